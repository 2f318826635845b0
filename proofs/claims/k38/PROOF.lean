import PyProof.Rows.All
import Wide.All
import OpenK.AllK
import Wide.FinOn
import HandS.ForMost
import HandS.Exc
import HandS.TryOnly
import HandS.ExcOwn
import HandS.WordsExc
import HandS.TryMany
import HandS.IsInst
import HandS.Property
import HandS.Wide
import HandS.SortInts
import HandS.Conv
import HandS.Evl
import HandS.NoneIn
import HandS.ExcIs
import HandS.ExcSuper
import KE.KExcSuper
import KE.KExcInit
import KE.GoesMore
import HandS.Rev
import HandS.FStr
import HandS.Walk
import HandS.WideMore
import HandS.TupAny
import HandS.TupMul
import HandS.Style
import HandS.SetFor
import HandS.Strs
import HandS.Defaults
import HandS.RaiseMore
import HandS.Zip
import PySem.Challenge.RW_resttricks_k38_texts
set_option Elab.async false
set_option linter.all false
set_option maxRecDepth 100000
set_option maxHeartbeats 2000000
namespace Rt
open PySem L2 PySem.Spec PyProof.Rows
/-! ### the text by places -/
def topS (i : Nat) : Stmt := PySem.Challenge.pw_resttricks_k38_texts.main.body.getD i (.Pass ⟨0, 0, 0, 0⟩)
abbrev s_is_integer : Stmt := topS 11
abbrev s_check_base : Stmt := topS 12
abbrev s_check_take : Stmt := topS 13
abbrev s_check_trick : Stmt := topS 17
abbrev s_write : Stmt := topS 19
abbrev s_read : Stmt := topS 20
abbrev s_possible_words : Stmt := topS 21
abbrev s_written : Stmt := topS 22
abbrev s__law_taken : Stmt := topS 24
abbrev s__law_power : Stmt := topS 25
abbrev s__law_trick : Stmt := topS 26
abbrev s__law_wrong : Stmt := topS 27
abbrev s__law_refused : Stmt := topS 28
abbrev s_law : Stmt := topS 29
abbrev s_InvalidText___init__ : Stmt := inClass (topS 6) 0
abbrev s_Trick___init__ : Stmt := inClass (topS 16) 0
abbrev s_Trick_base : Stmt := inClass (topS 16) 1
abbrev s_Trick_take : Stmt := inClass (topS 16) 2
abbrev s_Trick_times : Stmt := inClass (topS 16) 3
abbrev s_Trick___eq__ : Stmt := inClass (topS 16) 4
theorem sc_is_integer : FnScope ["told", "low", "high"] ["told", "low", "high"] (defScope s_is_integer) := ⟨rfl, rfl, rfl, by decide +kernel, rfl, by decide +kernel, by decide +kernel⟩
abbrev lv_is_integer : Nat := 1
theorem sc_check_base : FnScope ["base"] ["base"] (defScope s_check_base) := ⟨rfl, rfl, rfl, by decide +kernel, rfl, by decide +kernel, by decide +kernel⟩
abbrev lv_check_base : Nat := 2
theorem sc_check_take : FnScope ["take"] ["take"] (defScope s_check_take) := ⟨rfl, rfl, rfl, by decide +kernel, rfl, by decide +kernel, by decide +kernel⟩
abbrev lv_check_take : Nat := 2
theorem sc_check_trick : FnScope ["trick"] ["trick"] (defScope s_check_trick) := ⟨rfl, rfl, rfl, by decide +kernel, rfl, by decide +kernel, by decide +kernel⟩
abbrev lv_check_trick : Nat := 1
theorem sc_write : FnScope ["trick"] ["trick"] (defScope s_write) := ⟨rfl, rfl, rfl, by decide +kernel, rfl, by decide +kernel, by decide +kernel⟩
abbrev lv_write : Nat := 3
theorem sc_read : FnScope ["text", "words", "places", "place", "possible", "word"] ["text"] (defScope s_read) := ⟨rfl, rfl, rfl, by decide +kernel, rfl, by decide +kernel, by decide +kernel⟩
abbrev lv_read : Nat := 5
theorem sc_possible_words : FnScope [] [] (defScope s_possible_words) := ⟨rfl, rfl, rfl, by decide +kernel, rfl, by decide +kernel, by decide +kernel⟩
abbrev lv_possible_words : Nat := 2
theorem sc_written : FnScope ["low", "high", "n"] ["low", "high"] (defScope s_written) := ⟨rfl, rfl, rfl, by decide +kernel, rfl, by decide +kernel, by decide +kernel⟩
abbrev lv_written : Nat := 1
theorem sc__law_taken : FnScope ["_law_row", "_law_many", "_law_found", "_law_cell"] ["_law_row", "_law_many"] (defScope s__law_taken) := ⟨rfl, rfl, rfl, by decide +kernel, rfl, by decide +kernel, by decide +kernel⟩
abbrev lv__law_taken : Nat := 1
theorem sc__law_power : FnScope ["_law_base", "_law_many", "_law_found", "_law_turn"] ["_law_base", "_law_many"] (defScope s__law_power) := ⟨rfl, rfl, rfl, by decide +kernel, rfl, by decide +kernel, by decide +kernel⟩
abbrev lv__law_power : Nat := 1
theorem sc__law_trick : FnScope ["_law_row", "_law_small", "_law_base", "_law_take", "_law_times", "_law_d", "_law_some", "_law_one"] ["_law_row", "_law_small"] (defScope s__law_trick) := ⟨rfl, rfl, rfl, by decide +kernel, rfl, by decide +kernel, by decide +kernel⟩
abbrev lv__law_trick : Nat := 2
theorem sc__law_wrong : FnScope ["_law_words", "_law_lots", "_law_at", "_law_base", "_law_times"] ["_law_words"] (defScope s__law_wrong) := ⟨rfl, rfl, rfl, by decide +kernel, rfl, by decide +kernel, by decide +kernel⟩
abbrev lv__law_wrong : Nat := 1
theorem sc__law_refused : FnScope ["_law_text", "_law_found", "e"] ["_law_text"] (defScope s__law_refused) := ⟨rfl, rfl, rfl, by decide +kernel, rfl, by decide +kernel, by decide +kernel⟩
abbrev lv__law_refused : Nat := 6
theorem sc_law : FnScope ["_law_script", "_law_line", "_law_odd", "_law_turn", "_law_base", "_law_take", "_law_times", "_law_words", "_law_wide", "_law_k", "_law_at", "_law_kind", "_law_more", "_law_word"] ["_law_script"] (defScope s_law) := ⟨rfl, rfl, rfl, by decide +kernel, rfl, by decide +kernel, by decide +kernel⟩
abbrev lv_law : Nat := 8
theorem sc_Trick___init__ : FnScope ["self", "base", "take", "times"] ["self", "base", "take", "times"] (defScope s_Trick___init__) := ⟨rfl, rfl, rfl, by decide +kernel, rfl, by decide +kernel, by decide +kernel⟩
abbrev lv_Trick___init__ : Nat := 3
theorem sc_Trick_base : FnScope ["self"] ["self"] (defScope s_Trick_base) := ⟨rfl, rfl, rfl, by decide +kernel, rfl, by decide +kernel, by decide +kernel⟩
abbrev lv_Trick_base : Nat := 1
theorem sc_Trick_take : FnScope ["self"] ["self"] (defScope s_Trick_take) := ⟨rfl, rfl, rfl, by decide +kernel, rfl, by decide +kernel, by decide +kernel⟩
abbrev lv_Trick_take : Nat := 1
theorem sc_Trick_times : FnScope ["self"] ["self"] (defScope s_Trick_times) := ⟨rfl, rfl, rfl, by decide +kernel, rfl, by decide +kernel, by decide +kernel⟩
abbrev lv_Trick_times : Nat := 1
theorem sc_Trick___eq__ : FnScope ["self", "other"] ["self", "other"] (defScope s_Trick___eq__) := ⟨rfl, rfl, rfl, by decide +kernel, rfl, by decide +kernel, by decide +kernel⟩
abbrev lv_Trick___eq__ : Nat := 1
/-! ### what is known of the top behind its run -/
/-! ### an own error whose __init__ says super().__init__(text); self.F = F -/
end Rt
namespace ErrX
open PySem PySem.W PySem.Calls PyProof.Rows PySem.HandSPX
/-- what the written part says of such a class at C, its field F, its __init__ at fI -/
structure ErrTxt (P : Program) (K : Frag) (mg : Str → Option Value) (x fld : Str) (C fI : Addr) (ae : PySem.Expr) (st : Stmt) : Prop where
  gC : mg x = some (.ref C)
  cls : ∃ nm q N bs bm sn sub ab col dd k0 k1 k2 k3 k5, K.lookup C = some (excClassObj nm q C N bs bm true sn sub ab col dd k0 k1 k2 k3 k5 "ValueError.__new__") ∧ refsVE bm = true
  sa : findIn K (.ref C) "__setattr__" = some (some (.builtin "object.__setattr__"))
  ga : findIn K (.ref C) "__getattribute__" = some (some (.builtin "BaseException.__getattribute__"))
  gg : findIn K (.ref C) "__getattr__" = some none
  noF : findIn K (.ref C) fld = some none
  iC : findIn K (.ref C) "__init__" = some (some (.ref fI))
  tC : typeIn K (.ref fI) = some (.type "function")
  kC : keepIn K (.ref C) = true
  exC : subIn K (.ref C) (.type "BaseException") = some true
  tyC : typeIn K (.ref C) = some (.type "type")
  hdC : hasDictIn K C = true
  up : ks_superIn K C C "__init__" = some (some (.builtin "ValueError.__init__"))
  any : nsIn K cStatics "thirdparty.any" = some none
  ve : subIn K (.ref C) (.type "ValueError") = some true
  own : mroIn K C (.ref C) = some true
  sup : mg "super" = none
  main : (P.main.scope.names.lookup ("super" : Str)).isSome = false
  fn : ∃ (oc : Value) (od : Option Addr) (doc pm : Value) (an : Option Addr) (cda : Addr) (ct : Value) (osl : Array (Option Value)) (cc : Addr) (vs : Array Value) (file : Str) (tf : Tok) (ccl cl : Value) (cdd cld : Option Addr) (ccs csl : Array (Option Value)) (qual : Str),
    K.lookup fI = some ⟨oc, od, .func (ksFn "__init__" qual (L2.defArgs st) (L2.defBody st) (L2.defScope st) .none .none doc pm an (.ref cda) ct cc), osl⟩ ∧ codeIn K (.ref cda) qual = true ∧
    K.lookup cda = some ⟨ccl, cdd, .fields vs, ccs⟩ ∧ vs[2]? = some (.str file tf) ∧ ((P.main.file : Str) == file) = true ∧ K.lookup cc = some ⟨cl, cld, .cell (some (.ref C)), csl⟩
  text : ∃ (p0 p1 p2 p3 p4 q1 q2 q3 q4 a1 a2 : Pos), L2.defBody st = [.Expr (.Call (.Attribute (.Call (.Name "super" p0) [] [] p1) "__init__" p2) [ae] [] p3) p4, .Assign [.Attribute (.Name "self" q1) fld q2] (.Name fld q3) q4] ∧
    L2.defArgs st = { posonlyargs := [], args := [{ arg := "self", annotation := none, pos := a1 }, { arg := fld, annotation := none, pos := a2 }], vararg := none, kwonlyargs := [], kw_defaults := [], kwarg := none, defaults := [] } ∧
    ∀ env : Env, eval (.Call (.Attribute (.Call (.Name "super" p0) [] [] p1) "__init__" p2) [ae] [] p3) env = (do
      let ov ← attributeBase (.Call (.Name "super" p0) [] [] p1) "__init__" env (eval (.Call (.Name "super" p0) [] [] p1) env)
      standAt p2.atName
      let (f, first) ← holding [ov] (getMethod ov "__init__" (do return (← importBound (.Call (.Name "super" p0) [] [] p1) env).getD true))
      callWith p3 f first (backTo p3 (starEach [ae] env)) [])
  kS : (L2.defScope st).names.lookup ("super" : Str) = some .globalImplicit
  kK : (L2.defScope st).names.lookup ("__class__" : Str) = some .free
  k0 : (L2.defScope st).names.lookup ("self" : Str) = some .local
  kF : (L2.defScope st).names.lookup fld = some .local
  nF : (("self" : Str) == fld) = false
  nD : (fld == ("__debug__" : Str)) = false
  noCell : ∀ y ∈ (L2.defScope st).names, y.2 ≠ .cell
  bind : ∀ (qual : Str) (doc pm : Value) (an : Option Addr) (cda : Addr) (ct : Value) (cc : Addr) (u v : Value), bindArgs (ksFn "__init__" qual (L2.defArgs st) (L2.defBody st) (L2.defScope st) .none .none doc pm an (.ref cda) ct cc) ⟨[u, v], []⟩ = pure [(("self" : Str), u), (fld, v)]
  plain : ∀ env : Env, starEach (ae :: []) env = (false, eval ae env) :: starEach [] env
  knd : (L2.defScope st).kind = .function
  co : (L2.defScope st).isCoroutine = false
  gen : (L2.defScope st).isGenerator = false
/-- what __init__ leaves of a fresh error at x -/
structure EndOf (h h' : Heap) (x C dx t1 : Addr) (fld : Str) (v : Value) : Prop where
  keep : ∀ b o, b ≠ x → h.get? b = some o → h'.get? b = some o
  obj : h'.get? x = some { cls := .ref C, dict := some dx, data := .fields #[.ref t1, .none, .none, .none, .bool false, .none] }
  dbig : h.objs.size ≤ dx
  dne : dx ≠ x
  ns : h'.Ns1 dx (fun y => if y = fld then some v else none)
/-- the argument of super().__init__ is a text, whatever the field is -/
def ArgOk (prog : Program) (w : World) (ae : PySem.Expr) (fld : Str) (v : Value) : Prop := ∀ (env : Env) (m : Str → Option Value) (A : Around) (Q : Value → Shared → Prop) (E : Value → Shared → Prop) (s : Shared), s.heap.Ns env.locals m → m fld = some v → env.scope.kind = .function → env.kindOf fld = some .local →
  (∀ z t tk, Q (.str z t) { s with toks := tk }) → wpAny (model prog w) A (eval ae env) Q E s
theorem argOk_const {prog : Program} {w : World} {ae : PySem.Expr} {fld : Str} {v : Value} {z : Str} {k : Nat} {pos : Pos} (h : ae = .Constant (.str z) k pos) : ArgOk prog w ae fld v := by
  intro env m A Q E s _ _ _ _ hq
  rw [h]
  exact wpAny_Constant_str (hq _ _ _)
/-- None, or an int whose text is short -/
def NoneInt (v : L2.V) : Prop := v = .non ∨ ∃ i : Int, v = .int i ∧ i.natAbs.log2 < 1920
theorem argOk_f {prog : Program} {w : World} {ae : PySem.Expr} {fld : Str} {v : L2.V} {u : Value} {z : Str} {k : Nat} {p1 p2 p3 p4 : Pos} (n : NoneInt v) (r : L2.RelV v u)
    (h : ae = .JoinedStr [.Constant (.str z) k p1, .FormattedValue (.Name fld p2) (-1) none p3] p4 := by rfl) (hz : z.length ≤ 1000 := by decide) (hd : (fld == ("__debug__" : Str)) = false := by decide) : ArgOk prog w ae fld u := by
  intro env m A Q E s hn hv hk hl hq
  rw [h]
  have e0 : evalEach [.Constant (.str z) k p1, .FormattedValue (.Name fld p2) (-1) none p3] env = [eval (.Constant (.str z) k p1) env, eval (.FormattedValue (.Name fld p2) (-1) none p3) env] := by first | rfl | simp [evalEach]
  refine wpAny_JoinedStr ?_
  rw [e0]
  refine wpAny_Constant_str ?_
  have l0 : (Str.empty ++ z).length ≤ 1000 := by
    rw [Str.length_append]
    exact Nat.le_trans (Nat.le_of_eq (Nat.zero_add _)) hz
  refine ⟨z, _, rfl, Nat.le_trans l0 (by rw [sizeLine_eq]; decide), ?_⟩
  refine wpAny_FormattedValue_plain (wpAny_Name (wpAny_loadName_local hk hl hn hv ?_) hd)
  rcases n with rfl | ⟨i, rfl, hi⟩
  · cases r
    refine wpAny_formatField_none ⟨"None", _, rfl, ?_, ?_⟩
    · rw [Str.length_append, sizeLine_eq]
      have e : ("None" : Str).length = 4 := by decide
      omega
    · refine ⟨?_, hq _ _ _⟩
      rw [Str.length_append, sizeLine_eq]
      have e : ("None" : Str).length = 4 := by decide
      omega
  · obtain ⟨t, rfl⟩ := r
    refine wpAny_formatField_int hi ⟨_, _, rfl, ?_, ?_⟩
    · rw [Str.length_append, sizeLine_eq]
      have e := int_text_length_le (k := 1920) (by decide) hi
      have e2 : (Str.ofString (toString i)).length = (toString i).length := PySem.ofString_length _
      omega
    · refine ⟨?_, hq _ _ _⟩
      rw [Str.length_append, sizeLine_eq]
      have e := int_text_length_le (k := 1920) (by decide) hi
      have e2 : (Str.ofString (toString i)).length = (toString i).length := PySem.ofString_length _
      omega
/-- the argument of super().__init__ in the text of an __init__ -/
def aeOf (st : Stmt) : PySem.Expr := match L2.defBody st with
  | .Expr (.Call _ (a :: _) _ _) _ :: _ => a
  | _ => .Name "self" ⟨0, 0, 0, 0⟩
section
variable {prog : Program} {w : World} {A : Around} {E : Value → Shared → Prop} {hp : Heap} {g : Array GenState} {d : Drawn} {tk : Nat} {os : OsState}
/-- the bound __init__ of the base, called: the args are laid anew -/
theorem base_init {nm q : Str} {C N u e t0 : Addr} {bs bm : List Value} {sn : List Str} {sub : List Value} {ab : Bool} {col : Option Bool} {dd : Option Addr} {k0 k1 k2 k3 k5 : Option Value} {rest : List Value} {Q : Value → Shared → Prop}
    (hC : hp.get? C = some (excClassObj nm q C N bs bm true sn sub ab col dd k0 k1 k2 k3 k5 "ValueError.__new__")) (he : hp.get? e = some (excO C t0)) (hu : hp.get? u = some (kxs_mw "ValueError.__init__" e)) (hz : rest.length ≤ sizeLine)
    (k : ∀ h' t1, (∀ b o, b ≠ e → hp.get? b = some o → h'.get? b = some o) → h'.get? e = some (excO C t1) → Q .none ⟨h', g, d, tk, os⟩) : wpAny (model prog w) A (call (.ref u) rest) Q E ⟨hp, g, d, tk, os⟩ := by
  refine wpAny_call (codeAny_of_tree ?_)
  show wpAny _ A.in1 (callAny (.ref u) { pos := rest }) _ _ _
  unfold callAny
  refine wpAny_bind (wpAny_load hu ?_)
  have c1 : (Value.type "method-wrapper" == Value.type "method" || Value.type "method-wrapper" == Value.type "builtin_function_or_method" ||
    Value.type "method-wrapper" == Value.type "method-wrapper") = true := by decide
  simp only [kxs_mw, c1, if_true]
  refine KFB.if_so (by decide) (wpAny_bind (ESX.check_bound F.excBase_ValueError hC he rfl (wpAny_bind (wpAny_pure (wpAny_pure ?_)))))
  have FB := F.excBase_ValueError
  refine ⟨plainId_quiet FB.init.plain _, codeAny_builtin FB.initEntry ?_⟩
  rw [Around.under_plainId FB.init.plain _]
  wp_walk
  refine k _ hp.objs.size (fun b o n z => ?_) ?_
  · rw [Heap.get?_update_other _ _ (Ne.symm n)]
    exact Heap.get?_push_of_some _ z
  · rw [Heap.get?_update_self _ (Heap.get?_push_of_some _ he) rfl]
    rfl
theorem call_bound1 {M : Model} {s : Shared} {pos : Pos} {u b : Addr} {env : Env} {ae : PySem.Expr} {i : String} {Q : Value → Shared → Prop} (hpl : starEach (ae :: []) env = (false, eval ae env) :: starEach [] env)
    (h : wpAny M A (eval ae env) (fun v s₁ => KxsAt i u b s₁.heap ∧ wpAny M A (call (.ref u) [v]) Q E s₁) E s) : wpAny M A (callWith pos (.ref u) [] (backTo pos (starEach [ae] env)) []) Q E s := by
  have q : wpAny M A (spliced (backTo pos (starEach (ae :: []) env))) (fun vs s₁ => KxsAt i u b s₁.heap ∧ wpAny M A (call (.ref u) vs) Q E s₁) E s := args_cons (he := hpl) (wpAny_mono h (fun v s₁ z => wpAny_of_eq rfl z) fun _ _ z => z)
  rw [hpl] at q ⊢
  exact kxs_callWith (x := b) rfl (evalArgs_plain q)
theorem err_init {R : Result → Shared → Prop} {K : Frag} {mg mb : Str → Option Value} {x fld : Str} {C fI e t0 : Addr} {ae : PySem.Expr} {st : Stmt} {v : Value} (T : ErrTxt prog K mg x fld C fI ae st) (hA : ArgOk prog w ae fld v)
    (X : K.In hp) (hlim : hp.NoLimit) (hg : hp.Ns mainGlobals mg) (hb : hp.Ns builtinsNs mb) (hbb : ∀ y : Str, y ≠ "__name__" → mb y = bootBuiltins y) (he : hp.get? e = some (excO C t0)) (hne : K.lookup e = none) (hroom : A.depth < recursionLimit)
    (hq : ∀ h' tk dx t1, EndOf hp h' e C dx t1 fld v → R (.ok (.ret .none)) ⟨h', g, d, tk, os⟩) : codeAny (model prog w) A (.call (.ref fI) ⟨[.ref e, v], []⟩) R ⟨hp, g, d, tk, os⟩ := by
  obtain ⟨oc, od, doc, pm, an, cda, ct, osl, cc, vs, file, tf, ccl, cl, cdd, cld, ccs, csl, qual, lf, lc, lda, lvs, lfile, lcc⟩ := T.fn
  obtain ⟨p0, p1, p2, p3, p4, q1, q2, q3, q4, a1, a2, hB, hArgs, hcallE⟩ := T.text
  obtain ⟨nm, qn, N, bs, bm, sn, sub, ab, col, dd, k0, k1, k2, k3, k5, lC, hbm⟩ := T.cls
  have hcl : clsIn K C = some { name := nm, bases := bs, mro := .ref C :: bm, ns := N, qualname := qn, hasDict := true, slotNames := sn, subclasses := sub, abstract := ab, collection := col, hasDel := false } := by
    unfold clsIn
    rw [lC]
    all_goals rfl
  have hbind := T.bind qual doc pm an cda ct cc (.ref e) v
  rw [hB, hArgs] at lf hbind
  have neC : e ≠ C := fun z => by
    rw [z, lC] at hne
    cases hne
  refine ks_codeAny_call_defAt (binds := [("self", .ref e), (fld, v)]) hroom (X _ _ lf) rfl hlim (codeRec_of X lc) rfl (BindsTo.of_eq hbind) T.noCell ?_ (fun h1 hns keep => ?_) T.co T.gen T.knd
  · intro y hy
    rcases List.mem_cons.mp hy with z | hy
    · rw [z]; exact T.k0
    · rcases List.mem_cons.mp hy with z | hy
      · rw [z]; exact T.kF
      · cases hy
  have hint : ∀ env : Env, env.scope = L2.defScope st → interactive env = false := fun env z => by
    unfold interactive
    rw [z, T.knd]
    rfl
  have X1 : K.In h1 := X.keeps keep
  have he1 := keep _ _ he
  have m0 : ([("self", Value.ref e), (fld, v)] : List (Str × Value)).reverse.lookup ("self" : Str) = some (.ref e) := by
    show List.lookup ("self" : Str) [(fld, v), (("self" : Str), Value.ref e)] = some (.ref e)
    rw [List.lookup_cons, T.nF]
    rfl
  have mF : ([("self", Value.ref e), (fld, v)] : List (Str × Value)).reverse.lookup fld = some v := by
    show List.lookup fld [(fld, v), (("self" : Str), Value.ref e)] = some v
    rw [List.lookup_cons, beq_self_eq_true]
  obtain ⟨oD, hD1, hD2⟩ : ∃ oD : Obj, h1.get? C = some oD ∧ oD.data = .cls { name := nm, bases := bs, mro := .ref C :: bm, ns := N, qualname := qn, hasDict := true, slotNames := sn, subclasses := sub, abstract := ab, collection := col, hasDel := false } := ⟨_, X1 _ _ lC, rfl⟩
  refine ks_wpAt_execs_cons (ks_wpAt_Expr_any (hi := hint _ rfl) (ks_wpAt_MethodCall (he := hcallE _) (ks_wpAt_super_base T.kS T.kK (by decide) rfl (X1 _ _ lf) rfl rfl rfl (X1 _ _ lda) rfl lvs lfile T.main ?_)))
  refine ks_loadName_global T.knd T.kS (Calls.loadGlobal_builtin (hg.keeps keep) T.sup (hb.keeps keep) ((hbb _ (by decide +kernel)).trans (show bootBuiltins "super" = some (.type "super") by kernel_rfl)) ⟨rfl, ?_⟩)
  refine wpAny_loadName_free T.knd T.kK rfl ⟨_, X1 _ _ lcc, rfl⟩ ?_
  refine wpAny_loadName_local T.knd T.k0 hns m0 ?_
  refine ks_wpAny_isType_cls hD1 hD2 ⟨rfl, ?_⟩
  refine ks_wpAny_call_super hD1 hD2 he1 rfl (fun c z => by cases z) (looks_mroIn X1 T.own) (fun h2 hso k2 => ?_)
  have X2 : K.In h2 := X1.keeps k2
  have he2 := k2 _ _ he1
  have hup : alongIn K "__init__" (List.drop 1 (List.dropWhile (fun (z : Value) => z != Value.ref C) (.ref C :: bm))) = some (some (.builtin "ValueError.__init__")) := by
    have z := T.up
    unfold ks_superIn at z
    rw [hcl] at z
    exact z
  have I2 : InstAt h2 e (excO C t0) C none := ⟨he2, rfl, rfl, trivial⟩
  refine kxs_getMethod kxs_ValueError hso (looks_opaque X2 T.any) (l₀ := .ref C :: bm) (fun A Q E s k q => wpAny_bind ((looks_clsIn X2 hcl) A _ E s k (wpAny_pure q))) rfl X2 hup (I2.type.andThen (looks_subIn X2 T.ve)) neC (by decide) ?_
  have k3 : ∀ b o, h2.get? b = some o → (h2.push (kxs_mw "ValueError.__init__" e)).get? b = some o := fun b o z => Heap.get?_push_of_some _ z
  have k13 : ∀ b o, h1.get? b = some o → (h2.push (kxs_mw "ValueError.__init__" e)).get? b = some o := fun b o z => k3 _ _ (k2 _ _ z)
  have hn3 := hns.keeps k13
  refine call_bound1 (i := "ValueError.__init__") (b := e) (T.plain _) ?_
  refine hA _ _ _ _ _ _ hn3 mF T.knd T.kF fun z t tk => ⟨Heap.get?_push_at rfl rfl, ?_⟩
  refine base_init (X2.keeps k3 _ _ lC) (k3 _ _ he2) (Heap.get?_push_at rfl rfl) (by rw [sizeLine_eq]; exact Nat.le_of_ble_eq_true rfl) fun h4 t1 k4 he4 => ?_
  have X4 : K.In h4 := fun b o z => k4 _ _ (fun y => by rw [y, hne] at z; cases z) (X2.keeps k3 b o z)
  have hLe : hp.objs.size ≠ e := Nat.ne_of_gt (Heap.lt_size he)
  have hn4 : h4.Ns hp.objs.size (fun y => List.lookup y ([(("self" : Str), Value.ref e), (fld, v)] : List (Str × Value)).reverse) := by
    obtain ⟨oL, es, ep, hL, r⟩ := hn3
    exact ⟨oL, es, ep, k4 _ _ hLe hL, r⟩
  -- self.F = F
  refine wpAt_of_wpAny (wpAny_execs_cons (plainObj_wpAny_Assign_Attribute ?_))
  refine ESX.ldL hn4 mF (ESX.ldL hn4 m0 ?_ T.knd T.k0) T.knd T.kF T.nD
  refine set_plain X4 (ox := excO C t1) (od := none) ⟨he4, rfl, rfl, trivial⟩ T.sa ?_
  refine exc_osa X4 he4 hcl (show refsVE (.ref C :: bm) = true from hbm) rfl T.noF (fun h5 tk5 dx k5' dn dne he5 hn5 => ?_)
  have z : hp.objs.size ≤ dx := Nat.le_trans (Nat.le_of_lt (Nat.lt_of_lt_of_le hn4.lt (Nat.le_refl _))) dn
  exact wpAny_execs_nil (hq h5 tk5 dx t1 ⟨fun b o hbe y => k5' b o hbe (k4 b o hbe (k3 b o (k2 b o (keep b o y)))), he5, z, dne, hn5⟩)
/-- a made error -/
structure Made (h h' : Heap) (e C d : Addr) (fld : Str) (v : Value) : Prop where
  keep : ∀ b o, h.get? b = some o → h'.get? b = some o
  new : h.objs.size ≤ e
  obj : ∃ oe vs, h'.get? e = some oe ∧ oe.cls = .ref C ∧ oe.dict = some d ∧ oe.data = .fields vs ∧ vs[1]? = some .none
  dbig : h.objs.size ≤ d
  dne : d ≠ e
  ns : h'.Ns1 d (fun y => if y = fld then some v else none)
theorem err_made {R : Result → Shared → Prop} {K : Frag} {mg mb : Str → Option Value} {x fld : Str} {C fI : Addr} {ae : PySem.Expr} {st : Stmt} {v : Value} (T : ErrTxt prog K mg x fld C fI ae st) (hA : ArgOk prog w ae fld v)
    (X : K.In hp) (hlim : hp.NoLimit) (hg : hp.Ns mainGlobals mg) (hb : hp.Ns builtinsNs mb) (hbb : ∀ y : Str, y ≠ "__name__" → mb y = bootBuiltins y) (hroom : A.depth + 1 < recursionLimit)
    (hq : ∀ h' tk e dx, Made hp h' e C dx fld v → R (.ok (.ret (.ref e))) ⟨h', g, d, tk, os⟩) : codeAny (model prog w) A (.call (.ref C) ⟨[v], []⟩) R ⟨hp, g, d, tk, os⟩ := by
  obtain ⟨nm, qn, N, bs, bm, sn, sub, ab, col, dd, k0, k1, k2, k3, k5, lC, hbm⟩ := T.cls
  have k : ∀ b o, hp.get? b = some o → ((hp.push (kdv_tup [v])).push (excO C hp.objs.size)).get? b = some o := fun b o z => Heap.get?_push_of_some _ (Heap.get?_push_of_some _ z)
  have hget : ((hp.push (kdv_tup [v])).push (excO C hp.objs.size)).get? (hp.objs.size + 1) = some (excO C hp.objs.size) := by heap_get
  have hnx : K.lookup (hp.objs.size + 1) = none := by
    cases z : K.lookup (hp.objs.size + 1) with
    | none => rfl
    | some o => exact absurd (Nat.lt_of_succ_lt (Heap.lt_size (X _ _ z))) (Nat.lt_irrefl _)
  refine call_own F.excBase_ValueError (fun X => refsVE_contains X bm hbm) (X _ _ lC) (looks_findIn X T.iC) (fun self => bind_fn X self T.tC) (by rw [sizeLine_eq]; exact Nat.le_of_ble_eq_true rfl) ?_
  refine err_init T hA (X.keeps k) (hlim.keeps k) (hg.keeps k) (hb.keeps k) hbb hget hnx ?_ fun h' tk' dx t1 M => ?_
  · show A.depth + 1 < recursionLimit
    exact hroom
  · have old : ∀ b o, hp.get? b = some o → h'.get? b = some o := fun b o z => M.keep b o (Nat.ne_of_lt (Nat.lt_succ_of_lt (Heap.lt_size z))) (k b o z)
    have z : hp.objs.size + 1 + 1 ≤ dx := by
      have q := M.dbig
      rw [Heap.size_push, Heap.size_push] at q
      exact q
    exact ⟨rfl, hq h' tk' (hp.objs.size + 1) dx ⟨old, Nat.le_succ _, ⟨_, _, M.obj, rfl, rfl, rfl, rfl⟩, Nat.le_trans (Nat.le_trans (Nat.le_succ _) (Nat.le_succ _)) z, M.dne, M.ns⟩⟩
end
end ErrX
namespace L2
open PySem PySem.Spec PyProof.Rows ErrX
theorem relO_fld {v : V} {v' : Value} (fld : Str) (r : RelV v v') (f : Str) : RelO (List.lookup f [(fld, v)]) (if f = fld then some v' else none) := by
  by_cases hw : f = fld
  · subst hw
    rw [if_pos rfl]
    have q : List.lookup f [(f, v)] = some v := by simp [List.lookup]
    rw [q]
    exact r
  · rw [if_neg hw]
    have qw : (f == fld) = false := by simpa using hw
    have q2 : List.lookup f [(fld, v)] = none := by simp [List.lookup, qw]
    rw [q2]
    trivial
section
variable {X : Cx} {C fI : Addr} {x fld : Str} {ae : PySem.Expr} {st : Stmt}
/-- Bad(e) -/
def tMkErr (C : Addr) (fld : Str) (ok : V → Prop) (ta : TA) : L2.St → Hp → XK → Prop := fun σ H Q => ta σ H fun vs H1 => ∃ v, vs = [v] ∧ ok v ∧ ∀ d, H1 d = none → Q (.ref C) (some d) (upd H1 d (.xd [(fld, v)]))
theorem pmk_err {ok : V → Prop} {a : PySem.Expr} {ta : TA} {p pos : Pos} {k : Nat} (T : ErrTxt X.prog X.K X.mg x fld C fI ae st) (hA : ∀ v u, ok v → RelV v u → ArgOk X.prog X.w ae fld u) (hr : Room k X.A) (ha : PA X [a] ta) (hg : Gl X x) (hdb : (x == ("__debug__" : Str)) = false)
    (he : starEach (a :: []) X.env = (false, eval a X.env) :: starEach [] X.env) (hpl : (backTo pos (starEach [] X.env)).any (·.1) = false) :
    PMk X (.Call (.Name x p) [a] [] pos) (tMkErr C fld ok ta) := by
  intro pins s σ H Q I h
  refine wpAny_Call_Name_kw (ld_glob I hg T.gC ?_ hdb)
  refine PySem.W.callWith_K (h₀ := X.base) I.ok.mod.kin T.kC (thn (ha.run pos pins s σ H _ I h) fun us s1 hh => ?_) he hpl
  obtain ⟨vs, H1, I1, r1, v, ev, okv, q1⟩ := hh
  subst ev
  refine ⟨I1.kIn, ?_⟩
  cases r1 with
  | cons rv rn =>
    rename_i v' us'
    cases rn
    show wpAny _ _ (call (.ref C) [v']) _ _ _
    have hlim := I1.nolimit
    obtain ⟨mb, hb1, hb2⟩ := I1.mod.blt
    have hgN := I1.mod.glob.keeps I1.bk
    have hbN := hb1.keeps I1.bk
    obtain ⟨hp, g, dr, tk, os⟩ := s1
    refine wpAny_call (err_made T (hA v v' okv rv) I1.kIn hlim hgN hbN hb2 (by have := hr.dp; omega) fun h' tk' e d M => ?_)
    show MkP X pins σ Q (.ref e) ⟨h', g, dr, tk', os⟩
    obtain ⟨oe, fv, hoe, hc, hd, hdat, h1⟩ := M.obj
    have hns := M.ns
    obtain ⟨G', g1, g2⟩ := restrict h' fun b => decide (b ≠ e)
    have gk : ∀ b, b ≠ e → G'.get? b = h'.get? b := fun b hb => g1 b (decide_eq_true hb)
    have ge : G'.get? e = none := g2 e (by simp)
    have old : ∀ b o, hp.get? b = some o → G'.get? b = some o := fun b o q => (gk b (Nat.ne_of_lt (Nat.lt_of_lt_of_le (Heap.lt_size q) M.new))).trans (M.keep b o q)
    have ob : ObjOk X.prog X.w (upd H1 d (.xd [(fld, v)])) G' d (.xd [(fld, v)]) := ⟨_, hns.at (fun o q => (gk d M.dne).trans q), fun f => relO_fld fld rv f⟩
    have J : Inv X pins σ (upd H1 d (.xd [(fld, v)])) ⟨G', g, dr, tk', os⟩ := I1.laid (t' := tk') old M.dbig ob
    refine ⟨e, oe, fv, ⟨G', g, dr, tk', os⟩, _, .ref C, some d, rfl, J, fun b o q => ?_, ge, hoe, ⟨hc, hd⟩, hdat, h1, ?_, rfl, I1.bare, raises_own T.exC T.tyC, q1 d (I1.hok.fresh M.dbig)⟩
    · by_cases hb : b = e
      · have q' : G'.get? b = some o := q
        rw [hb, ge] at q'
        cases q'
      · exact (gk b hb).symm.trans q
    · rw [upd_ne (Ne.symm M.dne)]
      exact I1.hok.fresh M.new
/-- raise Bad(e) -/
def tRaiseF (C : Addr) (fld : Str) (ok : V → Prop) (W : WX) (ta : TA) : TS := fun _ σ H => tMkErr C fld ok ta σ H fun cls d H' => W cls d σ H'
theorem ps_raiseF {ok : V → Prop} {a : PySem.Expr} {ta : TA} {W : WX} {p pos pos2 : Pos} {k : Nat} (T : ErrTxt X.prog X.K X.mg x fld C fI ae st) (hA : ∀ v u, ok v → RelV v u → ArgOk X.prog X.w ae fld u) (hc : X.calm = true) (hr : Room k X.A) (tk : Takes X W) (ha : PA X [a] ta) (hg : Gl X x := by rfl)
    (hdb : (x == ("__debug__" : Str)) = false := by decide) (he : starEach (a :: []) X.env = (false, eval a X.env) :: starEach [] X.env := by rfl) (hpl : (backTo pos (starEach [] X.env)).any (·.1) = false := by rfl) :
    PS X (.Raise (some (.Call (.Name x p) [a] [] pos)) none pos2) (tRaiseF C fld ok W ta) := ps_raise hc tk (pmk_err T hA hr ha hg hdb he hpl)
/-- e.F, e the error that the suite holds (at a; its class cls, its dict d) -/
def tErrF (C : Addr) (fld : Str) (a : Addr) (cls : Value) (d : Option Addr) (te : TE) : TE := fun σ H Q => te σ H fun y H1 => y = .ref a ∧ cls = .ref C ∧ ∃ (dd : Addr) (v : V), d = some dd ∧ H1 dd = some (.xd [(fld, v)]) ∧ Q v H1
theorem pe_errF {P : Program} {a : Addr} {oe : Obj} {cls : Value} {d : Option Addr} {pn : List (Addr × Obj)} {e : PySem.Expr} {te : TE} {pos : Pos} (T : ErrTxt P X.K X.mg x fld C fI ae st) (hz : Zc cls d oe) (hf : ∃ vs, oe.data = .fields vs) (he : PE (X.suite a ((a, oe) :: pn)) e te)
    (hb : attributeBase e fld X.env (eval e X.env) = eval e X.env := by rfl) : PE (X.suite a ((a, oe) :: pn)) (.Attribute e fld pos) (tErrF C fld a cls d te) := by
  refine ⟨fun pins s σ H Q I h => ?_⟩
  refine attr_of hb (thn (he.run pins s σ H _ I h) fun u s1 hh => ?_)
  obtain ⟨y, H1, I1, rx, ex, ec, dd, v, ed, ea, q⟩ := hh
  subst ex
  obtain rfl : u = Value.ref a := rx
  subst ec
  subst ed
  obtain ⟨ha, _⟩ := I1.pin (a, oe) (List.mem_append_left _ List.mem_cons_self)
  obtain ⟨vs, hd⟩ := hf
  have hx : ObjOk X.prog X.w H1 s1.heap dd (.xd [(fld, v)]) := I1.hok dd _ ea
  obtain ⟨mA, hns, hr⟩ := hx
  obtain ⟨od, ho, hl⟩ := lookIn_ns hns
  have l : List.lookup fld [(fld, v)] = some v := by simp [List.lookup]
  obtain ⟨u, hu, ru⟩ := RelO.some_of (v := v) (o := mA fld) (by rw [← l]; exact hr fld)
  have J : PySem.W.InstAt s1.heap a oe C (some od) := ⟨ha, hz.1, by unfold PySem.W.notCls; rw [hd] <;> rfl, by rw [hz.2]; exact ho⟩
  exact HandSPX.exc_get I1.kIn J T.ga T.gg T.exC (PySem.W.findObj_own T.hdC T.noF rfl (by rw [hl, hu])) (handed_of ru) ⟨v, H1, I1.tok _, ru, q⟩
end
end L2
namespace Rt
open PySem L2 PySem.Spec PyProof.Rows

structure Tx (P : Program) (K : PySem.W.Frag) (mg : Str → Option Value) : Type where
  C_TrickError : Addr
  g_TrickError : mg "TrickError" = some (.ref C_TrickError)
  x_TrickError : PySem.W.excIn K C_TrickError [.type "ValueError", .type "Exception", .type "BaseException", .type "object"] "ValueError.__new__" = true
  k_TrickError : PySem.W.keepIn K (.ref C_TrickError) = true
  s_TrickError : PySem.W.subIn K (.ref C_TrickError) (.type "BaseException") = some true
  t_TrickError : PySem.W.typeIn K (.ref C_TrickError) = some (.type "type")
  C_BadBase : Addr
  g_BadBase : mg "BadBase" = some (.ref C_BadBase)
  x_BadBase : PySem.W.excIn K C_BadBase [.type "ValueError", .type "Exception", .type "BaseException", .type "object"] "ValueError.__new__" = true
  k_BadBase : PySem.W.keepIn K (.ref C_BadBase) = true
  s_BadBase : PySem.W.subIn K (.ref C_BadBase) (.type "BaseException") = some true
  t_BadBase : PySem.W.typeIn K (.ref C_BadBase) = some (.type "type")
  C_BadTake : Addr
  g_BadTake : mg "BadTake" = some (.ref C_BadTake)
  x_BadTake : PySem.W.excIn K C_BadTake [.type "ValueError", .type "Exception", .type "BaseException", .type "object"] "ValueError.__new__" = true
  k_BadTake : PySem.W.keepIn K (.ref C_BadTake) = true
  s_BadTake : PySem.W.subIn K (.ref C_BadTake) (.type "BaseException") = some true
  t_BadTake : PySem.W.typeIn K (.ref C_BadTake) = some (.type "type")
  C_BadTimes : Addr
  g_BadTimes : mg "BadTimes" = some (.ref C_BadTimes)
  x_BadTimes : PySem.W.excIn K C_BadTimes [.type "ValueError", .type "Exception", .type "BaseException", .type "object"] "ValueError.__new__" = true
  k_BadTimes : PySem.W.keepIn K (.ref C_BadTimes) = true
  s_BadTimes : PySem.W.subIn K (.ref C_BadTimes) (.type "BaseException") = some true
  t_BadTimes : PySem.W.typeIn K (.ref C_BadTimes) = some (.type "type")
  C_BadTrick : Addr
  g_BadTrick : mg "BadTrick" = some (.ref C_BadTrick)
  x_BadTrick : PySem.W.excIn K C_BadTrick [.type "ValueError", .type "Exception", .type "BaseException", .type "object"] "ValueError.__new__" = true
  k_BadTrick : PySem.W.keepIn K (.ref C_BadTrick) = true
  s_BadTrick : PySem.W.subIn K (.ref C_BadTrick) (.type "BaseException") = some true
  t_BadTrick : PySem.W.typeIn K (.ref C_BadTrick) = some (.type "type")
  C_InvalidText : Addr
  g_InvalidText : mg "InvalidText" = some (.ref C_InvalidText)
  k_InvalidText : PySem.W.keepIn K (.ref C_InvalidText) = true
  s_InvalidText : PySem.W.subIn K (.ref C_InvalidText) (.type "BaseException") = some true
  t_InvalidText : PySem.W.typeIn K (.ref C_InvalidText) = some (.type "type")
  hd_InvalidText : PySem.W.hasDictIn K C_InvalidText = true
  xm_TrickError_InvalidText : PySem.W.exmOne K (.ref C_TrickError) (.ref C_InvalidText) = some false
  xm_BadBase_InvalidText : PySem.W.exmOne K (.ref C_BadBase) (.ref C_InvalidText) = some false
  xm_BadTake_InvalidText : PySem.W.exmOne K (.ref C_BadTake) (.ref C_InvalidText) = some false
  xm_BadTimes_InvalidText : PySem.W.exmOne K (.ref C_BadTimes) (.ref C_InvalidText) = some false
  xm_BadTrick_InvalidText : PySem.W.exmOne K (.ref C_BadTrick) (.ref C_InvalidText) = some false
  xm_InvalidText_InvalidText : PySem.W.exmOne K (.ref C_InvalidText) (.ref C_InvalidText) = some true
  t_c_LEAST_BASE : Tok
  c_LEAST_BASE : mg "LEAST_BASE" = some (.int 2 t_c_LEAST_BASE)
  t_c_GREATEST_BASE : Tok
  c_GREATEST_BASE : mg "GREATEST_BASE" = some (.int 16 t_c_GREATEST_BASE)
  t_c_GREATEST_TAKE : Tok
  c_GREATEST_TAKE : mg "GREATEST_TAKE" = some (.int 2 t_c_GREATEST_TAKE)
  t_c_GREATEST_TIMES : Tok
  c_GREATEST_TIMES : mg "GREATEST_TIMES" = some (.int 100 t_c_GREATEST_TIMES)
  a_is_integer : Addr
  d_is_integer : FuncData
  F_is_integer : Fun K "is_integer" "is_integer" s_is_integer a_is_integer d_is_integer
  b_is_integer : Binds K d_is_integer ["told", "low", "high"] []
  g_is_integer : mg "is_integer" = some (.ref a_is_integer)
  a_check_base : Addr
  d_check_base : FuncData
  F_check_base : Fun K "check_base" "check_base" s_check_base a_check_base d_check_base
  b_check_base : Binds K d_check_base ["base"] []
  g_check_base : mg "check_base" = some (.ref a_check_base)
  a_check_take : Addr
  d_check_take : FuncData
  F_check_take : Fun K "check_take" "check_take" s_check_take a_check_take d_check_take
  b_check_take : Binds K d_check_take ["take"] []
  g_check_take : mg "check_take" = some (.ref a_check_take)
  a_check_trick : Addr
  d_check_trick : FuncData
  F_check_trick : Fun K "check_trick" "check_trick" s_check_trick a_check_trick d_check_trick
  b_check_trick : Binds K d_check_trick ["trick"] []
  g_check_trick : mg "check_trick" = some (.ref a_check_trick)
  a_write : Addr
  d_write : FuncData
  F_write : Fun K "write" "write" s_write a_write d_write
  b_write : Binds K d_write ["trick"] []
  g_write : mg "write" = some (.ref a_write)
  a_read : Addr
  d_read : FuncData
  F_read : Fun K "read" "read" s_read a_read d_read
  b_read : Binds K d_read ["text"] []
  g_read : mg "read" = some (.ref a_read)
  a_possible_words : Addr
  d_possible_words : FuncData
  F_possible_words : Fun K "possible_words" "possible_words" s_possible_words a_possible_words d_possible_words
  b_possible_words : Binds K d_possible_words [] []
  g_possible_words : mg "possible_words" = some (.ref a_possible_words)
  a_written : Addr
  d_written : FuncData
  F_written : Fun K "written" "written" s_written a_written d_written
  b_written : Binds K d_written ["low", "high"] []
  g_written : mg "written" = some (.ref a_written)
  a__law_taken : Addr
  d__law_taken : FuncData
  F__law_taken : Fun K "_law_taken" "_law_taken" s__law_taken a__law_taken d__law_taken
  b__law_taken : Binds K d__law_taken ["_law_row", "_law_many"] []
  g__law_taken : mg "_law_taken" = some (.ref a__law_taken)
  a__law_power : Addr
  d__law_power : FuncData
  F__law_power : Fun K "_law_power" "_law_power" s__law_power a__law_power d__law_power
  b__law_power : Binds K d__law_power ["_law_base", "_law_many"] []
  g__law_power : mg "_law_power" = some (.ref a__law_power)
  a__law_trick : Addr
  d__law_trick : FuncData
  F__law_trick : Fun K "_law_trick" "_law_trick" s__law_trick a__law_trick d__law_trick
  b__law_trick : Binds K d__law_trick ["_law_row", "_law_small"] []
  g__law_trick : mg "_law_trick" = some (.ref a__law_trick)
  a__law_wrong : Addr
  d__law_wrong : FuncData
  F__law_wrong : Fun K "_law_wrong" "_law_wrong" s__law_wrong a__law_wrong d__law_wrong
  b__law_wrong : Binds K d__law_wrong ["_law_words"] []
  g__law_wrong : mg "_law_wrong" = some (.ref a__law_wrong)
  a__law_refused : Addr
  d__law_refused : FuncData
  F__law_refused : Fun K "_law_refused" "_law_refused" s__law_refused a__law_refused d__law_refused
  b__law_refused : Binds K d__law_refused ["_law_text"] []
  g__law_refused : mg "_law_refused" = some (.ref a__law_refused)
  a_law : Addr
  d_law : FuncData
  F_law : Fun K "law" "law" s_law a_law d_law
  b_law : Binds K d_law ["_law_script"] []
  g_law : mg "law" = some (.ref a_law)
  C_Trick : Addr
  cl_Trick : Cls K C_Trick
  g_Trick : mg "Trick" = some (.ref C_Trick)
  kc_Trick : PySem.W.keepIn K (.ref C_Trick) = true
  ins_Trick : ∀ (H : Hp) (a dx : Addr) (fs : List (Str × V)), H a = some (.ins C_Trick dx fs) → TyOf K H (.ref a) (.ref C_Trick)
  ki_Trick_int : PySem.W.kitOne K (.ref C_Trick) (.type "int") = some false
  ki_Trick_bool : PySem.W.kitOne K (.ref C_Trick) (.type "bool") = some false
  nf_Trick_tuple : PySem.W.subIn K (.type "tuple") (.ref C_Trick) = some false
  kis_Trick : PySem.W.kitOne K (.ref C_Trick) (.ref C_Trick) = some true
  kin_Trick_int : PySem.W.kitOne K (.type "int") (.ref C_Trick) = some false
  kin_Trick_bool : PySem.W.kitOne K (.type "bool") (.ref C_Trick) = some false
  kin_Trick_tuple : PySem.W.kitOne K (.type "tuple") (.ref C_Trick) = some false
  kin_Trick_list : PySem.W.kitOne K (.type "list") (.ref C_Trick) = some false
  kin_Trick_NoneType : PySem.W.kitOne K (.type "NoneType") (.ref C_Trick) = some false
  kin_Trick_str : PySem.W.kitOne K (.type "str") (.ref C_Trick) = some false
  kin_Trick_dict : PySem.W.kitOne K (.type "dict") (.ref C_Trick) = some false
  na_Trick_base : NoAttr K C_Trick "_base"
  na_Trick_take : NoAttr K C_Trick "_take"
  na_Trick_times : NoAttr K C_Trick "_times"
  a_Trick___init__ : Addr
  d_Trick___init__ : FuncData
  F_Trick___init__ : Fun K "__init__" "Trick.__init__" s_Trick___init__ a_Trick___init__ d_Trick___init__
  b_Trick___init__ : Binds K d_Trick___init__ ["self", "base", "take", "times"] []
  mk_Trick : Mk K C_Trick a_Trick___init__
  a_Trick_base : Addr
  d_Trick_base : FuncData
  F_Trick_base : Fun K "base" "Trick.base" s_Trick_base a_Trick_base d_Trick_base
  b_Trick_base : Binds K d_Trick_base ["self"] []
  q_Trick_base : Addr
  p_Trick_base : PropOf K C_Trick "base" q_Trick_base a_Trick_base
  a_Trick_take : Addr
  d_Trick_take : FuncData
  F_Trick_take : Fun K "take" "Trick.take" s_Trick_take a_Trick_take d_Trick_take
  b_Trick_take : Binds K d_Trick_take ["self"] []
  q_Trick_take : Addr
  p_Trick_take : PropOf K C_Trick "take" q_Trick_take a_Trick_take
  a_Trick_times : Addr
  d_Trick_times : FuncData
  F_Trick_times : Fun K "times" "Trick.times" s_Trick_times a_Trick_times d_Trick_times
  b_Trick_times : Binds K d_Trick_times ["self"] []
  q_Trick_times : Addr
  p_Trick_times : PropOf K C_Trick "times" q_Trick_times a_Trick_times
  a_Trick___eq__ : Addr
  d_Trick___eq__ : FuncData
  F_Trick___eq__ : Fun K "__eq__" "Trick.__eq__" s_Trick___eq__ a_Trick___eq__ d_Trick___eq__
  b_Trick___eq__ : Binds K d_Trick___eq__ ["self", "other"] []
  m_Trick___eq__ : Meth K C_Trick "__eq__" a_Trick___eq__
  n_int : mg "int" = none
  n_bool : mg "bool" = none
  n_len : mg "len" = none
  n_range : mg "range" = none
  n_isinstance : mg "isinstance" = none
  n_enumerate : mg "enumerate" = none
  n_super : mg "super" = none
  n_str : mg "str" = none
  n_ValueError : mg "ValueError" = none
  a_InvalidText___init__ : Addr
  x_InvalidText : ErrX.ErrTxt P K mg "InvalidText" "word" C_InvalidText a_InvalidText___init__ (ErrX.aeOf s_InvalidText___init__) s_InvalidText___init__
/-! ### the program's own classes (no errors) -/
def OwnT {P : Program} {K : PySem.W.Frag} {mg : Str → Option Value} (T : Tx P K mg) (C : Addr) : Prop := C = T.C_Trick
theorem OwnT.ty {P : Program} {K : PySem.W.Frag} {mg : Str → Option Value} {T : Tx P K mg} {C : Addr} (t : OwnT T C) {H : Hp} {a dx : Addr} {fs : List (Str × V)} (e : H a = some (.ins C dx fs)) : TyOf K H (.ref a) (.ref C) := by
  cases t
  exact T.ins_Trick _ _ _ _ e
theorem OwnT.nint {P : Program} {K : PySem.W.Frag} {mg : Str → Option Value} {T : Tx P K mg} {C : Addr} (t : OwnT T C) : PySem.W.kitOne K (.ref C) (.type "int") = some false := by
  cases t
  exact T.ki_Trick_int
theorem OwnT.nbool {P : Program} {K : PySem.W.Frag} {mg : Str → Option Value} {T : Tx P K mg} {C : Addr} (t : OwnT T C) : PySem.W.kitOne K (.ref C) (.type "bool") = some false := by
  cases t
  exact T.ki_Trick_bool
theorem ar_InvalidText {P : Program} {w : World} : ∀ (v : V) (u : Value), ErrX.NoneInt v → RelV v u → ErrX.ArgOk P w (ErrX.aeOf s_InvalidText___init__) "word" u := fun _ _ n r => ErrX.argOk_f n r
section
variable {P : Program} {w : World} {K : PySem.W.Frag} {mg : Str → Option Value} {base : Heap}
/-! ### heaps -/
/-- all but what stands at r is as it was -/
def But (r : Addr) (H H' : Hp) : Prop := ∀ b o, H b = some o → b ≠ r → H' b = some o
theorem But.refl (r : Addr) (H : Hp) : But r H H := fun _ _ e _ => e
theorem But.trans {r : Addr} {H H1 H2 : Hp} (a : But r H H1) (b : But r H1 H2) : But r H H2 := fun c o e n => b c o (a c o e n) n
theorem Same.but {r : Addr} {H H' : Hp} (a : Same H H') : But r H H' := fun c o e _ => a c o e
theorem But.put {r : Addr} {H : Hp} {o : HO} : But r H (upd H r o) := fun b _ e n => by rw [upd_ne n]; exact e
theorem But.seq {K : PySem.W.Frag} {r a : Addr} {H H' : Hp} {xs : List V} (e : But r H H') (n : a ≠ r) (h : SqL K H a xs) : SqL K H' a xs := by
  rcases h with (h | ⟨o, h⟩) | h
  · exact .inl (.inl (e _ _ h n))
  · exact .inl (.inr ⟨o, e _ _ h n⟩)
  · exact .inr h
theorem same_upd {H : Hp} {p : Addr} {o : HO} (h : H p = none) : Same H (upd H p o) := fun b x e => by
  rw [upd_ne (ne_of_none e h)]
  exact e
/-- any value of the document's point 1 -/
inductive AnyV (T : Addr → Prop) (H : Hp) : V → Prop where
  | non : AnyV T H .non
  | bl (b : Bool) : AnyV T H (.bl b)
  | int (i : Int) : AnyV T H (.int i)
  | str (x : Str) : AnyV T H (.str x)
  | lst {a : Addr} {xs : List V} (e : H a = some (.lst xs)) : AnyV T H (.ref a)
  | tup {a : Addr} {xs : List V} (e : H a = some (.tup xs)) : AnyV T H (.ref a)
  | dct {a : Addr} {kvs : List (Key × V)} (e : H a = some (.dK kvs)) : AnyV T H (.ref a)
  | ins {a C dx : Addr} {fs : List (Str × V)} (t : T C) (e : H a = some (.ins C dx fs)) : AnyV T H (.ref a)
/-- it is an integer from lo to hi -/
def intIn (x : V) (lo hi : Int) : Bool := match x with | .int i => decide (lo ≤ i) && decide (i ≤ hi) | _ => false
theorem intIn_of {i lo hi : Int} (h1 : lo ≤ i) (h2 : i ≤ hi) : intIn (.int i) lo hi = true := by
  show (decide (lo ≤ i) && decide (i ≤ hi)) = true
  rw [decide_eq_true h1, decide_eq_true h2]
  all_goals rfl
theorem small5 {n : Nat} (h : n ≤ 100000) : n < sizeLine := Nat.lt_of_le_of_lt h (by decide)
theorem dec_i (i j : Int) : decide (V.int i = V.int j) = decide (i = j) := by
  rw [Bool.eq_iff_iff]
  simp
theorem AnyV.mono {T : Addr → Prop} {H H' : Hp} {v : V} (a : AnyV T H v) (s : Same H H') : AnyV T H' v := by
  cases a with
  | non => exact .non
  | bl b => exact .bl b
  | int i => exact .int i
  | str x => exact .str x
  | lst e => exact .lst (s _ _ e)
  | tup e => exact .tup (s _ _ e)
  | dct e => exact .dct (s _ _ e)
  | ins t e => exact .ins t (s _ _ e)
theorem intIn_int' {x : V} {lo hi : Int} (h : intIn x lo hi = true) : ∃ i, x = .int i ∧ lo ≤ i ∧ i ≤ hi := by
  cases x with
  | int i =>
    have h2 : (decide (lo ≤ i) && decide (i ≤ hi)) = true := h
    rw [Bool.and_eq_true, decide_eq_true_iff, decide_eq_true_iff] at h2
    exact ⟨i, rfl, h2⟩
  | _ => cases h

/-! ### lists of ints -/
theorem dpAll_ints {H : Hp} : ∀ ns : List Int, DpAll K H (ns.map V.int) (ns.map PyData.int)
  | [] => .nil
  | n :: ns => .cons (.int n) (dpAll_ints ns)
theorem dp_ints {H : Hp} {a : Addr} {ns : List Int} (h : SqL K H a (ns.map V.int)) : Dp K H (.ref a) (.list (ns.map PyData.int)) := .lst h (dpAll_ints ns)
theorem dp_tints {H : Hp} {a : Addr} {ns : List Int} (h : SqT K H a (ns.map V.int)) : Dp K H (.ref a) (.tuple (ns.map PyData.int)) := .tup h (dpAll_ints ns)
theorem eqvAll_ints : ∀ ns ms : List Int, PyData.eqvAll (ns.map PyData.int) (ms.map PyData.int) = decide (ns = ms)
  | [], [] => rfl
  | [], _ :: _ => rfl
  | _ :: _, [] => rfl
  | n :: ns, m :: ms => by
    show (PyData.eqv (.int n) (.int m) && PyData.eqvAll (ns.map PyData.int) (ms.map PyData.int)) = _
    rw [eqvAll_ints ns ms]
    show ((n == m) && decide (ns = ms)) = _
    by_cases h1 : n = m
    · by_cases h2 : ns = ms
      · simp [h1, h2]
      · simp [h1, h2]
    · simp [h1]
theorem eqv_ints (ns ms : List Int) : PyData.eqv (.list (ns.map PyData.int)) (.list (ms.map PyData.int)) = decide (ns = ms) := eqvAll_ints ns ms
theorem eqv_tints (ns ms : List Int) : PyData.eqv (.tuple (ns.map PyData.int)) (.tuple (ms.map PyData.int)) = decide (ns = ms) := eqvAll_ints ns ms
theorem shaped_lints (ns : List Int) : SeqAt.shaped (.list (ns.map PyData.int)) = true := PySem.W.shaped_ints ns
/-- an item of a written list at a drawn place -/
theorem at_some (Pr : Int → Prop) {ns : List Int} (h : ∀ z ∈ ns, Pr z) {i : Int} (h0 : 0 ≤ i) (h1 : i < ns.length) : ∃ z, Pr z ∧ atI (ns.map V.int) i = some (V.int z) := by
  obtain ⟨z, hz⟩ : ∃ z, ns[i.toNat]? = some z := ⟨ns[i.toNat]'(by omega), List.getElem?_eq_getElem (by omega)⟩
  refine ⟨z, h z (List.mem_of_getElem? hz), at_of (j := i.toNat) (by omega) (by rw [List.getElem?_map, hz]; rfl)⟩
theorem sorted_ext {l m : List Int} (p : l.Perm m) (h1 : l.Pairwise (· ≤ ·)) (h2 : m.Pairwise (· ≤ ·)) : l = m :=
  p.eq_of_pairwise (fun a b _ _ x y => Int.le_antisymm x y) h1 h2
/-- reading an item within a comprehension: the written part said aloud -/
theorem ix_lK {X : Cx} (h : X.K = K) : IxR X (rIxL K) := by
  subst h
  exact ix_list
/-- the same of a tuple -/
theorem ix_tK {X : Cx} (h : X.K = K) : IxR X (rIxT K) := by
  subst h
  exact ix_tup
/-- name op= e, by the operation in place -/
theorem ip_op {X : Cx} {op : Operator} {r : R2} (ho : OpR X (inplaceOp op) r) : PIp X op r := fun pins s σ H x y v u Q I r1 r2 h => ho pins s σ H x y v u Q I r1 r2 h

end
end Rt
namespace L2
open PySem PySem.Spec PyProof.Rows
/-! ### two lists of one thing, the same -/
def rNe1 (K : PySem.W.Frag) : R2 := fun x y H Q => (∃ a b z, x = .ref a ∧ y = .ref b ∧ SqL K H a [.ref z] ∧ SqL K H b [.ref z] ∧ Q (.bl false) H) ∨ rNeD K x y H Q
theorem op_ne1 {X : Cx} (hu : X.A.units + 64 < cLine) : OpR X (compareOp .NotEq) (rNe1 X.K) := by
  intro pins s σ H x y v u Q I rx ry h
  rcases h with ⟨a, b, z, rfl, rfl, h1, h2, q⟩ | h
  · obtain ⟨its, rv, hl, _⟩ := I.list h1
    obtain ⟨its2, rv2, hl2, _⟩ := I.list h2
    cases (show v = Value.ref a from rx)
    cases (show u = Value.ref b from ry)
    cases rv with
    | cons r1 rr1 =>
      cases rr1
      cases rv2 with
      | cons r2 rr2 =>
        cases rr2
        cases r1
        cases r2
        refine SeqAt.RcNeAt.lists (e := fun _ => true) hl.isList hl2.isList rfl (by omega) (fun j j1 j2 => ?_) _ _ _ _ ⟨.bl false, H, I, rfl, q⟩
        have j0 : j = 0 := by
          have : j < 1 := j1
          omega
        subst j0
        exact SeqAt.EqAt.same _
  · exact op_neD hu pins s σ H x y v u Q I rx ry h
end L2
namespace Rt
open PySem L2 PySem.Spec PyProof.Rows
section
variable {P : Program} {w : World} {K : PySem.W.Frag} {mg : Str → Option Value} {base : Heap}

/-! ### what is wished for less is met, too -/
def TEMono (t : TE) : Prop := ∀ (σ : L2.St) (H : Hp) (Q Q' : VK), (∀ v H1, Q v H1 → Q' v H1) → t σ H Q → t σ H Q'
def TAMono (t : TA) : Prop := ∀ (σ : L2.St) (H : Hp) (Q Q' : List V → Hp → Prop), (∀ v H1, Q v H1 → Q' v H1) → t σ H Q → t σ H Q'
def TTMono (t : TT) : Prop := ∀ (σ : L2.St) (H : Hp) (Q Q' : Bool → Hp → Prop), (∀ b H1, Q b H1 → Q' b H1) → t σ H Q → t σ H Q'
def R2Mono (r : R2) : Prop := ∀ (x y : V) (H : Hp) (Q Q' : VK), (∀ v H1, Q v H1 → Q' v H1) → r x y H Q → r x y H Q'
theorem m_var {i : Nat} : TEMono (tVar i) := fun _ _ _ _ h ⟨v, e, z⟩ => ⟨v, e, h _ _ z⟩
theorem m_c {v : V} : TEMono (tC v) := fun _ _ _ _ h z => h _ _ z
theorem m_op {r : R2} {a b : TE} (hr : R2Mono r) (ha : TEMono a) (hb : TEMono b) : TEMono (tOp r a b) := fun σ H Q Q' h z => ha σ H _ _ (fun x H1 q => hb σ H1 _ _ (fun y H2 q2 => hr x y H2 _ _ h q2) q) z
theorem m_nil : TAMono tNil := fun _ _ _ _ h z => h _ _ z
theorem m_cons {t : TE} {u : TA} (ht : TEMono t) (hu : TAMono u) : TAMono (tCons t u) := fun σ H Q Q' h z => ht σ H _ _ (fun x H1 q => hu σ H1 _ _ (fun xs H2 q2 => h _ _ q2) q) z
theorem m_test {t : TE} (ht : TEMono t) : TTMono (tTest t) := fun σ H Q Q' h z => ht σ H _ _ (fun x H1 ⟨k, e, q⟩ => ⟨k, e, h _ _ q⟩) z
theorem m_and {t u : TT} (ht : TTMono t) (hu : TTMono u) : TTMono (tAnd t u) := fun σ H Q Q' h z => ht σ H _ _ (fun c H1 q => by
  cases c with
  | true => exact hu σ H1 _ _ h q
  | false => exact h _ _ q) z
theorem m_rI {C : Int → Int → Prop} {g : Int → Int → V} : R2Mono (rI C g) := fun _ _ _ _ _ h ⟨i, j, e1, e2, c, q⟩ => ⟨i, j, e1, e2, c, h _ _ q⟩
theorem m_rI0 {g : Int → Int → V} : R2Mono (rI0 g) := fun _ _ _ _ _ h ⟨i, j, e1, e2, q⟩ => ⟨i, j, e1, e2, h _ _ q⟩
theorem m_rEq : R2Mono rEq := fun _ _ _ _ _ h ⟨e, q⟩ => ⟨e, h _ _ q⟩
theorem m_rNe : R2Mono rNe := fun _ _ _ _ _ h ⟨e, q⟩ => ⟨e, h _ _ q⟩
theorem m_rIn {n : Bool} : R2Mono (rIn K n) := fun _ _ _ _ _ h ⟨p, xs, e, s, f, a, q⟩ => ⟨p, xs, e, s, f, a, h _ _ q⟩
theorem m_len {i : Nat} : TEMono (tCB (fun xs H Q => ∃ p ys, xs = [V.ref p] ∧ (SqL K H p ys ∨ SqT K H p ys) ∧ Q (.int (ys.length : Int)) H) (tCons (tVar i) tNil)) := fun _ _ _ _ h ⟨v, e, p, ys, e1, e2, q⟩ => ⟨v, e, p, ys, e1, e2, h _ _ q⟩
/-! ### what is never reached -/
def tNev : TS := fun _ _ _ => False
theorem pss_nev {X : Cx} {sts : List Stmt} : PSs X sts tNev := ⟨fun _ _ _ _ _ _ h => h.elim⟩

/-! ### is_integer, and the checks -/
def spIsInt (T : Tx P K mg) : Sp := fun vs H Q _ => ∃ (x : V) (lo hi : Int), vs = [x, .int lo, .int hi] ∧ AnyV (OwnT T) H x ∧ Q (.bl (intIn x lo hi)) H
theorem isi_int (T : Tx P K mg) {H : Hp} {x : V} (a : AnyV (OwnT T) H x) : ∃ t, TyX K H x t ∧ (∃ b, PySem.W.kitOne K t (.type "int") = some b ∧ (b = false → ∀ lo hi, intIn x lo hi = false) ∧ ∃ c, PySem.W.kitOne K t (.type "bool") = some c ∧ (c = true → ∀ lo hi, intIn x lo hi = false) ∧ (b = true → c = false → ∃ i, x = .int i)) := by
  cases a with
  | non => exact ⟨_, .base .non, false, kit_ty (by decide +kernel), fun _ _ _ => rfl, false, kit_ty (by decide +kernel), fun _ _ _ => rfl, fun z => nomatch z⟩
  | bl b => exact ⟨_, .base (.bl b), true, kit_ty (by decide +kernel), fun _ _ _ => rfl, true, kit_ty (by decide +kernel), fun _ _ _ => rfl, fun _ z => nomatch z⟩
  | int i => exact ⟨.type "int", .base (.int i), true, kit_ty (by decide +kernel), fun z => Bool.noConfusion z, false, kit_ty (by decide +kernel), fun z => Bool.noConfusion z, fun _ _ => ⟨i, rfl⟩⟩
  | str x => exact ⟨_, .base (.str x), false, kit_ty (by decide +kernel), fun _ _ _ => rfl, false, kit_ty (by decide +kernel), fun _ _ _ => rfl, fun z => nomatch z⟩
  | lst e => exact ⟨_, .base (.lst e), false, kit_ty (by decide +kernel), fun _ _ _ => rfl, false, kit_ty (by decide +kernel), fun _ _ _ => rfl, fun z => nomatch z⟩
  | tup e => exact ⟨_, .base (.tup e), false, kit_ty (by decide +kernel), fun _ _ _ => rfl, false, kit_ty (by decide +kernel), fun _ _ _ => rfl, fun z => nomatch z⟩
  | dct e => exact ⟨_, .base (.dK e), false, kit_ty (by decide +kernel), fun _ _ _ => rfl, false, kit_ty (by decide +kernel), fun _ _ _ => rfl, fun z => nomatch z⟩
  | ins t e => exact ⟨_, .base (t.ty e), false, t.nint, fun _ _ _ => rfl, false, t.nbool, fun _ _ _ => rfl, fun z => nomatch z⟩
theorem ok_is_integer (T : Tx P K mg) : FnOk P w K mg base CX0 lv_is_integer T.a_is_integer T.d_is_integer ["told", "low", "high"] (spIsInt T) := by
  refine T.F_is_integer.ok sc_is_integer (fun vs H Q E h => ?_) (fun cdv A outer s H vs Q E hr h => ?_)
  · obtain ⟨x, lo, hi, rfl, _⟩ := h
    rfl
  · obtain ⟨x, lo, hi, rfl, a, k⟩ := h
    refine ⟨_, (pss_one (ps_ret (pe_and (pe_callB call_isi (by rfl) T.n_isinstance (by decide +kernel) (pa_cons (pv 0) (pa_cons (pe_bltn (v := .ty "int") rfl T.n_int (by decide +kernel) rfl) pa_nil))) (pe_and (pe_not (pe_callB call_isi (by rfl) T.n_isinstance (by decide +kernel) (pa_cons (pv 0) (pa_cons (pe_bltn (v := .ty "bool") rfl T.n_bool (by decide +kernel) rfl) pa_nil)))) (pe_one (pe_chain op_le op_le (pv 1) (pv 0) (pv 2))))))), ?_⟩
    obtain ⟨t, ty, b, e1, h1, c, e2, h2, h3⟩ := isi_int T a
    refine ⟨_, rfl, _, _, _, _, b, rfl, .ty _, ty, e1, b, rfl, ?_⟩
    cases b with
    | false => exact iteF (by rw [h1 rfl lo hi] at k; exact k)
    | true =>
      refine iteT ?_
      refine ⟨_, rfl, _, _, _, _, c, rfl, .ty _, ty, e2, c, rfl, _, rfl, ?_⟩
      cases c with
      | true => exact iteF (by rw [h2 rfl lo hi] at k; exact k)
      | false =>
        refine iteT ?_
        obtain ⟨i, rfl⟩ := h3 rfl rfl
        refine ⟨_, rfl, _, rfl, _, _, rfl, rfl, _, rfl, ?_⟩
        have ke : Q (V.bl (decide (lo ≤ i) && decide (i ≤ hi))) H := k
        refine ite2 (fun c1 => ?_) (fun c1 => ?_)
        · rw [c1] at ke
          exact ⟨_, rfl, _, _, rfl, rfl, ke⟩
        · rw [show decide (lo ≤ i) = false from by simpa using c1] at ke
          exact ke
/-- base, take and the like: a value in the range, or the error of the class C -/
def spChk (T : Tx P K mg) (C : Addr) (lo hi : Int) : Sp := fun vs H Q E => ∃ x : V, vs = [x] ∧ AnyV (OwnT T) H x ∧ (intIn x lo hi = true → Q .non H) ∧ (intIn x lo hi = false → E (.ref C) none H)

theorem ok_check_base (T : Tx P K mg) : FnOk P w K mg base (L2.CX P w) lv_check_base T.a_check_base T.d_check_base ["base"] (spChk T T.C_BadBase 2 16) := by
  refine T.F_check_base.okX sc_check_base (fun vs H Q E h => ?_) (fun cdv A outer s H vs Q E hr h => ?_)
  · obtain ⟨x, rfl, _⟩ := h
    rfl
  · obtain ⟨x, rfl, a, k1, k2⟩ := h
    refine ⟨_, (pss_one (ps_if (pt_not (pt_val (pe_call (ok_is_integer T) (hr.mono (by decide)) rfl T.g_is_integer T.F_is_integer.kp T.b_is_integer .nil pass0 (pa_cons (pv 0) (pa_cons (pe_glob (v := .int 2) rfl T.c_LEAST_BASE ⟨_, rfl⟩) (pa_cons (pe_glob (v := .int 16) rfl T.c_GREATEST_BASE ⟨_, rfl⟩) pa_nil)))))) (pss_one (ps_raise rfl (takes_of rfl rfl rfl rfl) (pmk_own PySem.F.excBase_ValueError T.x_BadBase T.g_BadBase T.k_BadBase (raises_own T.s_BadBase T.t_BadBase) rfl))) pss_nil)), ?_⟩
    refine ⟨_, rfl, _, _, _, rfl, a, _, rfl, ?_⟩
    cases e : intIn x 2 16 with
    | true => exact iteF (k1 e)
    | false => exact iteT (k2 e)

theorem ok_check_take (T : Tx P K mg) : FnOk P w K mg base (L2.CX P w) lv_check_take T.a_check_take T.d_check_take ["take"] (spChk T T.C_BadTake 1 2) := by
  refine T.F_check_take.okX sc_check_take (fun vs H Q E h => ?_) (fun cdv A outer s H vs Q E hr h => ?_)
  · obtain ⟨x, rfl, _⟩ := h
    rfl
  · obtain ⟨x, rfl, a, k1, k2⟩ := h
    refine ⟨_, (pss_one (ps_if (pt_not (pt_val (pe_call (ok_is_integer T) (hr.mono (by decide)) rfl T.g_is_integer T.F_is_integer.kp T.b_is_integer .nil pass0 (pa_cons (pv 0) (pa_cons pe_int (pa_cons (pe_glob (v := .int 2) rfl T.c_GREATEST_TAKE ⟨_, rfl⟩) pa_nil)))))) (pss_one (ps_raise rfl (takes_of rfl rfl rfl rfl) (pmk_own PySem.F.excBase_ValueError T.x_BadTake T.g_BadTake T.k_BadTake (raises_own T.s_BadTake T.t_BadTake) rfl))) pss_nil)), ?_⟩
    refine ⟨_, rfl, _, _, _, rfl, a, _, rfl, ?_⟩
    cases e : intIn x 1 2 with
    | true => exact iteF (k1 e)
    | false => exact iteT (k2 e)

/-! ### a program's own == ; errors that leave a call within a try -/
def NoSub (K : PySem.W.Frag) (C : Addr) (H : Hp) (y : V) : Prop := (∃ b dy gs, y = .ref b ∧ H b = some (.ins C dy gs)) ∨ (∃ b xs, y = .ref b ∧ H b = some (.tup xs) ∧ PySem.W.subIn K (.type "tuple") (.ref C) = some false)
def rOwn (K : PySem.W.Frag) (C : Addr) (sp : Sp) (E : XK) : R2 := fun x y H Q => ∃ a dx fs, x = .ref a ∧ H a = some (.ins C dx fs) ∧ NoSub K C H y ∧ sp [x, y] H (fun v H' => (∃ k, v = .bl k) ∧ Q v H') E
section
variable {X : Cx}
theorem op_own {n : Nat} {CX : CXT} {C f : Addr} {fd : FuncData} {ps : List Str} {sp : Sp} {E : XK} (G : FnOk X.prog X.w X.K X.mg X.base CX n f fd ps sp) (hr : Room n X.A)
    (hs : PySem.W.findIn X.K (.ref C) "__eq__" = some (some (.ref f))) (hf : PySem.W.isFn X.K (.ref f) = true) (hb : Binds X.K fd ps []) (hx : Passes CX X E) : OpR X (compareOp .Eq) (rOwn X.K C sp E) := by
  intro pins s σ H x y v u Q I rx ry hq
  obtain ⟨a, dx, fs, rfl, ha, hy, hsp⟩ := hq
  obtain rfl : v = Value.ref a := rx
  obtain ⟨mA, O, _⟩ := ins_get I.hok ha
  obtain ⟨od, J, _⟩ := O.look
  obtain ⟨m, hF⟩ := I.fr
  have hl : ([V.ref a, y] : List V).length = ps.length := G.len _ _ _ _ hsp
  have back : wpAny (model X.prog X.w) X.A (call (.ref f) [.ref a, u]) (PySem.W.CmpBack (EP X pins σ Q)) X.xe s := by
    have rv : Vals [V.ref a, y] [Value.ref a, u] := .cons rfl (.cons ry .nil)
    have bd := hb s [.ref a, u] I.kIn (by rw [List.append_nil]; exact hl)
    rw [List.append_nil] at bd
    refine wpAny_call (codeAny_mono (G.run X.A X.stack s H ⟨[.ref a, u], []⟩ [.ref a, u] _ _ E hr I.env0 bd rv hsp) fun r s' hw => ?_)
    match r, hw with
    | .error e, hw => exact hx pins σ H s e s' I hw
    | .ok (.ret w'), hw =>
      obtain ⟨z, H', I', rz, ⟨k, ek⟩, qz⟩ := I.after hw
      subst ek
      cases rz
      exact ⟨.bl k, H', I', rfl, qz⟩
    | .ok .next, hw => exact hw.elim
    | .ok .brk, hw => exact hw.elim
    | .ok .cont, hw => exact hw.elim
  show wpAny (model X.prog X.w) X.A (richCompare .Eq (.ref a) u) _ _ s
  rcases hy with ⟨b, dy, gs, rfl, hb'⟩ | ⟨b, xs, rfl, hb', hsub⟩
  · obtain rfl : u = Value.ref b := ry
    obtain ⟨mB, O', _⟩ := ins_get I.hok hb'
    obtain ⟨od', J', _⟩ := O'.look
    exact PySem.W.cmp_K (op := .Eq) (tb := .ref C) hr.units0 hF I.ok.mod.kin J J'.type (by simp [PySem.W.notFirst]) hs hf back
  · obtain rfl : u = Value.ref b := ry
    obtain ⟨_, its, _, o, ho, hc, _⟩ := (show ObjOk X.prog X.w H s.heap b (.tup xs) from I.hok b _ hb')
    exact PySem.W.cmp_K (op := .Eq) (tb := .type "tuple") hr.units0 hF I.ok.mod.kin J (fun A' Q' E' s2 k2 q2 => wpAny_typeOf_ref (k2 _ _ ho) (by rw [hc]; exact q2)) (by simp [PySem.W.notFirst, hsub]) hs hf back
/-- what a call lets out is taken, whatever the slots hold -/
theorem passN {W : WX} (tk : Takes X W) : Passes (L2.CX X.prog X.w) X (fun cls d H => ∀ σ : L2.St, σ.length = X.N.length → W cls d σ H) :=
  fun _ σ _ _ e s' I c => tk e s' (XE.of_call I (fun _ _ _ h => h σ I.len) c)
end

/-! ### try with clauses, each with a name or without one -/
structure Cl where
  cls : Value
  slot : Option Nat
  ts : Addr → Value → Option Addr → TS
/-- behind a suite its name is forgotten -/
def offName (D : Ends) (i : Nat) : Ends := ⟨fun σ H => D.nx (σ.set i none) H, D.rt, fun σ H => D.bk (σ.set i none) H, fun σ H => D.ct (σ.set i none) H⟩
def Cl.wish (q : Cl) (a : Addr) (k : Value) (d : Option Addr) (D : Ends) (σ : L2.St) (H : Hp) : Prop := match q.slot with
  | none => q.ts a k d D σ H
  | some i => q.ts a k d (offName D i) (σ.set i (some (.ref a))) H
def wX (K : PySem.W.Frag) (Wo : WX) (D : Ends) : List Cl → WX
  | [] => Wo
  | q :: r => fun k d σ H => ∃ b, PySem.W.exmOne K k q.cls = some b ∧ (b = true → ∀ a, H a = none → q.wish a k d D σ H) ∧ (b = false → wX K Wo D r k d σ H)
inductive HdsX (X : Cx) : List ExceptHandler → List Cl → Prop
  | nil : HdsX X [] []
  | un {x : Str} {c : Value} {ts : Addr → Value → Option Addr → TS} {s0 : Stmt} {su : List Stmt} {p1 p2 : Pos} {hs : List ExceptHandler} {l : List Cl} (nm : Names X x c)
      (ok : ∀ (a : Addr) (oe : Obj) (k : Value) (d : Option Addr) (pn : List (Addr × Obj)), Zc k d oe → (∃ vs, oe.data = .fields vs) → PSs (X.suite a ((a, oe) :: pn)) (s0 :: su) (ts a k d)) (r : HdsX X hs l) :
      HdsX X (.ExceptHandler (some (.Name x p1)) none (s0 :: su) p2 :: hs) (⟨c, none, ts⟩ :: l)
  | as {x n : Str} {i : Nat} {c : Value} {ts : Addr → Value → Option Addr → TS} {s0 : Stmt} {su : List Stmt} {p1 p2 : Pos} {hs : List ExceptHandler} {l : List Cl} (hi : X.N[i]? = some n) (hl : X.env.kindOf n = some .local) (nm : Names X x c)
      (ok : ∀ (a : Addr) (oe : Obj) (k : Value) (d : Option Addr) (pn : List (Addr × Obj)), Zc k d oe → (∃ vs, oe.data = .fields vs) → PSs (X.suite a ((a, oe) :: pn)) (s0 :: su) (ts a k d)) (r : HdsX X hs l) :
      HdsX X (.ExceptHandler (some (.Name x p1)) (some n) (s0 :: su) p2 :: hs) (⟨c, some i, ts⟩ :: l)
section
variable {X : Cx} {tb : WX → TS} {Wo : WX}
/-- a flight that was landed at the try: what every clause needs of it -/
structure Land (X : Cx) (pins : List (Addr × Obj)) (σ : L2.St) (H : Hp) (a : Addr) (B : Heap) (sI : Shared) (k : Value) (d : Option Addr) (s : Shared) (h : Heap) : Prop where
  ok : X.Ok
  inv : Inv X pins σ H sI
  nb : ∀ b o, sI.heap.get? b = some o → b ∉ frs X.stack → B.get? b = some o
  up : sI.heap.UpToSlots h
  fly : HandSPX.FlyingZ B (X.env :: X.outer) a (Zc k d) h
  na : H a = none
  nL : a ≠ X.env.locals
  nF : a ∉ X.fs
  os : s.os = sI.os
  ag : AllBare s.gens
theorem clauses (hst : X.stack = X.env :: X.outer) (hfr : X.env.frame = some X.env.locals) (hN : X.N.Nodup) (tk : Takes X Wo) {pins : List (Addr × Obj)} {σ : L2.St} {H : Hp} {a : Addr} {B : Heap} {sI : Shared} {k : Value} {d : Option Addr} {s : Shared} {h : Heap} {D : Ends}
    (L : Land X pins σ H a B sI k d s h) : ∀ {hds : List ExceptHandler} {l : List Cl}, HdsX X hds l → wX X.K Wo D l k d σ H → wpAny (model X.prog X.w) X.A (handleBy (.ref a) X.env hds) (SP X pins D) X.xe { s with heap := h } := by
  have Jh : Inv X pins σ H { s with heap := h } := L.inv.landed L.nb L.fly.1 L.up L.os L.ag
  -- a clause's test
  have tst : ∀ {x : Str} {c : Value} {p1 : Pos} {b : Bool} {Q : Bool → Shared → Prop} {E E2 : Value → Shared → Prop}, Names X x c → PySem.W.exmOne X.K k c = some b → Q b { s with heap := h } →
      wpAny (model X.prog X.w) (X.A.mark (some (.ref a))) (eval (.Name x p1) X.env) (fun v s1 => wpAny (model X.prog X.w) (X.A.mark (some (.ref a))) (excMatches (.ref a) v) Q E s1) E2 { s with heap := h } := by
    intro x c p1 b Q E E2 nm e q
    obtain ⟨oe, fv, g1, g2, g3⟩ := L.fly.there
    have S := Jh.suite g1 g3 L.na L.nL L.nF
    have look : PySem.W.Looks (model X.prog X.w) h (typeOf (.ref a)) k := fun A' Q' E' s2 k2 q2 => wpAny_typeOf_ref (k2 _ _ g1) (by rw [g2.1]; exact q2)
    have m := PySem.W.exm_one (M := model X.prog X.w) Jh.kIn look e
    obtain ⟨n1, n2, n3 | ⟨n3, n4, n5⟩⟩ := nm
    · exact ld_glob (X := X.suite a ((a, oe) :: (X.pn ++ pins))) S n1 n3 (m.here q) n2
    · exact ld_blt (X := X.suite a ((a, oe) :: (X.pn ++ pins))) S n1 n3 n4 (m.here q) n5 n2
  intro hds l hk
  induction hk with
  | nil =>
    intro w
    refine wpAny_handleBy_nil ?_
    obtain ⟨_, _, _, oe, fv, t0, _, _, g1, g2, g3, g4, _⟩ := id L.fly
    have out : wpAny (model X.prog X.w) X.A (setFlight (.ref a) X.env.frame) (fun _ s4 => wpAny (model X.prog X.w) X.A (throw (.ref a) : Sem Flow) (SP X pins D) X.xe s4) X.xe { s with heap := h } := by
      rw [hfr]
      exact HandSPX.setFlight_upZ L.fly fun h4 hh4 up4 => wpAny_throw (tk _ _ ⟨a, B, sI, pins, σ, H, k, d, rfl, L.inv, L.nb, L.up.trans up4, .inr (.inr (by rw [hst]; exact hh4)), L.na, L.os, L.ag, w⟩)
    have neN : ¬ ((Value.ref t0 == Value.none) = true) := by simp
    unfold PySem.passOn
    refine wpAny_bind (wpAny_field g1 g3 g4 ?_)
    rw [if_neg neN]
    first
      | exact wpAny_bind (wpAny_pure (wpAny_bind out))
      | exact wpAny_bind out
  | un nm ok r ih =>
    intro w
    obtain ⟨b, e, yes, no⟩ := w
    refine wpAny_handleBy_cons (codeAny_handlers_test (tst nm e ?_)) (by intro q; cases q)
    cases b with
    | false => exact ih (no rfl)
    | true =>
      refine codeAny_handlers_suite (HandSPX.lands_againZ L.fly fun h4 fl4 up4 => ?_)
      obtain ⟨oe, fv, g1, g2, g3⟩ := fl4.there
      have J4 : Inv X pins σ H { s with heap := h4 } := L.inv.landed L.nb fl4.1 (L.up.trans up4) L.os L.ag
      have S := J4.suite g1 g3 L.na L.nL L.nF
      refine wpAny_mono ((ok a oe k d (X.pn ++ pins) g2 ⟨_, g3⟩).run [] _ _ H _ S (yes rfl a L.na)) (fun f s6 z => ?_) (fun _ _ z => z.elim)
      match f, z with
      | .next, ⟨_, _, z, q⟩ => exact ⟨_, _, z.unsuite L.ok, q⟩
      | .brk, ⟨_, _, z, q⟩ => exact ⟨_, _, z.unsuite L.ok, q⟩
      | .cont, ⟨_, _, z, q⟩ => exact ⟨_, _, z.unsuite L.ok, q⟩
      | .ret _, ⟨_, _, _, z, rv, q⟩ => exact ⟨_, _, _, z.unsuite L.ok, rv, q⟩
  | @as x n i c ts s0 su p1 p2 hs l hi hl nm ok r ih =>
    intro w
    obtain ⟨b, e, yes, no⟩ := w
    refine wpAny_handleBy_cons (codeAny_handlers_test (tst nm e ?_)) (by intro q; cases q)
    cases b with
    | false => exact ih (no rfl)
    | true =>
      refine codeAny_handlers_suite_as (HandSPX.lands_againZ L.fly fun h4 fl4 up4 => ?_)
      obtain ⟨oe, fv, g1, g2, g3⟩ := fl4.there
      have J4 : Inv X pins σ H { s with heap := h4 } := L.inv.landed L.nb fl4.1 (L.up.trans up4) L.os L.ag
      have S := J4.suite g1 g3 L.na L.nL L.nF
      refine store_ok (X := X.suite a ((a, oe) :: (X.pn ++ pins))) (v := .ref a) S hN hi (.inl hl) rfl (fun s5 S5 => ?_) (.inr hl)
      refine wpAny_mono ((ok a oe k d (X.pn ++ pins) g2 ⟨_, g3⟩).run [] s5 _ H _ S5 (yes rfl a L.na)) (fun f s6 z => ?_) (fun _ _ z => z.elim)
      have off : ∀ {σ6 : L2.St} {H6 : Hp} {Q : Shared → Prop}, Inv (X.suite a ((a, oe) :: (X.pn ++ pins))) [] σ6 H6 s6 → (∀ s7, Inv X pins (σ6.set i none) H6 s7 → Q s7) →
          wpAny (model X.prog X.w) X.A (do bindName X.env n .none; unbindBehindTheSuite X.env n p2) (fun _ s7 => Q s7) X.xe s6 := fun z hq => gone_ok (z.unsuite L.ok) hN hi hl hq
      match f, z with
      | .next, ⟨_, _, z, q⟩ => exact off z fun s7 J => ⟨_, _, J, q⟩
      | .brk, ⟨_, _, z, q⟩ => exact off z fun s7 J => ⟨_, _, J, q⟩
      | .cont, ⟨_, _, z, q⟩ => exact off z fun s7 J => ⟨_, _, J, q⟩
      | .ret _, ⟨_, _, _, z, rv, q⟩ => exact off z fun s7 J => ⟨_, _, _, J, rv, q⟩
theorem ps_try_x {body : List Stmt} {h0 : ExceptHandler} {hds : List ExceptHandler} {l : List Cl} {pos : Pos} (hst : X.stack = X.env :: X.outer) (hfr : X.env.frame = some X.env.locals) (hN : X.N.Nodup) (tk : Takes X Wo)
    (hb : ∀ (W : WX) (pn : List (Addr × Obj)) (xe : Value → Shared → Prop), Takes (X.tr pn xe) W → PassesOwn (model X.prog X.w) X.A X.env xe → PSs (X.tr pn xe) body (tb W)) (hh : HdsX X (h0 :: hds) l) :
    PS X (.Try body (h0 :: hds) [] [] pos) (fun D σ H => tb (wX X.K Wo D l) D σ H) := by
  refine ⟨fun pins s σ H D I w => wpAny_Try_except ?_⟩
  have ok := I.ok
  refine wpAny_mono ((hb (wX X.K Wo D l) (X.pn ++ pins) (fun e s1 => wpAny (model X.prog X.w) X.A (noteFrame e X.env) (fun _ s2 => wpAny (model X.prog X.w) X.A (setFlight e none) (fun _ s3 =>
    wpAny (model X.prog X.w) X.A (handleBy e X.env (h0 :: hds)) (SP X pins D) X.xe s3) X.xe s2) X.xe s1) (fun u s' q => ?_) PassesOwn.looking).run [] s σ H D (I.toTry _) w) (fun f s1 z => ?_) (fun _ _ z => z)
  · obtain ⟨a, B, sI, pi, σ', H', k, d, rfl, J', nb, up, sky, na, os, ag, w'⟩ := q
    have J := J'.ofTry (X := X) ok
    rw [show (X.tr (X.pn ++ pins) _).stack = X.stack from rfl, hst] at sky
    show wpAny (model X.prog X.w) X.A (noteFrame (.ref a) X.env) _ _ _
    refine Sky.land Zc.steady (by rw [ok.frames, hst]) hfr sky fun h3 fl3 up3 => ?_
    obtain ⟨oe, fv, g1, g2, g3⟩ := fl3.there
    have far : a ∉ frs (X.env :: X.outer) := fun hm => by
      obtain ⟨_, o', e', nf⟩ := fl3.2.2.1.mem hm
      exact nf _ ((Option.some.inj (g1.symm.trans e')) ▸ g3)
    refine clauses hst hfr hN tk ⟨ok, J, nb, up.trans up3, fl3, na, fun z => far ?_, fun hm => far ?_, os, ag⟩ hh w'
    · exact List.mem_filterMap.mpr ⟨X.env, List.mem_cons_self, by rw [hfr, z]⟩
    · obtain ⟨e2, he2, q2⟩ := List.mem_filterMap.mp hm
      exact List.mem_filterMap.mpr ⟨e2, List.mem_cons_of_mem _ he2, q2⟩
  · match f, z with
    | .next, ⟨_, _, z, q⟩ => exact wpAny_execs_nil ⟨_, _, z.ofTry ok, q⟩
    | .brk, ⟨_, _, z, q⟩ => exact ⟨_, _, z.ofTry ok, q⟩
    | .cont, ⟨_, _, z, q⟩ => exact ⟨_, _, z.ofTry ok, q⟩
    | .ret _, ⟨_, _, _, z, rv, q⟩ => exact ⟨_, _, _, z.ofTry ok, rv, q⟩
end

/-- a trick's attributes -/
def tf (b t m : Int) : List (Str × V) := putF "_times" (.int m) (putF "_take" (.int t) (putF "_base" (.int b) []))
theorem n1 : ¬ (("_base" : Str) = "_take") := by decide +kernel
theorem n2 : ¬ (("_base" : Str) = "_times") := by decide +kernel
theorem n3 : ¬ (("_take" : Str) = "_times") := by decide +kernel
theorem tf_eq (b t m : Int) : tf b t m = ([("_base", V.int b), ("_take", V.int t), ("_times", V.int m)] : List (Str × V)) := by
  have e2 : putF "_take" (V.int t) (putF "_base" (V.int b) []) = ([("_base", V.int b), ("_take", V.int t)] : List (Str × V)) := by
    show (if ("_base" : Str) = "_take" then [(("_base" : Str), V.int t)] else (("_base" : Str), V.int b) :: putF "_take" (V.int t) []) = _
    rw [if_neg n1]
    all_goals rfl
  unfold tf
  rw [e2]
  show (if ("_base" : Str) = "_times" then _ else (("_base" : Str), V.int b) :: (if ("_take" : Str) = "_times" then _ else (("_take" : Str), V.int t) :: putF "_times" (V.int m) [])) = _
  rw [if_neg n2, if_neg n3]
  all_goals rfl
theorem tf_base (b t m : Int) : (tf b t m).lookup ("_base" : Str) = some (.int b) := by
  unfold tf
  rw [lookup_putF, if_neg n2, lookup_putF, if_neg n1, lookup_putF, if_pos rfl]
theorem tf_take (b t m : Int) : (tf b t m).lookup ("_take" : Str) = some (.int t) := by
  unfold tf
  rw [lookup_putF, if_neg n3, lookup_putF, if_pos rfl]
theorem tf_times (b t m : Int) : (tf b t m).lookup ("_times" : Str) = some (.int m) := by
  unfold tf
  rw [lookup_putF, if_pos rfl]
/-- the Trick of these parts stands at p -/
def TrickAt (T : Tx P K mg) (H : Hp) (p : Addr) (b t m : Int) : Prop := (∃ dx, H p = some (.ins T.C_Trick dx (tf b t m))) ∧ 2 ≤ b ∧ b ≤ 16 ∧ 1 ≤ t ∧ t ≤ 2 ∧ -100 ≤ m ∧ m ≤ 100
theorem TrickAt.same {T : Tx P K mg} {H H' : Hp} {p : Addr} {b t m : Int} (h : TrickAt T H p b t m) (s : Same H H') : TrickAt T H' p b t m :=
  let ⟨⟨dx, e⟩, r⟩ := h
  ⟨⟨dx, s _ _ e⟩, r⟩
theorem TrickAt.but {T : Tx P K mg} {H H' : Hp} {p r : Addr} {b t m : Int} (h : TrickAt T H p b t m) (s : But r H H') (n : p ≠ r) : TrickAt T H' p b t m :=
  let ⟨⟨dx, e⟩, q⟩ := h
  ⟨⟨dx, s _ _ e n⟩, q⟩
theorem TrickAt.any {T : Tx P K mg} {H : Hp} {p : Addr} {b t m : Int} (h : TrickAt T H p b t m) : AnyV (OwnT T) H (.ref p) :=
  let ⟨⟨_, e⟩, _⟩ := h
  .ins (by first | exact rfl | exact Or.inl rfl) e
theorem isi_trick (T : Tx P K mg) {H : Hp} {x : V} (a : AnyV (fun _ => False) H x) : ∃ t, TyX K H x t ∧ PySem.W.kitOne K t (.ref T.C_Trick) = some false := by
  cases a with
  | non => exact ⟨_, .base .non, T.kin_Trick_NoneType⟩
  | bl b => exact ⟨_, .base (.bl b), T.kin_Trick_bool⟩
  | int i => exact ⟨_, .base (.int i), T.kin_Trick_int⟩
  | str x => exact ⟨_, .base (.str x), T.kin_Trick_str⟩
  | lst e => exact ⟨_, .base (.lst e), T.kin_Trick_list⟩
  | tup e => exact ⟨_, .base (.tup e), T.kin_Trick_tuple⟩
  | dct e => exact ⟨_, .base (.dK e), T.kin_Trick_dict⟩
  | ins t e => exact t.elim

/-- Trick(b, t, m) of good parts: a new object; nothing that stood is changed -/
def spTrickI (T : Tx P K mg) : Sp := fun vs H Q _ => ∃ (p dx : Addr) (b t m : Int), vs = [.ref p, .int b, .int t, .int m] ∧ H p = some (.ins T.C_Trick dx []) ∧ 2 ≤ b ∧ b ≤ 16 ∧ 1 ≤ t ∧ t ≤ 2 ∧ -100 ≤ m ∧ m ≤ 100 ∧
  ∀ H', TrickAt T H' p b t m → (∀ c o, H c = some o → c ≠ p → H' c = some o) → Q .non H'
theorem ok_Trick___init__ (T : Tx P K mg) : FnOk P w K mg base CX0 lv_Trick___init__ T.a_Trick___init__ T.d_Trick___init__ ["self", "base", "take", "times"] (spTrickI T) := by
  refine T.F_Trick___init__.ok sc_Trick___init__ (fun vs H Q E h => ?_) (fun cdv A outer s H vs Q E hr h => ?_)
  · obtain ⟨p, dx, b, t, m, rfl, _⟩ := h
    rfl
  · obtain ⟨p, dx, b, t, m, rfl, hp, b1, b2, t1, t2, m1, m2, k⟩ := h
    refine ⟨_, (pss_cons (ps_expr (pe_call (ok_check_base T) (hr.mono (by decide)) rfl T.g_check_base T.F_check_base.kp T.b_check_base .nil passL (pa_cons (pv 1) pa_nil)))
      (pss_cons (ps_expr (pe_call (ok_check_take T) (hr.mono (by decide)) rfl T.g_check_take T.F_check_take.kp T.b_check_take .nil passL (pa_cons (pv 2) pa_nil)))
      (pss_cons (ps_if (pt_not (pt_val (pe_call (ok_is_integer T) (hr.mono (by decide)) rfl T.g_is_integer T.F_is_integer.kp T.b_is_integer .nil pass0 (pa_cons (pv 3) (pa_cons (pe_un un_neg (pe_glob (v := .int 100) rfl T.c_GREATEST_TIMES ⟨_, rfl⟩)) (pa_cons (pe_glob (v := .int 100) rfl T.c_GREATEST_TIMES ⟨_, rfl⟩) pa_nil)))))) (pss_one ps_never) pss_nil)
      (pss_cons (ps_fld (pv 0) (pv 1) rfl)
      (pss_cons (ps_fld (pv 0) (pv 2) rfl)
      (pss_one (ps_fld (pv 0) (pv 3) rfl))))))), ?_⟩
    refine ⟨_, rfl, _, rfl, .int b, fun _ => ?_, fun z => Bool.noConfusion ((intIn_of b1 b2).symm.trans z)⟩
    refine ⟨_, rfl, _, rfl, .int t, fun _ => ?_, fun z => Bool.noConfusion ((intIn_of t1 t2).symm.trans z)⟩
    refine ⟨_, rfl, _, rfl, _, _, _, rfl, .int m, _, rfl, ?_⟩
    rw [intIn_of m1 m2]
    refine iteF ?_
    refine ⟨_, rfl, _, rfl, p, _, dx, _, rfl, hp, T.cl_Trick, T.na_Trick_base, (by show 0 < 1000; decide), ?_⟩
    refine ⟨_, rfl, _, rfl, p, _, dx, _, rfl, upd_same, T.cl_Trick, T.na_Trick_take, (by show 1 < 1000; decide), ?_⟩
    refine ⟨_, rfl, _, rfl, p, _, dx, _, rfl, upd_same, T.cl_Trick, T.na_Trick_times, (by show 2 < 1000; decide), ?_⟩
    refine k _ ⟨⟨dx, upd_same⟩, b1, b2, t1, t2, m1, m2⟩ fun c o e hc => ?_
    rw [upd_ne hc, upd_ne hc, upd_ne hc]
    exact e
/-- a Trick of good parts is made -/
theorem mk_trick {T : Tx P K mg} {H1 : Hp} {p dx : Addr} {b t m : Int} {R : Hp → Prop} {E : XK} (np : H1 p = none) (nd : H1 dx = none) (b1 : 2 ≤ b) (b2 : b ≤ 16) (t1 : 1 ≤ t) (t2 : t ≤ 2) (m1 : -100 ≤ m) (m2 : m ≤ 100)
    (k : ∀ H2, TrickAt T H2 p b t m → Same H1 H2 → R H2) : spTrickI T (.ref p :: ([.int b, .int t, .int m] ++ [])) (upd (upd H1 dx (.own p)) p (.ins T.C_Trick dx [])) (fun v H2 => v = .non ∧ R H2) E :=
  ⟨p, dx, b, t, m, rfl, upd_same, b1, b2, t1, t2, m1, m2, fun H2 hT kp => ⟨rfl, k H2 hT (Same.made np nd kp)⟩⟩

/-! ### a trick's parts, its block -/
def spGet (T : Tx P K mg) (f : Int → Int → Int → Int) : Sp := fun vs H Q _ => ∃ (p : Addr) (b t m : Int), vs = [.ref p] ∧ TrickAt T H p b t m ∧ Q (.int (f b t m)) H
theorem ok_Trick_base (T : Tx P K mg) : FnOk P w K mg base CX0 lv_Trick_base T.a_Trick_base T.d_Trick_base ["self"] (spGet T fun b _ _ => b) := by
  refine T.F_Trick_base.ok sc_Trick_base (fun vs H Q E h => ?_) (fun cdv A outer s H vs Q E hr h => ?_)
  · obtain ⟨p, b, t, m, rfl, _⟩ := h
    rfl
  · obtain ⟨p, b, t, m, rfl, ⟨⟨dx, e⟩, _⟩, k⟩ := h
    exact ⟨_, (pss_one (ps_ret (pe_fld (pv 0) rfl))), _, rfl, p, _, dx, _, _, rfl, e, T.cl_Trick, T.na_Trick_base, tf_base b t m, k⟩
theorem ok_Trick_take (T : Tx P K mg) : FnOk P w K mg base CX0 lv_Trick_take T.a_Trick_take T.d_Trick_take ["self"] (spGet T fun _ t _ => t) := by
  refine T.F_Trick_take.ok sc_Trick_take (fun vs H Q E h => ?_) (fun cdv A outer s H vs Q E hr h => ?_)
  · obtain ⟨p, b, t, m, rfl, _⟩ := h
    rfl
  · obtain ⟨p, b, t, m, rfl, ⟨⟨dx, e⟩, _⟩, k⟩ := h
    exact ⟨_, (pss_one (ps_ret (pe_fld (pv 0) rfl))), _, rfl, p, _, dx, _, _, rfl, e, T.cl_Trick, T.na_Trick_take, tf_take b t m, k⟩
theorem ok_Trick_times (T : Tx P K mg) : FnOk P w K mg base CX0 lv_Trick_times T.a_Trick_times T.d_Trick_times ["self"] (spGet T fun _ _ m => m) := by
  refine T.F_Trick_times.ok sc_Trick_times (fun vs H Q E h => ?_) (fun cdv A outer s H vs Q E hr h => ?_)
  · obtain ⟨p, b, t, m, rfl, _⟩ := h
    rfl
  · obtain ⟨p, b, t, m, rfl, ⟨⟨dx, e⟩, _⟩, k⟩ := h
    exact ⟨_, (pss_one (ps_ret (pe_fld (pv 0) rfl))), _, rfl, p, _, dx, _, _, rfl, e, T.cl_Trick, T.na_Trick_times, tf_times b t m, k⟩

/-- what is a Trick, or the error -/
def isTrick (T : Tx P K mg) (H : Hp) (x : V) : Prop := ∃ p b t m, x = .ref p ∧ TrickAt T H p b t m
def spChkTrick (T : Tx P K mg) : Sp := fun vs H Q E => ∃ x : V, vs = [x] ∧ ((∃ p dx fs, x = .ref p ∧ H p = some (.ins T.C_Trick dx fs) ∧ Q .non H) ∨ (AnyV (fun _ => False) H x ∧ E (.ref T.C_BadTrick) none H))
theorem ok_check_trick (T : Tx P K mg) : FnOk P w K mg base (L2.CX P w) lv_check_trick T.a_check_trick T.d_check_trick ["trick"] (spChkTrick T) := by
  refine T.F_check_trick.okX sc_check_trick (fun vs H Q E h => ?_) (fun cdv A outer s H vs Q E hr h => ?_)
  · obtain ⟨x, rfl, _⟩ := h
    rfl
  · obtain ⟨x, rfl, h⟩ := h
    refine ⟨_, (pss_one (ps_if (pt_not (pt_val (pe_callB call_isi (by rfl) T.n_isinstance (by decide +kernel) (pa_cons (pv 0) (pa_cons (pe_glob (v := .ref T.C_Trick) rfl T.g_Trick rfl) pa_nil))))) (pss_one (ps_raise rfl (takes_of rfl rfl rfl rfl) (pmk_own PySem.F.excBase_ValueError T.x_BadTrick T.g_BadTrick T.k_BadTrick (raises_own T.s_BadTrick T.t_BadTrick) rfl))) pss_nil)), ?_⟩
    rcases h with ⟨p, dx, fs, rfl, e, k⟩ | ⟨a, k⟩
    · exact ⟨_, rfl, _, _, _, _, _, rfl, .own _, .base (T.ins_Trick _ _ _ _ e), T.kis_Trick, _, rfl, iteF k⟩
    · obtain ⟨t, ty, e⟩ := isi_trick T a
      exact ⟨_, rfl, _, _, _, _, _, rfl, .own _, ty, e, _, rfl, iteT k⟩

/-! ### a text so many times -/
end
end Rt
namespace L2
open PySem PySem.Spec PyProof.Rows
/-- x one behind the other, n times -/
def strRep (x : Str) (n : Nat) : Str := ⟨((List.replicate n (TL.tl x)).flatten).toArray⟩
def rRepS : R2 := fun x y H Q => ∃ (i : Str) (k : Int), x = .str i ∧ y = .int k ∧ 0 ≤ k ∧ k ≤ 100 ∧ i.length ≤ 100 ∧ Q (.str (strRep i k.toNat)) H
theorem fold_rep (z : Array Nat) : ∀ (n : Nat) (a : Array Nat), ((List.replicate n z).foldl (fun u v => u ++ v) a).toList = a.toList ++ (List.replicate n z.toList).flatten
  | 0, a => by simp
  | n + 1, a => by
    rw [List.replicate_succ, List.foldl_cons, fold_rep z n, List.replicate_succ, List.flatten_cons, Array.toList_append, List.append_assoc]
theorem op_mulS {X : Cx} : OpR X (binaryOp .Mult) rRepS := by
  intro pins s σ H x y v u Q I rx ry h
  obtain ⟨i, k, rfl, rfl, k0, k1, li, q⟩ := h
  obtain ⟨t, rfl⟩ := rx
  obtain ⟨t', rfl⟩ := ry
  have c : (decide (k < -(2 ^ 63 : Int)) || decide (k ≥ 2 ^ 63)) = false := by
    rw [decide_eq_false (by omega), decide_eq_false (by omega)]
    all_goals rfl
  have lm : i.length * k.toNat ≤ 100 * 100 := Nat.mul_le_mul li (by omega)
  refine P.mul_str c (fun h1 _ => ?_) (fun _ _ => ?_) ?_
  · have : (100 : Int) ≤ (2 ^ 63 - 1) / k := by
      rw [Int.le_ediv_iff_mul_le (by omega)]
      omega
    omega
  · unfold Builtin.Str.tooLong
    rw [decide_eq_false_iff_not]
    have hs : (10000 : Nat) ≤ sizeLine := by decide
    omega
  · by_cases e0 : k < 1
    · rw [if_pos e0]
      have e : k = 0 := by omega
      subst e
      exact ⟨by decide, .str (strRep i (0 : Int).toNat), H, I.tok _, ⟨_, rfl⟩, q⟩
    · rw [if_neg e0]
      by_cases e1 : (k == 1 || i.length == 0) = true
      · rw [if_pos e1]
        refine ⟨.str i, H, I, ⟨_, rfl⟩, ?_⟩
        have : strRep i k.toNat = i := by
          unfold strRep
          refine TL.ext_tl ?_
          rw [TL.tl_mk]
          rcases Bool.or_eq_true .. |>.mp e1 with z | z
          · have : k = 1 := by simpa using z
            rw [this]
            simp
          · have : i.length = 0 := by simpa using z
            rw [(TL.len0_tl i).mp this]
            simp
        rw [this] at q
        exact q
      · rw [if_neg e1]
        have e : (⟨(List.replicate k.toNat i.cps).foldl (· ++ ·) #[]⟩ : Str) = strRep i k.toNat := by
          refine TL.ext_tl ?_
          unfold strRep
          rw [TL.tl_mk]
          show ((List.replicate k.toNat i.cps).foldl (· ++ ·) #[]).toList = _
          rw [fold_rep]
          rfl
        rw [e]
        refine ⟨?_, .str (strRep i k.toNat), H, I.tok _, ⟨_, rfl⟩, q⟩
        have l2 : (strRep i k.toNat).length = i.length * k.toNat := by
          rw [TL.len_tl]
          unfold strRep
          rw [TL.tl_mk, List.length_flatten, List.map_replicate, List.sum_replicate_nat, ← TL.len_tl, Nat.mul_comm]
        rw [l2]
        exact Nat.le_trans lm (by decide)
end L2
namespace Rt
open PySem L2 PySem.Spec PyProof.Rows
section
variable {P : Program} {w : World} {K : PySem.W.Frag} {mg : Str → Option Value} {base : Heap}

/-! ### words -/
abbrev strI (i : Int) : Str := toString i
/-- a word: some signs, no blank among them -/
def wordOk (w : Str) : Bool := decide (w.length ≤ 20) && decide (1 ≤ w.length) && (TL.tl w).all (fun c => c != 32)
def numOk (i : Int) : Bool := wordOk (strI i) && decide (PySem.intText? (strI i) = some i) && decide (i.natAbs.log2 < 1920)
theorem numOk_all : ((List.range 201).all fun (k : Nat) => numOk ((k : Int) - 100)) = true := by decide +kernel
theorem numOk_of {i : Int} (h1 : -100 ≤ i) (h2 : i ≤ 100) : numOk i = true := by
  have := List.all_eq_true.mp numOk_all (i + 100).toNat (List.mem_range.mpr (by omega))
  rw [Int.toNat_of_nonneg (by omega), Int.add_sub_cancel] at this
  exact this
theorem num_word {i : Int} (h1 : -100 ≤ i) (h2 : i ≤ 100) : wordOk (strI i) = true := by
  have := numOk_of h1 h2
  unfold numOk at this
  rw [Bool.and_eq_true, Bool.and_eq_true] at this
  exact this.1.1
theorem num_text {i : Int} (h1 : -100 ≤ i) (h2 : i ≤ 100) : PySem.intText? (strI i) = some i := by
  have := numOk_of h1 h2
  unfold numOk at this
  rw [Bool.and_eq_true, Bool.and_eq_true] at this
  exact of_decide_eq_true this.1.2
theorem num_log {i : Int} (h1 : -100 ≤ i) (h2 : i ≤ 100) : i.natAbs.log2 < 1920 := by
  have := numOk_of h1 h2
  unfold numOk at this
  rw [Bool.and_eq_true] at this
  exact of_decide_eq_true this.2
theorem word_len {w : Str} (h : wordOk w = true) : w.length ≤ 20 ∧ 1 ≤ w.length := by
  unfold wordOk at h
  rw [Bool.and_eq_true, Bool.and_eq_true] at h
  exact ⟨of_decide_eq_true h.1.1, of_decide_eq_true h.1.2⟩
theorem word_no32 {w : Str} (h : wordOk w = true) : 32 ∉ TL.tl w := fun m => by
  unfold wordOk at h
  rw [Bool.and_eq_true] at h
  have := List.all_eq_true.mp h.2 32 m
  cases this
/-- the words of a text -/
def wordsOf (s : Str) : List Str := (Txt.split s " ").filter fun w => decide (w ≠ Str.empty)
theorem str_ne {a b : Str} : decide (V.str a = V.str b) = decide (a = b) := by
  rw [Bool.eq_iff_iff]
  simp
theorem words_join {ws : List Str} (h : ∀ w ∈ ws, w = Str.empty ∨ wordOk w = true) : wordsOf (Txt.join " " ws) = ws.filter fun w => decide (w ≠ Str.empty) := by
  unfold wordsOf
  by_cases e : ws = []
  · rw [e]
    decide +kernel
  · rw [TL.split_join (y := " ") (s := 32) (S := []) (by decide +kernel) (by decide +kernel) e]
    intro p hp
    rcases h p hp with z | z
    · rw [z]
      intro m
      cases m
    · exact word_no32 z
theorem words_of {ws : List Str} (h : ∀ w ∈ ws, wordOk w = true) : wordsOf (Txt.join " " ws) = ws := by
  rw [words_join fun w hw => .inr (h w hw), List.filter_eq_self]
  intro w hw
  refine decide_eq_true fun z => ?_
  have := (word_len (h w hw)).2
  rw [z] at this
  cases this
/-- the words that can stand at each place -/
def numsL (lo hi : Int) : List Str := (List.range (hi + 1 - lo).toNat).map fun (k : Nat) => strI (lo + (k : Int))
def lotsL : List (List Str) := [["base"], numsL 2 16, ["take"], numsL 1 2, ["times"], numsL (-100) 100]
theorem numsL_mem {lo hi : Int} {w : Str} (h : w ∈ numsL lo hi) : ∃ i, lo ≤ i ∧ i ≤ hi ∧ w = strI i := by
  obtain ⟨k, hk, rfl⟩ := List.mem_map.mp h
  have := List.mem_range.mp hk
  exact ⟨lo + (k : Int), by omega, by omega, rfl⟩
theorem numsL_of {lo hi i : Int} (h1 : lo ≤ i) (h2 : i ≤ hi) : strI i ∈ numsL lo hi := by
  refine List.mem_map.mpr ⟨(i - lo).toNat, List.mem_range.mpr (by omega), ?_⟩
  have e : lo + ((i - lo).toNat : Int) = i := by omega
  show strI (lo + ((i - lo).toNat : Int)) = strI i
  rw [e]
/-- no word that can stand there is at this place -/
def badAt (ws : List Str) (i : Nat) : Bool := match ws[i]? with
  | none => true
  | some w => !((lotsL.getD i []).elem w)
def verdT (ws : List Str) : Option Nat := match (List.range 6).find? (badAt ws) with
  | some i => some (i + 1)
  | none => if 6 < ws.length then some 7 else none
theorem inV_strs (w : Str) (zs : List Str) : inV (.str w) (zs.map V.str) = zs.elem w := by
  unfold inV
  rw [List.any_map]
  induction zs with
  | nil => rfl
  | cons z zs ih =>
    rw [List.any_cons, List.elem_cons, ih]
    show ((z == w) || _) = (match w == z with | true => true | false => zs.elem w)
    have : (z == w) = (w == z) := by rw [Bool.eq_iff_iff, beq_iff_eq, beq_iff_eq]; exact ⟨Eq.symm, Eq.symm⟩
    rw [this]
    cases w == z <;> rfl
theorem flat_strs (zs : List Str) : (zs.map V.str).all flatV = true := by
  rw [List.all_map]
  exact List.all_eq_true.mpr fun _ _ => rfl
theorem bad_none {ws : List Str} {i : Nat} (h : ws.length ≤ i) : badAt ws i = true := by
  unfold badAt
  rw [List.getElem?_eq_none h]
theorem bad_some {ws : List Str} {i : Nat} {w : Str} (h : ws[i]? = some w) : badAt ws i = !((lotsL.getD i []).elem w) := by
  unfold badAt
  rw [h]
/-! ### str(n) of a stretch -/
def spWritten (K : PySem.W.Frag) : Sp := fun vs H Q _ => ∃ lo hi : Int, vs = [.int lo, .int hi] ∧ -100 ≤ lo ∧ lo ≤ 100 ∧ hi ≤ 100 ∧ lo ≤ hi + 1 ∧ ∀ (D : Addr) (H' : Hp), Same H H' → H D = none → H' D = some (.lst ((numsL lo hi).map V.str)) → Q (.ref D) H'
theorem ok_written (T : Tx P K mg) : FnOk P w K mg base CX0 lv_written T.a_written T.d_written ["low", "high"] (spWritten K) := by
  refine T.F_written.ok sc_written (fun vs H Q E h => ?_) (fun cdv A outer s H vs Q E hr h => ?_)
  · obtain ⟨lo, hi, rfl, _⟩ := h
    rfl
  · obtain ⟨lo, hi, rfl, l1, l2, h2, h3, k⟩ := h
    refine ⟨_, (pss_one (ps_ret (pe_lc (own := [("n", 2)]) (g := gName 2) (tt := tYes) rfl sc_written.nd (pi_range2 (by rfl) T.n_range (pa_cons (pv 0) (pa_cons (pe_op op_add (pv 1) pe_int) pa_nil))) (blkOk_by (own := [("n", 2)]) (N := ["low", "high", "n"]) (sc := defScope s_written) (by decide +kernel)) (fun _ _ _ _ _ => pg_name (i := 2) sc_written.nd rfl (Or.inl rfl)) (fun _ _ _ _ _ => pts_nil) (fun _ _ _ _ _ => (pe_callTy call_str_int (by rfl) T.n_str (by decide +kernel) (pa_cons (pv 2) pa_nil)))))), ?_⟩
    refine ⟨_, rfl, _, rfl, _, _, rfl, rfl, lo, hi + 1, rfl, ⟨by omega, by omega, by omega, by omega⟩, fun D hD => ?_⟩
    refine lc_range (lo := lo) (n := (hi + 1 - lo).toNat) (fun i H2 => Same H H2 ∧ H2 D = some (.lst (((List.range i).map fun (k : Nat) => strI (lo + (k : Int))).map V.str))) ⟨same_upd hD, by rw [upd_same]; rfl⟩ ?_ ?_
    · rintro i H2 hi2 ⟨S2, hL⟩
      refine ⟨rfl, _, rfl, _, rfl, num_log (by omega) (by omega), _, hL, by rw [List.length_map, List.length_map, List.length_range]; exact small1000 (by omega), fun c o e => ?_, ?_⟩
      · rw [upd_ne (ne_of_none e hD)]
        exact S2 _ _ e
      · rw [upd_same, List.range_succ, List.map_append, List.map_append]
        rfl
    · rintro H2 ⟨S2, hL⟩
      exact k D H2 S2 hD hL
/-- the lists of the words that can stand -/
def Lots (H : Hp) (ys : List V) : Prop := ys.length = 6 ∧ ∀ (i : Nat) (y : V), ys[i]? = some y → ∃ l, y = .ref l ∧ H l = some (.lst ((lotsL.getD i []).map V.str))
theorem Lots.same {H H2 : Hp} {ys : List V} (h : Lots H ys) (S : Same H H2) : Lots H2 ys := ⟨h.1, fun i y hy => let ⟨l, e, hl⟩ := h.2 i y hy; ⟨l, e, S _ _ hl⟩⟩
theorem lots_of {H : Hp} {a b c d e f : Addr} (ha : H a = some (.lst [.str "base"])) (hb : H b = some (.lst ((numsL 2 16).map V.str))) (hc : H c = some (.lst [.str "take"])) (hd : H d = some (.lst ((numsL 1 2).map V.str))) (he : H e = some (.lst [.str "times"])) (hf : H f = some (.lst ((numsL (-100) 100).map V.str))) :
    Lots H [.ref a, .ref b, .ref c, .ref d, .ref e, .ref f] := by
  refine ⟨rfl, fun i y hy => ?_⟩
  match i, hy with
  | 0, hy => cases hy; exact ⟨a, rfl, ha⟩
  | 1, hy => cases hy; exact ⟨b, rfl, hb⟩
  | 2, hy => cases hy; exact ⟨c, rfl, hc⟩
  | 3, hy => cases hy; exact ⟨d, rfl, hd⟩
  | 4, hy => cases hy; exact ⟨e, rfl, he⟩
  | 5, hy => cases hy; exact ⟨f, rfl, hf⟩
  | i + 6, hy => cases hy
def spPossible (K : PySem.W.Frag) : Sp := fun vs H Q _ => vs = [] ∧ ∀ (L : Addr) (ys : List V) (H' : Hp), Same H H' → H' L = some (.lst ys) → Lots H' ys → Q (.ref L) H'
theorem ok_possible_words (T : Tx P K mg) : FnOk P w K mg base CX0 lv_possible_words T.a_possible_words T.d_possible_words [] (spPossible K) := by
  refine T.F_possible_words.ok sc_possible_words (fun vs H Q E h => ?_) (fun cdv A outer s H vs Q E hr h => ?_)
  · obtain ⟨rfl, _⟩ := h
    rfl
  · obtain ⟨rfl, k⟩ := h
    refine ⟨_, (pss_one (ps_ret (pe_lst (pa_cons (pe_lst (pa_cons pe_str pa_nil)) (pa_cons (pe_call (ok_written T) (hr.mono (by decide)) rfl T.g_written T.F_written.kp T.b_written .nil pass0 (pa_cons (pe_glob (v := .int 2) rfl T.c_LEAST_BASE ⟨_, rfl⟩) (pa_cons (pe_glob (v := .int 16) rfl T.c_GREATEST_BASE ⟨_, rfl⟩) pa_nil))) (pa_cons (pe_lst (pa_cons pe_str pa_nil)) (pa_cons (pe_call (ok_written T) (hr.mono (by decide)) rfl T.g_written T.F_written.kp T.b_written .nil pass0 (pa_cons pe_int (pa_cons (pe_glob (v := .int 2) rfl T.c_GREATEST_TAKE ⟨_, rfl⟩) pa_nil))) (pa_cons (pe_lst (pa_cons pe_str pa_nil)) (pa_cons (pe_call (ok_written T) (hr.mono (by decide)) rfl T.g_written T.F_written.kp T.b_written .nil pass0 (pa_cons (pe_un un_neg (pe_glob (v := .int 100) rfl T.c_GREATEST_TIMES ⟨_, rfl⟩)) (pa_cons (pe_glob (v := .int 100) rfl T.c_GREATEST_TIMES ⟨_, rfl⟩) pa_nil))) pa_nil))))))))), ?_⟩
    refine ⟨by show 1 ≤ sizeLine; decide, fun a ha => ?_⟩
    refine ⟨2, 16, rfl, by decide, by decide, by decide, by decide, fun b H2 S2 hb0 hb => ?_⟩
    refine ⟨by show 1 ≤ sizeLine; decide, fun c hc => ?_⟩
    refine ⟨1, 2, rfl, by decide, by decide, by decide, by decide, fun d H4 S4 hd0 hd => ?_⟩
    refine ⟨by show 1 ≤ sizeLine; decide, fun e he => ?_⟩
    refine ⟨_, rfl, -100, 100, rfl, by decide, by decide, by decide, by decide, fun f H6 S6 hf0 hf => ?_⟩
    refine ⟨by show 6 ≤ sizeLine; decide, fun L hL => ?_⟩
    have SL := same_upd (o := .lst [.ref a, .ref b, .ref c, .ref d, .ref e, .ref f]) hL
    have T6 := S6.trans SL
    have T5 := (same_upd (o := .lst [.str "times"]) he).trans T6
    have T4 := S4.trans T5
    have T3 := (same_upd (o := .lst [.str "take"]) hc).trans T4
    have T2 := S2.trans T3
    have T1 := (same_upd (o := .lst [.str "base"]) ha).trans T2
    exact k L _ _ T1 upd_same (lots_of (T2 _ _ upd_same) (T3 _ _ hb) (T4 _ _ upd_same) (T5 _ _ hd) (T6 _ _ upd_same) (SL _ _ hf))

/-! ### the text of a trick -/
theorem len_app (x y : Str) : (x ++ y).length = x.length + y.length := by
  rw [TL.len_tl, TL.tl_append, List.length_append, ← TL.len_tl, ← TL.len_tl]
def trickW (b t m : Int) : List Str := ["base", strI b, "take", strI t, "times", strI m]
def trickS (b t m : Int) : Str := Txt.join " " (trickW b t m)
theorem trickS_eq (b t m : Int) : Str.empty ++ "base " ++ strI b ++ " take " ++ strI t ++ " times " ++ strI m = trickS b t m := by
  refine TL.ext_tl ?_
  unfold trickS trickW
  rw [TL.join_eq, TL.tl_join]
  simp only [TL.tl_append, List.map_cons, List.map_nil, TL.joinL]
  rw [show TL.tl ("base " : Str) = TL.tl "base" ++ TL.tl " " by decide +kernel, show TL.tl (" take " : Str) = TL.tl " " ++ (TL.tl "take" ++ TL.tl " ") by decide +kernel, show TL.tl (" times " : Str) = TL.tl " " ++ (TL.tl "times" ++ TL.tl " ") by decide +kernel, show TL.tl Str.empty = [] from rfl]
  simp only [List.nil_append, List.append_assoc]
theorem trickW_ok {b t m : Int} (b1 : 2 ≤ b) (b2 : b ≤ 16) (t1 : 1 ≤ t) (t2 : t ≤ 2) (m1 : -100 ≤ m) (m2 : m ≤ 100) : ∀ w ∈ trickW b t m, wordOk w = true := by
  intro w hw
  unfold trickW at hw
  simp only [List.mem_cons, List.not_mem_nil, or_false] at hw
  rcases hw with rfl | rfl | rfl | rfl | rfl | rfl
  · decide +kernel
  · exact num_word (by omega) (by omega)
  · decide +kernel
  · exact num_word (by omega) (by omega)
  · decide +kernel
  · exact num_word m1 m2
def spWrite (T : Tx P K mg) : Sp := fun vs H Q _ => ∃ (p : Addr) (b t m : Int), vs = [.ref p] ∧ TrickAt T H p b t m ∧ Q (.str (trickS b t m)) H
theorem ok_write (T : Tx P K mg) : FnOk P w K mg base CX0 lv_write T.a_write T.d_write ["trick"] (spWrite T) := by
  refine T.F_write.ok sc_write (fun vs H Q E h => ?_) (fun cdv A outer s H vs Q E hr h => ?_)
  · obtain ⟨p, b, t, m, rfl, _⟩ := h
    rfl
  · obtain ⟨p, b, t, m, rfl, a, k⟩ := h
    obtain ⟨⟨dx, e⟩, b1, b2, t1, t2, m1, m2⟩ := id a
    refine ⟨_, (pss_cons (ps_expr (pe_call (ok_check_trick T) (hr.mono (by decide)) rfl T.g_check_trick T.F_check_trick.kp T.b_check_trick .nil passL (pa_cons (pv 0) pa_nil)))
      (pss_one (ps_ret (pe_joined (PJ.cons pe_str (PJ.cons (pe_fmt (pe_prop (pv 0) T.cl_Trick T.p_Trick_base (ok_Trick_base T) (hr.mono (by decide)) T.b_Trick_base .nil pass0 rfl)) (PJ.cons pe_str (PJ.cons (pe_fmt (pe_prop (pv 0) T.cl_Trick T.p_Trick_take (ok_Trick_take T) (hr.mono (by decide)) T.b_Trick_take .nil pass0 rfl)) (PJ.cons pe_str (PJ.cons (pe_fmt (pe_prop (pv 0) T.cl_Trick T.p_Trick_times (ok_Trick_times T) (hr.mono (by decide)) T.b_Trick_times .nil pass0 rfl)) PJ.nil)))))))))), ?_⟩
    have hs : (1000 : Nat) ≤ sizeLine := by decide
    have lb := (word_len (num_word (i := b) (by omega) (by omega))).1
    have lt := (word_len (num_word (i := t) (by omega) (by omega))).1
    have lm := (word_len (num_word m1 m2)).1
    have c1 : ("base " : Str).length = 5 := by decide +kernel
    have c2 : (" take " : Str).length = 6 := by decide +kernel
    have c3 : (" times " : Str).length = 7 := by decide +kernel
    have c0 : Str.empty.length = 0 := by decide +kernel
    refine ⟨_, rfl, _, rfl, .inl ⟨p, dx, _, rfl, e, ?_⟩⟩
    refine ⟨"base ", rfl, by rw [len_app]; omega, ?_⟩
    refine ⟨_, rfl, p, dx, _, rfl, e, p, b, t, m, rfl, a, .inr ⟨b, rfl, num_log (by omega) (by omega), strI b, rfl, by rw [len_app, len_app]; omega, ?_⟩⟩
    refine ⟨" take ", rfl, by rw [len_app, len_app, len_app]; omega, ?_⟩
    refine ⟨_, rfl, p, dx, _, rfl, e, p, b, t, m, rfl, a, .inr ⟨t, rfl, num_log (by omega) (by omega), strI t, rfl, by rw [len_app, len_app, len_app, len_app]; omega, ?_⟩⟩
    refine ⟨" times ", rfl, by rw [len_app, len_app, len_app, len_app, len_app]; omega, ?_⟩
    refine ⟨_, rfl, p, dx, _, rfl, e, p, b, t, m, rfl, a, .inr ⟨m, rfl, num_log m1 m2, strI m, rfl, by rw [len_app, len_app, len_app, len_app, len_app, len_app]; omega, ?_⟩⟩
    show Q (.str (Str.empty ++ "base " ++ strI b ++ " take " ++ strI t ++ " times " ++ strI m)) H
    rw [trickS_eq]
    exact k

/-! ### read -/
def errI (T : Tx P K mg) (E : XK) (H : Hp) (k : Nat) : Prop := ∀ H2 d, Same H H2 → H2 d = none → E (.ref T.C_InvalidText) (some d) (upd H2 d (.xd [(("word" : Str), .int (k : Nat))]))
def spRead (T : Tx P K mg) : Sp := fun vs H Q E => ∃ s : Str, vs = [.str s] ∧ s.length ≤ 100000 ∧ (wordsOf s).length ≤ 1000 ∧ (Txt.split s " ").length ≤ 1000 ∧ (∀ k, verdT (wordsOf s) = some k → errI T E H k) ∧
  (∀ b t m : Int, wordsOf s = trickW b t m → 2 ≤ b → b ≤ 16 → 1 ≤ t → t ≤ 2 → -100 ≤ m → m ≤ 100 → ∀ (p : Addr) (H' : Hp), Same H H' → TrickAt T H' p b t m → Q (.ref p) H')
theorem verd_at {ws : List Str} {i : Nat} (h : ∀ j, j < i → badAt ws j = false) (hb : badAt ws i = true) (hi : i < 6) : verdT ws = some (i + 1) := by
  unfold verdT
  have : (List.range 6).find? (badAt ws) = some i := by
    rw [List.find?_range_eq_some]
    exact ⟨hb, List.mem_range.mpr hi, fun j hj => by rw [h j hj]; rfl⟩
  rw [this]
theorem verd_all {ws : List Str} (h : ∀ j, j < 6 → badAt ws j = false) : verdT ws = if 6 < ws.length then some 7 else none := by
  unfold verdT
  have : (List.range 6).find? (badAt ws) = none := by
    rw [List.find?_eq_none]
    exact fun j hj => by rw [h j (List.mem_range.mp hj)]; exact Bool.false_ne_true
  rw [this]
theorem good_at {ws : List Str} {i : Nat} (h : badAt ws i = false) : ∃ w, ws[i]? = some w ∧ w ∈ lotsL.getD i [] := by
  unfold badAt at h
  split at h
  · cases h
  · rename_i w e
    refine ⟨w, e, ?_⟩
    have : (lotsL.getD i []).elem w = true := by simpa using h
    exact List.elem_iff.mp this
theorem good_all {ws : List Str} (h : ∀ j, j < 6 → badAt ws j = false) (hl : ¬ 6 < ws.length) : ∃ b t m : Int, ws = trickW b t m ∧ 2 ≤ b ∧ b ≤ 16 ∧ 1 ≤ t ∧ t ≤ 2 ∧ -100 ≤ m ∧ m ≤ 100 := by
  obtain ⟨w0, e0, m0⟩ := good_at (h 0 (by decide))
  obtain ⟨w1, e1, m1⟩ := good_at (h 1 (by decide))
  obtain ⟨w2, e2, m2⟩ := good_at (h 2 (by decide))
  obtain ⟨w3, e3, m3⟩ := good_at (h 3 (by decide))
  obtain ⟨w4, e4, m4⟩ := good_at (h 4 (by decide))
  obtain ⟨w5, e5, m5⟩ := good_at (h 5 (by decide))
  have l5 := (List.getElem?_eq_some_iff.mp e5).1
  obtain ⟨x0, x1, x2, x3, x4, x5, rfl⟩ : ∃ a b c d e f, ws = [a, b, c, d, e, f] := match ws, (show ws.length = 6 by omega) with
    | [a, b, c, d, e, f], _ => ⟨a, b, c, d, e, f, rfl⟩
  cases e0; cases e1; cases e2; cases e3; cases e4; cases e5
  obtain ⟨b, b1, b2, rfl⟩ := numsL_mem (lo := 2) (hi := 16) m1
  obtain ⟨t, t1, t2, rfl⟩ := numsL_mem (lo := 1) (hi := 2) m3
  obtain ⟨m, c1, c2, rfl⟩ := numsL_mem (lo := -100) (hi := 100) m5
  have g0 := List.mem_singleton.mp (show w0 ∈ [("base" : Str)] from m0)
  have g2 := List.mem_singleton.mp (show w2 ∈ [("take" : Str)] from m2)
  have g4 := List.mem_singleton.mp (show w4 ∈ [("times" : Str)] from m4)
  subst g0 g2 g4
  exact ⟨b, t, m, rfl, b1, b2, t1, t2, c1, c2⟩
theorem ok_read (T : Tx P K mg) : FnOk P w K mg base (L2.CX P w) lv_read T.a_read T.d_read ["text"] (spRead T) := by
  refine T.F_read.okX sc_read (fun vs H Q E h => ?_) (fun cdv A outer s H vs Q E hr h => ?_)
  · obtain ⟨s, rfl, _⟩ := h
    rfl
  · obtain ⟨x, rfl, lx, lw, ls, e, k⟩ := h
    refine ⟨_, (pss_cons (ps_setLc (i := 1) (own := [("word", 5)]) (g := gName 5) rfl sc_read.nd rfl rfl (sw_true rfl rfl rfl (by decide +kernel)) (pi_list (pe_split (pv 0) pe_str)) (blkOk_by (own := [("word", 5)]) (N := ["text", "words", "places", "place", "possible", "word"]) (sc := defScope s_read) (by decide +kernel)) (fun _ _ _ _ _ => pg_name (i := 5) sc_read.nd rfl (Or.inl rfl)) (fun _ _ _ _ _ => pts_one (pt_cmpR op_ne (pv 5) pe_str (nomark _))) (fun _ _ _ _ _ => (pv 5)))
      (pss_cons (ps_set (i := 2) sc_read.nd rfl (Or.inl rfl) (pe_call0 (ok_possible_words T) (hr.mono (by decide)) rfl T.g_possible_words T.F_possible_words.kp T.b_possible_words .nil pass0))
      (pss_cons (ps_for (passes_of rfl) rfl (pi_enum (by rfl) T.n_enumerate (pa_cons (pv 2) pa_nil)) (pg_tup rfl (pgs_cons (pg_name (i := 3) sc_read.nd rfl (Or.inl rfl)) (pgs_cons (pg_name (i := 4) sc_read.nd rfl (Or.inl rfl)) pgs_nil))) (pss_one (ps_if (PW.pt (pw_or (pt_cmpR op_eq (pv 3) (pe_callB call_len_seq (by rfl) T.n_len (by decide +kernel) (pa_cons (pv 1) pa_nil)) (nomark _)) (pw_or1 (pt_cmpR op_notIn_seq (pe_ix ix_list (pv 1) (pv 3) (fun _ _ => rfl)) (pv 4) (by with_unfolding_all rfl))))) (pss_one (ps_raiseF T.x_InvalidText ar_InvalidText rfl hr (takes_of rfl rfl rfl rfl) (pa_cons (pe_op op_add (pv 3) pe_int) pa_nil))) pss_nil)))
      (pss_cons (ps_if (pt_cmpR op_gt (pe_callB call_len_seq (by rfl) T.n_len (by decide +kernel) (pa_cons (pv 1) pa_nil)) (pe_callB call_len_seq (by rfl) T.n_len (by decide +kernel) (pa_cons (pv 2) pa_nil)) (nomark _)) (pss_one (ps_raiseF T.x_InvalidText ar_InvalidText rfl hr (takes_of rfl rfl rfl rfl) (pa_cons (pe_op op_add (pe_callB call_len_seq (by rfl) T.n_len (by decide +kernel) (pa_cons (pv 2) pa_nil)) pe_int) pa_nil))) pss_nil)
      (pss_one (ps_ret (pe_make T.mk_Trick (ok_Trick___init__ T) (hr.mono (by decide)) rfl T.g_Trick T.b_Trick___init__ .nil pass0 (pa_cons (pe_callTy call_int_str (by rfl) T.n_int (by decide +kernel) (pa_cons (pe_ix ix_list (pv 1) pe_int (fun _ _ => rfl)) pa_nil)) (pa_cons (pe_callTy call_int_str (by rfl) T.n_int (by decide +kernel) (pa_cons (pe_ix ix_list (pv 1) pe_int (fun _ _ => rfl)) pa_nil)) (pa_cons (pe_callTy call_int_str (by rfl) T.n_int (by decide +kernel) (pa_cons (pe_ix ix_list (pv 1) pe_int (fun _ _ => rfl)) pa_nil)) pa_nil)))))))))), ?_⟩
    have hs : (200000 : Nat) ≤ sizeLine := by decide
    refine ⟨_, rfl, ⟨x, rfl⟩, x, " ", rfl, rfl, by decide +kernel, by omega, fun p hp => ?_⟩
    refine ⟨p, rfl, ⟨_, SqL.of upd_same⟩, fun W hW => ?_⟩
    have Sp := same_upd (o := .lst ((Txt.split x " ").map V.str)) hp
    refine lc_it walk_list (fun i H2 => Same (upd H p (.lst ((Txt.split x " ").map V.str))) H2 ∧ H2 W = some (.lst ((((Txt.split x " ").take i).filter fun w => decide (w ≠ Str.empty)).map V.str))) ⟨same_upd hW, by rw [upd_same]; rfl⟩ (fun i H2 _ ⟨S2, _⟩ => SqL.of (S2 _ _ upd_same)) ?_ ?_
    · rintro i y H2 H3 hi ⟨S2, hW2⟩ ⟨rfl, hy⟩
      rw [List.getElem?_map] at hy
      obtain ⟨z, hz, rfl⟩ := Option.map_eq_some_iff.mp hy
      refine ⟨rfl, _, rfl, rfl, _, rfl, ?_⟩
      rw [str_ne]
      have tk : (Txt.split x " ").take (i + 1) = (Txt.split x " ").take i ++ [z] := by
        rw [List.take_succ, hz]
        rfl
      have se : ("" : Str) = Str.empty := by decide +kernel
      rw [se]
      refine ite2 (fun g => ?_) (fun g => ?_)
      · have g1 : decide (z ≠ Str.empty) = true := by simpa using g
        refine ⟨_, rfl, _, hW2, ?_, fun c o hc => ?_, ?_⟩
        · rw [List.length_map]
          have := List.length_filter_le (fun w => decide (w ≠ Str.empty)) ((Txt.split x " ").take i)
          rw [List.length_take] at this
          exact small5 (by omega)
        · rw [upd_ne (ne_of_none hc hW)]
          exact S2 _ _ hc
        · rw [upd_same, tk, List.filter_append, List.map_append]
          simp only [List.filter_cons, g1, if_true, List.filter_nil]
          rfl
      · have g1 : decide (z ≠ Str.empty) = false := by simpa using g
        refine ⟨S2, ?_⟩
        rw [tk, List.filter_append]
        simp only [List.filter_cons, g1, List.filter_nil]
        rw [if_neg Bool.false_ne_true, List.append_nil]
        exact hW2
    · rintro H2 ⟨S2, hW2⟩
      rw [List.length_map, List.take_length] at hW2
      change H2 W = some (.lst ((wordsOf x).map V.str)) at hW2
      have S02 := Sp.trans S2
      generalize hws : wordsOf x = ws at *
      refine ⟨rfl, fun L ys H3 S3 hL hl => ?_⟩
      have hW3 := S3 _ _ hW2
      refine ⟨_, rfl, L, ys, rfl, SqL.of hL, ?_⟩
      refine for_it walk_enum (fun i σ H4 => ∃ v3 v4 : Option V, Same H3 H4 ∧ (∀ j, j < i → badAt ws j = false) ∧ σ = [some (.str x), some (.ref W), some (.ref L), v3, v4, none]) ⟨none, none, Same.refl H3, fun j hj => absurd hj (Nat.not_lt_zero _), rfl⟩ (fun i σ H4 _ ⟨_, _, S4, _⟩ => SqL.of (S4 _ _ hL)) ?_ ?_
      · rintro i x' σ H4 H5 hin ⟨v3, v4, S4, hall, rfl⟩ ⟨q, x2, y, rfl, nq, rfl, e2', hy⟩
        cases e2'
        have hy : ys[i]? = some y := hy
        obtain ⟨l, rfl, hl4⟩ := (hl.same S4).2 i y hy
        have S5 := same_upd (o := .tup [.int (i : Nat), .ref l]) nq
        have hW5 := S5 _ _ (S4 _ _ hW3)
        have hl5 := S5 _ _ hl4
        have S05 := S02.trans (S3.trans (S4.trans S5))
        have l6 := hl.1
        have sm : ((i : Int) + 1).natAbs.log2 < 1920 := Nat.lt_of_le_of_lt (Nat.log2_le_self _) (by omega)
        have bad : badAt ws i = true → errI T E H (i + 1) := fun hb => e _ (verd_at hall hb (by omega))
        refine ⟨q, _, rfl, SqT.of upd_same, rfl, _, _, rfl, _, _, rfl, rfl, ?_⟩
        refine ⟨_, rfl, _, rfl, W, _, rfl, .inl (SqL.of hW5), rfl, _, rfl, ?_⟩
        rw [dec_i, List.length_map]
        refine ite2 (fun g => ?_) (fun g => ?_)
        · have g1 : (i : Int) = (ws.length : Int) := of_decide_eq_true g
          exact iteT ⟨_, rfl, _, _, rfl, rfl, _, rfl, .inr ⟨_, rfl, sm⟩, fun d hd => bad (bad_none (by omega)) _ d S05 hd⟩
        · have g1 : ¬ (i : Int) = (ws.length : Int) := fun z => g (decide_eq_true z)
          have li : i < ws.length := by
            rcases Nat.lt_or_ge i ws.length with z | z
            · exact z
            · rcases Nat.eq_zero_or_pos i with z0 | z0
              · omega
              · have := hall ws.length (by omega)
                rw [bad_none (Nat.le_refl _)] at this
                cases this
          obtain ⟨w, hw⟩ : ∃ w, ws[i]? = some w := ⟨_, List.getElem?_eq_getElem li⟩
          refine ⟨_, rfl, _, rfl, W, _, _, _, rfl, rfl, SqL.of hW5, at_of (j := i) (by omega) (by rw [List.getElem?_map, hw]; rfl), _, rfl, l, _, rfl, .inl (SqL.of hl5), rfl, flat_strs _, _, rfl, ?_⟩
          rw [inV_strs]
          have eb := bad_some hw
          refine ite2 (fun g2 => ?_) (fun g2 => ?_)
          · have g3 : (!(lotsL.getD i []).elem w) = true := g2
            exact ⟨_, rfl, _, _, rfl, rfl, _, rfl, .inr ⟨_, rfl, sm⟩, fun d hd => bad (eb.trans g3) _ d S05 hd⟩
          · have g3 : (!(lotsL.getD i []).elem w) = false := by
              have : ¬ (!(lotsL.getD i []).elem w) = true := g2
              simpa using this
            exact ⟨_, _, S4.trans S5, fun j hj => by
              rcases Nat.lt_or_ge j i with z | z
              · exact hall j z
              · rw [show j = i by omega]; exact eb.trans g3, rfl⟩
      · rintro σ H4 ⟨v3, v4, S4, hall, rfl⟩
        rw [hl.1] at hall
        have hW4 := S4 _ _ hW3
        have va := verd_all hall
        refine ⟨_, rfl, W, _, rfl, .inl (SqL.of hW4), _, rfl, L, _, rfl, .inl (SqL.of (S4 _ _ hL)), _, _, rfl, rfl, _, rfl, ?_⟩
        rw [List.length_map, hl.1]
        have S04 := S02.trans (S3.trans S4)
        refine ite2 (fun g => ?_) (fun g => ?_)
        · have g1 : 6 < ws.length := by
            have : ((6 : Nat) : Int) < (ws.length : Int) := of_decide_eq_true g
            omega
          rw [if_pos g1] at va
          exact ⟨_, rfl, L, _, rfl, .inl (SqL.of (S4 _ _ hL)), _, _, rfl, rfl, _, rfl, .inr ⟨_, rfl, by rw [hl.1]; decide⟩, fun d hd => by
            rw [hl.1]
            exact e 7 va _ d S04 hd⟩
        · have g1 : ¬ 6 < ws.length := fun z => g (decide_eq_true (by show ((6 : Nat) : Int) < (ws.length : Int); omega))
          obtain ⟨b, t, m, rfl, b1, b2, t1, t2, m1, m2⟩ := good_all hall g1
          have lw : ∀ {i : Int}, -100 ≤ i → i ≤ 100 → (strI i).length ≤ 640 := fun h1 h2 => Nat.le_trans (word_len (num_word h1 h2)).1 (by decide)
          refine ⟨_, rfl, W, _, _, _, rfl, rfl, SqL.of hW4, at_of (j := 1) rfl rfl, strI b, b, rfl, num_text (by omega) (by omega), lw (by omega) (by omega), ?_⟩
          refine ⟨_, rfl, W, _, _, _, rfl, rfl, SqL.of hW4, at_of (j := 3) rfl rfl, strI t, t, rfl, num_text (by omega) (by omega), lw (by omega) (by omega), ?_⟩
          refine ⟨_, rfl, W, _, _, _, rfl, rfl, SqL.of hW4, at_of (j := 5) rfl rfl, strI m, m, rfl, num_text m1 m2, lw m1 m2, ?_⟩
          exact fun p dx np nx nn => mk_trick np nx b1 b2 t1 t2 m1 m2 fun H5 hT S5 => k b t m rfl b1 b2 t1 t2 m1 m2 p H5 (S04.trans S5) hT

/-! ### the least number for which it fails -/
/-- None, or the number -/
def optV : Option Nat → V
  | none => .non
  | some n => .int (n : Int)
theorem find_at {f : Nat → Bool} {i k : Nat} (h : ∀ j, j < i → f j = false) (hf : f i = true) (hk : i < k) : (List.range k).find? f = some i := by
  rw [List.find?_range_eq_some]
  exact ⟨hf, List.mem_range.mpr hk, fun j hj => by rw [h j hj]; rfl⟩
theorem find_none {f : Nat → Bool} {k : Nat} (h : ∀ j, j < k → f j = false) : (List.range k).find? f = none := by
  rw [List.find?_eq_none]
  exact fun j hj => by rw [h j (List.mem_range.mp hj)]; exact Bool.false_ne_true
theorem find_succ (f : Nat → Bool) (i : Nat) : (List.range (i + 1)).find? f = ((List.range i).find? f).or (if f i = true then some i else none) := by
  rw [List.range_succ, List.find?_append]
  congr 1
  by_cases h : f i = true
  · rw [if_pos h]; simp [h]
  · rw [if_neg h]; simp [h]
theorem opt_non (o : Option Nat) : decide (optV o = .non) = o.isNone := by
  cases o <;> simp [optV]
theorem scal_opt (o u : Option Nat) : scal (optV o) (optV u) = true := by
  cases o <;> cases u <;> rfl

/-! ### texts of words -/
/-- a text with these words -/
structure TxtOk (s : Str) (ws : List Str) : Prop where
  len : s.length ≤ 100000
  split : (Txt.split s " ").length ≤ 1000
  words : wordsOf s = ws
  few : ws.length ≤ 1000
theorem joinL_len (S : List Nat) : ∀ (ps : List (List Nat)) (m : Nat), (∀ p ∈ ps, p.length ≤ m) → (TL.joinL S ps).length ≤ ps.length * (m + S.length)
  | [], _, _ => Nat.zero_le _
  | [p], m, h => by
    have := h p List.mem_cons_self
    show p.length ≤ 1 * (m + S.length)
    omega
  | p :: q :: r, m, h => by
    have h1 := h p List.mem_cons_self
    have h2 := joinL_len S (q :: r) m fun z hz => h z (List.mem_cons_of_mem _ hz)
    show (p ++ (S ++ TL.joinL S (q :: r))).length ≤ ((q :: r).length + 1) * (m + S.length)
    rw [List.length_append, List.length_append, Nat.add_mul]
    omega
theorem txt_join {ps : List Str} (h : ∀ p ∈ ps, p = Str.empty ∨ wordOk p = true) (hl : ps.length ≤ 500) : TxtOk (Txt.join " " ps) (ps.filter fun w => decide (w ≠ Str.empty)) := by
  refine ⟨?_, ?_, words_join h, ?_⟩
  · rw [TL.len_tl, TL.join_eq, TL.tl_join]
    have := joinL_len (TL.tl " ") (ps.map TL.tl) 20 fun p hp => by
      obtain ⟨z, hz, rfl⟩ := List.mem_map.mp hp
      rw [← TL.len_tl]
      rcases h z hz with e | e
      · rw [e]
        decide
      · exact (word_len e).1
    rw [List.length_map, show (TL.tl " ").length = 1 by decide +kernel] at this
    omega
  · by_cases e : ps = []
    · rw [e]
      decide +kernel
    · rw [TL.split_join (y := " ") (s := 32) (S := []) (by decide +kernel) (by decide +kernel) e]
      · omega
      · intro p hp
        rcases h p hp with z | z
        · rw [z]
          intro m
          cases m
        · exact word_no32 z
  · have := List.length_filter_le (fun w => decide (w ≠ Str.empty)) ps
    omega
theorem filter_words {ws : List Str} (h : ∀ w ∈ ws, wordOk w = true) : (ws.filter fun w => decide (w ≠ Str.empty)) = ws := by
  rw [List.filter_eq_self]
  intro w hw
  refine decide_eq_true fun z => ?_
  have := (word_len (h w hw)).2
  rw [z] at this
  cases this
theorem txt_words {ws : List Str} (h : ∀ w ∈ ws, wordOk w = true) (hl : ws.length ≤ 500) : TxtOk (Txt.join " " ws) ws := by
  have := txt_join (fun p hp => .inr (h p hp)) hl
  rw [filter_words h] at this
  exact this
/-- more blanks behind each word -/
def blankL : List Str → List Nat → List Str
  | w :: ws, u :: us => w :: (List.replicate u Str.empty ++ blankL ws us)
  | _, _ => [Str.empty]
theorem joinL_nil {S : List Nat} {X : List (List Nat)} (h : X ≠ []) : ∀ n : Nat, TL.joinL S (List.replicate n [] ++ X) = (List.replicate n S).flatten ++ TL.joinL S X
  | 0 => by simp
  | n + 1 => by
    rw [List.replicate_succ, List.replicate_succ, List.cons_append, List.flatten_cons, List.append_assoc, ← joinL_nil h n]
    have ne : List.replicate n ([] : List Nat) ++ X ≠ [] := by
      intro e
      rw [List.append_eq_nil_iff] at e
      exact h e.2
    match List.replicate n ([] : List Nat) ++ X, ne with
    | q :: r, _ => show [] ++ (S ++ TL.joinL S (q :: r)) = _; rw [List.nil_append]
theorem joinL_cons {S p : List Nat} {X : List (List Nat)} (h : X ≠ []) : TL.joinL S (p :: X) = p ++ (S ++ TL.joinL S X) := match X, h with
  | _ :: _, _ => rfl
theorem blankL_ne (ws : List Str) (us : List Nat) : (blankL ws us).map TL.tl ≠ [] := by
  cases ws <;> cases us <;> simp [blankL]
theorem blank_tl : ∀ (ws : List Str) (us : List Nat), ws.length = us.length → TL.joinL [32] ((blankL ws us).map TL.tl) = ((ws.zip us).map fun z => TL.tl z.1 ++ (List.replicate (1 + z.2) [32]).flatten).flatten
  | [], [], _ => rfl
  | w :: ws, u :: us, h => by
    have ih := blank_tl ws us (Nat.succ.inj h)
    show TL.joinL [32] (TL.tl w :: (List.replicate u Str.empty ++ blankL ws us).map TL.tl) = _
    rw [List.map_append, List.map_replicate, show TL.tl Str.empty = [] from rfl, joinL_cons (by
      intro e
      rw [List.append_eq_nil_iff] at e
      exact blankL_ne ws us e.2), joinL_nil (blankL_ne ws us), ih, List.zip_cons_cons, List.map_cons, List.flatten_cons, Nat.add_comm 1 u, List.replicate_succ, List.flatten_cons]
    simp only [List.append_assoc]
  | [], _ :: _, h => by cases h
  | _ :: _, [], h => by cases h
theorem blank_ok : ∀ (ws : List Str) (us : List Nat), (∀ w ∈ ws, wordOk w = true) → ∀ p ∈ blankL ws us, p = Str.empty ∨ wordOk p = true
  | [], _, _, p, hp => .inl (List.mem_singleton.mp hp)
  | _ :: _, [], _, p, hp => .inl (List.mem_singleton.mp hp)
  | w :: ws, u :: us, h, p, hp => by
    rcases List.mem_cons.mp hp with e | hp
    · exact .inr (e ▸ h w List.mem_cons_self)
    · rcases List.mem_append.mp hp with hp | hp
      · exact .inl (List.eq_of_mem_replicate hp)
      · exact blank_ok ws us (fun z hz => h z (List.mem_cons_of_mem _ hz)) p hp
theorem blank_filter : ∀ (ws : List Str) (us : List Nat), ws.length = us.length → (∀ w ∈ ws, wordOk w = true) → ((blankL ws us).filter fun w => decide (w ≠ Str.empty)) = ws
  | [], [], _, _ => by decide
  | w :: ws, u :: us, h, hw => by
    have ih := blank_filter ws us (Nat.succ.inj h) fun z hz => hw z (List.mem_cons_of_mem _ hz)
    have e1 : decide (w ≠ Str.empty) = true := by
      refine decide_eq_true fun z => ?_
      have := (word_len (hw w List.mem_cons_self)).2
      rw [z] at this
      cases this
    have e2 : (List.replicate u Str.empty).filter (fun w => decide (w ≠ Str.empty)) = [] := by
      rw [List.filter_eq_nil_iff]
      intro z hz
      rw [List.eq_of_mem_replicate hz]
      decide
    show (w :: (List.replicate u Str.empty ++ blankL ws us)).filter _ = _
    rw [List.filter_cons, if_pos e1, List.filter_append, e2, List.nil_append, ih]
  | [], _ :: _, h, _ => by cases h
  | _ :: _, [], h, _ => by cases h
theorem blank_len : ∀ (ws : List Str) (us : List Nat), (∀ u ∈ us, u ≤ 2) → (blankL ws us).length ≤ 3 * ws.length + 1
  | [], _, _ => by simp [blankL]
  | _ :: _, [], _ => by simp [blankL]
  | w :: ws, u :: us, h => by
    have ih := blank_len ws us fun z hz => h z (List.mem_cons_of_mem _ hz)
    have hu := h u List.mem_cons_self
    show (w :: (List.replicate u Str.empty ++ blankL ws us)).length ≤ _
    rw [List.length_cons, List.length_append, List.length_replicate, List.length_cons]
    omega
theorem tl_strRep (n : Nat) : TL.tl (strRep " " n) = (List.replicate n [32]).flatten := by
  unfold strRep
  rw [TL.tl_mk, show TL.tl (" " : Str) = [32] by decide +kernel]
theorem joinL_empty : ∀ l : List (List Nat), TL.joinL [] l = l.flatten
  | [] => rfl
  | [p] => by rw [List.flatten_cons, List.flatten_nil, List.append_nil]; rfl
  | p :: q :: r => by
    show p ++ ([] ++ TL.joinL [] (q :: r)) = _
    rw [joinL_empty (q :: r), List.nil_append, List.flatten_cons (l := p)]
/-- the text with more blanks -/
theorem wide_txt {ws : List Str} {us : List Nat} {n : Nat} (h : ws.length = us.length) (hw : ∀ w ∈ ws, wordOk w = true) (hl : ws.length ≤ 100) (hu : ∀ u ∈ us, u ≤ 2) (hn : n ≤ 2) :
    TxtOk (strRep " " n ++ Txt.join "" ((ws.zip us).map fun z => z.1 ++ strRep " " (1 + z.2))) ws := by
  have e : strRep " " n ++ Txt.join "" ((ws.zip us).map fun z => z.1 ++ strRep " " (1 + z.2)) = Txt.join " " (List.replicate n Str.empty ++ blankL ws us) := by
    refine TL.ext_tl ?_
    rw [TL.tl_append, TL.join_eq, TL.join_eq, TL.tl_join, TL.tl_join, tl_strRep, show TL.tl ("" : Str) = [] by decide +kernel, show TL.tl (" " : Str) = [32] by decide +kernel, joinL_empty, List.map_append, List.map_replicate, show TL.tl Str.empty = [] from rfl, joinL_nil (blankL_ne ws us), blank_tl ws us h]
    congr 2
    rw [List.map_map]
    refine List.map_congr_left fun z _ => ?_
    show TL.tl (z.1 ++ strRep " " (1 + z.2)) = _
    rw [TL.tl_append, tl_strRep]
  rw [e]
  have bl := blank_len ws us hu
  have := txt_join (ps := List.replicate n Str.empty ++ blankL ws us) (fun p hp => by
    rcases List.mem_append.mp hp with hp | hp
    · exact .inl (List.eq_of_mem_replicate hp)
    · exact blank_ok ws us hw p hp) (by rw [List.length_append, List.length_replicate]; omega)
  rw [List.filter_append, blank_filter ws us h hw, show (List.replicate n Str.empty).filter (fun w => decide (w ≠ Str.empty)) = [] from by
    rw [List.filter_eq_nil_iff]
    intro z hz
    rw [List.eq_of_mem_replicate hz]
    decide, List.nil_append] at this
  exact this

/-! ### how a text is refused -/
abbrev sp_read (T : Tx P K mg) : Sp := spRead T
def spRefused (K : PySem.W.Frag) : Sp := fun vs H Q _ => ∃ (s : Str) (ws : List Str), vs = [.str s] ∧ TxtOk s ws ∧ ∀ H', Same H H' → Q (optV (verdT ws)) H'
theorem ok__law_refused (T : Tx P K mg) : FnOk P w K mg base CX0 lv__law_refused T.a__law_refused T.d__law_refused ["_law_text"] (spRefused K) := by
  refine T.F__law_refused.ok sc__law_refused (fun vs H Q E h => ?_) (fun cdv A outer s H vs Q E hr h => ?_)
  · obtain ⟨s, ws, rfl, _⟩ := h
    rfl
  · obtain ⟨x, ws, rfl, ⟨l1, l2, ew, l3⟩, k⟩ := h
    refine ⟨_, (pss_cons (ps_set (i := 1) sc__law_refused.nd rfl (Or.inl rfl) pe_non)
      (pss_cons (ps_try_x (tb := fun W => (tDrop (tCall (sp_read T) [] (fun cls d H => ∀ σ : L2.St, σ.length = 3 → W cls d σ H) (tCons (tVar 0) tNil)))) rfl rfl sc__law_refused.nd takes0 (fun W pn xe tk _ => (pss_one (ps_expr (pe_call (ok_read T) (hr.mono (by decide)) rfl T.g_read T.F_read.kp T.b_read .nil (passN tk) (pa_cons (pv 0) pa_nil))))) (HdsX.as (i := 2) rfl rfl ⟨rfl, by decide, Or.inl T.g_InvalidText⟩ (fun a oe cls d pn hz hf => (pss_one (ps_set (i := 1) sc__law_refused.nd rfl (Or.inl rfl) (pe_errF T.x_InvalidText hz hf (pv 2))))) HdsX.nil))
      (pss_one (ps_ret (pv 1))))), ?_⟩
    have slots : ∀ {σ : L2.St}, σ.length = 3 → ∃ a b c, σ = [a, b, c] := fun {σ} h => match σ, h with
      | [a, b, c], _ => ⟨a, b, c, rfl⟩
    subst ew
    refine ⟨_, rfl, x, rfl, l1, l3, l2, fun n hn H2 d S2 hd σ hσ => ?_, fun b t m ew b1 b2 t1 t2 m1 m2 p H2 S2 hT => ?_⟩
    · obtain ⟨v1, v2, v3, rfl⟩ := slots hσ
      rw [hn] at k
      exact ⟨_, T.xm_InvalidText_InvalidText, fun _ c nc => ⟨_, rfl, rfl, rfl, d, _, rfl, upd_same, _, rfl, k _ (S2.trans (same_upd hd))⟩, fun z => nomatch z⟩
    · have : verdT (wordsOf x) = none := by
        have hb : ∀ j, j < 6 → badAt (wordsOf x) j = false := fun j hj => by
          rw [ew]
          have e1 := numsL_of (lo := 2) (hi := 16) b1 b2
          have e2 := numsL_of (lo := 1) (hi := 2) t1 t2
          have e3 := numsL_of (lo := -100) (hi := 100) m1 m2
          have g : ∀ {w : Str} {i : Nat}, (trickW b t m)[i]? = some w → w ∈ lotsL.getD i [] → badAt (trickW b t m) i = false := fun {w i} h1 h2 => by
            rw [bad_some h1, List.elem_iff.mpr h2]
            rfl
          match j, hj with
          | 0, _ => exact g (w := "base") rfl (List.mem_singleton.mpr rfl)
          | 1, _ => exact g rfl e1
          | 2, _ => exact g (w := "take") rfl (List.mem_singleton.mpr rfl)
          | 3, _ => exact g rfl e2
          | 4, _ => exact g (w := "times") rfl (List.mem_singleton.mpr rfl)
          | 5, _ => exact g rfl e3
        rw [verd_all hb, if_neg (by rw [ew]; show ¬ 6 < 6; decide)]
      rw [this] at k
      exact ⟨_, rfl, k _ S2⟩
def spWrong (K : PySem.W.Frag) : Sp := fun vs H Q _ => ∃ (W : Addr) (ws : List Str), vs = [.ref W] ∧ H W = some (.lst (ws.map V.str)) ∧ ws.length ≤ 1000 ∧ ∀ H', Same H H' → Q (optV (verdT ws)) H'
theorem ok__law_wrong (T : Tx P K mg) : FnOk P w K mg base CX0 lv__law_wrong T.a__law_wrong T.d__law_wrong ["_law_words"] (spWrong K) := by
  refine T.F__law_wrong.ok sc__law_wrong (fun vs H Q E h => ?_) (fun cdv A outer s H vs Q E hr h => ?_)
  · obtain ⟨W, ws, rfl, _⟩ := h
    rfl
  · obtain ⟨W, ws, rfl, hW, lw, k⟩ := h
    refine ⟨_, (Evl.pss_cut (ps_set (i := 1) sc__law_wrong.nd rfl (Or.inl rfl) (pe_lst (pa_cons (pe_lst (pa_cons pe_str pa_nil)) (pa_cons (pe_lc (own := [("_law_base", 3)]) (g := gName 3) (tt := tYes) rfl sc__law_wrong.nd (pi_range2 (by rfl) T.n_range (pa_cons pe_int (pa_cons pe_int pa_nil))) (blkOk_by (own := [("_law_base", 3)]) (N := ["_law_words", "_law_lots", "_law_at", "_law_base", "_law_times"]) (sc := defScope s__law_wrong) (by decide +kernel)) (fun _ _ _ _ _ => pg_name (i := 3) sc__law_wrong.nd rfl (Or.inl rfl)) (fun _ _ _ _ _ => pts_nil) (fun _ _ _ _ _ => (pe_callTy call_str_int (by rfl) T.n_str (by decide +kernel) (pa_cons (pv 3) pa_nil)))) (pa_cons (pe_lst (pa_cons pe_str pa_nil)) (pa_cons (pe_lst (pa_cons pe_str (pa_cons pe_str pa_nil))) (pa_cons (pe_lst (pa_cons pe_str pa_nil)) pa_nil)))))))
      (pss_cons (ps_expr (pe_bm PySem.F.plainAttrs_list PySem.F.slot_list_append PySem.F.type_list_append mt_append (pv 1) (pa_cons (pe_lc (own := [("_law_times", 4)]) (g := gName 4) (tt := tYes) rfl sc__law_wrong.nd (pi_range2 (by rfl) T.n_range (pa_cons (pe_un un_neg pe_int) (pa_cons pe_int pa_nil))) (blkOk_by (own := [("_law_times", 4)]) (N := ["_law_words", "_law_lots", "_law_at", "_law_base", "_law_times"]) (sc := defScope s__law_wrong) (by decide +kernel)) (fun _ _ _ _ _ => pg_name (i := 4) sc__law_wrong.nd rfl (Or.inl rfl)) (fun _ _ _ _ _ => pts_nil) (fun _ _ _ _ _ => (pe_callTy call_str_int (by rfl) T.n_str (by decide +kernel) (pa_cons (pv 4) pa_nil)))) pa_nil)))
      (pss_cons (ps_for PassesOwn.never rfl (pi_range1 (by rfl) T.n_range (pa_cons pe_int pa_nil)) (pg_name (i := 2) sc__law_wrong.nd rfl (Or.inl rfl)) (pss_one (ps_if (PW.pt (pw_or (pt_cmpR op_ge (pv 2) (pe_callB call_len_seq (by rfl) T.n_len (by decide +kernel) (pa_cons (pv 0) pa_nil)) (nomark _)) (pw_or1 (pt_cmpR op_notIn_seq (pe_ix ix_list (pv 0) (pv 2) (fun _ _ => rfl)) (pe_ix ix_list (pv 1) (pv 2) (fun _ _ => rfl)) (by with_unfolding_all rfl))))) (pss_one (ps_ret (pe_op op_add (pv 2) pe_int))) pss_nil)))
      (pss_one (ps_ret (pe_ifExp (pt_cmpR op_gt (pe_callB call_len_seq (by rfl) T.n_len (by decide +kernel) (pa_cons (pv 0) pa_nil)) pe_int (nomark _)) pe_int pe_non)))))), ?_⟩
    refine ⟨fun σ H1 => ∃ (L : Addr) (ys : List V) (x3 x4 : Option V), Same H H1 ∧ H1 L = some (.lst ys) ∧ ys.length = 5 ∧ (∀ (i : Nat) (y : V), ys[i]? = some y → ∃ l, y = .ref l ∧ l ≠ L ∧ H1 l = some (.lst ((lotsL.getD i []).map V.str))) ∧ H L = none ∧ σ = [some (.ref W), some (.ref L), none, x3, x4], ?_, ?_⟩
    · refine ⟨by show 1 ≤ sizeLine; decide, fun a ha => ?_⟩
      have S1 := same_upd (o := .lst [.str "base"]) ha
      refine ⟨_, _, rfl, ⟨by decide, by decide, by decide, by decide⟩, fun b hb => ?_⟩
      refine lc_range (lo := 2) (n := (17 - 2 : Int).toNat) (fun i H2 => Same (upd H a (.lst [.str "base"])) H2 ∧ H2 b = some (.lst (((List.range i).map fun (k : Nat) => strI (2 + (k : Int))).map V.str))) ⟨same_upd hb, by rw [upd_same]; rfl⟩ ?_ ?_
      · rintro i H2 hi2 ⟨S2, hL⟩
        have hi3 : i < 15 := hi2
        refine ⟨rfl, _, rfl, _, rfl, num_log (by omega) (by omega), _, hL, by rw [List.length_map, List.length_map, List.length_range]; exact small1000 (by omega), fun c o e => ?_, ?_⟩
        · rw [upd_ne (ne_of_none e hb)]
          exact S2 _ _ e
        · rw [upd_same, List.range_succ, List.map_append, List.map_append]
          rfl
      · rintro H2 ⟨S2, hb2⟩
        refine ⟨by show 1 ≤ sizeLine; decide, fun c hc => ?_⟩
        refine ⟨by show 2 ≤ sizeLine; decide, fun d hd => ?_⟩
        refine ⟨by show 1 ≤ sizeLine; decide, fun e he => ?_⟩
        refine ⟨by show 5 ≤ sizeLine; decide, fun L hL => ?_⟩
        have SL := same_upd (o := .lst [.ref a, .ref b, .ref c, .ref d, .ref e]) hL
        have T4 := (same_upd (o := .lst [.str "times"]) he).trans SL
        have T3 := (same_upd (o := .lst [.str "1", .str "2"]) hd).trans T4
        have T2 := (same_upd (o := .lst [.str "take"]) hc).trans T3
        have T1 := S2.trans T2
        have T0 := S1.trans T1
        have fr : ∀ {l : Addr} {o : HO}, upd (upd (upd H2 c (.lst [.str "take"])) d (.lst [.str "1", .str "2"])) e (.lst [.str "times"]) l = some o → l ≠ L := fun h => ne_of_none h hL
        have U4 := same_upd (o := .lst [.str "times"]) he
        have U3 := (same_upd (o := .lst [.str "1", .str "2"]) hd).trans U4
        have U2 := (same_upd (o := .lst [.str "take"]) hc).trans U3
        refine ⟨L, _, _, _, T0, upd_same, rfl, fun i y hy => ?_, ?_, rfl⟩
        · match i, hy with
          | 0, hy => cases hy; exact ⟨a, rfl, fr (U2 _ _ (S2 _ _ upd_same)), T1 _ _ upd_same⟩
          | 1, hy => cases hy; exact ⟨b, rfl, fr (U2 _ _ hb2), T2 _ _ hb2⟩
          | 2, hy => cases hy; exact ⟨c, rfl, fr (U3 _ _ upd_same), T3 _ _ upd_same⟩
          | 3, hy => cases hy; exact ⟨d, rfl, fr (U4 _ _ upd_same), by rw [show ((lotsL.getD 3 []).map V.str) = [V.str "1", V.str "2"] by decide +kernel]; exact T4 _ _ upd_same⟩
          | 4, hy => cases hy; exact ⟨e, rfl, fr upd_same, SL _ _ upd_same⟩
          | i + 5, hy => cases hy
        · cases q : H L with
          | none => rfl
          | some o => rw [(S1.trans (S2.trans U2)) _ _ q] at hL; cases hL
    rintro σ H1 ⟨L, ys, x3, x4, S1, hL, l5, hys, hL0, rfl⟩
    refine ⟨_, rfl, .inl ⟨rfl, _, SqL.of hL⟩, _, rfl, _, _, rfl, ⟨by decide, by decide, by decide, by decide⟩, fun f hf => ?_⟩
    refine lc_range (lo := -100) (n := (101 - -100 : Int).toNat) (fun i H2 => Same H1 H2 ∧ H2 f = some (.lst (((List.range i).map fun (k : Nat) => strI (-100 + (k : Int))).map V.str))) ⟨same_upd hf, by rw [upd_same]; rfl⟩ ?_ ?_
    · rintro i H2 hi2 ⟨S2, hL2⟩
      have hi3 : i < 201 := hi2
      refine ⟨rfl, _, rfl, _, rfl, num_log (by omega) (by omega), _, hL2, by rw [List.length_map, List.length_map, List.length_range]; exact small1000 (by omega), fun c o e => ?_, ?_⟩
      · rw [upd_ne (ne_of_none e hf)]
        exact S2 _ _ e
      · rw [upd_same, List.range_succ, List.map_append, List.map_append]
        rfl
    · rintro H2 ⟨S2, hf2⟩
      have hL2 := S2 _ _ hL
      have nfL : f ≠ L := (ne_of_none hL hf).symm
      have nWL : W ≠ L := ne_of_none hW hL0
      refine ⟨L, _, _, rfl, rfl, hL2, small1000 (by omega), ?_⟩
      have hW2 : upd H2 L (.lst (ys ++ [.ref f])) W = some (.lst (ws.map V.str)) := by
        rw [upd_ne nWL]
        exact S2 _ _ (S1 _ _ hW)
      have hLn : upd H2 L (.lst (ys ++ [.ref f])) L = some (.lst (ys ++ [.ref f])) := upd_same
      have hlots : Lots (upd H2 L (.lst (ys ++ [.ref f]))) (ys ++ [.ref f]) := by
        refine ⟨by simp [l5], fun i y hy => ?_⟩
        rcases Nat.lt_or_ge i 5 with q | q
        · rw [List.getElem?_append_left (by omega)] at hy
          obtain ⟨l, e1, e2, e3⟩ := hys i y hy
          refine ⟨l, e1, ?_⟩
          rw [upd_ne e2]
          exact S2 _ _ e3
        · rw [List.getElem?_append_right (by omega), l5] at hy
          have i5 : i = 5 := by
            have := (List.getElem?_eq_some_iff.mp hy).1
            simp at this
            omega
          subst i5
          cases hy
          refine ⟨f, rfl, ?_⟩
          rw [upd_ne nfL]
          exact hf2
      have S3 : Same H (upd H2 L (.lst (ys ++ [.ref f]))) := fun c o e => by
        rw [upd_ne (ne_of_none e hL0)]
        exact S2 _ _ (S1 _ _ e)
      generalize upd H2 L (.lst (ys ++ [.ref f])) = H3 at *
      generalize ys ++ [.ref f] = zs at *
      refine ⟨6, rfl, by decide, by decide, ?_⟩
      refine for_range (lo := 0) (n := 6) (fun i σ H4 => ∃ v : Option V, H4 = H3 ∧ (∀ j, j < i → badAt ws j = false) ∧ σ = [some (.ref W), some (.ref L), v, x3, x4]) ⟨none, rfl, fun j hj => absurd hj (Nat.not_lt_zero _), rfl⟩ ?_ ?_
      · rintro i σ H4 hi ⟨v, rfl, hall, rfl⟩
        have ei : (0 : Int) + (i : Int) = (i : Int) := Int.zero_add _
        rw [ei]
        refine ⟨_, rfl, _, rfl, W, _, rfl, .inl (SqL.of hW2), _, _, rfl, rfl, _, rfl, ?_⟩
        rw [List.length_map]
        refine ite2 (fun g => ?_) (fun g => ?_)
        · have g1 : ws.length ≤ i := by
            have : (ws.length : Int) ≤ (i : Int) := of_decide_eq_true g
            omega
          have kk := k _ S3
          rw [verd_at hall (bad_none g1) hi] at kk
          exact iteT ⟨_, rfl, _, _, rfl, rfl, kk⟩
        · have g1 : i < ws.length := by
            have : ¬ (ws.length : Int) ≤ (i : Int) := fun z => g (decide_eq_true z)
            omega
          obtain ⟨x, hx⟩ : ∃ x, ws[i]? = some x := ⟨_, List.getElem?_eq_getElem g1⟩
          have li : i < zs.length := by rw [hlots.1]; exact hi
          obtain ⟨y, hy⟩ : ∃ y, zs[i]? = some y := ⟨_, List.getElem?_eq_getElem li⟩
          obtain ⟨l, rfl, hl⟩ := hlots.2 i y hy
          refine ⟨_, rfl, _, rfl, W, _, _, _, rfl, rfl, SqL.of hW2, at_of (j := i) (by omega) (by rw [List.getElem?_map, hx]; rfl), _, rfl, _, rfl, L, _, _, _, rfl, rfl, SqL.of hLn, at_of (j := i) (by omega) hy, l, _, rfl, .inl (SqL.of hl), rfl, flat_strs _, _, rfl, ?_⟩
          rw [inV_strs]
          have eb := bad_some hx
          refine ite2 (fun g2 => ?_) (fun g2 => ?_)
          · have g3 : (!(lotsL.getD i []).elem x) = true := g2
            have kk := k _ S3
            rw [verd_at hall (eb.trans g3) hi] at kk
            exact ⟨_, rfl, _, _, rfl, rfl, kk⟩
          · have g3 : (!(lotsL.getD i []).elem x) = false := by
              have : ¬ (!(lotsL.getD i []).elem x) = true := g2
              simpa using this
            exact ⟨_, rfl, fun j hj => by
              rcases Nat.lt_or_ge j i with z | z
              · exact hall j z
              · rw [show j = i by omega]; exact eb.trans g3, rfl⟩
      · rintro σ H4 ⟨v, rfl, hall, rfl⟩
        have kk := k _ S3
        rw [verd_all hall] at kk
        refine ⟨_, rfl, W, _, rfl, .inl (SqL.of hW2), _, _, rfl, rfl, _, rfl, ?_⟩
        rw [List.length_map]
        refine ite2 (fun g => ?_) (fun g => ?_)
        · have g1 : 6 < ws.length := by
            have : (6 : Int) < (ws.length : Int) := of_decide_eq_true g
            omega
          rw [if_pos g1] at kk
          exact kk
        · have g1 : ¬ 6 < ws.length := fun z => g (decide_eq_true (by show (6 : Int) < (ws.length : Int); omega))
          rw [if_neg g1] at kk
          exact kk

/-! ### the law's draws: what is drawn lies in its range; nothing but the row of the draws changes -/
theorem fmod_bd (x : Int) {m : Int} (h : 0 < m) : 0 ≤ x.fmod m ∧ x.fmod m < m := by
  rw [Int.fmod_eq_emod_of_nonneg x (by omega)]
  exact ⟨Int.emod_nonneg x (by omega), Int.emod_lt_of_pos x h⟩
abbrev rowL (a : Addr) (i s c : Int) : List V := [.ref a, .int i, .int s, .int c]
/-- the script at a: locked, or of the top's own -/
def Scr (K : PySem.W.Frag) (H : Hp) (a : Addr) (xs : List V) : Prop := (∃ o, H a = some (.frz o (.lst xs))) ∨ SqL K (fun _ => none) a xs
theorem scr_of {H : Hp} {a : Addr} {xs : List V} (hO : ∀ b, H b = none ∨ ∃ o xs, H b = some (.frz o (.lst xs))) (h : SqL K H a xs) : Scr K H a xs := by
  rcases h with (h | h) | h
  · rcases hO a with z | ⟨o, ys, z⟩
    · rw [z] at h; cases h
    · rw [z] at h; cases h
  · exact .inl h
  · exact .inr (.inr h)
theorem Scr.seq {H : Hp} {a : Addr} {xs : List V} (h : Scr K H a xs) : SqL K H a xs := by
  rcases h with h | (h | ⟨o, h⟩) | h
  · exact .inl (.inr h)
  · cases h
  · cases h
  · exact .inr h
theorem Scr.mono {H H' : Hp} {a : Addr} {xs : List V} (h : Scr K H a xs) (k : ∀ b o u, H b = some (.frz o u) → H' b = some (.frz o u)) : Scr K H' a xs := by
  rcases h with ⟨o, h⟩ | h
  · exact .inl ⟨o, k _ _ _ h⟩
  · exact .inr h
/-- at r the row of the draws over the script at a -/
def RowAt (K : PySem.W.Frag) (H : Hp) (r a : Addr) (ns : List Int) : Prop := ∃ i s c : Int, H r = some (.lst (rowL a i s c)) ∧ 0 ≤ i ∧ 0 ≤ c ∧ Scr K H a (ns.map V.int) ∧ ns.length ≤ 63
theorem RowAt.same {H H' : Hp} {r a : Addr} {ns : List Int} (h : RowAt K H r a ns) (e : Same H H') : RowAt K H' r a ns :=
  let ⟨i, s, c, h1, h2, h3, h4, h5⟩ := h
  ⟨i, s, c, e _ _ h1, h2, h3, h4.mono fun _ _ _ z => e _ _ z, h5⟩
/-- another list is changed -/
theorem RowAt.put {H : Hp} {r a q : Addr} {ns : List Int} {ys : List V} {o : HO} (h : RowAt K H r a ns) (hq : H q = some (.lst ys)) (n : q ≠ r) : RowAt K (upd H q o) r a ns :=
  let ⟨i, s, c, h1, h2, h3, h4, h5⟩ := h
  ⟨i, s, c, by rw [upd_ne (Ne.symm n)]; exact h1, h2, h3, h4.mono fun b o' u z => by rw [upd_ne (ne_of z hq (by intro y; cases y))]; exact z, h5⟩
/-- the row as the law lays it -/
theorem RowAt.start {H : Hp} {r a : Addr} {ns : List Int} {i s c : Int} (hr : H r = none) (hS : Scr K H a (ns.map V.int)) (hl : ns.length ≤ 63) (hi : 0 ≤ i) (hc : 0 ≤ c) : RowAt K (upd H r (.lst (rowL a i s c))) r a ns :=
  ⟨i, s, c, upd_same, hi, hc, hS.mono fun b o u z => by rw [upd_ne (ne_of_none z hr)]; exact z, hl⟩
def spTaken (K : PySem.W.Frag) : Sp := fun vs H Q _ => ∃ (r a : Addr) (ns : List Int) (m : Int), vs = [.ref r, .int m] ∧ 0 < m ∧ m ≤ 10 ^ 41 ∧ RowAt K H r a ns ∧
  ∀ (v : Int) (H' : Hp), 0 ≤ v → v < m → RowAt K H' r a ns → But r H H' → Q (.int v) H'
theorem ok__law_taken (T : Tx P K mg) : FnOk P w K mg base CX0 lv__law_taken T.a__law_taken T.d__law_taken ["_law_row", "_law_many"] (spTaken K) := by
  refine T.F__law_taken.ok sc__law_taken (fun vs H Q E h => ?_) (fun cdv A outer s H vs Q E hr h => ?_)
  · obtain ⟨r, a, ns, m, rfl, _⟩ := h
    rfl
  · obtain ⟨r, a, ns, m, rfl, m0, m1, ⟨i, s, c, hR, i0, c0, hK, hlen⟩, k⟩ := h
    have hKB : ∀ H', But r H H' → Scr K H' a (ns.map V.int) := fun H' b => hK.mono fun c o u z => b c _ z (ne_of z hR (by intro y; cases y))
    have hdv : ∀ x : Int, CDivW x m := fun x => wide_div m0 (b := 140) (by omega) (by decide) (by decide)
    have back : ∀ (v : Int) (i' s' c' : Int) (H' : Hp), 0 ≤ v → v < m → 0 ≤ i' → 0 ≤ c' → H' r = some (.lst (rowL a i' s' c')) → But r H H' → Q (.int v) H' := fun v i' s' c' H' v0 v1 z1 z2 e b =>
      k v H' v0 v1 ⟨i', s', c', e, z1, z2, hKB _ b, hlen⟩ b
    refine ⟨_, (pss_cons (ps_if (pt_cmpR op_gt (pe_ix ix_list (pv 0) pe_int (fun _ _ => rfl)) pe_int (nomark _)) (pss_cons (ps_set (i := 2) sc__law_taken.nd rfl (Or.inl rfl) (pe_op op_modN (pe_callTy call_int1 (by rfl) T.n_int (by decide +kernel) (pa_cons (pe_ix ix_list (pv 0) pe_int (fun _ _ => rfl)) pa_nil)) (pv 1)))
      (pss_cons (ps_asg (pe_op op_fdivW (pe_ix ix_list (pv 0) pe_int (fun _ _ => rfl)) (pv 1)) (pg_sub (pv 0) pe_int set_list))
      (pss_one (ps_ret (pv 2))))) pss_nil)
      (pss_cons (ps_asg (pe_op op_add (pe_ix ix_list (pv 0) pe_int (fun _ _ => rfl)) pe_int) (pg_sub (pv 0) pe_int set_list))
      (pss_cons (ps_if (pt_cmpR op_gt (pe_ix ix_list (pv 0) pe_int (fun _ _ => rfl)) (pe_callB call_len_seq (by rfl) T.n_len (by decide +kernel) (pa_cons (pe_ix ix_list (pv 0) pe_int (fun _ _ => rfl)) pa_nil)) (nomark _)) (pss_cons (ps_asg (pe_op op_modN (pe_callTy call_int1 (by rfl) T.n_int (by decide +kernel) (pa_cons (pe_op op_add (pe_op op_mul (pe_ix ix_list (pv 0) pe_int (fun _ _ => rfl)) pe_int) pe_int) pa_nil)) pe_int) (pg_sub (pv 0) pe_int set_list))
      (pss_one (ps_ret (pe_op op_modN (pe_callTy call_int1 (by rfl) T.n_int (by decide +kernel) (pa_cons (pe_op op_fdivW (pe_ix ix_list (pv 0) pe_int (fun _ _ => rfl)) pe_int) pa_nil)) (pv 1))))) pss_nil)
      (pss_cons (ps_set (i := 3) sc__law_taken.nd rfl (Or.inl rfl) (pe_ix ix_list (pe_ix ix_list (pv 0) pe_int (fun _ _ => rfl)) (pe_op op_sub (pe_ix ix_list (pv 0) pe_int (fun _ _ => rfl)) pe_int) (fun _ _ => rfl)))
      (pss_cons (ps_asg (pe_op op_modN (pe_callTy call_int1 (by rfl) T.n_int (by decide +kernel) (pa_cons (pe_op op_add (pe_op op_add (pe_op op_mul (pe_ix ix_list (pv 0) pe_int (fun _ _ => rfl)) pe_int) (pv 3)) pe_int) pa_nil)) pe_int) (pg_sub (pv 0) pe_int set_list))
      (pss_cons (ps_if (pt_cmpR op_ge (pv 3) (pe_op op_pow pe_int pe_int) (nomark _)) (pss_one (ps_asg (pe_op op_fdivW (pv 3) (pv 1)) (pg_sub (pv 0) pe_int set_list))) pss_nil)
      (pss_one (ps_ret (pe_op op_modN (pe_callTy call_int1 (by rfl) T.n_int (by decide +kernel) (pa_cons (pv 3) pa_nil)) (pv 1)))))))))), ?_⟩
    refine ⟨_, rfl, r, _, _, _, rfl, rfl, SqL.of hR, rfl, _, _, rfl, rfl, _, rfl, ?_⟩
    refine ite2 (fun g => ?_) (fun g => ?_)
    · -- a great cell's digits
      obtain ⟨v0, v1⟩ := fmod_bd c m0
      refine ⟨_, rfl, r, _, _, _, rfl, rfl, SqL.of hR, rfl, .inl ⟨_, rfl, _, rfl, _, _, rfl, rfl, by omega, ?_⟩⟩
      refine ⟨_, rfl, r, _, _, _, rfl, rfl, SqL.of hR, rfl, _, rfl, _, _, rfl, rfl, hdv c, _, rfl, r, _, _, _, rfl, rfl, hR, rfl, ?_⟩
      exact ⟨_, rfl, back _ i s (c / m) _ v0 v1 i0 (Int.ediv_nonneg c0 (by omega)) upd_same But.put⟩
    · refine ⟨_, rfl, r, _, _, _, rfl, rfl, SqL.of hR, rfl, _, _, rfl, rfl, _, rfl, r, _, _, _, rfl, rfl, hR, rfl, ?_⟩
      -- behind the script's end?
      have hR1 : upd H r (.lst (rowL a (i + 1) s c)) r = some (.lst (rowL a (i + 1) s c)) := upd_same
      have hB1 : But r H (upd H r (.lst (rowL a (i + 1) s c))) := But.put
      have hS1 : SqL K (upd H r (.lst (rowL a (i + 1) s c))) a (ns.map V.int) := (hKB _ hB1).seq
      refine ⟨_, rfl, r, _, _, _, rfl, rfl, SqL.of hR1, rfl, _, rfl, r, _, _, _, rfl, rfl, SqL.of hR1, rfl, a, _, rfl, .inl hS1, _, _, rfl, rfl, _, rfl, ?_⟩
      refine ite2 (fun g2 => ?_) (fun g2 => ?_)
      · refine ⟨_, rfl, r, _, _, _, rfl, rfl, SqL.of hR1, rfl, _, _, rfl, rfl, .inr ⟨by decide, by decide⟩, _, _, rfl, rfl, .inl ⟨_, rfl, _, _, rfl, rfl, (show (2147483647 : Int) ≠ 0 by decide), ?_⟩⟩
        refine ⟨_, rfl, r, _, _, _, rfl, rfl, hR1, rfl, ?_⟩
        refine ⟨_, rfl, r, _, _, _, rfl, rfl, SqL.of upd_same, rfl, _, _, rfl, rfl, wide_div (by decide) (b := 3) (by decide) (by decide) (by decide), .inl ⟨_, rfl, _, rfl, _, _, rfl, rfl, by omega, ?_⟩⟩
        obtain ⟨v0, v1⟩ := fmod_bd ((s * 48271 + 11).fmod 2147483647 / 7) m0
        exact back _ (i + 1) _ c _ v0 v1 (by omega) c0 upd_same (hB1.trans But.put)
      · have g3 : i + 1 ≤ (ns.length : Int) := by
          simp only [decide_eq_true_eq, List.length_map] at g2
          omega
        obtain ⟨z, hz⟩ : ∃ z, ns[i.toNat]? = some z := ⟨ns[i.toNat]'(by omega), List.getElem?_eq_getElem (by omega)⟩
        have hz1 : atI (ns.map V.int) (i + 1 - 1) = some (V.int z) := at_of (j := i.toNat) (by omega) (by rw [List.getElem?_map, hz]; rfl)
        refine ⟨_, rfl, r, _, _, _, rfl, rfl, SqL.of hR1, rfl, _, rfl, r, _, _, _, rfl, rfl, SqL.of hR1, rfl, _, _, rfl, rfl, a, _, _, _, rfl, rfl, hS1, hz1, ?_⟩
        refine ⟨_, rfl, r, _, _, _, rfl, rfl, SqL.of hR1, rfl, _, _, rfl, rfl, .inr ⟨by decide, by decide⟩, _, rfl, _, _, rfl, rfl, _, _, rfl, rfl, .inl ⟨_, rfl, _, _, rfl, rfl, (show (2147483647 : Int) ≠ 0 by decide), ?_⟩⟩
        refine ⟨_, rfl, r, _, _, _, rfl, rfl, hR1, rfl, ?_⟩
        have hR2 : upd (upd H r (.lst (rowL a (i + 1) s c))) r (.lst (rowL a (i + 1) ((s * 48271 + z + 11).fmod 2147483647) c)) r = some (.lst (rowL a (i + 1) ((s * 48271 + z + 11).fmod 2147483647) c)) := upd_same
        have hB2 : But r H (upd (upd H r (.lst (rowL a (i + 1) s c))) r (.lst (rowL a (i + 1) ((s * 48271 + z + 11).fmod 2147483647) c))) := hB1.trans But.put
        obtain ⟨v0, v1⟩ := fmod_bd z m0
        refine ⟨_, rfl, _, _, rfl, rfl, ⟨by decide, by decide, by decide⟩, _, _, rfl, rfl, _, rfl, ?_⟩
        refine ite2 (fun g4 => ?_) (fun g4 => ?_)
        · refine ⟨_, rfl, _, rfl, _, _, rfl, rfl, hdv z, _, rfl, r, _, _, _, rfl, rfl, hR2, rfl, ?_⟩
          have z0 : 0 ≤ z := by
            have g5 : (10 : Int) ^ 18 ≤ z := by simpa using g4
            exact Int.le_trans (by decide) g5
          refine ⟨_, rfl, .inl ⟨_, rfl, _, rfl, _, _, rfl, rfl, by omega, ?_⟩⟩
          exact back _ (i + 1) _ (z / m) _ v0 v1 (by omega) (Int.ediv_nonneg z0 (by omega)) upd_same (hB2.trans But.put)
        · refine ⟨_, rfl, .inl ⟨_, rfl, _, rfl, _, _, rfl, rfl, by omega, ?_⟩⟩
          exact back _ (i + 1) _ c _ v0 v1 (by omega) c0 hR2 hB2

/-! ### a menu: an item of a written list at a drawn place -/
theorem RowAt.new {H : Hp} {r a p : Addr} {ns : List Int} {o : HO} (h : RowAt K H r a ns) (hp : H p = none) : RowAt K (upd H p o) r a ns := h.same (same_upd hp)
theorem RowAt.ne {H : Hp} {r a p : Addr} {ns : List Int} (h : RowAt K H r a ns) (hp : H p = none) : p ≠ r :=
  let ⟨_, _, _, h1, _⟩ := h
  (ne_of_none h1 hp).symm
theorem But.new {H H1 : Hp} {r p : Addr} {o : HO} (b : But r H H1) (hp : H1 p = none) : But r H (upd H1 p o) := b.trans (Same.but (same_upd hp))
theorem But.free {H H1 : Hp} {r p : Addr} (b : But r H H1) (n : p ≠ r) (hp : H1 p = none) : H p = none := by
  cases q : H p with
  | none => rfl
  | some o =>
    rw [b p o q n] at hp
    cases hp
/-- an item of the list laid at p, at a place that is drawn -/
theorem menu {H1 : Hp} {r a p : Addr} {ns items : List Int} {m : Int} (Pr : Int → Prop) (hP : ∀ z ∈ items, Pr z) (hl : (items.length : Int) = m) (R1 : RowAt K H1 r a ns) (hp : H1 p = none) {Q : VK}
    (k : ∀ (z : Int) (H2 : Hp), Pr z → RowAt K H2 r a ns → But r H1 H2 → H2 p = some (.lst (items.map V.int)) → Q (.int z) H2) (h0 : 0 < m) (h1 : m ≤ 10 ^ 41) :
    spTaken K ([.ref r, .int m] ++ []) (upd H1 p (.lst (items.map V.int))) (fun y H2 => rIxL K (.ref p) y H2 Q) E0 := by
  refine ⟨r, a, ns, m, rfl, h0, h1, R1.new hp, fun w H2 w0 w1 R2 B2 => ?_⟩
  obtain ⟨z, hz, he⟩ := at_some Pr hP w0 (by omega)
  have npr := R1.ne hp
  exact ⟨p, _, _, _, rfl, rfl, SqL.of (B2 _ _ upd_same npr), he, k z H2 hz R2 ((Same.but (same_upd hp)).trans B2) (B2 _ _ upd_same npr)⟩
theorem at_someV (Pr : V → Prop) {xs : List V} (h : ∀ z ∈ xs, Pr z) {i : Int} (h0 : 0 ≤ i) (h1 : i < xs.length) : ∃ z, Pr z ∧ atI xs i = some z := by
  obtain ⟨z, hz⟩ : ∃ z, xs[i.toNat]? = some z := ⟨xs[i.toNat]'(by omega), List.getElem?_eq_getElem (by omega)⟩
  exact ⟨z, h z (List.mem_of_getElem? hz), at_of (j := i.toNat) (by omega) hz⟩
theorem menuV {H1 : Hp} {r a p : Addr} {ns : List Int} {items : List V} {m : Int} (Pr : V → Prop) (hP : ∀ z ∈ items, Pr z) (hl : (items.length : Int) = m) (R1 : RowAt K H1 r a ns) (hp : H1 p = none) {Q : VK}
    (k : ∀ (z : V) (H2 : Hp), Pr z → RowAt K H2 r a ns → But r H1 H2 → H2 p = some (.lst items) → Q z H2) (h0 : 0 < m) (h1 : m ≤ 10 ^ 41) :
    spTaken K ([.ref r, .int m] ++ []) (upd H1 p (.lst items)) (fun y H2 => rIxL K (.ref p) y H2 Q) E0 := by
  refine ⟨r, a, ns, m, rfl, h0, h1, R1.new hp, fun w H2 w0 w1 R2 B2 => ?_⟩
  obtain ⟨z, hz, he⟩ := at_someV Pr hP w0 (by omega)
  have npr := R1.ne hp
  exact ⟨p, _, _, _, rfl, rfl, SqL.of (B2 _ _ upd_same npr), he, k z H2 hz R2 ((Same.but (same_upd hp)).trans B2) (B2 _ _ upd_same npr)⟩
/-- a plain value: None, a bool, an int, a text -/
def flatA : V → Bool
  | .non => true | .bl _ => true | .int _ => true | .str _ => true | _ => false
theorem any_flat {T : Addr → Prop} {H : Hp} {v : V} (h : flatA v = true) : AnyV T H v := by
  cases v with
  | non => exact .non
  | bl b => exact .bl b
  | int i => exact .int i
  | str x => exact .str x
  | _ => cases h

/-! ### a power -/
def spPower : Sp := fun vs H Q _ => ∃ b k : Int, vs = [.int b, .int k] ∧ 0 ≤ b ∧ b ≤ 1000 ∧ 0 ≤ k ∧ k ≤ 1000 ∧ Q (.int (b ^ k.toNat)) H
theorem ok__law_power (T : Tx P K mg) : FnOk P w K mg base CX0 lv__law_power T.a__law_power T.d__law_power ["_law_base", "_law_many"] spPower := by
  refine T.F__law_power.ok sc__law_power (fun vs H Q E h => ?_) (fun cdv A outer s H vs Q E hr h => ?_)
  · obtain ⟨b, k, rfl, _⟩ := h
    rfl
  · obtain ⟨b, k, rfl, b0, b1, k0, k1, q⟩ := h
    refine ⟨_, (pss_cons (ps_set (i := 2) sc__law_power.nd rfl (Or.inl rfl) pe_int)
      (pss_cons (ps_for PassesOwn.never rfl (pi_range1 (by rfl) T.n_range (pa_cons (pv 1) pa_nil)) (pg_name (i := 3) sc__law_power.nd rfl (Or.inl rfl)) (pss_one (ps_set (i := 2) sc__law_power.nd rfl (Or.inl rfl) (pe_op op_mul (pv 2) (pv 0)))))
      (pss_one (ps_ret (pv 2))))), ?_⟩
    refine ⟨_, rfl, k, rfl, by omega, by omega, ?_⟩
    refine for_range (lo := 0) (fun i σ H2 => ∃ v : Option V, σ = [some (.int b), some (.int k), some (.int (b ^ i)), v] ∧ H2 = H) ⟨none, by rw [Int.pow_zero]; rfl, rfl⟩ ?_ ?_
    · rintro i σ H2 hi ⟨v, rfl, rfl⟩
      refine ⟨_, rfl, _, rfl, _, _, rfl, rfl, .inr ⟨by omega, by omega⟩, ?_⟩
      exact ⟨_, by rw [Int.pow_succ]; rfl, rfl⟩
    · rintro σ H2 ⟨v, rfl, rfl⟩
      exact ⟨_, rfl, q⟩

/-! ### a drawn trick's parts -/
def spLawTrick (K : PySem.W.Frag) : Sp := fun vs H Q _ => ∃ (r a : Addr) (ns : List Int) (small : Bool), vs = [.ref r, .bl small] ∧ RowAt K H r a ns ∧
  ∀ (b t m : Int) (q : Addr) (H' : Hp), 2 ≤ b → b ≤ 16 → 1 ≤ t → t ≤ 2 → (small = true → b ≤ 5 ∨ t = 1) → -100 ≤ m → m ≤ 100 → RowAt K H' r a ns → But r H H' → H q = none → H' q = some (.lst [.int b, .int t, .int m]) → q ≠ r → Q (.ref q) H'
theorem ok__law_trick (T : Tx P K mg) : FnOk P w K mg base CX0 lv__law_trick T.a__law_trick T.d__law_trick ["_law_row", "_law_small"] (spLawTrick K) := by
  refine T.F__law_trick.ok sc__law_trick (fun vs H Q E h => ?_) (fun cdv A outer s H vs Q E hr h => ?_)
  · obtain ⟨r, a, ns, sm, rfl, _⟩ := h
    rfl
  · obtain ⟨r, a, ns, sm, rfl, R0, k⟩ := h
    refine ⟨_, (Evl.pss_cut (ps_set (i := 2) sc__law_trick.nd rfl (Or.inr rfl) (pe_ix ix_list (pe_lst (pa_cons pe_int (pa_cons pe_int (pa_cons pe_int (pa_cons pe_int (pa_cons pe_int (pa_cons pe_int (pa_cons (pe_op op_add pe_int (pe_call (ok__law_taken T) (hr.mono (by decide)) rfl T.g__law_taken T.F__law_taken.kp T.b__law_taken .nil pass0 (pa_cons (pv 0) (pa_cons pe_int pa_nil)))) pa_nil)))))))) (pe_call (ok__law_taken T) (hr.mono (by decide)) rfl T.g__law_taken T.F__law_taken.kp T.b__law_taken .nil pass0 (pa_cons (pv 0) (pa_cons pe_int pa_nil))) (fun _ _ => rfl)))
      (Evl.pss_cut (ps_set (i := 3) sc__law_trick.nd rfl (Or.inr rfl) (pe_ifExp (PW.pt (pw_and (pt_val (pv 1)) (pw_and1 (pt_cmpR op_gt (pv 2) pe_int (nomark _))))) pe_int (pe_op op_add pe_int (pe_call (ok__law_taken T) (hr.mono (by decide)) rfl T.g__law_taken T.F__law_taken.kp T.b__law_taken .nil pass0 (pa_cons (pv 0) (pa_cons pe_int pa_nil))))))
      (Evl.pss_cut (ps_set (i := 4) sc__law_trick.nd rfl (Or.inl rfl) (pe_ix ix_list (pe_lst (pa_cons pe_int (pa_cons (pe_un un_neg pe_int) (pa_cons (pe_un un_neg pe_int) (pa_cons pe_int (pa_cons (pe_op op_sub (pe_call (ok__law_taken T) (hr.mono (by decide)) rfl T.g__law_taken T.F__law_taken.kp T.b__law_taken .nil pass0 (pa_cons (pv 0) (pa_cons pe_int pa_nil))) pe_int) (pa_cons (pe_op op_sub (pe_call (ok__law_taken T) (hr.mono (by decide)) rfl T.g__law_taken T.F__law_taken.kp T.b__law_taken .nil pass0 (pa_cons (pv 0) (pa_cons pe_int pa_nil))) pe_int) pa_nil))))))) (pe_call (ok__law_taken T) (hr.mono (by decide)) rfl T.g__law_taken T.F__law_taken.kp T.b__law_taken .nil pass0 (pa_cons (pv 0) (pa_cons pe_int pa_nil))) (fun _ _ => rfl)))
      (Evl.pss_cut (ps_if (pt_cmpR op_eq (pe_call (ok__law_taken T) (hr.mono (by decide)) rfl T.g__law_taken T.F__law_taken.kp T.b__law_taken .nil pass0 (pa_cons (pv 0) (pa_cons pe_int pa_nil))) pe_int (nomark _)) (pss_cons (ps_set (i := 5) sc__law_trick.nd rfl (Or.inr rfl) (pe_op op_add pe_int (pe_call (ok__law_taken T) (hr.mono (by decide)) rfl T.g__law_taken T.F__law_taken.kp T.b__law_taken .nil pass0 (pa_cons (pv 0) (pa_cons pe_int pa_nil)))))
      (pss_cons (ps_setLc (i := 6) (own := [("_law_one", 7)]) (g := gName 7) rfl sc__law_trick.nd rfl rfl (sw_true rfl rfl rfl (by decide +kernel)) (pi_range1 (by rfl) T.n_range (pa_cons (pv 5) pa_nil)) (blkOk_by (own := [("_law_one", 7)]) (N := ["_law_row", "_law_small", "_law_base", "_law_take", "_law_times", "_law_d", "_law_some", "_law_one"]) (sc := defScope s__law_trick) (by decide +kernel)) (fun _ _ _ _ _ => pg_name (i := 7) sc__law_trick.nd rfl (Or.inl rfl)) (fun _ _ _ _ _ => pts_one (pt_cmpR op_eq (pe_op op_modN (pe_op op_mul (pv 7) (pe_call (ok__law_power T) (hr.mono (by decide)) rfl T.g__law_power T.F__law_power.kp T.b__law_power .nil pass0 (pa_cons (pv 2) (pa_cons (pv 3) pa_nil)))) (pv 5)) pe_int (nomark _))) (fun _ _ _ _ _ => (pv 7)))
      (pss_one (ps_set (i := 4) sc__law_trick.nd rfl (Or.inl rfl) (pe_ifExp (pt_cmpR (op_neD hr.units) (pv 6) (pe_lst pa_nil) (nomark _)) (pe_op op_sub (pe_ix ix_list (pv 6) pe_int (fun _ _ => rfl)) (pe_op op_mul (pv 5) (pe_call (ok__law_taken T) (hr.mono (by decide)) rfl T.g__law_taken T.F__law_taken.kp T.b__law_taken .nil pass0 (pa_cons (pv 0) (pa_cons pe_int pa_nil))))) (pv 4)))))) pss_nil)
      (pss_one (ps_ret (pe_lst (pa_cons (pv 2) (pa_cons (pv 3) (pa_cons (pv 4) pa_nil)))))))))), ?_⟩
    -- the base
    refine ⟨fun σ H1 => ∃ b : Int, 2 ≤ b ∧ b ≤ 16 ∧ RowAt K H1 r a ns ∧ But r H H1 ∧ σ = [some (.ref r), some (.bl sm), some (.int b), none, none, none, none, none], ?_, ?_⟩
    · refine ⟨_, rfl, r, a, ns, _, rfl, by decide, by decide, R0, fun v H1 v0 v1 R1 B1 => ?_⟩
      refine ⟨_, _, rfl, rfl, by show 7 ≤ sizeLine; decide, fun p hp => ?_⟩
      refine ⟨_, rfl, menu (items := [10, 2, 3, 7, 8, 16, 2 + v]) (fun z => 2 ≤ z ∧ z ≤ 16) (by simp; omega) rfl R1 hp (fun z H2 hz R2 B2 _ => ?_) (by show (0 : Int) < 7; decide) (by show (7 : Int) ≤ 10 ^ 41; decide)⟩
      exact ⟨z, hz.1, hz.2, R2, B1.trans B2, rfl⟩
    rintro σ H1 ⟨b, b1, b2, R1, B1, rfl⟩
    -- the figures
    refine ⟨fun σ H2 => ∃ t : Int, 1 ≤ t ∧ t ≤ 2 ∧ (sm = true → b ≤ 5 ∨ t = 1) ∧ RowAt K H2 r a ns ∧ But r H H2 ∧ σ = [some (.ref r), some (.bl sm), some (.int b), some (.int t), none, none, none, none], ?_, ?_⟩
    · refine ⟨_, rfl, _, rfl, ?_⟩
      refine ite2 (fun g => ?_) (fun g => ?_)
      · refine ⟨_, rfl, _, _, rfl, rfl, _, rfl, ?_⟩
        refine ite2 (fun g2 => ?_) (fun g2 => ?_)
        · exact ⟨1, by decide, by decide, fun _ => .inr rfl, R1, B1, rfl⟩
        · refine ⟨_, rfl, r, a, ns, _, rfl, by decide, by decide, R1, fun v H2 v0 v1 R2 B2 => ?_⟩
          refine ⟨_, _, rfl, rfl, 1 + v, by omega, by omega, fun _ => .inl ?_, R2, B1.trans B2, rfl⟩
          simpa using g2
      · refine iteF ?_
        refine ⟨_, rfl, r, a, ns, _, rfl, by decide, by decide, R1, fun v H2 v0 v1 R2 B2 => ?_⟩
        exact ⟨_, _, rfl, rfl, 1 + v, by omega, by omega, fun z => absurd z g, R2, B1.trans B2, rfl⟩
    clear R1 B1
    rintro σ H1 ⟨t, t1, t2, hst, R1, B1, rfl⟩
    -- the multiplier
    refine ⟨fun σ H2 => ∃ m : Int, -100 ≤ m ∧ m ≤ 100 ∧ RowAt K H2 r a ns ∧ But r H H2 ∧ σ = [some (.ref r), some (.bl sm), some (.int b), some (.int t), some (.int m), none, none, none], ?_, ?_⟩
    · refine ⟨_, rfl, _, rfl, _, rfl, r, a, ns, _, rfl, by decide, by decide, R1, fun v H2 v0 v1 R2 B2 => ?_⟩
      refine ⟨_, _, rfl, rfl, _, rfl, r, a, ns, _, rfl, by decide, by decide, R2, fun v' H3 v0' v1' R3 B3 => ?_⟩
      refine ⟨_, _, rfl, rfl, by show 6 ≤ sizeLine; decide, fun p hp => ?_⟩
      refine ⟨_, rfl, menu (items := [1, -1, -2, 0, v - 10, v' - 100]) (fun z => -100 ≤ z ∧ z ≤ 100) (by simp; omega) rfl R3 hp (fun z H4 hz R4 B4 _ => ?_) (by show (0 : Int) < 6; decide) (by show (6 : Int) ≤ 10 ^ 41; decide)⟩
      exact ⟨z, hz.1, hz.2, R4, B1.trans (B2.trans (B3.trans B4)), rfl⟩
    clear R1 B1
    rintro σ H1 ⟨m, m1, m2, R1, B1, rfl⟩
    -- a multiplier that tells multiples
    refine ⟨fun σ H2 => ∃ (m : Int) (x y z : Option V), -100 ≤ m ∧ m ≤ 100 ∧ RowAt K H2 r a ns ∧ But r H H2 ∧ σ = [some (.ref r), some (.bl sm), some (.int b), some (.int t), some (.int m), x, y, z], ?_, ?_⟩
    · refine ⟨_, rfl, r, a, ns, _, rfl, by decide, by decide, R1, fun v H2 v0 v1 R2 B2 => ?_⟩
      refine ⟨rfl, _, rfl, ?_⟩
      refine ite2 (fun g => ?_) (fun g => ?_)
      · refine ⟨_, rfl, r, a, ns, _, rfl, by decide, by decide, R2, fun d' H3 d0 d1 R3 B3 => ?_⟩
        refine ⟨_, _, rfl, rfl, ?_⟩
        dsimp only
        generalize hd : 2 + d' = d
        refine ⟨_, rfl, d, rfl, by omega, by omega, fun D hD => ?_⟩
        have hDr := R3.ne hD
        refine lc_range (lo := 0) (n := d.toNat) (fun i H4 => ∃ acc : List Int, (∀ z ∈ acc, 0 ≤ z ∧ z < d) ∧ acc.length ≤ i ∧ H4 = upd H3 D (.lst (acc.map V.int))) ⟨[], by simp, Nat.le_refl _, rfl⟩ ?_ ?_
        · rintro i H4 hi ⟨acc, hacc, hlen, rfl⟩
          refine ⟨rfl, ?_⟩
          refine ⟨_, rfl, _, rfl, _, rfl, b, t, rfl, by omega, by omega, by omega, by omega, ?_⟩
          refine ⟨_, _, rfl, rfl, .inl ⟨by omega, by omega⟩, _, rfl, _, _, rfl, rfl, (show d ≠ 0 by omega), rfl, _, rfl, ?_⟩
          refine ite2 (fun g2 => ?_) (fun g2 => ?_)
          · refine ⟨_, rfl, _, upd_same, by rw [List.length_map]; exact small1000 (by omega), acc ++ [(0 : Int) + (i : Int)], ?_, by simp; omega, by rw [upd_upd, List.map_append]; rfl⟩
            intro z hz
            rcases List.mem_append.mp hz with hz | hz
            · exact hacc z hz
            · have ez : z = 0 + (i : Int) := by simpa using hz
              omega
          · exact ⟨acc, hacc, by omega, rfl⟩
        · rintro H4 ⟨acc, hacc, hlen, rfl⟩
          have R4 := R3.new (o := .lst (acc.map V.int)) hD
          have B4 := (B2.trans B3).new (o := .lst (acc.map V.int)) hD
          have eD : upd H3 D (.lst (acc.map V.int)) D = some (.lst (acc.map V.int)) := upd_same
          generalize upd H3 D (.lst (acc.map V.int)) = H4 at R4 B4 eD ⊢
          refine ⟨_, rfl, by show 0 ≤ sizeLine; decide, fun p hp => ?_⟩
          have npD : D ≠ p := ne_of_none eD hp
          refine ⟨_, _, dp_ints (SqL.of (by rw [upd_ne npD]; exact eD)), dp_ints (ns := []) (SqL.of upd_same), shaped_lints _, shaped_lints _, ?_⟩
          rw [eqv_ints]
          refine ⟨_, rfl, ?_⟩
          refine ite2 (fun g2 => ?_) (fun g2 => ?_)
          · have hne : acc ≠ [] := by simpa using g2
            obtain ⟨z, acc', rfl⟩ : ∃ z acc', acc = z :: acc' := by
              cases acc with
              | nil => exact absurd rfl hne
              | cons z acc' => exact ⟨z, acc', rfl⟩
            obtain ⟨z0, z1⟩ := hacc z List.mem_cons_self
            refine ⟨_, rfl, D, _, _, _, rfl, rfl, SqL.of (by rw [upd_ne npD]; exact eD), at_of (j := 0) rfl rfl, _, rfl, _, rfl, r, a, ns, _, rfl, by decide, by decide, R4.new hp, fun v3 H5 v30 v31 R5 B5 => ?_⟩
            refine ⟨_, _, rfl, rfl, .inl ⟨by omega, by omega⟩, _, _, rfl, rfl, ?_⟩
            refine ⟨z - d * v3, _, _, _, ?_, ?_, R5, (B1.trans (B4.new hp)).trans B5, rfl⟩
            · have q : d * v3 ≤ d * 1 := Int.mul_le_mul_of_nonneg_left (by omega) (by omega)
              omega
            · have q : 0 ≤ d * v3 := Int.mul_nonneg (by omega) v30
              omega
          · exact ⟨_, rfl, m, _, _, _, m1, m2, R4.new hp, B1.trans (B4.new hp), rfl⟩
      · exact ⟨m, none, none, none, m1, m2, R2, B1.trans B2, rfl⟩
    clear R1 B1 m1 m2
    rintro σ H1 ⟨m, x, y, z, m1, m2, R1, B1, rfl⟩
    refine ⟨_, rfl, _, rfl, _, rfl, by show 3 ≤ sizeLine; decide, fun q hq => ?_⟩
    exact k b t m q _ b1 b2 t1 t2 hst m1 m2 (R1.new hq) (B1.new hq) (B1.free (R1.ne hq) hq) upd_same (R1.ne hq)

/-! ### tuples cut and joined -/
theorem cutV_take (xs : List V) (k : Nat) : cutV xs none (some (k : Int)) = xs.take k := by
  unfold cutV
  rw [HT.sIx_none, HT.sIx_nat, List.drop_zero, Nat.sub_zero]
  rcases Nat.le_total k xs.length with h | h
  · rw [Nat.min_eq_left h]
  · rw [Nat.min_eq_right h, List.take_of_length_le (Nat.le_refl _), List.take_of_length_le h]
theorem cutV_drop (xs : List V) (k : Nat) : cutV xs (some (k : Int)) none = xs.drop k := by
  unfold cutV
  rw [HT.sIx_none, HT.sIx_nat]
  rcases Nat.le_total k xs.length with h | h
  · rw [Nat.min_eq_left h, List.take_of_length_le (by rw [List.length_drop]; exact Nat.le_refl _)]
  · rw [Nat.min_eq_right h, List.drop_of_length_le (Nat.le_refl _), List.drop_of_length_le h, List.take_nil]
/-- what is before it, then t[k + 1:] -/
theorem tail_cat {σ : L2.St} {H : Hp} {c q : Addr} {ys xs : List V} {k : Nat} {Q : VK} (h6 : σ[6]? = some (some (.ref q))) (h7 : σ[7]? = some (some (.int (k : Int)))) (hq : H q = some (.tup xs)) (hc : H c = some (.tup ys)) (ny : ys ≠ []) (sz : ys.length + xs.length ≤ 1000) (nk : xs ≠ [])
    (hQ : ∀ (w' : Addr) (H2 : Hp), Same H H2 → H2 w' = some (.tup (ys ++ xs.drop (k + 1))) → (w' = c ∨ H w' = none) → Q (.ref w') H2) :
    tSl (rSlT K) (tVar 6) (tPart (tOp (rI0 fun i j => V.int (i + j)) (tVar 7) (tC (V.int 1)))) tNoPart σ H (fun y H2 => rCatA K (.ref c) y H2 Q) := by
  have e1 : ((k : Int) + 1) = ((k + 1 : Nat) : Int) := by omega
  refine ⟨_, h6, _, h7, _, _, rfl, rfl, _, rfl, q, xs, rfl, SqT.of hq, ?_, fun p hp => ?_⟩
  · rintro ⟨z, _⟩
    rw [e1, HT.sIx_nat] at z
    have : 0 < xs.length := List.length_pos_iff.mpr nk
    omega
  · rw [e1, cutV_drop]
    have S := same_upd (o := .tup (xs.drop (k + 1))) hp
    refine ⟨c, p, ys, xs.drop (k + 1), rfl, rfl, SqT.of (S _ _ hc), SqT.of upd_same, ?_, fun e => absurd e ny, fun _ e => ?_, fun _ _ p2 hp2 => ?_⟩
    · have := List.length_drop (l := xs) (i := k + 1)
      have h2 : (1000 : Nat) ≤ sizeLine := by decide
      omega
    · refine hQ c _ S ?_ (.inl rfl)
      have e3 := S _ _ hc
      rw [e] at e3 ⊢
      rw [List.append_nil]
      exact e3
    · refine hQ p2 _ (S.trans (same_upd hp2)) upd_same (.inr ?_)
      by_cases z : p2 = p
      · rw [z]
        exact hp
      · rw [upd_ne z] at hp2
        exact hp2

/-! ### equality of tricks -/
def eqB (b t m b' t' m' : Int) : Bool := decide (b = b') && (decide (t = t') && decide (m = m'))
def spEqT (T : Tx P K mg) : Sp := fun vs H Q _ => ∃ (p : Addr) (y : V) (b t m : Int), vs = [.ref p, y] ∧ TrickAt T H p b t m ∧
  ((∃ q b' t' m', y = .ref q ∧ TrickAt T H q b' t' m' ∧ Q (.bl (eqB b t m b' t' m')) H) ∨ (AnyV (fun _ => False) H y ∧ Q (.bl false) H))
theorem ok_Trick___eq__ (T : Tx P K mg) : FnOk P w K mg base CX0 lv_Trick___eq__ T.a_Trick___eq__ T.d_Trick___eq__ ["self", "other"] (spEqT T) := by
  refine T.F_Trick___eq__.ok sc_Trick___eq__ (fun vs H Q E h => ?_) (fun cdv A outer s H vs Q E hr h => ?_)
  · obtain ⟨p, y, b, t, m, rfl, _⟩ := h
    rfl
  · obtain ⟨p, y, b, t, m, rfl, ⟨⟨dx, e⟩, _⟩, h⟩ := h
    refine ⟨_, (pss_one (ps_ret (pe_and (pe_callB call_isi (by rfl) T.n_isinstance (by decide +kernel) (pa_cons (pv 1) (pa_cons (pe_glob (v := .ref T.C_Trick) rfl T.g_Trick rfl) pa_nil))) (pe_and (pe_cmpR op_eq (pe_fld (pv 0) rfl) (pe_fld (pv 1) rfl) (nomark _)) (pe_and (pe_cmpR op_eq (pe_fld (pv 0) rfl) (pe_fld (pv 1) rfl) (nomark _)) (pe_one (pe_cmpR op_eq (pe_fld (pv 0) rfl) (pe_fld (pv 1) rfl) (nomark _)))))))), ?_⟩
    rcases h with ⟨q, b', t', m', rfl, ⟨⟨dy, e'⟩, _⟩, k⟩ | ⟨a, k⟩
    · refine ⟨_, rfl, _, _, _, _, _, rfl, .own _, .base (T.ins_Trick _ _ _ _ e'), T.kis_Trick, _, rfl, iteT ?_⟩
      unfold eqB at k
      refine ⟨_, rfl, p, _, dx, _, _, rfl, e, T.cl_Trick, T.na_Trick_base, tf_base b t m, _, rfl, q, _, dy, _, _, rfl, e', T.cl_Trick, T.na_Trick_base, tf_base b' t' m', rfl, _, rfl, ?_⟩
      rw [dec_i]
      cases g1 : decide (b = b') with
      | false => rw [g1] at k; exact iteF k
      | true =>
        rw [g1, Bool.true_and] at k
        refine iteT ?_
        refine ⟨_, rfl, p, _, dx, _, _, rfl, e, T.cl_Trick, T.na_Trick_take, tf_take b t m, _, rfl, q, _, dy, _, _, rfl, e', T.cl_Trick, T.na_Trick_take, tf_take b' t' m', rfl, _, rfl, ?_⟩
        rw [dec_i]
        cases g2 : decide (t = t') with
        | false => rw [g2] at k; exact iteF k
        | true =>
          rw [g2, Bool.true_and] at k
          refine iteT ?_
          refine ⟨_, rfl, p, _, dx, _, _, rfl, e, T.cl_Trick, T.na_Trick_times, tf_times b t m, _, rfl, q, _, dy, _, _, rfl, e', T.cl_Trick, T.na_Trick_times, tf_times b' t' m', rfl, ?_⟩
          rw [dec_i]
          exact k
    · obtain ⟨u, ty, e2⟩ := isi_trick T a
      exact ⟨_, rfl, _, _, _, _, _, rfl, .own _, ty, e2, _, rfl, iteF k⟩

/-! ### the law -/
def oddL : List Str := ["base", "take", "times", "1", "2", "10", "16", "17", "-2", "-100", "101", "0", "-0", "+1", "01", "x", "Base"]
theorem oddL_ok : oddL.all wordOk = true := by decide +kernel
theorem cutV_takeS (ws : List Str) (k : Nat) : cutV (ws.map V.str) none (some (k : Int)) = (ws.take k).map V.str := by rw [cutV_take, List.map_take]
def sp_law (K : PySem.W.Frag) : Sp := fun vs H Q _ => ∃ (a : Addr) (ns : List Int), vs = [.ref a] ∧ Scr K H a (ns.map V.int) ∧ ns.length ≤ 63 ∧ ∀ H', Q (.bl true) H'
theorem join_size {ws : List Str} (h : ∀ w ∈ ws, wordOk w = true) (hl : ws.length ≤ 100) (n : Nat) (hn : n ≤ 1) : (ws.map (·.length)).sum + ws.length * n ≤ 16777216 := by
  have : ∀ l : List Str, (∀ w ∈ l, wordOk w = true) → (l.map (·.length)).sum ≤ 20 * l.length := fun l => by
    induction l with
    | nil => intro _; exact Nat.le_refl _
    | cons w l ih =>
      intro h
      have h1 := (word_len (h w List.mem_cons_self)).1
      have h2 := ih fun z hz => h z (List.mem_cons_of_mem _ hz)
      rw [List.map_cons, List.sum_cons, List.length_cons]
      omega
  have h1 := this ws h
  have h2 : ws.length * n ≤ 100 * 1 := Nat.mul_le_mul hl hn
  omega
theorem take_snoc' {α : Type} {l : List α} {i : Nat} {z : α} (h : l[i]? = some z) : l.take (i + 1) = l.take i ++ [z] := by
  rw [List.take_succ, h]
  rfl
theorem sum_le : ∀ {l : List Str} {n m : Nat}, l.length ≤ n → (∀ x ∈ l, x.length ≤ m) → (l.map (·.length)).sum ≤ n * m
  | [], _, _, _, _ => Nat.zero_le _
  | x :: l, n + 1, m, h, hx => by
    have h1 := hx x List.mem_cons_self
    have h2 := sum_le (l := l) (n := n) (m := m) (by rw [List.length_cons] at h; omega) fun z hz => hx z (List.mem_cons_of_mem _ hz)
    rw [List.map_cons, List.sum_cons, Nat.succ_mul]
    omega
  | _ :: _, 0, _, h, _ => by cases h
theorem verd_good {ws : List Str} {b t m : Int} (ew : ws = trickW b t m) (b1 : 2 ≤ b) (b2 : b ≤ 16) (t1 : 1 ≤ t) (t2 : t ≤ 2) (m1 : -100 ≤ m) (m2 : m ≤ 100) : verdT ws = none := by
  subst ew
  have hb : ∀ j, j < 6 → badAt (trickW b t m) j = false := fun j hj => by
    have e1 := numsL_of (lo := 2) (hi := 16) b1 b2
    have e2 := numsL_of (lo := 1) (hi := 2) t1 t2
    have e3 := numsL_of (lo := -100) (hi := 100) m1 m2
    have g : ∀ {w : Str} {i : Nat}, (trickW b t m)[i]? = some w → w ∈ lotsL.getD i [] → badAt (trickW b t m) i = false := fun {w i} h1 h2 => by
      rw [bad_some h1, List.elem_iff.mpr h2]
      rfl
    match j, hj with
    | 0, _ => exact g (w := "base") rfl (List.mem_singleton.mpr rfl)
    | 1, _ => exact g rfl e1
    | 2, _ => exact g (w := "take") rfl (List.mem_singleton.mpr rfl)
    | 3, _ => exact g rfl e2
    | 4, _ => exact g (w := "times") rfl (List.mem_singleton.mpr rfl)
    | 5, _ => exact g rfl e3
  rw [verd_all hb, if_neg (by show ¬ 6 < 6; decide)]
theorem strI_inj {i j : Int} (h : strI i = strI j) (i1 : -100 ≤ i) (i2 : i ≤ 100) (j1 : -100 ≤ j) (j2 : j ≤ 100) : i = j := by
  have e1 := num_text i1 i2
  rw [h, num_text j1 j2] at e1
  exact (Option.some.inj e1).symm
theorem trickW_inj {b t m b' t' m' : Int} (e : trickW b t m = trickW b' t' m') (b1 : 2 ≤ b) (b2 : b ≤ 16) (t1 : 1 ≤ t) (t2 : t ≤ 2) (m1 : -100 ≤ m) (m2 : m ≤ 100) (b1' : 2 ≤ b') (b2' : b' ≤ 16) (t1' : 1 ≤ t') (t2' : t' ≤ 2) (m1' : -100 ≤ m') (m2' : m' ≤ 100) : b = b' ∧ t = t' ∧ m = m' := by
  have e1 : strI b = strI b' := Option.some.inj (congrArg (fun l => l[1]?) e)
  have e2 : strI t = strI t' := Option.some.inj (congrArg (fun l => l[3]?) e)
  have e3 : strI m = strI m' := Option.some.inj (congrArg (fun l => l[5]?) e)
  exact ⟨strI_inj e1 (by omega) (by omega) (by omega) (by omega), strI_inj e2 (by omega) (by omega) (by omega) (by omega), strI_inj e3 m1 m2 m1' m2'⟩
theorem eqB_same (b t m : Int) : eqB b t m b t m = true := by simp [eqB]
theorem ok_law (T : Tx P K mg) : FnOk P w K mg base CX0 lv_law T.a_law T.d_law ["_law_script"] (sp_law K) := by
  refine T.F_law.ok sc_law (fun vs H Q E h => ?_) (fun cdv A outer s H vs Q E hr h => ?_)
  · obtain ⟨a, ns, rfl, _⟩ := h
    rfl
  · obtain ⟨a, ns, rfl, hS, hlen, k⟩ := h
    refine ⟨_, (Evl.pss_cut (ps_set (i := 1) sc_law.nd rfl (Or.inr rfl) (pe_lst (pa_cons (pv 0) (pa_cons pe_int (pa_cons pe_int (pa_cons pe_int pa_nil))))))
      (Evl.pss_cut (ps_set (i := 2) sc_law.nd rfl (Or.inl rfl) (pe_lst (pa_cons pe_str (pa_cons pe_str (pa_cons pe_str (pa_cons pe_str (pa_cons pe_str (pa_cons pe_str (pa_cons pe_str (pa_cons pe_str (pa_cons pe_str (pa_cons pe_str (pa_cons pe_str (pa_cons pe_str (pa_cons pe_str (pa_cons pe_str (pa_cons pe_str (pa_cons pe_str (pa_cons pe_str pa_nil)))))))))))))))))))
      (pss_cons (ps_for PassesOwn.never rfl (pi_range1 (by rfl) T.n_range (pa_cons pe_int pa_nil)) (pg_name (i := 3) sc_law.nd rfl (Or.inl rfl)) (Evl.pss_cut (ps_asg (pe_call (ok__law_trick T) (hr.mono (by decide)) rfl T.g__law_trick T.F__law_trick.kp T.b__law_trick .nil pass0 (pa_cons (pv 1) (pa_cons pe_bl pa_nil))) (pg_unl rfl (pgs_cons (pg_name (i := 4) sc_law.nd rfl (Or.inl rfl)) (pgs_cons (pg_name (i := 5) sc_law.nd rfl (Or.inl rfl)) (pgs_cons (pg_name (i := 6) sc_law.nd rfl (Or.inl rfl)) pgs_nil)))))
      (Evl.pss_cut (ps_set (i := 7) sc_law.nd rfl (Or.inl rfl) (pe_lst (pa_cons pe_str (pa_cons (pe_callTy call_str_int (by rfl) T.n_str (by decide +kernel) (pa_cons (pv 4) pa_nil)) (pa_cons pe_str (pa_cons (pe_callTy call_str_int (by rfl) T.n_str (by decide +kernel) (pa_cons (pv 5) pa_nil)) (pa_cons pe_str (pa_cons (pe_callTy call_str_int (by rfl) T.n_str (by decide +kernel) (pa_cons (pv 6) pa_nil)) pa_nil))))))))
      (Evl.pss_cut (ps_if (PW.pt (pw_or (pt_cmpR op_ne (pe_call (ok_write T) (hr.mono (by decide)) rfl T.g_write T.F_write.kp T.b_write .nil pass0 (pa_cons (pe_make T.mk_Trick (ok_Trick___init__ T) (hr.mono (by decide)) rfl T.g_Trick T.b_Trick___init__ .nil pass0 (pa_cons (pv 4) (pa_cons (pv 5) (pa_cons (pv 6) pa_nil)))) pa_nil)) (pe_join pe_str (pv 7)) (nomark _)) (pw_or1 (pt_not (pt_cmpR (op_own (ok_Trick___eq__ T) (hr.mono (by decide)) T.m_Trick___eq__.at_ T.m_Trick___eq__.fn T.b_Trick___eq__ pass0) (pe_call (ok_read T) (hr.mono (by decide)) rfl T.g_read T.F_read.kp T.b_read .nil passL (pa_cons (pe_join pe_str (pv 7)) pa_nil)) (pe_make T.mk_Trick (ok_Trick___init__ T) (hr.mono (by decide)) rfl T.g_Trick T.b_Trick___init__ .nil pass0 (pa_cons (pv 4) (pa_cons (pv 5) (pa_cons (pv 6) pa_nil)))) (nomark _)))))) (pss_one (ps_ret pe_bl)) pss_nil)
      (Evl.pss_cut (ps_set (i := 8) sc_law.nd rfl (Or.inl rfl) (pe_op op_add_str (pe_op op_mulS pe_str (pe_call (ok__law_taken T) (hr.mono (by decide)) rfl T.g__law_taken T.F__law_taken.kp T.b__law_taken .nil pass0 (pa_cons (pv 1) (pa_cons pe_int pa_nil)))) (pe_join pe_str (pe_lc (own := [("_law_word", 13)]) (g := gName 13) (tt := tYes) rfl sc_law.nd (pi_list (pv 7)) (blkOk_by (own := [("_law_word", 13)]) (N := ["_law_script", "_law_line", "_law_odd", "_law_turn", "_law_base", "_law_take", "_law_times", "_law_words", "_law_wide", "_law_k", "_law_at", "_law_kind", "_law_more", "_law_word"]) (sc := defScope s_law) (by decide +kernel)) (fun _ _ _ _ _ => pg_name (i := 13) sc_law.nd rfl (Or.inl rfl)) (fun _ _ _ _ _ => pts_nil) (fun _ _ _ _ _ => (pe_op op_add_str (pv 13) (pe_op op_mulS pe_str (pe_op op_add pe_int (pe_call (ok__law_taken T) (hr.mono (by decide)) rfl T.g__law_taken T.F__law_taken.kp T.b__law_taken .nil pass0 (pa_cons (pv 1) (pa_cons pe_int pa_nil)))))))))))
      (Evl.pss_cut (ps_if (pt_not (pt_cmpR (op_own (ok_Trick___eq__ T) (hr.mono (by decide)) T.m_Trick___eq__.at_ T.m_Trick___eq__.fn T.b_Trick___eq__ pass0) (pe_call (ok_read T) (hr.mono (by decide)) rfl T.g_read T.F_read.kp T.b_read .nil passL (pa_cons (pv 8) pa_nil)) (pe_make T.mk_Trick (ok_Trick___init__ T) (hr.mono (by decide)) rfl T.g_Trick T.b_Trick___init__ .nil pass0 (pa_cons (pv 4) (pa_cons (pv 5) (pa_cons (pv 6) pa_nil)))) (nomark _))) (pss_one (ps_ret pe_bl)) pss_nil)
      (Evl.pss_cut (ps_for PassesOwn.never rfl (pi_range1 (by rfl) T.n_range (pa_cons (pe_op op_add pe_int (pe_call (ok__law_taken T) (hr.mono (by decide)) rfl T.g__law_taken T.F__law_taken.kp T.b__law_taken .nil pass0 (pa_cons (pv 1) (pa_cons pe_int pa_nil)))) pa_nil)) (pg_name (i := 9) sc_law.nd rfl (Or.inl rfl)) (Evl.pss_cut (ps_par (i := 10) (j := 11) rfl sc_law.nd rfl rfl (by decide) rfl rfl (pa_cons (pe_call (ok__law_taken T) (hr.mono (by decide)) rfl T.g__law_taken T.F__law_taken.kp T.b__law_taken .nil pass0 (pa_cons (pv 1) (pa_cons (pe_op op_add (pe_callB call_len_seq (by rfl) T.n_len (by decide +kernel) (pa_cons (pv 7) pa_nil)) pe_int) pa_nil))) (pa_cons (pe_call (ok__law_taken T) (hr.mono (by decide)) rfl T.g__law_taken T.F__law_taken.kp T.b__law_taken .nil pass0 (pa_cons (pv 1) (pa_cons pe_int pa_nil))) pa_nil)) (by rfl))
      (Evl.pss_cut (ps_set (i := 12) sc_law.nd rfl (Or.inl rfl) (pe_ifExp (pt_cmpR op_ne (pv 11) pe_int (nomark _)) (pe_lst (pa_cons (pe_ix ix_list (pv 2) (pe_call (ok__law_taken T) (hr.mono (by decide)) rfl T.g__law_taken T.F__law_taken.kp T.b__law_taken .nil pass0 (pa_cons (pv 1) (pa_cons (pe_callB call_len_seq (by rfl) T.n_len (by decide +kernel) (pa_cons (pv 2) pa_nil)) pa_nil))) (fun _ _ => rfl)) pa_nil)) (pe_lst pa_nil)))
      (Evl.pss_cut (ps_set (i := 7) sc_law.nd rfl (Or.inl rfl) (pe_op op_cat (pe_op op_cat (pe_slice sl_list (pv 7) po_none (po_some (pv 10))) (pv 12)) (pe_slice sl_list (pv 7) (po_some (pe_op op_add (pv 10) (pe_callTy call_int1 (by rfl) T.n_int (by decide +kernel) (pa_cons (pe_cmpR op_in_seq (pv 11) (pe_tup (pa_cons pe_int (pa_cons pe_int pa_nil))) (by with_unfolding_all rfl)) pa_nil)))) po_none)))
      (pss_one (ps_set (i := 7) sc_law.nd rfl (Or.inl rfl) (pe_ifExp (pt_cmpR op_eq (pe_call (ok__law_taken T) (hr.mono (by decide)) rfl T.g__law_taken T.F__law_taken.kp T.b__law_taken .nil pass0 (pa_cons (pv 1) (pa_cons pe_int pa_nil))) pe_int (nomark _)) (pe_revL (pv 7)) (pv 7))))))))
      (pss_one (ps_if (pt_cmpR op_ne (pe_call (ok__law_refused T) (hr.mono (by decide)) rfl T.g__law_refused T.F__law_refused.kp T.b__law_refused .nil pass0 (pa_cons (pe_join pe_str (pv 7)) pa_nil)) (pe_call (ok__law_wrong T) (hr.mono (by decide)) rfl T.g__law_wrong T.F__law_wrong.kp T.b__law_wrong .nil pass0 (pa_cons (pv 7) pa_nil)) (nomark _)) (pss_one (ps_ret pe_bl)) pss_nil)))))))))
      (pss_one (ps_ret (pe_and (pe_cmpR op_eq (pe_call (ok__law_refused T) (hr.mono (by decide)) rfl T.g__law_refused T.F__law_refused.kp T.b__law_refused .nil pass0 (pa_cons pe_str pa_nil)) pe_int (nomark _)) (pe_one (pe_cmpR op_eq (pe_call (ok__law_refused T) (hr.mono (by decide)) rfl T.g__law_refused T.F__law_refused.kp T.b__law_refused .nil pass0 (pa_cons pe_str pa_nil)) pe_int (nomark _))))))))), ?_⟩
    have hsz : (200000 : Nat) ≤ sizeLine := by decide
    refine ⟨fun σ H1 => ∃ r, RowAt K H1 r a ns ∧ σ = [some (.ref a), some (.ref r), none, none, none, none, none, none, none, none, none, none, none, none], ?_, ?_⟩
    · exact ⟨_, rfl, by show 4 ≤ sizeLine; decide, fun r hr0 => ⟨r, RowAt.start hr0 hS hlen (by decide) (by decide), rfl⟩⟩
    clear hS
    rintro σ H1 ⟨r, R1, rfl⟩
    -- odd words
    refine ⟨fun σ H2 => ∃ O, O ≠ r ∧ H2 O = some (.lst (oddL.map V.str)) ∧ RowAt K H2 r a ns ∧ σ = [some (.ref a), some (.ref r), some (.ref O), none, none, none, none, none, none, none, none, none, none, none], ?_, ?_⟩
    · exact ⟨by show 17 ≤ sizeLine; decide, fun O hO => ⟨O, R1.ne hO, upd_same, R1.new hO, rfl⟩⟩
    clear R1
    rintro σ H2 ⟨O, nOr, hO, R2, rfl⟩
    refine ⟨8, rfl, by decide, by decide, ?_⟩
    refine for_range (lo := 0) (n := 8) (fun i σ H3 => ∃ x3 x4 x5 x6 x7 x8 x9 x10 x11 x12 x13 : Option V, H3 O = some (.lst (oddL.map V.str)) ∧ RowAt K H3 r a ns ∧ σ = [some (.ref a), some (.ref r), some (.ref O), x3, x4, x5, x6, x7, x8, x9, x10, x11, x12, x13]) ⟨none, none, none, none, none, none, none, none, none, none, none, hO, R2, rfl⟩ ?_ ?_
    · clear hO R2
      rintro i σ H3 hi ⟨x3, x4, x5, x6, x7, x8, x9, x10, x11, x12, x13, hO, R3, rfl⟩
      -- the parts
      refine ⟨fun σ H4 => ∃ b t m : Int, 2 ≤ b ∧ b ≤ 16 ∧ 1 ≤ t ∧ t ≤ 2 ∧ -100 ≤ m ∧ m ≤ 100 ∧ H4 O = some (.lst (oddL.map V.str)) ∧ RowAt K H4 r a ns ∧ σ = [some (.ref a), some (.ref r), some (.ref O), some (.int (0 + (i : Int))), some (.int b), some (.int t), some (.int m), x7, x8, x9, x10, x11, x12, x13], ?_, ?_⟩
      · refine ⟨_, rfl, r, a, ns, false, rfl, R3, fun b t m q H4 b1 b2 t1 t2 _ m1 m2 R4 B4 hq0 hq nqr => ?_⟩
        exact ⟨q, _, rfl, SqL.of hq, rfl, _, _, rfl, _, _, rfl, _, _, rfl, rfl, b, t, m, b1, b2, t1, t2, m1, m2, B4 _ _ hO nOr, R4, rfl⟩
      clear hO R3
      rintro σ H4 ⟨b, t, m, b1, b2, t1, t2, m1, m2, hO, R4, rfl⟩
      generalize some (V.int (0 + (i : Int))) = x3
      have wk := trickW_ok b1 b2 t1 t2 m1 m2
      have tw := txt_words wk (show (trickW b t m).length ≤ 500 by show 6 ≤ 500; decide)
      -- its words
      refine ⟨fun σ H5 => ∃ W, W ≠ r ∧ H5 W = some (.lst ((trickW b t m).map V.str)) ∧ H5 O = some (.lst (oddL.map V.str)) ∧ RowAt K H5 r a ns ∧ σ = [some (.ref a), some (.ref r), some (.ref O), x3, some (.int b), some (.int t), some (.int m), some (.ref W), x8, x9, x10, x11, x12, x13], ?_, ?_⟩
      · refine ⟨_, rfl, b, rfl, num_log (by omega) (by omega), _, rfl, t, rfl, num_log (by omega) (by omega), _, rfl, m, rfl, num_log m1 m2, by show 6 ≤ sizeLine; decide, fun W hW => ?_⟩
        exact ⟨W, R4.ne hW, upd_same, same_upd hW _ _ hO, R4.new hW, rfl⟩
      clear hO R4
      rintro σ H5 ⟨W, nWr, hW, hO, R5, rfl⟩
      have js := join_size wk (show (trickW b t m).length ≤ 100 by show 6 ≤ 100; decide)
      -- it is written, and read
      refine ⟨fun σ H6 => Same H5 H6 ∧ σ = [some (.ref a), some (.ref r), some (.ref O), x3, some (.int b), some (.int t), some (.int m), some (.ref W), x8, x9, x10, x11, x12, x13], ?_, ?_⟩
      · refine ⟨_, rfl, _, rfl, _, rfl, fun p dx np nx nn => mk_trick np nx b1 b2 t1 t2 m1 m2 fun H6 hp S6 => ?_⟩
        refine ⟨p, b, t, m, rfl, hp, ?_⟩
        refine ⟨⟨_, rfl⟩, _, rfl, " ", W, trickW b t m, rfl, rfl, .inl (SqL.of (S6 _ _ hW)), js _ (by decide +kernel), ?_⟩
        refine ⟨rfl, _, rfl, ?_⟩
        rw [show decide (V.str (trickS b t m) = V.str (Txt.join " " (trickW b t m))) = true from decide_eq_true rfl]
        refine iteF ⟨⟨_, rfl⟩, _, rfl, " ", W, trickW b t m, rfl, rfl, .inl (SqL.of (S6 _ _ hW)), js _ (by decide +kernel), _, rfl, tw.len, by rw [tw.words]; exact tw.few, tw.split, fun n hn => ?_, fun b' t' m' e g1 g2 g3 g4 g5 g6 p2 H7 S7 hT => ?_⟩
        · rw [tw.words, verd_good rfl b1 b2 t1 t2 m1 m2] at hn
          cases hn
        · rw [tw.words] at e
          obtain ⟨rfl, rfl, rfl⟩ := trickW_inj e b1 b2 t1 t2 m1 m2 g1 g2 g3 g4 g5 g6
          refine ⟨_, rfl, _, rfl, _, rfl, fun q dy nq ny nn => mk_trick nq ny b1 b2 t1 t2 m1 m2 fun H8 hQ S8 => ?_⟩
          have hT8 := hT.same S8
          obtain ⟨⟨dz, ez⟩, _⟩ := id hT8
          obtain ⟨⟨dq, eq⟩, _⟩ := id hQ
          refine ⟨p2, dz, _, rfl, ez, .inl ⟨q, dq, _, rfl, eq⟩, p2, .ref q, b, t, m, rfl, hT8, .inl ⟨q, b, t, m, rfl, hQ, ⟨_, rfl⟩, _, rfl, ?_⟩⟩
          rw [eqB_same]
          exact iteF ⟨(S6.trans S7).trans S8, rfl⟩
      rintro σ H6 ⟨S6, rfl⟩
      replace hW := S6 _ _ hW
      replace hO := S6 _ _ hO
      replace R5 := R5.same S6
      clear S6
      -- with more blanks
      refine ⟨fun σ H7 => ∃ (n : Nat) (us : List Nat) (x13 : Option V), (trickW b t m).length = us.length ∧ (∀ u ∈ us, u ≤ 2) ∧ n ≤ 2 ∧ H7 W = some (.lst ((trickW b t m).map V.str)) ∧ H7 O = some (.lst (oddL.map V.str)) ∧ RowAt K H7 r a ns ∧ σ = [some (.ref a), some (.ref r), some (.ref O), x3, some (.int b), some (.int t), some (.int m), some (.ref W), some (.str (strRep " " n ++ Txt.join "" (((trickW b t m).zip us).map fun z => z.1 ++ strRep " " (1 + z.2)))), x9, x10, x11, x12, x13], ?_, ?_⟩
      · refine ⟨_, rfl, r, a, ns, _, rfl, by decide, by decide, R5, fun v H7 v0 v1 R7 B7 => ⟨" ", v, rfl, rfl, v0, by omega, by decide +kernel, ?_⟩⟩
        have hW7 := B7 _ _ hW nWr
        have hO7 := B7 _ _ hO nOr
        refine ⟨⟨_, rfl⟩, _, rfl, W, rfl, ⟨_, SqL.of hW7⟩, fun D hD => ?_⟩
        have nDr := R7.ne hD
        have nDW : D ≠ W := (ne_of_none hW7 hD).symm
        have nDO : D ≠ O := (ne_of_none hO7 hD).symm
        refine lc_it walk_list (fun i H8 => RowAt K H8 r a ns ∧ H8 W = some (.lst ((trickW b t m).map V.str)) ∧ H8 O = some (.lst (oddL.map V.str)) ∧ ∃ us : List Nat, us.length = i ∧ (∀ u ∈ us, u ≤ 2) ∧ H8 D = some (.lst (((((trickW b t m).take i).zip us).map fun z => z.1 ++ strRep " " (1 + z.2)).map V.str))) ⟨R7.new hD, same_upd hD _ _ hW7, same_upd hD _ _ hO7, [], rfl, (fun _ z => nomatch z), upd_same⟩ (fun i H8 _ ⟨_, h, _⟩ => SqL.of h) ?_ ?_
        · rintro i y H8 H9 hi ⟨R8, hW8, hO8, us, lu, wu, hD8⟩ ⟨rfl, hy⟩
          rw [List.getElem?_map] at hy
          obtain ⟨z, hz, rfl⟩ := Option.map_eq_some_iff.mp hy
          have zk := word_len (wk z (List.mem_of_getElem? hz))
          refine ⟨rfl, _, rfl, _, rfl, r, a, ns, _, rfl, by decide, by decide, R8, fun u H10 u0 u1 R10 B10 => ⟨_, _, rfl, rfl, " ", 1 + u, rfl, rfl, by omega, by omega, by decide +kernel, ?_⟩⟩
          have hD10 := B10 _ _ hD8 nDr
          have eu : (1 + u).toNat = 1 + u.toNat := by omega
          have lr : (strRep " " (1 + u).toNat).length ≤ 3 := by
            rw [TL.len_tl, tl_strRep, List.length_flatten, List.map_replicate, List.sum_replicate_nat]
            show (1 + u).toNat * 1 ≤ 3
            omega
          have lt : ((trickW b t m).take i).length = i := by
            rw [List.length_take]
            rw [List.length_map] at hi
            omega
          refine ⟨_, _, rfl, rfl, by omega, _, hD10, by rw [List.length_map, List.length_map, List.length_zip, lt]; exact small1000 (by rw [List.length_map] at hi; have h6 : (trickW b t m).length = 6 := rfl; omega), R10.put hD10 nDr, ?_, ?_, us ++ [u.toNat], by simp [lu], fun x hx => ?_, ?_⟩
          · rw [upd_ne nDW.symm]
            exact B10 _ _ hW8 nWr
          · rw [upd_ne nDO.symm]
            exact B10 _ _ hO8 nOr
          · rcases List.mem_append.mp hx with hx | hx
            · exact wu x hx
            · rw [List.mem_singleton.mp hx]
              omega
          · rw [upd_same, eu, take_snoc' hz, List.zip_append (by rw [lt, lu]), List.map_append, List.map_append]
            rfl
        · rintro H8 ⟨R8, hW8, hO8, us, lu, wu, hD8⟩
          rw [List.length_map] at lu
          rw [List.length_map, List.take_length] at hD8
          have wt := wide_txt (n := v.toNat) lu.symm wk (by show 6 ≤ 100; decide) wu (by omega)
          refine ⟨"", D, _, rfl, rfl, .inl (SqL.of hD8), ?_, ?_⟩
          · have : ((((trickW b t m).zip us).map fun z => z.1 ++ strRep " " (1 + z.2)).map (·.length)).sum ≤ 6 * 30 := by
              have h6 : (((trickW b t m).zip us).map fun z => z.1 ++ strRep " " (1 + z.2)).length ≤ 6 := by
                rw [List.length_map, List.length_zip]
                show min 6 us.length ≤ 6
                omega
              have hz : ∀ x ∈ (((trickW b t m).zip us).map fun z => z.1 ++ strRep " " (1 + z.2)), x.length ≤ 30 := fun x hx => by
                obtain ⟨z, hz, rfl⟩ := List.mem_map.mp hx
                obtain ⟨z1, z2⟩ := List.of_mem_zip hz
                have l1 := word_len (wk _ z1)
                have l2 := wu _ z2
                rw [len_app, TL.len_tl (strRep _ _), tl_strRep, List.length_flatten, List.map_replicate, List.sum_replicate_nat]
                show z.1.length + (1 + z.2) * 1 ≤ 30
                omega
              exact sum_le h6 hz
            have l0 : ("" : Str).length = 0 := by decide +kernel
            rw [l0, Nat.mul_zero]
            omega
          · refine ⟨_, _, rfl, rfl, ?_, v.toNat, us, _, lu.symm, wu, by omega, hW8, hO8, R8, rfl⟩
            rw [← len_app]
            have := wt.len
            omega
      clear hW hO R5
      rintro σ H7 ⟨n, us, x13, lu, wu, ln, hW, hO, R7, rfl⟩
      have wt := wide_txt (n := n) lu wk (by show 6 ≤ 100; decide) wu ln
      generalize (strRep " " n ++ Txt.join "" (((trickW b t m).zip us).map fun z => z.1 ++ strRep " " (1 + z.2))) = wd at *
      refine ⟨fun σ H8 => Same H7 H8 ∧ σ = [some (.ref a), some (.ref r), some (.ref O), x3, some (.int b), some (.int t), some (.int m), some (.ref W), some (.str wd), x9, x10, x11, x12, x13], ?_, ?_⟩
      · refine ⟨_, rfl, _, rfl, wt.len, by rw [wt.words]; exact wt.few, wt.split, fun n hn => ?_, fun b' t' m' e g1 g2 g3 g4 g5 g6 p2 H7 S7 hT => ?_⟩
        · rw [wt.words, verd_good rfl b1 b2 t1 t2 m1 m2] at hn
          cases hn
        · rw [wt.words] at e
          obtain ⟨rfl, rfl, rfl⟩ := trickW_inj e b1 b2 t1 t2 m1 m2 g1 g2 g3 g4 g5 g6
          refine ⟨_, rfl, _, rfl, _, rfl, fun q dy nq ny nn => mk_trick nq ny b1 b2 t1 t2 m1 m2 fun H8 hQ S8 => ?_⟩
          have hT8 := hT.same S8
          obtain ⟨⟨dz, ez⟩, _⟩ := id hT8
          obtain ⟨⟨dq, eq⟩, _⟩ := id hQ
          refine ⟨p2, dz, _, rfl, ez, .inl ⟨q, dq, _, rfl, eq⟩, p2, .ref q, b, t, m, rfl, hT8, .inl ⟨q, b, t, m, rfl, hQ, ⟨_, rfl⟩, _, rfl, ?_⟩⟩
          rw [eqB_same]
          exact iteF ⟨S7.trans S8, rfl⟩
      rintro σ H8 ⟨S8, rfl⟩
      replace hW := S8 _ _ hW
      replace hO := S8 _ _ hO
      replace R7 := R7.same S8
      clear S8
      generalize some (V.str wd) = x8
      -- words changed
      refine ⟨fun σ H9 => ∃ (W : Addr) (ws : List Str) (x9 x10 x11 x12 : Option V), W ≠ r ∧ ws.length ≤ 10 ∧ (∀ w ∈ ws, wordOk w = true) ∧ H9 W = some (.lst (ws.map V.str)) ∧ H9 O = some (.lst (oddL.map V.str)) ∧ RowAt K H9 r a ns ∧ σ = [some (.ref a), some (.ref r), some (.ref O), x3, some (.int b), some (.int t), some (.int m), some (.ref W), x8, x9, x10, x11, x12, x13], ?_, ?_⟩
      · refine ⟨_, rfl, r, a, ns, _, rfl, by decide, by decide, R7, fun v H9 v0 v1 R9 B9 => ?_⟩
        have hW9 := B9 _ _ hW nWr
        have hO9 := B9 _ _ hO nOr
        clear hW hO R7
        refine ⟨_, _, rfl, rfl, _, rfl, by omega, by omega, ?_⟩
        refine for_range (lo := 0) (n := (1 + v).toNat) (fun j σ H8 => ∃ (W : Addr) (ws : List Str) (x9 x10 x11 x12 : Option V), W ≠ r ∧ ws.length ≤ 6 + j ∧ (∀ w ∈ ws, wordOk w = true) ∧ H8 W = some (.lst (ws.map V.str)) ∧ H8 O = some (.lst (oddL.map V.str)) ∧ RowAt K H8 r a ns ∧ σ = [some (.ref a), some (.ref r), some (.ref O), x3, some (.int b), some (.int t), some (.int m), some (.ref W), x8, x9, x10, x11, x12, x13]) ?_ ?_ ?_
        · exact ⟨W, _, _, _, _, _, nWr, Nat.le_refl _, wk, hW9, hO9, R9, rfl⟩
        · clear hW9 hO9 R9 nWr wk tw js wt
          rintro j σ H8 hj ⟨W, ws, x9, x10, x11, x12, nWr, lw, wk, hW, hO, R8, rfl⟩
          refine ⟨fun σ H9 => ∃ (v k : Int), 0 ≤ v ∧ v ≤ ws.length ∧ 0 ≤ k ∧ k < 4 ∧ H9 W = some (.lst (ws.map V.str)) ∧ H9 O = some (.lst (oddL.map V.str)) ∧ RowAt K H9 r a ns ∧ σ = [some (.ref a), some (.ref r), some (.ref O), x3, some (.int b), some (.int t), some (.int m), some (.ref W), x8, some (.int (0 + (j : Int))), some (.int v), some (.int k), x12, x13], ?_, ?_⟩
          · refine ⟨_, rfl, _, rfl, W, _, rfl, .inl (SqL.of hW), _, _, rfl, rfl, r, a, ns, _, rfl, by rw [List.length_map]; omega, by rw [List.length_map]; omega, R8, fun v H9 v0 v1 R9 B9 => ?_⟩
            refine ⟨_, rfl, r, a, ns, _, rfl, by decide, by decide, R9, fun k H10 k0 k1 R10 B10 => ?_⟩
            refine ⟨_, _, rfl, v, k, v0, by rw [List.length_map] at v1; omega, k0, k1, B10 _ _ (B9 _ _ hW nWr) nWr, B10 _ _ (B9 _ _ hO nOr) nOr, R10, rfl⟩
          clear hW hO R8
          rintro σ H9 ⟨v, k, v0, v1, k0, k1, hW, hO, R9, rfl⟩
          generalize some (V.int (0 + (j : Int))) = y9
          obtain ⟨v, rfl⟩ := Int.eq_ofNat_of_zero_le v0
          refine ⟨fun σ H10 => ∃ (M : Addr) (ms : List Str), H10 M = some (.lst (ms.map V.str)) ∧ ms.length ≤ 1 ∧ (∀ w ∈ ms, wordOk w = true) ∧ H10 W = some (.lst (ws.map V.str)) ∧ H10 O = some (.lst (oddL.map V.str)) ∧ RowAt K H10 r a ns ∧ σ = [some (.ref a), some (.ref r), some (.ref O), x3, some (.int b), some (.int t), some (.int m), some (.ref W), x8, y9, some (.int (v : Int)), some (.int k), some (.ref M), x13], ?_, ?_⟩
          · refine ⟨_, rfl, rfl, _, rfl, ?_⟩
            by_cases hk : k = 1
            · subst hk
              rw [decide_eq_true rfl]
              refine iteF ⟨by show 0 ≤ sizeLine; decide, fun M hM => ?_⟩
              exact ⟨M, [], upd_same, by decide, (fun _ z => nomatch z), same_upd hM _ _ hW, same_upd hM _ _ hO, R9.new hM, rfl⟩
            · rw [decide_eq_false (fun e => hk (V.int.inj e))]
              refine iteT ⟨_, rfl, _, rfl, _, rfl, O, _, rfl, .inl (SqL.of hO), r, a, ns, _, rfl, by decide, by decide, R9, fun u H10 u0 u1 R10 B10 => ?_⟩
              have hO10 := B10 _ _ hO nOr
              obtain ⟨z, ⟨w, rfl, ww⟩, hz⟩ := at_someV (fun z => ∃ w, z = V.str w ∧ wordOk w = true) (xs := oddL.map V.str) (fun z hz => by
                obtain ⟨w, hw, rfl⟩ := List.mem_map.mp hz
                exact ⟨w, rfl, List.all_eq_true.mp oddL_ok _ hw⟩) u0 u1
              refine ⟨O, _, _, _, rfl, rfl, SqL.of hO10, hz, by show 1 ≤ sizeLine; decide, fun M hM => ?_⟩
              exact ⟨M, [w], upd_same, Nat.le_refl _, (fun w' hw => by rw [List.mem_singleton.mp hw]; exact ww), same_upd hM _ _ (B10 _ _ hW nWr), same_upd hM _ _ hO10, R10.new hM, rfl⟩
          clear hW hO R9
          rintro σ H10 ⟨M, ms, hM, lm, wm, hW, hO, R10, rfl⟩
          refine ⟨fun σ H11 => ∃ (W : Addr) (ws : List Str), W ≠ r ∧ ws.length ≤ 6 + (j + 1) ∧ (∀ w ∈ ws, wordOk w = true) ∧ H11 W = some (.lst (ws.map V.str)) ∧ H11 O = some (.lst (oddL.map V.str)) ∧ RowAt K H11 r a ns ∧ σ = [some (.ref a), some (.ref r), some (.ref O), x3, some (.int b), some (.int t), some (.int m), some (.ref W), x8, y9, some (.int (v : Int)), some (.int k), some (.ref M), x13], ?_, ?_⟩
          · refine ⟨_, rfl, _, rfl, _, rfl, W, _, rfl, SqL.of hW, fun f1 h1 => ?_⟩
            rw [cutV_takeS]
            have S1 := same_upd (o := .lst ((ws.take v).map V.str)) h1
            refine ⟨_, rfl, f1, M, _, _, rfl, rfl, upd_same, S1 _ _ hM, Nat.le_of_lt (small1000 (by rw [List.length_map, List.length_map, List.length_take]; omega)), fun f3 h3 => ?_⟩
            have S3 := S1.trans (same_upd (o := .lst ((ws.take v).map V.str ++ ms.map V.str)) h3)
            refine ⟨_, rfl, _, rfl, _, rfl, ?_⟩
            refine ⟨by show 2 ≤ sizeLine; decide, fun p hp => ?_⟩
            refine ⟨p, _, rfl, .inr (SqT.of upd_same), rfl, rfl, .inr ⟨_, rfl, ?_⟩⟩
            refine ⟨_, _, rfl, rfl, _, rfl, W, _, rfl, SqL.of (same_upd hp _ _ (S3 _ _ hW)), fun f4 h4 => ?_⟩
            obtain ⟨d, ld, ed⟩ : ∃ d : Nat, d ≤ 1 ∧ ((v : Int) + (if inV (V.int k) [V.int 1, V.int 2] = true then 1 else 0)) = ((v + d : Nat) : Int) := by
              cases inV (V.int k) [V.int 1, V.int 2]
              · exact ⟨0, by decide, by simp⟩
              · exact ⟨1, by decide, by simp⟩
            have e : cutV (ws.map V.str) (some ((v : Int) + (if inV (V.int k) [V.int 1, V.int 2] = true then 1 else 0))) none = (ws.drop (v + d)).map V.str := by rw [ed, cutV_drop, List.map_drop]
            have S5 := (S3.trans (same_upd (o := .tup [.int 1, .int 2]) hp)).trans (same_upd (o := .lst (cutV (ws.map V.str) (some ((v : Int) + (if inV (V.int k) [V.int 1, V.int 2] = true then 1 else 0))) none)) h4)
            have lk : (ws.take v ++ ms ++ ws.drop (v + d)).length ≤ 6 + (j + 1) := by
              rw [List.length_append, List.length_append, List.length_take, List.length_drop]
              omega
            refine ⟨f3, f4, _, (ws.drop (v + d)).map V.str, rfl, rfl, same_upd h4 _ _ (same_upd hp _ _ upd_same), upd_same.trans (congrArg (fun l => some (HO.lst l)) e), Nat.le_of_lt (small1000 ?_), fun f5 h5 => ?_⟩
            · rw [← List.map_append, List.length_map, List.length_map]
              rw [List.length_append] at lk
              omega
            have S6 := S5.trans (same_upd (o := .lst ((ws.take v).map V.str ++ ms.map V.str ++ (ws.drop (v + d)).map V.str)) h5)
            have R11 := R10.same S6
            refine ⟨f5, ws.take v ++ ms ++ ws.drop (v + d), (R10.same S5).ne h5, lk, fun w hw => ?_, by rw [upd_same, List.map_append, List.map_append], S6 _ _ hO, R11, rfl⟩
            rcases List.mem_append.mp hw with hw | hw
            · rcases List.mem_append.mp hw with hw | hw
              · exact wk w (List.mem_of_mem_take hw)
              · exact wm w hw
            · exact wk w (List.mem_of_mem_drop hw)
          clear hW hO R10 hM lm wm nWr wk lw
          rintro σ H11 ⟨W, ws, nWr, lw, wk, hW, hO, R11, rfl⟩
          refine ⟨_, rfl, r, a, ns, _, rfl, by decide, by decide, R11, fun u H12 u0 u1 R12 B12 => ?_⟩
          have hW12 := B12 _ _ hW nWr
          have hO12 := B12 _ _ hO nOr
          refine ⟨rfl, _, rfl, ?_⟩
          by_cases hu : u = 0
          · subst hu
            rw [decide_eq_true rfl]
            refine iteT ⟨_, rfl, W, _, rfl, SqL.of hW12, fun p hp => ?_⟩
            exact ⟨p, ws.reverse, _, _, _, _, R12.ne hp, by rw [List.length_reverse]; exact lw, fun w hw => wk w (List.mem_reverse.mp hw), by rw [upd_same, List.map_reverse], same_upd hp _ _ hO12, R12.new hp, rfl⟩
          · rw [decide_eq_false (fun e => hu (V.int.inj e))]
            exact iteF ⟨_, rfl, W, ws, _, _, _, _, nWr, lw, wk, hW12, hO12, R12, rfl⟩
        · rintro σ H8 ⟨W, ws, x9, x10, x11, x12, nWr, lw, wk, hW, hO, R8, rfl⟩
          exact ⟨W, ws, x9, x10, x11, x12, nWr, by omega, wk, hW, hO, R8, rfl⟩
      clear hW hO R7 wk tw js nWr wt
      rintro σ H9 ⟨W, ws, x9, x10, x11, x12, nWr, lw, wk, hW, hO, R9, rfl⟩
      have tw := txt_words wk (by omega)
      refine ⟨⟨_, rfl⟩, _, rfl, " ", W, ws, rfl, rfl, .inl (SqL.of hW), join_size wk (by omega) _ (by decide +kernel), _, ws, rfl, tw, fun H10 S10 => ?_⟩
      refine ⟨_, rfl, W, ws, rfl, S10 _ _ hW, by omega, fun H11 S11 => ?_⟩
      refine ⟨scal_opt _ _, _, rfl, ?_⟩
      rw [decide_eq_true rfl]
      have S12 := S10.trans S11
      exact iteF ⟨_, _, _, _, _, _, _, _, _, _, _, S12 _ _ hO, R9.same S12, rfl⟩
    · rintro σ H3 ⟨x3, x4, x5, x6, x7, x8, x9, x10, x11, x12, x13, hO, R3, rfl⟩
      have t0 : TxtOk "" [] := by
        have := txt_words (ws := []) (fun w hw => nomatch hw) (by decide)
        rw [show Txt.join " " [] = ("" : Str) by decide +kernel] at this
        exact this
      have t1 : TxtOk "base 10\ntake 1 times 1" ["base", "10\ntake", "1", "times", "1"] := by
        have := txt_words (ws := ["base", "10\ntake", "1", "times", "1"]) (List.all_eq_true.mp (by decide +kernel)) (by decide)
        rw [show Txt.join " " ["base", "10\ntake", "1", "times", "1"] = ("base 10\ntake 1 times 1" : Str) by decide +kernel] at this
        exact this
      refine ⟨_, [], rfl, t0, fun H4 S4 => ?_⟩
      refine ⟨rfl, _, rfl, ?_⟩
      rw [show decide (optV (verdT []) = V.int 1) = true from by decide +kernel]
      refine iteT ⟨_, _, rfl, t1, fun H5 S5 => ⟨rfl, ?_⟩⟩
      rw [show decide (optV (verdT ["base", "10\ntake", "1", "times", "1"]) = V.int 2) = true from by decide +kernel]
      exact k _

end
/-! ### the end -/
theorem all_mk {l : PySem.W.OpenLaw} {w : World} {K : PySem.W.Frag} {h : Heap} {mg : Str → Option Value} {fa : Addr} (X : K.In h) (G : h.Ns mainGlobals mg) (hfa : mg "law" = some (.ref fa))
    {C_TrickError : Addr}
    {C_BadBase : Addr}
    {C_BadTake : Addr}
    {C_BadTimes : Addr}
    {C_BadTrick : Addr}
    {C_InvalidText : Addr}
    {tk_LEAST_BASE : Tok}
    {tk_GREATEST_BASE : Tok}
    {tk_GREATEST_TAKE : Tok}
    {tk_GREATEST_TIMES : Tok}
    {a_is_integer : Addr} {od_is_integer an_is_integer : Option Addr} {sl_is_integer : Array (Option Value)} {oc_is_integer kV_is_integer dc_is_integer pm_is_integer cd_is_integer ct_is_integer : Value}
    {a_check_base : Addr} {od_check_base an_check_base : Option Addr} {sl_check_base : Array (Option Value)} {oc_check_base kV_check_base dc_check_base pm_check_base cd_check_base ct_check_base : Value}
    {a_check_take : Addr} {od_check_take an_check_take : Option Addr} {sl_check_take : Array (Option Value)} {oc_check_take kV_check_take dc_check_take pm_check_take cd_check_take ct_check_take : Value}
    {a_check_trick : Addr} {od_check_trick an_check_trick : Option Addr} {sl_check_trick : Array (Option Value)} {oc_check_trick kV_check_trick dc_check_trick pm_check_trick cd_check_trick ct_check_trick : Value}
    {a_write : Addr} {od_write an_write : Option Addr} {sl_write : Array (Option Value)} {oc_write kV_write dc_write pm_write cd_write ct_write : Value}
    {a_read : Addr} {od_read an_read : Option Addr} {sl_read : Array (Option Value)} {oc_read kV_read dc_read pm_read cd_read ct_read : Value}
    {a_possible_words : Addr} {od_possible_words an_possible_words : Option Addr} {sl_possible_words : Array (Option Value)} {oc_possible_words kV_possible_words dc_possible_words pm_possible_words cd_possible_words ct_possible_words : Value}
    {a_written : Addr} {od_written an_written : Option Addr} {sl_written : Array (Option Value)} {oc_written kV_written dc_written pm_written cd_written ct_written : Value}
    {a__law_taken : Addr} {od__law_taken an__law_taken : Option Addr} {sl__law_taken : Array (Option Value)} {oc__law_taken kV__law_taken dc__law_taken pm__law_taken cd__law_taken ct__law_taken : Value}
    {a__law_power : Addr} {od__law_power an__law_power : Option Addr} {sl__law_power : Array (Option Value)} {oc__law_power kV__law_power dc__law_power pm__law_power cd__law_power ct__law_power : Value}
    {a__law_trick : Addr} {od__law_trick an__law_trick : Option Addr} {sl__law_trick : Array (Option Value)} {oc__law_trick kV__law_trick dc__law_trick pm__law_trick cd__law_trick ct__law_trick : Value}
    {a__law_wrong : Addr} {od__law_wrong an__law_wrong : Option Addr} {sl__law_wrong : Array (Option Value)} {oc__law_wrong kV__law_wrong dc__law_wrong pm__law_wrong cd__law_wrong ct__law_wrong : Value}
    {a__law_refused : Addr} {od__law_refused an__law_refused : Option Addr} {sl__law_refused : Array (Option Value)} {oc__law_refused kV__law_refused dc__law_refused pm__law_refused cd__law_refused ct__law_refused : Value}
    {a_law : Addr} {od_law an_law : Option Addr} {sl_law : Array (Option Value)} {oc_law kV_law dc_law pm_law cd_law ct_law : Value}
    {C_Trick : Addr}
    {a_Trick___init__ : Addr} {od_Trick___init__ an_Trick___init__ : Option Addr} {sl_Trick___init__ : Array (Option Value)} {oc_Trick___init__ kV_Trick___init__ dc_Trick___init__ pm_Trick___init__ cd_Trick___init__ ct_Trick___init__ : Value}
    {pr_Trick_base : Addr} {rs_Trick_base : List Value}
    {a_Trick_base : Addr} {od_Trick_base an_Trick_base : Option Addr} {sl_Trick_base : Array (Option Value)} {oc_Trick_base kV_Trick_base dc_Trick_base pm_Trick_base cd_Trick_base ct_Trick_base : Value}
    {pr_Trick_take : Addr} {rs_Trick_take : List Value}
    {a_Trick_take : Addr} {od_Trick_take an_Trick_take : Option Addr} {sl_Trick_take : Array (Option Value)} {oc_Trick_take kV_Trick_take dc_Trick_take pm_Trick_take cd_Trick_take ct_Trick_take : Value}
    {pr_Trick_times : Addr} {rs_Trick_times : List Value}
    {a_Trick_times : Addr} {od_Trick_times an_Trick_times : Option Addr} {sl_Trick_times : Array (Option Value)} {oc_Trick_times kV_Trick_times dc_Trick_times pm_Trick_times cd_Trick_times ct_Trick_times : Value}
    {a_Trick___eq__ : Addr} {od_Trick___eq__ an_Trick___eq__ : Option Addr} {sl_Trick___eq__ : Array (Option Value)} {oc_Trick___eq__ kV_Trick___eq__ dc_Trick___eq__ pm_Trick___eq__ cd_Trick___eq__ ct_Trick___eq__ : Value}
    {a_InvalidText___init__ cda_InvalidText___init__ cc_InvalidText___init__ N_InvalidText___init__ : Addr} {od_InvalidText___init__ an_InvalidText___init__ cdd_InvalidText___init__ cld_InvalidText___init__ dd_InvalidText___init__ : Option Addr} {sl_InvalidText___init__ ccs_InvalidText___init__ csl_InvalidText___init__ : Array (Option Value)} {oc_InvalidText___init__ dc_InvalidText___init__ pm_InvalidText___init__ ct_InvalidText___init__ ccl_InvalidText___init__ cl_InvalidText___init__ : Value} {vs_InvalidText___init__ : Array Value} {file_InvalidText___init__ nm_InvalidText___init__ qn_InvalidText___init__ : Str} {tf_InvalidText___init__ : Tok} {bs_InvalidText___init__ bm_InvalidText___init__ sub_InvalidText___init__ : List Value} {sn_InvalidText___init__ : List Str} {ab_InvalidText___init__ : Bool} {col_InvalidText___init__ : Option Bool} {k0_InvalidText___init__ k1_InvalidText___init__ k2_InvalidText___init__ k3_InvalidText___init__ k5_InvalidText___init__ : Option Value}
    (gx_TrickError : PySem.W.nsIn K mainGlobals "TrickError" = some (some (.ref C_TrickError)))
    (x_TrickError : PySem.W.excIn K C_TrickError [.type "ValueError", .type "Exception", .type "BaseException", .type "object"] "ValueError.__new__" = true)
    (k_TrickError : PySem.W.keepIn K (.ref C_TrickError) = true)
    (s_TrickError : PySem.W.subIn K (.ref C_TrickError) (.type "BaseException") = some true)
    (t_TrickError : PySem.W.typeIn K (.ref C_TrickError) = some (.type "type"))
    (gx_BadBase : PySem.W.nsIn K mainGlobals "BadBase" = some (some (.ref C_BadBase)))
    (x_BadBase : PySem.W.excIn K C_BadBase [.type "ValueError", .type "Exception", .type "BaseException", .type "object"] "ValueError.__new__" = true)
    (k_BadBase : PySem.W.keepIn K (.ref C_BadBase) = true)
    (s_BadBase : PySem.W.subIn K (.ref C_BadBase) (.type "BaseException") = some true)
    (t_BadBase : PySem.W.typeIn K (.ref C_BadBase) = some (.type "type"))
    (gx_BadTake : PySem.W.nsIn K mainGlobals "BadTake" = some (some (.ref C_BadTake)))
    (x_BadTake : PySem.W.excIn K C_BadTake [.type "ValueError", .type "Exception", .type "BaseException", .type "object"] "ValueError.__new__" = true)
    (k_BadTake : PySem.W.keepIn K (.ref C_BadTake) = true)
    (s_BadTake : PySem.W.subIn K (.ref C_BadTake) (.type "BaseException") = some true)
    (t_BadTake : PySem.W.typeIn K (.ref C_BadTake) = some (.type "type"))
    (gx_BadTimes : PySem.W.nsIn K mainGlobals "BadTimes" = some (some (.ref C_BadTimes)))
    (x_BadTimes : PySem.W.excIn K C_BadTimes [.type "ValueError", .type "Exception", .type "BaseException", .type "object"] "ValueError.__new__" = true)
    (k_BadTimes : PySem.W.keepIn K (.ref C_BadTimes) = true)
    (s_BadTimes : PySem.W.subIn K (.ref C_BadTimes) (.type "BaseException") = some true)
    (t_BadTimes : PySem.W.typeIn K (.ref C_BadTimes) = some (.type "type"))
    (gx_BadTrick : PySem.W.nsIn K mainGlobals "BadTrick" = some (some (.ref C_BadTrick)))
    (x_BadTrick : PySem.W.excIn K C_BadTrick [.type "ValueError", .type "Exception", .type "BaseException", .type "object"] "ValueError.__new__" = true)
    (k_BadTrick : PySem.W.keepIn K (.ref C_BadTrick) = true)
    (s_BadTrick : PySem.W.subIn K (.ref C_BadTrick) (.type "BaseException") = some true)
    (t_BadTrick : PySem.W.typeIn K (.ref C_BadTrick) = some (.type "type"))
    (gx_InvalidText : PySem.W.nsIn K mainGlobals "InvalidText" = some (some (.ref C_InvalidText)))
    (k_InvalidText : PySem.W.keepIn K (.ref C_InvalidText) = true)
    (s_InvalidText : PySem.W.subIn K (.ref C_InvalidText) (.type "BaseException") = some true)
    (t_InvalidText : PySem.W.typeIn K (.ref C_InvalidText) = some (.type "type"))
    (hd_InvalidText : PySem.W.hasDictIn K C_InvalidText = true)
    (su_TrickError_InvalidText : PySem.W.subIn K (.ref C_TrickError) (.ref C_InvalidText) = some false)
    (su_BadBase_InvalidText : PySem.W.subIn K (.ref C_BadBase) (.ref C_InvalidText) = some false)
    (su_BadTake_InvalidText : PySem.W.subIn K (.ref C_BadTake) (.ref C_InvalidText) = some false)
    (su_BadTimes_InvalidText : PySem.W.subIn K (.ref C_BadTimes) (.ref C_InvalidText) = some false)
    (su_BadTrick_InvalidText : PySem.W.subIn K (.ref C_BadTrick) (.ref C_InvalidText) = some false)
    (su_InvalidText_InvalidText : PySem.W.subIn K (.ref C_InvalidText) (.ref C_InvalidText) = some true)
    (cx_LEAST_BASE : PySem.W.nsIn K mainGlobals "LEAST_BASE" = some (some (.int 2 tk_LEAST_BASE)))
    (cx_GREATEST_BASE : PySem.W.nsIn K mainGlobals "GREATEST_BASE" = some (some (.int 16 tk_GREATEST_BASE)))
    (cx_GREATEST_TAKE : PySem.W.nsIn K mainGlobals "GREATEST_TAKE" = some (some (.int 2 tk_GREATEST_TAKE)))
    (cx_GREATEST_TIMES : PySem.W.nsIn K mainGlobals "GREATEST_TIMES" = some (some (.int 100 tk_GREATEST_TIMES)))
    (gf_is_integer : PySem.W.nsIn K mainGlobals "is_integer" = some (some (.ref a_is_integer)))
    (l_is_integer : K.lookup a_is_integer = some ⟨oc_is_integer, od_is_integer, .func (PySem.W.fnOf "is_integer" "is_integer" (defArgs s_is_integer) (defBody s_is_integer) (defScope s_is_integer) .none kV_is_integer dc_is_integer pm_is_integer an_is_integer cd_is_integer ct_is_integer), sl_is_integer⟩)
    (c_is_integer : PySem.W.codeIn K cd_is_integer "is_integer" = true)
    (kp_is_integer : PySem.W.keepIn K (.ref a_is_integer) = true)
    (gf_check_base : PySem.W.nsIn K mainGlobals "check_base" = some (some (.ref a_check_base)))
    (l_check_base : K.lookup a_check_base = some ⟨oc_check_base, od_check_base, .func (PySem.W.fnOf "check_base" "check_base" (defArgs s_check_base) (defBody s_check_base) (defScope s_check_base) .none kV_check_base dc_check_base pm_check_base an_check_base cd_check_base ct_check_base), sl_check_base⟩)
    (c_check_base : PySem.W.codeIn K cd_check_base "check_base" = true)
    (kp_check_base : PySem.W.keepIn K (.ref a_check_base) = true)
    (gf_check_take : PySem.W.nsIn K mainGlobals "check_take" = some (some (.ref a_check_take)))
    (l_check_take : K.lookup a_check_take = some ⟨oc_check_take, od_check_take, .func (PySem.W.fnOf "check_take" "check_take" (defArgs s_check_take) (defBody s_check_take) (defScope s_check_take) .none kV_check_take dc_check_take pm_check_take an_check_take cd_check_take ct_check_take), sl_check_take⟩)
    (c_check_take : PySem.W.codeIn K cd_check_take "check_take" = true)
    (kp_check_take : PySem.W.keepIn K (.ref a_check_take) = true)
    (gf_check_trick : PySem.W.nsIn K mainGlobals "check_trick" = some (some (.ref a_check_trick)))
    (l_check_trick : K.lookup a_check_trick = some ⟨oc_check_trick, od_check_trick, .func (PySem.W.fnOf "check_trick" "check_trick" (defArgs s_check_trick) (defBody s_check_trick) (defScope s_check_trick) .none kV_check_trick dc_check_trick pm_check_trick an_check_trick cd_check_trick ct_check_trick), sl_check_trick⟩)
    (c_check_trick : PySem.W.codeIn K cd_check_trick "check_trick" = true)
    (kp_check_trick : PySem.W.keepIn K (.ref a_check_trick) = true)
    (gf_write : PySem.W.nsIn K mainGlobals "write" = some (some (.ref a_write)))
    (l_write : K.lookup a_write = some ⟨oc_write, od_write, .func (PySem.W.fnOf "write" "write" (defArgs s_write) (defBody s_write) (defScope s_write) .none kV_write dc_write pm_write an_write cd_write ct_write), sl_write⟩)
    (c_write : PySem.W.codeIn K cd_write "write" = true)
    (kp_write : PySem.W.keepIn K (.ref a_write) = true)
    (gf_read : PySem.W.nsIn K mainGlobals "read" = some (some (.ref a_read)))
    (l_read : K.lookup a_read = some ⟨oc_read, od_read, .func (PySem.W.fnOf "read" "read" (defArgs s_read) (defBody s_read) (defScope s_read) .none kV_read dc_read pm_read an_read cd_read ct_read), sl_read⟩)
    (c_read : PySem.W.codeIn K cd_read "read" = true)
    (kp_read : PySem.W.keepIn K (.ref a_read) = true)
    (gf_possible_words : PySem.W.nsIn K mainGlobals "possible_words" = some (some (.ref a_possible_words)))
    (l_possible_words : K.lookup a_possible_words = some ⟨oc_possible_words, od_possible_words, .func (PySem.W.fnOf "possible_words" "possible_words" (defArgs s_possible_words) (defBody s_possible_words) (defScope s_possible_words) .none kV_possible_words dc_possible_words pm_possible_words an_possible_words cd_possible_words ct_possible_words), sl_possible_words⟩)
    (c_possible_words : PySem.W.codeIn K cd_possible_words "possible_words" = true)
    (kp_possible_words : PySem.W.keepIn K (.ref a_possible_words) = true)
    (gf_written : PySem.W.nsIn K mainGlobals "written" = some (some (.ref a_written)))
    (l_written : K.lookup a_written = some ⟨oc_written, od_written, .func (PySem.W.fnOf "written" "written" (defArgs s_written) (defBody s_written) (defScope s_written) .none kV_written dc_written pm_written an_written cd_written ct_written), sl_written⟩)
    (c_written : PySem.W.codeIn K cd_written "written" = true)
    (kp_written : PySem.W.keepIn K (.ref a_written) = true)
    (gf__law_taken : PySem.W.nsIn K mainGlobals "_law_taken" = some (some (.ref a__law_taken)))
    (l__law_taken : K.lookup a__law_taken = some ⟨oc__law_taken, od__law_taken, .func (PySem.W.fnOf "_law_taken" "_law_taken" (defArgs s__law_taken) (defBody s__law_taken) (defScope s__law_taken) .none kV__law_taken dc__law_taken pm__law_taken an__law_taken cd__law_taken ct__law_taken), sl__law_taken⟩)
    (c__law_taken : PySem.W.codeIn K cd__law_taken "_law_taken" = true)
    (kp__law_taken : PySem.W.keepIn K (.ref a__law_taken) = true)
    (gf__law_power : PySem.W.nsIn K mainGlobals "_law_power" = some (some (.ref a__law_power)))
    (l__law_power : K.lookup a__law_power = some ⟨oc__law_power, od__law_power, .func (PySem.W.fnOf "_law_power" "_law_power" (defArgs s__law_power) (defBody s__law_power) (defScope s__law_power) .none kV__law_power dc__law_power pm__law_power an__law_power cd__law_power ct__law_power), sl__law_power⟩)
    (c__law_power : PySem.W.codeIn K cd__law_power "_law_power" = true)
    (kp__law_power : PySem.W.keepIn K (.ref a__law_power) = true)
    (gf__law_trick : PySem.W.nsIn K mainGlobals "_law_trick" = some (some (.ref a__law_trick)))
    (l__law_trick : K.lookup a__law_trick = some ⟨oc__law_trick, od__law_trick, .func (PySem.W.fnOf "_law_trick" "_law_trick" (defArgs s__law_trick) (defBody s__law_trick) (defScope s__law_trick) .none kV__law_trick dc__law_trick pm__law_trick an__law_trick cd__law_trick ct__law_trick), sl__law_trick⟩)
    (c__law_trick : PySem.W.codeIn K cd__law_trick "_law_trick" = true)
    (kp__law_trick : PySem.W.keepIn K (.ref a__law_trick) = true)
    (gf__law_wrong : PySem.W.nsIn K mainGlobals "_law_wrong" = some (some (.ref a__law_wrong)))
    (l__law_wrong : K.lookup a__law_wrong = some ⟨oc__law_wrong, od__law_wrong, .func (PySem.W.fnOf "_law_wrong" "_law_wrong" (defArgs s__law_wrong) (defBody s__law_wrong) (defScope s__law_wrong) .none kV__law_wrong dc__law_wrong pm__law_wrong an__law_wrong cd__law_wrong ct__law_wrong), sl__law_wrong⟩)
    (c__law_wrong : PySem.W.codeIn K cd__law_wrong "_law_wrong" = true)
    (kp__law_wrong : PySem.W.keepIn K (.ref a__law_wrong) = true)
    (gf__law_refused : PySem.W.nsIn K mainGlobals "_law_refused" = some (some (.ref a__law_refused)))
    (l__law_refused : K.lookup a__law_refused = some ⟨oc__law_refused, od__law_refused, .func (PySem.W.fnOf "_law_refused" "_law_refused" (defArgs s__law_refused) (defBody s__law_refused) (defScope s__law_refused) .none kV__law_refused dc__law_refused pm__law_refused an__law_refused cd__law_refused ct__law_refused), sl__law_refused⟩)
    (c__law_refused : PySem.W.codeIn K cd__law_refused "_law_refused" = true)
    (kp__law_refused : PySem.W.keepIn K (.ref a__law_refused) = true)
    (gf_law : PySem.W.nsIn K mainGlobals "law" = some (some (.ref a_law)))
    (l_law : K.lookup a_law = some ⟨oc_law, od_law, .func (PySem.W.fnOf "law" "law" (defArgs s_law) (defBody s_law) (defScope s_law) .none kV_law dc_law pm_law an_law cd_law ct_law), sl_law⟩)
    (c_law : PySem.W.codeIn K cd_law "law" = true)
    (kp_law : PySem.W.keepIn K (.ref a_law) = true)
    (gx_Trick : PySem.W.nsIn K mainGlobals "Trick" = some (some (.ref C_Trick)))
    (pg_Trick : PySem.W.plainGet K C_Trick Str.empty = true)
    (hd_Trick : PySem.W.hasDictIn K C_Trick = true)
    (po_Trick : PySem.W.plainOver K C_Trick = true)
    (sa_Trick : PySem.W.findIn K (.ref C_Trick) "__setattr__" = some (some (.builtin "object.__setattr__")))
    (mk_Trick : PySem.W.makesIn K C_Trick = true)
    (kc_Trick : PySem.W.keepIn K (.ref C_Trick) = true)
    (cc_Trick : PySem.W.findIn K (.ref C_Trick) "__class__" = some (some (.builtin "object.__class__")))
    (mo_Trick : PySem.W.mroIn K C_Trick (.type "object") = some true)
    (sp_cls : PySem.W.specialIn K (.builtin "object.__class__") "__get__" = some (some (.builtin "getset_descriptor.__get__")))
    (tk_cls : PySem.W.takesIn K (.builtin "object.__class__") = some true)
    (ki_Trick_int : PySem.W.kitOne K (.ref C_Trick) (.type "int") = some false)
    (ki_Trick_bool : PySem.W.kitOne K (.ref C_Trick) (.type "bool") = some false)
    (nf_Trick_tuple : PySem.W.subIn K (.type "tuple") (.ref C_Trick) = some false)
    (kis_Trick : PySem.W.kitOne K (.ref C_Trick) (.ref C_Trick) = some true)
    (kin_Trick_int : PySem.W.kitOne K (.type "int") (.ref C_Trick) = some false)
    (kin_Trick_bool : PySem.W.kitOne K (.type "bool") (.ref C_Trick) = some false)
    (kin_Trick_tuple : PySem.W.kitOne K (.type "tuple") (.ref C_Trick) = some false)
    (kin_Trick_list : PySem.W.kitOne K (.type "list") (.ref C_Trick) = some false)
    (kin_Trick_NoneType : PySem.W.kitOne K (.type "NoneType") (.ref C_Trick) = some false)
    (kin_Trick_str : PySem.W.kitOne K (.type "str") (.ref C_Trick) = some false)
    (kin_Trick_dict : PySem.W.kitOne K (.type "dict") (.ref C_Trick) = some false)
    (na_Trick_base : PySem.W.findIn K (.ref C_Trick) "_base" = some none)
    (na_Trick_take : PySem.W.findIn K (.ref C_Trick) "_take" = some none)
    (na_Trick_times : PySem.W.findIn K (.ref C_Trick) "_times" = some none)
    (gf_Trick___init__ : PySem.W.findIn K (.ref C_Trick) "__init__" = some (some (.ref a_Trick___init__)))
    (l_Trick___init__ : K.lookup a_Trick___init__ = some ⟨oc_Trick___init__, od_Trick___init__, .func (PySem.W.fnOf "__init__" "Trick.__init__" (defArgs s_Trick___init__) (defBody s_Trick___init__) (defScope s_Trick___init__) .none kV_Trick___init__ dc_Trick___init__ pm_Trick___init__ an_Trick___init__ cd_Trick___init__ ct_Trick___init__), sl_Trick___init__⟩)
    (c_Trick___init__ : PySem.W.codeIn K cd_Trick___init__ "Trick.__init__" = true)
    (kp_Trick___init__ : PySem.W.keepIn K (.ref a_Trick___init__) = true)
    (isf_Trick___init__ : PySem.W.isFn K (.ref a_Trick___init__) = true)
    (pa_Trick_base : PySem.W.findIn K (.ref C_Trick) "base" = some (some (.ref pr_Trick_base)))
    (pg_Trick_base : PySem.W.specialIn K (.ref pr_Trick_base) "__get__" = some (some (.builtin "property.__get__")))
    (pt_Trick_base : PySem.W.takesIn K (.ref pr_Trick_base) = some true)
    (prr_Trick_base : PySem.W.recIn K pr_Trick_base "property" = some (.ref a_Trick_base :: rs_Trick_base))
    (l_Trick_base : K.lookup a_Trick_base = some ⟨oc_Trick_base, od_Trick_base, .func (PySem.W.fnOf "base" "Trick.base" (defArgs s_Trick_base) (defBody s_Trick_base) (defScope s_Trick_base) .none kV_Trick_base dc_Trick_base pm_Trick_base an_Trick_base cd_Trick_base ct_Trick_base), sl_Trick_base⟩)
    (c_Trick_base : PySem.W.codeIn K cd_Trick_base "Trick.base" = true)
    (kp_Trick_base : PySem.W.keepIn K (.ref a_Trick_base) = true)
    (pa_Trick_take : PySem.W.findIn K (.ref C_Trick) "take" = some (some (.ref pr_Trick_take)))
    (pg_Trick_take : PySem.W.specialIn K (.ref pr_Trick_take) "__get__" = some (some (.builtin "property.__get__")))
    (pt_Trick_take : PySem.W.takesIn K (.ref pr_Trick_take) = some true)
    (prr_Trick_take : PySem.W.recIn K pr_Trick_take "property" = some (.ref a_Trick_take :: rs_Trick_take))
    (l_Trick_take : K.lookup a_Trick_take = some ⟨oc_Trick_take, od_Trick_take, .func (PySem.W.fnOf "take" "Trick.take" (defArgs s_Trick_take) (defBody s_Trick_take) (defScope s_Trick_take) .none kV_Trick_take dc_Trick_take pm_Trick_take an_Trick_take cd_Trick_take ct_Trick_take), sl_Trick_take⟩)
    (c_Trick_take : PySem.W.codeIn K cd_Trick_take "Trick.take" = true)
    (kp_Trick_take : PySem.W.keepIn K (.ref a_Trick_take) = true)
    (pa_Trick_times : PySem.W.findIn K (.ref C_Trick) "times" = some (some (.ref pr_Trick_times)))
    (pg_Trick_times : PySem.W.specialIn K (.ref pr_Trick_times) "__get__" = some (some (.builtin "property.__get__")))
    (pt_Trick_times : PySem.W.takesIn K (.ref pr_Trick_times) = some true)
    (prr_Trick_times : PySem.W.recIn K pr_Trick_times "property" = some (.ref a_Trick_times :: rs_Trick_times))
    (l_Trick_times : K.lookup a_Trick_times = some ⟨oc_Trick_times, od_Trick_times, .func (PySem.W.fnOf "times" "Trick.times" (defArgs s_Trick_times) (defBody s_Trick_times) (defScope s_Trick_times) .none kV_Trick_times dc_Trick_times pm_Trick_times an_Trick_times cd_Trick_times ct_Trick_times), sl_Trick_times⟩)
    (c_Trick_times : PySem.W.codeIn K cd_Trick_times "Trick.times" = true)
    (kp_Trick_times : PySem.W.keepIn K (.ref a_Trick_times) = true)
    (gf_Trick___eq__ : PySem.W.findIn K (.ref C_Trick) "__eq__" = some (some (.ref a_Trick___eq__)))
    (l_Trick___eq__ : K.lookup a_Trick___eq__ = some ⟨oc_Trick___eq__, od_Trick___eq__, .func (PySem.W.fnOf "__eq__" "Trick.__eq__" (defArgs s_Trick___eq__) (defBody s_Trick___eq__) (defScope s_Trick___eq__) .none kV_Trick___eq__ dc_Trick___eq__ pm_Trick___eq__ an_Trick___eq__ cd_Trick___eq__ ct_Trick___eq__), sl_Trick___eq__⟩)
    (c_Trick___eq__ : PySem.W.codeIn K cd_Trick___eq__ "Trick.__eq__" = true)
    (kp_Trick___eq__ : PySem.W.keepIn K (.ref a_Trick___eq__) = true)
    (isf_Trick___eq__ : PySem.W.isFn K (.ref a_Trick___eq__) = true)
    (z_int : PySem.W.nsIn K mainGlobals "int" = some none)
    (z_bool : PySem.W.nsIn K mainGlobals "bool" = some none)
    (z_len : PySem.W.nsIn K mainGlobals "len" = some none)
    (z_range : PySem.W.nsIn K mainGlobals "range" = some none)
    (z_isinstance : PySem.W.nsIn K mainGlobals "isinstance" = some none)
    (z_enumerate : PySem.W.nsIn K mainGlobals "enumerate" = some none)
    (z_super : PySem.W.nsIn K mainGlobals "super" = some none)
    (z_str : PySem.W.nsIn K mainGlobals "str" = some none)
    (z_ValueError : PySem.W.nsIn K mainGlobals "ValueError" = some none)
    (xl_InvalidText___init__ : K.lookup C_InvalidText = some (PySem.excClassObj nm_InvalidText___init__ qn_InvalidText___init__ C_InvalidText N_InvalidText___init__ bs_InvalidText___init__ bm_InvalidText___init__ true sn_InvalidText___init__ sub_InvalidText___init__ ab_InvalidText___init__ col_InvalidText___init__ dd_InvalidText___init__ k0_InvalidText___init__ k1_InvalidText___init__ k2_InvalidText___init__ k3_InvalidText___init__ k5_InvalidText___init__ "ValueError.__new__"))
    (xrb_InvalidText___init__ : PySem.HandSPX.refsVE bm_InvalidText___init__ = true)
    (xsa_InvalidText___init__ : PySem.W.findIn K (.ref C_InvalidText) "__setattr__" = some (some (.builtin "object.__setattr__")))
    (xga_InvalidText___init__ : PySem.W.findIn K (.ref C_InvalidText) "__getattribute__" = some (some (.builtin "BaseException.__getattribute__")))
    (xgg_InvalidText___init__ : PySem.W.findIn K (.ref C_InvalidText) "__getattr__" = some none)
    (xnf_InvalidText___init__ : PySem.W.findIn K (.ref C_InvalidText) "word" = some none)
    (xic_InvalidText___init__ : PySem.W.findIn K (.ref C_InvalidText) "__init__" = some (some (.ref a_InvalidText___init__)))
    (xtc_InvalidText___init__ : PySem.W.typeIn K (.ref a_InvalidText___init__) = some (.type "function"))
    (xhd_InvalidText___init__ : PySem.W.hasDictIn K C_InvalidText = true)
    (xup_InvalidText___init__ : PySem.W.ks_superIn K C_InvalidText C_InvalidText "__init__" = some (some (.builtin "ValueError.__init__")))
    (xan_InvalidText___init__ : PySem.W.nsIn K PySem.cStatics "thirdparty.any" = some none)
    (xve_InvalidText___init__ : PySem.W.subIn K (.ref C_InvalidText) (.type "ValueError") = some true)
    (xow_InvalidText___init__ : PySem.W.mroIn K C_InvalidText (.ref C_InvalidText) = some true)
    (rmn_InvalidText___init__ : (l.prog.main.scope.names.lookup ("super" : Str)).isSome = false)
    (xfn_InvalidText___init__ : K.lookup a_InvalidText___init__ = some ⟨oc_InvalidText___init__, od_InvalidText___init__, .func (PySem.W.ksFn "__init__" "InvalidText.__init__" (defArgs s_InvalidText___init__) (defBody s_InvalidText___init__) (defScope s_InvalidText___init__) .none .none dc_InvalidText___init__ pm_InvalidText___init__ an_InvalidText___init__ (.ref cda_InvalidText___init__) ct_InvalidText___init__ cc_InvalidText___init__), sl_InvalidText___init__⟩)
    (xco_InvalidText___init__ : PySem.W.codeIn K (.ref cda_InvalidText___init__) "InvalidText.__init__" = true)
    (xcd_InvalidText___init__ : K.lookup cda_InvalidText___init__ = some ⟨ccl_InvalidText___init__, cdd_InvalidText___init__, .fields vs_InvalidText___init__, ccs_InvalidText___init__⟩)
    (rvs_InvalidText___init__ : vs_InvalidText___init__[2]? = some (.str file_InvalidText___init__ tf_InvalidText___init__))
    (rfi_InvalidText___init__ : ((l.prog.main.file : Str) == file_InvalidText___init__) = true)
    (xcc_InvalidText___init__ : K.lookup cc_InvalidText___init__ = some ⟨cl_InvalidText___init__, cld_InvalidText___init__, .cell (some (.ref C_InvalidText)), csl_InvalidText___init__⟩)
    : ∃ fd : FuncData, (∀ (s : Shared) (v : Value), BindsTo s fd ⟨[v], []⟩ [("_law_script", v)]) ∧ ∀ base : Heap, K.In base → base.Ns mainGlobals mg → FnOk l.prog w K mg base CX0 lv_law fa fd ["_law_script"] (sp_law K) := by
  have e := hfa.symm.trans (PySem.W.mg_of X G gf_law)
  have e2 : a_law = fa := by cases e; rfl
  subst e2
  refine ⟨PySem.W.fnOf "law" "law" (defArgs s_law) (defBody s_law) (defScope s_law) .none kV_law dc_law pm_law an_law cd_law ct_law, fun s v => .of_eq rfl, fun base _ _ => ?_⟩
  exact ok_law (T :=
    { C_TrickError := C_TrickError,
      g_TrickError := PySem.W.mg_of X G gx_TrickError,
      x_TrickError := x_TrickError,
      k_TrickError := k_TrickError,
      s_TrickError := s_TrickError,
      t_TrickError := t_TrickError,
      C_BadBase := C_BadBase,
      g_BadBase := PySem.W.mg_of X G gx_BadBase,
      x_BadBase := x_BadBase,
      k_BadBase := k_BadBase,
      s_BadBase := s_BadBase,
      t_BadBase := t_BadBase,
      C_BadTake := C_BadTake,
      g_BadTake := PySem.W.mg_of X G gx_BadTake,
      x_BadTake := x_BadTake,
      k_BadTake := k_BadTake,
      s_BadTake := s_BadTake,
      t_BadTake := t_BadTake,
      C_BadTimes := C_BadTimes,
      g_BadTimes := PySem.W.mg_of X G gx_BadTimes,
      x_BadTimes := x_BadTimes,
      k_BadTimes := k_BadTimes,
      s_BadTimes := s_BadTimes,
      t_BadTimes := t_BadTimes,
      C_BadTrick := C_BadTrick,
      g_BadTrick := PySem.W.mg_of X G gx_BadTrick,
      x_BadTrick := x_BadTrick,
      k_BadTrick := k_BadTrick,
      s_BadTrick := s_BadTrick,
      t_BadTrick := t_BadTrick,
      C_InvalidText := C_InvalidText,
      g_InvalidText := PySem.W.mg_of X G gx_InvalidText,
      k_InvalidText := k_InvalidText,
      s_InvalidText := s_InvalidText,
      t_InvalidText := t_InvalidText,
      hd_InvalidText := hd_InvalidText,
      xm_TrickError_InvalidText := PySem.W.exm_ref s_InvalidText hd_InvalidText t_InvalidText su_TrickError_InvalidText,
      xm_BadBase_InvalidText := PySem.W.exm_ref s_InvalidText hd_InvalidText t_InvalidText su_BadBase_InvalidText,
      xm_BadTake_InvalidText := PySem.W.exm_ref s_InvalidText hd_InvalidText t_InvalidText su_BadTake_InvalidText,
      xm_BadTimes_InvalidText := PySem.W.exm_ref s_InvalidText hd_InvalidText t_InvalidText su_BadTimes_InvalidText,
      xm_BadTrick_InvalidText := PySem.W.exm_ref s_InvalidText hd_InvalidText t_InvalidText su_BadTrick_InvalidText,
      xm_InvalidText_InvalidText := PySem.W.exm_ref s_InvalidText hd_InvalidText t_InvalidText su_InvalidText_InvalidText,
      t_c_LEAST_BASE := tk_LEAST_BASE,
      c_LEAST_BASE := PySem.W.mg_of X G cx_LEAST_BASE,
      t_c_GREATEST_BASE := tk_GREATEST_BASE,
      c_GREATEST_BASE := PySem.W.mg_of X G cx_GREATEST_BASE,
      t_c_GREATEST_TAKE := tk_GREATEST_TAKE,
      c_GREATEST_TAKE := PySem.W.mg_of X G cx_GREATEST_TAKE,
      t_c_GREATEST_TIMES := tk_GREATEST_TIMES,
      c_GREATEST_TIMES := PySem.W.mg_of X G cx_GREATEST_TIMES,
      a_is_integer := a_is_integer,
      d_is_integer := _,
      F_is_integer := fun_mk (st := s_is_integer) l_is_integer c_is_integer kp_is_integer,
      b_is_integer := (fun_mk (st := s_is_integer) l_is_integer c_is_integer kp_is_integer).binds (ps := ["told", "low", "high"]) fun _ _ _ _ _ _ us hl => match us, hl with | [_, _, _], _ => rfl,
      g_is_integer := PySem.W.mg_of X G gf_is_integer,
      a_check_base := a_check_base,
      d_check_base := _,
      F_check_base := fun_mk (st := s_check_base) l_check_base c_check_base kp_check_base,
      b_check_base := (fun_mk (st := s_check_base) l_check_base c_check_base kp_check_base).binds (ps := ["base"]) fun _ _ _ _ _ _ us hl => match us, hl with | [_], _ => rfl,
      g_check_base := PySem.W.mg_of X G gf_check_base,
      a_check_take := a_check_take,
      d_check_take := _,
      F_check_take := fun_mk (st := s_check_take) l_check_take c_check_take kp_check_take,
      b_check_take := (fun_mk (st := s_check_take) l_check_take c_check_take kp_check_take).binds (ps := ["take"]) fun _ _ _ _ _ _ us hl => match us, hl with | [_], _ => rfl,
      g_check_take := PySem.W.mg_of X G gf_check_take,
      a_check_trick := a_check_trick,
      d_check_trick := _,
      F_check_trick := fun_mk (st := s_check_trick) l_check_trick c_check_trick kp_check_trick,
      b_check_trick := (fun_mk (st := s_check_trick) l_check_trick c_check_trick kp_check_trick).binds (ps := ["trick"]) fun _ _ _ _ _ _ us hl => match us, hl with | [_], _ => rfl,
      g_check_trick := PySem.W.mg_of X G gf_check_trick,
      a_write := a_write,
      d_write := _,
      F_write := fun_mk (st := s_write) l_write c_write kp_write,
      b_write := (fun_mk (st := s_write) l_write c_write kp_write).binds (ps := ["trick"]) fun _ _ _ _ _ _ us hl => match us, hl with | [_], _ => rfl,
      g_write := PySem.W.mg_of X G gf_write,
      a_read := a_read,
      d_read := _,
      F_read := fun_mk (st := s_read) l_read c_read kp_read,
      b_read := (fun_mk (st := s_read) l_read c_read kp_read).binds (ps := ["text"]) fun _ _ _ _ _ _ us hl => match us, hl with | [_], _ => rfl,
      g_read := PySem.W.mg_of X G gf_read,
      a_possible_words := a_possible_words,
      d_possible_words := _,
      F_possible_words := fun_mk (st := s_possible_words) l_possible_words c_possible_words kp_possible_words,
      b_possible_words := (fun_mk (st := s_possible_words) l_possible_words c_possible_words kp_possible_words).binds (ps := []) fun _ _ _ _ _ _ us hl => match us, hl with | [], _ => rfl,
      g_possible_words := PySem.W.mg_of X G gf_possible_words,
      a_written := a_written,
      d_written := _,
      F_written := fun_mk (st := s_written) l_written c_written kp_written,
      b_written := (fun_mk (st := s_written) l_written c_written kp_written).binds (ps := ["low", "high"]) fun _ _ _ _ _ _ us hl => match us, hl with | [_, _], _ => rfl,
      g_written := PySem.W.mg_of X G gf_written,
      a__law_taken := a__law_taken,
      d__law_taken := _,
      F__law_taken := fun_mk (st := s__law_taken) l__law_taken c__law_taken kp__law_taken,
      b__law_taken := (fun_mk (st := s__law_taken) l__law_taken c__law_taken kp__law_taken).binds (ps := ["_law_row", "_law_many"]) fun _ _ _ _ _ _ us hl => match us, hl with | [_, _], _ => rfl,
      g__law_taken := PySem.W.mg_of X G gf__law_taken,
      a__law_power := a__law_power,
      d__law_power := _,
      F__law_power := fun_mk (st := s__law_power) l__law_power c__law_power kp__law_power,
      b__law_power := (fun_mk (st := s__law_power) l__law_power c__law_power kp__law_power).binds (ps := ["_law_base", "_law_many"]) fun _ _ _ _ _ _ us hl => match us, hl with | [_, _], _ => rfl,
      g__law_power := PySem.W.mg_of X G gf__law_power,
      a__law_trick := a__law_trick,
      d__law_trick := _,
      F__law_trick := fun_mk (st := s__law_trick) l__law_trick c__law_trick kp__law_trick,
      b__law_trick := (fun_mk (st := s__law_trick) l__law_trick c__law_trick kp__law_trick).binds (ps := ["_law_row", "_law_small"]) fun _ _ _ _ _ _ us hl => match us, hl with | [_, _], _ => rfl,
      g__law_trick := PySem.W.mg_of X G gf__law_trick,
      a__law_wrong := a__law_wrong,
      d__law_wrong := _,
      F__law_wrong := fun_mk (st := s__law_wrong) l__law_wrong c__law_wrong kp__law_wrong,
      b__law_wrong := (fun_mk (st := s__law_wrong) l__law_wrong c__law_wrong kp__law_wrong).binds (ps := ["_law_words"]) fun _ _ _ _ _ _ us hl => match us, hl with | [_], _ => rfl,
      g__law_wrong := PySem.W.mg_of X G gf__law_wrong,
      a__law_refused := a__law_refused,
      d__law_refused := _,
      F__law_refused := fun_mk (st := s__law_refused) l__law_refused c__law_refused kp__law_refused,
      b__law_refused := (fun_mk (st := s__law_refused) l__law_refused c__law_refused kp__law_refused).binds (ps := ["_law_text"]) fun _ _ _ _ _ _ us hl => match us, hl with | [_], _ => rfl,
      g__law_refused := PySem.W.mg_of X G gf__law_refused,
      a_law := a_law,
      d_law := _,
      F_law := fun_mk (st := s_law) l_law c_law kp_law,
      b_law := (fun_mk (st := s_law) l_law c_law kp_law).binds (ps := ["_law_script"]) fun _ _ _ _ _ _ us hl => match us, hl with | [_], _ => rfl,
      g_law := PySem.W.mg_of X G gf_law,
      C_Trick := C_Trick,
      cl_Trick := ⟨pg_Trick, hd_Trick, po_Trick, sa_Trick⟩,
      g_Trick := PySem.W.mg_of X G gx_Trick,
      kc_Trick := kc_Trick,
      ins_Trick := fun _ _ _ _ e => .ins e ⟨pg_Trick, hd_Trick, po_Trick, sa_Trick⟩ cc_Trick sp_cls tk_cls mo_Trick,
      ki_Trick_int := ki_Trick_int,
      ki_Trick_bool := ki_Trick_bool,
      nf_Trick_tuple := nf_Trick_tuple,
      kis_Trick := kis_Trick,
      kin_Trick_int := kin_Trick_int,
      kin_Trick_bool := kin_Trick_bool,
      kin_Trick_tuple := kin_Trick_tuple,
      kin_Trick_list := kin_Trick_list,
      kin_Trick_NoneType := kin_Trick_NoneType,
      kin_Trick_str := kin_Trick_str,
      kin_Trick_dict := kin_Trick_dict,
      na_Trick_base := na_Trick_base,
      na_Trick_take := na_Trick_take,
      na_Trick_times := na_Trick_times,
      a_Trick___init__ := a_Trick___init__,
      d_Trick___init__ := _,
      F_Trick___init__ := fun_mk (st := s_Trick___init__) l_Trick___init__ c_Trick___init__ kp_Trick___init__,
      b_Trick___init__ := (fun_mk (st := s_Trick___init__) l_Trick___init__ c_Trick___init__ kp_Trick___init__).binds (ps := ["self", "base", "take", "times"]) fun _ _ _ _ _ _ us hl => match us, hl with | [_, _, _, _], _ => rfl,
      mk_Trick := ⟨mk_Trick, gf_Trick___init__, isf_Trick___init__, kc_Trick⟩,
      a_Trick_base := a_Trick_base,
      d_Trick_base := _,
      F_Trick_base := fun_mk (st := s_Trick_base) l_Trick_base c_Trick_base kp_Trick_base,
      b_Trick_base := (fun_mk (st := s_Trick_base) l_Trick_base c_Trick_base kp_Trick_base).binds (ps := ["self"]) fun _ _ _ _ _ _ us hl => match us, hl with | [_], _ => rfl,
      q_Trick_base := pr_Trick_base,
      p_Trick_base := ⟨pa_Trick_base, pg_Trick_base, pt_Trick_base, ⟨_, prr_Trick_base⟩⟩,
      a_Trick_take := a_Trick_take,
      d_Trick_take := _,
      F_Trick_take := fun_mk (st := s_Trick_take) l_Trick_take c_Trick_take kp_Trick_take,
      b_Trick_take := (fun_mk (st := s_Trick_take) l_Trick_take c_Trick_take kp_Trick_take).binds (ps := ["self"]) fun _ _ _ _ _ _ us hl => match us, hl with | [_], _ => rfl,
      q_Trick_take := pr_Trick_take,
      p_Trick_take := ⟨pa_Trick_take, pg_Trick_take, pt_Trick_take, ⟨_, prr_Trick_take⟩⟩,
      a_Trick_times := a_Trick_times,
      d_Trick_times := _,
      F_Trick_times := fun_mk (st := s_Trick_times) l_Trick_times c_Trick_times kp_Trick_times,
      b_Trick_times := (fun_mk (st := s_Trick_times) l_Trick_times c_Trick_times kp_Trick_times).binds (ps := ["self"]) fun _ _ _ _ _ _ us hl => match us, hl with | [_], _ => rfl,
      q_Trick_times := pr_Trick_times,
      p_Trick_times := ⟨pa_Trick_times, pg_Trick_times, pt_Trick_times, ⟨_, prr_Trick_times⟩⟩,
      a_Trick___eq__ := a_Trick___eq__,
      d_Trick___eq__ := _,
      F_Trick___eq__ := fun_mk (st := s_Trick___eq__) l_Trick___eq__ c_Trick___eq__ kp_Trick___eq__,
      b_Trick___eq__ := (fun_mk (st := s_Trick___eq__) l_Trick___eq__ c_Trick___eq__ kp_Trick___eq__).binds (ps := ["self", "other"]) fun _ _ _ _ _ _ us hl => match us, hl with | [_, _], _ => rfl,
      m_Trick___eq__ := ⟨gf_Trick___eq__, isf_Trick___eq__, kp_Trick___eq__⟩,
      n_int := PySem.W.mg_none_of X G z_int,
      n_bool := PySem.W.mg_none_of X G z_bool,
      n_len := PySem.W.mg_none_of X G z_len,
      n_range := PySem.W.mg_none_of X G z_range,
      n_isinstance := PySem.W.mg_none_of X G z_isinstance,
      n_enumerate := PySem.W.mg_none_of X G z_enumerate,
      n_super := PySem.W.mg_none_of X G z_super,
      n_str := PySem.W.mg_none_of X G z_str,
      n_ValueError := PySem.W.mg_none_of X G z_ValueError,
      a_InvalidText___init__ := a_InvalidText___init__,
      x_InvalidText := { gC := PySem.W.mg_of X G gx_InvalidText, cls := ⟨_, _, _, _, _, _, _, _, _, _, _, _, _, _, _, xl_InvalidText___init__, xrb_InvalidText___init__⟩, sa := xsa_InvalidText___init__, ga := xga_InvalidText___init__, gg := xgg_InvalidText___init__, noF := xnf_InvalidText___init__, iC := xic_InvalidText___init__, tC := xtc_InvalidText___init__, kC := k_InvalidText, exC := s_InvalidText, tyC := t_InvalidText, hdC := xhd_InvalidText___init__, up := xup_InvalidText___init__, any := xan_InvalidText___init__, ve := xve_InvalidText___init__, own := xow_InvalidText___init__, sup := PySem.W.mg_none_of X G z_super, main := rmn_InvalidText___init__, fn := ⟨_, _, _, _, _, _, _, _, _, _, _, _, _, _, _, _, _, _, _, xfn_InvalidText___init__, xco_InvalidText___init__, xcd_InvalidText___init__, rvs_InvalidText___init__, rfi_InvalidText___init__, xcc_InvalidText___init__⟩, text := ⟨_, _, _, _, _, _, _, _, _, _, _, rfl, rfl, fun _ => rfl⟩, kS := rfl, kK := rfl, k0 := rfl, kF := rfl, nF := by decide, nD := by decide, noCell := by decide +kernel, bind := fun _ _ _ _ _ _ _ _ _ => rfl, plain := fun _ => rfl, knd := rfl, co := rfl, gen := rfl } })
theorem walk {l : PySem.W.OpenLaw} {q : Program} {loose : List Str} {XP : (Str → Option Value) → Heap → Prop} {YP : World → Heap → Prop} {d : DefRec} {K : Params → PySem.W.Frag} (hn : l.most = some 63) (hdf : d.params.defaults = [])
    (hY : ∀ (w : World) (h : Heap), YP w h → (K w.params).In h)
    (F : ∀ (w : World) (mg : Str → Option Value) (fa : Addr) (h : Heap), (K w.params).In h → h.Ns mainGlobals mg → mg d.name = some (.ref fa) →
      ∃ fd : FuncData, (∀ (s : Shared) (u : Value), BindsTo s fd ⟨[u], []⟩ [("_law_script", u)]) ∧ ∀ base : Heap, (K w.params).In base → base.Ns mainGlobals mg → FnOk l.prog w (K w.params) mg base CX0 lv_law fa fd ["_law_script"] (sp_law (K w.params))) :
    PySem.W.WalkO q loose XP YP l.row.toRowW d [] (fun f vs => PySem.call f vs) :=
  L2.walk_of (n := 63) (k := lv_law) (x := "_law_script") (CX := fun _ => CX0) (sp := fun w => sp_law (K w.params)) hn (by decide) hdf ⟨rfl, by decide, by decide⟩ hY F (fun _ _ a ns hl hO hS => ⟨a, ns, rfl, scr_of hO hS, hl, fun _ => rfl⟩) fun _ _ _ _ _ z => z
end Rt
open PySem PySem.W PyProof.Rows
set_option maxRecDepth 100000 in
set_option maxHeartbeats 0 in
theorem PySem.Challenge.cw_resttricks_k38_texts_holds : PySem.Challenge.rw_resttricks_k38_texts.Holds := by
  w_on; o_law; k_head; (case hw => w_witness2)
  k_fill
  refine Rt.walk (l := PySem.Challenge.rw_resttricks_k38_texts) rfl rfl (fun w h Y => PySem.W.kIn_of Y) ?F
  case F =>
    intro w mg fa h KX G hmg
    refine' Rt.all_mk KX G hmg ?gx_TrickError ?x_TrickError ?k_TrickError ?s_TrickError ?t_TrickError ?gx_BadBase ?x_BadBase ?k_BadBase ?s_BadBase ?t_BadBase ?gx_BadTake ?x_BadTake ?k_BadTake ?s_BadTake ?t_BadTake ?gx_BadTimes ?x_BadTimes ?k_BadTimes ?s_BadTimes ?t_BadTimes ?gx_BadTrick ?x_BadTrick ?k_BadTrick ?s_BadTrick ?t_BadTrick ?gx_InvalidText ?k_InvalidText ?s_InvalidText ?t_InvalidText ?hd_InvalidText ?su_TrickError_InvalidText ?su_BadBase_InvalidText ?su_BadTake_InvalidText ?su_BadTimes_InvalidText ?su_BadTrick_InvalidText ?su_InvalidText_InvalidText ?cx_LEAST_BASE ?cx_GREATEST_BASE ?cx_GREATEST_TAKE ?cx_GREATEST_TIMES ?gf_is_integer ?l_is_integer ?c_is_integer ?kp_is_integer ?gf_check_base ?l_check_base ?c_check_base ?kp_check_base ?gf_check_take ?l_check_take ?c_check_take ?kp_check_take ?gf_check_trick ?l_check_trick ?c_check_trick ?kp_check_trick ?gf_write ?l_write ?c_write ?kp_write ?gf_read ?l_read ?c_read ?kp_read ?gf_possible_words ?l_possible_words ?c_possible_words ?kp_possible_words ?gf_written ?l_written ?c_written ?kp_written ?gf__law_taken ?l__law_taken ?c__law_taken ?kp__law_taken ?gf__law_power ?l__law_power ?c__law_power ?kp__law_power ?gf__law_trick ?l__law_trick ?c__law_trick ?kp__law_trick ?gf__law_wrong ?l__law_wrong ?c__law_wrong ?kp__law_wrong ?gf__law_refused ?l__law_refused ?c__law_refused ?kp__law_refused ?gf_law ?l_law ?c_law ?kp_law ?gx_Trick ?pg_Trick ?hd_Trick ?po_Trick ?sa_Trick ?mk_Trick ?kc_Trick ?cc_Trick ?mo_Trick ?sp_cls ?tk_cls ?ki_Trick_int ?ki_Trick_bool ?nf_Trick_tuple ?kis_Trick ?kin_Trick_int ?kin_Trick_bool ?kin_Trick_tuple ?kin_Trick_list ?kin_Trick_NoneType ?kin_Trick_str ?kin_Trick_dict ?na_Trick_base ?na_Trick_take ?na_Trick_times ?gf_Trick___init__ ?l_Trick___init__ ?c_Trick___init__ ?kp_Trick___init__ ?isf_Trick___init__ ?pa_Trick_base ?pg_Trick_base ?pt_Trick_base ?prr_Trick_base ?l_Trick_base ?c_Trick_base ?kp_Trick_base ?pa_Trick_take ?pg_Trick_take ?pt_Trick_take ?prr_Trick_take ?l_Trick_take ?c_Trick_take ?kp_Trick_take ?pa_Trick_times ?pg_Trick_times ?pt_Trick_times ?prr_Trick_times ?l_Trick_times ?c_Trick_times ?kp_Trick_times ?gf_Trick___eq__ ?l_Trick___eq__ ?c_Trick___eq__ ?kp_Trick___eq__ ?isf_Trick___eq__ ?z_int ?z_bool ?z_len ?z_range ?z_isinstance ?z_enumerate ?z_super ?z_str ?z_ValueError ?xl_InvalidText___init__ ?xrb_InvalidText___init__ ?xsa_InvalidText___init__ ?xga_InvalidText___init__ ?xgg_InvalidText___init__ ?xnf_InvalidText___init__ ?xic_InvalidText___init__ ?xtc_InvalidText___init__ ?xhd_InvalidText___init__ ?xup_InvalidText___init__ ?xan_InvalidText___init__ ?xve_InvalidText___init__ ?xow_InvalidText___init__ ?rmn_InvalidText___init__ ?xfn_InvalidText___init__ ?xco_InvalidText___init__ ?xcd_InvalidText___init__ ?rvs_InvalidText___init__ ?rfi_InvalidText___init__ ?xcc_InvalidText___init__
    (case gx_TrickError => k_is)
    (case x_TrickError => k_exc)
    (case k_TrickError => k_is)
    (case s_TrickError => k_is)
    (case t_TrickError => k_is)
    (case gx_BadBase => k_is)
    (case x_BadBase => k_exc)
    (case k_BadBase => k_is)
    (case s_BadBase => k_is)
    (case t_BadBase => k_is)
    (case gx_BadTake => k_is)
    (case x_BadTake => k_exc)
    (case k_BadTake => k_is)
    (case s_BadTake => k_is)
    (case t_BadTake => k_is)
    (case gx_BadTimes => k_is)
    (case x_BadTimes => k_exc)
    (case k_BadTimes => k_is)
    (case s_BadTimes => k_is)
    (case t_BadTimes => k_is)
    (case gx_BadTrick => k_is)
    (case x_BadTrick => k_exc)
    (case k_BadTrick => k_is)
    (case s_BadTrick => k_is)
    (case t_BadTrick => k_is)
    (case gx_InvalidText => k_is)
    (case k_InvalidText => k_is)
    (case s_InvalidText => k_is)
    (case t_InvalidText => k_is)
    (case hd_InvalidText => k_is)
    (case su_TrickError_InvalidText => first | k_is | rfl)
    (case su_BadBase_InvalidText => first | k_is | rfl)
    (case su_BadTake_InvalidText => first | k_is | rfl)
    (case su_BadTimes_InvalidText => first | k_is | rfl)
    (case su_BadTrick_InvalidText => first | k_is | rfl)
    (case su_InvalidText_InvalidText => first | k_is | rfl)
    (case cx_LEAST_BASE => k_is)
    (case cx_GREATEST_BASE => k_is)
    (case cx_GREATEST_TAKE => k_is)
    (case cx_GREATEST_TIMES => k_is)
    (case gf_is_integer => k_is)
    (case l_is_integer => k_is)
    (case c_is_integer => k_is)
    (case kp_is_integer => k_is)
    (case gf_check_base => k_is)
    (case l_check_base => k_is)
    (case c_check_base => k_is)
    (case kp_check_base => k_is)
    (case gf_check_take => k_is)
    (case l_check_take => k_is)
    (case c_check_take => k_is)
    (case kp_check_take => k_is)
    (case gf_check_trick => k_is)
    (case l_check_trick => k_is)
    (case c_check_trick => k_is)
    (case kp_check_trick => k_is)
    (case gf_write => k_is)
    (case l_write => k_is)
    (case c_write => k_is)
    (case kp_write => k_is)
    (case gf_read => k_is)
    (case l_read => k_is)
    (case c_read => k_is)
    (case kp_read => k_is)
    (case gf_possible_words => k_is)
    (case l_possible_words => k_is)
    (case c_possible_words => k_is)
    (case kp_possible_words => k_is)
    (case gf_written => k_is)
    (case l_written => k_is)
    (case c_written => k_is)
    (case kp_written => k_is)
    (case gf__law_taken => k_is)
    (case l__law_taken => k_is)
    (case c__law_taken => k_is)
    (case kp__law_taken => k_is)
    (case gf__law_power => k_is)
    (case l__law_power => k_is)
    (case c__law_power => k_is)
    (case kp__law_power => k_is)
    (case gf__law_trick => k_is)
    (case l__law_trick => k_is)
    (case c__law_trick => k_is)
    (case kp__law_trick => k_is)
    (case gf__law_wrong => k_is)
    (case l__law_wrong => k_is)
    (case c__law_wrong => k_is)
    (case kp__law_wrong => k_is)
    (case gf__law_refused => k_is)
    (case l__law_refused => k_is)
    (case c__law_refused => k_is)
    (case kp__law_refused => k_is)
    (case gf_law => k_is)
    (case l_law => k_is)
    (case c_law => k_is)
    (case kp_law => k_is)
    (case gx_Trick => k_is)
    (case pg_Trick => k_is)
    (case hd_Trick => k_is)
    (case po_Trick => k_is)
    (case sa_Trick => k_is)
    (case mk_Trick => k_is)
    (case kc_Trick => k_is)
    (case cc_Trick => k_is)
    (case mo_Trick => k_is)
    (case sp_cls => k_is)
    (case tk_cls => k_is)
    (case ki_Trick_int => first | k_is | rfl)
    (case ki_Trick_bool => first | k_is | rfl)
    (case nf_Trick_tuple => first | k_is | rfl)
    (case kis_Trick => first | k_is | rfl)
    (case kin_Trick_int => first | k_is | rfl)
    (case kin_Trick_bool => first | k_is | rfl)
    (case kin_Trick_tuple => first | k_is | rfl)
    (case kin_Trick_list => first | k_is | rfl)
    (case kin_Trick_NoneType => first | k_is | rfl)
    (case kin_Trick_str => first | k_is | rfl)
    (case kin_Trick_dict => first | k_is | rfl)
    (case na_Trick_base => k_is)
    (case na_Trick_take => k_is)
    (case na_Trick_times => k_is)
    (case gf_Trick___init__ => k_is)
    (case l_Trick___init__ => k_is)
    (case c_Trick___init__ => k_is)
    (case kp_Trick___init__ => k_is)
    (case isf_Trick___init__ => k_is)
    (case pa_Trick_base => k_is)
    (case pg_Trick_base => k_is)
    (case pt_Trick_base => k_is)
    (case prr_Trick_base => k_is)
    (case l_Trick_base => k_is)
    (case c_Trick_base => k_is)
    (case kp_Trick_base => k_is)
    (case pa_Trick_take => k_is)
    (case pg_Trick_take => k_is)
    (case pt_Trick_take => k_is)
    (case prr_Trick_take => k_is)
    (case l_Trick_take => k_is)
    (case c_Trick_take => k_is)
    (case kp_Trick_take => k_is)
    (case pa_Trick_times => k_is)
    (case pg_Trick_times => k_is)
    (case pt_Trick_times => k_is)
    (case prr_Trick_times => k_is)
    (case l_Trick_times => k_is)
    (case c_Trick_times => k_is)
    (case kp_Trick_times => k_is)
    (case gf_Trick___eq__ => k_is)
    (case l_Trick___eq__ => k_is)
    (case c_Trick___eq__ => k_is)
    (case kp_Trick___eq__ => k_is)
    (case isf_Trick___eq__ => k_is)
    (case z_int => k_is)
    (case z_bool => k_is)
    (case z_len => k_is)
    (case z_range => k_is)
    (case z_isinstance => k_is)
    (case z_enumerate => k_is)
    (case z_super => k_is)
    (case z_str => k_is)
    (case z_ValueError => k_is)
    (case xl_InvalidText___init__ => k_is)
    (case xrb_InvalidText___init__ => first | rfl | decide +kernel)
    (case xsa_InvalidText___init__ => k_is)
    (case xga_InvalidText___init__ => k_is)
    (case xgg_InvalidText___init__ => k_is)
    (case xnf_InvalidText___init__ => k_is)
    (case xic_InvalidText___init__ => k_is)
    (case xtc_InvalidText___init__ => k_is)
    (case xhd_InvalidText___init__ => k_is)
    (case xup_InvalidText___init__ => ks_is)
    (case xan_InvalidText___init__ => k_is)
    (case xve_InvalidText___init__ => k_is)
    (case xow_InvalidText___init__ => k_is)
    (case rmn_InvalidText___init__ => first | rfl | decide +kernel)
    (case xfn_InvalidText___init__ => k_is)
    (case xco_InvalidText___init__ => k_is)
    (case xcd_InvalidText___init__ => k_is)
    (case rvs_InvalidText___init__ => first | rfl | decide +kernel)
    (case rfi_InvalidText___init__ => first | rfl | decide +kernel)
    (case xcc_InvalidText___init__ => k_is)
#print axioms PySem.Challenge.cw_resttricks_k38_texts_holds
