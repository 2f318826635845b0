import PyProof.Rows.All
import Wide.All
import OpenK.AllK
import Wide.FinOn
import HandS.ForMost
import HandS.Exc
import HandS.TryOnly
import HandS.ExcOwn
import HandS.WordsExc
import HandS.TryMany
import HandS.IsInst
import HandS.Property
import HandS.Wide
import HandS.SortInts
import HandS.Conv
import HandS.Evl
import HandS.NoneIn
import HandS.ExcIs
import HandS.ExcSuper
import KE.KExcSuper
import KE.KExcInit
import KE.GoesMore
import HandS.Rev
import HandS.FStr
import HandS.Walk
import HandS.WideMore
import HandS.TupAny
import HandS.TupMul
import HandS.Style
import HandS.SetFor
import HandS.Strs
import HandS.Defaults
import HandS.RaiseMore
import HandS.Zip
import PySem.Challenge.RW_resttricks_k03_tricks_refused
set_option Elab.async false
set_option linter.all false
set_option maxRecDepth 100000
set_option maxHeartbeats 2000000
namespace Rt
open PySem L2 PySem.Spec PyProof.Rows
/-! ### the text by places -/
def topS (i : Nat) : Stmt := PySem.Challenge.pw_resttricks_k03_tricks_refused.main.body.getD i (.Pass ⟨0, 0, 0, 0⟩)
abbrev s_is_integer : Stmt := topS 9
abbrev s_check_base : Stmt := topS 10
abbrev s_check_take : Stmt := topS 11
abbrev s__law_taken : Stmt := topS 16
abbrev s__law_power : Stmt := topS 17
abbrev s__law_trick : Stmt := topS 18
abbrev s__law_refused : Stmt := topS 19
abbrev s_law : Stmt := topS 20
abbrev s_Trick___init__ : Stmt := inClass (topS 14) 0
abbrev s_Trick_base : Stmt := inClass (topS 14) 1
abbrev s_Trick_take : Stmt := inClass (topS 14) 2
abbrev s_Trick_times : Stmt := inClass (topS 14) 3
abbrev s_Trick___eq__ : Stmt := inClass (topS 14) 4
theorem sc_is_integer : FnScope ["told", "low", "high"] ["told", "low", "high"] (defScope s_is_integer) := ⟨rfl, rfl, rfl, by decide +kernel, rfl, by decide +kernel, by decide +kernel⟩
abbrev lv_is_integer : Nat := 1
theorem sc_check_base : FnScope ["base"] ["base"] (defScope s_check_base) := ⟨rfl, rfl, rfl, by decide +kernel, rfl, by decide +kernel, by decide +kernel⟩
abbrev lv_check_base : Nat := 2
theorem sc_check_take : FnScope ["take"] ["take"] (defScope s_check_take) := ⟨rfl, rfl, rfl, by decide +kernel, rfl, by decide +kernel, by decide +kernel⟩
abbrev lv_check_take : Nat := 2
theorem sc__law_taken : FnScope ["_law_row", "_law_many", "_law_found", "_law_cell"] ["_law_row", "_law_many"] (defScope s__law_taken) := ⟨rfl, rfl, rfl, by decide +kernel, rfl, by decide +kernel, by decide +kernel⟩
abbrev lv__law_taken : Nat := 1
theorem sc__law_power : FnScope ["_law_base", "_law_many", "_law_found", "_law_turn"] ["_law_base", "_law_many"] (defScope s__law_power) := ⟨rfl, rfl, rfl, by decide +kernel, rfl, by decide +kernel, by decide +kernel⟩
abbrev lv__law_power : Nat := 1
theorem sc__law_trick : FnScope ["_law_row", "_law_small", "_law_base", "_law_take", "_law_times", "_law_d", "_law_some", "_law_one"] ["_law_row", "_law_small"] (defScope s__law_trick) := ⟨rfl, rfl, rfl, by decide +kernel, rfl, by decide +kernel, by decide +kernel⟩
abbrev lv__law_trick : Nat := 2
theorem sc__law_refused : FnScope ["_law_base", "_law_take", "_law_times", "_law_found"] ["_law_base", "_law_take", "_law_times"] (defScope s__law_refused) := ⟨rfl, rfl, rfl, by decide +kernel, rfl, by decide +kernel, by decide +kernel⟩
abbrev lv__law_refused : Nat := 5
theorem sc_law : FnScope ["_law_script", "_law_row", "_law_turn", "_law_base", "_law_take", "_law_times", "_law_trick_here", "_law_bad_base", "_law_bad_take", "_law_bad_times"] ["_law_script"] (defScope s_law) := ⟨rfl, rfl, rfl, by decide +kernel, rfl, by decide +kernel, by decide +kernel⟩
abbrev lv_law : Nat := 7
theorem sc_Trick___init__ : FnScope ["self", "base", "take", "times"] ["self", "base", "take", "times"] (defScope s_Trick___init__) := ⟨rfl, rfl, rfl, by decide +kernel, rfl, by decide +kernel, by decide +kernel⟩
abbrev lv_Trick___init__ : Nat := 3
theorem sc_Trick_base : FnScope ["self"] ["self"] (defScope s_Trick_base) := ⟨rfl, rfl, rfl, by decide +kernel, rfl, by decide +kernel, by decide +kernel⟩
abbrev lv_Trick_base : Nat := 1
theorem sc_Trick_take : FnScope ["self"] ["self"] (defScope s_Trick_take) := ⟨rfl, rfl, rfl, by decide +kernel, rfl, by decide +kernel, by decide +kernel⟩
abbrev lv_Trick_take : Nat := 1
theorem sc_Trick_times : FnScope ["self"] ["self"] (defScope s_Trick_times) := ⟨rfl, rfl, rfl, by decide +kernel, rfl, by decide +kernel, by decide +kernel⟩
abbrev lv_Trick_times : Nat := 1
theorem sc_Trick___eq__ : FnScope ["self", "other"] ["self", "other"] (defScope s_Trick___eq__) := ⟨rfl, rfl, rfl, by decide +kernel, rfl, by decide +kernel, by decide +kernel⟩
abbrev lv_Trick___eq__ : Nat := 1
/-! ### what is known of the top behind its run -/
structure Tx (K : PySem.W.Frag) (mg : Str → Option Value) : Type where
  C_TrickError : Addr
  g_TrickError : mg "TrickError" = some (.ref C_TrickError)
  x_TrickError : PySem.W.excIn K C_TrickError [.type "ValueError", .type "Exception", .type "BaseException", .type "object"] "ValueError.__new__" = true
  k_TrickError : PySem.W.keepIn K (.ref C_TrickError) = true
  s_TrickError : PySem.W.subIn K (.ref C_TrickError) (.type "BaseException") = some true
  t_TrickError : PySem.W.typeIn K (.ref C_TrickError) = some (.type "type")
  C_BadBase : Addr
  g_BadBase : mg "BadBase" = some (.ref C_BadBase)
  x_BadBase : PySem.W.excIn K C_BadBase [.type "ValueError", .type "Exception", .type "BaseException", .type "object"] "ValueError.__new__" = true
  k_BadBase : PySem.W.keepIn K (.ref C_BadBase) = true
  s_BadBase : PySem.W.subIn K (.ref C_BadBase) (.type "BaseException") = some true
  t_BadBase : PySem.W.typeIn K (.ref C_BadBase) = some (.type "type")
  hd_BadBase : PySem.W.hasDictIn K C_BadBase = true
  C_BadTake : Addr
  g_BadTake : mg "BadTake" = some (.ref C_BadTake)
  x_BadTake : PySem.W.excIn K C_BadTake [.type "ValueError", .type "Exception", .type "BaseException", .type "object"] "ValueError.__new__" = true
  k_BadTake : PySem.W.keepIn K (.ref C_BadTake) = true
  s_BadTake : PySem.W.subIn K (.ref C_BadTake) (.type "BaseException") = some true
  t_BadTake : PySem.W.typeIn K (.ref C_BadTake) = some (.type "type")
  hd_BadTake : PySem.W.hasDictIn K C_BadTake = true
  C_BadTimes : Addr
  g_BadTimes : mg "BadTimes" = some (.ref C_BadTimes)
  x_BadTimes : PySem.W.excIn K C_BadTimes [.type "ValueError", .type "Exception", .type "BaseException", .type "object"] "ValueError.__new__" = true
  k_BadTimes : PySem.W.keepIn K (.ref C_BadTimes) = true
  s_BadTimes : PySem.W.subIn K (.ref C_BadTimes) (.type "BaseException") = some true
  t_BadTimes : PySem.W.typeIn K (.ref C_BadTimes) = some (.type "type")
  hd_BadTimes : PySem.W.hasDictIn K C_BadTimes = true
  xm_TrickError_BadBase : PySem.W.exmOne K (.ref C_TrickError) (.ref C_BadBase) = some false
  xm_TrickError_BadTake : PySem.W.exmOne K (.ref C_TrickError) (.ref C_BadTake) = some false
  xm_TrickError_BadTimes : PySem.W.exmOne K (.ref C_TrickError) (.ref C_BadTimes) = some false
  xm_BadBase_BadBase : PySem.W.exmOne K (.ref C_BadBase) (.ref C_BadBase) = some true
  xm_BadBase_BadTake : PySem.W.exmOne K (.ref C_BadBase) (.ref C_BadTake) = some false
  xm_BadBase_BadTimes : PySem.W.exmOne K (.ref C_BadBase) (.ref C_BadTimes) = some false
  xm_BadTake_BadBase : PySem.W.exmOne K (.ref C_BadTake) (.ref C_BadBase) = some false
  xm_BadTake_BadTake : PySem.W.exmOne K (.ref C_BadTake) (.ref C_BadTake) = some true
  xm_BadTake_BadTimes : PySem.W.exmOne K (.ref C_BadTake) (.ref C_BadTimes) = some false
  xm_BadTimes_BadBase : PySem.W.exmOne K (.ref C_BadTimes) (.ref C_BadBase) = some false
  xm_BadTimes_BadTake : PySem.W.exmOne K (.ref C_BadTimes) (.ref C_BadTake) = some false
  xm_BadTimes_BadTimes : PySem.W.exmOne K (.ref C_BadTimes) (.ref C_BadTimes) = some true
  t_c_LEAST_BASE : Tok
  c_LEAST_BASE : mg "LEAST_BASE" = some (.int 2 t_c_LEAST_BASE)
  t_c_GREATEST_BASE : Tok
  c_GREATEST_BASE : mg "GREATEST_BASE" = some (.int 16 t_c_GREATEST_BASE)
  t_c_GREATEST_TAKE : Tok
  c_GREATEST_TAKE : mg "GREATEST_TAKE" = some (.int 2 t_c_GREATEST_TAKE)
  t_c_GREATEST_TIMES : Tok
  c_GREATEST_TIMES : mg "GREATEST_TIMES" = some (.int 100 t_c_GREATEST_TIMES)
  a_is_integer : Addr
  d_is_integer : FuncData
  F_is_integer : Fun K "is_integer" "is_integer" s_is_integer a_is_integer d_is_integer
  b_is_integer : Binds K d_is_integer ["told", "low", "high"] []
  g_is_integer : mg "is_integer" = some (.ref a_is_integer)
  a_check_base : Addr
  d_check_base : FuncData
  F_check_base : Fun K "check_base" "check_base" s_check_base a_check_base d_check_base
  b_check_base : Binds K d_check_base ["base"] []
  g_check_base : mg "check_base" = some (.ref a_check_base)
  a_check_take : Addr
  d_check_take : FuncData
  F_check_take : Fun K "check_take" "check_take" s_check_take a_check_take d_check_take
  b_check_take : Binds K d_check_take ["take"] []
  g_check_take : mg "check_take" = some (.ref a_check_take)
  a__law_taken : Addr
  d__law_taken : FuncData
  F__law_taken : Fun K "_law_taken" "_law_taken" s__law_taken a__law_taken d__law_taken
  b__law_taken : Binds K d__law_taken ["_law_row", "_law_many"] []
  g__law_taken : mg "_law_taken" = some (.ref a__law_taken)
  a__law_power : Addr
  d__law_power : FuncData
  F__law_power : Fun K "_law_power" "_law_power" s__law_power a__law_power d__law_power
  b__law_power : Binds K d__law_power ["_law_base", "_law_many"] []
  g__law_power : mg "_law_power" = some (.ref a__law_power)
  a__law_trick : Addr
  d__law_trick : FuncData
  F__law_trick : Fun K "_law_trick" "_law_trick" s__law_trick a__law_trick d__law_trick
  b__law_trick : Binds K d__law_trick ["_law_row", "_law_small"] []
  g__law_trick : mg "_law_trick" = some (.ref a__law_trick)
  a__law_refused : Addr
  d__law_refused : FuncData
  F__law_refused : Fun K "_law_refused" "_law_refused" s__law_refused a__law_refused d__law_refused
  b__law_refused : Binds K d__law_refused ["_law_base", "_law_take", "_law_times"] []
  g__law_refused : mg "_law_refused" = some (.ref a__law_refused)
  a_law : Addr
  d_law : FuncData
  F_law : Fun K "law" "law" s_law a_law d_law
  b_law : Binds K d_law ["_law_script"] []
  g_law : mg "law" = some (.ref a_law)
  C_Trick : Addr
  cl_Trick : Cls K C_Trick
  g_Trick : mg "Trick" = some (.ref C_Trick)
  kc_Trick : PySem.W.keepIn K (.ref C_Trick) = true
  ins_Trick : ∀ (H : Hp) (a dx : Addr) (fs : List (Str × V)), H a = some (.ins C_Trick dx fs) → TyOf K H (.ref a) (.ref C_Trick)
  ki_Trick_int : PySem.W.kitOne K (.ref C_Trick) (.type "int") = some false
  ki_Trick_bool : PySem.W.kitOne K (.ref C_Trick) (.type "bool") = some false
  nf_Trick_tuple : PySem.W.subIn K (.type "tuple") (.ref C_Trick) = some false
  kis_Trick : PySem.W.kitOne K (.ref C_Trick) (.ref C_Trick) = some true
  kin_Trick_int : PySem.W.kitOne K (.type "int") (.ref C_Trick) = some false
  kin_Trick_bool : PySem.W.kitOne K (.type "bool") (.ref C_Trick) = some false
  kin_Trick_tuple : PySem.W.kitOne K (.type "tuple") (.ref C_Trick) = some false
  kin_Trick_list : PySem.W.kitOne K (.type "list") (.ref C_Trick) = some false
  kin_Trick_NoneType : PySem.W.kitOne K (.type "NoneType") (.ref C_Trick) = some false
  kin_Trick_str : PySem.W.kitOne K (.type "str") (.ref C_Trick) = some false
  kin_Trick_dict : PySem.W.kitOne K (.type "dict") (.ref C_Trick) = some false
  na_Trick_base : NoAttr K C_Trick "_base"
  na_Trick_take : NoAttr K C_Trick "_take"
  na_Trick_times : NoAttr K C_Trick "_times"
  a_Trick___init__ : Addr
  d_Trick___init__ : FuncData
  F_Trick___init__ : Fun K "__init__" "Trick.__init__" s_Trick___init__ a_Trick___init__ d_Trick___init__
  b_Trick___init__ : Binds K d_Trick___init__ ["self", "base", "take", "times"] []
  mk_Trick : Mk K C_Trick a_Trick___init__
  a_Trick_base : Addr
  d_Trick_base : FuncData
  F_Trick_base : Fun K "base" "Trick.base" s_Trick_base a_Trick_base d_Trick_base
  b_Trick_base : Binds K d_Trick_base ["self"] []
  q_Trick_base : Addr
  p_Trick_base : PropOf K C_Trick "base" q_Trick_base a_Trick_base
  a_Trick_take : Addr
  d_Trick_take : FuncData
  F_Trick_take : Fun K "take" "Trick.take" s_Trick_take a_Trick_take d_Trick_take
  b_Trick_take : Binds K d_Trick_take ["self"] []
  q_Trick_take : Addr
  p_Trick_take : PropOf K C_Trick "take" q_Trick_take a_Trick_take
  a_Trick_times : Addr
  d_Trick_times : FuncData
  F_Trick_times : Fun K "times" "Trick.times" s_Trick_times a_Trick_times d_Trick_times
  b_Trick_times : Binds K d_Trick_times ["self"] []
  q_Trick_times : Addr
  p_Trick_times : PropOf K C_Trick "times" q_Trick_times a_Trick_times
  a_Trick___eq__ : Addr
  d_Trick___eq__ : FuncData
  F_Trick___eq__ : Fun K "__eq__" "Trick.__eq__" s_Trick___eq__ a_Trick___eq__ d_Trick___eq__
  b_Trick___eq__ : Binds K d_Trick___eq__ ["self", "other"] []
  m_Trick___eq__ : Meth K C_Trick "__eq__" a_Trick___eq__
  n_int : mg "int" = none
  n_bool : mg "bool" = none
  n_len : mg "len" = none
  n_range : mg "range" = none
  n_isinstance : mg "isinstance" = none
  n_ValueError : mg "ValueError" = none
/-! ### the program's own classes (no errors) -/
def OwnT {K : PySem.W.Frag} {mg : Str → Option Value} (T : Tx K mg) (C : Addr) : Prop := C = T.C_Trick
theorem OwnT.ty {K : PySem.W.Frag} {mg : Str → Option Value} {T : Tx K mg} {C : Addr} (t : OwnT T C) {H : Hp} {a dx : Addr} {fs : List (Str × V)} (e : H a = some (.ins C dx fs)) : TyOf K H (.ref a) (.ref C) := by
  cases t
  exact T.ins_Trick _ _ _ _ e
theorem OwnT.nint {K : PySem.W.Frag} {mg : Str → Option Value} {T : Tx K mg} {C : Addr} (t : OwnT T C) : PySem.W.kitOne K (.ref C) (.type "int") = some false := by
  cases t
  exact T.ki_Trick_int
theorem OwnT.nbool {K : PySem.W.Frag} {mg : Str → Option Value} {T : Tx K mg} {C : Addr} (t : OwnT T C) : PySem.W.kitOne K (.ref C) (.type "bool") = some false := by
  cases t
  exact T.ki_Trick_bool
section
variable {P : Program} {w : World} {K : PySem.W.Frag} {mg : Str → Option Value} {base : Heap}
/-! ### heaps -/
/-- all but what stands at r is as it was -/
def But (r : Addr) (H H' : Hp) : Prop := ∀ b o, H b = some o → b ≠ r → H' b = some o
theorem But.refl (r : Addr) (H : Hp) : But r H H := fun _ _ e _ => e
theorem But.trans {r : Addr} {H H1 H2 : Hp} (a : But r H H1) (b : But r H1 H2) : But r H H2 := fun c o e n => b c o (a c o e n) n
theorem Same.but {r : Addr} {H H' : Hp} (a : Same H H') : But r H H' := fun c o e _ => a c o e
theorem But.put {r : Addr} {H : Hp} {o : HO} : But r H (upd H r o) := fun b _ e n => by rw [upd_ne n]; exact e
theorem But.seq {K : PySem.W.Frag} {r a : Addr} {H H' : Hp} {xs : List V} (e : But r H H') (n : a ≠ r) (h : SqL K H a xs) : SqL K H' a xs := by
  rcases h with (h | ⟨o, h⟩) | h
  · exact .inl (.inl (e _ _ h n))
  · exact .inl (.inr ⟨o, e _ _ h n⟩)
  · exact .inr h
theorem same_upd {H : Hp} {p : Addr} {o : HO} (h : H p = none) : Same H (upd H p o) := fun b x e => by
  rw [upd_ne (ne_of_none e h)]
  exact e
/-- any value of the document's point 1 -/
inductive AnyV (T : Addr → Prop) (H : Hp) : V → Prop where
  | non : AnyV T H .non
  | bl (b : Bool) : AnyV T H (.bl b)
  | int (i : Int) : AnyV T H (.int i)
  | str (x : Str) : AnyV T H (.str x)
  | lst {a : Addr} {xs : List V} (e : H a = some (.lst xs)) : AnyV T H (.ref a)
  | tup {a : Addr} {xs : List V} (e : H a = some (.tup xs)) : AnyV T H (.ref a)
  | dct {a : Addr} {kvs : List (Key × V)} (e : H a = some (.dK kvs)) : AnyV T H (.ref a)
  | ins {a C dx : Addr} {fs : List (Str × V)} (t : T C) (e : H a = some (.ins C dx fs)) : AnyV T H (.ref a)
/-- it is an integer from lo to hi -/
def intIn (x : V) (lo hi : Int) : Bool := match x with | .int i => decide (lo ≤ i) && decide (i ≤ hi) | _ => false
theorem intIn_of {i lo hi : Int} (h1 : lo ≤ i) (h2 : i ≤ hi) : intIn (.int i) lo hi = true := by
  show (decide (lo ≤ i) && decide (i ≤ hi)) = true
  rw [decide_eq_true h1, decide_eq_true h2]
  all_goals rfl
theorem small5 {n : Nat} (h : n ≤ 100000) : n < sizeLine := Nat.lt_of_le_of_lt h (by decide)
theorem dec_i (i j : Int) : decide (V.int i = V.int j) = decide (i = j) := by
  rw [Bool.eq_iff_iff]
  simp
theorem AnyV.mono {T : Addr → Prop} {H H' : Hp} {v : V} (a : AnyV T H v) (s : Same H H') : AnyV T H' v := by
  cases a with
  | non => exact .non
  | bl b => exact .bl b
  | int i => exact .int i
  | str x => exact .str x
  | lst e => exact .lst (s _ _ e)
  | tup e => exact .tup (s _ _ e)
  | dct e => exact .dct (s _ _ e)
  | ins t e => exact .ins t (s _ _ e)
theorem intIn_int' {x : V} {lo hi : Int} (h : intIn x lo hi = true) : ∃ i, x = .int i ∧ lo ≤ i ∧ i ≤ hi := by
  cases x with
  | int i =>
    have h2 : (decide (lo ≤ i) && decide (i ≤ hi)) = true := h
    rw [Bool.and_eq_true, decide_eq_true_iff, decide_eq_true_iff] at h2
    exact ⟨i, rfl, h2⟩
  | _ => cases h

/-! ### lists of ints -/
theorem dpAll_ints {H : Hp} : ∀ ns : List Int, DpAll K H (ns.map V.int) (ns.map PyData.int)
  | [] => .nil
  | n :: ns => .cons (.int n) (dpAll_ints ns)
theorem dp_ints {H : Hp} {a : Addr} {ns : List Int} (h : SqL K H a (ns.map V.int)) : Dp K H (.ref a) (.list (ns.map PyData.int)) := .lst h (dpAll_ints ns)
theorem dp_tints {H : Hp} {a : Addr} {ns : List Int} (h : SqT K H a (ns.map V.int)) : Dp K H (.ref a) (.tuple (ns.map PyData.int)) := .tup h (dpAll_ints ns)
theorem eqvAll_ints : ∀ ns ms : List Int, PyData.eqvAll (ns.map PyData.int) (ms.map PyData.int) = decide (ns = ms)
  | [], [] => rfl
  | [], _ :: _ => rfl
  | _ :: _, [] => rfl
  | n :: ns, m :: ms => by
    show (PyData.eqv (.int n) (.int m) && PyData.eqvAll (ns.map PyData.int) (ms.map PyData.int)) = _
    rw [eqvAll_ints ns ms]
    show ((n == m) && decide (ns = ms)) = _
    by_cases h1 : n = m
    · by_cases h2 : ns = ms
      · simp [h1, h2]
      · simp [h1, h2]
    · simp [h1]
theorem eqv_ints (ns ms : List Int) : PyData.eqv (.list (ns.map PyData.int)) (.list (ms.map PyData.int)) = decide (ns = ms) := eqvAll_ints ns ms
theorem eqv_tints (ns ms : List Int) : PyData.eqv (.tuple (ns.map PyData.int)) (.tuple (ms.map PyData.int)) = decide (ns = ms) := eqvAll_ints ns ms
theorem shaped_lints (ns : List Int) : SeqAt.shaped (.list (ns.map PyData.int)) = true := PySem.W.shaped_ints ns
/-- an item of a written list at a drawn place -/
theorem at_some (Pr : Int → Prop) {ns : List Int} (h : ∀ z ∈ ns, Pr z) {i : Int} (h0 : 0 ≤ i) (h1 : i < ns.length) : ∃ z, Pr z ∧ atI (ns.map V.int) i = some (V.int z) := by
  obtain ⟨z, hz⟩ : ∃ z, ns[i.toNat]? = some z := ⟨ns[i.toNat]'(by omega), List.getElem?_eq_getElem (by omega)⟩
  refine ⟨z, h z (List.mem_of_getElem? hz), at_of (j := i.toNat) (by omega) (by rw [List.getElem?_map, hz]; rfl)⟩
theorem sorted_ext {l m : List Int} (p : l.Perm m) (h1 : l.Pairwise (· ≤ ·)) (h2 : m.Pairwise (· ≤ ·)) : l = m :=
  p.eq_of_pairwise (fun a b _ _ x y => Int.le_antisymm x y) h1 h2
/-- reading an item within a comprehension: the written part said aloud -/
theorem ix_lK {X : Cx} (h : X.K = K) : IxR X (rIxL K) := by
  subst h
  exact ix_list
/-- the same of a tuple -/
theorem ix_tK {X : Cx} (h : X.K = K) : IxR X (rIxT K) := by
  subst h
  exact ix_tup
/-- name op= e, by the operation in place -/
theorem ip_op {X : Cx} {op : Operator} {r : R2} (ho : OpR X (inplaceOp op) r) : PIp X op r := fun pins s σ H x y v u Q I r1 r2 h => ho pins s σ H x y v u Q I r1 r2 h

/-! ### is_integer, and the checks -/
def spIsInt (T : Tx K mg) : Sp := fun vs H Q _ => ∃ (x : V) (lo hi : Int), vs = [x, .int lo, .int hi] ∧ AnyV (OwnT T) H x ∧ Q (.bl (intIn x lo hi)) H
theorem isi_int (T : Tx K mg) {H : Hp} {x : V} (a : AnyV (OwnT T) H x) : ∃ t, TyX K H x t ∧ (∃ b, PySem.W.kitOne K t (.type "int") = some b ∧ (b = false → ∀ lo hi, intIn x lo hi = false) ∧ ∃ c, PySem.W.kitOne K t (.type "bool") = some c ∧ (c = true → ∀ lo hi, intIn x lo hi = false) ∧ (b = true → c = false → ∃ i, x = .int i)) := by
  cases a with
  | non => exact ⟨_, .base .non, false, kit_ty (by decide +kernel), fun _ _ _ => rfl, false, kit_ty (by decide +kernel), fun _ _ _ => rfl, fun z => nomatch z⟩
  | bl b => exact ⟨_, .base (.bl b), true, kit_ty (by decide +kernel), fun _ _ _ => rfl, true, kit_ty (by decide +kernel), fun _ _ _ => rfl, fun _ z => nomatch z⟩
  | int i => exact ⟨.type "int", .base (.int i), true, kit_ty (by decide +kernel), fun z => Bool.noConfusion z, false, kit_ty (by decide +kernel), fun z => Bool.noConfusion z, fun _ _ => ⟨i, rfl⟩⟩
  | str x => exact ⟨_, .base (.str x), false, kit_ty (by decide +kernel), fun _ _ _ => rfl, false, kit_ty (by decide +kernel), fun _ _ _ => rfl, fun z => nomatch z⟩
  | lst e => exact ⟨_, .base (.lst e), false, kit_ty (by decide +kernel), fun _ _ _ => rfl, false, kit_ty (by decide +kernel), fun _ _ _ => rfl, fun z => nomatch z⟩
  | tup e => exact ⟨_, .base (.tup e), false, kit_ty (by decide +kernel), fun _ _ _ => rfl, false, kit_ty (by decide +kernel), fun _ _ _ => rfl, fun z => nomatch z⟩
  | dct e => exact ⟨_, .base (.dK e), false, kit_ty (by decide +kernel), fun _ _ _ => rfl, false, kit_ty (by decide +kernel), fun _ _ _ => rfl, fun z => nomatch z⟩
  | ins t e => exact ⟨_, .base (t.ty e), false, t.nint, fun _ _ _ => rfl, false, t.nbool, fun _ _ _ => rfl, fun z => nomatch z⟩
theorem ok_is_integer (T : Tx K mg) : FnOk P w K mg base CX0 lv_is_integer T.a_is_integer T.d_is_integer ["told", "low", "high"] (spIsInt T) := by
  refine T.F_is_integer.ok sc_is_integer (fun vs H Q E h => ?_) (fun cdv A outer s H vs Q E hr h => ?_)
  · obtain ⟨x, lo, hi, rfl, _⟩ := h
    rfl
  · obtain ⟨x, lo, hi, rfl, a, k⟩ := h
    refine ⟨_, (pss_one (ps_ret (pe_and (pe_callB call_isi (by rfl) T.n_isinstance (by decide +kernel) (pa_cons (pv 0) (pa_cons (pe_bltn (v := .ty "int") rfl T.n_int (by decide +kernel) rfl) pa_nil))) (pe_and (pe_not (pe_callB call_isi (by rfl) T.n_isinstance (by decide +kernel) (pa_cons (pv 0) (pa_cons (pe_bltn (v := .ty "bool") rfl T.n_bool (by decide +kernel) rfl) pa_nil)))) (pe_one (pe_chain op_le op_le (pv 1) (pv 0) (pv 2))))))), ?_⟩
    obtain ⟨t, ty, b, e1, h1, c, e2, h2, h3⟩ := isi_int T a
    refine ⟨_, rfl, _, _, _, _, b, rfl, .ty _, ty, e1, b, rfl, ?_⟩
    cases b with
    | false => exact iteF (by rw [h1 rfl lo hi] at k; exact k)
    | true =>
      refine iteT ?_
      refine ⟨_, rfl, _, _, _, _, c, rfl, .ty _, ty, e2, c, rfl, _, rfl, ?_⟩
      cases c with
      | true => exact iteF (by rw [h2 rfl lo hi] at k; exact k)
      | false =>
        refine iteT ?_
        obtain ⟨i, rfl⟩ := h3 rfl rfl
        refine ⟨_, rfl, _, rfl, _, _, rfl, rfl, _, rfl, ?_⟩
        have ke : Q (V.bl (decide (lo ≤ i) && decide (i ≤ hi))) H := k
        refine ite2 (fun c1 => ?_) (fun c1 => ?_)
        · rw [c1] at ke
          exact ⟨_, rfl, _, _, rfl, rfl, ke⟩
        · rw [show decide (lo ≤ i) = false from by simpa using c1] at ke
          exact ke
/-- base, take and the like: a value in the range, or the error of the class C -/
def spChk (T : Tx K mg) (C : Addr) (lo hi : Int) : Sp := fun vs H Q E => ∃ x : V, vs = [x] ∧ AnyV (OwnT T) H x ∧ (intIn x lo hi = true → Q .non H) ∧ (intIn x lo hi = false → E (.ref C) none H)

theorem ok_check_base (T : Tx K mg) : FnOk P w K mg base (L2.CX P w) lv_check_base T.a_check_base T.d_check_base ["base"] (spChk T T.C_BadBase 2 16) := by
  refine T.F_check_base.okX sc_check_base (fun vs H Q E h => ?_) (fun cdv A outer s H vs Q E hr h => ?_)
  · obtain ⟨x, rfl, _⟩ := h
    rfl
  · obtain ⟨x, rfl, a, k1, k2⟩ := h
    refine ⟨_, (pss_one (ps_if (pt_not (pt_val (pe_call (ok_is_integer T) (hr.mono (by decide)) rfl T.g_is_integer T.F_is_integer.kp T.b_is_integer .nil pass0 (pa_cons (pv 0) (pa_cons (pe_glob (v := .int 2) rfl T.c_LEAST_BASE ⟨_, rfl⟩) (pa_cons (pe_glob (v := .int 16) rfl T.c_GREATEST_BASE ⟨_, rfl⟩) pa_nil)))))) (pss_one (ps_raise rfl (takes_of rfl rfl rfl rfl) (pmk_own PySem.F.excBase_ValueError T.x_BadBase T.g_BadBase T.k_BadBase (raises_own T.s_BadBase T.t_BadBase) rfl))) pss_nil)), ?_⟩
    refine ⟨_, rfl, _, _, _, rfl, a, _, rfl, ?_⟩
    cases e : intIn x 2 16 with
    | true => exact iteF (k1 e)
    | false => exact iteT (k2 e)

theorem ok_check_take (T : Tx K mg) : FnOk P w K mg base (L2.CX P w) lv_check_take T.a_check_take T.d_check_take ["take"] (spChk T T.C_BadTake 1 2) := by
  refine T.F_check_take.okX sc_check_take (fun vs H Q E h => ?_) (fun cdv A outer s H vs Q E hr h => ?_)
  · obtain ⟨x, rfl, _⟩ := h
    rfl
  · obtain ⟨x, rfl, a, k1, k2⟩ := h
    refine ⟨_, (pss_one (ps_if (pt_not (pt_val (pe_call (ok_is_integer T) (hr.mono (by decide)) rfl T.g_is_integer T.F_is_integer.kp T.b_is_integer .nil pass0 (pa_cons (pv 0) (pa_cons pe_int (pa_cons (pe_glob (v := .int 2) rfl T.c_GREATEST_TAKE ⟨_, rfl⟩) pa_nil)))))) (pss_one (ps_raise rfl (takes_of rfl rfl rfl rfl) (pmk_own PySem.F.excBase_ValueError T.x_BadTake T.g_BadTake T.k_BadTake (raises_own T.s_BadTake T.t_BadTake) rfl))) pss_nil)), ?_⟩
    refine ⟨_, rfl, _, _, _, rfl, a, _, rfl, ?_⟩
    cases e : intIn x 1 2 with
    | true => exact iteF (k1 e)
    | false => exact iteT (k2 e)

/-! ### a program's own == ; errors that leave a call within a try -/
def NoSub (K : PySem.W.Frag) (C : Addr) (H : Hp) (y : V) : Prop := (∃ b dy gs, y = .ref b ∧ H b = some (.ins C dy gs)) ∨ (∃ b xs, y = .ref b ∧ H b = some (.tup xs) ∧ PySem.W.subIn K (.type "tuple") (.ref C) = some false)
def rOwn (K : PySem.W.Frag) (C : Addr) (sp : Sp) (E : XK) : R2 := fun x y H Q => ∃ a dx fs, x = .ref a ∧ H a = some (.ins C dx fs) ∧ NoSub K C H y ∧ sp [x, y] H (fun v H' => (∃ k, v = .bl k) ∧ Q v H') E
section
variable {X : Cx}
theorem op_own {n : Nat} {CX : CXT} {C f : Addr} {fd : FuncData} {ps : List Str} {sp : Sp} {E : XK} (G : FnOk X.prog X.w X.K X.mg X.base CX n f fd ps sp) (hr : Room n X.A)
    (hs : PySem.W.findIn X.K (.ref C) "__eq__" = some (some (.ref f))) (hf : PySem.W.isFn X.K (.ref f) = true) (hb : Binds X.K fd ps []) (hx : Passes CX X E) : OpR X (compareOp .Eq) (rOwn X.K C sp E) := by
  intro pins s σ H x y v u Q I rx ry hq
  obtain ⟨a, dx, fs, rfl, ha, hy, hsp⟩ := hq
  obtain rfl : v = Value.ref a := rx
  obtain ⟨mA, O, _⟩ := ins_get I.hok ha
  obtain ⟨od, J, _⟩ := O.look
  obtain ⟨m, hF⟩ := I.fr
  have hl : ([V.ref a, y] : List V).length = ps.length := G.len _ _ _ _ hsp
  have back : wpAny (model X.prog X.w) X.A (call (.ref f) [.ref a, u]) (PySem.W.CmpBack (EP X pins σ Q)) X.xe s := by
    have rv : Vals [V.ref a, y] [Value.ref a, u] := .cons rfl (.cons ry .nil)
    have bd := hb s [.ref a, u] I.kIn (by rw [List.append_nil]; exact hl)
    rw [List.append_nil] at bd
    refine wpAny_call (codeAny_mono (G.run X.A X.stack s H ⟨[.ref a, u], []⟩ [.ref a, u] _ _ E hr I.env0 bd rv hsp) fun r s' hw => ?_)
    match r, hw with
    | .error e, hw => exact hx pins σ H s e s' I hw
    | .ok (.ret w'), hw =>
      obtain ⟨z, H', I', rz, ⟨k, ek⟩, qz⟩ := I.after hw
      subst ek
      cases rz
      exact ⟨.bl k, H', I', rfl, qz⟩
    | .ok .next, hw => exact hw.elim
    | .ok .brk, hw => exact hw.elim
    | .ok .cont, hw => exact hw.elim
  show wpAny (model X.prog X.w) X.A (richCompare .Eq (.ref a) u) _ _ s
  rcases hy with ⟨b, dy, gs, rfl, hb'⟩ | ⟨b, xs, rfl, hb', hsub⟩
  · obtain rfl : u = Value.ref b := ry
    obtain ⟨mB, O', _⟩ := ins_get I.hok hb'
    obtain ⟨od', J', _⟩ := O'.look
    exact PySem.W.cmp_K (op := .Eq) (tb := .ref C) hr.units0 hF I.ok.mod.kin J J'.type (by simp [PySem.W.notFirst]) hs hf back
  · obtain rfl : u = Value.ref b := ry
    obtain ⟨_, its, _, o, ho, hc, _⟩ := (show ObjOk X.prog X.w H s.heap b (.tup xs) from I.hok b _ hb')
    exact PySem.W.cmp_K (op := .Eq) (tb := .type "tuple") hr.units0 hF I.ok.mod.kin J (fun A' Q' E' s2 k2 q2 => wpAny_typeOf_ref (k2 _ _ ho) (by rw [hc]; exact q2)) (by simp [PySem.W.notFirst, hsub]) hs hf back
/-- what a call lets out is taken, whatever the slots hold -/
theorem passN {W : WX} (tk : Takes X W) : Passes (L2.CX X.prog X.w) X (fun cls d H => ∀ σ : L2.St, σ.length = X.N.length → W cls d σ H) :=
  fun _ σ _ _ e s' I c => tk e s' (XE.of_call I (fun _ _ _ h => h σ I.len) c)
end

/-! ### try with clauses, each with a name or without one -/
structure Cl where
  cls : Value
  slot : Option Nat
  ts : Addr → Value → Option Addr → TS
/-- behind a suite its name is forgotten -/
def offName (D : Ends) (i : Nat) : Ends := ⟨fun σ H => D.nx (σ.set i none) H, D.rt, fun σ H => D.bk (σ.set i none) H, fun σ H => D.ct (σ.set i none) H⟩
def Cl.wish (q : Cl) (a : Addr) (k : Value) (d : Option Addr) (D : Ends) (σ : L2.St) (H : Hp) : Prop := match q.slot with
  | none => q.ts a k d D σ H
  | some i => q.ts a k d (offName D i) (σ.set i (some (.ref a))) H
def wX (K : PySem.W.Frag) (Wo : WX) (D : Ends) : List Cl → WX
  | [] => Wo
  | q :: r => fun k d σ H => ∃ b, PySem.W.exmOne K k q.cls = some b ∧ (b = true → ∀ a, H a = none → q.wish a k d D σ H) ∧ (b = false → wX K Wo D r k d σ H)
inductive HdsX (X : Cx) : List ExceptHandler → List Cl → Prop
  | nil : HdsX X [] []
  | un {x : Str} {c : Value} {ts : Addr → Value → Option Addr → TS} {s0 : Stmt} {su : List Stmt} {p1 p2 : Pos} {hs : List ExceptHandler} {l : List Cl} (nm : Names X x c)
      (ok : ∀ (a : Addr) (oe : Obj) (k : Value) (d : Option Addr) (pn : List (Addr × Obj)), Zc k d oe → (∃ vs, oe.data = .fields vs) → PSs (X.suite a ((a, oe) :: pn)) (s0 :: su) (ts a k d)) (r : HdsX X hs l) :
      HdsX X (.ExceptHandler (some (.Name x p1)) none (s0 :: su) p2 :: hs) (⟨c, none, ts⟩ :: l)
  | as {x n : Str} {i : Nat} {c : Value} {ts : Addr → Value → Option Addr → TS} {s0 : Stmt} {su : List Stmt} {p1 p2 : Pos} {hs : List ExceptHandler} {l : List Cl} (hi : X.N[i]? = some n) (hl : X.env.kindOf n = some .local) (nm : Names X x c)
      (ok : ∀ (a : Addr) (oe : Obj) (k : Value) (d : Option Addr) (pn : List (Addr × Obj)), Zc k d oe → (∃ vs, oe.data = .fields vs) → PSs (X.suite a ((a, oe) :: pn)) (s0 :: su) (ts a k d)) (r : HdsX X hs l) :
      HdsX X (.ExceptHandler (some (.Name x p1)) (some n) (s0 :: su) p2 :: hs) (⟨c, some i, ts⟩ :: l)
section
variable {X : Cx} {tb : WX → TS} {Wo : WX}
/-- a flight that was landed at the try: what every clause needs of it -/
structure Land (X : Cx) (pins : List (Addr × Obj)) (σ : L2.St) (H : Hp) (a : Addr) (B : Heap) (sI : Shared) (k : Value) (d : Option Addr) (s : Shared) (h : Heap) : Prop where
  ok : X.Ok
  inv : Inv X pins σ H sI
  nb : ∀ b o, sI.heap.get? b = some o → b ∉ frs X.stack → B.get? b = some o
  up : sI.heap.UpToSlots h
  fly : HandSPX.FlyingZ B (X.env :: X.outer) a (Zc k d) h
  na : H a = none
  nL : a ≠ X.env.locals
  nF : a ∉ X.fs
  os : s.os = sI.os
  ag : AllBare s.gens
theorem clauses (hst : X.stack = X.env :: X.outer) (hfr : X.env.frame = some X.env.locals) (hN : X.N.Nodup) (tk : Takes X Wo) {pins : List (Addr × Obj)} {σ : L2.St} {H : Hp} {a : Addr} {B : Heap} {sI : Shared} {k : Value} {d : Option Addr} {s : Shared} {h : Heap} {D : Ends}
    (L : Land X pins σ H a B sI k d s h) : ∀ {hds : List ExceptHandler} {l : List Cl}, HdsX X hds l → wX X.K Wo D l k d σ H → wpAny (model X.prog X.w) X.A (handleBy (.ref a) X.env hds) (SP X pins D) X.xe { s with heap := h } := by
  have Jh : Inv X pins σ H { s with heap := h } := L.inv.landed L.nb L.fly.1 L.up L.os L.ag
  -- a clause's test
  have tst : ∀ {x : Str} {c : Value} {p1 : Pos} {b : Bool} {Q : Bool → Shared → Prop} {E E2 : Value → Shared → Prop}, Names X x c → PySem.W.exmOne X.K k c = some b → Q b { s with heap := h } →
      wpAny (model X.prog X.w) (X.A.mark (some (.ref a))) (eval (.Name x p1) X.env) (fun v s1 => wpAny (model X.prog X.w) (X.A.mark (some (.ref a))) (excMatches (.ref a) v) Q E s1) E2 { s with heap := h } := by
    intro x c p1 b Q E E2 nm e q
    obtain ⟨oe, fv, g1, g2, g3⟩ := L.fly.there
    have S := Jh.suite g1 g3 L.na L.nL L.nF
    have look : PySem.W.Looks (model X.prog X.w) h (typeOf (.ref a)) k := fun A' Q' E' s2 k2 q2 => wpAny_typeOf_ref (k2 _ _ g1) (by rw [g2.1]; exact q2)
    have m := PySem.W.exm_one (M := model X.prog X.w) Jh.kIn look e
    obtain ⟨n1, n2, n3 | ⟨n3, n4, n5⟩⟩ := nm
    · exact ld_glob (X := X.suite a ((a, oe) :: (X.pn ++ pins))) S n1 n3 (m.here q) n2
    · exact ld_blt (X := X.suite a ((a, oe) :: (X.pn ++ pins))) S n1 n3 n4 (m.here q) n5 n2
  intro hds l hk
  induction hk with
  | nil =>
    intro w
    refine wpAny_handleBy_nil ?_
    obtain ⟨_, _, _, oe, fv, t0, _, _, g1, g2, g3, g4, _⟩ := id L.fly
    have out : wpAny (model X.prog X.w) X.A (setFlight (.ref a) X.env.frame) (fun _ s4 => wpAny (model X.prog X.w) X.A (throw (.ref a) : Sem Flow) (SP X pins D) X.xe s4) X.xe { s with heap := h } := by
      rw [hfr]
      exact HandSPX.setFlight_upZ L.fly fun h4 hh4 up4 => wpAny_throw (tk _ _ ⟨a, B, sI, pins, σ, H, k, d, rfl, L.inv, L.nb, L.up.trans up4, .inr (.inr (by rw [hst]; exact hh4)), L.na, L.os, L.ag, w⟩)
    have neN : ¬ ((Value.ref t0 == Value.none) = true) := by simp
    unfold PySem.passOn
    refine wpAny_bind (wpAny_field g1 g3 g4 ?_)
    rw [if_neg neN]
    first
      | exact wpAny_bind (wpAny_pure (wpAny_bind out))
      | exact wpAny_bind out
  | un nm ok r ih =>
    intro w
    obtain ⟨b, e, yes, no⟩ := w
    refine wpAny_handleBy_cons (codeAny_handlers_test (tst nm e ?_)) (by intro q; cases q)
    cases b with
    | false => exact ih (no rfl)
    | true =>
      refine codeAny_handlers_suite (HandSPX.lands_againZ L.fly fun h4 fl4 up4 => ?_)
      obtain ⟨oe, fv, g1, g2, g3⟩ := fl4.there
      have J4 : Inv X pins σ H { s with heap := h4 } := L.inv.landed L.nb fl4.1 (L.up.trans up4) L.os L.ag
      have S := J4.suite g1 g3 L.na L.nL L.nF
      refine wpAny_mono ((ok a oe k d (X.pn ++ pins) g2 ⟨_, g3⟩).run [] _ _ H _ S (yes rfl a L.na)) (fun f s6 z => ?_) (fun _ _ z => z.elim)
      match f, z with
      | .next, ⟨_, _, z, q⟩ => exact ⟨_, _, z.unsuite L.ok, q⟩
      | .brk, ⟨_, _, z, q⟩ => exact ⟨_, _, z.unsuite L.ok, q⟩
      | .cont, ⟨_, _, z, q⟩ => exact ⟨_, _, z.unsuite L.ok, q⟩
      | .ret _, ⟨_, _, _, z, rv, q⟩ => exact ⟨_, _, _, z.unsuite L.ok, rv, q⟩
  | @as x n i c ts s0 su p1 p2 hs l hi hl nm ok r ih =>
    intro w
    obtain ⟨b, e, yes, no⟩ := w
    refine wpAny_handleBy_cons (codeAny_handlers_test (tst nm e ?_)) (by intro q; cases q)
    cases b with
    | false => exact ih (no rfl)
    | true =>
      refine codeAny_handlers_suite_as (HandSPX.lands_againZ L.fly fun h4 fl4 up4 => ?_)
      obtain ⟨oe, fv, g1, g2, g3⟩ := fl4.there
      have J4 : Inv X pins σ H { s with heap := h4 } := L.inv.landed L.nb fl4.1 (L.up.trans up4) L.os L.ag
      have S := J4.suite g1 g3 L.na L.nL L.nF
      refine store_ok (X := X.suite a ((a, oe) :: (X.pn ++ pins))) (v := .ref a) S hN hi (.inl hl) rfl (fun s5 S5 => ?_) (.inr hl)
      refine wpAny_mono ((ok a oe k d (X.pn ++ pins) g2 ⟨_, g3⟩).run [] s5 _ H _ S5 (yes rfl a L.na)) (fun f s6 z => ?_) (fun _ _ z => z.elim)
      have off : ∀ {σ6 : L2.St} {H6 : Hp} {Q : Shared → Prop}, Inv (X.suite a ((a, oe) :: (X.pn ++ pins))) [] σ6 H6 s6 → (∀ s7, Inv X pins (σ6.set i none) H6 s7 → Q s7) →
          wpAny (model X.prog X.w) X.A (do bindName X.env n .none; unbindBehindTheSuite X.env n p2) (fun _ s7 => Q s7) X.xe s6 := fun z hq => gone_ok (z.unsuite L.ok) hN hi hl hq
      match f, z with
      | .next, ⟨_, _, z, q⟩ => exact off z fun s7 J => ⟨_, _, J, q⟩
      | .brk, ⟨_, _, z, q⟩ => exact off z fun s7 J => ⟨_, _, J, q⟩
      | .cont, ⟨_, _, z, q⟩ => exact off z fun s7 J => ⟨_, _, J, q⟩
      | .ret _, ⟨_, _, _, z, rv, q⟩ => exact off z fun s7 J => ⟨_, _, _, J, rv, q⟩
theorem ps_try_x {body : List Stmt} {h0 : ExceptHandler} {hds : List ExceptHandler} {l : List Cl} {pos : Pos} (hst : X.stack = X.env :: X.outer) (hfr : X.env.frame = some X.env.locals) (hN : X.N.Nodup) (tk : Takes X Wo)
    (hb : ∀ (W : WX) (pn : List (Addr × Obj)) (xe : Value → Shared → Prop), Takes (X.tr pn xe) W → PassesOwn (model X.prog X.w) X.A X.env xe → PSs (X.tr pn xe) body (tb W)) (hh : HdsX X (h0 :: hds) l) :
    PS X (.Try body (h0 :: hds) [] [] pos) (fun D σ H => tb (wX X.K Wo D l) D σ H) := by
  refine ⟨fun pins s σ H D I w => wpAny_Try_except ?_⟩
  have ok := I.ok
  refine wpAny_mono ((hb (wX X.K Wo D l) (X.pn ++ pins) (fun e s1 => wpAny (model X.prog X.w) X.A (noteFrame e X.env) (fun _ s2 => wpAny (model X.prog X.w) X.A (setFlight e none) (fun _ s3 =>
    wpAny (model X.prog X.w) X.A (handleBy e X.env (h0 :: hds)) (SP X pins D) X.xe s3) X.xe s2) X.xe s1) (fun u s' q => ?_) PassesOwn.looking).run [] s σ H D (I.toTry _) w) (fun f s1 z => ?_) (fun _ _ z => z)
  · obtain ⟨a, B, sI, pi, σ', H', k, d, rfl, J', nb, up, sky, na, os, ag, w'⟩ := q
    have J := J'.ofTry (X := X) ok
    rw [show (X.tr (X.pn ++ pins) _).stack = X.stack from rfl, hst] at sky
    show wpAny (model X.prog X.w) X.A (noteFrame (.ref a) X.env) _ _ _
    refine Sky.land Zc.steady (by rw [ok.frames, hst]) hfr sky fun h3 fl3 up3 => ?_
    obtain ⟨oe, fv, g1, g2, g3⟩ := fl3.there
    have far : a ∉ frs (X.env :: X.outer) := fun hm => by
      obtain ⟨_, o', e', nf⟩ := fl3.2.2.1.mem hm
      exact nf _ ((Option.some.inj (g1.symm.trans e')) ▸ g3)
    refine clauses hst hfr hN tk ⟨ok, J, nb, up.trans up3, fl3, na, fun z => far ?_, fun hm => far ?_, os, ag⟩ hh w'
    · exact List.mem_filterMap.mpr ⟨X.env, List.mem_cons_self, by rw [hfr, z]⟩
    · obtain ⟨e2, he2, q2⟩ := List.mem_filterMap.mp hm
      exact List.mem_filterMap.mpr ⟨e2, List.mem_cons_of_mem _ he2, q2⟩
  · match f, z with
    | .next, ⟨_, _, z, q⟩ => exact wpAny_execs_nil ⟨_, _, z.ofTry ok, q⟩
    | .brk, ⟨_, _, z, q⟩ => exact ⟨_, _, z.ofTry ok, q⟩
    | .cont, ⟨_, _, z, q⟩ => exact ⟨_, _, z.ofTry ok, q⟩
    | .ret _, ⟨_, _, _, z, rv, q⟩ => exact ⟨_, _, _, z.ofTry ok, rv, q⟩
end

/-- a trick's attributes -/
def tf (b t m : Int) : List (Str × V) := putF "_times" (.int m) (putF "_take" (.int t) (putF "_base" (.int b) []))
theorem n1 : ¬ (("_base" : Str) = "_take") := by decide +kernel
theorem n2 : ¬ (("_base" : Str) = "_times") := by decide +kernel
theorem n3 : ¬ (("_take" : Str) = "_times") := by decide +kernel
theorem tf_eq (b t m : Int) : tf b t m = ([("_base", V.int b), ("_take", V.int t), ("_times", V.int m)] : List (Str × V)) := by
  have e2 : putF "_take" (V.int t) (putF "_base" (V.int b) []) = ([("_base", V.int b), ("_take", V.int t)] : List (Str × V)) := by
    show (if ("_base" : Str) = "_take" then [(("_base" : Str), V.int t)] else (("_base" : Str), V.int b) :: putF "_take" (V.int t) []) = _
    rw [if_neg n1]
    all_goals rfl
  unfold tf
  rw [e2]
  show (if ("_base" : Str) = "_times" then _ else (("_base" : Str), V.int b) :: (if ("_take" : Str) = "_times" then _ else (("_take" : Str), V.int t) :: putF "_times" (V.int m) [])) = _
  rw [if_neg n2, if_neg n3]
  all_goals rfl
theorem tf_base (b t m : Int) : (tf b t m).lookup ("_base" : Str) = some (.int b) := by
  unfold tf
  rw [lookup_putF, if_neg n2, lookup_putF, if_neg n1, lookup_putF, if_pos rfl]
theorem tf_take (b t m : Int) : (tf b t m).lookup ("_take" : Str) = some (.int t) := by
  unfold tf
  rw [lookup_putF, if_neg n3, lookup_putF, if_pos rfl]
theorem tf_times (b t m : Int) : (tf b t m).lookup ("_times" : Str) = some (.int m) := by
  unfold tf
  rw [lookup_putF, if_pos rfl]
/-- the Trick of these parts stands at p -/
def TrickAt (T : Tx K mg) (H : Hp) (p : Addr) (b t m : Int) : Prop := (∃ dx, H p = some (.ins T.C_Trick dx (tf b t m))) ∧ 2 ≤ b ∧ b ≤ 16 ∧ 1 ≤ t ∧ t ≤ 2 ∧ -100 ≤ m ∧ m ≤ 100
theorem TrickAt.same {T : Tx K mg} {H H' : Hp} {p : Addr} {b t m : Int} (h : TrickAt T H p b t m) (s : Same H H') : TrickAt T H' p b t m :=
  let ⟨⟨dx, e⟩, r⟩ := h
  ⟨⟨dx, s _ _ e⟩, r⟩
theorem TrickAt.but {T : Tx K mg} {H H' : Hp} {p r : Addr} {b t m : Int} (h : TrickAt T H p b t m) (s : But r H H') (n : p ≠ r) : TrickAt T H' p b t m :=
  let ⟨⟨dx, e⟩, q⟩ := h
  ⟨⟨dx, s _ _ e n⟩, q⟩
theorem TrickAt.any {T : Tx K mg} {H : Hp} {p : Addr} {b t m : Int} (h : TrickAt T H p b t m) : AnyV (OwnT T) H (.ref p) :=
  let ⟨⟨_, e⟩, _⟩ := h
  .ins (by first | exact rfl | exact Or.inl rfl) e
theorem isi_trick (T : Tx K mg) {H : Hp} {x : V} (a : AnyV (fun _ => False) H x) : ∃ t, TyX K H x t ∧ PySem.W.kitOne K t (.ref T.C_Trick) = some false := by
  cases a with
  | non => exact ⟨_, .base .non, T.kin_Trick_NoneType⟩
  | bl b => exact ⟨_, .base (.bl b), T.kin_Trick_bool⟩
  | int i => exact ⟨_, .base (.int i), T.kin_Trick_int⟩
  | str x => exact ⟨_, .base (.str x), T.kin_Trick_str⟩
  | lst e => exact ⟨_, .base (.lst e), T.kin_Trick_list⟩
  | tup e => exact ⟨_, .base (.tup e), T.kin_Trick_tuple⟩
  | dct e => exact ⟨_, .base (.dK e), T.kin_Trick_dict⟩
  | ins t e => exact t.elim

/-- Trick(x, y, z) of any values: the first error, or a new object -/
def sp_Trick___init__ (T : Tx K mg) : Sp := fun vs H Q E => ∃ (p dx : Addr) (x y z : V), vs = [.ref p, x, y, z] ∧ H p = some (.ins T.C_Trick dx []) ∧ AnyV (OwnT T) H x ∧ AnyV (OwnT T) H y ∧ AnyV (OwnT T) H z ∧
  (intIn x 2 16 = false → E (.ref T.C_BadBase) none H) ∧ (intIn x 2 16 = true → intIn y 1 2 = false → E (.ref T.C_BadTake) none H) ∧ (intIn x 2 16 = true → intIn y 1 2 = true → intIn z (-100) 100 = false → E (.ref T.C_BadTimes) none H) ∧
  ∀ b t m : Int, x = .int b → y = .int t → z = .int m → 2 ≤ b → b ≤ 16 → 1 ≤ t → t ≤ 2 → -100 ≤ m → m ≤ 100 → ∀ H', TrickAt T H' p b t m → (∀ c o, H c = some o → c ≠ p → H' c = some o) → Q .non H'
theorem intIn_int {x : V} {lo hi : Int} (h : intIn x lo hi = true) : ∃ i, x = .int i ∧ lo ≤ i ∧ i ≤ hi := by
  cases x with
  | int i =>
    have h2 : (decide (lo ≤ i) && decide (i ≤ hi)) = true := h
    rw [Bool.and_eq_true, decide_eq_true_iff, decide_eq_true_iff] at h2
    exact ⟨i, rfl, h2⟩
  | _ => cases h
theorem ok_Trick___init__ (T : Tx K mg) : FnOk P w K mg base (L2.CX P w) lv_Trick___init__ T.a_Trick___init__ T.d_Trick___init__ ["self", "base", "take", "times"] (sp_Trick___init__ T) := by
  refine T.F_Trick___init__.okX sc_Trick___init__ (fun vs H Q E h => ?_) (fun cdv A outer s H vs Q E hr h => ?_)
  · obtain ⟨p, dx, x, y, z, rfl, _⟩ := h
    rfl
  · obtain ⟨p, dx, x, y, z, rfl, hp, ax, ay, az, e1, e2, e3, k⟩ := h
    refine ⟨_, (pss_cons (ps_expr (pe_call (ok_check_base T) (hr.mono (by decide)) rfl T.g_check_base T.F_check_base.kp T.b_check_base .nil (passes_call (takes_of rfl rfl rfl rfl) fun _ _ _ _ h => h) (pa_cons (pv 1) pa_nil)))
      (pss_cons (ps_expr (pe_call (ok_check_take T) (hr.mono (by decide)) rfl T.g_check_take T.F_check_take.kp T.b_check_take .nil (passes_call (takes_of rfl rfl rfl rfl) fun _ _ _ _ h => h) (pa_cons (pv 2) pa_nil)))
      (pss_cons (ps_if (pt_not (pt_val (pe_call (ok_is_integer T) (hr.mono (by decide)) rfl T.g_is_integer T.F_is_integer.kp T.b_is_integer .nil pass0 (pa_cons (pv 3) (pa_cons (pe_un un_neg (pe_glob (v := .int 100) rfl T.c_GREATEST_TIMES ⟨_, rfl⟩)) (pa_cons (pe_glob (v := .int 100) rfl T.c_GREATEST_TIMES ⟨_, rfl⟩) pa_nil)))))) (pss_one (ps_raise rfl (takes_of rfl rfl rfl rfl) (pmk_own PySem.F.excBase_ValueError T.x_BadTimes T.g_BadTimes T.k_BadTimes (raises_own T.s_BadTimes T.t_BadTimes) rfl))) pss_nil)
      (pss_cons (ps_fld (pv 0) (pv 1) rfl)
      (pss_cons (ps_fld (pv 0) (pv 2) rfl)
      (pss_one (ps_fld (pv 0) (pv 3) rfl))))))), ?_⟩
    refine ⟨_, rfl, x, rfl, ax, fun g1 => ?_, e1⟩
    refine ⟨_, rfl, y, rfl, ay, fun g2 => ?_, e2 g1⟩
    refine ⟨_, rfl, _, rfl, z, _, _, rfl, az, _, rfl, ?_⟩
    cases g3 : intIn z (-100) 100 with
    | false =>
      exact iteT (e3 g1 g2 g3)
    | true =>
      obtain ⟨b, rfl, b1, b2⟩ := intIn_int g1
      obtain ⟨t, rfl, t1, t2⟩ := intIn_int g2
      obtain ⟨m, rfl, m1, m2⟩ := intIn_int g3
      refine iteF ?_
      refine ⟨_, rfl, _, rfl, p, _, dx, _, rfl, hp, T.cl_Trick, T.na_Trick_base, (by show 0 < 1000; decide), ?_⟩
      refine ⟨_, rfl, _, rfl, p, _, dx, _, rfl, upd_same, T.cl_Trick, T.na_Trick_take, (by show 1 < 1000; decide), ?_⟩
      refine ⟨_, rfl, _, rfl, p, _, dx, _, rfl, upd_same, T.cl_Trick, T.na_Trick_times, (by show 2 < 1000; decide), ?_⟩
      refine k b t m rfl rfl rfl b1 b2 t1 t2 m1 m2 _ ⟨⟨dx, upd_same⟩, b1, b2, t1, t2, m1, m2⟩ fun c o e hc => ?_
      rw [upd_ne hc, upd_ne hc, upd_ne hc]
      exact e
/-- a Trick of good parts is made -/
theorem mk_trick {T : Tx K mg} {H1 : Hp} {p dx : Addr} {b t m : Int} {R : Hp → Prop} (np : H1 p = none) (nd : H1 dx = none) (b1 : 2 ≤ b) (b2 : b ≤ 16) (t1 : 1 ≤ t) (t2 : t ≤ 2) (m1 : -100 ≤ m) (m2 : m ≤ 100)
    (k : ∀ H2, TrickAt T H2 p b t m → Same H1 H2 → R H2) : sp_Trick___init__ T (.ref p :: ([.int b, .int t, .int m] ++ [])) (upd (upd H1 dx (.own p)) p (.ins T.C_Trick dx [])) (fun v H2 => v = .non ∧ R H2) E0 := by
  refine ⟨p, dx, .int b, .int t, .int m, rfl, upd_same, .int b, .int t, .int m, fun z => ?_, fun _ z => ?_, fun _ _ z => ?_, fun b' t' m' e1 e2 e3 _ _ _ _ _ _ H2 hT kp => ⟨rfl, ?_⟩⟩
  · rw [intIn_of b1 b2] at z; cases z
  · rw [intIn_of t1 t2] at z; cases z
  · rw [intIn_of m1 m2] at z; cases z
  · cases e1; cases e2; cases e3
    exact k H2 hT (Same.made np nd kp)

/-! ### a trick's parts, its block -/
def spGet (T : Tx K mg) (f : Int → Int → Int → Int) : Sp := fun vs H Q _ => ∃ (p : Addr) (b t m : Int), vs = [.ref p] ∧ TrickAt T H p b t m ∧ Q (.int (f b t m)) H
theorem ok_Trick_base (T : Tx K mg) : FnOk P w K mg base CX0 lv_Trick_base T.a_Trick_base T.d_Trick_base ["self"] (spGet T fun b _ _ => b) := by
  refine T.F_Trick_base.ok sc_Trick_base (fun vs H Q E h => ?_) (fun cdv A outer s H vs Q E hr h => ?_)
  · obtain ⟨p, b, t, m, rfl, _⟩ := h
    rfl
  · obtain ⟨p, b, t, m, rfl, ⟨⟨dx, e⟩, _⟩, k⟩ := h
    exact ⟨_, (pss_one (ps_ret (pe_fld (pv 0) rfl))), _, rfl, p, _, dx, _, _, rfl, e, T.cl_Trick, T.na_Trick_base, tf_base b t m, k⟩
theorem ok_Trick_take (T : Tx K mg) : FnOk P w K mg base CX0 lv_Trick_take T.a_Trick_take T.d_Trick_take ["self"] (spGet T fun _ t _ => t) := by
  refine T.F_Trick_take.ok sc_Trick_take (fun vs H Q E h => ?_) (fun cdv A outer s H vs Q E hr h => ?_)
  · obtain ⟨p, b, t, m, rfl, _⟩ := h
    rfl
  · obtain ⟨p, b, t, m, rfl, ⟨⟨dx, e⟩, _⟩, k⟩ := h
    exact ⟨_, (pss_one (ps_ret (pe_fld (pv 0) rfl))), _, rfl, p, _, dx, _, _, rfl, e, T.cl_Trick, T.na_Trick_take, tf_take b t m, k⟩
theorem ok_Trick_times (T : Tx K mg) : FnOk P w K mg base CX0 lv_Trick_times T.a_Trick_times T.d_Trick_times ["self"] (spGet T fun _ _ m => m) := by
  refine T.F_Trick_times.ok sc_Trick_times (fun vs H Q E h => ?_) (fun cdv A outer s H vs Q E hr h => ?_)
  · obtain ⟨p, b, t, m, rfl, _⟩ := h
    rfl
  · obtain ⟨p, b, t, m, rfl, ⟨⟨dx, e⟩, _⟩, k⟩ := h
    exact ⟨_, (pss_one (ps_ret (pe_fld (pv 0) rfl))), _, rfl, p, _, dx, _, _, rfl, e, T.cl_Trick, T.na_Trick_times, tf_times b t m, k⟩

/-! ### equality of tricks -/
def eqB (b t m b' t' m' : Int) : Bool := decide (b = b') && (decide (t = t') && decide (m = m'))
def spEqT (T : Tx K mg) : Sp := fun vs H Q _ => ∃ (p : Addr) (y : V) (b t m : Int), vs = [.ref p, y] ∧ TrickAt T H p b t m ∧
  ((∃ q b' t' m', y = .ref q ∧ TrickAt T H q b' t' m' ∧ Q (.bl (eqB b t m b' t' m')) H) ∨ (AnyV (fun _ => False) H y ∧ Q (.bl false) H))
theorem ok_Trick___eq__ (T : Tx K mg) : FnOk P w K mg base CX0 lv_Trick___eq__ T.a_Trick___eq__ T.d_Trick___eq__ ["self", "other"] (spEqT T) := by
  refine T.F_Trick___eq__.ok sc_Trick___eq__ (fun vs H Q E h => ?_) (fun cdv A outer s H vs Q E hr h => ?_)
  · obtain ⟨p, y, b, t, m, rfl, _⟩ := h
    rfl
  · obtain ⟨p, y, b, t, m, rfl, ⟨⟨dx, e⟩, _⟩, h⟩ := h
    refine ⟨_, (pss_one (ps_ret (pe_and (pe_callB call_isi (by rfl) T.n_isinstance (by decide +kernel) (pa_cons (pv 1) (pa_cons (pe_glob (v := .ref T.C_Trick) rfl T.g_Trick rfl) pa_nil))) (pe_and (pe_cmpR op_eq (pe_fld (pv 0) rfl) (pe_fld (pv 1) rfl) (nomark _)) (pe_and (pe_cmpR op_eq (pe_fld (pv 0) rfl) (pe_fld (pv 1) rfl) (nomark _)) (pe_one (pe_cmpR op_eq (pe_fld (pv 0) rfl) (pe_fld (pv 1) rfl) (nomark _)))))))), ?_⟩
    rcases h with ⟨q, b', t', m', rfl, ⟨⟨dy, e'⟩, _⟩, k⟩ | ⟨a, k⟩
    · refine ⟨_, rfl, _, _, _, _, _, rfl, .own _, .base (T.ins_Trick _ _ _ _ e'), T.kis_Trick, _, rfl, iteT ?_⟩
      unfold eqB at k
      refine ⟨_, rfl, p, _, dx, _, _, rfl, e, T.cl_Trick, T.na_Trick_base, tf_base b t m, _, rfl, q, _, dy, _, _, rfl, e', T.cl_Trick, T.na_Trick_base, tf_base b' t' m', rfl, _, rfl, ?_⟩
      rw [dec_i]
      cases g1 : decide (b = b') with
      | false => rw [g1] at k; exact iteF k
      | true =>
        rw [g1, Bool.true_and] at k
        refine iteT ?_
        refine ⟨_, rfl, p, _, dx, _, _, rfl, e, T.cl_Trick, T.na_Trick_take, tf_take b t m, _, rfl, q, _, dy, _, _, rfl, e', T.cl_Trick, T.na_Trick_take, tf_take b' t' m', rfl, _, rfl, ?_⟩
        rw [dec_i]
        cases g2 : decide (t = t') with
        | false => rw [g2] at k; exact iteF k
        | true =>
          rw [g2, Bool.true_and] at k
          refine iteT ?_
          refine ⟨_, rfl, p, _, dx, _, _, rfl, e, T.cl_Trick, T.na_Trick_times, tf_times b t m, _, rfl, q, _, dy, _, _, rfl, e', T.cl_Trick, T.na_Trick_times, tf_times b' t' m', rfl, ?_⟩
          rw [dec_i]
          exact k
    · obtain ⟨u, ty, e2⟩ := isi_trick T a
      exact ⟨_, rfl, _, _, _, _, _, rfl, .own _, ty, e2, _, rfl, iteF k⟩

/-! ### the law's draws: what is drawn lies in its range; nothing but the row of the draws changes -/
theorem fmod_bd (x : Int) {m : Int} (h : 0 < m) : 0 ≤ x.fmod m ∧ x.fmod m < m := by
  rw [Int.fmod_eq_emod_of_nonneg x (by omega)]
  exact ⟨Int.emod_nonneg x (by omega), Int.emod_lt_of_pos x h⟩
abbrev rowL (a : Addr) (i s c : Int) : List V := [.ref a, .int i, .int s, .int c]
/-- the script at a: locked, or of the top's own -/
def Scr (K : PySem.W.Frag) (H : Hp) (a : Addr) (xs : List V) : Prop := (∃ o, H a = some (.frz o (.lst xs))) ∨ SqL K (fun _ => none) a xs
theorem scr_of {H : Hp} {a : Addr} {xs : List V} (hO : ∀ b, H b = none ∨ ∃ o xs, H b = some (.frz o (.lst xs))) (h : SqL K H a xs) : Scr K H a xs := by
  rcases h with (h | h) | h
  · rcases hO a with z | ⟨o, ys, z⟩
    · rw [z] at h; cases h
    · rw [z] at h; cases h
  · exact .inl h
  · exact .inr (.inr h)
theorem Scr.seq {H : Hp} {a : Addr} {xs : List V} (h : Scr K H a xs) : SqL K H a xs := by
  rcases h with h | (h | ⟨o, h⟩) | h
  · exact .inl (.inr h)
  · cases h
  · cases h
  · exact .inr h
theorem Scr.mono {H H' : Hp} {a : Addr} {xs : List V} (h : Scr K H a xs) (k : ∀ b o u, H b = some (.frz o u) → H' b = some (.frz o u)) : Scr K H' a xs := by
  rcases h with ⟨o, h⟩ | h
  · exact .inl ⟨o, k _ _ _ h⟩
  · exact .inr h
/-- at r the row of the draws over the script at a -/
def RowAt (K : PySem.W.Frag) (H : Hp) (r a : Addr) (ns : List Int) : Prop := ∃ i s c : Int, H r = some (.lst (rowL a i s c)) ∧ 0 ≤ i ∧ 0 ≤ c ∧ Scr K H a (ns.map V.int) ∧ ns.length ≤ 63
theorem RowAt.same {H H' : Hp} {r a : Addr} {ns : List Int} (h : RowAt K H r a ns) (e : Same H H') : RowAt K H' r a ns :=
  let ⟨i, s, c, h1, h2, h3, h4, h5⟩ := h
  ⟨i, s, c, e _ _ h1, h2, h3, h4.mono fun _ _ _ z => e _ _ z, h5⟩
/-- another list is changed -/
theorem RowAt.put {H : Hp} {r a q : Addr} {ns : List Int} {ys : List V} {o : HO} (h : RowAt K H r a ns) (hq : H q = some (.lst ys)) (n : q ≠ r) : RowAt K (upd H q o) r a ns :=
  let ⟨i, s, c, h1, h2, h3, h4, h5⟩ := h
  ⟨i, s, c, by rw [upd_ne (Ne.symm n)]; exact h1, h2, h3, h4.mono fun b o' u z => by rw [upd_ne (ne_of z hq (by intro y; cases y))]; exact z, h5⟩
/-- the row as the law lays it -/
theorem RowAt.start {H : Hp} {r a : Addr} {ns : List Int} {i s c : Int} (hr : H r = none) (hS : Scr K H a (ns.map V.int)) (hl : ns.length ≤ 63) (hi : 0 ≤ i) (hc : 0 ≤ c) : RowAt K (upd H r (.lst (rowL a i s c))) r a ns :=
  ⟨i, s, c, upd_same, hi, hc, hS.mono fun b o u z => by rw [upd_ne (ne_of_none z hr)]; exact z, hl⟩
def spTaken (K : PySem.W.Frag) : Sp := fun vs H Q _ => ∃ (r a : Addr) (ns : List Int) (m : Int), vs = [.ref r, .int m] ∧ 0 < m ∧ m ≤ 10 ^ 41 ∧ RowAt K H r a ns ∧
  ∀ (v : Int) (H' : Hp), 0 ≤ v → v < m → RowAt K H' r a ns → But r H H' → Q (.int v) H'
theorem ok__law_taken (T : Tx K mg) : FnOk P w K mg base CX0 lv__law_taken T.a__law_taken T.d__law_taken ["_law_row", "_law_many"] (spTaken K) := by
  refine T.F__law_taken.ok sc__law_taken (fun vs H Q E h => ?_) (fun cdv A outer s H vs Q E hr h => ?_)
  · obtain ⟨r, a, ns, m, rfl, _⟩ := h
    rfl
  · obtain ⟨r, a, ns, m, rfl, m0, m1, ⟨i, s, c, hR, i0, c0, hK, hlen⟩, k⟩ := h
    have hKB : ∀ H', But r H H' → Scr K H' a (ns.map V.int) := fun H' b => hK.mono fun c o u z => b c _ z (ne_of z hR (by intro y; cases y))
    have hdv : ∀ x : Int, CDivW x m := fun x => wide_div m0 (b := 140) (by omega) (by decide) (by decide)
    have back : ∀ (v : Int) (i' s' c' : Int) (H' : Hp), 0 ≤ v → v < m → 0 ≤ i' → 0 ≤ c' → H' r = some (.lst (rowL a i' s' c')) → But r H H' → Q (.int v) H' := fun v i' s' c' H' v0 v1 z1 z2 e b =>
      k v H' v0 v1 ⟨i', s', c', e, z1, z2, hKB _ b, hlen⟩ b
    refine ⟨_, (pss_cons (ps_if (pt_cmpR op_gt (pe_ix ix_list (pv 0) pe_int (fun _ _ => rfl)) pe_int (nomark _)) (pss_cons (ps_set (i := 2) sc__law_taken.nd rfl (Or.inl rfl) (pe_op op_modN (pe_callTy call_int1 (by rfl) T.n_int (by decide +kernel) (pa_cons (pe_ix ix_list (pv 0) pe_int (fun _ _ => rfl)) pa_nil)) (pv 1)))
      (pss_cons (ps_asg (pe_op op_fdivW (pe_ix ix_list (pv 0) pe_int (fun _ _ => rfl)) (pv 1)) (pg_sub (pv 0) pe_int set_list))
      (pss_one (ps_ret (pv 2))))) pss_nil)
      (pss_cons (ps_asg (pe_op op_add (pe_ix ix_list (pv 0) pe_int (fun _ _ => rfl)) pe_int) (pg_sub (pv 0) pe_int set_list))
      (pss_cons (ps_if (pt_cmpR op_gt (pe_ix ix_list (pv 0) pe_int (fun _ _ => rfl)) (pe_callB call_len_seq (by rfl) T.n_len (by decide +kernel) (pa_cons (pe_ix ix_list (pv 0) pe_int (fun _ _ => rfl)) pa_nil)) (nomark _)) (pss_cons (ps_asg (pe_op op_modN (pe_callTy call_int1 (by rfl) T.n_int (by decide +kernel) (pa_cons (pe_op op_add (pe_op op_mul (pe_ix ix_list (pv 0) pe_int (fun _ _ => rfl)) pe_int) pe_int) pa_nil)) pe_int) (pg_sub (pv 0) pe_int set_list))
      (pss_one (ps_ret (pe_op op_modN (pe_callTy call_int1 (by rfl) T.n_int (by decide +kernel) (pa_cons (pe_op op_fdivW (pe_ix ix_list (pv 0) pe_int (fun _ _ => rfl)) pe_int) pa_nil)) (pv 1))))) pss_nil)
      (pss_cons (ps_set (i := 3) sc__law_taken.nd rfl (Or.inl rfl) (pe_ix ix_list (pe_ix ix_list (pv 0) pe_int (fun _ _ => rfl)) (pe_op op_sub (pe_ix ix_list (pv 0) pe_int (fun _ _ => rfl)) pe_int) (fun _ _ => rfl)))
      (pss_cons (ps_asg (pe_op op_modN (pe_callTy call_int1 (by rfl) T.n_int (by decide +kernel) (pa_cons (pe_op op_add (pe_op op_add (pe_op op_mul (pe_ix ix_list (pv 0) pe_int (fun _ _ => rfl)) pe_int) (pv 3)) pe_int) pa_nil)) pe_int) (pg_sub (pv 0) pe_int set_list))
      (pss_cons (ps_if (pt_cmpR op_ge (pv 3) (pe_op op_pow pe_int pe_int) (nomark _)) (pss_one (ps_asg (pe_op op_fdivW (pv 3) (pv 1)) (pg_sub (pv 0) pe_int set_list))) pss_nil)
      (pss_one (ps_ret (pe_op op_modN (pe_callTy call_int1 (by rfl) T.n_int (by decide +kernel) (pa_cons (pv 3) pa_nil)) (pv 1)))))))))), ?_⟩
    refine ⟨_, rfl, r, _, _, _, rfl, rfl, SqL.of hR, rfl, _, _, rfl, rfl, _, rfl, ?_⟩
    refine ite2 (fun g => ?_) (fun g => ?_)
    · -- a great cell's digits
      obtain ⟨v0, v1⟩ := fmod_bd c m0
      refine ⟨_, rfl, r, _, _, _, rfl, rfl, SqL.of hR, rfl, .inl ⟨_, rfl, _, rfl, _, _, rfl, rfl, by omega, ?_⟩⟩
      refine ⟨_, rfl, r, _, _, _, rfl, rfl, SqL.of hR, rfl, _, rfl, _, _, rfl, rfl, hdv c, _, rfl, r, _, _, _, rfl, rfl, hR, rfl, ?_⟩
      exact ⟨_, rfl, back _ i s (c / m) _ v0 v1 i0 (Int.ediv_nonneg c0 (by omega)) upd_same But.put⟩
    · refine ⟨_, rfl, r, _, _, _, rfl, rfl, SqL.of hR, rfl, _, _, rfl, rfl, _, rfl, r, _, _, _, rfl, rfl, hR, rfl, ?_⟩
      -- behind the script's end?
      have hR1 : upd H r (.lst (rowL a (i + 1) s c)) r = some (.lst (rowL a (i + 1) s c)) := upd_same
      have hB1 : But r H (upd H r (.lst (rowL a (i + 1) s c))) := But.put
      have hS1 : SqL K (upd H r (.lst (rowL a (i + 1) s c))) a (ns.map V.int) := (hKB _ hB1).seq
      refine ⟨_, rfl, r, _, _, _, rfl, rfl, SqL.of hR1, rfl, _, rfl, r, _, _, _, rfl, rfl, SqL.of hR1, rfl, a, _, rfl, .inl hS1, _, _, rfl, rfl, _, rfl, ?_⟩
      refine ite2 (fun g2 => ?_) (fun g2 => ?_)
      · refine ⟨_, rfl, r, _, _, _, rfl, rfl, SqL.of hR1, rfl, _, _, rfl, rfl, .inr ⟨by decide, by decide⟩, _, _, rfl, rfl, .inl ⟨_, rfl, _, _, rfl, rfl, (show (2147483647 : Int) ≠ 0 by decide), ?_⟩⟩
        refine ⟨_, rfl, r, _, _, _, rfl, rfl, hR1, rfl, ?_⟩
        refine ⟨_, rfl, r, _, _, _, rfl, rfl, SqL.of upd_same, rfl, _, _, rfl, rfl, wide_div (by decide) (b := 3) (by decide) (by decide) (by decide), .inl ⟨_, rfl, _, rfl, _, _, rfl, rfl, by omega, ?_⟩⟩
        obtain ⟨v0, v1⟩ := fmod_bd ((s * 48271 + 11).fmod 2147483647 / 7) m0
        exact back _ (i + 1) _ c _ v0 v1 (by omega) c0 upd_same (hB1.trans But.put)
      · have g3 : i + 1 ≤ (ns.length : Int) := by
          simp only [decide_eq_true_eq, List.length_map] at g2
          omega
        obtain ⟨z, hz⟩ : ∃ z, ns[i.toNat]? = some z := ⟨ns[i.toNat]'(by omega), List.getElem?_eq_getElem (by omega)⟩
        have hz1 : atI (ns.map V.int) (i + 1 - 1) = some (V.int z) := at_of (j := i.toNat) (by omega) (by rw [List.getElem?_map, hz]; rfl)
        refine ⟨_, rfl, r, _, _, _, rfl, rfl, SqL.of hR1, rfl, _, rfl, r, _, _, _, rfl, rfl, SqL.of hR1, rfl, _, _, rfl, rfl, a, _, _, _, rfl, rfl, hS1, hz1, ?_⟩
        refine ⟨_, rfl, r, _, _, _, rfl, rfl, SqL.of hR1, rfl, _, _, rfl, rfl, .inr ⟨by decide, by decide⟩, _, rfl, _, _, rfl, rfl, _, _, rfl, rfl, .inl ⟨_, rfl, _, _, rfl, rfl, (show (2147483647 : Int) ≠ 0 by decide), ?_⟩⟩
        refine ⟨_, rfl, r, _, _, _, rfl, rfl, hR1, rfl, ?_⟩
        have hR2 : upd (upd H r (.lst (rowL a (i + 1) s c))) r (.lst (rowL a (i + 1) ((s * 48271 + z + 11).fmod 2147483647) c)) r = some (.lst (rowL a (i + 1) ((s * 48271 + z + 11).fmod 2147483647) c)) := upd_same
        have hB2 : But r H (upd (upd H r (.lst (rowL a (i + 1) s c))) r (.lst (rowL a (i + 1) ((s * 48271 + z + 11).fmod 2147483647) c))) := hB1.trans But.put
        obtain ⟨v0, v1⟩ := fmod_bd z m0
        refine ⟨_, rfl, _, _, rfl, rfl, ⟨by decide, by decide, by decide⟩, _, _, rfl, rfl, _, rfl, ?_⟩
        refine ite2 (fun g4 => ?_) (fun g4 => ?_)
        · refine ⟨_, rfl, _, rfl, _, _, rfl, rfl, hdv z, _, rfl, r, _, _, _, rfl, rfl, hR2, rfl, ?_⟩
          have z0 : 0 ≤ z := by
            have g5 : (10 : Int) ^ 18 ≤ z := by simpa using g4
            exact Int.le_trans (by decide) g5
          refine ⟨_, rfl, .inl ⟨_, rfl, _, rfl, _, _, rfl, rfl, by omega, ?_⟩⟩
          exact back _ (i + 1) _ (z / m) _ v0 v1 (by omega) (Int.ediv_nonneg z0 (by omega)) upd_same (hB2.trans But.put)
        · refine ⟨_, rfl, .inl ⟨_, rfl, _, rfl, _, _, rfl, rfl, by omega, ?_⟩⟩
          exact back _ (i + 1) _ c _ v0 v1 (by omega) c0 hR2 hB2

/-! ### a menu: an item of a written list at a drawn place -/
theorem RowAt.new {H : Hp} {r a p : Addr} {ns : List Int} {o : HO} (h : RowAt K H r a ns) (hp : H p = none) : RowAt K (upd H p o) r a ns := h.same (same_upd hp)
theorem RowAt.ne {H : Hp} {r a p : Addr} {ns : List Int} (h : RowAt K H r a ns) (hp : H p = none) : p ≠ r :=
  let ⟨_, _, _, h1, _⟩ := h
  (ne_of_none h1 hp).symm
theorem But.new {H H1 : Hp} {r p : Addr} {o : HO} (b : But r H H1) (hp : H1 p = none) : But r H (upd H1 p o) := b.trans (Same.but (same_upd hp))
theorem But.free {H H1 : Hp} {r p : Addr} (b : But r H H1) (n : p ≠ r) (hp : H1 p = none) : H p = none := by
  cases q : H p with
  | none => rfl
  | some o =>
    rw [b p o q n] at hp
    cases hp
/-- an item of the list laid at p, at a place that is drawn -/
theorem menu {H1 : Hp} {r a p : Addr} {ns items : List Int} {m : Int} (Pr : Int → Prop) (hP : ∀ z ∈ items, Pr z) (hl : (items.length : Int) = m) (R1 : RowAt K H1 r a ns) (hp : H1 p = none) {Q : VK}
    (k : ∀ (z : Int) (H2 : Hp), Pr z → RowAt K H2 r a ns → But r H1 H2 → H2 p = some (.lst (items.map V.int)) → Q (.int z) H2) (h0 : 0 < m) (h1 : m ≤ 10 ^ 41) :
    spTaken K ([.ref r, .int m] ++ []) (upd H1 p (.lst (items.map V.int))) (fun y H2 => rIxL K (.ref p) y H2 Q) E0 := by
  refine ⟨r, a, ns, m, rfl, h0, h1, R1.new hp, fun w H2 w0 w1 R2 B2 => ?_⟩
  obtain ⟨z, hz, he⟩ := at_some Pr hP w0 (by omega)
  have npr := R1.ne hp
  exact ⟨p, _, _, _, rfl, rfl, SqL.of (B2 _ _ upd_same npr), he, k z H2 hz R2 ((Same.but (same_upd hp)).trans B2) (B2 _ _ upd_same npr)⟩
theorem at_someV (Pr : V → Prop) {xs : List V} (h : ∀ z ∈ xs, Pr z) {i : Int} (h0 : 0 ≤ i) (h1 : i < xs.length) : ∃ z, Pr z ∧ atI xs i = some z := by
  obtain ⟨z, hz⟩ : ∃ z, xs[i.toNat]? = some z := ⟨xs[i.toNat]'(by omega), List.getElem?_eq_getElem (by omega)⟩
  exact ⟨z, h z (List.mem_of_getElem? hz), at_of (j := i.toNat) (by omega) hz⟩
theorem menuV {H1 : Hp} {r a p : Addr} {ns : List Int} {items : List V} {m : Int} (Pr : V → Prop) (hP : ∀ z ∈ items, Pr z) (hl : (items.length : Int) = m) (R1 : RowAt K H1 r a ns) (hp : H1 p = none) {Q : VK}
    (k : ∀ (z : V) (H2 : Hp), Pr z → RowAt K H2 r a ns → But r H1 H2 → H2 p = some (.lst items) → Q z H2) (h0 : 0 < m) (h1 : m ≤ 10 ^ 41) :
    spTaken K ([.ref r, .int m] ++ []) (upd H1 p (.lst items)) (fun y H2 => rIxL K (.ref p) y H2 Q) E0 := by
  refine ⟨r, a, ns, m, rfl, h0, h1, R1.new hp, fun w H2 w0 w1 R2 B2 => ?_⟩
  obtain ⟨z, hz, he⟩ := at_someV Pr hP w0 (by omega)
  have npr := R1.ne hp
  exact ⟨p, _, _, _, rfl, rfl, SqL.of (B2 _ _ upd_same npr), he, k z H2 hz R2 ((Same.but (same_upd hp)).trans B2) (B2 _ _ upd_same npr)⟩
/-- a plain value: None, a bool, an int, a text -/
def flatA : V → Bool
  | .non => true | .bl _ => true | .int _ => true | .str _ => true | _ => false
theorem any_flat {T : Addr → Prop} {H : Hp} {v : V} (h : flatA v = true) : AnyV T H v := by
  cases v with
  | non => exact .non
  | bl b => exact .bl b
  | int i => exact .int i
  | str x => exact .str x
  | _ => cases h

/-! ### a power -/
def spPower : Sp := fun vs H Q _ => ∃ b k : Int, vs = [.int b, .int k] ∧ 0 ≤ b ∧ b ≤ 1000 ∧ 0 ≤ k ∧ k ≤ 1000 ∧ Q (.int (b ^ k.toNat)) H
theorem ok__law_power (T : Tx K mg) : FnOk P w K mg base CX0 lv__law_power T.a__law_power T.d__law_power ["_law_base", "_law_many"] spPower := by
  refine T.F__law_power.ok sc__law_power (fun vs H Q E h => ?_) (fun cdv A outer s H vs Q E hr h => ?_)
  · obtain ⟨b, k, rfl, _⟩ := h
    rfl
  · obtain ⟨b, k, rfl, b0, b1, k0, k1, q⟩ := h
    refine ⟨_, (pss_cons (ps_set (i := 2) sc__law_power.nd rfl (Or.inl rfl) pe_int)
      (pss_cons (ps_for PassesOwn.never rfl (pi_range1 (by rfl) T.n_range (pa_cons (pv 1) pa_nil)) (pg_name (i := 3) sc__law_power.nd rfl (Or.inl rfl)) (pss_one (ps_set (i := 2) sc__law_power.nd rfl (Or.inl rfl) (pe_op op_mul (pv 2) (pv 0)))))
      (pss_one (ps_ret (pv 2))))), ?_⟩
    refine ⟨_, rfl, k, rfl, by omega, by omega, ?_⟩
    refine for_range (lo := 0) (fun i σ H2 => ∃ v : Option V, σ = [some (.int b), some (.int k), some (.int (b ^ i)), v] ∧ H2 = H) ⟨none, by rw [Int.pow_zero]; rfl, rfl⟩ ?_ ?_
    · rintro i σ H2 hi ⟨v, rfl, rfl⟩
      refine ⟨_, rfl, _, rfl, _, _, rfl, rfl, .inr ⟨by omega, by omega⟩, ?_⟩
      exact ⟨_, by rw [Int.pow_succ]; rfl, rfl⟩
    · rintro σ H2 ⟨v, rfl, rfl⟩
      exact ⟨_, rfl, q⟩

/-! ### a drawn trick's parts -/
def spLawTrick (K : PySem.W.Frag) : Sp := fun vs H Q _ => ∃ (r a : Addr) (ns : List Int) (small : Bool), vs = [.ref r, .bl small] ∧ RowAt K H r a ns ∧
  ∀ (b t m : Int) (q : Addr) (H' : Hp), 2 ≤ b → b ≤ 16 → 1 ≤ t → t ≤ 2 → (small = true → b ≤ 5 ∨ t = 1) → -100 ≤ m → m ≤ 100 → RowAt K H' r a ns → But r H H' → H q = none → H' q = some (.lst [.int b, .int t, .int m]) → q ≠ r → Q (.ref q) H'
theorem ok__law_trick (T : Tx K mg) : FnOk P w K mg base CX0 lv__law_trick T.a__law_trick T.d__law_trick ["_law_row", "_law_small"] (spLawTrick K) := by
  refine T.F__law_trick.ok sc__law_trick (fun vs H Q E h => ?_) (fun cdv A outer s H vs Q E hr h => ?_)
  · obtain ⟨r, a, ns, sm, rfl, _⟩ := h
    rfl
  · obtain ⟨r, a, ns, sm, rfl, R0, k⟩ := h
    refine ⟨_, (Evl.pss_cut (ps_set (i := 2) sc__law_trick.nd rfl (Or.inr rfl) (pe_ix ix_list (pe_lst (pa_cons pe_int (pa_cons pe_int (pa_cons pe_int (pa_cons pe_int (pa_cons pe_int (pa_cons pe_int (pa_cons (pe_op op_add pe_int (pe_call (ok__law_taken T) (hr.mono (by decide)) rfl T.g__law_taken T.F__law_taken.kp T.b__law_taken .nil pass0 (pa_cons (pv 0) (pa_cons pe_int pa_nil)))) pa_nil)))))))) (pe_call (ok__law_taken T) (hr.mono (by decide)) rfl T.g__law_taken T.F__law_taken.kp T.b__law_taken .nil pass0 (pa_cons (pv 0) (pa_cons pe_int pa_nil))) (fun _ _ => rfl)))
      (Evl.pss_cut (ps_set (i := 3) sc__law_trick.nd rfl (Or.inr rfl) (pe_ifExp (PW.pt (pw_and (pt_val (pv 1)) (pw_and1 (pt_cmpR op_gt (pv 2) pe_int (nomark _))))) pe_int (pe_op op_add pe_int (pe_call (ok__law_taken T) (hr.mono (by decide)) rfl T.g__law_taken T.F__law_taken.kp T.b__law_taken .nil pass0 (pa_cons (pv 0) (pa_cons pe_int pa_nil))))))
      (Evl.pss_cut (ps_set (i := 4) sc__law_trick.nd rfl (Or.inl rfl) (pe_ix ix_list (pe_lst (pa_cons pe_int (pa_cons (pe_un un_neg pe_int) (pa_cons (pe_un un_neg pe_int) (pa_cons pe_int (pa_cons (pe_op op_sub (pe_call (ok__law_taken T) (hr.mono (by decide)) rfl T.g__law_taken T.F__law_taken.kp T.b__law_taken .nil pass0 (pa_cons (pv 0) (pa_cons pe_int pa_nil))) pe_int) (pa_cons (pe_op op_sub (pe_call (ok__law_taken T) (hr.mono (by decide)) rfl T.g__law_taken T.F__law_taken.kp T.b__law_taken .nil pass0 (pa_cons (pv 0) (pa_cons pe_int pa_nil))) pe_int) pa_nil))))))) (pe_call (ok__law_taken T) (hr.mono (by decide)) rfl T.g__law_taken T.F__law_taken.kp T.b__law_taken .nil pass0 (pa_cons (pv 0) (pa_cons pe_int pa_nil))) (fun _ _ => rfl)))
      (Evl.pss_cut (ps_if (pt_cmpR op_eq (pe_call (ok__law_taken T) (hr.mono (by decide)) rfl T.g__law_taken T.F__law_taken.kp T.b__law_taken .nil pass0 (pa_cons (pv 0) (pa_cons pe_int pa_nil))) pe_int (nomark _)) (pss_cons (ps_set (i := 5) sc__law_trick.nd rfl (Or.inr rfl) (pe_op op_add pe_int (pe_call (ok__law_taken T) (hr.mono (by decide)) rfl T.g__law_taken T.F__law_taken.kp T.b__law_taken .nil pass0 (pa_cons (pv 0) (pa_cons pe_int pa_nil)))))
      (pss_cons (ps_setLc (i := 6) (own := [("_law_one", 7)]) (g := gName 7) rfl sc__law_trick.nd rfl rfl (sw_true rfl rfl rfl (by decide +kernel)) (pi_range1 (by rfl) T.n_range (pa_cons (pv 5) pa_nil)) (blkOk_by (own := [("_law_one", 7)]) (N := ["_law_row", "_law_small", "_law_base", "_law_take", "_law_times", "_law_d", "_law_some", "_law_one"]) (sc := defScope s__law_trick) (by decide +kernel)) (fun _ _ _ _ _ => pg_name (i := 7) sc__law_trick.nd rfl (Or.inl rfl)) (fun _ _ _ _ _ => pts_one (pt_cmpR op_eq (pe_op op_modN (pe_op op_mul (pv 7) (pe_call (ok__law_power T) (hr.mono (by decide)) rfl T.g__law_power T.F__law_power.kp T.b__law_power .nil pass0 (pa_cons (pv 2) (pa_cons (pv 3) pa_nil)))) (pv 5)) pe_int (nomark _))) (fun _ _ _ _ _ => (pv 7)))
      (pss_one (ps_set (i := 4) sc__law_trick.nd rfl (Or.inl rfl) (pe_ifExp (pt_cmpR (op_neD hr.units) (pv 6) (pe_lst pa_nil) (nomark _)) (pe_op op_sub (pe_ix ix_list (pv 6) pe_int (fun _ _ => rfl)) (pe_op op_mul (pv 5) (pe_call (ok__law_taken T) (hr.mono (by decide)) rfl T.g__law_taken T.F__law_taken.kp T.b__law_taken .nil pass0 (pa_cons (pv 0) (pa_cons pe_int pa_nil))))) (pv 4)))))) pss_nil)
      (pss_one (ps_ret (pe_lst (pa_cons (pv 2) (pa_cons (pv 3) (pa_cons (pv 4) pa_nil)))))))))), ?_⟩
    -- the base
    refine ⟨fun σ H1 => ∃ b : Int, 2 ≤ b ∧ b ≤ 16 ∧ RowAt K H1 r a ns ∧ But r H H1 ∧ σ = [some (.ref r), some (.bl sm), some (.int b), none, none, none, none, none], ?_, ?_⟩
    · refine ⟨_, rfl, r, a, ns, _, rfl, by decide, by decide, R0, fun v H1 v0 v1 R1 B1 => ?_⟩
      refine ⟨_, _, rfl, rfl, by show 7 ≤ sizeLine; decide, fun p hp => ?_⟩
      refine ⟨_, rfl, menu (items := [10, 2, 3, 7, 8, 16, 2 + v]) (fun z => 2 ≤ z ∧ z ≤ 16) (by simp; omega) rfl R1 hp (fun z H2 hz R2 B2 _ => ?_) (by show (0 : Int) < 7; decide) (by show (7 : Int) ≤ 10 ^ 41; decide)⟩
      exact ⟨z, hz.1, hz.2, R2, B1.trans B2, rfl⟩
    rintro σ H1 ⟨b, b1, b2, R1, B1, rfl⟩
    -- the figures
    refine ⟨fun σ H2 => ∃ t : Int, 1 ≤ t ∧ t ≤ 2 ∧ (sm = true → b ≤ 5 ∨ t = 1) ∧ RowAt K H2 r a ns ∧ But r H H2 ∧ σ = [some (.ref r), some (.bl sm), some (.int b), some (.int t), none, none, none, none], ?_, ?_⟩
    · refine ⟨_, rfl, _, rfl, ?_⟩
      refine ite2 (fun g => ?_) (fun g => ?_)
      · refine ⟨_, rfl, _, _, rfl, rfl, _, rfl, ?_⟩
        refine ite2 (fun g2 => ?_) (fun g2 => ?_)
        · exact ⟨1, by decide, by decide, fun _ => .inr rfl, R1, B1, rfl⟩
        · refine ⟨_, rfl, r, a, ns, _, rfl, by decide, by decide, R1, fun v H2 v0 v1 R2 B2 => ?_⟩
          refine ⟨_, _, rfl, rfl, 1 + v, by omega, by omega, fun _ => .inl ?_, R2, B1.trans B2, rfl⟩
          simpa using g2
      · refine iteF ?_
        refine ⟨_, rfl, r, a, ns, _, rfl, by decide, by decide, R1, fun v H2 v0 v1 R2 B2 => ?_⟩
        exact ⟨_, _, rfl, rfl, 1 + v, by omega, by omega, fun z => absurd z g, R2, B1.trans B2, rfl⟩
    clear R1 B1
    rintro σ H1 ⟨t, t1, t2, hst, R1, B1, rfl⟩
    -- the multiplier
    refine ⟨fun σ H2 => ∃ m : Int, -100 ≤ m ∧ m ≤ 100 ∧ RowAt K H2 r a ns ∧ But r H H2 ∧ σ = [some (.ref r), some (.bl sm), some (.int b), some (.int t), some (.int m), none, none, none], ?_, ?_⟩
    · refine ⟨_, rfl, _, rfl, _, rfl, r, a, ns, _, rfl, by decide, by decide, R1, fun v H2 v0 v1 R2 B2 => ?_⟩
      refine ⟨_, _, rfl, rfl, _, rfl, r, a, ns, _, rfl, by decide, by decide, R2, fun v' H3 v0' v1' R3 B3 => ?_⟩
      refine ⟨_, _, rfl, rfl, by show 6 ≤ sizeLine; decide, fun p hp => ?_⟩
      refine ⟨_, rfl, menu (items := [1, -1, -2, 0, v - 10, v' - 100]) (fun z => -100 ≤ z ∧ z ≤ 100) (by simp; omega) rfl R3 hp (fun z H4 hz R4 B4 _ => ?_) (by show (0 : Int) < 6; decide) (by show (6 : Int) ≤ 10 ^ 41; decide)⟩
      exact ⟨z, hz.1, hz.2, R4, B1.trans (B2.trans (B3.trans B4)), rfl⟩
    clear R1 B1
    rintro σ H1 ⟨m, m1, m2, R1, B1, rfl⟩
    -- a multiplier that tells multiples
    refine ⟨fun σ H2 => ∃ (m : Int) (x y z : Option V), -100 ≤ m ∧ m ≤ 100 ∧ RowAt K H2 r a ns ∧ But r H H2 ∧ σ = [some (.ref r), some (.bl sm), some (.int b), some (.int t), some (.int m), x, y, z], ?_, ?_⟩
    · refine ⟨_, rfl, r, a, ns, _, rfl, by decide, by decide, R1, fun v H2 v0 v1 R2 B2 => ?_⟩
      refine ⟨rfl, _, rfl, ?_⟩
      refine ite2 (fun g => ?_) (fun g => ?_)
      · refine ⟨_, rfl, r, a, ns, _, rfl, by decide, by decide, R2, fun d' H3 d0 d1 R3 B3 => ?_⟩
        refine ⟨_, _, rfl, rfl, ?_⟩
        dsimp only
        generalize hd : 2 + d' = d
        refine ⟨_, rfl, d, rfl, by omega, by omega, fun D hD => ?_⟩
        have hDr := R3.ne hD
        refine lc_range (lo := 0) (n := d.toNat) (fun i H4 => ∃ acc : List Int, (∀ z ∈ acc, 0 ≤ z ∧ z < d) ∧ acc.length ≤ i ∧ H4 = upd H3 D (.lst (acc.map V.int))) ⟨[], by simp, Nat.le_refl _, rfl⟩ ?_ ?_
        · rintro i H4 hi ⟨acc, hacc, hlen, rfl⟩
          refine ⟨rfl, ?_⟩
          refine ⟨_, rfl, _, rfl, _, rfl, b, t, rfl, by omega, by omega, by omega, by omega, ?_⟩
          refine ⟨_, _, rfl, rfl, .inl ⟨by omega, by omega⟩, _, rfl, _, _, rfl, rfl, (show d ≠ 0 by omega), rfl, _, rfl, ?_⟩
          refine ite2 (fun g2 => ?_) (fun g2 => ?_)
          · refine ⟨_, rfl, _, upd_same, by rw [List.length_map]; exact small1000 (by omega), acc ++ [(0 : Int) + (i : Int)], ?_, by simp; omega, by rw [upd_upd, List.map_append]; rfl⟩
            intro z hz
            rcases List.mem_append.mp hz with hz | hz
            · exact hacc z hz
            · have ez : z = 0 + (i : Int) := by simpa using hz
              omega
          · exact ⟨acc, hacc, by omega, rfl⟩
        · rintro H4 ⟨acc, hacc, hlen, rfl⟩
          have R4 := R3.new (o := .lst (acc.map V.int)) hD
          have B4 := (B2.trans B3).new (o := .lst (acc.map V.int)) hD
          have eD : upd H3 D (.lst (acc.map V.int)) D = some (.lst (acc.map V.int)) := upd_same
          generalize upd H3 D (.lst (acc.map V.int)) = H4 at R4 B4 eD ⊢
          refine ⟨_, rfl, by show 0 ≤ sizeLine; decide, fun p hp => ?_⟩
          have npD : D ≠ p := ne_of_none eD hp
          refine ⟨_, _, dp_ints (SqL.of (by rw [upd_ne npD]; exact eD)), dp_ints (ns := []) (SqL.of upd_same), shaped_lints _, shaped_lints _, ?_⟩
          rw [eqv_ints]
          refine ⟨_, rfl, ?_⟩
          refine ite2 (fun g2 => ?_) (fun g2 => ?_)
          · have hne : acc ≠ [] := by simpa using g2
            obtain ⟨z, acc', rfl⟩ : ∃ z acc', acc = z :: acc' := by
              cases acc with
              | nil => exact absurd rfl hne
              | cons z acc' => exact ⟨z, acc', rfl⟩
            obtain ⟨z0, z1⟩ := hacc z List.mem_cons_self
            refine ⟨_, rfl, D, _, _, _, rfl, rfl, SqL.of (by rw [upd_ne npD]; exact eD), at_of (j := 0) rfl rfl, _, rfl, _, rfl, r, a, ns, _, rfl, by decide, by decide, R4.new hp, fun v3 H5 v30 v31 R5 B5 => ?_⟩
            refine ⟨_, _, rfl, rfl, .inl ⟨by omega, by omega⟩, _, _, rfl, rfl, ?_⟩
            refine ⟨z - d * v3, _, _, _, ?_, ?_, R5, (B1.trans (B4.new hp)).trans B5, rfl⟩
            · have q : d * v3 ≤ d * 1 := Int.mul_le_mul_of_nonneg_left (by omega) (by omega)
              omega
            · have q : 0 ≤ d * v3 := Int.mul_nonneg (by omega) v30
              omega
          · exact ⟨_, rfl, m, _, _, _, m1, m2, R4.new hp, B1.trans (B4.new hp), rfl⟩
      · exact ⟨m, none, none, none, m1, m2, R2, B1.trans B2, rfl⟩
    clear R1 B1 m1 m2
    rintro σ H1 ⟨m, x, y, z, m1, m2, R1, B1, rfl⟩
    refine ⟨_, rfl, _, rfl, _, rfl, by show 3 ≤ sizeLine; decide, fun q hq => ?_⟩
    exact k b t m q _ b1 b2 t1 t2 hst m1 m2 (R1.new hq) (B1.new hq) (B1.free (R1.ne hq) hq) upd_same (R1.ne hq)

/-! ### how its parts are refused -/
def strV (o : Option Str) : V := match o with | none => .non | some x => .str x
def spRefused (T : Tx K mg) : Sp := fun vs H Q _ => ∃ x y z : V, vs = [x, y, z] ∧ AnyV (OwnT T) H x ∧ AnyV (OwnT T) H y ∧ AnyV (OwnT T) H z ∧
  (intIn x 2 16 = false → ∀ H', Same H H' → Q (.str "base") H') ∧ (intIn x 2 16 = true → intIn y 1 2 = false → ∀ H', Same H H' → Q (.str "take") H') ∧
  (intIn x 2 16 = true → intIn y 1 2 = true → intIn z (-100) 100 = false → ∀ H', Same H H' → Q (.str "times") H') ∧ (intIn z (-100) 100 = true → False)
theorem ok__law_refused (T : Tx K mg) : FnOk P w K mg base CX0 lv__law_refused T.a__law_refused T.d__law_refused ["_law_base", "_law_take", "_law_times"] (spRefused T) := by
  refine T.F__law_refused.ok sc__law_refused (fun vs H Q E h => ?_) (fun cdv A outer s H vs Q E hr h => ?_)
  · obtain ⟨x, y, z, rfl, _⟩ := h
    rfl
  · obtain ⟨x, y, z, rfl, ax, ay, az, k1, k2, k3, k4⟩ := h
    refine ⟨_, (pss_cons (ps_set (i := 3) sc__law_refused.nd rfl (Or.inl rfl) pe_non)
      (pss_cons (ps_try_x (tb := fun W => (tDrop (tMake T.C_Trick (sp_Trick___init__ T) [] (fun cls d H => ∀ σ : L2.St, σ.length = 4 → W cls d σ H) (tCons (tVar 0) (tCons (tVar 1) (tCons (tVar 2) tNil)))))) rfl rfl sc__law_refused.nd takes0 (fun W pn xe tk _ => (pss_one (ps_expr (pe_make T.mk_Trick (ok_Trick___init__ T) (hr.mono (by decide)) rfl T.g_Trick T.b_Trick___init__ .nil (passN tk) (pa_cons (pv 0) (pa_cons (pv 1) (pa_cons (pv 2) pa_nil))))))) (HdsX.un ⟨rfl, by decide, Or.inl T.g_BadBase⟩ (fun a oe cls d pn hz hf => (pss_one (ps_set (i := 3) sc__law_refused.nd rfl (Or.inl rfl) pe_str))) (HdsX.un ⟨rfl, by decide, Or.inl T.g_BadTake⟩ (fun a oe cls d pn hz hf => (pss_one (ps_set (i := 3) sc__law_refused.nd rfl (Or.inl rfl) pe_str))) (HdsX.un ⟨rfl, by decide, Or.inl T.g_BadTimes⟩ (fun a oe cls d pn hz hf => (pss_one (ps_set (i := 3) sc__law_refused.nd rfl (Or.inl rfl) pe_str))) HdsX.nil))))
      (pss_one (ps_ret (pv 3))))), ?_⟩
    refine ⟨_, rfl, _, rfl, _, rfl, fun p dx np nd nx => ?_⟩
    have S2 : Same H (upd (upd H dx (.own p)) p (.ins T.C_Trick dx [])) := fun b o e => by
      rw [upd_ne (ne_of_none e np), upd_ne (ne_of_none e nd)]
      exact e
    have A2 : ∀ {v : V}, AnyV (OwnT T) H v → AnyV (OwnT T) (upd (upd H dx (.own p)) p (.ins T.C_Trick dx [])) v := fun a => a.mono S2
    have slots : ∀ {σ : L2.St}, σ.length = 4 → ∃ a b c d, σ = [a, b, c, d] := fun {σ} h => match σ, h with
      | [a, b, c, d], _ => ⟨a, b, c, d, rfl⟩
    refine ⟨p, dx, x, y, z, rfl, upd_same, A2 ax, A2 ay, A2 az, fun g1 σ hσ => ?_, fun g1 g2 σ hσ => ?_, fun g1 g2 g3 σ hσ => ?_, fun b t m e1 e2 e3 _ _ _ _ m1 m2 => ?_⟩
    · obtain ⟨v1, v2, v3, v4, rfl⟩ := slots hσ
      exact ⟨_, T.xm_BadBase_BadBase, fun _ a na => ⟨_, rfl, k1 g1 _ S2⟩, fun z => nomatch z⟩
    · obtain ⟨v1, v2, v3, v4, rfl⟩ := slots hσ
      exact ⟨_, T.xm_BadTake_BadBase, fun z => (nomatch z), fun _ => ⟨_, T.xm_BadTake_BadTake, fun _ a na => ⟨_, rfl, k2 g1 g2 _ S2⟩, fun z => nomatch z⟩⟩
    · obtain ⟨v1, v2, v3, v4, rfl⟩ := slots hσ
      exact ⟨_, T.xm_BadTimes_BadBase, fun z => (nomatch z), fun _ => ⟨_, T.xm_BadTimes_BadTake, fun z => (nomatch z), fun _ => ⟨_, T.xm_BadTimes_BadTimes, fun _ a na => ⟨_, rfl, k3 g1 g2 g3 _ S2⟩, fun z => nomatch z⟩⟩⟩
    · rw [e3] at k4
      exact (k4 (intIn_of m1 m2)).elim
def sp_law (K : PySem.W.Frag) : Sp := fun vs H Q _ => ∃ (a : Addr) (ns : List Int), vs = [.ref a] ∧ Scr K H a (ns.map V.int) ∧ ns.length ≤ 63 ∧ ∀ H', Q (.bl true) H'
theorem ok_law (T : Tx K mg) : FnOk P w K mg base CX0 lv_law T.a_law T.d_law ["_law_script"] (sp_law K) := by
  refine T.F_law.ok sc_law (fun vs H Q E h => ?_) (fun cdv A outer s H vs Q E hr h => ?_)
  · obtain ⟨a, ns, rfl, _⟩ := h
    rfl
  · obtain ⟨a, ns, rfl, hS, hlen, k⟩ := h
    refine ⟨_, (Evl.pss_cut (ps_set (i := 1) sc_law.nd rfl (Or.inl rfl) (pe_lst (pa_cons (pv 0) (pa_cons pe_int (pa_cons pe_int (pa_cons pe_int pa_nil))))))
      (pss_cons (ps_for PassesOwn.never rfl (pi_range1 (by rfl) T.n_range (pa_cons pe_int pa_nil)) (pg_name (i := 2) sc_law.nd rfl (Or.inl rfl)) (Evl.pss_cut (ps_asg (pe_call (ok__law_trick T) (hr.mono (by decide)) rfl T.g__law_trick T.F__law_trick.kp T.b__law_trick .nil pass0 (pa_cons (pv 1) (pa_cons pe_bl pa_nil))) (pg_unl rfl (pgs_cons (pg_name (i := 3) sc_law.nd rfl (Or.inl rfl)) (pgs_cons (pg_name (i := 4) sc_law.nd rfl (Or.inl rfl)) (pgs_cons (pg_name (i := 5) sc_law.nd rfl (Or.inl rfl)) pgs_nil)))))
      (Evl.pss_cut (ps_set (i := 6) sc_law.nd rfl (Or.inl rfl) (pe_make T.mk_Trick (ok_Trick___init__ T) (hr.mono (by decide)) rfl T.g_Trick T.b_Trick___init__ .nil passL (pa_cons (pv 3) (pa_cons (pv 4) (pa_cons (pv 5) pa_nil)))))
      (Evl.pss_cut (ps_if (PW.pt (pw_or (pt_cmpR op_ne (pe_prop (pv 6) T.cl_Trick T.p_Trick_base (ok_Trick_base T) (hr.mono (by decide)) T.b_Trick_base .nil pass0 rfl) (pv 3) (nomark _)) (pw_or (pt_cmpR op_ne (pe_prop (pv 6) T.cl_Trick T.p_Trick_take (ok_Trick_take T) (hr.mono (by decide)) T.b_Trick_take .nil pass0 rfl) (pv 4) (nomark _)) (pw_or (pt_cmpR op_ne (pe_prop (pv 6) T.cl_Trick T.p_Trick_times (ok_Trick_times T) (hr.mono (by decide)) T.b_Trick_times .nil pass0 rfl) (pv 5) (nomark _)) (pw_or1 (pt_cmpR (op_own (ok_Trick___eq__ T) (hr.mono (by decide)) T.m_Trick___eq__.at_ T.m_Trick___eq__.fn T.b_Trick___eq__ pass0) (pv 6) (pe_tup (pa_cons (pv 3) (pa_cons (pv 4) (pa_cons (pv 5) pa_nil)))) (nomark _))))))) (pss_one (ps_ret pe_bl)) pss_nil)
      (Evl.pss_cut (ps_if (PW.pt (pw_or (pt_not (pt_cmpR (op_own (ok_Trick___eq__ T) (hr.mono (by decide)) T.m_Trick___eq__.at_ T.m_Trick___eq__.fn T.b_Trick___eq__ pass0) (pv 6) (pe_make T.mk_Trick (ok_Trick___init__ T) (hr.mono (by decide)) rfl T.g_Trick T.b_Trick___init__ .nil passL (pa_cons (pv 3) (pa_cons (pv 4) (pa_cons (pv 5) pa_nil)))) (nomark _))) (pw_or1 (pt_cmpR (op_own (ok_Trick___eq__ T) (hr.mono (by decide)) T.m_Trick___eq__.at_ T.m_Trick___eq__.fn T.b_Trick___eq__ pass0) (pv 6) (pe_make T.mk_Trick (ok_Trick___init__ T) (hr.mono (by decide)) rfl T.g_Trick T.b_Trick___init__ .nil passL (pa_cons (pe_op op_add (pe_op op_modN (pv 3) pe_int) pe_int) (pa_cons (pv 4) (pa_cons (pv 5) pa_nil)))) (nomark _))))) (pss_one (ps_ret pe_bl)) pss_nil)
      (Evl.pss_cut (ps_if (PW.pt (pw_or (pt_cmpR (op_own (ok_Trick___eq__ T) (hr.mono (by decide)) T.m_Trick___eq__.at_ T.m_Trick___eq__.fn T.b_Trick___eq__ pass0) (pv 6) (pe_make T.mk_Trick (ok_Trick___init__ T) (hr.mono (by decide)) rfl T.g_Trick T.b_Trick___init__ .nil passL (pa_cons (pv 3) (pa_cons (pe_op op_sub pe_int (pv 4)) (pa_cons (pv 5) pa_nil)))) (nomark _)) (pw_or1 (pt_cmpR (op_own (ok_Trick___eq__ T) (hr.mono (by decide)) T.m_Trick___eq__.at_ T.m_Trick___eq__.fn T.b_Trick___eq__ pass0) (pv 6) (pe_make T.mk_Trick (ok_Trick___init__ T) (hr.mono (by decide)) rfl T.g_Trick T.b_Trick___init__ .nil passL (pa_cons (pv 3) (pa_cons (pv 4) (pa_cons (pe_ifExp (pt_cmpR op_gt (pv 5) (pe_un un_neg pe_int) (nomark _)) (pe_op op_sub (pv 5) pe_int) pe_int) pa_nil)))) (nomark _))))) (pss_one (ps_ret pe_bl)) pss_nil)
      (Evl.pss_cut (ps_set (i := 7) sc_law.nd rfl (Or.inl rfl) (pe_ix ix_list (pe_lst (pa_cons pe_non (pa_cons pe_int (pa_cons pe_int (pa_cons pe_bl (pa_cons pe_str pa_nil)))))) (pe_call (ok__law_taken T) (hr.mono (by decide)) rfl T.g__law_taken T.F__law_taken.kp T.b__law_taken .nil pass0 (pa_cons (pv 1) (pa_cons pe_int pa_nil))) (fun _ _ => rfl)))
      (Evl.pss_cut (ps_set (i := 8) sc_law.nd rfl (Or.inl rfl) (pe_ix ix_list (pe_lst (pa_cons pe_non (pa_cons pe_int (pa_cons pe_int (pa_cons pe_bl (pa_cons pe_str pa_nil)))))) (pe_call (ok__law_taken T) (hr.mono (by decide)) rfl T.g__law_taken T.F__law_taken.kp T.b__law_taken .nil pass0 (pa_cons (pv 1) (pa_cons pe_int pa_nil))) (fun _ _ => rfl)))
      (Evl.pss_cut (ps_set (i := 9) sc_law.nd rfl (Or.inl rfl) (pe_ix ix_list (pe_lst (pa_cons pe_non (pa_cons pe_int (pa_cons (pe_un un_neg pe_int) (pa_cons pe_bl (pa_cons pe_str pa_nil)))))) (pe_call (ok__law_taken T) (hr.mono (by decide)) rfl T.g__law_taken T.F__law_taken.kp T.b__law_taken .nil pass0 (pa_cons (pv 1) (pa_cons pe_int pa_nil))) (fun _ _ => rfl)))
      (Evl.pss_cut (ps_if (PW.pt (pw_or (pt_cmpR op_ne (pe_call (ok__law_refused T) (hr.mono (by decide)) rfl T.g__law_refused T.F__law_refused.kp T.b__law_refused .nil pass0 (pa_cons (pv 7) (pa_cons (pv 8) (pa_cons (pv 9) pa_nil)))) pe_str (nomark _)) (pw_or1 (pt_cmpR op_ne (pe_call (ok__law_refused T) (hr.mono (by decide)) rfl T.g__law_refused T.F__law_refused.kp T.b__law_refused .nil pass0 (pa_cons (pv 3) (pa_cons (pv 8) (pa_cons (pv 9) pa_nil)))) pe_str (nomark _))))) (pss_one (ps_ret pe_bl)) pss_nil)
      (pss_one (ps_if (pt_cmpR op_ne (pe_call (ok__law_refused T) (hr.mono (by decide)) rfl T.g__law_refused T.F__law_refused.kp T.b__law_refused .nil pass0 (pa_cons (pv 3) (pa_cons (pv 4) (pa_cons (pv 9) pa_nil)))) pe_str (nomark _)) (pss_one (ps_ret pe_bl)) pss_nil))))))))))))
      (pss_one (ps_ret pe_bl)))), ?_⟩
    refine ⟨fun σ H1 => ∃ r, RowAt K H1 r a ns ∧ σ = [some (.ref a), some (.ref r), none, none, none, none, none, none, none, none], ?_, ?_⟩
    · exact ⟨_, rfl, by show 4 ≤ sizeLine; decide, fun r hr0 => ⟨r, RowAt.start hr0 hS hlen (by decide) (by decide), rfl⟩⟩
    clear hS
    rintro σ H1 ⟨r, R1, rfl⟩
    refine ⟨6, rfl, by decide, by decide, ?_⟩
    refine for_range (lo := 0) (n := 6) (fun i σ H2 => ∃ x2 x3 x4 x5 x6 x7 x8 x9 : Option V, RowAt K H2 r a ns ∧ σ = [some (.ref a), some (.ref r), x2, x3, x4, x5, x6, x7, x8, x9]) ⟨none, none, none, none, none, none, none, none, R1, rfl⟩ ?_ ?_
    · rintro i σ H2 hi ⟨x2, x3, x4, x5, x6, x7, x8, x9, R2, rfl⟩
      refine ⟨fun σ H3 => ∃ b t m : Int, 2 ≤ b ∧ b ≤ 16 ∧ 1 ≤ t ∧ t ≤ 2 ∧ -100 ≤ m ∧ m ≤ 100 ∧ RowAt K H3 r a ns ∧ σ = [some (.ref a), some (.ref r), some (.int (0 + i)), some (.int b), some (.int t), some (.int m), x6, x7, x8, x9], ?_, ?_⟩
      · refine ⟨_, rfl, r, a, ns, _, rfl, R2, fun b t m q H3 b1 b2 t1 t2 hst m1 m2 R3 B3 hq0 hq nq => ?_⟩
        exact ⟨q, _, rfl, SqL.of hq, rfl, _, _, rfl, _, _, rfl, _, _, rfl, rfl, b, t, m, b1, b2, t1, t2, m1, m2, R3, rfl⟩
      clear R2
      rintro σ H2 ⟨b, t, m, b1, b2, t1, t2, m1, m2, R2, rfl⟩
      generalize some (V.int (0 + (i : Int))) = x2
      refine ⟨fun σ H3 => ∃ p, TrickAt T H3 p b t m ∧ RowAt K H3 r a ns ∧ p ≠ r ∧ σ = [some (.ref a), some (.ref r), x2, some (.int b), some (.int t), some (.int m), some (.ref p), x7, x8, x9], ?_, ?_⟩
      · refine ⟨_, rfl, _, rfl, _, rfl, fun p dx np nd nx => mk_trick np nd b1 b2 t1 t2 m1 m2 fun H3 hT S => ?_⟩
        exact ⟨p, hT, R2.same S, R2.ne np, rfl⟩
      clear R2
      rintro σ H2 ⟨p, hT, R2, npr, rfl⟩
      -- its parts; no other thing is equal to it
      refine ⟨fun σ H3 => TrickAt T H3 p b t m ∧ RowAt K H3 r a ns ∧ σ = [some (.ref a), some (.ref r), x2, some (.int b), some (.int t), some (.int m), some (.ref p), x7, x8, x9], ?_, ?_⟩
      · obtain ⟨⟨dx, e⟩, _⟩ := id hT
        refine ⟨_, rfl, p, dx, _, rfl, e, p, b, t, m, rfl, hT, _, rfl, rfl, _, rfl, ?_⟩
        rw [decide_eq_true rfl]
        refine iteF ⟨_, rfl, p, dx, _, rfl, e, p, b, t, m, rfl, hT, _, rfl, rfl, _, rfl, ?_⟩
        rw [decide_eq_true rfl]
        refine iteF ⟨_, rfl, p, dx, _, rfl, e, p, b, t, m, rfl, hT, _, rfl, rfl, _, rfl, ?_⟩
        rw [decide_eq_true rfl]
        refine iteF ⟨_, rfl, _, rfl, _, rfl, _, rfl, by show 3 ≤ sizeLine; decide, fun z hz => ?_⟩
        have S := same_upd (o := .tup [.int b, .int t, .int m]) hz
        refine ⟨p, dx, _, rfl, S _ _ e, .inr ⟨z, _, rfl, upd_same, T.nf_Trick_tuple⟩, p, .ref z, b, t, m, rfl, hT.same S, .inr ⟨.tup upd_same, ⟨_, rfl⟩, _, rfl, ?_⟩⟩
        exact iteF ⟨hT.same S, R2.same S, rfl⟩
      clear R2 hT
      rintro σ H2 ⟨hT, R2, rfl⟩
      -- equal to one of the same parts, to no other
      have cmp : ∀ {H1 : Hp} {b' t' m' : Int} {Q : VK}, TrickAt T H1 p b t m → 2 ≤ b' → b' ≤ 16 → 1 ≤ t' → t' ≤ 2 → -100 ≤ m' → m' ≤ 100 → (∀ H2, Same H1 H2 → TrickAt T H2 p b t m → Q (.bl (eqB b t m b' t' m')) H2) →
          ∀ q dy, H1 q = none → H1 dy = none → dy ≠ q → sp_Trick___init__ T (.ref q :: ([.int b', .int t', .int m'] ++ [])) (upd (upd H1 dy (.own q)) q (.ins T.C_Trick dy [])) (fun v H2 => v = .non ∧ rOwn K T.C_Trick (spEqT T) E0 (.ref p) (.ref q) H2 Q) E0 := by
        intro H1 b' t' m' Q h g1 g2 g3 g4 g5 g6 k q dy nq nd _
        refine mk_trick nq nd g1 g2 g3 g4 g5 g6 fun H2 hq S => ?_
        have h2 := h.same S
        obtain ⟨⟨dx, e⟩, _⟩ := id h2
        obtain ⟨⟨dz, ez⟩, _⟩ := id hq
        exact ⟨p, dx, _, rfl, e, .inl ⟨q, dz, _, rfl, ez⟩, p, .ref q, b, t, m, rfl, h2, .inl ⟨q, b', t', m', rfl, hq, ⟨_, rfl⟩, k H2 S h2⟩⟩
      have same1 : eqB b t m b t m = true := by simp [eqB]
      have mb := fmod_bd b (m := 15) (by decide)
      refine ⟨fun σ H3 => TrickAt T H3 p b t m ∧ RowAt K H3 r a ns ∧ σ = [some (.ref a), some (.ref r), x2, some (.int b), some (.int t), some (.int m), some (.ref p), x7, x8, x9], ?_, ?_⟩
      · refine ⟨_, rfl, _, rfl, _, rfl, _, rfl, cmp hT b1 b2 t1 t2 m1 m2 fun H3 S3 hT3 => ⟨_, rfl, ?_⟩⟩
        rw [same1]
        refine iteF ⟨_, rfl, _, rfl, _, _, rfl, rfl, (show (15 : Int) ≠ 0 by decide), _, _, rfl, rfl, _, rfl, _, rfl, cmp hT3 (by show 2 ≤ b.fmod 15 + 2; omega) (by show b.fmod 15 + 2 ≤ 16; omega) t1 t2 m1 m2 fun H4 S4 hT4 => ⟨_, rfl, ?_⟩⟩
        have ne : eqB b t m (b.fmod 15 + 2) t m = false := by
          have : ¬ b = b.fmod 15 + 2 := by
            rw [Int.fmod_eq_emod_of_nonneg _ (by decide)]
            omega
          unfold eqB
          rw [decide_eq_false this]
          rfl
        rw [ne]
        exact iteF ⟨hT4, R2.same (S3.trans S4), rfl⟩
      clear R2 hT
      rintro σ H2 ⟨hT, R2, rfl⟩
      refine ⟨fun σ H3 => TrickAt T H3 p b t m ∧ RowAt K H3 r a ns ∧ σ = [some (.ref a), some (.ref r), x2, some (.int b), some (.int t), some (.int m), some (.ref p), x7, x8, x9], ?_, ?_⟩
      · refine ⟨_, rfl, _, rfl, _, rfl, _, _, rfl, rfl, _, rfl, cmp hT b1 b2 (by show 1 ≤ 3 - t; omega) (by show 3 - t ≤ 2; omega) m1 m2 fun H3 S3 hT3 => ⟨_, rfl, ?_⟩⟩
        have ne : eqB b t m b (3 - t) m = false := by
          have : ¬ t = 3 - t := by omega
          unfold eqB
          rw [decide_eq_false this]
          simp
        rw [ne]
        refine iteF ⟨_, rfl, _, rfl, _, rfl, _, rfl, _, rfl, _, _, rfl, rfl, _, rfl, ?_⟩
        refine ite2 (fun g => ?_) (fun g => ?_)
        · have g1 : -100 < m := of_decide_eq_true g
          refine ⟨_, rfl, _, _, rfl, rfl, cmp hT3 b1 b2 t1 t2 (by show -100 ≤ m - 1; omega) (by show m - 1 ≤ 100; omega) fun H4 S4 hT4 => ⟨_, rfl, ?_⟩⟩
          have ne : eqB b t m b t (m - 1) = false := by
            have : ¬ m = m - 1 := by omega
            unfold eqB
            rw [decide_eq_false this]
            simp
          rw [ne]
          exact iteF ⟨hT4, R2.same (S3.trans S4), rfl⟩
        · have g1 : ¬ -100 < m := fun z => g (decide_eq_true z)
          refine cmp hT3 b1 b2 t1 t2 (by show (-100 : Int) ≤ 0; decide) (by show (0 : Int) ≤ 100; decide) fun H4 S4 hT4 => ⟨_, rfl, ?_⟩
          have ne : eqB b t m b t 0 = false := by
            have : ¬ m = 0 := by omega
            unfold eqB
            rw [decide_eq_false this]
            simp
          rw [ne]
          exact iteF ⟨hT4, R2.same (S3.trans S4), rfl⟩
      clear R2 hT cmp
      rintro σ H2 ⟨hT, R2, rfl⟩
      -- spoilt parts
      refine ⟨fun σ H3 => ∃ x : V, (flatA x = true ∧ intIn x 2 16 = false) ∧ RowAt K H3 r a ns ∧ σ = [some (.ref a), some (.ref r), x2, some (.int b), some (.int t), some (.int m), some (.ref p), some x, x8, x9], ?_, ?_⟩
      · refine ⟨by show 5 ≤ sizeLine; decide, fun l hl => ⟨_, rfl, menuV (items := [.non, .int 1, .int 17, .bl true, .str "10"]) (fun x => flatA x = true ∧ intIn x 2 16 = false) (by simp [flatA, intIn]) rfl R2 hl (fun z H3 hz R3 B3 _ => ?_) (by show (0 : Int) < 5; decide) (by show (5 : Int) ≤ 10 ^ 41; decide)⟩⟩
        exact ⟨z, hz, R3, rfl⟩
      clear R2 hT
      rintro σ H2 ⟨x, hx, R2, rfl⟩
      refine ⟨fun σ H3 => ∃ y : V, (flatA y = true ∧ intIn y 1 2 = false) ∧ RowAt K H3 r a ns ∧ σ = [some (.ref a), some (.ref r), x2, some (.int b), some (.int t), some (.int m), some (.ref p), some x, some y, x9], ?_, ?_⟩
      · refine ⟨by show 5 ≤ sizeLine; decide, fun l hl => ⟨_, rfl, menuV (items := [.non, .int 0, .int 3, .bl true, .str "1"]) (fun x => flatA x = true ∧ intIn x 1 2 = false) (by simp [flatA, intIn]) rfl R2 hl (fun z H3 hz R3 B3 _ => ?_) (by show (0 : Int) < 5; decide) (by show (5 : Int) ≤ 10 ^ 41; decide)⟩⟩
        exact ⟨z, hz, R3, rfl⟩
      clear R2
      rintro σ H2 ⟨y, hy, R2, rfl⟩
      refine ⟨fun σ H3 => ∃ z : V, (flatA z = true ∧ intIn z (-100) 100 = false) ∧ RowAt K H3 r a ns ∧ σ = [some (.ref a), some (.ref r), x2, some (.int b), some (.int t), some (.int m), some (.ref p), some x, some y, some z], ?_, ?_⟩
      · refine ⟨_, rfl, by show 5 ≤ sizeLine; decide, fun l hl => ⟨_, rfl, menuV (items := [.non, .int 101, .int (-101), .bl true, .str "1"]) (fun x => flatA x = true ∧ intIn x (-100) 100 = false) (by simp [flatA, intIn]) rfl R2 hl (fun z H3 hz R3 B3 _ => ?_) (by show (0 : Int) < 5; decide) (by show (5 : Int) ≤ 10 ^ 41; decide)⟩⟩
        exact ⟨z, hz, R3, rfl⟩
      clear R2
      rintro σ H2 ⟨z, hz, R2, rfl⟩
      have nz : intIn z (-100) 100 = true → False := fun q => by rw [hz.2] at q; cases q
      have ib := intIn_of b1 b2
      have it := intIn_of t1 t2
      refine ⟨fun σ H3 => RowAt K H3 r a ns ∧ σ = [some (.ref a), some (.ref r), x2, some (.int b), some (.int t), some (.int m), some (.ref p), some x, some y, some z], ?_, ?_⟩
      · refine ⟨_, rfl, _, rfl, _, rfl, x, y, z, rfl, any_flat hx.1, any_flat hy.1, any_flat hz.1, fun _ H3 S3 => ⟨rfl, _, rfl, iteF ?_⟩, fun q => ?_, fun q => ?_, nz⟩
        · refine ⟨_, rfl, _, rfl, _, rfl, .int b, y, z, rfl, .int b, any_flat hy.1, any_flat hz.1, fun q => ?_, fun _ _ H4 S4 => ⟨rfl, _, rfl, iteF ⟨R2.same (S3.trans S4), rfl⟩⟩, fun _ q => ?_, nz⟩
          · rw [ib] at q; cases q
          · rw [hy.2] at q; cases q
        · rw [hx.2] at q; cases q
        · rw [hx.2] at q; cases q
      clear R2
      rintro σ H2 ⟨R2, rfl⟩
      refine ⟨_, rfl, _, rfl, _, rfl, .int b, .int t, z, rfl, .int b, .int t, any_flat hz.1, fun q => ?_, fun _ q => ?_, fun _ _ _ H4 S4 => ⟨rfl, _, rfl, iteF ⟨_, _, _, _, _, _, _, _, R2.same S4, rfl⟩⟩, nz⟩
      · rw [ib] at q; cases q
      · rw [it] at q; cases q
    · rintro σ H2 ⟨x2, x3, x4, x5, x6, x7, x8, x9, R2, rfl⟩
      exact k _

end
/-! ### the end -/
theorem all_mk {l : PySem.W.OpenLaw} {w : World} {K : PySem.W.Frag} {h : Heap} {mg : Str → Option Value} {fa : Addr} (X : K.In h) (G : h.Ns mainGlobals mg) (hfa : mg "law" = some (.ref fa))
    {C_TrickError : Addr}
    {C_BadBase : Addr}
    {C_BadTake : Addr}
    {C_BadTimes : Addr}
    {tk_LEAST_BASE : Tok}
    {tk_GREATEST_BASE : Tok}
    {tk_GREATEST_TAKE : Tok}
    {tk_GREATEST_TIMES : Tok}
    {a_is_integer : Addr} {od_is_integer an_is_integer : Option Addr} {sl_is_integer : Array (Option Value)} {oc_is_integer kV_is_integer dc_is_integer pm_is_integer cd_is_integer ct_is_integer : Value}
    {a_check_base : Addr} {od_check_base an_check_base : Option Addr} {sl_check_base : Array (Option Value)} {oc_check_base kV_check_base dc_check_base pm_check_base cd_check_base ct_check_base : Value}
    {a_check_take : Addr} {od_check_take an_check_take : Option Addr} {sl_check_take : Array (Option Value)} {oc_check_take kV_check_take dc_check_take pm_check_take cd_check_take ct_check_take : Value}
    {a__law_taken : Addr} {od__law_taken an__law_taken : Option Addr} {sl__law_taken : Array (Option Value)} {oc__law_taken kV__law_taken dc__law_taken pm__law_taken cd__law_taken ct__law_taken : Value}
    {a__law_power : Addr} {od__law_power an__law_power : Option Addr} {sl__law_power : Array (Option Value)} {oc__law_power kV__law_power dc__law_power pm__law_power cd__law_power ct__law_power : Value}
    {a__law_trick : Addr} {od__law_trick an__law_trick : Option Addr} {sl__law_trick : Array (Option Value)} {oc__law_trick kV__law_trick dc__law_trick pm__law_trick cd__law_trick ct__law_trick : Value}
    {a__law_refused : Addr} {od__law_refused an__law_refused : Option Addr} {sl__law_refused : Array (Option Value)} {oc__law_refused kV__law_refused dc__law_refused pm__law_refused cd__law_refused ct__law_refused : Value}
    {a_law : Addr} {od_law an_law : Option Addr} {sl_law : Array (Option Value)} {oc_law kV_law dc_law pm_law cd_law ct_law : Value}
    {C_Trick : Addr}
    {a_Trick___init__ : Addr} {od_Trick___init__ an_Trick___init__ : Option Addr} {sl_Trick___init__ : Array (Option Value)} {oc_Trick___init__ kV_Trick___init__ dc_Trick___init__ pm_Trick___init__ cd_Trick___init__ ct_Trick___init__ : Value}
    {pr_Trick_base : Addr} {rs_Trick_base : List Value}
    {a_Trick_base : Addr} {od_Trick_base an_Trick_base : Option Addr} {sl_Trick_base : Array (Option Value)} {oc_Trick_base kV_Trick_base dc_Trick_base pm_Trick_base cd_Trick_base ct_Trick_base : Value}
    {pr_Trick_take : Addr} {rs_Trick_take : List Value}
    {a_Trick_take : Addr} {od_Trick_take an_Trick_take : Option Addr} {sl_Trick_take : Array (Option Value)} {oc_Trick_take kV_Trick_take dc_Trick_take pm_Trick_take cd_Trick_take ct_Trick_take : Value}
    {pr_Trick_times : Addr} {rs_Trick_times : List Value}
    {a_Trick_times : Addr} {od_Trick_times an_Trick_times : Option Addr} {sl_Trick_times : Array (Option Value)} {oc_Trick_times kV_Trick_times dc_Trick_times pm_Trick_times cd_Trick_times ct_Trick_times : Value}
    {a_Trick___eq__ : Addr} {od_Trick___eq__ an_Trick___eq__ : Option Addr} {sl_Trick___eq__ : Array (Option Value)} {oc_Trick___eq__ kV_Trick___eq__ dc_Trick___eq__ pm_Trick___eq__ cd_Trick___eq__ ct_Trick___eq__ : Value}
    (gx_TrickError : PySem.W.nsIn K mainGlobals "TrickError" = some (some (.ref C_TrickError)))
    (x_TrickError : PySem.W.excIn K C_TrickError [.type "ValueError", .type "Exception", .type "BaseException", .type "object"] "ValueError.__new__" = true)
    (k_TrickError : PySem.W.keepIn K (.ref C_TrickError) = true)
    (s_TrickError : PySem.W.subIn K (.ref C_TrickError) (.type "BaseException") = some true)
    (t_TrickError : PySem.W.typeIn K (.ref C_TrickError) = some (.type "type"))
    (gx_BadBase : PySem.W.nsIn K mainGlobals "BadBase" = some (some (.ref C_BadBase)))
    (x_BadBase : PySem.W.excIn K C_BadBase [.type "ValueError", .type "Exception", .type "BaseException", .type "object"] "ValueError.__new__" = true)
    (k_BadBase : PySem.W.keepIn K (.ref C_BadBase) = true)
    (s_BadBase : PySem.W.subIn K (.ref C_BadBase) (.type "BaseException") = some true)
    (t_BadBase : PySem.W.typeIn K (.ref C_BadBase) = some (.type "type"))
    (hd_BadBase : PySem.W.hasDictIn K C_BadBase = true)
    (gx_BadTake : PySem.W.nsIn K mainGlobals "BadTake" = some (some (.ref C_BadTake)))
    (x_BadTake : PySem.W.excIn K C_BadTake [.type "ValueError", .type "Exception", .type "BaseException", .type "object"] "ValueError.__new__" = true)
    (k_BadTake : PySem.W.keepIn K (.ref C_BadTake) = true)
    (s_BadTake : PySem.W.subIn K (.ref C_BadTake) (.type "BaseException") = some true)
    (t_BadTake : PySem.W.typeIn K (.ref C_BadTake) = some (.type "type"))
    (hd_BadTake : PySem.W.hasDictIn K C_BadTake = true)
    (gx_BadTimes : PySem.W.nsIn K mainGlobals "BadTimes" = some (some (.ref C_BadTimes)))
    (x_BadTimes : PySem.W.excIn K C_BadTimes [.type "ValueError", .type "Exception", .type "BaseException", .type "object"] "ValueError.__new__" = true)
    (k_BadTimes : PySem.W.keepIn K (.ref C_BadTimes) = true)
    (s_BadTimes : PySem.W.subIn K (.ref C_BadTimes) (.type "BaseException") = some true)
    (t_BadTimes : PySem.W.typeIn K (.ref C_BadTimes) = some (.type "type"))
    (hd_BadTimes : PySem.W.hasDictIn K C_BadTimes = true)
    (su_TrickError_BadBase : PySem.W.subIn K (.ref C_TrickError) (.ref C_BadBase) = some false)
    (su_TrickError_BadTake : PySem.W.subIn K (.ref C_TrickError) (.ref C_BadTake) = some false)
    (su_TrickError_BadTimes : PySem.W.subIn K (.ref C_TrickError) (.ref C_BadTimes) = some false)
    (su_BadBase_BadBase : PySem.W.subIn K (.ref C_BadBase) (.ref C_BadBase) = some true)
    (su_BadBase_BadTake : PySem.W.subIn K (.ref C_BadBase) (.ref C_BadTake) = some false)
    (su_BadBase_BadTimes : PySem.W.subIn K (.ref C_BadBase) (.ref C_BadTimes) = some false)
    (su_BadTake_BadBase : PySem.W.subIn K (.ref C_BadTake) (.ref C_BadBase) = some false)
    (su_BadTake_BadTake : PySem.W.subIn K (.ref C_BadTake) (.ref C_BadTake) = some true)
    (su_BadTake_BadTimes : PySem.W.subIn K (.ref C_BadTake) (.ref C_BadTimes) = some false)
    (su_BadTimes_BadBase : PySem.W.subIn K (.ref C_BadTimes) (.ref C_BadBase) = some false)
    (su_BadTimes_BadTake : PySem.W.subIn K (.ref C_BadTimes) (.ref C_BadTake) = some false)
    (su_BadTimes_BadTimes : PySem.W.subIn K (.ref C_BadTimes) (.ref C_BadTimes) = some true)
    (cx_LEAST_BASE : PySem.W.nsIn K mainGlobals "LEAST_BASE" = some (some (.int 2 tk_LEAST_BASE)))
    (cx_GREATEST_BASE : PySem.W.nsIn K mainGlobals "GREATEST_BASE" = some (some (.int 16 tk_GREATEST_BASE)))
    (cx_GREATEST_TAKE : PySem.W.nsIn K mainGlobals "GREATEST_TAKE" = some (some (.int 2 tk_GREATEST_TAKE)))
    (cx_GREATEST_TIMES : PySem.W.nsIn K mainGlobals "GREATEST_TIMES" = some (some (.int 100 tk_GREATEST_TIMES)))
    (gf_is_integer : PySem.W.nsIn K mainGlobals "is_integer" = some (some (.ref a_is_integer)))
    (l_is_integer : K.lookup a_is_integer = some ⟨oc_is_integer, od_is_integer, .func (PySem.W.fnOf "is_integer" "is_integer" (defArgs s_is_integer) (defBody s_is_integer) (defScope s_is_integer) .none kV_is_integer dc_is_integer pm_is_integer an_is_integer cd_is_integer ct_is_integer), sl_is_integer⟩)
    (c_is_integer : PySem.W.codeIn K cd_is_integer "is_integer" = true)
    (kp_is_integer : PySem.W.keepIn K (.ref a_is_integer) = true)
    (gf_check_base : PySem.W.nsIn K mainGlobals "check_base" = some (some (.ref a_check_base)))
    (l_check_base : K.lookup a_check_base = some ⟨oc_check_base, od_check_base, .func (PySem.W.fnOf "check_base" "check_base" (defArgs s_check_base) (defBody s_check_base) (defScope s_check_base) .none kV_check_base dc_check_base pm_check_base an_check_base cd_check_base ct_check_base), sl_check_base⟩)
    (c_check_base : PySem.W.codeIn K cd_check_base "check_base" = true)
    (kp_check_base : PySem.W.keepIn K (.ref a_check_base) = true)
    (gf_check_take : PySem.W.nsIn K mainGlobals "check_take" = some (some (.ref a_check_take)))
    (l_check_take : K.lookup a_check_take = some ⟨oc_check_take, od_check_take, .func (PySem.W.fnOf "check_take" "check_take" (defArgs s_check_take) (defBody s_check_take) (defScope s_check_take) .none kV_check_take dc_check_take pm_check_take an_check_take cd_check_take ct_check_take), sl_check_take⟩)
    (c_check_take : PySem.W.codeIn K cd_check_take "check_take" = true)
    (kp_check_take : PySem.W.keepIn K (.ref a_check_take) = true)
    (gf__law_taken : PySem.W.nsIn K mainGlobals "_law_taken" = some (some (.ref a__law_taken)))
    (l__law_taken : K.lookup a__law_taken = some ⟨oc__law_taken, od__law_taken, .func (PySem.W.fnOf "_law_taken" "_law_taken" (defArgs s__law_taken) (defBody s__law_taken) (defScope s__law_taken) .none kV__law_taken dc__law_taken pm__law_taken an__law_taken cd__law_taken ct__law_taken), sl__law_taken⟩)
    (c__law_taken : PySem.W.codeIn K cd__law_taken "_law_taken" = true)
    (kp__law_taken : PySem.W.keepIn K (.ref a__law_taken) = true)
    (gf__law_power : PySem.W.nsIn K mainGlobals "_law_power" = some (some (.ref a__law_power)))
    (l__law_power : K.lookup a__law_power = some ⟨oc__law_power, od__law_power, .func (PySem.W.fnOf "_law_power" "_law_power" (defArgs s__law_power) (defBody s__law_power) (defScope s__law_power) .none kV__law_power dc__law_power pm__law_power an__law_power cd__law_power ct__law_power), sl__law_power⟩)
    (c__law_power : PySem.W.codeIn K cd__law_power "_law_power" = true)
    (kp__law_power : PySem.W.keepIn K (.ref a__law_power) = true)
    (gf__law_trick : PySem.W.nsIn K mainGlobals "_law_trick" = some (some (.ref a__law_trick)))
    (l__law_trick : K.lookup a__law_trick = some ⟨oc__law_trick, od__law_trick, .func (PySem.W.fnOf "_law_trick" "_law_trick" (defArgs s__law_trick) (defBody s__law_trick) (defScope s__law_trick) .none kV__law_trick dc__law_trick pm__law_trick an__law_trick cd__law_trick ct__law_trick), sl__law_trick⟩)
    (c__law_trick : PySem.W.codeIn K cd__law_trick "_law_trick" = true)
    (kp__law_trick : PySem.W.keepIn K (.ref a__law_trick) = true)
    (gf__law_refused : PySem.W.nsIn K mainGlobals "_law_refused" = some (some (.ref a__law_refused)))
    (l__law_refused : K.lookup a__law_refused = some ⟨oc__law_refused, od__law_refused, .func (PySem.W.fnOf "_law_refused" "_law_refused" (defArgs s__law_refused) (defBody s__law_refused) (defScope s__law_refused) .none kV__law_refused dc__law_refused pm__law_refused an__law_refused cd__law_refused ct__law_refused), sl__law_refused⟩)
    (c__law_refused : PySem.W.codeIn K cd__law_refused "_law_refused" = true)
    (kp__law_refused : PySem.W.keepIn K (.ref a__law_refused) = true)
    (gf_law : PySem.W.nsIn K mainGlobals "law" = some (some (.ref a_law)))
    (l_law : K.lookup a_law = some ⟨oc_law, od_law, .func (PySem.W.fnOf "law" "law" (defArgs s_law) (defBody s_law) (defScope s_law) .none kV_law dc_law pm_law an_law cd_law ct_law), sl_law⟩)
    (c_law : PySem.W.codeIn K cd_law "law" = true)
    (kp_law : PySem.W.keepIn K (.ref a_law) = true)
    (gx_Trick : PySem.W.nsIn K mainGlobals "Trick" = some (some (.ref C_Trick)))
    (pg_Trick : PySem.W.plainGet K C_Trick Str.empty = true)
    (hd_Trick : PySem.W.hasDictIn K C_Trick = true)
    (po_Trick : PySem.W.plainOver K C_Trick = true)
    (sa_Trick : PySem.W.findIn K (.ref C_Trick) "__setattr__" = some (some (.builtin "object.__setattr__")))
    (mk_Trick : PySem.W.makesIn K C_Trick = true)
    (kc_Trick : PySem.W.keepIn K (.ref C_Trick) = true)
    (cc_Trick : PySem.W.findIn K (.ref C_Trick) "__class__" = some (some (.builtin "object.__class__")))
    (mo_Trick : PySem.W.mroIn K C_Trick (.type "object") = some true)
    (sp_cls : PySem.W.specialIn K (.builtin "object.__class__") "__get__" = some (some (.builtin "getset_descriptor.__get__")))
    (tk_cls : PySem.W.takesIn K (.builtin "object.__class__") = some true)
    (ki_Trick_int : PySem.W.kitOne K (.ref C_Trick) (.type "int") = some false)
    (ki_Trick_bool : PySem.W.kitOne K (.ref C_Trick) (.type "bool") = some false)
    (nf_Trick_tuple : PySem.W.subIn K (.type "tuple") (.ref C_Trick) = some false)
    (kis_Trick : PySem.W.kitOne K (.ref C_Trick) (.ref C_Trick) = some true)
    (kin_Trick_int : PySem.W.kitOne K (.type "int") (.ref C_Trick) = some false)
    (kin_Trick_bool : PySem.W.kitOne K (.type "bool") (.ref C_Trick) = some false)
    (kin_Trick_tuple : PySem.W.kitOne K (.type "tuple") (.ref C_Trick) = some false)
    (kin_Trick_list : PySem.W.kitOne K (.type "list") (.ref C_Trick) = some false)
    (kin_Trick_NoneType : PySem.W.kitOne K (.type "NoneType") (.ref C_Trick) = some false)
    (kin_Trick_str : PySem.W.kitOne K (.type "str") (.ref C_Trick) = some false)
    (kin_Trick_dict : PySem.W.kitOne K (.type "dict") (.ref C_Trick) = some false)
    (na_Trick_base : PySem.W.findIn K (.ref C_Trick) "_base" = some none)
    (na_Trick_take : PySem.W.findIn K (.ref C_Trick) "_take" = some none)
    (na_Trick_times : PySem.W.findIn K (.ref C_Trick) "_times" = some none)
    (gf_Trick___init__ : PySem.W.findIn K (.ref C_Trick) "__init__" = some (some (.ref a_Trick___init__)))
    (l_Trick___init__ : K.lookup a_Trick___init__ = some ⟨oc_Trick___init__, od_Trick___init__, .func (PySem.W.fnOf "__init__" "Trick.__init__" (defArgs s_Trick___init__) (defBody s_Trick___init__) (defScope s_Trick___init__) .none kV_Trick___init__ dc_Trick___init__ pm_Trick___init__ an_Trick___init__ cd_Trick___init__ ct_Trick___init__), sl_Trick___init__⟩)
    (c_Trick___init__ : PySem.W.codeIn K cd_Trick___init__ "Trick.__init__" = true)
    (kp_Trick___init__ : PySem.W.keepIn K (.ref a_Trick___init__) = true)
    (isf_Trick___init__ : PySem.W.isFn K (.ref a_Trick___init__) = true)
    (pa_Trick_base : PySem.W.findIn K (.ref C_Trick) "base" = some (some (.ref pr_Trick_base)))
    (pg_Trick_base : PySem.W.specialIn K (.ref pr_Trick_base) "__get__" = some (some (.builtin "property.__get__")))
    (pt_Trick_base : PySem.W.takesIn K (.ref pr_Trick_base) = some true)
    (prr_Trick_base : PySem.W.recIn K pr_Trick_base "property" = some (.ref a_Trick_base :: rs_Trick_base))
    (l_Trick_base : K.lookup a_Trick_base = some ⟨oc_Trick_base, od_Trick_base, .func (PySem.W.fnOf "base" "Trick.base" (defArgs s_Trick_base) (defBody s_Trick_base) (defScope s_Trick_base) .none kV_Trick_base dc_Trick_base pm_Trick_base an_Trick_base cd_Trick_base ct_Trick_base), sl_Trick_base⟩)
    (c_Trick_base : PySem.W.codeIn K cd_Trick_base "Trick.base" = true)
    (kp_Trick_base : PySem.W.keepIn K (.ref a_Trick_base) = true)
    (pa_Trick_take : PySem.W.findIn K (.ref C_Trick) "take" = some (some (.ref pr_Trick_take)))
    (pg_Trick_take : PySem.W.specialIn K (.ref pr_Trick_take) "__get__" = some (some (.builtin "property.__get__")))
    (pt_Trick_take : PySem.W.takesIn K (.ref pr_Trick_take) = some true)
    (prr_Trick_take : PySem.W.recIn K pr_Trick_take "property" = some (.ref a_Trick_take :: rs_Trick_take))
    (l_Trick_take : K.lookup a_Trick_take = some ⟨oc_Trick_take, od_Trick_take, .func (PySem.W.fnOf "take" "Trick.take" (defArgs s_Trick_take) (defBody s_Trick_take) (defScope s_Trick_take) .none kV_Trick_take dc_Trick_take pm_Trick_take an_Trick_take cd_Trick_take ct_Trick_take), sl_Trick_take⟩)
    (c_Trick_take : PySem.W.codeIn K cd_Trick_take "Trick.take" = true)
    (kp_Trick_take : PySem.W.keepIn K (.ref a_Trick_take) = true)
    (pa_Trick_times : PySem.W.findIn K (.ref C_Trick) "times" = some (some (.ref pr_Trick_times)))
    (pg_Trick_times : PySem.W.specialIn K (.ref pr_Trick_times) "__get__" = some (some (.builtin "property.__get__")))
    (pt_Trick_times : PySem.W.takesIn K (.ref pr_Trick_times) = some true)
    (prr_Trick_times : PySem.W.recIn K pr_Trick_times "property" = some (.ref a_Trick_times :: rs_Trick_times))
    (l_Trick_times : K.lookup a_Trick_times = some ⟨oc_Trick_times, od_Trick_times, .func (PySem.W.fnOf "times" "Trick.times" (defArgs s_Trick_times) (defBody s_Trick_times) (defScope s_Trick_times) .none kV_Trick_times dc_Trick_times pm_Trick_times an_Trick_times cd_Trick_times ct_Trick_times), sl_Trick_times⟩)
    (c_Trick_times : PySem.W.codeIn K cd_Trick_times "Trick.times" = true)
    (kp_Trick_times : PySem.W.keepIn K (.ref a_Trick_times) = true)
    (gf_Trick___eq__ : PySem.W.findIn K (.ref C_Trick) "__eq__" = some (some (.ref a_Trick___eq__)))
    (l_Trick___eq__ : K.lookup a_Trick___eq__ = some ⟨oc_Trick___eq__, od_Trick___eq__, .func (PySem.W.fnOf "__eq__" "Trick.__eq__" (defArgs s_Trick___eq__) (defBody s_Trick___eq__) (defScope s_Trick___eq__) .none kV_Trick___eq__ dc_Trick___eq__ pm_Trick___eq__ an_Trick___eq__ cd_Trick___eq__ ct_Trick___eq__), sl_Trick___eq__⟩)
    (c_Trick___eq__ : PySem.W.codeIn K cd_Trick___eq__ "Trick.__eq__" = true)
    (kp_Trick___eq__ : PySem.W.keepIn K (.ref a_Trick___eq__) = true)
    (isf_Trick___eq__ : PySem.W.isFn K (.ref a_Trick___eq__) = true)
    (z_int : PySem.W.nsIn K mainGlobals "int" = some none)
    (z_bool : PySem.W.nsIn K mainGlobals "bool" = some none)
    (z_len : PySem.W.nsIn K mainGlobals "len" = some none)
    (z_range : PySem.W.nsIn K mainGlobals "range" = some none)
    (z_isinstance : PySem.W.nsIn K mainGlobals "isinstance" = some none)
    (z_ValueError : PySem.W.nsIn K mainGlobals "ValueError" = some none)
    : ∃ fd : FuncData, (∀ (s : Shared) (v : Value), BindsTo s fd ⟨[v], []⟩ [("_law_script", v)]) ∧ ∀ base : Heap, K.In base → base.Ns mainGlobals mg → FnOk l.prog w K mg base CX0 lv_law fa fd ["_law_script"] (sp_law K) := by
  have e := hfa.symm.trans (PySem.W.mg_of X G gf_law)
  have e2 : a_law = fa := by cases e; rfl
  subst e2
  refine ⟨PySem.W.fnOf "law" "law" (defArgs s_law) (defBody s_law) (defScope s_law) .none kV_law dc_law pm_law an_law cd_law ct_law, fun s v => .of_eq rfl, fun base _ _ => ?_⟩
  exact ok_law (T :=
    { C_TrickError := C_TrickError,
      g_TrickError := PySem.W.mg_of X G gx_TrickError,
      x_TrickError := x_TrickError,
      k_TrickError := k_TrickError,
      s_TrickError := s_TrickError,
      t_TrickError := t_TrickError,
      C_BadBase := C_BadBase,
      g_BadBase := PySem.W.mg_of X G gx_BadBase,
      x_BadBase := x_BadBase,
      k_BadBase := k_BadBase,
      s_BadBase := s_BadBase,
      t_BadBase := t_BadBase,
      hd_BadBase := hd_BadBase,
      C_BadTake := C_BadTake,
      g_BadTake := PySem.W.mg_of X G gx_BadTake,
      x_BadTake := x_BadTake,
      k_BadTake := k_BadTake,
      s_BadTake := s_BadTake,
      t_BadTake := t_BadTake,
      hd_BadTake := hd_BadTake,
      C_BadTimes := C_BadTimes,
      g_BadTimes := PySem.W.mg_of X G gx_BadTimes,
      x_BadTimes := x_BadTimes,
      k_BadTimes := k_BadTimes,
      s_BadTimes := s_BadTimes,
      t_BadTimes := t_BadTimes,
      hd_BadTimes := hd_BadTimes,
      xm_TrickError_BadBase := PySem.W.exm_ref s_BadBase hd_BadBase t_BadBase su_TrickError_BadBase,
      xm_TrickError_BadTake := PySem.W.exm_ref s_BadTake hd_BadTake t_BadTake su_TrickError_BadTake,
      xm_TrickError_BadTimes := PySem.W.exm_ref s_BadTimes hd_BadTimes t_BadTimes su_TrickError_BadTimes,
      xm_BadBase_BadBase := PySem.W.exm_ref s_BadBase hd_BadBase t_BadBase su_BadBase_BadBase,
      xm_BadBase_BadTake := PySem.W.exm_ref s_BadTake hd_BadTake t_BadTake su_BadBase_BadTake,
      xm_BadBase_BadTimes := PySem.W.exm_ref s_BadTimes hd_BadTimes t_BadTimes su_BadBase_BadTimes,
      xm_BadTake_BadBase := PySem.W.exm_ref s_BadBase hd_BadBase t_BadBase su_BadTake_BadBase,
      xm_BadTake_BadTake := PySem.W.exm_ref s_BadTake hd_BadTake t_BadTake su_BadTake_BadTake,
      xm_BadTake_BadTimes := PySem.W.exm_ref s_BadTimes hd_BadTimes t_BadTimes su_BadTake_BadTimes,
      xm_BadTimes_BadBase := PySem.W.exm_ref s_BadBase hd_BadBase t_BadBase su_BadTimes_BadBase,
      xm_BadTimes_BadTake := PySem.W.exm_ref s_BadTake hd_BadTake t_BadTake su_BadTimes_BadTake,
      xm_BadTimes_BadTimes := PySem.W.exm_ref s_BadTimes hd_BadTimes t_BadTimes su_BadTimes_BadTimes,
      t_c_LEAST_BASE := tk_LEAST_BASE,
      c_LEAST_BASE := PySem.W.mg_of X G cx_LEAST_BASE,
      t_c_GREATEST_BASE := tk_GREATEST_BASE,
      c_GREATEST_BASE := PySem.W.mg_of X G cx_GREATEST_BASE,
      t_c_GREATEST_TAKE := tk_GREATEST_TAKE,
      c_GREATEST_TAKE := PySem.W.mg_of X G cx_GREATEST_TAKE,
      t_c_GREATEST_TIMES := tk_GREATEST_TIMES,
      c_GREATEST_TIMES := PySem.W.mg_of X G cx_GREATEST_TIMES,
      a_is_integer := a_is_integer,
      d_is_integer := _,
      F_is_integer := fun_mk (st := s_is_integer) l_is_integer c_is_integer kp_is_integer,
      b_is_integer := (fun_mk (st := s_is_integer) l_is_integer c_is_integer kp_is_integer).binds (ps := ["told", "low", "high"]) fun _ _ _ _ _ _ us hl => match us, hl with | [_, _, _], _ => rfl,
      g_is_integer := PySem.W.mg_of X G gf_is_integer,
      a_check_base := a_check_base,
      d_check_base := _,
      F_check_base := fun_mk (st := s_check_base) l_check_base c_check_base kp_check_base,
      b_check_base := (fun_mk (st := s_check_base) l_check_base c_check_base kp_check_base).binds (ps := ["base"]) fun _ _ _ _ _ _ us hl => match us, hl with | [_], _ => rfl,
      g_check_base := PySem.W.mg_of X G gf_check_base,
      a_check_take := a_check_take,
      d_check_take := _,
      F_check_take := fun_mk (st := s_check_take) l_check_take c_check_take kp_check_take,
      b_check_take := (fun_mk (st := s_check_take) l_check_take c_check_take kp_check_take).binds (ps := ["take"]) fun _ _ _ _ _ _ us hl => match us, hl with | [_], _ => rfl,
      g_check_take := PySem.W.mg_of X G gf_check_take,
      a__law_taken := a__law_taken,
      d__law_taken := _,
      F__law_taken := fun_mk (st := s__law_taken) l__law_taken c__law_taken kp__law_taken,
      b__law_taken := (fun_mk (st := s__law_taken) l__law_taken c__law_taken kp__law_taken).binds (ps := ["_law_row", "_law_many"]) fun _ _ _ _ _ _ us hl => match us, hl with | [_, _], _ => rfl,
      g__law_taken := PySem.W.mg_of X G gf__law_taken,
      a__law_power := a__law_power,
      d__law_power := _,
      F__law_power := fun_mk (st := s__law_power) l__law_power c__law_power kp__law_power,
      b__law_power := (fun_mk (st := s__law_power) l__law_power c__law_power kp__law_power).binds (ps := ["_law_base", "_law_many"]) fun _ _ _ _ _ _ us hl => match us, hl with | [_, _], _ => rfl,
      g__law_power := PySem.W.mg_of X G gf__law_power,
      a__law_trick := a__law_trick,
      d__law_trick := _,
      F__law_trick := fun_mk (st := s__law_trick) l__law_trick c__law_trick kp__law_trick,
      b__law_trick := (fun_mk (st := s__law_trick) l__law_trick c__law_trick kp__law_trick).binds (ps := ["_law_row", "_law_small"]) fun _ _ _ _ _ _ us hl => match us, hl with | [_, _], _ => rfl,
      g__law_trick := PySem.W.mg_of X G gf__law_trick,
      a__law_refused := a__law_refused,
      d__law_refused := _,
      F__law_refused := fun_mk (st := s__law_refused) l__law_refused c__law_refused kp__law_refused,
      b__law_refused := (fun_mk (st := s__law_refused) l__law_refused c__law_refused kp__law_refused).binds (ps := ["_law_base", "_law_take", "_law_times"]) fun _ _ _ _ _ _ us hl => match us, hl with | [_, _, _], _ => rfl,
      g__law_refused := PySem.W.mg_of X G gf__law_refused,
      a_law := a_law,
      d_law := _,
      F_law := fun_mk (st := s_law) l_law c_law kp_law,
      b_law := (fun_mk (st := s_law) l_law c_law kp_law).binds (ps := ["_law_script"]) fun _ _ _ _ _ _ us hl => match us, hl with | [_], _ => rfl,
      g_law := PySem.W.mg_of X G gf_law,
      C_Trick := C_Trick,
      cl_Trick := ⟨pg_Trick, hd_Trick, po_Trick, sa_Trick⟩,
      g_Trick := PySem.W.mg_of X G gx_Trick,
      kc_Trick := kc_Trick,
      ins_Trick := fun _ _ _ _ e => .ins e ⟨pg_Trick, hd_Trick, po_Trick, sa_Trick⟩ cc_Trick sp_cls tk_cls mo_Trick,
      ki_Trick_int := ki_Trick_int,
      ki_Trick_bool := ki_Trick_bool,
      nf_Trick_tuple := nf_Trick_tuple,
      kis_Trick := kis_Trick,
      kin_Trick_int := kin_Trick_int,
      kin_Trick_bool := kin_Trick_bool,
      kin_Trick_tuple := kin_Trick_tuple,
      kin_Trick_list := kin_Trick_list,
      kin_Trick_NoneType := kin_Trick_NoneType,
      kin_Trick_str := kin_Trick_str,
      kin_Trick_dict := kin_Trick_dict,
      na_Trick_base := na_Trick_base,
      na_Trick_take := na_Trick_take,
      na_Trick_times := na_Trick_times,
      a_Trick___init__ := a_Trick___init__,
      d_Trick___init__ := _,
      F_Trick___init__ := fun_mk (st := s_Trick___init__) l_Trick___init__ c_Trick___init__ kp_Trick___init__,
      b_Trick___init__ := (fun_mk (st := s_Trick___init__) l_Trick___init__ c_Trick___init__ kp_Trick___init__).binds (ps := ["self", "base", "take", "times"]) fun _ _ _ _ _ _ us hl => match us, hl with | [_, _, _, _], _ => rfl,
      mk_Trick := ⟨mk_Trick, gf_Trick___init__, isf_Trick___init__, kc_Trick⟩,
      a_Trick_base := a_Trick_base,
      d_Trick_base := _,
      F_Trick_base := fun_mk (st := s_Trick_base) l_Trick_base c_Trick_base kp_Trick_base,
      b_Trick_base := (fun_mk (st := s_Trick_base) l_Trick_base c_Trick_base kp_Trick_base).binds (ps := ["self"]) fun _ _ _ _ _ _ us hl => match us, hl with | [_], _ => rfl,
      q_Trick_base := pr_Trick_base,
      p_Trick_base := ⟨pa_Trick_base, pg_Trick_base, pt_Trick_base, ⟨_, prr_Trick_base⟩⟩,
      a_Trick_take := a_Trick_take,
      d_Trick_take := _,
      F_Trick_take := fun_mk (st := s_Trick_take) l_Trick_take c_Trick_take kp_Trick_take,
      b_Trick_take := (fun_mk (st := s_Trick_take) l_Trick_take c_Trick_take kp_Trick_take).binds (ps := ["self"]) fun _ _ _ _ _ _ us hl => match us, hl with | [_], _ => rfl,
      q_Trick_take := pr_Trick_take,
      p_Trick_take := ⟨pa_Trick_take, pg_Trick_take, pt_Trick_take, ⟨_, prr_Trick_take⟩⟩,
      a_Trick_times := a_Trick_times,
      d_Trick_times := _,
      F_Trick_times := fun_mk (st := s_Trick_times) l_Trick_times c_Trick_times kp_Trick_times,
      b_Trick_times := (fun_mk (st := s_Trick_times) l_Trick_times c_Trick_times kp_Trick_times).binds (ps := ["self"]) fun _ _ _ _ _ _ us hl => match us, hl with | [_], _ => rfl,
      q_Trick_times := pr_Trick_times,
      p_Trick_times := ⟨pa_Trick_times, pg_Trick_times, pt_Trick_times, ⟨_, prr_Trick_times⟩⟩,
      a_Trick___eq__ := a_Trick___eq__,
      d_Trick___eq__ := _,
      F_Trick___eq__ := fun_mk (st := s_Trick___eq__) l_Trick___eq__ c_Trick___eq__ kp_Trick___eq__,
      b_Trick___eq__ := (fun_mk (st := s_Trick___eq__) l_Trick___eq__ c_Trick___eq__ kp_Trick___eq__).binds (ps := ["self", "other"]) fun _ _ _ _ _ _ us hl => match us, hl with | [_, _], _ => rfl,
      m_Trick___eq__ := ⟨gf_Trick___eq__, isf_Trick___eq__, kp_Trick___eq__⟩,
      n_int := PySem.W.mg_none_of X G z_int,
      n_bool := PySem.W.mg_none_of X G z_bool,
      n_len := PySem.W.mg_none_of X G z_len,
      n_range := PySem.W.mg_none_of X G z_range,
      n_isinstance := PySem.W.mg_none_of X G z_isinstance,
      n_ValueError := PySem.W.mg_none_of X G z_ValueError })
theorem walk {l : PySem.W.OpenLaw} {q : Program} {loose : List Str} {XP : (Str → Option Value) → Heap → Prop} {YP : World → Heap → Prop} {d : DefRec} {K : Params → PySem.W.Frag} (hn : l.most = some 63) (hdf : d.params.defaults = [])
    (hY : ∀ (w : World) (h : Heap), YP w h → (K w.params).In h)
    (F : ∀ (w : World) (mg : Str → Option Value) (fa : Addr) (h : Heap), (K w.params).In h → h.Ns mainGlobals mg → mg d.name = some (.ref fa) →
      ∃ fd : FuncData, (∀ (s : Shared) (u : Value), BindsTo s fd ⟨[u], []⟩ [("_law_script", u)]) ∧ ∀ base : Heap, (K w.params).In base → base.Ns mainGlobals mg → FnOk l.prog w (K w.params) mg base CX0 lv_law fa fd ["_law_script"] (sp_law (K w.params))) :
    PySem.W.WalkO q loose XP YP l.row.toRowW d [] (fun f vs => PySem.call f vs) :=
  L2.walk_of (n := 63) (k := lv_law) (x := "_law_script") (CX := fun _ => CX0) (sp := fun w => sp_law (K w.params)) hn (by decide) hdf ⟨rfl, by decide, by decide⟩ hY F (fun _ _ a ns hl hO hS => ⟨a, ns, rfl, scr_of hO hS, hl, fun _ => rfl⟩) fun _ _ _ _ _ z => z
end Rt
open PySem PySem.W PyProof.Rows
set_option maxRecDepth 100000 in
set_option maxHeartbeats 0 in
theorem PySem.Challenge.cw_resttricks_k03_tricks_refused_holds : PySem.Challenge.rw_resttricks_k03_tricks_refused.Holds := by
  w_on; o_law; k_head; (case hw => w_witness2)
  k_fill
  refine Rt.walk (l := PySem.Challenge.rw_resttricks_k03_tricks_refused) rfl rfl (fun w h Y => PySem.W.kIn_of Y) ?F
  case F =>
    intro w mg fa h KX G hmg
    refine' Rt.all_mk KX G hmg ?gx_TrickError ?x_TrickError ?k_TrickError ?s_TrickError ?t_TrickError ?gx_BadBase ?x_BadBase ?k_BadBase ?s_BadBase ?t_BadBase ?hd_BadBase ?gx_BadTake ?x_BadTake ?k_BadTake ?s_BadTake ?t_BadTake ?hd_BadTake ?gx_BadTimes ?x_BadTimes ?k_BadTimes ?s_BadTimes ?t_BadTimes ?hd_BadTimes ?su_TrickError_BadBase ?su_TrickError_BadTake ?su_TrickError_BadTimes ?su_BadBase_BadBase ?su_BadBase_BadTake ?su_BadBase_BadTimes ?su_BadTake_BadBase ?su_BadTake_BadTake ?su_BadTake_BadTimes ?su_BadTimes_BadBase ?su_BadTimes_BadTake ?su_BadTimes_BadTimes ?cx_LEAST_BASE ?cx_GREATEST_BASE ?cx_GREATEST_TAKE ?cx_GREATEST_TIMES ?gf_is_integer ?l_is_integer ?c_is_integer ?kp_is_integer ?gf_check_base ?l_check_base ?c_check_base ?kp_check_base ?gf_check_take ?l_check_take ?c_check_take ?kp_check_take ?gf__law_taken ?l__law_taken ?c__law_taken ?kp__law_taken ?gf__law_power ?l__law_power ?c__law_power ?kp__law_power ?gf__law_trick ?l__law_trick ?c__law_trick ?kp__law_trick ?gf__law_refused ?l__law_refused ?c__law_refused ?kp__law_refused ?gf_law ?l_law ?c_law ?kp_law ?gx_Trick ?pg_Trick ?hd_Trick ?po_Trick ?sa_Trick ?mk_Trick ?kc_Trick ?cc_Trick ?mo_Trick ?sp_cls ?tk_cls ?ki_Trick_int ?ki_Trick_bool ?nf_Trick_tuple ?kis_Trick ?kin_Trick_int ?kin_Trick_bool ?kin_Trick_tuple ?kin_Trick_list ?kin_Trick_NoneType ?kin_Trick_str ?kin_Trick_dict ?na_Trick_base ?na_Trick_take ?na_Trick_times ?gf_Trick___init__ ?l_Trick___init__ ?c_Trick___init__ ?kp_Trick___init__ ?isf_Trick___init__ ?pa_Trick_base ?pg_Trick_base ?pt_Trick_base ?prr_Trick_base ?l_Trick_base ?c_Trick_base ?kp_Trick_base ?pa_Trick_take ?pg_Trick_take ?pt_Trick_take ?prr_Trick_take ?l_Trick_take ?c_Trick_take ?kp_Trick_take ?pa_Trick_times ?pg_Trick_times ?pt_Trick_times ?prr_Trick_times ?l_Trick_times ?c_Trick_times ?kp_Trick_times ?gf_Trick___eq__ ?l_Trick___eq__ ?c_Trick___eq__ ?kp_Trick___eq__ ?isf_Trick___eq__ ?z_int ?z_bool ?z_len ?z_range ?z_isinstance ?z_ValueError
    (case gx_TrickError => k_is)
    (case x_TrickError => k_exc)
    (case k_TrickError => k_is)
    (case s_TrickError => k_is)
    (case t_TrickError => k_is)
    (case gx_BadBase => k_is)
    (case x_BadBase => k_exc)
    (case k_BadBase => k_is)
    (case s_BadBase => k_is)
    (case t_BadBase => k_is)
    (case hd_BadBase => k_is)
    (case gx_BadTake => k_is)
    (case x_BadTake => k_exc)
    (case k_BadTake => k_is)
    (case s_BadTake => k_is)
    (case t_BadTake => k_is)
    (case hd_BadTake => k_is)
    (case gx_BadTimes => k_is)
    (case x_BadTimes => k_exc)
    (case k_BadTimes => k_is)
    (case s_BadTimes => k_is)
    (case t_BadTimes => k_is)
    (case hd_BadTimes => k_is)
    (case su_TrickError_BadBase => first | k_is | rfl)
    (case su_TrickError_BadTake => first | k_is | rfl)
    (case su_TrickError_BadTimes => first | k_is | rfl)
    (case su_BadBase_BadBase => first | k_is | rfl)
    (case su_BadBase_BadTake => first | k_is | rfl)
    (case su_BadBase_BadTimes => first | k_is | rfl)
    (case su_BadTake_BadBase => first | k_is | rfl)
    (case su_BadTake_BadTake => first | k_is | rfl)
    (case su_BadTake_BadTimes => first | k_is | rfl)
    (case su_BadTimes_BadBase => first | k_is | rfl)
    (case su_BadTimes_BadTake => first | k_is | rfl)
    (case su_BadTimes_BadTimes => first | k_is | rfl)
    (case cx_LEAST_BASE => k_is)
    (case cx_GREATEST_BASE => k_is)
    (case cx_GREATEST_TAKE => k_is)
    (case cx_GREATEST_TIMES => k_is)
    (case gf_is_integer => k_is)
    (case l_is_integer => k_is)
    (case c_is_integer => k_is)
    (case kp_is_integer => k_is)
    (case gf_check_base => k_is)
    (case l_check_base => k_is)
    (case c_check_base => k_is)
    (case kp_check_base => k_is)
    (case gf_check_take => k_is)
    (case l_check_take => k_is)
    (case c_check_take => k_is)
    (case kp_check_take => k_is)
    (case gf__law_taken => k_is)
    (case l__law_taken => k_is)
    (case c__law_taken => k_is)
    (case kp__law_taken => k_is)
    (case gf__law_power => k_is)
    (case l__law_power => k_is)
    (case c__law_power => k_is)
    (case kp__law_power => k_is)
    (case gf__law_trick => k_is)
    (case l__law_trick => k_is)
    (case c__law_trick => k_is)
    (case kp__law_trick => k_is)
    (case gf__law_refused => k_is)
    (case l__law_refused => k_is)
    (case c__law_refused => k_is)
    (case kp__law_refused => k_is)
    (case gf_law => k_is)
    (case l_law => k_is)
    (case c_law => k_is)
    (case kp_law => k_is)
    (case gx_Trick => k_is)
    (case pg_Trick => k_is)
    (case hd_Trick => k_is)
    (case po_Trick => k_is)
    (case sa_Trick => k_is)
    (case mk_Trick => k_is)
    (case kc_Trick => k_is)
    (case cc_Trick => k_is)
    (case mo_Trick => k_is)
    (case sp_cls => k_is)
    (case tk_cls => k_is)
    (case ki_Trick_int => first | k_is | rfl)
    (case ki_Trick_bool => first | k_is | rfl)
    (case nf_Trick_tuple => first | k_is | rfl)
    (case kis_Trick => first | k_is | rfl)
    (case kin_Trick_int => first | k_is | rfl)
    (case kin_Trick_bool => first | k_is | rfl)
    (case kin_Trick_tuple => first | k_is | rfl)
    (case kin_Trick_list => first | k_is | rfl)
    (case kin_Trick_NoneType => first | k_is | rfl)
    (case kin_Trick_str => first | k_is | rfl)
    (case kin_Trick_dict => first | k_is | rfl)
    (case na_Trick_base => k_is)
    (case na_Trick_take => k_is)
    (case na_Trick_times => k_is)
    (case gf_Trick___init__ => k_is)
    (case l_Trick___init__ => k_is)
    (case c_Trick___init__ => k_is)
    (case kp_Trick___init__ => k_is)
    (case isf_Trick___init__ => k_is)
    (case pa_Trick_base => k_is)
    (case pg_Trick_base => k_is)
    (case pt_Trick_base => k_is)
    (case prr_Trick_base => k_is)
    (case l_Trick_base => k_is)
    (case c_Trick_base => k_is)
    (case kp_Trick_base => k_is)
    (case pa_Trick_take => k_is)
    (case pg_Trick_take => k_is)
    (case pt_Trick_take => k_is)
    (case prr_Trick_take => k_is)
    (case l_Trick_take => k_is)
    (case c_Trick_take => k_is)
    (case kp_Trick_take => k_is)
    (case pa_Trick_times => k_is)
    (case pg_Trick_times => k_is)
    (case pt_Trick_times => k_is)
    (case prr_Trick_times => k_is)
    (case l_Trick_times => k_is)
    (case c_Trick_times => k_is)
    (case kp_Trick_times => k_is)
    (case gf_Trick___eq__ => k_is)
    (case l_Trick___eq__ => k_is)
    (case c_Trick___eq__ => k_is)
    (case kp_Trick___eq__ => k_is)
    (case isf_Trick___eq__ => k_is)
    (case z_int => k_is)
    (case z_bool => k_is)
    (case z_len => k_is)
    (case z_range => k_is)
    (case z_isinstance => k_is)
    (case z_ValueError => k_is)
#print axioms PySem.Challenge.cw_resttricks_k03_tricks_refused_holds
