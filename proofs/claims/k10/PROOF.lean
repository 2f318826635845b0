import PyProof.Rows.All
import Wide.All
import OpenK.AllK
import Wide.FinOn
import HandS.ForMost
import HandS.Exc
import HandS.TryOnly
import HandS.ExcOwn
import HandS.WordsExc
import HandS.TryMany
import HandS.IsInst
import HandS.Property
import HandS.Wide
import HandS.SortInts
import HandS.Conv
import HandS.Evl
import HandS.NoneIn
import HandS.ExcIs
import HandS.ExcSuper
import KE.KExcSuper
import KE.KExcInit
import KE.GoesMore
import HandS.Rev
import HandS.FStr
import HandS.Walk
import HandS.WideMore
import HandS.TupAny
import HandS.TupMul
import HandS.Style
import HandS.SetFor
import HandS.Strs
import HandS.Defaults
import HandS.RaiseMore
import HandS.Zip
import PySem.Challenge.RW_resttricks_k10_whole_multipliers
set_option Elab.async false
set_option linter.all false
set_option maxRecDepth 100000
set_option maxHeartbeats 2000000
namespace Rt
open PySem L2 PySem.Spec PyProof.Rows
/-! ### the text by places -/
def topS (i : Nat) : Stmt := PySem.Challenge.pw_resttricks_k10_whole_multipliers.main.body.getD i (.Pass ⟨0, 0, 0, 0⟩)
abbrev s_is_integer : Stmt := topS 12
abbrev s_check_base : Stmt := topS 13
abbrev s_check_take : Stmt := topS 14
abbrev s_check_divisor : Stmt := topS 15
abbrev s_block_of : Stmt := topS 17
abbrev s_check_trick : Stmt := topS 21
abbrev s_trick_block : Stmt := topS 22
abbrev s_made_of : Stmt := topS 23
abbrev s_made_with : Stmt := topS 24
abbrev s_fails : Stmt := topS 26
abbrev s_multipliers : Stmt := topS 27
abbrev s_tells_multiples : Stmt := topS 28
abbrev s_period : Stmt := topS 29
abbrev s__law_taken : Stmt := topS 31
abbrev s__law_refused : Stmt := topS 32
abbrev s_law : Stmt := topS 33
abbrev s_Trick___init__ : Stmt := inClass (topS 20) 0
abbrev s_Trick_base : Stmt := inClass (topS 20) 1
abbrev s_Trick_take : Stmt := inClass (topS 20) 2
abbrev s_Trick_times : Stmt := inClass (topS 20) 3
abbrev s_Trick___eq__ : Stmt := inClass (topS 20) 4
theorem sc_is_integer : FnScope ["told", "low", "high"] ["told", "low", "high"] (defScope s_is_integer) := ⟨rfl, rfl, rfl, by decide +kernel, rfl, by decide +kernel, by decide +kernel⟩
abbrev lv_is_integer : Nat := 1
theorem sc_check_base : FnScope ["base"] ["base"] (defScope s_check_base) := ⟨rfl, rfl, rfl, by decide +kernel, rfl, by decide +kernel, by decide +kernel⟩
abbrev lv_check_base : Nat := 2
theorem sc_check_take : FnScope ["take"] ["take"] (defScope s_check_take) := ⟨rfl, rfl, rfl, by decide +kernel, rfl, by decide +kernel, by decide +kernel⟩
abbrev lv_check_take : Nat := 2
theorem sc_check_divisor : FnScope ["d", "greatest"] ["d", "greatest"] (defScope s_check_divisor) := ⟨rfl, rfl, rfl, by decide +kernel, rfl, by decide +kernel, by decide +kernel⟩
abbrev lv_check_divisor : Nat := 2
theorem sc_block_of : FnScope ["base", "take"] ["base", "take"] (defScope s_block_of) := ⟨rfl, rfl, rfl, by decide +kernel, rfl, by decide +kernel, by decide +kernel⟩
abbrev lv_block_of : Nat := 1
theorem sc_check_trick : FnScope ["trick"] ["trick"] (defScope s_check_trick) := ⟨rfl, rfl, rfl, by decide +kernel, rfl, by decide +kernel, by decide +kernel⟩
abbrev lv_check_trick : Nat := 1
theorem sc_trick_block : FnScope ["trick"] ["trick"] (defScope s_trick_block) := ⟨rfl, rfl, rfl, by decide +kernel, rfl, by decide +kernel, by decide +kernel⟩
abbrev lv_trick_block : Nat := 3
theorem sc_made_of : FnScope ["trick", "n"] ["trick", "n"] (defScope s_made_of) := ⟨rfl, rfl, rfl, by decide +kernel, rfl, by decide +kernel, by decide +kernel⟩
abbrev lv_made_of : Nat := 4
theorem sc_made_with : FnScope ["block", "times", "n"] ["block", "times", "n"] (defScope s_made_with) := ⟨rfl, rfl, rfl, by decide +kernel, rfl, by decide +kernel, by decide +kernel⟩
abbrev lv_made_with : Nat := 1
theorem sc_fails : FnScope ["trick", "d", "n"] ["trick", "d"] (defScope s_fails) := ⟨rfl, rfl, rfl, by decide +kernel, rfl, by decide +kernel, by decide +kernel⟩
abbrev lv_fails : Nat := 5
theorem sc_multipliers : FnScope ["base", "take", "d", "block", "rest"] ["base", "take", "d"] (defScope s_multipliers) := ⟨rfl, rfl, rfl, by decide +kernel, rfl, by decide +kernel, by decide +kernel⟩
abbrev lv_multipliers : Nat := 3
theorem sc_tells_multiples : FnScope ["block", "times", "d"] ["block", "times", "d"] (defScope s_tells_multiples) := ⟨rfl, rfl, rfl, by decide +kernel, rfl, by decide +kernel, by decide +kernel⟩
abbrev lv_tells_multiples : Nat := 1
theorem sc_period : FnScope ["trick", "d"] ["trick", "d"] (defScope s_period) := ⟨rfl, rfl, rfl, by decide +kernel, rfl, by decide +kernel, by decide +kernel⟩
abbrev lv_period : Nat := 4
theorem sc__law_taken : FnScope ["_law_row", "_law_many", "_law_found", "_law_cell"] ["_law_row", "_law_many"] (defScope s__law_taken) := ⟨rfl, rfl, rfl, by decide +kernel, rfl, by decide +kernel, by decide +kernel⟩
abbrev lv__law_taken : Nat := 1
theorem sc__law_refused : FnScope ["_law_base", "_law_take", "_law_d", "_law_found"] ["_law_base", "_law_take", "_law_d"] (defScope s__law_refused) := ⟨rfl, rfl, rfl, by decide +kernel, rfl, by decide +kernel, by decide +kernel⟩
abbrev lv__law_refused : Nat := 4
theorem sc_law : FnScope ["_law_script", "_law_line", "_law_base", "_law_take", "_law_d", "_law_due", "_law_wide", "_law_block", "_law_some", "_law_bad_base", "_law_bad_take", "_law_bad", "_law_times"] ["_law_script"] (defScope s_law) := ⟨rfl, rfl, rfl, by decide +kernel, rfl, by decide +kernel, by decide +kernel⟩
abbrev lv_law : Nat := 7
theorem sc_Trick___init__ : FnScope ["self", "base", "take", "times"] ["self", "base", "take", "times"] (defScope s_Trick___init__) := ⟨rfl, rfl, rfl, by decide +kernel, rfl, by decide +kernel, by decide +kernel⟩
abbrev lv_Trick___init__ : Nat := 3
theorem sc_Trick_base : FnScope ["self"] ["self"] (defScope s_Trick_base) := ⟨rfl, rfl, rfl, by decide +kernel, rfl, by decide +kernel, by decide +kernel⟩
abbrev lv_Trick_base : Nat := 1
theorem sc_Trick_take : FnScope ["self"] ["self"] (defScope s_Trick_take) := ⟨rfl, rfl, rfl, by decide +kernel, rfl, by decide +kernel, by decide +kernel⟩
abbrev lv_Trick_take : Nat := 1
theorem sc_Trick_times : FnScope ["self"] ["self"] (defScope s_Trick_times) := ⟨rfl, rfl, rfl, by decide +kernel, rfl, by decide +kernel, by decide +kernel⟩
abbrev lv_Trick_times : Nat := 1
theorem sc_Trick___eq__ : FnScope ["self", "other"] ["self", "other"] (defScope s_Trick___eq__) := ⟨rfl, rfl, rfl, by decide +kernel, rfl, by decide +kernel, by decide +kernel⟩
abbrev lv_Trick___eq__ : Nat := 1
/-! ### what is known of the top behind its run -/
structure Tx (K : PySem.W.Frag) (mg : Str → Option Value) : Type where
  C_TrickError : Addr
  g_TrickError : mg "TrickError" = some (.ref C_TrickError)
  x_TrickError : PySem.W.excIn K C_TrickError [.type "ValueError", .type "Exception", .type "BaseException", .type "object"] "ValueError.__new__" = true
  k_TrickError : PySem.W.keepIn K (.ref C_TrickError) = true
  s_TrickError : PySem.W.subIn K (.ref C_TrickError) (.type "BaseException") = some true
  t_TrickError : PySem.W.typeIn K (.ref C_TrickError) = some (.type "type")
  C_BadBase : Addr
  g_BadBase : mg "BadBase" = some (.ref C_BadBase)
  x_BadBase : PySem.W.excIn K C_BadBase [.type "ValueError", .type "Exception", .type "BaseException", .type "object"] "ValueError.__new__" = true
  k_BadBase : PySem.W.keepIn K (.ref C_BadBase) = true
  s_BadBase : PySem.W.subIn K (.ref C_BadBase) (.type "BaseException") = some true
  t_BadBase : PySem.W.typeIn K (.ref C_BadBase) = some (.type "type")
  hd_BadBase : PySem.W.hasDictIn K C_BadBase = true
  C_BadTake : Addr
  g_BadTake : mg "BadTake" = some (.ref C_BadTake)
  x_BadTake : PySem.W.excIn K C_BadTake [.type "ValueError", .type "Exception", .type "BaseException", .type "object"] "ValueError.__new__" = true
  k_BadTake : PySem.W.keepIn K (.ref C_BadTake) = true
  s_BadTake : PySem.W.subIn K (.ref C_BadTake) (.type "BaseException") = some true
  t_BadTake : PySem.W.typeIn K (.ref C_BadTake) = some (.type "type")
  hd_BadTake : PySem.W.hasDictIn K C_BadTake = true
  C_BadTimes : Addr
  g_BadTimes : mg "BadTimes" = some (.ref C_BadTimes)
  x_BadTimes : PySem.W.excIn K C_BadTimes [.type "ValueError", .type "Exception", .type "BaseException", .type "object"] "ValueError.__new__" = true
  k_BadTimes : PySem.W.keepIn K (.ref C_BadTimes) = true
  s_BadTimes : PySem.W.subIn K (.ref C_BadTimes) (.type "BaseException") = some true
  t_BadTimes : PySem.W.typeIn K (.ref C_BadTimes) = some (.type "type")
  C_BadTrick : Addr
  g_BadTrick : mg "BadTrick" = some (.ref C_BadTrick)
  x_BadTrick : PySem.W.excIn K C_BadTrick [.type "ValueError", .type "Exception", .type "BaseException", .type "object"] "ValueError.__new__" = true
  k_BadTrick : PySem.W.keepIn K (.ref C_BadTrick) = true
  s_BadTrick : PySem.W.subIn K (.ref C_BadTrick) (.type "BaseException") = some true
  t_BadTrick : PySem.W.typeIn K (.ref C_BadTrick) = some (.type "type")
  C_BadDivisor : Addr
  g_BadDivisor : mg "BadDivisor" = some (.ref C_BadDivisor)
  x_BadDivisor : PySem.W.excIn K C_BadDivisor [.type "ValueError", .type "Exception", .type "BaseException", .type "object"] "ValueError.__new__" = true
  k_BadDivisor : PySem.W.keepIn K (.ref C_BadDivisor) = true
  s_BadDivisor : PySem.W.subIn K (.ref C_BadDivisor) (.type "BaseException") = some true
  t_BadDivisor : PySem.W.typeIn K (.ref C_BadDivisor) = some (.type "type")
  hd_BadDivisor : PySem.W.hasDictIn K C_BadDivisor = true
  xm_TrickError_BadBase : PySem.W.exmOne K (.ref C_TrickError) (.ref C_BadBase) = some false
  xm_TrickError_BadDivisor : PySem.W.exmOne K (.ref C_TrickError) (.ref C_BadDivisor) = some false
  xm_TrickError_BadTake : PySem.W.exmOne K (.ref C_TrickError) (.ref C_BadTake) = some false
  xm_BadBase_BadBase : PySem.W.exmOne K (.ref C_BadBase) (.ref C_BadBase) = some true
  xm_BadBase_BadDivisor : PySem.W.exmOne K (.ref C_BadBase) (.ref C_BadDivisor) = some false
  xm_BadBase_BadTake : PySem.W.exmOne K (.ref C_BadBase) (.ref C_BadTake) = some false
  xm_BadTake_BadBase : PySem.W.exmOne K (.ref C_BadTake) (.ref C_BadBase) = some false
  xm_BadTake_BadDivisor : PySem.W.exmOne K (.ref C_BadTake) (.ref C_BadDivisor) = some false
  xm_BadTake_BadTake : PySem.W.exmOne K (.ref C_BadTake) (.ref C_BadTake) = some true
  xm_BadTimes_BadBase : PySem.W.exmOne K (.ref C_BadTimes) (.ref C_BadBase) = some false
  xm_BadTimes_BadDivisor : PySem.W.exmOne K (.ref C_BadTimes) (.ref C_BadDivisor) = some false
  xm_BadTimes_BadTake : PySem.W.exmOne K (.ref C_BadTimes) (.ref C_BadTake) = some false
  xm_BadTrick_BadBase : PySem.W.exmOne K (.ref C_BadTrick) (.ref C_BadBase) = some false
  xm_BadTrick_BadDivisor : PySem.W.exmOne K (.ref C_BadTrick) (.ref C_BadDivisor) = some false
  xm_BadTrick_BadTake : PySem.W.exmOne K (.ref C_BadTrick) (.ref C_BadTake) = some false
  xm_BadDivisor_BadBase : PySem.W.exmOne K (.ref C_BadDivisor) (.ref C_BadBase) = some false
  xm_BadDivisor_BadDivisor : PySem.W.exmOne K (.ref C_BadDivisor) (.ref C_BadDivisor) = some true
  xm_BadDivisor_BadTake : PySem.W.exmOne K (.ref C_BadDivisor) (.ref C_BadTake) = some false
  t_c_LEAST_BASE : Tok
  c_LEAST_BASE : mg "LEAST_BASE" = some (.int 2 t_c_LEAST_BASE)
  t_c_GREATEST_BASE : Tok
  c_GREATEST_BASE : mg "GREATEST_BASE" = some (.int 16 t_c_GREATEST_BASE)
  t_c_GREATEST_TAKE : Tok
  c_GREATEST_TAKE : mg "GREATEST_TAKE" = some (.int 2 t_c_GREATEST_TAKE)
  t_c_GREATEST_DIVISOR : Tok
  c_GREATEST_DIVISOR : mg "GREATEST_DIVISOR" = some (.int 100 t_c_GREATEST_DIVISOR)
  t_c_GREATEST_TIMES : Tok
  c_GREATEST_TIMES : mg "GREATEST_TIMES" = some (.int 100 t_c_GREATEST_TIMES)
  a_is_integer : Addr
  d_is_integer : FuncData
  F_is_integer : Fun K "is_integer" "is_integer" s_is_integer a_is_integer d_is_integer
  b_is_integer : Binds K d_is_integer ["told", "low", "high"] []
  g_is_integer : mg "is_integer" = some (.ref a_is_integer)
  a_check_base : Addr
  d_check_base : FuncData
  F_check_base : Fun K "check_base" "check_base" s_check_base a_check_base d_check_base
  b_check_base : Binds K d_check_base ["base"] []
  g_check_base : mg "check_base" = some (.ref a_check_base)
  a_check_take : Addr
  d_check_take : FuncData
  F_check_take : Fun K "check_take" "check_take" s_check_take a_check_take d_check_take
  b_check_take : Binds K d_check_take ["take"] []
  g_check_take : mg "check_take" = some (.ref a_check_take)
  a_check_divisor : Addr
  d_check_divisor : FuncData
  F_check_divisor : FunD K "check_divisor" "check_divisor" (defArgs s_check_divisor) (defBody s_check_divisor) (defScope s_check_divisor) [.int 100] [] a_check_divisor d_check_divisor
  b_check_divisor : Binds K d_check_divisor ["d", "greatest"] []
  ds_check_divisor : List Value
  rd_check_divisor : Vals [.int 100] ds_check_divisor
  bd_check_divisor : Binds K d_check_divisor ["d", "greatest"] ds_check_divisor
  g_check_divisor : mg "check_divisor" = some (.ref a_check_divisor)
  a_block_of : Addr
  d_block_of : FuncData
  F_block_of : Fun K "block_of" "block_of" s_block_of a_block_of d_block_of
  b_block_of : Binds K d_block_of ["base", "take"] []
  g_block_of : mg "block_of" = some (.ref a_block_of)
  a_check_trick : Addr
  d_check_trick : FuncData
  F_check_trick : Fun K "check_trick" "check_trick" s_check_trick a_check_trick d_check_trick
  b_check_trick : Binds K d_check_trick ["trick"] []
  g_check_trick : mg "check_trick" = some (.ref a_check_trick)
  a_trick_block : Addr
  d_trick_block : FuncData
  F_trick_block : Fun K "trick_block" "trick_block" s_trick_block a_trick_block d_trick_block
  b_trick_block : Binds K d_trick_block ["trick"] []
  g_trick_block : mg "trick_block" = some (.ref a_trick_block)
  a_made_of : Addr
  d_made_of : FuncData
  F_made_of : Fun K "made_of" "made_of" s_made_of a_made_of d_made_of
  b_made_of : Binds K d_made_of ["trick", "n"] []
  g_made_of : mg "made_of" = some (.ref a_made_of)
  a_made_with : Addr
  d_made_with : FuncData
  F_made_with : Fun K "made_with" "made_with" s_made_with a_made_with d_made_with
  b_made_with : Binds K d_made_with ["block", "times", "n"] []
  g_made_with : mg "made_with" = some (.ref a_made_with)
  a_fails : Addr
  d_fails : FuncData
  F_fails : Fun K "fails" "fails" s_fails a_fails d_fails
  b_fails : Binds K d_fails ["trick", "d"] []
  g_fails : mg "fails" = some (.ref a_fails)
  a_multipliers : Addr
  d_multipliers : FuncData
  F_multipliers : Fun K "multipliers" "multipliers" s_multipliers a_multipliers d_multipliers
  b_multipliers : Binds K d_multipliers ["base", "take", "d"] []
  g_multipliers : mg "multipliers" = some (.ref a_multipliers)
  a_tells_multiples : Addr
  d_tells_multiples : FuncData
  F_tells_multiples : Fun K "tells_multiples" "tells_multiples" s_tells_multiples a_tells_multiples d_tells_multiples
  b_tells_multiples : Binds K d_tells_multiples ["block", "times", "d"] []
  g_tells_multiples : mg "tells_multiples" = some (.ref a_tells_multiples)
  a_period : Addr
  d_period : FuncData
  F_period : Fun K "period" "period" s_period a_period d_period
  b_period : Binds K d_period ["trick", "d"] []
  g_period : mg "period" = some (.ref a_period)
  a__law_taken : Addr
  d__law_taken : FuncData
  F__law_taken : Fun K "_law_taken" "_law_taken" s__law_taken a__law_taken d__law_taken
  b__law_taken : Binds K d__law_taken ["_law_row", "_law_many"] []
  g__law_taken : mg "_law_taken" = some (.ref a__law_taken)
  a__law_refused : Addr
  d__law_refused : FuncData
  F__law_refused : Fun K "_law_refused" "_law_refused" s__law_refused a__law_refused d__law_refused
  b__law_refused : Binds K d__law_refused ["_law_base", "_law_take", "_law_d"] []
  g__law_refused : mg "_law_refused" = some (.ref a__law_refused)
  a_law : Addr
  d_law : FuncData
  F_law : Fun K "law" "law" s_law a_law d_law
  b_law : Binds K d_law ["_law_script"] []
  g_law : mg "law" = some (.ref a_law)
  C_Trick : Addr
  cl_Trick : Cls K C_Trick
  g_Trick : mg "Trick" = some (.ref C_Trick)
  kc_Trick : PySem.W.keepIn K (.ref C_Trick) = true
  ins_Trick : ∀ (H : Hp) (a dx : Addr) (fs : List (Str × V)), H a = some (.ins C_Trick dx fs) → TyOf K H (.ref a) (.ref C_Trick)
  ki_Trick_int : PySem.W.kitOne K (.ref C_Trick) (.type "int") = some false
  ki_Trick_bool : PySem.W.kitOne K (.ref C_Trick) (.type "bool") = some false
  nf_Trick_tuple : PySem.W.subIn K (.type "tuple") (.ref C_Trick) = some false
  kis_Trick : PySem.W.kitOne K (.ref C_Trick) (.ref C_Trick) = some true
  kin_Trick_int : PySem.W.kitOne K (.type "int") (.ref C_Trick) = some false
  kin_Trick_bool : PySem.W.kitOne K (.type "bool") (.ref C_Trick) = some false
  kin_Trick_tuple : PySem.W.kitOne K (.type "tuple") (.ref C_Trick) = some false
  kin_Trick_list : PySem.W.kitOne K (.type "list") (.ref C_Trick) = some false
  kin_Trick_NoneType : PySem.W.kitOne K (.type "NoneType") (.ref C_Trick) = some false
  kin_Trick_str : PySem.W.kitOne K (.type "str") (.ref C_Trick) = some false
  kin_Trick_dict : PySem.W.kitOne K (.type "dict") (.ref C_Trick) = some false
  na_Trick_base : NoAttr K C_Trick "_base"
  na_Trick_take : NoAttr K C_Trick "_take"
  na_Trick_times : NoAttr K C_Trick "_times"
  a_Trick___init__ : Addr
  d_Trick___init__ : FuncData
  F_Trick___init__ : Fun K "__init__" "Trick.__init__" s_Trick___init__ a_Trick___init__ d_Trick___init__
  b_Trick___init__ : Binds K d_Trick___init__ ["self", "base", "take", "times"] []
  mk_Trick : Mk K C_Trick a_Trick___init__
  a_Trick_base : Addr
  d_Trick_base : FuncData
  F_Trick_base : Fun K "base" "Trick.base" s_Trick_base a_Trick_base d_Trick_base
  b_Trick_base : Binds K d_Trick_base ["self"] []
  q_Trick_base : Addr
  p_Trick_base : PropOf K C_Trick "base" q_Trick_base a_Trick_base
  a_Trick_take : Addr
  d_Trick_take : FuncData
  F_Trick_take : Fun K "take" "Trick.take" s_Trick_take a_Trick_take d_Trick_take
  b_Trick_take : Binds K d_Trick_take ["self"] []
  q_Trick_take : Addr
  p_Trick_take : PropOf K C_Trick "take" q_Trick_take a_Trick_take
  a_Trick_times : Addr
  d_Trick_times : FuncData
  F_Trick_times : Fun K "times" "Trick.times" s_Trick_times a_Trick_times d_Trick_times
  b_Trick_times : Binds K d_Trick_times ["self"] []
  q_Trick_times : Addr
  p_Trick_times : PropOf K C_Trick "times" q_Trick_times a_Trick_times
  a_Trick___eq__ : Addr
  d_Trick___eq__ : FuncData
  F_Trick___eq__ : Fun K "__eq__" "Trick.__eq__" s_Trick___eq__ a_Trick___eq__ d_Trick___eq__
  b_Trick___eq__ : Binds K d_Trick___eq__ ["self", "other"] []
  m_Trick___eq__ : Meth K C_Trick "__eq__" a_Trick___eq__
  n_int : mg "int" = none
  n_bool : mg "bool" = none
  n_len : mg "len" = none
  n_range : mg "range" = none
  n_isinstance : mg "isinstance" = none
  n_ValueError : mg "ValueError" = none
/-! ### the program's own classes (no errors) -/
def OwnT {K : PySem.W.Frag} {mg : Str → Option Value} (T : Tx K mg) (C : Addr) : Prop := C = T.C_Trick
theorem OwnT.ty {K : PySem.W.Frag} {mg : Str → Option Value} {T : Tx K mg} {C : Addr} (t : OwnT T C) {H : Hp} {a dx : Addr} {fs : List (Str × V)} (e : H a = some (.ins C dx fs)) : TyOf K H (.ref a) (.ref C) := by
  cases t
  exact T.ins_Trick _ _ _ _ e
theorem OwnT.nint {K : PySem.W.Frag} {mg : Str → Option Value} {T : Tx K mg} {C : Addr} (t : OwnT T C) : PySem.W.kitOne K (.ref C) (.type "int") = some false := by
  cases t
  exact T.ki_Trick_int
theorem OwnT.nbool {K : PySem.W.Frag} {mg : Str → Option Value} {T : Tx K mg} {C : Addr} (t : OwnT T C) : PySem.W.kitOne K (.ref C) (.type "bool") = some false := by
  cases t
  exact T.ki_Trick_bool
section
variable {P : Program} {w : World} {K : PySem.W.Frag} {mg : Str → Option Value} {base : Heap}
/-! ### heaps -/
/-- all but what stands at r is as it was -/
def But (r : Addr) (H H' : Hp) : Prop := ∀ b o, H b = some o → b ≠ r → H' b = some o
theorem But.refl (r : Addr) (H : Hp) : But r H H := fun _ _ e _ => e
theorem But.trans {r : Addr} {H H1 H2 : Hp} (a : But r H H1) (b : But r H1 H2) : But r H H2 := fun c o e n => b c o (a c o e n) n
theorem Same.but {r : Addr} {H H' : Hp} (a : Same H H') : But r H H' := fun c o e _ => a c o e
theorem But.put {r : Addr} {H : Hp} {o : HO} : But r H (upd H r o) := fun b _ e n => by rw [upd_ne n]; exact e
theorem But.seq {K : PySem.W.Frag} {r a : Addr} {H H' : Hp} {xs : List V} (e : But r H H') (n : a ≠ r) (h : SqL K H a xs) : SqL K H' a xs := by
  rcases h with (h | ⟨o, h⟩) | h
  · exact .inl (.inl (e _ _ h n))
  · exact .inl (.inr ⟨o, e _ _ h n⟩)
  · exact .inr h
theorem same_upd {H : Hp} {p : Addr} {o : HO} (h : H p = none) : Same H (upd H p o) := fun b x e => by
  rw [upd_ne (ne_of_none e h)]
  exact e
/-- any value of the document's point 1 -/
inductive AnyV (T : Addr → Prop) (H : Hp) : V → Prop where
  | non : AnyV T H .non
  | bl (b : Bool) : AnyV T H (.bl b)
  | int (i : Int) : AnyV T H (.int i)
  | str (x : Str) : AnyV T H (.str x)
  | lst {a : Addr} {xs : List V} (e : H a = some (.lst xs)) : AnyV T H (.ref a)
  | tup {a : Addr} {xs : List V} (e : H a = some (.tup xs)) : AnyV T H (.ref a)
  | dct {a : Addr} {kvs : List (Key × V)} (e : H a = some (.dK kvs)) : AnyV T H (.ref a)
  | ins {a C dx : Addr} {fs : List (Str × V)} (t : T C) (e : H a = some (.ins C dx fs)) : AnyV T H (.ref a)
/-- it is an integer from lo to hi -/
def intIn (x : V) (lo hi : Int) : Bool := match x with | .int i => decide (lo ≤ i) && decide (i ≤ hi) | _ => false
theorem intIn_of {i lo hi : Int} (h1 : lo ≤ i) (h2 : i ≤ hi) : intIn (.int i) lo hi = true := by
  show (decide (lo ≤ i) && decide (i ≤ hi)) = true
  rw [decide_eq_true h1, decide_eq_true h2]
  all_goals rfl
theorem small5 {n : Nat} (h : n ≤ 100000) : n < sizeLine := Nat.lt_of_le_of_lt h (by decide)
theorem dec_i (i j : Int) : decide (V.int i = V.int j) = decide (i = j) := by
  rw [Bool.eq_iff_iff]
  simp
theorem AnyV.mono {T : Addr → Prop} {H H' : Hp} {v : V} (a : AnyV T H v) (s : Same H H') : AnyV T H' v := by
  cases a with
  | non => exact .non
  | bl b => exact .bl b
  | int i => exact .int i
  | str x => exact .str x
  | lst e => exact .lst (s _ _ e)
  | tup e => exact .tup (s _ _ e)
  | dct e => exact .dct (s _ _ e)
  | ins t e => exact .ins t (s _ _ e)
theorem intIn_int' {x : V} {lo hi : Int} (h : intIn x lo hi = true) : ∃ i, x = .int i ∧ lo ≤ i ∧ i ≤ hi := by
  cases x with
  | int i =>
    have h2 : (decide (lo ≤ i) && decide (i ≤ hi)) = true := h
    rw [Bool.and_eq_true, decide_eq_true_iff, decide_eq_true_iff] at h2
    exact ⟨i, rfl, h2⟩
  | _ => cases h

/-! ### lists of ints -/
theorem dpAll_ints {H : Hp} : ∀ ns : List Int, DpAll K H (ns.map V.int) (ns.map PyData.int)
  | [] => .nil
  | n :: ns => .cons (.int n) (dpAll_ints ns)
theorem dp_ints {H : Hp} {a : Addr} {ns : List Int} (h : SqL K H a (ns.map V.int)) : Dp K H (.ref a) (.list (ns.map PyData.int)) := .lst h (dpAll_ints ns)
theorem dp_tints {H : Hp} {a : Addr} {ns : List Int} (h : SqT K H a (ns.map V.int)) : Dp K H (.ref a) (.tuple (ns.map PyData.int)) := .tup h (dpAll_ints ns)
theorem eqvAll_ints : ∀ ns ms : List Int, PyData.eqvAll (ns.map PyData.int) (ms.map PyData.int) = decide (ns = ms)
  | [], [] => rfl
  | [], _ :: _ => rfl
  | _ :: _, [] => rfl
  | n :: ns, m :: ms => by
    show (PyData.eqv (.int n) (.int m) && PyData.eqvAll (ns.map PyData.int) (ms.map PyData.int)) = _
    rw [eqvAll_ints ns ms]
    show ((n == m) && decide (ns = ms)) = _
    by_cases h1 : n = m
    · by_cases h2 : ns = ms
      · simp [h1, h2]
      · simp [h1, h2]
    · simp [h1]
theorem eqv_ints (ns ms : List Int) : PyData.eqv (.list (ns.map PyData.int)) (.list (ms.map PyData.int)) = decide (ns = ms) := eqvAll_ints ns ms
theorem eqv_tints (ns ms : List Int) : PyData.eqv (.tuple (ns.map PyData.int)) (.tuple (ms.map PyData.int)) = decide (ns = ms) := eqvAll_ints ns ms
theorem shaped_lints (ns : List Int) : SeqAt.shaped (.list (ns.map PyData.int)) = true := PySem.W.shaped_ints ns
/-- an item of a written list at a drawn place -/
theorem at_some (Pr : Int → Prop) {ns : List Int} (h : ∀ z ∈ ns, Pr z) {i : Int} (h0 : 0 ≤ i) (h1 : i < ns.length) : ∃ z, Pr z ∧ atI (ns.map V.int) i = some (V.int z) := by
  obtain ⟨z, hz⟩ : ∃ z, ns[i.toNat]? = some z := ⟨ns[i.toNat]'(by omega), List.getElem?_eq_getElem (by omega)⟩
  refine ⟨z, h z (List.mem_of_getElem? hz), at_of (j := i.toNat) (by omega) (by rw [List.getElem?_map, hz]; rfl)⟩
theorem sorted_ext {l m : List Int} (p : l.Perm m) (h1 : l.Pairwise (· ≤ ·)) (h2 : m.Pairwise (· ≤ ·)) : l = m :=
  p.eq_of_pairwise (fun a b _ _ x y => Int.le_antisymm x y) h1 h2
/-- reading an item within a comprehension: the written part said aloud -/
theorem ix_lK {X : Cx} (h : X.K = K) : IxR X (rIxL K) := by
  subst h
  exact ix_list
/-- the same of a tuple -/
theorem ix_tK {X : Cx} (h : X.K = K) : IxR X (rIxT K) := by
  subst h
  exact ix_tup
/-- name op= e, by the operation in place -/
theorem ip_op {X : Cx} {op : Operator} {r : R2} (ho : OpR X (inplaceOp op) r) : PIp X op r := fun pins s σ H x y v u Q I r1 r2 h => ho pins s σ H x y v u Q I r1 r2 h

/-! ### is_integer, and the checks -/
def spIsInt (T : Tx K mg) : Sp := fun vs H Q _ => ∃ (x : V) (lo hi : Int), vs = [x, .int lo, .int hi] ∧ AnyV (OwnT T) H x ∧ Q (.bl (intIn x lo hi)) H
theorem isi_int (T : Tx K mg) {H : Hp} {x : V} (a : AnyV (OwnT T) H x) : ∃ t, TyX K H x t ∧ (∃ b, PySem.W.kitOne K t (.type "int") = some b ∧ (b = false → ∀ lo hi, intIn x lo hi = false) ∧ ∃ c, PySem.W.kitOne K t (.type "bool") = some c ∧ (c = true → ∀ lo hi, intIn x lo hi = false) ∧ (b = true → c = false → ∃ i, x = .int i)) := by
  cases a with
  | non => exact ⟨_, .base .non, false, kit_ty (by decide +kernel), fun _ _ _ => rfl, false, kit_ty (by decide +kernel), fun _ _ _ => rfl, fun z => nomatch z⟩
  | bl b => exact ⟨_, .base (.bl b), true, kit_ty (by decide +kernel), fun _ _ _ => rfl, true, kit_ty (by decide +kernel), fun _ _ _ => rfl, fun _ z => nomatch z⟩
  | int i => exact ⟨.type "int", .base (.int i), true, kit_ty (by decide +kernel), fun z => Bool.noConfusion z, false, kit_ty (by decide +kernel), fun z => Bool.noConfusion z, fun _ _ => ⟨i, rfl⟩⟩
  | str x => exact ⟨_, .base (.str x), false, kit_ty (by decide +kernel), fun _ _ _ => rfl, false, kit_ty (by decide +kernel), fun _ _ _ => rfl, fun z => nomatch z⟩
  | lst e => exact ⟨_, .base (.lst e), false, kit_ty (by decide +kernel), fun _ _ _ => rfl, false, kit_ty (by decide +kernel), fun _ _ _ => rfl, fun z => nomatch z⟩
  | tup e => exact ⟨_, .base (.tup e), false, kit_ty (by decide +kernel), fun _ _ _ => rfl, false, kit_ty (by decide +kernel), fun _ _ _ => rfl, fun z => nomatch z⟩
  | dct e => exact ⟨_, .base (.dK e), false, kit_ty (by decide +kernel), fun _ _ _ => rfl, false, kit_ty (by decide +kernel), fun _ _ _ => rfl, fun z => nomatch z⟩
  | ins t e => exact ⟨_, .base (t.ty e), false, t.nint, fun _ _ _ => rfl, false, t.nbool, fun _ _ _ => rfl, fun z => nomatch z⟩
theorem ok_is_integer (T : Tx K mg) : FnOk P w K mg base CX0 lv_is_integer T.a_is_integer T.d_is_integer ["told", "low", "high"] (spIsInt T) := by
  refine T.F_is_integer.ok sc_is_integer (fun vs H Q E h => ?_) (fun cdv A outer s H vs Q E hr h => ?_)
  · obtain ⟨x, lo, hi, rfl, _⟩ := h
    rfl
  · obtain ⟨x, lo, hi, rfl, a, k⟩ := h
    refine ⟨_, (pss_one (ps_ret (pe_and (pe_callB call_isi (by rfl) T.n_isinstance (by decide +kernel) (pa_cons (pv 0) (pa_cons (pe_bltn (v := .ty "int") rfl T.n_int (by decide +kernel) rfl) pa_nil))) (pe_and (pe_not (pe_callB call_isi (by rfl) T.n_isinstance (by decide +kernel) (pa_cons (pv 0) (pa_cons (pe_bltn (v := .ty "bool") rfl T.n_bool (by decide +kernel) rfl) pa_nil)))) (pe_one (pe_chain op_le op_le (pv 1) (pv 0) (pv 2))))))), ?_⟩
    obtain ⟨t, ty, b, e1, h1, c, e2, h2, h3⟩ := isi_int T a
    refine ⟨_, rfl, _, _, _, _, b, rfl, .ty _, ty, e1, b, rfl, ?_⟩
    cases b with
    | false => exact iteF (by rw [h1 rfl lo hi] at k; exact k)
    | true =>
      refine iteT ?_
      refine ⟨_, rfl, _, _, _, _, c, rfl, .ty _, ty, e2, c, rfl, _, rfl, ?_⟩
      cases c with
      | true => exact iteF (by rw [h2 rfl lo hi] at k; exact k)
      | false =>
        refine iteT ?_
        obtain ⟨i, rfl⟩ := h3 rfl rfl
        refine ⟨_, rfl, _, rfl, _, _, rfl, rfl, _, rfl, ?_⟩
        have ke : Q (V.bl (decide (lo ≤ i) && decide (i ≤ hi))) H := k
        refine ite2 (fun c1 => ?_) (fun c1 => ?_)
        · rw [c1] at ke
          exact ⟨_, rfl, _, _, rfl, rfl, ke⟩
        · rw [show decide (lo ≤ i) = false from by simpa using c1] at ke
          exact ke
/-- base, take and the like: a value in the range, or the error of the class C -/
def spChk (T : Tx K mg) (C : Addr) (lo hi : Int) : Sp := fun vs H Q E => ∃ x : V, vs = [x] ∧ AnyV (OwnT T) H x ∧ (intIn x lo hi = true → Q .non H) ∧ (intIn x lo hi = false → E (.ref C) none H)

theorem ok_check_base (T : Tx K mg) : FnOk P w K mg base (L2.CX P w) lv_check_base T.a_check_base T.d_check_base ["base"] (spChk T T.C_BadBase 2 16) := by
  refine T.F_check_base.okX sc_check_base (fun vs H Q E h => ?_) (fun cdv A outer s H vs Q E hr h => ?_)
  · obtain ⟨x, rfl, _⟩ := h
    rfl
  · obtain ⟨x, rfl, a, k1, k2⟩ := h
    refine ⟨_, (pss_one (ps_if (pt_not (pt_val (pe_call (ok_is_integer T) (hr.mono (by decide)) rfl T.g_is_integer T.F_is_integer.kp T.b_is_integer .nil pass0 (pa_cons (pv 0) (pa_cons (pe_glob (v := .int 2) rfl T.c_LEAST_BASE ⟨_, rfl⟩) (pa_cons (pe_glob (v := .int 16) rfl T.c_GREATEST_BASE ⟨_, rfl⟩) pa_nil)))))) (pss_one (ps_raise rfl (takes_of rfl rfl rfl rfl) (pmk_own PySem.F.excBase_ValueError T.x_BadBase T.g_BadBase T.k_BadBase (raises_own T.s_BadBase T.t_BadBase) rfl))) pss_nil)), ?_⟩
    refine ⟨_, rfl, _, _, _, rfl, a, _, rfl, ?_⟩
    cases e : intIn x 2 16 with
    | true => exact iteF (k1 e)
    | false => exact iteT (k2 e)

theorem ok_check_take (T : Tx K mg) : FnOk P w K mg base (L2.CX P w) lv_check_take T.a_check_take T.d_check_take ["take"] (spChk T T.C_BadTake 1 2) := by
  refine T.F_check_take.okX sc_check_take (fun vs H Q E h => ?_) (fun cdv A outer s H vs Q E hr h => ?_)
  · obtain ⟨x, rfl, _⟩ := h
    rfl
  · obtain ⟨x, rfl, a, k1, k2⟩ := h
    refine ⟨_, (pss_one (ps_if (pt_not (pt_val (pe_call (ok_is_integer T) (hr.mono (by decide)) rfl T.g_is_integer T.F_is_integer.kp T.b_is_integer .nil pass0 (pa_cons (pv 0) (pa_cons pe_int (pa_cons (pe_glob (v := .int 2) rfl T.c_GREATEST_TAKE ⟨_, rfl⟩) pa_nil)))))) (pss_one (ps_raise rfl (takes_of rfl rfl rfl rfl) (pmk_own PySem.F.excBase_ValueError T.x_BadTake T.g_BadTake T.k_BadTake (raises_own T.s_BadTake T.t_BadTake) rfl))) pss_nil)), ?_⟩
    refine ⟨_, rfl, _, _, _, rfl, a, _, rfl, ?_⟩
    cases e : intIn x 1 2 with
    | true => exact iteF (k1 e)
    | false => exact iteT (k2 e)

/-! ### divisors up to a greatest one -/
def spDivisor (T : Tx K mg) : Sp := fun vs H Q E => ∃ (x : V) (g : Int), vs = [x, .int g] ∧ 1 ≤ g ∧ g ≤ 100 ∧ AnyV (OwnT T) H x ∧ (intIn x 1 g = true → Q .non H) ∧ (intIn x 1 g = false → E (.ref T.C_BadDivisor) none H)
theorem ok_check_divisor (T : Tx K mg) : FnOk P w K mg base (L2.CX P w) lv_check_divisor T.a_check_divisor T.d_check_divisor ["d", "greatest"] (spDivisor T) := by
  refine FunD.ok T.F_check_divisor sc_check_divisor (fun vs H Q E h => ?_) (fun cdv A outer s H vs Q E hr h => ?_)
  · obtain ⟨x, g, rfl, _⟩ := h
    rfl
  · obtain ⟨x, g, rfl, g1, g2, a, k1, k2⟩ := h
    refine ⟨_, (pss_one (ps_if (pt_not (pt_val (pe_call (ok_is_integer T) (hr.mono (by decide)) rfl T.g_is_integer T.F_is_integer.kp T.b_is_integer .nil pass0 (pa_cons (pv 0) (pa_cons pe_int (pa_cons (pv 1) pa_nil)))))) (pss_one (ps_raise rfl (takes_of rfl rfl rfl rfl) (SkE.pmk_own1 PySem.F.excBase_ValueError T.x_BadDivisor T.g_BadDivisor T.k_BadDivisor (raises_own T.s_BadDivisor T.t_BadDivisor) rfl (pe_joined (PJ.cons pe_str (PJ.cons (pe_fmt (pv 1)) PJ.nil)))))) pss_nil)), ?_⟩
    refine ⟨_, rfl, _, rfl, _, _, _, rfl, a, _, rfl, ?_⟩
    cases e : intIn x 1 g with
    | true => exact iteF (k1 e)
    | false =>
      have sm : g.natAbs.log2 < 1920 := Nat.lt_of_le_of_lt (Nat.log2_le_self _) (by omega)
      refine iteT ⟨_, rfl, (by rw [Str.length_append, sizeLine_eq]; exact Nat.le_trans (Nat.add_le_add (Nat.zero_le 0) (show ("no integer from 1 to " : Str).length ≤ 21 by decide)) (by decide)), _, rfl, .inr ⟨g, rfl, sm, _, rfl, ?_, k2 e⟩⟩
      rw [Str.length_append, Str.length_append, sizeLine_eq]
      have e0 := int_text_length_le (k := 1920) (by decide) sm
      have e2 : (Str.ofString (toString g)).length = (toString g).length := PySem.ofString_length _
      have e3 : ("no integer from 1 to " : Str).length ≤ 21 := by decide
      have e4 : Str.empty.length = 0 := rfl
      have e5 : ((toString g : Str)).length = (Str.ofString (toString g)).length := rfl
      omega

/-! ### a program's own == ; errors that leave a call within a try -/
def NoSub (K : PySem.W.Frag) (C : Addr) (H : Hp) (y : V) : Prop := (∃ b dy gs, y = .ref b ∧ H b = some (.ins C dy gs)) ∨ (∃ b xs, y = .ref b ∧ H b = some (.tup xs) ∧ PySem.W.subIn K (.type "tuple") (.ref C) = some false)
def rOwn (K : PySem.W.Frag) (C : Addr) (sp : Sp) (E : XK) : R2 := fun x y H Q => ∃ a dx fs, x = .ref a ∧ H a = some (.ins C dx fs) ∧ NoSub K C H y ∧ sp [x, y] H (fun v H' => (∃ k, v = .bl k) ∧ Q v H') E
section
variable {X : Cx}
theorem op_own {n : Nat} {CX : CXT} {C f : Addr} {fd : FuncData} {ps : List Str} {sp : Sp} {E : XK} (G : FnOk X.prog X.w X.K X.mg X.base CX n f fd ps sp) (hr : Room n X.A)
    (hs : PySem.W.findIn X.K (.ref C) "__eq__" = some (some (.ref f))) (hf : PySem.W.isFn X.K (.ref f) = true) (hb : Binds X.K fd ps []) (hx : Passes CX X E) : OpR X (compareOp .Eq) (rOwn X.K C sp E) := by
  intro pins s σ H x y v u Q I rx ry hq
  obtain ⟨a, dx, fs, rfl, ha, hy, hsp⟩ := hq
  obtain rfl : v = Value.ref a := rx
  obtain ⟨mA, O, _⟩ := ins_get I.hok ha
  obtain ⟨od, J, _⟩ := O.look
  obtain ⟨m, hF⟩ := I.fr
  have hl : ([V.ref a, y] : List V).length = ps.length := G.len _ _ _ _ hsp
  have back : wpAny (model X.prog X.w) X.A (call (.ref f) [.ref a, u]) (PySem.W.CmpBack (EP X pins σ Q)) X.xe s := by
    have rv : Vals [V.ref a, y] [Value.ref a, u] := .cons rfl (.cons ry .nil)
    have bd := hb s [.ref a, u] I.kIn (by rw [List.append_nil]; exact hl)
    rw [List.append_nil] at bd
    refine wpAny_call (codeAny_mono (G.run X.A X.stack s H ⟨[.ref a, u], []⟩ [.ref a, u] _ _ E hr I.env0 bd rv hsp) fun r s' hw => ?_)
    match r, hw with
    | .error e, hw => exact hx pins σ H s e s' I hw
    | .ok (.ret w'), hw =>
      obtain ⟨z, H', I', rz, ⟨k, ek⟩, qz⟩ := I.after hw
      subst ek
      cases rz
      exact ⟨.bl k, H', I', rfl, qz⟩
    | .ok .next, hw => exact hw.elim
    | .ok .brk, hw => exact hw.elim
    | .ok .cont, hw => exact hw.elim
  show wpAny (model X.prog X.w) X.A (richCompare .Eq (.ref a) u) _ _ s
  rcases hy with ⟨b, dy, gs, rfl, hb'⟩ | ⟨b, xs, rfl, hb', hsub⟩
  · obtain rfl : u = Value.ref b := ry
    obtain ⟨mB, O', _⟩ := ins_get I.hok hb'
    obtain ⟨od', J', _⟩ := O'.look
    exact PySem.W.cmp_K (op := .Eq) (tb := .ref C) hr.units0 hF I.ok.mod.kin J J'.type (by simp [PySem.W.notFirst]) hs hf back
  · obtain rfl : u = Value.ref b := ry
    obtain ⟨_, its, _, o, ho, hc, _⟩ := (show ObjOk X.prog X.w H s.heap b (.tup xs) from I.hok b _ hb')
    exact PySem.W.cmp_K (op := .Eq) (tb := .type "tuple") hr.units0 hF I.ok.mod.kin J (fun A' Q' E' s2 k2 q2 => wpAny_typeOf_ref (k2 _ _ ho) (by rw [hc]; exact q2)) (by simp [PySem.W.notFirst, hsub]) hs hf back
/-- what a call lets out is taken, whatever the slots hold -/
theorem passN {W : WX} (tk : Takes X W) : Passes (L2.CX X.prog X.w) X (fun cls d H => ∀ σ : L2.St, σ.length = X.N.length → W cls d σ H) :=
  fun _ σ _ _ e s' I c => tk e s' (XE.of_call I (fun _ _ _ h => h σ I.len) c)
end

/-! ### try with clauses, each with a name or without one -/
structure Cl where
  cls : Value
  slot : Option Nat
  ts : Addr → Value → Option Addr → TS
/-- behind a suite its name is forgotten -/
def offName (D : Ends) (i : Nat) : Ends := ⟨fun σ H => D.nx (σ.set i none) H, D.rt, fun σ H => D.bk (σ.set i none) H, fun σ H => D.ct (σ.set i none) H⟩
def Cl.wish (q : Cl) (a : Addr) (k : Value) (d : Option Addr) (D : Ends) (σ : L2.St) (H : Hp) : Prop := match q.slot with
  | none => q.ts a k d D σ H
  | some i => q.ts a k d (offName D i) (σ.set i (some (.ref a))) H
def wX (K : PySem.W.Frag) (Wo : WX) (D : Ends) : List Cl → WX
  | [] => Wo
  | q :: r => fun k d σ H => ∃ b, PySem.W.exmOne K k q.cls = some b ∧ (b = true → ∀ a, H a = none → q.wish a k d D σ H) ∧ (b = false → wX K Wo D r k d σ H)
inductive HdsX (X : Cx) : List ExceptHandler → List Cl → Prop
  | nil : HdsX X [] []
  | un {x : Str} {c : Value} {ts : Addr → Value → Option Addr → TS} {s0 : Stmt} {su : List Stmt} {p1 p2 : Pos} {hs : List ExceptHandler} {l : List Cl} (nm : Names X x c)
      (ok : ∀ (a : Addr) (oe : Obj) (k : Value) (d : Option Addr) (pn : List (Addr × Obj)), Zc k d oe → (∃ vs, oe.data = .fields vs) → PSs (X.suite a ((a, oe) :: pn)) (s0 :: su) (ts a k d)) (r : HdsX X hs l) :
      HdsX X (.ExceptHandler (some (.Name x p1)) none (s0 :: su) p2 :: hs) (⟨c, none, ts⟩ :: l)
  | as {x n : Str} {i : Nat} {c : Value} {ts : Addr → Value → Option Addr → TS} {s0 : Stmt} {su : List Stmt} {p1 p2 : Pos} {hs : List ExceptHandler} {l : List Cl} (hi : X.N[i]? = some n) (hl : X.env.kindOf n = some .local) (nm : Names X x c)
      (ok : ∀ (a : Addr) (oe : Obj) (k : Value) (d : Option Addr) (pn : List (Addr × Obj)), Zc k d oe → (∃ vs, oe.data = .fields vs) → PSs (X.suite a ((a, oe) :: pn)) (s0 :: su) (ts a k d)) (r : HdsX X hs l) :
      HdsX X (.ExceptHandler (some (.Name x p1)) (some n) (s0 :: su) p2 :: hs) (⟨c, some i, ts⟩ :: l)
section
variable {X : Cx} {tb : WX → TS} {Wo : WX}
/-- a flight that was landed at the try: what every clause needs of it -/
structure Land (X : Cx) (pins : List (Addr × Obj)) (σ : L2.St) (H : Hp) (a : Addr) (B : Heap) (sI : Shared) (k : Value) (d : Option Addr) (s : Shared) (h : Heap) : Prop where
  ok : X.Ok
  inv : Inv X pins σ H sI
  nb : ∀ b o, sI.heap.get? b = some o → b ∉ frs X.stack → B.get? b = some o
  up : sI.heap.UpToSlots h
  fly : HandSPX.FlyingZ B (X.env :: X.outer) a (Zc k d) h
  na : H a = none
  nL : a ≠ X.env.locals
  nF : a ∉ X.fs
  os : s.os = sI.os
  ag : AllBare s.gens
theorem clauses (hst : X.stack = X.env :: X.outer) (hfr : X.env.frame = some X.env.locals) (hN : X.N.Nodup) (tk : Takes X Wo) {pins : List (Addr × Obj)} {σ : L2.St} {H : Hp} {a : Addr} {B : Heap} {sI : Shared} {k : Value} {d : Option Addr} {s : Shared} {h : Heap} {D : Ends}
    (L : Land X pins σ H a B sI k d s h) : ∀ {hds : List ExceptHandler} {l : List Cl}, HdsX X hds l → wX X.K Wo D l k d σ H → wpAny (model X.prog X.w) X.A (handleBy (.ref a) X.env hds) (SP X pins D) X.xe { s with heap := h } := by
  have Jh : Inv X pins σ H { s with heap := h } := L.inv.landed L.nb L.fly.1 L.up L.os L.ag
  -- a clause's test
  have tst : ∀ {x : Str} {c : Value} {p1 : Pos} {b : Bool} {Q : Bool → Shared → Prop} {E E2 : Value → Shared → Prop}, Names X x c → PySem.W.exmOne X.K k c = some b → Q b { s with heap := h } →
      wpAny (model X.prog X.w) (X.A.mark (some (.ref a))) (eval (.Name x p1) X.env) (fun v s1 => wpAny (model X.prog X.w) (X.A.mark (some (.ref a))) (excMatches (.ref a) v) Q E s1) E2 { s with heap := h } := by
    intro x c p1 b Q E E2 nm e q
    obtain ⟨oe, fv, g1, g2, g3⟩ := L.fly.there
    have S := Jh.suite g1 g3 L.na L.nL L.nF
    have look : PySem.W.Looks (model X.prog X.w) h (typeOf (.ref a)) k := fun A' Q' E' s2 k2 q2 => wpAny_typeOf_ref (k2 _ _ g1) (by rw [g2.1]; exact q2)
    have m := PySem.W.exm_one (M := model X.prog X.w) Jh.kIn look e
    obtain ⟨n1, n2, n3 | ⟨n3, n4, n5⟩⟩ := nm
    · exact ld_glob (X := X.suite a ((a, oe) :: (X.pn ++ pins))) S n1 n3 (m.here q) n2
    · exact ld_blt (X := X.suite a ((a, oe) :: (X.pn ++ pins))) S n1 n3 n4 (m.here q) n5 n2
  intro hds l hk
  induction hk with
  | nil =>
    intro w
    refine wpAny_handleBy_nil ?_
    obtain ⟨_, _, _, oe, fv, t0, _, _, g1, g2, g3, g4, _⟩ := id L.fly
    have out : wpAny (model X.prog X.w) X.A (setFlight (.ref a) X.env.frame) (fun _ s4 => wpAny (model X.prog X.w) X.A (throw (.ref a) : Sem Flow) (SP X pins D) X.xe s4) X.xe { s with heap := h } := by
      rw [hfr]
      exact HandSPX.setFlight_upZ L.fly fun h4 hh4 up4 => wpAny_throw (tk _ _ ⟨a, B, sI, pins, σ, H, k, d, rfl, L.inv, L.nb, L.up.trans up4, .inr (.inr (by rw [hst]; exact hh4)), L.na, L.os, L.ag, w⟩)
    have neN : ¬ ((Value.ref t0 == Value.none) = true) := by simp
    unfold PySem.passOn
    refine wpAny_bind (wpAny_field g1 g3 g4 ?_)
    rw [if_neg neN]
    first
      | exact wpAny_bind (wpAny_pure (wpAny_bind out))
      | exact wpAny_bind out
  | un nm ok r ih =>
    intro w
    obtain ⟨b, e, yes, no⟩ := w
    refine wpAny_handleBy_cons (codeAny_handlers_test (tst nm e ?_)) (by intro q; cases q)
    cases b with
    | false => exact ih (no rfl)
    | true =>
      refine codeAny_handlers_suite (HandSPX.lands_againZ L.fly fun h4 fl4 up4 => ?_)
      obtain ⟨oe, fv, g1, g2, g3⟩ := fl4.there
      have J4 : Inv X pins σ H { s with heap := h4 } := L.inv.landed L.nb fl4.1 (L.up.trans up4) L.os L.ag
      have S := J4.suite g1 g3 L.na L.nL L.nF
      refine wpAny_mono ((ok a oe k d (X.pn ++ pins) g2 ⟨_, g3⟩).run [] _ _ H _ S (yes rfl a L.na)) (fun f s6 z => ?_) (fun _ _ z => z.elim)
      match f, z with
      | .next, ⟨_, _, z, q⟩ => exact ⟨_, _, z.unsuite L.ok, q⟩
      | .brk, ⟨_, _, z, q⟩ => exact ⟨_, _, z.unsuite L.ok, q⟩
      | .cont, ⟨_, _, z, q⟩ => exact ⟨_, _, z.unsuite L.ok, q⟩
      | .ret _, ⟨_, _, _, z, rv, q⟩ => exact ⟨_, _, _, z.unsuite L.ok, rv, q⟩
  | @as x n i c ts s0 su p1 p2 hs l hi hl nm ok r ih =>
    intro w
    obtain ⟨b, e, yes, no⟩ := w
    refine wpAny_handleBy_cons (codeAny_handlers_test (tst nm e ?_)) (by intro q; cases q)
    cases b with
    | false => exact ih (no rfl)
    | true =>
      refine codeAny_handlers_suite_as (HandSPX.lands_againZ L.fly fun h4 fl4 up4 => ?_)
      obtain ⟨oe, fv, g1, g2, g3⟩ := fl4.there
      have J4 : Inv X pins σ H { s with heap := h4 } := L.inv.landed L.nb fl4.1 (L.up.trans up4) L.os L.ag
      have S := J4.suite g1 g3 L.na L.nL L.nF
      refine store_ok (X := X.suite a ((a, oe) :: (X.pn ++ pins))) (v := .ref a) S hN hi (.inl hl) rfl (fun s5 S5 => ?_) (.inr hl)
      refine wpAny_mono ((ok a oe k d (X.pn ++ pins) g2 ⟨_, g3⟩).run [] s5 _ H _ S5 (yes rfl a L.na)) (fun f s6 z => ?_) (fun _ _ z => z.elim)
      have off : ∀ {σ6 : L2.St} {H6 : Hp} {Q : Shared → Prop}, Inv (X.suite a ((a, oe) :: (X.pn ++ pins))) [] σ6 H6 s6 → (∀ s7, Inv X pins (σ6.set i none) H6 s7 → Q s7) →
          wpAny (model X.prog X.w) X.A (do bindName X.env n .none; unbindBehindTheSuite X.env n p2) (fun _ s7 => Q s7) X.xe s6 := fun z hq => gone_ok (z.unsuite L.ok) hN hi hl hq
      match f, z with
      | .next, ⟨_, _, z, q⟩ => exact off z fun s7 J => ⟨_, _, J, q⟩
      | .brk, ⟨_, _, z, q⟩ => exact off z fun s7 J => ⟨_, _, J, q⟩
      | .cont, ⟨_, _, z, q⟩ => exact off z fun s7 J => ⟨_, _, J, q⟩
      | .ret _, ⟨_, _, _, z, rv, q⟩ => exact off z fun s7 J => ⟨_, _, _, J, rv, q⟩
theorem ps_try_x {body : List Stmt} {h0 : ExceptHandler} {hds : List ExceptHandler} {l : List Cl} {pos : Pos} (hst : X.stack = X.env :: X.outer) (hfr : X.env.frame = some X.env.locals) (hN : X.N.Nodup) (tk : Takes X Wo)
    (hb : ∀ (W : WX) (pn : List (Addr × Obj)) (xe : Value → Shared → Prop), Takes (X.tr pn xe) W → PassesOwn (model X.prog X.w) X.A X.env xe → PSs (X.tr pn xe) body (tb W)) (hh : HdsX X (h0 :: hds) l) :
    PS X (.Try body (h0 :: hds) [] [] pos) (fun D σ H => tb (wX X.K Wo D l) D σ H) := by
  refine ⟨fun pins s σ H D I w => wpAny_Try_except ?_⟩
  have ok := I.ok
  refine wpAny_mono ((hb (wX X.K Wo D l) (X.pn ++ pins) (fun e s1 => wpAny (model X.prog X.w) X.A (noteFrame e X.env) (fun _ s2 => wpAny (model X.prog X.w) X.A (setFlight e none) (fun _ s3 =>
    wpAny (model X.prog X.w) X.A (handleBy e X.env (h0 :: hds)) (SP X pins D) X.xe s3) X.xe s2) X.xe s1) (fun u s' q => ?_) PassesOwn.looking).run [] s σ H D (I.toTry _) w) (fun f s1 z => ?_) (fun _ _ z => z)
  · obtain ⟨a, B, sI, pi, σ', H', k, d, rfl, J', nb, up, sky, na, os, ag, w'⟩ := q
    have J := J'.ofTry (X := X) ok
    rw [show (X.tr (X.pn ++ pins) _).stack = X.stack from rfl, hst] at sky
    show wpAny (model X.prog X.w) X.A (noteFrame (.ref a) X.env) _ _ _
    refine Sky.land Zc.steady (by rw [ok.frames, hst]) hfr sky fun h3 fl3 up3 => ?_
    obtain ⟨oe, fv, g1, g2, g3⟩ := fl3.there
    have far : a ∉ frs (X.env :: X.outer) := fun hm => by
      obtain ⟨_, o', e', nf⟩ := fl3.2.2.1.mem hm
      exact nf _ ((Option.some.inj (g1.symm.trans e')) ▸ g3)
    refine clauses hst hfr hN tk ⟨ok, J, nb, up.trans up3, fl3, na, fun z => far ?_, fun hm => far ?_, os, ag⟩ hh w'
    · exact List.mem_filterMap.mpr ⟨X.env, List.mem_cons_self, by rw [hfr, z]⟩
    · obtain ⟨e2, he2, q2⟩ := List.mem_filterMap.mp hm
      exact List.mem_filterMap.mpr ⟨e2, List.mem_cons_of_mem _ he2, q2⟩
  · match f, z with
    | .next, ⟨_, _, z, q⟩ => exact wpAny_execs_nil ⟨_, _, z.ofTry ok, q⟩
    | .brk, ⟨_, _, z, q⟩ => exact ⟨_, _, z.ofTry ok, q⟩
    | .cont, ⟨_, _, z, q⟩ => exact ⟨_, _, z.ofTry ok, q⟩
    | .ret _, ⟨_, _, _, z, rv, q⟩ => exact ⟨_, _, _, z.ofTry ok, rv, q⟩
end

/-! ### the block -/
def blockOf (b t : Int) : Int := if t = 1 then b else b * b
theorem block_bd {b t : Int} (h1 : 2 ≤ b) (h2 : b ≤ 16) : 2 ≤ blockOf b t ∧ blockOf b t ≤ 256 := by
  unfold blockOf
  split
  · omega
  · have q : b * b ≤ 16 * 16 := Int.mul_le_mul h2 h2 (by omega) (by omega)
    have r : 2 * 2 ≤ b * b := Int.mul_le_mul h1 h1 (by omega) (by omega)
    omega
theorem pow_block {b t : Int} (t1 : 1 ≤ t) (t2 : t ≤ 2) : b ^ t.toNat = blockOf b t := by
  unfold blockOf
  by_cases h : t = 1
  · rw [if_pos h, h]
    exact Int.pow_succ b 0 |>.trans (by rw [Int.pow_zero, Int.one_mul])
  · have h2 : t = 2 := by omega
    rw [if_neg h, h2]
    exact Int.pow_succ b 1 |>.trans (by rw [Int.pow_succ, Int.pow_zero, Int.one_mul])

/-! ### tricks -/
def spBlockOf : Sp := fun vs H Q _ => ∃ b t : Int, vs = [.int b, .int t] ∧ 2 ≤ b ∧ b ≤ 16 ∧ Q (.int (blockOf b t)) H
theorem ok_block_of (T : Tx K mg) : FnOk P w K mg base CX0 lv_block_of T.a_block_of T.d_block_of ["base", "take"] spBlockOf := by
  refine T.F_block_of.ok sc_block_of (fun vs H Q E h => ?_) (fun cdv A outer s H vs Q E hr h => ?_)
  · obtain ⟨b, t, rfl, _⟩ := h
    rfl
  · obtain ⟨b, t, rfl, h1, h2, k⟩ := h
    refine ⟨_, (pss_one (ps_ret (pe_ifExp (pt_cmpR op_eq (pv 1) pe_int (nomark _)) (pv 0) (pe_op op_mul (pv 0) (pv 0))))), ?_⟩
    refine ⟨_, rfl, rfl, _, rfl, ?_⟩
    refine ite2 (fun c => ?_) (fun c => ?_)
    · have c1 : t = 1 := by simpa using c
      have k2 : Q (.int b) H := by
        have e : blockOf b t = b := by unfold blockOf; rw [if_pos c1]
        rw [e] at k
        exact k
      exact ⟨_, rfl, k2⟩
    · have c1 : ¬ t = 1 := by simpa using c
      have k2 : Q (.int (b * b)) H := by
        have e : blockOf b t = b * b := by unfold blockOf; rw [if_neg c1]
        rw [e] at k
        exact k
      exact ⟨_, rfl, _, rfl, _, _, rfl, rfl, .inl ⟨by omega, by omega⟩, k2⟩

/-- a trick's attributes -/
def tf (b t m : Int) : List (Str × V) := putF "_times" (.int m) (putF "_take" (.int t) (putF "_base" (.int b) []))
theorem n1 : ¬ (("_base" : Str) = "_take") := by decide +kernel
theorem n2 : ¬ (("_base" : Str) = "_times") := by decide +kernel
theorem n3 : ¬ (("_take" : Str) = "_times") := by decide +kernel
theorem tf_eq (b t m : Int) : tf b t m = ([("_base", V.int b), ("_take", V.int t), ("_times", V.int m)] : List (Str × V)) := by
  have e2 : putF "_take" (V.int t) (putF "_base" (V.int b) []) = ([("_base", V.int b), ("_take", V.int t)] : List (Str × V)) := by
    show (if ("_base" : Str) = "_take" then [(("_base" : Str), V.int t)] else (("_base" : Str), V.int b) :: putF "_take" (V.int t) []) = _
    rw [if_neg n1]
    all_goals rfl
  unfold tf
  rw [e2]
  show (if ("_base" : Str) = "_times" then _ else (("_base" : Str), V.int b) :: (if ("_take" : Str) = "_times" then _ else (("_take" : Str), V.int t) :: putF "_times" (V.int m) [])) = _
  rw [if_neg n2, if_neg n3]
  all_goals rfl
theorem tf_base (b t m : Int) : (tf b t m).lookup ("_base" : Str) = some (.int b) := by
  unfold tf
  rw [lookup_putF, if_neg n2, lookup_putF, if_neg n1, lookup_putF, if_pos rfl]
theorem tf_take (b t m : Int) : (tf b t m).lookup ("_take" : Str) = some (.int t) := by
  unfold tf
  rw [lookup_putF, if_neg n3, lookup_putF, if_pos rfl]
theorem tf_times (b t m : Int) : (tf b t m).lookup ("_times" : Str) = some (.int m) := by
  unfold tf
  rw [lookup_putF, if_pos rfl]
/-- the Trick of these parts stands at p -/
def TrickAt (T : Tx K mg) (H : Hp) (p : Addr) (b t m : Int) : Prop := (∃ dx, H p = some (.ins T.C_Trick dx (tf b t m))) ∧ 2 ≤ b ∧ b ≤ 16 ∧ 1 ≤ t ∧ t ≤ 2 ∧ -100 ≤ m ∧ m ≤ 100
theorem TrickAt.same {T : Tx K mg} {H H' : Hp} {p : Addr} {b t m : Int} (h : TrickAt T H p b t m) (s : Same H H') : TrickAt T H' p b t m :=
  let ⟨⟨dx, e⟩, r⟩ := h
  ⟨⟨dx, s _ _ e⟩, r⟩
theorem TrickAt.but {T : Tx K mg} {H H' : Hp} {p r : Addr} {b t m : Int} (h : TrickAt T H p b t m) (s : But r H H') (n : p ≠ r) : TrickAt T H' p b t m :=
  let ⟨⟨dx, e⟩, q⟩ := h
  ⟨⟨dx, s _ _ e n⟩, q⟩
theorem TrickAt.any {T : Tx K mg} {H : Hp} {p : Addr} {b t m : Int} (h : TrickAt T H p b t m) : AnyV (OwnT T) H (.ref p) :=
  let ⟨⟨_, e⟩, _⟩ := h
  .ins (by first | exact rfl | exact Or.inl rfl) e
theorem isi_trick (T : Tx K mg) {H : Hp} {x : V} (a : AnyV (fun _ => False) H x) : ∃ t, TyX K H x t ∧ PySem.W.kitOne K t (.ref T.C_Trick) = some false := by
  cases a with
  | non => exact ⟨_, .base .non, T.kin_Trick_NoneType⟩
  | bl b => exact ⟨_, .base (.bl b), T.kin_Trick_bool⟩
  | int i => exact ⟨_, .base (.int i), T.kin_Trick_int⟩
  | str x => exact ⟨_, .base (.str x), T.kin_Trick_str⟩
  | lst e => exact ⟨_, .base (.lst e), T.kin_Trick_list⟩
  | tup e => exact ⟨_, .base (.tup e), T.kin_Trick_tuple⟩
  | dct e => exact ⟨_, .base (.dK e), T.kin_Trick_dict⟩
  | ins t e => exact t.elim

/-- Trick(b, t, m) of good parts: a new object; nothing that stood is changed -/
def spTrickI (T : Tx K mg) : Sp := fun vs H Q _ => ∃ (p dx : Addr) (b t m : Int), vs = [.ref p, .int b, .int t, .int m] ∧ H p = some (.ins T.C_Trick dx []) ∧ 2 ≤ b ∧ b ≤ 16 ∧ 1 ≤ t ∧ t ≤ 2 ∧ -100 ≤ m ∧ m ≤ 100 ∧
  ∀ H', TrickAt T H' p b t m → (∀ c o, H c = some o → c ≠ p → H' c = some o) → Q .non H'
theorem ok_Trick___init__ (T : Tx K mg) : FnOk P w K mg base CX0 lv_Trick___init__ T.a_Trick___init__ T.d_Trick___init__ ["self", "base", "take", "times"] (spTrickI T) := by
  refine T.F_Trick___init__.ok sc_Trick___init__ (fun vs H Q E h => ?_) (fun cdv A outer s H vs Q E hr h => ?_)
  · obtain ⟨p, dx, b, t, m, rfl, _⟩ := h
    rfl
  · obtain ⟨p, dx, b, t, m, rfl, hp, b1, b2, t1, t2, m1, m2, k⟩ := h
    refine ⟨_, (pss_cons (ps_expr (pe_call (ok_check_base T) (hr.mono (by decide)) rfl T.g_check_base T.F_check_base.kp T.b_check_base .nil passL (pa_cons (pv 1) pa_nil)))
      (pss_cons (ps_expr (pe_call (ok_check_take T) (hr.mono (by decide)) rfl T.g_check_take T.F_check_take.kp T.b_check_take .nil passL (pa_cons (pv 2) pa_nil)))
      (pss_cons (ps_if (pt_not (pt_val (pe_call (ok_is_integer T) (hr.mono (by decide)) rfl T.g_is_integer T.F_is_integer.kp T.b_is_integer .nil pass0 (pa_cons (pv 3) (pa_cons (pe_un un_neg (pe_glob (v := .int 100) rfl T.c_GREATEST_TIMES ⟨_, rfl⟩)) (pa_cons (pe_glob (v := .int 100) rfl T.c_GREATEST_TIMES ⟨_, rfl⟩) pa_nil)))))) (pss_one ps_never) pss_nil)
      (pss_cons (ps_fld (pv 0) (pv 1) rfl)
      (pss_cons (ps_fld (pv 0) (pv 2) rfl)
      (pss_one (ps_fld (pv 0) (pv 3) rfl))))))), ?_⟩
    refine ⟨_, rfl, _, rfl, .int b, fun _ => ?_, fun z => Bool.noConfusion ((intIn_of b1 b2).symm.trans z)⟩
    refine ⟨_, rfl, _, rfl, .int t, fun _ => ?_, fun z => Bool.noConfusion ((intIn_of t1 t2).symm.trans z)⟩
    refine ⟨_, rfl, _, rfl, _, _, _, rfl, .int m, _, rfl, ?_⟩
    rw [intIn_of m1 m2]
    refine iteF ?_
    refine ⟨_, rfl, _, rfl, p, _, dx, _, rfl, hp, T.cl_Trick, T.na_Trick_base, (by show 0 < 1000; decide), ?_⟩
    refine ⟨_, rfl, _, rfl, p, _, dx, _, rfl, upd_same, T.cl_Trick, T.na_Trick_take, (by show 1 < 1000; decide), ?_⟩
    refine ⟨_, rfl, _, rfl, p, _, dx, _, rfl, upd_same, T.cl_Trick, T.na_Trick_times, (by show 2 < 1000; decide), ?_⟩
    refine k _ ⟨⟨dx, upd_same⟩, b1, b2, t1, t2, m1, m2⟩ fun c o e hc => ?_
    rw [upd_ne hc, upd_ne hc, upd_ne hc]
    exact e
/-- a Trick of good parts is made -/
theorem mk_trick {T : Tx K mg} {H1 : Hp} {p dx : Addr} {b t m : Int} {R : Hp → Prop} {E : XK} (np : H1 p = none) (nd : H1 dx = none) (b1 : 2 ≤ b) (b2 : b ≤ 16) (t1 : 1 ≤ t) (t2 : t ≤ 2) (m1 : -100 ≤ m) (m2 : m ≤ 100)
    (k : ∀ H2, TrickAt T H2 p b t m → Same H1 H2 → R H2) : spTrickI T (.ref p :: ([.int b, .int t, .int m] ++ [])) (upd (upd H1 dx (.own p)) p (.ins T.C_Trick dx [])) (fun v H2 => v = .non ∧ R H2) E :=
  ⟨p, dx, b, t, m, rfl, upd_same, b1, b2, t1, t2, m1, m2, fun H2 hT kp => ⟨rfl, k H2 hT (Same.made np nd kp)⟩⟩

/-! ### a trick's parts, its block -/
def spGet (T : Tx K mg) (f : Int → Int → Int → Int) : Sp := fun vs H Q _ => ∃ (p : Addr) (b t m : Int), vs = [.ref p] ∧ TrickAt T H p b t m ∧ Q (.int (f b t m)) H
theorem ok_Trick_base (T : Tx K mg) : FnOk P w K mg base CX0 lv_Trick_base T.a_Trick_base T.d_Trick_base ["self"] (spGet T fun b _ _ => b) := by
  refine T.F_Trick_base.ok sc_Trick_base (fun vs H Q E h => ?_) (fun cdv A outer s H vs Q E hr h => ?_)
  · obtain ⟨p, b, t, m, rfl, _⟩ := h
    rfl
  · obtain ⟨p, b, t, m, rfl, ⟨⟨dx, e⟩, _⟩, k⟩ := h
    exact ⟨_, (pss_one (ps_ret (pe_fld (pv 0) rfl))), _, rfl, p, _, dx, _, _, rfl, e, T.cl_Trick, T.na_Trick_base, tf_base b t m, k⟩
theorem ok_Trick_take (T : Tx K mg) : FnOk P w K mg base CX0 lv_Trick_take T.a_Trick_take T.d_Trick_take ["self"] (spGet T fun _ t _ => t) := by
  refine T.F_Trick_take.ok sc_Trick_take (fun vs H Q E h => ?_) (fun cdv A outer s H vs Q E hr h => ?_)
  · obtain ⟨p, b, t, m, rfl, _⟩ := h
    rfl
  · obtain ⟨p, b, t, m, rfl, ⟨⟨dx, e⟩, _⟩, k⟩ := h
    exact ⟨_, (pss_one (ps_ret (pe_fld (pv 0) rfl))), _, rfl, p, _, dx, _, _, rfl, e, T.cl_Trick, T.na_Trick_take, tf_take b t m, k⟩
theorem ok_Trick_times (T : Tx K mg) : FnOk P w K mg base CX0 lv_Trick_times T.a_Trick_times T.d_Trick_times ["self"] (spGet T fun _ _ m => m) := by
  refine T.F_Trick_times.ok sc_Trick_times (fun vs H Q E h => ?_) (fun cdv A outer s H vs Q E hr h => ?_)
  · obtain ⟨p, b, t, m, rfl, _⟩ := h
    rfl
  · obtain ⟨p, b, t, m, rfl, ⟨⟨dx, e⟩, _⟩, k⟩ := h
    exact ⟨_, (pss_one (ps_ret (pe_fld (pv 0) rfl))), _, rfl, p, _, dx, _, _, rfl, e, T.cl_Trick, T.na_Trick_times, tf_times b t m, k⟩

theorem ok_trick_block (T : Tx K mg) : FnOk P w K mg base CX0 lv_trick_block T.a_trick_block T.d_trick_block ["trick"] (spGet T fun b t _ => blockOf b t) := by
  refine T.F_trick_block.ok sc_trick_block (fun vs H Q E h => ?_) (fun cdv A outer s H vs Q E hr h => ?_)
  · obtain ⟨p, b, t, m, rfl, _⟩ := h
    rfl
  · obtain ⟨p, b, t, m, rfl, a, k⟩ := h
    obtain ⟨⟨dx, e⟩, b1, b2, _⟩ := id a
    exact ⟨_, (pss_one (ps_ret (pe_call (ok_block_of T) (hr.mono (by decide)) rfl T.g_block_of T.F_block_of.kp T.b_block_of .nil pass0 (pa_cons (pe_prop (pv 0) T.cl_Trick T.p_Trick_base (ok_Trick_base T) (hr.mono (by decide)) T.b_Trick_base .nil pass0 rfl) (pa_cons (pe_prop (pv 0) T.cl_Trick T.p_Trick_take (ok_Trick_take T) (hr.mono (by decide)) T.b_Trick_take .nil pass0 rfl) pa_nil))))), _, rfl, p, dx, _, rfl, e, p, b, t, m, rfl, a, _, rfl, p, dx, _, rfl, e, p, b, t, m, rfl, a, b, t, rfl, b1, b2, k⟩

/-- what is a Trick, or the error -/
def isTrick (T : Tx K mg) (H : Hp) (x : V) : Prop := ∃ p b t m, x = .ref p ∧ TrickAt T H p b t m
def spChkTrick (T : Tx K mg) : Sp := fun vs H Q E => ∃ x : V, vs = [x] ∧ ((∃ p dx fs, x = .ref p ∧ H p = some (.ins T.C_Trick dx fs) ∧ Q .non H) ∨ (AnyV (fun _ => False) H x ∧ E (.ref T.C_BadTrick) none H))
theorem ok_check_trick (T : Tx K mg) : FnOk P w K mg base (L2.CX P w) lv_check_trick T.a_check_trick T.d_check_trick ["trick"] (spChkTrick T) := by
  refine T.F_check_trick.okX sc_check_trick (fun vs H Q E h => ?_) (fun cdv A outer s H vs Q E hr h => ?_)
  · obtain ⟨x, rfl, _⟩ := h
    rfl
  · obtain ⟨x, rfl, h⟩ := h
    refine ⟨_, (pss_one (ps_if (pt_not (pt_val (pe_callB call_isi (by rfl) T.n_isinstance (by decide +kernel) (pa_cons (pv 0) (pa_cons (pe_glob (v := .ref T.C_Trick) rfl T.g_Trick rfl) pa_nil))))) (pss_one (ps_raise rfl (takes_of rfl rfl rfl rfl) (pmk_own PySem.F.excBase_ValueError T.x_BadTrick T.g_BadTrick T.k_BadTrick (raises_own T.s_BadTrick T.t_BadTrick) rfl))) pss_nil)), ?_⟩
    rcases h with ⟨p, dx, fs, rfl, e, k⟩ | ⟨a, k⟩
    · exact ⟨_, rfl, _, _, _, _, _, rfl, .own _, .base (T.ins_Trick _ _ _ _ e), T.kis_Trick, _, rfl, iteF k⟩
    · obtain ⟨t, ty, e⟩ := isi_trick T a
      exact ⟨_, rfl, _, _, _, _, _, rfl, .own _, ty, e, _, rfl, iteT k⟩

/-! ### what a trick makes; the stretch behind which all comes again -/
def made (b t m n : Int) : Int := n / blockOf b t + m * n.fmod (blockOf b t)
def spMadeW (K : PySem.W.Frag) : Sp := fun vs H Q _ => ∃ B m n : Int, vs = [.int B, .int m, .int n] ∧ 2 ≤ B ∧ B ≤ 256 ∧ -100 ≤ m ∧ m ≤ 100 ∧ Q (.int (n / B + m * n.fmod B)) H
theorem ok_made_with (T : Tx K mg) : FnOk P w K mg base CX0 lv_made_with T.a_made_with T.d_made_with ["block", "times", "n"] (spMadeW K) := by
  refine T.F_made_with.ok sc_made_with (fun vs H Q E h => ?_) (fun cdv A outer s H vs Q E hr h => ?_)
  · obtain ⟨B, m, n, rfl, _⟩ := h
    rfl
  · obtain ⟨B, m, n, rfl, B1, B2, m1, m2, k⟩ := h
    refine ⟨_, (pss_one (ps_ret (pe_op op_add (pe_op op_fdivW (pv 2) (pv 0)) (pe_op op_mul (pv 1) (pe_op op_modN (pv 2) (pv 0)))))), ?_⟩
    refine ⟨_, rfl, _, rfl, _, _, rfl, rfl, wide_div (show 0 < B by omega) (b := 9) (show B.natAbs < 2 ^ 9 by omega) (by decide) (by decide), ?_⟩
    exact ⟨_, rfl, _, rfl, _, rfl, _, _, rfl, rfl, (show B ≠ 0 by omega), _, _, rfl, rfl, .inl (show -(2 ^ 64) < m ∧ m < 2 ^ 64 from ⟨by omega, by omega⟩), _, _, rfl, rfl, k⟩
def spMade (T : Tx K mg) : Sp := fun vs H Q _ => ∃ (p : Addr) (b t m n : Int), vs = [.ref p, .int n] ∧ TrickAt T H p b t m ∧ Q (.int (made b t m n)) H
theorem ok_made_of (T : Tx K mg) : FnOk P w K mg base CX0 lv_made_of T.a_made_of T.d_made_of ["trick", "n"] (spMade T) := by
  refine T.F_made_of.ok sc_made_of (fun vs H Q E h => ?_) (fun cdv A outer s H vs Q E hr h => ?_)
  · obtain ⟨p, b, t, m, n, rfl, _⟩ := h
    rfl
  · obtain ⟨p, b, t, m, n, rfl, a, k⟩ := h
    obtain ⟨⟨dx, e⟩, b1, b2, t1, t2, m1, m2⟩ := id a
    obtain ⟨B1, B2⟩ := block_bd (t := t) b1 b2
    refine ⟨_, (pss_one (ps_ret (pe_call (ok_made_with T) (hr.mono (by decide)) rfl T.g_made_with T.F_made_with.kp T.b_made_with .nil pass0 (pa_cons (pe_call (ok_trick_block T) (hr.mono (by decide)) rfl T.g_trick_block T.F_trick_block.kp T.b_trick_block .nil pass0 (pa_cons (pv 0) pa_nil)) (pa_cons (pe_prop (pv 0) T.cl_Trick T.p_Trick_times (ok_Trick_times T) (hr.mono (by decide)) T.b_Trick_times .nil pass0 rfl) (pa_cons (pv 1) pa_nil)))))), ?_⟩
    refine ⟨_, rfl, p, b, t, m, rfl, a, ?_⟩
    refine ⟨_, rfl, p, dx, _, rfl, e, p, b, t, m, rfl, a, ?_⟩
    exact ⟨_, rfl, _, _, _, rfl, by omega, by omega, m1, m2, k⟩

def spPeriod (T : Tx K mg) : Sp := fun vs H Q _ => ∃ (p : Addr) (b t m d : Int), vs = [.ref p, .int d] ∧ TrickAt T H p b t m ∧ Q (.int (blockOf b t * d)) H
theorem ok_period (T : Tx K mg) : FnOk P w K mg base CX0 lv_period T.a_period T.d_period ["trick", "d"] (spPeriod T) := by
  refine T.F_period.ok sc_period (fun vs H Q E h => ?_) (fun cdv A outer s H vs Q E hr h => ?_)
  · obtain ⟨p, b, t, m, d, rfl, _⟩ := h
    rfl
  · obtain ⟨p, b, t, m, d, rfl, a, k⟩ := h
    obtain ⟨⟨dx, e⟩, b1, b2, t1, t2, m1, m2⟩ := id a
    obtain ⟨B1, B2⟩ := block_bd (t := t) b1 b2
    exact ⟨_, (pss_one (ps_ret (pe_op op_mul (pe_call (ok_trick_block T) (hr.mono (by decide)) rfl T.g_trick_block T.F_trick_block.kp T.b_trick_block .nil pass0 (pa_cons (pv 0) pa_nil)) (pv 1)))), _, rfl, p, b, t, m, rfl, a, _, rfl, _, _, rfl, rfl, .inl (show -(2 ^ 64) < blockOf b t ∧ blockOf b t < 2 ^ 64 from ⟨by omega, by omega⟩), k⟩
/-! ### the least number for which it fails -/
/-- None, or the number -/
def optV : Option Nat → V
  | none => .non
  | some n => .int (n : Int)
theorem find_at {f : Nat → Bool} {i k : Nat} (h : ∀ j, j < i → f j = false) (hf : f i = true) (hk : i < k) : (List.range k).find? f = some i := by
  rw [List.find?_range_eq_some]
  exact ⟨hf, List.mem_range.mpr hk, fun j hj => by rw [h j hj]; rfl⟩
theorem find_none {f : Nat → Bool} {k : Nat} (h : ∀ j, j < k → f j = false) : (List.range k).find? f = none := by
  rw [List.find?_eq_none]
  exact fun j hj => by rw [h j (List.mem_range.mp hj)]; exact Bool.false_ne_true
def failAt (b t m d : Int) (n : Int) : Bool := decide (n.fmod d = 0) != decide ((made b t m n).fmod d = 0)
def unlikeAt (b t m d : Int) (n : Int) : Bool := !decide (n.fmod d = (made b t m n).fmod d)
def spFails (T : Tx K mg) (f : Int → Int → Int → Int → Int → Bool) : Sp := fun vs H Q _ => ∃ (p : Addr) (b t m d : Int), vs = [.ref p, .int d] ∧ TrickAt T H p b t m ∧ 1 ≤ d ∧ d ≤ 100 ∧
  Q (optV ((List.range (blockOf b t * d).toNat).find? fun i => f b t m d (i : Int))) H

theorem ok_fails (T : Tx K mg) : FnOk P w K mg base CX0 lv_fails T.a_fails T.d_fails ["trick", "d"] (spFails T failAt) := by
  refine T.F_fails.ok sc_fails (fun vs H Q E h => ?_) (fun cdv A outer s H vs Q E hr h => ?_)
  · obtain ⟨p, b, t, m, d, rfl, _⟩ := h
    rfl
  · obtain ⟨p, b, t, m, d, rfl, a, d1, d2, k⟩ := h
    obtain ⟨⟨dx, e⟩, b1, b2, t1, t2, m1, m2⟩ := id a
    obtain ⟨B1, B2⟩ := block_bd (t := t) b1 b2
    have hBd : blockOf b t * d ≤ 256 * 100 := Int.mul_le_mul B2 d2 (by omega) (by omega)
    have hB0 : 0 ≤ blockOf b t * d := Int.mul_nonneg (by omega) (by omega)
    refine ⟨_, (pss_cons (ps_expr (pe_call (ok_check_trick T) (hr.mono (by decide)) rfl T.g_check_trick T.F_check_trick.kp T.b_check_trick .nil passL (pa_cons (pv 0) pa_nil)))
      (pss_cons (ps_expr (pe_call (ok_check_divisor T) (hr.mono (by decide)) rfl T.g_check_divisor T.F_check_divisor.kp T.bd_check_divisor T.rd_check_divisor passL (pa_cons (pv 1) pa_nil)))
      (pss_cons (ps_for PassesOwn.never rfl (pi_range1 (by rfl) T.n_range (pa_cons (pe_call (ok_period T) (hr.mono (by decide)) rfl T.g_period T.F_period.kp T.b_period .nil pass0 (pa_cons (pv 0) (pa_cons (pv 1) pa_nil))) pa_nil)) (pg_name (i := 2) sc_fails.nd rfl (Or.inl rfl)) (pss_one (ps_if (pt_cmpR op_ne (pe_cmpR op_eq (pe_op op_modN (pv 2) (pv 1)) pe_int (nomark _)) (pe_cmpR op_eq (pe_op op_modN (pe_call (ok_made_of T) (hr.mono (by decide)) rfl T.g_made_of T.F_made_of.kp T.b_made_of .nil pass0 (pa_cons (pv 0) (pa_cons (pv 2) pa_nil))) (pv 1)) pe_int (nomark _)) (nomark _)) (pss_one (ps_ret (pv 2))) pss_nil)))
      (pss_one (ps_ret pe_non))))), ?_⟩
    refine ⟨_, rfl, _, rfl, .inl ⟨p, dx, _, rfl, e, ?_⟩⟩
    refine ⟨_, rfl, _, 100, rfl, by decide, by decide, .int d, fun _ => ?_, fun z => Bool.noConfusion ((intIn_of d1 d2).symm.trans z)⟩
    refine ⟨_, rfl, _, rfl, p, b, t, m, d, rfl, a, _, rfl, (show -(2 ^ 62) ≤ blockOf b t * d by omega), (show blockOf b t * d < 2 ^ 62 by omega), ?_⟩
    refine for_range (lo := 0) (n := (blockOf b t * d).toNat) (fun i σ H2 => ∃ v : Option V, σ = [some (.ref p), some (.int d), v] ∧ H2 = H ∧ ∀ j, j < i → failAt b t m d (j : Int) = false) ⟨none, rfl, rfl, fun j hj => absurd hj (by omega)⟩ ?_ ?_
    · rintro i σ H2 hi ⟨v, rfl, rfl, hall⟩
      have ei : (0 : Int) + (i : Int) = (i : Int) := Int.zero_add _
      rw [ei]
      refine ⟨_, rfl, _, rfl, _, _, rfl, rfl, (show d ≠ 0 by omega), rfl, _, rfl, _, rfl, p, b, t, m, _, rfl, a, _, rfl, _, _, rfl, rfl, (show d ≠ 0 by omega), rfl, rfl, _, rfl, ?_⟩
      have ef : (!decide (V.bl (decide (V.int ((i : Int).fmod d) = V.int 0)) = V.bl (decide (V.int ((made b t m (i : Int)).fmod d) = V.int 0)))) = failAt b t m d (i : Int) := by
        unfold failAt
        rw [dec_i, dec_i, dec_bl]
        rfl
      refine ite2 (fun g => ?_) (fun g => ?_)
      · have g1 : failAt b t m d (i : Int) = true := by rw [← ef]; exact g
        rw [find_at (f := fun i => failAt b t m d (i : Int)) hall g1 hi] at k
        exact ⟨_, rfl, k⟩
      · have g1 : failAt b t m d (i : Int) = false := by rw [← ef]; simpa using g
        exact ⟨_, rfl, rfl, fun j hj => by rcases Nat.lt_or_ge j i with z | z; exact hall j z; rw [show j = i by omega]; exact g1⟩
    · rintro σ H2 ⟨v, rfl, rfl, hall⟩
      rw [find_none hall] at k
      exact k

/-! ### the law's draws: what is drawn lies in its range; nothing but the row of the draws changes -/
theorem fmod_bd (x : Int) {m : Int} (h : 0 < m) : 0 ≤ x.fmod m ∧ x.fmod m < m := by
  rw [Int.fmod_eq_emod_of_nonneg x (by omega)]
  exact ⟨Int.emod_nonneg x (by omega), Int.emod_lt_of_pos x h⟩
abbrev rowL (a : Addr) (i s c : Int) : List V := [.ref a, .int i, .int s, .int c]
/-- the script at a: locked, or of the top's own -/
def Scr (K : PySem.W.Frag) (H : Hp) (a : Addr) (xs : List V) : Prop := (∃ o, H a = some (.frz o (.lst xs))) ∨ SqL K (fun _ => none) a xs
theorem scr_of {H : Hp} {a : Addr} {xs : List V} (hO : ∀ b, H b = none ∨ ∃ o xs, H b = some (.frz o (.lst xs))) (h : SqL K H a xs) : Scr K H a xs := by
  rcases h with (h | h) | h
  · rcases hO a with z | ⟨o, ys, z⟩
    · rw [z] at h; cases h
    · rw [z] at h; cases h
  · exact .inl h
  · exact .inr (.inr h)
theorem Scr.seq {H : Hp} {a : Addr} {xs : List V} (h : Scr K H a xs) : SqL K H a xs := by
  rcases h with h | (h | ⟨o, h⟩) | h
  · exact .inl (.inr h)
  · cases h
  · cases h
  · exact .inr h
theorem Scr.mono {H H' : Hp} {a : Addr} {xs : List V} (h : Scr K H a xs) (k : ∀ b o u, H b = some (.frz o u) → H' b = some (.frz o u)) : Scr K H' a xs := by
  rcases h with ⟨o, h⟩ | h
  · exact .inl ⟨o, k _ _ _ h⟩
  · exact .inr h
/-- at r the row of the draws over the script at a -/
def RowAt (K : PySem.W.Frag) (H : Hp) (r a : Addr) (ns : List Int) : Prop := ∃ i s c : Int, H r = some (.lst (rowL a i s c)) ∧ 0 ≤ i ∧ 0 ≤ c ∧ Scr K H a (ns.map V.int) ∧ ns.length ≤ 63
theorem RowAt.same {H H' : Hp} {r a : Addr} {ns : List Int} (h : RowAt K H r a ns) (e : Same H H') : RowAt K H' r a ns :=
  let ⟨i, s, c, h1, h2, h3, h4, h5⟩ := h
  ⟨i, s, c, e _ _ h1, h2, h3, h4.mono fun _ _ _ z => e _ _ z, h5⟩
/-- another list is changed -/
theorem RowAt.put {H : Hp} {r a q : Addr} {ns : List Int} {ys : List V} {o : HO} (h : RowAt K H r a ns) (hq : H q = some (.lst ys)) (n : q ≠ r) : RowAt K (upd H q o) r a ns :=
  let ⟨i, s, c, h1, h2, h3, h4, h5⟩ := h
  ⟨i, s, c, by rw [upd_ne (Ne.symm n)]; exact h1, h2, h3, h4.mono fun b o' u z => by rw [upd_ne (ne_of z hq (by intro y; cases y))]; exact z, h5⟩
/-- the row as the law lays it -/
theorem RowAt.start {H : Hp} {r a : Addr} {ns : List Int} {i s c : Int} (hr : H r = none) (hS : Scr K H a (ns.map V.int)) (hl : ns.length ≤ 63) (hi : 0 ≤ i) (hc : 0 ≤ c) : RowAt K (upd H r (.lst (rowL a i s c))) r a ns :=
  ⟨i, s, c, upd_same, hi, hc, hS.mono fun b o u z => by rw [upd_ne (ne_of_none z hr)]; exact z, hl⟩
def spTaken (K : PySem.W.Frag) : Sp := fun vs H Q _ => ∃ (r a : Addr) (ns : List Int) (m : Int), vs = [.ref r, .int m] ∧ 0 < m ∧ m ≤ 10 ^ 41 ∧ RowAt K H r a ns ∧
  ∀ (v : Int) (H' : Hp), 0 ≤ v → v < m → RowAt K H' r a ns → But r H H' → Q (.int v) H'
theorem ok__law_taken (T : Tx K mg) : FnOk P w K mg base CX0 lv__law_taken T.a__law_taken T.d__law_taken ["_law_row", "_law_many"] (spTaken K) := by
  refine T.F__law_taken.ok sc__law_taken (fun vs H Q E h => ?_) (fun cdv A outer s H vs Q E hr h => ?_)
  · obtain ⟨r, a, ns, m, rfl, _⟩ := h
    rfl
  · obtain ⟨r, a, ns, m, rfl, m0, m1, ⟨i, s, c, hR, i0, c0, hK, hlen⟩, k⟩ := h
    have hKB : ∀ H', But r H H' → Scr K H' a (ns.map V.int) := fun H' b => hK.mono fun c o u z => b c _ z (ne_of z hR (by intro y; cases y))
    have hdv : ∀ x : Int, CDivW x m := fun x => wide_div m0 (b := 140) (by omega) (by decide) (by decide)
    have back : ∀ (v : Int) (i' s' c' : Int) (H' : Hp), 0 ≤ v → v < m → 0 ≤ i' → 0 ≤ c' → H' r = some (.lst (rowL a i' s' c')) → But r H H' → Q (.int v) H' := fun v i' s' c' H' v0 v1 z1 z2 e b =>
      k v H' v0 v1 ⟨i', s', c', e, z1, z2, hKB _ b, hlen⟩ b
    refine ⟨_, (pss_cons (ps_if (pt_cmpR op_gt (pe_ix ix_list (pv 0) pe_int (fun _ _ => rfl)) pe_int (nomark _)) (pss_cons (ps_set (i := 2) sc__law_taken.nd rfl (Or.inl rfl) (pe_op op_modN (pe_callTy call_int1 (by rfl) T.n_int (by decide +kernel) (pa_cons (pe_ix ix_list (pv 0) pe_int (fun _ _ => rfl)) pa_nil)) (pv 1)))
      (pss_cons (ps_asg (pe_op op_fdivW (pe_ix ix_list (pv 0) pe_int (fun _ _ => rfl)) (pv 1)) (pg_sub (pv 0) pe_int set_list))
      (pss_one (ps_ret (pv 2))))) pss_nil)
      (pss_cons (ps_asg (pe_op op_add (pe_ix ix_list (pv 0) pe_int (fun _ _ => rfl)) pe_int) (pg_sub (pv 0) pe_int set_list))
      (pss_cons (ps_if (pt_cmpR op_gt (pe_ix ix_list (pv 0) pe_int (fun _ _ => rfl)) (pe_callB call_len_seq (by rfl) T.n_len (by decide +kernel) (pa_cons (pe_ix ix_list (pv 0) pe_int (fun _ _ => rfl)) pa_nil)) (nomark _)) (pss_cons (ps_asg (pe_op op_modN (pe_callTy call_int1 (by rfl) T.n_int (by decide +kernel) (pa_cons (pe_op op_add (pe_op op_mul (pe_ix ix_list (pv 0) pe_int (fun _ _ => rfl)) pe_int) pe_int) pa_nil)) pe_int) (pg_sub (pv 0) pe_int set_list))
      (pss_one (ps_ret (pe_op op_modN (pe_callTy call_int1 (by rfl) T.n_int (by decide +kernel) (pa_cons (pe_op op_fdivW (pe_ix ix_list (pv 0) pe_int (fun _ _ => rfl)) pe_int) pa_nil)) (pv 1))))) pss_nil)
      (pss_cons (ps_set (i := 3) sc__law_taken.nd rfl (Or.inl rfl) (pe_ix ix_list (pe_ix ix_list (pv 0) pe_int (fun _ _ => rfl)) (pe_op op_sub (pe_ix ix_list (pv 0) pe_int (fun _ _ => rfl)) pe_int) (fun _ _ => rfl)))
      (pss_cons (ps_asg (pe_op op_modN (pe_callTy call_int1 (by rfl) T.n_int (by decide +kernel) (pa_cons (pe_op op_add (pe_op op_add (pe_op op_mul (pe_ix ix_list (pv 0) pe_int (fun _ _ => rfl)) pe_int) (pv 3)) pe_int) pa_nil)) pe_int) (pg_sub (pv 0) pe_int set_list))
      (pss_cons (ps_if (pt_cmpR op_ge (pv 3) (pe_op op_pow pe_int pe_int) (nomark _)) (pss_one (ps_asg (pe_op op_fdivW (pv 3) (pv 1)) (pg_sub (pv 0) pe_int set_list))) pss_nil)
      (pss_one (ps_ret (pe_op op_modN (pe_callTy call_int1 (by rfl) T.n_int (by decide +kernel) (pa_cons (pv 3) pa_nil)) (pv 1)))))))))), ?_⟩
    refine ⟨_, rfl, r, _, _, _, rfl, rfl, SqL.of hR, rfl, _, _, rfl, rfl, _, rfl, ?_⟩
    refine ite2 (fun g => ?_) (fun g => ?_)
    · -- a great cell's digits
      obtain ⟨v0, v1⟩ := fmod_bd c m0
      refine ⟨_, rfl, r, _, _, _, rfl, rfl, SqL.of hR, rfl, .inl ⟨_, rfl, _, rfl, _, _, rfl, rfl, by omega, ?_⟩⟩
      refine ⟨_, rfl, r, _, _, _, rfl, rfl, SqL.of hR, rfl, _, rfl, _, _, rfl, rfl, hdv c, _, rfl, r, _, _, _, rfl, rfl, hR, rfl, ?_⟩
      exact ⟨_, rfl, back _ i s (c / m) _ v0 v1 i0 (Int.ediv_nonneg c0 (by omega)) upd_same But.put⟩
    · refine ⟨_, rfl, r, _, _, _, rfl, rfl, SqL.of hR, rfl, _, _, rfl, rfl, _, rfl, r, _, _, _, rfl, rfl, hR, rfl, ?_⟩
      -- behind the script's end?
      have hR1 : upd H r (.lst (rowL a (i + 1) s c)) r = some (.lst (rowL a (i + 1) s c)) := upd_same
      have hB1 : But r H (upd H r (.lst (rowL a (i + 1) s c))) := But.put
      have hS1 : SqL K (upd H r (.lst (rowL a (i + 1) s c))) a (ns.map V.int) := (hKB _ hB1).seq
      refine ⟨_, rfl, r, _, _, _, rfl, rfl, SqL.of hR1, rfl, _, rfl, r, _, _, _, rfl, rfl, SqL.of hR1, rfl, a, _, rfl, .inl hS1, _, _, rfl, rfl, _, rfl, ?_⟩
      refine ite2 (fun g2 => ?_) (fun g2 => ?_)
      · refine ⟨_, rfl, r, _, _, _, rfl, rfl, SqL.of hR1, rfl, _, _, rfl, rfl, .inr ⟨by decide, by decide⟩, _, _, rfl, rfl, .inl ⟨_, rfl, _, _, rfl, rfl, (show (2147483647 : Int) ≠ 0 by decide), ?_⟩⟩
        refine ⟨_, rfl, r, _, _, _, rfl, rfl, hR1, rfl, ?_⟩
        refine ⟨_, rfl, r, _, _, _, rfl, rfl, SqL.of upd_same, rfl, _, _, rfl, rfl, wide_div (by decide) (b := 3) (by decide) (by decide) (by decide), .inl ⟨_, rfl, _, rfl, _, _, rfl, rfl, by omega, ?_⟩⟩
        obtain ⟨v0, v1⟩ := fmod_bd ((s * 48271 + 11).fmod 2147483647 / 7) m0
        exact back _ (i + 1) _ c _ v0 v1 (by omega) c0 upd_same (hB1.trans But.put)
      · have g3 : i + 1 ≤ (ns.length : Int) := by
          simp only [decide_eq_true_eq, List.length_map] at g2
          omega
        obtain ⟨z, hz⟩ : ∃ z, ns[i.toNat]? = some z := ⟨ns[i.toNat]'(by omega), List.getElem?_eq_getElem (by omega)⟩
        have hz1 : atI (ns.map V.int) (i + 1 - 1) = some (V.int z) := at_of (j := i.toNat) (by omega) (by rw [List.getElem?_map, hz]; rfl)
        refine ⟨_, rfl, r, _, _, _, rfl, rfl, SqL.of hR1, rfl, _, rfl, r, _, _, _, rfl, rfl, SqL.of hR1, rfl, _, _, rfl, rfl, a, _, _, _, rfl, rfl, hS1, hz1, ?_⟩
        refine ⟨_, rfl, r, _, _, _, rfl, rfl, SqL.of hR1, rfl, _, _, rfl, rfl, .inr ⟨by decide, by decide⟩, _, rfl, _, _, rfl, rfl, _, _, rfl, rfl, .inl ⟨_, rfl, _, _, rfl, rfl, (show (2147483647 : Int) ≠ 0 by decide), ?_⟩⟩
        refine ⟨_, rfl, r, _, _, _, rfl, rfl, hR1, rfl, ?_⟩
        have hR2 : upd (upd H r (.lst (rowL a (i + 1) s c))) r (.lst (rowL a (i + 1) ((s * 48271 + z + 11).fmod 2147483647) c)) r = some (.lst (rowL a (i + 1) ((s * 48271 + z + 11).fmod 2147483647) c)) := upd_same
        have hB2 : But r H (upd (upd H r (.lst (rowL a (i + 1) s c))) r (.lst (rowL a (i + 1) ((s * 48271 + z + 11).fmod 2147483647) c))) := hB1.trans But.put
        obtain ⟨v0, v1⟩ := fmod_bd z m0
        refine ⟨_, rfl, _, _, rfl, rfl, ⟨by decide, by decide, by decide⟩, _, _, rfl, rfl, _, rfl, ?_⟩
        refine ite2 (fun g4 => ?_) (fun g4 => ?_)
        · refine ⟨_, rfl, _, rfl, _, _, rfl, rfl, hdv z, _, rfl, r, _, _, _, rfl, rfl, hR2, rfl, ?_⟩
          have z0 : 0 ≤ z := by
            have g5 : (10 : Int) ^ 18 ≤ z := by simpa using g4
            exact Int.le_trans (by decide) g5
          refine ⟨_, rfl, .inl ⟨_, rfl, _, rfl, _, _, rfl, rfl, by omega, ?_⟩⟩
          exact back _ (i + 1) _ (z / m) _ v0 v1 (by omega) (Int.ediv_nonneg z0 (by omega)) upd_same (hB2.trans But.put)
        · refine ⟨_, rfl, .inl ⟨_, rfl, _, rfl, _, _, rfl, rfl, by omega, ?_⟩⟩
          exact back _ (i + 1) _ c _ v0 v1 (by omega) c0 hR2 hB2

/-! ### a menu: an item of a written list at a drawn place -/
theorem RowAt.new {H : Hp} {r a p : Addr} {ns : List Int} {o : HO} (h : RowAt K H r a ns) (hp : H p = none) : RowAt K (upd H p o) r a ns := h.same (same_upd hp)
theorem RowAt.ne {H : Hp} {r a p : Addr} {ns : List Int} (h : RowAt K H r a ns) (hp : H p = none) : p ≠ r :=
  let ⟨_, _, _, h1, _⟩ := h
  (ne_of_none h1 hp).symm
theorem But.new {H H1 : Hp} {r p : Addr} {o : HO} (b : But r H H1) (hp : H1 p = none) : But r H (upd H1 p o) := b.trans (Same.but (same_upd hp))
theorem But.free {H H1 : Hp} {r p : Addr} (b : But r H H1) (n : p ≠ r) (hp : H1 p = none) : H p = none := by
  cases q : H p with
  | none => rfl
  | some o =>
    rw [b p o q n] at hp
    cases hp
/-- an item of the list laid at p, at a place that is drawn -/
theorem menu {H1 : Hp} {r a p : Addr} {ns items : List Int} {m : Int} (Pr : Int → Prop) (hP : ∀ z ∈ items, Pr z) (hl : (items.length : Int) = m) (R1 : RowAt K H1 r a ns) (hp : H1 p = none) {Q : VK}
    (k : ∀ (z : Int) (H2 : Hp), Pr z → RowAt K H2 r a ns → But r H1 H2 → H2 p = some (.lst (items.map V.int)) → Q (.int z) H2) (h0 : 0 < m) (h1 : m ≤ 10 ^ 41) :
    spTaken K ([.ref r, .int m] ++ []) (upd H1 p (.lst (items.map V.int))) (fun y H2 => rIxL K (.ref p) y H2 Q) E0 := by
  refine ⟨r, a, ns, m, rfl, h0, h1, R1.new hp, fun w H2 w0 w1 R2 B2 => ?_⟩
  obtain ⟨z, hz, he⟩ := at_some Pr hP w0 (by omega)
  have npr := R1.ne hp
  exact ⟨p, _, _, _, rfl, rfl, SqL.of (B2 _ _ upd_same npr), he, k z H2 hz R2 ((Same.but (same_upd hp)).trans B2) (B2 _ _ upd_same npr)⟩
theorem at_someV (Pr : V → Prop) {xs : List V} (h : ∀ z ∈ xs, Pr z) {i : Int} (h0 : 0 ≤ i) (h1 : i < xs.length) : ∃ z, Pr z ∧ atI xs i = some z := by
  obtain ⟨z, hz⟩ : ∃ z, xs[i.toNat]? = some z := ⟨xs[i.toNat]'(by omega), List.getElem?_eq_getElem (by omega)⟩
  exact ⟨z, h z (List.mem_of_getElem? hz), at_of (j := i.toNat) (by omega) hz⟩
theorem menuV {H1 : Hp} {r a p : Addr} {ns : List Int} {items : List V} {m : Int} (Pr : V → Prop) (hP : ∀ z ∈ items, Pr z) (hl : (items.length : Int) = m) (R1 : RowAt K H1 r a ns) (hp : H1 p = none) {Q : VK}
    (k : ∀ (z : V) (H2 : Hp), Pr z → RowAt K H2 r a ns → But r H1 H2 → H2 p = some (.lst items) → Q z H2) (h0 : 0 < m) (h1 : m ≤ 10 ^ 41) :
    spTaken K ([.ref r, .int m] ++ []) (upd H1 p (.lst items)) (fun y H2 => rIxL K (.ref p) y H2 Q) E0 := by
  refine ⟨r, a, ns, m, rfl, h0, h1, R1.new hp, fun w H2 w0 w1 R2 B2 => ?_⟩
  obtain ⟨z, hz, he⟩ := at_someV Pr hP w0 (by omega)
  have npr := R1.ne hp
  exact ⟨p, _, _, _, rfl, rfl, SqL.of (B2 _ _ upd_same npr), he, k z H2 hz R2 ((Same.but (same_upd hp)).trans B2) (B2 _ _ upd_same npr)⟩
/-- a plain value: None, a bool, an int, a text -/
def flatA : V → Bool
  | .non => true | .bl _ => true | .int _ => true | .str _ => true | _ => false
theorem any_flat {T : Addr → Prop} {H : Hp} {v : V} (h : flatA v = true) : AnyV T H v := by
  cases v with
  | non => exact .non
  | bl b => exact .bl b
  | int i => exact .int i
  | str x => exact .str x
  | _ => cases h

/-! ### all numbers, by those of one stretch -/
theorem made_shift {b t m d n q : Int} (h : 2 ≤ blockOf b t) : made b t m (n + blockOf b t * (d * q)) = made b t m n + d * q := by
  unfold made
  rw [Int.fmod_eq_emod_of_nonneg _ (by omega), Int.fmod_eq_emod_of_nonneg _ (by omega), Int.add_mul_emod_self_left, Int.add_mul_ediv_left _ _ (by omega)]
  omega
/-- what is so for all rests of the stretch is so for all numbers -/
theorem of_stretch {b t m d : Int} (f : Int → Int → Int → Int → Int → Bool) (hf : ∀ x y, x.fmod d = y.fmod d → (made b t m x).fmod d = (made b t m y).fmod d → f b t m d x = f b t m d y) (h : 2 ≤ blockOf b t) (hd : 1 ≤ d)
    (h0 : (List.range (blockOf b t * d).toNat).find? (fun (i : Nat) => f b t m d (i : Int)) = none) (n : Int) : f b t m d n = false := by
  have hp : 0 < blockOf b t * d := Int.mul_pos (by omega) (by omega)
  have e0 := Int.emod_nonneg n (b := blockOf b t * d) (by omega)
  have e1 := Int.emod_lt_of_pos n hp
  have e2 := Int.mul_ediv_add_emod n (blockOf b t * d)
  have e3 : n = n % (blockOf b t * d) + blockOf b t * (d * (n / (blockOf b t * d))) := by rw [← Int.mul_assoc]; omega
  generalize n / (blockOf b t * d) = q at e3
  generalize n % (blockOf b t * d) = i at e0 e1 e3
  have e4 : i.toNat < (blockOf b t * d).toNat := by omega
  have e5 : f b t m d i = false := by
    have := List.find?_eq_none.mp h0 i.toNat (List.mem_range.mpr e4)
    rw [Int.toNat_of_nonneg e0] at this
    simpa using this
  rw [← e5]
  refine hf n i ?_ ?_
  · rw [e3, Int.fmod_eq_emod_of_nonneg _ (by omega), Int.fmod_eq_emod_of_nonneg _ (by omega), ← Int.mul_assoc, Int.mul_comm (blockOf b t) d, Int.mul_assoc, Int.add_mul_emod_self_left]
  · rw [e3, made_shift h, Int.fmod_eq_emod_of_nonneg _ (by omega), Int.fmod_eq_emod_of_nonneg _ (by omega), Int.add_mul_emod_self_left]
theorem fail_of {b t m d : Int} : ∀ x y, x.fmod d = y.fmod d → (made b t m x).fmod d = (made b t m y).fmod d → failAt b t m d x = failAt b t m d y := fun x y e1 e2 => by
  unfold failAt
  rw [e1, e2]
theorem unlike_of {b t m d : Int} : ∀ x y, x.fmod d = y.fmod d → (made b t m x).fmod d = (made b t m y).fmod d → unlikeAt b t m d x = unlikeAt b t m d y := fun x y e1 e2 => by
  unfold unlikeAt
  rw [e1, e2]
theorem find_succ (f : Nat → Bool) (i : Nat) : (List.range (i + 1)).find? f = ((List.range i).find? f).or (if f i = true then some i else none) := by
  rw [List.range_succ, List.find?_append]
  congr 1
  by_cases h : f i = true
  · rw [if_pos h]; simp [h]
  · rw [if_neg h]; simp [h]
theorem opt_non (o : Option Nat) : decide (optV o = .non) = o.isNone := by
  cases o <;> simp [optV]
theorem scal_opt (o u : Option Nat) : scal (optV o) (optV u) = true := by
  cases o <;> cases u <;> rfl

/-! ### rests, by dividing -/
theorem fmod_iff {d x y : Int} (hd : 1 ≤ d) : x.fmod d = y.fmod d ↔ d ∣ x - y := by
  rw [Int.fmod_eq_emod_of_nonneg _ (by omega), Int.fmod_eq_emod_of_nonneg _ (by omega), Int.emod_eq_emod_iff_emod_sub_eq_zero, Int.dvd_iff_emod_eq_zero]
theorem fmod0_iff {d x : Int} (hd : 1 ≤ d) : x.fmod d = 0 ↔ d ∣ x := by
  rw [Int.fmod_eq_emod_of_nonneg _ (by omega), Int.dvd_iff_emod_eq_zero]
theorem made_split {b t m n : Int} (h : 2 ≤ blockOf b t) : ∃ q r : Int, 0 ≤ r ∧ r < blockOf b t ∧ n = blockOf b t * q + r ∧ made b t m n = q + m * r := by
  refine ⟨n / blockOf b t, n.fmod (blockOf b t), ?_, ?_, ?_, rfl⟩
  · exact (fmod_bd n (by omega)).1
  · exact (fmod_bd n (by omega)).2
  · rw [Int.fmod_eq_emod_of_nonneg _ (by omega)]
    exact (Int.mul_ediv_add_emod n (blockOf b t)).symm
theorem made_of_split {b t m q r : Int} (h0 : 0 ≤ r) (h1 : r < blockOf b t) : made b t m (blockOf b t * q + r) = q + m * r := by
  unfold made
  rw [Int.fmod_eq_emod_of_nonneg _ (by omega), Int.mul_add_emod_self_left, Int.emod_eq_of_lt h0 h1, Int.add_comm (blockOf b t * q) r, Int.add_mul_ediv_left _ _ (by omega), Int.ediv_eq_zero_of_lt h0 h1]
  omega
def goodB (b t m d : Int) : Bool := decide (d ∣ m * blockOf b t - 1)
def sameB (b t m d : Int) : Bool := decide (d ∣ blockOf b t - 1) && decide (d ∣ m - 1)
theorem dvd_of_sub {d x y : Int} (h : d ∣ x - y) (k : d ∣ y) : d ∣ x := by
  have := Int.dvd_add h k
  rwa [Int.sub_add_cancel] at this
theorem fail_good {b t m d : Int} (h : 2 ≤ blockOf b t) (hd : 1 ≤ d) : (∀ n, failAt b t m d n = false) ↔ d ∣ m * blockOf b t - 1 := by
  constructor
  · intro k
    have k1 := k (blockOf b t * (-m) + 1)
    unfold failAt at k1
    rw [made_of_split (by omega) (by omega)] at k1
    have e1 : decide ((-m + m * 1).fmod d = 0) = true := decide_eq_true ((fmod0_iff hd).mpr ⟨0, by omega⟩)
    rw [e1] at k1
    have e2 : (blockOf b t * -m + 1).fmod d = 0 := by
      by_cases z : (blockOf b t * -m + 1).fmod d = 0
      · exact z
      · rw [decide_eq_false z] at k1
        cases k1
    obtain ⟨c, hc⟩ := (fmod0_iff hd).mp e2
    refine ⟨-c, ?_⟩
    grind
  · intro k n
    obtain ⟨q, r, r0, r1, en, em⟩ := made_split (m := m) (n := n) h
    obtain ⟨c, hc⟩ := k
    have e : d ∣ n ↔ d ∣ made b t m n := by
      constructor
      · rintro ⟨u, hu⟩
        -- made = m * B * made - (m * B - 1) * made
        refine ⟨m * u + m * (c * r) - c * (q + m * r), ?_⟩
        rw [em]
        grind
      · rintro ⟨u, hu⟩
        refine ⟨blockOf b t * u - c * r, ?_⟩
        rw [em] at hu
        grind
    unfold failAt
    by_cases z : d ∣ n
    · rw [decide_eq_true ((fmod0_iff hd).mpr z), decide_eq_true ((fmod0_iff hd).mpr (e.mp z))]
      rfl
    · rw [decide_eq_false (fun w => z ((fmod0_iff hd).mp w)), decide_eq_false (fun w => z (e.mpr ((fmod0_iff hd).mp w)))]
      rfl
theorem unlike_same {b t m d : Int} (h : 2 ≤ blockOf b t) (hd : 1 ≤ d) : (∀ n, unlikeAt b t m d n = false) ↔ (d ∣ blockOf b t - 1 ∧ d ∣ m - 1) := by
  have un : ∀ n, unlikeAt b t m d n = false ↔ d ∣ n - made b t m n := fun n => by
    unfold unlikeAt
    rw [Bool.not_eq_false', decide_eq_true_iff, fmod_iff hd]
  constructor
  · intro k
    have k1 := (un _).mp (k (blockOf b t * 1 + 0))
    have k2 := (un _).mp (k (blockOf b t * 0 + 1))
    rw [made_of_split (by omega) (by omega)] at k1 k2
    obtain ⟨c1, h1⟩ := k1
    obtain ⟨c2, h2⟩ := k2
    exact ⟨⟨c1, by grind⟩, ⟨-c2, by grind⟩⟩
  · rintro ⟨⟨c1, h1⟩, ⟨c2, h2⟩⟩ n
    rw [un]
    obtain ⟨q, r, r0, r1, en, em⟩ := made_split (m := m) (n := n) h
    exact ⟨c1 * q - c2 * r, by grind⟩
theorem find_all {b t m d : Int} (f : Int → Int → Int → Int → Int → Bool) (hf : ∀ x y, x.fmod d = y.fmod d → (made b t m x).fmod d = (made b t m y).fmod d → f b t m d x = f b t m d y) (h : 2 ≤ blockOf b t) (hd : 1 ≤ d) :
    (List.range (blockOf b t * d).toNat).find? (fun (i : Nat) => f b t m d (i : Int)) = none ↔ ∀ n, f b t m d n = false := by
  constructor
  · exact fun k => of_stretch f hf h hd k
  · exact fun k => find_none fun j _ => k j
theorem fail_none {b t m d : Int} (h : 2 ≤ blockOf b t) (hd : 1 ≤ d) : ((List.range (blockOf b t * d).toNat).find? fun (i : Nat) => failAt b t m d (i : Int)).isNone = goodB b t m d := by
  unfold goodB
  rw [Bool.eq_iff_iff, Option.isNone_iff_eq_none, decide_eq_true_iff, find_all failAt fail_of h hd, fail_good h hd]
theorem unlike_none {b t m d : Int} (h : 2 ≤ blockOf b t) (hd : 1 ≤ d) : ((List.range (blockOf b t * d).toNat).find? fun (i : Nat) => unlikeAt b t m d (i : Int)).isNone = sameB b t m d := by
  unfold sameB
  rw [Bool.eq_iff_iff, Option.isNone_iff_eq_none, Bool.and_eq_true, decide_eq_true_iff, decide_eq_true_iff, find_all unlikeAt unlike_of h hd, unlike_same h hd]
/-- the two ways to say them -/
theorem good_is {b t m d : Int} (hd : 1 ≤ d) : decide ((m * blockOf b t).fmod d = (1 : Int).fmod d) = goodB b t m d := by
  unfold goodB
  rw [Bool.eq_iff_iff, decide_eq_true_iff, decide_eq_true_iff, fmod_iff hd]
theorem good_is0 {b t m d : Int} (hd : 1 ≤ d) : decide ((m * blockOf b t - 1).fmod d = 0) = goodB b t m d := by
  unfold goodB
  rw [Bool.eq_iff_iff, decide_eq_true_iff, decide_eq_true_iff, fmod0_iff hd]
theorem same_is {b t m d : Int} (hd : 1 ≤ d) : (goodB b t m d && decide ((blockOf b t).fmod d = (1 : Int).fmod d)) = sameB b t m d := by
  unfold goodB sameB
  rw [Bool.eq_iff_iff, Bool.and_eq_true, Bool.and_eq_true, decide_eq_true_iff, decide_eq_true_iff, decide_eq_true_iff, decide_eq_true_iff, fmod_iff hd]
  constructor
  · rintro ⟨⟨c1, h1⟩, ⟨c2, h2⟩⟩
    exact ⟨⟨c2, h2⟩, ⟨c1 - m * c2, by grind⟩⟩
  · rintro ⟨⟨c1, h1⟩, ⟨c2, h2⟩⟩
    exact ⟨⟨c2 + m * c1, by grind⟩, ⟨c1, h1⟩⟩
theorem factor_ok {b t m d n : Int} (h : 2 ≤ blockOf b t) (hd : 1 ≤ d) (g : goodB b t m d = true) : (made b t m n).fmod d = (m.fmod d * n).fmod d := by
  obtain ⟨c, hc⟩ := of_decide_eq_true g
  obtain ⟨q, r, r0, r1, en, em⟩ := made_split (m := m) (n := n) h
  obtain ⟨u, hu⟩ := (fmod_iff (d := d) (x := m) (y := m.fmod d) hd).mp (by rw [Int.fmod_fmod])
  rw [fmod_iff hd]
  exact ⟨u * n - c * q, by grind⟩

def spTellsM : Sp := fun vs H Q _ => ∃ B m d : Int, vs = [.int B, .int m, .int d] ∧ -100 ≤ m ∧ m ≤ 100 ∧ 1 ≤ d ∧ Q (.bl (decide (d ∣ m * B - 1))) H
theorem ok_tells_multiples (T : Tx K mg) : FnOk P w K mg base CX0 lv_tells_multiples T.a_tells_multiples T.d_tells_multiples ["block", "times", "d"] spTellsM := by
  refine T.F_tells_multiples.ok sc_tells_multiples (fun vs H Q E h => ?_) (fun cdv A outer s H vs Q E hr h => ?_)
  · obtain ⟨B, m, d, rfl, _⟩ := h
    rfl
  · obtain ⟨B, m, d, rfl, m1, m2, d1, k⟩ := h
    refine ⟨_, (pss_one (ps_ret (pe_cmpR op_eq (pe_op op_modN (pe_op op_sub (pe_op op_mul (pv 1) (pv 0)) pe_int) (pv 2)) pe_int (nomark _)))), ?_⟩
    refine ⟨_, rfl, _, rfl, _, _, rfl, rfl, .inl ⟨by omega, by omega⟩, _, _, rfl, rfl, _, rfl, _, _, rfl, rfl, (show d ≠ 0 by omega), rfl, ?_⟩
    have e2 : decide (V.int ((m * B - 1).fmod d) = V.int 0) = decide (d ∣ m * B - 1) := by
      rw [dec_i, Bool.eq_iff_iff, decide_eq_true_iff, decide_eq_true_iff, fmod0_iff d1]
    rw [← e2] at k
    exact k

/-! ### all multipliers -/
def mulL (b t d : Int) (k : Nat) : List Int := ((List.range k).map fun (i : Nat) => (i : Int)).filter fun r => goodB b t r d
theorem mulL_succ (b t d : Int) (k : Nat) : mulL b t d (k + 1) = mulL b t d k ++ (if goodB b t (k : Int) d = true then [(k : Int)] else []) := by
  unfold mulL
  rw [List.range_succ, List.map_append, List.filter_append]
  congr 1
  show List.filter _ [(k : Int)] = _
  by_cases h : goodB b t (k : Int) d = true
  · rw [if_pos h]; simp [h]
  · rw [if_neg h]; simp [h]
theorem mulL_len (b t d : Int) (k : Nat) : (mulL b t d k).length ≤ k := by
  unfold mulL
  refine Nat.le_trans (List.length_filter_le _ _) ?_
  simp
def sp_multipliers (T : Tx K mg) : Sp := fun vs H Q E => ∃ x y z : V, vs = [x, y, z] ∧ AnyV (OwnT T) H x ∧ AnyV (OwnT T) H y ∧ AnyV (OwnT T) H z ∧
  (intIn x 2 16 = false → E (.ref T.C_BadBase) none H) ∧ (intIn x 2 16 = true → intIn y 1 2 = false → E (.ref T.C_BadTake) none H) ∧ (intIn x 2 16 = true → intIn y 1 2 = true → intIn z 1 100 = false → E (.ref T.C_BadDivisor) none H) ∧
  ∀ b t d : Int, x = .int b → y = .int t → z = .int d → 2 ≤ b → b ≤ 16 → 1 ≤ t → t ≤ 2 → 1 ≤ d → d ≤ 100 → ∀ p, H p = none → Q (.ref p) (upd H p (.lst ((mulL b t d d.toNat).map V.int)))
theorem ok_multipliers (T : Tx K mg) : FnOk P w K mg base (L2.CX P w) lv_multipliers T.a_multipliers T.d_multipliers ["base", "take", "d"] (sp_multipliers T) := by
  refine T.F_multipliers.okX sc_multipliers (fun vs H Q E h => ?_) (fun cdv A outer s H vs Q E hr h => ?_)
  · obtain ⟨x, y, z, rfl, _⟩ := h
    rfl
  · obtain ⟨x, y, z, rfl, ax, ay, az, e1, e2, e3, k⟩ := h
    refine ⟨_, (pss_cons (ps_expr (pe_call (ok_check_base T) (hr.mono (by decide)) rfl T.g_check_base T.F_check_base.kp T.b_check_base .nil (passes_call (takes_of rfl rfl rfl rfl) fun _ _ _ _ h => h) (pa_cons (pv 0) pa_nil)))
      (pss_cons (ps_expr (pe_call (ok_check_take T) (hr.mono (by decide)) rfl T.g_check_take T.F_check_take.kp T.b_check_take .nil (passes_call (takes_of rfl rfl rfl rfl) fun _ _ _ _ h => h) (pa_cons (pv 1) pa_nil)))
      (pss_cons (ps_expr (pe_call (ok_check_divisor T) (hr.mono (by decide)) rfl T.g_check_divisor T.F_check_divisor.kp T.bd_check_divisor T.rd_check_divisor (passes_call (takes_of rfl rfl rfl rfl) fun _ _ _ _ h => h) (pa_cons (pv 2) pa_nil)))
      (pss_cons (ps_set (i := 3) sc_multipliers.nd rfl (Or.inr rfl) (pe_call (ok_block_of T) (hr.mono (by decide)) rfl T.g_block_of T.F_block_of.kp T.b_block_of .nil pass0 (pa_cons (pv 0) (pa_cons (pv 1) pa_nil))))
      (pss_one (ps_ret (pe_lc (own := [("rest", 4)]) (g := gName 4) rfl sc_multipliers.nd (pi_range1 (by rfl) T.n_range (pa_cons (pv 2) pa_nil)) (blkOk_by (own := [("rest", 4)]) (N := ["base", "take", "d", "block", "rest"]) (sc := defScope s_multipliers) (by decide +kernel)) (fun _ _ _ _ _ => pg_name (i := 4) sc_multipliers.nd rfl (Or.inl rfl)) (fun _ _ _ _ _ => pts_one (pt_val (pe_call (ok_tells_multiples T) (hr.mono (by decide)) rfl T.g_tells_multiples T.F_tells_multiples.kp T.b_tells_multiples .nil pass0 (pa_cons (pv 3) (pa_cons (pv 4) (pa_cons (pv 2) pa_nil)))))) (fun _ _ _ _ _ => (pv 4))))))))), ?_⟩
    refine ⟨_, rfl, x, rfl, ax, fun g1 => ?_, e1⟩
    refine ⟨_, rfl, y, rfl, ay, fun g2 => ?_, e2 g1⟩
    refine ⟨_, rfl, z, 100, rfl, by decide, by decide, az, fun g3 => ?_, e3 g1 g2⟩
    obtain ⟨b, rfl, b1, b2⟩ := intIn_int' g1
    obtain ⟨t, rfl, t1, t2⟩ := intIn_int' g2
    obtain ⟨d, rfl, d1, d2⟩ := intIn_int' g3
    refine ⟨_, rfl, _, rfl, b, t, rfl, b1, b2, ?_⟩
    refine ⟨_, rfl, d, rfl, by omega, by omega, fun D hD => ?_⟩
    refine lc_range (lo := 0) (n := d.toNat) (fun i H4 => H4 = upd H D (.lst ((mulL b t d i).map V.int))) rfl ?_ ?_
    · rintro i H4 hi rfl
      have ei : (0 : Int) + (i : Int) = (i : Int) := Int.zero_add _
      have hln := mulL_len b t d i
      refine ⟨rfl, _, rfl, _, rfl, _, rfl, _, _, _, rfl, by omega, by omega, d1, _, rfl, ?_⟩
      rw [ei]
      refine ite2 (fun g => ?_) (fun g => ?_)
      · have g1 : goodB b t (i : Int) d = true := g
        refine ⟨_, rfl, _, upd_same, by rw [List.length_map]; exact small1000 (by omega), ?_⟩
        rw [upd_upd, mulL_succ, if_pos g1, List.map_append]
        rfl
      · have g1 : ¬ goodB b t (i : Int) d = true := g
        rw [mulL_succ, if_neg g1, List.append_nil]
    · rintro H4 rfl
      exact k b t d rfl rfl rfl b1 b2 t1 t2 d1 d2 D hD

/-! ### how they are refused -/
def spRefused (T : Tx K mg) : Sp := fun vs H Q _ => ∃ x y z : V, vs = [x, y, z] ∧ AnyV (OwnT T) H x ∧ AnyV (OwnT T) H y ∧ AnyV (OwnT T) H z ∧
  (intIn x 2 16 = false → Q (.str "base") H) ∧ (intIn x 2 16 = true → intIn y 1 2 = false → Q (.str "take") H) ∧
  (intIn x 2 16 = true → intIn y 1 2 = true → intIn z 1 100 = false → Q (.str "divisor") H) ∧ (intIn z 1 100 = true → False)
theorem ok__law_refused (T : Tx K mg) : FnOk P w K mg base CX0 lv__law_refused T.a__law_refused T.d__law_refused ["_law_base", "_law_take", "_law_d"] (spRefused T) := by
  refine T.F__law_refused.ok sc__law_refused (fun vs H Q E h => ?_) (fun cdv A outer s H vs Q E hr h => ?_)
  · obtain ⟨x, y, z, rfl, _⟩ := h
    rfl
  · obtain ⟨x, y, z, rfl, ax, ay, az, k1, k2, k3, k4⟩ := h
    refine ⟨_, (pss_cons (ps_set (i := 3) sc__law_refused.nd rfl (Or.inl rfl) pe_non)
      (pss_cons (ps_try_x (tb := fun W => (tDrop (tCall (sp_multipliers T) [] (fun cls d H => ∀ σ : L2.St, σ.length = 4 → W cls d σ H) (tCons (tVar 0) (tCons (tVar 1) (tCons (tVar 2) tNil)))))) rfl rfl sc__law_refused.nd takes0 (fun W pn xe tk _ => (pss_one (ps_expr (pe_call (ok_multipliers T) (hr.mono (by decide)) rfl T.g_multipliers T.F_multipliers.kp T.b_multipliers .nil (passN tk) (pa_cons (pv 0) (pa_cons (pv 1) (pa_cons (pv 2) pa_nil))))))) (HdsX.un ⟨rfl, by decide, Or.inl T.g_BadBase⟩ (fun a oe cls d pn hz hf => (pss_one (ps_set (i := 3) sc__law_refused.nd rfl (Or.inl rfl) pe_str))) (HdsX.un ⟨rfl, by decide, Or.inl T.g_BadTake⟩ (fun a oe cls d pn hz hf => (pss_one (ps_set (i := 3) sc__law_refused.nd rfl (Or.inl rfl) pe_str))) (HdsX.un ⟨rfl, by decide, Or.inl T.g_BadDivisor⟩ (fun a oe cls d pn hz hf => (pss_one (ps_set (i := 3) sc__law_refused.nd rfl (Or.inl rfl) pe_str))) HdsX.nil))))
      (pss_one (ps_ret (pv 3))))), ?_⟩
    have slots : ∀ {σ : L2.St}, σ.length = 4 → ∃ a b c d, σ = [a, b, c, d] := fun {σ} h => match σ, h with
      | [a, b, c, d], _ => ⟨a, b, c, d, rfl⟩
    refine ⟨_, rfl, _, rfl, _, rfl, x, y, z, rfl, ax, ay, az, fun g1 σ hσ => ?_, fun g1 g2 σ hσ => ?_, fun g1 g2 g3 σ hσ => ?_, fun b t d e1 e2 e3 _ _ _ _ d1 d2 => ?_⟩
    · obtain ⟨v1, v2, v3, v4, rfl⟩ := slots hσ
      exact ⟨_, T.xm_BadBase_BadBase, fun _ a na => ⟨_, rfl, k1 g1⟩, fun z => nomatch z⟩
    · obtain ⟨v1, v2, v3, v4, rfl⟩ := slots hσ
      exact ⟨_, T.xm_BadTake_BadBase, fun z => (nomatch z), fun _ => ⟨_, T.xm_BadTake_BadTake, fun _ a na => ⟨_, rfl, k2 g1 g2⟩, fun z => nomatch z⟩⟩
    · obtain ⟨v1, v2, v3, v4, rfl⟩ := slots hσ
      exact ⟨_, T.xm_BadDivisor_BadBase, fun z => (nomatch z), fun _ => ⟨_, T.xm_BadDivisor_BadTake, fun z => (nomatch z), fun _ => ⟨_, T.xm_BadDivisor_BadDivisor, fun _ a na => ⟨_, rfl, k3 g1 g2 g3⟩, fun z => nomatch z⟩⟩⟩
    · rw [e3] at k4
      exact (k4 (intIn_of d1 d2)).elim
def sp_law (K : PySem.W.Frag) : Sp := fun vs H Q _ => ∃ (a : Addr) (ns : List Int), vs = [.ref a] ∧ Scr K H a (ns.map V.int) ∧ ns.length ≤ 63 ∧ ∀ H', Q (.bl true) H'
theorem ok_law (T : Tx K mg) : FnOk P w K mg base CX0 lv_law T.a_law T.d_law ["_law_script"] (sp_law K) := by
  refine T.F_law.ok sc_law (fun vs H Q E h => ?_) (fun cdv A outer s H vs Q E hr h => ?_)
  · obtain ⟨a, ns, rfl, _⟩ := h
    rfl
  · obtain ⟨a, ns, rfl, hS, hlen, k⟩ := h
    refine ⟨_, (Evl.pss_cut (ps_set (i := 1) sc_law.nd rfl (Or.inl rfl) (pe_lst (pa_cons (pv 0) (pa_cons pe_int (pa_cons pe_int (pa_cons pe_int pa_nil))))))
      (Evl.pss_cut (ps_set (i := 2) sc_law.nd rfl (Or.inr rfl) (pe_op op_add pe_int (pe_call (ok__law_taken T) (hr.mono (by decide)) rfl T.g__law_taken T.F__law_taken.kp T.b__law_taken .nil pass0 (pa_cons (pv 1) (pa_cons pe_int pa_nil)))))
      (Evl.pss_cut (ps_set (i := 3) sc_law.nd rfl (Or.inr rfl) (pe_ifExp (pt_cmpR op_lt (pv 2) pe_int (nomark _)) (pe_op op_add pe_int (pe_call (ok__law_taken T) (hr.mono (by decide)) rfl T.g__law_taken T.F__law_taken.kp T.b__law_taken .nil pass0 (pa_cons (pv 1) (pa_cons pe_int pa_nil)))) pe_int))
      (Evl.pss_cut (ps_set (i := 4) sc_law.nd rfl (Or.inr rfl) (pe_op op_add pe_int (pe_call (ok__law_taken T) (hr.mono (by decide)) rfl T.g__law_taken T.F__law_taken.kp T.b__law_taken .nil pass0 (pa_cons (pv 1) (pa_cons pe_int pa_nil)))))
      (Evl.pss_cut (ps_setLc (i := 5) (own := [("_law_times", 12)]) (g := gName 12) rfl sc_law.nd rfl rfl (sw_true rfl rfl rfl (by decide +kernel)) (pi_range1 (by rfl) T.n_range (pa_cons (pv 4) pa_nil)) (blkOk_by (own := [("_law_times", 12)]) (N := ["_law_script", "_law_line", "_law_base", "_law_take", "_law_d", "_law_due", "_law_wide", "_law_block", "_law_some", "_law_bad_base", "_law_bad_take", "_law_bad", "_law_times"]) (sc := defScope s_law) (by decide +kernel)) (fun _ _ _ _ _ => pg_name (i := 12) sc_law.nd rfl (Or.inl rfl)) (fun _ _ _ _ _ => pts_one (pt_cmpR op_isN (pe_call (ok_fails T) (hr.mono (by decide)) rfl T.g_fails T.F_fails.kp T.b_fails .nil pass0 (pa_cons (pe_make T.mk_Trick (ok_Trick___init__ T) (hr.mono (by decide)) rfl T.g_Trick T.b_Trick___init__ .nil pass0 (pa_cons (pv 2) (pa_cons (pv 3) (pa_cons (pv 12) pa_nil)))) (pa_cons (pv 4) pa_nil))) pe_non (nomark _))) (fun _ _ _ _ _ => (pv 12)))
      (Evl.pss_cut (ps_if (pt_cmpR (op_neD hr.units) (pe_call (ok_multipliers T) (hr.mono (by decide)) rfl T.g_multipliers T.F_multipliers.kp T.b_multipliers .nil passL (pa_cons (pv 2) (pa_cons (pv 3) (pa_cons (pv 4) pa_nil)))) (pv 5) (nomark _)) (pss_one (ps_ret pe_bl)) pss_nil)
      (Evl.pss_cut (ps_asg (pe_tup (pa_cons (pe_op op_add pe_int (pe_call (ok__law_taken T) (hr.mono (by decide)) rfl T.g__law_taken T.F__law_taken.kp T.b__law_taken .nil pass0 (pa_cons (pv 1) (pa_cons pe_int pa_nil)))) (pa_cons (pe_ifExp (pt_cmpR op_eq (pv 3) pe_int (nomark _)) (pv 2) (pe_op op_mul (pv 2) (pv 2))) pa_nil))) (pg_tup rfl (pgs_cons (pg_name (i := 6) sc_law.nd rfl (Or.inr rfl)) (pgs_cons (pg_name (i := 7) sc_law.nd rfl (Or.inr rfl)) pgs_nil))))
      (Evl.pss_cut (ps_set (i := 8) sc_law.nd rfl (Or.inl rfl) (pe_call (ok_multipliers T) (hr.mono (by decide)) rfl T.g_multipliers T.F_multipliers.kp T.b_multipliers .nil passL (pa_cons (pv 2) (pa_cons (pv 3) (pa_cons (pv 6) pa_nil)))))
      (Evl.pss_cut (ps_if (pt_cmpR (op_neD hr.units) (pv 8) (pe_lc (own := [("_law_times", 12)]) (g := gName 12) rfl sc_law.nd (pi_range1 (by rfl) T.n_range (pa_cons (pv 6) pa_nil)) (blkOk_by (own := [("_law_times", 12)]) (N := ["_law_script", "_law_line", "_law_base", "_law_take", "_law_d", "_law_due", "_law_wide", "_law_block", "_law_some", "_law_bad_base", "_law_bad_take", "_law_bad", "_law_times"]) (sc := defScope s_law) (by decide +kernel)) (fun _ _ _ _ _ => pg_name (i := 12) sc_law.nd rfl (Or.inl rfl)) (fun _ _ _ _ _ => pts_one (pt_cmpR op_eq (pe_op op_modN (pe_op op_mul (pv 12) (pv 7)) (pv 6)) (pe_op op_modN pe_int (pv 6)) (nomark _))) (fun _ _ _ _ _ => (pv 12))) (nomark _)) (pss_one (ps_ret pe_bl)) pss_nil)
      (Evl.pss_cut (ps_set (i := 9) sc_law.nd rfl (Or.inl rfl) (pe_ix ix_list (pe_lst (pa_cons pe_non (pa_cons pe_int (pa_cons pe_int (pa_cons pe_bl (pa_cons pe_str pa_nil)))))) (pe_call (ok__law_taken T) (hr.mono (by decide)) rfl T.g__law_taken T.F__law_taken.kp T.b__law_taken .nil pass0 (pa_cons (pv 1) (pa_cons pe_int pa_nil))) (fun _ _ => rfl)))
      (Evl.pss_cut (ps_set (i := 10) sc_law.nd rfl (Or.inl rfl) (pe_ix ix_list (pe_lst (pa_cons pe_non (pa_cons pe_int (pa_cons pe_int (pa_cons pe_bl (pa_cons pe_str pa_nil)))))) (pe_call (ok__law_taken T) (hr.mono (by decide)) rfl T.g__law_taken T.F__law_taken.kp T.b__law_taken .nil pass0 (pa_cons (pv 1) (pa_cons pe_int pa_nil))) (fun _ _ => rfl)))
      (Evl.pss_cut (ps_set (i := 11) sc_law.nd rfl (Or.inl rfl) (pe_ix ix_list (pe_lst (pa_cons pe_non (pa_cons pe_int (pa_cons pe_int (pa_cons pe_bl (pa_cons pe_str pa_nil)))))) (pe_call (ok__law_taken T) (hr.mono (by decide)) rfl T.g__law_taken T.F__law_taken.kp T.b__law_taken .nil pass0 (pa_cons (pv 1) (pa_cons pe_int pa_nil))) (fun _ _ => rfl)))
      (Evl.pss_cut (ps_if (PW.pt (pw_or (pt_cmpR op_ne (pe_call (ok__law_refused T) (hr.mono (by decide)) rfl T.g__law_refused T.F__law_refused.kp T.b__law_refused .nil pass0 (pa_cons (pv 9) (pa_cons (pv 10) (pa_cons (pv 11) pa_nil)))) pe_str (nomark _)) (pw_or1 (pt_cmpR op_ne (pe_call (ok__law_refused T) (hr.mono (by decide)) rfl T.g__law_refused T.F__law_refused.kp T.b__law_refused .nil pass0 (pa_cons (pv 2) (pa_cons (pv 10) (pa_cons (pv 11) pa_nil)))) pe_str (nomark _))))) (pss_one (ps_ret pe_bl)) pss_nil)
      (pss_one (ps_ret (pe_cmpR op_eq (pe_call (ok__law_refused T) (hr.mono (by decide)) rfl T.g__law_refused T.F__law_refused.kp T.b__law_refused .nil pass0 (pa_cons (pv 2) (pa_cons (pv 3) (pa_cons (pv 11) pa_nil)))) pe_str (nomark _))))))))))))))))), ?_⟩
    refine ⟨fun σ H1 => ∃ r, RowAt K H1 r a ns ∧ σ = [some (.ref a), some (.ref r), none, none, none, none, none, none, none, none, none, none, none], ?_, ?_⟩
    · exact ⟨_, rfl, by show 4 ≤ sizeLine; decide, fun r hr0 => ⟨r, RowAt.start hr0 hS hlen (by decide) (by decide), rfl⟩⟩
    clear hS
    rintro σ H1 ⟨r, R1, rfl⟩
    refine ⟨fun σ H2 => ∃ b : Int, 2 ≤ b ∧ b ≤ 16 ∧ RowAt K H2 r a ns ∧ σ = [some (.ref a), some (.ref r), some (.int b), none, none, none, none, none, none, none, none, none, none], ?_, ?_⟩
    · refine ⟨_, rfl, r, a, ns, _, rfl, by decide, by decide, R1, fun v H2 v0 v1 R2 B2 => ?_⟩
      exact ⟨_, _, rfl, rfl, 2 + v, by omega, by omega, R2, rfl⟩
    clear R1
    rintro σ H1 ⟨b, b1, b2, R1, rfl⟩
    refine ⟨fun σ H2 => ∃ t : Int, 1 ≤ t ∧ t ≤ 2 ∧ RowAt K H2 r a ns ∧ σ = [some (.ref a), some (.ref r), some (.int b), some (.int t), none, none, none, none, none, none, none, none, none], ?_, ?_⟩
    · refine ⟨_, rfl, _, _, rfl, rfl, _, rfl, ?_⟩
      refine ite2 (fun g => ?_) (fun g => ?_)
      · refine ⟨_, rfl, r, a, ns, _, rfl, by decide, by decide, R1, fun v H2 v0 v1 R2 B2 => ?_⟩
        exact ⟨_, _, rfl, rfl, 1 + v, by omega, by omega, R2, rfl⟩
      · exact ⟨1, by decide, by decide, R1, rfl⟩
    clear R1
    rintro σ H1 ⟨t, t1, t2, R1, rfl⟩
    refine ⟨fun σ H2 => ∃ d : Int, 1 ≤ d ∧ d ≤ 25 ∧ RowAt K H2 r a ns ∧ σ = [some (.ref a), some (.ref r), some (.int b), some (.int t), some (.int d), none, none, none, none, none, none, none, none], ?_, ?_⟩
    · refine ⟨_, rfl, r, a, ns, _, rfl, by decide, by decide, R1, fun v H2 v0 v1 R2 B2 => ?_⟩
      exact ⟨_, _, rfl, rfl, 1 + v, by omega, by omega, R2, rfl⟩
    clear R1
    rintro σ H1 ⟨d, d1, d2, R1, rfl⟩
    obtain ⟨B1, B2⟩ := block_bd (t := t) b1 b2
    have nd : d ≠ 0 := by omega
    -- by trying each
    refine ⟨fun σ H3 => ∃ (D : Addr) (x : Option V), RowAt K H3 r a ns ∧ H3 D = some (.lst ((mulL b t d d.toNat).map V.int)) ∧ D ≠ r ∧ σ = [some (.ref a), some (.ref r), some (.int b), some (.int t), some (.int d), some (.ref D), none, none, none, none, none, none, x], ?_, ?_⟩
    · refine ⟨_, rfl, d, rfl, by omega, by omega, fun D hD => ?_⟩
      have nDr := R1.ne hD
      refine lc_range (lo := 0) (n := d.toNat) (fun i H4 => RowAt K H4 r a ns ∧ H4 D = some (.lst ((mulL b t d i).map V.int))) ⟨R1.new hD, upd_same⟩ ?_ ?_
      · rintro i H4 hi ⟨R4, hL⟩
        have ei : (0 : Int) + (i : Int) = (i : Int) := Int.zero_add _
        have hln := mulL_len b t d i
        refine ⟨rfl, _, rfl, _, rfl, _, rfl, fun p dx np nx nn => ?_⟩
        refine mk_trick np nx b1 b2 t1 t2 (by omega) (by omega) fun H5 hT S5 => ?_
        have f1 := fail_none (b := b) (t := t) (m := (0 : Int) + (i : Int)) B1 d1
        refine ⟨_, rfl, p, b, t, _, d, rfl, hT, d1, by omega, rfl, _, rfl, ?_⟩
        rw [opt_non, f1, ei]
        have hL5 := S5 _ _ hL
        refine ite2 (fun g => ?_) (fun g => ?_)
        · refine ⟨_, rfl, _, hL5, by rw [List.length_map]; exact small1000 (by omega), (R4.same S5).put hL5 nDr, ?_⟩
          rw [upd_same, mulL_succ, if_pos g, List.map_append]
          rfl
        · refine ⟨R4.same S5, ?_⟩
          rw [hL5, mulL_succ, if_neg g, List.append_nil]
      · rintro H4 ⟨R4, hL⟩
        exact ⟨D, none, R4, hL, nDr, rfl⟩
    clear R1
    rintro σ H1 ⟨D, x, R1, hD, nDr, rfl⟩
    have ib := intIn_of b1 b2
    have it := intIn_of t1 t2
    have nf : ∀ {v : V} {lo hi : Int} {G : Prop}, intIn v lo hi = true → intIn v lo hi = false → G := fun p q => Bool.noConfusion (p.symm.trans q)
    refine ⟨fun σ H2 => RowAt K H2 r a ns ∧ σ = [some (.ref a), some (.ref r), some (.int b), some (.int t), some (.int d), some (.ref D), none, none, none, none, none, none, x], ?_, ?_⟩
    · refine ⟨_, rfl, _, rfl, _, rfl, .int b, .int t, .int d, rfl, .int b, .int t, .int d, nf ib, fun _ => nf it, fun _ _ => nf (intIn_of d1 (by omega)), fun b' t' d' e1 e2 e3 _ _ _ _ _ _ p hp => ?_⟩
      cases e1; cases e2; cases e3
      refine ⟨_, rfl, _, _, dp_ints (SqL.of upd_same), dp_ints (SqL.of (same_upd hp _ _ hD)), shaped_lints _, shaped_lints _, _, rfl, ?_⟩
      rw [eqv_ints, decide_eq_true rfl]
      exact iteF ⟨R1.new hp, rfl⟩
    clear R1 hD
    rintro σ H1 ⟨R1, rfl⟩
    -- a wider divisor
    refine ⟨fun σ H2 => ∃ w' : Int, 1 ≤ w' ∧ w' ≤ 100 ∧ RowAt K H2 r a ns ∧ σ = [some (.ref a), some (.ref r), some (.int b), some (.int t), some (.int d), some (.ref D), some (.int w'), some (.int (blockOf b t)), none, none, none, none, x], ?_, ?_⟩
    · refine ⟨_, rfl, r, a, ns, _, rfl, by decide, by decide, R1, fun v H2 v0 v1 R2 B2 => ?_⟩
      refine ⟨_, _, rfl, rfl, _, rfl, rfl, _, rfl, ?_⟩
      refine ite2 (fun c => ?_) (fun c => ?_)
      · have c1 : t = 1 := by simpa using c
        refine ⟨_, rfl, by show 2 ≤ sizeLine; decide, fun p hp => ⟨p, _, rfl, SqT.of upd_same, rfl, _, _, rfl, _, _, rfl, rfl, 1 + v, by omega, by omega, R2.new hp, ?_⟩⟩
        unfold blockOf
        rw [if_pos c1]
        rfl
      · have c1 : ¬ t = 1 := by simpa using c
        refine ⟨_, rfl, _, rfl, _, _, rfl, rfl, .inl ⟨by omega, by omega⟩, by show 2 ≤ sizeLine; decide, fun p hp => ⟨p, _, rfl, SqT.of upd_same, rfl, _, _, rfl, _, _, rfl, rfl, 1 + v, by omega, by omega, R2.new hp, ?_⟩⟩
        unfold blockOf
        rw [if_neg c1]
        rfl
    clear R1
    rintro σ H1 ⟨w', w1, w2, R1, rfl⟩
    refine ⟨fun σ H2 => ∃ D2 : Addr, RowAt K H2 r a ns ∧ H2 D2 = some (.lst ((mulL b t w' w'.toNat).map V.int)) ∧ σ = [some (.ref a), some (.ref r), some (.int b), some (.int t), some (.int d), some (.ref D), some (.int w'), some (.int (blockOf b t)), some (.ref D2), none, none, none, x], ?_, ?_⟩
    · refine ⟨_, rfl, _, rfl, _, rfl, .int b, .int t, .int w', rfl, .int b, .int t, .int w', nf ib, fun _ => nf it, fun _ _ => nf (intIn_of w1 w2), fun b' t' d' e1 e2 e3 _ _ _ _ _ _ p hp => ?_⟩
      cases e1; cases e2; cases e3
      exact ⟨p, R1.new hp, upd_same, rfl⟩
    clear R1
    rintro σ H1 ⟨D2, R1, hD2, rfl⟩
    refine ⟨fun σ H2 => RowAt K H2 r a ns ∧ σ = [some (.ref a), some (.ref r), some (.int b), some (.int t), some (.int d), some (.ref D), some (.int w'), some (.int (blockOf b t)), some (.ref D2), none, none, none, x], ?_, ?_⟩
    · refine ⟨_, rfl, _, rfl, w', rfl, by omega, by omega, fun E2 hE => ?_⟩
      refine lc_range (lo := 0) (n := w'.toNat) (fun i H4 => H4 = upd H1 E2 (.lst ((mulL b t w' i).map V.int))) rfl ?_ ?_
      · rintro i H4 hi rfl
        have ei : (0 : Int) + (i : Int) = (i : Int) := Int.zero_add _
        have hln := mulL_len b t w' i
        refine ⟨rfl, _, rfl, _, rfl, _, _, rfl, rfl, .inl (show -(2 ^ 64) < (0 : Int) + (i : Int) ∧ (0 : Int) + (i : Int) < 2 ^ 64 from ⟨by omega, by omega⟩), _, rfl, _, _, rfl, rfl, (show w' ≠ 0 by omega), _, rfl, _, _, rfl, rfl, (show w' ≠ 0 by omega), rfl, _, rfl, ?_⟩
        rw [dec_i, ei, good_is w1]
        refine ite2 (fun g => ?_) (fun g => ?_)
        · refine ⟨_, rfl, _, upd_same, by rw [List.length_map]; exact small1000 (by omega), ?_⟩
          rw [upd_upd, mulL_succ, if_pos g, List.map_append]
          rfl
        · rw [mulL_succ, if_neg g, List.append_nil]
      · rintro H4 rfl
        refine ⟨_, _, dp_ints (SqL.of (same_upd hE _ _ hD2)), dp_ints (SqL.of upd_same), shaped_lints _, shaped_lints _, _, rfl, ?_⟩
        rw [eqv_ints, decide_eq_true rfl]
        exact iteF ⟨R1.new hE, rfl⟩
    clear R1 hD2
    rintro σ H1 ⟨R1, rfl⟩
    -- spoilt ones
    refine ⟨fun σ H3 => ∃ x2 : V, (flatA x2 = true ∧ intIn x2 2 16 = false) ∧ RowAt K H3 r a ns ∧ σ = [some (.ref a), some (.ref r), some (.int b), some (.int t), some (.int d), some (.ref D), some (.int w'), some (.int (blockOf b t)), some (.ref D2), some x2, none, none, x], ?_, ?_⟩
    · refine ⟨by show 5 ≤ sizeLine; decide, fun l hl => ⟨_, rfl, menuV (items := [.non, .int 1, .int 17, .bl true, .str "10"]) (fun x => flatA x = true ∧ intIn x 2 16 = false) (by simp [flatA, intIn]) rfl R1 hl (fun z H3 hz R3 B3 _ => ?_) (by show (0 : Int) < 5; decide) (by show (5 : Int) ≤ 10 ^ 41; decide)⟩⟩
      exact ⟨z, hz, R3, rfl⟩
    clear R1
    rintro σ H2 ⟨x2, hx, R2, rfl⟩
    refine ⟨fun σ H3 => ∃ y : V, (flatA y = true ∧ intIn y 1 2 = false) ∧ RowAt K H3 r a ns ∧ σ = [some (.ref a), some (.ref r), some (.int b), some (.int t), some (.int d), some (.ref D), some (.int w'), some (.int (blockOf b t)), some (.ref D2), some x2, some y, none, x], ?_, ?_⟩
    · refine ⟨by show 5 ≤ sizeLine; decide, fun l hl => ⟨_, rfl, menuV (items := [.non, .int 0, .int 3, .bl true, .str "1"]) (fun x => flatA x = true ∧ intIn x 1 2 = false) (by simp [flatA, intIn]) rfl R2 hl (fun z H3 hz R3 B3 _ => ?_) (by show (0 : Int) < 5; decide) (by show (5 : Int) ≤ 10 ^ 41; decide)⟩⟩
      exact ⟨z, hz, R3, rfl⟩
    clear R2
    rintro σ H2 ⟨y, hy, R2, rfl⟩
    refine ⟨fun σ H3 => ∃ z : V, (flatA z = true ∧ intIn z 1 100 = false) ∧ RowAt K H3 r a ns ∧ σ = [some (.ref a), some (.ref r), some (.int b), some (.int t), some (.int d), some (.ref D), some (.int w'), some (.int (blockOf b t)), some (.ref D2), some x2, some y, some z, x], ?_, ?_⟩
    · refine ⟨by show 5 ≤ sizeLine; decide, fun l hl => ⟨_, rfl, menuV (items := [.non, .int 0, .int 101, .bl true, .str "7"]) (fun x => flatA x = true ∧ intIn x 1 100 = false) (by simp [flatA, intIn]) rfl R2 hl (fun z H3 hz R3 B3 _ => ?_) (by show (0 : Int) < 5; decide) (by show (5 : Int) ≤ 10 ^ 41; decide)⟩⟩
      exact ⟨z, hz, R3, rfl⟩
    clear R2
    rintro σ H2 ⟨z, hz, R2, rfl⟩
    have nz : intIn z 1 100 = true → False := fun q => by rw [hz.2] at q; cases q
    refine ⟨fun σ H3 => RowAt K H3 r a ns ∧ σ = [some (.ref a), some (.ref r), some (.int b), some (.int t), some (.int d), some (.ref D), some (.int w'), some (.int (blockOf b t)), some (.ref D2), some x2, some y, some z, x], ?_, ?_⟩
    · refine ⟨_, rfl, _, rfl, _, rfl, x2, y, z, rfl, any_flat hx.1, any_flat hy.1, any_flat hz.1, fun _ => ⟨rfl, _, rfl, iteF ?_⟩, fun q => ?_, fun q => ?_, nz⟩
      · refine ⟨_, rfl, _, rfl, _, rfl, .int b, y, z, rfl, .int b, any_flat hy.1, any_flat hz.1, fun q => ?_, fun _ _ => ⟨rfl, _, rfl, iteF ⟨R2, rfl⟩⟩, fun _ q => ?_, nz⟩
        · rw [ib] at q; cases q
        · rw [hy.2] at q; cases q
      · rw [hx.2] at q; cases q
      · rw [hx.2] at q; cases q
    clear R2
    rintro σ H2 ⟨R2, rfl⟩
    refine ⟨_, rfl, _, rfl, _, rfl, .int b, .int t, z, rfl, .int b, .int t, any_flat hz.1, fun q => ?_, fun _ q => ?_, fun _ _ _ => ⟨rfl, k _⟩, nz⟩
    · rw [ib] at q; cases q
    · rw [it] at q; cases q

end
/-! ### the end -/
theorem all_mk {l : PySem.W.OpenLaw} {w : World} {K : PySem.W.Frag} {h : Heap} {mg : Str → Option Value} {fa : Addr} (X : K.In h) (G : h.Ns mainGlobals mg) (hfa : mg "law" = some (.ref fa))
    {C_TrickError : Addr}
    {C_BadBase : Addr}
    {C_BadTake : Addr}
    {C_BadTimes : Addr}
    {C_BadTrick : Addr}
    {C_BadDivisor : Addr}
    {tk_LEAST_BASE : Tok}
    {tk_GREATEST_BASE : Tok}
    {tk_GREATEST_TAKE : Tok}
    {tk_GREATEST_DIVISOR : Tok}
    {tk_GREATEST_TIMES : Tok}
    {a_is_integer : Addr} {od_is_integer an_is_integer : Option Addr} {sl_is_integer : Array (Option Value)} {oc_is_integer kV_is_integer dc_is_integer pm_is_integer cd_is_integer ct_is_integer : Value}
    {a_check_base : Addr} {od_check_base an_check_base : Option Addr} {sl_check_base : Array (Option Value)} {oc_check_base kV_check_base dc_check_base pm_check_base cd_check_base ct_check_base : Value}
    {a_check_take : Addr} {od_check_take an_check_take : Option Addr} {sl_check_take : Array (Option Value)} {oc_check_take kV_check_take dc_check_take pm_check_take cd_check_take ct_check_take : Value}
    {a_check_divisor dT_check_divisor : Addr} {od_check_divisor an_check_divisor dod_check_divisor : Option Addr} {sl_check_divisor dsl_check_divisor : Array (Option Value)} {oc_check_divisor kV_check_divisor dc_check_divisor pm_check_divisor cd_check_divisor ct_check_divisor doc_check_divisor : Value} {dvs_check_divisor : Array Value} {dn_check_divisor : Nat} {dt0_check_divisor : Tok}
    {a_block_of : Addr} {od_block_of an_block_of : Option Addr} {sl_block_of : Array (Option Value)} {oc_block_of kV_block_of dc_block_of pm_block_of cd_block_of ct_block_of : Value}
    {a_check_trick : Addr} {od_check_trick an_check_trick : Option Addr} {sl_check_trick : Array (Option Value)} {oc_check_trick kV_check_trick dc_check_trick pm_check_trick cd_check_trick ct_check_trick : Value}
    {a_trick_block : Addr} {od_trick_block an_trick_block : Option Addr} {sl_trick_block : Array (Option Value)} {oc_trick_block kV_trick_block dc_trick_block pm_trick_block cd_trick_block ct_trick_block : Value}
    {a_made_of : Addr} {od_made_of an_made_of : Option Addr} {sl_made_of : Array (Option Value)} {oc_made_of kV_made_of dc_made_of pm_made_of cd_made_of ct_made_of : Value}
    {a_made_with : Addr} {od_made_with an_made_with : Option Addr} {sl_made_with : Array (Option Value)} {oc_made_with kV_made_with dc_made_with pm_made_with cd_made_with ct_made_with : Value}
    {a_fails : Addr} {od_fails an_fails : Option Addr} {sl_fails : Array (Option Value)} {oc_fails kV_fails dc_fails pm_fails cd_fails ct_fails : Value}
    {a_multipliers : Addr} {od_multipliers an_multipliers : Option Addr} {sl_multipliers : Array (Option Value)} {oc_multipliers kV_multipliers dc_multipliers pm_multipliers cd_multipliers ct_multipliers : Value}
    {a_tells_multiples : Addr} {od_tells_multiples an_tells_multiples : Option Addr} {sl_tells_multiples : Array (Option Value)} {oc_tells_multiples kV_tells_multiples dc_tells_multiples pm_tells_multiples cd_tells_multiples ct_tells_multiples : Value}
    {a_period : Addr} {od_period an_period : Option Addr} {sl_period : Array (Option Value)} {oc_period kV_period dc_period pm_period cd_period ct_period : Value}
    {a__law_taken : Addr} {od__law_taken an__law_taken : Option Addr} {sl__law_taken : Array (Option Value)} {oc__law_taken kV__law_taken dc__law_taken pm__law_taken cd__law_taken ct__law_taken : Value}
    {a__law_refused : Addr} {od__law_refused an__law_refused : Option Addr} {sl__law_refused : Array (Option Value)} {oc__law_refused kV__law_refused dc__law_refused pm__law_refused cd__law_refused ct__law_refused : Value}
    {a_law : Addr} {od_law an_law : Option Addr} {sl_law : Array (Option Value)} {oc_law kV_law dc_law pm_law cd_law ct_law : Value}
    {C_Trick : Addr}
    {a_Trick___init__ : Addr} {od_Trick___init__ an_Trick___init__ : Option Addr} {sl_Trick___init__ : Array (Option Value)} {oc_Trick___init__ kV_Trick___init__ dc_Trick___init__ pm_Trick___init__ cd_Trick___init__ ct_Trick___init__ : Value}
    {pr_Trick_base : Addr} {rs_Trick_base : List Value}
    {a_Trick_base : Addr} {od_Trick_base an_Trick_base : Option Addr} {sl_Trick_base : Array (Option Value)} {oc_Trick_base kV_Trick_base dc_Trick_base pm_Trick_base cd_Trick_base ct_Trick_base : Value}
    {pr_Trick_take : Addr} {rs_Trick_take : List Value}
    {a_Trick_take : Addr} {od_Trick_take an_Trick_take : Option Addr} {sl_Trick_take : Array (Option Value)} {oc_Trick_take kV_Trick_take dc_Trick_take pm_Trick_take cd_Trick_take ct_Trick_take : Value}
    {pr_Trick_times : Addr} {rs_Trick_times : List Value}
    {a_Trick_times : Addr} {od_Trick_times an_Trick_times : Option Addr} {sl_Trick_times : Array (Option Value)} {oc_Trick_times kV_Trick_times dc_Trick_times pm_Trick_times cd_Trick_times ct_Trick_times : Value}
    {a_Trick___eq__ : Addr} {od_Trick___eq__ an_Trick___eq__ : Option Addr} {sl_Trick___eq__ : Array (Option Value)} {oc_Trick___eq__ kV_Trick___eq__ dc_Trick___eq__ pm_Trick___eq__ cd_Trick___eq__ ct_Trick___eq__ : Value}
    (gx_TrickError : PySem.W.nsIn K mainGlobals "TrickError" = some (some (.ref C_TrickError)))
    (x_TrickError : PySem.W.excIn K C_TrickError [.type "ValueError", .type "Exception", .type "BaseException", .type "object"] "ValueError.__new__" = true)
    (k_TrickError : PySem.W.keepIn K (.ref C_TrickError) = true)
    (s_TrickError : PySem.W.subIn K (.ref C_TrickError) (.type "BaseException") = some true)
    (t_TrickError : PySem.W.typeIn K (.ref C_TrickError) = some (.type "type"))
    (gx_BadBase : PySem.W.nsIn K mainGlobals "BadBase" = some (some (.ref C_BadBase)))
    (x_BadBase : PySem.W.excIn K C_BadBase [.type "ValueError", .type "Exception", .type "BaseException", .type "object"] "ValueError.__new__" = true)
    (k_BadBase : PySem.W.keepIn K (.ref C_BadBase) = true)
    (s_BadBase : PySem.W.subIn K (.ref C_BadBase) (.type "BaseException") = some true)
    (t_BadBase : PySem.W.typeIn K (.ref C_BadBase) = some (.type "type"))
    (hd_BadBase : PySem.W.hasDictIn K C_BadBase = true)
    (gx_BadTake : PySem.W.nsIn K mainGlobals "BadTake" = some (some (.ref C_BadTake)))
    (x_BadTake : PySem.W.excIn K C_BadTake [.type "ValueError", .type "Exception", .type "BaseException", .type "object"] "ValueError.__new__" = true)
    (k_BadTake : PySem.W.keepIn K (.ref C_BadTake) = true)
    (s_BadTake : PySem.W.subIn K (.ref C_BadTake) (.type "BaseException") = some true)
    (t_BadTake : PySem.W.typeIn K (.ref C_BadTake) = some (.type "type"))
    (hd_BadTake : PySem.W.hasDictIn K C_BadTake = true)
    (gx_BadTimes : PySem.W.nsIn K mainGlobals "BadTimes" = some (some (.ref C_BadTimes)))
    (x_BadTimes : PySem.W.excIn K C_BadTimes [.type "ValueError", .type "Exception", .type "BaseException", .type "object"] "ValueError.__new__" = true)
    (k_BadTimes : PySem.W.keepIn K (.ref C_BadTimes) = true)
    (s_BadTimes : PySem.W.subIn K (.ref C_BadTimes) (.type "BaseException") = some true)
    (t_BadTimes : PySem.W.typeIn K (.ref C_BadTimes) = some (.type "type"))
    (gx_BadTrick : PySem.W.nsIn K mainGlobals "BadTrick" = some (some (.ref C_BadTrick)))
    (x_BadTrick : PySem.W.excIn K C_BadTrick [.type "ValueError", .type "Exception", .type "BaseException", .type "object"] "ValueError.__new__" = true)
    (k_BadTrick : PySem.W.keepIn K (.ref C_BadTrick) = true)
    (s_BadTrick : PySem.W.subIn K (.ref C_BadTrick) (.type "BaseException") = some true)
    (t_BadTrick : PySem.W.typeIn K (.ref C_BadTrick) = some (.type "type"))
    (gx_BadDivisor : PySem.W.nsIn K mainGlobals "BadDivisor" = some (some (.ref C_BadDivisor)))
    (x_BadDivisor : PySem.W.excIn K C_BadDivisor [.type "ValueError", .type "Exception", .type "BaseException", .type "object"] "ValueError.__new__" = true)
    (k_BadDivisor : PySem.W.keepIn K (.ref C_BadDivisor) = true)
    (s_BadDivisor : PySem.W.subIn K (.ref C_BadDivisor) (.type "BaseException") = some true)
    (t_BadDivisor : PySem.W.typeIn K (.ref C_BadDivisor) = some (.type "type"))
    (hd_BadDivisor : PySem.W.hasDictIn K C_BadDivisor = true)
    (su_TrickError_BadBase : PySem.W.subIn K (.ref C_TrickError) (.ref C_BadBase) = some false)
    (su_TrickError_BadDivisor : PySem.W.subIn K (.ref C_TrickError) (.ref C_BadDivisor) = some false)
    (su_TrickError_BadTake : PySem.W.subIn K (.ref C_TrickError) (.ref C_BadTake) = some false)
    (su_BadBase_BadBase : PySem.W.subIn K (.ref C_BadBase) (.ref C_BadBase) = some true)
    (su_BadBase_BadDivisor : PySem.W.subIn K (.ref C_BadBase) (.ref C_BadDivisor) = some false)
    (su_BadBase_BadTake : PySem.W.subIn K (.ref C_BadBase) (.ref C_BadTake) = some false)
    (su_BadTake_BadBase : PySem.W.subIn K (.ref C_BadTake) (.ref C_BadBase) = some false)
    (su_BadTake_BadDivisor : PySem.W.subIn K (.ref C_BadTake) (.ref C_BadDivisor) = some false)
    (su_BadTake_BadTake : PySem.W.subIn K (.ref C_BadTake) (.ref C_BadTake) = some true)
    (su_BadTimes_BadBase : PySem.W.subIn K (.ref C_BadTimes) (.ref C_BadBase) = some false)
    (su_BadTimes_BadDivisor : PySem.W.subIn K (.ref C_BadTimes) (.ref C_BadDivisor) = some false)
    (su_BadTimes_BadTake : PySem.W.subIn K (.ref C_BadTimes) (.ref C_BadTake) = some false)
    (su_BadTrick_BadBase : PySem.W.subIn K (.ref C_BadTrick) (.ref C_BadBase) = some false)
    (su_BadTrick_BadDivisor : PySem.W.subIn K (.ref C_BadTrick) (.ref C_BadDivisor) = some false)
    (su_BadTrick_BadTake : PySem.W.subIn K (.ref C_BadTrick) (.ref C_BadTake) = some false)
    (su_BadDivisor_BadBase : PySem.W.subIn K (.ref C_BadDivisor) (.ref C_BadBase) = some false)
    (su_BadDivisor_BadDivisor : PySem.W.subIn K (.ref C_BadDivisor) (.ref C_BadDivisor) = some true)
    (su_BadDivisor_BadTake : PySem.W.subIn K (.ref C_BadDivisor) (.ref C_BadTake) = some false)
    (cx_LEAST_BASE : PySem.W.nsIn K mainGlobals "LEAST_BASE" = some (some (.int 2 tk_LEAST_BASE)))
    (cx_GREATEST_BASE : PySem.W.nsIn K mainGlobals "GREATEST_BASE" = some (some (.int 16 tk_GREATEST_BASE)))
    (cx_GREATEST_TAKE : PySem.W.nsIn K mainGlobals "GREATEST_TAKE" = some (some (.int 2 tk_GREATEST_TAKE)))
    (cx_GREATEST_DIVISOR : PySem.W.nsIn K mainGlobals "GREATEST_DIVISOR" = some (some (.int 100 tk_GREATEST_DIVISOR)))
    (cx_GREATEST_TIMES : PySem.W.nsIn K mainGlobals "GREATEST_TIMES" = some (some (.int 100 tk_GREATEST_TIMES)))
    (gf_is_integer : PySem.W.nsIn K mainGlobals "is_integer" = some (some (.ref a_is_integer)))
    (l_is_integer : K.lookup a_is_integer = some ⟨oc_is_integer, od_is_integer, .func (PySem.W.fnOf "is_integer" "is_integer" (defArgs s_is_integer) (defBody s_is_integer) (defScope s_is_integer) .none kV_is_integer dc_is_integer pm_is_integer an_is_integer cd_is_integer ct_is_integer), sl_is_integer⟩)
    (c_is_integer : PySem.W.codeIn K cd_is_integer "is_integer" = true)
    (kp_is_integer : PySem.W.keepIn K (.ref a_is_integer) = true)
    (gf_check_base : PySem.W.nsIn K mainGlobals "check_base" = some (some (.ref a_check_base)))
    (l_check_base : K.lookup a_check_base = some ⟨oc_check_base, od_check_base, .func (PySem.W.fnOf "check_base" "check_base" (defArgs s_check_base) (defBody s_check_base) (defScope s_check_base) .none kV_check_base dc_check_base pm_check_base an_check_base cd_check_base ct_check_base), sl_check_base⟩)
    (c_check_base : PySem.W.codeIn K cd_check_base "check_base" = true)
    (kp_check_base : PySem.W.keepIn K (.ref a_check_base) = true)
    (gf_check_take : PySem.W.nsIn K mainGlobals "check_take" = some (some (.ref a_check_take)))
    (l_check_take : K.lookup a_check_take = some ⟨oc_check_take, od_check_take, .func (PySem.W.fnOf "check_take" "check_take" (defArgs s_check_take) (defBody s_check_take) (defScope s_check_take) .none kV_check_take dc_check_take pm_check_take an_check_take cd_check_take ct_check_take), sl_check_take⟩)
    (c_check_take : PySem.W.codeIn K cd_check_take "check_take" = true)
    (kp_check_take : PySem.W.keepIn K (.ref a_check_take) = true)
    (gf_check_divisor : PySem.W.nsIn K mainGlobals "check_divisor" = some (some (.ref a_check_divisor)))
    (l_check_divisor : K.lookup a_check_divisor = some ⟨oc_check_divisor, od_check_divisor, .func (PySem.W.fnOf "check_divisor" "check_divisor" (defArgs s_check_divisor) (defBody s_check_divisor) (defScope s_check_divisor) (.ref dT_check_divisor) kV_check_divisor dc_check_divisor pm_check_divisor an_check_divisor cd_check_divisor ct_check_divisor), sl_check_divisor⟩)
    (c_check_divisor : PySem.W.codeIn K cd_check_divisor "check_divisor" = true)
    (kp_check_divisor : PySem.W.keepIn K (.ref a_check_divisor) = true)
    (ldT_check_divisor : K.lookup dT_check_divisor = some ⟨doc_check_divisor, dod_check_divisor, .seq dvs_check_divisor dn_check_divisor, dsl_check_divisor⟩)
    (rdv_check_divisor : dvs_check_divisor = #[.int 100 dt0_check_divisor])
    (gf_block_of : PySem.W.nsIn K mainGlobals "block_of" = some (some (.ref a_block_of)))
    (l_block_of : K.lookup a_block_of = some ⟨oc_block_of, od_block_of, .func (PySem.W.fnOf "block_of" "block_of" (defArgs s_block_of) (defBody s_block_of) (defScope s_block_of) .none kV_block_of dc_block_of pm_block_of an_block_of cd_block_of ct_block_of), sl_block_of⟩)
    (c_block_of : PySem.W.codeIn K cd_block_of "block_of" = true)
    (kp_block_of : PySem.W.keepIn K (.ref a_block_of) = true)
    (gf_check_trick : PySem.W.nsIn K mainGlobals "check_trick" = some (some (.ref a_check_trick)))
    (l_check_trick : K.lookup a_check_trick = some ⟨oc_check_trick, od_check_trick, .func (PySem.W.fnOf "check_trick" "check_trick" (defArgs s_check_trick) (defBody s_check_trick) (defScope s_check_trick) .none kV_check_trick dc_check_trick pm_check_trick an_check_trick cd_check_trick ct_check_trick), sl_check_trick⟩)
    (c_check_trick : PySem.W.codeIn K cd_check_trick "check_trick" = true)
    (kp_check_trick : PySem.W.keepIn K (.ref a_check_trick) = true)
    (gf_trick_block : PySem.W.nsIn K mainGlobals "trick_block" = some (some (.ref a_trick_block)))
    (l_trick_block : K.lookup a_trick_block = some ⟨oc_trick_block, od_trick_block, .func (PySem.W.fnOf "trick_block" "trick_block" (defArgs s_trick_block) (defBody s_trick_block) (defScope s_trick_block) .none kV_trick_block dc_trick_block pm_trick_block an_trick_block cd_trick_block ct_trick_block), sl_trick_block⟩)
    (c_trick_block : PySem.W.codeIn K cd_trick_block "trick_block" = true)
    (kp_trick_block : PySem.W.keepIn K (.ref a_trick_block) = true)
    (gf_made_of : PySem.W.nsIn K mainGlobals "made_of" = some (some (.ref a_made_of)))
    (l_made_of : K.lookup a_made_of = some ⟨oc_made_of, od_made_of, .func (PySem.W.fnOf "made_of" "made_of" (defArgs s_made_of) (defBody s_made_of) (defScope s_made_of) .none kV_made_of dc_made_of pm_made_of an_made_of cd_made_of ct_made_of), sl_made_of⟩)
    (c_made_of : PySem.W.codeIn K cd_made_of "made_of" = true)
    (kp_made_of : PySem.W.keepIn K (.ref a_made_of) = true)
    (gf_made_with : PySem.W.nsIn K mainGlobals "made_with" = some (some (.ref a_made_with)))
    (l_made_with : K.lookup a_made_with = some ⟨oc_made_with, od_made_with, .func (PySem.W.fnOf "made_with" "made_with" (defArgs s_made_with) (defBody s_made_with) (defScope s_made_with) .none kV_made_with dc_made_with pm_made_with an_made_with cd_made_with ct_made_with), sl_made_with⟩)
    (c_made_with : PySem.W.codeIn K cd_made_with "made_with" = true)
    (kp_made_with : PySem.W.keepIn K (.ref a_made_with) = true)
    (gf_fails : PySem.W.nsIn K mainGlobals "fails" = some (some (.ref a_fails)))
    (l_fails : K.lookup a_fails = some ⟨oc_fails, od_fails, .func (PySem.W.fnOf "fails" "fails" (defArgs s_fails) (defBody s_fails) (defScope s_fails) .none kV_fails dc_fails pm_fails an_fails cd_fails ct_fails), sl_fails⟩)
    (c_fails : PySem.W.codeIn K cd_fails "fails" = true)
    (kp_fails : PySem.W.keepIn K (.ref a_fails) = true)
    (gf_multipliers : PySem.W.nsIn K mainGlobals "multipliers" = some (some (.ref a_multipliers)))
    (l_multipliers : K.lookup a_multipliers = some ⟨oc_multipliers, od_multipliers, .func (PySem.W.fnOf "multipliers" "multipliers" (defArgs s_multipliers) (defBody s_multipliers) (defScope s_multipliers) .none kV_multipliers dc_multipliers pm_multipliers an_multipliers cd_multipliers ct_multipliers), sl_multipliers⟩)
    (c_multipliers : PySem.W.codeIn K cd_multipliers "multipliers" = true)
    (kp_multipliers : PySem.W.keepIn K (.ref a_multipliers) = true)
    (gf_tells_multiples : PySem.W.nsIn K mainGlobals "tells_multiples" = some (some (.ref a_tells_multiples)))
    (l_tells_multiples : K.lookup a_tells_multiples = some ⟨oc_tells_multiples, od_tells_multiples, .func (PySem.W.fnOf "tells_multiples" "tells_multiples" (defArgs s_tells_multiples) (defBody s_tells_multiples) (defScope s_tells_multiples) .none kV_tells_multiples dc_tells_multiples pm_tells_multiples an_tells_multiples cd_tells_multiples ct_tells_multiples), sl_tells_multiples⟩)
    (c_tells_multiples : PySem.W.codeIn K cd_tells_multiples "tells_multiples" = true)
    (kp_tells_multiples : PySem.W.keepIn K (.ref a_tells_multiples) = true)
    (gf_period : PySem.W.nsIn K mainGlobals "period" = some (some (.ref a_period)))
    (l_period : K.lookup a_period = some ⟨oc_period, od_period, .func (PySem.W.fnOf "period" "period" (defArgs s_period) (defBody s_period) (defScope s_period) .none kV_period dc_period pm_period an_period cd_period ct_period), sl_period⟩)
    (c_period : PySem.W.codeIn K cd_period "period" = true)
    (kp_period : PySem.W.keepIn K (.ref a_period) = true)
    (gf__law_taken : PySem.W.nsIn K mainGlobals "_law_taken" = some (some (.ref a__law_taken)))
    (l__law_taken : K.lookup a__law_taken = some ⟨oc__law_taken, od__law_taken, .func (PySem.W.fnOf "_law_taken" "_law_taken" (defArgs s__law_taken) (defBody s__law_taken) (defScope s__law_taken) .none kV__law_taken dc__law_taken pm__law_taken an__law_taken cd__law_taken ct__law_taken), sl__law_taken⟩)
    (c__law_taken : PySem.W.codeIn K cd__law_taken "_law_taken" = true)
    (kp__law_taken : PySem.W.keepIn K (.ref a__law_taken) = true)
    (gf__law_refused : PySem.W.nsIn K mainGlobals "_law_refused" = some (some (.ref a__law_refused)))
    (l__law_refused : K.lookup a__law_refused = some ⟨oc__law_refused, od__law_refused, .func (PySem.W.fnOf "_law_refused" "_law_refused" (defArgs s__law_refused) (defBody s__law_refused) (defScope s__law_refused) .none kV__law_refused dc__law_refused pm__law_refused an__law_refused cd__law_refused ct__law_refused), sl__law_refused⟩)
    (c__law_refused : PySem.W.codeIn K cd__law_refused "_law_refused" = true)
    (kp__law_refused : PySem.W.keepIn K (.ref a__law_refused) = true)
    (gf_law : PySem.W.nsIn K mainGlobals "law" = some (some (.ref a_law)))
    (l_law : K.lookup a_law = some ⟨oc_law, od_law, .func (PySem.W.fnOf "law" "law" (defArgs s_law) (defBody s_law) (defScope s_law) .none kV_law dc_law pm_law an_law cd_law ct_law), sl_law⟩)
    (c_law : PySem.W.codeIn K cd_law "law" = true)
    (kp_law : PySem.W.keepIn K (.ref a_law) = true)
    (gx_Trick : PySem.W.nsIn K mainGlobals "Trick" = some (some (.ref C_Trick)))
    (pg_Trick : PySem.W.plainGet K C_Trick Str.empty = true)
    (hd_Trick : PySem.W.hasDictIn K C_Trick = true)
    (po_Trick : PySem.W.plainOver K C_Trick = true)
    (sa_Trick : PySem.W.findIn K (.ref C_Trick) "__setattr__" = some (some (.builtin "object.__setattr__")))
    (mk_Trick : PySem.W.makesIn K C_Trick = true)
    (kc_Trick : PySem.W.keepIn K (.ref C_Trick) = true)
    (cc_Trick : PySem.W.findIn K (.ref C_Trick) "__class__" = some (some (.builtin "object.__class__")))
    (mo_Trick : PySem.W.mroIn K C_Trick (.type "object") = some true)
    (sp_cls : PySem.W.specialIn K (.builtin "object.__class__") "__get__" = some (some (.builtin "getset_descriptor.__get__")))
    (tk_cls : PySem.W.takesIn K (.builtin "object.__class__") = some true)
    (ki_Trick_int : PySem.W.kitOne K (.ref C_Trick) (.type "int") = some false)
    (ki_Trick_bool : PySem.W.kitOne K (.ref C_Trick) (.type "bool") = some false)
    (nf_Trick_tuple : PySem.W.subIn K (.type "tuple") (.ref C_Trick) = some false)
    (kis_Trick : PySem.W.kitOne K (.ref C_Trick) (.ref C_Trick) = some true)
    (kin_Trick_int : PySem.W.kitOne K (.type "int") (.ref C_Trick) = some false)
    (kin_Trick_bool : PySem.W.kitOne K (.type "bool") (.ref C_Trick) = some false)
    (kin_Trick_tuple : PySem.W.kitOne K (.type "tuple") (.ref C_Trick) = some false)
    (kin_Trick_list : PySem.W.kitOne K (.type "list") (.ref C_Trick) = some false)
    (kin_Trick_NoneType : PySem.W.kitOne K (.type "NoneType") (.ref C_Trick) = some false)
    (kin_Trick_str : PySem.W.kitOne K (.type "str") (.ref C_Trick) = some false)
    (kin_Trick_dict : PySem.W.kitOne K (.type "dict") (.ref C_Trick) = some false)
    (na_Trick_base : PySem.W.findIn K (.ref C_Trick) "_base" = some none)
    (na_Trick_take : PySem.W.findIn K (.ref C_Trick) "_take" = some none)
    (na_Trick_times : PySem.W.findIn K (.ref C_Trick) "_times" = some none)
    (gf_Trick___init__ : PySem.W.findIn K (.ref C_Trick) "__init__" = some (some (.ref a_Trick___init__)))
    (l_Trick___init__ : K.lookup a_Trick___init__ = some ⟨oc_Trick___init__, od_Trick___init__, .func (PySem.W.fnOf "__init__" "Trick.__init__" (defArgs s_Trick___init__) (defBody s_Trick___init__) (defScope s_Trick___init__) .none kV_Trick___init__ dc_Trick___init__ pm_Trick___init__ an_Trick___init__ cd_Trick___init__ ct_Trick___init__), sl_Trick___init__⟩)
    (c_Trick___init__ : PySem.W.codeIn K cd_Trick___init__ "Trick.__init__" = true)
    (kp_Trick___init__ : PySem.W.keepIn K (.ref a_Trick___init__) = true)
    (isf_Trick___init__ : PySem.W.isFn K (.ref a_Trick___init__) = true)
    (pa_Trick_base : PySem.W.findIn K (.ref C_Trick) "base" = some (some (.ref pr_Trick_base)))
    (pg_Trick_base : PySem.W.specialIn K (.ref pr_Trick_base) "__get__" = some (some (.builtin "property.__get__")))
    (pt_Trick_base : PySem.W.takesIn K (.ref pr_Trick_base) = some true)
    (prr_Trick_base : PySem.W.recIn K pr_Trick_base "property" = some (.ref a_Trick_base :: rs_Trick_base))
    (l_Trick_base : K.lookup a_Trick_base = some ⟨oc_Trick_base, od_Trick_base, .func (PySem.W.fnOf "base" "Trick.base" (defArgs s_Trick_base) (defBody s_Trick_base) (defScope s_Trick_base) .none kV_Trick_base dc_Trick_base pm_Trick_base an_Trick_base cd_Trick_base ct_Trick_base), sl_Trick_base⟩)
    (c_Trick_base : PySem.W.codeIn K cd_Trick_base "Trick.base" = true)
    (kp_Trick_base : PySem.W.keepIn K (.ref a_Trick_base) = true)
    (pa_Trick_take : PySem.W.findIn K (.ref C_Trick) "take" = some (some (.ref pr_Trick_take)))
    (pg_Trick_take : PySem.W.specialIn K (.ref pr_Trick_take) "__get__" = some (some (.builtin "property.__get__")))
    (pt_Trick_take : PySem.W.takesIn K (.ref pr_Trick_take) = some true)
    (prr_Trick_take : PySem.W.recIn K pr_Trick_take "property" = some (.ref a_Trick_take :: rs_Trick_take))
    (l_Trick_take : K.lookup a_Trick_take = some ⟨oc_Trick_take, od_Trick_take, .func (PySem.W.fnOf "take" "Trick.take" (defArgs s_Trick_take) (defBody s_Trick_take) (defScope s_Trick_take) .none kV_Trick_take dc_Trick_take pm_Trick_take an_Trick_take cd_Trick_take ct_Trick_take), sl_Trick_take⟩)
    (c_Trick_take : PySem.W.codeIn K cd_Trick_take "Trick.take" = true)
    (kp_Trick_take : PySem.W.keepIn K (.ref a_Trick_take) = true)
    (pa_Trick_times : PySem.W.findIn K (.ref C_Trick) "times" = some (some (.ref pr_Trick_times)))
    (pg_Trick_times : PySem.W.specialIn K (.ref pr_Trick_times) "__get__" = some (some (.builtin "property.__get__")))
    (pt_Trick_times : PySem.W.takesIn K (.ref pr_Trick_times) = some true)
    (prr_Trick_times : PySem.W.recIn K pr_Trick_times "property" = some (.ref a_Trick_times :: rs_Trick_times))
    (l_Trick_times : K.lookup a_Trick_times = some ⟨oc_Trick_times, od_Trick_times, .func (PySem.W.fnOf "times" "Trick.times" (defArgs s_Trick_times) (defBody s_Trick_times) (defScope s_Trick_times) .none kV_Trick_times dc_Trick_times pm_Trick_times an_Trick_times cd_Trick_times ct_Trick_times), sl_Trick_times⟩)
    (c_Trick_times : PySem.W.codeIn K cd_Trick_times "Trick.times" = true)
    (kp_Trick_times : PySem.W.keepIn K (.ref a_Trick_times) = true)
    (gf_Trick___eq__ : PySem.W.findIn K (.ref C_Trick) "__eq__" = some (some (.ref a_Trick___eq__)))
    (l_Trick___eq__ : K.lookup a_Trick___eq__ = some ⟨oc_Trick___eq__, od_Trick___eq__, .func (PySem.W.fnOf "__eq__" "Trick.__eq__" (defArgs s_Trick___eq__) (defBody s_Trick___eq__) (defScope s_Trick___eq__) .none kV_Trick___eq__ dc_Trick___eq__ pm_Trick___eq__ an_Trick___eq__ cd_Trick___eq__ ct_Trick___eq__), sl_Trick___eq__⟩)
    (c_Trick___eq__ : PySem.W.codeIn K cd_Trick___eq__ "Trick.__eq__" = true)
    (kp_Trick___eq__ : PySem.W.keepIn K (.ref a_Trick___eq__) = true)
    (isf_Trick___eq__ : PySem.W.isFn K (.ref a_Trick___eq__) = true)
    (z_int : PySem.W.nsIn K mainGlobals "int" = some none)
    (z_bool : PySem.W.nsIn K mainGlobals "bool" = some none)
    (z_len : PySem.W.nsIn K mainGlobals "len" = some none)
    (z_range : PySem.W.nsIn K mainGlobals "range" = some none)
    (z_isinstance : PySem.W.nsIn K mainGlobals "isinstance" = some none)
    (z_ValueError : PySem.W.nsIn K mainGlobals "ValueError" = some none)
    : ∃ fd : FuncData, (∀ (s : Shared) (v : Value), BindsTo s fd ⟨[v], []⟩ [("_law_script", v)]) ∧ ∀ base : Heap, K.In base → base.Ns mainGlobals mg → FnOk l.prog w K mg base CX0 lv_law fa fd ["_law_script"] (sp_law K) := by
  have e := hfa.symm.trans (PySem.W.mg_of X G gf_law)
  have e2 : a_law = fa := by cases e; rfl
  subst e2
  have F_check_divisor : FunD K "check_divisor" "check_divisor" (defArgs s_check_divisor) (defBody s_check_divisor) (defScope s_check_divisor) [.int 100] [] a_check_divisor _ := ⟨⟨_, _, _, _, _, _, _, _, _, _, rfl, l_check_divisor, c_check_divisor, .inr ⟨List.cons_ne_nil _ _, _, _, [.int 100 dt0_check_divisor], _, rfl, ldT_check_divisor, by rw [rdv_check_divisor], (.cons ⟨_, rfl⟩ .nil)⟩, .inl rfl⟩, kp_check_divisor⟩
  obtain ⟨dn0_check_divisor, ro_check_divisor, bo_check_divisor⟩ := F_check_divisor.binds1 (ps := ["d", "greatest"]) 2 1 (List.cons_ne_nil _ _) rfl fun _ _ _ _ _ _ _ us its h1 h2 => match us, its, h1, h2 with | [_, _], [_], _, _ => ⟨_, rfl, rfl⟩
  cases ro_check_divisor
  obtain ⟨ds_check_divisor, rd_check_divisor, bd_check_divisor⟩ := F_check_divisor.binds1 (ps := ["d", "greatest"]) 1 0 (List.cons_ne_nil _ _) rfl fun _ _ _ _ _ _ _ us its h1 h2 => match us, its, h1, h2 with | [_], [_], _, _ => ⟨_, rfl, rfl⟩
  refine ⟨PySem.W.fnOf "law" "law" (defArgs s_law) (defBody s_law) (defScope s_law) .none kV_law dc_law pm_law an_law cd_law ct_law, fun s v => .of_eq rfl, fun base _ _ => ?_⟩
  exact ok_law (T :=
    { C_TrickError := C_TrickError,
      g_TrickError := PySem.W.mg_of X G gx_TrickError,
      x_TrickError := x_TrickError,
      k_TrickError := k_TrickError,
      s_TrickError := s_TrickError,
      t_TrickError := t_TrickError,
      C_BadBase := C_BadBase,
      g_BadBase := PySem.W.mg_of X G gx_BadBase,
      x_BadBase := x_BadBase,
      k_BadBase := k_BadBase,
      s_BadBase := s_BadBase,
      t_BadBase := t_BadBase,
      hd_BadBase := hd_BadBase,
      C_BadTake := C_BadTake,
      g_BadTake := PySem.W.mg_of X G gx_BadTake,
      x_BadTake := x_BadTake,
      k_BadTake := k_BadTake,
      s_BadTake := s_BadTake,
      t_BadTake := t_BadTake,
      hd_BadTake := hd_BadTake,
      C_BadTimes := C_BadTimes,
      g_BadTimes := PySem.W.mg_of X G gx_BadTimes,
      x_BadTimes := x_BadTimes,
      k_BadTimes := k_BadTimes,
      s_BadTimes := s_BadTimes,
      t_BadTimes := t_BadTimes,
      C_BadTrick := C_BadTrick,
      g_BadTrick := PySem.W.mg_of X G gx_BadTrick,
      x_BadTrick := x_BadTrick,
      k_BadTrick := k_BadTrick,
      s_BadTrick := s_BadTrick,
      t_BadTrick := t_BadTrick,
      C_BadDivisor := C_BadDivisor,
      g_BadDivisor := PySem.W.mg_of X G gx_BadDivisor,
      x_BadDivisor := x_BadDivisor,
      k_BadDivisor := k_BadDivisor,
      s_BadDivisor := s_BadDivisor,
      t_BadDivisor := t_BadDivisor,
      hd_BadDivisor := hd_BadDivisor,
      xm_TrickError_BadBase := PySem.W.exm_ref s_BadBase hd_BadBase t_BadBase su_TrickError_BadBase,
      xm_TrickError_BadDivisor := PySem.W.exm_ref s_BadDivisor hd_BadDivisor t_BadDivisor su_TrickError_BadDivisor,
      xm_TrickError_BadTake := PySem.W.exm_ref s_BadTake hd_BadTake t_BadTake su_TrickError_BadTake,
      xm_BadBase_BadBase := PySem.W.exm_ref s_BadBase hd_BadBase t_BadBase su_BadBase_BadBase,
      xm_BadBase_BadDivisor := PySem.W.exm_ref s_BadDivisor hd_BadDivisor t_BadDivisor su_BadBase_BadDivisor,
      xm_BadBase_BadTake := PySem.W.exm_ref s_BadTake hd_BadTake t_BadTake su_BadBase_BadTake,
      xm_BadTake_BadBase := PySem.W.exm_ref s_BadBase hd_BadBase t_BadBase su_BadTake_BadBase,
      xm_BadTake_BadDivisor := PySem.W.exm_ref s_BadDivisor hd_BadDivisor t_BadDivisor su_BadTake_BadDivisor,
      xm_BadTake_BadTake := PySem.W.exm_ref s_BadTake hd_BadTake t_BadTake su_BadTake_BadTake,
      xm_BadTimes_BadBase := PySem.W.exm_ref s_BadBase hd_BadBase t_BadBase su_BadTimes_BadBase,
      xm_BadTimes_BadDivisor := PySem.W.exm_ref s_BadDivisor hd_BadDivisor t_BadDivisor su_BadTimes_BadDivisor,
      xm_BadTimes_BadTake := PySem.W.exm_ref s_BadTake hd_BadTake t_BadTake su_BadTimes_BadTake,
      xm_BadTrick_BadBase := PySem.W.exm_ref s_BadBase hd_BadBase t_BadBase su_BadTrick_BadBase,
      xm_BadTrick_BadDivisor := PySem.W.exm_ref s_BadDivisor hd_BadDivisor t_BadDivisor su_BadTrick_BadDivisor,
      xm_BadTrick_BadTake := PySem.W.exm_ref s_BadTake hd_BadTake t_BadTake su_BadTrick_BadTake,
      xm_BadDivisor_BadBase := PySem.W.exm_ref s_BadBase hd_BadBase t_BadBase su_BadDivisor_BadBase,
      xm_BadDivisor_BadDivisor := PySem.W.exm_ref s_BadDivisor hd_BadDivisor t_BadDivisor su_BadDivisor_BadDivisor,
      xm_BadDivisor_BadTake := PySem.W.exm_ref s_BadTake hd_BadTake t_BadTake su_BadDivisor_BadTake,
      t_c_LEAST_BASE := tk_LEAST_BASE,
      c_LEAST_BASE := PySem.W.mg_of X G cx_LEAST_BASE,
      t_c_GREATEST_BASE := tk_GREATEST_BASE,
      c_GREATEST_BASE := PySem.W.mg_of X G cx_GREATEST_BASE,
      t_c_GREATEST_TAKE := tk_GREATEST_TAKE,
      c_GREATEST_TAKE := PySem.W.mg_of X G cx_GREATEST_TAKE,
      t_c_GREATEST_DIVISOR := tk_GREATEST_DIVISOR,
      c_GREATEST_DIVISOR := PySem.W.mg_of X G cx_GREATEST_DIVISOR,
      t_c_GREATEST_TIMES := tk_GREATEST_TIMES,
      c_GREATEST_TIMES := PySem.W.mg_of X G cx_GREATEST_TIMES,
      a_is_integer := a_is_integer,
      d_is_integer := _,
      F_is_integer := fun_mk (st := s_is_integer) l_is_integer c_is_integer kp_is_integer,
      b_is_integer := (fun_mk (st := s_is_integer) l_is_integer c_is_integer kp_is_integer).binds (ps := ["told", "low", "high"]) fun _ _ _ _ _ _ us hl => match us, hl with | [_, _, _], _ => rfl,
      g_is_integer := PySem.W.mg_of X G gf_is_integer,
      a_check_base := a_check_base,
      d_check_base := _,
      F_check_base := fun_mk (st := s_check_base) l_check_base c_check_base kp_check_base,
      b_check_base := (fun_mk (st := s_check_base) l_check_base c_check_base kp_check_base).binds (ps := ["base"]) fun _ _ _ _ _ _ us hl => match us, hl with | [_], _ => rfl,
      g_check_base := PySem.W.mg_of X G gf_check_base,
      a_check_take := a_check_take,
      d_check_take := _,
      F_check_take := fun_mk (st := s_check_take) l_check_take c_check_take kp_check_take,
      b_check_take := (fun_mk (st := s_check_take) l_check_take c_check_take kp_check_take).binds (ps := ["take"]) fun _ _ _ _ _ _ us hl => match us, hl with | [_], _ => rfl,
      g_check_take := PySem.W.mg_of X G gf_check_take,
      a_check_divisor := a_check_divisor,
      d_check_divisor := _,
      F_check_divisor := F_check_divisor,
      b_check_divisor := bo_check_divisor,
      ds_check_divisor := ds_check_divisor,
      rd_check_divisor := rd_check_divisor,
      bd_check_divisor := bd_check_divisor,
      g_check_divisor := PySem.W.mg_of X G gf_check_divisor,
      a_block_of := a_block_of,
      d_block_of := _,
      F_block_of := fun_mk (st := s_block_of) l_block_of c_block_of kp_block_of,
      b_block_of := (fun_mk (st := s_block_of) l_block_of c_block_of kp_block_of).binds (ps := ["base", "take"]) fun _ _ _ _ _ _ us hl => match us, hl with | [_, _], _ => rfl,
      g_block_of := PySem.W.mg_of X G gf_block_of,
      a_check_trick := a_check_trick,
      d_check_trick := _,
      F_check_trick := fun_mk (st := s_check_trick) l_check_trick c_check_trick kp_check_trick,
      b_check_trick := (fun_mk (st := s_check_trick) l_check_trick c_check_trick kp_check_trick).binds (ps := ["trick"]) fun _ _ _ _ _ _ us hl => match us, hl with | [_], _ => rfl,
      g_check_trick := PySem.W.mg_of X G gf_check_trick,
      a_trick_block := a_trick_block,
      d_trick_block := _,
      F_trick_block := fun_mk (st := s_trick_block) l_trick_block c_trick_block kp_trick_block,
      b_trick_block := (fun_mk (st := s_trick_block) l_trick_block c_trick_block kp_trick_block).binds (ps := ["trick"]) fun _ _ _ _ _ _ us hl => match us, hl with | [_], _ => rfl,
      g_trick_block := PySem.W.mg_of X G gf_trick_block,
      a_made_of := a_made_of,
      d_made_of := _,
      F_made_of := fun_mk (st := s_made_of) l_made_of c_made_of kp_made_of,
      b_made_of := (fun_mk (st := s_made_of) l_made_of c_made_of kp_made_of).binds (ps := ["trick", "n"]) fun _ _ _ _ _ _ us hl => match us, hl with | [_, _], _ => rfl,
      g_made_of := PySem.W.mg_of X G gf_made_of,
      a_made_with := a_made_with,
      d_made_with := _,
      F_made_with := fun_mk (st := s_made_with) l_made_with c_made_with kp_made_with,
      b_made_with := (fun_mk (st := s_made_with) l_made_with c_made_with kp_made_with).binds (ps := ["block", "times", "n"]) fun _ _ _ _ _ _ us hl => match us, hl with | [_, _, _], _ => rfl,
      g_made_with := PySem.W.mg_of X G gf_made_with,
      a_fails := a_fails,
      d_fails := _,
      F_fails := fun_mk (st := s_fails) l_fails c_fails kp_fails,
      b_fails := (fun_mk (st := s_fails) l_fails c_fails kp_fails).binds (ps := ["trick", "d"]) fun _ _ _ _ _ _ us hl => match us, hl with | [_, _], _ => rfl,
      g_fails := PySem.W.mg_of X G gf_fails,
      a_multipliers := a_multipliers,
      d_multipliers := _,
      F_multipliers := fun_mk (st := s_multipliers) l_multipliers c_multipliers kp_multipliers,
      b_multipliers := (fun_mk (st := s_multipliers) l_multipliers c_multipliers kp_multipliers).binds (ps := ["base", "take", "d"]) fun _ _ _ _ _ _ us hl => match us, hl with | [_, _, _], _ => rfl,
      g_multipliers := PySem.W.mg_of X G gf_multipliers,
      a_tells_multiples := a_tells_multiples,
      d_tells_multiples := _,
      F_tells_multiples := fun_mk (st := s_tells_multiples) l_tells_multiples c_tells_multiples kp_tells_multiples,
      b_tells_multiples := (fun_mk (st := s_tells_multiples) l_tells_multiples c_tells_multiples kp_tells_multiples).binds (ps := ["block", "times", "d"]) fun _ _ _ _ _ _ us hl => match us, hl with | [_, _, _], _ => rfl,
      g_tells_multiples := PySem.W.mg_of X G gf_tells_multiples,
      a_period := a_period,
      d_period := _,
      F_period := fun_mk (st := s_period) l_period c_period kp_period,
      b_period := (fun_mk (st := s_period) l_period c_period kp_period).binds (ps := ["trick", "d"]) fun _ _ _ _ _ _ us hl => match us, hl with | [_, _], _ => rfl,
      g_period := PySem.W.mg_of X G gf_period,
      a__law_taken := a__law_taken,
      d__law_taken := _,
      F__law_taken := fun_mk (st := s__law_taken) l__law_taken c__law_taken kp__law_taken,
      b__law_taken := (fun_mk (st := s__law_taken) l__law_taken c__law_taken kp__law_taken).binds (ps := ["_law_row", "_law_many"]) fun _ _ _ _ _ _ us hl => match us, hl with | [_, _], _ => rfl,
      g__law_taken := PySem.W.mg_of X G gf__law_taken,
      a__law_refused := a__law_refused,
      d__law_refused := _,
      F__law_refused := fun_mk (st := s__law_refused) l__law_refused c__law_refused kp__law_refused,
      b__law_refused := (fun_mk (st := s__law_refused) l__law_refused c__law_refused kp__law_refused).binds (ps := ["_law_base", "_law_take", "_law_d"]) fun _ _ _ _ _ _ us hl => match us, hl with | [_, _, _], _ => rfl,
      g__law_refused := PySem.W.mg_of X G gf__law_refused,
      a_law := a_law,
      d_law := _,
      F_law := fun_mk (st := s_law) l_law c_law kp_law,
      b_law := (fun_mk (st := s_law) l_law c_law kp_law).binds (ps := ["_law_script"]) fun _ _ _ _ _ _ us hl => match us, hl with | [_], _ => rfl,
      g_law := PySem.W.mg_of X G gf_law,
      C_Trick := C_Trick,
      cl_Trick := ⟨pg_Trick, hd_Trick, po_Trick, sa_Trick⟩,
      g_Trick := PySem.W.mg_of X G gx_Trick,
      kc_Trick := kc_Trick,
      ins_Trick := fun _ _ _ _ e => .ins e ⟨pg_Trick, hd_Trick, po_Trick, sa_Trick⟩ cc_Trick sp_cls tk_cls mo_Trick,
      ki_Trick_int := ki_Trick_int,
      ki_Trick_bool := ki_Trick_bool,
      nf_Trick_tuple := nf_Trick_tuple,
      kis_Trick := kis_Trick,
      kin_Trick_int := kin_Trick_int,
      kin_Trick_bool := kin_Trick_bool,
      kin_Trick_tuple := kin_Trick_tuple,
      kin_Trick_list := kin_Trick_list,
      kin_Trick_NoneType := kin_Trick_NoneType,
      kin_Trick_str := kin_Trick_str,
      kin_Trick_dict := kin_Trick_dict,
      na_Trick_base := na_Trick_base,
      na_Trick_take := na_Trick_take,
      na_Trick_times := na_Trick_times,
      a_Trick___init__ := a_Trick___init__,
      d_Trick___init__ := _,
      F_Trick___init__ := fun_mk (st := s_Trick___init__) l_Trick___init__ c_Trick___init__ kp_Trick___init__,
      b_Trick___init__ := (fun_mk (st := s_Trick___init__) l_Trick___init__ c_Trick___init__ kp_Trick___init__).binds (ps := ["self", "base", "take", "times"]) fun _ _ _ _ _ _ us hl => match us, hl with | [_, _, _, _], _ => rfl,
      mk_Trick := ⟨mk_Trick, gf_Trick___init__, isf_Trick___init__, kc_Trick⟩,
      a_Trick_base := a_Trick_base,
      d_Trick_base := _,
      F_Trick_base := fun_mk (st := s_Trick_base) l_Trick_base c_Trick_base kp_Trick_base,
      b_Trick_base := (fun_mk (st := s_Trick_base) l_Trick_base c_Trick_base kp_Trick_base).binds (ps := ["self"]) fun _ _ _ _ _ _ us hl => match us, hl with | [_], _ => rfl,
      q_Trick_base := pr_Trick_base,
      p_Trick_base := ⟨pa_Trick_base, pg_Trick_base, pt_Trick_base, ⟨_, prr_Trick_base⟩⟩,
      a_Trick_take := a_Trick_take,
      d_Trick_take := _,
      F_Trick_take := fun_mk (st := s_Trick_take) l_Trick_take c_Trick_take kp_Trick_take,
      b_Trick_take := (fun_mk (st := s_Trick_take) l_Trick_take c_Trick_take kp_Trick_take).binds (ps := ["self"]) fun _ _ _ _ _ _ us hl => match us, hl with | [_], _ => rfl,
      q_Trick_take := pr_Trick_take,
      p_Trick_take := ⟨pa_Trick_take, pg_Trick_take, pt_Trick_take, ⟨_, prr_Trick_take⟩⟩,
      a_Trick_times := a_Trick_times,
      d_Trick_times := _,
      F_Trick_times := fun_mk (st := s_Trick_times) l_Trick_times c_Trick_times kp_Trick_times,
      b_Trick_times := (fun_mk (st := s_Trick_times) l_Trick_times c_Trick_times kp_Trick_times).binds (ps := ["self"]) fun _ _ _ _ _ _ us hl => match us, hl with | [_], _ => rfl,
      q_Trick_times := pr_Trick_times,
      p_Trick_times := ⟨pa_Trick_times, pg_Trick_times, pt_Trick_times, ⟨_, prr_Trick_times⟩⟩,
      a_Trick___eq__ := a_Trick___eq__,
      d_Trick___eq__ := _,
      F_Trick___eq__ := fun_mk (st := s_Trick___eq__) l_Trick___eq__ c_Trick___eq__ kp_Trick___eq__,
      b_Trick___eq__ := (fun_mk (st := s_Trick___eq__) l_Trick___eq__ c_Trick___eq__ kp_Trick___eq__).binds (ps := ["self", "other"]) fun _ _ _ _ _ _ us hl => match us, hl with | [_, _], _ => rfl,
      m_Trick___eq__ := ⟨gf_Trick___eq__, isf_Trick___eq__, kp_Trick___eq__⟩,
      n_int := PySem.W.mg_none_of X G z_int,
      n_bool := PySem.W.mg_none_of X G z_bool,
      n_len := PySem.W.mg_none_of X G z_len,
      n_range := PySem.W.mg_none_of X G z_range,
      n_isinstance := PySem.W.mg_none_of X G z_isinstance,
      n_ValueError := PySem.W.mg_none_of X G z_ValueError })
theorem walk {l : PySem.W.OpenLaw} {q : Program} {loose : List Str} {XP : (Str → Option Value) → Heap → Prop} {YP : World → Heap → Prop} {d : DefRec} {K : Params → PySem.W.Frag} (hn : l.most = some 63) (hdf : d.params.defaults = [])
    (hY : ∀ (w : World) (h : Heap), YP w h → (K w.params).In h)
    (F : ∀ (w : World) (mg : Str → Option Value) (fa : Addr) (h : Heap), (K w.params).In h → h.Ns mainGlobals mg → mg d.name = some (.ref fa) →
      ∃ fd : FuncData, (∀ (s : Shared) (u : Value), BindsTo s fd ⟨[u], []⟩ [("_law_script", u)]) ∧ ∀ base : Heap, (K w.params).In base → base.Ns mainGlobals mg → FnOk l.prog w (K w.params) mg base CX0 lv_law fa fd ["_law_script"] (sp_law (K w.params))) :
    PySem.W.WalkO q loose XP YP l.row.toRowW d [] (fun f vs => PySem.call f vs) :=
  L2.walk_of (n := 63) (k := lv_law) (x := "_law_script") (CX := fun _ => CX0) (sp := fun w => sp_law (K w.params)) hn (by decide) hdf ⟨rfl, by decide, by decide⟩ hY F (fun _ _ a ns hl hO hS => ⟨a, ns, rfl, scr_of hO hS, hl, fun _ => rfl⟩) fun _ _ _ _ _ z => z
end Rt
open PySem PySem.W PyProof.Rows
set_option maxRecDepth 100000 in
set_option maxHeartbeats 0 in
theorem PySem.Challenge.cw_resttricks_k10_whole_multipliers_holds : PySem.Challenge.rw_resttricks_k10_whole_multipliers.Holds := by
  w_on; o_law; k_head; (case hw => w_witness2)
  k_fill
  refine Rt.walk (l := PySem.Challenge.rw_resttricks_k10_whole_multipliers) rfl rfl (fun w h Y => PySem.W.kIn_of Y) ?F
  case F =>
    intro w mg fa h KX G hmg
    refine' Rt.all_mk KX G hmg ?gx_TrickError ?x_TrickError ?k_TrickError ?s_TrickError ?t_TrickError ?gx_BadBase ?x_BadBase ?k_BadBase ?s_BadBase ?t_BadBase ?hd_BadBase ?gx_BadTake ?x_BadTake ?k_BadTake ?s_BadTake ?t_BadTake ?hd_BadTake ?gx_BadTimes ?x_BadTimes ?k_BadTimes ?s_BadTimes ?t_BadTimes ?gx_BadTrick ?x_BadTrick ?k_BadTrick ?s_BadTrick ?t_BadTrick ?gx_BadDivisor ?x_BadDivisor ?k_BadDivisor ?s_BadDivisor ?t_BadDivisor ?hd_BadDivisor ?su_TrickError_BadBase ?su_TrickError_BadDivisor ?su_TrickError_BadTake ?su_BadBase_BadBase ?su_BadBase_BadDivisor ?su_BadBase_BadTake ?su_BadTake_BadBase ?su_BadTake_BadDivisor ?su_BadTake_BadTake ?su_BadTimes_BadBase ?su_BadTimes_BadDivisor ?su_BadTimes_BadTake ?su_BadTrick_BadBase ?su_BadTrick_BadDivisor ?su_BadTrick_BadTake ?su_BadDivisor_BadBase ?su_BadDivisor_BadDivisor ?su_BadDivisor_BadTake ?cx_LEAST_BASE ?cx_GREATEST_BASE ?cx_GREATEST_TAKE ?cx_GREATEST_DIVISOR ?cx_GREATEST_TIMES ?gf_is_integer ?l_is_integer ?c_is_integer ?kp_is_integer ?gf_check_base ?l_check_base ?c_check_base ?kp_check_base ?gf_check_take ?l_check_take ?c_check_take ?kp_check_take ?gf_check_divisor ?l_check_divisor ?c_check_divisor ?kp_check_divisor ?ldT_check_divisor ?rdv_check_divisor ?gf_block_of ?l_block_of ?c_block_of ?kp_block_of ?gf_check_trick ?l_check_trick ?c_check_trick ?kp_check_trick ?gf_trick_block ?l_trick_block ?c_trick_block ?kp_trick_block ?gf_made_of ?l_made_of ?c_made_of ?kp_made_of ?gf_made_with ?l_made_with ?c_made_with ?kp_made_with ?gf_fails ?l_fails ?c_fails ?kp_fails ?gf_multipliers ?l_multipliers ?c_multipliers ?kp_multipliers ?gf_tells_multiples ?l_tells_multiples ?c_tells_multiples ?kp_tells_multiples ?gf_period ?l_period ?c_period ?kp_period ?gf__law_taken ?l__law_taken ?c__law_taken ?kp__law_taken ?gf__law_refused ?l__law_refused ?c__law_refused ?kp__law_refused ?gf_law ?l_law ?c_law ?kp_law ?gx_Trick ?pg_Trick ?hd_Trick ?po_Trick ?sa_Trick ?mk_Trick ?kc_Trick ?cc_Trick ?mo_Trick ?sp_cls ?tk_cls ?ki_Trick_int ?ki_Trick_bool ?nf_Trick_tuple ?kis_Trick ?kin_Trick_int ?kin_Trick_bool ?kin_Trick_tuple ?kin_Trick_list ?kin_Trick_NoneType ?kin_Trick_str ?kin_Trick_dict ?na_Trick_base ?na_Trick_take ?na_Trick_times ?gf_Trick___init__ ?l_Trick___init__ ?c_Trick___init__ ?kp_Trick___init__ ?isf_Trick___init__ ?pa_Trick_base ?pg_Trick_base ?pt_Trick_base ?prr_Trick_base ?l_Trick_base ?c_Trick_base ?kp_Trick_base ?pa_Trick_take ?pg_Trick_take ?pt_Trick_take ?prr_Trick_take ?l_Trick_take ?c_Trick_take ?kp_Trick_take ?pa_Trick_times ?pg_Trick_times ?pt_Trick_times ?prr_Trick_times ?l_Trick_times ?c_Trick_times ?kp_Trick_times ?gf_Trick___eq__ ?l_Trick___eq__ ?c_Trick___eq__ ?kp_Trick___eq__ ?isf_Trick___eq__ ?z_int ?z_bool ?z_len ?z_range ?z_isinstance ?z_ValueError
    (case gx_TrickError => k_is)
    (case x_TrickError => k_exc)
    (case k_TrickError => k_is)
    (case s_TrickError => k_is)
    (case t_TrickError => k_is)
    (case gx_BadBase => k_is)
    (case x_BadBase => k_exc)
    (case k_BadBase => k_is)
    (case s_BadBase => k_is)
    (case t_BadBase => k_is)
    (case hd_BadBase => k_is)
    (case gx_BadTake => k_is)
    (case x_BadTake => k_exc)
    (case k_BadTake => k_is)
    (case s_BadTake => k_is)
    (case t_BadTake => k_is)
    (case hd_BadTake => k_is)
    (case gx_BadTimes => k_is)
    (case x_BadTimes => k_exc)
    (case k_BadTimes => k_is)
    (case s_BadTimes => k_is)
    (case t_BadTimes => k_is)
    (case gx_BadTrick => k_is)
    (case x_BadTrick => k_exc)
    (case k_BadTrick => k_is)
    (case s_BadTrick => k_is)
    (case t_BadTrick => k_is)
    (case gx_BadDivisor => k_is)
    (case x_BadDivisor => k_exc)
    (case k_BadDivisor => k_is)
    (case s_BadDivisor => k_is)
    (case t_BadDivisor => k_is)
    (case hd_BadDivisor => k_is)
    (case su_TrickError_BadBase => first | k_is | rfl)
    (case su_TrickError_BadDivisor => first | k_is | rfl)
    (case su_TrickError_BadTake => first | k_is | rfl)
    (case su_BadBase_BadBase => first | k_is | rfl)
    (case su_BadBase_BadDivisor => first | k_is | rfl)
    (case su_BadBase_BadTake => first | k_is | rfl)
    (case su_BadTake_BadBase => first | k_is | rfl)
    (case su_BadTake_BadDivisor => first | k_is | rfl)
    (case su_BadTake_BadTake => first | k_is | rfl)
    (case su_BadTimes_BadBase => first | k_is | rfl)
    (case su_BadTimes_BadDivisor => first | k_is | rfl)
    (case su_BadTimes_BadTake => first | k_is | rfl)
    (case su_BadTrick_BadBase => first | k_is | rfl)
    (case su_BadTrick_BadDivisor => first | k_is | rfl)
    (case su_BadTrick_BadTake => first | k_is | rfl)
    (case su_BadDivisor_BadBase => first | k_is | rfl)
    (case su_BadDivisor_BadDivisor => first | k_is | rfl)
    (case su_BadDivisor_BadTake => first | k_is | rfl)
    (case cx_LEAST_BASE => k_is)
    (case cx_GREATEST_BASE => k_is)
    (case cx_GREATEST_TAKE => k_is)
    (case cx_GREATEST_DIVISOR => k_is)
    (case cx_GREATEST_TIMES => k_is)
    (case gf_is_integer => k_is)
    (case l_is_integer => k_is)
    (case c_is_integer => k_is)
    (case kp_is_integer => k_is)
    (case gf_check_base => k_is)
    (case l_check_base => k_is)
    (case c_check_base => k_is)
    (case kp_check_base => k_is)
    (case gf_check_take => k_is)
    (case l_check_take => k_is)
    (case c_check_take => k_is)
    (case kp_check_take => k_is)
    (case gf_check_divisor => k_is)
    (case l_check_divisor => k_is)
    (case c_check_divisor => k_is)
    (case kp_check_divisor => k_is)
    (case ldT_check_divisor => k_is)
    (case rdv_check_divisor => first | rfl | decide +kernel)
    (case gf_block_of => k_is)
    (case l_block_of => k_is)
    (case c_block_of => k_is)
    (case kp_block_of => k_is)
    (case gf_check_trick => k_is)
    (case l_check_trick => k_is)
    (case c_check_trick => k_is)
    (case kp_check_trick => k_is)
    (case gf_trick_block => k_is)
    (case l_trick_block => k_is)
    (case c_trick_block => k_is)
    (case kp_trick_block => k_is)
    (case gf_made_of => k_is)
    (case l_made_of => k_is)
    (case c_made_of => k_is)
    (case kp_made_of => k_is)
    (case gf_made_with => k_is)
    (case l_made_with => k_is)
    (case c_made_with => k_is)
    (case kp_made_with => k_is)
    (case gf_fails => k_is)
    (case l_fails => k_is)
    (case c_fails => k_is)
    (case kp_fails => k_is)
    (case gf_multipliers => k_is)
    (case l_multipliers => k_is)
    (case c_multipliers => k_is)
    (case kp_multipliers => k_is)
    (case gf_tells_multiples => k_is)
    (case l_tells_multiples => k_is)
    (case c_tells_multiples => k_is)
    (case kp_tells_multiples => k_is)
    (case gf_period => k_is)
    (case l_period => k_is)
    (case c_period => k_is)
    (case kp_period => k_is)
    (case gf__law_taken => k_is)
    (case l__law_taken => k_is)
    (case c__law_taken => k_is)
    (case kp__law_taken => k_is)
    (case gf__law_refused => k_is)
    (case l__law_refused => k_is)
    (case c__law_refused => k_is)
    (case kp__law_refused => k_is)
    (case gf_law => k_is)
    (case l_law => k_is)
    (case c_law => k_is)
    (case kp_law => k_is)
    (case gx_Trick => k_is)
    (case pg_Trick => k_is)
    (case hd_Trick => k_is)
    (case po_Trick => k_is)
    (case sa_Trick => k_is)
    (case mk_Trick => k_is)
    (case kc_Trick => k_is)
    (case cc_Trick => k_is)
    (case mo_Trick => k_is)
    (case sp_cls => k_is)
    (case tk_cls => k_is)
    (case ki_Trick_int => first | k_is | rfl)
    (case ki_Trick_bool => first | k_is | rfl)
    (case nf_Trick_tuple => first | k_is | rfl)
    (case kis_Trick => first | k_is | rfl)
    (case kin_Trick_int => first | k_is | rfl)
    (case kin_Trick_bool => first | k_is | rfl)
    (case kin_Trick_tuple => first | k_is | rfl)
    (case kin_Trick_list => first | k_is | rfl)
    (case kin_Trick_NoneType => first | k_is | rfl)
    (case kin_Trick_str => first | k_is | rfl)
    (case kin_Trick_dict => first | k_is | rfl)
    (case na_Trick_base => k_is)
    (case na_Trick_take => k_is)
    (case na_Trick_times => k_is)
    (case gf_Trick___init__ => k_is)
    (case l_Trick___init__ => k_is)
    (case c_Trick___init__ => k_is)
    (case kp_Trick___init__ => k_is)
    (case isf_Trick___init__ => k_is)
    (case pa_Trick_base => k_is)
    (case pg_Trick_base => k_is)
    (case pt_Trick_base => k_is)
    (case prr_Trick_base => k_is)
    (case l_Trick_base => k_is)
    (case c_Trick_base => k_is)
    (case kp_Trick_base => k_is)
    (case pa_Trick_take => k_is)
    (case pg_Trick_take => k_is)
    (case pt_Trick_take => k_is)
    (case prr_Trick_take => k_is)
    (case l_Trick_take => k_is)
    (case c_Trick_take => k_is)
    (case kp_Trick_take => k_is)
    (case pa_Trick_times => k_is)
    (case pg_Trick_times => k_is)
    (case pt_Trick_times => k_is)
    (case prr_Trick_times => k_is)
    (case l_Trick_times => k_is)
    (case c_Trick_times => k_is)
    (case kp_Trick_times => k_is)
    (case gf_Trick___eq__ => k_is)
    (case l_Trick___eq__ => k_is)
    (case c_Trick___eq__ => k_is)
    (case kp_Trick___eq__ => k_is)
    (case isf_Trick___eq__ => k_is)
    (case z_int => k_is)
    (case z_bool => k_is)
    (case z_len => k_is)
    (case z_range => k_is)
    (case z_isinstance => k_is)
    (case z_ValueError => k_is)
#print axioms PySem.Challenge.cw_resttricks_k10_whole_multipliers_holds
