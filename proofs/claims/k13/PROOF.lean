import PyProof.Rows.All
import Wide.All
import OpenK.AllK
import Wide.FinOn
import HandS.ForMost
import HandS.Exc
import HandS.TryOnly
import HandS.ExcOwn
import HandS.WordsExc
import HandS.TryMany
import HandS.IsInst
import HandS.Property
import HandS.Wide
import HandS.SortInts
import HandS.Conv
import HandS.Evl
import HandS.NoneIn
import HandS.ExcIs
import HandS.ExcSuper
import KE.KExcSuper
import KE.KExcInit
import KE.GoesMore
import HandS.Rev
import HandS.FStr
import HandS.Walk
import HandS.WideMore
import HandS.TupAny
import HandS.TupMul
import HandS.Style
import HandS.SetFor
import HandS.Strs
import HandS.Defaults
import HandS.RaiseMore
import HandS.Zip
import KE.KSortTupG
import HandS.DictTup
import HandS.Deep
import HandS.Conv
import KE.KDictSum
import PySem.Challenge.RW_resttricks_k13_whole_rings
set_option Elab.async false
set_option linter.all false
set_option maxRecDepth 100000
set_option maxHeartbeats 2000000
namespace Rt
open PySem L2 PySem.Spec PyProof.Rows
/-! ### the text by places -/
def topS (i : Nat) : Stmt := PySem.Challenge.pw_resttricks_k13_whole_rings.main.body.getD i (.Pass ⟨0, 0, 0, 0⟩)
abbrev s_is_integer : Stmt := topS 10
abbrev s_check_base : Stmt := topS 11
abbrev s_check_take : Stmt := topS 12
abbrev s_block_of : Stmt := topS 14
abbrev s_check_trick : Stmt := topS 18
abbrev s_trick_block : Stmt := topS 19
abbrev s_made_of : Stmt := topS 20
abbrev s_made_with : Stmt := topS 21
abbrev s_bound : Stmt := topS 23
abbrev s_rings : Stmt := topS 24
abbrev s_greatest_size : Stmt := topS 25
abbrev s_rounded_up : Stmt := topS 26
abbrev s_unseen_path : Stmt := topS 27
abbrev s_ring_at_end : Stmt := topS 28
abbrev s__law_taken : Stmt := topS 30
abbrev s__law_power : Stmt := topS 31
abbrev s__law_trick : Stmt := topS 32
abbrev s__law_behind : Stmt := topS 33
abbrev s__law_ring : Stmt := topS 34
abbrev s_law : Stmt := topS 35
abbrev s_Trick___init__ : Stmt := inClass (topS 17) 0
abbrev s_Trick_base : Stmt := inClass (topS 17) 1
abbrev s_Trick_take : Stmt := inClass (topS 17) 2
abbrev s_Trick_times : Stmt := inClass (topS 17) 3
abbrev s_Trick___eq__ : Stmt := inClass (topS 17) 4
theorem sc_is_integer : FnScope ["told", "low", "high"] ["told", "low", "high"] (defScope s_is_integer) := ⟨rfl, rfl, rfl, by decide +kernel, rfl, by decide +kernel, by decide +kernel⟩
abbrev lv_is_integer : Nat := 1
theorem sc_check_base : FnScope ["base"] ["base"] (defScope s_check_base) := ⟨rfl, rfl, rfl, by decide +kernel, rfl, by decide +kernel, by decide +kernel⟩
abbrev lv_check_base : Nat := 2
theorem sc_check_take : FnScope ["take"] ["take"] (defScope s_check_take) := ⟨rfl, rfl, rfl, by decide +kernel, rfl, by decide +kernel, by decide +kernel⟩
abbrev lv_check_take : Nat := 2
theorem sc_block_of : FnScope ["base", "take"] ["base", "take"] (defScope s_block_of) := ⟨rfl, rfl, rfl, by decide +kernel, rfl, by decide +kernel, by decide +kernel⟩
abbrev lv_block_of : Nat := 1
theorem sc_check_trick : FnScope ["trick"] ["trick"] (defScope s_check_trick) := ⟨rfl, rfl, rfl, by decide +kernel, rfl, by decide +kernel, by decide +kernel⟩
abbrev lv_check_trick : Nat := 1
theorem sc_trick_block : FnScope ["trick"] ["trick"] (defScope s_trick_block) := ⟨rfl, rfl, rfl, by decide +kernel, rfl, by decide +kernel, by decide +kernel⟩
abbrev lv_trick_block : Nat := 3
theorem sc_made_of : FnScope ["trick", "n"] ["trick", "n"] (defScope s_made_of) := ⟨rfl, rfl, rfl, by decide +kernel, rfl, by decide +kernel, by decide +kernel⟩
abbrev lv_made_of : Nat := 4
theorem sc_made_with : FnScope ["block", "times", "n"] ["block", "times", "n"] (defScope s_made_with) := ⟨rfl, rfl, rfl, by decide +kernel, rfl, by decide +kernel, by decide +kernel⟩
abbrev lv_made_with : Nat := 1
theorem sc_bound : FnScope ["trick", "block", "rest"] ["trick"] (defScope s_bound) := ⟨rfl, rfl, rfl, by decide +kernel, rfl, by decide +kernel, by decide +kernel⟩
abbrev lv_bound : Nat := 4
theorem sc_rings : FnScope ["trick", "greatest", "seen", "found", "start", "path"] ["trick"] (defScope s_rings) := ⟨rfl, rfl, rfl, by decide +kernel, rfl, by decide +kernel, by decide +kernel⟩
abbrev lv_rings : Nat := 6
theorem sc_greatest_size : FnScope ["block", "times", "rest", "equal", "opposite", "least", "greatest"] ["block", "times", "rest"] (defScope s_greatest_size) := ⟨rfl, rfl, rfl, by decide +kernel, rfl, by decide +kernel, by decide +kernel⟩
abbrev lv_greatest_size : Nat := 2
theorem sc_rounded_up : FnScope ["n", "d"] ["n", "d"] (defScope s_rounded_up) := ⟨rfl, rfl, rfl, by decide +kernel, rfl, by decide +kernel, by decide +kernel⟩
abbrev lv_rounded_up : Nat := 1
theorem sc_unseen_path : FnScope ["trick", "n", "seen", "path"] ["trick", "n", "seen"] (defScope s_unseen_path) := ⟨rfl, rfl, rfl, by decide +kernel, rfl, by decide +kernel, by decide +kernel⟩
abbrev lv_unseen_path : Nat := 5
theorem sc_ring_at_end : FnScope ["trick", "path", "ring", "least_at"] ["trick", "path"] (defScope s_ring_at_end) := ⟨rfl, rfl, rfl, by decide +kernel, rfl, by decide +kernel, by decide +kernel⟩
abbrev lv_ring_at_end : Nat := 5
theorem sc__law_taken : FnScope ["_law_row", "_law_many", "_law_found", "_law_cell"] ["_law_row", "_law_many"] (defScope s__law_taken) := ⟨rfl, rfl, rfl, by decide +kernel, rfl, by decide +kernel, by decide +kernel⟩
abbrev lv__law_taken : Nat := 1
theorem sc__law_power : FnScope ["_law_base", "_law_many", "_law_found", "_law_turn"] ["_law_base", "_law_many"] (defScope s__law_power) := ⟨rfl, rfl, rfl, by decide +kernel, rfl, by decide +kernel, by decide +kernel⟩
abbrev lv__law_power : Nat := 1
theorem sc__law_trick : FnScope ["_law_row", "_law_small", "_law_base", "_law_take", "_law_times", "_law_d", "_law_some", "_law_one"] ["_law_row", "_law_small"] (defScope s__law_trick) := ⟨rfl, rfl, rfl, by decide +kernel, rfl, by decide +kernel, by decide +kernel⟩
abbrev lv__law_trick : Nat := 2
theorem sc__law_behind : FnScope ["_law_told", "_law_n", "_law_base", "_law_take", "_law_times", "_law_block", "_law_rest"] ["_law_told", "_law_n"] (defScope s__law_behind) := ⟨rfl, rfl, rfl, by decide +kernel, rfl, by decide +kernel, by decide +kernel⟩
abbrev lv__law_behind : Nat := 1
theorem sc__law_ring : FnScope ["_law_told", "_law_n", "_law_seen", "_law_line", "_law_some", "_law_at"] ["_law_told", "_law_n"] (defScope s__law_ring) := ⟨rfl, rfl, rfl, by decide +kernel, rfl, by decide +kernel, by decide +kernel⟩
abbrev lv__law_ring : Nat := 2
theorem sc_law : FnScope ["_law_script", "_law_line", "_law_told", "_law_trick_here", "_law_block", "_law_safe", "_law_due", "_law_known", "_law_begun", "_law_n", "_law_way", "_law_again"] ["_law_script"] (defScope s_law) := ⟨rfl, rfl, rfl, by decide +kernel, rfl, by decide +kernel, by decide +kernel⟩
abbrev lv_law : Nat := 8
theorem sc_Trick___init__ : FnScope ["self", "base", "take", "times"] ["self", "base", "take", "times"] (defScope s_Trick___init__) := ⟨rfl, rfl, rfl, by decide +kernel, rfl, by decide +kernel, by decide +kernel⟩
abbrev lv_Trick___init__ : Nat := 3
theorem sc_Trick_base : FnScope ["self"] ["self"] (defScope s_Trick_base) := ⟨rfl, rfl, rfl, by decide +kernel, rfl, by decide +kernel, by decide +kernel⟩
abbrev lv_Trick_base : Nat := 1
theorem sc_Trick_take : FnScope ["self"] ["self"] (defScope s_Trick_take) := ⟨rfl, rfl, rfl, by decide +kernel, rfl, by decide +kernel, by decide +kernel⟩
abbrev lv_Trick_take : Nat := 1
theorem sc_Trick_times : FnScope ["self"] ["self"] (defScope s_Trick_times) := ⟨rfl, rfl, rfl, by decide +kernel, rfl, by decide +kernel, by decide +kernel⟩
abbrev lv_Trick_times : Nat := 1
theorem sc_Trick___eq__ : FnScope ["self", "other"] ["self", "other"] (defScope s_Trick___eq__) := ⟨rfl, rfl, rfl, by decide +kernel, rfl, by decide +kernel, by decide +kernel⟩
abbrev lv_Trick___eq__ : Nat := 1
/-! ### what is known of the top behind its run -/
structure Tx (K : PySem.W.Frag) (mg : Str → Option Value) : Type where
  C_TrickError : Addr
  g_TrickError : mg "TrickError" = some (.ref C_TrickError)
  x_TrickError : PySem.W.excIn K C_TrickError [.type "ValueError", .type "Exception", .type "BaseException", .type "object"] "ValueError.__new__" = true
  k_TrickError : PySem.W.keepIn K (.ref C_TrickError) = true
  s_TrickError : PySem.W.subIn K (.ref C_TrickError) (.type "BaseException") = some true
  t_TrickError : PySem.W.typeIn K (.ref C_TrickError) = some (.type "type")
  C_BadBase : Addr
  g_BadBase : mg "BadBase" = some (.ref C_BadBase)
  x_BadBase : PySem.W.excIn K C_BadBase [.type "ValueError", .type "Exception", .type "BaseException", .type "object"] "ValueError.__new__" = true
  k_BadBase : PySem.W.keepIn K (.ref C_BadBase) = true
  s_BadBase : PySem.W.subIn K (.ref C_BadBase) (.type "BaseException") = some true
  t_BadBase : PySem.W.typeIn K (.ref C_BadBase) = some (.type "type")
  C_BadTake : Addr
  g_BadTake : mg "BadTake" = some (.ref C_BadTake)
  x_BadTake : PySem.W.excIn K C_BadTake [.type "ValueError", .type "Exception", .type "BaseException", .type "object"] "ValueError.__new__" = true
  k_BadTake : PySem.W.keepIn K (.ref C_BadTake) = true
  s_BadTake : PySem.W.subIn K (.ref C_BadTake) (.type "BaseException") = some true
  t_BadTake : PySem.W.typeIn K (.ref C_BadTake) = some (.type "type")
  C_BadTimes : Addr
  g_BadTimes : mg "BadTimes" = some (.ref C_BadTimes)
  x_BadTimes : PySem.W.excIn K C_BadTimes [.type "ValueError", .type "Exception", .type "BaseException", .type "object"] "ValueError.__new__" = true
  k_BadTimes : PySem.W.keepIn K (.ref C_BadTimes) = true
  s_BadTimes : PySem.W.subIn K (.ref C_BadTimes) (.type "BaseException") = some true
  t_BadTimes : PySem.W.typeIn K (.ref C_BadTimes) = some (.type "type")
  C_BadTrick : Addr
  g_BadTrick : mg "BadTrick" = some (.ref C_BadTrick)
  x_BadTrick : PySem.W.excIn K C_BadTrick [.type "ValueError", .type "Exception", .type "BaseException", .type "object"] "ValueError.__new__" = true
  k_BadTrick : PySem.W.keepIn K (.ref C_BadTrick) = true
  s_BadTrick : PySem.W.subIn K (.ref C_BadTrick) (.type "BaseException") = some true
  t_BadTrick : PySem.W.typeIn K (.ref C_BadTrick) = some (.type "type")
  t_c_LEAST_BASE : Tok
  c_LEAST_BASE : mg "LEAST_BASE" = some (.int 2 t_c_LEAST_BASE)
  t_c_GREATEST_BASE : Tok
  c_GREATEST_BASE : mg "GREATEST_BASE" = some (.int 16 t_c_GREATEST_BASE)
  t_c_GREATEST_TAKE : Tok
  c_GREATEST_TAKE : mg "GREATEST_TAKE" = some (.int 2 t_c_GREATEST_TAKE)
  t_c_GREATEST_TIMES : Tok
  c_GREATEST_TIMES : mg "GREATEST_TIMES" = some (.int 100 t_c_GREATEST_TIMES)
  a_is_integer : Addr
  d_is_integer : FuncData
  F_is_integer : Fun K "is_integer" "is_integer" s_is_integer a_is_integer d_is_integer
  b_is_integer : Binds K d_is_integer ["told", "low", "high"] []
  g_is_integer : mg "is_integer" = some (.ref a_is_integer)
  a_check_base : Addr
  d_check_base : FuncData
  F_check_base : Fun K "check_base" "check_base" s_check_base a_check_base d_check_base
  b_check_base : Binds K d_check_base ["base"] []
  g_check_base : mg "check_base" = some (.ref a_check_base)
  a_check_take : Addr
  d_check_take : FuncData
  F_check_take : Fun K "check_take" "check_take" s_check_take a_check_take d_check_take
  b_check_take : Binds K d_check_take ["take"] []
  g_check_take : mg "check_take" = some (.ref a_check_take)
  a_block_of : Addr
  d_block_of : FuncData
  F_block_of : Fun K "block_of" "block_of" s_block_of a_block_of d_block_of
  b_block_of : Binds K d_block_of ["base", "take"] []
  g_block_of : mg "block_of" = some (.ref a_block_of)
  a_check_trick : Addr
  d_check_trick : FuncData
  F_check_trick : Fun K "check_trick" "check_trick" s_check_trick a_check_trick d_check_trick
  b_check_trick : Binds K d_check_trick ["trick"] []
  g_check_trick : mg "check_trick" = some (.ref a_check_trick)
  a_trick_block : Addr
  d_trick_block : FuncData
  F_trick_block : Fun K "trick_block" "trick_block" s_trick_block a_trick_block d_trick_block
  b_trick_block : Binds K d_trick_block ["trick"] []
  g_trick_block : mg "trick_block" = some (.ref a_trick_block)
  a_made_of : Addr
  d_made_of : FuncData
  F_made_of : Fun K "made_of" "made_of" s_made_of a_made_of d_made_of
  b_made_of : Binds K d_made_of ["trick", "n"] []
  g_made_of : mg "made_of" = some (.ref a_made_of)
  a_made_with : Addr
  d_made_with : FuncData
  F_made_with : Fun K "made_with" "made_with" s_made_with a_made_with d_made_with
  b_made_with : Binds K d_made_with ["block", "times", "n"] []
  g_made_with : mg "made_with" = some (.ref a_made_with)
  a_bound : Addr
  d_bound : FuncData
  F_bound : Fun K "bound" "bound" s_bound a_bound d_bound
  b_bound : Binds K d_bound ["trick"] []
  g_bound : mg "bound" = some (.ref a_bound)
  a_rings : Addr
  d_rings : FuncData
  F_rings : Fun K "rings" "rings" s_rings a_rings d_rings
  b_rings : Binds K d_rings ["trick"] []
  g_rings : mg "rings" = some (.ref a_rings)
  a_greatest_size : Addr
  d_greatest_size : FuncData
  F_greatest_size : Fun K "greatest_size" "greatest_size" s_greatest_size a_greatest_size d_greatest_size
  b_greatest_size : Binds K d_greatest_size ["block", "times", "rest"] []
  g_greatest_size : mg "greatest_size" = some (.ref a_greatest_size)
  a_rounded_up : Addr
  d_rounded_up : FuncData
  F_rounded_up : Fun K "rounded_up" "rounded_up" s_rounded_up a_rounded_up d_rounded_up
  b_rounded_up : Binds K d_rounded_up ["n", "d"] []
  g_rounded_up : mg "rounded_up" = some (.ref a_rounded_up)
  a_unseen_path : Addr
  d_unseen_path : FuncData
  F_unseen_path : Fun K "unseen_path" "unseen_path" s_unseen_path a_unseen_path d_unseen_path
  b_unseen_path : Binds K d_unseen_path ["trick", "n", "seen"] []
  g_unseen_path : mg "unseen_path" = some (.ref a_unseen_path)
  a_ring_at_end : Addr
  d_ring_at_end : FuncData
  F_ring_at_end : Fun K "ring_at_end" "ring_at_end" s_ring_at_end a_ring_at_end d_ring_at_end
  b_ring_at_end : Binds K d_ring_at_end ["trick", "path"] []
  g_ring_at_end : mg "ring_at_end" = some (.ref a_ring_at_end)
  a__law_taken : Addr
  d__law_taken : FuncData
  F__law_taken : Fun K "_law_taken" "_law_taken" s__law_taken a__law_taken d__law_taken
  b__law_taken : Binds K d__law_taken ["_law_row", "_law_many"] []
  g__law_taken : mg "_law_taken" = some (.ref a__law_taken)
  a__law_power : Addr
  d__law_power : FuncData
  F__law_power : Fun K "_law_power" "_law_power" s__law_power a__law_power d__law_power
  b__law_power : Binds K d__law_power ["_law_base", "_law_many"] []
  g__law_power : mg "_law_power" = some (.ref a__law_power)
  a__law_trick : Addr
  d__law_trick : FuncData
  F__law_trick : Fun K "_law_trick" "_law_trick" s__law_trick a__law_trick d__law_trick
  b__law_trick : Binds K d__law_trick ["_law_row", "_law_small"] []
  g__law_trick : mg "_law_trick" = some (.ref a__law_trick)
  a__law_behind : Addr
  d__law_behind : FuncData
  F__law_behind : Fun K "_law_behind" "_law_behind" s__law_behind a__law_behind d__law_behind
  b__law_behind : Binds K d__law_behind ["_law_told", "_law_n"] []
  g__law_behind : mg "_law_behind" = some (.ref a__law_behind)
  a__law_ring : Addr
  d__law_ring : FuncData
  F__law_ring : Fun K "_law_ring" "_law_ring" s__law_ring a__law_ring d__law_ring
  b__law_ring : Binds K d__law_ring ["_law_told", "_law_n"] []
  g__law_ring : mg "_law_ring" = some (.ref a__law_ring)
  a_law : Addr
  d_law : FuncData
  F_law : Fun K "law" "law" s_law a_law d_law
  b_law : Binds K d_law ["_law_script"] []
  g_law : mg "law" = some (.ref a_law)
  C_Trick : Addr
  cl_Trick : Cls K C_Trick
  g_Trick : mg "Trick" = some (.ref C_Trick)
  kc_Trick : PySem.W.keepIn K (.ref C_Trick) = true
  ins_Trick : ∀ (H : Hp) (a dx : Addr) (fs : List (Str × V)), H a = some (.ins C_Trick dx fs) → TyOf K H (.ref a) (.ref C_Trick)
  ki_Trick_int : PySem.W.kitOne K (.ref C_Trick) (.type "int") = some false
  ki_Trick_bool : PySem.W.kitOne K (.ref C_Trick) (.type "bool") = some false
  ki_Trick_tuple : PySem.W.kitOne K (.ref C_Trick) (.type "tuple") = some false
  nf_Trick_tuple : PySem.W.subIn K (.type "tuple") (.ref C_Trick) = some false
  kis_Trick : PySem.W.kitOne K (.ref C_Trick) (.ref C_Trick) = some true
  kin_Trick_int : PySem.W.kitOne K (.type "int") (.ref C_Trick) = some false
  kin_Trick_bool : PySem.W.kitOne K (.type "bool") (.ref C_Trick) = some false
  kin_Trick_tuple : PySem.W.kitOne K (.type "tuple") (.ref C_Trick) = some false
  kin_Trick_list : PySem.W.kitOne K (.type "list") (.ref C_Trick) = some false
  kin_Trick_NoneType : PySem.W.kitOne K (.type "NoneType") (.ref C_Trick) = some false
  kin_Trick_str : PySem.W.kitOne K (.type "str") (.ref C_Trick) = some false
  kin_Trick_dict : PySem.W.kitOne K (.type "dict") (.ref C_Trick) = some false
  na_Trick_base : NoAttr K C_Trick "_base"
  na_Trick_take : NoAttr K C_Trick "_take"
  na_Trick_times : NoAttr K C_Trick "_times"
  a_Trick___init__ : Addr
  d_Trick___init__ : FuncData
  F_Trick___init__ : Fun K "__init__" "Trick.__init__" s_Trick___init__ a_Trick___init__ d_Trick___init__
  b_Trick___init__ : Binds K d_Trick___init__ ["self", "base", "take", "times"] []
  mk_Trick : Mk K C_Trick a_Trick___init__
  a_Trick_base : Addr
  d_Trick_base : FuncData
  F_Trick_base : Fun K "base" "Trick.base" s_Trick_base a_Trick_base d_Trick_base
  b_Trick_base : Binds K d_Trick_base ["self"] []
  q_Trick_base : Addr
  p_Trick_base : PropOf K C_Trick "base" q_Trick_base a_Trick_base
  a_Trick_take : Addr
  d_Trick_take : FuncData
  F_Trick_take : Fun K "take" "Trick.take" s_Trick_take a_Trick_take d_Trick_take
  b_Trick_take : Binds K d_Trick_take ["self"] []
  q_Trick_take : Addr
  p_Trick_take : PropOf K C_Trick "take" q_Trick_take a_Trick_take
  a_Trick_times : Addr
  d_Trick_times : FuncData
  F_Trick_times : Fun K "times" "Trick.times" s_Trick_times a_Trick_times d_Trick_times
  b_Trick_times : Binds K d_Trick_times ["self"] []
  q_Trick_times : Addr
  p_Trick_times : PropOf K C_Trick "times" q_Trick_times a_Trick_times
  a_Trick___eq__ : Addr
  d_Trick___eq__ : FuncData
  F_Trick___eq__ : Fun K "__eq__" "Trick.__eq__" s_Trick___eq__ a_Trick___eq__ d_Trick___eq__
  b_Trick___eq__ : Binds K d_Trick___eq__ ["self", "other"] []
  m_Trick___eq__ : Meth K C_Trick "__eq__" a_Trick___eq__
  n_int : mg "int" = none
  n_bool : mg "bool" = none
  n_len : mg "len" = none
  n_range : mg "range" = none
  n_isinstance : mg "isinstance" = none
  n_tuple : mg "tuple" = none
  n_sorted : mg "sorted" = none
  n_abs : mg "abs" = none
  n_min : mg "min" = none
  n_max : mg "max" = none
  n_ValueError : mg "ValueError" = none
/-! ### the program's own classes (no errors) -/
def OwnT {K : PySem.W.Frag} {mg : Str → Option Value} (T : Tx K mg) (C : Addr) : Prop := C = T.C_Trick
theorem OwnT.ty {K : PySem.W.Frag} {mg : Str → Option Value} {T : Tx K mg} {C : Addr} (t : OwnT T C) {H : Hp} {a dx : Addr} {fs : List (Str × V)} (e : H a = some (.ins C dx fs)) : TyOf K H (.ref a) (.ref C) := by
  cases t
  exact T.ins_Trick _ _ _ _ e
theorem OwnT.nint {K : PySem.W.Frag} {mg : Str → Option Value} {T : Tx K mg} {C : Addr} (t : OwnT T C) : PySem.W.kitOne K (.ref C) (.type "int") = some false := by
  cases t
  exact T.ki_Trick_int
theorem OwnT.nbool {K : PySem.W.Frag} {mg : Str → Option Value} {T : Tx K mg} {C : Addr} (t : OwnT T C) : PySem.W.kitOne K (.ref C) (.type "bool") = some false := by
  cases t
  exact T.ki_Trick_bool
theorem OwnT.ntuple {K : PySem.W.Frag} {mg : Str → Option Value} {T : Tx K mg} {C : Addr} (t : OwnT T C) : PySem.W.kitOne K (.ref C) (.type "tuple") = some false := by
  cases t
  exact T.ki_Trick_tuple
section
variable {P : Program} {w : World} {K : PySem.W.Frag} {mg : Str → Option Value} {base : Heap}
/-! ### heaps -/
/-- all but what stands at r is as it was -/
def But (r : Addr) (H H' : Hp) : Prop := ∀ b o, H b = some o → b ≠ r → H' b = some o
theorem But.refl (r : Addr) (H : Hp) : But r H H := fun _ _ e _ => e
theorem But.trans {r : Addr} {H H1 H2 : Hp} (a : But r H H1) (b : But r H1 H2) : But r H H2 := fun c o e n => b c o (a c o e n) n
theorem Same.but {r : Addr} {H H' : Hp} (a : Same H H') : But r H H' := fun c o e _ => a c o e
theorem But.put {r : Addr} {H : Hp} {o : HO} : But r H (upd H r o) := fun b _ e n => by rw [upd_ne n]; exact e
theorem But.seq {K : PySem.W.Frag} {r a : Addr} {H H' : Hp} {xs : List V} (e : But r H H') (n : a ≠ r) (h : SqL K H a xs) : SqL K H' a xs := by
  rcases h with (h | ⟨o, h⟩) | h
  · exact .inl (.inl (e _ _ h n))
  · exact .inl (.inr ⟨o, e _ _ h n⟩)
  · exact .inr h
theorem same_upd {H : Hp} {p : Addr} {o : HO} (h : H p = none) : Same H (upd H p o) := fun b x e => by
  rw [upd_ne (ne_of_none e h)]
  exact e
/-- any value of the document's point 1 -/
inductive AnyV (T : Addr → Prop) (H : Hp) : V → Prop where
  | non : AnyV T H .non
  | bl (b : Bool) : AnyV T H (.bl b)
  | int (i : Int) : AnyV T H (.int i)
  | str (x : Str) : AnyV T H (.str x)
  | lst {a : Addr} {xs : List V} (e : H a = some (.lst xs)) : AnyV T H (.ref a)
  | tup {a : Addr} {xs : List V} (e : H a = some (.tup xs)) : AnyV T H (.ref a)
  | dct {a : Addr} {kvs : List (Key × V)} (e : H a = some (.dK kvs)) : AnyV T H (.ref a)
  | ins {a C dx : Addr} {fs : List (Str × V)} (t : T C) (e : H a = some (.ins C dx fs)) : AnyV T H (.ref a)
/-- it is an integer from lo to hi -/
def intIn (x : V) (lo hi : Int) : Bool := match x with | .int i => decide (lo ≤ i) && decide (i ≤ hi) | _ => false
theorem intIn_of {i lo hi : Int} (h1 : lo ≤ i) (h2 : i ≤ hi) : intIn (.int i) lo hi = true := by
  show (decide (lo ≤ i) && decide (i ≤ hi)) = true
  rw [decide_eq_true h1, decide_eq_true h2]
  all_goals rfl
theorem small5 {n : Nat} (h : n ≤ 100000) : n < sizeLine := Nat.lt_of_le_of_lt h (by decide)
theorem dec_i (i j : Int) : decide (V.int i = V.int j) = decide (i = j) := by
  rw [Bool.eq_iff_iff]
  simp
theorem AnyV.mono {T : Addr → Prop} {H H' : Hp} {v : V} (a : AnyV T H v) (s : Same H H') : AnyV T H' v := by
  cases a with
  | non => exact .non
  | bl b => exact .bl b
  | int i => exact .int i
  | str x => exact .str x
  | lst e => exact .lst (s _ _ e)
  | tup e => exact .tup (s _ _ e)
  | dct e => exact .dct (s _ _ e)
  | ins t e => exact .ins t (s _ _ e)
theorem intIn_int' {x : V} {lo hi : Int} (h : intIn x lo hi = true) : ∃ i, x = .int i ∧ lo ≤ i ∧ i ≤ hi := by
  cases x with
  | int i =>
    have h2 : (decide (lo ≤ i) && decide (i ≤ hi)) = true := h
    rw [Bool.and_eq_true, decide_eq_true_iff, decide_eq_true_iff] at h2
    exact ⟨i, rfl, h2⟩
  | _ => cases h

/-! ### none twice; keys of two ints -/
/-- no more than so many without one twice -/
theorem pigL {α : Type} [DecidableEq α] : ∀ (L l : List α), l.Nodup → (∀ x ∈ l, x ∈ L) → l.length ≤ L.length
  | [], l, _, h => by
    cases l with
    | nil => exact Nat.le_refl _
    | cons x _ => exact absurd (h x List.mem_cons_self) List.not_mem_nil
  | a :: L, l, hn, h => by
    have ih := pigL L (l.erase a) (hn.erase a) fun x hx => by
      have hx2 := (hn.mem_erase_iff).mp hx
      rcases List.mem_cons.mp (h x hx2.2) with e | e
      · exact absurd e hx2.1
      · exact e
    rw [List.length_erase] at ih
    rw [List.length_cons]
    split at ih <;> omega
abbrev Pr := Int × Int
def kp (q : Pr) : List Key := [.inl q.1, .inl q.2]
theorem kp_inj {q r : Pr} (h : kp q = kp r) : q = r := by
  unfold kp at h
  injection h with h1 h2
  injection h2 with h2 _
  injection h1 with h1
  injection h2 with h2
  exact Prod.ext h1 h2

/-! ### lists of ints -/
theorem dpAll_ints {H : Hp} : ∀ ns : List Int, DpAll K H (ns.map V.int) (ns.map PyData.int)
  | [] => .nil
  | n :: ns => .cons (.int n) (dpAll_ints ns)
theorem dp_ints {H : Hp} {a : Addr} {ns : List Int} (h : SqL K H a (ns.map V.int)) : Dp K H (.ref a) (.list (ns.map PyData.int)) := .lst h (dpAll_ints ns)
theorem dp_tints {H : Hp} {a : Addr} {ns : List Int} (h : SqT K H a (ns.map V.int)) : Dp K H (.ref a) (.tuple (ns.map PyData.int)) := .tup h (dpAll_ints ns)
theorem eqvAll_ints : ∀ ns ms : List Int, PyData.eqvAll (ns.map PyData.int) (ms.map PyData.int) = decide (ns = ms)
  | [], [] => rfl
  | [], _ :: _ => rfl
  | _ :: _, [] => rfl
  | n :: ns, m :: ms => by
    show (PyData.eqv (.int n) (.int m) && PyData.eqvAll (ns.map PyData.int) (ms.map PyData.int)) = _
    rw [eqvAll_ints ns ms]
    show ((n == m) && decide (ns = ms)) = _
    by_cases h1 : n = m
    · by_cases h2 : ns = ms
      · simp [h1, h2]
      · simp [h1, h2]
    · simp [h1]
theorem eqv_ints (ns ms : List Int) : PyData.eqv (.list (ns.map PyData.int)) (.list (ms.map PyData.int)) = decide (ns = ms) := eqvAll_ints ns ms
theorem eqv_tints (ns ms : List Int) : PyData.eqv (.tuple (ns.map PyData.int)) (.tuple (ms.map PyData.int)) = decide (ns = ms) := eqvAll_ints ns ms
theorem shaped_lints (ns : List Int) : SeqAt.shaped (.list (ns.map PyData.int)) = true := PySem.W.shaped_ints ns
/-- an item of a written list at a drawn place -/
theorem at_some (Pr : Int → Prop) {ns : List Int} (h : ∀ z ∈ ns, Pr z) {i : Int} (h0 : 0 ≤ i) (h1 : i < ns.length) : ∃ z, Pr z ∧ atI (ns.map V.int) i = some (V.int z) := by
  obtain ⟨z, hz⟩ : ∃ z, ns[i.toNat]? = some z := ⟨ns[i.toNat]'(by omega), List.getElem?_eq_getElem (by omega)⟩
  refine ⟨z, h z (List.mem_of_getElem? hz), at_of (j := i.toNat) (by omega) (by rw [List.getElem?_map, hz]; rfl)⟩
theorem sorted_ext {l m : List Int} (p : l.Perm m) (h1 : l.Pairwise (· ≤ ·)) (h2 : m.Pairwise (· ≤ ·)) : l = m :=
  p.eq_of_pairwise (fun a b _ _ x y => Int.le_antisymm x y) h1 h2
/-- reading an item within a comprehension: the written part said aloud -/
theorem ix_lK {X : Cx} (h : X.K = K) : IxR X (rIxL K) := by
  subst h
  exact ix_list
/-- the same of a tuple -/
theorem ix_tK {X : Cx} (h : X.K = K) : IxR X (rIxT K) := by
  subst h
  exact ix_tup
/-- name op= e, by the operation in place -/
theorem ip_op {X : Cx} {op : Operator} {r : R2} (ho : OpR X (inplaceOp op) r) : PIp X op r := fun pins s σ H x y v u Q I r1 r2 h => ho pins s σ H x y v u Q I r1 r2 h

/-! ### what is shallow enough to be compared -/
theorem lays_map {α : Type} (f : α → PyData) (k : Nat) (h : ∀ x, PyData.canLay0 (f x) = true ∧ PyData.depth (f x) ≤ k) : ∀ l : List α, PyData.canLayAll0 (l.map f) = true ∧ PyData.depthAll (l.map f) ≤ k
  | [] => ⟨by simp [PyData.canLayAll0], by simp [PyData.depthAll]⟩
  | x :: l => by
    have h1 := lays_map f k h l
    have h2 := h x
    refine ⟨by simp [PyData.canLayAll0, h1.1, h2.1], ?_⟩
    simp only [List.map_cons, PyData.depthAll]
    omega
theorem shaped_of {ds : List PyData} {k : Nat} (h : PyData.canLayAll0 ds = true ∧ PyData.depthAll ds ≤ k) (hk : k ≤ 60) : SeqAt.shaped (.list ds) = true ∧ SeqAt.shaped (.tuple ds) = true := by
  have e1 : PyData.depth (.list ds) ≤ 64 := by simp only [PyData.depth]; omega
  have e2 : PyData.depth (.tuple ds) ≤ 64 := by simp only [PyData.depth]; omega
  refine ⟨?_, ?_⟩
  · show (PyData.canLay0 (.list ds) && decide (PyData.depth (.list ds) ≤ 64)) = true
    rw [Bool.and_eq_true]
    exact ⟨by simp only [PyData.canLay0]; exact h.1, decide_eq_true e1⟩
  · show (PyData.canLay0 (.tuple ds) && decide (PyData.depth (.tuple ds) ≤ 64)) = true
    rw [Bool.and_eq_true]
    exact ⟨by simp only [PyData.canLay0]; exact h.1, decide_eq_true e2⟩
theorem lay_int (i : Int) : PyData.canLay0 (.int i) = true ∧ PyData.depth (.int i) ≤ 1 := ⟨by simp [PyData.canLay0], by simp [PyData.depth]⟩
theorem shaped_tints (ns : List Int) : SeqAt.shaped (.tuple (ns.map PyData.int)) = true := (shaped_of (lays_map PyData.int 1 lay_int ns) (by decide)).2

/-! ### what is wished for less is met, too -/
def TEMono (t : TE) : Prop := ∀ (σ : L2.St) (H : Hp) (Q Q' : VK), (∀ v H1, Q v H1 → Q' v H1) → t σ H Q → t σ H Q'
def TAMono (t : TA) : Prop := ∀ (σ : L2.St) (H : Hp) (Q Q' : List V → Hp → Prop), (∀ v H1, Q v H1 → Q' v H1) → t σ H Q → t σ H Q'
def TTMono (t : TT) : Prop := ∀ (σ : L2.St) (H : Hp) (Q Q' : Bool → Hp → Prop), (∀ b H1, Q b H1 → Q' b H1) → t σ H Q → t σ H Q'
def R2Mono (r : R2) : Prop := ∀ (x y : V) (H : Hp) (Q Q' : VK), (∀ v H1, Q v H1 → Q' v H1) → r x y H Q → r x y H Q'
theorem m_var {i : Nat} : TEMono (tVar i) := fun _ _ _ _ h ⟨v, e, z⟩ => ⟨v, e, h _ _ z⟩
theorem m_c {v : V} : TEMono (tC v) := fun _ _ _ _ h z => h _ _ z
theorem m_op {r : R2} {a b : TE} (hr : R2Mono r) (ha : TEMono a) (hb : TEMono b) : TEMono (tOp r a b) := fun σ H Q Q' h z => ha σ H _ _ (fun x H1 q => hb σ H1 _ _ (fun y H2 q2 => hr x y H2 _ _ h q2) q) z
theorem m_nil : TAMono tNil := fun _ _ _ _ h z => h _ _ z
theorem m_cons {t : TE} {u : TA} (ht : TEMono t) (hu : TAMono u) : TAMono (tCons t u) := fun σ H Q Q' h z => ht σ H _ _ (fun x H1 q => hu σ H1 _ _ (fun xs H2 q2 => h _ _ q2) q) z
theorem m_test {t : TE} (ht : TEMono t) : TTMono (tTest t) := fun σ H Q Q' h z => ht σ H _ _ (fun x H1 ⟨k, e, q⟩ => ⟨k, e, h _ _ q⟩) z
theorem m_and {t u : TT} (ht : TTMono t) (hu : TTMono u) : TTMono (tAnd t u) := fun σ H Q Q' h z => ht σ H _ _ (fun c H1 q => by
  cases c with
  | true => exact hu σ H1 _ _ h q
  | false => exact h _ _ q) z
theorem m_rI {C : Int → Int → Prop} {g : Int → Int → V} : R2Mono (rI C g) := fun _ _ _ _ _ h ⟨i, j, e1, e2, c, q⟩ => ⟨i, j, e1, e2, c, h _ _ q⟩
theorem m_rI0 {g : Int → Int → V} : R2Mono (rI0 g) := fun _ _ _ _ _ h ⟨i, j, e1, e2, q⟩ => ⟨i, j, e1, e2, h _ _ q⟩
theorem m_rEq : R2Mono rEq := fun _ _ _ _ _ h ⟨e, q⟩ => ⟨e, h _ _ q⟩
theorem m_rNe : R2Mono rNe := fun _ _ _ _ _ h ⟨e, q⟩ => ⟨e, h _ _ q⟩
theorem m_rIn {n : Bool} : R2Mono (rIn K n) := fun _ _ _ _ _ h ⟨p, xs, e, s, f, a, q⟩ => ⟨p, xs, e, s, f, a, h _ _ q⟩
theorem m_len {i : Nat} : TEMono (tCB (fun xs H Q => ∃ p ys, xs = [V.ref p] ∧ (SqL K H p ys ∨ SqT K H p ys) ∧ Q (.int (ys.length : Int)) H) (tCons (tVar i) tNil)) := fun _ _ _ _ h ⟨v, e, p, ys, e1, e2, q⟩ => ⟨v, e, p, ys, e1, e2, h _ _ q⟩
/-! ### what is never reached -/
def tNev : TS := fun _ _ _ => False
theorem pss_nev {X : Cx} {sts : List Stmt} : PSs X sts tNev := ⟨fun _ _ _ _ _ _ h => h.elim⟩

/-! ### is_integer, and the checks -/
def spIsInt (T : Tx K mg) : Sp := fun vs H Q _ => ∃ (x : V) (lo hi : Int), vs = [x, .int lo, .int hi] ∧ AnyV (OwnT T) H x ∧ Q (.bl (intIn x lo hi)) H
theorem isi_int (T : Tx K mg) {H : Hp} {x : V} (a : AnyV (OwnT T) H x) : ∃ t, TyX K H x t ∧ (∃ b, PySem.W.kitOne K t (.type "int") = some b ∧ (b = false → ∀ lo hi, intIn x lo hi = false) ∧ ∃ c, PySem.W.kitOne K t (.type "bool") = some c ∧ (c = true → ∀ lo hi, intIn x lo hi = false) ∧ (b = true → c = false → ∃ i, x = .int i)) := by
  cases a with
  | non => exact ⟨_, .base .non, false, kit_ty (by decide +kernel), fun _ _ _ => rfl, false, kit_ty (by decide +kernel), fun _ _ _ => rfl, fun z => nomatch z⟩
  | bl b => exact ⟨_, .base (.bl b), true, kit_ty (by decide +kernel), fun _ _ _ => rfl, true, kit_ty (by decide +kernel), fun _ _ _ => rfl, fun _ z => nomatch z⟩
  | int i => exact ⟨.type "int", .base (.int i), true, kit_ty (by decide +kernel), fun z => Bool.noConfusion z, false, kit_ty (by decide +kernel), fun z => Bool.noConfusion z, fun _ _ => ⟨i, rfl⟩⟩
  | str x => exact ⟨_, .base (.str x), false, kit_ty (by decide +kernel), fun _ _ _ => rfl, false, kit_ty (by decide +kernel), fun _ _ _ => rfl, fun z => nomatch z⟩
  | lst e => exact ⟨_, .base (.lst e), false, kit_ty (by decide +kernel), fun _ _ _ => rfl, false, kit_ty (by decide +kernel), fun _ _ _ => rfl, fun z => nomatch z⟩
  | tup e => exact ⟨_, .base (.tup e), false, kit_ty (by decide +kernel), fun _ _ _ => rfl, false, kit_ty (by decide +kernel), fun _ _ _ => rfl, fun z => nomatch z⟩
  | dct e => exact ⟨_, .base (.dK e), false, kit_ty (by decide +kernel), fun _ _ _ => rfl, false, kit_ty (by decide +kernel), fun _ _ _ => rfl, fun z => nomatch z⟩
  | ins t e => exact ⟨_, .base (t.ty e), false, t.nint, fun _ _ _ => rfl, false, t.nbool, fun _ _ _ => rfl, fun z => nomatch z⟩
theorem ok_is_integer (T : Tx K mg) : FnOk P w K mg base CX0 lv_is_integer T.a_is_integer T.d_is_integer ["told", "low", "high"] (spIsInt T) := by
  refine T.F_is_integer.ok sc_is_integer (fun vs H Q E h => ?_) (fun cdv A outer s H vs Q E hr h => ?_)
  · obtain ⟨x, lo, hi, rfl, _⟩ := h
    rfl
  · obtain ⟨x, lo, hi, rfl, a, k⟩ := h
    refine ⟨_, (pss_one (ps_ret (pe_and (pe_callB call_isi (by rfl) T.n_isinstance (by decide +kernel) (pa_cons (pv 0) (pa_cons (pe_bltn (v := .ty "int") rfl T.n_int (by decide +kernel) rfl) pa_nil))) (pe_and (pe_not (pe_callB call_isi (by rfl) T.n_isinstance (by decide +kernel) (pa_cons (pv 0) (pa_cons (pe_bltn (v := .ty "bool") rfl T.n_bool (by decide +kernel) rfl) pa_nil)))) (pe_one (pe_chain op_le op_le (pv 1) (pv 0) (pv 2))))))), ?_⟩
    obtain ⟨t, ty, b, e1, h1, c, e2, h2, h3⟩ := isi_int T a
    refine ⟨_, rfl, _, _, _, _, b, rfl, .ty _, ty, e1, b, rfl, ?_⟩
    cases b with
    | false => exact iteF (by rw [h1 rfl lo hi] at k; exact k)
    | true =>
      refine iteT ?_
      refine ⟨_, rfl, _, _, _, _, c, rfl, .ty _, ty, e2, c, rfl, _, rfl, ?_⟩
      cases c with
      | true => exact iteF (by rw [h2 rfl lo hi] at k; exact k)
      | false =>
        refine iteT ?_
        obtain ⟨i, rfl⟩ := h3 rfl rfl
        refine ⟨_, rfl, _, rfl, _, _, rfl, rfl, _, rfl, ?_⟩
        have ke : Q (V.bl (decide (lo ≤ i) && decide (i ≤ hi))) H := k
        refine ite2 (fun c1 => ?_) (fun c1 => ?_)
        · rw [c1] at ke
          exact ⟨_, rfl, _, _, rfl, rfl, ke⟩
        · rw [show decide (lo ≤ i) = false from by simpa using c1] at ke
          exact ke
/-- base, take and the like: a value in the range, or the error of the class C -/
def spChk (T : Tx K mg) (C : Addr) (lo hi : Int) : Sp := fun vs H Q E => ∃ x : V, vs = [x] ∧ AnyV (OwnT T) H x ∧ (intIn x lo hi = true → Q .non H) ∧ (intIn x lo hi = false → E (.ref C) none H)

theorem ok_check_base (T : Tx K mg) : FnOk P w K mg base (L2.CX P w) lv_check_base T.a_check_base T.d_check_base ["base"] (spChk T T.C_BadBase 2 16) := by
  refine T.F_check_base.okX sc_check_base (fun vs H Q E h => ?_) (fun cdv A outer s H vs Q E hr h => ?_)
  · obtain ⟨x, rfl, _⟩ := h
    rfl
  · obtain ⟨x, rfl, a, k1, k2⟩ := h
    refine ⟨_, (pss_one (ps_if (pt_not (pt_val (pe_call (ok_is_integer T) (hr.mono (by decide)) rfl T.g_is_integer T.F_is_integer.kp T.b_is_integer .nil pass0 (pa_cons (pv 0) (pa_cons (pe_glob (v := .int 2) rfl T.c_LEAST_BASE ⟨_, rfl⟩) (pa_cons (pe_glob (v := .int 16) rfl T.c_GREATEST_BASE ⟨_, rfl⟩) pa_nil)))))) (pss_one (ps_raise rfl (takes_of rfl rfl rfl rfl) (pmk_own PySem.F.excBase_ValueError T.x_BadBase T.g_BadBase T.k_BadBase (raises_own T.s_BadBase T.t_BadBase) rfl))) pss_nil)), ?_⟩
    refine ⟨_, rfl, _, _, _, rfl, a, _, rfl, ?_⟩
    cases e : intIn x 2 16 with
    | true => exact iteF (k1 e)
    | false => exact iteT (k2 e)

theorem ok_check_take (T : Tx K mg) : FnOk P w K mg base (L2.CX P w) lv_check_take T.a_check_take T.d_check_take ["take"] (spChk T T.C_BadTake 1 2) := by
  refine T.F_check_take.okX sc_check_take (fun vs H Q E h => ?_) (fun cdv A outer s H vs Q E hr h => ?_)
  · obtain ⟨x, rfl, _⟩ := h
    rfl
  · obtain ⟨x, rfl, a, k1, k2⟩ := h
    refine ⟨_, (pss_one (ps_if (pt_not (pt_val (pe_call (ok_is_integer T) (hr.mono (by decide)) rfl T.g_is_integer T.F_is_integer.kp T.b_is_integer .nil pass0 (pa_cons (pv 0) (pa_cons pe_int (pa_cons (pe_glob (v := .int 2) rfl T.c_GREATEST_TAKE ⟨_, rfl⟩) pa_nil)))))) (pss_one (ps_raise rfl (takes_of rfl rfl rfl rfl) (pmk_own PySem.F.excBase_ValueError T.x_BadTake T.g_BadTake T.k_BadTake (raises_own T.s_BadTake T.t_BadTake) rfl))) pss_nil)), ?_⟩
    refine ⟨_, rfl, _, _, _, rfl, a, _, rfl, ?_⟩
    cases e : intIn x 1 2 with
    | true => exact iteF (k1 e)
    | false => exact iteT (k2 e)

/-! ### the block -/
def blockOf (b t : Int) : Int := if t = 1 then b else b * b
theorem block_bd {b t : Int} (h1 : 2 ≤ b) (h2 : b ≤ 16) : 2 ≤ blockOf b t ∧ blockOf b t ≤ 256 := by
  unfold blockOf
  split
  · omega
  · have q : b * b ≤ 16 * 16 := Int.mul_le_mul h2 h2 (by omega) (by omega)
    have r : 2 * 2 ≤ b * b := Int.mul_le_mul h1 h1 (by omega) (by omega)
    omega
theorem pow_block {b t : Int} (t1 : 1 ≤ t) (t2 : t ≤ 2) : b ^ t.toNat = blockOf b t := by
  unfold blockOf
  by_cases h : t = 1
  · rw [if_pos h, h]
    exact Int.pow_succ b 0 |>.trans (by rw [Int.pow_zero, Int.one_mul])
  · have h2 : t = 2 := by omega
    rw [if_neg h, h2]
    exact Int.pow_succ b 1 |>.trans (by rw [Int.pow_succ, Int.pow_zero, Int.one_mul])

/-! ### tricks -/
def spBlockOf : Sp := fun vs H Q _ => ∃ b t : Int, vs = [.int b, .int t] ∧ 2 ≤ b ∧ b ≤ 16 ∧ Q (.int (blockOf b t)) H
theorem ok_block_of (T : Tx K mg) : FnOk P w K mg base CX0 lv_block_of T.a_block_of T.d_block_of ["base", "take"] spBlockOf := by
  refine T.F_block_of.ok sc_block_of (fun vs H Q E h => ?_) (fun cdv A outer s H vs Q E hr h => ?_)
  · obtain ⟨b, t, rfl, _⟩ := h
    rfl
  · obtain ⟨b, t, rfl, h1, h2, k⟩ := h
    refine ⟨_, (pss_one (ps_ret (pe_ifExp (pt_cmpR op_eq (pv 1) pe_int (nomark _)) (pv 0) (pe_op op_mul (pv 0) (pv 0))))), ?_⟩
    refine ⟨_, rfl, rfl, _, rfl, ?_⟩
    refine ite2 (fun c => ?_) (fun c => ?_)
    · have c1 : t = 1 := by simpa using c
      have k2 : Q (.int b) H := by
        have e : blockOf b t = b := by unfold blockOf; rw [if_pos c1]
        rw [e] at k
        exact k
      exact ⟨_, rfl, k2⟩
    · have c1 : ¬ t = 1 := by simpa using c
      have k2 : Q (.int (b * b)) H := by
        have e : blockOf b t = b * b := by unfold blockOf; rw [if_neg c1]
        rw [e] at k
        exact k
      exact ⟨_, rfl, _, rfl, _, _, rfl, rfl, .inl ⟨by omega, by omega⟩, k2⟩

/-- a trick's attributes -/
def tf (b t m : Int) : List (Str × V) := putF "_times" (.int m) (putF "_take" (.int t) (putF "_base" (.int b) []))
theorem n1 : ¬ (("_base" : Str) = "_take") := by decide +kernel
theorem n2 : ¬ (("_base" : Str) = "_times") := by decide +kernel
theorem n3 : ¬ (("_take" : Str) = "_times") := by decide +kernel
theorem tf_eq (b t m : Int) : tf b t m = ([("_base", V.int b), ("_take", V.int t), ("_times", V.int m)] : List (Str × V)) := by
  have e2 : putF "_take" (V.int t) (putF "_base" (V.int b) []) = ([("_base", V.int b), ("_take", V.int t)] : List (Str × V)) := by
    show (if ("_base" : Str) = "_take" then [(("_base" : Str), V.int t)] else (("_base" : Str), V.int b) :: putF "_take" (V.int t) []) = _
    rw [if_neg n1]
    all_goals rfl
  unfold tf
  rw [e2]
  show (if ("_base" : Str) = "_times" then _ else (("_base" : Str), V.int b) :: (if ("_take" : Str) = "_times" then _ else (("_take" : Str), V.int t) :: putF "_times" (V.int m) [])) = _
  rw [if_neg n2, if_neg n3]
  all_goals rfl
theorem tf_base (b t m : Int) : (tf b t m).lookup ("_base" : Str) = some (.int b) := by
  unfold tf
  rw [lookup_putF, if_neg n2, lookup_putF, if_neg n1, lookup_putF, if_pos rfl]
theorem tf_take (b t m : Int) : (tf b t m).lookup ("_take" : Str) = some (.int t) := by
  unfold tf
  rw [lookup_putF, if_neg n3, lookup_putF, if_pos rfl]
theorem tf_times (b t m : Int) : (tf b t m).lookup ("_times" : Str) = some (.int m) := by
  unfold tf
  rw [lookup_putF, if_pos rfl]
/-- the Trick of these parts stands at p -/
def TrickAt (T : Tx K mg) (H : Hp) (p : Addr) (b t m : Int) : Prop := (∃ dx, H p = some (.ins T.C_Trick dx (tf b t m))) ∧ 2 ≤ b ∧ b ≤ 16 ∧ 1 ≤ t ∧ t ≤ 2 ∧ -100 ≤ m ∧ m ≤ 100
theorem TrickAt.same {T : Tx K mg} {H H' : Hp} {p : Addr} {b t m : Int} (h : TrickAt T H p b t m) (s : Same H H') : TrickAt T H' p b t m :=
  let ⟨⟨dx, e⟩, r⟩ := h
  ⟨⟨dx, s _ _ e⟩, r⟩
theorem TrickAt.but {T : Tx K mg} {H H' : Hp} {p r : Addr} {b t m : Int} (h : TrickAt T H p b t m) (s : But r H H') (n : p ≠ r) : TrickAt T H' p b t m :=
  let ⟨⟨dx, e⟩, q⟩ := h
  ⟨⟨dx, s _ _ e n⟩, q⟩
theorem TrickAt.any {T : Tx K mg} {H : Hp} {p : Addr} {b t m : Int} (h : TrickAt T H p b t m) : AnyV (OwnT T) H (.ref p) :=
  let ⟨⟨_, e⟩, _⟩ := h
  .ins (by first | exact rfl | exact Or.inl rfl) e
theorem isi_trick (T : Tx K mg) {H : Hp} {x : V} (a : AnyV (fun _ => False) H x) : ∃ t, TyX K H x t ∧ PySem.W.kitOne K t (.ref T.C_Trick) = some false := by
  cases a with
  | non => exact ⟨_, .base .non, T.kin_Trick_NoneType⟩
  | bl b => exact ⟨_, .base (.bl b), T.kin_Trick_bool⟩
  | int i => exact ⟨_, .base (.int i), T.kin_Trick_int⟩
  | str x => exact ⟨_, .base (.str x), T.kin_Trick_str⟩
  | lst e => exact ⟨_, .base (.lst e), T.kin_Trick_list⟩
  | tup e => exact ⟨_, .base (.tup e), T.kin_Trick_tuple⟩
  | dct e => exact ⟨_, .base (.dK e), T.kin_Trick_dict⟩
  | ins t e => exact t.elim

/-- Trick(b, t, m) of good parts: a new object; nothing that stood is changed -/
def spTrickI (T : Tx K mg) : Sp := fun vs H Q _ => ∃ (p dx : Addr) (b t m : Int), vs = [.ref p, .int b, .int t, .int m] ∧ H p = some (.ins T.C_Trick dx []) ∧ 2 ≤ b ∧ b ≤ 16 ∧ 1 ≤ t ∧ t ≤ 2 ∧ -100 ≤ m ∧ m ≤ 100 ∧
  ∀ H', TrickAt T H' p b t m → (∀ c o, H c = some o → c ≠ p → H' c = some o) → Q .non H'
theorem ok_Trick___init__ (T : Tx K mg) : FnOk P w K mg base CX0 lv_Trick___init__ T.a_Trick___init__ T.d_Trick___init__ ["self", "base", "take", "times"] (spTrickI T) := by
  refine T.F_Trick___init__.ok sc_Trick___init__ (fun vs H Q E h => ?_) (fun cdv A outer s H vs Q E hr h => ?_)
  · obtain ⟨p, dx, b, t, m, rfl, _⟩ := h
    rfl
  · obtain ⟨p, dx, b, t, m, rfl, hp, b1, b2, t1, t2, m1, m2, k⟩ := h
    refine ⟨_, (pss_cons (ps_expr (pe_call (ok_check_base T) (hr.mono (by decide)) rfl T.g_check_base T.F_check_base.kp T.b_check_base .nil passL (pa_cons (pv 1) pa_nil)))
      (pss_cons (ps_expr (pe_call (ok_check_take T) (hr.mono (by decide)) rfl T.g_check_take T.F_check_take.kp T.b_check_take .nil passL (pa_cons (pv 2) pa_nil)))
      (pss_cons (ps_if (pt_not (pt_val (pe_call (ok_is_integer T) (hr.mono (by decide)) rfl T.g_is_integer T.F_is_integer.kp T.b_is_integer .nil pass0 (pa_cons (pv 3) (pa_cons (pe_un un_neg (pe_glob (v := .int 100) rfl T.c_GREATEST_TIMES ⟨_, rfl⟩)) (pa_cons (pe_glob (v := .int 100) rfl T.c_GREATEST_TIMES ⟨_, rfl⟩) pa_nil)))))) (pss_one ps_never) pss_nil)
      (pss_cons (ps_fld (pv 0) (pv 1) rfl)
      (pss_cons (ps_fld (pv 0) (pv 2) rfl)
      (pss_one (ps_fld (pv 0) (pv 3) rfl))))))), ?_⟩
    refine ⟨_, rfl, _, rfl, .int b, fun _ => ?_, fun z => Bool.noConfusion ((intIn_of b1 b2).symm.trans z)⟩
    refine ⟨_, rfl, _, rfl, .int t, fun _ => ?_, fun z => Bool.noConfusion ((intIn_of t1 t2).symm.trans z)⟩
    refine ⟨_, rfl, _, rfl, _, _, _, rfl, .int m, _, rfl, ?_⟩
    rw [intIn_of m1 m2]
    refine iteF ?_
    refine ⟨_, rfl, _, rfl, p, _, dx, _, rfl, hp, T.cl_Trick, T.na_Trick_base, (by show 0 < 1000; decide), ?_⟩
    refine ⟨_, rfl, _, rfl, p, _, dx, _, rfl, upd_same, T.cl_Trick, T.na_Trick_take, (by show 1 < 1000; decide), ?_⟩
    refine ⟨_, rfl, _, rfl, p, _, dx, _, rfl, upd_same, T.cl_Trick, T.na_Trick_times, (by show 2 < 1000; decide), ?_⟩
    refine k _ ⟨⟨dx, upd_same⟩, b1, b2, t1, t2, m1, m2⟩ fun c o e hc => ?_
    rw [upd_ne hc, upd_ne hc, upd_ne hc]
    exact e
/-- a Trick of good parts is made -/
theorem mk_trick {T : Tx K mg} {H1 : Hp} {p dx : Addr} {b t m : Int} {R : Hp → Prop} {E : XK} (np : H1 p = none) (nd : H1 dx = none) (b1 : 2 ≤ b) (b2 : b ≤ 16) (t1 : 1 ≤ t) (t2 : t ≤ 2) (m1 : -100 ≤ m) (m2 : m ≤ 100)
    (k : ∀ H2, TrickAt T H2 p b t m → Same H1 H2 → R H2) : spTrickI T (.ref p :: ([.int b, .int t, .int m] ++ [])) (upd (upd H1 dx (.own p)) p (.ins T.C_Trick dx [])) (fun v H2 => v = .non ∧ R H2) E :=
  ⟨p, dx, b, t, m, rfl, upd_same, b1, b2, t1, t2, m1, m2, fun H2 hT kp => ⟨rfl, k H2 hT (Same.made np nd kp)⟩⟩

/-! ### a trick's parts, its block -/
def spGet (T : Tx K mg) (f : Int → Int → Int → Int) : Sp := fun vs H Q _ => ∃ (p : Addr) (b t m : Int), vs = [.ref p] ∧ TrickAt T H p b t m ∧ Q (.int (f b t m)) H
theorem ok_Trick_base (T : Tx K mg) : FnOk P w K mg base CX0 lv_Trick_base T.a_Trick_base T.d_Trick_base ["self"] (spGet T fun b _ _ => b) := by
  refine T.F_Trick_base.ok sc_Trick_base (fun vs H Q E h => ?_) (fun cdv A outer s H vs Q E hr h => ?_)
  · obtain ⟨p, b, t, m, rfl, _⟩ := h
    rfl
  · obtain ⟨p, b, t, m, rfl, ⟨⟨dx, e⟩, _⟩, k⟩ := h
    exact ⟨_, (pss_one (ps_ret (pe_fld (pv 0) rfl))), _, rfl, p, _, dx, _, _, rfl, e, T.cl_Trick, T.na_Trick_base, tf_base b t m, k⟩
theorem ok_Trick_take (T : Tx K mg) : FnOk P w K mg base CX0 lv_Trick_take T.a_Trick_take T.d_Trick_take ["self"] (spGet T fun _ t _ => t) := by
  refine T.F_Trick_take.ok sc_Trick_take (fun vs H Q E h => ?_) (fun cdv A outer s H vs Q E hr h => ?_)
  · obtain ⟨p, b, t, m, rfl, _⟩ := h
    rfl
  · obtain ⟨p, b, t, m, rfl, ⟨⟨dx, e⟩, _⟩, k⟩ := h
    exact ⟨_, (pss_one (ps_ret (pe_fld (pv 0) rfl))), _, rfl, p, _, dx, _, _, rfl, e, T.cl_Trick, T.na_Trick_take, tf_take b t m, k⟩
theorem ok_Trick_times (T : Tx K mg) : FnOk P w K mg base CX0 lv_Trick_times T.a_Trick_times T.d_Trick_times ["self"] (spGet T fun _ _ m => m) := by
  refine T.F_Trick_times.ok sc_Trick_times (fun vs H Q E h => ?_) (fun cdv A outer s H vs Q E hr h => ?_)
  · obtain ⟨p, b, t, m, rfl, _⟩ := h
    rfl
  · obtain ⟨p, b, t, m, rfl, ⟨⟨dx, e⟩, _⟩, k⟩ := h
    exact ⟨_, (pss_one (ps_ret (pe_fld (pv 0) rfl))), _, rfl, p, _, dx, _, _, rfl, e, T.cl_Trick, T.na_Trick_times, tf_times b t m, k⟩

theorem ok_trick_block (T : Tx K mg) : FnOk P w K mg base CX0 lv_trick_block T.a_trick_block T.d_trick_block ["trick"] (spGet T fun b t _ => blockOf b t) := by
  refine T.F_trick_block.ok sc_trick_block (fun vs H Q E h => ?_) (fun cdv A outer s H vs Q E hr h => ?_)
  · obtain ⟨p, b, t, m, rfl, _⟩ := h
    rfl
  · obtain ⟨p, b, t, m, rfl, a, k⟩ := h
    obtain ⟨⟨dx, e⟩, b1, b2, _⟩ := id a
    exact ⟨_, (pss_one (ps_ret (pe_call (ok_block_of T) (hr.mono (by decide)) rfl T.g_block_of T.F_block_of.kp T.b_block_of .nil pass0 (pa_cons (pe_prop (pv 0) T.cl_Trick T.p_Trick_base (ok_Trick_base T) (hr.mono (by decide)) T.b_Trick_base .nil pass0 rfl) (pa_cons (pe_prop (pv 0) T.cl_Trick T.p_Trick_take (ok_Trick_take T) (hr.mono (by decide)) T.b_Trick_take .nil pass0 rfl) pa_nil))))), _, rfl, p, dx, _, rfl, e, p, b, t, m, rfl, a, _, rfl, p, dx, _, rfl, e, p, b, t, m, rfl, a, b, t, rfl, b1, b2, k⟩

/-- what is a Trick, or the error -/
def isTrick (T : Tx K mg) (H : Hp) (x : V) : Prop := ∃ p b t m, x = .ref p ∧ TrickAt T H p b t m
def spChkTrick (T : Tx K mg) : Sp := fun vs H Q E => ∃ x : V, vs = [x] ∧ ((∃ p dx fs, x = .ref p ∧ H p = some (.ins T.C_Trick dx fs) ∧ Q .non H) ∨ (AnyV (fun _ => False) H x ∧ E (.ref T.C_BadTrick) none H))
theorem ok_check_trick (T : Tx K mg) : FnOk P w K mg base (L2.CX P w) lv_check_trick T.a_check_trick T.d_check_trick ["trick"] (spChkTrick T) := by
  refine T.F_check_trick.okX sc_check_trick (fun vs H Q E h => ?_) (fun cdv A outer s H vs Q E hr h => ?_)
  · obtain ⟨x, rfl, _⟩ := h
    rfl
  · obtain ⟨x, rfl, h⟩ := h
    refine ⟨_, (pss_one (ps_if (pt_not (pt_val (pe_callB call_isi (by rfl) T.n_isinstance (by decide +kernel) (pa_cons (pv 0) (pa_cons (pe_glob (v := .ref T.C_Trick) rfl T.g_Trick rfl) pa_nil))))) (pss_one (ps_raise rfl (takes_of rfl rfl rfl rfl) (pmk_own PySem.F.excBase_ValueError T.x_BadTrick T.g_BadTrick T.k_BadTrick (raises_own T.s_BadTrick T.t_BadTrick) rfl))) pss_nil)), ?_⟩
    rcases h with ⟨p, dx, fs, rfl, e, k⟩ | ⟨a, k⟩
    · exact ⟨_, rfl, _, _, _, _, _, rfl, .own _, .base (T.ins_Trick _ _ _ _ e), T.kis_Trick, _, rfl, iteF k⟩
    · obtain ⟨t, ty, e⟩ := isi_trick T a
      exact ⟨_, rfl, _, _, _, _, _, rfl, .own _, ty, e, _, rfl, iteT k⟩

/-! ### what a trick makes; the stretch behind which all comes again -/
def made (b t m n : Int) : Int := n / blockOf b t + m * n.fmod (blockOf b t)
def spMadeW (K : PySem.W.Frag) : Sp := fun vs H Q _ => ∃ B m n : Int, vs = [.int B, .int m, .int n] ∧ 2 ≤ B ∧ B ≤ 256 ∧ -100 ≤ m ∧ m ≤ 100 ∧ Q (.int (n / B + m * n.fmod B)) H
theorem ok_made_with (T : Tx K mg) : FnOk P w K mg base CX0 lv_made_with T.a_made_with T.d_made_with ["block", "times", "n"] (spMadeW K) := by
  refine T.F_made_with.ok sc_made_with (fun vs H Q E h => ?_) (fun cdv A outer s H vs Q E hr h => ?_)
  · obtain ⟨B, m, n, rfl, _⟩ := h
    rfl
  · obtain ⟨B, m, n, rfl, B1, B2, m1, m2, k⟩ := h
    refine ⟨_, (pss_one (ps_ret (pe_op op_add (pe_op op_fdivW (pv 2) (pv 0)) (pe_op op_mul (pv 1) (pe_op op_modN (pv 2) (pv 0)))))), ?_⟩
    refine ⟨_, rfl, _, rfl, _, _, rfl, rfl, wide_div (show 0 < B by omega) (b := 9) (show B.natAbs < 2 ^ 9 by omega) (by decide) (by decide), ?_⟩
    exact ⟨_, rfl, _, rfl, _, rfl, _, _, rfl, rfl, (show B ≠ 0 by omega), _, _, rfl, rfl, .inl (show -(2 ^ 64) < m ∧ m < 2 ^ 64 from ⟨by omega, by omega⟩), _, _, rfl, rfl, k⟩
def spMade (T : Tx K mg) : Sp := fun vs H Q _ => ∃ (p : Addr) (b t m n : Int), vs = [.ref p, .int n] ∧ TrickAt T H p b t m ∧ Q (.int (made b t m n)) H
theorem ok_made_of (T : Tx K mg) : FnOk P w K mg base CX0 lv_made_of T.a_made_of T.d_made_of ["trick", "n"] (spMade T) := by
  refine T.F_made_of.ok sc_made_of (fun vs H Q E h => ?_) (fun cdv A outer s H vs Q E hr h => ?_)
  · obtain ⟨p, b, t, m, n, rfl, _⟩ := h
    rfl
  · obtain ⟨p, b, t, m, n, rfl, a, k⟩ := h
    obtain ⟨⟨dx, e⟩, b1, b2, t1, t2, m1, m2⟩ := id a
    obtain ⟨B1, B2⟩ := block_bd (t := t) b1 b2
    refine ⟨_, (pss_one (ps_ret (pe_call (ok_made_with T) (hr.mono (by decide)) rfl T.g_made_with T.F_made_with.kp T.b_made_with .nil pass0 (pa_cons (pe_call (ok_trick_block T) (hr.mono (by decide)) rfl T.g_trick_block T.F_trick_block.kp T.b_trick_block .nil pass0 (pa_cons (pv 0) pa_nil)) (pa_cons (pe_prop (pv 0) T.cl_Trick T.p_Trick_times (ok_Trick_times T) (hr.mono (by decide)) T.b_Trick_times .nil pass0 rfl) (pa_cons (pv 1) pa_nil)))))), ?_⟩
    refine ⟨_, rfl, p, b, t, m, rfl, a, ?_⟩
    refine ⟨_, rfl, p, dx, _, rfl, e, p, b, t, m, rfl, a, ?_⟩
    exact ⟨_, rfl, _, _, _, rfl, by omega, by omega, m1, m2, k⟩

/-! ### the greatest size that does not get less -/
def mn2 (i j : Int) : Int := if j < i then j else i
def mx2 (i j : Int) : Int := if j > i then j else i
def ab (i : Int) : Int := if i < 0 then -i else i
def cdv (n d : Int) : Int := -(-n / d)
def gLeast (B m r : Int) : Int := mn2 (cdv ((m - 1) * r) (B - 1)) (cdv (-(m + 1) * r) (B + 1))
def gGreat (B m r : Int) : Int := mx2 ((m - 1) * r / (B - 1)) (-(m + 1) * r / (B + 1))
def gSize (B m r : Int) : Int := if gLeast B m r > gGreat B m r then 0 else mx2 (ab (gLeast B m r * B + r)) (ab (gGreat B m r * B + r))
theorem mul_le_cancel {x y c : Int} (hc : 0 < c) (h : x * c ≤ y * c) : x ≤ y := Int.le_of_mul_le_mul_right h hc
theorem cdv_le {n d q : Int} (hd : 0 < d) : cdv n d ≤ q ↔ n ≤ q * d := by
  unfold cdv
  have h : -q ≤ -n / d ↔ -q * d ≤ -n := Int.le_ediv_iff_mul_le hd
  constructor
  · intro z
    have := h.mp (by omega)
    rw [Int.neg_mul] at this
    omega
  · intro z
    have := h.mpr (by rw [Int.neg_mul]; omega)
    omega
/-- what does not get less has its quotient between the two -/
theorem not_less {B m r q : Int} (hB : 2 ≤ B) (h : ab (q * B + r) ≤ ab (q + m * r)) : gLeast B m r ≤ q ∧ q ≤ gGreat B m r := by
  have e1 : q + m * r - (q * B + r) = (m - 1) * r - q * (B - 1) := by grind
  have e2 : q + m * r + (q * B + r) = q * (B + 1) - -(m + 1) * r := by grind
  have key : (q * (B - 1) ≤ (m - 1) * r ∧ -(m + 1) * r ≤ q * (B + 1)) ∨ ((m - 1) * r ≤ q * (B - 1) ∧ q * (B + 1) ≤ -(m + 1) * r) := by
    unfold ab at h
    generalize q * B + r = u at *
    generalize q + m * r = v at *
    generalize (m - 1) * r = e at *
    generalize -(m + 1) * r = o at *
    generalize q * (B - 1) = x at *
    generalize q * (B + 1) = y at *
    split at h <;> split at h <;> omega
  have b1 : 0 < B - 1 := by omega
  have b2 : 0 < B + 1 := by omega
  unfold gLeast gGreat mn2 mx2
  rcases key with ⟨k1, k2⟩ | ⟨k1, k2⟩
  · have h1 := (Int.le_ediv_iff_mul_le b1).mpr k1
    have h2 := (cdv_le b2).mpr k2
    constructor
    · split <;> omega
    · split <;> omega
  · have h1 := (cdv_le b1).mpr k1
    have h2 := (Int.le_ediv_iff_mul_le b2).mpr k2
    constructor
    · split <;> omega
    · split <;> omega
theorem ab_between {x y z : Int} (h1 : x ≤ z) (h2 : z ≤ y) : ab z ≤ mx2 (ab x) (ab y) := by
  unfold ab mx2
  split <;> split <;> split <;> split <;> omega
theorem ab_nonneg (x : Int) : 0 ≤ ab x := by
  unfold ab
  split <;> omega
theorem gSize_nonneg (B m r : Int) : 0 ≤ gSize B m r := by
  unfold gSize mx2
  have h1 := ab_nonneg (gLeast B m r * B + r)
  have h2 := ab_nonneg (gGreat B m r * B + r)
  split
  · exact Int.le_refl 0
  · split <;> omega
/-- all greater ones get less -/
theorem gSize_more {B m r q : Int} (hB : 2 ≤ B) (h : gSize B m r < ab (q * B + r)) : ab (q + m * r) < ab (q * B + r) := by
  rcases Int.lt_or_le (ab (q + m * r)) (ab (q * B + r)) with z | z
  · exact z
  · exfalso
    obtain ⟨h1, h2⟩ := not_less hB z
    unfold gSize at h
    rw [if_neg (by omega)] at h
    have m1 : gLeast B m r * B ≤ q * B := Int.mul_le_mul_of_nonneg_right h1 (by omega)
    have m2 : q * B ≤ gGreat B m r * B := Int.mul_le_mul_of_nonneg_right h2 (by omega)
    have := ab_between (x := gLeast B m r * B + r) (y := gGreat B m r * B + r) (z := q * B + r) (by omega) (by omega)
    omega
/-- both ends do not get less -/
theorem not_less_of {B m r q : Int} (h : (q * (B - 1) ≤ (m - 1) * r ∧ -(m + 1) * r ≤ q * (B + 1)) ∨ ((m - 1) * r ≤ q * (B - 1) ∧ q * (B + 1) ≤ -(m + 1) * r)) : ab (q * B + r) ≤ ab (q + m * r) := by
  have e1 : q + m * r - (q * B + r) = (m - 1) * r - q * (B - 1) := by grind
  have e2 : q + m * r + (q * B + r) = q * (B + 1) - -(m + 1) * r := by grind
  unfold ab
  generalize q * B + r = u at *
  generalize q + m * r = v at *
  generalize (m - 1) * r = e at *
  generalize -(m + 1) * r = o at *
  generalize q * (B - 1) = x at *
  generalize q * (B + 1) = y at *
  split <;> split <;> omega
theorem ends_ok {B m r : Int} (hB : 2 ≤ B) (h : gLeast B m r ≤ gGreat B m r) : ∀ q, (q = gLeast B m r ∨ q = gGreat B m r) → ab (q * B + r) ≤ ab (q + m * r) := by
  have b1 : 0 < B - 1 := by omega
  have b2 : 0 < B + 1 := by omega
  -- floors and ceilings stand in one order
  have fl : ∀ {e o c d : Int}, 0 < c → 0 < d → e * d ≤ o * c → e / c ≤ o / d ∧ cdv e c ≤ cdv o d := fun {e o c d} hc hd z => by
    constructor
    · refine (Int.le_ediv_iff_mul_le hd).mpr (mul_le_cancel hc ?_)
      have h1 : e / c * c ≤ e := (Int.le_ediv_iff_mul_le hc).mp (Int.le_refl _)
      have h2 : e / c * c * d ≤ e * d := Int.mul_le_mul_of_nonneg_right h1 (by omega)
      have h3 : e / c * d * c = e / c * c * d := by grind
      omega
    · refine (cdv_le hc).mpr (mul_le_cancel hd ?_)
      have h1 : o ≤ cdv o d * d := (cdv_le hd).mp (Int.le_refl _)
      have h2 : o * c ≤ cdv o d * d * c := Int.mul_le_mul_of_nonneg_right h1 (by omega)
      have h3 : cdv o d * c * d = cdv o d * d * c := by grind
      omega
  have c1 : (m - 1) * r ≤ cdv ((m - 1) * r) (B - 1) * (B - 1) := (cdv_le b1).mp (Int.le_refl _)
  have c2 : -(m + 1) * r ≤ cdv (-(m + 1) * r) (B + 1) * (B + 1) := (cdv_le b2).mp (Int.le_refl _)
  have f1 : (m - 1) * r / (B - 1) * (B - 1) ≤ (m - 1) * r := (Int.le_ediv_iff_mul_le b1).mp (Int.le_refl _)
  have f2 : -(m + 1) * r / (B + 1) * (B + 1) ≤ -(m + 1) * r := (Int.le_ediv_iff_mul_le b2).mp (Int.le_refl _)
  have le_of : ∀ {x y c : Int}, 0 < c → x ≤ y → x * c ≤ y * c := fun {x y c} hc z => Int.mul_le_mul_of_nonneg_right z (by omega)
  have nl := fun q => @not_less_of B m r q
  unfold gLeast gGreat mn2 mx2 at *
  rcases Int.le_total ((m - 1) * r * (B + 1)) (-(m + 1) * r * (B - 1)) with z | z
  · obtain ⟨g1, g2⟩ := fl b1 b2 z
    generalize (m - 1) * r = e at *
    generalize -(m + 1) * r = o at *
    have hl : (if cdv o (B + 1) < cdv e (B - 1) then cdv o (B + 1) else cdv e (B - 1)) = cdv e (B - 1) := by rw [if_neg (by omega)]
    have hg : (if o / (B + 1) > e / (B - 1) then o / (B + 1) else e / (B - 1)) = o / (B + 1) := by split <;> omega
    rw [hl, hg] at h ⊢
    have l1 := le_of b1 h
    have l2 := le_of b2 h
    intro q hq
    refine nl q (.inr ?_)
    rcases hq with rfl | rfl
    · exact ⟨c1, by omega⟩
    · exact ⟨by omega, f2⟩
  · obtain ⟨g1, g2⟩ := fl b2 b1 z
    generalize (m - 1) * r = e at *
    generalize -(m + 1) * r = o at *
    have hl : (if cdv o (B + 1) < cdv e (B - 1) then cdv o (B + 1) else cdv e (B - 1)) = cdv o (B + 1) := by split <;> omega
    have hg : (if o / (B + 1) > e / (B - 1) then o / (B + 1) else e / (B - 1)) = e / (B - 1) := by rw [if_neg (by omega)]
    rw [hl, hg] at h ⊢
    have l1 := le_of b1 h
    have l2 := le_of b2 h
    intro q hq
    refine nl q (.inl ?_)
    rcases hq with rfl | rfl
    · exact ⟨by omega, c2⟩
    · exact ⟨f1, by omega⟩
/-- the greatest one does not get less -/
theorem gSize_at {B m r : Int} (hB : 2 ≤ B) (h : 0 < gSize B m r) : ∃ q, ab (q * B + r) = gSize B m r ∧ ab (q * B + r) ≤ ab (q + m * r) := by
  unfold gSize at h ⊢
  by_cases c : gLeast B m r > gGreat B m r
  · rw [if_pos c] at h
    omega
  · rw [if_neg c]
    have he := ends_ok hB (show gLeast B m r ≤ gGreat B m r by omega)
    unfold mx2
    split
    · exact ⟨_, rfl, he _ (.inr rfl)⟩
    · exact ⟨_, rfl, he _ (.inl rfl)⟩

theorem split_n (n : Int) {B : Int} (hB : 2 ≤ B) : n / B * B + n.fmod B = n ∧ 0 ≤ n.fmod B ∧ n.fmod B < B := by
  rw [Int.fmod_eq_emod_of_nonneg _ (by omega)]
  have := Int.mul_ediv_add_emod n B
  refine ⟨by rw [Int.mul_comm]; exact this, Int.emod_nonneg n (by omega), Int.emod_lt_of_pos n (by omega)⟩
theorem join_n {q r B : Int} (hB : 2 ≤ B) (r0 : 0 ≤ r) (r1 : r < B) : (q * B + r) / B = q ∧ (q * B + r).fmod B = r := by
  rw [Int.fmod_eq_emod_of_nonneg _ (by omega), Int.add_comm, Int.add_mul_ediv_right _ _ (by omega), Int.add_mul_emod_self_right, Int.ediv_eq_zero_of_lt r0 r1, Int.emod_eq_of_lt r0 r1]
  omega
structure BoundOf (b t m M : Int) : Prop where
  nn : 0 ≤ M
  more : ∀ n, M < ab n → ab (made b t m n) < ab n
  at_ : 0 < M → ∃ n, ab n = M ∧ M ≤ ab (made b t m n)
  le : M ≤ 10 ^ 6
theorem half_n (n : Int) {B : Int} (hB : 2 ≤ B) : 2 * ab (n / B) ≤ ab n + 2 := by
  obtain ⟨e, r0, r1⟩ := split_n n hB
  generalize n.fmod B = r at *
  generalize hq : n / B = q at *
  unfold ab
  split
  · -- below 0
    have h : (-q - 1) * 2 ≤ (-q - 1) * B := Int.mul_le_mul_of_nonneg_left hB (by omega)
    have h2 : (-q - 1) * B = -(q * B) - B := by grind
    split <;> omega
  · have h : q * 2 ≤ q * B := Int.mul_le_mul_of_nonneg_left hB (by omega)
    split <;> omega
theorem bound_of {b t m M : Int} (hB : 2 ≤ blockOf b t) (hB2 : blockOf b t ≤ 256) (m1 : -100 ≤ m) (m2 : m ≤ 100) (hM : M ∈ (List.range (blockOf b t).toNat).map fun r : Nat => gSize (blockOf b t) m (r : Int)) (hmax : ∀ y ∈ (List.range (blockOf b t).toNat).map fun r : Nat => gSize (blockOf b t) m (r : Int), y ≤ M) : BoundOf b t m M := by
  have at0 : 0 < M → ∃ n, ab n = M ∧ M ≤ ab (made b t m n) := fun h => by
    obtain ⟨r, hr, e⟩ := List.mem_map.mp hM
    have hr2 := List.mem_range.mp hr
    obtain ⟨q, h1, h2⟩ := gSize_at (B := blockOf b t) (m := m) (r := (r : Int)) hB (by omega)
    obtain ⟨j1, j2⟩ := join_n (q := q) (r := (r : Int)) hB (by omega) (by omega)
    refine ⟨q * blockOf b t + r, by omega, ?_⟩
    unfold made
    rw [j1, j2]
    omega
  refine ⟨?_, fun n hn => ?_, at0, ?_⟩
  · have := hmax (gSize (blockOf b t) m ((0 : Nat) : Int)) (List.mem_map.mpr ⟨0, List.mem_range.mpr (by omega), rfl⟩)
    have h2 := gSize_nonneg (blockOf b t) m ((0 : Nat) : Int)
    omega
  · obtain ⟨e, r0, r1⟩ := split_n n hB
    unfold made
    have h := hmax (gSize (blockOf b t) m (n.fmod (blockOf b t))) (List.mem_map.mpr ⟨(n.fmod (blockOf b t)).toNat, List.mem_range.mpr (by omega), by rw [Int.toNat_of_nonneg r0]⟩)
    have h2 := gSize_more (q := n / blockOf b t) (r := n.fmod (blockOf b t)) (m := m) hB (by rw [e]; omega)
    rw [e] at h2
    exact h2
  · rcases Int.lt_or_le 0 M with z | z
    · obtain ⟨n, h1, h2⟩ := at0 z
      have h3 := half_n n hB
      obtain ⟨e, r0, r1⟩ := split_n n hB
      unfold made at h2
      have h4 : m * n.fmod (blockOf b t) ≤ 100 * 256 := by
        have h5 : m * n.fmod (blockOf b t) ≤ 100 * n.fmod (blockOf b t) := Int.mul_le_mul_of_nonneg_right m2 r0
        omega
      have h5 : -(100 * 256) ≤ m * n.fmod (blockOf b t) := by
        have h6 : -100 * n.fmod (blockOf b t) ≤ m * n.fmod (blockOf b t) := Int.mul_le_mul_of_nonneg_right m1 r0
        omega
      generalize m * n.fmod (blockOf b t) = y at *
      generalize n / blockOf b t = q at *
      have h6 : ab (q + y) ≤ ab q + 25600 := by
        unfold ab
        split <;> split <;> omega
      omega
    · omega
/-! ### bound -/
def spRounded : Sp := fun vs H Q _ => ∃ n d : Int, vs = [.int n, .int d] ∧ 0 < d ∧ d ≤ 300 ∧ Q (.int (cdv n d)) H
theorem ok_rounded_up (T : Tx K mg) : FnOk P w K mg base CX0 lv_rounded_up T.a_rounded_up T.d_rounded_up ["n", "d"] spRounded := by
  refine T.F_rounded_up.ok sc_rounded_up (fun vs H Q E h => ?_) (fun cdv' A outer s H vs Q E hr h => ?_)
  · obtain ⟨n, d, rfl, _⟩ := h
    rfl
  · obtain ⟨n, d, rfl, d0, d1, k⟩ := h
    refine ⟨_, (pss_one (ps_ret (pe_un un_neg (pe_op op_fdivW (pe_un un_neg (pv 0)) (pv 1))))), ?_⟩
    exact ⟨_, rfl, _, rfl, _, rfl, _, _, rfl, rfl, ⟨d0, Nat.lt_of_le_of_lt (Nat.log2_le_self _) (by omega)⟩, _, rfl, k⟩
def spGsize : Sp := fun vs H Q _ => ∃ B m r : Int, vs = [.int B, .int m, .int r] ∧ 2 ≤ B ∧ B ≤ 256 ∧ -100 ≤ m ∧ m ≤ 100 ∧ Q (.int (gSize B m r)) H
theorem ok_greatest_size (T : Tx K mg) : FnOk P w K mg base CX0 lv_greatest_size T.a_greatest_size T.d_greatest_size ["block", "times", "rest"] spGsize := by
  refine T.F_greatest_size.ok sc_greatest_size (fun vs H Q E h => ?_) (fun cdv' A outer s H vs Q E hr h => ?_)
  · obtain ⟨B, m, r, rfl, _⟩ := h
    rfl
  · obtain ⟨B, m, r, rfl, B1, B2, m1, m2, k⟩ := h
    refine ⟨_, (pss_cons (ps_set (i := 3) sc_greatest_size.nd rfl (Or.inl rfl) (pe_op op_mul (pe_op op_sub (pv 1) pe_int) (pv 2)))
      (pss_cons (ps_set (i := 4) sc_greatest_size.nd rfl (Or.inl rfl) (pe_op op_mul (pe_un un_neg (pe_op op_add (pv 1) pe_int)) (pv 2)))
      (pss_cons (ps_set (i := 5) sc_greatest_size.nd rfl (Or.inl rfl) (pe_callB (call_min2 rfl) (by rfl) T.n_min (by decide +kernel) (pa_cons (pe_call (ok_rounded_up T) (hr.mono (by decide)) rfl T.g_rounded_up T.F_rounded_up.kp T.b_rounded_up .nil pass0 (pa_cons (pv 3) (pa_cons (pe_op op_sub (pv 0) pe_int) pa_nil))) (pa_cons (pe_call (ok_rounded_up T) (hr.mono (by decide)) rfl T.g_rounded_up T.F_rounded_up.kp T.b_rounded_up .nil pass0 (pa_cons (pv 4) (pa_cons (pe_op op_add (pv 0) pe_int) pa_nil))) pa_nil))))
      (pss_cons (ps_set (i := 6) sc_greatest_size.nd rfl (Or.inl rfl) (pe_callB (call_max2 rfl) (by rfl) T.n_max (by decide +kernel) (pa_cons (pe_op op_fdivW (pv 3) (pe_op op_sub (pv 0) pe_int)) (pa_cons (pe_op op_fdivW (pv 4) (pe_op op_add (pv 0) pe_int)) pa_nil))))
      (pss_cons (ps_if (pt_cmpR op_gt (pv 5) (pv 6) (nomark _)) (pss_one (ps_ret pe_int)) pss_nil)
      (pss_one (ps_ret (pe_callB (call_max2 rfl) (by rfl) T.n_max (by decide +kernel) (pa_cons (pe_callB call_abs (by rfl) T.n_abs (by decide +kernel) (pa_cons (pe_op op_add (pe_op op_mul (pv 5) (pv 0)) (pv 2)) pa_nil)) (pa_cons (pe_callB call_abs (by rfl) T.n_abs (by decide +kernel) (pa_cons (pe_op op_add (pe_op op_mul (pv 6) (pv 0)) (pv 2)) pa_nil)) pa_nil)))))))))), ?_⟩
    have w1 : CDivW 0 (B - 1) := ⟨by omega, Nat.lt_of_le_of_lt (Nat.log2_le_self _) (by omega)⟩
    have w2 : CDivW 0 (B + 1) := ⟨by omega, Nat.lt_of_le_of_lt (Nat.log2_le_self _) (by omega)⟩
    refine ⟨_, rfl, _, _, rfl, rfl, _, rfl, _, _, rfl, rfl, .inl (show -(2 ^ 64) < m - 1 ∧ m - 1 < 2 ^ 64 from ⟨by omega, by omega⟩), ?_⟩
    refine ⟨_, rfl, _, _, rfl, rfl, _, rfl, _, rfl, _, _, rfl, rfl, .inl (show -(2 ^ 64) < -(m + 1) ∧ -(m + 1) < 2 ^ 64 from ⟨by omega, by omega⟩), ?_⟩
    unfold gSize at k
    refine ⟨_, rfl, _, rfl, _, _, rfl, rfl, _, _, rfl, (show 0 < B - 1 by omega), (show B - 1 ≤ 300 by omega), _, rfl, _, rfl, _, _, rfl, rfl, _, _, rfl, (show 0 < B + 1 by omega), (show B + 1 ≤ 300 by omega), _, _, rfl, ?_⟩
    refine ⟨_, rfl, _, rfl, _, _, rfl, rfl, _, _, rfl, rfl, w1, _, rfl, _, rfl, _, _, rfl, rfl, _, _, rfl, rfl, w2, _, _, rfl, ?_⟩
    refine ⟨_, rfl, _, rfl, _, _, rfl, rfl, _, rfl, ?_⟩
    refine ite2 (fun g => ?_) (fun g => ?_)
    · rw [if_pos (show gLeast B m r > gGreat B m r from of_decide_eq_true g)] at k
      exact k
    · rw [if_neg (show ¬ gLeast B m r > gGreat B m r from fun z => g (decide_eq_true z))] at k
      exact ⟨_, rfl, _, rfl, _, _, rfl, rfl, .inr ⟨by omega, by omega⟩, _, rfl, _, _, rfl, rfl, _, rfl, _, rfl, _, rfl, _, _, rfl, rfl, .inr ⟨by omega, by omega⟩, _, rfl, _, _, rfl, rfl, _, rfl, _, _, rfl, k⟩
def spBound (T : Tx K mg) : Sp := fun vs H Q _ => ∃ (p : Addr) (b t m : Int), vs = [.ref p] ∧ TrickAt T H p b t m ∧ ∀ M H', BoundOf b t m M → Same H H' → Q (.int M) H'
theorem ok_bound (T : Tx K mg) : FnOk P w K mg base (L2.CX P w) lv_bound T.a_bound T.d_bound ["trick"] (spBound T) := by
  refine T.F_bound.okX sc_bound (fun vs H Q E h => ?_) (fun cdv' A outer s H vs Q E hr h => ?_)
  · obtain ⟨p, b, t, m, rfl, _⟩ := h
    rfl
  · obtain ⟨p, b, t, m, rfl, a, k⟩ := h
    obtain ⟨⟨dx, e⟩, b1, b2, t1, t2, m1, m2⟩ := id a
    obtain ⟨B1, B2⟩ := block_bd (t := t) b1 b2
    refine ⟨_, (pss_cons (ps_expr (pe_call (ok_check_trick T) (hr.mono (by decide)) rfl T.g_check_trick T.F_check_trick.kp T.b_check_trick .nil (passes_call (takes_of rfl rfl rfl rfl) fun _ _ _ _ h => h) (pa_cons (pv 0) pa_nil)))
      (pss_cons (ps_set (i := 1) sc_bound.nd rfl (Or.inr rfl) (pe_call (ok_trick_block T) (hr.mono (by decide)) rfl T.g_trick_block T.F_trick_block.kp T.b_trick_block .nil pass0 (pa_cons (pv 0) pa_nil)))
      (pss_one (ps_ret (pe_callB (cr_max rfl) (by rfl) T.n_max (by decide +kernel) (pa_cons (pe_lc (own := [("rest", 2)]) (g := gName 2) (tt := tYes) rfl sc_bound.nd (pi_range1 (by rfl) T.n_range (pa_cons (pv 1) pa_nil)) (blkOk_by (own := [("rest", 2)]) (N := ["trick", "block", "rest"]) (sc := defScope s_bound) (by decide +kernel)) (fun _ _ _ _ _ => pg_name (i := 2) sc_bound.nd rfl (Or.inl rfl)) (fun _ _ _ _ _ => pts_nil) (fun _ _ _ _ _ => (pe_call (ok_greatest_size T) (hr.mono (by decide)) rfl T.g_greatest_size T.F_greatest_size.kp T.b_greatest_size .nil pass0 (pa_cons (pv 1) (pa_cons (pe_prop (pv 0) T.cl_Trick T.p_Trick_times (ok_Trick_times T) (hr.mono (by decide)) T.b_Trick_times .nil pass0 rfl) (pa_cons (pv 2) pa_nil)))))) pa_nil)))))), ?_⟩
    refine ⟨_, rfl, _, rfl, .inl ⟨p, dx, _, rfl, e, ?_⟩⟩
    refine ⟨_, rfl, p, b, t, m, rfl, a, ?_⟩
    have bo := fun M => @bound_of b t m M B1 B2 m1 m2
    refine ⟨_, rfl, blockOf b t, rfl, by omega, by omega, fun D hD => ?_⟩
    have nDp : p ≠ D := ne_of_none e hD
    refine lc_range (lo := 0) (n := (blockOf b t).toNat) (fun i H4 => Same H H4 ∧ H4 D = some (.lst (((List.range i).map fun r : Nat => gSize (blockOf b t) m (r : Int)).map V.int))) ⟨same_upd hD, upd_same⟩ ?_ ?_
    · rintro i H4 hi ⟨S4, hL⟩
      have ei : (0 : Int) + (i : Int) = (i : Int) := Int.zero_add _
      rw [ei]
      refine ⟨rfl, _, rfl, _, rfl, p, dx, _, rfl, S4 _ _ e, p, b, t, m, rfl, a.same S4, _, rfl, blockOf b t, m, (i : Int), rfl, B1, B2, m1, m2, _, hL, by rw [List.length_map, List.length_map, List.length_range]; exact small1000 (by omega), fun c o ee => ?_, ?_⟩
      · rw [upd_ne (ne_of_none ee hD)]
        exact S4 _ _ ee
      · rw [upd_same, List.range_succ, List.map_append, List.map_append]
        rfl
    · rintro H4 ⟨S4, hL⟩
      exact ⟨D, _, rfl, SqL.of hL, by rw [List.length_map, List.length_range]; omega, fun M hM hmax => k M H4 (bo M hM hmax) S4⟩

/-! ### tuples cut and joined -/
theorem cutV_take (xs : List V) (k : Nat) : cutV xs none (some (k : Int)) = xs.take k := by
  unfold cutV
  rw [HT.sIx_none, HT.sIx_nat, List.drop_zero, Nat.sub_zero]
  rcases Nat.le_total k xs.length with h | h
  · rw [Nat.min_eq_left h]
  · rw [Nat.min_eq_right h, List.take_of_length_le (Nat.le_refl _), List.take_of_length_le h]
theorem cutV_drop (xs : List V) (k : Nat) : cutV xs (some (k : Int)) none = xs.drop k := by
  unfold cutV
  rw [HT.sIx_none, HT.sIx_nat]
  rcases Nat.le_total k xs.length with h | h
  · rw [Nat.min_eq_left h, List.take_of_length_le (by rw [List.length_drop]; exact Nat.le_refl _)]
  · rw [Nat.min_eq_right h, List.drop_of_length_le (Nat.le_refl _), List.drop_of_length_le h, List.take_nil]
/-- what is before it, then t[k + 1:] -/
theorem tail_cat {σ : L2.St} {H : Hp} {c q : Addr} {ys xs : List V} {k : Nat} {Q : VK} (h6 : σ[6]? = some (some (.ref q))) (h7 : σ[7]? = some (some (.int (k : Int)))) (hq : H q = some (.tup xs)) (hc : H c = some (.tup ys)) (ny : ys ≠ []) (sz : ys.length + xs.length ≤ 1000) (nk : xs ≠ [])
    (hQ : ∀ (w' : Addr) (H2 : Hp), Same H H2 → H2 w' = some (.tup (ys ++ xs.drop (k + 1))) → (w' = c ∨ H w' = none) → Q (.ref w') H2) :
    tSl (rSlT K) (tVar 6) (tPart (tOp (rI0 fun i j => V.int (i + j)) (tVar 7) (tC (V.int 1)))) tNoPart σ H (fun y H2 => rCatA K (.ref c) y H2 Q) := by
  have e1 : ((k : Int) + 1) = ((k + 1 : Nat) : Int) := by omega
  refine ⟨_, h6, _, h7, _, _, rfl, rfl, _, rfl, q, xs, rfl, SqT.of hq, ?_, fun p hp => ?_⟩
  · rintro ⟨z, _⟩
    rw [e1, HT.sIx_nat] at z
    have : 0 < xs.length := List.length_pos_iff.mpr nk
    omega
  · rw [e1, cutV_drop]
    have S := same_upd (o := .tup (xs.drop (k + 1))) hp
    refine ⟨c, p, ys, xs.drop (k + 1), rfl, rfl, SqT.of (S _ _ hc), SqT.of upd_same, ?_, fun e => absurd e ny, fun _ e => ?_, fun _ _ p2 hp2 => ?_⟩
    · have := List.length_drop (l := xs) (i := k + 1)
      have h2 : (1000 : Nat) ≤ sizeLine := by decide
      omega
    · refine hQ c _ S ?_ (.inl rfl)
      have e3 := S _ _ hc
      rw [e] at e3 ⊢
      rw [List.append_nil]
      exact e3
    · refine hQ p2 _ (S.trans (same_upd hp2)) upd_same (.inr ?_)
      by_cases z : p2 = p
      · rw [z]
        exact hp
      · rw [upd_ne z] at hp2
        exact hp2

/-! ### whether an int is among ints -/
theorem inV_ints (r : Int) : ∀ s : List Int, inV (.int r) (s.map V.int) = s.elem r
  | [] => rfl
  | z :: s => by
    show ((z == r) || inV (.int r) (s.map V.int)) = _
    rw [inV_ints r s, List.elem_cons]
    by_cases h : z = r
    · subst h; simp
    · have h2 : ¬ r = z := fun e => h e.symm
      rw [show (z == r) = false from by simpa using h, show (r == z) = false from by simpa using h2]
      rfl
theorem flat_ints (s : List Int) : (s.map V.int).all flatV = true := by
  rw [List.all_eq_true]
  intro v hv
  obtain ⟨z, _, rfl⟩ := List.mem_map.mp hv
  rfl

/-! ### the least number for which it fails -/
/-- None, or the number -/
def optV : Option Nat → V
  | none => .non
  | some n => .int (n : Int)
theorem find_at {f : Nat → Bool} {i k : Nat} (h : ∀ j, j < i → f j = false) (hf : f i = true) (hk : i < k) : (List.range k).find? f = some i := by
  rw [List.find?_range_eq_some]
  exact ⟨hf, List.mem_range.mpr hk, fun j hj => by rw [h j hj]; rfl⟩
theorem find_none {f : Nat → Bool} {k : Nat} (h : ∀ j, j < k → f j = false) : (List.range k).find? f = none := by
  rw [List.find?_eq_none]
  exact fun j hj => by rw [h j (List.mem_range.mp hj)]; exact Bool.false_ne_true
theorem find_succ (f : Nat → Bool) (i : Nat) : (List.range (i + 1)).find? f = ((List.range i).find? f).or (if f i = true then some i else none) := by
  rw [List.range_succ, List.find?_append]
  congr 1
  by_cases h : f i = true
  · rw [if_pos h]; simp [h]
  · rw [if_neg h]; simp [h]
theorem opt_non (o : Option Nat) : decide (optV o = .non) = o.isNone := by
  cases o <;> simp [optV]
theorem scal_opt (o u : Option Nat) : scal (optV o) (optV u) = true := by
  cases o <;> cases u <;> rfl

/-! ### done again and again: rings -/
section
variable (f : Int → Int)
def orb (n : Int) : Nat → Int
  | 0 => n
  | k + 1 => f (orb n k)
def orbL (n : Int) (k : Nat) : List Int := (List.range k).map (orb f n)
theorem orb_add (n : Int) (i : Nat) : ∀ j, orb f n (i + j) = orb f (orb f n i) j
  | 0 => rfl
  | j + 1 => by
    show f (orb f n (i + j)) = f (orb f (orb f n i) j)
    rw [orb_add n i j]
theorem orbL_len (n : Int) (k : Nat) : (orbL f n k).length = k := by
  unfold orbL
  rw [List.length_map, List.length_range]
theorem orbL_get {n : Int} {k j : Nat} (h : j < k) : (orbL f n k)[j]? = some (orb f n j) := by
  unfold orbL
  rw [List.getElem?_map, List.getElem?_range h]
  rfl
theorem orbL_succ (n : Int) (k : Nat) : orbL f n (k + 1) = orbL f n k ++ [orb f n k] := by
  unfold orbL
  rw [List.range_succ, List.map_append]
  rfl
theorem orbL_mem {n x : Int} {k : Nat} : x ∈ orbL f n k ↔ ∃ j, j < k ∧ orb f n j = x := by
  unfold orbL
  rw [List.mem_map]
  exact ⟨fun ⟨j, h, e⟩ => ⟨j, List.mem_range.mp h, e⟩, fun ⟨j, h, e⟩ => ⟨j, List.mem_range.mpr h, e⟩⟩
theorem orbL_drop (n : Int) (i k : Nat) : (orbL f n (i + k)).drop i = orbL f (orb f n i) k := by
  unfold orbL
  apply List.ext_getElem?
  intro j
  rw [List.getElem?_drop]
  rcases Nat.lt_or_ge j k with h | h
  · rw [List.getElem?_map, List.getElem?_map, List.getElem?_range (by omega), List.getElem?_range h]
    show some (orb f n (i + j)) = some (orb f (orb f n i) j)
    rw [orb_add]
  · rw [List.getElem?_eq_none (by rw [List.length_map, List.length_range]; omega), List.getElem?_eq_none (by rw [List.length_map, List.length_range]; omega)]
theorem orbL_take (n : Int) {i k : Nat} (h : i ≤ k) : (orbL f n k).take i = orbL f n i := by
  unfold orbL
  rw [← List.map_take, List.take_range, Nat.min_eq_left h]
/-- n comes again behind L rounds, and not before -/
structure Back (n : Int) (L : Nat) : Prop where
  pos : 0 < L
  back : orb f n L = n
  first : ∀ j, 0 < j → j < L → orb f n j ≠ n
theorem back_mul {n : Int} {L : Nat} (h : orb f n L = n) : ∀ q, orb f n (q * L) = n
  | 0 => by rw [Nat.zero_mul]; rfl
  | q + 1 => by rw [Nat.succ_mul, orb_add, back_mul h q, h]
theorem back_mod {n : Int} {L : Nat} (h : orb f n L = n) (j : Nat) : orb f n (j % L) = orb f n j := by
  conv => rhs; rw [← Nat.div_add_mod j L, Nat.mul_comm, orb_add, back_mul f h]
theorem Back.inj {n : Int} {L : Nat} (h : Back f n L) {i j : Nat} (hij : i < j) (hj : j < L) : orb f n i ≠ orb f n j := by
  intro e
  have e2 : orb f n (i + (L - j)) = n := by
    rw [orb_add, e, ← orb_add, show j + (L - j) = L by omega, h.back]
  exact h.first (i + (L - j)) (by omega) (by omega) e2
theorem Back.on {n : Int} {L : Nat} (h : Back f n L) (s : Nat) : Back f (orb f n s) L := by
  refine ⟨h.pos, ?_, fun j h1 h2 e => ?_⟩
  · rw [← orb_add, Nat.add_comm, orb_add, h.back]
  · rw [← orb_add, ← back_mod f h.back (s + j), ← back_mod f h.back s] at e
    have l1 := Nat.mod_lt s h.pos
    have l2 := Nat.mod_lt (s + j) h.pos
    rcases Nat.lt_trichotomy ((s + j) % L) (s % L) with z | z | z
    · exact h.inj f z l1 e
    · have d1 := Nat.div_add_mod (s + j) L
      have d2 := Nat.div_add_mod s L
      rw [z] at d1
      have : L * ((s + j) / L) = L * (s / L) + j := by omega
      rcases Nat.lt_or_ge ((s + j) / L) (s / L + 1) with y | y
      · have := Nat.mul_le_mul_left L (show (s + j) / L ≤ s / L by omega)
        omega
      · have := Nat.mul_le_mul_left L y
        rw [Nat.mul_succ] at this
        omega
    · exact h.inj f z l2 e.symm
theorem Back.uniq {n : Int} {L M : Nat} (h : Back f n L) (g : Back f n M) : L = M := by
  rcases Nat.lt_trichotomy L M with z | z | z
  · exact absurd h.back (g.first L h.pos z)
  · exact z
  · exact absurd g.back (h.first M g.pos z)
theorem Back.rot {n : Int} {L : Nat} (h : Back f n L) {s : Nat} (hs : s ≤ L) : (orbL f n L).drop s ++ (orbL f n L).take s = orbL f (orb f n s) L := by
  obtain ⟨e, rfl⟩ : ∃ e, L = s + e := ⟨L - s, by omega⟩
  rw [orbL_drop, orbL_take f n hs]
  have : orbL f (orb f n s) (s + e) = orbL f (orb f n s) e ++ (orbL f (orb f n s) (e + s)).drop e := by
    rw [Nat.add_comm s e]
    conv => lhs; rw [← List.take_append_drop e (orbL f (orb f n s) (e + s)), orbL_take f _ (Nat.le_add_right e s)]
  rw [this, orbL_drop, ← orb_add, h.back]
/-- a ring, the least one first -/
def IsRing (r : List Int) : Prop := ∃ x L, Back f x L ∧ (∀ j, x ≤ orb f x j) ∧ r = orbL f x L
/-- where the way from n ends: first all p are new (none of S), then comes one of S, or the i-th again -/
structure Way (S : Int → Prop) (n : Int) (p : Nat) : Prop where
  out : ∀ j, j < p → ¬ S (orb f n j)
  inj : ∀ i j, i < j → j < p → orb f n i ≠ orb f n j
def Way.Ends (S : Int → Prop) (n : Int) (p : Nat) : Prop := S (orb f n p) ∨ ∃ i, i < p ∧ orb f n i = orb f n p
theorem Way.nodup {S : Int → Prop} {n : Int} {p : Nat} (h : Way f S n p) : (orbL f n p).Nodup := by
  unfold orbL
  show List.Pairwise (· ≠ ·) _
  rw [List.pairwise_map]
  refine List.Pairwise.imp_of_mem (fun {a b} ha hb h2 => ?_) (List.pairwise_lt_range (n := p))
  exact h.inj a b h2 (List.mem_range.mp hb)
theorem way_uniq {S : Int → Prop} {n : Int} {p q : Nat} (h : Way f S n p) (e : Way.Ends f S n p) (g : Way f S n q) (k : Way.Ends f S n q) : p = q := by
  have lt : ∀ {p q : Nat}, Way.Ends f S n p → Way f S n q → ¬ p < q := fun {p q} e g z => by
    rcases e with e | ⟨i, hi, e⟩
    · exact g.out p z e
    · exact g.inj i p hi z e
  have a := lt e g
  have b := lt k h
  omega
theorem Way.back {S : Int → Prop} {n : Int} {p i : Nat} (h : Way f S n p) (hi : i < p) (e : orb f n i = orb f n p) : Back f (orb f n i) (p - i) := by
  refine ⟨by omega, ?_, fun j h1 h2 z => ?_⟩
  · rw [← orb_add, show i + (p - i) = p by omega, e]
  · rw [← orb_add] at z
    exact h.inj i (i + j) (by omega) (by omega) z.symm
/-- the path from a number of a ring -/
theorem Back.way {n : Int} {L : Nat} (h : Back f n L) : Way f (fun _ => False) n L ∧ Way.Ends f (fun _ => False) n L :=
  ⟨⟨fun _ _ z => z, fun i j a b => h.inj f a b⟩, .inr ⟨0, h.pos, by rw [h.back]; rfl⟩⟩
end

/-! ### how far it goes until all comes again -/
theorem ab_add (x y : Int) : ab (x + y) ≤ ab x + ab y := by
  unfold ab
  split <;> split <;> split <;> omega
theorem ab_mul {m r c d : Int} (m1 : -c ≤ m) (m2 : m ≤ c) (r0 : 0 ≤ r) (r1 : r ≤ d) : ab (m * r) ≤ c * d := by
  have h1 := Int.mul_le_mul_of_nonneg_right m2 r0
  have h2 := Int.mul_le_mul_of_nonneg_right m1 r0
  have h3 := Int.mul_le_mul_of_nonneg_left r1 (show 0 ≤ c by omega)
  rw [Int.neg_mul] at h2
  unfold ab
  split <;> omega
theorem made_half {b t m n : Int} (hB : 2 ≤ blockOf b t) (hB2 : blockOf b t ≤ 256) (m1 : -100 ≤ m) (m2 : m ≤ 100) : 2 * ab (made b t m n) ≤ ab n + 51002 := by
  obtain ⟨e, r0, r1⟩ := split_n n hB
  have h1 := half_n n hB
  have h2 := ab_add (n / blockOf b t) (m * n.fmod (blockOf b t))
  have h3 := ab_mul m1 m2 r0 (show n.fmod (blockOf b t) ≤ 255 by omega)
  unfold made
  omega
theorem orb_half {b t m : Int} (hB : 2 ≤ blockOf b t) (hB2 : blockOf b t ≤ 256) (m1 : -100 ≤ m) (m2 : m ≤ 100) (n : Int) : ∀ k : Nat, 2 ^ k * ab (orb (made b t m) n k) ≤ ab n + 51002 * 2 ^ k
  | 0 => by
    rw [Int.pow_zero]
    show 1 * ab n ≤ ab n + 51002 * 1
    omega
  | k + 1 => by
    have ih := orb_half hB hB2 m1 m2 n k
    have h := made_half hB hB2 m1 m2 (n := orb (made b t m) n k)
    have p : (0 : Int) < 2 ^ k := Int.pow_pos (by decide)
    have h2 := Int.mul_le_mul_of_nonneg_left h (Int.le_of_lt p)
    rw [Int.mul_add] at h2
    show 2 ^ (k + 1) * ab (made b t m (orb (made b t m) n k)) ≤ ab n + 51002 * 2 ^ (k + 1)
    rw [Int.pow_succ, Int.mul_assoc]
    generalize ab (made b t m (orb (made b t m) n k)) = y at *
    generalize (2 : Int) ^ k = w at *
    have : w * 51002 = 51002 * w := Int.mul_comm _ _
    omega
theorem orb_near {b t m : Int} (hB : 2 ≤ blockOf b t) (hB2 : blockOf b t ≤ 256) (m1 : -100 ≤ m) (m2 : m ≤ 100) {n : Int} (hn : ab n ≤ 10 ^ 40) {k : Nat} (hk : 133 ≤ k) : ab (orb (made b t m) n k) ≤ 51204 := by
  have h := orb_half hB hB2 m1 m2 n k
  obtain ⟨e, rfl⟩ : ∃ e, k = 133 + e := ⟨k - 133, by omega⟩
  have p : (1 : Int) ≤ 2 ^ e := Int.pow_pos (by decide)
  have p2 : (2 : Int) ^ (133 + e) = 2 ^ 133 * 2 ^ e := Int.pow_add _ _ _
  have big : (10 : Int) ^ 40 ≤ 2 ^ 133 := by decide
  have p3 : (2 : Int) ^ 133 ≤ 2 ^ (133 + e) := by
    rw [p2]
    have := Int.mul_le_mul_of_nonneg_left p (show (0 : Int) ≤ 2 ^ 133 by decide)
    omega
  generalize (2 : Int) ^ (133 + e) = w at *
  rcases Int.lt_or_le 51204 (ab (orb (made b t m) n (133 + e))) with z | z
  · have := Int.mul_le_mul_of_nonneg_left (show 51205 ≤ ab (orb (made b t m) n (133 + e)) by omega) (show 0 ≤ w by omega)
    omega
  · exact z
def boxC (C : Nat) : List Int := (List.range (2 * C + 1)).map fun (i : Nat) => (i : Int) - (C : Int)
theorem mem_boxC {C : Nat} {x : Int} (h : ab x ≤ C) : x ∈ boxC C := by
  have : -(C : Int) ≤ x ∧ x ≤ C := by
    unfold ab at h
    split at h <;> omega
  exact List.mem_map.mpr ⟨(x + C).toNat, List.mem_range.mpr (by omega), by omega⟩
theorem boxC_len (C : Nat) : (boxC C).length = 2 * C + 1 := by
  unfold boxC
  rw [List.length_map, List.length_range]
theorem way_len {b t m : Int} (hB : 2 ≤ blockOf b t) (hB2 : blockOf b t ≤ 256) (m1 : -100 ≤ m) (m2 : m ≤ 100) {n : Int} (hn : ab n ≤ 10 ^ 40) {S : Int → Prop} {p : Nat} (h : Way (made b t m) S n p) : p ≤ 102600 := by
  rcases Nat.lt_or_ge p 133 with z | z
  · omega
  · obtain ⟨e, rfl⟩ : ∃ e, p = 133 + e := ⟨p - 133, by omega⟩
    have nd : (orbL (made b t m) (orb (made b t m) n 133) e).Nodup := by
      rw [← orbL_drop]
      exact h.nodup.sublist (List.drop_sublist _ _)
    have := pigL (boxC 51204) _ nd fun x hx => by
      obtain ⟨j, hj, rfl⟩ := (orbL_mem _).mp hx
      rw [← orb_add]
      exact mem_boxC (orb_near hB hB2 m1 m2 hn (by omega))
    rw [orbL_len, boxC_len] at this
    omega

/-! ### the path until something comes again -/
def entK (z : Int) : Key × V := (Sum.inl z, .bl true)
theorem entK_get (n : Int) : ∀ S : List Int, (valV (S.map entK) (Sum.inl n)).isSome = decide (n ∈ S)
  | [] => rfl
  | x :: S => by
    have ih := entK_get n S
    unfold valV at ih ⊢
    rw [List.map_cons, List.find?_cons]
    by_cases e : x = n
    · subst e
      rw [show decide ((entK x).1 = (Sum.inl x : Key)) = true from decide_eq_true rfl, decide_eq_true List.mem_cons_self]
      rfl
    · rw [show decide ((entK x).1 = (Sum.inl n : Key)) = false from decide_eq_false fun z => e (by injection z)]
      show _ = decide (n ∈ x :: S)
      rw [ih, decide_eq_decide]
      simp only [List.mem_cons]
      exact ⟨.inr, fun z => z.elim (fun q => absurd q.symm e) id⟩
theorem entK_none {n : Int} {S : List Int} (h : ¬ n ∈ S) : valV (S.map entK) (Sum.inl n) = none := by
  have := entK_get n S
  rw [decide_eq_false h] at this
  exact Option.not_isSome_iff_eq_none.mp (by rw [this]; exact Bool.false_ne_true)
theorem m_dnot {i j : Nat} : TTMono (tB (tDNotIn (tVar i) (tVar j))) := fun σ H Q Q2 h z => by
  obtain ⟨v, e, w, e2, a, o, e3, g, q⟩ := z
  obtain ⟨b, e4, q⟩ := q
  exact ⟨v, e, w, e2, a, o, e3, g, b, e4, h _ _ q⟩
def spPath (T : Tx K mg) : Sp := fun vs H Q _ => ∃ (p s : Addr) (b t m n : Int) (S : List Int), vs = [.ref p, .int n, .ref s] ∧ TrickAt T H p b t m ∧ ab n ≤ 10 ^ 40 ∧ H s = some (.dK (S.map entK)) ∧ S.length ≤ 1000000 ∧
  ∀ (k : Nat) (P : Addr) (H' : Hp), Way (made b t m) (· ∈ S) n k → Way.Ends (made b t m) (· ∈ S) n k → k ≤ 102600 → H P = none → H' P = some (.lst ((orbL (made b t m) n k).map V.int)) → H' s = some (.dK ((S ++ orbL (made b t m) n k).map entK)) → (∀ c o, H c = some o → c ≠ s → H' c = some o) → Q (.ref P) H'
theorem ok_unseen_path (T : Tx K mg) : FnOk P w K mg base CX0 lv_unseen_path T.a_unseen_path T.d_unseen_path ["trick", "n", "seen"] (spPath T) := by
  refine T.F_unseen_path.ok sc_unseen_path (fun vs H Q E h => ?_) (fun cdv A outer s H vs Q E hr h => ?_)
  · obtain ⟨p, s, b, t, m, n, S, rfl, _⟩ := h
    rfl
  · obtain ⟨p, ds, b, t, m, n, S, rfl, a, hn, hs, hS, k⟩ := h
    obtain ⟨⟨dx, e⟩, b1, b2, t1, t2, m1, m2⟩ := id a
    obtain ⟨B1, B2⟩ := block_bd (t := t) b1 b2
    refine ⟨_, (pss_cons (ps_set (i := 3) sc_unseen_path.nd rfl (Or.inl rfl) (pe_lst pa_nil))
      (pss_cons (ps_while PassesOwn.never (pt_cmp (pc_dnotin (hu_of hr) (pv 1) (pv 2))) (pss_cons (ps_dput (hu_of hr) (pv 2) (pv 1) pe_bl rfl)
      (pss_cons (ps_expr (pe_bm PySem.F.plainAttrs_list PySem.F.slot_list_append PySem.F.type_list_append mt_append (pv 3) (pa_cons (pv 1) pa_nil)))
      (pss_one (ps_set (i := 1) sc_unseen_path.nd rfl (Or.inl rfl) (pe_call (ok_made_of T) (hr.mono (by decide)) rfl T.g_made_of T.F_made_of.kp T.b_made_of .nil pass0 (pa_cons (pv 0) (pa_cons (pv 1) pa_nil))))))))
      (pss_one (ps_ret (pv 3))))), ?_⟩
    refine ⟨by show 0 ≤ sizeLine; decide, fun L hL => ?_⟩
    generalize hf : made b t m = f at *
    refine while_by (fun σ H2 => ∃ j : Nat, Way f (· ∈ S) n j ∧ H2 L = some (.lst ((orbL f n j).map V.int)) ∧ H2 ds = some (.dK ((S ++ orbL f n j).map entK)) ∧ (∀ c o, H c = some o → c ≠ ds → H2 c = some o) ∧ σ = [some (.ref p), some (.int (orb f n j)), some (.ref ds), some (.ref L)])
      (fun σ H2 => match H2 L with | some (.lst xs) => 200000 - xs.length | _ => 0) ?_ ?_ ?_
    · exact ⟨0, ⟨fun j hj => absurd hj (Nat.not_lt_zero _), fun i j _ hj => absurd hj (Nat.not_lt_zero _)⟩, upd_same, by rw [upd_ne (ne_of_none hs hL)]; exact hs.trans (by rw [show orbL f n 0 = [] from rfl, List.append_nil]), fun c o g _ => same_upd hL _ _ g, rfl⟩
    · rintro σ H2 ⟨j, hw, hL2, hs2, S2, rfl⟩
      have jl : j ≤ 102600 := way_len B1 B2 m1 m2 hn (hf ▸ hw)
      have pd : p ≠ ds := ne_of e hs (by intro z; cases z)
      have Ld : L ≠ ds := (ne_of_none hs hL).symm
      have ol := orbL_len f n j
      refine ⟨_, rfl, _, rfl, ds, _, rfl, DGet.k (k := Sum.inl (orb f n j)) hs2, _, rfl, ?_⟩
      rw [entK_get]
      by_cases mem : orb f n j ∈ S ++ orbL f n j
      · rw [decide_eq_true mem]
        refine iteF ⟨_, rfl, k j L H2 hw ?_ jl hL hL2 hs2 S2⟩
        rcases List.mem_append.mp mem with q | q
        · exact .inl q
        · obtain ⟨i, hi, ei⟩ := (orbL_mem f).mp q
          exact .inr ⟨i, hi, ei⟩
      · rw [decide_eq_false mem]
        have nS : ¬ orb f n j ∈ S := fun q => mem (List.mem_append_left _ q)
        have nL : ∀ i, i < j → orb f n i ≠ orb f n j := fun i hi q => mem (List.mem_append_right _ ((orbL_mem f).mpr ⟨i, hi, q⟩))
        have hL3 : (upd H2 ds (.dK (putK ((S ++ orbL f n j).map entK) (Sum.inl (orb f n j)) (.bl true)))) L = some (.lst ((orbL f n j).map V.int)) := by
          rw [upd_ne Ld]
          exact hL2
        refine iteT ⟨_, rfl, _, rfl, ds, _, rfl, DPut.k (k := Sum.inl (orb f n j)) hs2 (by rw [List.length_map, List.length_append, ol]; unfold sizeLine; omega), ?_⟩
        refine ⟨_, rfl, .inl ⟨rfl, _, SqL.of hL3⟩, _, rfl, L, _, _, rfl, rfl, hL3, by rw [List.length_map, ol]; unfold sizeLine; omega, ?_⟩
        have hp4 : ∀ fl2, H p = some (.ins T.C_Trick dx fl2) → (upd (upd H2 ds (.dK (putK ((S ++ orbL f n j).map entK) (Sum.inl (orb f n j)) (.bl true)))) L (.lst ((orbL f n j).map V.int ++ [.int (orb f n j)]))) p = some (.ins T.C_Trick dx fl2) := fun fl2 e => by
          rw [upd_ne (ne_of_none e hL), upd_ne pd]
          exact S2 _ _ e pd
        refine ⟨_, rfl, _, rfl, p, b, t, m, _, rfl, ⟨⟨dx, hp4 _ e⟩, b1, b2, t1, t2, m1, m2⟩, ?_⟩
        rw [hf]
        refine ⟨⟨j + 1, ⟨fun i hi => ?_, fun i i2 h1 h2 => ?_⟩, ?_, ?_, fun c o g n2 => ?_, rfl⟩, ?_⟩
        · rcases Nat.lt_or_ge i j with z | z
          · exact hw.out i z
          · rw [show i = j by omega]
            exact nS
        · rcases Nat.lt_or_ge i2 j with z | z
          · exact hw.inj i i2 h1 z
          · rw [show i2 = j by omega]
            exact nL i (by omega)
        · rw [upd_same, orbL_succ, List.map_append]
          rfl
        · rw [upd_ne Ld.symm, upd_same, putK_new _ (entK_none mem), orbL_succ, ← List.append_assoc, List.map_append (l₂ := [orb f n j])]
          rfl
        · rw [upd_ne (ne_of_none g hL), upd_ne n2]
          exact S2 _ _ g n2
        · rw [hL2, upd_same]
          show 200000 - ((orbL f n j).map V.int ++ [V.int (orb f n j)]).length < 200000 - ((orbL f n j).map V.int).length
          rw [List.length_append, List.length_map, ol, List.length_singleton]
          omega
    · exact m_dnot

/-! ### the ring at the end of a path -/
def spRingEnd (T : Tx K mg) : Sp := fun vs H Q _ => ∃ (p L : Addr) (b t m n : Int) (k i : Nat), vs = [.ref p, .ref L] ∧ TrickAt T H p b t m ∧ H L = some (.lst ((orbL (made b t m) n k).map V.int)) ∧ k ≤ 200000 ∧ i < k ∧ orb (made b t m) n i = orb (made b t m) n k ∧ (∀ i j, i < j → j < k → orb (made b t m) n i ≠ orb (made b t m) n j) ∧
  ∀ (r : List Int) (s : Nat) (q : Addr) (H' : Hp), IsRing (made b t m) r → r = orbL (made b t m) (orb (made b t m) n (i + s)) (k - i) → Same H H' → H q = none → H' q = some (.tup (r.map V.int)) → Q (.ref q) H'
theorem ok_ring_at_end (T : Tx K mg) : FnOk P w K mg base CX0 lv_ring_at_end T.a_ring_at_end T.d_ring_at_end ["trick", "path"] (spRingEnd T) := by
  refine T.F_ring_at_end.ok sc_ring_at_end (fun vs H Q E h => ?_) (fun cdv A outer s H vs Q E hr h => ?_)
  · obtain ⟨p, L, b, t, m, n, k, i, rfl, _⟩ := h
    rfl
  · obtain ⟨p, L, b, t, m, n, k, i, rfl, a, hL, k2, hi, ei, inj, kk⟩ := h
    obtain ⟨⟨dx, e⟩, b1, b2, t1, t2, m1, m2⟩ := id a
    refine ⟨_, (pss_cons (ps_set (i := 2) sc_ring_at_end.nd rfl (Or.inl rfl) (pe_slice sl_list (pv 1) (po_some (pe_bm PySem.F.plainAttrs_list PySem.F.slot_list_index PySem.F.type_list_index mt_index (pv 1) (pa_cons (pe_call (ok_made_of T) (hr.mono (by decide)) rfl T.g_made_of T.F_made_of.kp T.b_made_of .nil pass0 (pa_cons (pv 0) (pa_cons (pe_ix ix_list (pv 1) (pe_un un_neg pe_int) (fun _ _ => rfl)) pa_nil))) pa_nil))) po_none))
      (pss_cons (ps_set (i := 3) sc_ring_at_end.nd rfl (Or.inl rfl) (pe_bm PySem.F.plainAttrs_list PySem.F.slot_list_index PySem.F.type_list_index mt_index (pv 2) (pa_cons (pe_callB (cr_min rfl) (by rfl) T.n_min (by decide +kernel) (pa_cons (pv 2) pa_nil)) pa_nil)))
      (pss_one (ps_ret (pe_callTy call_tuple_of (by rfl) T.n_tuple (by decide +kernel) (pa_cons (pe_op op_cat (pe_slice sl_list (pv 2) (po_some (pv 3)) po_none) (pe_slice sl_list (pv 2) po_none (po_some (pv 3)))) pa_nil)))))), ?_⟩
    obtain ⟨k', rfl⟩ : ∃ k', k = k' + 1 := ⟨k - 1, by omega⟩
    generalize hf : made b t m = f at *
    have hback : Back f (orb f n i) (k' + 1 - i) := Way.back f (S := fun _ => False) ⟨fun _ _ z => z, inj⟩ hi ei
    have hlast : atI ((orbL f n (k' + 1)).map V.int) (-1) = some (V.int (orb f n k')) := by
      rw [orbL_succ, List.map_append]
      exact atI_last _ _
    refine ⟨_, rfl, _, rfl, .inl ⟨rfl, _, SqL.of hL⟩, _, rfl, _, rfl, _, rfl, L, _, _, _, rfl, rfl, SqL.of hL, hlast, p, b, t, m, _, rfl, a, ?_⟩
    rw [hf, show f (orb f n k') = orb f n i from ei.symm]
    refine ⟨L, _, .int (orb f n i), i, .int (orb f n i), rfl, rfl, SqL.of hL, rfl, flat_ints _, by rw [List.getElem?_map, orbL_get f hi]; rfl, by simp [eqV], fun j z hj hz => ?_, _, rfl, L, _, rfl, SqL.of hL, fun x hx => ?_⟩
    · rw [List.getElem?_map, orbL_get f (by omega)] at hz
      cases hz
      simpa [eqV] using inj j i hj hi
    rw [cutV_drop, ← List.map_drop, show k' + 1 = i + (k' + 1 - i) by omega, orbL_drop]
    generalize hy : orb f n i = y at *
    generalize hl : k' + 1 - i = l at *
    have hX : (upd H x (.lst ((orbL f y l).map V.int))) x = some (.lst ((orbL f y l).map V.int)) := upd_same
    have SX := same_upd (o := .lst ((orbL f y l).map V.int)) hx
    generalize upd H x (HO.lst ((orbL f y l).map V.int)) = H2 at hX SX ⊢
    refine ⟨_, rfl, .inl ⟨rfl, _, SqL.of hX⟩, _, rfl, x, _, rfl, SqL.of hX, by rw [orbL_len]; exact hback.pos, fun mn hmn hle => ?_⟩
    obtain ⟨s, hs, es⟩ := (orbL_mem f).mp hmn
    refine ⟨x, _, .int mn, s, .int mn, rfl, rfl, SqL.of hX, rfl, flat_ints _, by rw [List.getElem?_map, orbL_get f hs, es]; rfl, by simp [eqV], fun j z hj hz => ?_, ?_⟩
    · rw [List.getElem?_map, orbL_get f (by omega)] at hz
      cases hz
      rw [← es]
      simpa [eqV] using hback.inj f hj hs
    refine ⟨_, rfl, _, rfl, _, rfl, x, _, rfl, SqL.of hX, fun q1 hq1 => ?_⟩
    rw [cutV_drop, ← List.map_drop]
    have S1 := same_upd (o := .lst (((orbL f y l).drop s).map V.int)) hq1
    have hX1 := S1 _ _ hX
    refine ⟨_, rfl, _, rfl, _, rfl, x, _, rfl, SqL.of hX1, fun q2 hq2 => ?_⟩
    rw [cutV_take, ← List.map_take]
    have S2 := same_upd (o := .lst (((orbL f y l).take s).map V.int)) hq2
    refine ⟨q1, q2, _, _, rfl, rfl, S2 _ _ upd_same, upd_same, ?_, fun q3 hq3 => ?_⟩
    · rw [List.length_map, List.length_map, List.length_drop, List.length_take, orbL_len]
      unfold sizeLine
      omega
    rw [← List.map_append, hback.rot f (Nat.le_of_lt hs)]
    refine ⟨q3, _, rfl, .inl ⟨SqL.of upd_same, fun q4 hq4 => ?_⟩⟩
    have ey : orb f y s = orb f n (i + s) := by rw [orb_add, hy]
    have S3 := same_upd (o := .lst ((orbL f (orb f y s) l).map V.int)) hq3
    have S4 := same_upd (o := .tup ((orbL f (orb f y s) l).map V.int)) hq4
    have SA := (SX.trans (S1.trans (S2.trans (S3.trans S4))))
    refine kk (orbL f (orb f y s) l) s q4 _ ⟨orb f y s, l, hback.on f s, fun j => ?_, rfl⟩ (by rw [ey]) SA ?_ upd_same
    · rw [es]
      refine hle _ ((orbL_mem f).mpr ⟨(s + j) % l, Nat.mod_lt _ hback.pos, ?_⟩)
      rw [back_mod f hback.back, orb_add, es]
    · cases z : H q4 with
      | none => rfl
      | some o => rw [SX _ _ z |> S1 _ _ |> S2 _ _ |> S3 _ _] at hq4; cases hq4

/-! ### where a number comes to -/
/-- the way of n: k rounds until the i-th comes again -/
structure Comes (f : Int → Int) (n : Int) (k i : Nat) : Prop where
  lt : i < k
  back : orb f n i = orb f n k
  inj : ∀ i j, i < j → j < k → orb f n i ≠ orb f n j
theorem Comes.of {f : Int → Int} {n : Int} {k : Nat} (h : Way f (· ∈ ([] : List Int)) n k) (e : Way.Ends f (· ∈ ([] : List Int)) n k) : ∃ i, Comes f n k i := by
  rcases e with z | ⟨i, hi, e⟩
  · exact nomatch z
  · exact ⟨i, hi, e, h.inj⟩
theorem Comes.way {f : Int → Int} {n : Int} {k i : Nat} (h : Comes f n k i) : Way f (fun _ => False) n k := ⟨fun _ _ z => z, h.inj⟩
theorem Comes.ring {f : Int → Int} {n : Int} {k i : Nat} (h : Comes f n k i) : Back f (orb f n i) (k - i) := h.way.back f h.lt h.back
theorem Comes.uniq {f : Int → Int} {n : Int} {k i k2 i2 : Nat} (h : Comes f n k i) (g : Comes f n k2 i2) : k = k2 ∧ i = i2 := by
  have e : k = k2 := way_uniq f h.way (.inr ⟨i, h.lt, h.back⟩) g.way (.inr ⟨i2, g.lt, g.back⟩)
  subst e
  refine ⟨rfl, ?_⟩
  rcases Nat.lt_trichotomy i i2 with z | z | z
  · exact absurd (h.back.trans g.back.symm) (h.inj i i2 z g.lt)
  · exact z
  · exact absurd (g.back.trans h.back.symm) (h.inj i2 i z h.lt)
theorem Comes.len {b t m : Int} (hB : 2 ≤ blockOf b t) (hB2 : blockOf b t ≤ 256) (m1 : -100 ≤ m) (m2 : m ≤ 100) {n : Int} (hn : ab n ≤ 10 ^ 40) {k i : Nat} (h : Comes (made b t m) n k i) : k ≤ 102600 := way_len hB hB2 m1 m2 hn h.way
/-- r is the ring in which n ends -/
def RingOf (f : Int → Int) (n : Int) (k i : Nat) (r : List Int) : Prop := IsRing f r ∧ ∃ s, r = orbL f (orb f n (i + s)) (k - i)
theorem ring_head {f : Int → Int} {x y : Int} {L M : Nat} (h : Back f x L) (g : Back f y M) (lx : ∀ j, x ≤ orb f x j) (ly : ∀ j, y ≤ orb f y j) (on : ∃ s, orb f x s = y) : orbL f x L = orbL f y M := by
  obtain ⟨s, rfl⟩ := on
  have g2 := h.on f s
  have e := Back.uniq f g2 g
  subst e
  obtain ⟨u, hu⟩ : ∃ u, orb f (orb f x s) u = x := by
    refine ⟨L - s % L, ?_⟩
    rw [← back_mod f h.back s, ← orb_add, show s % L + (L - s % L) = L by have := Nat.mod_lt s h.pos; omega, h.back]
  have a := ly u
  rw [hu] at a
  have c := lx s
  have e2 : orb f x s = x := by omega
  rw [e2]
theorem RingOf.uniq {f : Int → Int} {n : Int} {k i : Nat} (hc : Comes f n k i) {r r2 : List Int} (h : RingOf f n k i r) (g : RingOf f n k i r2) : r = r2 := by
  obtain ⟨⟨x, L, bx, lx, rfl⟩, s, e⟩ := h
  obtain ⟨⟨y, M, by_, ly, rfl⟩, s2, e2⟩ := g
  have l1 := congrArg List.length e
  have l2 := congrArg List.length e2
  rw [orbL_len, orbL_len] at l1 l2
  have p := hc.lt
  have x0 : x = orb f n (i + s) := by
    have := congrArg (fun l => l[0]?) e
    rw [orbL_get f bx.pos, orbL_get f (by omega)] at this
    exact Option.some.inj this
  have y0 : y = orb f n (i + s2) := by
    have := congrArg (fun l => l[0]?) e2
    rw [orbL_get f by_.pos, orbL_get f (by omega)] at this
    exact Option.some.inj this
  refine ring_head bx by_ lx ly ?_
  have rb := hc.ring
  rw [x0, y0]
  refine ⟨(k - i) * s + s2 - s, ?_⟩
  have hs : s ≤ (k - i) * s := Nat.le_mul_of_pos_left s (by omega)
  rw [← orb_add, show i + s + ((k - i) * s + s2 - s) = i + ((k - i) * s + s2) by omega, orb_add, orb_add f n i s2]
  rw [orb_add, Nat.mul_comm, back_mul f rb.back]
/-- of a number of a ring -/
theorem ring_self {f : Int → Int} {r : List Int} (h : IsRing f r) {x : Int} (hx : x ∈ r) : Comes f x r.length 0 ∧ RingOf f x r.length 0 r := by
  obtain ⟨y, L, b, l, rfl⟩ := h
  obtain ⟨j, hj, rfl⟩ := (orbL_mem f).mp hx
  have bj := b.on f j
  rw [orbL_len]
  refine ⟨⟨b.pos, bj.back.symm, fun a c h1 h2 => bj.inj f h1 h2⟩, ⟨y, L, b, l, rfl⟩, L - j, ?_⟩
  rw [Nat.zero_add, Nat.sub_zero, ← orb_add, show j + (L - j) = L by omega, b.back]
theorem IsRing.ne {f : Int → Int} {r : List Int} (h : IsRing f r) : r ≠ [] := by
  obtain ⟨y, L, b, l, rfl⟩ := h
  intro z
  have := congrArg List.length z
  rw [orbL_len] at this
  have := b.pos
  simp at *
  omega

/-! ### sorted(a list of tuples of ints, of any lengths but 0) -/
end
end Rt
namespace L2
open PySem PySem.Spec PyProof.Rows
def lexI : List Int → List Int → Bool
  | [], [] => false
  | [], _ :: _ => true
  | _ :: _, [] => false
  | x :: r, y :: t => decide (x < y) || (!decide (y < x) && lexI r t)
theorem lexI_lt : ∀ r t : List Int, lexLt itemOrd (r.map Sum.inl) (t.map Sum.inl) = lexI r t
  | [], [] => rfl
  | [], _ :: _ => rfl
  | _ :: _, [] => rfl
  | x :: r, y :: t => by
    show (itemOrd.blt (Sum.inl x) (Sum.inl y) || (!itemOrd.blt (Sum.inl y) (Sum.inl x) && lexLt itemOrd (r.map Sum.inl) (t.map Sum.inl))) = _
    rw [lexI_lt r t]
    rfl
theorem lexI_total {r t : List Int} (h1 : lexI r t = false) (h2 : lexI t r = false) : r = t := by
  rw [← lexI_lt] at h1 h2
  have := lex_total (O := itemOrd) _ _ h1 h2
  exact (List.map_inj_right (fun a b e => by injection e)).mp this
theorem lexI_trans {r t u : List Int} (h1 : lexI t r = false) (h2 : lexI u t = false) : lexI u r = false := by
  rw [← lexI_lt] at h1 h2 ⊢
  cases e : lexLt itemOrd (u.map Sum.inl) (r.map Sum.inl) with
  | false => rfl
  | true =>
    rcases lex_negTrans (O := itemOrd) _ (t.map Sum.inl) _ e with z | z
    · rw [h2] at z; cases z
    · rw [h1] at z; cases z
theorem lexI_irrefl (r : List Int) : lexI r r = false := by
  rw [← lexI_lt]
  exact lex_irrefl _
theorem tupItems_ints {i : Nat} : ∀ {ns : List Int} {us : List Value}, Vals (ns.map V.int) us → tupItems (fun _ => false) i us = some (ns.map Sum.inl) := by
  intro ns
  induction ns generalizing i with
  | nil => intro us h; cases h; rfl
  | cons n ns ih =>
    intro us h
    cases h with
    | cons r t =>
      obtain ⟨tk, rfl⟩ := r
      show (if (false : Bool) = true then none else (tupItems (fun _ => false) (i + 1) _).map (Sum.inl n :: ·)) = _
      rw [if_neg Bool.false_ne_true, ih t]
      rfl
def rSortTG (K : PySem.W.Frag) : List V → Hp → VK → Prop := fun vs H Q => ∃ (a : Addr) (ps : List Addr) (c : Addr → List Int), vs = [.ref a] ∧ SqL K H a (ps.map V.ref) ∧ (∀ p ∈ ps, H p = some (.tup ((c p).map V.int)) ∧ c p ≠ []) ∧
  ∀ (qs : List Addr) (D : Addr), qs.Perm ps → qs.Pairwise (fun x y => lexI (c y) (c x) = false) → H D = none → Q (.ref D) (upd H D (.lst (qs.map V.ref)))
def refOf0 : Value → Addr
  | .ref a => a
  | _ => 0
theorem vals_refs0 : ∀ {ps : List Addr} {us : List Value}, Vals (ps.map V.ref) us → us = ps.map Value.ref
  | [], _, h => by cases h; rfl
  | p :: ps, _, h => by
    cases h with
    | cons r t =>
      cases r
      rw [vals_refs0 t]
      rfl
theorem vals_of_refs0 : ∀ ps : List Addr, Vals (ps.map V.ref) (ps.map Value.ref)
  | [] => .nil
  | p :: ps => .cons rfl (vals_of_refs0 ps)
section
variable {X : Cx}
/-- tuples of ints in the heap, as sort keys -/
theorem tups_at {pins : List (Addr × Obj)} {σ : St} {H : Hp} {s : Shared} {ps : List Addr} {c : Addr → List Int} (I : Inv X pins σ H s) (hc : ∀ p ∈ ps, H p = some (.tup ((c p).map V.int)) ∧ c p ≠ []) :
    (∀ p ∈ ps, PyProof.Rows.G.tupKeyC s.heap (fun _ => false) (.ref p) = some ((c p).map Sum.inl)) ∧ ∃ fs, TupsOf s.heap (fun _ => false) (ps.map Value.ref) fs := by
  have obj : ∀ p ∈ ps, ∃ o xs n, s.heap.get? p = some o ∧ o.cls = .type "tuple" ∧ o.data = .seq xs n ∧ Vals ((c p).map V.int) xs.toList := fun p hp => by
    obtain ⟨_, us, ru, o, ho, hcl, n, hd⟩ := I.hok _ _ (hc p hp).1
    exact ⟨o, us.toArray, n, ho, hcl, hd, by simpa using ru⟩
  have key : ∀ p ∈ ps, PyProof.Rows.G.tupKeyC s.heap (fun _ => false) (.ref p) = some ((c p).map Sum.inl) := fun p hp => by
    obtain ⟨o, xs, n, ho, hcl, hd, hv⟩ := obj p hp
    unfold PyProof.Rows.G.tupKeyC
    rw [if_pos (by simp [PyProof.Rows.G.isTupObj, ho, hcl])]
    simp only [tupKey, ho, hd]
    exact tupItems_ints hv
  have tof : ∀ l : List Addr, (∀ p ∈ l, p ∈ ps) → ∃ fs, TupsOf s.heap (fun _ => false) (l.map Value.ref) fs := by
    intro l
    induction l with
    | nil => exact fun _ => ⟨[], .nil⟩
    | cons p l ih =>
      intro hl2
      obtain ⟨fs, hfs⟩ := ih fun x hx => hl2 x (List.mem_cons_of_mem _ hx)
      obtain ⟨o, xs, n, ho, hcl, hd, hv⟩ := obj p (hl2 p List.mem_cons_self)
      have ne := (hc p (hl2 p List.mem_cons_self)).2
      generalize c p = cp at hv ne
      cases cp with
      | nil => exact absurd rfl ne
      | cons x r =>
        generalize hx : xs.toList = xl at hv
        cases hv with
        | cons r1 t1 =>
          obtain ⟨tk, rfl⟩ := r1
          refine ⟨_ :: fs, .cons ⟨p, o, xs, n, rfl, ho, hcl, hd, ?_, fun _ => ⟨x, tk, rfl⟩, fun z => nomatch z⟩ hfs⟩
          rw [← Array.getElem?_toList, hx]
          rfl
  exact ⟨key, tof ps fun _ h => h⟩
/-- what the sort leaves -/
theorem out_tups {s : Shared} {st : SortSt} {ps : List Addr} {c : Addr → List Int} (key : ∀ p ∈ ps, PyProof.Rows.G.tupKeyC s.heap (fun _ => false) (.ref p) = some ((c p).map Sum.inl)) (pm : (arrOf st).Perm (pairsOf (ps.map Value.ref)))
    (so : SortedToK (PyProof.Rows.G.tupKindC s.heap (fun _ => false)) (arrOf st) (pairsOf (ps.map Value.ref)).size) :
    ((arrOf st).map (·.2)).toList = ((arrOf st).toList.map fun e => refOf0 e.1).map Value.ref ∧ ((arrOf st).toList.map fun e => refOf0 e.1).Perm ps ∧ ((arrOf st).toList.map fun e => refOf0 e.1).Pairwise (fun x y => lexI (c y) (c x) = false) := by
  have pml := pm.toList
  rw [pairsOf_toList] at pml
  generalize hA : arrOf st = A at *
  have mem : ∀ e ∈ A.toList, e.1 = e.2 ∧ ∃ p ∈ ps, e.1 = Value.ref p := fun e he => by
    obtain ⟨e1, e2⟩ := mem_zip_self (pml.mem_iff.mp he)
    obtain ⟨p, hp, e3⟩ := List.mem_map.mp e2
    exact ⟨e1, p, hp, e3.symm⟩
  have outl : (A.map (·.2)).toList = (A.toList.map fun e => refOf0 e.1).map Value.ref := by
    rw [Array.toList_map, List.map_map]
    refine List.map_congr_left fun e he => ?_
    obtain ⟨e1, p, _, e2⟩ := mem e he
    show e.2 = Value.ref (refOf0 e.1)
    rw [← e1, e2]
    rfl
  have perm : (A.toList.map fun e => refOf0 e.1).Perm ps := by
    have z := pml.map fun e => refOf0 e.1
    rw [show (((ps.map Value.ref).zip (ps.map Value.ref)).map fun e => refOf0 e.1) = ps from by
      have : ∀ l : List Addr, (((l.map Value.ref).zip (l.map Value.ref)).map fun e => refOf0 e.1) = l := by
        intro l
        induction l with
        | nil => rfl
        | cons x l ih => exact congrArg (x :: ·) ih
      exact this ps] at z
    exact z
  have sz : A.size = (pairsOf (ps.map Value.ref)).size := pm.size_eq
  have sorted : (A.toList.map fun e => refOf0 e.1).Pairwise (fun x y => lexI (c y) (c x) = false) := by
    rw [List.pairwise_map, List.pairwise_iff_getElem]
    intro i j hi hj hij
    have h1 := so i j (Nat.le_of_lt hij) (by rw [← sz]; rwa [Array.length_toList] at hj)
    have kk : ∀ i (hi : i < A.toList.length), KK (PyProof.Rows.G.tupKindC s.heap (fun _ => false)) A i = (c (refOf0 A.toList[i].1)).map Sum.inl := fun i hi => by
      obtain ⟨_, p, hp, e2⟩ := mem _ (List.getElem_mem hi)
      unfold KK
      rw [← Array.getElem?_toList, List.getElem?_eq_getElem hi]
      show (PyProof.Rows.G.tupKeyC s.heap (fun _ => false) A.toList[i].1).getD [] = _
      rw [e2, key p hp]
      rfl
    rw [kk i hi, kk j hj] at h1
    rw [← lexI_lt]
    exact h1
  exact ⟨outl, perm, sorted⟩
theorem cr_sortTG : CallR X (.builtin "sorted") (rSortTG X.K) := by
  intro pins s σ H vs us Q I r h
  obtain ⟨a, ps, c, rfl, hs, hc, q⟩ := h
  obtain ⟨its, rv, hl, hz⟩ := I.list hs
  have eits := vals_refs0 rv
  subst eits
  rw [Vals.ref1 r]
  obtain ⟨key, fs, hfs⟩ := tups_at I hc
  refine PyProof.Rows.G.sorted_tups (shape := fun _ => false) (vs := ps.map Value.ref) (fs := fs) hl.isList hfs (fun v hv => ?_) (by rw [List.length_map] at hz ⊢; exact hz) fun st pm so _ => ?_
  · obtain ⟨p, hp, rfl⟩ := List.mem_map.mp hv
    exact ⟨_, key p hp⟩
  · obtain ⟨outl, perm, sorted⟩ := out_tups key pm so
    generalize hA : arrOf st = A at *
    obtain ⟨ep, he⟩ := PyProof.Rows.sortedAll_at s.heap (ps.map Value.ref) (A.map (·.2))
    refine ⟨.ref _, upd H (s.heap.objs.size + 1) (.lst ((A.toList.map fun e => refOf0 e.1).map V.ref)), I.laid (t' := s.toks) (fun _ _ => PyProof.Rows.sortedAll_old) (Nat.le_succ _) ⟨?_, (A.toList.map fun e => refOf0 e.1).map Value.ref, ep, vals_of_refs0 _, ?_⟩, rfl, q _ _ perm sorted (I.hok.fresh (Nat.le_succ _))⟩
    · rw [List.length_map, perm.length_eq]
      rwa [List.length_map] at hz
    · rw [← outl]
      exact he
end
end L2
namespace Rt
open PySem L2 PySem.Spec PyProof.Rows
section
variable {P : Program} {w : World} {K : PySem.W.Frag} {mg : Str → Option Value} {base : Heap}

/-! ### sorted(a dict whose keys are tuples of ints, of any lengths but 0) -/
end
end Rt
namespace L2
open PySem PySem.Spec PyProof.Rows
def keyI (r : List Int) : List Key := r.map Sum.inl
theorem keyI_kV (r : List Int) : (keyI r).map kV = r.map V.int := by
  unfold keyI
  rw [List.map_map]
  rfl
theorem keyI_inj {r t : List Int} (h : keyI r = keyI t) : r = t := (List.map_inj_right (fun a b e => by injection e)).mp h
def rSortDT : List V → Hp → VK → Prop := fun vs H Q => ∃ (a : Addr) (kvs : List (List Key × V)) (rs : List (List Int)), vs = [.ref a] ∧ H a = some (.dT kvs) ∧ kvs.map (fun x => x.1) = rs.map keyI ∧ (∀ r ∈ rs, r ≠ []) ∧
  ∀ (qs : List Addr) (c : Addr → List Int) (D : Addr), (qs.map c).Perm rs → qs.Pairwise (fun x y => lexI (c y) (c x) = false) → (∀ p ∈ qs, H p = some (.tup ((c p).map V.int))) → H D = none → Q (.ref D) (upd H D (.lst (qs.map V.ref)))
def intOfV : V → Int
  | .int i => i
  | _ => 0
def contV (H : Hp) (p : Addr) : List Int := match H p with
  | some (.tup xs) => xs.map intOfV
  | _ => []
theorem contV_at {H : Hp} {p : Addr} {r : List Int} (h : H p = some (.tup (r.map V.int))) : contV H p = r := by
  unfold contV
  rw [h]
  show (r.map V.int).map intOfV = r
  rw [List.map_map]
  exact List.map_id _
section
variable {X : Cx}
theorem cr_sortDT (hc : X.calm = true) : CallR X (.builtin "sorted") rSortDT := by
  intro pins s σ H vs us Q I r h
  obtain ⟨a, kvs, rs, rfl, ha, ek, hne, q⟩ := h
  rw [Vals.ref1 r]
  obtain ⟨z, nm, ks, pr, o, es, ep, ho, hx, hdt, he, hn⟩ := (show ObjOk X.prog X.w H s.heap a (.dT kvs) from I.hok a _ ha)
  have l1 : es.size = ks.length := size_of_entries he
  have l2 : kvs.length = ks.length := Paired.length pr
  have l3 : kvs.length = rs.length := by
    have := congrArg List.length ek
    rwa [List.length_map, List.length_map] at this
  obtain ⟨ps, hps⟩ : ∃ ps, ps = ks.map fun x => x.2.1 := ⟨_, rfl⟩
  have lp : ps.length = ks.length := by rw [hps, List.length_map]
  have at_ : ∀ (i : Nat) (p : Addr), ps[i]? = some p → ∃ r : List Int, rs[i]? = some r ∧ H p = some (.tup (r.map V.int)) := fun i p hp => by
    rw [hps, List.getElem?_map] at hp
    obtain ⟨x, hx2, rfl⟩ := Option.map_eq_some_iff.mp hp
    obtain ⟨y, hy, e1, e2, _⟩ := DX.pget pr hx2
    have e3 : (kvs.map fun x => x.1)[i]? = some y.1 := by rw [List.getElem?_map, hy]; rfl
    rw [ek, List.getElem?_map] at e3
    obtain ⟨r, hr, e4⟩ := Option.map_eq_some_iff.mp e3
    refine ⟨r, hr, ?_⟩
    rw [← keyI_kV, e4]
    exact e2
  have cps : ps.map (contV H) = rs := by
    apply List.ext_getElem?
    intro i
    rw [List.getElem?_map]
    cases hp : ps[i]? with
    | none =>
      rw [List.getElem?_eq_none_iff] at hp
      rw [List.getElem?_eq_none (by omega)]
      rfl
    | some p =>
      obtain ⟨r, hr, e⟩ := at_ i p hp
      rw [hr]
      exact congrArg some (contV_at e)
  have hcp : ∀ p ∈ ps, H p = some (.tup ((contV H p).map V.int)) ∧ contV H p ≠ [] := fun p hp => by
    obtain ⟨i, hi⟩ := List.mem_iff_getElem?.mp hp
    obtain ⟨r, hr, e⟩ := at_ i p hi
    rw [contV_at e]
    exact ⟨e, hne r (List.mem_of_getElem? hr)⟩
  refine Calls.call_function_entry kind_sorted plain_sorted entry_sorted (args_sorted1 _) (?_ : wpAny _ _ (Builtin.«sorted» _) _ _ _)
  unfold Builtin.«sorted»
  refine wpAny_bind (m := checkCount "sorted" 1 1 _) (wpAny_pure (wpAny_bind (PySem.W.kdu_collect (A := X.A.in1) (kdl_raw nm hx hdt) (I.ok.hd hc) ho (by omega) fun h1 tk acc kp it => ?_)))
  have ea : acc.toList = ps.map Value.ref := by
    have hl : acc.toList.length = ks.length := by rw [Array.length_toList, it.1]; exact l1
    apply List.ext_getElem?
    intro j
    rw [hps, List.getElem?_map, List.getElem?_map]
    cases hj : acc.toList[j]? with
    | none =>
      rw [List.getElem?_eq_none_iff] at hj
      rw [List.getElem?_eq_none (by omega)]
      rfl
    | some v =>
      obtain ⟨en, hen, hv⟩ := it.2 j v (by rw [← Array.getElem?_toList]; exact hj)
      have qe := entry_at he j
      rw [hen] at qe
      cases hb : ks[j]? with
      | none =>
        rw [hb] at qe
        cases qe
      | some b =>
        rw [hb] at qe
        have e2 := Option.some.inj qe
        rw [hv, e2]
        rfl
  rw [ea]
  have small : (ps.map Value.ref).length ≤ sizeLine := by rw [List.length_map]; omega
  refine wpAny_bind (wpAny_newList ?_ small)
  have atL : (h1.push (seqObj "list" (ps.map Value.ref).toArray 0)).get? h1.objs.size = some (seqObj "list" (ps.map Value.ref).toArray 0) := Heap.get?_push_size _ rfl
  have I1 : Inv X pins σ H { s with heap := h1.push (seqObj "list" (ps.map Value.ref).toArray 0), toks := tk } := I.kept (t' := tk) fun b o e => Heap.get?_push_of_some _ (kp b o e)
  obtain ⟨tk1, fs, htof⟩ := tups_at I1 (c := contV H) hcp
  refine wpAny_bind (wpAny_holding (wpAny_call_entry slot_list_sort ⟨_, atL, rfl⟩ entry_list_sort (PyProof.Rows.G.list_sort_tups (shape := fun _ => false) (fs := fs) atL htof (fun v hv => ?_) small fun st pm so _ => ⟨_, rfl, ?_⟩) (args_list_sort _)))
  · obtain ⟨p, hp, rfl⟩ := List.mem_map.mp hv
    exact ⟨_, tk1 p hp⟩
  · obtain ⟨outl, perm, sorted⟩ := out_tups tk1 pm so
    generalize hA : arrOf st = A at *
    obtain ⟨ep2, he2⟩ := sortedHeap_at (vs := ps.map Value.ref) (out := A.map (·.2)) atL
    have I0 : Inv X pins σ H { s with heap := h1, toks := tk } := I.kept (t' := tk) kp
    have fr : H h1.objs.size = none := I0.hok.fresh (Nat.le_refl _)
    have kp2 : ∀ b o, h1.get? b = some o → (sortedHeap (h1.push (seqObj "list" (ps.map Value.ref).toArray 0)) h1.objs.size (ps.map Value.ref) (A.map (·.2))).get? b = some o := fun b o e => by
      have lt := Heap.lt_size e
      rw [sortedHeap_old (Nat.ne_of_lt lt) (by rw [size_push']; exact Nat.lt_succ_of_lt lt)]
      exact Heap.get?_push_of_some _ e
    have cq : ∀ p ∈ (A.toList.map fun e => refOf0 e.1), H p = some (.tup ((contV H p).map V.int)) := fun p hp => (hcp p (perm.mem_iff.mp hp)).1
    have pr2 : ((A.toList.map fun e => refOf0 e.1).map (contV H)).Perm rs := by
      rw [← cps]
      exact perm.map _
    refine wpAny_pure ⟨_, rfl, .ref h1.objs.size, upd H h1.objs.size (.lst ((A.toList.map fun e => refOf0 e.1).map V.ref)), I0.laid (t' := tk) kp2 (Nat.le_refl _) ⟨?_, (A.toList.map fun e => refOf0 e.1).map Value.ref, ep2, vals_of_refs0 _, ?_⟩, rfl, q _ _ _ pr2 sorted cq fr⟩
    · rw [List.length_map, perm.length_eq]
      omega
    · rw [← outl]
      exact he2
end
end L2
namespace Rt
open PySem L2 PySem.Spec PyProof.Rows
section
variable {P : Program} {w : World} {K : PySem.W.Frag} {mg : Str → Option Value} {base : Heap}

/-! ### all rings -/
def RsAt (H : Hp) : List Addr → List (List Int) → Prop
  | [], [] => True
  | p :: ps, r :: rs => H p = some (.tup (r.map V.int)) ∧ RsAt H ps rs
  | _, _ => False
theorem RsAt.of {H H2 : Hp} (S : ∀ c xs, H c = some (.tup xs) → H2 c = some (.tup xs)) : ∀ {ps : List Addr} {rs : List (List Int)}, RsAt H ps rs → RsAt H2 ps rs
  | [], [], _ => trivial
  | _ :: _, _ :: _, ⟨h, r⟩ => ⟨S _ _ h, r.of S⟩
  | [], _ :: _, h => h.elim
  | _ :: _, [], h => h.elim
theorem RsAt.snoc {H : Hp} {q : Addr} {r : List Int} (hq : H q = some (.tup (r.map V.int))) : ∀ {ps : List Addr} {rs : List (List Int)}, RsAt H ps rs → RsAt H (ps ++ [q]) (rs ++ [r])
  | [], [], _ => ⟨hq, trivial⟩
  | _ :: _, _ :: _, ⟨h1, h2⟩ => ⟨h1, h2.snoc hq⟩
  | [], _ :: _, h => h.elim
  | _ :: _, [], h => h.elim
theorem RsAt.len {H : Hp} : ∀ {ps : List Addr} {rs : List (List Int)}, RsAt H ps rs → ps.length = rs.length
  | [], [], _ => rfl
  | _ :: _, _ :: _, ⟨_, r⟩ => congrArg Nat.succ r.len
  | [], _ :: _, h => h.elim
  | _ :: _, [], h => h.elim
theorem RsAt.at {H : Hp} : ∀ {ps : List Addr} {rs : List (List Int)}, RsAt H ps rs → ∀ {i : Nat} {p : Addr}, ps[i]? = some p → ∃ r, rs[i]? = some r ∧ H p = some (.tup (r.map V.int))
  | [], [], _, i, p, h => by cases h
  | _ :: _, r :: _, ⟨h1, _⟩, 0, p, h => by
    cases h
    exact ⟨r, rfl, h1⟩
  | _ :: _, _ :: _, ⟨_, h2⟩, i + 1, p, h => h2.at (i := i) h
  | [], _ :: _, h, _, _, _ => h.elim
  | _ :: _, [], h, _, _, _ => h.elim
def intOf0 : V → Int
  | .int i => i
  | _ => 0
/-- the ints of the tuple at an address -/
def cont (H : Hp) (p : Addr) : List Int := match H p with
  | some (.tup xs) => xs.map intOf0
  | _ => []
theorem cont_at {H : Hp} {p : Addr} {r : List Int} (h : H p = some (.tup (r.map V.int))) : cont H p = r := by
  unfold cont
  rw [h]
  show (r.map V.int).map intOf0 = r
  rw [List.map_map]
  exact List.map_id _
theorem RsAt.cont {H : Hp} : ∀ {ps : List Addr} {rs : List (List Int)}, RsAt H ps rs → rs = ps.map (Rt.cont H) ∧ ∀ p ∈ ps, H p = some (.tup ((Rt.cont H p).map V.int))
  | [], [], _ => ⟨rfl, fun _ h => nomatch h⟩
  | p :: ps, r :: rs, ⟨h1, h2⟩ => by
    obtain ⟨e1, e2⟩ := h2.cont
    refine ⟨by rw [List.map_cons, ← e1, cont_at h1], fun x hx => ?_⟩
    rcases List.mem_cons.mp hx with z | z
    · rw [z, cont_at h1]
      exact h1
    · exact e2 x z
  | [], _ :: _, h => h.elim
  | _ :: _, [], h => h.elim
theorem RsAt.back {H : Hp} : ∀ {ps : List Addr}, (∀ p ∈ ps, H p = some (.tup ((Rt.cont H p).map V.int))) → RsAt H ps (ps.map (Rt.cont H))
  | [], _ => trivial
  | p :: ps, h => ⟨h p List.mem_cons_self, RsAt.back fun x hx => h x (List.mem_cons_of_mem _ hx)⟩
section
variable {f : Int → Int}
theorem IsRing.on {r : List Int} (h : IsRing f r) {x : Int} (hx : x ∈ r) (j : Nat) : orb f x j ∈ r := by
  obtain ⟨y, L, b, l, rfl⟩ := h
  obtain ⟨s, hs, rfl⟩ := (orbL_mem f).mp hx
  rw [← orb_add]
  exact (orbL_mem f).mpr ⟨(s + j) % L, Nat.mod_lt _ b.pos, back_mod f b.back _⟩
theorem IsRing.share {r r2 : List Int} (h : IsRing f r) (g : IsRing f r2) {x : Int} (h1 : x ∈ r) (h2 : x ∈ r2) : r = r2 := by
  obtain ⟨a1, b1⟩ := ring_self h h1
  obtain ⟨a2, b2⟩ := ring_self g h2
  have e := (a1.uniq a2).1
  rw [← e] at b2
  exact b1.uniq a1 b2
/-- from any number on there is one -/
theorem Comes.isRing {n : Int} {k i : Nat} (h : Comes f n k i) : ∃ r, RingOf f n k i r ∧ orb f n i ∈ r := by
  have b := h.ring
  have key : ∀ L : Nat, 0 < L → ∃ s, s < L ∧ ∀ j, j < L → orb f (orb f n i) s ≤ orb f (orb f n i) j := by
    intro L
    induction L with
    | zero => intro z; omega
    | succ L ih =>
      intro _
      rcases Nat.eq_zero_or_pos L with z | z
      · subst z
        exact ⟨0, by omega, fun j hj => by rw [show j = 0 by omega]; exact Int.le_refl _⟩
      · obtain ⟨s, hs, hm⟩ := ih z
        rcases Int.lt_or_le (orb f (orb f n i) L) (orb f (orb f n i) s) with q | q
        · refine ⟨L, by omega, fun j hj => ?_⟩
          rcases Nat.lt_or_ge j L with y | y
          · have := hm j y
            omega
          · rw [show j = L by omega]
            exact Int.le_refl _
        · refine ⟨s, by omega, fun j hj => ?_⟩
          rcases Nat.lt_or_ge j L with y | y
          · exact hm j y
          · rw [show j = L by omega]
            exact q
  obtain ⟨s, hs, hm⟩ := key (k - i) b.pos
  have ir : IsRing f (orbL f (orb f (orb f n i) s) (k - i)) := by
    refine ⟨_, k - i, b.on f s, fun j => ?_, rfl⟩
    rw [← orb_add f (orb f n i) s j, ← back_mod f b.back (s + j)]
    exact hm _ (Nat.mod_lt _ b.pos)
  refine ⟨_, ⟨ir, s, by rw [orb_add]⟩, ?_⟩
  refine (orbL_mem f).mpr ⟨(k - i - s) % (k - i), Nat.mod_lt _ b.pos, ?_⟩
  rw [back_mod f (b.on f s).back, ← orb_add, show s + (k - i - s) = k - i by omega, b.back]
/-- what is known behind the numbers S: closed; of their rings each once -/
structure Known (f : Int → Int) (S : List Int) (F : List (List Int)) : Prop where
  nodup : S.Nodup
  closed : ∀ x ∈ S, f x ∈ S
  once : F.Nodup
  mem : ∀ r, r ∈ F ↔ IsRing f r ∧ ∃ x ∈ r, x ∈ S
theorem Known.orb {S : List Int} {F : List (List Int)} (h : Known f S F) {x : Int} (hx : x ∈ S) : ∀ j, Rt.orb f x j ∈ S
  | 0 => hx
  | j + 1 => h.closed _ (h.orb hx j)
theorem Known.nil : Known f [] [] := ⟨List.nodup_nil, fun _ h => (nomatch h), List.nodup_nil, fun r => ⟨fun h => (nomatch h), fun ⟨_, x, _, h⟩ => (nomatch h)⟩⟩
theorem Known.path {S : List Int} {F : List (List Int)} (h : Known f S F) {n : Int} {k : Nat} (w : Way f (· ∈ S) n k) (e : Way.Ends f (· ∈ S) n k) : (S ++ orbL f n k).Nodup ∧ ∀ x ∈ S ++ orbL f n k, f x ∈ S ++ orbL f n k := by
  refine ⟨List.nodup_append.mpr ⟨h.nodup, w.nodup, fun x hx y hy z => ?_⟩, fun x hx => ?_⟩
  · obtain ⟨j, hj, rfl⟩ := (orbL_mem f).mp hy
    exact w.out j hj (z ▸ hx)
  · rcases List.mem_append.mp hx with z | z
    · exact List.mem_append_left _ (h.closed x z)
    · obtain ⟨j, hj, rfl⟩ := (orbL_mem f).mp z
      rcases Nat.lt_or_ge (j + 1) k with q | q
      · exact List.mem_append_right _ ((orbL_mem f).mpr ⟨j + 1, q, rfl⟩)
      · have ek : j + 1 = k := by omega
        subst ek
        rcases e with e | ⟨i, hi, e⟩
        · exact List.mem_append_left _ e
        · exact List.mem_append_right _ ((orbL_mem f).mpr ⟨i, hi, e⟩)
theorem Known.old {S : List Int} {F : List (List Int)} (h : Known f S F) {n : Int} {k : Nat} (w : Way f (· ∈ S) n k) (e : Rt.orb f n k ∈ S) : Known f (S ++ orbL f n k) F := by
  obtain ⟨p1, p2⟩ := h.path w (.inl e)
  refine ⟨p1, p2, h.once, fun r => ?_⟩
  rw [h.mem]
  constructor
  · rintro ⟨ir, x, h1, h2⟩
    exact ⟨ir, x, h1, List.mem_append_left _ h2⟩
  · rintro ⟨ir, x, h1, h2⟩
    refine ⟨ir, ?_⟩
    rcases List.mem_append.mp h2 with z | z
    · exact ⟨x, h1, z⟩
    · obtain ⟨j, hj, rfl⟩ := (orbL_mem f).mp z
      have := ir.on h1 (k - j)
      rw [← orb_add, show j + (k - j) = k by omega] at this
      exact ⟨_, this, e⟩
theorem Known.new {S : List Int} {F : List (List Int)} (h : Known f S F) {n : Int} {k i : Nat} (w : Way f (· ∈ S) n k) (c : Comes f n k i) {r : List Int} (hr : RingOf f n k i r) : Known f (S ++ orbL f n k) (F ++ [r]) := by
  obtain ⟨p1, p2⟩ := h.path w (.inr ⟨i, c.lt, c.back⟩)
  obtain ⟨r0, hr0, m0⟩ := c.isRing
  have er := hr0.uniq c hr
  subst er
  refine ⟨p1, p2, List.nodup_append.mpr ⟨h.once, List.nodup_cons.mpr ⟨List.not_mem_nil, List.nodup_nil⟩, fun x hx y hy z => ?_⟩, fun q => ?_⟩
  · rw [List.mem_singleton.mp hy] at z
    subst z
    obtain ⟨ir, y, h1, h2⟩ := (h.mem x).mp hx
    obtain ⟨⟨a, L, b, _, e⟩, _⟩ := hr
    obtain ⟨j, hj, ej⟩ : ∃ j, j < x.length ∧ Rt.orb f y j = Rt.orb f n i := by
      obtain ⟨a1, L1, b1, l1, e1⟩ := id ir
      rw [e1] at h1 m0
      obtain ⟨s, hs, es⟩ := (orbL_mem f).mp h1
      obtain ⟨t, ht, et⟩ := (orbL_mem f).mp m0
      refine ⟨(L1 - s + t) % L1, by rw [e1, orbL_len]; exact Nat.mod_lt _ b1.pos, ?_⟩
      rw [← es, back_mod f (b1.on f s).back, ← orb_add, show s + (L1 - s + t) = L1 + t by omega, orb_add, b1.back, et]
    have := h.orb h2 j
    rw [ej] at this
    exact w.out i c.lt this
  · rw [List.mem_append, List.mem_singleton, h.mem]
    constructor
    · rintro (⟨ir, x, h1, h2⟩ | rfl)
      · exact ⟨ir, x, h1, List.mem_append_left _ h2⟩
      · exact ⟨hr.1, _, m0, List.mem_append_right _ ((orbL_mem f).mpr ⟨i, c.lt, rfl⟩)⟩
    · rintro ⟨ir, x, h1, h2⟩
      rcases List.mem_append.mp h2 with z | z
      · exact .inl ⟨ir, x, h1, z⟩
      · obtain ⟨j, hj, rfl⟩ := (orbL_mem f).mp z
        have := ir.on h1 (k - j)
        rw [← orb_add, show j + (k - j) = k by omega, ← c.back] at this
        exact .inr (ir.share hr.1 this m0)
end
/-- each ring has a number of a small size -/
theorem ring_small {b t m M : Int} (hM : BoundOf b t m M) {r : List Int} (h : IsRing (made b t m) r) : ∃ x ∈ r, ab x ≤ M := by
  have key : ∀ N : Nat, ∀ x ∈ r, (ab x).toNat ≤ N → ∃ y ∈ r, ab y ≤ M := by
    intro N
    induction N with
    | zero =>
      intro x hx hN
      have := ab_nonneg x
      have := hM.nn
      exact ⟨x, hx, by omega⟩
    | succ N ih =>
      intro x hx hN
      rcases Int.lt_or_le M (ab x) with z | z
      · have := hM.more x z
        have := ab_nonneg (made b t m x)
        exact ih _ (h.on hx 1) (by show (ab (made b t m x)).toNat ≤ N; omega)
      · exact ⟨x, hx, z⟩
  obtain ⟨y, L, b1, l, e⟩ := id h
  have my : y ∈ r := by
    rw [e]
    exact (orbL_mem _).mpr ⟨0, b1.pos, rfl⟩
  exact key _ y my (Nat.le_refl _)
theorem bound_small {b t m M : Int} (hB : 2 ≤ blockOf b t) (hB2 : blockOf b t ≤ 256) (m1 : -100 ≤ m) (m2 : m ≤ 100) (hM : BoundOf b t m M) : M ≤ 51002 := by
  rcases Int.lt_or_le 0 M with z | z
  · obtain ⟨n, h1, h2⟩ := hM.at_ z
    have := made_half hB hB2 m1 m2 (n := n)
    omega
  · omega

/-! ### rings(trick) -/
/-- all rings, ascending -/
structure AllRings (f : Int → Int) (R : List (List Int)) : Prop where
  asc : R.Pairwise (fun x y => lexI y x = false)
  once : R.Nodup
  mem : ∀ r, r ∈ R ↔ IsRing f r
theorem AllRings.uniq {f : Int → Int} {R R2 : List (List Int)} (h : AllRings f R) (g : AllRings f R2) : R = R2 := by
  have key : ∀ {R R2 : List (List Int)}, R.Pairwise (fun x y => lexI y x = false) → R2.Pairwise (fun x y => lexI y x = false) → R.Nodup → R2.Nodup → (∀ r, r ∈ R ↔ r ∈ R2) → R = R2 := by
    intro R
    induction R with
    | nil =>
      intro R2 _ _ _ _ m
      cases R2 with
      | nil => rfl
      | cons y _ => exact absurd ((m y).mpr List.mem_cons_self) List.not_mem_nil
    | cons x R ih =>
      intro R2 h1 h2 n1 n2 m
      cases R2 with
      | nil => exact absurd ((m x).mp List.mem_cons_self) List.not_mem_nil
      | cons y R2 =>
        obtain ⟨a1, a2⟩ := List.pairwise_cons.mp h1
        obtain ⟨b1, b2⟩ := List.pairwise_cons.mp h2
        obtain ⟨c1, c2⟩ := List.nodup_cons.mp n1
        obtain ⟨d1, d2⟩ := List.nodup_cons.mp n2
        have e : x = y := by
          rcases List.mem_cons.mp ((m x).mp List.mem_cons_self) with z | z
          · exact z
          · rcases List.mem_cons.mp ((m y).mpr List.mem_cons_self) with z2 | z2
            · exact z2.symm
            · exact lexI_total (b1 x z) (a1 y z2)
        subst e
        rw [ih a2 b2 c2 d2 fun r => ?_]
        constructor
        · intro hr
          rcases List.mem_cons.mp ((m r).mp (List.mem_cons_of_mem _ hr)) with z | z
          · exact absurd (z ▸ hr) c1
          · exact z
        · intro hr
          rcases List.mem_cons.mp ((m r).mpr (List.mem_cons_of_mem _ hr)) with z | z
          · exact absurd (z ▸ hr) d1
          · exact z
  exact key h.asc g.asc h.once g.once fun r => (h.mem r).trans (g.mem r).symm
def spRings (T : Tx K mg) : Sp := fun vs H Q _ => ∃ (p : Addr) (b t m : Int), vs = [.ref p] ∧ TrickAt T H p b t m ∧ ∀ (R : List (List Int)) (qs : List Addr) (D : Addr) (H' : Hp), AllRings (made b t m) R → Same H H' → H' D = some (.lst (qs.map V.ref)) → RsAt H' qs R → Q (.ref D) H'
theorem ok_rings (T : Tx K mg) : FnOk P w K mg base (L2.CX P w) lv_rings T.a_rings T.d_rings ["trick"] (spRings T) := by
  refine T.F_rings.okX sc_rings (fun vs H Q E h => ?_) (fun cdv A outer s H vs Q E hr h => ?_)
  · obtain ⟨p, b, t, m, rfl, _⟩ := h
    rfl
  · obtain ⟨p, b, t, m, rfl, a, kk⟩ := h
    obtain ⟨⟨dx, e⟩, b1, b2, t1, t2, m1, m2⟩ := id a
    obtain ⟨B1, B2⟩ := block_bd (t := t) b1 b2
    refine ⟨_, (pss_cons (ps_set (i := 1) sc_rings.nd rfl (Or.inl rfl) (pe_call (ok_bound T) (hr.mono (by decide)) rfl T.g_bound T.F_bound.kp T.b_bound .nil (passes_call (takes_of rfl rfl rfl rfl) fun _ _ _ _ h => h) (pa_cons (pv 0) pa_nil)))
      (pss_cons (ps_set (i := 2) sc_rings.nd rfl (Or.inl rfl) pe_dnewK)
      (pss_cons (ps_set (i := 3) sc_rings.nd rfl (Or.inl rfl) (pe_lst pa_nil))
      (pss_cons (ps_for (passes_of rfl) rfl (pi_range2 (by rfl) T.n_range (pa_cons (pe_un un_neg (pv 1)) (pa_cons (pe_op op_add (pv 1) pe_int) pa_nil))) (pg_name (i := 4) sc_rings.nd rfl (Or.inl rfl)) (pss_cons (ps_set (i := 5) sc_rings.nd rfl (Or.inl rfl) (pe_call (ok_unseen_path T) (hr.mono (by decide)) rfl T.g_unseen_path T.F_unseen_path.kp T.b_unseen_path .nil pass0 (pa_cons (pv 0) (pa_cons (pv 4) (pa_cons (pv 2) pa_nil)))))
      (pss_one (ps_if (PW.pt (pw_and (pt_truth (pv 5) (by intro _; rfl)) (pw_and1 (pt_cmpR op_in_seq (pe_call (ok_made_of T) (hr.mono (by decide)) rfl T.g_made_of T.F_made_of.kp T.b_made_of .nil pass0 (pa_cons (pv 0) (pa_cons (pe_ix ix_list (pv 5) (pe_un un_neg pe_int) (fun _ _ => rfl)) pa_nil))) (pv 5) (by with_unfolding_all rfl))))) (pss_one (ps_expr (pe_bm PySem.F.plainAttrs_list PySem.F.slot_list_append PySem.F.type_list_append mt_append (pv 3) (pa_cons (pe_call (ok_ring_at_end T) (hr.mono (by decide)) rfl T.g_ring_at_end T.F_ring_at_end.kp T.b_ring_at_end .nil pass0 (pa_cons (pv 0) (pa_cons (pv 5) pa_nil))) pa_nil)))) pss_nil))))
      (pss_one (ps_ret (pe_callB cr_sortTG (by rfl) T.n_sorted (by decide +kernel) (pa_cons (pv 3) pa_nil)))))))), ?_⟩
    refine ⟨_, rfl, p, b, t, m, rfl, a, fun M H1 hM S1 => ?_⟩
    have hM2 := bound_small B1 B2 m1 m2 hM
    have hM0 := hM.nn
    refine fun ds hds => ⟨by show 0 ≤ sizeLine; decide, fun L hL => ?_⟩
    have neL : ds ≠ L := ne_of_none upd_same hL
    have nds : H ds = none := by
      cases z : H ds with
      | none => rfl
      | some o => rw [S1 _ _ z] at hds; cases hds
    have nL : H L = none := by
      cases z : H L with
      | none => rfl
      | some o => rw [same_upd hds _ _ (S1 _ _ z)] at hL; cases hL
    refine ⟨_, rfl, _, rfl, _, rfl, _, _, rfl, rfl, _, _, rfl, ⟨by omega, by omega, by omega, by omega⟩, ?_⟩
    refine for_range (lo := -M) (n := (M + 1 - -M).toNat) (fun i σ H2 => ∃ (x4 x5 : Option V) (S : List Int) (F : List (List Int)) (fs : List Addr), Same H H2 ∧ H2 ds = some (.dK (S.map entK)) ∧ Known (made b t m) S F ∧ (∀ x ∈ S, ab x ≤ 51204) ∧ (∀ x, -M ≤ x → x < -M + (i : Int) → x ∈ S) ∧ H2 L = some (.lst (fs.map V.ref)) ∧ RsAt H2 fs F ∧ fs.length ≤ i ∧
        σ = [some (.ref p), some (.int M), some (.ref ds), some (.ref L), x4, x5]) ?_ ?_ ?_
    · refine ⟨none, none, [], [], [], fun c o g => ?_, ?_, Known.nil, fun x hx => (nomatch hx), fun x h1 h2 => by omega, upd_same, trivial, Nat.le_refl _, rfl⟩
      · exact same_upd hL _ _ (same_upd hds _ _ (S1 _ _ g))
      · rw [upd_ne neL]
        exact upd_same
    · rintro i σ H2 hi ⟨x4, x5, S, F, fs, S2, hs2, kn, sb, st, hL2, rs, fl, rfl⟩
      have hS : S.length ≤ 102409 := by
        have := pigL (boxC 51204) S kn.nodup fun x hx => mem_boxC (sb x hx)
        rwa [boxC_len] at this
      have abn : ab (-M + (i : Int)) ≤ 51204 := by
        unfold ab
        split <;> omega
      refine ⟨_, rfl, _, rfl, _, rfl, p, ds, b, t, m, -M + (i : Int), S, rfl, a.same S2, by omega, hs2, by omega, fun k P2 H3 hw he kl nP hP hs3 S3 => ?_⟩
      generalize hn : -M + (i : Int) = n at *
      have S03 : Same H H3 := fun c o g => S3 c o (S2 _ _ g) (ne_of_none g nds)
      have hL3 := S3 _ _ hL2 neL.symm
      have rs3 : RsAt H3 fs F := rs.of fun c xs g => S3 _ _ g (ne_of g hs2 (by intro z; cases z))
      have near : ∀ j, ab (orb (made b t m) n j) ≤ 51204 := by
        intro j
        induction j with
        | zero => exact abn
        | succ j ih =>
          have := made_half B1 B2 m1 m2 (n := orb (made b t m) n j)
          show ab (made b t m (orb (made b t m) n j)) ≤ 51204
          omega
      have sb3 : ∀ x ∈ S ++ orbL (made b t m) n k, ab x ≤ 51204 := fun x hx => by
        rcases List.mem_append.mp hx with z | z
        · exact sb x z
        · obtain ⟨j, _, rfl⟩ := (orbL_mem _).mp z
          exact near j
      have nS : n ∈ S ++ orbL (made b t m) n k := by
        rcases Nat.eq_zero_or_pos k with z | z
        · subst z
          rcases he with he | ⟨i2, hi2, _⟩
          · exact List.mem_append_left _ he
          · omega
        · exact List.mem_append_right _ ((orbL_mem _).mpr ⟨0, z, rfl⟩)
      have st3 : ∀ x, -M ≤ x → x < -M + ((i + 1 : Nat) : Int) → x ∈ S ++ orbL (made b t m) n k := fun x h1 h2 => by
        rcases Int.lt_or_le x n with z | z
        · exact List.mem_append_left _ (st x h1 (by omega))
        · rw [show x = n by omega]
          exact nS
      rcases Nat.eq_zero_or_pos k with z | z
      · subst z
        have hm : n ∈ S := by
          rcases he with he | ⟨i2, hi2, _⟩
          · exact he
          · omega
        have e0 : S ++ orbL (made b t m) n 0 = S := List.append_nil S
        rw [e0] at hs3 st3
        refine ⟨_, rfl, _, .inl ⟨_, SqL.of hP, rfl⟩, iteF (iteF ⟨_, _, S, F, fs, S03, hs3, kn, sb, st3, hL3, rs3, by omega, rfl⟩)⟩
      · obtain ⟨k', rfl⟩ : ∃ k', k = k' + 1 := ⟨k - 1, by omega⟩
        have hlast : atI ((orbL (made b t m) n (k' + 1)).map V.int) (-1) = some (V.int (orb (made b t m) n k')) := by
          rw [orbL_succ, List.map_append]
          exact atI_last _ _
        have ne : (!((orbL (made b t m) n (k' + 1)).map V.int).isEmpty) = true := by
          rw [orbL_succ, List.map_append]
          cases (orbL (made b t m) n k').map V.int <;> rfl
        refine ⟨_, rfl, _, .inl ⟨_, SqL.of hP, rfl⟩, ?_⟩
        rw [ne]
        refine iteT ⟨_, rfl, _, rfl, _, rfl, P2, _, _, _, rfl, rfl, SqL.of hP, hlast, p, b, t, m, _, rfl, a.same S03, _, rfl, P2, _, rfl, .inl (SqL.of hP), rfl, flat_ints _, _, rfl, ?_⟩
        refine ite2 (fun g => ?_) (fun g => ?_)
        · have g : inV (.int (orb (made b t m) n (k' + 1))) ((orbL (made b t m) n (k' + 1)).map V.int) = true := g
          rw [inV_ints] at g
          obtain ⟨i2, hi2, ei2⟩ := (orbL_mem _).mp (List.elem_iff.mp g)
          have hc : Comes (made b t m) n (k' + 1) i2 := ⟨hi2, ei2, hw.inj⟩
          refine ⟨_, rfl, .inl ⟨rfl, _, SqL.of hL3⟩, _, rfl, _, rfl, p, P2, b, t, m, n, k' + 1, i2, rfl, a.same S03, hP, by omega, hi2, ei2, hw.inj, fun r s2 q2 H4 ir er S4 nq2 hq2 => ?_⟩
          have hL4 := S4 _ _ hL3
          have kt : ∀ c xs, H3 c = some (.tup xs) → (upd H4 L (.lst (fs.map V.ref ++ [.ref q2]))) c = some (.tup xs) := fun c xs g => by
            rw [upd_ne (ne_of (S4 _ _ g) hL4 (by intro z; cases z))]
            exact S4 _ _ g
          refine ⟨L, _, _, rfl, rfl, hL4, by rw [List.length_map]; unfold sizeLine; omega, ?_⟩
          refine ⟨_, _, S ++ orbL (made b t m) n (k' + 1), F ++ [r], fs ++ [q2], fun c o g => ?_, ?_, kn.new hw hc ⟨ir, s2, er⟩, sb3, st3, ?_, ?_, by rw [List.length_append, List.length_singleton]; omega, rfl⟩
          · rw [upd_ne (ne_of_none g nL)]
            exact S4 _ _ (S03 _ _ g)
          · rw [upd_ne neL]
            exact S4 _ _ hs3
          · rw [upd_same, List.map_append]
            rfl
          · refine (rs3.of kt).snoc ?_
            rw [upd_ne (ne_of hq2 hL4 (by intro z; cases z))]
            exact hq2
        · have g : ¬ inV (.int (orb (made b t m) n (k' + 1))) ((orbL (made b t m) n (k' + 1)).map V.int) = true := g
          rw [inV_ints] at g
          have hold : orb (made b t m) n (k' + 1) ∈ S := by
            rcases he with he | ⟨i2, hi2, ei2⟩
            · exact he
            · exact absurd (List.elem_iff.mpr ((orbL_mem _).mpr ⟨i2, hi2, ei2⟩)) g
          exact ⟨_, _, S ++ orbL (made b t m) n (k' + 1), F, fs, S03, hs3, kn.old hw hold, sb3, st3, hL3, rs3, by omega, rfl⟩
    · rintro σ H2 ⟨x4, x5, S, F, fs, S2, hs2, kn, sb, st, hL2, rs, fl, rfl⟩
      obtain ⟨eF, cF⟩ := rs.cont
      have all : ∀ r, r ∈ F ↔ IsRing (made b t m) r := fun r => by
        rw [kn.mem]
        refine ⟨fun h => h.1, fun h => ⟨h, ?_⟩⟩
        obtain ⟨x, hx, ax⟩ := ring_small hM h
        refine ⟨x, hx, st x ?_ ?_⟩
        · unfold ab at ax
          split at ax <;> omega
        · unfold ab at ax
          split at ax <;> omega
      refine ⟨_, rfl, L, fs, cont H2, rfl, SqL.of hL2, fun q hq => ⟨cF q hq, ?_⟩, fun qs D perm asc hD => ?_⟩
      · have : cont H2 q ∈ F := by
          rw [eF]
          exact List.mem_map_of_mem hq
        exact ((all _).mp this).ne
      · have SD := same_upd (o := .lst (qs.map V.ref)) hD
        have pF : (qs.map (cont H2)).Perm F := by
          rw [eF]
          exact perm.map _
        refine kk (qs.map (cont H2)) qs D _ ⟨by rw [List.pairwise_map]; exact asc, pF.nodup_iff.mpr kn.once, fun r => by rw [pF.mem_iff]; exact all r⟩ (S2.trans SD) upd_same ?_
        exact (RsAt.back fun q hq => cF q (perm.mem_iff.mp hq)).of fun c xs g => SD _ _ g

/-! ### the law's draws: what is drawn lies in its range; nothing but the row of the draws changes -/
theorem fmod_bd (x : Int) {m : Int} (h : 0 < m) : 0 ≤ x.fmod m ∧ x.fmod m < m := by
  rw [Int.fmod_eq_emod_of_nonneg x (by omega)]
  exact ⟨Int.emod_nonneg x (by omega), Int.emod_lt_of_pos x h⟩
abbrev rowL (a : Addr) (i s c : Int) : List V := [.ref a, .int i, .int s, .int c]
/-- the script at a: locked, or of the top's own -/
def Scr (K : PySem.W.Frag) (H : Hp) (a : Addr) (xs : List V) : Prop := (∃ o, H a = some (.frz o (.lst xs))) ∨ SqL K (fun _ => none) a xs
theorem scr_of {H : Hp} {a : Addr} {xs : List V} (hO : ∀ b, H b = none ∨ ∃ o xs, H b = some (.frz o (.lst xs))) (h : SqL K H a xs) : Scr K H a xs := by
  rcases h with (h | h) | h
  · rcases hO a with z | ⟨o, ys, z⟩
    · rw [z] at h; cases h
    · rw [z] at h; cases h
  · exact .inl h
  · exact .inr (.inr h)
theorem Scr.seq {H : Hp} {a : Addr} {xs : List V} (h : Scr K H a xs) : SqL K H a xs := by
  rcases h with h | (h | ⟨o, h⟩) | h
  · exact .inl (.inr h)
  · cases h
  · cases h
  · exact .inr h
theorem Scr.mono {H H' : Hp} {a : Addr} {xs : List V} (h : Scr K H a xs) (k : ∀ b o u, H b = some (.frz o u) → H' b = some (.frz o u)) : Scr K H' a xs := by
  rcases h with ⟨o, h⟩ | h
  · exact .inl ⟨o, k _ _ _ h⟩
  · exact .inr h
/-- at r the row of the draws over the script at a -/
def RowAt (K : PySem.W.Frag) (H : Hp) (r a : Addr) (ns : List Int) : Prop := ∃ i s c : Int, H r = some (.lst (rowL a i s c)) ∧ 0 ≤ i ∧ 0 ≤ c ∧ Scr K H a (ns.map V.int) ∧ ns.length ≤ 63
theorem RowAt.same {H H' : Hp} {r a : Addr} {ns : List Int} (h : RowAt K H r a ns) (e : Same H H') : RowAt K H' r a ns :=
  let ⟨i, s, c, h1, h2, h3, h4, h5⟩ := h
  ⟨i, s, c, e _ _ h1, h2, h3, h4.mono fun _ _ _ z => e _ _ z, h5⟩
/-- another list is changed -/
theorem RowAt.put {H : Hp} {r a q : Addr} {ns : List Int} {ys : List V} {o : HO} (h : RowAt K H r a ns) (hq : H q = some (.lst ys)) (n : q ≠ r) : RowAt K (upd H q o) r a ns :=
  let ⟨i, s, c, h1, h2, h3, h4, h5⟩ := h
  ⟨i, s, c, by rw [upd_ne (Ne.symm n)]; exact h1, h2, h3, h4.mono fun b o' u z => by rw [upd_ne (ne_of z hq (by intro y; cases y))]; exact z, h5⟩
/-- the row as the law lays it -/
theorem RowAt.start {H : Hp} {r a : Addr} {ns : List Int} {i s c : Int} (hr : H r = none) (hS : Scr K H a (ns.map V.int)) (hl : ns.length ≤ 63) (hi : 0 ≤ i) (hc : 0 ≤ c) : RowAt K (upd H r (.lst (rowL a i s c))) r a ns :=
  ⟨i, s, c, upd_same, hi, hc, hS.mono fun b o u z => by rw [upd_ne (ne_of_none z hr)]; exact z, hl⟩
def spTaken (K : PySem.W.Frag) : Sp := fun vs H Q _ => ∃ (r a : Addr) (ns : List Int) (m : Int), vs = [.ref r, .int m] ∧ 0 < m ∧ m ≤ 10 ^ 41 ∧ RowAt K H r a ns ∧
  ∀ (v : Int) (H' : Hp), 0 ≤ v → v < m → RowAt K H' r a ns → But r H H' → Q (.int v) H'
theorem ok__law_taken (T : Tx K mg) : FnOk P w K mg base CX0 lv__law_taken T.a__law_taken T.d__law_taken ["_law_row", "_law_many"] (spTaken K) := by
  refine T.F__law_taken.ok sc__law_taken (fun vs H Q E h => ?_) (fun cdv A outer s H vs Q E hr h => ?_)
  · obtain ⟨r, a, ns, m, rfl, _⟩ := h
    rfl
  · obtain ⟨r, a, ns, m, rfl, m0, m1, ⟨i, s, c, hR, i0, c0, hK, hlen⟩, k⟩ := h
    have hKB : ∀ H', But r H H' → Scr K H' a (ns.map V.int) := fun H' b => hK.mono fun c o u z => b c _ z (ne_of z hR (by intro y; cases y))
    have hdv : ∀ x : Int, CDivW x m := fun x => wide_div m0 (b := 140) (by omega) (by decide) (by decide)
    have back : ∀ (v : Int) (i' s' c' : Int) (H' : Hp), 0 ≤ v → v < m → 0 ≤ i' → 0 ≤ c' → H' r = some (.lst (rowL a i' s' c')) → But r H H' → Q (.int v) H' := fun v i' s' c' H' v0 v1 z1 z2 e b =>
      k v H' v0 v1 ⟨i', s', c', e, z1, z2, hKB _ b, hlen⟩ b
    refine ⟨_, (pss_cons (ps_if (pt_cmpR op_gt (pe_ix ix_list (pv 0) pe_int (fun _ _ => rfl)) pe_int (nomark _)) (pss_cons (ps_set (i := 2) sc__law_taken.nd rfl (Or.inl rfl) (pe_op op_modN (pe_callTy call_int1 (by rfl) T.n_int (by decide +kernel) (pa_cons (pe_ix ix_list (pv 0) pe_int (fun _ _ => rfl)) pa_nil)) (pv 1)))
      (pss_cons (ps_asg (pe_op op_fdivW (pe_ix ix_list (pv 0) pe_int (fun _ _ => rfl)) (pv 1)) (pg_sub (pv 0) pe_int set_list))
      (pss_one (ps_ret (pv 2))))) pss_nil)
      (pss_cons (ps_asg (pe_op op_add (pe_ix ix_list (pv 0) pe_int (fun _ _ => rfl)) pe_int) (pg_sub (pv 0) pe_int set_list))
      (pss_cons (ps_if (pt_cmpR op_gt (pe_ix ix_list (pv 0) pe_int (fun _ _ => rfl)) (pe_callB call_len_seq (by rfl) T.n_len (by decide +kernel) (pa_cons (pe_ix ix_list (pv 0) pe_int (fun _ _ => rfl)) pa_nil)) (nomark _)) (pss_cons (ps_asg (pe_op op_modN (pe_callTy call_int1 (by rfl) T.n_int (by decide +kernel) (pa_cons (pe_op op_add (pe_op op_mul (pe_ix ix_list (pv 0) pe_int (fun _ _ => rfl)) pe_int) pe_int) pa_nil)) pe_int) (pg_sub (pv 0) pe_int set_list))
      (pss_one (ps_ret (pe_op op_modN (pe_callTy call_int1 (by rfl) T.n_int (by decide +kernel) (pa_cons (pe_op op_fdivW (pe_ix ix_list (pv 0) pe_int (fun _ _ => rfl)) pe_int) pa_nil)) (pv 1))))) pss_nil)
      (pss_cons (ps_set (i := 3) sc__law_taken.nd rfl (Or.inl rfl) (pe_ix ix_list (pe_ix ix_list (pv 0) pe_int (fun _ _ => rfl)) (pe_op op_sub (pe_ix ix_list (pv 0) pe_int (fun _ _ => rfl)) pe_int) (fun _ _ => rfl)))
      (pss_cons (ps_asg (pe_op op_modN (pe_callTy call_int1 (by rfl) T.n_int (by decide +kernel) (pa_cons (pe_op op_add (pe_op op_add (pe_op op_mul (pe_ix ix_list (pv 0) pe_int (fun _ _ => rfl)) pe_int) (pv 3)) pe_int) pa_nil)) pe_int) (pg_sub (pv 0) pe_int set_list))
      (pss_cons (ps_if (pt_cmpR op_ge (pv 3) (pe_op op_pow pe_int pe_int) (nomark _)) (pss_one (ps_asg (pe_op op_fdivW (pv 3) (pv 1)) (pg_sub (pv 0) pe_int set_list))) pss_nil)
      (pss_one (ps_ret (pe_op op_modN (pe_callTy call_int1 (by rfl) T.n_int (by decide +kernel) (pa_cons (pv 3) pa_nil)) (pv 1)))))))))), ?_⟩
    refine ⟨_, rfl, r, _, _, _, rfl, rfl, SqL.of hR, rfl, _, _, rfl, rfl, _, rfl, ?_⟩
    refine ite2 (fun g => ?_) (fun g => ?_)
    · -- a great cell's digits
      obtain ⟨v0, v1⟩ := fmod_bd c m0
      refine ⟨_, rfl, r, _, _, _, rfl, rfl, SqL.of hR, rfl, .inl ⟨_, rfl, _, rfl, _, _, rfl, rfl, by omega, ?_⟩⟩
      refine ⟨_, rfl, r, _, _, _, rfl, rfl, SqL.of hR, rfl, _, rfl, _, _, rfl, rfl, hdv c, _, rfl, r, _, _, _, rfl, rfl, hR, rfl, ?_⟩
      exact ⟨_, rfl, back _ i s (c / m) _ v0 v1 i0 (Int.ediv_nonneg c0 (by omega)) upd_same But.put⟩
    · refine ⟨_, rfl, r, _, _, _, rfl, rfl, SqL.of hR, rfl, _, _, rfl, rfl, _, rfl, r, _, _, _, rfl, rfl, hR, rfl, ?_⟩
      -- behind the script's end?
      have hR1 : upd H r (.lst (rowL a (i + 1) s c)) r = some (.lst (rowL a (i + 1) s c)) := upd_same
      have hB1 : But r H (upd H r (.lst (rowL a (i + 1) s c))) := But.put
      have hS1 : SqL K (upd H r (.lst (rowL a (i + 1) s c))) a (ns.map V.int) := (hKB _ hB1).seq
      refine ⟨_, rfl, r, _, _, _, rfl, rfl, SqL.of hR1, rfl, _, rfl, r, _, _, _, rfl, rfl, SqL.of hR1, rfl, a, _, rfl, .inl hS1, _, _, rfl, rfl, _, rfl, ?_⟩
      refine ite2 (fun g2 => ?_) (fun g2 => ?_)
      · refine ⟨_, rfl, r, _, _, _, rfl, rfl, SqL.of hR1, rfl, _, _, rfl, rfl, .inr ⟨by decide, by decide⟩, _, _, rfl, rfl, .inl ⟨_, rfl, _, _, rfl, rfl, (show (2147483647 : Int) ≠ 0 by decide), ?_⟩⟩
        refine ⟨_, rfl, r, _, _, _, rfl, rfl, hR1, rfl, ?_⟩
        refine ⟨_, rfl, r, _, _, _, rfl, rfl, SqL.of upd_same, rfl, _, _, rfl, rfl, wide_div (by decide) (b := 3) (by decide) (by decide) (by decide), .inl ⟨_, rfl, _, rfl, _, _, rfl, rfl, by omega, ?_⟩⟩
        obtain ⟨v0, v1⟩ := fmod_bd ((s * 48271 + 11).fmod 2147483647 / 7) m0
        exact back _ (i + 1) _ c _ v0 v1 (by omega) c0 upd_same (hB1.trans But.put)
      · have g3 : i + 1 ≤ (ns.length : Int) := by
          simp only [decide_eq_true_eq, List.length_map] at g2
          omega
        obtain ⟨z, hz⟩ : ∃ z, ns[i.toNat]? = some z := ⟨ns[i.toNat]'(by omega), List.getElem?_eq_getElem (by omega)⟩
        have hz1 : atI (ns.map V.int) (i + 1 - 1) = some (V.int z) := at_of (j := i.toNat) (by omega) (by rw [List.getElem?_map, hz]; rfl)
        refine ⟨_, rfl, r, _, _, _, rfl, rfl, SqL.of hR1, rfl, _, rfl, r, _, _, _, rfl, rfl, SqL.of hR1, rfl, _, _, rfl, rfl, a, _, _, _, rfl, rfl, hS1, hz1, ?_⟩
        refine ⟨_, rfl, r, _, _, _, rfl, rfl, SqL.of hR1, rfl, _, _, rfl, rfl, .inr ⟨by decide, by decide⟩, _, rfl, _, _, rfl, rfl, _, _, rfl, rfl, .inl ⟨_, rfl, _, _, rfl, rfl, (show (2147483647 : Int) ≠ 0 by decide), ?_⟩⟩
        refine ⟨_, rfl, r, _, _, _, rfl, rfl, hR1, rfl, ?_⟩
        have hR2 : upd (upd H r (.lst (rowL a (i + 1) s c))) r (.lst (rowL a (i + 1) ((s * 48271 + z + 11).fmod 2147483647) c)) r = some (.lst (rowL a (i + 1) ((s * 48271 + z + 11).fmod 2147483647) c)) := upd_same
        have hB2 : But r H (upd (upd H r (.lst (rowL a (i + 1) s c))) r (.lst (rowL a (i + 1) ((s * 48271 + z + 11).fmod 2147483647) c))) := hB1.trans But.put
        obtain ⟨v0, v1⟩ := fmod_bd z m0
        refine ⟨_, rfl, _, _, rfl, rfl, ⟨by decide, by decide, by decide⟩, _, _, rfl, rfl, _, rfl, ?_⟩
        refine ite2 (fun g4 => ?_) (fun g4 => ?_)
        · refine ⟨_, rfl, _, rfl, _, _, rfl, rfl, hdv z, _, rfl, r, _, _, _, rfl, rfl, hR2, rfl, ?_⟩
          have z0 : 0 ≤ z := by
            have g5 : (10 : Int) ^ 18 ≤ z := by simpa using g4
            exact Int.le_trans (by decide) g5
          refine ⟨_, rfl, .inl ⟨_, rfl, _, rfl, _, _, rfl, rfl, by omega, ?_⟩⟩
          exact back _ (i + 1) _ (z / m) _ v0 v1 (by omega) (Int.ediv_nonneg z0 (by omega)) upd_same (hB2.trans But.put)
        · refine ⟨_, rfl, .inl ⟨_, rfl, _, rfl, _, _, rfl, rfl, by omega, ?_⟩⟩
          exact back _ (i + 1) _ c _ v0 v1 (by omega) c0 hR2 hB2

/-! ### a menu: an item of a written list at a drawn place -/
theorem RowAt.new {H : Hp} {r a p : Addr} {ns : List Int} {o : HO} (h : RowAt K H r a ns) (hp : H p = none) : RowAt K (upd H p o) r a ns := h.same (same_upd hp)
theorem RowAt.ne {H : Hp} {r a p : Addr} {ns : List Int} (h : RowAt K H r a ns) (hp : H p = none) : p ≠ r :=
  let ⟨_, _, _, h1, _⟩ := h
  (ne_of_none h1 hp).symm
theorem But.new {H H1 : Hp} {r p : Addr} {o : HO} (b : But r H H1) (hp : H1 p = none) : But r H (upd H1 p o) := b.trans (Same.but (same_upd hp))
theorem But.free {H H1 : Hp} {r p : Addr} (b : But r H H1) (n : p ≠ r) (hp : H1 p = none) : H p = none := by
  cases q : H p with
  | none => rfl
  | some o =>
    rw [b p o q n] at hp
    cases hp
/-- an item of the list laid at p, at a place that is drawn -/
theorem menu {H1 : Hp} {r a p : Addr} {ns items : List Int} {m : Int} (Pr : Int → Prop) (hP : ∀ z ∈ items, Pr z) (hl : (items.length : Int) = m) (R1 : RowAt K H1 r a ns) (hp : H1 p = none) {Q : VK}
    (k : ∀ (z : Int) (H2 : Hp), Pr z → RowAt K H2 r a ns → But r H1 H2 → H2 p = some (.lst (items.map V.int)) → Q (.int z) H2) (h0 : 0 < m) (h1 : m ≤ 10 ^ 41) :
    spTaken K ([.ref r, .int m] ++ []) (upd H1 p (.lst (items.map V.int))) (fun y H2 => rIxL K (.ref p) y H2 Q) E0 := by
  refine ⟨r, a, ns, m, rfl, h0, h1, R1.new hp, fun w H2 w0 w1 R2 B2 => ?_⟩
  obtain ⟨z, hz, he⟩ := at_some Pr hP w0 (by omega)
  have npr := R1.ne hp
  exact ⟨p, _, _, _, rfl, rfl, SqL.of (B2 _ _ upd_same npr), he, k z H2 hz R2 ((Same.but (same_upd hp)).trans B2) (B2 _ _ upd_same npr)⟩
theorem at_someV (Pr : V → Prop) {xs : List V} (h : ∀ z ∈ xs, Pr z) {i : Int} (h0 : 0 ≤ i) (h1 : i < xs.length) : ∃ z, Pr z ∧ atI xs i = some z := by
  obtain ⟨z, hz⟩ : ∃ z, xs[i.toNat]? = some z := ⟨xs[i.toNat]'(by omega), List.getElem?_eq_getElem (by omega)⟩
  exact ⟨z, h z (List.mem_of_getElem? hz), at_of (j := i.toNat) (by omega) hz⟩
theorem menuV {H1 : Hp} {r a p : Addr} {ns : List Int} {items : List V} {m : Int} (Pr : V → Prop) (hP : ∀ z ∈ items, Pr z) (hl : (items.length : Int) = m) (R1 : RowAt K H1 r a ns) (hp : H1 p = none) {Q : VK}
    (k : ∀ (z : V) (H2 : Hp), Pr z → RowAt K H2 r a ns → But r H1 H2 → H2 p = some (.lst items) → Q z H2) (h0 : 0 < m) (h1 : m ≤ 10 ^ 41) :
    spTaken K ([.ref r, .int m] ++ []) (upd H1 p (.lst items)) (fun y H2 => rIxL K (.ref p) y H2 Q) E0 := by
  refine ⟨r, a, ns, m, rfl, h0, h1, R1.new hp, fun w H2 w0 w1 R2 B2 => ?_⟩
  obtain ⟨z, hz, he⟩ := at_someV Pr hP w0 (by omega)
  have npr := R1.ne hp
  exact ⟨p, _, _, _, rfl, rfl, SqL.of (B2 _ _ upd_same npr), he, k z H2 hz R2 ((Same.but (same_upd hp)).trans B2) (B2 _ _ upd_same npr)⟩
/-- a plain value: None, a bool, an int, a text -/
def flatA : V → Bool
  | .non => true | .bl _ => true | .int _ => true | .str _ => true | _ => false
theorem any_flat {T : Addr → Prop} {H : Hp} {v : V} (h : flatA v = true) : AnyV T H v := by
  cases v with
  | non => exact .non
  | bl b => exact .bl b
  | int i => exact .int i
  | str x => exact .str x
  | _ => cases h

/-! ### the row is a list -/
theorem RowAt.lst {H : Hp} {r a : Addr} {ns : List Int} (h : RowAt K H r a ns) : ∃ ys, H r = some (.lst ys) := let ⟨_, _, _, h1, _⟩ := h; ⟨_, h1⟩

/-! ### a power -/
def spPower : Sp := fun vs H Q _ => ∃ b k : Int, vs = [.int b, .int k] ∧ 0 ≤ b ∧ b ≤ 1000 ∧ 0 ≤ k ∧ k ≤ 1000000 ∧ Q (.int (b ^ k.toNat)) H
theorem ok__law_power (T : Tx K mg) : FnOk P w K mg base CX0 lv__law_power T.a__law_power T.d__law_power ["_law_base", "_law_many"] spPower := by
  refine T.F__law_power.ok sc__law_power (fun vs H Q E h => ?_) (fun cdv A outer s H vs Q E hr h => ?_)
  · obtain ⟨b, k, rfl, _⟩ := h
    rfl
  · obtain ⟨b, k, rfl, b0, b1, k0, k1, q⟩ := h
    refine ⟨_, (pss_cons (ps_set (i := 2) sc__law_power.nd rfl (Or.inl rfl) pe_int)
      (pss_cons (ps_for PassesOwn.never rfl (pi_range1 (by rfl) T.n_range (pa_cons (pv 1) pa_nil)) (pg_name (i := 3) sc__law_power.nd rfl (Or.inl rfl)) (pss_one (ps_set (i := 2) sc__law_power.nd rfl (Or.inl rfl) (pe_op op_mul (pv 2) (pv 0)))))
      (pss_one (ps_ret (pv 2))))), ?_⟩
    refine ⟨_, rfl, k, rfl, by omega, by omega, ?_⟩
    refine for_range (lo := 0) (fun i σ H2 => ∃ v : Option V, σ = [some (.int b), some (.int k), some (.int (b ^ i)), v] ∧ H2 = H) ⟨none, by rw [Int.pow_zero]; rfl, rfl⟩ ?_ ?_
    · rintro i σ H2 hi ⟨v, rfl, rfl⟩
      refine ⟨_, rfl, _, rfl, _, _, rfl, rfl, .inr ⟨by omega, by omega⟩, ?_⟩
      exact ⟨_, by rw [Int.pow_succ]; rfl, rfl⟩
    · rintro σ H2 ⟨v, rfl, rfl⟩
      exact ⟨_, rfl, q⟩

/-! ### a drawn trick's parts -/
def spLawTrick (K : PySem.W.Frag) : Sp := fun vs H Q _ => ∃ (r a : Addr) (ns : List Int) (small : Bool), vs = [.ref r, .bl small] ∧ RowAt K H r a ns ∧
  ∀ (b t m : Int) (q : Addr) (H' : Hp), 2 ≤ b → b ≤ 16 → 1 ≤ t → t ≤ 2 → (small = true → b ≤ 5 ∨ t = 1) → -100 ≤ m → m ≤ 100 → RowAt K H' r a ns → But r H H' → H q = none → H' q = some (.lst [.int b, .int t, .int m]) → q ≠ r → Q (.ref q) H'
theorem ok__law_trick (T : Tx K mg) : FnOk P w K mg base CX0 lv__law_trick T.a__law_trick T.d__law_trick ["_law_row", "_law_small"] (spLawTrick K) := by
  refine T.F__law_trick.ok sc__law_trick (fun vs H Q E h => ?_) (fun cdv A outer s H vs Q E hr h => ?_)
  · obtain ⟨r, a, ns, sm, rfl, _⟩ := h
    rfl
  · obtain ⟨r, a, ns, sm, rfl, R0, k⟩ := h
    refine ⟨_, (Evl.pss_cut (ps_set (i := 2) sc__law_trick.nd rfl (Or.inr rfl) (pe_ix ix_list (pe_lst (pa_cons pe_int (pa_cons pe_int (pa_cons pe_int (pa_cons pe_int (pa_cons pe_int (pa_cons pe_int (pa_cons (pe_op op_add pe_int (pe_call (ok__law_taken T) (hr.mono (by decide)) rfl T.g__law_taken T.F__law_taken.kp T.b__law_taken .nil pass0 (pa_cons (pv 0) (pa_cons pe_int pa_nil)))) pa_nil)))))))) (pe_call (ok__law_taken T) (hr.mono (by decide)) rfl T.g__law_taken T.F__law_taken.kp T.b__law_taken .nil pass0 (pa_cons (pv 0) (pa_cons pe_int pa_nil))) (fun _ _ => rfl)))
      (Evl.pss_cut (ps_set (i := 3) sc__law_trick.nd rfl (Or.inr rfl) (pe_ifExp (PW.pt (pw_and (pt_val (pv 1)) (pw_and1 (pt_cmpR op_gt (pv 2) pe_int (nomark _))))) pe_int (pe_op op_add pe_int (pe_call (ok__law_taken T) (hr.mono (by decide)) rfl T.g__law_taken T.F__law_taken.kp T.b__law_taken .nil pass0 (pa_cons (pv 0) (pa_cons pe_int pa_nil))))))
      (Evl.pss_cut (ps_set (i := 4) sc__law_trick.nd rfl (Or.inl rfl) (pe_ix ix_list (pe_lst (pa_cons pe_int (pa_cons (pe_un un_neg pe_int) (pa_cons (pe_un un_neg pe_int) (pa_cons pe_int (pa_cons (pe_op op_sub (pe_call (ok__law_taken T) (hr.mono (by decide)) rfl T.g__law_taken T.F__law_taken.kp T.b__law_taken .nil pass0 (pa_cons (pv 0) (pa_cons pe_int pa_nil))) pe_int) (pa_cons (pe_op op_sub (pe_call (ok__law_taken T) (hr.mono (by decide)) rfl T.g__law_taken T.F__law_taken.kp T.b__law_taken .nil pass0 (pa_cons (pv 0) (pa_cons pe_int pa_nil))) pe_int) pa_nil))))))) (pe_call (ok__law_taken T) (hr.mono (by decide)) rfl T.g__law_taken T.F__law_taken.kp T.b__law_taken .nil pass0 (pa_cons (pv 0) (pa_cons pe_int pa_nil))) (fun _ _ => rfl)))
      (Evl.pss_cut (ps_if (pt_cmpR op_eq (pe_call (ok__law_taken T) (hr.mono (by decide)) rfl T.g__law_taken T.F__law_taken.kp T.b__law_taken .nil pass0 (pa_cons (pv 0) (pa_cons pe_int pa_nil))) pe_int (nomark _)) (pss_cons (ps_set (i := 5) sc__law_trick.nd rfl (Or.inr rfl) (pe_op op_add pe_int (pe_call (ok__law_taken T) (hr.mono (by decide)) rfl T.g__law_taken T.F__law_taken.kp T.b__law_taken .nil pass0 (pa_cons (pv 0) (pa_cons pe_int pa_nil)))))
      (pss_cons (ps_setLc (i := 6) (own := [("_law_one", 7)]) (g := gName 7) rfl sc__law_trick.nd rfl rfl (sw_true rfl rfl rfl (by decide +kernel)) (pi_range1 (by rfl) T.n_range (pa_cons (pv 5) pa_nil)) (blkOk_by (own := [("_law_one", 7)]) (N := ["_law_row", "_law_small", "_law_base", "_law_take", "_law_times", "_law_d", "_law_some", "_law_one"]) (sc := defScope s__law_trick) (by decide +kernel)) (fun _ _ _ _ _ => pg_name (i := 7) sc__law_trick.nd rfl (Or.inl rfl)) (fun _ _ _ _ _ => pts_one (pt_cmpR op_eq (pe_op op_modN (pe_op op_mul (pv 7) (pe_call (ok__law_power T) (hr.mono (by decide)) rfl T.g__law_power T.F__law_power.kp T.b__law_power .nil pass0 (pa_cons (pv 2) (pa_cons (pv 3) pa_nil)))) (pv 5)) pe_int (nomark _))) (fun _ _ _ _ _ => (pv 7)))
      (pss_one (ps_set (i := 4) sc__law_trick.nd rfl (Or.inl rfl) (pe_ifExp (pt_cmpR (op_neD hr.units) (pv 6) (pe_lst pa_nil) (nomark _)) (pe_op op_sub (pe_ix ix_list (pv 6) pe_int (fun _ _ => rfl)) (pe_op op_mul (pv 5) (pe_call (ok__law_taken T) (hr.mono (by decide)) rfl T.g__law_taken T.F__law_taken.kp T.b__law_taken .nil pass0 (pa_cons (pv 0) (pa_cons pe_int pa_nil))))) (pv 4)))))) pss_nil)
      (pss_one (ps_ret (pe_lst (pa_cons (pv 2) (pa_cons (pv 3) (pa_cons (pv 4) pa_nil)))))))))), ?_⟩
    -- the base
    refine ⟨fun σ H1 => ∃ b : Int, 2 ≤ b ∧ b ≤ 16 ∧ RowAt K H1 r a ns ∧ But r H H1 ∧ σ = [some (.ref r), some (.bl sm), some (.int b), none, none, none, none, none], ?_, ?_⟩
    · refine ⟨_, rfl, r, a, ns, _, rfl, by decide, by decide, R0, fun v H1 v0 v1 R1 B1 => ?_⟩
      refine ⟨_, _, rfl, rfl, by show 7 ≤ sizeLine; decide, fun p hp => ?_⟩
      refine ⟨_, rfl, menu (items := [10, 2, 3, 7, 8, 16, 2 + v]) (fun z => 2 ≤ z ∧ z ≤ 16) (by simp; omega) rfl R1 hp (fun z H2 hz R2 B2 _ => ?_) (by show (0 : Int) < 7; decide) (by show (7 : Int) ≤ 10 ^ 41; decide)⟩
      exact ⟨z, hz.1, hz.2, R2, B1.trans B2, rfl⟩
    rintro σ H1 ⟨b, b1, b2, R1, B1, rfl⟩
    -- the figures
    refine ⟨fun σ H2 => ∃ t : Int, 1 ≤ t ∧ t ≤ 2 ∧ (sm = true → b ≤ 5 ∨ t = 1) ∧ RowAt K H2 r a ns ∧ But r H H2 ∧ σ = [some (.ref r), some (.bl sm), some (.int b), some (.int t), none, none, none, none], ?_, ?_⟩
    · refine ⟨_, rfl, _, rfl, ?_⟩
      refine ite2 (fun g => ?_) (fun g => ?_)
      · refine ⟨_, rfl, _, _, rfl, rfl, _, rfl, ?_⟩
        refine ite2 (fun g2 => ?_) (fun g2 => ?_)
        · exact ⟨1, by decide, by decide, fun _ => .inr rfl, R1, B1, rfl⟩
        · refine ⟨_, rfl, r, a, ns, _, rfl, by decide, by decide, R1, fun v H2 v0 v1 R2 B2 => ?_⟩
          refine ⟨_, _, rfl, rfl, 1 + v, by omega, by omega, fun _ => .inl ?_, R2, B1.trans B2, rfl⟩
          simpa using g2
      · refine iteF ?_
        refine ⟨_, rfl, r, a, ns, _, rfl, by decide, by decide, R1, fun v H2 v0 v1 R2 B2 => ?_⟩
        exact ⟨_, _, rfl, rfl, 1 + v, by omega, by omega, fun z => absurd z g, R2, B1.trans B2, rfl⟩
    clear R1 B1
    rintro σ H1 ⟨t, t1, t2, hst, R1, B1, rfl⟩
    -- the multiplier
    refine ⟨fun σ H2 => ∃ m : Int, -100 ≤ m ∧ m ≤ 100 ∧ RowAt K H2 r a ns ∧ But r H H2 ∧ σ = [some (.ref r), some (.bl sm), some (.int b), some (.int t), some (.int m), none, none, none], ?_, ?_⟩
    · refine ⟨_, rfl, _, rfl, _, rfl, r, a, ns, _, rfl, by decide, by decide, R1, fun v H2 v0 v1 R2 B2 => ?_⟩
      refine ⟨_, _, rfl, rfl, _, rfl, r, a, ns, _, rfl, by decide, by decide, R2, fun v' H3 v0' v1' R3 B3 => ?_⟩
      refine ⟨_, _, rfl, rfl, by show 6 ≤ sizeLine; decide, fun p hp => ?_⟩
      refine ⟨_, rfl, menu (items := [1, -1, -2, 0, v - 10, v' - 100]) (fun z => -100 ≤ z ∧ z ≤ 100) (by simp; omega) rfl R3 hp (fun z H4 hz R4 B4 _ => ?_) (by show (0 : Int) < 6; decide) (by show (6 : Int) ≤ 10 ^ 41; decide)⟩
      exact ⟨z, hz.1, hz.2, R4, B1.trans (B2.trans (B3.trans B4)), rfl⟩
    clear R1 B1
    rintro σ H1 ⟨m, m1, m2, R1, B1, rfl⟩
    -- a multiplier that tells multiples
    refine ⟨fun σ H2 => ∃ (m : Int) (x y z : Option V), -100 ≤ m ∧ m ≤ 100 ∧ RowAt K H2 r a ns ∧ But r H H2 ∧ σ = [some (.ref r), some (.bl sm), some (.int b), some (.int t), some (.int m), x, y, z], ?_, ?_⟩
    · refine ⟨_, rfl, r, a, ns, _, rfl, by decide, by decide, R1, fun v H2 v0 v1 R2 B2 => ?_⟩
      refine ⟨rfl, _, rfl, ?_⟩
      refine ite2 (fun g => ?_) (fun g => ?_)
      · refine ⟨_, rfl, r, a, ns, _, rfl, by decide, by decide, R2, fun d' H3 d0 d1 R3 B3 => ?_⟩
        refine ⟨_, _, rfl, rfl, ?_⟩
        dsimp only
        generalize hd : 2 + d' = d
        refine ⟨_, rfl, d, rfl, by omega, by omega, fun D hD => ?_⟩
        have hDr := R3.ne hD
        refine lc_range (lo := 0) (n := d.toNat) (fun i H4 => ∃ acc : List Int, (∀ z ∈ acc, 0 ≤ z ∧ z < d) ∧ acc.length ≤ i ∧ H4 = upd H3 D (.lst (acc.map V.int))) ⟨[], by simp, Nat.le_refl _, rfl⟩ ?_ ?_
        · rintro i H4 hi ⟨acc, hacc, hlen, rfl⟩
          refine ⟨rfl, ?_⟩
          refine ⟨_, rfl, _, rfl, _, rfl, b, t, rfl, by omega, by omega, by omega, by omega, ?_⟩
          refine ⟨_, _, rfl, rfl, .inl ⟨by omega, by omega⟩, _, rfl, _, _, rfl, rfl, (show d ≠ 0 by omega), rfl, _, rfl, ?_⟩
          refine ite2 (fun g2 => ?_) (fun g2 => ?_)
          · refine ⟨_, rfl, _, upd_same, by rw [List.length_map]; exact small1000 (by omega), acc ++ [(0 : Int) + (i : Int)], ?_, by simp; omega, by rw [upd_upd, List.map_append]; rfl⟩
            intro z hz
            rcases List.mem_append.mp hz with hz | hz
            · exact hacc z hz
            · have ez : z = 0 + (i : Int) := by simpa using hz
              omega
          · exact ⟨acc, hacc, by omega, rfl⟩
        · rintro H4 ⟨acc, hacc, hlen, rfl⟩
          have R4 := R3.new (o := .lst (acc.map V.int)) hD
          have B4 := (B2.trans B3).new (o := .lst (acc.map V.int)) hD
          have eD : upd H3 D (.lst (acc.map V.int)) D = some (.lst (acc.map V.int)) := upd_same
          generalize upd H3 D (.lst (acc.map V.int)) = H4 at R4 B4 eD ⊢
          refine ⟨_, rfl, by show 0 ≤ sizeLine; decide, fun p hp => ?_⟩
          have npD : D ≠ p := ne_of_none eD hp
          refine ⟨_, _, dp_ints (SqL.of (by rw [upd_ne npD]; exact eD)), dp_ints (ns := []) (SqL.of upd_same), shaped_lints _, shaped_lints _, ?_⟩
          rw [eqv_ints]
          refine ⟨_, rfl, ?_⟩
          refine ite2 (fun g2 => ?_) (fun g2 => ?_)
          · have hne : acc ≠ [] := by simpa using g2
            obtain ⟨z, acc', rfl⟩ : ∃ z acc', acc = z :: acc' := by
              cases acc with
              | nil => exact absurd rfl hne
              | cons z acc' => exact ⟨z, acc', rfl⟩
            obtain ⟨z0, z1⟩ := hacc z List.mem_cons_self
            refine ⟨_, rfl, D, _, _, _, rfl, rfl, SqL.of (by rw [upd_ne npD]; exact eD), at_of (j := 0) rfl rfl, _, rfl, _, rfl, r, a, ns, _, rfl, by decide, by decide, R4.new hp, fun v3 H5 v30 v31 R5 B5 => ?_⟩
            refine ⟨_, _, rfl, rfl, .inl ⟨by omega, by omega⟩, _, _, rfl, rfl, ?_⟩
            refine ⟨z - d * v3, _, _, _, ?_, ?_, R5, (B1.trans (B4.new hp)).trans B5, rfl⟩
            · have q : d * v3 ≤ d * 1 := Int.mul_le_mul_of_nonneg_left (by omega) (by omega)
              omega
            · have q : 0 ≤ d * v3 := Int.mul_nonneg (by omega) v30
              omega
          · exact ⟨_, rfl, m, _, _, _, m1, m2, R4.new hp, B1.trans (B4.new hp), rfl⟩
      · exact ⟨m, none, none, none, m1, m2, R2, B1.trans B2, rfl⟩
    clear R1 B1 m1 m2
    rintro σ H1 ⟨m, x, y, z, m1, m2, R1, B1, rfl⟩
    refine ⟨_, rfl, _, rfl, _, rfl, by show 3 ≤ sizeLine; decide, fun q hq => ?_⟩
    exact k b t m q _ b1 b2 t1 t2 hst m1 m2 (R1.new hq) (B1.new hq) (B1.free (R1.ne hq) hq) upd_same (R1.ne hq)

/-! ### the number behind a trick -/
def behind (b t m n : Int) : Int := (n - n.fmod (blockOf b t)) / blockOf b t + m * n.fmod (blockOf b t)
def spBehind (K : PySem.W.Frag) : Sp := fun vs H Q _ => ∃ (q : Addr) (b t m n : Int), vs = [.ref q, .int n] ∧ SqL K H q [.int b, .int t, .int m] ∧ 2 ≤ b ∧ b ≤ 16 ∧ -100 ≤ m ∧ m ≤ 100 ∧ Q (.int (behind b t m n)) H
theorem ok__law_behind (T : Tx K mg) : FnOk P w K mg base CX0 lv__law_behind T.a__law_behind T.d__law_behind ["_law_told", "_law_n"] (spBehind K) := by
  refine T.F__law_behind.ok sc__law_behind (fun vs H Q E h => ?_) (fun cdv A outer s H vs Q E hr h => ?_)
  · obtain ⟨q, b, t, m, n, rfl, _⟩ := h
    rfl
  · obtain ⟨q, b, t, m, n, rfl, hq, b1, b2, m1, m2, k⟩ := h
    obtain ⟨B1, B2⟩ := block_bd (t := t) b1 b2
    refine ⟨_, (pss_cons (ps_asg (pv 0) (pg_unl rfl (pgs_cons (pg_name (i := 2) sc__law_behind.nd rfl (Or.inl rfl)) (pgs_cons (pg_name (i := 3) sc__law_behind.nd rfl (Or.inl rfl)) (pgs_cons (pg_name (i := 4) sc__law_behind.nd rfl (Or.inl rfl)) pgs_nil)))))
      (Evl.pss_cut (ps_set (i := 5) sc__law_behind.nd rfl (Or.inl rfl) (pe_ifExp (pt_cmpR op_eq (pv 3) pe_int (nomark _)) (pv 2) (pe_op op_mul (pv 2) (pv 2))))
      (pss_cons (ps_set (i := 6) sc__law_behind.nd rfl (Or.inl rfl) (pe_op op_modN (pv 1) (pv 5)))
      (pss_one (ps_ret (pe_op op_add (pe_op op_fdivW (pe_op op_sub (pv 1) (pv 6)) (pv 5)) (pe_op op_mul (pv 4) (pv 6)))))))), ?_⟩
    refine ⟨_, rfl, q, _, rfl, hq, rfl, _, _, rfl, _, _, rfl, _, _, rfl, rfl, ?_⟩
    -- the block
    refine ⟨fun σ H1 => ∃ x : Option V, H1 = H ∧ σ = [some (.ref q), some (.int n), some (.int b), some (.int t), some (.int m), some (.int (blockOf b t)), x], ?_, ?_⟩
    · refine ⟨_, rfl, rfl, _, rfl, ?_⟩
      refine ite2 (fun c => ?_) (fun c => ?_)
      · have c1 : t = 1 := by simpa using c
        exact ⟨_, rfl, none, rfl, by unfold blockOf; rw [if_pos c1]; rfl⟩
      · have c1 : ¬ t = 1 := by simpa using c
        exact ⟨_, rfl, _, rfl, _, _, rfl, rfl, .inl ⟨by omega, by omega⟩, none, rfl, by unfold blockOf; rw [if_neg c1]; rfl⟩
    rintro σ H1 ⟨x, rfl, rfl⟩
    refine ⟨_, rfl, _, rfl, _, _, rfl, rfl, (show blockOf b t ≠ 0 by omega), ?_⟩
    exact ⟨_, rfl, _, rfl, _, _, rfl, rfl, _, rfl, _, _, rfl, rfl, wide_div (by omega) (b := 9) (by omega) (by decide) (by decide), _, rfl, _, rfl, _, _, rfl, rfl, .inl ⟨by omega, by omega⟩, _, _, rfl, rfl, k⟩

/-! ### the two ways to say what is behind a trick -/
theorem behind_made {b t m n : Int} (h : 2 ≤ blockOf b t) : behind b t m n = made b t m n := by
  unfold behind made
  congr 1
  rw [Int.fmod_eq_emod_of_nonneg n (by omega)]
  have e := Int.mul_ediv_add_emod n (blockOf b t)
  have e2 : n - n % blockOf b t = blockOf b t * (n / blockOf b t) := by omega
  rw [e2, Int.mul_ediv_cancel_left _ (by omega)]

/-! ### the law's ring -/
/-- the numbers of the way, each with its place -/
structure TabJ (f : Int → Int) (n : Int) (j : Nat) (kvs : List (Key × V)) : Prop where
  len : kvs.length = j
  at_ : ∀ i, i < j → valV kvs (Sum.inl (orb f n i)) = some (.int (i : Int))
  out : ∀ z, (∀ i, i < j → orb f n i ≠ z) → valV kvs (Sum.inl z) = none
theorem TabJ.put {f : Int → Int} {n : Int} {j : Nat} {kvs : List (Key × V)} (h : TabJ f n j kvs) (hn : ∀ i, i < j → orb f n i ≠ orb f n j) : TabJ f n (j + 1) (putK kvs (Sum.inl (orb f n j)) (.int (j : Int))) := by
  have e := h.out _ hn
  refine ⟨by rw [putK_new _ e, List.length_append, h.len]; rfl, fun i hi => ?_, fun z hz => ?_⟩
  · rw [valV_put]
    rcases Nat.lt_or_ge i j with q | q
    · rw [if_neg (fun z => hn i q (by injection z)), h.at_ i q]
    · rw [show i = j by omega, if_pos rfl]
  · rw [valV_put, if_neg (fun q => hz j (Nat.lt_succ_self j) (by injection q with q; exact q.symm))]
    exact h.out z fun i hi => hz i (by omega)
def spLawRing (K : PySem.W.Frag) : Sp := fun vs H Q _ => ∃ (q : Addr) (b t m n : Int), vs = [.ref q, .int n] ∧ H q = some (.lst [.int b, .int t, .int m]) ∧ 2 ≤ b ∧ b ≤ 16 ∧ -100 ≤ m ∧ m ≤ 100 ∧ ab n ≤ 10 ^ 40 ∧
  ∀ (k i : Nat) (r : List Int) (p p2 : Addr) (H' : Hp), Comes (made b t m) n k i → RingOf (made b t m) n k i r → k ≤ 102600 → Same H H' → H' p = some (.tup [.int (i : Int), .ref p2]) → H' p2 = some (.tup (r.map V.int)) → Q (.ref p) H'
theorem ok__law_ring (T : Tx K mg) : FnOk P w K mg base CX0 lv__law_ring T.a__law_ring T.d__law_ring ["_law_told", "_law_n"] (spLawRing K) := by
  refine T.F__law_ring.ok sc__law_ring (fun vs H Q E h => ?_) (fun cdv A outer s H vs Q E hr h => ?_)
  · obtain ⟨q, b, t, m, n, rfl, _⟩ := h
    rfl
  · obtain ⟨q, b, t, m, n, rfl, hq, b1, b2, m1, m2, an, kk⟩ := h
    obtain ⟨B1, B2⟩ := block_bd (t := t) b1 b2
    have bm : ∀ z, behind b t m z = made b t m z := fun z => behind_made B1
    have wl : ∀ k, Way (made b t m) (fun _ => False) n k → k ≤ 102600 := fun k h => way_len B1 B2 m1 m2 an h
    refine ⟨_, (pss_cons (ps_par (i := 2) (j := 3) rfl sc__law_ring.nd rfl rfl (by decide) rfl rfl (pa_cons pe_dnewK (pa_cons (pe_lst pa_nil) pa_nil)) (by rfl))
      (pss_cons (ps_while PassesOwn.never (pt_cmp (pc_dnotin (hu_of hr) (pv 1) (pv 2))) (pss_cons (ps_dput (hu_of hr) (pv 2) (pv 1) (pe_callB call_len_seq (by rfl) T.n_len (by decide +kernel) (pa_cons (pv 3) pa_nil)) rfl)
      (pss_cons (ps_expr (pe_bm PySem.F.plainAttrs_list PySem.F.slot_list_append PySem.F.type_list_append mt_append (pv 3) (pa_cons (pv 1) pa_nil)))
      (pss_one (ps_set (i := 1) sc__law_ring.nd rfl (Or.inl rfl) (pe_call (ok__law_behind T) (hr.mono (by decide)) rfl T.g__law_behind T.F__law_behind.kp T.b__law_behind .nil pass0 (pa_cons (pv 0) (pa_cons (pv 1) pa_nil))))))))
      (pss_cons (ps_set (i := 4) sc__law_ring.nd rfl (Or.inl rfl) (pe_slice sl_list (pv 3) (po_some (pe_dget (hu_of hr) (pv 2) (pv 1) (fun _ _ => rfl))) po_none))
      (pss_cons (ps_set (i := 5) sc__law_ring.nd rfl (Or.inl rfl) (pe_bm PySem.F.plainAttrs_list PySem.F.slot_list_index PySem.F.type_list_index mt_index (pv 4) (pa_cons (pe_callB (cr_min rfl) (by rfl) T.n_min (by decide +kernel) (pa_cons (pv 4) pa_nil)) pa_nil)))
      (pss_one (ps_ret (pe_tup (pa_cons (pe_dget (hu_of hr) (pv 2) (pv 1) (fun _ _ => rfl)) (pa_cons (pe_callTy call_tuple_of (by rfl) T.n_tuple (by decide +kernel) (pa_cons (pe_op op_cat (pe_slice sl_list (pv 4) (po_some (pv 5)) po_none) (pe_slice sl_list (pv 4) po_none (po_some (pv 5)))) pa_nil)) pa_nil))))))))), ?_⟩
    generalize hf : made b t m = f at *
    refine fun ds hds => ⟨by show 0 ≤ sizeLine; decide, fun L hL => ⟨_, _, rfl, ?_⟩⟩
    have neL : ds ≠ L := ne_of_none upd_same hL
    have nL : H L = none := by
      cases z : H L with
      | none => rfl
      | some o => rw [same_upd hds _ _ z] at hL; cases hL
    refine while_by (fun σ H2 => ∃ (j : Nat) (kvs : List (Key × V)), Way f (fun _ => False) n j ∧ TabJ f n j kvs ∧ H2 L = some (.lst ((orbL f n j).map V.int)) ∧ H2 ds = some (.dK kvs) ∧ Same H H2 ∧ σ = [some (.ref q), some (.int (orb f n j)), some (.ref ds), some (.ref L), none, none])
      (fun σ H2 => match H2 L with | some (.lst xs) => 200000 - xs.length | _ => 0) ?_ ?_ ?_
    · exact ⟨0, [], ⟨fun _ _ z => z, fun i j _ hj => absurd hj (Nat.not_lt_zero _)⟩, ⟨rfl, fun i hi => absurd hi (Nat.not_lt_zero _), fun z _ => rfl⟩, upd_same, by rw [upd_ne neL]; exact upd_same, fun c o g => same_upd hL _ _ (same_upd hds _ _ g), rfl⟩
    · rintro σ H2 ⟨j, kvs, hw, tab, hL2, hs2, S2, rfl⟩
      have jl := wl j hw
      have ol := orbL_len f n j
      by_cases mem : ∃ i, i < j ∧ orb f n i = orb f n j
      · obtain ⟨i, hi, ei⟩ := mem
        have hv := tab.at_ i hi
        rw [ei] at hv
        have hc : Comes f n j i := ⟨hi, ei, hw.inj⟩
        have hback := hc.ring
        refine ⟨_, rfl, _, rfl, ds, _, rfl, DGet.k (k := Sum.inl (orb f n j)) hs2, _, rfl, ?_⟩
        rw [hv]
        refine iteF ?_
        have g1 : DGet H2 ds (.int (orb f n j)) (some (.int (i : Int))) := hv ▸ DGet.k (k := Sum.inl (orb f n j)) hs2
        refine ⟨_, rfl, _, rfl, _, rfl, ds, _, rfl, g1, _, rfl, L, _, rfl, SqL.of hL2, fun x hx => ?_⟩
        rw [cutV_drop, ← List.map_drop, show orbL f n j = orbL f n (i + (j - i)) by rw [show i + (j - i) = j by omega], orbL_drop]
        have SX := same_upd (o := .lst ((orbL f (orb f n i) (j - i)).map V.int)) hx
        have hX : (upd H2 x (.lst ((orbL f (orb f n i) (j - i)).map V.int))) x = some (.lst ((orbL f (orb f n i) (j - i)).map V.int)) := upd_same
        generalize upd H2 x (HO.lst ((orbL f (orb f n i) (j - i)).map V.int)) = H3 at SX hX ⊢
        have hs3 := SX _ _ hs2
        generalize hy : orb f n i = y at *
        generalize hl : j - i = l at *
        refine ⟨_, rfl, .inl ⟨rfl, _, SqL.of hX⟩, _, rfl, x, _, rfl, SqL.of hX, by rw [orbL_len]; exact hback.pos, fun mn hmn hle => ?_⟩
        obtain ⟨s, hs, es⟩ := (orbL_mem f).mp hmn
        refine ⟨x, _, .int mn, s, .int mn, rfl, rfl, SqL.of hX, rfl, flat_ints _, by rw [List.getElem?_map, orbL_get f hs, es]; rfl, by simp [eqV], fun j2 z hj hz => ?_, ?_⟩
        · rw [List.getElem?_map, orbL_get f (by omega)] at hz
          cases hz
          rw [← es]
          simpa [eqV] using hback.inj f hj hs
        have g3 : DGet H3 ds (.int (orb f n j)) (some (.int (i : Int))) := hv ▸ DGet.k (k := Sum.inl (orb f n j)) hs3
        refine ⟨_, rfl, _, rfl, ds, _, rfl, g3, ?_⟩
        refine ⟨_, rfl, _, rfl, _, rfl, x, _, rfl, SqL.of hX, fun q1 hq1 => ?_⟩
        rw [cutV_drop, ← List.map_drop]
        have S1 := same_upd (o := .lst (((orbL f y l).drop s).map V.int)) hq1
        have hX1 := S1 _ _ hX
        refine ⟨_, rfl, _, rfl, _, rfl, x, _, rfl, SqL.of hX1, fun q2 hq2 => ?_⟩
        rw [cutV_take, ← List.map_take]
        have S3 := same_upd (o := .lst (((orbL f y l).take s).map V.int)) hq2
        refine ⟨q1, q2, _, _, rfl, rfl, S3 _ _ upd_same, upd_same, ?_, fun q3 hq3 => ?_⟩
        · rw [List.length_map, List.length_map, List.length_drop, List.length_take, orbL_len]
          unfold sizeLine
          omega
        rw [← List.map_append, hback.rot f (Nat.le_of_lt hs)]
        refine ⟨q3, _, rfl, .inl ⟨SqL.of upd_same, fun q4 hq4 => ?_⟩⟩
        have ey : orb f y s = orb f n (i + s) := by rw [orb_add, hy]
        have S4 := same_upd (o := .lst ((orbL f (orb f y s) l).map V.int)) hq3
        have S5 := same_upd (o := .tup ((orbL f (orb f y s) l).map V.int)) hq4
        have h5 : (upd (upd (upd (upd H3 q1 (.lst (((orbL f y l).drop s).map V.int))) q2 (.lst (((orbL f y l).take s).map V.int))) q3 (.lst ((orbL f (orb f y s) l).map V.int))) q4 (.tup ((orbL f (orb f y s) l).map V.int))) q4 = some (.tup ((orbL f (orb f y s) l).map V.int)) := upd_same
        have SA := S2.trans (SX.trans (S1.trans (S3.trans (S4.trans S5))))
        refine ⟨by show 2 ≤ sizeLine; decide, fun p hp => ?_⟩
        refine kk j i (orbL f (orb f y s) l) p q4 _ hc ⟨⟨orb f y s, l, hback.on f s, fun j2 => ?_, rfl⟩, s, by rw [ey, hl]⟩ jl (SA.trans (same_upd hp)) upd_same (same_upd hp _ _ h5)
        rw [es]
        refine hle _ ((orbL_mem f).mpr ⟨(s + j2) % l, Nat.mod_lt _ hback.pos, ?_⟩)
        rw [back_mod f hback.back, orb_add, es]
      · have nm : ∀ i, i < j → orb f n i ≠ orb f n j := fun i hi z => mem ⟨i, hi, z⟩
        refine ⟨_, rfl, _, rfl, ds, _, rfl, DGet.k (k := Sum.inl (orb f n j)) hs2, _, rfl, ?_⟩
        rw [tab.out _ nm]
        refine iteT ⟨_, rfl, L, _, rfl, .inl (SqL.of hL2), _, rfl, _, rfl, ds, _, rfl, DPut.k (k := Sum.inl (orb f n j)) hs2 (by rw [tab.len]; unfold sizeLine; omega), ?_⟩
        rw [show V.int (((orbL f n j).map V.int).length : Int) = V.int (j : Int) from by rw [List.length_map, ol]]
        have hL3 : (upd H2 ds (.dK (putK kvs (Sum.inl (orb f n j)) (.int (j : Int))))) L = some (.lst ((orbL f n j).map V.int)) := by
          rw [upd_ne neL.symm]
          exact hL2
        refine ⟨_, rfl, .inl ⟨rfl, _, SqL.of hL3⟩, _, rfl, L, _, _, rfl, rfl, hL3, by rw [List.length_map, ol]; unfold sizeLine; omega, ?_⟩
        have hq4 : (upd (upd H2 ds (.dK (putK kvs (Sum.inl (orb f n j)) (.int (j : Int))))) L (.lst ((orbL f n j).map V.int ++ [.int (orb f n j)]))) q = some (.lst [.int b, .int t, .int m]) := by
          rw [upd_ne (ne_of_none hq nL), upd_ne (ne_of_none hq hds)]
          exact S2 _ _ hq
        refine ⟨_, rfl, _, rfl, q, b, t, m, _, rfl, SqL.of hq4, b1, b2, m1, m2, ?_⟩
        rw [bm]
        refine ⟨⟨j + 1, _, ⟨fun _ _ z => z, fun i i2 h1 h2 => ?_⟩, tab.put nm, ?_, ?_, fun c o g => ?_, rfl⟩, ?_⟩
        · rcases Nat.lt_or_ge i2 j with z | z
          · exact hw.inj i i2 h1 z
          · rw [show i2 = j by omega]
            exact nm i (by omega)
        · rw [upd_same, orbL_succ, List.map_append]
          rfl
        · rw [upd_ne neL, upd_same]
        · rw [upd_ne (ne_of_none g nL), upd_ne (ne_of_none g hds)]
          exact S2 _ _ g
        · rw [hL2, upd_same]
          show 200000 - ((orbL f n j).map V.int ++ [V.int (orb f n j)]).length < 200000 - ((orbL f n j).map V.int).length
          rw [List.length_append, List.length_map, ol, List.length_singleton]
          omega
    · exact m_dnot

theorem orb_le {b t m : Int} (hB : 2 ≤ blockOf b t) (hB2 : blockOf b t ≤ 256) (m1 : -100 ≤ m) (m2 : m ≤ 100) {n : Int} (hn : ab n ≤ 10 ^ 40) : ∀ j, ab (orb (made b t m) n j) ≤ 10 ^ 40
  | 0 => hn
  | j + 1 => by
    have h := made_half hB hB2 m1 m2 (n := orb (made b t m) n j)
    have ih := orb_le hB hB2 m1 m2 hn j
    show ab (made b t m (orb (made b t m) n j)) ≤ 10 ^ 40
    omega
theorem ab_bd {x c : Int} (h : ab x ≤ c) : -c ≤ x ∧ x ≤ c := by
  unfold ab at h
  split at h <;> omega
theorem ab_of {x c : Int} (h1 : -c ≤ x) (h2 : x ≤ c) : ab x ≤ c := by
  unfold ab
  split <;> omega
/-- a number and a tuple of numbers -/
abbrev pairD (i : Int) (r : List Int) : PyData := .tuple [.int i, .tuple (r.map PyData.int)]
theorem dp_pair {H : Hp} {p q : Addr} {i : Int} {r : List Int} (hp : H p = some (.tup [.int i, .ref q])) (hq : H q = some (.tup (r.map V.int))) : Dp K H (.ref p) (pairD i r) :=
  (.tup (SqT.of hp) (.cons (.int _) (.cons (dp_tints (SqT.of hq)) .nil)))
theorem canLay_ints : ∀ r : List Int, PyData.canLayAll0 (r.map PyData.int) = true
  | [] => by simp [PyData.canLayAll0]
  | x :: r => by simp [PyData.canLayAll0, PyData.canLay0, canLay_ints r]
theorem depth_ints : ∀ r : List Int, PyData.depthAll (r.map PyData.int) = 0
  | [] => by simp [PyData.depthAll]
  | x :: r => by simp [PyData.depthAll, PyData.depth, depth_ints r]
theorem shaped_pair (i : Int) (r : List Int) : SeqAt.shaped (pairD i r) = true := by
  show ((pairD i r).canLay0 && decide ((pairD i r).depth ≤ 64)) = true
  rw [Bool.and_eq_true]
  exact ⟨by simp [PyData.canLay0, PyData.canLayAll0, canLay_ints], decide_eq_true (by simp [PyData.depth, PyData.depthAll, depth_ints])⟩
theorem eqv_pair (i : Int) (r : List Int) : PyData.eqv (pairD i r) (pairD i r) = true := by
  have e := eqv_tints r r
  rw [decide_eq_true rfl] at e
  simp only [pairD, PyData.eqv, PyData.eqvAll] at e ⊢
  simp [e]
/-- the rings, as data -/
def ringsD (R : List (List Int)) : List PyData := R.map fun r => .tuple (r.map PyData.int)
theorem canLay_rings : ∀ R : List (List Int), PyData.canLayAll0 (ringsD R) = true
  | [] => by simp [ringsD, PyData.canLayAll0]
  | r :: R => by
    have := canLay_rings R
    unfold ringsD at this ⊢
    simp [PyData.canLayAll0, PyData.canLay0, canLay_ints, this]
theorem depth_rings : ∀ R : List (List Int), PyData.depthAll (ringsD R) ≤ 1
  | [] => by simp [ringsD, PyData.depthAll]
  | r :: R => by
    have := depth_rings R
    unfold ringsD at this ⊢
    simp only [List.map_cons, PyData.depthAll, PyData.depth, depth_ints]
    omega
theorem shaped_rings (R : List (List Int)) : SeqAt.shaped (.list (ringsD R)) = true := by
  show ((PyData.list (ringsD R)).canLay0 && decide ((PyData.list (ringsD R)).depth ≤ 64)) = true
  rw [Bool.and_eq_true]
  have := depth_rings R
  exact ⟨by simp [PyData.canLay0, canLay_rings], decide_eq_true (by simp only [PyData.depth]; omega)⟩
theorem dpAll_rings {H : Hp} : ∀ {ps : List Addr} {R : List (List Int)}, RsAt H ps R → DpAll K H (ps.map V.ref) (ringsD R)
  | [], [], _ => .nil
  | p :: ps, r :: R, ⟨h1, h2⟩ => .cons (dp_tints (SqT.of h1)) (dpAll_rings h2)
  | [], _ :: _, h => h.elim
  | _ :: _, [], h => h.elim
theorem any_rings {R : List (List Int)} {r : List Int} (h : r ∈ R) : ((ringsD R).any fun z => PyData.eqv z (.tuple (r.map PyData.int))) = true := by
  refine List.any_eq_true.mpr ⟨.tuple (r.map PyData.int), List.mem_map_of_mem h, ?_⟩
  rw [eqv_tints, decide_eq_true rfl]
theorem room65 {k : Nat} {A : Around} (h : Room k A) : A.units + 65 < cLine := by
  have := h.un
  omega

/-! ### the law -/
theorem eqv_rings : ∀ R : List (List Int), PyData.eqvAll (ringsD R) (ringsD R) = true
  | [] => by simp [ringsD, PyData.eqvAll]
  | r :: R => by
    have h1 := eqv_rings R
    have h2 := eqv_tints r r
    rw [decide_eq_true rfl] at h2
    unfold ringsD at h1 ⊢
    simp [PyData.eqvAll, h1, h2]
theorem ring_small2 {f : Int → Int} {M : Int} (hM : ∀ n, M < ab n → ab (f n) < ab n) (h0 : 0 ≤ M) {r : List Int} (h : IsRing f r) : ∃ x ∈ r, ab x ≤ M := by
  have key : ∀ N : Nat, ∀ x ∈ r, (ab x).toNat ≤ N → ∃ y ∈ r, ab y ≤ M := by
    intro N
    induction N with
    | zero =>
      intro x hx hN
      have := ab_nonneg x
      exact ⟨x, hx, by omega⟩
    | succ N ih =>
      intro x hx hN
      rcases Int.lt_or_le M (ab x) with z | z
      · have := hM x z
        have := ab_nonneg (f x)
        exact ih _ (h.on hx 1) (by show (ab (f x)).toNat ≤ N; omega)
      · exact ⟨x, hx, z⟩
  obtain ⟨y, L, b1, l, e⟩ := id h
  have my : y ∈ r := by
    rw [e]
    exact (orbL_mem _).mpr ⟨0, b1.pos, rfl⟩
  exact key _ y my (Nat.le_refl _)
theorem made_safe {b t m n : Int} (hB : 2 ≤ blockOf b t) : 2 * ab (made b t m n) ≤ ab n + 2 + 2 * (ab m * blockOf b t) := by
  obtain ⟨e, r0, r1⟩ := split_n n hB
  have h1 := half_n n hB
  have h2 := ab_add (n / blockOf b t) (m * n.fmod (blockOf b t))
  have h3 := ab_mul (m := m) (c := ab m) (r := n.fmod (blockOf b t)) (d := blockOf b t) (by unfold ab; split <;> omega) (by unfold ab; split <;> omega) r0 (by omega)
  unfold made
  omega
/-- the due rings, as keys -/
def entR (r : List Int) : List Key × V := (keyI r, .bl true)
theorem entR_none {r : List Int} {F : List (List Int)} (h : ¬ r ∈ F) : valV (F.map entR) (keyI r) = none := by
  unfold valV
  rw [List.find?_eq_none.mpr]
  · rfl
  · intro x hx
    obtain ⟨y, hy, rfl⟩ := List.mem_map.mp hx
    intro z
    exact h (keyI_inj (of_decide_eq_true z) ▸ hy)
def sp_law (K : PySem.W.Frag) : Sp := fun vs H Q _ => ∃ (a : Addr) (ns : List Int), vs = [.ref a] ∧ Scr K H a (ns.map V.int) ∧ ns.length ≤ 63 ∧ ∀ H', Q (.bl true) H'
theorem ok_law (T : Tx K mg) : FnOk P w K mg base CX0 lv_law T.a_law T.d_law ["_law_script"] (sp_law K) := by
  refine T.F_law.ok sc_law (fun vs H Q E h => ?_) (fun cdv A outer s H vs Q E hr h => ?_)
  · obtain ⟨a, ns, rfl, _⟩ := h
    rfl
  · obtain ⟨a, ns, rfl, hS, hlen, kk⟩ := h
    refine ⟨_, (Evl.pss_cut (ps_set (i := 1) sc_law.nd rfl (Or.inl rfl) (pe_lst (pa_cons (pv 0) (pa_cons pe_int (pa_cons pe_int (pa_cons pe_int pa_nil))))))
      (Evl.pss_cut (ps_set (i := 2) sc_law.nd rfl (Or.inl rfl) (pe_call (ok__law_trick T) (hr.mono (by decide)) rfl T.g__law_trick T.F__law_trick.kp T.b__law_trick .nil pass0 (pa_cons (pv 1) (pa_cons pe_bl pa_nil))))
      (Evl.pss_cut (ps_asg (pe_op op_sub (pe_call (ok__law_taken T) (hr.mono (by decide)) rfl T.g__law_taken T.F__law_taken.kp T.b__law_taken .nil pass0 (pa_cons (pv 1) (pa_cons pe_int pa_nil))) pe_int) (pg_sub (pv 2) pe_int set_list))
      (Evl.pss_cut (ps_par (i := 3) (j := 4) rfl sc_law.nd rfl rfl (by decide) rfl rfl (pa_cons (pe_make T.mk_Trick (ok_Trick___init__ T) (hr.mono (by decide)) rfl T.g_Trick T.b_Trick___init__ .nil pass0 (pa_cons (pe_ix ix_list (pv 2) pe_int (fun _ _ => rfl)) (pa_cons (pe_ix ix_list (pv 2) pe_int (fun _ _ => rfl)) (pa_cons (pe_ix ix_list (pv 2) pe_int (fun _ _ => rfl)) pa_nil)))) (pa_cons (pe_call (ok__law_power T) (hr.mono (by decide)) rfl T.g__law_power T.F__law_power.kp T.b__law_power .nil pass0 (pa_cons (pe_ix ix_list (pv 2) pe_int (fun _ _ => rfl)) (pa_cons (pe_ix ix_list (pv 2) pe_int (fun _ _ => rfl)) pa_nil))) pa_nil)) (by rfl))
      (Evl.pss_cut (ps_par (i := 5) (j := 6) rfl sc_law.nd rfl rfl (by decide) rfl rfl (pa_cons (pe_op op_mul pe_int (pe_op op_add pe_int (pe_op op_mul (pe_callB call_abs (by rfl) T.n_abs (by decide +kernel) (pa_cons (pe_ix ix_list (pv 2) pe_int (fun _ _ => rfl)) pa_nil)) (pv 4)))) (pa_cons pe_dnewT pa_nil)) (by rfl))
      (Evl.pss_cut (ps_set (i := 7) sc_law.nd rfl (Or.inl rfl) pe_dnewK)
      (Evl.pss_cut (ps_for PassesOwn.never rfl (pi_range2 (by rfl) T.n_range (pa_cons (pe_un un_neg (pv 5)) (pa_cons (pe_op op_add (pv 5) pe_int) pa_nil))) (pg_name (i := 8) sc_law.nd rfl (Or.inl rfl)) (Evl.pss_cut (ps_par (i := 9) (j := 10) rfl sc_law.nd rfl rfl (by decide) rfl rfl (pa_cons (pv 8) (pa_cons pe_dnewK pa_nil)) (by rfl))
      (Evl.pss_cut (ps_for PassesOwn.never rfl (pi_range1 (by rfl) T.n_range (pa_cons (pe_op op_add (pe_op op_mul pe_int (pv 5)) pe_int) pa_nil)) (pg_name (i := 11) sc_law.nd rfl (Or.inl rfl)) (pss_cons (ps_if (pt_cmp (pc_din (hu_of hr) (pv 9) (pv 7))) (pss_one ps_break) pss_nil)
      (pss_cons (ps_dput (hu_of hr) (pv 7) (pv 9) pe_bl rfl)
      (pss_cons (ps_dput (hu_of hr) (pv 10) (pv 9) pe_bl rfl)
      (pss_one (ps_set (i := 9) sc_law.nd rfl (Or.inl rfl) (pe_call (ok__law_behind T) (hr.mono (by decide)) rfl T.g__law_behind T.F__law_behind.kp T.b__law_behind .nil pass0 (pa_cons (pv 2) (pa_cons (pv 9) pa_nil)))))))))
      (pss_one (ps_if (pt_cmp (pc_din (hu_of hr) (pv 9) (pv 10))) (pss_one (ps_dput (hu_of hr) (pv 6) (pe_ix ix_tup (pe_call (ok__law_ring T) (hr.mono (by decide)) rfl T.g__law_ring T.F__law_ring.kp T.b__law_ring .nil pass0 (pa_cons (pv 2) (pa_cons (pv 9) pa_nil))) pe_int (fun _ _ => rfl)) pe_bl rfl)) pss_nil)))))
      (pss_one (ps_ret (pe_cmpR (op_eqD hr.units) (pe_call (ok_rings T) (hr.mono (by decide)) rfl T.g_rings T.F_rings.kp T.b_rings .nil passL (pa_cons (pv 3) pa_nil)) (pe_callB (cr_sortDT rfl) (by rfl) T.n_sorted (by decide +kernel) (pa_cons (pv 6) pa_nil)) (nomark _))))))))))), ?_⟩
    refine ⟨fun σ H1 => ∃ r, RowAt K H1 r a ns ∧ σ = [some (.ref a), some (.ref r), none, none, none, none, none, none, none, none, none, none], ?_, ?_⟩
    · exact ⟨_, rfl, by show 4 ≤ sizeLine; decide, fun r hr0 => ⟨r, RowAt.start hr0 hS hlen (by decide) (by decide), rfl⟩⟩
    clear hS
    rintro σ H1 ⟨r, R1, rfl⟩
    refine ⟨fun σ H2 => ∃ (q : Addr) (b t m : Int), 2 ≤ b ∧ b ≤ 16 ∧ 1 ≤ t ∧ t ≤ 2 ∧ q ≠ r ∧ H2 q = some (.lst [.int b, .int t, .int m]) ∧ RowAt K H2 r a ns ∧ σ = [some (.ref a), some (.ref r), some (.ref q), none, none, none, none, none, none, none, none, none], ?_, ?_⟩
    · refine ⟨_, rfl, r, a, ns, _, rfl, R1, fun b t m q H3 b1 b2 t1 t2 hst m1 m2 R3 B3 hq0 hq nq => ?_⟩
      exact ⟨q, b, t, m, b1, b2, t1, t2, nq, hq, R3, rfl⟩
    clear R1
    rintro σ H2 ⟨q, b, t, m0, b1, b2, t1, t2, nqr, hq, R2, rfl⟩
    obtain ⟨B1, B2⟩ := block_bd (t := t) b1 b2
    refine ⟨fun σ H3 => ∃ m : Int, -12 ≤ m ∧ m ≤ 12 ∧ H3 q = some (.lst [.int b, .int t, .int m]) ∧ σ = [some (.ref a), some (.ref r), some (.ref q), none, none, none, none, none, none, none, none, none], ?_, ?_⟩
    · refine ⟨_, rfl, r, a, ns, _, rfl, by decide, by decide, R2, fun v H3 v0 v1 R3 B3 => ?_⟩
      have hq3 := B3 _ _ hq nqr
      exact ⟨_, _, rfl, rfl, _, rfl, q, _, 2, 2, rfl, rfl, hq3, rfl, v - 12, by omega, by omega, upd_same, rfl⟩
    clear hq R2
    rintro σ H2 ⟨m, m1, m2, hq, rfl⟩
    refine ⟨fun σ H3 => ∃ p : Addr, TrickAt T H3 p b t m ∧ H3 q = some (.lst [.int b, .int t, .int m]) ∧ σ = [some (.ref a), some (.ref r), some (.ref q), some (.ref p), some (.int (blockOf b t)), none, none, none, none, none, none, none], ?_, ?_⟩
    · refine ⟨_, rfl, q, _, _, _, rfl, rfl, SqL.of hq, rfl, _, rfl, q, _, _, _, rfl, rfl, SqL.of hq, rfl, _, rfl, q, _, _, _, rfl, rfl, SqL.of hq, rfl, fun p dx np nx nn => mk_trick np nx b1 b2 t1 t2 (by omega) (by omega) fun H5 hT S5 => ?_⟩
      have hq5 := S5 _ _ hq
      refine ⟨_, rfl, q, _, _, _, rfl, rfl, SqL.of hq5, rfl, _, rfl, q, _, _, _, rfl, rfl, SqL.of hq5, rfl, b, t, rfl, by omega, by omega, by omega, by omega, _, _, rfl, p, hT, hq5, ?_⟩
      rw [pow_block t1 t2]
      rfl
    clear hq
    rintro σ H3 ⟨p, hT, hq, rfl⟩
    refine ⟨fun σ H4 => ∃ (sf : Int) (du : Addr), sf = 2 * (2 + ab m * blockOf b t) ∧ TrickAt T H4 p b t m ∧ H4 q = some (.lst [.int b, .int t, .int m]) ∧ H4 du = some (.dT []) ∧ σ = [some (.ref a), some (.ref r), some (.ref q), some (.ref p), some (.int (blockOf b t)), some (.int sf), some (.ref du), none, none, none, none, none], ?_, ?_⟩
    · exact ⟨_, rfl, q, _, _, _, rfl, rfl, SqL.of hq, rfl, _, rfl, _, rfl, _, _, rfl, rfl, .inr ⟨by omega, by omega⟩, _, _, rfl, rfl, _, _, rfl, rfl, .inl ⟨by decide, by decide⟩, fun du hdu => ⟨_, _, rfl, _, du, rfl, hT.same (same_upd hdu), same_upd hdu _ _ hq, upd_same, rfl⟩⟩
    clear hT hq
    rintro σ H4 ⟨sf, du, hsf, hT, hq, hdu, rfl⟩
    have am : 0 ≤ ab m ∧ ab m ≤ 12 := ⟨ab_nonneg m, ab_of m1 m2⟩
    have hmB : ab m * blockOf b t ≤ 12 * 256 := Int.mul_le_mul am.2 B2 (by omega) (by omega)
    have hmB0 : 0 ≤ ab m * blockOf b t := Int.mul_nonneg am.1 (by omega)
    have stay : ∀ x, ab x ≤ sf → ab (made b t m x) ≤ sf := fun x hx => by
      have := made_safe (m := m) (n := x) B1
      omega
    have less : ∀ x, sf < ab x → ab (made b t m x) < ab x := fun x hx => by
      have := made_safe (m := m) (n := x) B1
      omega
    have sf2 : 0 ≤ sf ∧ sf ≤ 10000 := by omega
    clear hsf
    have bm : ∀ z, behind b t m z = made b t m z := fun z => behind_made B1
    refine ⟨fun σ H5 => ∃ kn : Addr, H5 kn = some (.dK []) ∧ TrickAt T H5 p b t m ∧ H5 q = some (.lst [.int b, .int t, .int m]) ∧ H5 du = some (.dT []) ∧ σ = [some (.ref a), some (.ref r), some (.ref q), some (.ref p), some (.int (blockOf b t)), some (.int sf), some (.ref du), some (.ref kn), none, none, none, none], ?_, ?_⟩
    · exact fun kn hkn => ⟨kn, upd_same, hT.same (same_upd hkn), same_upd hkn _ _ hq, same_upd hkn _ _ hdu, rfl⟩
    clear hT hq hdu
    rintro σ H5 ⟨kn, hkn, hT, hq, hdu, rfl⟩
    obtain ⟨⟨dx, eT⟩, _, _, _, _, M1, M2⟩ := id hT
    have npk : p ≠ kn := ne_of eT hkn (by intro z; cases z)
    have npd : p ≠ du := ne_of eT hdu (by intro z; cases z)
    have nqk : q ≠ kn := ne_of hq hkn (by intro z; cases z)
    have nqd : q ≠ du := ne_of hq hdu (by intro z; cases z)
    have nkd : kn ≠ du := ne_of hkn hdu (by intro z; cases z)
    have mkT : ∀ {HH : Hp}, (∀ fl2, H5 p = some (.ins T.C_Trick dx fl2) → HH p = some (.ins T.C_Trick dx fl2)) → TrickAt T HH p b t m := fun h => ⟨⟨dx, h _ eT⟩, b1, b2, t1, t2, M1, M2⟩
    generalize hf : made b t m = f at *
    refine ⟨fun σ H6 => ∃ (S : List Int) (F : List (List Int)) (x8 x9 x10 x11 : Option V), H6 du = some (.dT (F.map entR)) ∧ F.Nodup ∧ (∀ r, r ∈ F ↔ IsRing f r) ∧ TrickAt T H6 p b t m ∧ σ = [some (.ref a), some (.ref r), some (.ref q), some (.ref p), some (.int (blockOf b t)), some (.int sf), some (.ref du), some (.ref kn), x8, x9, x10, x11], ?_, ?_⟩
    · refine ⟨_, rfl, _, rfl, _, rfl, _, _, rfl, rfl, _, _, rfl, ⟨by omega, by omega, by omega, by omega⟩, ?_⟩
      refine for_range (lo := -sf) (n := (sf + 1 - -sf).toNat) (fun i σ H6 => ∃ (S : List Int) (F : List (List Int)) (x8 x9 x10 x11 : Option V), H6 du = some (.dT (F.map entR)) ∧ H6 kn = some (.dK (S.map entK)) ∧ Known f S F ∧ F.length ≤ i ∧ (∀ x ∈ S, ab x ≤ sf) ∧ (∀ x, -sf ≤ x → x < -sf + (i : Int) → x ∈ S) ∧ (∀ c o, H5 c = some o → c ≠ du → c ≠ kn → H6 c = some o) ∧ σ = [some (.ref a), some (.ref r), some (.ref q), some (.ref p), some (.int (blockOf b t)), some (.int sf), some (.ref du), some (.ref kn), x8, x9, x10, x11]) ?_ ?_ ?_
      · exact ⟨[], [], none, none, none, none, hdu, hkn, Known.nil, Nat.zero_le _, fun x hx => (nomatch hx), fun x h1 h2 => by omega, fun c o g _ _ => g, rfl⟩
      · rintro i σ H6 hi ⟨S, F, x8, x9, x10, x11, hdu6, hkn6, kn6, fl6, sb, st, S6, rfl⟩
        have hS : S.length ≤ 20001 := by
          have := pigL (boxC sf.toNat) S kn6.nodup fun x hx => mem_boxC (by have := sb x hx; omega)
          rw [boxC_len] at this
          omega
        have abn : ab (-sf + (i : Int)) ≤ sf := by
          unfold ab
          split <;> omega
        obtain ⟨n, hn⟩ : ∃ n, n = -sf + (i : Int) := ⟨_, rfl⟩
        rw [← hn] at abn ⊢
        have near : ∀ j, ab (orb f n j) ≤ sf := by
          intro j
          induction j with
          | zero => exact abn
          | succ j ih => exact stay _ ih
        refine ⟨fun σ H7 => ∃ wy : Addr, Same H6 H7 ∧ H6 wy = none ∧ H7 wy = some (.dK []) ∧ σ = [some (.ref a), some (.ref r), some (.ref q), some (.ref p), some (.int (blockOf b t)), some (.int sf), some (.ref du), some (.ref kn), some (.int n), some (.int n), some (.ref wy), x11], ?_, ?_⟩
        · exact ⟨_, rfl, fun wy hwy => ⟨_, _, rfl, wy, same_upd hwy, hwy, upd_same, rfl⟩⟩
        rintro σ H7 ⟨wy, S7, nwy, hwy, rfl⟩
        have nwk : wy ≠ kn := (ne_of_none hkn6 nwy).symm
        have nwd : wy ≠ du := (ne_of_none hdu6 nwy).symm
        have nwq : q ≠ wy := ne_of_none (S6 _ _ hq nqd nqk) nwy
        have nwp : p ≠ wy := ne_of_none (S6 _ _ eT npd npk) nwy
        refine ⟨fun σ H8 => ∃ (k : Nat) (x11 : Option V), Way f (· ∈ S) n k ∧ Way.Ends f (· ∈ S) n k ∧ H8 kn = some (.dK ((S ++ orbL f n k).map entK)) ∧ H8 wy = some (.dK ((orbL f n k).map entK)) ∧ (∀ c o, H7 c = some o → c ≠ kn → c ≠ wy → H8 c = some o) ∧ σ = [some (.ref a), some (.ref r), some (.ref q), some (.ref p), some (.int (blockOf b t)), some (.int sf), some (.ref du), some (.ref kn), some (.int n), some (.int (orb f n k)), some (.ref wy), x11], ?_, ?_⟩
        · refine ⟨_, rfl, _, _, rfl, rfl, .inl ⟨by decide, by decide⟩, _, _, rfl, rfl, _, rfl, by omega, by omega, ?_⟩
          refine for_range (lo := 0) (n := (9 * sf + 99).toNat) (fun j σ H8 => ∃ x11 : Option V, Way f (· ∈ S) n j ∧ H8 kn = some (.dK ((S ++ orbL f n j).map entK)) ∧ H8 wy = some (.dK ((orbL f n j).map entK)) ∧ (∀ c o, H7 c = some o → c ≠ kn → c ≠ wy → H8 c = some o) ∧ σ = [some (.ref a), some (.ref r), some (.ref q), some (.ref p), some (.int (blockOf b t)), some (.int sf), some (.ref du), some (.ref kn), some (.int n), some (.int (orb f n j)), some (.ref wy), x11]) ?_ ?_ ?_
          · exact ⟨x11, ⟨fun j hj => absurd hj (Nat.not_lt_zero _), fun i j _ hj => absurd hj (Nat.not_lt_zero _)⟩, by rw [show orbL f n 0 = [] from rfl, List.append_nil]; exact S7 _ _ hkn6, hwy, fun c o g _ _ => g, rfl⟩
          · rintro j σ H8 hj ⟨x11, hw, hk8, hw8, S8, rfl⟩
            have ol := orbL_len f n j
            refine ⟨_, rfl, _, rfl, kn, _, rfl, DGet.k (k := Sum.inl (orb f n j)) hk8, _, rfl, ?_⟩
            rw [entK_get]
            by_cases mem : orb f n j ∈ S ++ orbL f n j
            · rw [decide_eq_true mem]
              refine iteT ⟨j, _, hw, ?_, hk8, hw8, S8, rfl⟩
              rcases List.mem_append.mp mem with z | z
              · exact .inl z
              · obtain ⟨i2, hi2, ei2⟩ := (orbL_mem f).mp z
                exact .inr ⟨i2, hi2, ei2⟩
            · rw [decide_eq_false mem]
              have nS : ¬ orb f n j ∈ S := fun z => mem (List.mem_append_left _ z)
              have nL : ¬ orb f n j ∈ orbL f n j := fun z => mem (List.mem_append_right _ z)
              refine iteF ⟨_, rfl, _, rfl, kn, _, rfl, DPut.k (k := Sum.inl (orb f n j)) hk8 (by rw [List.length_map, List.length_append, ol]; unfold sizeLine; omega), ?_⟩
              have hw9 : (upd H8 kn (.dK (putK ((S ++ orbL f n j).map entK) (Sum.inl (orb f n j)) (.bl true)))) wy = some (.dK ((orbL f n j).map entK)) := by rw [upd_ne nwk]; exact hw8
              refine ⟨_, rfl, _, rfl, wy, _, rfl, DPut.k (k := Sum.inl (orb f n j)) hw9 (by rw [List.length_map, ol]; unfold sizeLine; omega), ?_⟩
              have hq10 : (upd (upd H8 kn (.dK (putK ((S ++ orbL f n j).map entK) (Sum.inl (orb f n j)) (.bl true)))) wy (.dK (putK ((orbL f n j).map entK) (Sum.inl (orb f n j)) (.bl true)))) q = some (.lst [.int b, .int t, .int m]) := by
                rw [upd_ne nwq, upd_ne nqk]
                exact S8 _ _ (S7 _ _ (S6 _ _ hq nqd nqk)) nqk nwq
              refine ⟨_, rfl, _, rfl, q, b, t, m, _, rfl, SqL.of hq10, b1, b2, by omega, by omega, ?_⟩
              rw [bm]
              refine ⟨_, ⟨fun i2 hi2 => ?_, fun i2 i3 h2 h3 => ?_⟩, ?_, ?_, fun c o g n1 n2 => ?_, rfl⟩
              · rcases Nat.lt_or_ge i2 j with z | z
                · exact hw.out i2 z
                · rw [show i2 = j by omega]
                  exact nS
              · rcases Nat.lt_or_ge i3 j with z | z
                · exact hw.inj i2 i3 h2 z
                · rw [show i3 = j by omega]
                  exact fun z => nL ((orbL_mem f).mpr ⟨i2, by omega, z⟩)
              · rw [upd_ne nwk.symm, upd_same, putK_new _ (entK_none mem), orbL_succ, ← List.append_assoc, List.map_append (l₂ := [orb f n j])]
                rfl
              · rw [upd_same, putK_new _ (entK_none nL), orbL_succ, List.map_append]
                rfl
              · rw [upd_ne n2, upd_ne n1]
                exact S8 c o g n1 n2
          · rintro σ H8 ⟨x11, hw, hk8, hw8, S8, rfl⟩
            exfalso
            have := pigL (boxC sf.toNat) _ hw.nodup fun x hx => by
              obtain ⟨j, _, rfl⟩ := (orbL_mem f).mp hx
              exact mem_boxC (by have := near j; omega)
            rw [orbL_len, boxC_len] at this
            omega
        rintro σ H8 ⟨k, x11, hw, he, hk8, hw8, S8, rfl⟩
        have hd8 : H8 du = some (.dT (F.map entR)) := S8 _ _ (S7 _ _ hdu6) nkd.symm nwd.symm
        have hq8 : H8 q = some (.lst [.int b, .int t, .int m]) := S8 _ _ (S7 _ _ (S6 _ _ hq nqd nqk)) nqk nwq
        have S58 : ∀ c o, H5 c = some o → c ≠ du → c ≠ kn → H8 c = some o := fun c o g n1 n2 => S8 c o (S7 _ _ (S6 c o g n1 n2)) n2 (ne_of_none (S6 c o g n1 n2) nwy)
        have sb8 : ∀ x ∈ S ++ orbL f n k, ab x ≤ sf := fun x hx => by
          rcases List.mem_append.mp hx with z | z
          · exact sb x z
          · obtain ⟨j, _, rfl⟩ := (orbL_mem f).mp z
            exact near j
        have nS : n ∈ S ++ orbL f n k := by
          rcases Nat.eq_zero_or_pos k with z | z
          · subst z
            rcases he with he | ⟨i2, hi2, _⟩
            · exact List.mem_append_left _ he
            · omega
          · exact List.mem_append_right _ ((orbL_mem f).mpr ⟨0, z, rfl⟩)
        have st8 : ∀ x, -sf ≤ x → x < -sf + ((i + 1 : Nat) : Int) → x ∈ S ++ orbL f n k := fun x h1 h2 => by
          rcases Int.lt_or_le x n with z | z
          · exact List.mem_append_left _ (st x h1 (by omega))
          · rw [show x = n by omega]
            exact nS
        refine ⟨_, rfl, _, rfl, wy, _, rfl, DGet.k (k := Sum.inl (orb f n k)) hw8, _, rfl, ?_⟩
        rw [entK_get]
        by_cases mem : orb f n k ∈ orbL f n k
        · rw [decide_eq_true mem]
          obtain ⟨i2, hi2, ei2⟩ := (orbL_mem f).mp mem
          have hc : Comes f n k i2 := ⟨hi2, ei2, hw.inj⟩
          obtain ⟨rg, hrg, m0⟩ := hc.isRing
          rw [ei2] at m0
          obtain ⟨c0, r0⟩ := ring_self hrg.1 m0
          have once := (kn6.new hw hc hrg).once
          have nF : ¬ rg ∈ F := fun z => (List.nodup_append.mp once).2.2 rg z rg List.mem_cons_self rfl
          refine iteT ⟨_, rfl, _, rfl, _, rfl, q, b, t, m, orb f n k, rfl, hq8, b1, b2, by omega, by omega, by have := near k; omega, fun k2 i3 r2 u u2 H9 hc2 hr2 kl S9 hu hu2 => ?_⟩
          rw [hf] at hc2 hr2
          obtain ⟨rfl, rfl⟩ := c0.uniq hc2
          have er : r2 = rg := hr2.uniq hc2 r0
          subst er
          have hd9 := S9 _ _ hd8
          refine ⟨u, _, _, _, rfl, rfl, SqT.of hu, rfl, du, _, rfl, DPut.t (k := keyI r2) hd9 (by rw [keyI_kV]; exact hu2) (by rw [List.length_map]; unfold sizeLine; omega), ?_⟩
          refine ⟨S ++ orbL f n k, F ++ [r2], _, _, _, _, ?_, ?_, kn6.new hw hc hrg, by rw [List.length_append, List.length_singleton]; omega, sb8, st8, fun c o g n1 n2 => ?_, rfl⟩
          · rw [upd_same, putK_new _ (entR_none nF), List.map_append]
            rfl
          · rw [upd_ne nkd]
            exact S9 _ _ hk8
          · rw [upd_ne n1]
            exact S9 _ _ (S58 c o g n1 n2)
        · rw [decide_eq_false mem]
          have hold : orb f n k ∈ S := by
            rcases he with he | ⟨i2, hi2, ei2⟩
            · exact he
            · exact absurd ((orbL_mem f).mpr ⟨i2, hi2, ei2⟩) mem
          exact iteF ⟨S ++ orbL f n k, F, _, _, _, _, hd8, hk8, kn6.old hw hold, by omega, sb8, st8, S58, rfl⟩
      · rintro σ H6 ⟨S, F, x8, x9, x10, x11, hdu6, hkn6, kn6, fl6, sb, st, S6, rfl⟩
        refine ⟨S, F, x8, x9, x10, x11, hdu6, kn6.once, fun r => ?_, mkT fun fl2 g => S6 _ _ g npd npk, rfl⟩
        rw [kn6.mem]
        refine ⟨fun h => h.1, fun h => ⟨h, ?_⟩⟩
        obtain ⟨x, hx, ax⟩ := ring_small2 less sf2.1 h
        obtain ⟨a1, a2⟩ := ab_bd ax
        exact ⟨x, hx, st x (by omega) (by omega)⟩
    clear hT hq hdu hkn
    rintro σ H6 ⟨S, F, x8, x9, x10, x11, hdu, once, all, hT, rfl⟩
    rw [← hf] at all
    refine ⟨_, rfl, p, b, t, m, rfl, hT, fun R qs D H7 hR S7 hD hRs => ?_⟩
    refine ⟨_, rfl, du, F.map entR, F, rfl, S7 _ _ hdu, by rw [List.map_map]; rfl, fun r hr => ((all r).mp hr).ne, fun qs2 c D2 perm asc cq hD2 => ?_⟩
    have SD := same_upd (o := .lst (qs2.map V.ref)) hD2
    have e : R = qs2.map c := hR.uniq ⟨by rw [List.pairwise_map]; exact asc, perm.nodup_iff.mpr once, fun r => by rw [perm.mem_iff]; exact all r⟩
    have rs2 : RsAt H7 qs2 (qs2.map c) := by
      have : ∀ l : List Addr, (∀ x ∈ l, x ∈ qs2) → RsAt H7 l (l.map c) := by
        intro l
        induction l with
        | nil => exact fun _ => trivial
        | cons x l ih => exact fun h => ⟨cq x (h x List.mem_cons_self), ih fun y hy => h y (List.mem_cons_of_mem _ hy)⟩
      exact this qs2 fun _ h => h
    refine ⟨_, _, .lst (SqL.of (SD _ _ hD)) (dpAll_rings (hRs.of fun c xs g => SD _ _ g)), .lst (SqL.of upd_same) (dpAll_rings (rs2.of fun c xs g => SD _ _ g)), shaped_rings R, shaped_rings _, ?_⟩
    rw [← e, show PyData.eqv (.list (ringsD R)) (.list (ringsD R)) = true from by simp only [PyData.eqv]; exact eqv_rings R]
    exact kk _

end
/-! ### the end -/
theorem all_mk {l : PySem.W.OpenLaw} {w : World} {K : PySem.W.Frag} {h : Heap} {mg : Str → Option Value} {fa : Addr} (X : K.In h) (G : h.Ns mainGlobals mg) (hfa : mg "law" = some (.ref fa))
    {C_TrickError : Addr}
    {C_BadBase : Addr}
    {C_BadTake : Addr}
    {C_BadTimes : Addr}
    {C_BadTrick : Addr}
    {tk_LEAST_BASE : Tok}
    {tk_GREATEST_BASE : Tok}
    {tk_GREATEST_TAKE : Tok}
    {tk_GREATEST_TIMES : Tok}
    {a_is_integer : Addr} {od_is_integer an_is_integer : Option Addr} {sl_is_integer : Array (Option Value)} {oc_is_integer kV_is_integer dc_is_integer pm_is_integer cd_is_integer ct_is_integer : Value}
    {a_check_base : Addr} {od_check_base an_check_base : Option Addr} {sl_check_base : Array (Option Value)} {oc_check_base kV_check_base dc_check_base pm_check_base cd_check_base ct_check_base : Value}
    {a_check_take : Addr} {od_check_take an_check_take : Option Addr} {sl_check_take : Array (Option Value)} {oc_check_take kV_check_take dc_check_take pm_check_take cd_check_take ct_check_take : Value}
    {a_block_of : Addr} {od_block_of an_block_of : Option Addr} {sl_block_of : Array (Option Value)} {oc_block_of kV_block_of dc_block_of pm_block_of cd_block_of ct_block_of : Value}
    {a_check_trick : Addr} {od_check_trick an_check_trick : Option Addr} {sl_check_trick : Array (Option Value)} {oc_check_trick kV_check_trick dc_check_trick pm_check_trick cd_check_trick ct_check_trick : Value}
    {a_trick_block : Addr} {od_trick_block an_trick_block : Option Addr} {sl_trick_block : Array (Option Value)} {oc_trick_block kV_trick_block dc_trick_block pm_trick_block cd_trick_block ct_trick_block : Value}
    {a_made_of : Addr} {od_made_of an_made_of : Option Addr} {sl_made_of : Array (Option Value)} {oc_made_of kV_made_of dc_made_of pm_made_of cd_made_of ct_made_of : Value}
    {a_made_with : Addr} {od_made_with an_made_with : Option Addr} {sl_made_with : Array (Option Value)} {oc_made_with kV_made_with dc_made_with pm_made_with cd_made_with ct_made_with : Value}
    {a_bound : Addr} {od_bound an_bound : Option Addr} {sl_bound : Array (Option Value)} {oc_bound kV_bound dc_bound pm_bound cd_bound ct_bound : Value}
    {a_rings : Addr} {od_rings an_rings : Option Addr} {sl_rings : Array (Option Value)} {oc_rings kV_rings dc_rings pm_rings cd_rings ct_rings : Value}
    {a_greatest_size : Addr} {od_greatest_size an_greatest_size : Option Addr} {sl_greatest_size : Array (Option Value)} {oc_greatest_size kV_greatest_size dc_greatest_size pm_greatest_size cd_greatest_size ct_greatest_size : Value}
    {a_rounded_up : Addr} {od_rounded_up an_rounded_up : Option Addr} {sl_rounded_up : Array (Option Value)} {oc_rounded_up kV_rounded_up dc_rounded_up pm_rounded_up cd_rounded_up ct_rounded_up : Value}
    {a_unseen_path : Addr} {od_unseen_path an_unseen_path : Option Addr} {sl_unseen_path : Array (Option Value)} {oc_unseen_path kV_unseen_path dc_unseen_path pm_unseen_path cd_unseen_path ct_unseen_path : Value}
    {a_ring_at_end : Addr} {od_ring_at_end an_ring_at_end : Option Addr} {sl_ring_at_end : Array (Option Value)} {oc_ring_at_end kV_ring_at_end dc_ring_at_end pm_ring_at_end cd_ring_at_end ct_ring_at_end : Value}
    {a__law_taken : Addr} {od__law_taken an__law_taken : Option Addr} {sl__law_taken : Array (Option Value)} {oc__law_taken kV__law_taken dc__law_taken pm__law_taken cd__law_taken ct__law_taken : Value}
    {a__law_power : Addr} {od__law_power an__law_power : Option Addr} {sl__law_power : Array (Option Value)} {oc__law_power kV__law_power dc__law_power pm__law_power cd__law_power ct__law_power : Value}
    {a__law_trick : Addr} {od__law_trick an__law_trick : Option Addr} {sl__law_trick : Array (Option Value)} {oc__law_trick kV__law_trick dc__law_trick pm__law_trick cd__law_trick ct__law_trick : Value}
    {a__law_behind : Addr} {od__law_behind an__law_behind : Option Addr} {sl__law_behind : Array (Option Value)} {oc__law_behind kV__law_behind dc__law_behind pm__law_behind cd__law_behind ct__law_behind : Value}
    {a__law_ring : Addr} {od__law_ring an__law_ring : Option Addr} {sl__law_ring : Array (Option Value)} {oc__law_ring kV__law_ring dc__law_ring pm__law_ring cd__law_ring ct__law_ring : Value}
    {a_law : Addr} {od_law an_law : Option Addr} {sl_law : Array (Option Value)} {oc_law kV_law dc_law pm_law cd_law ct_law : Value}
    {C_Trick : Addr}
    {a_Trick___init__ : Addr} {od_Trick___init__ an_Trick___init__ : Option Addr} {sl_Trick___init__ : Array (Option Value)} {oc_Trick___init__ kV_Trick___init__ dc_Trick___init__ pm_Trick___init__ cd_Trick___init__ ct_Trick___init__ : Value}
    {pr_Trick_base : Addr} {rs_Trick_base : List Value}
    {a_Trick_base : Addr} {od_Trick_base an_Trick_base : Option Addr} {sl_Trick_base : Array (Option Value)} {oc_Trick_base kV_Trick_base dc_Trick_base pm_Trick_base cd_Trick_base ct_Trick_base : Value}
    {pr_Trick_take : Addr} {rs_Trick_take : List Value}
    {a_Trick_take : Addr} {od_Trick_take an_Trick_take : Option Addr} {sl_Trick_take : Array (Option Value)} {oc_Trick_take kV_Trick_take dc_Trick_take pm_Trick_take cd_Trick_take ct_Trick_take : Value}
    {pr_Trick_times : Addr} {rs_Trick_times : List Value}
    {a_Trick_times : Addr} {od_Trick_times an_Trick_times : Option Addr} {sl_Trick_times : Array (Option Value)} {oc_Trick_times kV_Trick_times dc_Trick_times pm_Trick_times cd_Trick_times ct_Trick_times : Value}
    {a_Trick___eq__ : Addr} {od_Trick___eq__ an_Trick___eq__ : Option Addr} {sl_Trick___eq__ : Array (Option Value)} {oc_Trick___eq__ kV_Trick___eq__ dc_Trick___eq__ pm_Trick___eq__ cd_Trick___eq__ ct_Trick___eq__ : Value}
    (gx_TrickError : PySem.W.nsIn K mainGlobals "TrickError" = some (some (.ref C_TrickError)))
    (x_TrickError : PySem.W.excIn K C_TrickError [.type "ValueError", .type "Exception", .type "BaseException", .type "object"] "ValueError.__new__" = true)
    (k_TrickError : PySem.W.keepIn K (.ref C_TrickError) = true)
    (s_TrickError : PySem.W.subIn K (.ref C_TrickError) (.type "BaseException") = some true)
    (t_TrickError : PySem.W.typeIn K (.ref C_TrickError) = some (.type "type"))
    (gx_BadBase : PySem.W.nsIn K mainGlobals "BadBase" = some (some (.ref C_BadBase)))
    (x_BadBase : PySem.W.excIn K C_BadBase [.type "ValueError", .type "Exception", .type "BaseException", .type "object"] "ValueError.__new__" = true)
    (k_BadBase : PySem.W.keepIn K (.ref C_BadBase) = true)
    (s_BadBase : PySem.W.subIn K (.ref C_BadBase) (.type "BaseException") = some true)
    (t_BadBase : PySem.W.typeIn K (.ref C_BadBase) = some (.type "type"))
    (gx_BadTake : PySem.W.nsIn K mainGlobals "BadTake" = some (some (.ref C_BadTake)))
    (x_BadTake : PySem.W.excIn K C_BadTake [.type "ValueError", .type "Exception", .type "BaseException", .type "object"] "ValueError.__new__" = true)
    (k_BadTake : PySem.W.keepIn K (.ref C_BadTake) = true)
    (s_BadTake : PySem.W.subIn K (.ref C_BadTake) (.type "BaseException") = some true)
    (t_BadTake : PySem.W.typeIn K (.ref C_BadTake) = some (.type "type"))
    (gx_BadTimes : PySem.W.nsIn K mainGlobals "BadTimes" = some (some (.ref C_BadTimes)))
    (x_BadTimes : PySem.W.excIn K C_BadTimes [.type "ValueError", .type "Exception", .type "BaseException", .type "object"] "ValueError.__new__" = true)
    (k_BadTimes : PySem.W.keepIn K (.ref C_BadTimes) = true)
    (s_BadTimes : PySem.W.subIn K (.ref C_BadTimes) (.type "BaseException") = some true)
    (t_BadTimes : PySem.W.typeIn K (.ref C_BadTimes) = some (.type "type"))
    (gx_BadTrick : PySem.W.nsIn K mainGlobals "BadTrick" = some (some (.ref C_BadTrick)))
    (x_BadTrick : PySem.W.excIn K C_BadTrick [.type "ValueError", .type "Exception", .type "BaseException", .type "object"] "ValueError.__new__" = true)
    (k_BadTrick : PySem.W.keepIn K (.ref C_BadTrick) = true)
    (s_BadTrick : PySem.W.subIn K (.ref C_BadTrick) (.type "BaseException") = some true)
    (t_BadTrick : PySem.W.typeIn K (.ref C_BadTrick) = some (.type "type"))
    (cx_LEAST_BASE : PySem.W.nsIn K mainGlobals "LEAST_BASE" = some (some (.int 2 tk_LEAST_BASE)))
    (cx_GREATEST_BASE : PySem.W.nsIn K mainGlobals "GREATEST_BASE" = some (some (.int 16 tk_GREATEST_BASE)))
    (cx_GREATEST_TAKE : PySem.W.nsIn K mainGlobals "GREATEST_TAKE" = some (some (.int 2 tk_GREATEST_TAKE)))
    (cx_GREATEST_TIMES : PySem.W.nsIn K mainGlobals "GREATEST_TIMES" = some (some (.int 100 tk_GREATEST_TIMES)))
    (gf_is_integer : PySem.W.nsIn K mainGlobals "is_integer" = some (some (.ref a_is_integer)))
    (l_is_integer : K.lookup a_is_integer = some ⟨oc_is_integer, od_is_integer, .func (PySem.W.fnOf "is_integer" "is_integer" (defArgs s_is_integer) (defBody s_is_integer) (defScope s_is_integer) .none kV_is_integer dc_is_integer pm_is_integer an_is_integer cd_is_integer ct_is_integer), sl_is_integer⟩)
    (c_is_integer : PySem.W.codeIn K cd_is_integer "is_integer" = true)
    (kp_is_integer : PySem.W.keepIn K (.ref a_is_integer) = true)
    (gf_check_base : PySem.W.nsIn K mainGlobals "check_base" = some (some (.ref a_check_base)))
    (l_check_base : K.lookup a_check_base = some ⟨oc_check_base, od_check_base, .func (PySem.W.fnOf "check_base" "check_base" (defArgs s_check_base) (defBody s_check_base) (defScope s_check_base) .none kV_check_base dc_check_base pm_check_base an_check_base cd_check_base ct_check_base), sl_check_base⟩)
    (c_check_base : PySem.W.codeIn K cd_check_base "check_base" = true)
    (kp_check_base : PySem.W.keepIn K (.ref a_check_base) = true)
    (gf_check_take : PySem.W.nsIn K mainGlobals "check_take" = some (some (.ref a_check_take)))
    (l_check_take : K.lookup a_check_take = some ⟨oc_check_take, od_check_take, .func (PySem.W.fnOf "check_take" "check_take" (defArgs s_check_take) (defBody s_check_take) (defScope s_check_take) .none kV_check_take dc_check_take pm_check_take an_check_take cd_check_take ct_check_take), sl_check_take⟩)
    (c_check_take : PySem.W.codeIn K cd_check_take "check_take" = true)
    (kp_check_take : PySem.W.keepIn K (.ref a_check_take) = true)
    (gf_block_of : PySem.W.nsIn K mainGlobals "block_of" = some (some (.ref a_block_of)))
    (l_block_of : K.lookup a_block_of = some ⟨oc_block_of, od_block_of, .func (PySem.W.fnOf "block_of" "block_of" (defArgs s_block_of) (defBody s_block_of) (defScope s_block_of) .none kV_block_of dc_block_of pm_block_of an_block_of cd_block_of ct_block_of), sl_block_of⟩)
    (c_block_of : PySem.W.codeIn K cd_block_of "block_of" = true)
    (kp_block_of : PySem.W.keepIn K (.ref a_block_of) = true)
    (gf_check_trick : PySem.W.nsIn K mainGlobals "check_trick" = some (some (.ref a_check_trick)))
    (l_check_trick : K.lookup a_check_trick = some ⟨oc_check_trick, od_check_trick, .func (PySem.W.fnOf "check_trick" "check_trick" (defArgs s_check_trick) (defBody s_check_trick) (defScope s_check_trick) .none kV_check_trick dc_check_trick pm_check_trick an_check_trick cd_check_trick ct_check_trick), sl_check_trick⟩)
    (c_check_trick : PySem.W.codeIn K cd_check_trick "check_trick" = true)
    (kp_check_trick : PySem.W.keepIn K (.ref a_check_trick) = true)
    (gf_trick_block : PySem.W.nsIn K mainGlobals "trick_block" = some (some (.ref a_trick_block)))
    (l_trick_block : K.lookup a_trick_block = some ⟨oc_trick_block, od_trick_block, .func (PySem.W.fnOf "trick_block" "trick_block" (defArgs s_trick_block) (defBody s_trick_block) (defScope s_trick_block) .none kV_trick_block dc_trick_block pm_trick_block an_trick_block cd_trick_block ct_trick_block), sl_trick_block⟩)
    (c_trick_block : PySem.W.codeIn K cd_trick_block "trick_block" = true)
    (kp_trick_block : PySem.W.keepIn K (.ref a_trick_block) = true)
    (gf_made_of : PySem.W.nsIn K mainGlobals "made_of" = some (some (.ref a_made_of)))
    (l_made_of : K.lookup a_made_of = some ⟨oc_made_of, od_made_of, .func (PySem.W.fnOf "made_of" "made_of" (defArgs s_made_of) (defBody s_made_of) (defScope s_made_of) .none kV_made_of dc_made_of pm_made_of an_made_of cd_made_of ct_made_of), sl_made_of⟩)
    (c_made_of : PySem.W.codeIn K cd_made_of "made_of" = true)
    (kp_made_of : PySem.W.keepIn K (.ref a_made_of) = true)
    (gf_made_with : PySem.W.nsIn K mainGlobals "made_with" = some (some (.ref a_made_with)))
    (l_made_with : K.lookup a_made_with = some ⟨oc_made_with, od_made_with, .func (PySem.W.fnOf "made_with" "made_with" (defArgs s_made_with) (defBody s_made_with) (defScope s_made_with) .none kV_made_with dc_made_with pm_made_with an_made_with cd_made_with ct_made_with), sl_made_with⟩)
    (c_made_with : PySem.W.codeIn K cd_made_with "made_with" = true)
    (kp_made_with : PySem.W.keepIn K (.ref a_made_with) = true)
    (gf_bound : PySem.W.nsIn K mainGlobals "bound" = some (some (.ref a_bound)))
    (l_bound : K.lookup a_bound = some ⟨oc_bound, od_bound, .func (PySem.W.fnOf "bound" "bound" (defArgs s_bound) (defBody s_bound) (defScope s_bound) .none kV_bound dc_bound pm_bound an_bound cd_bound ct_bound), sl_bound⟩)
    (c_bound : PySem.W.codeIn K cd_bound "bound" = true)
    (kp_bound : PySem.W.keepIn K (.ref a_bound) = true)
    (gf_rings : PySem.W.nsIn K mainGlobals "rings" = some (some (.ref a_rings)))
    (l_rings : K.lookup a_rings = some ⟨oc_rings, od_rings, .func (PySem.W.fnOf "rings" "rings" (defArgs s_rings) (defBody s_rings) (defScope s_rings) .none kV_rings dc_rings pm_rings an_rings cd_rings ct_rings), sl_rings⟩)
    (c_rings : PySem.W.codeIn K cd_rings "rings" = true)
    (kp_rings : PySem.W.keepIn K (.ref a_rings) = true)
    (gf_greatest_size : PySem.W.nsIn K mainGlobals "greatest_size" = some (some (.ref a_greatest_size)))
    (l_greatest_size : K.lookup a_greatest_size = some ⟨oc_greatest_size, od_greatest_size, .func (PySem.W.fnOf "greatest_size" "greatest_size" (defArgs s_greatest_size) (defBody s_greatest_size) (defScope s_greatest_size) .none kV_greatest_size dc_greatest_size pm_greatest_size an_greatest_size cd_greatest_size ct_greatest_size), sl_greatest_size⟩)
    (c_greatest_size : PySem.W.codeIn K cd_greatest_size "greatest_size" = true)
    (kp_greatest_size : PySem.W.keepIn K (.ref a_greatest_size) = true)
    (gf_rounded_up : PySem.W.nsIn K mainGlobals "rounded_up" = some (some (.ref a_rounded_up)))
    (l_rounded_up : K.lookup a_rounded_up = some ⟨oc_rounded_up, od_rounded_up, .func (PySem.W.fnOf "rounded_up" "rounded_up" (defArgs s_rounded_up) (defBody s_rounded_up) (defScope s_rounded_up) .none kV_rounded_up dc_rounded_up pm_rounded_up an_rounded_up cd_rounded_up ct_rounded_up), sl_rounded_up⟩)
    (c_rounded_up : PySem.W.codeIn K cd_rounded_up "rounded_up" = true)
    (kp_rounded_up : PySem.W.keepIn K (.ref a_rounded_up) = true)
    (gf_unseen_path : PySem.W.nsIn K mainGlobals "unseen_path" = some (some (.ref a_unseen_path)))
    (l_unseen_path : K.lookup a_unseen_path = some ⟨oc_unseen_path, od_unseen_path, .func (PySem.W.fnOf "unseen_path" "unseen_path" (defArgs s_unseen_path) (defBody s_unseen_path) (defScope s_unseen_path) .none kV_unseen_path dc_unseen_path pm_unseen_path an_unseen_path cd_unseen_path ct_unseen_path), sl_unseen_path⟩)
    (c_unseen_path : PySem.W.codeIn K cd_unseen_path "unseen_path" = true)
    (kp_unseen_path : PySem.W.keepIn K (.ref a_unseen_path) = true)
    (gf_ring_at_end : PySem.W.nsIn K mainGlobals "ring_at_end" = some (some (.ref a_ring_at_end)))
    (l_ring_at_end : K.lookup a_ring_at_end = some ⟨oc_ring_at_end, od_ring_at_end, .func (PySem.W.fnOf "ring_at_end" "ring_at_end" (defArgs s_ring_at_end) (defBody s_ring_at_end) (defScope s_ring_at_end) .none kV_ring_at_end dc_ring_at_end pm_ring_at_end an_ring_at_end cd_ring_at_end ct_ring_at_end), sl_ring_at_end⟩)
    (c_ring_at_end : PySem.W.codeIn K cd_ring_at_end "ring_at_end" = true)
    (kp_ring_at_end : PySem.W.keepIn K (.ref a_ring_at_end) = true)
    (gf__law_taken : PySem.W.nsIn K mainGlobals "_law_taken" = some (some (.ref a__law_taken)))
    (l__law_taken : K.lookup a__law_taken = some ⟨oc__law_taken, od__law_taken, .func (PySem.W.fnOf "_law_taken" "_law_taken" (defArgs s__law_taken) (defBody s__law_taken) (defScope s__law_taken) .none kV__law_taken dc__law_taken pm__law_taken an__law_taken cd__law_taken ct__law_taken), sl__law_taken⟩)
    (c__law_taken : PySem.W.codeIn K cd__law_taken "_law_taken" = true)
    (kp__law_taken : PySem.W.keepIn K (.ref a__law_taken) = true)
    (gf__law_power : PySem.W.nsIn K mainGlobals "_law_power" = some (some (.ref a__law_power)))
    (l__law_power : K.lookup a__law_power = some ⟨oc__law_power, od__law_power, .func (PySem.W.fnOf "_law_power" "_law_power" (defArgs s__law_power) (defBody s__law_power) (defScope s__law_power) .none kV__law_power dc__law_power pm__law_power an__law_power cd__law_power ct__law_power), sl__law_power⟩)
    (c__law_power : PySem.W.codeIn K cd__law_power "_law_power" = true)
    (kp__law_power : PySem.W.keepIn K (.ref a__law_power) = true)
    (gf__law_trick : PySem.W.nsIn K mainGlobals "_law_trick" = some (some (.ref a__law_trick)))
    (l__law_trick : K.lookup a__law_trick = some ⟨oc__law_trick, od__law_trick, .func (PySem.W.fnOf "_law_trick" "_law_trick" (defArgs s__law_trick) (defBody s__law_trick) (defScope s__law_trick) .none kV__law_trick dc__law_trick pm__law_trick an__law_trick cd__law_trick ct__law_trick), sl__law_trick⟩)
    (c__law_trick : PySem.W.codeIn K cd__law_trick "_law_trick" = true)
    (kp__law_trick : PySem.W.keepIn K (.ref a__law_trick) = true)
    (gf__law_behind : PySem.W.nsIn K mainGlobals "_law_behind" = some (some (.ref a__law_behind)))
    (l__law_behind : K.lookup a__law_behind = some ⟨oc__law_behind, od__law_behind, .func (PySem.W.fnOf "_law_behind" "_law_behind" (defArgs s__law_behind) (defBody s__law_behind) (defScope s__law_behind) .none kV__law_behind dc__law_behind pm__law_behind an__law_behind cd__law_behind ct__law_behind), sl__law_behind⟩)
    (c__law_behind : PySem.W.codeIn K cd__law_behind "_law_behind" = true)
    (kp__law_behind : PySem.W.keepIn K (.ref a__law_behind) = true)
    (gf__law_ring : PySem.W.nsIn K mainGlobals "_law_ring" = some (some (.ref a__law_ring)))
    (l__law_ring : K.lookup a__law_ring = some ⟨oc__law_ring, od__law_ring, .func (PySem.W.fnOf "_law_ring" "_law_ring" (defArgs s__law_ring) (defBody s__law_ring) (defScope s__law_ring) .none kV__law_ring dc__law_ring pm__law_ring an__law_ring cd__law_ring ct__law_ring), sl__law_ring⟩)
    (c__law_ring : PySem.W.codeIn K cd__law_ring "_law_ring" = true)
    (kp__law_ring : PySem.W.keepIn K (.ref a__law_ring) = true)
    (gf_law : PySem.W.nsIn K mainGlobals "law" = some (some (.ref a_law)))
    (l_law : K.lookup a_law = some ⟨oc_law, od_law, .func (PySem.W.fnOf "law" "law" (defArgs s_law) (defBody s_law) (defScope s_law) .none kV_law dc_law pm_law an_law cd_law ct_law), sl_law⟩)
    (c_law : PySem.W.codeIn K cd_law "law" = true)
    (kp_law : PySem.W.keepIn K (.ref a_law) = true)
    (gx_Trick : PySem.W.nsIn K mainGlobals "Trick" = some (some (.ref C_Trick)))
    (pg_Trick : PySem.W.plainGet K C_Trick Str.empty = true)
    (hd_Trick : PySem.W.hasDictIn K C_Trick = true)
    (po_Trick : PySem.W.plainOver K C_Trick = true)
    (sa_Trick : PySem.W.findIn K (.ref C_Trick) "__setattr__" = some (some (.builtin "object.__setattr__")))
    (mk_Trick : PySem.W.makesIn K C_Trick = true)
    (kc_Trick : PySem.W.keepIn K (.ref C_Trick) = true)
    (cc_Trick : PySem.W.findIn K (.ref C_Trick) "__class__" = some (some (.builtin "object.__class__")))
    (mo_Trick : PySem.W.mroIn K C_Trick (.type "object") = some true)
    (sp_cls : PySem.W.specialIn K (.builtin "object.__class__") "__get__" = some (some (.builtin "getset_descriptor.__get__")))
    (tk_cls : PySem.W.takesIn K (.builtin "object.__class__") = some true)
    (ki_Trick_int : PySem.W.kitOne K (.ref C_Trick) (.type "int") = some false)
    (ki_Trick_bool : PySem.W.kitOne K (.ref C_Trick) (.type "bool") = some false)
    (ki_Trick_tuple : PySem.W.kitOne K (.ref C_Trick) (.type "tuple") = some false)
    (nf_Trick_tuple : PySem.W.subIn K (.type "tuple") (.ref C_Trick) = some false)
    (kis_Trick : PySem.W.kitOne K (.ref C_Trick) (.ref C_Trick) = some true)
    (kin_Trick_int : PySem.W.kitOne K (.type "int") (.ref C_Trick) = some false)
    (kin_Trick_bool : PySem.W.kitOne K (.type "bool") (.ref C_Trick) = some false)
    (kin_Trick_tuple : PySem.W.kitOne K (.type "tuple") (.ref C_Trick) = some false)
    (kin_Trick_list : PySem.W.kitOne K (.type "list") (.ref C_Trick) = some false)
    (kin_Trick_NoneType : PySem.W.kitOne K (.type "NoneType") (.ref C_Trick) = some false)
    (kin_Trick_str : PySem.W.kitOne K (.type "str") (.ref C_Trick) = some false)
    (kin_Trick_dict : PySem.W.kitOne K (.type "dict") (.ref C_Trick) = some false)
    (na_Trick_base : PySem.W.findIn K (.ref C_Trick) "_base" = some none)
    (na_Trick_take : PySem.W.findIn K (.ref C_Trick) "_take" = some none)
    (na_Trick_times : PySem.W.findIn K (.ref C_Trick) "_times" = some none)
    (gf_Trick___init__ : PySem.W.findIn K (.ref C_Trick) "__init__" = some (some (.ref a_Trick___init__)))
    (l_Trick___init__ : K.lookup a_Trick___init__ = some ⟨oc_Trick___init__, od_Trick___init__, .func (PySem.W.fnOf "__init__" "Trick.__init__" (defArgs s_Trick___init__) (defBody s_Trick___init__) (defScope s_Trick___init__) .none kV_Trick___init__ dc_Trick___init__ pm_Trick___init__ an_Trick___init__ cd_Trick___init__ ct_Trick___init__), sl_Trick___init__⟩)
    (c_Trick___init__ : PySem.W.codeIn K cd_Trick___init__ "Trick.__init__" = true)
    (kp_Trick___init__ : PySem.W.keepIn K (.ref a_Trick___init__) = true)
    (isf_Trick___init__ : PySem.W.isFn K (.ref a_Trick___init__) = true)
    (pa_Trick_base : PySem.W.findIn K (.ref C_Trick) "base" = some (some (.ref pr_Trick_base)))
    (pg_Trick_base : PySem.W.specialIn K (.ref pr_Trick_base) "__get__" = some (some (.builtin "property.__get__")))
    (pt_Trick_base : PySem.W.takesIn K (.ref pr_Trick_base) = some true)
    (prr_Trick_base : PySem.W.recIn K pr_Trick_base "property" = some (.ref a_Trick_base :: rs_Trick_base))
    (l_Trick_base : K.lookup a_Trick_base = some ⟨oc_Trick_base, od_Trick_base, .func (PySem.W.fnOf "base" "Trick.base" (defArgs s_Trick_base) (defBody s_Trick_base) (defScope s_Trick_base) .none kV_Trick_base dc_Trick_base pm_Trick_base an_Trick_base cd_Trick_base ct_Trick_base), sl_Trick_base⟩)
    (c_Trick_base : PySem.W.codeIn K cd_Trick_base "Trick.base" = true)
    (kp_Trick_base : PySem.W.keepIn K (.ref a_Trick_base) = true)
    (pa_Trick_take : PySem.W.findIn K (.ref C_Trick) "take" = some (some (.ref pr_Trick_take)))
    (pg_Trick_take : PySem.W.specialIn K (.ref pr_Trick_take) "__get__" = some (some (.builtin "property.__get__")))
    (pt_Trick_take : PySem.W.takesIn K (.ref pr_Trick_take) = some true)
    (prr_Trick_take : PySem.W.recIn K pr_Trick_take "property" = some (.ref a_Trick_take :: rs_Trick_take))
    (l_Trick_take : K.lookup a_Trick_take = some ⟨oc_Trick_take, od_Trick_take, .func (PySem.W.fnOf "take" "Trick.take" (defArgs s_Trick_take) (defBody s_Trick_take) (defScope s_Trick_take) .none kV_Trick_take dc_Trick_take pm_Trick_take an_Trick_take cd_Trick_take ct_Trick_take), sl_Trick_take⟩)
    (c_Trick_take : PySem.W.codeIn K cd_Trick_take "Trick.take" = true)
    (kp_Trick_take : PySem.W.keepIn K (.ref a_Trick_take) = true)
    (pa_Trick_times : PySem.W.findIn K (.ref C_Trick) "times" = some (some (.ref pr_Trick_times)))
    (pg_Trick_times : PySem.W.specialIn K (.ref pr_Trick_times) "__get__" = some (some (.builtin "property.__get__")))
    (pt_Trick_times : PySem.W.takesIn K (.ref pr_Trick_times) = some true)
    (prr_Trick_times : PySem.W.recIn K pr_Trick_times "property" = some (.ref a_Trick_times :: rs_Trick_times))
    (l_Trick_times : K.lookup a_Trick_times = some ⟨oc_Trick_times, od_Trick_times, .func (PySem.W.fnOf "times" "Trick.times" (defArgs s_Trick_times) (defBody s_Trick_times) (defScope s_Trick_times) .none kV_Trick_times dc_Trick_times pm_Trick_times an_Trick_times cd_Trick_times ct_Trick_times), sl_Trick_times⟩)
    (c_Trick_times : PySem.W.codeIn K cd_Trick_times "Trick.times" = true)
    (kp_Trick_times : PySem.W.keepIn K (.ref a_Trick_times) = true)
    (gf_Trick___eq__ : PySem.W.findIn K (.ref C_Trick) "__eq__" = some (some (.ref a_Trick___eq__)))
    (l_Trick___eq__ : K.lookup a_Trick___eq__ = some ⟨oc_Trick___eq__, od_Trick___eq__, .func (PySem.W.fnOf "__eq__" "Trick.__eq__" (defArgs s_Trick___eq__) (defBody s_Trick___eq__) (defScope s_Trick___eq__) .none kV_Trick___eq__ dc_Trick___eq__ pm_Trick___eq__ an_Trick___eq__ cd_Trick___eq__ ct_Trick___eq__), sl_Trick___eq__⟩)
    (c_Trick___eq__ : PySem.W.codeIn K cd_Trick___eq__ "Trick.__eq__" = true)
    (kp_Trick___eq__ : PySem.W.keepIn K (.ref a_Trick___eq__) = true)
    (isf_Trick___eq__ : PySem.W.isFn K (.ref a_Trick___eq__) = true)
    (z_int : PySem.W.nsIn K mainGlobals "int" = some none)
    (z_bool : PySem.W.nsIn K mainGlobals "bool" = some none)
    (z_len : PySem.W.nsIn K mainGlobals "len" = some none)
    (z_range : PySem.W.nsIn K mainGlobals "range" = some none)
    (z_isinstance : PySem.W.nsIn K mainGlobals "isinstance" = some none)
    (z_tuple : PySem.W.nsIn K mainGlobals "tuple" = some none)
    (z_sorted : PySem.W.nsIn K mainGlobals "sorted" = some none)
    (z_abs : PySem.W.nsIn K mainGlobals "abs" = some none)
    (z_min : PySem.W.nsIn K mainGlobals "min" = some none)
    (z_max : PySem.W.nsIn K mainGlobals "max" = some none)
    (z_ValueError : PySem.W.nsIn K mainGlobals "ValueError" = some none)
    : ∃ fd : FuncData, (∀ (s : Shared) (v : Value), BindsTo s fd ⟨[v], []⟩ [("_law_script", v)]) ∧ ∀ base : Heap, K.In base → base.Ns mainGlobals mg → FnOk l.prog w K mg base CX0 lv_law fa fd ["_law_script"] (sp_law K) := by
  have e := hfa.symm.trans (PySem.W.mg_of X G gf_law)
  have e2 : a_law = fa := by cases e; rfl
  subst e2
  refine ⟨PySem.W.fnOf "law" "law" (defArgs s_law) (defBody s_law) (defScope s_law) .none kV_law dc_law pm_law an_law cd_law ct_law, fun s v => .of_eq rfl, fun base _ _ => ?_⟩
  exact ok_law (T :=
    { C_TrickError := C_TrickError,
      g_TrickError := PySem.W.mg_of X G gx_TrickError,
      x_TrickError := x_TrickError,
      k_TrickError := k_TrickError,
      s_TrickError := s_TrickError,
      t_TrickError := t_TrickError,
      C_BadBase := C_BadBase,
      g_BadBase := PySem.W.mg_of X G gx_BadBase,
      x_BadBase := x_BadBase,
      k_BadBase := k_BadBase,
      s_BadBase := s_BadBase,
      t_BadBase := t_BadBase,
      C_BadTake := C_BadTake,
      g_BadTake := PySem.W.mg_of X G gx_BadTake,
      x_BadTake := x_BadTake,
      k_BadTake := k_BadTake,
      s_BadTake := s_BadTake,
      t_BadTake := t_BadTake,
      C_BadTimes := C_BadTimes,
      g_BadTimes := PySem.W.mg_of X G gx_BadTimes,
      x_BadTimes := x_BadTimes,
      k_BadTimes := k_BadTimes,
      s_BadTimes := s_BadTimes,
      t_BadTimes := t_BadTimes,
      C_BadTrick := C_BadTrick,
      g_BadTrick := PySem.W.mg_of X G gx_BadTrick,
      x_BadTrick := x_BadTrick,
      k_BadTrick := k_BadTrick,
      s_BadTrick := s_BadTrick,
      t_BadTrick := t_BadTrick,
      t_c_LEAST_BASE := tk_LEAST_BASE,
      c_LEAST_BASE := PySem.W.mg_of X G cx_LEAST_BASE,
      t_c_GREATEST_BASE := tk_GREATEST_BASE,
      c_GREATEST_BASE := PySem.W.mg_of X G cx_GREATEST_BASE,
      t_c_GREATEST_TAKE := tk_GREATEST_TAKE,
      c_GREATEST_TAKE := PySem.W.mg_of X G cx_GREATEST_TAKE,
      t_c_GREATEST_TIMES := tk_GREATEST_TIMES,
      c_GREATEST_TIMES := PySem.W.mg_of X G cx_GREATEST_TIMES,
      a_is_integer := a_is_integer,
      d_is_integer := _,
      F_is_integer := fun_mk (st := s_is_integer) l_is_integer c_is_integer kp_is_integer,
      b_is_integer := (fun_mk (st := s_is_integer) l_is_integer c_is_integer kp_is_integer).binds (ps := ["told", "low", "high"]) fun _ _ _ _ _ _ us hl => match us, hl with | [_, _, _], _ => rfl,
      g_is_integer := PySem.W.mg_of X G gf_is_integer,
      a_check_base := a_check_base,
      d_check_base := _,
      F_check_base := fun_mk (st := s_check_base) l_check_base c_check_base kp_check_base,
      b_check_base := (fun_mk (st := s_check_base) l_check_base c_check_base kp_check_base).binds (ps := ["base"]) fun _ _ _ _ _ _ us hl => match us, hl with | [_], _ => rfl,
      g_check_base := PySem.W.mg_of X G gf_check_base,
      a_check_take := a_check_take,
      d_check_take := _,
      F_check_take := fun_mk (st := s_check_take) l_check_take c_check_take kp_check_take,
      b_check_take := (fun_mk (st := s_check_take) l_check_take c_check_take kp_check_take).binds (ps := ["take"]) fun _ _ _ _ _ _ us hl => match us, hl with | [_], _ => rfl,
      g_check_take := PySem.W.mg_of X G gf_check_take,
      a_block_of := a_block_of,
      d_block_of := _,
      F_block_of := fun_mk (st := s_block_of) l_block_of c_block_of kp_block_of,
      b_block_of := (fun_mk (st := s_block_of) l_block_of c_block_of kp_block_of).binds (ps := ["base", "take"]) fun _ _ _ _ _ _ us hl => match us, hl with | [_, _], _ => rfl,
      g_block_of := PySem.W.mg_of X G gf_block_of,
      a_check_trick := a_check_trick,
      d_check_trick := _,
      F_check_trick := fun_mk (st := s_check_trick) l_check_trick c_check_trick kp_check_trick,
      b_check_trick := (fun_mk (st := s_check_trick) l_check_trick c_check_trick kp_check_trick).binds (ps := ["trick"]) fun _ _ _ _ _ _ us hl => match us, hl with | [_], _ => rfl,
      g_check_trick := PySem.W.mg_of X G gf_check_trick,
      a_trick_block := a_trick_block,
      d_trick_block := _,
      F_trick_block := fun_mk (st := s_trick_block) l_trick_block c_trick_block kp_trick_block,
      b_trick_block := (fun_mk (st := s_trick_block) l_trick_block c_trick_block kp_trick_block).binds (ps := ["trick"]) fun _ _ _ _ _ _ us hl => match us, hl with | [_], _ => rfl,
      g_trick_block := PySem.W.mg_of X G gf_trick_block,
      a_made_of := a_made_of,
      d_made_of := _,
      F_made_of := fun_mk (st := s_made_of) l_made_of c_made_of kp_made_of,
      b_made_of := (fun_mk (st := s_made_of) l_made_of c_made_of kp_made_of).binds (ps := ["trick", "n"]) fun _ _ _ _ _ _ us hl => match us, hl with | [_, _], _ => rfl,
      g_made_of := PySem.W.mg_of X G gf_made_of,
      a_made_with := a_made_with,
      d_made_with := _,
      F_made_with := fun_mk (st := s_made_with) l_made_with c_made_with kp_made_with,
      b_made_with := (fun_mk (st := s_made_with) l_made_with c_made_with kp_made_with).binds (ps := ["block", "times", "n"]) fun _ _ _ _ _ _ us hl => match us, hl with | [_, _, _], _ => rfl,
      g_made_with := PySem.W.mg_of X G gf_made_with,
      a_bound := a_bound,
      d_bound := _,
      F_bound := fun_mk (st := s_bound) l_bound c_bound kp_bound,
      b_bound := (fun_mk (st := s_bound) l_bound c_bound kp_bound).binds (ps := ["trick"]) fun _ _ _ _ _ _ us hl => match us, hl with | [_], _ => rfl,
      g_bound := PySem.W.mg_of X G gf_bound,
      a_rings := a_rings,
      d_rings := _,
      F_rings := fun_mk (st := s_rings) l_rings c_rings kp_rings,
      b_rings := (fun_mk (st := s_rings) l_rings c_rings kp_rings).binds (ps := ["trick"]) fun _ _ _ _ _ _ us hl => match us, hl with | [_], _ => rfl,
      g_rings := PySem.W.mg_of X G gf_rings,
      a_greatest_size := a_greatest_size,
      d_greatest_size := _,
      F_greatest_size := fun_mk (st := s_greatest_size) l_greatest_size c_greatest_size kp_greatest_size,
      b_greatest_size := (fun_mk (st := s_greatest_size) l_greatest_size c_greatest_size kp_greatest_size).binds (ps := ["block", "times", "rest"]) fun _ _ _ _ _ _ us hl => match us, hl with | [_, _, _], _ => rfl,
      g_greatest_size := PySem.W.mg_of X G gf_greatest_size,
      a_rounded_up := a_rounded_up,
      d_rounded_up := _,
      F_rounded_up := fun_mk (st := s_rounded_up) l_rounded_up c_rounded_up kp_rounded_up,
      b_rounded_up := (fun_mk (st := s_rounded_up) l_rounded_up c_rounded_up kp_rounded_up).binds (ps := ["n", "d"]) fun _ _ _ _ _ _ us hl => match us, hl with | [_, _], _ => rfl,
      g_rounded_up := PySem.W.mg_of X G gf_rounded_up,
      a_unseen_path := a_unseen_path,
      d_unseen_path := _,
      F_unseen_path := fun_mk (st := s_unseen_path) l_unseen_path c_unseen_path kp_unseen_path,
      b_unseen_path := (fun_mk (st := s_unseen_path) l_unseen_path c_unseen_path kp_unseen_path).binds (ps := ["trick", "n", "seen"]) fun _ _ _ _ _ _ us hl => match us, hl with | [_, _, _], _ => rfl,
      g_unseen_path := PySem.W.mg_of X G gf_unseen_path,
      a_ring_at_end := a_ring_at_end,
      d_ring_at_end := _,
      F_ring_at_end := fun_mk (st := s_ring_at_end) l_ring_at_end c_ring_at_end kp_ring_at_end,
      b_ring_at_end := (fun_mk (st := s_ring_at_end) l_ring_at_end c_ring_at_end kp_ring_at_end).binds (ps := ["trick", "path"]) fun _ _ _ _ _ _ us hl => match us, hl with | [_, _], _ => rfl,
      g_ring_at_end := PySem.W.mg_of X G gf_ring_at_end,
      a__law_taken := a__law_taken,
      d__law_taken := _,
      F__law_taken := fun_mk (st := s__law_taken) l__law_taken c__law_taken kp__law_taken,
      b__law_taken := (fun_mk (st := s__law_taken) l__law_taken c__law_taken kp__law_taken).binds (ps := ["_law_row", "_law_many"]) fun _ _ _ _ _ _ us hl => match us, hl with | [_, _], _ => rfl,
      g__law_taken := PySem.W.mg_of X G gf__law_taken,
      a__law_power := a__law_power,
      d__law_power := _,
      F__law_power := fun_mk (st := s__law_power) l__law_power c__law_power kp__law_power,
      b__law_power := (fun_mk (st := s__law_power) l__law_power c__law_power kp__law_power).binds (ps := ["_law_base", "_law_many"]) fun _ _ _ _ _ _ us hl => match us, hl with | [_, _], _ => rfl,
      g__law_power := PySem.W.mg_of X G gf__law_power,
      a__law_trick := a__law_trick,
      d__law_trick := _,
      F__law_trick := fun_mk (st := s__law_trick) l__law_trick c__law_trick kp__law_trick,
      b__law_trick := (fun_mk (st := s__law_trick) l__law_trick c__law_trick kp__law_trick).binds (ps := ["_law_row", "_law_small"]) fun _ _ _ _ _ _ us hl => match us, hl with | [_, _], _ => rfl,
      g__law_trick := PySem.W.mg_of X G gf__law_trick,
      a__law_behind := a__law_behind,
      d__law_behind := _,
      F__law_behind := fun_mk (st := s__law_behind) l__law_behind c__law_behind kp__law_behind,
      b__law_behind := (fun_mk (st := s__law_behind) l__law_behind c__law_behind kp__law_behind).binds (ps := ["_law_told", "_law_n"]) fun _ _ _ _ _ _ us hl => match us, hl with | [_, _], _ => rfl,
      g__law_behind := PySem.W.mg_of X G gf__law_behind,
      a__law_ring := a__law_ring,
      d__law_ring := _,
      F__law_ring := fun_mk (st := s__law_ring) l__law_ring c__law_ring kp__law_ring,
      b__law_ring := (fun_mk (st := s__law_ring) l__law_ring c__law_ring kp__law_ring).binds (ps := ["_law_told", "_law_n"]) fun _ _ _ _ _ _ us hl => match us, hl with | [_, _], _ => rfl,
      g__law_ring := PySem.W.mg_of X G gf__law_ring,
      a_law := a_law,
      d_law := _,
      F_law := fun_mk (st := s_law) l_law c_law kp_law,
      b_law := (fun_mk (st := s_law) l_law c_law kp_law).binds (ps := ["_law_script"]) fun _ _ _ _ _ _ us hl => match us, hl with | [_], _ => rfl,
      g_law := PySem.W.mg_of X G gf_law,
      C_Trick := C_Trick,
      cl_Trick := ⟨pg_Trick, hd_Trick, po_Trick, sa_Trick⟩,
      g_Trick := PySem.W.mg_of X G gx_Trick,
      kc_Trick := kc_Trick,
      ins_Trick := fun _ _ _ _ e => .ins e ⟨pg_Trick, hd_Trick, po_Trick, sa_Trick⟩ cc_Trick sp_cls tk_cls mo_Trick,
      ki_Trick_int := ki_Trick_int,
      ki_Trick_bool := ki_Trick_bool,
      ki_Trick_tuple := ki_Trick_tuple,
      nf_Trick_tuple := nf_Trick_tuple,
      kis_Trick := kis_Trick,
      kin_Trick_int := kin_Trick_int,
      kin_Trick_bool := kin_Trick_bool,
      kin_Trick_tuple := kin_Trick_tuple,
      kin_Trick_list := kin_Trick_list,
      kin_Trick_NoneType := kin_Trick_NoneType,
      kin_Trick_str := kin_Trick_str,
      kin_Trick_dict := kin_Trick_dict,
      na_Trick_base := na_Trick_base,
      na_Trick_take := na_Trick_take,
      na_Trick_times := na_Trick_times,
      a_Trick___init__ := a_Trick___init__,
      d_Trick___init__ := _,
      F_Trick___init__ := fun_mk (st := s_Trick___init__) l_Trick___init__ c_Trick___init__ kp_Trick___init__,
      b_Trick___init__ := (fun_mk (st := s_Trick___init__) l_Trick___init__ c_Trick___init__ kp_Trick___init__).binds (ps := ["self", "base", "take", "times"]) fun _ _ _ _ _ _ us hl => match us, hl with | [_, _, _, _], _ => rfl,
      mk_Trick := ⟨mk_Trick, gf_Trick___init__, isf_Trick___init__, kc_Trick⟩,
      a_Trick_base := a_Trick_base,
      d_Trick_base := _,
      F_Trick_base := fun_mk (st := s_Trick_base) l_Trick_base c_Trick_base kp_Trick_base,
      b_Trick_base := (fun_mk (st := s_Trick_base) l_Trick_base c_Trick_base kp_Trick_base).binds (ps := ["self"]) fun _ _ _ _ _ _ us hl => match us, hl with | [_], _ => rfl,
      q_Trick_base := pr_Trick_base,
      p_Trick_base := ⟨pa_Trick_base, pg_Trick_base, pt_Trick_base, ⟨_, prr_Trick_base⟩⟩,
      a_Trick_take := a_Trick_take,
      d_Trick_take := _,
      F_Trick_take := fun_mk (st := s_Trick_take) l_Trick_take c_Trick_take kp_Trick_take,
      b_Trick_take := (fun_mk (st := s_Trick_take) l_Trick_take c_Trick_take kp_Trick_take).binds (ps := ["self"]) fun _ _ _ _ _ _ us hl => match us, hl with | [_], _ => rfl,
      q_Trick_take := pr_Trick_take,
      p_Trick_take := ⟨pa_Trick_take, pg_Trick_take, pt_Trick_take, ⟨_, prr_Trick_take⟩⟩,
      a_Trick_times := a_Trick_times,
      d_Trick_times := _,
      F_Trick_times := fun_mk (st := s_Trick_times) l_Trick_times c_Trick_times kp_Trick_times,
      b_Trick_times := (fun_mk (st := s_Trick_times) l_Trick_times c_Trick_times kp_Trick_times).binds (ps := ["self"]) fun _ _ _ _ _ _ us hl => match us, hl with | [_], _ => rfl,
      q_Trick_times := pr_Trick_times,
      p_Trick_times := ⟨pa_Trick_times, pg_Trick_times, pt_Trick_times, ⟨_, prr_Trick_times⟩⟩,
      a_Trick___eq__ := a_Trick___eq__,
      d_Trick___eq__ := _,
      F_Trick___eq__ := fun_mk (st := s_Trick___eq__) l_Trick___eq__ c_Trick___eq__ kp_Trick___eq__,
      b_Trick___eq__ := (fun_mk (st := s_Trick___eq__) l_Trick___eq__ c_Trick___eq__ kp_Trick___eq__).binds (ps := ["self", "other"]) fun _ _ _ _ _ _ us hl => match us, hl with | [_, _], _ => rfl,
      m_Trick___eq__ := ⟨gf_Trick___eq__, isf_Trick___eq__, kp_Trick___eq__⟩,
      n_int := PySem.W.mg_none_of X G z_int,
      n_bool := PySem.W.mg_none_of X G z_bool,
      n_len := PySem.W.mg_none_of X G z_len,
      n_range := PySem.W.mg_none_of X G z_range,
      n_isinstance := PySem.W.mg_none_of X G z_isinstance,
      n_tuple := PySem.W.mg_none_of X G z_tuple,
      n_sorted := PySem.W.mg_none_of X G z_sorted,
      n_abs := PySem.W.mg_none_of X G z_abs,
      n_min := PySem.W.mg_none_of X G z_min,
      n_max := PySem.W.mg_none_of X G z_max,
      n_ValueError := PySem.W.mg_none_of X G z_ValueError })
theorem walk {l : PySem.W.OpenLaw} {q : Program} {loose : List Str} {XP : (Str → Option Value) → Heap → Prop} {YP : World → Heap → Prop} {d : DefRec} {K : Params → PySem.W.Frag} (hn : l.most = some 63) (hdf : d.params.defaults = [])
    (hY : ∀ (w : World) (h : Heap), YP w h → (K w.params).In h)
    (F : ∀ (w : World) (mg : Str → Option Value) (fa : Addr) (h : Heap), (K w.params).In h → h.Ns mainGlobals mg → mg d.name = some (.ref fa) →
      ∃ fd : FuncData, (∀ (s : Shared) (u : Value), BindsTo s fd ⟨[u], []⟩ [("_law_script", u)]) ∧ ∀ base : Heap, (K w.params).In base → base.Ns mainGlobals mg → FnOk l.prog w (K w.params) mg base CX0 lv_law fa fd ["_law_script"] (sp_law (K w.params))) :
    PySem.W.WalkO q loose XP YP l.row.toRowW d [] (fun f vs => PySem.call f vs) :=
  L2.walk_of (n := 63) (k := lv_law) (x := "_law_script") (CX := fun _ => CX0) (sp := fun w => sp_law (K w.params)) hn (by decide) hdf ⟨rfl, by decide, by decide⟩ hY F (fun _ _ a ns hl hO hS => ⟨a, ns, rfl, scr_of hO hS, hl, fun _ => rfl⟩) fun _ _ _ _ _ z => z
end Rt
open PySem PySem.W PyProof.Rows
set_option maxRecDepth 100000 in
set_option maxHeartbeats 0 in
theorem PySem.Challenge.cw_resttricks_k13_whole_rings_holds : PySem.Challenge.rw_resttricks_k13_whole_rings.Holds := by
  w_on; o_law; k_head; (case hw => w_witness2)
  k_fill
  refine Rt.walk (l := PySem.Challenge.rw_resttricks_k13_whole_rings) rfl rfl (fun w h Y => PySem.W.kIn_of Y) ?F
  case F =>
    intro w mg fa h KX G hmg
    refine' Rt.all_mk KX G hmg ?gx_TrickError ?x_TrickError ?k_TrickError ?s_TrickError ?t_TrickError ?gx_BadBase ?x_BadBase ?k_BadBase ?s_BadBase ?t_BadBase ?gx_BadTake ?x_BadTake ?k_BadTake ?s_BadTake ?t_BadTake ?gx_BadTimes ?x_BadTimes ?k_BadTimes ?s_BadTimes ?t_BadTimes ?gx_BadTrick ?x_BadTrick ?k_BadTrick ?s_BadTrick ?t_BadTrick ?cx_LEAST_BASE ?cx_GREATEST_BASE ?cx_GREATEST_TAKE ?cx_GREATEST_TIMES ?gf_is_integer ?l_is_integer ?c_is_integer ?kp_is_integer ?gf_check_base ?l_check_base ?c_check_base ?kp_check_base ?gf_check_take ?l_check_take ?c_check_take ?kp_check_take ?gf_block_of ?l_block_of ?c_block_of ?kp_block_of ?gf_check_trick ?l_check_trick ?c_check_trick ?kp_check_trick ?gf_trick_block ?l_trick_block ?c_trick_block ?kp_trick_block ?gf_made_of ?l_made_of ?c_made_of ?kp_made_of ?gf_made_with ?l_made_with ?c_made_with ?kp_made_with ?gf_bound ?l_bound ?c_bound ?kp_bound ?gf_rings ?l_rings ?c_rings ?kp_rings ?gf_greatest_size ?l_greatest_size ?c_greatest_size ?kp_greatest_size ?gf_rounded_up ?l_rounded_up ?c_rounded_up ?kp_rounded_up ?gf_unseen_path ?l_unseen_path ?c_unseen_path ?kp_unseen_path ?gf_ring_at_end ?l_ring_at_end ?c_ring_at_end ?kp_ring_at_end ?gf__law_taken ?l__law_taken ?c__law_taken ?kp__law_taken ?gf__law_power ?l__law_power ?c__law_power ?kp__law_power ?gf__law_trick ?l__law_trick ?c__law_trick ?kp__law_trick ?gf__law_behind ?l__law_behind ?c__law_behind ?kp__law_behind ?gf__law_ring ?l__law_ring ?c__law_ring ?kp__law_ring ?gf_law ?l_law ?c_law ?kp_law ?gx_Trick ?pg_Trick ?hd_Trick ?po_Trick ?sa_Trick ?mk_Trick ?kc_Trick ?cc_Trick ?mo_Trick ?sp_cls ?tk_cls ?ki_Trick_int ?ki_Trick_bool ?ki_Trick_tuple ?nf_Trick_tuple ?kis_Trick ?kin_Trick_int ?kin_Trick_bool ?kin_Trick_tuple ?kin_Trick_list ?kin_Trick_NoneType ?kin_Trick_str ?kin_Trick_dict ?na_Trick_base ?na_Trick_take ?na_Trick_times ?gf_Trick___init__ ?l_Trick___init__ ?c_Trick___init__ ?kp_Trick___init__ ?isf_Trick___init__ ?pa_Trick_base ?pg_Trick_base ?pt_Trick_base ?prr_Trick_base ?l_Trick_base ?c_Trick_base ?kp_Trick_base ?pa_Trick_take ?pg_Trick_take ?pt_Trick_take ?prr_Trick_take ?l_Trick_take ?c_Trick_take ?kp_Trick_take ?pa_Trick_times ?pg_Trick_times ?pt_Trick_times ?prr_Trick_times ?l_Trick_times ?c_Trick_times ?kp_Trick_times ?gf_Trick___eq__ ?l_Trick___eq__ ?c_Trick___eq__ ?kp_Trick___eq__ ?isf_Trick___eq__ ?z_int ?z_bool ?z_len ?z_range ?z_isinstance ?z_tuple ?z_sorted ?z_abs ?z_min ?z_max ?z_ValueError
    (case gx_TrickError => k_is)
    (case x_TrickError => k_exc)
    (case k_TrickError => k_is)
    (case s_TrickError => k_is)
    (case t_TrickError => k_is)
    (case gx_BadBase => k_is)
    (case x_BadBase => k_exc)
    (case k_BadBase => k_is)
    (case s_BadBase => k_is)
    (case t_BadBase => k_is)
    (case gx_BadTake => k_is)
    (case x_BadTake => k_exc)
    (case k_BadTake => k_is)
    (case s_BadTake => k_is)
    (case t_BadTake => k_is)
    (case gx_BadTimes => k_is)
    (case x_BadTimes => k_exc)
    (case k_BadTimes => k_is)
    (case s_BadTimes => k_is)
    (case t_BadTimes => k_is)
    (case gx_BadTrick => k_is)
    (case x_BadTrick => k_exc)
    (case k_BadTrick => k_is)
    (case s_BadTrick => k_is)
    (case t_BadTrick => k_is)
    (case cx_LEAST_BASE => k_is)
    (case cx_GREATEST_BASE => k_is)
    (case cx_GREATEST_TAKE => k_is)
    (case cx_GREATEST_TIMES => k_is)
    (case gf_is_integer => k_is)
    (case l_is_integer => k_is)
    (case c_is_integer => k_is)
    (case kp_is_integer => k_is)
    (case gf_check_base => k_is)
    (case l_check_base => k_is)
    (case c_check_base => k_is)
    (case kp_check_base => k_is)
    (case gf_check_take => k_is)
    (case l_check_take => k_is)
    (case c_check_take => k_is)
    (case kp_check_take => k_is)
    (case gf_block_of => k_is)
    (case l_block_of => k_is)
    (case c_block_of => k_is)
    (case kp_block_of => k_is)
    (case gf_check_trick => k_is)
    (case l_check_trick => k_is)
    (case c_check_trick => k_is)
    (case kp_check_trick => k_is)
    (case gf_trick_block => k_is)
    (case l_trick_block => k_is)
    (case c_trick_block => k_is)
    (case kp_trick_block => k_is)
    (case gf_made_of => k_is)
    (case l_made_of => k_is)
    (case c_made_of => k_is)
    (case kp_made_of => k_is)
    (case gf_made_with => k_is)
    (case l_made_with => k_is)
    (case c_made_with => k_is)
    (case kp_made_with => k_is)
    (case gf_bound => k_is)
    (case l_bound => k_is)
    (case c_bound => k_is)
    (case kp_bound => k_is)
    (case gf_rings => k_is)
    (case l_rings => k_is)
    (case c_rings => k_is)
    (case kp_rings => k_is)
    (case gf_greatest_size => k_is)
    (case l_greatest_size => k_is)
    (case c_greatest_size => k_is)
    (case kp_greatest_size => k_is)
    (case gf_rounded_up => k_is)
    (case l_rounded_up => k_is)
    (case c_rounded_up => k_is)
    (case kp_rounded_up => k_is)
    (case gf_unseen_path => k_is)
    (case l_unseen_path => k_is)
    (case c_unseen_path => k_is)
    (case kp_unseen_path => k_is)
    (case gf_ring_at_end => k_is)
    (case l_ring_at_end => k_is)
    (case c_ring_at_end => k_is)
    (case kp_ring_at_end => k_is)
    (case gf__law_taken => k_is)
    (case l__law_taken => k_is)
    (case c__law_taken => k_is)
    (case kp__law_taken => k_is)
    (case gf__law_power => k_is)
    (case l__law_power => k_is)
    (case c__law_power => k_is)
    (case kp__law_power => k_is)
    (case gf__law_trick => k_is)
    (case l__law_trick => k_is)
    (case c__law_trick => k_is)
    (case kp__law_trick => k_is)
    (case gf__law_behind => k_is)
    (case l__law_behind => k_is)
    (case c__law_behind => k_is)
    (case kp__law_behind => k_is)
    (case gf__law_ring => k_is)
    (case l__law_ring => k_is)
    (case c__law_ring => k_is)
    (case kp__law_ring => k_is)
    (case gf_law => k_is)
    (case l_law => k_is)
    (case c_law => k_is)
    (case kp_law => k_is)
    (case gx_Trick => k_is)
    (case pg_Trick => k_is)
    (case hd_Trick => k_is)
    (case po_Trick => k_is)
    (case sa_Trick => k_is)
    (case mk_Trick => k_is)
    (case kc_Trick => k_is)
    (case cc_Trick => k_is)
    (case mo_Trick => k_is)
    (case sp_cls => k_is)
    (case tk_cls => k_is)
    (case ki_Trick_int => first | k_is | rfl)
    (case ki_Trick_bool => first | k_is | rfl)
    (case ki_Trick_tuple => first | k_is | rfl)
    (case nf_Trick_tuple => first | k_is | rfl)
    (case kis_Trick => first | k_is | rfl)
    (case kin_Trick_int => first | k_is | rfl)
    (case kin_Trick_bool => first | k_is | rfl)
    (case kin_Trick_tuple => first | k_is | rfl)
    (case kin_Trick_list => first | k_is | rfl)
    (case kin_Trick_NoneType => first | k_is | rfl)
    (case kin_Trick_str => first | k_is | rfl)
    (case kin_Trick_dict => first | k_is | rfl)
    (case na_Trick_base => k_is)
    (case na_Trick_take => k_is)
    (case na_Trick_times => k_is)
    (case gf_Trick___init__ => k_is)
    (case l_Trick___init__ => k_is)
    (case c_Trick___init__ => k_is)
    (case kp_Trick___init__ => k_is)
    (case isf_Trick___init__ => k_is)
    (case pa_Trick_base => k_is)
    (case pg_Trick_base => k_is)
    (case pt_Trick_base => k_is)
    (case prr_Trick_base => k_is)
    (case l_Trick_base => k_is)
    (case c_Trick_base => k_is)
    (case kp_Trick_base => k_is)
    (case pa_Trick_take => k_is)
    (case pg_Trick_take => k_is)
    (case pt_Trick_take => k_is)
    (case prr_Trick_take => k_is)
    (case l_Trick_take => k_is)
    (case c_Trick_take => k_is)
    (case kp_Trick_take => k_is)
    (case pa_Trick_times => k_is)
    (case pg_Trick_times => k_is)
    (case pt_Trick_times => k_is)
    (case prr_Trick_times => k_is)
    (case l_Trick_times => k_is)
    (case c_Trick_times => k_is)
    (case kp_Trick_times => k_is)
    (case gf_Trick___eq__ => k_is)
    (case l_Trick___eq__ => k_is)
    (case c_Trick___eq__ => k_is)
    (case kp_Trick___eq__ => k_is)
    (case isf_Trick___eq__ => k_is)
    (case z_int => k_is)
    (case z_bool => k_is)
    (case z_len => k_is)
    (case z_range => k_is)
    (case z_isinstance => k_is)
    (case z_tuple => k_is)
    (case z_sorted => k_is)
    (case z_abs => k_is)
    (case z_min => k_is)
    (case z_max => k_is)
    (case z_ValueError => k_is)
#print axioms PySem.Challenge.cw_resttricks_k13_whole_rings_holds
