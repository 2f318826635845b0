import PyProof.Rows.All
import Wide.All
import OpenK.AllK
import Wide.FinOn
import HandS.ForMost
import HandS.Exc
import HandS.TryOnly
import HandS.ExcOwn
import HandS.WordsExc
import HandS.TryMany
import HandS.IsInst
import HandS.Property
import HandS.Wide
import HandS.SortInts
import HandS.Conv
import HandS.Evl
import HandS.NoneIn
import HandS.ExcIs
import HandS.ExcSuper
import KE.KExcSuper
import KE.KExcInit
import KE.GoesMore
import HandS.Rev
import HandS.FStr
import HandS.Walk
import HandS.WideMore
import HandS.TupAny
import HandS.TupMul
import HandS.Style
import HandS.SetFor
import HandS.Strs
import HandS.Defaults
import HandS.RaiseMore
import HandS.Zip
import HandS.OwnEq
import HandS.DeepEq
import HandS.Deep
import KE.KSortTupG
import HandS.DictTup
import HandS.Conv
import PySem.Challenge.RW_resttricks_k41_asked_again
import HandS.Head2
set_option Elab.async false
set_option linter.all false
set_option maxRecDepth 100000
set_option maxHeartbeats 2000000
/-! ### the top, run -/
namespace Rt
section
open PySem PySem.W PySem.Calls PyProof.Rows
abbrev topRow : OpenRow := OpenLaw.row PySem.Challenge.rw_resttricks_k41_asked_again
section
local macro_rules | `(tactic| o_head $_) => `(tactic| assumption)
theorem topPart (h : OpenRow.Holds topRow) : OpenRow.Holds topRow := by k_head
end
def topOthers0 : List PySem.Str := [("__name__" : PySem.Str), ("TrickError" : PySem.Str), ("BadBase" : PySem.Str), ("BadTake" : PySem.Str), ("BadTimes" : PySem.Str), ("BadTrick" : PySem.Str), ("BadNumber" : PySem.Str), ("BadDivisor" : PySem.Str), ("BadTricks" : PySem.Str), ("BadPairs" : PySem.Str)]
def topOthers1 : List PySem.Str := [("TooWide" : PySem.Str), ("GREATEST_NUMBER" : PySem.Str), ("LEAST_BASE" : PySem.Str), ("GREATEST_BASE" : PySem.Str), ("GREATEST_TAKE" : PySem.Str), ("GREATEST_DIVISOR" : PySem.Str), ("is_integer" : PySem.Str), ("is_list_or_tuple" : PySem.Str), ("is_number" : PySem.Str), ("check_base" : PySem.Str)]
def topOthers2 : List PySem.Str := [("check_take" : PySem.Str), ("check_divisor" : PySem.Str), ("check_stretch" : PySem.Str), ("check_number" : PySem.Str), ("block_of" : PySem.Str), ("GREATEST_TIMES" : PySem.Str), ("MOST_ROUNDS" : PySem.Str), ("Trick" : PySem.Str), ("trail" : PySem.Str), ("ahead" : PySem.Str)]
def topOthers3 : List PySem.Str := [("check_trick" : PySem.Str), ("trick_block" : PySem.Str), ("made_of" : PySem.Str), ("made_with" : PySem.Str), ("bound" : PySem.Str), ("rings" : PySem.Str), ("greatest_size" : PySem.Str), ("rounded_up" : PySem.Str), ("unseen_path" : PySem.Str), ("ring_at_end" : PySem.Str)]
def topOthers4 : List PySem.Str := [("MOST_TRICKS" : PySem.Str), ("GREATEST_CHAIN_DIVISOR" : PySem.Str), ("GREATEST_PRODUCT" : PySem.Str), ("chained" : PySem.Str), ("chain_tells" : PySem.Str), ("check_tricks" : PySem.Str), ("check_chain" : PySem.Str), ("made_of_all" : PySem.Str), ("blocks_product" : PySem.Str), ("rest_pairs" : PySem.Str)]
def topOthers5 : List PySem.Str := [("GREATEST_LENGTH" : PySem.Str), ("slip" : PySem.Str), ("swap" : PySem.Str), ("good_divisors" : PySem.Str), ("check_length" : PySem.Str), ("least_unseen" : PySem.Str), ("multipliers" : PySem.Str), ("divisors" : PySem.Str), ("tells_multiples" : PySem.Str), ("Reckoner" : PySem.Str)]
def topOthers6 : List PySem.Str := [("MOST_PAIRS" : PySem.Str), ("fitting" : PySem.Str), ("check_pairs" : PySem.Str), ("is_pair" : PySem.Str), ("fitting_times" : PySem.Str), ("_law_taken" : PySem.Str), ("_law_power" : PySem.Str), ("_law_trick" : PySem.Str), ("_law_behind" : PySem.Str), ("_law_number" : PySem.Str)]
def topOthers7 : List PySem.Str := [("_law_chain" : PySem.Str), ("_law_tricks" : PySem.Str), ("_law_told" : PySem.Str)]
def topOthers : List PySem.Str := topOthers0 ++ (topOthers1 ++ (topOthers2 ++ (topOthers3 ++ (topOthers4 ++ (topOthers5 ++ (topOthers6 ++ (topOthers7)))))))
def topPlaces0 : List Nat := [2, 3, 15, 22, 23, 24, 25, 28, 35, 36, 37, 40, 47, 48, 49, 52, 59, 60, 61, 64, 71, 72, 73, 76, 79, 84, 85, 87, 88, 90, 91, 92, 93, 94, 97, 104, 105, 106, 109, 112]
def topPlaces1 : List Nat := [117, 118, 120, 121, 123, 124, 125, 126, 127, 130, 133, 138, 139, 141, 142, 144, 145, 146, 147, 148, 151, 154, 159, 160, 162, 163, 165, 166, 167, 168, 169, 172, 174, 175, 177, 178, 179, 181, 182, 184]
def topPlaces2 : List Nat := [185, 186, 188, 189, 191, 192, 193, 195, 196, 198, 199, 200, 202, 203, 205, 206, 207, 208, 210, 211, 213, 214, 215, 217, 218, 220, 221, 222, 224, 225, 227, 228, 229, 231, 232, 234, 235, 243, 245, 246]
def topPlaces3 : List Nat := [248, 249, 250, 252, 253, 255, 256, 257, 258, 260, 261, 263, 264, 265, 266, 268, 269, 271, 272, 273, 274, 276, 277, 279, 280, 281, 282, 283, 284, 285, 288, 290, 291, 293, 294, 295, 297, 298, 300, 301]
def topPlaces4 : List Nat := [302, 304, 305, 307, 308, 309, 311, 312, 314, 315, 316, 318, 319, 321, 322, 323, 325, 326, 328, 329, 330, 333, 334, 335, 337, 338, 340, 341, 342, 344, 345, 347, 348, 349, 351, 352, 354, 355, 356, 358]
def topPlaces5 : List Nat := [359, 361, 362, 363, 365, 366, 368, 369, 370, 372, 373, 375, 376, 377, 380, 381, 382, 384, 385, 387, 388, 389, 391, 392, 394, 395, 396, 398, 399, 401, 402, 403, 405, 406, 408, 409, 410, 413, 414, 415]
def topPlaces6 : List Nat := [417, 418, 420, 421, 422, 424, 425, 427, 428, 429, 432, 433, 434, 436, 437, 439, 440, 441, 443, 444, 446, 447, 448, 451, 452, 453, 456, 457, 458, 460, 461, 463, 464, 472, 474, 475, 477, 478, 479, 481]
def topPlaces7 : List Nat := [482, 484, 485, 486, 487, 489, 490, 492, 493, 494, 495, 497, 498, 500, 501, 502, 504, 505, 507, 508, 509, 511, 512, 514, 515, 516, 518, 519, 521, 522, 523, 524, 525, 526, 527, 530, 533, 534, 535, 537]
def topPlaces8 : List Nat := [538, 540, 541, 542, 544, 545, 547, 548, 549, 552, 553, 554, 556, 557, 559, 560, 561, 563, 564, 566, 567, 568, 571, 572, 573, 575, 576, 578, 579, 580, 582, 583, 585, 586, 587, 589, 590, 592, 593, 594]
def topPlaces9 : List Nat := [597, 598, 599, 601, 602, 604, 605, 606, 609, 610]
def topPlaces : List Nat := topPlaces0 ++ (topPlaces1 ++ (topPlaces2 ++ (topPlaces3 ++ (topPlaces4 ++ (topPlaces5 ++ (topPlaces6 ++ (topPlaces7 ++ (topPlaces8 ++ (topPlaces9)))))))))
theorem topPlaces_eq : ∀ P, topPlaces = (topPart.heap_1 P).map (·.1) := fun _ => by kernel_rfl
noncomputable abbrev topHook : Hook := kHook topPart.heap_1 topPlaces topPlaces_eq
noncomputable def topSeen (s : SharedT) : topHook.α := topPlaces.map (HandSHeadRun.getT s)
theorem topSeen_eq (s : SharedT) : topSeen s = topHook.obs s.abs := List.map_congr_left fun a _ => HandSHeadRun.getT_eq s a
theorem topRan (w : World) : HandSHeadRun.RunEq topRow (view topRow.prog [83]) topHook topSeen 10212 topOthers w := by
  intro os
  kernel_rfl
end
end Rt
namespace Rt
open PySem L2 PySem.Spec PyProof.Rows
/-! ### the text by places -/
def topS (i : Nat) : Stmt := PySem.Challenge.pw_resttricks_k41_asked_again.main.body.getD i (.Pass ⟨0, 0, 0, 0⟩)
abbrev s_is_integer : Stmt := topS 17
abbrev s_is_list_or_tuple : Stmt := topS 18
abbrev s_is_number : Stmt := topS 19
abbrev s_check_base : Stmt := topS 20
abbrev s_check_take : Stmt := topS 21
abbrev s_check_divisor : Stmt := topS 22
abbrev s_check_stretch : Stmt := topS 23
abbrev s_check_number : Stmt := topS 24
abbrev s_block_of : Stmt := topS 26
abbrev s_trail : Stmt := topS 31
abbrev s_ahead : Stmt := topS 32
abbrev s_check_trick : Stmt := topS 33
abbrev s_trick_block : Stmt := topS 34
abbrev s_made_of : Stmt := topS 35
abbrev s_made_with : Stmt := topS 36
abbrev s_bound : Stmt := topS 38
abbrev s_rings : Stmt := topS 39
abbrev s_greatest_size : Stmt := topS 40
abbrev s_rounded_up : Stmt := topS 41
abbrev s_unseen_path : Stmt := topS 42
abbrev s_ring_at_end : Stmt := topS 43
abbrev s_chained : Stmt := topS 48
abbrev s_chain_tells : Stmt := topS 49
abbrev s_check_tricks : Stmt := topS 50
abbrev s_check_chain : Stmt := topS 51
abbrev s_made_of_all : Stmt := topS 52
abbrev s_blocks_product : Stmt := topS 53
abbrev s_rest_pairs : Stmt := topS 54
abbrev s_slip : Stmt := topS 57
abbrev s_swap : Stmt := topS 58
abbrev s_good_divisors : Stmt := topS 59
abbrev s_check_length : Stmt := topS 60
abbrev s_least_unseen : Stmt := topS 61
abbrev s_multipliers : Stmt := topS 63
abbrev s_divisors : Stmt := topS 64
abbrev s_tells_multiples : Stmt := topS 65
abbrev s_fitting : Stmt := topS 70
abbrev s_check_pairs : Stmt := topS 71
abbrev s_is_pair : Stmt := topS 72
abbrev s_fitting_times : Stmt := topS 73
abbrev s__law_taken : Stmt := topS 75
abbrev s__law_power : Stmt := topS 76
abbrev s__law_trick : Stmt := topS 77
abbrev s__law_behind : Stmt := topS 78
abbrev s__law_number : Stmt := topS 79
abbrev s__law_chain : Stmt := topS 80
abbrev s__law_tricks : Stmt := topS 81
abbrev s__law_told : Stmt := topS 82
abbrev s_law : Stmt := topS 83
abbrev s_BadNumber___init__ : Stmt := inClass (topS 6) 0
abbrev s_BadTricks___init__ : Stmt := inClass (topS 8) 0
abbrev s_BadPairs___init__ : Stmt := inClass (topS 9) 0
abbrev s_TooWide___init__ : Stmt := inClass (topS 10) 0
abbrev s_Trick___init__ : Stmt := inClass (topS 30) 0
abbrev s_Trick_base : Stmt := inClass (topS 30) 1
abbrev s_Trick_take : Stmt := inClass (topS 30) 2
abbrev s_Trick_times : Stmt := inClass (topS 30) 3
abbrev s_Trick___eq__ : Stmt := inClass (topS 30) 4
abbrev s_Reckoner___init__ : Stmt := inClass (topS 67) 0
abbrev s_Reckoner_now : Stmt := inClass (topS 67) 1
abbrev s_Reckoner_tricks : Stmt := inClass (topS 67) 2
abbrev s_Reckoner_step : Stmt := inClass (topS 67) 3
abbrev s_Reckoner_undo : Stmt := inClass (topS 67) 4
abbrev s_Reckoner_copy : Stmt := inClass (topS 67) 5
abbrev s_Reckoner___len__ : Stmt := inClass (topS 67) 6
theorem sc_is_integer : FnScope ["told", "low", "high"] ["told", "low", "high"] (defScope s_is_integer) := ⟨rfl, rfl, rfl, by decide +kernel, rfl, by decide +kernel, by decide +kernel⟩
abbrev lv_is_integer : Nat := 1
theorem sc_is_list_or_tuple : FnScope ["told", "fewest", "most"] ["told", "fewest", "most"] (defScope s_is_list_or_tuple) := ⟨rfl, rfl, rfl, by decide +kernel, rfl, by decide +kernel, by decide +kernel⟩
abbrev lv_is_list_or_tuple : Nat := 3
theorem sc_is_number : FnScope ["told"] ["told"] (defScope s_is_number) := ⟨rfl, rfl, rfl, by decide +kernel, rfl, by decide +kernel, by decide +kernel⟩
abbrev lv_is_number : Nat := 2
theorem sc_check_base : FnScope ["base"] ["base"] (defScope s_check_base) := ⟨rfl, rfl, rfl, by decide +kernel, rfl, by decide +kernel, by decide +kernel⟩
abbrev lv_check_base : Nat := 2
theorem sc_check_take : FnScope ["take"] ["take"] (defScope s_check_take) := ⟨rfl, rfl, rfl, by decide +kernel, rfl, by decide +kernel, by decide +kernel⟩
abbrev lv_check_take : Nat := 2
theorem sc_check_divisor : FnScope ["d", "greatest"] ["d", "greatest"] (defScope s_check_divisor) := ⟨rfl, rfl, rfl, by decide +kernel, rfl, by decide +kernel, by decide +kernel⟩
abbrev lv_check_divisor : Nat := 2
theorem sc_check_stretch : FnScope ["n", "low", "high"] ["n", "low", "high"] (defScope s_check_stretch) := ⟨rfl, rfl, rfl, by decide +kernel, rfl, by decide +kernel, by decide +kernel⟩
abbrev lv_check_stretch : Nat := 3
theorem sc_check_number : FnScope ["n"] ["n"] (defScope s_check_number) := ⟨rfl, rfl, rfl, by decide +kernel, rfl, by decide +kernel, by decide +kernel⟩
abbrev lv_check_number : Nat := 3
theorem sc_block_of : FnScope ["base", "take"] ["base", "take"] (defScope s_block_of) := ⟨rfl, rfl, rfl, by decide +kernel, rfl, by decide +kernel, by decide +kernel⟩
abbrev lv_block_of : Nat := 1
theorem sc_trail : FnScope ["trick", "n", "rounds", "found", "_"] ["trick", "n", "rounds"] (defScope s_trail) := ⟨rfl, rfl, rfl, by decide +kernel, rfl, by decide +kernel, by decide +kernel⟩
abbrev lv_trail : Nat := 5
theorem sc_ahead : FnScope ["trick", "n", "block", "found", "rest", "quotient"] ["trick", "n"] (defScope s_ahead) := ⟨rfl, rfl, rfl, by decide +kernel, rfl, by decide +kernel, by decide +kernel⟩
abbrev lv_ahead : Nat := 4
theorem sc_check_trick : FnScope ["trick"] ["trick"] (defScope s_check_trick) := ⟨rfl, rfl, rfl, by decide +kernel, rfl, by decide +kernel, by decide +kernel⟩
abbrev lv_check_trick : Nat := 1
theorem sc_trick_block : FnScope ["trick"] ["trick"] (defScope s_trick_block) := ⟨rfl, rfl, rfl, by decide +kernel, rfl, by decide +kernel, by decide +kernel⟩
abbrev lv_trick_block : Nat := 3
theorem sc_made_of : FnScope ["trick", "n"] ["trick", "n"] (defScope s_made_of) := ⟨rfl, rfl, rfl, by decide +kernel, rfl, by decide +kernel, by decide +kernel⟩
abbrev lv_made_of : Nat := 4
theorem sc_made_with : FnScope ["block", "times", "n"] ["block", "times", "n"] (defScope s_made_with) := ⟨rfl, rfl, rfl, by decide +kernel, rfl, by decide +kernel, by decide +kernel⟩
abbrev lv_made_with : Nat := 1
theorem sc_bound : FnScope ["trick", "block", "rest"] ["trick"] (defScope s_bound) := ⟨rfl, rfl, rfl, by decide +kernel, rfl, by decide +kernel, by decide +kernel⟩
abbrev lv_bound : Nat := 4
theorem sc_rings : FnScope ["trick", "greatest", "seen", "found", "start", "path"] ["trick"] (defScope s_rings) := ⟨rfl, rfl, rfl, by decide +kernel, rfl, by decide +kernel, by decide +kernel⟩
abbrev lv_rings : Nat := 6
theorem sc_greatest_size : FnScope ["block", "times", "rest", "equal", "opposite", "least", "greatest"] ["block", "times", "rest"] (defScope s_greatest_size) := ⟨rfl, rfl, rfl, by decide +kernel, rfl, by decide +kernel, by decide +kernel⟩
abbrev lv_greatest_size : Nat := 2
theorem sc_rounded_up : FnScope ["n", "d"] ["n", "d"] (defScope s_rounded_up) := ⟨rfl, rfl, rfl, by decide +kernel, rfl, by decide +kernel, by decide +kernel⟩
abbrev lv_rounded_up : Nat := 1
theorem sc_unseen_path : FnScope ["trick", "n", "seen", "path"] ["trick", "n", "seen"] (defScope s_unseen_path) := ⟨rfl, rfl, rfl, by decide +kernel, rfl, by decide +kernel, by decide +kernel⟩
abbrev lv_unseen_path : Nat := 5
theorem sc_ring_at_end : FnScope ["trick", "path", "ring", "least_at"] ["trick", "path"] (defScope s_ring_at_end) := ⟨rfl, rfl, rfl, by decide +kernel, rfl, by decide +kernel, by decide +kernel⟩
abbrev lv_ring_at_end : Nat := 5
theorem sc_chained : FnScope ["tricks", "n"] ["tricks", "n"] (defScope s_chained) := ⟨rfl, rfl, rfl, by decide +kernel, rfl, by decide +kernel, by decide +kernel⟩
abbrev lv_chained : Nat := 6
theorem sc_chain_tells : FnScope ["tricks", "d", "found", "rest", "made"] ["tricks", "d"] (defScope s_chain_tells) := ⟨rfl, rfl, rfl, by decide +kernel, rfl, by decide +kernel, by decide +kernel⟩
abbrev lv_chain_tells : Nat := 7
theorem sc_check_tricks : FnScope ["tricks", "index", "trick"] ["tricks"] (defScope s_check_tricks) := ⟨rfl, rfl, rfl, by decide +kernel, rfl, by decide +kernel, by decide +kernel⟩
abbrev lv_check_tricks : Nat := 4
theorem sc_check_chain : FnScope ["tricks", "d"] ["tricks", "d"] (defScope s_check_chain) := ⟨rfl, rfl, rfl, by decide +kernel, rfl, by decide +kernel, by decide +kernel⟩
abbrev lv_check_chain : Nat := 5
theorem sc_made_of_all : FnScope ["tricks", "n", "trick"] ["tricks", "n"] (defScope s_made_of_all) := ⟨rfl, rfl, rfl, by decide +kernel, rfl, by decide +kernel, by decide +kernel⟩
abbrev lv_made_of_all : Nat := 5
theorem sc_blocks_product : FnScope ["tricks", "found", "trick"] ["tricks"] (defScope s_blocks_product) := ⟨rfl, rfl, rfl, by decide +kernel, rfl, by decide +kernel, by decide +kernel⟩
abbrev lv_blocks_product : Nat := 4
theorem sc_rest_pairs : FnScope ["tricks", "d", "width", "made", "n"] ["tricks", "d"] (defScope s_rest_pairs) := ⟨rfl, rfl, rfl, by decide +kernel, rfl, by decide +kernel, by decide +kernel⟩
abbrev lv_rest_pairs : Nat := 6
theorem sc_slip : FnScope ["base", "d", "length"] ["base", "d", "length"] (defScope s_slip) := ⟨rfl, rfl, rfl, by decide +kernel, rfl, by decide +kernel, by decide +kernel⟩
abbrev lv_slip : Nat := 5
theorem sc_swap : FnScope ["base", "d", "length", "far", "power", "_"] ["base", "d", "length", "far"] (defScope s_swap) := ⟨rfl, rfl, rfl, by decide +kernel, rfl, by decide +kernel, by decide +kernel⟩
abbrev lv_swap : Nat := 5
theorem sc_good_divisors : FnScope ["base", "length", "most", "d"] ["base", "length", "most"] (defScope s_good_divisors) := ⟨rfl, rfl, rfl, by decide +kernel, rfl, by decide +kernel, by decide +kernel⟩
abbrev lv_good_divisors : Nat := 6
theorem sc_check_length : FnScope ["length"] ["length"] (defScope s_check_length) := ⟨rfl, rfl, rfl, by decide +kernel, rfl, by decide +kernel, by decide +kernel⟩
abbrev lv_check_length : Nat := 4
theorem sc_least_unseen : FnScope ["base", "d", "places", "change", "rest", "place", "difference"] ["base", "d", "places", "change"] (defScope s_least_unseen) := ⟨rfl, rfl, rfl, by decide +kernel, rfl, by decide +kernel, by decide +kernel⟩
abbrev lv_least_unseen : Nat := 1
theorem sc_multipliers : FnScope ["base", "take", "d", "block", "rest"] ["base", "take", "d"] (defScope s_multipliers) := ⟨rfl, rfl, rfl, by decide +kernel, rfl, by decide +kernel, by decide +kernel⟩
abbrev lv_multipliers : Nat := 3
theorem sc_divisors : FnScope ["trick", "most", "block", "d"] ["trick", "most"] (defScope s_divisors) := ⟨rfl, rfl, rfl, by decide +kernel, rfl, by decide +kernel, by decide +kernel⟩
abbrev lv_divisors : Nat := 4
theorem sc_tells_multiples : FnScope ["block", "times", "d"] ["block", "times", "d"] (defScope s_tells_multiples) := ⟨rfl, rfl, rfl, by decide +kernel, rfl, by decide +kernel, by decide +kernel⟩
abbrev lv_tells_multiples : Nat := 1
theorem sc_fitting : FnScope ["pairs", "base", "take", "times"] ["pairs"] (defScope s_fitting) := ⟨rfl, rfl, rfl, by decide +kernel, rfl, by decide +kernel, by decide +kernel⟩
abbrev lv_fitting : Nat := 5
theorem sc_check_pairs : FnScope ["pairs", "index", "pair"] ["pairs"] (defScope s_check_pairs) := ⟨rfl, rfl, rfl, by decide +kernel, rfl, by decide +kernel, by decide +kernel⟩
abbrev lv_check_pairs : Nat := 4
theorem sc_is_pair : FnScope ["told"] ["told"] (defScope s_is_pair) := ⟨rfl, rfl, rfl, by decide +kernel, rfl, by decide +kernel, by decide +kernel⟩
abbrev lv_is_pair : Nat := 3
theorem sc_fitting_times : FnScope ["block", "pairs", "found", "n", "later", "times"] ["block", "pairs"] (defScope s_fitting_times) := ⟨rfl, rfl, rfl, by decide +kernel, rfl, by decide +kernel, by decide +kernel⟩
abbrev lv_fitting_times : Nat := 2
theorem sc__law_taken : FnScope ["_law_row", "_law_many", "_law_found", "_law_cell"] ["_law_row", "_law_many"] (defScope s__law_taken) := ⟨rfl, rfl, rfl, by decide +kernel, rfl, by decide +kernel, by decide +kernel⟩
abbrev lv__law_taken : Nat := 3
theorem sc__law_power : FnScope ["_law_base", "_law_many", "_law_found", "_law_turn"] ["_law_base", "_law_many"] (defScope s__law_power) := ⟨rfl, rfl, rfl, by decide +kernel, rfl, by decide +kernel, by decide +kernel⟩
abbrev lv__law_power : Nat := 1
theorem sc__law_trick : FnScope ["_law_row", "_law_small", "_law_base", "_law_take", "_law_times", "_law_d", "_law_some", "_law_one"] ["_law_row", "_law_small"] (defScope s__law_trick) := ⟨rfl, rfl, rfl, by decide +kernel, rfl, by decide +kernel, by decide +kernel⟩
abbrev lv__law_trick : Nat := 4
theorem sc__law_behind : FnScope ["_law_told_here", "_law_n", "_law_base", "_law_take", "_law_times", "_law_block", "_law_rest"] ["_law_told_here", "_law_n"] (defScope s__law_behind) := ⟨rfl, rfl, rfl, by decide +kernel, rfl, by decide +kernel, by decide +kernel⟩
abbrev lv__law_behind : Nat := 1
theorem sc__law_number : FnScope ["_law_row", "_law_size", "_law_n"] ["_law_row"] (defScope s__law_number) := ⟨rfl, rfl, rfl, by decide +kernel, rfl, by decide +kernel, by decide +kernel⟩
abbrev lv__law_number : Nat := 4
theorem sc__law_chain : FnScope ["_law_row", "_law_found", "_law_wide", "_law_k", "_law_told_here"] ["_law_row"] (defScope s__law_chain) := ⟨rfl, rfl, rfl, by decide +kernel, rfl, by decide +kernel, by decide +kernel⟩
abbrev lv__law_chain : Nat := 5
theorem sc__law_tricks : FnScope ["_law_told_here", "_law_base", "_law_take", "_law_times"] ["_law_told_here"] (defScope s__law_tricks) := ⟨rfl, rfl, rfl, by decide +kernel, rfl, by decide +kernel, by decide +kernel⟩
abbrev lv__law_tricks : Nat := 5
theorem sc__law_told : FnScope ["_law_trick_here", "_law_chain_here", "_law_n", "_law_pairs", "_law_got"] ["_law_trick_here", "_law_chain_here", "_law_n", "_law_pairs"] (defScope s__law_told) := ⟨rfl, rfl, rfl, by decide +kernel, rfl, by decide +kernel, by decide +kernel⟩
abbrev lv__law_told : Nat := 8
theorem sc_law : FnScope ["_law_script", "_law_line", "_law_told_here", "_law_trick_here", "_law_n", "_law_chain_here", "_law_pairs", "_law_handed", "_law_given", "_law_first", "_law_kept", "_law_one", "_law_reckoner", "_law_mate", "_law_twin"] ["_law_script"] (defScope s_law) := ⟨rfl, rfl, rfl, by decide +kernel, rfl, by decide +kernel, by decide +kernel⟩
abbrev lv_law : Nat := 10
theorem sc_Trick___init__ : FnScope ["self", "base", "take", "times"] ["self", "base", "take", "times"] (defScope s_Trick___init__) := ⟨rfl, rfl, rfl, by decide +kernel, rfl, by decide +kernel, by decide +kernel⟩
abbrev lv_Trick___init__ : Nat := 3
theorem sc_Trick_base : FnScope ["self"] ["self"] (defScope s_Trick_base) := ⟨rfl, rfl, rfl, by decide +kernel, rfl, by decide +kernel, by decide +kernel⟩
abbrev lv_Trick_base : Nat := 1
theorem sc_Trick_take : FnScope ["self"] ["self"] (defScope s_Trick_take) := ⟨rfl, rfl, rfl, by decide +kernel, rfl, by decide +kernel, by decide +kernel⟩
abbrev lv_Trick_take : Nat := 1
theorem sc_Trick_times : FnScope ["self"] ["self"] (defScope s_Trick_times) := ⟨rfl, rfl, rfl, by decide +kernel, rfl, by decide +kernel, by decide +kernel⟩
abbrev lv_Trick_times : Nat := 1
theorem sc_Trick___eq__ : FnScope ["self", "other"] ["self", "other"] (defScope s_Trick___eq__) := ⟨rfl, rfl, rfl, by decide +kernel, rfl, by decide +kernel, by decide +kernel⟩
abbrev lv_Trick___eq__ : Nat := 1
theorem sc_Reckoner___init__ : FnScope ["self", "n"] ["self", "n"] (defScope s_Reckoner___init__) := ⟨rfl, rfl, rfl, by decide +kernel, rfl, by decide +kernel, by decide +kernel⟩
abbrev lv_Reckoner___init__ : Nat := 4
theorem sc_Reckoner_now : FnScope ["self"] ["self"] (defScope s_Reckoner_now) := ⟨rfl, rfl, rfl, by decide +kernel, rfl, by decide +kernel, by decide +kernel⟩
abbrev lv_Reckoner_now : Nat := 1
theorem sc_Reckoner_tricks : FnScope ["self"] ["self"] (defScope s_Reckoner_tricks) := ⟨rfl, rfl, rfl, by decide +kernel, rfl, by decide +kernel, by decide +kernel⟩
abbrev lv_Reckoner_tricks : Nat := 1
theorem sc_Reckoner_step : FnScope ["self", "trick", "later"] ["self", "trick"] (defScope s_Reckoner_step) := ⟨rfl, rfl, rfl, by decide +kernel, rfl, by decide +kernel, by decide +kernel⟩
abbrev lv_Reckoner_step : Nat := 5
theorem sc_Reckoner_undo : FnScope ["self"] ["self"] (defScope s_Reckoner_undo) := ⟨rfl, rfl, rfl, by decide +kernel, rfl, by decide +kernel, by decide +kernel⟩
abbrev lv_Reckoner_undo : Nat := 1
theorem sc_Reckoner_copy : FnScope ["self", "other"] ["self"] (defScope s_Reckoner_copy) := ⟨rfl, rfl, rfl, by decide +kernel, rfl, by decide +kernel, by decide +kernel⟩
abbrev lv_Reckoner_copy : Nat := 6
theorem sc_Reckoner___len__ : FnScope ["self"] ["self"] (defScope s_Reckoner___len__) := ⟨rfl, rfl, rfl, by decide +kernel, rfl, by decide +kernel, by decide +kernel⟩
abbrev lv_Reckoner___len__ : Nat := 3
/-! ### what is known of the top behind its run -/
/-! ### an own error whose __init__ says super().__init__(text); self.F = F -/
end Rt
namespace ErrX
open PySem PySem.W PySem.Calls PyProof.Rows PySem.HandSPX
/-- what the written part says of such a class at C, its field F, its __init__ at fI -/
structure ErrTxt (P : Program) (K : Frag) (mg : Str → Option Value) (x fld : Str) (C fI : Addr) (ae : PySem.Expr) (st : Stmt) : Prop where
  gC : mg x = some (.ref C)
  cls : ∃ nm q N bs bm sn sub ab col dd k0 k1 k2 k3 k5, K.lookup C = some (excClassObj nm q C N bs bm true sn sub ab col dd k0 k1 k2 k3 k5 "ValueError.__new__") ∧ refsVE bm = true
  sa : findIn K (.ref C) "__setattr__" = some (some (.builtin "object.__setattr__"))
  ga : findIn K (.ref C) "__getattribute__" = some (some (.builtin "BaseException.__getattribute__"))
  gg : findIn K (.ref C) "__getattr__" = some none
  noF : findIn K (.ref C) fld = some none
  iC : findIn K (.ref C) "__init__" = some (some (.ref fI))
  tC : typeIn K (.ref fI) = some (.type "function")
  kC : keepIn K (.ref C) = true
  exC : subIn K (.ref C) (.type "BaseException") = some true
  tyC : typeIn K (.ref C) = some (.type "type")
  hdC : hasDictIn K C = true
  up : ks_superIn K C C "__init__" = some (some (.builtin "ValueError.__init__"))
  any : nsIn K cStatics "thirdparty.any" = some none
  ve : subIn K (.ref C) (.type "ValueError") = some true
  own : mroIn K C (.ref C) = some true
  sup : mg "super" = none
  main : (P.main.scope.names.lookup ("super" : Str)).isSome = false
  fn : ∃ (oc : Value) (od : Option Addr) (doc pm : Value) (an : Option Addr) (cda : Addr) (ct : Value) (osl : Array (Option Value)) (cc : Addr) (vs : Array Value) (file : Str) (tf : Tok) (ccl cl : Value) (cdd cld : Option Addr) (ccs csl : Array (Option Value)) (qual : Str),
    K.lookup fI = some ⟨oc, od, .func (ksFn "__init__" qual (L2.defArgs st) (L2.defBody st) (L2.defScope st) .none .none doc pm an (.ref cda) ct cc), osl⟩ ∧ codeIn K (.ref cda) qual = true ∧
    K.lookup cda = some ⟨ccl, cdd, .fields vs, ccs⟩ ∧ vs[2]? = some (.str file tf) ∧ ((P.main.file : Str) == file) = true ∧ K.lookup cc = some ⟨cl, cld, .cell (some (.ref C)), csl⟩
  text : ∃ (p0 p1 p2 p3 p4 q1 q2 q3 q4 a1 a2 : Pos), L2.defBody st = [.Expr (.Call (.Attribute (.Call (.Name "super" p0) [] [] p1) "__init__" p2) [ae] [] p3) p4, .Assign [.Attribute (.Name "self" q1) fld q2] (.Name fld q3) q4] ∧
    L2.defArgs st = { posonlyargs := [], args := [{ arg := "self", annotation := none, pos := a1 }, { arg := fld, annotation := none, pos := a2 }], vararg := none, kwonlyargs := [], kw_defaults := [], kwarg := none, defaults := [] } ∧
    ∀ env : Env, eval (.Call (.Attribute (.Call (.Name "super" p0) [] [] p1) "__init__" p2) [ae] [] p3) env = (do
      let ov ← attributeBase (.Call (.Name "super" p0) [] [] p1) "__init__" env (eval (.Call (.Name "super" p0) [] [] p1) env)
      standAt p2.atName
      let (f, first) ← holding [ov] (getMethod ov "__init__" (do return (← importBound (.Call (.Name "super" p0) [] [] p1) env).getD true))
      callWith p3 f first (backTo p3 (starEach [ae] env)) [])
  kS : (L2.defScope st).names.lookup ("super" : Str) = some .globalImplicit
  kK : (L2.defScope st).names.lookup ("__class__" : Str) = some .free
  k0 : (L2.defScope st).names.lookup ("self" : Str) = some .local
  kF : (L2.defScope st).names.lookup fld = some .local
  nF : (("self" : Str) == fld) = false
  nD : (fld == ("__debug__" : Str)) = false
  noCell : ∀ y ∈ (L2.defScope st).names, y.2 ≠ .cell
  bind : ∀ (qual : Str) (doc pm : Value) (an : Option Addr) (cda : Addr) (ct : Value) (cc : Addr) (u v : Value), bindArgs (ksFn "__init__" qual (L2.defArgs st) (L2.defBody st) (L2.defScope st) .none .none doc pm an (.ref cda) ct cc) ⟨[u, v], []⟩ = pure [(("self" : Str), u), (fld, v)]
  plain : ∀ env : Env, starEach (ae :: []) env = (false, eval ae env) :: starEach [] env
  knd : (L2.defScope st).kind = .function
  co : (L2.defScope st).isCoroutine = false
  gen : (L2.defScope st).isGenerator = false
/-- what __init__ leaves of a fresh error at x -/
structure EndOf (h h' : Heap) (x C dx t1 : Addr) (fld : Str) (v : Value) : Prop where
  keep : ∀ b o, b ≠ x → h.get? b = some o → h'.get? b = some o
  obj : h'.get? x = some { cls := .ref C, dict := some dx, data := .fields #[.ref t1, .none, .none, .none, .bool false, .none] }
  dbig : h.objs.size ≤ dx
  dne : dx ≠ x
  ns : h'.Ns1 dx (fun y => if y = fld then some v else none)
/-- the argument of super().__init__ is a text, whatever the field is -/
def ArgOk (prog : Program) (w : World) (ae : PySem.Expr) (fld : Str) (v : Value) : Prop := ∀ (env : Env) (m : Str → Option Value) (A : Around) (Q : Value → Shared → Prop) (E : Value → Shared → Prop) (s : Shared), s.heap.Ns env.locals m → m fld = some v → env.scope.kind = .function → env.kindOf fld = some .local →
  (∀ z t tk, Q (.str z t) { s with toks := tk }) → wpAny (model prog w) A (eval ae env) Q E s
theorem argOk_const {prog : Program} {w : World} {ae : PySem.Expr} {fld : Str} {v : Value} {z : Str} {k : Nat} {pos : Pos} (h : ae = .Constant (.str z) k pos) : ArgOk prog w ae fld v := by
  intro env m A Q E s _ _ _ _ hq
  rw [h]
  exact wpAny_Constant_str (hq _ _ _)
/-- None, or an int whose text is short -/
def NoneInt (v : L2.V) : Prop := v = .non ∨ ∃ i : Int, v = .int i ∧ i.natAbs.log2 < 1920
theorem argOk_f {prog : Program} {w : World} {ae : PySem.Expr} {fld : Str} {v : L2.V} {u : Value} {z : Str} {k : Nat} {p1 p2 p3 p4 : Pos} (n : NoneInt v) (r : L2.RelV v u)
    (h : ae = .JoinedStr [.Constant (.str z) k p1, .FormattedValue (.Name fld p2) (-1) none p3] p4 := by rfl) (hz : z.length ≤ 1000 := by decide) (hd : (fld == ("__debug__" : Str)) = false := by decide) : ArgOk prog w ae fld u := by
  intro env m A Q E s hn hv hk hl hq
  rw [h]
  have e0 : evalEach [.Constant (.str z) k p1, .FormattedValue (.Name fld p2) (-1) none p3] env = [eval (.Constant (.str z) k p1) env, eval (.FormattedValue (.Name fld p2) (-1) none p3) env] := by first | rfl | simp [evalEach]
  refine wpAny_JoinedStr ?_
  rw [e0]
  refine wpAny_Constant_str ?_
  have l0 : (Str.empty ++ z).length ≤ 1000 := by
    rw [Str.length_append]
    exact Nat.le_trans (Nat.le_of_eq (Nat.zero_add _)) hz
  refine ⟨z, _, rfl, Nat.le_trans l0 (by rw [sizeLine_eq]; decide), ?_⟩
  refine wpAny_FormattedValue_plain (wpAny_Name (wpAny_loadName_local hk hl hn hv ?_) hd)
  rcases n with rfl | ⟨i, rfl, hi⟩
  · cases r
    refine wpAny_formatField_none ⟨"None", _, rfl, ?_, ?_⟩
    · rw [Str.length_append, sizeLine_eq]
      have e : ("None" : Str).length = 4 := by decide
      omega
    · refine ⟨?_, hq _ _ _⟩
      rw [Str.length_append, sizeLine_eq]
      have e : ("None" : Str).length = 4 := by decide
      omega
  · obtain ⟨t, rfl⟩ := r
    refine wpAny_formatField_int hi ⟨_, _, rfl, ?_, ?_⟩
    · rw [Str.length_append, sizeLine_eq]
      have e := int_text_length_le (k := 1920) (by decide) hi
      have e2 : (Str.ofString (toString i)).length = (toString i).length := PySem.ofString_length _
      omega
    · refine ⟨?_, hq _ _ _⟩
      rw [Str.length_append, sizeLine_eq]
      have e := int_text_length_le (k := 1920) (by decide) hi
      have e2 : (Str.ofString (toString i)).length = (toString i).length := PySem.ofString_length _
      omega
/-- the argument of super().__init__ in the text of an __init__ -/
def aeOf (st : Stmt) : PySem.Expr := match L2.defBody st with
  | .Expr (.Call _ (a :: _) _ _) _ :: _ => a
  | _ => .Name "self" ⟨0, 0, 0, 0⟩
section
variable {prog : Program} {w : World} {A : Around} {E : Value → Shared → Prop} {hp : Heap} {g : Array GenState} {d : Drawn} {tk : Nat} {os : OsState}
/-- the bound __init__ of the base, called: the args are laid anew -/
theorem base_init {nm q : Str} {C N u e t0 : Addr} {bs bm : List Value} {sn : List Str} {sub : List Value} {ab : Bool} {col : Option Bool} {dd : Option Addr} {k0 k1 k2 k3 k5 : Option Value} {rest : List Value} {Q : Value → Shared → Prop}
    (hC : hp.get? C = some (excClassObj nm q C N bs bm true sn sub ab col dd k0 k1 k2 k3 k5 "ValueError.__new__")) (he : hp.get? e = some (excO C t0)) (hu : hp.get? u = some (kxs_mw "ValueError.__init__" e)) (hz : rest.length ≤ sizeLine)
    (k : ∀ h' t1, (∀ b o, b ≠ e → hp.get? b = some o → h'.get? b = some o) → h'.get? e = some (excO C t1) → Q .none ⟨h', g, d, tk, os⟩) : wpAny (model prog w) A (call (.ref u) rest) Q E ⟨hp, g, d, tk, os⟩ := by
  refine wpAny_call (codeAny_of_tree ?_)
  show wpAny _ A.in1 (callAny (.ref u) { pos := rest }) _ _ _
  unfold callAny
  refine wpAny_bind (wpAny_load hu ?_)
  have c1 : (Value.type "method-wrapper" == Value.type "method" || Value.type "method-wrapper" == Value.type "builtin_function_or_method" ||
    Value.type "method-wrapper" == Value.type "method-wrapper") = true := by decide
  simp only [kxs_mw, c1, if_true]
  refine KFB.if_so (by decide) (wpAny_bind (ESX.check_bound F.excBase_ValueError hC he rfl (wpAny_bind (wpAny_pure (wpAny_pure ?_)))))
  have FB := F.excBase_ValueError
  refine ⟨plainId_quiet FB.init.plain _, codeAny_builtin FB.initEntry ?_⟩
  rw [Around.under_plainId FB.init.plain _]
  wp_walk
  refine k _ hp.objs.size (fun b o n z => ?_) ?_
  · rw [Heap.get?_update_other _ _ (Ne.symm n)]
    exact Heap.get?_push_of_some _ z
  · rw [Heap.get?_update_self _ (Heap.get?_push_of_some _ he) rfl]
    rfl
theorem call_bound1 {M : Model} {s : Shared} {pos : Pos} {u b : Addr} {env : Env} {ae : PySem.Expr} {i : String} {Q : Value → Shared → Prop} (hpl : starEach (ae :: []) env = (false, eval ae env) :: starEach [] env)
    (h : wpAny M A (eval ae env) (fun v s₁ => KxsAt i u b s₁.heap ∧ wpAny M A (call (.ref u) [v]) Q E s₁) E s) : wpAny M A (callWith pos (.ref u) [] (backTo pos (starEach [ae] env)) []) Q E s := by
  have q : wpAny M A (spliced (backTo pos (starEach (ae :: []) env))) (fun vs s₁ => KxsAt i u b s₁.heap ∧ wpAny M A (call (.ref u) vs) Q E s₁) E s := args_cons (he := hpl) (wpAny_mono h (fun v s₁ z => wpAny_of_eq rfl z) fun _ _ z => z)
  rw [hpl] at q ⊢
  exact kxs_callWith (x := b) rfl (evalArgs_plain q)
theorem err_init {R : Result → Shared → Prop} {K : Frag} {mg mb : Str → Option Value} {x fld : Str} {C fI e t0 : Addr} {ae : PySem.Expr} {st : Stmt} {v : Value} (T : ErrTxt prog K mg x fld C fI ae st) (hA : ArgOk prog w ae fld v)
    (X : K.In hp) (hlim : hp.NoLimit) (hg : hp.Ns mainGlobals mg) (hb : hp.Ns builtinsNs mb) (hbb : ∀ y : Str, y ≠ "__name__" → mb y = bootBuiltins y) (he : hp.get? e = some (excO C t0)) (hne : K.lookup e = none) (hroom : A.depth < recursionLimit)
    (hq : ∀ h' tk dx t1, EndOf hp h' e C dx t1 fld v → R (.ok (.ret .none)) ⟨h', g, d, tk, os⟩) : codeAny (model prog w) A (.call (.ref fI) ⟨[.ref e, v], []⟩) R ⟨hp, g, d, tk, os⟩ := by
  obtain ⟨oc, od, doc, pm, an, cda, ct, osl, cc, vs, file, tf, ccl, cl, cdd, cld, ccs, csl, qual, lf, lc, lda, lvs, lfile, lcc⟩ := T.fn
  obtain ⟨p0, p1, p2, p3, p4, q1, q2, q3, q4, a1, a2, hB, hArgs, hcallE⟩ := T.text
  obtain ⟨nm, qn, N, bs, bm, sn, sub, ab, col, dd, k0, k1, k2, k3, k5, lC, hbm⟩ := T.cls
  have hcl : clsIn K C = some { name := nm, bases := bs, mro := .ref C :: bm, ns := N, qualname := qn, hasDict := true, slotNames := sn, subclasses := sub, abstract := ab, collection := col, hasDel := false } := by
    unfold clsIn
    rw [lC]
    all_goals rfl
  have hbind := T.bind qual doc pm an cda ct cc (.ref e) v
  rw [hB, hArgs] at lf hbind
  have neC : e ≠ C := fun z => by
    rw [z, lC] at hne
    cases hne
  refine ks_codeAny_call_defAt (binds := [("self", .ref e), (fld, v)]) hroom (X _ _ lf) rfl hlim (codeRec_of X lc) rfl (BindsTo.of_eq hbind) T.noCell ?_ (fun h1 hns keep => ?_) T.co T.gen T.knd
  · intro y hy
    rcases List.mem_cons.mp hy with z | hy
    · rw [z]; exact T.k0
    · rcases List.mem_cons.mp hy with z | hy
      · rw [z]; exact T.kF
      · cases hy
  have hint : ∀ env : Env, env.scope = L2.defScope st → interactive env = false := fun env z => by
    unfold interactive
    rw [z, T.knd]
    rfl
  have X1 : K.In h1 := X.keeps keep
  have he1 := keep _ _ he
  have m0 : ([("self", Value.ref e), (fld, v)] : List (Str × Value)).reverse.lookup ("self" : Str) = some (.ref e) := by
    show List.lookup ("self" : Str) [(fld, v), (("self" : Str), Value.ref e)] = some (.ref e)
    rw [List.lookup_cons, T.nF]
    rfl
  have mF : ([("self", Value.ref e), (fld, v)] : List (Str × Value)).reverse.lookup fld = some v := by
    show List.lookup fld [(fld, v), (("self" : Str), Value.ref e)] = some v
    rw [List.lookup_cons, beq_self_eq_true]
  obtain ⟨oD, hD1, hD2⟩ : ∃ oD : Obj, h1.get? C = some oD ∧ oD.data = .cls { name := nm, bases := bs, mro := .ref C :: bm, ns := N, qualname := qn, hasDict := true, slotNames := sn, subclasses := sub, abstract := ab, collection := col, hasDel := false } := ⟨_, X1 _ _ lC, rfl⟩
  refine ks_wpAt_execs_cons (ks_wpAt_Expr_any (hi := hint _ rfl) (ks_wpAt_MethodCall (he := hcallE _) (ks_wpAt_super_base T.kS T.kK (by decide) rfl (X1 _ _ lf) rfl rfl rfl (X1 _ _ lda) rfl lvs lfile T.main ?_)))
  refine ks_loadName_global T.knd T.kS (Calls.loadGlobal_builtin (hg.keeps keep) T.sup (hb.keeps keep) ((hbb _ (by decide +kernel)).trans (show bootBuiltins "super" = some (.type "super") by kernel_rfl)) ⟨rfl, ?_⟩)
  refine wpAny_loadName_free T.knd T.kK rfl ⟨_, X1 _ _ lcc, rfl⟩ ?_
  refine wpAny_loadName_local T.knd T.k0 hns m0 ?_
  refine ks_wpAny_isType_cls hD1 hD2 ⟨rfl, ?_⟩
  refine ks_wpAny_call_super hD1 hD2 he1 rfl (fun c z => by cases z) (looks_mroIn X1 T.own) (fun h2 hso k2 => ?_)
  have X2 : K.In h2 := X1.keeps k2
  have he2 := k2 _ _ he1
  have hup : alongIn K "__init__" (List.drop 1 (List.dropWhile (fun (z : Value) => z != Value.ref C) (.ref C :: bm))) = some (some (.builtin "ValueError.__init__")) := by
    have z := T.up
    unfold ks_superIn at z
    rw [hcl] at z
    exact z
  have I2 : InstAt h2 e (excO C t0) C none := ⟨he2, rfl, rfl, trivial⟩
  refine kxs_getMethod kxs_ValueError hso (looks_opaque X2 T.any) (l₀ := .ref C :: bm) (fun A Q E s k q => wpAny_bind ((looks_clsIn X2 hcl) A _ E s k (wpAny_pure q))) rfl X2 hup (I2.type.andThen (looks_subIn X2 T.ve)) neC (by decide) ?_
  have k3 : ∀ b o, h2.get? b = some o → (h2.push (kxs_mw "ValueError.__init__" e)).get? b = some o := fun b o z => Heap.get?_push_of_some _ z
  have k13 : ∀ b o, h1.get? b = some o → (h2.push (kxs_mw "ValueError.__init__" e)).get? b = some o := fun b o z => k3 _ _ (k2 _ _ z)
  have hn3 := hns.keeps k13
  refine call_bound1 (i := "ValueError.__init__") (b := e) (T.plain _) ?_
  refine hA _ _ _ _ _ _ hn3 mF T.knd T.kF fun z t tk => ⟨Heap.get?_push_at rfl rfl, ?_⟩
  refine base_init (X2.keeps k3 _ _ lC) (k3 _ _ he2) (Heap.get?_push_at rfl rfl) (by rw [sizeLine_eq]; exact Nat.le_of_ble_eq_true rfl) fun h4 t1 k4 he4 => ?_
  have X4 : K.In h4 := fun b o z => k4 _ _ (fun y => by rw [y, hne] at z; cases z) (X2.keeps k3 b o z)
  have hLe : hp.objs.size ≠ e := Nat.ne_of_gt (Heap.lt_size he)
  have hn4 : h4.Ns hp.objs.size (fun y => List.lookup y ([(("self" : Str), Value.ref e), (fld, v)] : List (Str × Value)).reverse) := by
    obtain ⟨oL, es, ep, hL, r⟩ := hn3
    exact ⟨oL, es, ep, k4 _ _ hLe hL, r⟩
  -- self.F = F
  refine wpAt_of_wpAny (wpAny_execs_cons (plainObj_wpAny_Assign_Attribute ?_))
  refine ESX.ldL hn4 mF (ESX.ldL hn4 m0 ?_ T.knd T.k0) T.knd T.kF T.nD
  refine set_plain X4 (ox := excO C t1) (od := none) ⟨he4, rfl, rfl, trivial⟩ T.sa ?_
  refine exc_osa X4 he4 hcl (show refsVE (.ref C :: bm) = true from hbm) rfl T.noF (fun h5 tk5 dx k5' dn dne he5 hn5 => ?_)
  have z : hp.objs.size ≤ dx := Nat.le_trans (Nat.le_of_lt (Nat.lt_of_lt_of_le hn4.lt (Nat.le_refl _))) dn
  exact wpAny_execs_nil (hq h5 tk5 dx t1 ⟨fun b o hbe y => k5' b o hbe (k4 b o hbe (k3 b o (k2 b o (keep b o y)))), he5, z, dne, hn5⟩)
/-- a made error -/
structure Made (h h' : Heap) (e C d : Addr) (fld : Str) (v : Value) : Prop where
  keep : ∀ b o, h.get? b = some o → h'.get? b = some o
  new : h.objs.size ≤ e
  obj : ∃ oe vs, h'.get? e = some oe ∧ oe.cls = .ref C ∧ oe.dict = some d ∧ oe.data = .fields vs ∧ vs[1]? = some .none
  dbig : h.objs.size ≤ d
  dne : d ≠ e
  ns : h'.Ns1 d (fun y => if y = fld then some v else none)
theorem err_made {R : Result → Shared → Prop} {K : Frag} {mg mb : Str → Option Value} {x fld : Str} {C fI : Addr} {ae : PySem.Expr} {st : Stmt} {v : Value} (T : ErrTxt prog K mg x fld C fI ae st) (hA : ArgOk prog w ae fld v)
    (X : K.In hp) (hlim : hp.NoLimit) (hg : hp.Ns mainGlobals mg) (hb : hp.Ns builtinsNs mb) (hbb : ∀ y : Str, y ≠ "__name__" → mb y = bootBuiltins y) (hroom : A.depth + 1 < recursionLimit)
    (hq : ∀ h' tk e dx, Made hp h' e C dx fld v → R (.ok (.ret (.ref e))) ⟨h', g, d, tk, os⟩) : codeAny (model prog w) A (.call (.ref C) ⟨[v], []⟩) R ⟨hp, g, d, tk, os⟩ := by
  obtain ⟨nm, qn, N, bs, bm, sn, sub, ab, col, dd, k0, k1, k2, k3, k5, lC, hbm⟩ := T.cls
  have k : ∀ b o, hp.get? b = some o → ((hp.push (kdv_tup [v])).push (excO C hp.objs.size)).get? b = some o := fun b o z => Heap.get?_push_of_some _ (Heap.get?_push_of_some _ z)
  have hget : ((hp.push (kdv_tup [v])).push (excO C hp.objs.size)).get? (hp.objs.size + 1) = some (excO C hp.objs.size) := by heap_get
  have hnx : K.lookup (hp.objs.size + 1) = none := by
    cases z : K.lookup (hp.objs.size + 1) with
    | none => rfl
    | some o => exact absurd (Nat.lt_of_succ_lt (Heap.lt_size (X _ _ z))) (Nat.lt_irrefl _)
  refine call_own F.excBase_ValueError (fun X => refsVE_contains X bm hbm) (X _ _ lC) (looks_findIn X T.iC) (fun self => bind_fn X self T.tC) (by rw [sizeLine_eq]; exact Nat.le_of_ble_eq_true rfl) ?_
  refine err_init T hA (X.keeps k) (hlim.keeps k) (hg.keeps k) (hb.keeps k) hbb hget hnx ?_ fun h' tk' dx t1 M => ?_
  · show A.depth + 1 < recursionLimit
    exact hroom
  · have old : ∀ b o, hp.get? b = some o → h'.get? b = some o := fun b o z => M.keep b o (Nat.ne_of_lt (Nat.lt_succ_of_lt (Heap.lt_size z))) (k b o z)
    have z : hp.objs.size + 1 + 1 ≤ dx := by
      have q := M.dbig
      rw [Heap.size_push, Heap.size_push] at q
      exact q
    exact ⟨rfl, hq h' tk' (hp.objs.size + 1) dx ⟨old, Nat.le_succ _, ⟨_, _, M.obj, rfl, rfl, rfl, rfl⟩, Nat.le_trans (Nat.le_trans (Nat.le_succ _) (Nat.le_succ _)) z, M.dne, M.ns⟩⟩
end
end ErrX
namespace L2
open PySem PySem.Spec PyProof.Rows ErrX
theorem relO_fld {v : V} {v' : Value} (fld : Str) (r : RelV v v') (f : Str) : RelO (List.lookup f [(fld, v)]) (if f = fld then some v' else none) := by
  by_cases hw : f = fld
  · subst hw
    rw [if_pos rfl]
    have q : List.lookup f [(f, v)] = some v := by simp [List.lookup]
    rw [q]
    exact r
  · rw [if_neg hw]
    have qw : (f == fld) = false := by simpa using hw
    have q2 : List.lookup f [(fld, v)] = none := by simp [List.lookup, qw]
    rw [q2]
    trivial
section
variable {X : Cx} {C fI : Addr} {x fld : Str} {ae : PySem.Expr} {st : Stmt}
/-- Bad(e) -/
def tMkErr (C : Addr) (fld : Str) (ok : V → Prop) (ta : TA) : L2.St → Hp → XK → Prop := fun σ H Q => ta σ H fun vs H1 => ∃ v, vs = [v] ∧ ok v ∧ ∀ d, H1 d = none → Q (.ref C) (some d) (upd H1 d (.xd [(fld, v)]))
theorem pmk_err {ok : V → Prop} {a : PySem.Expr} {ta : TA} {p pos : Pos} {k : Nat} (T : ErrTxt X.prog X.K X.mg x fld C fI ae st) (hA : ∀ v u, ok v → RelV v u → ArgOk X.prog X.w ae fld u) (hr : Room k X.A) (ha : PA X [a] ta) (hg : Gl X x) (hdb : (x == ("__debug__" : Str)) = false)
    (he : starEach (a :: []) X.env = (false, eval a X.env) :: starEach [] X.env) (hpl : (backTo pos (starEach [] X.env)).any (·.1) = false) :
    PMk X (.Call (.Name x p) [a] [] pos) (tMkErr C fld ok ta) := by
  intro pins s σ H Q I h
  refine wpAny_Call_Name_kw (ld_glob I hg T.gC ?_ hdb)
  refine PySem.W.callWith_K (h₀ := X.base) I.ok.mod.kin T.kC (thn (ha.run pos pins s σ H _ I h) fun us s1 hh => ?_) he hpl
  obtain ⟨vs, H1, I1, r1, v, ev, okv, q1⟩ := hh
  subst ev
  refine ⟨I1.kIn, ?_⟩
  cases r1 with
  | cons rv rn =>
    rename_i v' us'
    cases rn
    show wpAny _ _ (call (.ref C) [v']) _ _ _
    have hlim := I1.nolimit
    obtain ⟨mb, hb1, hb2⟩ := I1.mod.blt
    have hgN := I1.mod.glob.keeps I1.bk
    have hbN := hb1.keeps I1.bk
    obtain ⟨hp, g, dr, tk, os⟩ := s1
    refine wpAny_call (err_made T (hA v v' okv rv) I1.kIn hlim hgN hbN hb2 (by have := hr.dp; omega) fun h' tk' e d M => ?_)
    show MkP X pins σ Q (.ref e) ⟨h', g, dr, tk', os⟩
    obtain ⟨oe, fv, hoe, hc, hd, hdat, h1⟩ := M.obj
    have hns := M.ns
    obtain ⟨G', g1, g2⟩ := restrict h' fun b => decide (b ≠ e)
    have gk : ∀ b, b ≠ e → G'.get? b = h'.get? b := fun b hb => g1 b (decide_eq_true hb)
    have ge : G'.get? e = none := g2 e (by simp)
    have old : ∀ b o, hp.get? b = some o → G'.get? b = some o := fun b o q => (gk b (Nat.ne_of_lt (Nat.lt_of_lt_of_le (Heap.lt_size q) M.new))).trans (M.keep b o q)
    have ob : ObjOk X.prog X.w (upd H1 d (.xd [(fld, v)])) G' d (.xd [(fld, v)]) := ⟨_, hns.at (fun o q => (gk d M.dne).trans q), fun f => relO_fld fld rv f⟩
    have J : Inv X pins σ (upd H1 d (.xd [(fld, v)])) ⟨G', g, dr, tk', os⟩ := I1.laid (t' := tk') old M.dbig ob
    refine ⟨e, oe, fv, ⟨G', g, dr, tk', os⟩, _, .ref C, some d, rfl, J, fun b o q => ?_, ge, hoe, ⟨hc, hd⟩, hdat, h1, ?_, rfl, I1.bare, raises_own T.exC T.tyC, q1 d (I1.hok.fresh M.dbig)⟩
    · by_cases hb : b = e
      · have q' : G'.get? b = some o := q
        rw [hb, ge] at q'
        cases q'
      · exact (gk b hb).symm.trans q
    · rw [upd_ne (Ne.symm M.dne)]
      exact I1.hok.fresh M.new
/-- raise Bad(e) -/
def tRaiseF (C : Addr) (fld : Str) (ok : V → Prop) (W : WX) (ta : TA) : TS := fun _ σ H => tMkErr C fld ok ta σ H fun cls d H' => W cls d σ H'
theorem ps_raiseF {ok : V → Prop} {a : PySem.Expr} {ta : TA} {W : WX} {p pos pos2 : Pos} {k : Nat} (T : ErrTxt X.prog X.K X.mg x fld C fI ae st) (hA : ∀ v u, ok v → RelV v u → ArgOk X.prog X.w ae fld u) (hc : X.calm = true) (hr : Room k X.A) (tk : Takes X W) (ha : PA X [a] ta) (hg : Gl X x := by rfl)
    (hdb : (x == ("__debug__" : Str)) = false := by decide) (he : starEach (a :: []) X.env = (false, eval a X.env) :: starEach [] X.env := by rfl) (hpl : (backTo pos (starEach [] X.env)).any (·.1) = false := by rfl) :
    PS X (.Raise (some (.Call (.Name x p) [a] [] pos)) none pos2) (tRaiseF C fld ok W ta) := ps_raise hc tk (pmk_err T hA hr ha hg hdb he hpl)
/-- e.F, e the error that the suite holds (at a; its class cls, its dict d) -/
def tErrF (C : Addr) (fld : Str) (a : Addr) (cls : Value) (d : Option Addr) (te : TE) : TE := fun σ H Q => te σ H fun y H1 => y = .ref a ∧ cls = .ref C ∧ ∃ (dd : Addr) (v : V), d = some dd ∧ H1 dd = some (.xd [(fld, v)]) ∧ Q v H1
theorem pe_errF {P : Program} {a : Addr} {oe : Obj} {cls : Value} {d : Option Addr} {pn : List (Addr × Obj)} {e : PySem.Expr} {te : TE} {pos : Pos} (T : ErrTxt P X.K X.mg x fld C fI ae st) (hz : Zc cls d oe) (hf : ∃ vs, oe.data = .fields vs) (he : PE (X.suite a ((a, oe) :: pn)) e te)
    (hb : attributeBase e fld X.env (eval e X.env) = eval e X.env := by rfl) : PE (X.suite a ((a, oe) :: pn)) (.Attribute e fld pos) (tErrF C fld a cls d te) := by
  refine ⟨fun pins s σ H Q I h => ?_⟩
  refine attr_of hb (thn (he.run pins s σ H _ I h) fun u s1 hh => ?_)
  obtain ⟨y, H1, I1, rx, ex, ec, dd, v, ed, ea, q⟩ := hh
  subst ex
  obtain rfl : u = Value.ref a := rx
  subst ec
  subst ed
  obtain ⟨ha, _⟩ := I1.pin (a, oe) (List.mem_append_left _ List.mem_cons_self)
  obtain ⟨vs, hd⟩ := hf
  have hx : ObjOk X.prog X.w H1 s1.heap dd (.xd [(fld, v)]) := I1.hok dd _ ea
  obtain ⟨mA, hns, hr⟩ := hx
  obtain ⟨od, ho, hl⟩ := lookIn_ns hns
  have l : List.lookup fld [(fld, v)] = some v := by simp [List.lookup]
  obtain ⟨u, hu, ru⟩ := RelO.some_of (v := v) (o := mA fld) (by rw [← l]; exact hr fld)
  have J : PySem.W.InstAt s1.heap a oe C (some od) := ⟨ha, hz.1, by unfold PySem.W.notCls; rw [hd] <;> rfl, by rw [hz.2]; exact ho⟩
  exact HandSPX.exc_get I1.kIn J T.ga T.gg T.exC (PySem.W.findObj_own T.hdC T.noF rfl (by rw [hl, hu])) (handed_of ru) ⟨v, H1, I1.tok _, ru, q⟩
end
end L2
namespace Rt
open PySem L2 PySem.Spec PyProof.Rows

set_option genInjectivity false in
set_option genSizeOf false in
set_option genSizeOfSpec false in
set_option genCtorIdx false in
structure Tx (P : Program) (K : PySem.W.Frag) (mg : Str → Option Value) : Type where
  C_TrickError : Addr
  g_TrickError : mg "TrickError" = some (.ref C_TrickError)
  x_TrickError : PySem.W.excIn K C_TrickError [.type "ValueError", .type "Exception", .type "BaseException", .type "object"] "ValueError.__new__" = true
  k_TrickError : PySem.W.keepIn K (.ref C_TrickError) = true
  s_TrickError : PySem.W.subIn K (.ref C_TrickError) (.type "BaseException") = some true
  t_TrickError : PySem.W.typeIn K (.ref C_TrickError) = some (.type "type")
  C_BadBase : Addr
  g_BadBase : mg "BadBase" = some (.ref C_BadBase)
  x_BadBase : PySem.W.excIn K C_BadBase [.type "ValueError", .type "Exception", .type "BaseException", .type "object"] "ValueError.__new__" = true
  k_BadBase : PySem.W.keepIn K (.ref C_BadBase) = true
  s_BadBase : PySem.W.subIn K (.ref C_BadBase) (.type "BaseException") = some true
  t_BadBase : PySem.W.typeIn K (.ref C_BadBase) = some (.type "type")
  C_BadTake : Addr
  g_BadTake : mg "BadTake" = some (.ref C_BadTake)
  x_BadTake : PySem.W.excIn K C_BadTake [.type "ValueError", .type "Exception", .type "BaseException", .type "object"] "ValueError.__new__" = true
  k_BadTake : PySem.W.keepIn K (.ref C_BadTake) = true
  s_BadTake : PySem.W.subIn K (.ref C_BadTake) (.type "BaseException") = some true
  t_BadTake : PySem.W.typeIn K (.ref C_BadTake) = some (.type "type")
  C_BadTimes : Addr
  g_BadTimes : mg "BadTimes" = some (.ref C_BadTimes)
  x_BadTimes : PySem.W.excIn K C_BadTimes [.type "ValueError", .type "Exception", .type "BaseException", .type "object"] "ValueError.__new__" = true
  k_BadTimes : PySem.W.keepIn K (.ref C_BadTimes) = true
  s_BadTimes : PySem.W.subIn K (.ref C_BadTimes) (.type "BaseException") = some true
  t_BadTimes : PySem.W.typeIn K (.ref C_BadTimes) = some (.type "type")
  C_BadTrick : Addr
  g_BadTrick : mg "BadTrick" = some (.ref C_BadTrick)
  x_BadTrick : PySem.W.excIn K C_BadTrick [.type "ValueError", .type "Exception", .type "BaseException", .type "object"] "ValueError.__new__" = true
  k_BadTrick : PySem.W.keepIn K (.ref C_BadTrick) = true
  s_BadTrick : PySem.W.subIn K (.ref C_BadTrick) (.type "BaseException") = some true
  t_BadTrick : PySem.W.typeIn K (.ref C_BadTrick) = some (.type "type")
  C_BadDivisor : Addr
  g_BadDivisor : mg "BadDivisor" = some (.ref C_BadDivisor)
  x_BadDivisor : PySem.W.excIn K C_BadDivisor [.type "ValueError", .type "Exception", .type "BaseException", .type "object"] "ValueError.__new__" = true
  k_BadDivisor : PySem.W.keepIn K (.ref C_BadDivisor) = true
  s_BadDivisor : PySem.W.subIn K (.ref C_BadDivisor) (.type "BaseException") = some true
  t_BadDivisor : PySem.W.typeIn K (.ref C_BadDivisor) = some (.type "type")
  C_BadNumber : Addr
  g_BadNumber : mg "BadNumber" = some (.ref C_BadNumber)
  k_BadNumber : PySem.W.keepIn K (.ref C_BadNumber) = true
  s_BadNumber : PySem.W.subIn K (.ref C_BadNumber) (.type "BaseException") = some true
  t_BadNumber : PySem.W.typeIn K (.ref C_BadNumber) = some (.type "type")
  C_BadTricks : Addr
  g_BadTricks : mg "BadTricks" = some (.ref C_BadTricks)
  k_BadTricks : PySem.W.keepIn K (.ref C_BadTricks) = true
  s_BadTricks : PySem.W.subIn K (.ref C_BadTricks) (.type "BaseException") = some true
  t_BadTricks : PySem.W.typeIn K (.ref C_BadTricks) = some (.type "type")
  C_BadPairs : Addr
  g_BadPairs : mg "BadPairs" = some (.ref C_BadPairs)
  k_BadPairs : PySem.W.keepIn K (.ref C_BadPairs) = true
  s_BadPairs : PySem.W.subIn K (.ref C_BadPairs) (.type "BaseException") = some true
  t_BadPairs : PySem.W.typeIn K (.ref C_BadPairs) = some (.type "type")
  C_TooWide : Addr
  g_TooWide : mg "TooWide" = some (.ref C_TooWide)
  k_TooWide : PySem.W.keepIn K (.ref C_TooWide) = true
  s_TooWide : PySem.W.subIn K (.ref C_TooWide) (.type "BaseException") = some true
  t_TooWide : PySem.W.typeIn K (.ref C_TooWide) = some (.type "type")
  t_c_GREATEST_NUMBER : Tok
  c_GREATEST_NUMBER : mg "GREATEST_NUMBER" = some (.int 10000000000000000000000000000000000000000 t_c_GREATEST_NUMBER)
  t_c_LEAST_BASE : Tok
  c_LEAST_BASE : mg "LEAST_BASE" = some (.int 2 t_c_LEAST_BASE)
  t_c_GREATEST_BASE : Tok
  c_GREATEST_BASE : mg "GREATEST_BASE" = some (.int 16 t_c_GREATEST_BASE)
  t_c_GREATEST_TAKE : Tok
  c_GREATEST_TAKE : mg "GREATEST_TAKE" = some (.int 2 t_c_GREATEST_TAKE)
  t_c_GREATEST_DIVISOR : Tok
  c_GREATEST_DIVISOR : mg "GREATEST_DIVISOR" = some (.int 100 t_c_GREATEST_DIVISOR)
  t_c_GREATEST_TIMES : Tok
  c_GREATEST_TIMES : mg "GREATEST_TIMES" = some (.int 100 t_c_GREATEST_TIMES)
  t_c_MOST_ROUNDS : Tok
  c_MOST_ROUNDS : mg "MOST_ROUNDS" = some (.int 200 t_c_MOST_ROUNDS)
  t_c_MOST_TRICKS : Tok
  c_MOST_TRICKS : mg "MOST_TRICKS" = some (.int 4 t_c_MOST_TRICKS)
  t_c_GREATEST_CHAIN_DIVISOR : Tok
  c_GREATEST_CHAIN_DIVISOR : mg "GREATEST_CHAIN_DIVISOR" = some (.int 30 t_c_GREATEST_CHAIN_DIVISOR)
  t_c_GREATEST_PRODUCT : Tok
  c_GREATEST_PRODUCT : mg "GREATEST_PRODUCT" = some (.int 300 t_c_GREATEST_PRODUCT)
  t_c_GREATEST_LENGTH : Tok
  c_GREATEST_LENGTH : mg "GREATEST_LENGTH" = some (.int 40 t_c_GREATEST_LENGTH)
  t_c_MOST_PAIRS : Tok
  c_MOST_PAIRS : mg "MOST_PAIRS" = some (.int 10 t_c_MOST_PAIRS)
  a_is_integer : Addr
  d_is_integer : FuncData
  F_is_integer : Fun K "is_integer" "is_integer" s_is_integer a_is_integer d_is_integer
  b_is_integer : Binds K d_is_integer ["told", "low", "high"] []
  g_is_integer : mg "is_integer" = some (.ref a_is_integer)
  a_is_list_or_tuple : Addr
  d_is_list_or_tuple : FuncData
  F_is_list_or_tuple : Fun K "is_list_or_tuple" "is_list_or_tuple" s_is_list_or_tuple a_is_list_or_tuple d_is_list_or_tuple
  b_is_list_or_tuple : Binds K d_is_list_or_tuple ["told", "fewest", "most"] []
  g_is_list_or_tuple : mg "is_list_or_tuple" = some (.ref a_is_list_or_tuple)
  a_is_number : Addr
  d_is_number : FuncData
  F_is_number : Fun K "is_number" "is_number" s_is_number a_is_number d_is_number
  b_is_number : Binds K d_is_number ["told"] []
  g_is_number : mg "is_number" = some (.ref a_is_number)
  a_check_base : Addr
  d_check_base : FuncData
  F_check_base : Fun K "check_base" "check_base" s_check_base a_check_base d_check_base
  b_check_base : Binds K d_check_base ["base"] []
  g_check_base : mg "check_base" = some (.ref a_check_base)
  a_check_take : Addr
  d_check_take : FuncData
  F_check_take : Fun K "check_take" "check_take" s_check_take a_check_take d_check_take
  b_check_take : Binds K d_check_take ["take"] []
  g_check_take : mg "check_take" = some (.ref a_check_take)
  a_check_divisor : Addr
  d_check_divisor : FuncData
  F_check_divisor : FunD K "check_divisor" "check_divisor" (defArgs s_check_divisor) (defBody s_check_divisor) (defScope s_check_divisor) [.int 100] [] a_check_divisor d_check_divisor
  b_check_divisor : Binds K d_check_divisor ["d", "greatest"] []
  ds_check_divisor : List Value
  rd_check_divisor : Vals [.int 100] ds_check_divisor
  bd_check_divisor : Binds K d_check_divisor ["d", "greatest"] ds_check_divisor
  g_check_divisor : mg "check_divisor" = some (.ref a_check_divisor)
  a_check_stretch : Addr
  d_check_stretch : FuncData
  F_check_stretch : Fun K "check_stretch" "check_stretch" s_check_stretch a_check_stretch d_check_stretch
  b_check_stretch : Binds K d_check_stretch ["n", "low", "high"] []
  g_check_stretch : mg "check_stretch" = some (.ref a_check_stretch)
  a_check_number : Addr
  d_check_number : FuncData
  F_check_number : Fun K "check_number" "check_number" s_check_number a_check_number d_check_number
  b_check_number : Binds K d_check_number ["n"] []
  g_check_number : mg "check_number" = some (.ref a_check_number)
  a_block_of : Addr
  d_block_of : FuncData
  F_block_of : Fun K "block_of" "block_of" s_block_of a_block_of d_block_of
  b_block_of : Binds K d_block_of ["base", "take"] []
  g_block_of : mg "block_of" = some (.ref a_block_of)
  a_trail : Addr
  d_trail : FuncData
  F_trail : Fun K "trail" "trail" s_trail a_trail d_trail
  b_trail : Binds K d_trail ["trick", "n", "rounds"] []
  g_trail : mg "trail" = some (.ref a_trail)
  a_ahead : Addr
  d_ahead : FuncData
  F_ahead : Fun K "ahead" "ahead" s_ahead a_ahead d_ahead
  b_ahead : Binds K d_ahead ["trick", "n"] []
  g_ahead : mg "ahead" = some (.ref a_ahead)
  a_check_trick : Addr
  d_check_trick : FuncData
  F_check_trick : Fun K "check_trick" "check_trick" s_check_trick a_check_trick d_check_trick
  b_check_trick : Binds K d_check_trick ["trick"] []
  g_check_trick : mg "check_trick" = some (.ref a_check_trick)
  a_trick_block : Addr
  d_trick_block : FuncData
  F_trick_block : Fun K "trick_block" "trick_block" s_trick_block a_trick_block d_trick_block
  b_trick_block : Binds K d_trick_block ["trick"] []
  g_trick_block : mg "trick_block" = some (.ref a_trick_block)
  a_made_of : Addr
  d_made_of : FuncData
  F_made_of : Fun K "made_of" "made_of" s_made_of a_made_of d_made_of
  b_made_of : Binds K d_made_of ["trick", "n"] []
  g_made_of : mg "made_of" = some (.ref a_made_of)
  a_made_with : Addr
  d_made_with : FuncData
  F_made_with : Fun K "made_with" "made_with" s_made_with a_made_with d_made_with
  b_made_with : Binds K d_made_with ["block", "times", "n"] []
  g_made_with : mg "made_with" = some (.ref a_made_with)
  a_bound : Addr
  d_bound : FuncData
  F_bound : Fun K "bound" "bound" s_bound a_bound d_bound
  b_bound : Binds K d_bound ["trick"] []
  g_bound : mg "bound" = some (.ref a_bound)
  a_rings : Addr
  d_rings : FuncData
  F_rings : Fun K "rings" "rings" s_rings a_rings d_rings
  b_rings : Binds K d_rings ["trick"] []
  g_rings : mg "rings" = some (.ref a_rings)
  a_greatest_size : Addr
  d_greatest_size : FuncData
  F_greatest_size : Fun K "greatest_size" "greatest_size" s_greatest_size a_greatest_size d_greatest_size
  b_greatest_size : Binds K d_greatest_size ["block", "times", "rest"] []
  g_greatest_size : mg "greatest_size" = some (.ref a_greatest_size)
  a_rounded_up : Addr
  d_rounded_up : FuncData
  F_rounded_up : Fun K "rounded_up" "rounded_up" s_rounded_up a_rounded_up d_rounded_up
  b_rounded_up : Binds K d_rounded_up ["n", "d"] []
  g_rounded_up : mg "rounded_up" = some (.ref a_rounded_up)
  a_unseen_path : Addr
  d_unseen_path : FuncData
  F_unseen_path : Fun K "unseen_path" "unseen_path" s_unseen_path a_unseen_path d_unseen_path
  b_unseen_path : Binds K d_unseen_path ["trick", "n", "seen"] []
  g_unseen_path : mg "unseen_path" = some (.ref a_unseen_path)
  a_ring_at_end : Addr
  d_ring_at_end : FuncData
  F_ring_at_end : Fun K "ring_at_end" "ring_at_end" s_ring_at_end a_ring_at_end d_ring_at_end
  b_ring_at_end : Binds K d_ring_at_end ["trick", "path"] []
  g_ring_at_end : mg "ring_at_end" = some (.ref a_ring_at_end)
  a_chained : Addr
  d_chained : FuncData
  F_chained : Fun K "chained" "chained" s_chained a_chained d_chained
  b_chained : Binds K d_chained ["tricks", "n"] []
  g_chained : mg "chained" = some (.ref a_chained)
  a_chain_tells : Addr
  d_chain_tells : FuncData
  F_chain_tells : Fun K "chain_tells" "chain_tells" s_chain_tells a_chain_tells d_chain_tells
  b_chain_tells : Binds K d_chain_tells ["tricks", "d"] []
  g_chain_tells : mg "chain_tells" = some (.ref a_chain_tells)
  a_check_tricks : Addr
  d_check_tricks : FuncData
  F_check_tricks : Fun K "check_tricks" "check_tricks" s_check_tricks a_check_tricks d_check_tricks
  b_check_tricks : Binds K d_check_tricks ["tricks"] []
  g_check_tricks : mg "check_tricks" = some (.ref a_check_tricks)
  a_check_chain : Addr
  d_check_chain : FuncData
  F_check_chain : Fun K "check_chain" "check_chain" s_check_chain a_check_chain d_check_chain
  b_check_chain : Binds K d_check_chain ["tricks", "d"] []
  g_check_chain : mg "check_chain" = some (.ref a_check_chain)
  a_made_of_all : Addr
  d_made_of_all : FuncData
  F_made_of_all : Fun K "made_of_all" "made_of_all" s_made_of_all a_made_of_all d_made_of_all
  b_made_of_all : Binds K d_made_of_all ["tricks", "n"] []
  g_made_of_all : mg "made_of_all" = some (.ref a_made_of_all)
  a_blocks_product : Addr
  d_blocks_product : FuncData
  F_blocks_product : Fun K "blocks_product" "blocks_product" s_blocks_product a_blocks_product d_blocks_product
  b_blocks_product : Binds K d_blocks_product ["tricks"] []
  g_blocks_product : mg "blocks_product" = some (.ref a_blocks_product)
  a_rest_pairs : Addr
  d_rest_pairs : FuncData
  F_rest_pairs : Fun K "rest_pairs" "rest_pairs" s_rest_pairs a_rest_pairs d_rest_pairs
  b_rest_pairs : Binds K d_rest_pairs ["tricks", "d"] []
  g_rest_pairs : mg "rest_pairs" = some (.ref a_rest_pairs)
  a_slip : Addr
  d_slip : FuncData
  F_slip : Fun K "slip" "slip" s_slip a_slip d_slip
  b_slip : Binds K d_slip ["base", "d", "length"] []
  g_slip : mg "slip" = some (.ref a_slip)
  a_swap : Addr
  d_swap : FuncData
  F_swap : Fun K "swap" "swap" s_swap a_swap d_swap
  b_swap : Binds K d_swap ["base", "d", "length", "far"] []
  g_swap : mg "swap" = some (.ref a_swap)
  a_good_divisors : Addr
  d_good_divisors : FuncData
  F_good_divisors : Fun K "good_divisors" "good_divisors" s_good_divisors a_good_divisors d_good_divisors
  b_good_divisors : Binds K d_good_divisors ["base", "length", "most"] []
  g_good_divisors : mg "good_divisors" = some (.ref a_good_divisors)
  a_check_length : Addr
  d_check_length : FuncData
  F_check_length : Fun K "check_length" "check_length" s_check_length a_check_length d_check_length
  b_check_length : Binds K d_check_length ["length"] []
  g_check_length : mg "check_length" = some (.ref a_check_length)
  a_least_unseen : Addr
  d_least_unseen : FuncData
  F_least_unseen : Fun K "least_unseen" "least_unseen" s_least_unseen a_least_unseen d_least_unseen
  b_least_unseen : Binds K d_least_unseen ["base", "d", "places", "change"] []
  g_least_unseen : mg "least_unseen" = some (.ref a_least_unseen)
  a_multipliers : Addr
  d_multipliers : FuncData
  F_multipliers : Fun K "multipliers" "multipliers" s_multipliers a_multipliers d_multipliers
  b_multipliers : Binds K d_multipliers ["base", "take", "d"] []
  g_multipliers : mg "multipliers" = some (.ref a_multipliers)
  a_divisors : Addr
  d_divisors : FuncData
  F_divisors : Fun K "divisors" "divisors" s_divisors a_divisors d_divisors
  b_divisors : Binds K d_divisors ["trick", "most"] []
  g_divisors : mg "divisors" = some (.ref a_divisors)
  a_tells_multiples : Addr
  d_tells_multiples : FuncData
  F_tells_multiples : Fun K "tells_multiples" "tells_multiples" s_tells_multiples a_tells_multiples d_tells_multiples
  b_tells_multiples : Binds K d_tells_multiples ["block", "times", "d"] []
  g_tells_multiples : mg "tells_multiples" = some (.ref a_tells_multiples)
  a_fitting : Addr
  d_fitting : FuncData
  F_fitting : Fun K "fitting" "fitting" s_fitting a_fitting d_fitting
  b_fitting : Binds K d_fitting ["pairs"] []
  g_fitting : mg "fitting" = some (.ref a_fitting)
  a_check_pairs : Addr
  d_check_pairs : FuncData
  F_check_pairs : Fun K "check_pairs" "check_pairs" s_check_pairs a_check_pairs d_check_pairs
  b_check_pairs : Binds K d_check_pairs ["pairs"] []
  g_check_pairs : mg "check_pairs" = some (.ref a_check_pairs)
  a_is_pair : Addr
  d_is_pair : FuncData
  F_is_pair : Fun K "is_pair" "is_pair" s_is_pair a_is_pair d_is_pair
  b_is_pair : Binds K d_is_pair ["told"] []
  g_is_pair : mg "is_pair" = some (.ref a_is_pair)
  a_fitting_times : Addr
  d_fitting_times : FuncData
  F_fitting_times : Fun K "fitting_times" "fitting_times" s_fitting_times a_fitting_times d_fitting_times
  b_fitting_times : Binds K d_fitting_times ["block", "pairs"] []
  g_fitting_times : mg "fitting_times" = some (.ref a_fitting_times)
  a__law_taken : Addr
  d__law_taken : FuncData
  F__law_taken : Fun K "_law_taken" "_law_taken" s__law_taken a__law_taken d__law_taken
  b__law_taken : Binds K d__law_taken ["_law_row", "_law_many"] []
  g__law_taken : mg "_law_taken" = some (.ref a__law_taken)
  a__law_power : Addr
  d__law_power : FuncData
  F__law_power : Fun K "_law_power" "_law_power" s__law_power a__law_power d__law_power
  b__law_power : Binds K d__law_power ["_law_base", "_law_many"] []
  g__law_power : mg "_law_power" = some (.ref a__law_power)
  a__law_trick : Addr
  d__law_trick : FuncData
  F__law_trick : Fun K "_law_trick" "_law_trick" s__law_trick a__law_trick d__law_trick
  b__law_trick : Binds K d__law_trick ["_law_row", "_law_small"] []
  g__law_trick : mg "_law_trick" = some (.ref a__law_trick)
  a__law_behind : Addr
  d__law_behind : FuncData
  F__law_behind : Fun K "_law_behind" "_law_behind" s__law_behind a__law_behind d__law_behind
  b__law_behind : Binds K d__law_behind ["_law_told_here", "_law_n"] []
  g__law_behind : mg "_law_behind" = some (.ref a__law_behind)
  a__law_number : Addr
  d__law_number : FuncData
  F__law_number : Fun K "_law_number" "_law_number" s__law_number a__law_number d__law_number
  b__law_number : Binds K d__law_number ["_law_row"] []
  g__law_number : mg "_law_number" = some (.ref a__law_number)
  a__law_chain : Addr
  d__law_chain : FuncData
  F__law_chain : Fun K "_law_chain" "_law_chain" s__law_chain a__law_chain d__law_chain
  b__law_chain : Binds K d__law_chain ["_law_row"] []
  g__law_chain : mg "_law_chain" = some (.ref a__law_chain)
  a__law_tricks : Addr
  d__law_tricks : FuncData
  F__law_tricks : Fun K "_law_tricks" "_law_tricks" s__law_tricks a__law_tricks d__law_tricks
  b__law_tricks : Binds K d__law_tricks ["_law_told_here"] []
  g__law_tricks : mg "_law_tricks" = some (.ref a__law_tricks)
  a__law_told : Addr
  d__law_told : FuncData
  F__law_told : Fun K "_law_told" "_law_told" s__law_told a__law_told d__law_told
  b__law_told : Binds K d__law_told ["_law_trick_here", "_law_chain_here", "_law_n", "_law_pairs"] []
  g__law_told : mg "_law_told" = some (.ref a__law_told)
  a_law : Addr
  d_law : FuncData
  F_law : Fun K "law" "law" s_law a_law d_law
  b_law : Binds K d_law ["_law_script"] []
  g_law : mg "law" = some (.ref a_law)
  C_Trick : Addr
  cl_Trick : Cls K C_Trick
  g_Trick : mg "Trick" = some (.ref C_Trick)
  kc_Trick : PySem.W.keepIn K (.ref C_Trick) = true
  ins_Trick : ∀ (H : Hp) (a dx : Addr) (fs : List (Str × V)), H a = some (.ins C_Trick dx fs) → TyOf K H (.ref a) (.ref C_Trick)
  ki_Trick_int : PySem.W.kitOne K (.ref C_Trick) (.type "int") = some false
  ki_Trick_bool : PySem.W.kitOne K (.ref C_Trick) (.type "bool") = some false
  ki_Trick_tuple : PySem.W.kitOne K (.ref C_Trick) (.type "tuple") = some false
  ki_Trick_list : PySem.W.kitOne K (.ref C_Trick) (.type "list") = some false
  nf_Trick_tuple : PySem.W.subIn K (.type "tuple") (.ref C_Trick) = some false
  kis_Trick : PySem.W.kitOne K (.ref C_Trick) (.ref C_Trick) = some true
  kin_Trick_int : PySem.W.kitOne K (.type "int") (.ref C_Trick) = some false
  kin_Trick_bool : PySem.W.kitOne K (.type "bool") (.ref C_Trick) = some false
  kin_Trick_tuple : PySem.W.kitOne K (.type "tuple") (.ref C_Trick) = some false
  kin_Trick_list : PySem.W.kitOne K (.type "list") (.ref C_Trick) = some false
  kin_Trick_NoneType : PySem.W.kitOne K (.type "NoneType") (.ref C_Trick) = some false
  kin_Trick_str : PySem.W.kitOne K (.type "str") (.ref C_Trick) = some false
  kin_Trick_dict : PySem.W.kitOne K (.type "dict") (.ref C_Trick) = some false
  na_Trick_base : NoAttr K C_Trick "_base"
  na_Trick_take : NoAttr K C_Trick "_take"
  na_Trick_times : NoAttr K C_Trick "_times"
  a_Trick___init__ : Addr
  d_Trick___init__ : FuncData
  F_Trick___init__ : Fun K "__init__" "Trick.__init__" s_Trick___init__ a_Trick___init__ d_Trick___init__
  b_Trick___init__ : Binds K d_Trick___init__ ["self", "base", "take", "times"] []
  mk_Trick : Mk K C_Trick a_Trick___init__
  a_Trick_base : Addr
  d_Trick_base : FuncData
  F_Trick_base : Fun K "base" "Trick.base" s_Trick_base a_Trick_base d_Trick_base
  b_Trick_base : Binds K d_Trick_base ["self"] []
  q_Trick_base : Addr
  p_Trick_base : PropOf K C_Trick "base" q_Trick_base a_Trick_base
  a_Trick_take : Addr
  d_Trick_take : FuncData
  F_Trick_take : Fun K "take" "Trick.take" s_Trick_take a_Trick_take d_Trick_take
  b_Trick_take : Binds K d_Trick_take ["self"] []
  q_Trick_take : Addr
  p_Trick_take : PropOf K C_Trick "take" q_Trick_take a_Trick_take
  a_Trick_times : Addr
  d_Trick_times : FuncData
  F_Trick_times : Fun K "times" "Trick.times" s_Trick_times a_Trick_times d_Trick_times
  b_Trick_times : Binds K d_Trick_times ["self"] []
  q_Trick_times : Addr
  p_Trick_times : PropOf K C_Trick "times" q_Trick_times a_Trick_times
  a_Trick___eq__ : Addr
  d_Trick___eq__ : FuncData
  F_Trick___eq__ : Fun K "__eq__" "Trick.__eq__" s_Trick___eq__ a_Trick___eq__ d_Trick___eq__
  b_Trick___eq__ : Binds K d_Trick___eq__ ["self", "other"] []
  m_Trick___eq__ : Meth K C_Trick "__eq__" a_Trick___eq__
  C_Reckoner : Addr
  cl_Reckoner : Cls K C_Reckoner
  g_Reckoner : mg "Reckoner" = some (.ref C_Reckoner)
  kc_Reckoner : PySem.W.keepIn K (.ref C_Reckoner) = true
  ins_Reckoner : ∀ (H : Hp) (a dx : Addr) (fs : List (Str × V)), H a = some (.ins C_Reckoner dx fs) → TyOf K H (.ref a) (.ref C_Reckoner)
  ki_Reckoner_int : PySem.W.kitOne K (.ref C_Reckoner) (.type "int") = some false
  ki_Reckoner_bool : PySem.W.kitOne K (.ref C_Reckoner) (.type "bool") = some false
  ki_Reckoner_tuple : PySem.W.kitOne K (.ref C_Reckoner) (.type "tuple") = some false
  ki_Reckoner_list : PySem.W.kitOne K (.ref C_Reckoner) (.type "list") = some false
  kis_Reckoner : PySem.W.kitOne K (.ref C_Reckoner) (.ref C_Reckoner) = some true
  kin_Reckoner_int : PySem.W.kitOne K (.type "int") (.ref C_Reckoner) = some false
  kin_Reckoner_bool : PySem.W.kitOne K (.type "bool") (.ref C_Reckoner) = some false
  kin_Reckoner_tuple : PySem.W.kitOne K (.type "tuple") (.ref C_Reckoner) = some false
  kin_Reckoner_list : PySem.W.kitOne K (.type "list") (.ref C_Reckoner) = some false
  kin_Reckoner_NoneType : PySem.W.kitOne K (.type "NoneType") (.ref C_Reckoner) = some false
  kin_Reckoner_str : PySem.W.kitOne K (.type "str") (.ref C_Reckoner) = some false
  kin_Reckoner_dict : PySem.W.kitOne K (.type "dict") (.ref C_Reckoner) = some false
  na_Reckoner_numbers : NoAttr K C_Reckoner "_numbers"
  na_Reckoner_tricks : NoAttr K C_Reckoner "_tricks"
  a_Reckoner___init__ : Addr
  d_Reckoner___init__ : FuncData
  F_Reckoner___init__ : Fun K "__init__" "Reckoner.__init__" s_Reckoner___init__ a_Reckoner___init__ d_Reckoner___init__
  b_Reckoner___init__ : Binds K d_Reckoner___init__ ["self", "n"] []
  mk_Reckoner : Mk K C_Reckoner a_Reckoner___init__
  a_Reckoner_now : Addr
  d_Reckoner_now : FuncData
  F_Reckoner_now : Fun K "now" "Reckoner.now" s_Reckoner_now a_Reckoner_now d_Reckoner_now
  b_Reckoner_now : Binds K d_Reckoner_now ["self"] []
  q_Reckoner_now : Addr
  p_Reckoner_now : PropOf K C_Reckoner "now" q_Reckoner_now a_Reckoner_now
  a_Reckoner_tricks : Addr
  d_Reckoner_tricks : FuncData
  F_Reckoner_tricks : Fun K "tricks" "Reckoner.tricks" s_Reckoner_tricks a_Reckoner_tricks d_Reckoner_tricks
  b_Reckoner_tricks : Binds K d_Reckoner_tricks ["self"] []
  q_Reckoner_tricks : Addr
  p_Reckoner_tricks : PropOf K C_Reckoner "tricks" q_Reckoner_tricks a_Reckoner_tricks
  a_Reckoner_step : Addr
  d_Reckoner_step : FuncData
  F_Reckoner_step : Fun K "step" "Reckoner.step" s_Reckoner_step a_Reckoner_step d_Reckoner_step
  b_Reckoner_step : Binds K d_Reckoner_step ["self", "trick"] []
  m_Reckoner_step : Meth K C_Reckoner "step" a_Reckoner_step
  a_Reckoner_undo : Addr
  d_Reckoner_undo : FuncData
  F_Reckoner_undo : Fun K "undo" "Reckoner.undo" s_Reckoner_undo a_Reckoner_undo d_Reckoner_undo
  b_Reckoner_undo : Binds K d_Reckoner_undo ["self"] []
  m_Reckoner_undo : Meth K C_Reckoner "undo" a_Reckoner_undo
  a_Reckoner_copy : Addr
  d_Reckoner_copy : FuncData
  F_Reckoner_copy : Fun K "copy" "Reckoner.copy" s_Reckoner_copy a_Reckoner_copy d_Reckoner_copy
  b_Reckoner_copy : Binds K d_Reckoner_copy ["self"] []
  m_Reckoner_copy : Meth K C_Reckoner "copy" a_Reckoner_copy
  a_Reckoner___len__ : Addr
  d_Reckoner___len__ : FuncData
  F_Reckoner___len__ : Fun K "__len__" "Reckoner.__len__" s_Reckoner___len__ a_Reckoner___len__ d_Reckoner___len__
  b_Reckoner___len__ : Binds K d_Reckoner___len__ ["self"] []
  m_Reckoner___len__ : Meth K C_Reckoner "__len__" a_Reckoner___len__
  n_int : mg "int" = none
  n_bool : mg "bool" = none
  n_len : mg "len" = none
  n_range : mg "range" = none
  n_isinstance : mg "isinstance" = none
  n_tuple : mg "tuple" = none
  n_list : mg "list" = none
  n_sorted : mg "sorted" = none
  n_enumerate : mg "enumerate" = none
  n_abs : mg "abs" = none
  n_all : mg "all" = none
  n_min : mg "min" = none
  n_max : mg "max" = none
  n_super : mg "super" = none
  n_ValueError : mg "ValueError" = none
  a_BadNumber___init__ : Addr
  x_BadNumber : ErrX.ErrTxt P K mg "BadNumber" "n" C_BadNumber a_BadNumber___init__ (ErrX.aeOf s_BadNumber___init__) s_BadNumber___init__
  a_BadTricks___init__ : Addr
  x_BadTricks : ErrX.ErrTxt P K mg "BadTricks" "index" C_BadTricks a_BadTricks___init__ (ErrX.aeOf s_BadTricks___init__) s_BadTricks___init__
  a_BadPairs___init__ : Addr
  x_BadPairs : ErrX.ErrTxt P K mg "BadPairs" "index" C_BadPairs a_BadPairs___init__ (ErrX.aeOf s_BadPairs___init__) s_BadPairs___init__
  a_TooWide___init__ : Addr
  x_TooWide : ErrX.ErrTxt P K mg "TooWide" "most" C_TooWide a_TooWide___init__ (ErrX.aeOf s_TooWide___init__) s_TooWide___init__
/-! ### the program's own classes (no errors) -/
def OwnT {P : Program} {K : PySem.W.Frag} {mg : Str → Option Value} (T : Tx P K mg) (C : Addr) : Prop := C = T.C_Trick ∨ C = T.C_Reckoner
theorem OwnT.ty {P : Program} {K : PySem.W.Frag} {mg : Str → Option Value} {T : Tx P K mg} {C : Addr} (t : OwnT T C) {H : Hp} {a dx : Addr} {fs : List (Str × V)} (e : H a = some (.ins C dx fs)) : TyOf K H (.ref a) (.ref C) := by
  rcases t with rfl | rfl
  · exact T.ins_Trick _ _ _ _ e
  · exact T.ins_Reckoner _ _ _ _ e
theorem OwnT.nint {P : Program} {K : PySem.W.Frag} {mg : Str → Option Value} {T : Tx P K mg} {C : Addr} (t : OwnT T C) : PySem.W.kitOne K (.ref C) (.type "int") = some false := by
  rcases t with rfl | rfl
  · exact T.ki_Trick_int
  · exact T.ki_Reckoner_int
theorem OwnT.nbool {P : Program} {K : PySem.W.Frag} {mg : Str → Option Value} {T : Tx P K mg} {C : Addr} (t : OwnT T C) : PySem.W.kitOne K (.ref C) (.type "bool") = some false := by
  rcases t with rfl | rfl
  · exact T.ki_Trick_bool
  · exact T.ki_Reckoner_bool
theorem OwnT.ntuple {P : Program} {K : PySem.W.Frag} {mg : Str → Option Value} {T : Tx P K mg} {C : Addr} (t : OwnT T C) : PySem.W.kitOne K (.ref C) (.type "tuple") = some false := by
  rcases t with rfl | rfl
  · exact T.ki_Trick_tuple
  · exact T.ki_Reckoner_tuple
theorem OwnT.nlist {P : Program} {K : PySem.W.Frag} {mg : Str → Option Value} {T : Tx P K mg} {C : Addr} (t : OwnT T C) : PySem.W.kitOne K (.ref C) (.type "list") = some false := by
  rcases t with rfl | rfl
  · exact T.ki_Trick_list
  · exact T.ki_Reckoner_list
theorem ar_BadNumber {P : Program} {w : World} : ∀ (v : V) (u : Value), True → RelV v u → ErrX.ArgOk P w (ErrX.aeOf s_BadNumber___init__) "n" u := fun _ _ _ _ => ErrX.argOk_const rfl
theorem ar_BadTricks {P : Program} {w : World} : ∀ (v : V) (u : Value), ErrX.NoneInt v → RelV v u → ErrX.ArgOk P w (ErrX.aeOf s_BadTricks___init__) "index" u := fun _ _ n r => ErrX.argOk_f n r
theorem ar_BadPairs {P : Program} {w : World} : ∀ (v : V) (u : Value), ErrX.NoneInt v → RelV v u → ErrX.ArgOk P w (ErrX.aeOf s_BadPairs___init__) "index" u := fun _ _ n r => ErrX.argOk_f n r
theorem ar_TooWide {P : Program} {w : World} : ∀ (v : V) (u : Value), ErrX.NoneInt v → RelV v u → ErrX.ArgOk P w (ErrX.aeOf s_TooWide___init__) "most" u := fun _ _ n r => ErrX.argOk_f n r
section
variable {P : Program} {w : World} {K : PySem.W.Frag} {mg : Str → Option Value} {base : Heap}
/-! ### heaps -/
/-- all but what stands at r is as it was -/
def But (r : Addr) (H H' : Hp) : Prop := ∀ b o, H b = some o → b ≠ r → H' b = some o
theorem But.refl (r : Addr) (H : Hp) : But r H H := fun _ _ e _ => e
theorem But.trans {r : Addr} {H H1 H2 : Hp} (a : But r H H1) (b : But r H1 H2) : But r H H2 := fun c o e n => b c o (a c o e n) n
theorem Same.but {r : Addr} {H H' : Hp} (a : Same H H') : But r H H' := fun c o e _ => a c o e
theorem But.put {r : Addr} {H : Hp} {o : HO} : But r H (upd H r o) := fun b _ e n => by rw [upd_ne n]; exact e
theorem But.seq {K : PySem.W.Frag} {r a : Addr} {H H' : Hp} {xs : List V} (e : But r H H') (n : a ≠ r) (h : SqL K H a xs) : SqL K H' a xs := by
  rcases h with (h | ⟨o, h⟩) | h
  · exact .inl (.inl (e _ _ h n))
  · exact .inl (.inr ⟨o, e _ _ h n⟩)
  · exact .inr h
theorem same_upd {H : Hp} {p : Addr} {o : HO} (h : H p = none) : Same H (upd H p o) := fun b x e => by
  rw [upd_ne (ne_of_none e h)]
  exact e
/-- any value of the document's point 1 -/
inductive AnyV (T : Addr → Prop) (H : Hp) : V → Prop where
  | non : AnyV T H .non
  | bl (b : Bool) : AnyV T H (.bl b)
  | int (i : Int) : AnyV T H (.int i)
  | str (x : Str) : AnyV T H (.str x)
  | lst {a : Addr} {xs : List V} (e : H a = some (.lst xs)) : AnyV T H (.ref a)
  | tup {a : Addr} {xs : List V} (e : H a = some (.tup xs)) : AnyV T H (.ref a)
  | dct {a : Addr} {kvs : List (Key × V)} (e : H a = some (.dK kvs)) : AnyV T H (.ref a)
  | ins {a C dx : Addr} {fs : List (Str × V)} (t : T C) (e : H a = some (.ins C dx fs)) : AnyV T H (.ref a)
/-- it is an integer from lo to hi -/
def intIn (x : V) (lo hi : Int) : Bool := match x with | .int i => decide (lo ≤ i) && decide (i ≤ hi) | _ => false
theorem intIn_of {i lo hi : Int} (h1 : lo ≤ i) (h2 : i ≤ hi) : intIn (.int i) lo hi = true := by
  show (decide (lo ≤ i) && decide (i ≤ hi)) = true
  rw [decide_eq_true h1, decide_eq_true h2]
  all_goals rfl
theorem small5 {n : Nat} (h : n ≤ 100000) : n < sizeLine := Nat.lt_of_le_of_lt h (by decide)
theorem dec_i (i j : Int) : decide (V.int i = V.int j) = decide (i = j) := by
  rw [Bool.eq_iff_iff]
  simp
theorem AnyV.mono {T : Addr → Prop} {H H' : Hp} {v : V} (a : AnyV T H v) (s : Same H H') : AnyV T H' v := by
  cases a with
  | non => exact .non
  | bl b => exact .bl b
  | int i => exact .int i
  | str x => exact .str x
  | lst e => exact .lst (s _ _ e)
  | tup e => exact .tup (s _ _ e)
  | dct e => exact .dct (s _ _ e)
  | ins t e => exact .ins t (s _ _ e)
theorem intIn_int' {x : V} {lo hi : Int} (h : intIn x lo hi = true) : ∃ i, x = .int i ∧ lo ≤ i ∧ i ≤ hi := by
  cases x with
  | int i =>
    have h2 : (decide (lo ≤ i) && decide (i ≤ hi)) = true := h
    rw [Bool.and_eq_true, decide_eq_true_iff, decide_eq_true_iff] at h2
    exact ⟨i, rfl, h2⟩
  | _ => cases h

/-! ### none twice; keys of two ints -/
/-- no more than so many without one twice -/
theorem pigL {α : Type} [DecidableEq α] : ∀ (L l : List α), l.Nodup → (∀ x ∈ l, x ∈ L) → l.length ≤ L.length
  | [], l, _, h => by
    cases l with
    | nil => exact Nat.le_refl _
    | cons x _ => exact absurd (h x List.mem_cons_self) List.not_mem_nil
  | a :: L, l, hn, h => by
    have ih := pigL L (l.erase a) (hn.erase a) fun x hx => by
      have hx2 := (hn.mem_erase_iff).mp hx
      rcases List.mem_cons.mp (h x hx2.2) with e | e
      · exact absurd e hx2.1
      · exact e
    rw [List.length_erase] at ih
    rw [List.length_cons]
    split at ih <;> omega
abbrev Pr := Int × Int
def kp (q : Pr) : List Key := [.inl q.1, .inl q.2]
theorem kp_inj {q r : Pr} (h : kp q = kp r) : q = r := by
  unfold kp at h
  injection h with h1 h2
  injection h2 with h2 _
  injection h1 with h1
  injection h2 with h2
  exact Prod.ext h1 h2

/-! ### lists of ints -/
theorem dpAll_ints {H : Hp} : ∀ ns : List Int, DpAll K H (ns.map V.int) (ns.map PyData.int)
  | [] => .nil
  | n :: ns => .cons (.int n) (dpAll_ints ns)
theorem dp_ints {H : Hp} {a : Addr} {ns : List Int} (h : SqL K H a (ns.map V.int)) : Dp K H (.ref a) (.list (ns.map PyData.int)) := .lst h (dpAll_ints ns)
theorem dp_tints {H : Hp} {a : Addr} {ns : List Int} (h : SqT K H a (ns.map V.int)) : Dp K H (.ref a) (.tuple (ns.map PyData.int)) := .tup h (dpAll_ints ns)
theorem eqvAll_ints : ∀ ns ms : List Int, PyData.eqvAll (ns.map PyData.int) (ms.map PyData.int) = decide (ns = ms)
  | [], [] => rfl
  | [], _ :: _ => rfl
  | _ :: _, [] => rfl
  | n :: ns, m :: ms => by
    show (PyData.eqv (.int n) (.int m) && PyData.eqvAll (ns.map PyData.int) (ms.map PyData.int)) = _
    rw [eqvAll_ints ns ms]
    show ((n == m) && decide (ns = ms)) = _
    by_cases h1 : n = m
    · by_cases h2 : ns = ms
      · simp [h1, h2]
      · simp [h1, h2]
    · simp [h1]
theorem eqv_ints (ns ms : List Int) : PyData.eqv (.list (ns.map PyData.int)) (.list (ms.map PyData.int)) = decide (ns = ms) := eqvAll_ints ns ms
theorem eqv_tints (ns ms : List Int) : PyData.eqv (.tuple (ns.map PyData.int)) (.tuple (ms.map PyData.int)) = decide (ns = ms) := eqvAll_ints ns ms
theorem shaped_lints (ns : List Int) : SeqAt.shaped (.list (ns.map PyData.int)) = true := PySem.W.shaped_ints ns
/-- an item of a written list at a drawn place -/
theorem at_some (Pr : Int → Prop) {ns : List Int} (h : ∀ z ∈ ns, Pr z) {i : Int} (h0 : 0 ≤ i) (h1 : i < ns.length) : ∃ z, Pr z ∧ atI (ns.map V.int) i = some (V.int z) := by
  obtain ⟨z, hz⟩ : ∃ z, ns[i.toNat]? = some z := ⟨ns[i.toNat]'(by omega), List.getElem?_eq_getElem (by omega)⟩
  refine ⟨z, h z (List.mem_of_getElem? hz), at_of (j := i.toNat) (by omega) (by rw [List.getElem?_map, hz]; rfl)⟩
theorem sorted_ext {l m : List Int} (p : l.Perm m) (h1 : l.Pairwise (· ≤ ·)) (h2 : m.Pairwise (· ≤ ·)) : l = m :=
  p.eq_of_pairwise (fun a b _ _ x y => Int.le_antisymm x y) h1 h2
/-- reading an item within a comprehension: the written part said aloud -/
theorem ix_lK {X : Cx} (h : X.K = K) : IxR X (rIxL K) := by
  subst h
  exact ix_list
/-- the same of a tuple -/
theorem ix_tK {X : Cx} (h : X.K = K) : IxR X (rIxT K) := by
  subst h
  exact ix_tup
/-- name op= e, by the operation in place -/
theorem ip_op {X : Cx} {op : Operator} {r : R2} (ho : OpR X (inplaceOp op) r) : PIp X op r := fun pins s σ H x y v u Q I r1 r2 h => ho pins s σ H x y v u Q I r1 r2 h

/-! ### what is shallow enough to be compared -/
theorem lays_map {α : Type} (f : α → PyData) (k : Nat) (h : ∀ x, PyData.canLay0 (f x) = true ∧ PyData.depth (f x) ≤ k) : ∀ l : List α, PyData.canLayAll0 (l.map f) = true ∧ PyData.depthAll (l.map f) ≤ k
  | [] => ⟨by simp [PyData.canLayAll0], by simp [PyData.depthAll]⟩
  | x :: l => by
    have h1 := lays_map f k h l
    have h2 := h x
    refine ⟨by simp [PyData.canLayAll0, h1.1, h2.1], ?_⟩
    simp only [List.map_cons, PyData.depthAll]
    omega
theorem shaped_of {ds : List PyData} {k : Nat} (h : PyData.canLayAll0 ds = true ∧ PyData.depthAll ds ≤ k) (hk : k ≤ 60) : SeqAt.shaped (.list ds) = true ∧ SeqAt.shaped (.tuple ds) = true := by
  have e1 : PyData.depth (.list ds) ≤ 64 := by simp only [PyData.depth]; omega
  have e2 : PyData.depth (.tuple ds) ≤ 64 := by simp only [PyData.depth]; omega
  refine ⟨?_, ?_⟩
  · show (PyData.canLay0 (.list ds) && decide (PyData.depth (.list ds) ≤ 64)) = true
    rw [Bool.and_eq_true]
    exact ⟨by simp only [PyData.canLay0]; exact h.1, decide_eq_true e1⟩
  · show (PyData.canLay0 (.tuple ds) && decide (PyData.depth (.tuple ds) ≤ 64)) = true
    rw [Bool.and_eq_true]
    exact ⟨by simp only [PyData.canLay0]; exact h.1, decide_eq_true e2⟩
theorem lay_int (i : Int) : PyData.canLay0 (.int i) = true ∧ PyData.depth (.int i) ≤ 1 := ⟨by simp [PyData.canLay0], by simp [PyData.depth]⟩
theorem shaped_tints (ns : List Int) : SeqAt.shaped (.tuple (ns.map PyData.int)) = true := (shaped_of (lays_map PyData.int 1 lay_int ns) (by decide)).2

end
end Rt
namespace L2
open PySem PySem.Spec PyProof.Rows
/-! ### two lists of one thing, the same -/
def rNe1 (K : PySem.W.Frag) : R2 := fun x y H Q => (∃ a b z, x = .ref a ∧ y = .ref b ∧ SqL K H a [.ref z] ∧ SqL K H b [.ref z] ∧ Q (.bl false) H) ∨ rNeD K x y H Q
theorem op_ne1 {X : Cx} (hu : X.A.units + 64 < cLine) : OpR X (compareOp .NotEq) (rNe1 X.K) := by
  intro pins s σ H x y v u Q I rx ry h
  rcases h with ⟨a, b, z, rfl, rfl, h1, h2, q⟩ | h
  · obtain ⟨its, rv, hl, _⟩ := I.list h1
    obtain ⟨its2, rv2, hl2, _⟩ := I.list h2
    cases (show v = Value.ref a from rx)
    cases (show u = Value.ref b from ry)
    cases rv with
    | cons r1 rr1 =>
      cases rr1
      cases rv2 with
      | cons r2 rr2 =>
        cases rr2
        cases r1
        cases r2
        refine SeqAt.RcNeAt.lists (e := fun _ => true) hl.isList hl2.isList rfl (by omega) (fun j j1 j2 => ?_) _ _ _ _ ⟨.bl false, H, I, rfl, q⟩
        have j0 : j = 0 := by
          have : j < 1 := j1
          omega
        subst j0
        exact SeqAt.EqAt.same _
  · exact op_neD hu pins s σ H x y v u Q I rx ry h
end L2
namespace Rt
open PySem L2 PySem.Spec PyProof.Rows
section
variable {P : Program} {w : World} {K : PySem.W.Frag} {mg : Str → Option Value} {base : Heap}

end
end Rt
namespace L2
open PySem PySem.Calls PySem.Spec PyProof.Rows
/-! ### a list and an empty one; len of an object of the program; a new object within a try -/
def rNeNil (K : PySem.W.Frag) : R2 := fun x y H Q => ∃ a b xs, x = .ref a ∧ y = .ref b ∧ SqL K H a xs ∧ SqL K H b [] ∧ Q (.bl (!xs.isEmpty)) H
theorem op_neNil {X : Cx} (hu : X.A.units + 64 < cLine) : OpR X (compareOp .NotEq) (rNeNil X.K) := by
  intro pins s σ H x y v u Q I rx ry h
  obtain ⟨a, b, xs, rfl, rfl, h1, h2, q⟩ := h
  obtain ⟨its, rv, hl, _⟩ := I.list h1
  obtain ⟨its2, rv2, hl2, _⟩ := I.list h2
  cases (show v = Value.ref a from rx)
  cases (show u = Value.ref b from ry)
  cases rv2
  cases xs with
  | nil =>
    cases rv
    exact SeqAt.RcNeAt.lists (e := fun _ => true) hl.isList hl2.isList rfl (by omega) (fun j j1 _ => absurd j1 (Nat.not_lt_zero j)) _ _ _ _ ⟨.bl false, H, I, rfl, q⟩
  | cons z zs =>
    cases rv with
    | cons r1 rr1 =>
      exact SeqAt.RcNeAt.lists_lengths hl.isList hl2.isList rfl (by omega) _ _ _ _ ⟨.bl true, H, I, rfl, q⟩
def rLenO (C : Addr) (sp : Sp) (E : XK) : List V → Hp → VK → Prop := fun xs H Q => ∃ a dx fs, xs = [.ref a] ∧ H a = some (.ins C dx fs) ∧ sp [.ref a] H (fun v H' => ∃ n : Nat, v = .int (n : Int) ∧ n ≤ sizeLine ∧ Q v H') E
theorem call_lenO {X : Cx} {n : Nat} {CX : CXT} {C f : Addr} {fd : FuncData} {ps : List Str} {sp : Sp} {E : XK} (G : FnOk X.prog X.w X.K X.mg X.base CX n f fd ps sp) (hr : Room (n + 1) X.A)
    (hs : PySem.W.findIn X.K (.ref C) "__len__" = some (some (.ref f))) (hf : PySem.W.isFn X.K (.ref f) = true) (hb : Binds X.K fd ps []) (hx : Passes CX X E) : CallR X (.builtin "len") (rLenO C sp E) := by
  intro pins s σ H xs us Q I r h
  obtain ⟨a, dx, fs, rfl, ha, hsp⟩ := h
  obtain ⟨u, rfl, ru⟩ := vals1 r
  obtain rfl : u = Value.ref a := ru
  obtain ⟨mA, O, _⟩ := ins_get I.hok ha
  obtain ⟨od, J, _⟩ := O.look
  obtain ⟨m, hF⟩ := I.fr
  have hl : ([V.ref a] : List V).length = ps.length := G.len _ _ _ _ hsp
  refine PySem.W.len_K hF I.ok.mod.kin J hs hf ?_
  have bd := hb s [.ref a] I.kIn (by rw [List.append_nil]; exact hl)
  rw [List.append_nil] at bd
  refine wpAny_call (codeAny_mono (G.run X.A.in1 X.stack s H ⟨[.ref a], []⟩ [.ref a] [.ref a] _ E hr.in1 I.env0.in1 bd (.cons rfl .nil) hsp) fun r s' hw => ?_)
  match r, hw with
  | .error e, hw => exact hx pins σ H s e s' I hw
  | .ok (.ret w'), hw =>
    obtain ⟨z, H', I', rz, ⟨k, ek, kz, q⟩⟩ := I.after hw
    subst ek
    obtain ⟨t, rfl⟩ : ∃ t, w' = .int (k : Int) t := rz
    have hz : sizeLine = 16777216 := sizeLine_eq
    exact ⟨⟨by omega, by omega⟩, .int (k : Int), H', I'.tok _, ⟨_, rfl⟩, q⟩
  | .ok .next, hw => exact hw.elim
  | .ok .brk, hw => exact hw.elim
  | .ok .cont, hw => exact hw.elim
def tMakeS (C : Addr) (sp : Sp) (E : St → XK) (t : TA) : TE := fun σ H Q => t σ H fun vs H1 => ∀ x dx, H1 x = none → H1 dx = none → dx ≠ x → sp (.ref x :: vs) (upd (upd H1 dx (.own x)) x (.ins C dx [])) (fun v H2 => v = .non ∧ Q (.ref x) H2) (E σ)
theorem pe_makeS {X : Cx} {CX : CXT} {k : Nat} {f C : Addr} {fd : FuncData} {ps : List Str} {sp : Sp} {E : St → XK} {x : Str} {p pos : Pos} {e : Expr} {es : List Expr} {t : TA} (M : Mk X.K C f) (G : FnOk X.prog X.w X.K X.mg X.base CX k f fd ps sp) (hr : Room (k + 1) X.A) (hg : Gl X x) (hm : X.mg x = some (.ref C))
    (hb : Binds X.K fd ps []) (hx : ∀ σ, PassesAt CX X σ (E σ)) (ha : PA X (e :: es) t) (hdb : (x == ("__debug__" : Str)) = false := by decide) (he : starEach (e :: es) X.env = (false, eval e X.env) :: starEach es X.env := by rfl)
    (hpl : (backTo pos (starEach es X.env)).any (·.1) = false := by rfl) : PE X (.Call (.Name x p) (e :: es) [] pos) (tMakeS C sp E t) := ⟨fun pins s σ H Q I h => by
  refine wpAny_Call_Name_kw (ld_glob I hg hm (PySem.W.callWith_K (h₀ := X.base) I.ok.mod.kin M.kp (thn (ha.run pos pins s σ H _ I h) fun us s1 ⟨vs, H1, I1, r, q⟩ => ⟨I1.kIn, ?_⟩) he hpl) hdb)
  -- the new object's two places
  have fr := fun a (h : s1.heap.objs.size ≤ a) => I1.hok.fresh h
  have hq := q _ _ (fr (s1.heap.objs.size + 1) (Nat.le_succ _)) (fr s1.heap.objs.size (Nat.le_refl _)) (Nat.ne_of_lt (Nat.lt_succ_self _))
  have J := Inv.made (C := C) I1
  have rs : Vals (V.ref (s1.heap.objs.size + 1) :: vs) (Value.ref (s1.heap.objs.size + 1) :: us) := .cons rfl r
  have ln : (Value.ref (s1.heap.objs.size + 1) :: us).length = ps.length := rs.length ▸ G.len _ _ _ _ hq
  have bd := hb _ (Value.ref (s1.heap.objs.size + 1) :: us) J.kIn (by rw [List.append_nil]; exact ln)
  rw [List.append_nil] at bd
  refine wpAny_call (make_map (f := f) I1.kIn M.makes M.init (beq_iff_eq.mp M.fn) (codeAny_mono (G.run _ X.stack _ _ ⟨_, []⟩ _ _ _ (E σ) (hr.make C us []) (J.env0.make C us []) bd rs hq) fun o s' ho => ?_))
  match o, ho with
  | .error e, ho => exact hx σ pins _ _ e s' J ho
  | .ok (.ret u), ho =>
    obtain ⟨v, H', I3, rv, ev, q3⟩ := J.after ho
    subst ev
    exact ⟨rv, V.ref (s1.heap.objs.size + 1), H', I3, rfl, q3⟩
  | .ok .next, ho => exact ho.elim
  | .ok .brk, ho => exact ho.elim
  | .ok .cont, ho => exact ho.elim⟩
end L2
namespace Rt
open PySem L2 PySem.Spec PyProof.Rows
section
variable {P : Program} {w : World} {K : PySem.W.Frag} {mg : Str → Option Value} {base : Heap}

end
end Rt
namespace L2
open PySem PySem.Spec PyProof.Rows
section
variable {prog : Program} {w : World} {A : Around} {R : Result → Shared → Prop} {s : Shared} {elt t0 i0 t1 i1 : Expr} {ifs0 ifs1 : List Expr} {gens : List Comprehension} {scope : Scope} {pos : Pos} {it acc : Value} {env : Env} {k : Nat}
/-- what a clause's turn does when its tests hold: the clause behind it, or the item -/
def Goes (prog : Program) (w : World) (A : Around) (elt : Expr) (gens : List Comprehension) (scope : Scope) (pos : Pos) (k : Nat) (acc : Value) (env : Env) (Post : Shared → Prop) (Er : Value → Shared → Prop) (s : Shared) : Prop :=
  match gens[k + 1]? with
  | some g => wpAny (model prog w) A (eval g.iter env) (fun x s1 => wpAny (model prog w) A (pyIter x) (fun j s2 =>
      codeAny (model prog w) A (.compStart (.ListComp elt gens scope pos) (k + 1) j acc env) (fun r s' => match r with | .ok _ => Post s' | .error _ => False) s2) Er s1) Er s
  | none => wpAny (model prog w) A (eval elt env) (fun x s1 => wpAny (model prog w) A (call (.builtin "list.append") [acc, x]) (fun _ s2 => Post s2) Er s1) Er s
theorem loop_at (hk : gens[k]? = some ⟨t0, i0, ifs0, 0⟩) (hn : ∀ g, gens[k + 1]? = some g → g.is_async = 0 ∧ ∀ x, foldedSetIterable g.iter env x = pure x) (I : Nat → Shared → Prop)
    (turn : ∀ n s, I n s → wpAny (model prog w) A (pyNext it) (fun r s1 => match r with
      | none => R (.ok .next) s1
      | some v => wpAny (model prog w) A (letOwnedTupleGo t0 it v) (fun _ s1' => wpAny (model prog w) A (assign t0 env v) (fun _ s2 =>
          wpAny (model prog w) A (forIn ifs0 true fun c r => if r = true then do let ok ← isTrue c env (eval c env); pure (ForInStep.yield ok) else pure (ForInStep.yield r)) (fun ok s3 =>
            if ok = true then Goes prog w A elt gens scope pos k acc env (fun s' => ∃ m, m < n ∧ I m s') (notedBy (model prog w) A env fun e s' => R (.error e) s') s3 else ∃ m, m < n ∧ I m s3)
          (notedBy (model prog w) A env fun e s' => R (.error e) s') s2) (notedBy (model prog w) A env fun e s' => R (.error e) s') s1') (notedBy (model prog w) A env fun e s' => R (.error e) s') s1) (notedBy (model prog w) A env fun e s' => R (.error e) s') s)
    (n : Nat) (h : I n s) : codeAny (model prog w) A (.compLoop (.ListComp elt gens scope pos) k it acc env) R s := by
  refine codeAny_loop rfl I (fun n s hI => ?_) n h
  show wpAny _ A ((compTurn (.ListComp elt gens scope pos) k it acc env).onRaise (fun x => do noteFrame x env; theTreesLotGoes x)) _ _ s
  refine wpAny_noted ?_
  unfold compTurn
  simp only [hk]
  refine wpAny_bind (wpAny_standAt ?_)
  refine wpAny_bind (wpAny_mono (turn n s hI) (fun r s1 h1 => ?_) fun _ _ h' => h')
  cases r with
  | none => exact wpAny_pure h1
  | some v =>
    refine wpAny_bind (wpAny_mono h1 (fun _ s1' h1' => ?_) fun _ _ h' => h')
    refine wpAny_bind (wpAny_mono h1' (fun _ s2 h2 => wpAny_bind (wpAny_mono h2 (fun ok s3 h3 => ?_) fun _ _ h' => h')) fun _ _ h' => h')
    cases ok with
    | false => exact wpAny_pure ⟨rfl, h3⟩
    | true =>
      unfold Goes at h3
      simp only [if_true] at h3
      rw [if_pos rfl]
      cases hk1 : gens[k + 1]? with
      | none =>
        rw [hk1] at h3
        exact wpAny_bind (wpAny_bind (wpAny_mono h3 (fun x s4 h4 => wpAny_bind (wpAny_mono h4 (fun _ s5 h5 => wpAny_pure (wpAny_pure ⟨rfl, h5⟩)) fun _ _ h' => h')) fun _ _ h' => h'))
      | some g =>
        rw [hk1] at h3
        obtain ⟨ga, gs⟩ := hn g hk1
        have na : ¬ ((g.is_async != 0) = true) := by rw [ga]; decide
        refine wpAny_bind (wpAny_mono h3 (fun x s4 h4 => wpAny_bind (wpAny_standAt ?_)) fun _ _ h' => h')
        rw [if_neg na]
        refine wpAny_bind (wpAny_of_eq (gs x) ?_)
        rw [if_neg na]
        refine wpAny_bind (wpAny_holding (wpAny_mono h4 (fun j s5 h5 => ?_) fun _ _ h' => h'))
        refine wpAny_bind (wpAny_runOwn ?_)
        rw [Around.mark_none]
        refine codeAny_mono h5 fun r s' hr => ?_
        cases r with
        | ok f =>
          first
            | exact wpAny_pure ⟨rfl, hr⟩
            | exact wpAny_bind (wpAny_pure (wpAny_pure ⟨rfl, hr⟩))
        | error e => exact hr.elim
/-- a clause's start -/
theorem start_at {g : Comprehension} (hk : gens[k]? = some g) (hg : g.is_async = 0) (h0 : codeAny (model prog w) A (.compLoop (.ListComp elt gens scope pos) k it acc env) R s)
    (h : wpAny (model prog w) A (pyIter it) (fun j s' => codeAny (model prog w) A (.compLoop (.ListComp elt gens scope pos) k j acc env) R s') (notedBy (model prog w) A env fun x s' => R (.error x) s') s) :
    codeAny (model prog w) A (.compStart (.ListComp elt gens scope pos) k it acc env) R s := by
  refine codeAny_of_tree ?_
  show wpAny _ _ ((compStart (.ListComp elt gens scope pos) k it acc env).onRaise (fun x => do noteFrame x env; standAt theWindowsPlace)) _ _ s
  refine wpAny_notedAt ?_
  unfold compStart
  have e : (clausesOf (.ListComp elt gens scope pos))[k]? = some g := hk
  simp only [e]
  have na : ¬ ((some g).elim false (fun c => c.is_async != 0) = true) := by show ¬ ((g.is_async != 0) = true); rw [hg]; decide
  rw [if_neg na]
  refine wpAny_bind (wpAny_askSetting ?_)
  split
  · exact wpAny_pure ⟨rfl, h0⟩
  · exact wpAny_bind (wpAny_rule (wpAny_bind (wpAny_standAt (wpAny_bind (wpAny_mono h (fun j s' h' => wpAny_pure ⟨rfl, h'⟩) fun _ _ x => x)))))
end
/-! ### a clause, whatever stands behind it -/
def TB : Type := St → Hp → (Hp → Prop) → Prop
/-- the item, put into the list at D -/
def tPut (D : Addr) (te : TE) : TB := fun σ H Nx => te σ H fun y H1 => ∃ acc, H1 D = some (.lst acc) ∧ acc.length < sizeLine ∧ Nx (upd H1 D (.lst (acc ++ [y])))
/-- a loop of its own, from which Nx is reached; vs: what it forgets -/
def tCl (wi : TI) (g : TG) (tt : TT) (vs : List Nat) (body : TB) : TB := fun σ H Nx => wi σ H fun J H1 => ∃ W : Nat → Nat → Hp → Prop, (∃ m, W 0 m H1) ∧ ∀ i m H, W i m H →
  (J.stop i H ∧ Nx H) ∨ (J.go i H ∧ ∃ N1 : Hp → Prop, (∀ H', N1 H' → ∃ m', m' < m ∧ W (i + 1) m' H') ∧ ∀ x H', J.yld i H x H' → g x (wipe σ vs) H' fun σ2 H2 => wipe σ2 vs = wipe σ vs ∧ tt σ2 H2 fun b H3 => if b = true then body σ2 H3 N1 else N1 H3)
/-- the code behind a clause's tests runs by its reading; fs: what it may forget -/
structure Runs (B : Cx) (elt : Expr) (gens : List Comprehension) (scope : Scope) (pos : Pos) (k : Nat) (D : Addr) (fs : List Nat) (body : TB) : Prop where
  run : ∀ (pins : List (Addr × Obj)) (s : Shared) (σ : St) (H : Hp) (Nx : Hp → Prop) (Post : Shared → Prop) (Er : Value → Shared → Prop), Inv B pins σ H s → body σ H Nx →
    (∀ s' σ' H', Inv B pins σ' H' s' → σ'.length = σ.length → (∀ (j : Nat) v, (wipe σ fs)[j]? = some (some v) → σ'[j]? = some (some v)) → Nx H' → Post s') → Goes B.prog B.w B.A elt gens scope pos k (.ref D) B.env Post Er s
section
variable {B : Cx} {elt : Expr} {gens : List Comprehension} {scope : Scope} {pos : Pos} {k : Nat} {D : Addr} {te : TE} {fs vs : List Nat} {body : TB} {tg iter : Expr} {ifs : List Expr} {wi : TI} {g : TG} {tt : TT}
theorem fit {α : Type} {t : Sem α} {Q Q' : α → Shared → Prop} {M : Model} {A : Around} {F E : Value → Shared → Prop} {s : Shared} (hF : F = fun _ _ => False) (h : wpAny M A t Q F s) (hQ : ∀ a s, Q a s → Q' a s) : wpAny M A t Q' E s :=
  wpAny_mono h hQ fun _ _ z => by rw [hF] at z; exact z.elim
theorem runs_put (hn : gens[k + 1]? = none) (hx : B.xe = fun _ _ => False) (he : PE B elt te) : Runs B elt gens scope pos k D [] (tPut D te) := by
  refine ⟨fun pins s σ H Nx Post Er I q post => ?_⟩
  unfold Goes
  rw [hn]
  refine fit hx (he.run pins s σ H _ I q) fun v s1 ⟨y, H1, I1, r1, acc, hD, hz, nx⟩ => ?_
  exact app_ok I1 hD hz r1 fun s2 I2 => post s2 σ _ I2 rfl (fun _ _ e => e) nx
theorem runs_cl (hk : gens[k + 1]? = some ⟨tg, iter, ifs, 0⟩) (hn : ∀ g, gens[k + 2]? = some g → g.is_async = 0 ∧ ∀ x, foldedSetIterable g.iter B.env x = pure x) (hc : B.calm = true) (hx : B.xe = fun _ _ => False)
    (hi : PI B tg iter wi) (hg : PG B tg g) (ht : PTs B ifs tt) (hb : Runs B elt gens scope pos (k + 1) D fs body) (hf : ∀ i ∈ fs, i ∈ vs) : Runs B elt gens scope pos k D vs (tCl wi g tt vs body) := by
  refine ⟨fun pins s σ H Nx Post Er I q post => ?_⟩
  unfold Goes
  rw [hk]
  refine fit hx (hi.run pins s σ H _ I q) fun xv s1 h1 => fit hx h1 fun itv s2 h2 => ?_
  obtain ⟨it, fp, tn, J, H2, e, I2, T, st2, f2, W, ⟨m0, w0⟩, turn⟩ := h2
  subst e
  have stat : ∀ {H' : Hp}, (∀ b ∈ fp, H' b = none) → ∀ b ∈ fp, FpOk B pins H' b := fun hn b hb => ⟨hn b hb, (f2 b hb).2⟩
  have loop : codeAny (model B.prog B.w) B.A (.compLoop (.ListComp elt gens scope pos) (k + 1) (.ref it) (.ref D) B.env) (fun r s' => match r with | .ok _ => Post s' | .error _ => False) s2 := by
    refine loop_at hk hn (fun m s' => ∃ j H', Inv B pins (wipe σ vs) H' s' ∧ tn j s'.heap ∧ (∀ b ∈ fp, H' b = none) ∧ W j m H') ?_ m0 ⟨0, H2, I2.weak (wipe_length _ _) (fun j v e => (wipe_some e).1), st2, fun b hb => (f2 b hb).1, w0⟩
    rintro m s3 ⟨j, H3, I3, st3, n3, w3⟩
    rcases turn j m H3 w3 with ⟨stop, nx⟩ | ⟨go, N1, hN1, step⟩
    · refine thnF (T.done B rfl rfl rfl hc j _ s3 (wipe σ vs) H3 (fun _ _ => False) I3 (stat n3) st3 stop) fun r s4 ⟨hr, I4⟩ => ?_
      subst hr
      exact post s4 _ _ I4 (wipe_length _ _) (fun _ _ e => e) nx
    · refine thnF (T.item B rfl rfl rfl hc j _ s3 (wipe σ vs) H3 (fun _ _ => False) I3 (stat n3) st3 go) fun r s4 ⟨u, hr, h4⟩ => ?_
      subst hr
      refine thnF h4 fun _ s5 ⟨x, H5, I5, r5, y5, st5, n5⟩ => ?_
      have I5' := I5.pinned (stat n5) (T.obj _ _ st5)
      refine fit hx (hg.run _ s5 (wipe σ vs) H5 x u _ I5' r5 (step x H5 y5)) fun _ s6 ⟨σ6, H6, I6, hw, q6⟩ => ?_
      refine fit hx (ht.run _ s6 σ6 H6 _ I6 q6) fun b s7 ⟨H7, I7, q7⟩ => ?_
      have back : ∀ (s' : Shared) (σ' : St) (H' : Hp), Inv B (pins ++ pinsAt fp s5.heap) σ' H' s' → σ'.length = σ6.length → (∀ (j : Nat) v, (wipe σ6 fs)[j]? = some (some v) → σ'[j]? = some (some v)) → N1 H' →
          ∃ m', m' < m ∧ ∃ j H', Inv B pins (wipe σ vs) H' s' ∧ tn j s'.heap ∧ (∀ b ∈ fp, H' b = none) ∧ W j m' H' := fun s' σ' H' I' hl hkp n1 => by
        obtain ⟨m', hm, w'⟩ := hN1 H' n1
        have pin' : ∀ b ∈ fp, ∀ o, s5.heap.get? b = some o → s'.heap.get? b = some o ∧ H' b = none := fun b hb o e =>
          let z := I'.pin (b, o) (List.mem_append_right _ (List.mem_append_right _ (mem_pinsAt hb e)))
          ⟨z.1, z.2.1⟩
        refine ⟨m', hm, j + 1, H', I'.unpinned.weak (by rw [hl, ← hw, wipe_length]) (fun j v e => ?_), T.keep _ _ _ st5 fun b hb o e => (pin' b hb o e).1, fun b hb => ?_, w'⟩
        · rw [← hw] at e
          obtain ⟨e1, e2⟩ := wipe_some e
          exact hkp j v (by rw [wipe_out fun z => e2 (hf j z)]; exact e1)
        · obtain ⟨o, e, _⟩ := T.obj _ _ st5 b hb
          exact (pin' b hb o e).2
      cases b with
      | false =>
        simp only [Bool.false_eq_true, if_false] at q7 ⊢
        exact back s7 σ6 H7 I7 rfl (fun _ _ e => (wipe_some e).1) q7
      | true =>
        simp only [if_true] at q7 ⊢
        exact hb.run _ s7 σ6 H7 N1 _ _ I7 q7 back
  exact start_at hk rfl loop (T.self B.A 0 _ _ _ st2 loop)
end
theorem pi_listK {X : Cx} {K : PySem.W.Frag} {tg l : Expr} {tl : TE} (hK : X.K = K) (hl : PE X l tl) : PI X tg l (iList K tl) := by
  subst hK
  exact pi_list hl
/-- [elt for .. in .. for .. in .. ..]: D the new list, body what stands behind the first clause -/
def tLcN (wi : TI) (g : TG) (tt : TT) (vs : List Nat) (body : Addr → TB) : TE := fun σ H Q => wi σ H fun J H1 => ∀ D, H1 D = none → ∃ W : Nat → Nat → Hp → Prop, (∃ m, W 0 m (upd H1 D (.lst []))) ∧ ∀ i m H, W i m H →
  (J.stop i H ∧ Q (.ref D) H) ∨ (J.go i H ∧ ∃ N1 : Hp → Prop, (∀ H', N1 H' → ∃ m', m' < m ∧ W (i + 1) m' H') ∧ ∀ x H', J.yld i H x H' → g x (wipe σ vs) H' fun σ2 H2 => wipe σ2 vs = wipe σ vs ∧ tt σ2 H2 fun b H3 => if b = true then body D σ2 H3 N1 else N1 H3)
theorem pe_lcN {X : Cx} {elt tg iter : Expr} {ifs : List Expr} {rest : List Comprehension} {scope : Scope} {own : List (Str × Nat)} {fs : List Nat} {pos : Pos} {wi : TI} {g : TG} {tt : TT} {body : Addr → TB} (hc : X.calm = true) (hN : X.N.Nodup) (hi : PI X tg iter wi) (ok : BlkOk X.N X.env.scope scope own)
    (hg : ∀ (s : Shared) (H : Hp) (C : Addr) (cl : List (Str × Addr)) (fp : List Addr), PG (X.blk s H scope (compEnvC scope cl C X.env) fp) tg g) (ht : ∀ (s : Shared) (H : Hp) (C : Addr) (cl : List (Str × Addr)) (fp : List Addr), PTs (X.blk s H scope (compEnvC scope cl C X.env) fp) ifs tt)
    (hb : ∀ (D : Addr) (s : Shared) (H : Hp) (C : Addr) (cl : List (Str × Addr)) (fp : List Addr), Runs (X.blk s H scope (compEnvC scope cl C X.env) fp) elt (⟨tg, iter, ifs, 0⟩ :: rest) scope pos 0 D fs (body D)) (hf : ∀ i ∈ fs, i ∈ own.map (·.2))
    (hs : ∀ x, foldedSetIterable iter X.env x = pure x := by intro _; rfl) (hn : ∀ env g, rest[0]? = some g → g.is_async = 0 ∧ ∀ x, foldedSetIterable g.iter env x = pure x) :
    PE X (.ListComp elt (⟨tg, iter, ifs, 0⟩ :: rest) scope pos) (tLcN wi g tt (own.map (·.2)) body) := ⟨fun pins s σ H Q I h => by
  rw [eval_ListComp]
  have hfree : ∀ y ∈ scope.names, y.2 = .free → ∃ c, X.env.cells.lookup y.1 = some c := fun y hy e => (ok.free y hy e).elim (fun z => I.ok.has _ (.inl z)) fun z => I.ok.has _ (.inr z)
  refine wpAny_comprehension_free rfl hs (closure_ok hfree) ok.kind (fun y hy e => by rw [ok.uniq y hy, e]) (thn (hi.run pins s σ H _ I h) fun xv s1 h1 => thn h1 fun itv s2 h2 => ?_)
  obtain ⟨it, fp, tn, J, H2, e, I2, T, st2, f2, q⟩ := h2
  subst e
  refine wpAny_newObj_type (newEnv_comp ?_) (by show 0 ≤ sizeLine; decide)
  generalize hD : s2.heap.objs.size = D
  have hDn : H2 D = none := I2.hok.fresh (Nat.le_of_eq hD)
  obtain ⟨W, ⟨m0, w0⟩, turn⟩ := q D hDn
  -- the list is laid
  generalize hs3 : ({ s2 with heap := s2.heap.push { cls := .type "list", data := .seq ([] : List Value).toArray } } : Shared) = s3
  have h3 : s3.heap = s2.heap.push { cls := .type "list", data := .seq ([] : List Value).toArray } := by rw [← hs3]
  have I3 : Inv X pins σ (upd H2 D (.lst [])) s3 := by
    subst hs3
    exact I2.laid (t' := s2.toks) (fun b o e => Heap.get?_push_of_some _ e) (Nat.le_of_eq hD) ⟨Nat.zero_le _, [], 0, .nil, by subst hD; exact Heap.get?_push_size _ rfl⟩
  have f3 : ∀ b ∈ fp, FpOk X pins (upd H2 D (.lst [])) b ∧ b < s3.heap.objs.size := fun b hb => by
    obtain ⟨o, e, _⟩ := T.obj _ _ st2 b hb
    have lt := Heap.lt_size e
    refine ⟨⟨?_, (f2 b hb).2⟩, by rw [h3, Heap.size_push]; exact Nat.lt_succ_of_lt lt⟩
    rw [upd_ne (by rw [← hD]; exact Nat.ne_of_lt lt)]
    exact (f2 b hb).1
  have st3 : tn 0 s3.heap := T.keep _ _ _ st2 fun b _ o e => by rw [h3]; exact Heap.get?_push_of_some _ e
  have I4 := block_start I3 ok hN f3
  have pg := hg s3 (upd H2 D (.lst [])) s3.heap.objs.size (cellsFrom (s3.heap.objs.size + 1) scope.names (cloFrom X.env.cells scope.names [])) fp
  have pt := ht s3 (upd H2 D (.lst [])) s3.heap.objs.size (cellsFrom (s3.heap.objs.size + 1) scope.names (cloFrom X.env.cells scope.names [])) fp
  have pb := hb D s3 (upd H2 D (.lst [])) s3.heap.objs.size (cellsFrom (s3.heap.objs.size + 1) scope.names (cloFrom X.env.cells scope.names [])) fp
  have goal : codeAny (model X.prog X.w) X.A (.compStart (.ListComp elt (⟨tg, iter, ifs, 0⟩ :: rest) scope pos) 0 (.ref it) (.ref D) (compEnvC scope (cellsFrom (s3.heap.objs.size + 1) scope.names (cloFrom X.env.cells scope.names [])) s3.heap.objs.size X.env))
      (compPost (model X.prog X.w) X.A X.xe none (EP X pins σ Q) (.ref D) s3.heap.objs.size) { s3 with heap := pushCells (s3.heap.push { cls := .type "dict", data := .dict #[] }) scope.names } := by
    have nfp : ∀ b ∈ fp, (upd H2 D (.lst [])) b = none := fun b hb => (f3 b hb).1.1
    generalize hce : compEnvC scope (cellsFrom (s3.heap.objs.size + 1) scope.names (cloFrom X.env.cells scope.names [])) s3.heap.objs.size X.env = ce at I4 pg pt pb ⊢
    have cL : ce.locals = s3.heap.objs.size := by subst hce; rfl
    generalize upd H2 D (.lst []) = H3 at I3 I4 pg pt pb w0 nfp f3
    generalize hs4 : ({ s3 with heap := pushCells (s3.heap.push { cls := .type "dict", data := .dict #[] }) scope.names } : Shared) = s4 at I4 ⊢
    have st4 : tn 0 s4.heap := T.keep _ _ _ st3 fun b _ o e => by rw [← hs4]; exact pushCells_keeps _ _ _ _ (Heap.get?_push_of_some _ e)
    have stat : ∀ {σ' : St} {H' : Hp} {s' : Shared}, Inv (X.blk s3 H3 scope ce fp) [] σ' H' s' → (∀ b ∈ fp, H' b = none) → ∀ b ∈ fp, FpOk (X.blk s3 H3 scope ce fp) [] H' b := fun {σ' H' s'} I' hn b hb =>
      ⟨hn b hb, (I'.ok.exf b hb).1, I'.ok.exfs b hb, .inl hb, fun x c e => (I'.ok.exf b hb).2 x c e, fun p hp => absurd (show p ∈ ([] : List (Addr × Obj)) ++ [] from hp) (by simp)⟩
    have loop : codeAny (model X.prog X.w) X.A (.compLoop (.ListComp elt (⟨tg, iter, ifs, 0⟩ :: rest) scope pos) 0 (.ref it) (.ref D) ce) (compPost (model X.prog X.w) X.A X.xe none (EP X pins σ Q) (.ref D) s3.heap.objs.size) s4 := by
      refine loop_at (hk := rfl) (hn := hn ce) (fun m s' => ∃ j H', Inv (X.blk s3 H3 scope ce fp) [] (wipe σ (own.map (·.2))) H' s' ∧ tn j s'.heap ∧ (∀ b ∈ fp, H' b = none) ∧ W j m H') ?_ m0 ⟨0, H3, I4, st4, nfp, w0⟩
      rintro m s5 ⟨j, H5, I5, st5, n5, w5⟩
      rcases turn j m H5 w5 with ⟨stop, qq⟩ | ⟨go, N1, hN1, step⟩
      · refine thnF (T.done (X.blk s3 H3 scope ce fp) rfl rfl rfl hc j [] s5 _ H5 (fun _ _ => False) I5 (stat I5 n5) st5 stop) fun r s6 ⟨hr, I6⟩ => ?_
        subst hr
        have I7 : Inv X pins σ H5 s6 := I3.call' (ch := fp) I6.os I6.base I6.hok I6.bare fun b hb => ⟨(f3 b hb).1.2.2.2.1, (f3 b hb).1.2.1, (f3 b hb).1.2.2.2.2.1, (f3 b hb).1.2.2.2.2.2⟩
        have nC : H5 s3.heap.objs.size = none := by
          have z : H5 ce.locals = none := I6.free
          rwa [cL] at z
        obtain ⟨mm, hn2, _⟩ := I6.loc
        have hn2 : s6.heap.Ns ce.locals mm := hn2
        rw [cL] at hn2
        obtain ⟨g0, g1, g2, g3, g4, g5⟩ := I3.fpOk (Nat.le_refl _) nC
        exact ⟨mm, hn2, fun h'' sb => ⟨.ref D, H5, I7.turned (t' := s6.toks) (fun b o hb e => (sb.2 b hb).trans e) g0 g1 g3 g4 g5, rfl, qq⟩⟩
      · refine thnF (T.item (X.blk s3 H3 scope ce fp) rfl rfl rfl hc j [] s5 _ H5 (fun _ _ => False) I5 (stat I5 n5) st5 go) fun r s6 ⟨u, hr, h6⟩ => ?_
        subst hr
        refine thnF h6 fun _ s7 ⟨x, H7, I7, r7, y7, st7, n7⟩ => ?_
        have I7' := I7.pinned (stat I7 n7) (T.obj _ _ st7)
        refine thnF (pg.run _ s7 _ H7 x u _ I7' r7 (step x H7 y7)) fun _ s8 ⟨σ8, H8, I8, hw, q8⟩ => ?_
        refine thnF (pt.run _ s8 σ8 H8 _ I8 q8) fun b s9 ⟨H9, I9, q9⟩ => ?_
        have back : ∀ (s' : Shared) (σ' : St) (H' : Hp), Inv (X.blk s3 H3 scope ce fp) ([] ++ pinsAt fp s7.heap) σ' H' s' → σ'.length = σ8.length → (∀ (j : Nat) v, (wipe σ8 fs)[j]? = some (some v) → σ'[j]? = some (some v)) → N1 H' →
            ∃ m', m' < m ∧ ∃ j H', Inv (X.blk s3 H3 scope ce fp) [] (wipe σ (own.map (·.2))) H' s' ∧ tn j s'.heap ∧ (∀ b ∈ fp, H' b = none) ∧ W j m' H' := fun s' σ' H' I' hl hkp n1 => by
          obtain ⟨m', hm, w'⟩ := hN1 H' n1
          have pin' : ∀ b ∈ fp, ∀ o, s7.heap.get? b = some o → s'.heap.get? b = some o ∧ H' b = none := fun b hb o e =>
            let z := I'.pin (b, o) (List.mem_append_right _ (List.mem_append_right _ (mem_pinsAt hb e)))
            ⟨z.1, z.2.1⟩
          refine ⟨m', hm, j + 1, H', (I'.unpinned (pins := [])).weak (by rw [hl, ← hw, wipe_length]) (fun j v e => ?_), T.keep _ _ _ st7 fun b hb o e => (pin' b hb o e).1, fun b hb => ?_, w'⟩
          · rw [← hw] at e
            obtain ⟨e1, e2⟩ := wipe_some e
            exact hkp j v (by rw [wipe_out fun z => e2 (hf j z)]; exact e1)
          · obtain ⟨o, e, _⟩ := T.obj _ _ st7 b hb
            exact (pin' b hb o e).2
        cases b with
        | false =>
          simp only [Bool.false_eq_true, if_false] at q9 ⊢
          exact back s9 σ8 H9 I9 rfl (fun _ _ e => (wipe_some e).1) q9
        | true =>
          simp only [if_true] at q9 ⊢
          exact pb.run _ s9 σ8 H9 N1 _ _ I9 q9 back
    exact start_at (hk := rfl) rfl loop (T.self X.A 0 _ _ _ st4 loop)
  exact goal⟩
end L2
namespace Rt
open PySem L2 PySem.Spec PyProof.Rows
section
variable {P : Program} {w : World} {K : PySem.W.Frag} {mg : Str → Option Value} {base : Heap}

/-! ### what is wished for less is met, too -/
def TEMono (t : TE) : Prop := ∀ (σ : L2.St) (H : Hp) (Q Q' : VK), (∀ v H1, Q v H1 → Q' v H1) → t σ H Q → t σ H Q'
def TAMono (t : TA) : Prop := ∀ (σ : L2.St) (H : Hp) (Q Q' : List V → Hp → Prop), (∀ v H1, Q v H1 → Q' v H1) → t σ H Q → t σ H Q'
def TTMono (t : TT) : Prop := ∀ (σ : L2.St) (H : Hp) (Q Q' : Bool → Hp → Prop), (∀ b H1, Q b H1 → Q' b H1) → t σ H Q → t σ H Q'
def R2Mono (r : R2) : Prop := ∀ (x y : V) (H : Hp) (Q Q' : VK), (∀ v H1, Q v H1 → Q' v H1) → r x y H Q → r x y H Q'
theorem m_var {i : Nat} : TEMono (tVar i) := fun _ _ _ _ h ⟨v, e, z⟩ => ⟨v, e, h _ _ z⟩
theorem m_c {v : V} : TEMono (tC v) := fun _ _ _ _ h z => h _ _ z
theorem m_op {r : R2} {a b : TE} (hr : R2Mono r) (ha : TEMono a) (hb : TEMono b) : TEMono (tOp r a b) := fun σ H Q Q' h z => ha σ H _ _ (fun x H1 q => hb σ H1 _ _ (fun y H2 q2 => hr x y H2 _ _ h q2) q) z
theorem m_nil : TAMono tNil := fun _ _ _ _ h z => h _ _ z
theorem m_cons {t : TE} {u : TA} (ht : TEMono t) (hu : TAMono u) : TAMono (tCons t u) := fun σ H Q Q' h z => ht σ H _ _ (fun x H1 q => hu σ H1 _ _ (fun xs H2 q2 => h _ _ q2) q) z
theorem m_test {t : TE} (ht : TEMono t) : TTMono (tTest t) := fun σ H Q Q' h z => ht σ H _ _ (fun x H1 ⟨k, e, q⟩ => ⟨k, e, h _ _ q⟩) z
theorem m_and {t u : TT} (ht : TTMono t) (hu : TTMono u) : TTMono (tAnd t u) := fun σ H Q Q' h z => ht σ H _ _ (fun c H1 q => by
  cases c with
  | true => exact hu σ H1 _ _ h q
  | false => exact h _ _ q) z
theorem m_rI {C : Int → Int → Prop} {g : Int → Int → V} : R2Mono (rI C g) := fun _ _ _ _ _ h ⟨i, j, e1, e2, c, q⟩ => ⟨i, j, e1, e2, c, h _ _ q⟩
theorem m_rI0 {g : Int → Int → V} : R2Mono (rI0 g) := fun _ _ _ _ _ h ⟨i, j, e1, e2, q⟩ => ⟨i, j, e1, e2, h _ _ q⟩
theorem m_rEq : R2Mono rEq := fun _ _ _ _ _ h ⟨e, q⟩ => ⟨e, h _ _ q⟩
theorem m_rNe : R2Mono rNe := fun _ _ _ _ _ h ⟨e, q⟩ => ⟨e, h _ _ q⟩
theorem m_rIn {n : Bool} : R2Mono (rIn K n) := fun _ _ _ _ _ h ⟨p, xs, e, s, f, a, q⟩ => ⟨p, xs, e, s, f, a, h _ _ q⟩
theorem m_len {i : Nat} : TEMono (tCB (fun xs H Q => ∃ p ys, xs = [V.ref p] ∧ (SqL K H p ys ∨ SqT K H p ys) ∧ Q (.int (ys.length : Int)) H) (tCons (tVar i) tNil)) := fun _ _ _ _ h ⟨v, e, p, ys, e1, e2, q⟩ => ⟨v, e, p, ys, e1, e2, h _ _ q⟩
/-! ### what is never reached -/
def tNev : TS := fun _ _ _ => False
theorem pss_nev {X : Cx} {sts : List Stmt} : PSs X sts tNev := ⟨fun _ _ _ _ _ _ h => h.elim⟩

/-! ### is_integer, and the checks -/
def spIsInt (T : Tx P K mg) : Sp := fun vs H Q _ => ∃ (x : V) (lo hi : Int), vs = [x, .int lo, .int hi] ∧ AnyV (OwnT T) H x ∧ Q (.bl (intIn x lo hi)) H
theorem isi_int (T : Tx P K mg) {H : Hp} {x : V} (a : AnyV (OwnT T) H x) : ∃ t, TyX K H x t ∧ (∃ b, PySem.W.kitOne K t (.type "int") = some b ∧ (b = false → ∀ lo hi, intIn x lo hi = false) ∧ ∃ c, PySem.W.kitOne K t (.type "bool") = some c ∧ (c = true → ∀ lo hi, intIn x lo hi = false) ∧ (b = true → c = false → ∃ i, x = .int i)) := by
  cases a with
  | non => exact ⟨_, .base .non, false, kit_ty (by decide +kernel), fun _ _ _ => rfl, false, kit_ty (by decide +kernel), fun _ _ _ => rfl, fun z => nomatch z⟩
  | bl b => exact ⟨_, .base (.bl b), true, kit_ty (by decide +kernel), fun _ _ _ => rfl, true, kit_ty (by decide +kernel), fun _ _ _ => rfl, fun _ z => nomatch z⟩
  | int i => exact ⟨.type "int", .base (.int i), true, kit_ty (by decide +kernel), fun z => Bool.noConfusion z, false, kit_ty (by decide +kernel), fun z => Bool.noConfusion z, fun _ _ => ⟨i, rfl⟩⟩
  | str x => exact ⟨_, .base (.str x), false, kit_ty (by decide +kernel), fun _ _ _ => rfl, false, kit_ty (by decide +kernel), fun _ _ _ => rfl, fun z => nomatch z⟩
  | lst e => exact ⟨_, .base (.lst e), false, kit_ty (by decide +kernel), fun _ _ _ => rfl, false, kit_ty (by decide +kernel), fun _ _ _ => rfl, fun z => nomatch z⟩
  | tup e => exact ⟨_, .base (.tup e), false, kit_ty (by decide +kernel), fun _ _ _ => rfl, false, kit_ty (by decide +kernel), fun _ _ _ => rfl, fun z => nomatch z⟩
  | dct e => exact ⟨_, .base (.dK e), false, kit_ty (by decide +kernel), fun _ _ _ => rfl, false, kit_ty (by decide +kernel), fun _ _ _ => rfl, fun z => nomatch z⟩
  | ins t e => exact ⟨_, .base (t.ty e), false, t.nint, fun _ _ _ => rfl, false, t.nbool, fun _ _ _ => rfl, fun z => nomatch z⟩
theorem ok_is_integer (T : Tx P K mg) : FnOk P w K mg base CX0 lv_is_integer T.a_is_integer T.d_is_integer ["told", "low", "high"] (spIsInt T) := by
  refine T.F_is_integer.ok sc_is_integer (fun vs H Q E h => ?_) (fun cdv A outer s H vs Q E hr h => ?_)
  · obtain ⟨x, lo, hi, rfl, _⟩ := h
    rfl
  · obtain ⟨x, lo, hi, rfl, a, k⟩ := h
    refine ⟨_, (pss_one (ps_ret (pe_and (pe_callB call_isi (by rfl) T.n_isinstance (by decide +kernel) (pa_cons (pv 0) (pa_cons (pe_bltn (v := .ty "int") rfl T.n_int (by decide +kernel) rfl) pa_nil))) (pe_and (pe_not (pe_callB call_isi (by rfl) T.n_isinstance (by decide +kernel) (pa_cons (pv 0) (pa_cons (pe_bltn (v := .ty "bool") rfl T.n_bool (by decide +kernel) rfl) pa_nil)))) (pe_one (pe_chain op_le op_le (pv 1) (pv 0) (pv 2))))))), ?_⟩
    obtain ⟨t, ty, b, e1, h1, c, e2, h2, h3⟩ := isi_int T a
    refine ⟨_, rfl, _, _, _, _, b, rfl, .ty _, ty, e1, b, rfl, ?_⟩
    cases b with
    | false => exact iteF (by rw [h1 rfl lo hi] at k; exact k)
    | true =>
      refine iteT ?_
      refine ⟨_, rfl, _, _, _, _, c, rfl, .ty _, ty, e2, c, rfl, _, rfl, ?_⟩
      cases c with
      | true => exact iteF (by rw [h2 rfl lo hi] at k; exact k)
      | false =>
        refine iteT ?_
        obtain ⟨i, rfl⟩ := h3 rfl rfl
        refine ⟨_, rfl, _, rfl, _, _, rfl, rfl, _, rfl, ?_⟩
        have ke : Q (V.bl (decide (lo ≤ i) && decide (i ≤ hi))) H := k
        refine ite2 (fun c1 => ?_) (fun c1 => ?_)
        · rw [c1] at ke
          exact ⟨_, rfl, _, _, rfl, rfl, ke⟩
        · rw [show decide (lo ≤ i) = false from by simpa using c1] at ke
          exact ke
/-- base, take and the like: a value in the range, or the error of the class C -/
def spChk (T : Tx P K mg) (C : Addr) (lo hi : Int) : Sp := fun vs H Q E => ∃ x : V, vs = [x] ∧ AnyV (OwnT T) H x ∧ (intIn x lo hi = true → Q .non H) ∧ (intIn x lo hi = false → E (.ref C) none H)

/-! ### is_number -/
def spIsNum (T : Tx P K mg) : Sp := fun vs H Q _ => ∃ x : V, vs = [x] ∧ AnyV (OwnT T) H x ∧ Q (.bl (intIn x (-(10 ^ 40)) (10 ^ 40))) H
theorem ok_is_number (T : Tx P K mg) : FnOk P w K mg base CX0 lv_is_number T.a_is_number T.d_is_number ["told"] (spIsNum T) := by
  refine T.F_is_number.ok sc_is_number (fun vs H Q E h => ?_) (fun cdv A outer s H vs Q E hr h => ?_)
  · obtain ⟨x, rfl, _⟩ := h
    rfl
  · obtain ⟨x, rfl, a, k⟩ := h
    refine ⟨_, (pss_one (ps_ret (pe_call (ok_is_integer T) (hr.mono (by decide)) rfl T.g_is_integer T.F_is_integer.kp T.b_is_integer .nil pass0 (pa_cons (pv 0) (pa_cons (pe_un un_neg (pe_glob (v := .int 10000000000000000000000000000000000000000) rfl T.c_GREATEST_NUMBER ⟨_, rfl⟩)) (pa_cons (pe_glob (v := .int 10000000000000000000000000000000000000000) rfl T.c_GREATEST_NUMBER ⟨_, rfl⟩) pa_nil)))))), ?_⟩
    exact ⟨_, rfl, _, rfl, x, _, _, rfl, a, k⟩

theorem ok_check_base (T : Tx P K mg) : FnOk P w K mg base (L2.CX P w) lv_check_base T.a_check_base T.d_check_base ["base"] (spChk T T.C_BadBase 2 16) := by
  refine T.F_check_base.okX sc_check_base (fun vs H Q E h => ?_) (fun cdv A outer s H vs Q E hr h => ?_)
  · obtain ⟨x, rfl, _⟩ := h
    rfl
  · obtain ⟨x, rfl, a, k1, k2⟩ := h
    refine ⟨_, (pss_one (ps_if (pt_not (pt_val (pe_call (ok_is_integer T) (hr.mono (by decide)) rfl T.g_is_integer T.F_is_integer.kp T.b_is_integer .nil pass0 (pa_cons (pv 0) (pa_cons (pe_glob (v := .int 2) rfl T.c_LEAST_BASE ⟨_, rfl⟩) (pa_cons (pe_glob (v := .int 16) rfl T.c_GREATEST_BASE ⟨_, rfl⟩) pa_nil)))))) (pss_one (ps_raise rfl (takes_of rfl rfl rfl rfl) (pmk_own PySem.F.excBase_ValueError T.x_BadBase T.g_BadBase T.k_BadBase (raises_own T.s_BadBase T.t_BadBase) rfl))) pss_nil)), ?_⟩
    refine ⟨_, rfl, _, _, _, rfl, a, _, rfl, ?_⟩
    cases e : intIn x 2 16 with
    | true => exact iteF (k1 e)
    | false => exact iteT (k2 e)

theorem ok_check_take (T : Tx P K mg) : FnOk P w K mg base (L2.CX P w) lv_check_take T.a_check_take T.d_check_take ["take"] (spChk T T.C_BadTake 1 2) := by
  refine T.F_check_take.okX sc_check_take (fun vs H Q E h => ?_) (fun cdv A outer s H vs Q E hr h => ?_)
  · obtain ⟨x, rfl, _⟩ := h
    rfl
  · obtain ⟨x, rfl, a, k1, k2⟩ := h
    refine ⟨_, (pss_one (ps_if (pt_not (pt_val (pe_call (ok_is_integer T) (hr.mono (by decide)) rfl T.g_is_integer T.F_is_integer.kp T.b_is_integer .nil pass0 (pa_cons (pv 0) (pa_cons pe_int (pa_cons (pe_glob (v := .int 2) rfl T.c_GREATEST_TAKE ⟨_, rfl⟩) pa_nil)))))) (pss_one (ps_raise rfl (takes_of rfl rfl rfl rfl) (pmk_own PySem.F.excBase_ValueError T.x_BadTake T.g_BadTake T.k_BadTake (raises_own T.s_BadTake T.t_BadTake) rfl))) pss_nil)), ?_⟩
    refine ⟨_, rfl, _, _, _, rfl, a, _, rfl, ?_⟩
    cases e : intIn x 1 2 with
    | true => exact iteF (k1 e)
    | false => exact iteT (k2 e)

/-! ### divisors up to a greatest one -/
def spDivisor (T : Tx P K mg) : Sp := fun vs H Q E => ∃ (x : V) (g : Int), vs = [x, .int g] ∧ 1 ≤ g ∧ g ≤ 100 ∧ AnyV (OwnT T) H x ∧ (intIn x 1 g = true → Q .non H) ∧ (intIn x 1 g = false → E (.ref T.C_BadDivisor) none H)
theorem ok_check_divisor (T : Tx P K mg) : FnOk P w K mg base (L2.CX P w) lv_check_divisor T.a_check_divisor T.d_check_divisor ["d", "greatest"] (spDivisor T) := by
  refine FunD.ok T.F_check_divisor sc_check_divisor (fun vs H Q E h => ?_) (fun cdv A outer s H vs Q E hr h => ?_)
  · obtain ⟨x, g, rfl, _⟩ := h
    rfl
  · obtain ⟨x, g, rfl, g1, g2, a, k1, k2⟩ := h
    refine ⟨_, (pss_one (ps_if (pt_not (pt_val (pe_call (ok_is_integer T) (hr.mono (by decide)) rfl T.g_is_integer T.F_is_integer.kp T.b_is_integer .nil pass0 (pa_cons (pv 0) (pa_cons pe_int (pa_cons (pv 1) pa_nil)))))) (pss_one (ps_raise rfl (takes_of rfl rfl rfl rfl) (SkE.pmk_own1 PySem.F.excBase_ValueError T.x_BadDivisor T.g_BadDivisor T.k_BadDivisor (raises_own T.s_BadDivisor T.t_BadDivisor) rfl (pe_joined (PJ.cons pe_str (PJ.cons (pe_fmt (pv 1)) PJ.nil)))))) pss_nil)), ?_⟩
    refine ⟨_, rfl, _, rfl, _, _, _, rfl, a, _, rfl, ?_⟩
    cases e : intIn x 1 g with
    | true => exact iteF (k1 e)
    | false =>
      have sm : g.natAbs.log2 < 1920 := Nat.lt_of_le_of_lt (Nat.log2_le_self _) (by omega)
      refine iteT ⟨_, rfl, (by rw [Str.length_append, sizeLine_eq]; exact Nat.le_trans (Nat.add_le_add (Nat.zero_le 0) (show ("no integer from 1 to " : Str).length ≤ 21 by decide)) (by decide)), _, rfl, .inr ⟨g, rfl, sm, _, rfl, ?_, k2 e⟩⟩
      rw [Str.length_append, Str.length_append, sizeLine_eq]
      have e0 := int_text_length_le (k := 1920) (by decide) sm
      have e2 : (Str.ofString (toString g)).length = (toString g).length := PySem.ofString_length _
      have e3 : ("no integer from 1 to " : Str).length ≤ 21 := by decide
      have e4 : Str.empty.length = 0 := rfl
      have e5 : ((toString g : Str)).length = (Str.ofString (toString g)).length := rfl
      omega

/-! ### numbers in a stretch, or the error -/
def spStretchX (T : Tx P K mg) : Sp := fun vs H Q E => ∃ (x : V) (lo hi : Int), vs = [x, .int lo, .int hi] ∧ AnyV (OwnT T) H x ∧ (intIn x lo hi = true → Q .non H) ∧ (intIn x lo hi = false → ∀ d, H d = none → E (.ref T.C_BadNumber) (some d) (upd H d (.xd [(("n" : Str), x)])))
theorem ok_check_stretch (T : Tx P K mg) : FnOk P w K mg base (L2.CX P w) lv_check_stretch T.a_check_stretch T.d_check_stretch ["n", "low", "high"] (spStretchX T) := by
  refine T.F_check_stretch.okX sc_check_stretch (fun vs H Q E h => ?_) (fun cdv A outer s H vs Q E hr h => ?_)
  · obtain ⟨x, lo, hi, rfl, _⟩ := h
    rfl
  · obtain ⟨x, lo, hi, rfl, a, k1, k2⟩ := h
    refine ⟨_, (pss_one (ps_if (pt_not (pt_val (pe_call (ok_is_integer T) (hr.mono (by decide)) rfl T.g_is_integer T.F_is_integer.kp T.b_is_integer .nil pass0 (pa_cons (pv 0) (pa_cons (pv 1) (pa_cons (pv 2) pa_nil)))))) (pss_one (ps_raiseF T.x_BadNumber ar_BadNumber rfl hr (takes_of rfl rfl rfl rfl) (pa_cons (pv 0) pa_nil))) pss_nil)), ?_⟩
    refine ⟨_, rfl, _, rfl, _, rfl, _, _, _, rfl, a, _, rfl, ?_⟩
    cases e : intIn x lo hi with
    | true => exact iteF (k1 e)
    | false => exact iteT ⟨_, rfl, _, rfl, trivial, fun d hd => k2 e d hd⟩

/-! ### numbers, or the error -/
def spNumberX (T : Tx P K mg) : Sp := fun vs H Q E => ∃ x : V, vs = [x] ∧ AnyV (OwnT T) H x ∧ (intIn x (-(10 ^ 40)) (10 ^ 40) = true → Q .non H) ∧ (intIn x (-(10 ^ 40)) (10 ^ 40) = false → ∀ d, H d = none → E (.ref T.C_BadNumber) (some d) (upd H d (.xd [(("n" : Str), x)])))
theorem ok_check_number (T : Tx P K mg) : FnOk P w K mg base (L2.CX P w) lv_check_number T.a_check_number T.d_check_number ["n"] (spNumberX T) := by
  refine T.F_check_number.okX sc_check_number (fun vs H Q E h => ?_) (fun cdv A outer s H vs Q E hr h => ?_)
  · obtain ⟨x, rfl, _⟩ := h
    rfl
  · obtain ⟨x, rfl, a, k1, k2⟩ := h
    refine ⟨_, (pss_one (ps_if (pt_not (pt_val (pe_call (ok_is_number T) (hr.mono (by decide)) rfl T.g_is_number T.F_is_number.kp T.b_is_number .nil pass0 (pa_cons (pv 0) pa_nil)))) (pss_one (ps_raiseF T.x_BadNumber ar_BadNumber rfl hr (takes_of rfl rfl rfl rfl) (pa_cons (pv 0) pa_nil))) pss_nil)), ?_⟩
    refine ⟨_, rfl, x, rfl, a, _, rfl, ?_⟩
    cases e : intIn x (-(10 ^ 40)) (10 ^ 40) with
    | true => exact iteF (k1 e)
    | false => exact iteT ⟨_, rfl, _, rfl, trivial, fun d hd => k2 e d hd⟩

/-! ### a call of what an expression gives: one def of a family -/
structure HeldX (P : Program) (w : World) (K : PySem.W.Frag) (mg : Str → Option Value) (base : Heap) (CX : CXT) (k : Nat) (f : Addr) (sp : Sp) : Prop where
  ex : ∃ (k2 : Nat) (fd : FuncData) (ps : List Str), k2 ≤ k ∧ FnOk P w K mg base CX k2 f fd ps sp ∧ PySem.W.keepIn K (.ref f) = true ∧ Binds K fd ps []
def tCallE (te : TE) (fam : Addr → Sp → Prop) (E : XK) (t : TA) : TE := fun σ H Q => te σ H fun x H0 => ∃ f sp, x = .ref f ∧ fam f sp ∧ t σ H0 fun vs H1 => sp vs H1 Q E
theorem pe_callE {X : Cx} {CX : CXT} {k : Nat} {fam : Addr → Sp → Prop} {E : XK} {e0 : PySem.Expr} {te : TE} {e : PySem.Expr} {es : List PySem.Expr} {t : TA} {pos : Pos} (A : ∀ f sp, fam f sp → HeldX X.prog X.w X.K X.mg X.base CX k f sp) (hr : Room k X.A) (h0 : PE X e0 te) (hx : Passes CX X E) (ha : PA X (e :: es) t)
    (hev : eval (.Call e0 (e :: es) [] pos) X.env = (do callWith pos (← eval e0 X.env) [] (backTo pos (starEach (e :: es) X.env)) []) := by rfl)
    (he : starEach (e :: es) X.env = (false, eval e X.env) :: starEach es X.env := by rfl) (hpl : (backTo pos (starEach es X.env)).any (·.1) = false := by rfl) : PE X (.Call e0 (e :: es) [] pos) (tCallE te fam E t) := by
  refine ⟨fun pins s σ H Q I h => ?_⟩
  rw [hev]
  refine wpAny_bind (thn (h0.run pins s σ H _ I h) fun u s1 hh => ?_)
  obtain ⟨x, H1, I1, r1, f, sp, rfl, hf, ht⟩ := hh
  obtain rfl : u = Value.ref f := r1
  obtain ⟨k2, fd, ps, lk, F, hk, hb⟩ := (A f sp hf).ex
  refine PySem.W.callWith_K (h₀ := X.base) I.ok.mod.kin hk (thn (ha.run pos pins s1 σ _ _ I1 ht) fun us s2 ⟨vs, H2, I2, r, q⟩ => ⟨I2.kIn, ?_⟩) he hpl
  exact run_fn F (hr.mono lk) hb .nil hx I2 r (by rw [List.append_nil]; exact q)
/-- the same, where what it lets out may speak of the slots -/
def tCallES (te : TE) (fam : Addr → Sp → Prop) (E : L2.St → XK) (t : TA) : TE := fun σ H Q => te σ H fun x H0 => ∃ f sp, x = .ref f ∧ fam f sp ∧ t σ H0 fun vs H1 => sp vs H1 Q (E σ)
theorem pe_callES {X : Cx} {CX : CXT} {k : Nat} {fam : Addr → Sp → Prop} {E : L2.St → XK} {e0 : PySem.Expr} {te : TE} {e : PySem.Expr} {es : List PySem.Expr} {t : TA} {pos : Pos} (A : ∀ f sp, fam f sp → HeldX X.prog X.w X.K X.mg X.base CX k f sp) (hr : Room k X.A) (h0 : PE X e0 te) (hx : ∀ σ, PassesAt CX X σ (E σ)) (ha : PA X (e :: es) t)
    (hev : eval (.Call e0 (e :: es) [] pos) X.env = (do callWith pos (← eval e0 X.env) [] (backTo pos (starEach (e :: es) X.env)) []) := by rfl)
    (he : starEach (e :: es) X.env = (false, eval e X.env) :: starEach es X.env := by rfl) (hpl : (backTo pos (starEach es X.env)).any (·.1) = false := by rfl) : PE X (.Call e0 (e :: es) [] pos) (tCallES te fam E t) := by
  refine ⟨fun pins s σ H Q I h => ?_⟩
  rw [hev]
  refine wpAny_bind (thn (h0.run pins s σ H _ I h) fun u s1 hh => ?_)
  obtain ⟨x, H1, I1, r1, f, sp, rfl, hf, ht⟩ := hh
  obtain rfl : u = Value.ref f := r1
  obtain ⟨k2, fd, ps, lk, F, hk, hb⟩ := (A f sp hf).ex
  refine PySem.W.callWith_K (h₀ := X.base) I.ok.mod.kin hk (thn (ha.run pos pins s1 σ _ _ I1 ht) fun us s2 ⟨vs, H2, I2, r, q⟩ => ⟨I2.kIn, ?_⟩) he hpl
  exact run_fnS F (hr.mono lk) hb (hx σ) I2 r q

/-! ### enumerate(tuple) -/
end
end Rt
namespace EnumX
open PySem PyProof.Rows
theorem new1 {u : Value} {ob : Obj} {Z : Heap → Prop} (B : Begins u ob Z) : Meets (Builtin.«enumerate.__new__» ⟨[.type "enumerate", u], []⟩) (fun _ R s => Z s.heap ∧
      R (.ok (.ret (.ref (s.heap.push ob).objs.size))) { s with heap := (s.heap.push ob).push ⟨.type "enumerate", none, .fields #[.none, .bool false, .ref s.heap.objs.size, rawInt 0, .none, .none], #[]⟩ }) := by
  refine Meets.of_wp fun P w A R s hyp => ?_
  obtain ⟨z, fin⟩ := hyp
  obtain ⟨hp, g, d, tk, os⟩ := s
  have se := sub_enumerate
  have go : ∀ {A2 : Around} {E2 Q2 : Value → Shared → Prop}, Q2 (.ref hp.objs.size) ⟨hp.push ob, g, d, tk, os⟩ → wpAny (model P w) A2 (pyIter u) Q2 E2 ⟨hp, g, d, tk, os⟩ := fun q => B.iter P w _ _ ⟨hp, g, d, tk, os⟩ _ z q
  wp_walk using go
  refine wpAny_stack_any fun stk => (wpAny_pure ?_)
  split
  · rename_i cc _ _ _ _ _
    cases (cc == Value.type "enumerate") <;> (wp_walk using go; exact ⟨_, rfl, fin⟩)
  · wp_walk using go
    exact ⟨_, rfl, fin⟩
theorem made1 {P : Program} {w : World} {A : Around} {E Q : Value → Shared → Prop} {s : Shared} {u : Value} {ob : Obj} {Z : Heap → Prop} (B : Begins u ob Z) (z : Z s.heap)
    (q : ∀ h2, IsEnum h2 (s.heap.objs.size + 1) s.heap.objs.size 0 .none → h2.get? s.heap.objs.size = some ob → (∀ b o, s.heap.get? b = some o → h2.get? b = some o) → Q (.ref (s.heap.objs.size + 1)) { s with heap := h2 }) :
    wpAny (model P w) A (call (.type "enumerate") [u]) Q E s := by
  refine callType_new F.called_enumerate (by decide) (F.typeCall_enumerate_1 u) (F.newCall_enumerate_1 u) (fun ob => F.args_object_init_2 ob u) F.entry_enumerate_new (new1 B) ⟨z, ?_⟩
  have sz : (s.heap.push ob).objs.size = s.heap.objs.size + 1 := Heap.size_push ..
  have at1 : ((s.heap.push ob).push ⟨.type "enumerate", none, .fields #[.none, .bool false, .ref s.heap.objs.size, rawInt 0, .none, .none], #[]⟩).get? (s.heap.objs.size + 1) = some ⟨.type "enumerate", none, .fields #[.none, .bool false, .ref s.heap.objs.size, rawInt 0, .none, .none], #[]⟩ := by
    rw [← sz]
    exact Heap.get?_push_size _ rfl
  show _ ∧ _
  rw [sz]
  exact ⟨⟨_, at1, rfl⟩, q _ at1 (Heap.get?_push_of_some _ (Heap.get?_push_size _ B.free)) fun b o e => Heap.get?_push_of_some _ (Heap.get?_push_of_some _ e)⟩
/-- at the end nothing is drawn -/
theorem drawn_out {P : Program} {w : World} {A : Around} (hh : A.handled = none) (it t : Addr) (ne : t ≠ it) (its : Array Value) (n : Nat) (hn : its.size ≤ n) : Draws P w A it [it, t] n (fun _ _ => True) (fun j h => j = n ∧ h.IsTupleIter it t n ∧ h.IsTuple t its) where
  live := fun _ _ ⟨_, ⟨o, e, _⟩, _⟩ => ⟨o, e⟩
  frame := fun _ _ _ ⟨z, a, b⟩ k => ⟨z, a.at fun o e => k it List.mem_cons_self o e, b.at fun o e => k t (List.mem_cons_of_mem _ List.mem_cons_self) o e⟩
  item := fun j _ _ _ lt ⟨z, _⟩ _ => absurd z (Nat.ne_of_lt lt)
  done := fun s Q E ⟨_, a, b⟩ q => wpAny_nextOf_tuple_end hh a b (Array.getElem?_eq_none hn) q
end EnumX
namespace L2
open PySem PySem.Spec PyProof.Rows
/-- the tuple at a, each item in a new pair with its place -/
def IteT (K : PySem.W.Frag) (a : Addr) : It where
  go := fun i H => ∃ (ys : List V) (y : V), SqT K H a ys ∧ ys[i]? = some y
  yld := fun i H v H2 => ∃ c y, v = .ref c ∧ H c = none ∧ H2 = upd H c (.tup [.int (i : Nat), y]) ∧ ∀ ys, SqT K H a ys → ys[i]? = some y
  stop := fun i H => ∃ ys : List V, SqT K H a ys ∧ ys.length ≤ i
theorem turn_enumT {P : Program} {w : World} {K : PySem.W.Frag} {elts : List PySem.Expr} {kk : Nat} {tpos : Pos} (a e it : Addr) :
    Turn P w K (.Tuple elts kk tpos) (IteT K a) [e, it] e (fun i h => (∃ old, IsEnum h e it ((i : Nat) : Int) old) ∧ h.IsTupleIter it a i ∧ e ≠ it) where
  mem := List.mem_cons_self
  obj := fun i h st b hb => by
    obtain ⟨⟨v0, en⟩, ⟨o, g1, g2, g3⟩, _⟩ := st
    rcases List.mem_cons.mp hb with z | hb2
    · rw [z]
      exact ⟨_, en, fun v q => nomatch q⟩
    · rw [List.mem_singleton.mp hb2]
      exact ⟨o, g1, fun v q => by rw [g3] at q; cases q⟩
  keep := fun i h h2 st k => by
    obtain ⟨⟨v0, en⟩, ti, ne⟩ := st
    exact ⟨⟨v0, k e List.mem_cons_self _ en⟩, ti.at fun o q => k it (List.mem_cons_of_mem _ List.mem_cons_self) o q, ne⟩
  item := by
    intro X hP hw hK hc i pins s σ H E I hf st hg
    subst hP hw hK
    obtain ⟨⟨v0, en⟩, ti, ne⟩ := st
    obtain ⟨ys, y, sq, hy⟩ := hg
    obtain ⟨its, vals, tp, ln⟩ := I.tuple sq
    obtain ⟨u, hu, ru⟩ := vals.get hy
    have tpl : s.heap.IsTuple a its.toArray := tp
    have le : e < s.heap.objs.size := Heap.lt_size en
    have li : it < s.heap.objs.size := by
      obtain ⟨_, q, _⟩ := ti
      exact Heap.lt_size q
    have nea : e ≠ a := fun z => by
      obtain ⟨o, g1, g2, _⟩ := tpl
      rw [← z, (show s.heap.get? e = some _ from en)] at g1
      rw [← Option.some.inj g1] at g2
      exact absurd (show Value.type "enumerate" = Value.type "tuple" from g2) (by decide)
    have nia : it ≠ a := fun z => by
      obtain ⟨o, g1, g2, _⟩ := tpl
      obtain ⟨o2, f1, f2, _⟩ := ti
      rw [← z, f1] at g1
      rw [← Option.some.inj g1, f2] at g2
      exact absurd g2 (by decide)
    refine wpAny_pyNext_enum_itemD (Draws.tuple (show X.A.in1.handled = none from I.ok.hd hc) it a (Ne.symm nia) its.toArray) en ⟨ti, tpl⟩ (by have := (List.getElem?_eq_some_iff.mp hu).1; simpa using this) ne (by simp [ne, nea]) fun x h2 tk px eo st2 nt sz kp => ?_
    have exu : x = u := by
      have px2 : its.toArray[i]? = some x := px
      rw [List.getElem?_toArray, hu] at px2
      exact (Option.some.inj px2).symm
    subst exu
    refine ⟨_, rfl, wpAny_letOwnedTupleGo_enum (s := { s with heap := h2, toks := tk + 1 }) eo fun h3 en3 sb => ?_⟩
    have nt3 : h3.get? s.heap.objs.size = some { cls := .type "tuple", data := .seq #[.int i tk, x] } := (sb.2 _ (Nat.ne_of_gt le)).trans nt
    have nw : ObjOk X.prog X.w (upd H s.heap.objs.size (.tup [.int (i : Nat), y])) h3 s.heap.objs.size (.tup [.int (i : Nat), y]) := ⟨by show 2 ≤ sizeLine; decide, [.int i tk, x], .cons ⟨_, rfl⟩ (.cons ru .nil), ⟨_, nt3, rfl, _, rfl⟩⟩
    have J : Inv X pins σ (upd H s.heap.objs.size (.tup [.int (i : Nat), y])) { s with heap := h3, toks := tk + 1 } :=
      I.turnedNew (ch := [e, it]) (fun b ob hb q => (sb.2 b (fun z => hb (z ▸ List.mem_cons_self))).trans (kp b ob (fun z => hb (z ▸ List.mem_cons_self)) (fun z => hb (z ▸ List.mem_cons_of_mem _ List.mem_cons_self)) q)) hf (Nat.le_refl _) nw
    refine ⟨.ref s.heap.objs.size, _, J, rfl, ⟨_, y, rfl, I.hok.fresh (Nat.le_refl _), rfl, fun zs hz => by rw [I.tuple_inj hz sq]; exact hy⟩, ⟨⟨x, ?_⟩, st2.1.at fun o q => (sb.2 it (Ne.symm ne)).trans q, ne⟩, fun b hb => ?_⟩
    · rw [show ((i + 1 : Nat) : Int) = (i : Int) + 1 from by omega]
      exact en3
    · have lb : b < s.heap.objs.size := by
        rcases List.mem_cons.mp hb with z | hb2
        · rw [z]
          exact le
        · rw [List.mem_singleton.mp hb2]
          exact li
      rw [upd_ne (Nat.ne_of_lt lb)]
      exact (hf b hb).1
  done := by
    intro X hP hw hK hc i pins s σ H E I hf st hg
    subst hP hw hK
    obtain ⟨⟨v0, en⟩, ti, ne⟩ := st
    obtain ⟨ys, sq, ln⟩ := hg
    obtain ⟨its, vals, tp, _⟩ := I.tuple sq
    obtain ⟨f0, f1, f2, f3, f4, f5⟩ := hf it (List.mem_cons_of_mem _ List.mem_cons_self)
    have tpl : s.heap.IsTuple a its.toArray := tp
    have nia : it ≠ a := fun z => by
      obtain ⟨o, g1, g2, _⟩ := tpl
      obtain ⟨o2, q1, q2, _⟩ := ti
      rw [← z, q1] at g1
      rw [← Option.some.inj g1, q2] at g2
      exact absurd g2 (by decide)
    have hl := vals.length
    refine wpAny_pyNext_enum_endD (EnumX.drawn_out (show X.A.in1.handled = none from I.ok.hd hc) it a (Ne.symm nia) its.toArray i (by simp; omega)) en ⟨rfl, ti, tpl⟩ fun h2 eb => ⟨rfl, I.turned (t' := s.toks) (fun b o hb q => eb b o hb q) f0 f1 f3 f4 f5⟩
  self := fun A i s Q E st h => let ⟨⟨_, en⟩, _⟩ := st; wpAny_pyIter_enum en h
def iEnumT (K : PySem.W.Frag) (ta : TA) : TI := fun σ H R => ta σ H fun vs H1 => ∃ a ys, vs = [.ref a] ∧ SqT K H1 a ys ∧ R (IteT K a) H1
theorem pi_enumT {X : Cx} {e : PySem.Expr} {ta : TA} {p pos tpos : Pos} {elts : List PySem.Expr} {kk : Nat} (hg : Gl X "enumerate") (hm : X.mg "enumerate" = none) (ha : PA X [e] ta) (hs : starEach [e] X.env = [(false, eval e X.env)] := by rfl) :
    PI X (.Tuple elts kk tpos) (.Call (.Name "enumerate" p) [e] [] pos) (iEnumT X.K ta) := by
  refine ⟨fun pins s σ H R I wish => ?_⟩
  refine Call_ (ld_blt I hg hm boot_enumerate (PyProof.Rows.callWith_type1 (thn (ha.run pos pins s σ H _ I wish) fun us s1 hh => ?_) hs rfl))
  obtain ⟨vs, H1, I1, r1, a, ys, rfl, sq, q⟩ := hh
  cases r1 with
  | cons r rr =>
    cases rr
    cases r
    obtain ⟨its, vals, tp, ln⟩ := I1.tuple sq
    have tpl : s1.heap.IsTuple a its.toArray := tp
    refine EnumX.made1 (begins_tuple a its.toArray) tpl fun h2 en nw kp => wpAny_pyIter_enum en ?_
    have J : Inv X pins σ H1 { s1 with heap := h2 } := I1.kept (t' := s1.toks) kp
    refine ⟨s1.heap.objs.size + 1, [s1.heap.objs.size + 1, s1.heap.objs.size], _, _, H1, rfl, J, turn_enumT a (s1.heap.objs.size + 1) s1.heap.objs.size, ⟨⟨.none, en⟩, ⟨_, nw, rfl, rfl⟩, Nat.succ_ne_self _⟩, fun b hb => ?_, q⟩
    have le : s1.heap.objs.size ≤ b := by
      rcases List.mem_cons.mp hb with z | hb2
      · rw [z]
        exact Nat.le_succ _
      · rw [List.mem_singleton.mp hb2]
        exact Nat.le_refl _
    exact I1.fpOk le (I1.hok.fresh le)
theorem walk_enumT {K : PySem.W.Frag} {a : Addr} {ys : List V} : Walk (IteT K a) ys.length (fun H => SqT K H a ys) (YPair (fun i => some (.int (i : Nat))) (fun i => ys[i]?)) := by
  refine ⟨fun i _ lt q => ⟨ys, ys[i], q, by simp [lt]⟩, fun _ q => ⟨ys, q, Nat.le_refl _⟩, fun i H v H2 _ q w => ?_⟩
  obtain ⟨c, y, e1, e2, e3, e4⟩ := w
  exact ⟨c, .int (i : Nat), y, e1, e2, e3, rfl, e4 ys q⟩
end L2
namespace Rt
open PySem L2 PySem.Spec PyProof.Rows
section
variable {P : Program} {w : World} {K : PySem.W.Frag} {mg : Str → Option Value} {base : Heap}

/-! ### a program's own == ; errors that leave a call within a try -/
def NoSub (K : PySem.W.Frag) (C : Addr) (H : Hp) (y : V) : Prop := (∃ b dy gs, y = .ref b ∧ H b = some (.ins C dy gs)) ∨ (∃ b xs, y = .ref b ∧ H b = some (.tup xs) ∧ PySem.W.subIn K (.type "tuple") (.ref C) = some false)
def rOwn (K : PySem.W.Frag) (C : Addr) (sp : Sp) (E : XK) : R2 := fun x y H Q => ∃ a dx fs, x = .ref a ∧ H a = some (.ins C dx fs) ∧ NoSub K C H y ∧ sp [x, y] H (fun v H' => (∃ k, v = .bl k) ∧ Q v H') E
section
variable {X : Cx}
theorem op_own {n : Nat} {CX : CXT} {C f : Addr} {fd : FuncData} {ps : List Str} {sp : Sp} {E : XK} (G : FnOk X.prog X.w X.K X.mg X.base CX n f fd ps sp) (hr : Room n X.A)
    (hs : PySem.W.findIn X.K (.ref C) "__eq__" = some (some (.ref f))) (hf : PySem.W.isFn X.K (.ref f) = true) (hb : Binds X.K fd ps []) (hx : Passes CX X E) : OpR X (compareOp .Eq) (rOwn X.K C sp E) := by
  intro pins s σ H x y v u Q I rx ry hq
  obtain ⟨a, dx, fs, rfl, ha, hy, hsp⟩ := hq
  obtain rfl : v = Value.ref a := rx
  obtain ⟨mA, O, _⟩ := ins_get I.hok ha
  obtain ⟨od, J, _⟩ := O.look
  obtain ⟨m, hF⟩ := I.fr
  have hl : ([V.ref a, y] : List V).length = ps.length := G.len _ _ _ _ hsp
  have back : wpAny (model X.prog X.w) X.A (call (.ref f) [.ref a, u]) (PySem.W.CmpBack (EP X pins σ Q)) X.xe s := by
    have rv : Vals [V.ref a, y] [Value.ref a, u] := .cons rfl (.cons ry .nil)
    have bd := hb s [.ref a, u] I.kIn (by rw [List.append_nil]; exact hl)
    rw [List.append_nil] at bd
    refine wpAny_call (codeAny_mono (G.run X.A X.stack s H ⟨[.ref a, u], []⟩ [.ref a, u] _ _ E hr I.env0 bd rv hsp) fun r s' hw => ?_)
    match r, hw with
    | .error e, hw => exact hx pins σ H s e s' I hw
    | .ok (.ret w'), hw =>
      obtain ⟨z, H', I', rz, ⟨k, ek⟩, qz⟩ := I.after hw
      subst ek
      cases rz
      exact ⟨.bl k, H', I', rfl, qz⟩
    | .ok .next, hw => exact hw.elim
    | .ok .brk, hw => exact hw.elim
    | .ok .cont, hw => exact hw.elim
  show wpAny (model X.prog X.w) X.A (richCompare .Eq (.ref a) u) _ _ s
  rcases hy with ⟨b, dy, gs, rfl, hb'⟩ | ⟨b, xs, rfl, hb', hsub⟩
  · obtain rfl : u = Value.ref b := ry
    obtain ⟨mB, O', _⟩ := ins_get I.hok hb'
    obtain ⟨od', J', _⟩ := O'.look
    exact PySem.W.cmp_K (op := .Eq) (tb := .ref C) hr.units0 hF I.ok.mod.kin J J'.type (by simp [PySem.W.notFirst]) hs hf back
  · obtain rfl : u = Value.ref b := ry
    obtain ⟨_, its, _, o, ho, hc, _⟩ := (show ObjOk X.prog X.w H s.heap b (.tup xs) from I.hok b _ hb')
    exact PySem.W.cmp_K (op := .Eq) (tb := .type "tuple") hr.units0 hF I.ok.mod.kin J (fun A' Q' E' s2 k2 q2 => wpAny_typeOf_ref (k2 _ _ ho) (by rw [hc]; exact q2)) (by simp [PySem.W.notFirst, hsub]) hs hf back
/-- what a call lets out is taken, whatever the slots hold -/
theorem passN {W : WX} (tk : Takes X W) : Passes (L2.CX X.prog X.w) X (fun cls d H => ∀ σ : L2.St, σ.length = X.N.length → W cls d σ H) :=
  fun _ σ _ _ e s' I c => tk e s' (XE.of_call I (fun _ _ _ h => h σ I.len) c)
end

/-! ### try with clauses, each with a name or without one -/
structure Cl where
  cls : Value
  slot : Option Nat
  ts : Addr → Value → Option Addr → TS
/-- behind a suite its name is forgotten -/
def offName (D : Ends) (i : Nat) : Ends := ⟨fun σ H => D.nx (σ.set i none) H, D.rt, fun σ H => D.bk (σ.set i none) H, fun σ H => D.ct (σ.set i none) H⟩
def Cl.wish (q : Cl) (a : Addr) (k : Value) (d : Option Addr) (D : Ends) (σ : L2.St) (H : Hp) : Prop := match q.slot with
  | none => q.ts a k d D σ H
  | some i => q.ts a k d (offName D i) (σ.set i (some (.ref a))) H
def wX (K : PySem.W.Frag) (Wo : WX) (D : Ends) : List Cl → WX
  | [] => Wo
  | q :: r => fun k d σ H => ∃ b, PySem.W.exmOne K k q.cls = some b ∧ (b = true → ∀ a, H a = none → q.wish a k d D σ H) ∧ (b = false → wX K Wo D r k d σ H)
inductive HdsX (X : Cx) : List ExceptHandler → List Cl → Prop
  | nil : HdsX X [] []
  | un {x : Str} {c : Value} {ts : Addr → Value → Option Addr → TS} {s0 : Stmt} {su : List Stmt} {p1 p2 : Pos} {hs : List ExceptHandler} {l : List Cl} (nm : Names X x c)
      (ok : ∀ (a : Addr) (oe : Obj) (k : Value) (d : Option Addr) (pn : List (Addr × Obj)), Zc k d oe → (∃ vs, oe.data = .fields vs) → PSs (X.suite a ((a, oe) :: pn)) (s0 :: su) (ts a k d)) (r : HdsX X hs l) :
      HdsX X (.ExceptHandler (some (.Name x p1)) none (s0 :: su) p2 :: hs) (⟨c, none, ts⟩ :: l)
  | as {x n : Str} {i : Nat} {c : Value} {ts : Addr → Value → Option Addr → TS} {s0 : Stmt} {su : List Stmt} {p1 p2 : Pos} {hs : List ExceptHandler} {l : List Cl} (hi : X.N[i]? = some n) (hl : X.env.kindOf n = some .local) (nm : Names X x c)
      (ok : ∀ (a : Addr) (oe : Obj) (k : Value) (d : Option Addr) (pn : List (Addr × Obj)), Zc k d oe → (∃ vs, oe.data = .fields vs) → PSs (X.suite a ((a, oe) :: pn)) (s0 :: su) (ts a k d)) (r : HdsX X hs l) :
      HdsX X (.ExceptHandler (some (.Name x p1)) (some n) (s0 :: su) p2 :: hs) (⟨c, some i, ts⟩ :: l)
section
variable {X : Cx} {tb : WX → TS} {Wo : WX}
/-- a flight that was landed at the try: what every clause needs of it -/
structure Land (X : Cx) (pins : List (Addr × Obj)) (σ : L2.St) (H : Hp) (a : Addr) (B : Heap) (sI : Shared) (k : Value) (d : Option Addr) (s : Shared) (h : Heap) : Prop where
  ok : X.Ok
  inv : Inv X pins σ H sI
  nb : ∀ b o, sI.heap.get? b = some o → b ∉ frs X.stack → B.get? b = some o
  up : sI.heap.UpToSlots h
  fly : HandSPX.FlyingZ B (X.env :: X.outer) a (Zc k d) h
  na : H a = none
  nL : a ≠ X.env.locals
  nF : a ∉ X.fs
  os : s.os = sI.os
  ag : AllBare s.gens
theorem clauses (hst : X.stack = X.env :: X.outer) (hfr : X.env.frame = some X.env.locals) (hN : X.N.Nodup) (tk : Takes X Wo) {pins : List (Addr × Obj)} {σ : L2.St} {H : Hp} {a : Addr} {B : Heap} {sI : Shared} {k : Value} {d : Option Addr} {s : Shared} {h : Heap} {D : Ends}
    (L : Land X pins σ H a B sI k d s h) : ∀ {hds : List ExceptHandler} {l : List Cl}, HdsX X hds l → wX X.K Wo D l k d σ H → wpAny (model X.prog X.w) X.A (handleBy (.ref a) X.env hds) (SP X pins D) X.xe { s with heap := h } := by
  have Jh : Inv X pins σ H { s with heap := h } := L.inv.landed L.nb L.fly.1 L.up L.os L.ag
  -- a clause's test
  have tst : ∀ {x : Str} {c : Value} {p1 : Pos} {b : Bool} {Q : Bool → Shared → Prop} {E E2 : Value → Shared → Prop}, Names X x c → PySem.W.exmOne X.K k c = some b → Q b { s with heap := h } →
      wpAny (model X.prog X.w) (X.A.mark (some (.ref a))) (eval (.Name x p1) X.env) (fun v s1 => wpAny (model X.prog X.w) (X.A.mark (some (.ref a))) (excMatches (.ref a) v) Q E s1) E2 { s with heap := h } := by
    intro x c p1 b Q E E2 nm e q
    obtain ⟨oe, fv, g1, g2, g3⟩ := L.fly.there
    have S := Jh.suite g1 g3 L.na L.nL L.nF
    have look : PySem.W.Looks (model X.prog X.w) h (typeOf (.ref a)) k := fun A' Q' E' s2 k2 q2 => wpAny_typeOf_ref (k2 _ _ g1) (by rw [g2.1]; exact q2)
    have m := PySem.W.exm_one (M := model X.prog X.w) Jh.kIn look e
    obtain ⟨n1, n2, n3 | ⟨n3, n4, n5⟩⟩ := nm
    · exact ld_glob (X := X.suite a ((a, oe) :: (X.pn ++ pins))) S n1 n3 (m.here q) n2
    · exact ld_blt (X := X.suite a ((a, oe) :: (X.pn ++ pins))) S n1 n3 n4 (m.here q) n5 n2
  intro hds l hk
  induction hk with
  | nil =>
    intro w
    refine wpAny_handleBy_nil ?_
    obtain ⟨_, _, _, oe, fv, t0, _, _, g1, g2, g3, g4, _⟩ := id L.fly
    have out : wpAny (model X.prog X.w) X.A (setFlight (.ref a) X.env.frame) (fun _ s4 => wpAny (model X.prog X.w) X.A (throw (.ref a) : Sem Flow) (SP X pins D) X.xe s4) X.xe { s with heap := h } := by
      rw [hfr]
      exact HandSPX.setFlight_upZ L.fly fun h4 hh4 up4 => wpAny_throw (tk _ _ ⟨a, B, sI, pins, σ, H, k, d, rfl, L.inv, L.nb, L.up.trans up4, .inr (.inr (by rw [hst]; exact hh4)), L.na, L.os, L.ag, w⟩)
    have neN : ¬ ((Value.ref t0 == Value.none) = true) := by simp
    unfold PySem.passOn
    refine wpAny_bind (wpAny_field g1 g3 g4 ?_)
    rw [if_neg neN]
    first
      | exact wpAny_bind (wpAny_pure (wpAny_bind out))
      | exact wpAny_bind out
  | un nm ok r ih =>
    intro w
    obtain ⟨b, e, yes, no⟩ := w
    refine wpAny_handleBy_cons (codeAny_handlers_test (tst nm e ?_)) (by intro q; cases q)
    cases b with
    | false => exact ih (no rfl)
    | true =>
      refine codeAny_handlers_suite (HandSPX.lands_againZ L.fly fun h4 fl4 up4 => ?_)
      obtain ⟨oe, fv, g1, g2, g3⟩ := fl4.there
      have J4 : Inv X pins σ H { s with heap := h4 } := L.inv.landed L.nb fl4.1 (L.up.trans up4) L.os L.ag
      have S := J4.suite g1 g3 L.na L.nL L.nF
      refine wpAny_mono ((ok a oe k d (X.pn ++ pins) g2 ⟨_, g3⟩).run [] _ _ H _ S (yes rfl a L.na)) (fun f s6 z => ?_) (fun _ _ z => z.elim)
      match f, z with
      | .next, ⟨_, _, z, q⟩ => exact ⟨_, _, z.unsuite L.ok, q⟩
      | .brk, ⟨_, _, z, q⟩ => exact ⟨_, _, z.unsuite L.ok, q⟩
      | .cont, ⟨_, _, z, q⟩ => exact ⟨_, _, z.unsuite L.ok, q⟩
      | .ret _, ⟨_, _, _, z, rv, q⟩ => exact ⟨_, _, _, z.unsuite L.ok, rv, q⟩
  | @as x n i c ts s0 su p1 p2 hs l hi hl nm ok r ih =>
    intro w
    obtain ⟨b, e, yes, no⟩ := w
    refine wpAny_handleBy_cons (codeAny_handlers_test (tst nm e ?_)) (by intro q; cases q)
    cases b with
    | false => exact ih (no rfl)
    | true =>
      refine codeAny_handlers_suite_as (HandSPX.lands_againZ L.fly fun h4 fl4 up4 => ?_)
      obtain ⟨oe, fv, g1, g2, g3⟩ := fl4.there
      have J4 : Inv X pins σ H { s with heap := h4 } := L.inv.landed L.nb fl4.1 (L.up.trans up4) L.os L.ag
      have S := J4.suite g1 g3 L.na L.nL L.nF
      refine store_ok (X := X.suite a ((a, oe) :: (X.pn ++ pins))) (v := .ref a) S hN hi (.inl hl) rfl (fun s5 S5 => ?_) (.inr hl)
      refine wpAny_mono ((ok a oe k d (X.pn ++ pins) g2 ⟨_, g3⟩).run [] s5 _ H _ S5 (yes rfl a L.na)) (fun f s6 z => ?_) (fun _ _ z => z.elim)
      have off : ∀ {σ6 : L2.St} {H6 : Hp} {Q : Shared → Prop}, Inv (X.suite a ((a, oe) :: (X.pn ++ pins))) [] σ6 H6 s6 → (∀ s7, Inv X pins (σ6.set i none) H6 s7 → Q s7) →
          wpAny (model X.prog X.w) X.A (do bindName X.env n .none; unbindBehindTheSuite X.env n p2) (fun _ s7 => Q s7) X.xe s6 := fun z hq => gone_ok (z.unsuite L.ok) hN hi hl hq
      match f, z with
      | .next, ⟨_, _, z, q⟩ => exact off z fun s7 J => ⟨_, _, J, q⟩
      | .brk, ⟨_, _, z, q⟩ => exact off z fun s7 J => ⟨_, _, J, q⟩
      | .cont, ⟨_, _, z, q⟩ => exact off z fun s7 J => ⟨_, _, J, q⟩
      | .ret _, ⟨_, _, _, z, rv, q⟩ => exact off z fun s7 J => ⟨_, _, _, J, rv, q⟩
theorem ps_try_x {body : List Stmt} {h0 : ExceptHandler} {hds : List ExceptHandler} {l : List Cl} {pos : Pos} (hst : X.stack = X.env :: X.outer) (hfr : X.env.frame = some X.env.locals) (hN : X.N.Nodup) (tk : Takes X Wo)
    (hb : ∀ (W : WX) (pn : List (Addr × Obj)) (xe : Value → Shared → Prop), Takes (X.tr pn xe) W → PassesOwn (model X.prog X.w) X.A X.env xe → PSs (X.tr pn xe) body (tb W)) (hh : HdsX X (h0 :: hds) l) :
    PS X (.Try body (h0 :: hds) [] [] pos) (fun D σ H => tb (wX X.K Wo D l) D σ H) := by
  refine ⟨fun pins s σ H D I w => wpAny_Try_except ?_⟩
  have ok := I.ok
  refine wpAny_mono ((hb (wX X.K Wo D l) (X.pn ++ pins) (fun e s1 => wpAny (model X.prog X.w) X.A (noteFrame e X.env) (fun _ s2 => wpAny (model X.prog X.w) X.A (setFlight e none) (fun _ s3 =>
    wpAny (model X.prog X.w) X.A (handleBy e X.env (h0 :: hds)) (SP X pins D) X.xe s3) X.xe s2) X.xe s1) (fun u s' q => ?_) PassesOwn.looking).run [] s σ H D (I.toTry _) w) (fun f s1 z => ?_) (fun _ _ z => z)
  · obtain ⟨a, B, sI, pi, σ', H', k, d, rfl, J', nb, up, sky, na, os, ag, w'⟩ := q
    have J := J'.ofTry (X := X) ok
    rw [show (X.tr (X.pn ++ pins) _).stack = X.stack from rfl, hst] at sky
    show wpAny (model X.prog X.w) X.A (noteFrame (.ref a) X.env) _ _ _
    refine Sky.land Zc.steady (by rw [ok.frames, hst]) hfr sky fun h3 fl3 up3 => ?_
    obtain ⟨oe, fv, g1, g2, g3⟩ := fl3.there
    have far : a ∉ frs (X.env :: X.outer) := fun hm => by
      obtain ⟨_, o', e', nf⟩ := fl3.2.2.1.mem hm
      exact nf _ ((Option.some.inj (g1.symm.trans e')) ▸ g3)
    refine clauses hst hfr hN tk ⟨ok, J, nb, up.trans up3, fl3, na, fun z => far ?_, fun hm => far ?_, os, ag⟩ hh w'
    · exact List.mem_filterMap.mpr ⟨X.env, List.mem_cons_self, by rw [hfr, z]⟩
    · obtain ⟨e2, he2, q2⟩ := List.mem_filterMap.mp hm
      exact List.mem_filterMap.mpr ⟨e2, List.mem_cons_of_mem _ he2, q2⟩
  · match f, z with
    | .next, ⟨_, _, z, q⟩ => exact wpAny_execs_nil ⟨_, _, z.ofTry ok, q⟩
    | .brk, ⟨_, _, z, q⟩ => exact ⟨_, _, z.ofTry ok, q⟩
    | .cont, ⟨_, _, z, q⟩ => exact ⟨_, _, z.ofTry ok, q⟩
    | .ret _, ⟨_, _, _, z, rv, q⟩ => exact ⟨_, _, _, z.ofTry ok, rv, q⟩
end

/-! ### what stands where a value points -/
theorem AnyV.at {T : Addr → Prop} {H H1 : Hp} {c : Addr} {o : HO} (a : AnyV T H (.ref c)) (S : Same H H1) (e : H1 c = some o) : H c = some o := by
  cases a with
  | lst e2 => rw [S _ _ e2] at e; rw [← e]; exact e2
  | tup e2 => rw [S _ _ e2] at e; rw [← e]; exact e2
  | dct e2 => rw [S _ _ e2] at e; rw [← e]; exact e2
  | ins t e2 => rw [S _ _ e2] at e; rw [← e]; exact e2
/-- the things of the tuple x -/
def tupOf (H : Hp) (x : V) : Option (List V) := match x with
  | .ref c => match H c with
    | some (.tup ys) => some ys
    | _ => none
  | _ => none
theorem tupOf_ref {H : Hp} {c : Addr} {ys : List V} (h : H c = some (.tup ys)) : tupOf H (.ref c) = some ys := by
  show (match H c with | some (.tup ys) => some ys | _ => none) = _
  rw [h]
theorem tupOf_some {H : Hp} {x : V} {ys : List V} (h : tupOf H x = some ys) : ∃ c, x = .ref c ∧ H c = some (.tup ys) := by
  cases x with
  | ref c =>
    refine ⟨c, rfl, ?_⟩
    have h2 : (match H c with | some (.tup ys) => some ys | _ => none) = some ys := h
    split at h2
    · rename_i zs e
      cases h2
      exact e
    · cases h2
  | _ => cases h
theorem tupOf_same {T : Addr → Prop} {H H2 : Hp} {x : V} (a : AnyV T H x) (S : Same H H2) : tupOf H2 x = tupOf H x := by
  cases e : tupOf H x with
  | some ys =>
    obtain ⟨c, rfl, h⟩ := tupOf_some e
    exact tupOf_ref (S _ _ h)
  | none =>
    cases e2 : tupOf H2 x with
    | none => rfl
    | some ys =>
      obtain ⟨c, rfl, h⟩ := tupOf_some e2
      rw [tupOf_ref (a.at S h)] at e
      cases e
/-- its things are any values -/
def ItemsAny (T : Addr → Prop) (H : Hp) (x : V) : Prop := ∀ ys, tupOf H x = some ys → ∀ y ∈ ys, AnyV T H y
theorem ItemsAny.same {T : Addr → Prop} {H H2 : Hp} {x : V} (h : ItemsAny T H x) (a : AnyV T H x) (S : Same H H2) : ItemsAny T H2 x := fun ys e y hy => by
  rw [tupOf_same a S] at e
  exact (h ys e y hy).mono S
theorem ItemsAny.ints {T : Addr → Prop} {H : Hp} {c : Addr} {ns : List Int} (h : H c = some (.tup (ns.map V.int))) : ItemsAny T H (.ref c) := fun ys e y hy => by
  rw [tupOf_ref h] at e
  cases e
  obtain ⟨z, _, rfl⟩ := List.mem_map.mp hy
  exact .int z
theorem ItemsAny.non {T : Addr → Prop} {H : Hp} {x : V} (h : tupOf H x = none) : ItemsAny T H x := fun ys e => by
  rw [h] at e
  cases e
/-- the place of the first thing that is no integer from a to b -/
def firstW (a b : Int) : List V → Option Nat
  | [] => none
  | y :: ys => if intIn y a b = true then (firstW a b ys).map (· + 1) else some 0
theorem firstW_none {a b : Int} : ∀ {ys : List V}, (∀ y ∈ ys, intIn y a b = true) → firstW a b ys = none
  | [], _ => rfl
  | y :: ys, h => by
    unfold firstW
    rw [if_pos (h y List.mem_cons_self), firstW_none fun z hz => h z (List.mem_cons_of_mem _ hz)]
    rfl
theorem firstW_all {a b : Int} : ∀ {ys : List V}, firstW a b ys = none → ∀ y ∈ ys, intIn y a b = true
  | [], _, _, hy => by cases hy
  | z :: ys, h, y, hy => by
    unfold firstW at h
    by_cases e : intIn z a b = true
    · rw [if_pos e] at h
      rcases List.mem_cons.mp hy with rfl | hy
      · exact e
      · exact firstW_all (Option.map_eq_none_iff.mp h) y hy
    · rw [if_neg e] at h
      cases h
theorem firstW_at {a b : Int} : ∀ {ys : List V} {i : Nat} {y : V}, (∀ (j : Nat) (z : V), j < i → ys[j]? = some z → intIn z a b = true) → ys[i]? = some y → intIn y a b = false → firstW a b ys = some i
  | [], i, y, _, h, _ => by cases h
  | z :: ys, 0, y, _, h, e => by
    cases h
    unfold firstW
    rw [if_neg (by rw [e]; exact Bool.false_ne_true)]
  | z :: ys, i + 1, y, h0, h, e => by
    unfold firstW
    rw [if_pos (h0 0 z (Nat.succ_pos _) rfl), firstW_at (i := i) (y := y) (fun j x hj hx => h0 (j + 1) x (Nat.succ_lt_succ hj) hx) h e]
    rfl
theorem firstW_lt {a b : Int} : ∀ {ys : List V} {i : Nat}, firstW a b ys = some i → i < ys.length
  | [], _, h => by cases h
  | y :: ys, i, h => by
    unfold firstW at h
    by_cases e : intIn y a b = true
    · rw [if_pos e] at h
      obtain ⟨j, hj, rfl⟩ := Option.map_eq_some_iff.mp h
      exact Nat.succ_lt_succ (firstW_lt hj)
    · rw [if_neg e] at h
      cases h
      exact Nat.succ_pos _
theorem firstW_some {a b : Int} : ∀ {ys : List V} {i : Nat}, firstW a b ys = some i → (∀ (j : Nat) (z : V), j < i → ys[j]? = some z → intIn z a b = true) ∧ ∃ y, ys[i]? = some y ∧ intIn y a b = false
  | [], _, h => by cases h
  | y :: ys, i, h => by
    unfold firstW at h
    by_cases e : intIn y a b = true
    · rw [if_pos e] at h
      obtain ⟨j, hj, rfl⟩ := Option.map_eq_some_iff.mp h
      obtain ⟨h1, z, h2, h3⟩ := firstW_some hj
      refine ⟨fun m v hm hv => ?_, z, h2, h3⟩
      cases m with
      | zero =>
        cases hv
        exact e
      | succ m => exact h1 m v (by omega) hv
    · rw [if_neg e] at h
      cases h
      exact ⟨fun m v hm => absurd hm (Nat.not_lt_zero _), y, rfl, by simpa using e⟩
/-- what is wrong of a tuple of lo to hi integers from a to b: nothing, None, or the first wrong place -/
def verdict (lo hi : Nat) (a b : Int) (o : Option (List V)) : Option V := match o with
  | none => some .non
  | some ys => if lo ≤ ys.length ∧ ys.length ≤ hi then (firstW a b ys).map fun i => .int (i : Nat) else some .non
theorem verdict_some (lo hi : Nat) (a b : Int) (ys : List V) : verdict lo hi a b (some ys) = if lo ≤ ys.length ∧ ys.length ≤ hi then (firstW a b ys).map fun i => .int (i : Nat) else some .non := rfl
theorem verdict_good {lo hi : Nat} {a b : Int} {ys : List V} (l1 : lo ≤ ys.length) (l2 : ys.length ≤ hi) (h : ∀ y ∈ ys, intIn y a b = true) : verdict lo hi a b (some ys) = none := by
  rw [verdict_some, if_pos ⟨l1, l2⟩, firstW_none h]
  rfl
theorem verdict_none {lo hi : Nat} {a b : Int} {o : Option (List V)} (h : verdict lo hi a b o = none) : ∃ ys, o = some ys ∧ lo ≤ ys.length ∧ ys.length ≤ hi ∧ ∀ y ∈ ys, intIn y a b = true := by
  cases o with
  | none => cases h
  | some ys =>
    rw [verdict_some] at h
    by_cases l : lo ≤ ys.length ∧ ys.length ≤ hi
    · rw [if_pos l] at h
      exact ⟨ys, rfl, l.1, l.2, firstW_all (Option.map_eq_none_iff.mp h)⟩
    · rw [if_neg l] at h
      cases h

/-! ### for over a list or a tuple -/
end
end Rt
namespace L2
open PySem PySem.Spec PyProof.Rows
def iSeqA (K : PySem.W.Frag) (tl : TE) : TI := fun σ H R => iList K tl σ H R ∨ iTup K tl σ H R
theorem pi_seqA {X : Cx} {tg l : PySem.Expr} {tl : TE} (hl : PE X l tl) : PI X tg l (iSeqA X.K tl) :=
  ⟨fun pins s σ H R I h => h.elim ((pi_list hl).run pins s σ H R I) ((pi_tup hl).run pins s σ H R I)⟩
def iEnumA (K : PySem.W.Frag) (ta : TA) : TI := fun σ H R => iEnum K ta σ H R ∨ iEnumT K ta σ H R
theorem pi_enumA {X : Cx} {e : PySem.Expr} {ta : TA} {p pos tpos : Pos} {elts : List PySem.Expr} {kk : Nat} (hg : Gl X "enumerate") (hm : X.mg "enumerate" = none) (ha : PA X [e] ta) (hs : starEach [e] X.env = [(false, eval e X.env)] := by rfl) :
    PI X (.Tuple elts kk tpos) (.Call (.Name "enumerate" p) [e] [] pos) (iEnumA X.K ta) :=
  ⟨fun pins s σ H R I h => h.elim ((pi_enum hg hm ha hs).run pins s σ H R I) ((pi_enumT hg hm ha hs).run pins s σ H R I)⟩
/-- a list or a tuple stands at c -/
def SqA (H : Hp) (c : Addr) (ys : List V) : Prop := H c = some (.lst ys) ∨ H c = some (.tup ys)
theorem SqA.same {H H2 : Hp} {c : Addr} {ys : List V} (h : SqA H c ys) (S : Same H H2) : SqA H2 c ys := h.imp (S _ _) (S _ _)
theorem SqA.len {K : PySem.W.Frag} {H : Hp} {c : Addr} {ys : List V} (h : SqA H c ys) : SqL K H c ys ∨ SqT K H c ys := h.imp SqL.of SqT.of
theorem seqA_of {K : PySem.W.Frag} {i : Nat} {σ : L2.St} {H : Hp} {R : It → Hp → Prop} {c : Addr} {ys : List V} (hv : σ[i]? = some (some (.ref c))) (hc : SqA H c ys)
    (k : ∀ (J : It) (G : Hp → Prop), Walk J ys.length G (YAt ys) → (∀ H2, Same H H2 → G H2) → R J H) : iSeqA K (tVar i) σ H R := by
  rcases hc with hc | hc
  · exact .inl ⟨_, hv, c, rfl, ⟨_, SqL.of hc⟩, k _ _ walk_list fun H2 S => SqL.of (S _ _ hc)⟩
  · exact .inr ⟨_, hv, c, rfl, ⟨_, SqT.of hc⟩, k _ _ walk_tup fun H2 S => SqT.of (S _ _ hc)⟩
theorem enumA_of {K : PySem.W.Frag} {i : Nat} {σ : L2.St} {H : Hp} {R : It → Hp → Prop} {c : Addr} {ys : List V} (hv : σ[i]? = some (some (.ref c))) (hc : SqA H c ys)
    (k : ∀ (J : It) (G : Hp → Prop), Walk J ys.length G (YPair (fun i => some (.int (i : Nat))) (fun i => ys[i]?)) → (∀ H2, Same H H2 → G H2) → R J H) : iEnumA K (tCons (tVar i) tNil) σ H R := by
  rcases hc with hc | hc
  · exact .inl ⟨_, hv, c, ys, rfl, SqL.of hc, k _ _ walk_enum fun H2 S => SqL.of (S _ _ hc)⟩
  · exact .inr ⟨_, hv, c, ys, rfl, SqT.of hc, k _ _ walk_enumT fun H2 S => SqT.of (S _ _ hc)⟩
end L2
namespace Rt
open PySem L2 PySem.Spec PyProof.Rows
section
variable {P : Program} {w : World} {K : PySem.W.Frag} {mg : Str → Option Value} {base : Heap}

/-! ### tuples of so many things; the first wrong one -/
def isTup (lo hi : Int) (o : Option (List V)) : Bool := match o with
  | none => false
  | some ys => decide (lo ≤ (ys.length : Int)) && decide ((ys.length : Int) ≤ hi)
theorem isi_tup (T : Tx P K mg) {H : Hp} {x : V} (a : AnyV (OwnT T) H x) : ∃ t, TyX K H x t ∧ ∃ b, PySem.W.kitOne K t (.type "tuple") = some b ∧ (b = false → tupOf H x = none) ∧ (b = true → ∃ c ys, x = .ref c ∧ H c = some (.tup ys)) := by
  have no : ∀ {c : Addr} {o : HO}, H c = some o → (∀ ys, o ≠ .tup ys) → tupOf H (.ref c) = none := fun {c o} e h => by
    cases q : tupOf H (.ref c) with
    | none => rfl
    | some ys =>
      obtain ⟨c', e1, e2⟩ := tupOf_some q
      cases e1
      rw [e] at e2
      exact absurd (Option.some.inj e2) (h ys)
  cases a with
  | non => exact ⟨_, .base .non, false, kit_ty (by decide +kernel), fun _ => rfl, fun z => nomatch z⟩
  | bl b => exact ⟨_, .base (.bl b), false, kit_ty (by decide +kernel), fun _ => rfl, fun z => nomatch z⟩
  | int i => exact ⟨.type "int", .base (.int i), false, kit_ty (by decide +kernel), fun _ => rfl, fun z => nomatch z⟩
  | str x => exact ⟨_, .base (.str x), false, kit_ty (by decide +kernel), fun _ => rfl, fun z => nomatch z⟩
  | lst e => exact ⟨_, .base (.lst e), false, kit_ty (by decide +kernel), fun _ => no e (fun _ z => nomatch z), fun z => nomatch z⟩
  | tup e => exact ⟨_, .base (.tup e), true, kit_ty (by decide +kernel), fun z => (nomatch z), fun _ => ⟨_, _, rfl, e⟩⟩
  | dct e => exact ⟨_, .base (.dK e), false, kit_ty (by decide +kernel), fun _ => no e (fun _ z => nomatch z), fun z => nomatch z⟩
  | ins t e => exact ⟨_, .base (t.ty e), false, t.ntuple, fun _ => no e (fun _ z => nomatch z), fun z => nomatch z⟩

/-! ### lists and tuples -/
def seqOf (H : Hp) (x : V) : Option (List V) := match x with
  | .ref c => match H c with
    | some (.tup ys) => some ys
    | some (.lst ys) => some ys
    | _ => none
  | _ => none
theorem seqOf_at {H : Hp} {c : Addr} {ys : List V} (h : SqA H c ys) : seqOf H (.ref c) = some ys := by
  show (match H c with | some (.tup ys) => some ys | some (.lst ys) => some ys | _ => none) = _
  rcases h with h | h <;> rw [h]
theorem seqOf_some {H : Hp} {x : V} {ys : List V} (h : seqOf H x = some ys) : ∃ c, x = .ref c ∧ SqA H c ys := by
  cases x with
  | ref c =>
    refine ⟨c, rfl, ?_⟩
    have h2 : (match H c with | some (.tup ys) => some ys | some (.lst ys) => some ys | _ => none) = some ys := h
    split at h2
    · rename_i zs e
      cases h2
      exact .inr e
    · rename_i zs e
      cases h2
      exact .inl e
    · cases h2
  | _ => cases h
theorem seqOf_same {T : Addr → Prop} {H H2 : Hp} {x : V} (a : AnyV T H x) (S : Same H H2) : seqOf H2 x = seqOf H x := by
  cases e : seqOf H x with
  | some ys =>
    obtain ⟨c, rfl, h⟩ := seqOf_some e
    exact seqOf_at (h.same S)
  | none =>
    cases e2 : seqOf H2 x with
    | none => rfl
    | some ys =>
      obtain ⟨c, rfl, h⟩ := seqOf_some e2
      rw [seqOf_at (show SqA H c ys from h.imp (a.at S) (a.at S))] at e
      cases e
theorem isi_seq (T : Tx P K mg) {H : Hp} {x : V} (a : AnyV (OwnT T) H x) : ∃ t, TyX K H x t ∧ ∃ b, PySem.W.kitAny K t [.type "list", .type "tuple"] = some b ∧ (b = false → seqOf H x = none) ∧ (b = true → ∃ c ys, x = .ref c ∧ SqA H c ys) := by
  have no : ∀ {t : Value}, PySem.W.kitOne K t (.type "list") = some false → PySem.W.kitOne K t (.type "tuple") = some false → PySem.W.kitAny K t [.type "list", .type "tuple"] = some false := fun h1 h2 => kitAny_cons h1 (fun _ => kitAny_cons h2 (fun _ => rfl) (fun z => nomatch z)) (fun z => nomatch z)
  have un : ∀ {c : Addr} {o : HO}, H c = some o → (∀ ys, o ≠ .tup ys) → (∀ ys, o ≠ .lst ys) → seqOf H (.ref c) = none := fun {c o} e h1 h2 => by
    cases q : seqOf H (.ref c) with
    | none => rfl
    | some ys =>
      obtain ⟨c', e1, e2⟩ := seqOf_some q
      cases e1
      rcases e2 with e2 | e2
      · rw [e] at e2
        exact absurd (Option.some.inj e2) (h2 ys)
      · rw [e] at e2
        exact absurd (Option.some.inj e2) (h1 ys)
  cases a with
  | non => exact ⟨_, .base .non, false, no (kit_ty (by decide +kernel)) (kit_ty (by decide +kernel)), fun _ => rfl, fun z => nomatch z⟩
  | bl b => exact ⟨_, .base (.bl b), false, no (kit_ty (by decide +kernel)) (kit_ty (by decide +kernel)), fun _ => rfl, fun z => nomatch z⟩
  | int i => exact ⟨.type "int", .base (.int i), false, no (kit_ty (by decide +kernel)) (kit_ty (by decide +kernel)), fun _ => rfl, fun z => nomatch z⟩
  | str x => exact ⟨_, .base (.str x), false, no (kit_ty (by decide +kernel)) (kit_ty (by decide +kernel)), fun _ => rfl, fun z => nomatch z⟩
  | lst e => exact ⟨_, .base (.lst e), true, kitAny_cons (b := true) (kit_ty (by decide +kernel)) (fun z => nomatch z) (fun _ => rfl), fun z => (nomatch z), fun _ => ⟨_, _, rfl, .inl e⟩⟩
  | tup e => exact ⟨_, .base (.tup e), true, kitAny_cons (b := false) (kit_ty (by decide +kernel)) (fun _ => kitAny_cons (b := true) (kit_ty (by decide +kernel)) (fun z => nomatch z) (fun _ => rfl)) (fun z => nomatch z), fun z => (nomatch z), fun _ => ⟨_, _, rfl, .inr e⟩⟩
  | dct e => exact ⟨_, .base (.dK e), false, no (kit_ty (by decide +kernel)) (kit_ty (by decide +kernel)), fun _ => un e (fun _ z => nomatch z) (fun _ z => nomatch z), fun z => nomatch z⟩
  | ins t e => exact ⟨_, .base (t.ty e), false, no t.nlist t.ntuple, fun _ => un e (fun _ z => nomatch z) (fun _ z => nomatch z), fun z => nomatch z⟩
def spIsSeq (T : Tx P K mg) : Sp := fun vs H Q _ => ∃ (x : V) (lo hi : Int), vs = [x, .int lo, .int hi] ∧ AnyV (OwnT T) H x ∧ ∀ H2, Same H H2 → Q (.bl (isTup lo hi (seqOf H x))) H2
theorem ok_is_list_or_tuple (T : Tx P K mg) : FnOk P w K mg base CX0 lv_is_list_or_tuple T.a_is_list_or_tuple T.d_is_list_or_tuple ["told", "fewest", "most"] (spIsSeq T) := by
  refine T.F_is_list_or_tuple.ok sc_is_list_or_tuple (fun vs H Q E h => ?_) (fun cdv A outer s H vs Q E hr h => ?_)
  · obtain ⟨x, lo, hi, rfl, _⟩ := h
    rfl
  · obtain ⟨x, lo, hi, rfl, a, k⟩ := h
    refine ⟨_, (pss_one (ps_ret (pe_and (pe_callB call_isiT (by rfl) T.n_isinstance (by decide +kernel) (pa_cons (pv 0) (pa_cons (pe_tup (pa_cons (pe_bltn (v := .ty "list") rfl T.n_list (by decide +kernel) rfl) (pa_cons (pe_bltn (v := .ty "tuple") rfl T.n_tuple (by decide +kernel) rfl) pa_nil))) pa_nil))) (pe_one (pe_chain op_le op_le (pv 1) (pe_callB call_len_seq (by rfl) T.n_len (by decide +kernel) (pa_cons (pv 0) pa_nil)) (pv 2)))))), ?_⟩
    refine ⟨_, rfl, by show 2 ≤ sizeLine; decide, fun tp htp => ?_⟩
    have S := same_upd (o := .tup [.ty "list", .ty "tuple"]) htp
    have k := k _ S
    rw [← seqOf_same a S] at k
    have a2 := a.mono S
    obtain ⟨t, ty, q, e1, h1, h2⟩ := isi_seq T a2
    refine ⟨x, tp, _, t, _, q, rfl, upd_same, .cons (.ty _) (.cons (.ty _) .nil), ty, e1, q, rfl, ?_⟩
    cases q with
    | false =>
      rw [h1 rfl] at k
      exact iteF k
    | true =>
      obtain ⟨c, ys, rfl, e⟩ := h2 rfl
      rw [seqOf_at e] at k
      have k : Q (V.bl (decide (lo ≤ (ys.length : Int)) && decide ((ys.length : Int) ≤ hi))) _ := k
      refine iteT ⟨_, rfl, _, rfl, c, ys, rfl, e.len, _, _, rfl, rfl, _, rfl, ?_⟩
      refine ite2 (fun g1 => ?_) (fun g1 => ?_)
      · rw [g1] at k
        exact ⟨_, rfl, _, _, rfl, rfl, k⟩
      · rw [show decide (lo ≤ (ys.length : Int)) = false from by simpa using g1] at k
        exact k

/-! ### pairs -/
def pairOk (H : Hp) (x : V) : Bool := match tupOf H x with
  | some [y, z] => intIn y (-(10 ^ 40)) (10 ^ 40) && intIn z (-(10 ^ 40)) (10 ^ 40)
  | _ => false
theorem pairOk_at {H : Hp} {x y z : V} (h : tupOf H x = some [y, z]) : pairOk H x = (intIn y (-(10 ^ 40)) (10 ^ 40) && intIn z (-(10 ^ 40)) (10 ^ 40)) := by
  unfold pairOk
  rw [h]
theorem pairOk_no {H : Hp} {x : V} (h : ∀ y z, tupOf H x ≠ some [y, z]) : pairOk H x = false := by
  unfold pairOk
  split
  · rename_i y z e
    exact absurd e (h y z)
  · rfl
theorem pairOk_same {T : Addr → Prop} {H H2 : Hp} {x : V} (a : AnyV T H x) (S : Same H H2) : pairOk H2 x = pairOk H x := by
  unfold pairOk
  rw [tupOf_same a S]
def spIsPair (T : Tx P K mg) : Sp := fun vs H Q _ => ∃ x : V, vs = [x] ∧ AnyV (OwnT T) H x ∧ ItemsAny (OwnT T) H x ∧ Q (.bl (pairOk H x)) H
theorem ok_is_pair (T : Tx P K mg) : FnOk P w K mg base CX0 lv_is_pair T.a_is_pair T.d_is_pair ["told"] (spIsPair T) := by
  refine T.F_is_pair.ok sc_is_pair (fun vs H Q E h => ?_) (fun cdv A outer s H vs Q E hr h => ?_)
  · obtain ⟨x, rfl, _⟩ := h
    rfl
  · obtain ⟨x, rfl, a, ia, k⟩ := h
    refine ⟨_, (pss_one (ps_ret (pe_and (pe_callB call_isi (by rfl) T.n_isinstance (by decide +kernel) (pa_cons (pv 0) (pa_cons (pe_bltn (v := .ty "tuple") rfl T.n_tuple (by decide +kernel) rfl) pa_nil))) (pe_and (pe_cmpR op_eq (pe_callB call_len_seq (by rfl) T.n_len (by decide +kernel) (pa_cons (pv 0) pa_nil)) pe_int (nomark _)) (pe_and (pe_call (ok_is_number T) (hr.mono (by decide)) rfl T.g_is_number T.F_is_number.kp T.b_is_number .nil pass0 (pa_cons (pe_ix ix_tup (pv 0) pe_int (fun _ _ => rfl)) pa_nil)) (pe_one (pe_call (ok_is_number T) (hr.mono (by decide)) rfl T.g_is_number T.F_is_number.kp T.b_is_number .nil pass0 (pa_cons (pe_ix ix_tup (pv 0) pe_int (fun _ _ => rfl)) pa_nil)))))))), ?_⟩
    obtain ⟨t, ty, q, e1, h1, h2⟩ := isi_tup T a
    refine ⟨_, rfl, _, _, _, _, q, rfl, .ty _, ty, e1, q, rfl, ?_⟩
    cases q with
    | false =>
      rw [pairOk_no (fun y z => by rw [h1 rfl]; exact fun w => nomatch w)] at k
      exact iteF k
    | true =>
      obtain ⟨c, ys, rfl, e⟩ := h2 rfl
      refine iteT ⟨_, rfl, c, ys, rfl, .inr (SqT.of e), rfl, _, rfl, ?_⟩
      rw [dec_i]
      by_cases l : ys.length = 2
      · rw [decide_eq_true (show (ys.length : Int) = 2 by omega)]
        obtain ⟨y, z, rfl⟩ : ∃ y z, ys = [y, z] := match ys, l with
          | [y, z], _ => ⟨y, z, rfl⟩
        have ay := ia _ (tupOf_ref e) y (by simp)
        have az := ia _ (tupOf_ref e) z (by simp)
        rw [pairOk_at (tupOf_ref e)] at k
        refine iteT ⟨_, rfl, c, _, _, _, rfl, rfl, SqT.of e, at_of (j := 0) rfl rfl, y, rfl, ay, _, rfl, ?_⟩
        cases g : intIn y (-(10 ^ 40)) (10 ^ 40) with
        | false =>
          rw [g] at k
          exact iteF k
        | true =>
          rw [g] at k
          exact iteT ⟨_, rfl, c, _, _, _, rfl, rfl, SqT.of e, at_of (j := 1) rfl rfl, z, rfl, az, k⟩
      · rw [decide_eq_false (show ¬ (ys.length : Int) = 2 by omega)]
        rw [pairOk_no (fun y z => by rw [tupOf_ref e]; exact fun w => l (by cases w; rfl))] at k
        exact iteF k
/-- pairs, or the error -/
def spPairs (T : Tx P K mg) : Sp := fun vs H Q E => ∃ x : V, vs = [x] ∧ AnyV (OwnT T) H x ∧ (∀ ys, seqOf H x = some ys → ∀ y ∈ ys, AnyV (OwnT T) H y ∧ ItemsAny (OwnT T) H y) ∧
  (isTup 1 10 (seqOf H x) = false → ∀ H2 d, Same H H2 → H2 d = none → E (.ref T.C_BadPairs) (some d) (upd H2 d (.xd [(("index" : Str), .non)]))) ∧
  (∀ ys, isTup 1 10 (seqOf H x) = true → seqOf H x = some ys → ∀ (i : Nat) (y : V), ys[i]? = some y → pairOk H y = false → (∀ (j : Nat) (z : V), j < i → ys[j]? = some z → pairOk H z = true) → ∀ H2 d, Same H H2 → H2 d = none → E (.ref T.C_BadPairs) (some d) (upd H2 d (.xd [(("index" : Str), .int (i : Nat))]))) ∧
  (∀ ys, isTup 1 10 (seqOf H x) = true → seqOf H x = some ys → (∀ y ∈ ys, pairOk H y = true) → ∀ H2, Same H H2 → Q .non H2)
theorem ok_check_pairs (T : Tx P K mg) : FnOk P w K mg base (L2.CX P w) lv_check_pairs T.a_check_pairs T.d_check_pairs ["pairs"] (spPairs T) := by
  refine T.F_check_pairs.okX sc_check_pairs (fun vs H Q E h => ?_) (fun cdv A outer s H vs Q E hr h => ?_)
  · obtain ⟨x, rfl, _⟩ := h
    rfl
  · obtain ⟨x, rfl, a, ia, e1, e2, k⟩ := h
    refine ⟨_, (pss_cons (ps_if (pt_not (pt_val (pe_call (ok_is_list_or_tuple T) (hr.mono (by decide)) rfl T.g_is_list_or_tuple T.F_is_list_or_tuple.kp T.b_is_list_or_tuple .nil pass0 (pa_cons (pv 0) (pa_cons pe_int (pa_cons (pe_glob (v := .int 10) rfl T.c_MOST_PAIRS ⟨_, rfl⟩) pa_nil)))))) (pss_one (ps_raiseF T.x_BadPairs ar_BadPairs rfl hr (takes_of rfl rfl rfl rfl) (pa_cons pe_non pa_nil))) pss_nil)
      (pss_one (ps_for (passes_of rfl) rfl (pi_enumA (by rfl) T.n_enumerate (pa_cons (pv 0) pa_nil)) (pg_tup rfl (pgs_cons (pg_name (i := 1) sc_check_pairs.nd rfl (Or.inl rfl)) (pgs_cons (pg_name (i := 2) sc_check_pairs.nd rfl (Or.inl rfl)) pgs_nil))) (pss_one (ps_if (pt_not (pt_val (pe_call (ok_is_pair T) (hr.mono (by decide)) rfl T.g_is_pair T.F_is_pair.kp T.b_is_pair .nil pass0 (pa_cons (pv 2) pa_nil)))) (pss_one (ps_raiseF T.x_BadPairs ar_BadPairs rfl hr (takes_of rfl rfl rfl rfl) (pa_cons (pv 1) pa_nil))) pss_nil))))), ?_⟩
    refine ⟨_, rfl, x, 1, 10, rfl, a, fun H1 S1 => ⟨_, rfl, ?_⟩⟩
    cases g : isTup 1 10 (seqOf H x) with
    | false => exact iteT ⟨_, rfl, .inl rfl, fun d hd => e1 g H1 d S1 hd⟩
    | true =>
      refine iteF ?_
      cases es : seqOf H x with
      | none => rw [es] at g; cases g
      | some ys =>
        obtain ⟨c, rfl, hc⟩ := seqOf_some es
        have ln : ys.length ≤ 10 := by
          rw [es] at g
          have g2 : (decide ((1 : Int) ≤ (ys.length : Int)) && decide ((ys.length : Int) ≤ 10)) = true := g
          rw [Bool.and_eq_true, decide_eq_true_eq, decide_eq_true_eq] at g2
          omega
        refine enumA_of rfl (hc.same S1) fun J G wk hG => ?_
        refine for_it wk (fun i σ H2 => ∃ v1 v2 : Option V, Same H1 H2 ∧ (∀ (j : Nat) (z : V), j < i → ys[j]? = some z → pairOk H z = true) ∧ σ = [some (.ref c), v1, v2]) ⟨none, none, Same.refl H1, fun j z lt _ => absurd lt (Nat.not_lt_zero _), rfl⟩ (fun i σ H2 _ ⟨_, _, S, _, _⟩ => hG H2 S) ?_ ?_
        · rintro i x' σ H2 H3 hi ⟨v1, v2, S, hf, rfl⟩ ⟨p, x2, y, rfl, np, rfl, e2', hy'⟩
          cases e2'
          have hy' : ys[i]? = some y := hy'
          refine ⟨p, _, rfl, SqT.of upd_same, rfl, _, _, rfl, _, _, rfl, rfl, ?_⟩
          have S3 := (S1.trans S).trans (same_upd (o := .tup [.int (i : Nat), y]) np)
          obtain ⟨ay, iy⟩ := ia ys es y (List.mem_of_getElem? hy')
          refine ⟨_, rfl, y, rfl, ay.mono S3, iy.same ay S3, _, rfl, ?_⟩
          rw [pairOk_same ay S3]
          cases gp : pairOk H y with
          | true =>
            refine iteF ⟨_, _, S.trans (same_upd np), fun j z lt hz => ?_, rfl⟩
            rcases Nat.lt_or_ge j i with q | q
            · exact hf j z q hz
            · rw [show j = i by omega, hy'] at hz
              cases hz
              exact gp
          | false =>
            have li : i < ys.length := (List.getElem?_eq_some_iff.mp hy').1
            have sm : ((i : Int)).natAbs.log2 < 1920 := Nat.lt_of_le_of_lt (Nat.log2_le_self _) (by omega)
            exact iteT ⟨_, rfl, _, rfl, .inr ⟨_, rfl, sm⟩, fun d hd => e2 ys g es i y hy' gp hf _ d S3 hd⟩
        · rintro σ H2 ⟨v1, v2, S, hf, rfl⟩
          exact k ys g es (fun y hy => by
            obtain ⟨j, hj⟩ := List.mem_iff_getElem?.mp hy
            exact hf j y (List.getElem?_eq_some_iff.mp hj).1 hj) H2 (S1.trans S)

/-! ### the block -/
def blockOf (b t : Int) : Int := if t = 1 then b else b * b
theorem block_bd {b t : Int} (h1 : 2 ≤ b) (h2 : b ≤ 16) : 2 ≤ blockOf b t ∧ blockOf b t ≤ 256 := by
  unfold blockOf
  split
  · omega
  · have q : b * b ≤ 16 * 16 := Int.mul_le_mul h2 h2 (by omega) (by omega)
    have r : 2 * 2 ≤ b * b := Int.mul_le_mul h1 h1 (by omega) (by omega)
    omega
theorem pow_block {b t : Int} (t1 : 1 ≤ t) (t2 : t ≤ 2) : b ^ t.toNat = blockOf b t := by
  unfold blockOf
  by_cases h : t = 1
  · rw [if_pos h, h]
    exact Int.pow_succ b 0 |>.trans (by rw [Int.pow_zero, Int.one_mul])
  · have h2 : t = 2 := by omega
    rw [if_neg h, h2]
    exact Int.pow_succ b 1 |>.trans (by rw [Int.pow_succ, Int.pow_zero, Int.one_mul])

/-! ### tricks -/
def spBlockOf : Sp := fun vs H Q _ => ∃ b t : Int, vs = [.int b, .int t] ∧ 2 ≤ b ∧ b ≤ 16 ∧ Q (.int (blockOf b t)) H
theorem ok_block_of (T : Tx P K mg) : FnOk P w K mg base CX0 lv_block_of T.a_block_of T.d_block_of ["base", "take"] spBlockOf := by
  refine T.F_block_of.ok sc_block_of (fun vs H Q E h => ?_) (fun cdv A outer s H vs Q E hr h => ?_)
  · obtain ⟨b, t, rfl, _⟩ := h
    rfl
  · obtain ⟨b, t, rfl, h1, h2, k⟩ := h
    refine ⟨_, (pss_one (ps_ret (pe_ifExp (pt_cmpR op_eq (pv 1) pe_int (nomark _)) (pv 0) (pe_op op_mul (pv 0) (pv 0))))), ?_⟩
    refine ⟨_, rfl, rfl, _, rfl, ?_⟩
    refine ite2 (fun c => ?_) (fun c => ?_)
    · have c1 : t = 1 := by simpa using c
      have k2 : Q (.int b) H := by
        have e : blockOf b t = b := by unfold blockOf; rw [if_pos c1]
        rw [e] at k
        exact k
      exact ⟨_, rfl, k2⟩
    · have c1 : ¬ t = 1 := by simpa using c
      have k2 : Q (.int (b * b)) H := by
        have e : blockOf b t = b * b := by unfold blockOf; rw [if_neg c1]
        rw [e] at k
        exact k
      exact ⟨_, rfl, _, rfl, _, _, rfl, rfl, .inl ⟨by omega, by omega⟩, k2⟩

/-- a trick's attributes -/
def tf (b t m : Int) : List (Str × V) := putF "_times" (.int m) (putF "_take" (.int t) (putF "_base" (.int b) []))
theorem n1 : ¬ (("_base" : Str) = "_take") := by decide +kernel
theorem n2 : ¬ (("_base" : Str) = "_times") := by decide +kernel
theorem n3 : ¬ (("_take" : Str) = "_times") := by decide +kernel
theorem tf_eq (b t m : Int) : tf b t m = ([("_base", V.int b), ("_take", V.int t), ("_times", V.int m)] : List (Str × V)) := by
  have e2 : putF "_take" (V.int t) (putF "_base" (V.int b) []) = ([("_base", V.int b), ("_take", V.int t)] : List (Str × V)) := by
    show (if ("_base" : Str) = "_take" then [(("_base" : Str), V.int t)] else (("_base" : Str), V.int b) :: putF "_take" (V.int t) []) = _
    rw [if_neg n1]
    all_goals rfl
  unfold tf
  rw [e2]
  show (if ("_base" : Str) = "_times" then _ else (("_base" : Str), V.int b) :: (if ("_take" : Str) = "_times" then _ else (("_take" : Str), V.int t) :: putF "_times" (V.int m) [])) = _
  rw [if_neg n2, if_neg n3]
  all_goals rfl
theorem tf_base (b t m : Int) : (tf b t m).lookup ("_base" : Str) = some (.int b) := by
  unfold tf
  rw [lookup_putF, if_neg n2, lookup_putF, if_neg n1, lookup_putF, if_pos rfl]
theorem tf_take (b t m : Int) : (tf b t m).lookup ("_take" : Str) = some (.int t) := by
  unfold tf
  rw [lookup_putF, if_neg n3, lookup_putF, if_pos rfl]
theorem tf_times (b t m : Int) : (tf b t m).lookup ("_times" : Str) = some (.int m) := by
  unfold tf
  rw [lookup_putF, if_pos rfl]
/-- the Trick of these parts stands at p -/
def TrickAt (T : Tx P K mg) (H : Hp) (p : Addr) (b t m : Int) : Prop := (∃ dx, H p = some (.ins T.C_Trick dx (tf b t m))) ∧ 2 ≤ b ∧ b ≤ 16 ∧ 1 ≤ t ∧ t ≤ 2 ∧ -100 ≤ m ∧ m ≤ 100
theorem TrickAt.same {T : Tx P K mg} {H H' : Hp} {p : Addr} {b t m : Int} (h : TrickAt T H p b t m) (s : Same H H') : TrickAt T H' p b t m :=
  let ⟨⟨dx, e⟩, r⟩ := h
  ⟨⟨dx, s _ _ e⟩, r⟩
theorem TrickAt.but {T : Tx P K mg} {H H' : Hp} {p r : Addr} {b t m : Int} (h : TrickAt T H p b t m) (s : But r H H') (n : p ≠ r) : TrickAt T H' p b t m :=
  let ⟨⟨dx, e⟩, q⟩ := h
  ⟨⟨dx, s _ _ e n⟩, q⟩
theorem TrickAt.any {T : Tx P K mg} {H : Hp} {p : Addr} {b t m : Int} (h : TrickAt T H p b t m) : AnyV (OwnT T) H (.ref p) :=
  let ⟨⟨_, e⟩, _⟩ := h
  .ins (by first | exact rfl | exact Or.inl rfl) e
theorem isi_trick (T : Tx P K mg) {H : Hp} {x : V} (a : AnyV (fun _ => False) H x) : ∃ t, TyX K H x t ∧ PySem.W.kitOne K t (.ref T.C_Trick) = some false := by
  cases a with
  | non => exact ⟨_, .base .non, T.kin_Trick_NoneType⟩
  | bl b => exact ⟨_, .base (.bl b), T.kin_Trick_bool⟩
  | int i => exact ⟨_, .base (.int i), T.kin_Trick_int⟩
  | str x => exact ⟨_, .base (.str x), T.kin_Trick_str⟩
  | lst e => exact ⟨_, .base (.lst e), T.kin_Trick_list⟩
  | tup e => exact ⟨_, .base (.tup e), T.kin_Trick_tuple⟩
  | dct e => exact ⟨_, .base (.dK e), T.kin_Trick_dict⟩
  | ins t e => exact t.elim

/-- Trick(b, t, m) of good parts: a new object; nothing that stood is changed -/
def spTrickI (T : Tx P K mg) : Sp := fun vs H Q _ => ∃ (p dx : Addr) (b t m : Int), vs = [.ref p, .int b, .int t, .int m] ∧ H p = some (.ins T.C_Trick dx []) ∧ 2 ≤ b ∧ b ≤ 16 ∧ 1 ≤ t ∧ t ≤ 2 ∧ -100 ≤ m ∧ m ≤ 100 ∧
  ∀ H', TrickAt T H' p b t m → (∀ c o, H c = some o → c ≠ p → H' c = some o) → Q .non H'
theorem ok_Trick___init__ (T : Tx P K mg) : FnOk P w K mg base CX0 lv_Trick___init__ T.a_Trick___init__ T.d_Trick___init__ ["self", "base", "take", "times"] (spTrickI T) := by
  refine T.F_Trick___init__.ok sc_Trick___init__ (fun vs H Q E h => ?_) (fun cdv A outer s H vs Q E hr h => ?_)
  · obtain ⟨p, dx, b, t, m, rfl, _⟩ := h
    rfl
  · obtain ⟨p, dx, b, t, m, rfl, hp, b1, b2, t1, t2, m1, m2, k⟩ := h
    refine ⟨_, (pss_cons (ps_expr (pe_call (ok_check_base T) (hr.mono (by decide)) rfl T.g_check_base T.F_check_base.kp T.b_check_base .nil passL (pa_cons (pv 1) pa_nil)))
      (pss_cons (ps_expr (pe_call (ok_check_take T) (hr.mono (by decide)) rfl T.g_check_take T.F_check_take.kp T.b_check_take .nil passL (pa_cons (pv 2) pa_nil)))
      (pss_cons (ps_if (pt_not (pt_val (pe_call (ok_is_integer T) (hr.mono (by decide)) rfl T.g_is_integer T.F_is_integer.kp T.b_is_integer .nil pass0 (pa_cons (pv 3) (pa_cons (pe_un un_neg (pe_glob (v := .int 100) rfl T.c_GREATEST_TIMES ⟨_, rfl⟩)) (pa_cons (pe_glob (v := .int 100) rfl T.c_GREATEST_TIMES ⟨_, rfl⟩) pa_nil)))))) (pss_one ps_never) pss_nil)
      (pss_cons (ps_fld (pv 0) (pv 1) rfl)
      (pss_cons (ps_fld (pv 0) (pv 2) rfl)
      (pss_one (ps_fld (pv 0) (pv 3) rfl))))))), ?_⟩
    refine ⟨_, rfl, _, rfl, .int b, fun _ => ?_, fun z => Bool.noConfusion ((intIn_of b1 b2).symm.trans z)⟩
    refine ⟨_, rfl, _, rfl, .int t, fun _ => ?_, fun z => Bool.noConfusion ((intIn_of t1 t2).symm.trans z)⟩
    refine ⟨_, rfl, _, rfl, _, _, _, rfl, .int m, _, rfl, ?_⟩
    rw [intIn_of m1 m2]
    refine iteF ?_
    refine ⟨_, rfl, _, rfl, p, _, dx, _, rfl, hp, T.cl_Trick, T.na_Trick_base, (by show 0 < 1000; decide), ?_⟩
    refine ⟨_, rfl, _, rfl, p, _, dx, _, rfl, upd_same, T.cl_Trick, T.na_Trick_take, (by show 1 < 1000; decide), ?_⟩
    refine ⟨_, rfl, _, rfl, p, _, dx, _, rfl, upd_same, T.cl_Trick, T.na_Trick_times, (by show 2 < 1000; decide), ?_⟩
    refine k _ ⟨⟨dx, upd_same⟩, b1, b2, t1, t2, m1, m2⟩ fun c o e hc => ?_
    rw [upd_ne hc, upd_ne hc, upd_ne hc]
    exact e
/-- a Trick of good parts is made -/
theorem mk_trick {T : Tx P K mg} {H1 : Hp} {p dx : Addr} {b t m : Int} {R : Hp → Prop} {E : XK} (np : H1 p = none) (nd : H1 dx = none) (b1 : 2 ≤ b) (b2 : b ≤ 16) (t1 : 1 ≤ t) (t2 : t ≤ 2) (m1 : -100 ≤ m) (m2 : m ≤ 100)
    (k : ∀ H2, TrickAt T H2 p b t m → Same H1 H2 → R H2) : spTrickI T (.ref p :: ([.int b, .int t, .int m] ++ [])) (upd (upd H1 dx (.own p)) p (.ins T.C_Trick dx [])) (fun v H2 => v = .non ∧ R H2) E :=
  ⟨p, dx, b, t, m, rfl, upd_same, b1, b2, t1, t2, m1, m2, fun H2 hT kp => ⟨rfl, k H2 hT (Same.made np nd kp)⟩⟩

/-! ### a trick's parts, its block -/
def spGet (T : Tx P K mg) (f : Int → Int → Int → Int) : Sp := fun vs H Q _ => ∃ (p : Addr) (b t m : Int), vs = [.ref p] ∧ TrickAt T H p b t m ∧ Q (.int (f b t m)) H
theorem ok_Trick_base (T : Tx P K mg) : FnOk P w K mg base CX0 lv_Trick_base T.a_Trick_base T.d_Trick_base ["self"] (spGet T fun b _ _ => b) := by
  refine T.F_Trick_base.ok sc_Trick_base (fun vs H Q E h => ?_) (fun cdv A outer s H vs Q E hr h => ?_)
  · obtain ⟨p, b, t, m, rfl, _⟩ := h
    rfl
  · obtain ⟨p, b, t, m, rfl, ⟨⟨dx, e⟩, _⟩, k⟩ := h
    exact ⟨_, (pss_one (ps_ret (pe_fld (pv 0) rfl))), _, rfl, p, _, dx, _, _, rfl, e, T.cl_Trick, T.na_Trick_base, tf_base b t m, k⟩
theorem ok_Trick_take (T : Tx P K mg) : FnOk P w K mg base CX0 lv_Trick_take T.a_Trick_take T.d_Trick_take ["self"] (spGet T fun _ t _ => t) := by
  refine T.F_Trick_take.ok sc_Trick_take (fun vs H Q E h => ?_) (fun cdv A outer s H vs Q E hr h => ?_)
  · obtain ⟨p, b, t, m, rfl, _⟩ := h
    rfl
  · obtain ⟨p, b, t, m, rfl, ⟨⟨dx, e⟩, _⟩, k⟩ := h
    exact ⟨_, (pss_one (ps_ret (pe_fld (pv 0) rfl))), _, rfl, p, _, dx, _, _, rfl, e, T.cl_Trick, T.na_Trick_take, tf_take b t m, k⟩
theorem ok_Trick_times (T : Tx P K mg) : FnOk P w K mg base CX0 lv_Trick_times T.a_Trick_times T.d_Trick_times ["self"] (spGet T fun _ _ m => m) := by
  refine T.F_Trick_times.ok sc_Trick_times (fun vs H Q E h => ?_) (fun cdv A outer s H vs Q E hr h => ?_)
  · obtain ⟨p, b, t, m, rfl, _⟩ := h
    rfl
  · obtain ⟨p, b, t, m, rfl, ⟨⟨dx, e⟩, _⟩, k⟩ := h
    exact ⟨_, (pss_one (ps_ret (pe_fld (pv 0) rfl))), _, rfl, p, _, dx, _, _, rfl, e, T.cl_Trick, T.na_Trick_times, tf_times b t m, k⟩

theorem ok_trick_block (T : Tx P K mg) : FnOk P w K mg base CX0 lv_trick_block T.a_trick_block T.d_trick_block ["trick"] (spGet T fun b t _ => blockOf b t) := by
  refine T.F_trick_block.ok sc_trick_block (fun vs H Q E h => ?_) (fun cdv A outer s H vs Q E hr h => ?_)
  · obtain ⟨p, b, t, m, rfl, _⟩ := h
    rfl
  · obtain ⟨p, b, t, m, rfl, a, k⟩ := h
    obtain ⟨⟨dx, e⟩, b1, b2, _⟩ := id a
    exact ⟨_, (pss_one (ps_ret (pe_call (ok_block_of T) (hr.mono (by decide)) rfl T.g_block_of T.F_block_of.kp T.b_block_of .nil pass0 (pa_cons (pe_prop (pv 0) T.cl_Trick T.p_Trick_base (ok_Trick_base T) (hr.mono (by decide)) T.b_Trick_base .nil pass0 rfl) (pa_cons (pe_prop (pv 0) T.cl_Trick T.p_Trick_take (ok_Trick_take T) (hr.mono (by decide)) T.b_Trick_take .nil pass0 rfl) pa_nil))))), _, rfl, p, dx, _, rfl, e, p, b, t, m, rfl, a, _, rfl, p, dx, _, rfl, e, p, b, t, m, rfl, a, b, t, rfl, b1, b2, k⟩

/-- what is a Trick, or the error -/
def isTrick (T : Tx P K mg) (H : Hp) (x : V) : Prop := ∃ p b t m, x = .ref p ∧ TrickAt T H p b t m
def spChkTrick (T : Tx P K mg) : Sp := fun vs H Q E => ∃ x : V, vs = [x] ∧ ((∃ p dx fs, x = .ref p ∧ H p = some (.ins T.C_Trick dx fs) ∧ Q .non H) ∨ (AnyV (fun _ => False) H x ∧ E (.ref T.C_BadTrick) none H))
theorem ok_check_trick (T : Tx P K mg) : FnOk P w K mg base (L2.CX P w) lv_check_trick T.a_check_trick T.d_check_trick ["trick"] (spChkTrick T) := by
  refine T.F_check_trick.okX sc_check_trick (fun vs H Q E h => ?_) (fun cdv A outer s H vs Q E hr h => ?_)
  · obtain ⟨x, rfl, _⟩ := h
    rfl
  · obtain ⟨x, rfl, h⟩ := h
    refine ⟨_, (pss_one (ps_if (pt_not (pt_val (pe_callB call_isi (by rfl) T.n_isinstance (by decide +kernel) (pa_cons (pv 0) (pa_cons (pe_glob (v := .ref T.C_Trick) rfl T.g_Trick rfl) pa_nil))))) (pss_one (ps_raise rfl (takes_of rfl rfl rfl rfl) (pmk_own PySem.F.excBase_ValueError T.x_BadTrick T.g_BadTrick T.k_BadTrick (raises_own T.s_BadTrick T.t_BadTrick) rfl))) pss_nil)), ?_⟩
    rcases h with ⟨p, dx, fs, rfl, e, k⟩ | ⟨a, k⟩
    · exact ⟨_, rfl, _, _, _, _, _, rfl, .own _, .base (T.ins_Trick _ _ _ _ e), T.kis_Trick, _, rfl, iteF k⟩
    · obtain ⟨t, ty, e⟩ := isi_trick T a
      exact ⟨_, rfl, _, _, _, _, _, rfl, .own _, ty, e, _, rfl, iteT k⟩

/-! ### what a trick makes; the stretch behind which all comes again -/
def made (b t m n : Int) : Int := n / blockOf b t + m * n.fmod (blockOf b t)
def spMadeW (K : PySem.W.Frag) : Sp := fun vs H Q _ => ∃ B m n : Int, vs = [.int B, .int m, .int n] ∧ 2 ≤ B ∧ B ≤ 256 ∧ -100 ≤ m ∧ m ≤ 100 ∧ Q (.int (n / B + m * n.fmod B)) H
theorem ok_made_with (T : Tx P K mg) : FnOk P w K mg base CX0 lv_made_with T.a_made_with T.d_made_with ["block", "times", "n"] (spMadeW K) := by
  refine T.F_made_with.ok sc_made_with (fun vs H Q E h => ?_) (fun cdv A outer s H vs Q E hr h => ?_)
  · obtain ⟨B, m, n, rfl, _⟩ := h
    rfl
  · obtain ⟨B, m, n, rfl, B1, B2, m1, m2, k⟩ := h
    refine ⟨_, (pss_one (ps_ret (pe_op op_add (pe_op op_fdivW (pv 2) (pv 0)) (pe_op op_mul (pv 1) (pe_op op_modN (pv 2) (pv 0)))))), ?_⟩
    refine ⟨_, rfl, _, rfl, _, _, rfl, rfl, wide_div (show 0 < B by omega) (b := 9) (show B.natAbs < 2 ^ 9 by omega) (by decide) (by decide), ?_⟩
    exact ⟨_, rfl, _, rfl, _, rfl, _, _, rfl, rfl, (show B ≠ 0 by omega), _, _, rfl, rfl, .inl (show -(2 ^ 64) < m ∧ m < 2 ^ 64 from ⟨by omega, by omega⟩), _, _, rfl, rfl, k⟩
def spMade (T : Tx P K mg) : Sp := fun vs H Q _ => ∃ (p : Addr) (b t m n : Int), vs = [.ref p, .int n] ∧ TrickAt T H p b t m ∧ Q (.int (made b t m n)) H
theorem ok_made_of (T : Tx P K mg) : FnOk P w K mg base CX0 lv_made_of T.a_made_of T.d_made_of ["trick", "n"] (spMade T) := by
  refine T.F_made_of.ok sc_made_of (fun vs H Q E h => ?_) (fun cdv A outer s H vs Q E hr h => ?_)
  · obtain ⟨p, b, t, m, n, rfl, _⟩ := h
    rfl
  · obtain ⟨p, b, t, m, n, rfl, a, k⟩ := h
    obtain ⟨⟨dx, e⟩, b1, b2, t1, t2, m1, m2⟩ := id a
    obtain ⟨B1, B2⟩ := block_bd (t := t) b1 b2
    refine ⟨_, (pss_one (ps_ret (pe_call (ok_made_with T) (hr.mono (by decide)) rfl T.g_made_with T.F_made_with.kp T.b_made_with .nil pass0 (pa_cons (pe_call (ok_trick_block T) (hr.mono (by decide)) rfl T.g_trick_block T.F_trick_block.kp T.b_trick_block .nil pass0 (pa_cons (pv 0) pa_nil)) (pa_cons (pe_prop (pv 0) T.cl_Trick T.p_Trick_times (ok_Trick_times T) (hr.mono (by decide)) T.b_Trick_times .nil pass0 rfl) (pa_cons (pv 1) pa_nil)))))), ?_⟩
    refine ⟨_, rfl, p, b, t, m, rfl, a, ?_⟩
    refine ⟨_, rfl, p, dx, _, rfl, e, p, b, t, m, rfl, a, ?_⟩
    exact ⟨_, rfl, _, _, _, rfl, by omega, by omega, m1, m2, k⟩

/-! ### the greatest size that does not get less -/
def mn2 (i j : Int) : Int := if j < i then j else i
def mx2 (i j : Int) : Int := if j > i then j else i
def ab (i : Int) : Int := if i < 0 then -i else i
def cdv (n d : Int) : Int := -(-n / d)
def gLeast (B m r : Int) : Int := mn2 (cdv ((m - 1) * r) (B - 1)) (cdv (-(m + 1) * r) (B + 1))
def gGreat (B m r : Int) : Int := mx2 ((m - 1) * r / (B - 1)) (-(m + 1) * r / (B + 1))
def gSize (B m r : Int) : Int := if gLeast B m r > gGreat B m r then 0 else mx2 (ab (gLeast B m r * B + r)) (ab (gGreat B m r * B + r))
theorem mul_le_cancel {x y c : Int} (hc : 0 < c) (h : x * c ≤ y * c) : x ≤ y := Int.le_of_mul_le_mul_right h hc
theorem cdv_le {n d q : Int} (hd : 0 < d) : cdv n d ≤ q ↔ n ≤ q * d := by
  unfold cdv
  have h : -q ≤ -n / d ↔ -q * d ≤ -n := Int.le_ediv_iff_mul_le hd
  constructor
  · intro z
    have := h.mp (by omega)
    rw [Int.neg_mul] at this
    omega
  · intro z
    have := h.mpr (by rw [Int.neg_mul]; omega)
    omega
/-- what does not get less has its quotient between the two -/
theorem not_less {B m r q : Int} (hB : 2 ≤ B) (h : ab (q * B + r) ≤ ab (q + m * r)) : gLeast B m r ≤ q ∧ q ≤ gGreat B m r := by
  have e1 : q + m * r - (q * B + r) = (m - 1) * r - q * (B - 1) := by grind
  have e2 : q + m * r + (q * B + r) = q * (B + 1) - -(m + 1) * r := by grind
  have key : (q * (B - 1) ≤ (m - 1) * r ∧ -(m + 1) * r ≤ q * (B + 1)) ∨ ((m - 1) * r ≤ q * (B - 1) ∧ q * (B + 1) ≤ -(m + 1) * r) := by
    unfold ab at h
    generalize q * B + r = u at *
    generalize q + m * r = v at *
    generalize (m - 1) * r = e at *
    generalize -(m + 1) * r = o at *
    generalize q * (B - 1) = x at *
    generalize q * (B + 1) = y at *
    split at h <;> split at h <;> omega
  have b1 : 0 < B - 1 := by omega
  have b2 : 0 < B + 1 := by omega
  unfold gLeast gGreat mn2 mx2
  rcases key with ⟨k1, k2⟩ | ⟨k1, k2⟩
  · have h1 := (Int.le_ediv_iff_mul_le b1).mpr k1
    have h2 := (cdv_le b2).mpr k2
    constructor
    · split <;> omega
    · split <;> omega
  · have h1 := (cdv_le b1).mpr k1
    have h2 := (Int.le_ediv_iff_mul_le b2).mpr k2
    constructor
    · split <;> omega
    · split <;> omega
theorem ab_between {x y z : Int} (h1 : x ≤ z) (h2 : z ≤ y) : ab z ≤ mx2 (ab x) (ab y) := by
  unfold ab mx2
  split <;> split <;> split <;> split <;> omega
theorem ab_nonneg (x : Int) : 0 ≤ ab x := by
  unfold ab
  split <;> omega
theorem gSize_nonneg (B m r : Int) : 0 ≤ gSize B m r := by
  unfold gSize mx2
  have h1 := ab_nonneg (gLeast B m r * B + r)
  have h2 := ab_nonneg (gGreat B m r * B + r)
  split
  · exact Int.le_refl 0
  · split <;> omega
/-- all greater ones get less -/
theorem gSize_more {B m r q : Int} (hB : 2 ≤ B) (h : gSize B m r < ab (q * B + r)) : ab (q + m * r) < ab (q * B + r) := by
  rcases Int.lt_or_le (ab (q + m * r)) (ab (q * B + r)) with z | z
  · exact z
  · exfalso
    obtain ⟨h1, h2⟩ := not_less hB z
    unfold gSize at h
    rw [if_neg (by omega)] at h
    have m1 : gLeast B m r * B ≤ q * B := Int.mul_le_mul_of_nonneg_right h1 (by omega)
    have m2 : q * B ≤ gGreat B m r * B := Int.mul_le_mul_of_nonneg_right h2 (by omega)
    have := ab_between (x := gLeast B m r * B + r) (y := gGreat B m r * B + r) (z := q * B + r) (by omega) (by omega)
    omega
/-- both ends do not get less -/
theorem not_less_of {B m r q : Int} (h : (q * (B - 1) ≤ (m - 1) * r ∧ -(m + 1) * r ≤ q * (B + 1)) ∨ ((m - 1) * r ≤ q * (B - 1) ∧ q * (B + 1) ≤ -(m + 1) * r)) : ab (q * B + r) ≤ ab (q + m * r) := by
  have e1 : q + m * r - (q * B + r) = (m - 1) * r - q * (B - 1) := by grind
  have e2 : q + m * r + (q * B + r) = q * (B + 1) - -(m + 1) * r := by grind
  unfold ab
  generalize q * B + r = u at *
  generalize q + m * r = v at *
  generalize (m - 1) * r = e at *
  generalize -(m + 1) * r = o at *
  generalize q * (B - 1) = x at *
  generalize q * (B + 1) = y at *
  split <;> split <;> omega
theorem ends_ok {B m r : Int} (hB : 2 ≤ B) (h : gLeast B m r ≤ gGreat B m r) : ∀ q, (q = gLeast B m r ∨ q = gGreat B m r) → ab (q * B + r) ≤ ab (q + m * r) := by
  have b1 : 0 < B - 1 := by omega
  have b2 : 0 < B + 1 := by omega
  -- floors and ceilings stand in one order
  have fl : ∀ {e o c d : Int}, 0 < c → 0 < d → e * d ≤ o * c → e / c ≤ o / d ∧ cdv e c ≤ cdv o d := fun {e o c d} hc hd z => by
    constructor
    · refine (Int.le_ediv_iff_mul_le hd).mpr (mul_le_cancel hc ?_)
      have h1 : e / c * c ≤ e := (Int.le_ediv_iff_mul_le hc).mp (Int.le_refl _)
      have h2 : e / c * c * d ≤ e * d := Int.mul_le_mul_of_nonneg_right h1 (by omega)
      have h3 : e / c * d * c = e / c * c * d := by grind
      omega
    · refine (cdv_le hc).mpr (mul_le_cancel hd ?_)
      have h1 : o ≤ cdv o d * d := (cdv_le hd).mp (Int.le_refl _)
      have h2 : o * c ≤ cdv o d * d * c := Int.mul_le_mul_of_nonneg_right h1 (by omega)
      have h3 : cdv o d * c * d = cdv o d * d * c := by grind
      omega
  have c1 : (m - 1) * r ≤ cdv ((m - 1) * r) (B - 1) * (B - 1) := (cdv_le b1).mp (Int.le_refl _)
  have c2 : -(m + 1) * r ≤ cdv (-(m + 1) * r) (B + 1) * (B + 1) := (cdv_le b2).mp (Int.le_refl _)
  have f1 : (m - 1) * r / (B - 1) * (B - 1) ≤ (m - 1) * r := (Int.le_ediv_iff_mul_le b1).mp (Int.le_refl _)
  have f2 : -(m + 1) * r / (B + 1) * (B + 1) ≤ -(m + 1) * r := (Int.le_ediv_iff_mul_le b2).mp (Int.le_refl _)
  have le_of : ∀ {x y c : Int}, 0 < c → x ≤ y → x * c ≤ y * c := fun {x y c} hc z => Int.mul_le_mul_of_nonneg_right z (by omega)
  have nl := fun q => @not_less_of B m r q
  unfold gLeast gGreat mn2 mx2 at *
  rcases Int.le_total ((m - 1) * r * (B + 1)) (-(m + 1) * r * (B - 1)) with z | z
  · obtain ⟨g1, g2⟩ := fl b1 b2 z
    generalize (m - 1) * r = e at *
    generalize -(m + 1) * r = o at *
    have hl : (if cdv o (B + 1) < cdv e (B - 1) then cdv o (B + 1) else cdv e (B - 1)) = cdv e (B - 1) := by rw [if_neg (by omega)]
    have hg : (if o / (B + 1) > e / (B - 1) then o / (B + 1) else e / (B - 1)) = o / (B + 1) := by split <;> omega
    rw [hl, hg] at h ⊢
    have l1 := le_of b1 h
    have l2 := le_of b2 h
    intro q hq
    refine nl q (.inr ?_)
    rcases hq with rfl | rfl
    · exact ⟨c1, by omega⟩
    · exact ⟨by omega, f2⟩
  · obtain ⟨g1, g2⟩ := fl b2 b1 z
    generalize (m - 1) * r = e at *
    generalize -(m + 1) * r = o at *
    have hl : (if cdv o (B + 1) < cdv e (B - 1) then cdv o (B + 1) else cdv e (B - 1)) = cdv o (B + 1) := by split <;> omega
    have hg : (if o / (B + 1) > e / (B - 1) then o / (B + 1) else e / (B - 1)) = e / (B - 1) := by rw [if_neg (by omega)]
    rw [hl, hg] at h ⊢
    have l1 := le_of b1 h
    have l2 := le_of b2 h
    intro q hq
    refine nl q (.inl ?_)
    rcases hq with rfl | rfl
    · exact ⟨by omega, c2⟩
    · exact ⟨f1, by omega⟩
/-- the greatest one does not get less -/
theorem gSize_at {B m r : Int} (hB : 2 ≤ B) (h : 0 < gSize B m r) : ∃ q, ab (q * B + r) = gSize B m r ∧ ab (q * B + r) ≤ ab (q + m * r) := by
  unfold gSize at h ⊢
  by_cases c : gLeast B m r > gGreat B m r
  · rw [if_pos c] at h
    omega
  · rw [if_neg c]
    have he := ends_ok hB (show gLeast B m r ≤ gGreat B m r by omega)
    unfold mx2
    split
    · exact ⟨_, rfl, he _ (.inr rfl)⟩
    · exact ⟨_, rfl, he _ (.inl rfl)⟩

theorem split_n (n : Int) {B : Int} (hB : 2 ≤ B) : n / B * B + n.fmod B = n ∧ 0 ≤ n.fmod B ∧ n.fmod B < B := by
  rw [Int.fmod_eq_emod_of_nonneg _ (by omega)]
  have := Int.mul_ediv_add_emod n B
  refine ⟨by rw [Int.mul_comm]; exact this, Int.emod_nonneg n (by omega), Int.emod_lt_of_pos n (by omega)⟩
theorem join_n {q r B : Int} (hB : 2 ≤ B) (r0 : 0 ≤ r) (r1 : r < B) : (q * B + r) / B = q ∧ (q * B + r).fmod B = r := by
  rw [Int.fmod_eq_emod_of_nonneg _ (by omega), Int.add_comm, Int.add_mul_ediv_right _ _ (by omega), Int.add_mul_emod_self_right, Int.ediv_eq_zero_of_lt r0 r1, Int.emod_eq_of_lt r0 r1]
  omega
structure BoundOf (b t m M : Int) : Prop where
  nn : 0 ≤ M
  more : ∀ n, M < ab n → ab (made b t m n) < ab n
  at_ : 0 < M → ∃ n, ab n = M ∧ M ≤ ab (made b t m n)
  le : M ≤ 10 ^ 6
theorem half_n (n : Int) {B : Int} (hB : 2 ≤ B) : 2 * ab (n / B) ≤ ab n + 2 := by
  obtain ⟨e, r0, r1⟩ := split_n n hB
  generalize n.fmod B = r at *
  generalize hq : n / B = q at *
  unfold ab
  split
  · -- below 0
    have h : (-q - 1) * 2 ≤ (-q - 1) * B := Int.mul_le_mul_of_nonneg_left hB (by omega)
    have h2 : (-q - 1) * B = -(q * B) - B := by grind
    split <;> omega
  · have h : q * 2 ≤ q * B := Int.mul_le_mul_of_nonneg_left hB (by omega)
    split <;> omega
theorem bound_of {b t m M : Int} (hB : 2 ≤ blockOf b t) (hB2 : blockOf b t ≤ 256) (m1 : -100 ≤ m) (m2 : m ≤ 100) (hM : M ∈ (List.range (blockOf b t).toNat).map fun r : Nat => gSize (blockOf b t) m (r : Int)) (hmax : ∀ y ∈ (List.range (blockOf b t).toNat).map fun r : Nat => gSize (blockOf b t) m (r : Int), y ≤ M) : BoundOf b t m M := by
  have at0 : 0 < M → ∃ n, ab n = M ∧ M ≤ ab (made b t m n) := fun h => by
    obtain ⟨r, hr, e⟩ := List.mem_map.mp hM
    have hr2 := List.mem_range.mp hr
    obtain ⟨q, h1, h2⟩ := gSize_at (B := blockOf b t) (m := m) (r := (r : Int)) hB (by omega)
    obtain ⟨j1, j2⟩ := join_n (q := q) (r := (r : Int)) hB (by omega) (by omega)
    refine ⟨q * blockOf b t + r, by omega, ?_⟩
    unfold made
    rw [j1, j2]
    omega
  refine ⟨?_, fun n hn => ?_, at0, ?_⟩
  · have := hmax (gSize (blockOf b t) m ((0 : Nat) : Int)) (List.mem_map.mpr ⟨0, List.mem_range.mpr (by omega), rfl⟩)
    have h2 := gSize_nonneg (blockOf b t) m ((0 : Nat) : Int)
    omega
  · obtain ⟨e, r0, r1⟩ := split_n n hB
    unfold made
    have h := hmax (gSize (blockOf b t) m (n.fmod (blockOf b t))) (List.mem_map.mpr ⟨(n.fmod (blockOf b t)).toNat, List.mem_range.mpr (by omega), by rw [Int.toNat_of_nonneg r0]⟩)
    have h2 := gSize_more (q := n / blockOf b t) (r := n.fmod (blockOf b t)) (m := m) hB (by rw [e]; omega)
    rw [e] at h2
    exact h2
  · rcases Int.lt_or_le 0 M with z | z
    · obtain ⟨n, h1, h2⟩ := at0 z
      have h3 := half_n n hB
      obtain ⟨e, r0, r1⟩ := split_n n hB
      unfold made at h2
      have h4 : m * n.fmod (blockOf b t) ≤ 100 * 256 := by
        have h5 : m * n.fmod (blockOf b t) ≤ 100 * n.fmod (blockOf b t) := Int.mul_le_mul_of_nonneg_right m2 r0
        omega
      have h5 : -(100 * 256) ≤ m * n.fmod (blockOf b t) := by
        have h6 : -100 * n.fmod (blockOf b t) ≤ m * n.fmod (blockOf b t) := Int.mul_le_mul_of_nonneg_right m1 r0
        omega
      generalize m * n.fmod (blockOf b t) = y at *
      generalize n / blockOf b t = q at *
      have h6 : ab (q + y) ≤ ab q + 25600 := by
        unfold ab
        split <;> split <;> omega
      omega
    · omega
/-! ### bound -/
def spRounded : Sp := fun vs H Q _ => ∃ n d : Int, vs = [.int n, .int d] ∧ 0 < d ∧ d ≤ 300 ∧ Q (.int (cdv n d)) H
theorem ok_rounded_up (T : Tx P K mg) : FnOk P w K mg base CX0 lv_rounded_up T.a_rounded_up T.d_rounded_up ["n", "d"] spRounded := by
  refine T.F_rounded_up.ok sc_rounded_up (fun vs H Q E h => ?_) (fun cdv' A outer s H vs Q E hr h => ?_)
  · obtain ⟨n, d, rfl, _⟩ := h
    rfl
  · obtain ⟨n, d, rfl, d0, d1, k⟩ := h
    refine ⟨_, (pss_one (ps_ret (pe_un un_neg (pe_op op_fdivW (pe_un un_neg (pv 0)) (pv 1))))), ?_⟩
    exact ⟨_, rfl, _, rfl, _, rfl, _, _, rfl, rfl, ⟨d0, Nat.lt_of_le_of_lt (Nat.log2_le_self _) (by omega)⟩, _, rfl, k⟩
def spGsize : Sp := fun vs H Q _ => ∃ B m r : Int, vs = [.int B, .int m, .int r] ∧ 2 ≤ B ∧ B ≤ 256 ∧ -100 ≤ m ∧ m ≤ 100 ∧ Q (.int (gSize B m r)) H
theorem ok_greatest_size (T : Tx P K mg) : FnOk P w K mg base CX0 lv_greatest_size T.a_greatest_size T.d_greatest_size ["block", "times", "rest"] spGsize := by
  refine T.F_greatest_size.ok sc_greatest_size (fun vs H Q E h => ?_) (fun cdv' A outer s H vs Q E hr h => ?_)
  · obtain ⟨B, m, r, rfl, _⟩ := h
    rfl
  · obtain ⟨B, m, r, rfl, B1, B2, m1, m2, k⟩ := h
    refine ⟨_, (pss_cons (ps_set (i := 3) sc_greatest_size.nd rfl (Or.inl rfl) (pe_op op_mul (pe_op op_sub (pv 1) pe_int) (pv 2)))
      (pss_cons (ps_set (i := 4) sc_greatest_size.nd rfl (Or.inl rfl) (pe_op op_mul (pe_un un_neg (pe_op op_add (pv 1) pe_int)) (pv 2)))
      (pss_cons (ps_set (i := 5) sc_greatest_size.nd rfl (Or.inl rfl) (pe_callB (call_min2 rfl) (by rfl) T.n_min (by decide +kernel) (pa_cons (pe_call (ok_rounded_up T) (hr.mono (by decide)) rfl T.g_rounded_up T.F_rounded_up.kp T.b_rounded_up .nil pass0 (pa_cons (pv 3) (pa_cons (pe_op op_sub (pv 0) pe_int) pa_nil))) (pa_cons (pe_call (ok_rounded_up T) (hr.mono (by decide)) rfl T.g_rounded_up T.F_rounded_up.kp T.b_rounded_up .nil pass0 (pa_cons (pv 4) (pa_cons (pe_op op_add (pv 0) pe_int) pa_nil))) pa_nil))))
      (pss_cons (ps_set (i := 6) sc_greatest_size.nd rfl (Or.inl rfl) (pe_callB (call_max2 rfl) (by rfl) T.n_max (by decide +kernel) (pa_cons (pe_op op_fdivW (pv 3) (pe_op op_sub (pv 0) pe_int)) (pa_cons (pe_op op_fdivW (pv 4) (pe_op op_add (pv 0) pe_int)) pa_nil))))
      (pss_cons (ps_if (pt_cmpR op_gt (pv 5) (pv 6) (nomark _)) (pss_one (ps_ret pe_int)) pss_nil)
      (pss_one (ps_ret (pe_callB (call_max2 rfl) (by rfl) T.n_max (by decide +kernel) (pa_cons (pe_callB call_abs (by rfl) T.n_abs (by decide +kernel) (pa_cons (pe_op op_add (pe_op op_mul (pv 5) (pv 0)) (pv 2)) pa_nil)) (pa_cons (pe_callB call_abs (by rfl) T.n_abs (by decide +kernel) (pa_cons (pe_op op_add (pe_op op_mul (pv 6) (pv 0)) (pv 2)) pa_nil)) pa_nil)))))))))), ?_⟩
    have w1 : CDivW 0 (B - 1) := ⟨by omega, Nat.lt_of_le_of_lt (Nat.log2_le_self _) (by omega)⟩
    have w2 : CDivW 0 (B + 1) := ⟨by omega, Nat.lt_of_le_of_lt (Nat.log2_le_self _) (by omega)⟩
    refine ⟨_, rfl, _, _, rfl, rfl, _, rfl, _, _, rfl, rfl, .inl (show -(2 ^ 64) < m - 1 ∧ m - 1 < 2 ^ 64 from ⟨by omega, by omega⟩), ?_⟩
    refine ⟨_, rfl, _, _, rfl, rfl, _, rfl, _, rfl, _, _, rfl, rfl, .inl (show -(2 ^ 64) < -(m + 1) ∧ -(m + 1) < 2 ^ 64 from ⟨by omega, by omega⟩), ?_⟩
    unfold gSize at k
    refine ⟨_, rfl, _, rfl, _, _, rfl, rfl, _, _, rfl, (show 0 < B - 1 by omega), (show B - 1 ≤ 300 by omega), _, rfl, _, rfl, _, _, rfl, rfl, _, _, rfl, (show 0 < B + 1 by omega), (show B + 1 ≤ 300 by omega), _, _, rfl, ?_⟩
    refine ⟨_, rfl, _, rfl, _, _, rfl, rfl, _, _, rfl, rfl, w1, _, rfl, _, rfl, _, _, rfl, rfl, _, _, rfl, rfl, w2, _, _, rfl, ?_⟩
    refine ⟨_, rfl, _, rfl, _, _, rfl, rfl, _, rfl, ?_⟩
    refine ite2 (fun g => ?_) (fun g => ?_)
    · rw [if_pos (show gLeast B m r > gGreat B m r from of_decide_eq_true g)] at k
      exact k
    · rw [if_neg (show ¬ gLeast B m r > gGreat B m r from fun z => g (decide_eq_true z))] at k
      exact ⟨_, rfl, _, rfl, _, _, rfl, rfl, .inr ⟨by omega, by omega⟩, _, rfl, _, _, rfl, rfl, _, rfl, _, rfl, _, rfl, _, _, rfl, rfl, .inr ⟨by omega, by omega⟩, _, rfl, _, _, rfl, rfl, _, rfl, _, _, rfl, k⟩
def spBound (T : Tx P K mg) : Sp := fun vs H Q _ => ∃ (p : Addr) (b t m : Int), vs = [.ref p] ∧ TrickAt T H p b t m ∧ ∀ M H', BoundOf b t m M → Same H H' → Q (.int M) H'
theorem ok_bound (T : Tx P K mg) : FnOk P w K mg base (L2.CX P w) lv_bound T.a_bound T.d_bound ["trick"] (spBound T) := by
  refine T.F_bound.okX sc_bound (fun vs H Q E h => ?_) (fun cdv' A outer s H vs Q E hr h => ?_)
  · obtain ⟨p, b, t, m, rfl, _⟩ := h
    rfl
  · obtain ⟨p, b, t, m, rfl, a, k⟩ := h
    obtain ⟨⟨dx, e⟩, b1, b2, t1, t2, m1, m2⟩ := id a
    obtain ⟨B1, B2⟩ := block_bd (t := t) b1 b2
    refine ⟨_, (pss_cons (ps_expr (pe_call (ok_check_trick T) (hr.mono (by decide)) rfl T.g_check_trick T.F_check_trick.kp T.b_check_trick .nil (passes_call (takes_of rfl rfl rfl rfl) fun _ _ _ _ h => h) (pa_cons (pv 0) pa_nil)))
      (pss_cons (ps_set (i := 1) sc_bound.nd rfl (Or.inr rfl) (pe_call (ok_trick_block T) (hr.mono (by decide)) rfl T.g_trick_block T.F_trick_block.kp T.b_trick_block .nil pass0 (pa_cons (pv 0) pa_nil)))
      (pss_one (ps_ret (pe_callB (cr_max rfl) (by rfl) T.n_max (by decide +kernel) (pa_cons (pe_lc (own := [("rest", 2)]) (g := gName 2) (tt := tYes) rfl sc_bound.nd (pi_range1 (by rfl) T.n_range (pa_cons (pv 1) pa_nil)) (blkOk_by (own := [("rest", 2)]) (N := ["trick", "block", "rest"]) (sc := defScope s_bound) (by decide +kernel)) (fun _ _ _ _ _ => pg_name (i := 2) sc_bound.nd rfl (Or.inl rfl)) (fun _ _ _ _ _ => pts_nil) (fun _ _ _ _ _ => (pe_call (ok_greatest_size T) (hr.mono (by decide)) rfl T.g_greatest_size T.F_greatest_size.kp T.b_greatest_size .nil pass0 (pa_cons (pv 1) (pa_cons (pe_prop (pv 0) T.cl_Trick T.p_Trick_times (ok_Trick_times T) (hr.mono (by decide)) T.b_Trick_times .nil pass0 rfl) (pa_cons (pv 2) pa_nil)))))) pa_nil)))))), ?_⟩
    refine ⟨_, rfl, _, rfl, .inl ⟨p, dx, _, rfl, e, ?_⟩⟩
    refine ⟨_, rfl, p, b, t, m, rfl, a, ?_⟩
    have bo := fun M => @bound_of b t m M B1 B2 m1 m2
    refine ⟨_, rfl, blockOf b t, rfl, by omega, by omega, fun D hD => ?_⟩
    have nDp : p ≠ D := ne_of_none e hD
    refine lc_range (lo := 0) (n := (blockOf b t).toNat) (fun i H4 => Same H H4 ∧ H4 D = some (.lst (((List.range i).map fun r : Nat => gSize (blockOf b t) m (r : Int)).map V.int))) ⟨same_upd hD, upd_same⟩ ?_ ?_
    · rintro i H4 hi ⟨S4, hL⟩
      have ei : (0 : Int) + (i : Int) = (i : Int) := Int.zero_add _
      rw [ei]
      refine ⟨rfl, _, rfl, _, rfl, p, dx, _, rfl, S4 _ _ e, p, b, t, m, rfl, a.same S4, _, rfl, blockOf b t, m, (i : Int), rfl, B1, B2, m1, m2, _, hL, by rw [List.length_map, List.length_map, List.length_range]; exact small1000 (by omega), fun c o ee => ?_, ?_⟩
      · rw [upd_ne (ne_of_none ee hD)]
        exact S4 _ _ ee
      · rw [upd_same, List.range_succ, List.map_append, List.map_append]
        rfl
    · rintro H4 ⟨S4, hL⟩
      exact ⟨D, _, rfl, SqL.of hL, by rw [List.length_map, List.length_range]; omega, fun M hM hmax => k M H4 (bo M hM hmax) S4⟩

/-! ### tuples cut and joined -/
theorem cutV_take (xs : List V) (k : Nat) : cutV xs none (some (k : Int)) = xs.take k := by
  unfold cutV
  rw [HT.sIx_none, HT.sIx_nat, List.drop_zero, Nat.sub_zero]
  rcases Nat.le_total k xs.length with h | h
  · rw [Nat.min_eq_left h]
  · rw [Nat.min_eq_right h, List.take_of_length_le (Nat.le_refl _), List.take_of_length_le h]
theorem cutV_drop (xs : List V) (k : Nat) : cutV xs (some (k : Int)) none = xs.drop k := by
  unfold cutV
  rw [HT.sIx_none, HT.sIx_nat]
  rcases Nat.le_total k xs.length with h | h
  · rw [Nat.min_eq_left h, List.take_of_length_le (by rw [List.length_drop]; exact Nat.le_refl _)]
  · rw [Nat.min_eq_right h, List.drop_of_length_le (Nat.le_refl _), List.drop_of_length_le h, List.take_nil]
/-- what is before it, then t[k + 1:] -/
theorem tail_cat {σ : L2.St} {H : Hp} {c q : Addr} {ys xs : List V} {k : Nat} {Q : VK} (h6 : σ[6]? = some (some (.ref q))) (h7 : σ[7]? = some (some (.int (k : Int)))) (hq : H q = some (.tup xs)) (hc : H c = some (.tup ys)) (ny : ys ≠ []) (sz : ys.length + xs.length ≤ 1000) (nk : xs ≠ [])
    (hQ : ∀ (w' : Addr) (H2 : Hp), Same H H2 → H2 w' = some (.tup (ys ++ xs.drop (k + 1))) → (w' = c ∨ H w' = none) → Q (.ref w') H2) :
    tSl (rSlT K) (tVar 6) (tPart (tOp (rI0 fun i j => V.int (i + j)) (tVar 7) (tC (V.int 1)))) tNoPart σ H (fun y H2 => rCatA K (.ref c) y H2 Q) := by
  have e1 : ((k : Int) + 1) = ((k + 1 : Nat) : Int) := by omega
  refine ⟨_, h6, _, h7, _, _, rfl, rfl, _, rfl, q, xs, rfl, SqT.of hq, ?_, fun p hp => ?_⟩
  · rintro ⟨z, _⟩
    rw [e1, HT.sIx_nat] at z
    have : 0 < xs.length := List.length_pos_iff.mpr nk
    omega
  · rw [e1, cutV_drop]
    have S := same_upd (o := .tup (xs.drop (k + 1))) hp
    refine ⟨c, p, ys, xs.drop (k + 1), rfl, rfl, SqT.of (S _ _ hc), SqT.of upd_same, ?_, fun e => absurd e ny, fun _ e => ?_, fun _ _ p2 hp2 => ?_⟩
    · have := List.length_drop (l := xs) (i := k + 1)
      have h2 : (1000 : Nat) ≤ sizeLine := by decide
      omega
    · refine hQ c _ S ?_ (.inl rfl)
      have e3 := S _ _ hc
      rw [e] at e3 ⊢
      rw [List.append_nil]
      exact e3
    · refine hQ p2 _ (S.trans (same_upd hp2)) upd_same (.inr ?_)
      by_cases z : p2 = p
      · rw [z]
        exact hp
      · rw [upd_ne z] at hp2
        exact hp2

/-! ### whether an int is among ints -/
theorem inV_ints (r : Int) : ∀ s : List Int, inV (.int r) (s.map V.int) = s.elem r
  | [] => rfl
  | z :: s => by
    show ((z == r) || inV (.int r) (s.map V.int)) = _
    rw [inV_ints r s, List.elem_cons]
    by_cases h : z = r
    · subst h; simp
    · have h2 : ¬ r = z := fun e => h e.symm
      rw [show (z == r) = false from by simpa using h, show (r == z) = false from by simpa using h2]
      rfl
theorem flat_ints (s : List Int) : (s.map V.int).all flatV = true := by
  rw [List.all_eq_true]
  intro v hv
  obtain ⟨z, _, rfl⟩ := List.mem_map.mp hv
  rfl

/-! ### the least number for which it fails -/
/-- None, or the number -/
def optV : Option Nat → V
  | none => .non
  | some n => .int (n : Int)
theorem find_at {f : Nat → Bool} {i k : Nat} (h : ∀ j, j < i → f j = false) (hf : f i = true) (hk : i < k) : (List.range k).find? f = some i := by
  rw [List.find?_range_eq_some]
  exact ⟨hf, List.mem_range.mpr hk, fun j hj => by rw [h j hj]; rfl⟩
theorem find_none {f : Nat → Bool} {k : Nat} (h : ∀ j, j < k → f j = false) : (List.range k).find? f = none := by
  rw [List.find?_eq_none]
  exact fun j hj => by rw [h j (List.mem_range.mp hj)]; exact Bool.false_ne_true
theorem find_succ (f : Nat → Bool) (i : Nat) : (List.range (i + 1)).find? f = ((List.range i).find? f).or (if f i = true then some i else none) := by
  rw [List.range_succ, List.find?_append]
  congr 1
  by_cases h : f i = true
  · rw [if_pos h]; simp [h]
  · rw [if_neg h]; simp [h]
theorem opt_non (o : Option Nat) : decide (optV o = .non) = o.isNone := by
  cases o <;> simp [optV]
theorem scal_opt (o u : Option Nat) : scal (optV o) (optV u) = true := by
  cases o <;> cases u <;> rfl

/-! ### done again and again: rings -/
section
variable (f : Int → Int)
def orb (n : Int) : Nat → Int
  | 0 => n
  | k + 1 => f (orb n k)
def orbL (n : Int) (k : Nat) : List Int := (List.range k).map (orb f n)
theorem orb_add (n : Int) (i : Nat) : ∀ j, orb f n (i + j) = orb f (orb f n i) j
  | 0 => rfl
  | j + 1 => by
    show f (orb f n (i + j)) = f (orb f (orb f n i) j)
    rw [orb_add n i j]
theorem orbL_len (n : Int) (k : Nat) : (orbL f n k).length = k := by
  unfold orbL
  rw [List.length_map, List.length_range]
theorem orbL_get {n : Int} {k j : Nat} (h : j < k) : (orbL f n k)[j]? = some (orb f n j) := by
  unfold orbL
  rw [List.getElem?_map, List.getElem?_range h]
  rfl
theorem orbL_succ (n : Int) (k : Nat) : orbL f n (k + 1) = orbL f n k ++ [orb f n k] := by
  unfold orbL
  rw [List.range_succ, List.map_append]
  rfl
theorem orbL_mem {n x : Int} {k : Nat} : x ∈ orbL f n k ↔ ∃ j, j < k ∧ orb f n j = x := by
  unfold orbL
  rw [List.mem_map]
  exact ⟨fun ⟨j, h, e⟩ => ⟨j, List.mem_range.mp h, e⟩, fun ⟨j, h, e⟩ => ⟨j, List.mem_range.mpr h, e⟩⟩
theorem orbL_drop (n : Int) (i k : Nat) : (orbL f n (i + k)).drop i = orbL f (orb f n i) k := by
  unfold orbL
  apply List.ext_getElem?
  intro j
  rw [List.getElem?_drop]
  rcases Nat.lt_or_ge j k with h | h
  · rw [List.getElem?_map, List.getElem?_map, List.getElem?_range (by omega), List.getElem?_range h]
    show some (orb f n (i + j)) = some (orb f (orb f n i) j)
    rw [orb_add]
  · rw [List.getElem?_eq_none (by rw [List.length_map, List.length_range]; omega), List.getElem?_eq_none (by rw [List.length_map, List.length_range]; omega)]
theorem orbL_take (n : Int) {i k : Nat} (h : i ≤ k) : (orbL f n k).take i = orbL f n i := by
  unfold orbL
  rw [← List.map_take, List.take_range, Nat.min_eq_left h]
/-- n comes again behind L rounds, and not before -/
structure Back (n : Int) (L : Nat) : Prop where
  pos : 0 < L
  back : orb f n L = n
  first : ∀ j, 0 < j → j < L → orb f n j ≠ n
theorem back_mul {n : Int} {L : Nat} (h : orb f n L = n) : ∀ q, orb f n (q * L) = n
  | 0 => by rw [Nat.zero_mul]; rfl
  | q + 1 => by rw [Nat.succ_mul, orb_add, back_mul h q, h]
theorem back_mod {n : Int} {L : Nat} (h : orb f n L = n) (j : Nat) : orb f n (j % L) = orb f n j := by
  conv => rhs; rw [← Nat.div_add_mod j L, Nat.mul_comm, orb_add, back_mul f h]
theorem Back.inj {n : Int} {L : Nat} (h : Back f n L) {i j : Nat} (hij : i < j) (hj : j < L) : orb f n i ≠ orb f n j := by
  intro e
  have e2 : orb f n (i + (L - j)) = n := by
    rw [orb_add, e, ← orb_add, show j + (L - j) = L by omega, h.back]
  exact h.first (i + (L - j)) (by omega) (by omega) e2
theorem Back.on {n : Int} {L : Nat} (h : Back f n L) (s : Nat) : Back f (orb f n s) L := by
  refine ⟨h.pos, ?_, fun j h1 h2 e => ?_⟩
  · rw [← orb_add, Nat.add_comm, orb_add, h.back]
  · rw [← orb_add, ← back_mod f h.back (s + j), ← back_mod f h.back s] at e
    have l1 := Nat.mod_lt s h.pos
    have l2 := Nat.mod_lt (s + j) h.pos
    rcases Nat.lt_trichotomy ((s + j) % L) (s % L) with z | z | z
    · exact h.inj f z l1 e
    · have d1 := Nat.div_add_mod (s + j) L
      have d2 := Nat.div_add_mod s L
      rw [z] at d1
      have : L * ((s + j) / L) = L * (s / L) + j := by omega
      rcases Nat.lt_or_ge ((s + j) / L) (s / L + 1) with y | y
      · have := Nat.mul_le_mul_left L (show (s + j) / L ≤ s / L by omega)
        omega
      · have := Nat.mul_le_mul_left L y
        rw [Nat.mul_succ] at this
        omega
    · exact h.inj f z l2 e.symm
theorem Back.uniq {n : Int} {L M : Nat} (h : Back f n L) (g : Back f n M) : L = M := by
  rcases Nat.lt_trichotomy L M with z | z | z
  · exact absurd h.back (g.first L h.pos z)
  · exact z
  · exact absurd g.back (h.first M g.pos z)
theorem Back.rot {n : Int} {L : Nat} (h : Back f n L) {s : Nat} (hs : s ≤ L) : (orbL f n L).drop s ++ (orbL f n L).take s = orbL f (orb f n s) L := by
  obtain ⟨e, rfl⟩ : ∃ e, L = s + e := ⟨L - s, by omega⟩
  rw [orbL_drop, orbL_take f n hs]
  have : orbL f (orb f n s) (s + e) = orbL f (orb f n s) e ++ (orbL f (orb f n s) (e + s)).drop e := by
    rw [Nat.add_comm s e]
    conv => lhs; rw [← List.take_append_drop e (orbL f (orb f n s) (e + s)), orbL_take f _ (Nat.le_add_right e s)]
  rw [this, orbL_drop, ← orb_add, h.back]
/-- a ring, the least one first -/
def IsRing (r : List Int) : Prop := ∃ x L, Back f x L ∧ (∀ j, x ≤ orb f x j) ∧ r = orbL f x L
/-- where the way from n ends: first all p are new (none of S), then comes one of S, or the i-th again -/
structure Way (S : Int → Prop) (n : Int) (p : Nat) : Prop where
  out : ∀ j, j < p → ¬ S (orb f n j)
  inj : ∀ i j, i < j → j < p → orb f n i ≠ orb f n j
def Way.Ends (S : Int → Prop) (n : Int) (p : Nat) : Prop := S (orb f n p) ∨ ∃ i, i < p ∧ orb f n i = orb f n p
theorem Way.nodup {S : Int → Prop} {n : Int} {p : Nat} (h : Way f S n p) : (orbL f n p).Nodup := by
  unfold orbL
  show List.Pairwise (· ≠ ·) _
  rw [List.pairwise_map]
  refine List.Pairwise.imp_of_mem (fun {a b} ha hb h2 => ?_) (List.pairwise_lt_range (n := p))
  exact h.inj a b h2 (List.mem_range.mp hb)
theorem way_uniq {S : Int → Prop} {n : Int} {p q : Nat} (h : Way f S n p) (e : Way.Ends f S n p) (g : Way f S n q) (k : Way.Ends f S n q) : p = q := by
  have lt : ∀ {p q : Nat}, Way.Ends f S n p → Way f S n q → ¬ p < q := fun {p q} e g z => by
    rcases e with e | ⟨i, hi, e⟩
    · exact g.out p z e
    · exact g.inj i p hi z e
  have a := lt e g
  have b := lt k h
  omega
theorem Way.back {S : Int → Prop} {n : Int} {p i : Nat} (h : Way f S n p) (hi : i < p) (e : orb f n i = orb f n p) : Back f (orb f n i) (p - i) := by
  refine ⟨by omega, ?_, fun j h1 h2 z => ?_⟩
  · rw [← orb_add, show i + (p - i) = p by omega, e]
  · rw [← orb_add] at z
    exact h.inj i (i + j) (by omega) (by omega) z.symm
/-- the path from a number of a ring -/
theorem Back.way {n : Int} {L : Nat} (h : Back f n L) : Way f (fun _ => False) n L ∧ Way.Ends f (fun _ => False) n L :=
  ⟨⟨fun _ _ z => z, fun i j a b => h.inj f a b⟩, .inr ⟨0, h.pos, by rw [h.back]; rfl⟩⟩
end

/-! ### how far it goes until all comes again -/
theorem ab_add (x y : Int) : ab (x + y) ≤ ab x + ab y := by
  unfold ab
  split <;> split <;> split <;> omega
theorem ab_mul {m r c d : Int} (m1 : -c ≤ m) (m2 : m ≤ c) (r0 : 0 ≤ r) (r1 : r ≤ d) : ab (m * r) ≤ c * d := by
  have h1 := Int.mul_le_mul_of_nonneg_right m2 r0
  have h2 := Int.mul_le_mul_of_nonneg_right m1 r0
  have h3 := Int.mul_le_mul_of_nonneg_left r1 (show 0 ≤ c by omega)
  rw [Int.neg_mul] at h2
  unfold ab
  split <;> omega
theorem made_half {b t m n : Int} (hB : 2 ≤ blockOf b t) (hB2 : blockOf b t ≤ 256) (m1 : -100 ≤ m) (m2 : m ≤ 100) : 2 * ab (made b t m n) ≤ ab n + 51002 := by
  obtain ⟨e, r0, r1⟩ := split_n n hB
  have h1 := half_n n hB
  have h2 := ab_add (n / blockOf b t) (m * n.fmod (blockOf b t))
  have h3 := ab_mul m1 m2 r0 (show n.fmod (blockOf b t) ≤ 255 by omega)
  unfold made
  omega
theorem orb_half {b t m : Int} (hB : 2 ≤ blockOf b t) (hB2 : blockOf b t ≤ 256) (m1 : -100 ≤ m) (m2 : m ≤ 100) (n : Int) : ∀ k : Nat, 2 ^ k * ab (orb (made b t m) n k) ≤ ab n + 51002 * 2 ^ k
  | 0 => by
    rw [Int.pow_zero]
    show 1 * ab n ≤ ab n + 51002 * 1
    omega
  | k + 1 => by
    have ih := orb_half hB hB2 m1 m2 n k
    have h := made_half hB hB2 m1 m2 (n := orb (made b t m) n k)
    have p : (0 : Int) < 2 ^ k := Int.pow_pos (by decide)
    have h2 := Int.mul_le_mul_of_nonneg_left h (Int.le_of_lt p)
    rw [Int.mul_add] at h2
    show 2 ^ (k + 1) * ab (made b t m (orb (made b t m) n k)) ≤ ab n + 51002 * 2 ^ (k + 1)
    rw [Int.pow_succ, Int.mul_assoc]
    generalize ab (made b t m (orb (made b t m) n k)) = y at *
    generalize (2 : Int) ^ k = w at *
    have : w * 51002 = 51002 * w := Int.mul_comm _ _
    omega
theorem orb_near {b t m : Int} (hB : 2 ≤ blockOf b t) (hB2 : blockOf b t ≤ 256) (m1 : -100 ≤ m) (m2 : m ≤ 100) {n : Int} (hn : ab n ≤ 10 ^ 40) {k : Nat} (hk : 133 ≤ k) : ab (orb (made b t m) n k) ≤ 51204 := by
  have h := orb_half hB hB2 m1 m2 n k
  obtain ⟨e, rfl⟩ : ∃ e, k = 133 + e := ⟨k - 133, by omega⟩
  have p : (1 : Int) ≤ 2 ^ e := Int.pow_pos (by decide)
  have p2 : (2 : Int) ^ (133 + e) = 2 ^ 133 * 2 ^ e := Int.pow_add _ _ _
  have big : (10 : Int) ^ 40 ≤ 2 ^ 133 := by decide
  have p3 : (2 : Int) ^ 133 ≤ 2 ^ (133 + e) := by
    rw [p2]
    have := Int.mul_le_mul_of_nonneg_left p (show (0 : Int) ≤ 2 ^ 133 by decide)
    omega
  generalize (2 : Int) ^ (133 + e) = w at *
  rcases Int.lt_or_le 51204 (ab (orb (made b t m) n (133 + e))) with z | z
  · have := Int.mul_le_mul_of_nonneg_left (show 51205 ≤ ab (orb (made b t m) n (133 + e)) by omega) (show 0 ≤ w by omega)
    omega
  · exact z
def boxC (C : Nat) : List Int := (List.range (2 * C + 1)).map fun (i : Nat) => (i : Int) - (C : Int)
theorem mem_boxC {C : Nat} {x : Int} (h : ab x ≤ C) : x ∈ boxC C := by
  have : -(C : Int) ≤ x ∧ x ≤ C := by
    unfold ab at h
    split at h <;> omega
  exact List.mem_map.mpr ⟨(x + C).toNat, List.mem_range.mpr (by omega), by omega⟩
theorem boxC_len (C : Nat) : (boxC C).length = 2 * C + 1 := by
  unfold boxC
  rw [List.length_map, List.length_range]
theorem way_len {b t m : Int} (hB : 2 ≤ blockOf b t) (hB2 : blockOf b t ≤ 256) (m1 : -100 ≤ m) (m2 : m ≤ 100) {n : Int} (hn : ab n ≤ 10 ^ 40) {S : Int → Prop} {p : Nat} (h : Way (made b t m) S n p) : p ≤ 102600 := by
  rcases Nat.lt_or_ge p 133 with z | z
  · omega
  · obtain ⟨e, rfl⟩ : ∃ e, p = 133 + e := ⟨p - 133, by omega⟩
    have nd : (orbL (made b t m) (orb (made b t m) n 133) e).Nodup := by
      rw [← orbL_drop]
      exact h.nodup.sublist (List.drop_sublist _ _)
    have := pigL (boxC 51204) _ nd fun x hx => by
      obtain ⟨j, hj, rfl⟩ := (orbL_mem _).mp hx
      rw [← orb_add]
      exact mem_boxC (orb_near hB hB2 m1 m2 hn (by omega))
    rw [orbL_len, boxC_len] at this
    omega

/-! ### the path until something comes again -/
def entK (z : Int) : Key × V := (Sum.inl z, .bl true)
theorem entK_get (n : Int) : ∀ S : List Int, (valV (S.map entK) (Sum.inl n)).isSome = decide (n ∈ S)
  | [] => rfl
  | x :: S => by
    have ih := entK_get n S
    unfold valV at ih ⊢
    rw [List.map_cons, List.find?_cons]
    by_cases e : x = n
    · subst e
      rw [show decide ((entK x).1 = (Sum.inl x : Key)) = true from decide_eq_true rfl, decide_eq_true List.mem_cons_self]
      rfl
    · rw [show decide ((entK x).1 = (Sum.inl n : Key)) = false from decide_eq_false fun z => e (by injection z)]
      show _ = decide (n ∈ x :: S)
      rw [ih, decide_eq_decide]
      simp only [List.mem_cons]
      exact ⟨.inr, fun z => z.elim (fun q => absurd q.symm e) id⟩
theorem entK_none {n : Int} {S : List Int} (h : ¬ n ∈ S) : valV (S.map entK) (Sum.inl n) = none := by
  have := entK_get n S
  rw [decide_eq_false h] at this
  exact Option.not_isSome_iff_eq_none.mp (by rw [this]; exact Bool.false_ne_true)
theorem m_dnot {i j : Nat} : TTMono (tB (tDNotIn (tVar i) (tVar j))) := fun σ H Q Q2 h z => by
  obtain ⟨v, e, w, e2, a, o, e3, g, q⟩ := z
  obtain ⟨b, e4, q⟩ := q
  exact ⟨v, e, w, e2, a, o, e3, g, b, e4, h _ _ q⟩
def spPath (T : Tx P K mg) : Sp := fun vs H Q _ => ∃ (p s : Addr) (b t m n : Int) (S : List Int), vs = [.ref p, .int n, .ref s] ∧ TrickAt T H p b t m ∧ ab n ≤ 10 ^ 40 ∧ H s = some (.dK (S.map entK)) ∧ S.length ≤ 1000000 ∧
  ∀ (k : Nat) (P : Addr) (H' : Hp), Way (made b t m) (· ∈ S) n k → Way.Ends (made b t m) (· ∈ S) n k → k ≤ 102600 → H P = none → H' P = some (.lst ((orbL (made b t m) n k).map V.int)) → H' s = some (.dK ((S ++ orbL (made b t m) n k).map entK)) → (∀ c o, H c = some o → c ≠ s → H' c = some o) → Q (.ref P) H'
theorem ok_unseen_path (T : Tx P K mg) : FnOk P w K mg base CX0 lv_unseen_path T.a_unseen_path T.d_unseen_path ["trick", "n", "seen"] (spPath T) := by
  refine T.F_unseen_path.ok sc_unseen_path (fun vs H Q E h => ?_) (fun cdv A outer s H vs Q E hr h => ?_)
  · obtain ⟨p, s, b, t, m, n, S, rfl, _⟩ := h
    rfl
  · obtain ⟨p, ds, b, t, m, n, S, rfl, a, hn, hs, hS, k⟩ := h
    obtain ⟨⟨dx, e⟩, b1, b2, t1, t2, m1, m2⟩ := id a
    obtain ⟨B1, B2⟩ := block_bd (t := t) b1 b2
    refine ⟨_, (pss_cons (ps_set (i := 3) sc_unseen_path.nd rfl (Or.inl rfl) (pe_lst pa_nil))
      (pss_cons (ps_while PassesOwn.never (pt_cmp (pc_dnotin (hu_of hr) (pv 1) (pv 2))) (pss_cons (ps_dput (hu_of hr) (pv 2) (pv 1) pe_bl rfl)
      (pss_cons (ps_expr (pe_bm PySem.F.plainAttrs_list PySem.F.slot_list_append PySem.F.type_list_append mt_append (pv 3) (pa_cons (pv 1) pa_nil)))
      (pss_one (ps_set (i := 1) sc_unseen_path.nd rfl (Or.inl rfl) (pe_call (ok_made_of T) (hr.mono (by decide)) rfl T.g_made_of T.F_made_of.kp T.b_made_of .nil pass0 (pa_cons (pv 0) (pa_cons (pv 1) pa_nil))))))))
      (pss_one (ps_ret (pv 3))))), ?_⟩
    refine ⟨by show 0 ≤ sizeLine; decide, fun L hL => ?_⟩
    generalize hf : made b t m = f at *
    refine while_by (fun σ H2 => ∃ j : Nat, Way f (· ∈ S) n j ∧ H2 L = some (.lst ((orbL f n j).map V.int)) ∧ H2 ds = some (.dK ((S ++ orbL f n j).map entK)) ∧ (∀ c o, H c = some o → c ≠ ds → H2 c = some o) ∧ σ = [some (.ref p), some (.int (orb f n j)), some (.ref ds), some (.ref L)])
      (fun σ H2 => match H2 L with | some (.lst xs) => 200000 - xs.length | _ => 0) ?_ ?_ ?_
    · exact ⟨0, ⟨fun j hj => absurd hj (Nat.not_lt_zero _), fun i j _ hj => absurd hj (Nat.not_lt_zero _)⟩, upd_same, by rw [upd_ne (ne_of_none hs hL)]; exact hs.trans (by rw [show orbL f n 0 = [] from rfl, List.append_nil]), fun c o g _ => same_upd hL _ _ g, rfl⟩
    · rintro σ H2 ⟨j, hw, hL2, hs2, S2, rfl⟩
      have jl : j ≤ 102600 := way_len B1 B2 m1 m2 hn (hf ▸ hw)
      have pd : p ≠ ds := ne_of e hs (by intro z; cases z)
      have Ld : L ≠ ds := (ne_of_none hs hL).symm
      have ol := orbL_len f n j
      refine ⟨_, rfl, _, rfl, ds, _, rfl, DGet.k (k := Sum.inl (orb f n j)) hs2, _, rfl, ?_⟩
      rw [entK_get]
      by_cases mem : orb f n j ∈ S ++ orbL f n j
      · rw [decide_eq_true mem]
        refine iteF ⟨_, rfl, k j L H2 hw ?_ jl hL hL2 hs2 S2⟩
        rcases List.mem_append.mp mem with q | q
        · exact .inl q
        · obtain ⟨i, hi, ei⟩ := (orbL_mem f).mp q
          exact .inr ⟨i, hi, ei⟩
      · rw [decide_eq_false mem]
        have nS : ¬ orb f n j ∈ S := fun q => mem (List.mem_append_left _ q)
        have nL : ∀ i, i < j → orb f n i ≠ orb f n j := fun i hi q => mem (List.mem_append_right _ ((orbL_mem f).mpr ⟨i, hi, q⟩))
        have hL3 : (upd H2 ds (.dK (putK ((S ++ orbL f n j).map entK) (Sum.inl (orb f n j)) (.bl true)))) L = some (.lst ((orbL f n j).map V.int)) := by
          rw [upd_ne Ld]
          exact hL2
        refine iteT ⟨_, rfl, _, rfl, ds, _, rfl, DPut.k (k := Sum.inl (orb f n j)) hs2 (by rw [List.length_map, List.length_append, ol]; unfold sizeLine; omega), ?_⟩
        refine ⟨_, rfl, .inl ⟨rfl, _, SqL.of hL3⟩, _, rfl, L, _, _, rfl, rfl, hL3, by rw [List.length_map, ol]; unfold sizeLine; omega, ?_⟩
        have hp4 : ∀ fl2, H p = some (.ins T.C_Trick dx fl2) → (upd (upd H2 ds (.dK (putK ((S ++ orbL f n j).map entK) (Sum.inl (orb f n j)) (.bl true)))) L (.lst ((orbL f n j).map V.int ++ [.int (orb f n j)]))) p = some (.ins T.C_Trick dx fl2) := fun fl2 e => by
          rw [upd_ne (ne_of_none e hL), upd_ne pd]
          exact S2 _ _ e pd
        refine ⟨_, rfl, _, rfl, p, b, t, m, _, rfl, ⟨⟨dx, hp4 _ e⟩, b1, b2, t1, t2, m1, m2⟩, ?_⟩
        rw [hf]
        refine ⟨⟨j + 1, ⟨fun i hi => ?_, fun i i2 h1 h2 => ?_⟩, ?_, ?_, fun c o g n2 => ?_, rfl⟩, ?_⟩
        · rcases Nat.lt_or_ge i j with z | z
          · exact hw.out i z
          · rw [show i = j by omega]
            exact nS
        · rcases Nat.lt_or_ge i2 j with z | z
          · exact hw.inj i i2 h1 z
          · rw [show i2 = j by omega]
            exact nL i (by omega)
        · rw [upd_same, orbL_succ, List.map_append]
          rfl
        · rw [upd_ne Ld.symm, upd_same, putK_new _ (entK_none mem), orbL_succ, ← List.append_assoc, List.map_append (l₂ := [orb f n j])]
          rfl
        · rw [upd_ne (ne_of_none g hL), upd_ne n2]
          exact S2 _ _ g n2
        · rw [hL2, upd_same]
          show 200000 - ((orbL f n j).map V.int ++ [V.int (orb f n j)]).length < 200000 - ((orbL f n j).map V.int).length
          rw [List.length_append, List.length_map, ol, List.length_singleton]
          omega
    · exact m_dnot

/-! ### the ring at the end of a path -/
def spRingEnd (T : Tx P K mg) : Sp := fun vs H Q _ => ∃ (p L : Addr) (b t m n : Int) (k i : Nat), vs = [.ref p, .ref L] ∧ TrickAt T H p b t m ∧ H L = some (.lst ((orbL (made b t m) n k).map V.int)) ∧ k ≤ 200000 ∧ i < k ∧ orb (made b t m) n i = orb (made b t m) n k ∧ (∀ i j, i < j → j < k → orb (made b t m) n i ≠ orb (made b t m) n j) ∧
  ∀ (r : List Int) (s : Nat) (q : Addr) (H' : Hp), IsRing (made b t m) r → r = orbL (made b t m) (orb (made b t m) n (i + s)) (k - i) → Same H H' → H q = none → H' q = some (.tup (r.map V.int)) → Q (.ref q) H'
theorem ok_ring_at_end (T : Tx P K mg) : FnOk P w K mg base CX0 lv_ring_at_end T.a_ring_at_end T.d_ring_at_end ["trick", "path"] (spRingEnd T) := by
  refine T.F_ring_at_end.ok sc_ring_at_end (fun vs H Q E h => ?_) (fun cdv A outer s H vs Q E hr h => ?_)
  · obtain ⟨p, L, b, t, m, n, k, i, rfl, _⟩ := h
    rfl
  · obtain ⟨p, L, b, t, m, n, k, i, rfl, a, hL, k2, hi, ei, inj, kk⟩ := h
    obtain ⟨⟨dx, e⟩, b1, b2, t1, t2, m1, m2⟩ := id a
    refine ⟨_, (pss_cons (ps_set (i := 2) sc_ring_at_end.nd rfl (Or.inl rfl) (pe_slice sl_list (pv 1) (po_some (pe_bm PySem.F.plainAttrs_list PySem.F.slot_list_index PySem.F.type_list_index mt_index (pv 1) (pa_cons (pe_call (ok_made_of T) (hr.mono (by decide)) rfl T.g_made_of T.F_made_of.kp T.b_made_of .nil pass0 (pa_cons (pv 0) (pa_cons (pe_ix ix_list (pv 1) (pe_un un_neg pe_int) (fun _ _ => rfl)) pa_nil))) pa_nil))) po_none))
      (pss_cons (ps_set (i := 3) sc_ring_at_end.nd rfl (Or.inl rfl) (pe_bm PySem.F.plainAttrs_list PySem.F.slot_list_index PySem.F.type_list_index mt_index (pv 2) (pa_cons (pe_callB (cr_min rfl) (by rfl) T.n_min (by decide +kernel) (pa_cons (pv 2) pa_nil)) pa_nil)))
      (pss_one (ps_ret (pe_callTy call_tuple_of (by rfl) T.n_tuple (by decide +kernel) (pa_cons (pe_op op_cat (pe_slice sl_list (pv 2) (po_some (pv 3)) po_none) (pe_slice sl_list (pv 2) po_none (po_some (pv 3)))) pa_nil)))))), ?_⟩
    obtain ⟨k', rfl⟩ : ∃ k', k = k' + 1 := ⟨k - 1, by omega⟩
    generalize hf : made b t m = f at *
    have hback : Back f (orb f n i) (k' + 1 - i) := Way.back f (S := fun _ => False) ⟨fun _ _ z => z, inj⟩ hi ei
    have hlast : atI ((orbL f n (k' + 1)).map V.int) (-1) = some (V.int (orb f n k')) := by
      rw [orbL_succ, List.map_append]
      exact atI_last _ _
    refine ⟨_, rfl, _, rfl, .inl ⟨rfl, _, SqL.of hL⟩, _, rfl, _, rfl, _, rfl, L, _, _, _, rfl, rfl, SqL.of hL, hlast, p, b, t, m, _, rfl, a, ?_⟩
    rw [hf, show f (orb f n k') = orb f n i from ei.symm]
    refine ⟨L, _, .int (orb f n i), i, .int (orb f n i), rfl, rfl, SqL.of hL, rfl, flat_ints _, by rw [List.getElem?_map, orbL_get f hi]; rfl, by simp [eqV], fun j z hj hz => ?_, _, rfl, L, _, rfl, SqL.of hL, fun x hx => ?_⟩
    · rw [List.getElem?_map, orbL_get f (by omega)] at hz
      cases hz
      simpa [eqV] using inj j i hj hi
    rw [cutV_drop, ← List.map_drop, show k' + 1 = i + (k' + 1 - i) by omega, orbL_drop]
    generalize hy : orb f n i = y at *
    generalize hl : k' + 1 - i = l at *
    have hX : (upd H x (.lst ((orbL f y l).map V.int))) x = some (.lst ((orbL f y l).map V.int)) := upd_same
    have SX := same_upd (o := .lst ((orbL f y l).map V.int)) hx
    generalize upd H x (HO.lst ((orbL f y l).map V.int)) = H2 at hX SX ⊢
    refine ⟨_, rfl, .inl ⟨rfl, _, SqL.of hX⟩, _, rfl, x, _, rfl, SqL.of hX, by rw [orbL_len]; exact hback.pos, fun mn hmn hle => ?_⟩
    obtain ⟨s, hs, es⟩ := (orbL_mem f).mp hmn
    refine ⟨x, _, .int mn, s, .int mn, rfl, rfl, SqL.of hX, rfl, flat_ints _, by rw [List.getElem?_map, orbL_get f hs, es]; rfl, by simp [eqV], fun j z hj hz => ?_, ?_⟩
    · rw [List.getElem?_map, orbL_get f (by omega)] at hz
      cases hz
      rw [← es]
      simpa [eqV] using hback.inj f hj hs
    refine ⟨_, rfl, _, rfl, _, rfl, x, _, rfl, SqL.of hX, fun q1 hq1 => ?_⟩
    rw [cutV_drop, ← List.map_drop]
    have S1 := same_upd (o := .lst (((orbL f y l).drop s).map V.int)) hq1
    have hX1 := S1 _ _ hX
    refine ⟨_, rfl, _, rfl, _, rfl, x, _, rfl, SqL.of hX1, fun q2 hq2 => ?_⟩
    rw [cutV_take, ← List.map_take]
    have S2 := same_upd (o := .lst (((orbL f y l).take s).map V.int)) hq2
    refine ⟨q1, q2, _, _, rfl, rfl, S2 _ _ upd_same, upd_same, ?_, fun q3 hq3 => ?_⟩
    · rw [List.length_map, List.length_map, List.length_drop, List.length_take, orbL_len]
      unfold sizeLine
      omega
    rw [← List.map_append, hback.rot f (Nat.le_of_lt hs)]
    refine ⟨q3, _, rfl, .inl ⟨SqL.of upd_same, fun q4 hq4 => ?_⟩⟩
    have ey : orb f y s = orb f n (i + s) := by rw [orb_add, hy]
    have S3 := same_upd (o := .lst ((orbL f (orb f y s) l).map V.int)) hq3
    have S4 := same_upd (o := .tup ((orbL f (orb f y s) l).map V.int)) hq4
    have SA := (SX.trans (S1.trans (S2.trans (S3.trans S4))))
    refine kk (orbL f (orb f y s) l) s q4 _ ⟨orb f y s, l, hback.on f s, fun j => ?_, rfl⟩ (by rw [ey]) SA ?_ upd_same
    · rw [es]
      refine hle _ ((orbL_mem f).mpr ⟨(s + j) % l, Nat.mod_lt _ hback.pos, ?_⟩)
      rw [back_mod f hback.back, orb_add, es]
    · cases z : H q4 with
      | none => rfl
      | some o => rw [SX _ _ z |> S1 _ _ |> S2 _ _ |> S3 _ _] at hq4; cases hq4

/-! ### where a number comes to -/
/-- the way of n: k rounds until the i-th comes again -/
structure Comes (f : Int → Int) (n : Int) (k i : Nat) : Prop where
  lt : i < k
  back : orb f n i = orb f n k
  inj : ∀ i j, i < j → j < k → orb f n i ≠ orb f n j
theorem Comes.of {f : Int → Int} {n : Int} {k : Nat} (h : Way f (· ∈ ([] : List Int)) n k) (e : Way.Ends f (· ∈ ([] : List Int)) n k) : ∃ i, Comes f n k i := by
  rcases e with z | ⟨i, hi, e⟩
  · exact nomatch z
  · exact ⟨i, hi, e, h.inj⟩
theorem Comes.way {f : Int → Int} {n : Int} {k i : Nat} (h : Comes f n k i) : Way f (fun _ => False) n k := ⟨fun _ _ z => z, h.inj⟩
theorem Comes.ring {f : Int → Int} {n : Int} {k i : Nat} (h : Comes f n k i) : Back f (orb f n i) (k - i) := h.way.back f h.lt h.back
theorem Comes.uniq {f : Int → Int} {n : Int} {k i k2 i2 : Nat} (h : Comes f n k i) (g : Comes f n k2 i2) : k = k2 ∧ i = i2 := by
  have e : k = k2 := way_uniq f h.way (.inr ⟨i, h.lt, h.back⟩) g.way (.inr ⟨i2, g.lt, g.back⟩)
  subst e
  refine ⟨rfl, ?_⟩
  rcases Nat.lt_trichotomy i i2 with z | z | z
  · exact absurd (h.back.trans g.back.symm) (h.inj i i2 z g.lt)
  · exact z
  · exact absurd (g.back.trans h.back.symm) (h.inj i2 i z h.lt)
theorem Comes.len {b t m : Int} (hB : 2 ≤ blockOf b t) (hB2 : blockOf b t ≤ 256) (m1 : -100 ≤ m) (m2 : m ≤ 100) {n : Int} (hn : ab n ≤ 10 ^ 40) {k i : Nat} (h : Comes (made b t m) n k i) : k ≤ 102600 := way_len hB hB2 m1 m2 hn h.way
/-- r is the ring in which n ends -/
def RingOf (f : Int → Int) (n : Int) (k i : Nat) (r : List Int) : Prop := IsRing f r ∧ ∃ s, r = orbL f (orb f n (i + s)) (k - i)
theorem ring_head {f : Int → Int} {x y : Int} {L M : Nat} (h : Back f x L) (g : Back f y M) (lx : ∀ j, x ≤ orb f x j) (ly : ∀ j, y ≤ orb f y j) (on : ∃ s, orb f x s = y) : orbL f x L = orbL f y M := by
  obtain ⟨s, rfl⟩ := on
  have g2 := h.on f s
  have e := Back.uniq f g2 g
  subst e
  obtain ⟨u, hu⟩ : ∃ u, orb f (orb f x s) u = x := by
    refine ⟨L - s % L, ?_⟩
    rw [← back_mod f h.back s, ← orb_add, show s % L + (L - s % L) = L by have := Nat.mod_lt s h.pos; omega, h.back]
  have a := ly u
  rw [hu] at a
  have c := lx s
  have e2 : orb f x s = x := by omega
  rw [e2]
theorem RingOf.uniq {f : Int → Int} {n : Int} {k i : Nat} (hc : Comes f n k i) {r r2 : List Int} (h : RingOf f n k i r) (g : RingOf f n k i r2) : r = r2 := by
  obtain ⟨⟨x, L, bx, lx, rfl⟩, s, e⟩ := h
  obtain ⟨⟨y, M, by_, ly, rfl⟩, s2, e2⟩ := g
  have l1 := congrArg List.length e
  have l2 := congrArg List.length e2
  rw [orbL_len, orbL_len] at l1 l2
  have p := hc.lt
  have x0 : x = orb f n (i + s) := by
    have := congrArg (fun l => l[0]?) e
    rw [orbL_get f bx.pos, orbL_get f (by omega)] at this
    exact Option.some.inj this
  have y0 : y = orb f n (i + s2) := by
    have := congrArg (fun l => l[0]?) e2
    rw [orbL_get f by_.pos, orbL_get f (by omega)] at this
    exact Option.some.inj this
  refine ring_head bx by_ lx ly ?_
  have rb := hc.ring
  rw [x0, y0]
  refine ⟨(k - i) * s + s2 - s, ?_⟩
  have hs : s ≤ (k - i) * s := Nat.le_mul_of_pos_left s (by omega)
  rw [← orb_add, show i + s + ((k - i) * s + s2 - s) = i + ((k - i) * s + s2) by omega, orb_add, orb_add f n i s2]
  rw [orb_add, Nat.mul_comm, back_mul f rb.back]
/-- of a number of a ring -/
theorem ring_self {f : Int → Int} {r : List Int} (h : IsRing f r) {x : Int} (hx : x ∈ r) : Comes f x r.length 0 ∧ RingOf f x r.length 0 r := by
  obtain ⟨y, L, b, l, rfl⟩ := h
  obtain ⟨j, hj, rfl⟩ := (orbL_mem f).mp hx
  have bj := b.on f j
  rw [orbL_len]
  refine ⟨⟨b.pos, bj.back.symm, fun a c h1 h2 => bj.inj f h1 h2⟩, ⟨y, L, b, l, rfl⟩, L - j, ?_⟩
  rw [Nat.zero_add, Nat.sub_zero, ← orb_add, show j + (L - j) = L by omega, b.back]
theorem IsRing.ne {f : Int → Int} {r : List Int} (h : IsRing f r) : r ≠ [] := by
  obtain ⟨y, L, b, l, rfl⟩ := h
  intro z
  have := congrArg List.length z
  rw [orbL_len] at this
  have := b.pos
  simp at *
  omega

/-! ### sorted(a list of tuples of ints, of any lengths but 0) -/
end
end Rt
namespace L2
open PySem PySem.Spec PyProof.Rows
def lexI : List Int → List Int → Bool
  | [], [] => false
  | [], _ :: _ => true
  | _ :: _, [] => false
  | x :: r, y :: t => decide (x < y) || (!decide (y < x) && lexI r t)
theorem lexI_lt : ∀ r t : List Int, lexLt itemOrd (r.map Sum.inl) (t.map Sum.inl) = lexI r t
  | [], [] => rfl
  | [], _ :: _ => rfl
  | _ :: _, [] => rfl
  | x :: r, y :: t => by
    show (itemOrd.blt (Sum.inl x) (Sum.inl y) || (!itemOrd.blt (Sum.inl y) (Sum.inl x) && lexLt itemOrd (r.map Sum.inl) (t.map Sum.inl))) = _
    rw [lexI_lt r t]
    rfl
theorem lexI_total {r t : List Int} (h1 : lexI r t = false) (h2 : lexI t r = false) : r = t := by
  rw [← lexI_lt] at h1 h2
  have := lex_total (O := itemOrd) _ _ h1 h2
  exact (List.map_inj_right (fun a b e => by injection e)).mp this
theorem lexI_trans {r t u : List Int} (h1 : lexI t r = false) (h2 : lexI u t = false) : lexI u r = false := by
  rw [← lexI_lt] at h1 h2 ⊢
  cases e : lexLt itemOrd (u.map Sum.inl) (r.map Sum.inl) with
  | false => rfl
  | true =>
    rcases lex_negTrans (O := itemOrd) _ (t.map Sum.inl) _ e with z | z
    · rw [h2] at z; cases z
    · rw [h1] at z; cases z
theorem lexI_irrefl (r : List Int) : lexI r r = false := by
  rw [← lexI_lt]
  exact lex_irrefl _
theorem tupItems_ints {i : Nat} : ∀ {ns : List Int} {us : List Value}, Vals (ns.map V.int) us → tupItems (fun _ => false) i us = some (ns.map Sum.inl) := by
  intro ns
  induction ns generalizing i with
  | nil => intro us h; cases h; rfl
  | cons n ns ih =>
    intro us h
    cases h with
    | cons r t =>
      obtain ⟨tk, rfl⟩ := r
      show (if (false : Bool) = true then none else (tupItems (fun _ => false) (i + 1) _).map (Sum.inl n :: ·)) = _
      rw [if_neg Bool.false_ne_true, ih t]
      rfl
def rSortTG (K : PySem.W.Frag) : List V → Hp → VK → Prop := fun vs H Q => ∃ (a : Addr) (ps : List Addr) (c : Addr → List Int), vs = [.ref a] ∧ SqL K H a (ps.map V.ref) ∧ (∀ p ∈ ps, H p = some (.tup ((c p).map V.int)) ∧ c p ≠ []) ∧
  ∀ (qs : List Addr) (D : Addr), qs.Perm ps → qs.Pairwise (fun x y => lexI (c y) (c x) = false) → H D = none → Q (.ref D) (upd H D (.lst (qs.map V.ref)))
def refOf0 : Value → Addr
  | .ref a => a
  | _ => 0
theorem vals_refs0 : ∀ {ps : List Addr} {us : List Value}, Vals (ps.map V.ref) us → us = ps.map Value.ref
  | [], _, h => by cases h; rfl
  | p :: ps, _, h => by
    cases h with
    | cons r t =>
      cases r
      rw [vals_refs0 t]
      rfl
theorem vals_of_refs0 : ∀ ps : List Addr, Vals (ps.map V.ref) (ps.map Value.ref)
  | [] => .nil
  | p :: ps => .cons rfl (vals_of_refs0 ps)
section
variable {X : Cx}
/-- tuples of ints in the heap, as sort keys -/
theorem tups_at {pins : List (Addr × Obj)} {σ : St} {H : Hp} {s : Shared} {ps : List Addr} {c : Addr → List Int} (I : Inv X pins σ H s) (hc : ∀ p ∈ ps, H p = some (.tup ((c p).map V.int)) ∧ c p ≠ []) :
    (∀ p ∈ ps, PyProof.Rows.G.tupKeyC s.heap (fun _ => false) (.ref p) = some ((c p).map Sum.inl)) ∧ ∃ fs, TupsOf s.heap (fun _ => false) (ps.map Value.ref) fs := by
  have obj : ∀ p ∈ ps, ∃ o xs n, s.heap.get? p = some o ∧ o.cls = .type "tuple" ∧ o.data = .seq xs n ∧ Vals ((c p).map V.int) xs.toList := fun p hp => by
    obtain ⟨_, us, ru, o, ho, hcl, n, hd⟩ := I.hok _ _ (hc p hp).1
    exact ⟨o, us.toArray, n, ho, hcl, hd, by simpa using ru⟩
  have key : ∀ p ∈ ps, PyProof.Rows.G.tupKeyC s.heap (fun _ => false) (.ref p) = some ((c p).map Sum.inl) := fun p hp => by
    obtain ⟨o, xs, n, ho, hcl, hd, hv⟩ := obj p hp
    unfold PyProof.Rows.G.tupKeyC
    rw [if_pos (by simp [PyProof.Rows.G.isTupObj, ho, hcl])]
    simp only [tupKey, ho, hd]
    exact tupItems_ints hv
  have tof : ∀ l : List Addr, (∀ p ∈ l, p ∈ ps) → ∃ fs, TupsOf s.heap (fun _ => false) (l.map Value.ref) fs := by
    intro l
    induction l with
    | nil => exact fun _ => ⟨[], .nil⟩
    | cons p l ih =>
      intro hl2
      obtain ⟨fs, hfs⟩ := ih fun x hx => hl2 x (List.mem_cons_of_mem _ hx)
      obtain ⟨o, xs, n, ho, hcl, hd, hv⟩ := obj p (hl2 p List.mem_cons_self)
      have ne := (hc p (hl2 p List.mem_cons_self)).2
      generalize c p = cp at hv ne
      cases cp with
      | nil => exact absurd rfl ne
      | cons x r =>
        generalize hx : xs.toList = xl at hv
        cases hv with
        | cons r1 t1 =>
          obtain ⟨tk, rfl⟩ := r1
          refine ⟨_ :: fs, .cons ⟨p, o, xs, n, rfl, ho, hcl, hd, ?_, fun _ => ⟨x, tk, rfl⟩, fun z => nomatch z⟩ hfs⟩
          rw [← Array.getElem?_toList, hx]
          rfl
  exact ⟨key, tof ps fun _ h => h⟩
/-- what the sort leaves -/
theorem out_tups {s : Shared} {st : SortSt} {ps : List Addr} {c : Addr → List Int} (key : ∀ p ∈ ps, PyProof.Rows.G.tupKeyC s.heap (fun _ => false) (.ref p) = some ((c p).map Sum.inl)) (pm : (arrOf st).Perm (pairsOf (ps.map Value.ref)))
    (so : SortedToK (PyProof.Rows.G.tupKindC s.heap (fun _ => false)) (arrOf st) (pairsOf (ps.map Value.ref)).size) :
    ((arrOf st).map (·.2)).toList = ((arrOf st).toList.map fun e => refOf0 e.1).map Value.ref ∧ ((arrOf st).toList.map fun e => refOf0 e.1).Perm ps ∧ ((arrOf st).toList.map fun e => refOf0 e.1).Pairwise (fun x y => lexI (c y) (c x) = false) := by
  have pml := pm.toList
  rw [pairsOf_toList] at pml
  generalize hA : arrOf st = A at *
  have mem : ∀ e ∈ A.toList, e.1 = e.2 ∧ ∃ p ∈ ps, e.1 = Value.ref p := fun e he => by
    obtain ⟨e1, e2⟩ := mem_zip_self (pml.mem_iff.mp he)
    obtain ⟨p, hp, e3⟩ := List.mem_map.mp e2
    exact ⟨e1, p, hp, e3.symm⟩
  have outl : (A.map (·.2)).toList = (A.toList.map fun e => refOf0 e.1).map Value.ref := by
    rw [Array.toList_map, List.map_map]
    refine List.map_congr_left fun e he => ?_
    obtain ⟨e1, p, _, e2⟩ := mem e he
    show e.2 = Value.ref (refOf0 e.1)
    rw [← e1, e2]
    rfl
  have perm : (A.toList.map fun e => refOf0 e.1).Perm ps := by
    have z := pml.map fun e => refOf0 e.1
    rw [show (((ps.map Value.ref).zip (ps.map Value.ref)).map fun e => refOf0 e.1) = ps from by
      have : ∀ l : List Addr, (((l.map Value.ref).zip (l.map Value.ref)).map fun e => refOf0 e.1) = l := by
        intro l
        induction l with
        | nil => rfl
        | cons x l ih => exact congrArg (x :: ·) ih
      exact this ps] at z
    exact z
  have sz : A.size = (pairsOf (ps.map Value.ref)).size := pm.size_eq
  have sorted : (A.toList.map fun e => refOf0 e.1).Pairwise (fun x y => lexI (c y) (c x) = false) := by
    rw [List.pairwise_map, List.pairwise_iff_getElem]
    intro i j hi hj hij
    have h1 := so i j (Nat.le_of_lt hij) (by rw [← sz]; rwa [Array.length_toList] at hj)
    have kk : ∀ i (hi : i < A.toList.length), KK (PyProof.Rows.G.tupKindC s.heap (fun _ => false)) A i = (c (refOf0 A.toList[i].1)).map Sum.inl := fun i hi => by
      obtain ⟨_, p, hp, e2⟩ := mem _ (List.getElem_mem hi)
      unfold KK
      rw [← Array.getElem?_toList, List.getElem?_eq_getElem hi]
      show (PyProof.Rows.G.tupKeyC s.heap (fun _ => false) A.toList[i].1).getD [] = _
      rw [e2, key p hp]
      rfl
    rw [kk i hi, kk j hj] at h1
    rw [← lexI_lt]
    exact h1
  exact ⟨outl, perm, sorted⟩
theorem cr_sortTG : CallR X (.builtin "sorted") (rSortTG X.K) := by
  intro pins s σ H vs us Q I r h
  obtain ⟨a, ps, c, rfl, hs, hc, q⟩ := h
  obtain ⟨its, rv, hl, hz⟩ := I.list hs
  have eits := vals_refs0 rv
  subst eits
  rw [Vals.ref1 r]
  obtain ⟨key, fs, hfs⟩ := tups_at I hc
  refine PyProof.Rows.G.sorted_tups (shape := fun _ => false) (vs := ps.map Value.ref) (fs := fs) hl.isList hfs (fun v hv => ?_) (by rw [List.length_map] at hz ⊢; exact hz) fun st pm so _ => ?_
  · obtain ⟨p, hp, rfl⟩ := List.mem_map.mp hv
    exact ⟨_, key p hp⟩
  · obtain ⟨outl, perm, sorted⟩ := out_tups key pm so
    generalize hA : arrOf st = A at *
    obtain ⟨ep, he⟩ := PyProof.Rows.sortedAll_at s.heap (ps.map Value.ref) (A.map (·.2))
    refine ⟨.ref _, upd H (s.heap.objs.size + 1) (.lst ((A.toList.map fun e => refOf0 e.1).map V.ref)), I.laid (t' := s.toks) (fun _ _ => PyProof.Rows.sortedAll_old) (Nat.le_succ _) ⟨?_, (A.toList.map fun e => refOf0 e.1).map Value.ref, ep, vals_of_refs0 _, ?_⟩, rfl, q _ _ perm sorted (I.hok.fresh (Nat.le_succ _))⟩
    · rw [List.length_map, perm.length_eq]
      rwa [List.length_map] at hz
    · rw [← outl]
      exact he
end
end L2
namespace Rt
open PySem L2 PySem.Spec PyProof.Rows
section
variable {P : Program} {w : World} {K : PySem.W.Frag} {mg : Str → Option Value} {base : Heap}

/-! ### all rings -/
def RsAt (H : Hp) : List Addr → List (List Int) → Prop
  | [], [] => True
  | p :: ps, r :: rs => H p = some (.tup (r.map V.int)) ∧ RsAt H ps rs
  | _, _ => False
theorem RsAt.of {H H2 : Hp} (S : ∀ c xs, H c = some (.tup xs) → H2 c = some (.tup xs)) : ∀ {ps : List Addr} {rs : List (List Int)}, RsAt H ps rs → RsAt H2 ps rs
  | [], [], _ => trivial
  | _ :: _, _ :: _, ⟨h, r⟩ => ⟨S _ _ h, r.of S⟩
  | [], _ :: _, h => h.elim
  | _ :: _, [], h => h.elim
theorem RsAt.snoc {H : Hp} {q : Addr} {r : List Int} (hq : H q = some (.tup (r.map V.int))) : ∀ {ps : List Addr} {rs : List (List Int)}, RsAt H ps rs → RsAt H (ps ++ [q]) (rs ++ [r])
  | [], [], _ => ⟨hq, trivial⟩
  | _ :: _, _ :: _, ⟨h1, h2⟩ => ⟨h1, h2.snoc hq⟩
  | [], _ :: _, h => h.elim
  | _ :: _, [], h => h.elim
theorem RsAt.len {H : Hp} : ∀ {ps : List Addr} {rs : List (List Int)}, RsAt H ps rs → ps.length = rs.length
  | [], [], _ => rfl
  | _ :: _, _ :: _, ⟨_, r⟩ => congrArg Nat.succ r.len
  | [], _ :: _, h => h.elim
  | _ :: _, [], h => h.elim
theorem RsAt.at {H : Hp} : ∀ {ps : List Addr} {rs : List (List Int)}, RsAt H ps rs → ∀ {i : Nat} {p : Addr}, ps[i]? = some p → ∃ r, rs[i]? = some r ∧ H p = some (.tup (r.map V.int))
  | [], [], _, i, p, h => by cases h
  | _ :: _, r :: _, ⟨h1, _⟩, 0, p, h => by
    cases h
    exact ⟨r, rfl, h1⟩
  | _ :: _, _ :: _, ⟨_, h2⟩, i + 1, p, h => h2.at (i := i) h
  | [], _ :: _, h, _, _, _ => h.elim
  | _ :: _, [], h, _, _, _ => h.elim
def intOf0 : V → Int
  | .int i => i
  | _ => 0
/-- the ints of the tuple at an address -/
def cont (H : Hp) (p : Addr) : List Int := match H p with
  | some (.tup xs) => xs.map intOf0
  | _ => []
theorem cont_at {H : Hp} {p : Addr} {r : List Int} (h : H p = some (.tup (r.map V.int))) : cont H p = r := by
  unfold cont
  rw [h]
  show (r.map V.int).map intOf0 = r
  rw [List.map_map]
  exact List.map_id _
theorem RsAt.cont {H : Hp} : ∀ {ps : List Addr} {rs : List (List Int)}, RsAt H ps rs → rs = ps.map (Rt.cont H) ∧ ∀ p ∈ ps, H p = some (.tup ((Rt.cont H p).map V.int))
  | [], [], _ => ⟨rfl, fun _ h => nomatch h⟩
  | p :: ps, r :: rs, ⟨h1, h2⟩ => by
    obtain ⟨e1, e2⟩ := h2.cont
    refine ⟨by rw [List.map_cons, ← e1, cont_at h1], fun x hx => ?_⟩
    rcases List.mem_cons.mp hx with z | z
    · rw [z, cont_at h1]
      exact h1
    · exact e2 x z
  | [], _ :: _, h => h.elim
  | _ :: _, [], h => h.elim
theorem RsAt.back {H : Hp} : ∀ {ps : List Addr}, (∀ p ∈ ps, H p = some (.tup ((Rt.cont H p).map V.int))) → RsAt H ps (ps.map (Rt.cont H))
  | [], _ => trivial
  | p :: ps, h => ⟨h p List.mem_cons_self, RsAt.back fun x hx => h x (List.mem_cons_of_mem _ hx)⟩
section
variable {f : Int → Int}
theorem IsRing.on {r : List Int} (h : IsRing f r) {x : Int} (hx : x ∈ r) (j : Nat) : orb f x j ∈ r := by
  obtain ⟨y, L, b, l, rfl⟩ := h
  obtain ⟨s, hs, rfl⟩ := (orbL_mem f).mp hx
  rw [← orb_add]
  exact (orbL_mem f).mpr ⟨(s + j) % L, Nat.mod_lt _ b.pos, back_mod f b.back _⟩
theorem IsRing.share {r r2 : List Int} (h : IsRing f r) (g : IsRing f r2) {x : Int} (h1 : x ∈ r) (h2 : x ∈ r2) : r = r2 := by
  obtain ⟨a1, b1⟩ := ring_self h h1
  obtain ⟨a2, b2⟩ := ring_self g h2
  have e := (a1.uniq a2).1
  rw [← e] at b2
  exact b1.uniq a1 b2
/-- from any number on there is one -/
theorem Comes.isRing {n : Int} {k i : Nat} (h : Comes f n k i) : ∃ r, RingOf f n k i r ∧ orb f n i ∈ r := by
  have b := h.ring
  have key : ∀ L : Nat, 0 < L → ∃ s, s < L ∧ ∀ j, j < L → orb f (orb f n i) s ≤ orb f (orb f n i) j := by
    intro L
    induction L with
    | zero => intro z; omega
    | succ L ih =>
      intro _
      rcases Nat.eq_zero_or_pos L with z | z
      · subst z
        exact ⟨0, by omega, fun j hj => by rw [show j = 0 by omega]; exact Int.le_refl _⟩
      · obtain ⟨s, hs, hm⟩ := ih z
        rcases Int.lt_or_le (orb f (orb f n i) L) (orb f (orb f n i) s) with q | q
        · refine ⟨L, by omega, fun j hj => ?_⟩
          rcases Nat.lt_or_ge j L with y | y
          · have := hm j y
            omega
          · rw [show j = L by omega]
            exact Int.le_refl _
        · refine ⟨s, by omega, fun j hj => ?_⟩
          rcases Nat.lt_or_ge j L with y | y
          · exact hm j y
          · rw [show j = L by omega]
            exact q
  obtain ⟨s, hs, hm⟩ := key (k - i) b.pos
  have ir : IsRing f (orbL f (orb f (orb f n i) s) (k - i)) := by
    refine ⟨_, k - i, b.on f s, fun j => ?_, rfl⟩
    rw [← orb_add f (orb f n i) s j, ← back_mod f b.back (s + j)]
    exact hm _ (Nat.mod_lt _ b.pos)
  refine ⟨_, ⟨ir, s, by rw [orb_add]⟩, ?_⟩
  refine (orbL_mem f).mpr ⟨(k - i - s) % (k - i), Nat.mod_lt _ b.pos, ?_⟩
  rw [back_mod f (b.on f s).back, ← orb_add, show s + (k - i - s) = k - i by omega, b.back]
/-- what is known behind the numbers S: closed; of their rings each once -/
structure Known (f : Int → Int) (S : List Int) (F : List (List Int)) : Prop where
  nodup : S.Nodup
  closed : ∀ x ∈ S, f x ∈ S
  once : F.Nodup
  mem : ∀ r, r ∈ F ↔ IsRing f r ∧ ∃ x ∈ r, x ∈ S
theorem Known.orb {S : List Int} {F : List (List Int)} (h : Known f S F) {x : Int} (hx : x ∈ S) : ∀ j, Rt.orb f x j ∈ S
  | 0 => hx
  | j + 1 => h.closed _ (h.orb hx j)
theorem Known.nil : Known f [] [] := ⟨List.nodup_nil, fun _ h => (nomatch h), List.nodup_nil, fun r => ⟨fun h => (nomatch h), fun ⟨_, x, _, h⟩ => (nomatch h)⟩⟩
theorem Known.path {S : List Int} {F : List (List Int)} (h : Known f S F) {n : Int} {k : Nat} (w : Way f (· ∈ S) n k) (e : Way.Ends f (· ∈ S) n k) : (S ++ orbL f n k).Nodup ∧ ∀ x ∈ S ++ orbL f n k, f x ∈ S ++ orbL f n k := by
  refine ⟨List.nodup_append.mpr ⟨h.nodup, w.nodup, fun x hx y hy z => ?_⟩, fun x hx => ?_⟩
  · obtain ⟨j, hj, rfl⟩ := (orbL_mem f).mp hy
    exact w.out j hj (z ▸ hx)
  · rcases List.mem_append.mp hx with z | z
    · exact List.mem_append_left _ (h.closed x z)
    · obtain ⟨j, hj, rfl⟩ := (orbL_mem f).mp z
      rcases Nat.lt_or_ge (j + 1) k with q | q
      · exact List.mem_append_right _ ((orbL_mem f).mpr ⟨j + 1, q, rfl⟩)
      · have ek : j + 1 = k := by omega
        subst ek
        rcases e with e | ⟨i, hi, e⟩
        · exact List.mem_append_left _ e
        · exact List.mem_append_right _ ((orbL_mem f).mpr ⟨i, hi, e⟩)
theorem Known.old {S : List Int} {F : List (List Int)} (h : Known f S F) {n : Int} {k : Nat} (w : Way f (· ∈ S) n k) (e : Rt.orb f n k ∈ S) : Known f (S ++ orbL f n k) F := by
  obtain ⟨p1, p2⟩ := h.path w (.inl e)
  refine ⟨p1, p2, h.once, fun r => ?_⟩
  rw [h.mem]
  constructor
  · rintro ⟨ir, x, h1, h2⟩
    exact ⟨ir, x, h1, List.mem_append_left _ h2⟩
  · rintro ⟨ir, x, h1, h2⟩
    refine ⟨ir, ?_⟩
    rcases List.mem_append.mp h2 with z | z
    · exact ⟨x, h1, z⟩
    · obtain ⟨j, hj, rfl⟩ := (orbL_mem f).mp z
      have := ir.on h1 (k - j)
      rw [← orb_add, show j + (k - j) = k by omega] at this
      exact ⟨_, this, e⟩
theorem Known.new {S : List Int} {F : List (List Int)} (h : Known f S F) {n : Int} {k i : Nat} (w : Way f (· ∈ S) n k) (c : Comes f n k i) {r : List Int} (hr : RingOf f n k i r) : Known f (S ++ orbL f n k) (F ++ [r]) := by
  obtain ⟨p1, p2⟩ := h.path w (.inr ⟨i, c.lt, c.back⟩)
  obtain ⟨r0, hr0, m0⟩ := c.isRing
  have er := hr0.uniq c hr
  subst er
  refine ⟨p1, p2, List.nodup_append.mpr ⟨h.once, List.nodup_cons.mpr ⟨List.not_mem_nil, List.nodup_nil⟩, fun x hx y hy z => ?_⟩, fun q => ?_⟩
  · rw [List.mem_singleton.mp hy] at z
    subst z
    obtain ⟨ir, y, h1, h2⟩ := (h.mem x).mp hx
    obtain ⟨⟨a, L, b, _, e⟩, _⟩ := hr
    obtain ⟨j, hj, ej⟩ : ∃ j, j < x.length ∧ Rt.orb f y j = Rt.orb f n i := by
      obtain ⟨a1, L1, b1, l1, e1⟩ := id ir
      rw [e1] at h1 m0
      obtain ⟨s, hs, es⟩ := (orbL_mem f).mp h1
      obtain ⟨t, ht, et⟩ := (orbL_mem f).mp m0
      refine ⟨(L1 - s + t) % L1, by rw [e1, orbL_len]; exact Nat.mod_lt _ b1.pos, ?_⟩
      rw [← es, back_mod f (b1.on f s).back, ← orb_add, show s + (L1 - s + t) = L1 + t by omega, orb_add, b1.back, et]
    have := h.orb h2 j
    rw [ej] at this
    exact w.out i c.lt this
  · rw [List.mem_append, List.mem_singleton, h.mem]
    constructor
    · rintro (⟨ir, x, h1, h2⟩ | rfl)
      · exact ⟨ir, x, h1, List.mem_append_left _ h2⟩
      · exact ⟨hr.1, _, m0, List.mem_append_right _ ((orbL_mem f).mpr ⟨i, c.lt, rfl⟩)⟩
    · rintro ⟨ir, x, h1, h2⟩
      rcases List.mem_append.mp h2 with z | z
      · exact .inl ⟨ir, x, h1, z⟩
      · obtain ⟨j, hj, rfl⟩ := (orbL_mem f).mp z
        have := ir.on h1 (k - j)
        rw [← orb_add, show j + (k - j) = k by omega, ← c.back] at this
        exact .inr (ir.share hr.1 this m0)
end
/-- each ring has a number of a small size -/
theorem ring_small {b t m M : Int} (hM : BoundOf b t m M) {r : List Int} (h : IsRing (made b t m) r) : ∃ x ∈ r, ab x ≤ M := by
  have key : ∀ N : Nat, ∀ x ∈ r, (ab x).toNat ≤ N → ∃ y ∈ r, ab y ≤ M := by
    intro N
    induction N with
    | zero =>
      intro x hx hN
      have := ab_nonneg x
      have := hM.nn
      exact ⟨x, hx, by omega⟩
    | succ N ih =>
      intro x hx hN
      rcases Int.lt_or_le M (ab x) with z | z
      · have := hM.more x z
        have := ab_nonneg (made b t m x)
        exact ih _ (h.on hx 1) (by show (ab (made b t m x)).toNat ≤ N; omega)
      · exact ⟨x, hx, z⟩
  obtain ⟨y, L, b1, l, e⟩ := id h
  have my : y ∈ r := by
    rw [e]
    exact (orbL_mem _).mpr ⟨0, b1.pos, rfl⟩
  exact key _ y my (Nat.le_refl _)
theorem bound_small {b t m M : Int} (hB : 2 ≤ blockOf b t) (hB2 : blockOf b t ≤ 256) (m1 : -100 ≤ m) (m2 : m ≤ 100) (hM : BoundOf b t m M) : M ≤ 51002 := by
  rcases Int.lt_or_le 0 M with z | z
  · obtain ⟨n, h1, h2⟩ := hM.at_ z
    have := made_half hB hB2 m1 m2 (n := n)
    omega
  · omega

/-! ### rings(trick) -/
/-- all rings, ascending -/
structure AllRings (f : Int → Int) (R : List (List Int)) : Prop where
  asc : R.Pairwise (fun x y => lexI y x = false)
  once : R.Nodup
  mem : ∀ r, r ∈ R ↔ IsRing f r
theorem AllRings.uniq {f : Int → Int} {R R2 : List (List Int)} (h : AllRings f R) (g : AllRings f R2) : R = R2 := by
  have key : ∀ {R R2 : List (List Int)}, R.Pairwise (fun x y => lexI y x = false) → R2.Pairwise (fun x y => lexI y x = false) → R.Nodup → R2.Nodup → (∀ r, r ∈ R ↔ r ∈ R2) → R = R2 := by
    intro R
    induction R with
    | nil =>
      intro R2 _ _ _ _ m
      cases R2 with
      | nil => rfl
      | cons y _ => exact absurd ((m y).mpr List.mem_cons_self) List.not_mem_nil
    | cons x R ih =>
      intro R2 h1 h2 n1 n2 m
      cases R2 with
      | nil => exact absurd ((m x).mp List.mem_cons_self) List.not_mem_nil
      | cons y R2 =>
        obtain ⟨a1, a2⟩ := List.pairwise_cons.mp h1
        obtain ⟨b1, b2⟩ := List.pairwise_cons.mp h2
        obtain ⟨c1, c2⟩ := List.nodup_cons.mp n1
        obtain ⟨d1, d2⟩ := List.nodup_cons.mp n2
        have e : x = y := by
          rcases List.mem_cons.mp ((m x).mp List.mem_cons_self) with z | z
          · exact z
          · rcases List.mem_cons.mp ((m y).mpr List.mem_cons_self) with z2 | z2
            · exact z2.symm
            · exact lexI_total (b1 x z) (a1 y z2)
        subst e
        rw [ih a2 b2 c2 d2 fun r => ?_]
        constructor
        · intro hr
          rcases List.mem_cons.mp ((m r).mp (List.mem_cons_of_mem _ hr)) with z | z
          · exact absurd (z ▸ hr) c1
          · exact z
        · intro hr
          rcases List.mem_cons.mp ((m r).mpr (List.mem_cons_of_mem _ hr)) with z | z
          · exact absurd (z ▸ hr) d1
          · exact z
  exact key h.asc g.asc h.once g.once fun r => (h.mem r).trans (g.mem r).symm
def spRings (T : Tx P K mg) : Sp := fun vs H Q _ => ∃ (p : Addr) (b t m : Int), vs = [.ref p] ∧ TrickAt T H p b t m ∧ ∀ (R : List (List Int)) (qs : List Addr) (D : Addr) (H' : Hp), AllRings (made b t m) R → H D = none → R.length ≤ 110000 → Same H H' → H' D = some (.lst (qs.map V.ref)) → RsAt H' qs R → Q (.ref D) H'
theorem ok_rings (T : Tx P K mg) : FnOk P w K mg base (L2.CX P w) lv_rings T.a_rings T.d_rings ["trick"] (spRings T) := by
  refine T.F_rings.okX sc_rings (fun vs H Q E h => ?_) (fun cdv A outer s H vs Q E hr h => ?_)
  · obtain ⟨p, b, t, m, rfl, _⟩ := h
    rfl
  · obtain ⟨p, b, t, m, rfl, a, kk⟩ := h
    obtain ⟨⟨dx, e⟩, b1, b2, t1, t2, m1, m2⟩ := id a
    obtain ⟨B1, B2⟩ := block_bd (t := t) b1 b2
    refine ⟨_, (pss_cons (ps_set (i := 1) sc_rings.nd rfl (Or.inl rfl) (pe_call (ok_bound T) (hr.mono (by decide)) rfl T.g_bound T.F_bound.kp T.b_bound .nil (passes_call (takes_of rfl rfl rfl rfl) fun _ _ _ _ h => h) (pa_cons (pv 0) pa_nil)))
      (pss_cons (ps_set (i := 2) sc_rings.nd rfl (Or.inl rfl) pe_dnewK)
      (pss_cons (ps_set (i := 3) sc_rings.nd rfl (Or.inl rfl) (pe_lst pa_nil))
      (pss_cons (ps_for (passes_of rfl) rfl (pi_range2 (by rfl) T.n_range (pa_cons (pe_un un_neg (pv 1)) (pa_cons (pe_op op_add (pv 1) pe_int) pa_nil))) (pg_name (i := 4) sc_rings.nd rfl (Or.inl rfl)) (pss_cons (ps_set (i := 5) sc_rings.nd rfl (Or.inl rfl) (pe_call (ok_unseen_path T) (hr.mono (by decide)) rfl T.g_unseen_path T.F_unseen_path.kp T.b_unseen_path .nil pass0 (pa_cons (pv 0) (pa_cons (pv 4) (pa_cons (pv 2) pa_nil)))))
      (pss_one (ps_if (PW.pt (pw_and (pt_truth (pv 5) (by intro _; rfl)) (pw_and1 (pt_cmpR op_in_seq (pe_call (ok_made_of T) (hr.mono (by decide)) rfl T.g_made_of T.F_made_of.kp T.b_made_of .nil pass0 (pa_cons (pv 0) (pa_cons (pe_ix ix_list (pv 5) (pe_un un_neg pe_int) (fun _ _ => rfl)) pa_nil))) (pv 5) (by with_unfolding_all rfl))))) (pss_one (ps_expr (pe_bm PySem.F.plainAttrs_list PySem.F.slot_list_append PySem.F.type_list_append mt_append (pv 3) (pa_cons (pe_call (ok_ring_at_end T) (hr.mono (by decide)) rfl T.g_ring_at_end T.F_ring_at_end.kp T.b_ring_at_end .nil pass0 (pa_cons (pv 0) (pa_cons (pv 5) pa_nil))) pa_nil)))) pss_nil))))
      (pss_one (ps_ret (pe_callB cr_sortTG (by rfl) T.n_sorted (by decide +kernel) (pa_cons (pv 3) pa_nil)))))))), ?_⟩
    refine ⟨_, rfl, p, b, t, m, rfl, a, fun M H1 hM S1 => ?_⟩
    have hM2 := bound_small B1 B2 m1 m2 hM
    have hM0 := hM.nn
    refine fun ds hds => ⟨by show 0 ≤ sizeLine; decide, fun L hL => ?_⟩
    have neL : ds ≠ L := ne_of_none upd_same hL
    have nds : H ds = none := by
      cases z : H ds with
      | none => rfl
      | some o => rw [S1 _ _ z] at hds; cases hds
    have nL : H L = none := by
      cases z : H L with
      | none => rfl
      | some o => rw [same_upd hds _ _ (S1 _ _ z)] at hL; cases hL
    refine ⟨_, rfl, _, rfl, _, rfl, _, _, rfl, rfl, _, _, rfl, ⟨by omega, by omega, by omega, by omega⟩, ?_⟩
    refine for_range (lo := -M) (n := (M + 1 - -M).toNat) (fun i σ H2 => ∃ (x4 x5 : Option V) (S : List Int) (F : List (List Int)) (fs : List Addr), Same H H2 ∧ H2 ds = some (.dK (S.map entK)) ∧ Known (made b t m) S F ∧ (∀ x ∈ S, ab x ≤ 51204) ∧ (∀ x, -M ≤ x → x < -M + (i : Int) → x ∈ S) ∧ H2 L = some (.lst (fs.map V.ref)) ∧ RsAt H2 fs F ∧ fs.length ≤ i ∧
        σ = [some (.ref p), some (.int M), some (.ref ds), some (.ref L), x4, x5]) ?_ ?_ ?_
    · refine ⟨none, none, [], [], [], fun c o g => ?_, ?_, Known.nil, fun x hx => (nomatch hx), fun x h1 h2 => by omega, upd_same, trivial, Nat.le_refl _, rfl⟩
      · exact same_upd hL _ _ (same_upd hds _ _ (S1 _ _ g))
      · rw [upd_ne neL]
        exact upd_same
    · rintro i σ H2 hi ⟨x4, x5, S, F, fs, S2, hs2, kn, sb, st, hL2, rs, fl, rfl⟩
      have hS : S.length ≤ 102409 := by
        have := pigL (boxC 51204) S kn.nodup fun x hx => mem_boxC (sb x hx)
        rwa [boxC_len] at this
      have abn : ab (-M + (i : Int)) ≤ 51204 := by
        unfold ab
        split <;> omega
      refine ⟨_, rfl, _, rfl, _, rfl, p, ds, b, t, m, -M + (i : Int), S, rfl, a.same S2, by omega, hs2, by omega, fun k P2 H3 hw he kl nP hP hs3 S3 => ?_⟩
      generalize hn : -M + (i : Int) = n at *
      have S03 : Same H H3 := fun c o g => S3 c o (S2 _ _ g) (ne_of_none g nds)
      have hL3 := S3 _ _ hL2 neL.symm
      have rs3 : RsAt H3 fs F := rs.of fun c xs g => S3 _ _ g (ne_of g hs2 (by intro z; cases z))
      have near : ∀ j, ab (orb (made b t m) n j) ≤ 51204 := by
        intro j
        induction j with
        | zero => exact abn
        | succ j ih =>
          have := made_half B1 B2 m1 m2 (n := orb (made b t m) n j)
          show ab (made b t m (orb (made b t m) n j)) ≤ 51204
          omega
      have sb3 : ∀ x ∈ S ++ orbL (made b t m) n k, ab x ≤ 51204 := fun x hx => by
        rcases List.mem_append.mp hx with z | z
        · exact sb x z
        · obtain ⟨j, _, rfl⟩ := (orbL_mem _).mp z
          exact near j
      have nS : n ∈ S ++ orbL (made b t m) n k := by
        rcases Nat.eq_zero_or_pos k with z | z
        · subst z
          rcases he with he | ⟨i2, hi2, _⟩
          · exact List.mem_append_left _ he
          · omega
        · exact List.mem_append_right _ ((orbL_mem _).mpr ⟨0, z, rfl⟩)
      have st3 : ∀ x, -M ≤ x → x < -M + ((i + 1 : Nat) : Int) → x ∈ S ++ orbL (made b t m) n k := fun x h1 h2 => by
        rcases Int.lt_or_le x n with z | z
        · exact List.mem_append_left _ (st x h1 (by omega))
        · rw [show x = n by omega]
          exact nS
      rcases Nat.eq_zero_or_pos k with z | z
      · subst z
        have hm : n ∈ S := by
          rcases he with he | ⟨i2, hi2, _⟩
          · exact he
          · omega
        have e0 : S ++ orbL (made b t m) n 0 = S := List.append_nil S
        rw [e0] at hs3 st3
        refine ⟨_, rfl, _, .inl ⟨_, SqL.of hP, rfl⟩, iteF (iteF ⟨_, _, S, F, fs, S03, hs3, kn, sb, st3, hL3, rs3, by omega, rfl⟩)⟩
      · obtain ⟨k', rfl⟩ : ∃ k', k = k' + 1 := ⟨k - 1, by omega⟩
        have hlast : atI ((orbL (made b t m) n (k' + 1)).map V.int) (-1) = some (V.int (orb (made b t m) n k')) := by
          rw [orbL_succ, List.map_append]
          exact atI_last _ _
        have ne : (!((orbL (made b t m) n (k' + 1)).map V.int).isEmpty) = true := by
          rw [orbL_succ, List.map_append]
          cases (orbL (made b t m) n k').map V.int <;> rfl
        refine ⟨_, rfl, _, .inl ⟨_, SqL.of hP, rfl⟩, ?_⟩
        rw [ne]
        refine iteT ⟨_, rfl, _, rfl, _, rfl, P2, _, _, _, rfl, rfl, SqL.of hP, hlast, p, b, t, m, _, rfl, a.same S03, _, rfl, P2, _, rfl, .inl (SqL.of hP), rfl, flat_ints _, _, rfl, ?_⟩
        refine ite2 (fun g => ?_) (fun g => ?_)
        · have g : inV (.int (orb (made b t m) n (k' + 1))) ((orbL (made b t m) n (k' + 1)).map V.int) = true := g
          rw [inV_ints] at g
          obtain ⟨i2, hi2, ei2⟩ := (orbL_mem _).mp (List.elem_iff.mp g)
          have hc : Comes (made b t m) n (k' + 1) i2 := ⟨hi2, ei2, hw.inj⟩
          refine ⟨_, rfl, .inl ⟨rfl, _, SqL.of hL3⟩, _, rfl, _, rfl, p, P2, b, t, m, n, k' + 1, i2, rfl, a.same S03, hP, by omega, hi2, ei2, hw.inj, fun r s2 q2 H4 ir er S4 nq2 hq2 => ?_⟩
          have hL4 := S4 _ _ hL3
          have kt : ∀ c xs, H3 c = some (.tup xs) → (upd H4 L (.lst (fs.map V.ref ++ [.ref q2]))) c = some (.tup xs) := fun c xs g => by
            rw [upd_ne (ne_of (S4 _ _ g) hL4 (by intro z; cases z))]
            exact S4 _ _ g
          refine ⟨L, _, _, rfl, rfl, hL4, by rw [List.length_map]; unfold sizeLine; omega, ?_⟩
          refine ⟨_, _, S ++ orbL (made b t m) n (k' + 1), F ++ [r], fs ++ [q2], fun c o g => ?_, ?_, kn.new hw hc ⟨ir, s2, er⟩, sb3, st3, ?_, ?_, by rw [List.length_append, List.length_singleton]; omega, rfl⟩
          · rw [upd_ne (ne_of_none g nL)]
            exact S4 _ _ (S03 _ _ g)
          · rw [upd_ne neL]
            exact S4 _ _ hs3
          · rw [upd_same, List.map_append]
            rfl
          · refine (rs3.of kt).snoc ?_
            rw [upd_ne (ne_of hq2 hL4 (by intro z; cases z))]
            exact hq2
        · have g : ¬ inV (.int (orb (made b t m) n (k' + 1))) ((orbL (made b t m) n (k' + 1)).map V.int) = true := g
          rw [inV_ints] at g
          have hold : orb (made b t m) n (k' + 1) ∈ S := by
            rcases he with he | ⟨i2, hi2, ei2⟩
            · exact he
            · exact absurd (List.elem_iff.mpr ((orbL_mem _).mpr ⟨i2, hi2, ei2⟩)) g
          exact ⟨_, _, S ++ orbL (made b t m) n (k' + 1), F, fs, S03, hs3, kn.old hw hold, sb3, st3, hL3, rs3, by omega, rfl⟩
    · rintro σ H2 ⟨x4, x5, S, F, fs, S2, hs2, kn, sb, st, hL2, rs, fl, rfl⟩
      obtain ⟨eF, cF⟩ := rs.cont
      have all : ∀ r, r ∈ F ↔ IsRing (made b t m) r := fun r => by
        rw [kn.mem]
        refine ⟨fun h => h.1, fun h => ⟨h, ?_⟩⟩
        obtain ⟨x, hx, ax⟩ := ring_small hM h
        refine ⟨x, hx, st x ?_ ?_⟩
        · unfold ab at ax
          split at ax <;> omega
        · unfold ab at ax
          split at ax <;> omega
      refine ⟨_, rfl, L, fs, cont H2, rfl, SqL.of hL2, fun q hq => ⟨cF q hq, ?_⟩, fun qs D perm asc hD => ?_⟩
      · have : cont H2 q ∈ F := by
          rw [eF]
          exact List.mem_map_of_mem hq
        exact ((all _).mp this).ne
      · have SD := same_upd (o := .lst (qs.map V.ref)) hD
        have pF : (qs.map (cont H2)).Perm F := by
          rw [eF]
          exact perm.map _
        refine kk (qs.map (cont H2)) qs D _ ⟨by rw [List.pairwise_map]; exact asc, pF.nodup_iff.mpr kn.once, fun r => by rw [pF.mem_iff]; exact all r⟩ (by
          cases e : H D with
          | none => rfl
          | some o => rw [S2 _ _ e] at hD; cases hD) (by
          rw [List.length_map, perm.length_eq]
          omega) (S2.trans SD) upd_same ?_
        exact (RsAt.back fun q hq => cF q (perm.mem_iff.mp hq)).of fun c xs g => SD _ _ g

/-! ### ahead -/
def ahStep (B m n : Int) (i : Nat) : Option Int := if 0 ≤ n - m * (i : Int) then some ((n - m * (i : Int)) * B + (i : Int)) else none
def ahL (B m n : Int) (k : Nat) : List Int := (List.range k).filterMap (ahStep B m n)
theorem ahL_succ (B m n : Int) (k : Nat) : ahL B m n (k + 1) = ahL B m n k ++ (ahStep B m n k).toList := by
  unfold ahL
  rw [List.range_succ, List.filterMap_append]
  congr 1
theorem ahL_len (B m n : Int) : ∀ k, (ahL B m n k).length ≤ k
  | 0 => Nat.le_refl _
  | k + 1 => by
    rw [ahL_succ, List.length_append]
    have := ahL_len B m n k
    cases ahStep B m n k <;> simp <;> omega
def spAhead (T : Tx P K mg) : Sp := fun vs H Q _ => ∃ (p : Addr) (b t m n : Int), vs = [.ref p, .int n] ∧ TrickAt T H p b t m ∧ -(10 ^ 40) ≤ n ∧ n ≤ 10 ^ 40 ∧
  ∀ (ns : List Int) (q : Addr) (H' : Hp), ns.Perm (ahL (blockOf b t) m n (blockOf b t).toNat) → ns.Pairwise (· ≤ ·) → Same H H' → H q = none → H' q = some (.lst (ns.map V.int)) → Q (.ref q) H'
theorem ok_ahead (T : Tx P K mg) : FnOk P w K mg base (L2.CX P w) lv_ahead T.a_ahead T.d_ahead ["trick", "n"] (spAhead T) := by
  refine T.F_ahead.okX sc_ahead (fun vs H Q E h => ?_) (fun cdv A outer s H vs Q E hr h => ?_)
  · obtain ⟨p, b, t, m, n, rfl, _⟩ := h
    rfl
  · obtain ⟨p, b, t, m, n, rfl, a, n1, n2, k⟩ := h
    obtain ⟨⟨dx, e⟩, b1, b2, t1, t2, m1, m2⟩ := id a
    obtain ⟨B1, B2⟩ := block_bd (t := t) b1 b2
    refine ⟨_, (pss_cons (ps_expr (pe_call (ok_check_trick T) (hr.mono (by decide)) rfl T.g_check_trick T.F_check_trick.kp T.b_check_trick .nil (passes_call (takes_of rfl rfl rfl rfl) fun _ _ _ _ h => h) (pa_cons (pv 0) pa_nil)))
      (pss_cons (ps_expr (pe_call (ok_check_number T) (hr.mono (by decide)) rfl T.g_check_number T.F_check_number.kp T.b_check_number .nil (passes_call (takes_of rfl rfl rfl rfl) fun _ _ _ _ h => h) (pa_cons (pv 1) pa_nil)))
      (pss_cons (ps_set (i := 2) sc_ahead.nd rfl (Or.inl rfl) (pe_call (ok_trick_block T) (hr.mono (by decide)) rfl T.g_trick_block T.F_trick_block.kp T.b_trick_block .nil pass0 (pa_cons (pv 0) pa_nil)))
      (pss_cons (ps_set (i := 3) sc_ahead.nd rfl (Or.inl rfl) (pe_lst pa_nil))
      (pss_cons (ps_for (passes_of rfl) rfl (pi_range1 (by rfl) T.n_range (pa_cons (pv 2) pa_nil)) (pg_name (i := 4) sc_ahead.nd rfl (Or.inl rfl)) (pss_cons (ps_set (i := 5) sc_ahead.nd rfl (Or.inl rfl) (pe_op op_sub (pv 1) (pe_op op_mul (pe_prop (pv 0) T.cl_Trick T.p_Trick_times (ok_Trick_times T) (hr.mono (by decide)) T.b_Trick_times .nil pass0 rfl) (pv 4))))
      (pss_one (ps_if (pt_cmpR op_ge (pv 5) pe_int (nomark _)) (pss_one (ps_expr (pe_bm PySem.F.plainAttrs_list PySem.F.slot_list_append PySem.F.type_list_append mt_append (pv 3) (pa_cons (pe_op op_add (pe_op op_mul (pv 5) (pv 2)) (pv 4)) pa_nil)))) pss_nil))))
      (pss_one (ps_ret (pe_callB cr_sortedI (by rfl) T.n_sorted (by decide +kernel) (pa_cons (pv 3) pa_nil))))))))), ?_⟩
    refine ⟨_, rfl, _, rfl, .inl ⟨p, dx, _, rfl, e, ?_⟩⟩
    refine ⟨_, rfl, .int n, rfl, .int n, fun _ => ?_, fun z => Bool.noConfusion ((intIn_of n1 n2).symm.trans z)⟩
    refine ⟨_, rfl, p, b, t, m, rfl, a, ?_⟩
    refine ⟨by show 0 ≤ sizeLine; decide, fun l hl => ?_⟩
    have npl : p ≠ l := ne_of_none e hl
    refine ⟨_, rfl, blockOf b t, rfl, by omega, by omega, ?_⟩
    refine for_range (lo := 0) (fun i σ H2 => ∃ v4 v5 : Option V, σ = [some (.ref p), some (.int n), some (.int (blockOf b t)), some (.ref l), v4, v5] ∧ H2 = upd H l (.lst ((ahL (blockOf b t) m n i).map V.int)))
      ⟨none, none, rfl, rfl⟩ ?_ ?_
    · rintro i σ H2 hi ⟨v4, v5, rfl, rfl⟩
      have e2 : upd H l (.lst ((ahL (blockOf b t) m n i).map V.int)) p = some (.ins T.C_Trick dx (tf b t m)) := by rw [upd_ne npl]; exact e
      have a2 : TrickAt T (upd H l (.lst ((ahL (blockOf b t) m n i).map V.int))) p b t m := a.same (same_upd hl)
      refine ⟨_, rfl, _, rfl, p, dx, _, rfl, e2, p, b, t, m, rfl, a2, ?_⟩
      refine ⟨_, rfl, _, _, rfl, rfl, .inl (show -(2 ^ 64) < m ∧ m < 2 ^ 64 from ⟨by omega, by omega⟩), _, _, rfl, rfl, ?_⟩
      refine ⟨_, rfl, _, _, rfl, rfl, _, rfl, ?_⟩
      have ei : (0 : Int) + (i : Int) = (i : Int) := Int.zero_add _
      have hlen := ahL_len (blockOf b t) m n i
      refine ite2 (fun c => ?_) (fun c => ?_)
      · have c1 : 0 ≤ n - m * (0 + (i : Int)) := by simpa using c
        refine ⟨_, rfl, .inl ⟨rfl, _, .inl (.inl upd_same)⟩, _, rfl, _, rfl, _, _, rfl, rfl, .inr ⟨by omega, by omega⟩, _, rfl, _, _, rfl, rfl, ?_⟩
        refine ⟨l, _, _, rfl, rfl, upd_same, by rw [List.length_map]; exact small1000 (by omega), ?_⟩
        refine ⟨_, _, rfl, ?_⟩
        rw [upd_upd, ahL_succ, List.map_append]
        rw [ei] at c1
        unfold ahStep
        rw [if_pos c1, ei]
        rfl
      · have c1 : ¬ 0 ≤ n - m * (i : Int) := by rw [ei] at c; simpa using c
        refine ⟨_, _, rfl, ?_⟩
        rw [ahL_succ]
        unfold ahStep
        rw [if_neg c1]
        simp
    · rintro σ H2 ⟨v4, v5, rfl, rfl⟩
      refine ⟨_, rfl, l, _, rfl, SqL.of upd_same, fun ns' q perm rising new => ?_⟩
      have nql : q ≠ l := fun z => by rw [z, upd_same] at new; cases new
      refine k ns' q _ perm rising ((same_upd hl).trans (same_upd new)) ?_ upd_same
      rw [upd_ne nql] at new
      exact new

/-! ### done, trail -/
/-- one behind the other -/
def mkN (b t m : Int) : Nat → Int → Int
  | 0, n => n
  | k + 1, n => made b t m (mkN b t m k n)
def trailL (b t m : Int) (k : Nat) (n : Int) : List Int := (List.range (k + 1)).map fun i => mkN b t m i n
theorem trail_len (b t m n : Int) (k : Nat) : (trailL b t m k n).length = k + 1 := by
  unfold trailL
  rw [List.length_map, List.length_range]
theorem trail_last (b t m n : Int) (k : Nat) : trailL b t m k n = ((List.range k).map fun i => mkN b t m i n) ++ [mkN b t m k n] := by
  unfold trailL
  rw [List.range_succ, List.map_append]
  rfl
theorem trail_succ (b t m n : Int) (k : Nat) : trailL b t m (k + 1) n = trailL b t m k n ++ [made b t m (mkN b t m k n)] := trail_last b t m n (k + 1)
def spTrail (T : Tx P K mg) : Sp := fun vs H Q _ => ∃ (p : Addr) (b t m n : Int) (k : Nat), vs = [.ref p, .int n, .int (k : Int)] ∧ TrickAt T H p b t m ∧ -(10 ^ 40) ≤ n ∧ n ≤ 10 ^ 40 ∧ k ≤ 200 ∧ ∀ q H2, H q = none → Same H H2 → H2 q = some (.lst ((trailL b t m k n).map V.int)) → Q (.ref q) H2
theorem ok_trail (T : Tx P K mg) : FnOk P w K mg base (L2.CX P w) lv_trail T.a_trail T.d_trail ["trick", "n", "rounds"] (spTrail T) := by
  refine T.F_trail.okX sc_trail (fun vs H Q E h => ?_) (fun cdv A outer s H vs Q E hr h => ?_)
  · obtain ⟨p, b, t, m, n, k, rfl, _⟩ := h
    rfl
  · obtain ⟨p, b, t, m, n, k, rfl, a, n1, n2, k2, kk⟩ := h
    obtain ⟨⟨dx, e⟩, b1, b2, t1, t2, m1, m2⟩ := id a
    refine ⟨_, (pss_cons (ps_expr (pe_call (ok_check_trick T) (hr.mono (by decide)) rfl T.g_check_trick T.F_check_trick.kp T.b_check_trick .nil (passes_call (takes_of rfl rfl rfl rfl) fun _ _ _ _ h => h) (pa_cons (pv 0) pa_nil)))
      (pss_cons (ps_expr (pe_call (ok_check_number T) (hr.mono (by decide)) rfl T.g_check_number T.F_check_number.kp T.b_check_number .nil (passes_call (takes_of rfl rfl rfl rfl) fun _ _ _ _ h => h) (pa_cons (pv 1) pa_nil)))
      (pss_cons (ps_expr (pe_call (ok_check_stretch T) (hr.mono (by decide)) rfl T.g_check_stretch T.F_check_stretch.kp T.b_check_stretch .nil (passes_call (takes_of rfl rfl rfl rfl) fun _ _ _ _ h => h) (pa_cons (pv 2) (pa_cons pe_int (pa_cons (pe_glob (v := .int 200) rfl T.c_MOST_ROUNDS ⟨_, rfl⟩) pa_nil)))))
      (pss_cons (ps_set (i := 3) sc_trail.nd rfl (Or.inl rfl) (pe_lst (pa_cons (pv 1) pa_nil)))
      (pss_cons (ps_for (passes_of rfl) rfl (pi_range1 (by rfl) T.n_range (pa_cons (pv 2) pa_nil)) (pg_name (i := 4) sc_trail.nd rfl (Or.inl rfl)) (pss_one (ps_expr (pe_bm PySem.F.plainAttrs_list PySem.F.slot_list_append PySem.F.type_list_append mt_append (pv 3) (pa_cons (pe_call (ok_made_of T) (hr.mono (by decide)) rfl T.g_made_of T.F_made_of.kp T.b_made_of .nil pass0 (pa_cons (pv 0) (pa_cons (pe_ix ix_list (pv 3) (pe_un un_neg pe_int) (fun _ _ => rfl)) pa_nil))) pa_nil)))))
      (pss_one (ps_ret (pv 3)))))))), ?_⟩
    refine ⟨_, rfl, _, rfl, .inl ⟨p, dx, _, rfl, e, ?_⟩⟩
    refine ⟨_, rfl, .int n, rfl, .int n, fun _ => ?_, fun z => Bool.noConfusion ((intIn_of n1 n2).symm.trans z)⟩
    refine ⟨_, rfl, .int (k : Int), 0, 200, rfl, .int _, fun _ => ?_, fun z => Bool.noConfusion ((intIn_of (show (0 : Int) ≤ (k : Int) by omega) (show (k : Int) ≤ 200 by omega)).symm.trans z)⟩
    refine ⟨_, rfl, by show 1 ≤ sizeLine; decide, fun l hl => ?_⟩
    refine ⟨_, rfl, _, rfl, by omega, by omega, ?_⟩
    refine for_range (lo := 0) (n := (k : Int).toNat) (fun i σ H2 => ∃ v : Option V, H2 = upd H l (.lst ((trailL b t m i n).map V.int)) ∧ σ = [some (.ref p), some (.int n), some (.int (k : Int)), some (.ref l), v]) ⟨none, rfl, rfl⟩ ?_ ?_
    · rintro i σ H2 hi ⟨v, rfl, rfl⟩
      have tl := trail_len b t m n i
      have a2 : TrickAt T (upd H l (.lst ((trailL b t m i n).map V.int))) p b t m := a.same (same_upd hl)
      have hat : atI ((trailL b t m i n).map V.int) (-1) = some (V.int (mkN b t m i n)) := by
        rw [trail_last, List.map_append]
        exact atI_last _ _
      refine ⟨_, rfl, .inl ⟨rfl, _, .inl (.inl upd_same)⟩, _, rfl, _, rfl, _, rfl, l, _, _, _, rfl, rfl, SqL.of upd_same, hat, p, b, t, m, _, rfl, a2, ?_⟩
      refine ⟨l, _, _, rfl, rfl, upd_same, by rw [List.length_map]; exact small1000 (by omega), ?_⟩
      refine ⟨_, ?_, rfl⟩
      rw [upd_upd, trail_succ, List.map_append]
      rfl
    · rintro σ H2 ⟨v, rfl, rfl⟩
      exact ⟨_, rfl, kk l _ hl (same_upd hl) upd_same⟩

/-! ### which multipliers fit -/
/-- the pairs' values -/
def PairsAt2 (H : Hp) : List V → List (Int × Int) → Prop
  | [], [] => True
  | v :: vs, z :: l => (∃ p, v = .ref p ∧ H p = some (.tup [.int z.1, .int z.2])) ∧ PairsAt2 H vs l
  | _, _ => False
theorem PairsAt2.same {H H2 : Hp} (S : Same H H2) : ∀ {vs : List V} {l : List (Int × Int)}, PairsAt2 H vs l → PairsAt2 H2 vs l
  | [], [], _ => trivial
  | _ :: _, _ :: _, ⟨⟨p, e, h⟩, r⟩ => ⟨⟨p, e, S _ _ h⟩, r.same S⟩
  | [], _ :: _, h => h.elim
  | _ :: _, [], h => h.elim
theorem PairsAt2.len {H : Hp} : ∀ {vs : List V} {l : List (Int × Int)}, PairsAt2 H vs l → vs.length = l.length
  | [], [], _ => rfl
  | _ :: _, _ :: _, ⟨_, r⟩ => congrArg Nat.succ r.len
  | [], _ :: _, h => h.elim
  | _ :: _, [], h => h.elim
theorem PairsAt2.at {H : Hp} : ∀ {vs : List V} {l : List (Int × Int)}, PairsAt2 H vs l → ∀ {i : Nat} {y : V}, vs[i]? = some y → ∃ p z, y = .ref p ∧ l[i]? = some z ∧ H p = some (.tup [.int z.1, .int z.2])
  | [], [], _, i, y, h => by cases h
  | _ :: _, z :: _, ⟨⟨q, h1, h2⟩, _⟩, 0, y, h => by
    cases h
    exact ⟨q, z, h1, rfl, h2⟩
  | _ :: _, _ :: _, ⟨_, h3⟩, i + 1, y, h => h3.at (i := i) h
  | [], _ :: _, h, _, _, _ => h.elim
  | _ :: _, [], h, _, _, _ => h.elim
/-- what a block and a multiplier make -/
def mkW (B m n : Int) : Int := n / B + m * n.fmod B
def allM : List Int := (List.range 201).map fun i => (-100 : Int) + (i : Nat)
theorem rg_allM : rgV (-100) 101 = allM.map V.int := by
  unfold rgV allM
  rw [List.map_map]
  rfl
def fitM (B : Int) (zs : List (Int × Int)) : List Int := allM.filter fun m => zs.all fun z => decide (mkW B m z.1 = z.2)
theorem fitM_nil (B : Int) : fitM B [] = allM := by
  unfold fitM
  rw [List.filter_eq_self]
  exact fun _ _ => rfl
theorem fitM_snoc (B : Int) (zs : List (Int × Int)) (z : Int × Int) : fitM B (zs ++ [z]) = (fitM B zs).filter fun m => decide (mkW B m z.1 = z.2) := by
  unfold fitM
  rw [List.filter_filter]
  congr 1
  funext m
  rw [List.all_append, Bool.and_comm]
  simp
theorem fitM_mem {B m : Int} {zs : List (Int × Int)} (h : m ∈ fitM B zs) : -100 ≤ m ∧ m ≤ 100 := by
  have h1 := (List.mem_filter.mp h).1
  obtain ⟨i, hi, rfl⟩ := List.mem_map.mp h1
  have := List.mem_range.mp hi
  omega
theorem fitM_len (B : Int) (zs : List (Int × Int)) : (fitM B zs).length ≤ 201 := by
  have := List.length_filter_le (fun m => zs.all fun z => decide (mkW B m z.1 = z.2)) allM
  exact Nat.le_trans this (by decide)
theorem take_snocP {α : Type} {l : List α} {i : Nat} {z : α} (h : l[i]? = some z) : l.take (i + 1) = l.take i ++ [z] := by
  rw [List.take_succ, h]
  rfl
def spTimes (K : PySem.W.Frag) : Sp := fun vs H Q _ => ∃ (B : Int) (c : Addr) (ys : List V) (zs : List (Int × Int)), vs = [.int B, .ref c] ∧ 2 ≤ B ∧ B ≤ 256 ∧ SqA H c ys ∧ PairsAt2 H ys zs ∧
  ∀ (D : Addr) (H' : Hp), Same H H' → H D = none → H' D = some (.lst ((fitM B zs).map V.int)) → Q (.ref D) H'
theorem ok_fitting_times (T : Tx P K mg) : FnOk P w K mg base CX0 lv_fitting_times T.a_fitting_times T.d_fitting_times ["block", "pairs"] (spTimes K) := by
  refine T.F_fitting_times.ok sc_fitting_times (fun vs H Q E h => ?_) (fun cdv A outer s H vs Q E hr h => ?_)
  · obtain ⟨B, c, ys, zs, rfl, _⟩ := h
    rfl
  · obtain ⟨B, c, ys, zs, rfl, B1, B2, hc, P, k⟩ := h
    refine ⟨_, (Evl.pss_cut (ps_set (i := 2) sc_fitting_times.nd rfl (Or.inl rfl) (pe_listRg rfl (by rfl) T.n_list (prg_2 (by rfl) T.n_range (pe_un un_neg (pe_glob (v := .int 100) rfl T.c_GREATEST_TIMES ⟨_, rfl⟩)) (pe_op op_add (pe_glob (v := .int 100) rfl T.c_GREATEST_TIMES ⟨_, rfl⟩) pe_int))))
      (pss_cons (ps_for PassesOwn.never rfl (pi_seqA (pv 1)) (pg_tup rfl (pgs_cons (pg_name (i := 3) sc_fitting_times.nd rfl (Or.inr rfl)) (pgs_cons (pg_name (i := 4) sc_fitting_times.nd rfl (Or.inr rfl)) pgs_nil))) (pss_one (ps_setLc (i := 2) (own := [("times", 5)]) (g := gName 5) rfl sc_fitting_times.nd rfl rfl (sw_true rfl rfl rfl (by decide +kernel)) (pi_list (pv 2)) (blkOk_by (own := [("times", 5)]) (N := ["block", "pairs", "found", "n", "later", "times"]) (sc := defScope s_fitting_times) (by decide +kernel)) (fun _ _ _ _ _ => pg_name (i := 5) sc_fitting_times.nd rfl (Or.inl rfl)) (fun _ _ _ _ _ => pts_one (pt_cmpR op_eq (pe_call (ok_made_with T) (hr.mono (by decide)) rfl T.g_made_with T.F_made_with.kp T.b_made_with .nil pass0 (pa_cons (pv 0) (pa_cons (pv 5) (pa_cons (pv 3) pa_nil)))) (pv 4) (nomark _))) (fun _ _ _ _ _ => (pv 5)))))
      (pss_one (ps_ret (pv 2))))), ?_⟩
    refine ⟨fun σ H1 => ∃ F : Addr, Same H H1 ∧ H F = none ∧ H1 F = some (.lst (allM.map V.int)) ∧ σ = [some (.int B), some (.ref c), some (.ref F), none, none, none], ?_, ?_⟩
    · refine ⟨_, rfl, _, _, rfl, rfl, _, _, rfl, rfl, ⟨by decide, by decide, by decide, by decide, by decide⟩, fun F hF => ⟨F, same_upd hF, hF, ?_, rfl⟩⟩
      rw [upd_same]
      exact congrArg (fun l => some (HO.lst l)) rg_allM
    rintro σ H1 ⟨F, S1, hn, hF, rfl⟩
    refine seqA_of rfl (hc.same S1) fun J G wk hG => ?_
    refine for_it wk (fun i σ H2 => ∃ (F : Addr) (v3 v4 v5 : Option V), Same H1 H2 ∧ H F = none ∧ H2 F = some (.lst ((fitM B (zs.take i)).map V.int)) ∧ σ = [some (.int B), some (.ref c), some (.ref F), v3, v4, v5]) ⟨F, none, none, none, Same.refl H1, hn, by rw [List.take_zero, fitM_nil]; exact hF, rfl⟩ (fun i σ H2 _ ⟨_, _, _, _, S2, _⟩ => hG H2 S2) ?_ ?_
    · clear hF hn
      rintro i x' σ H2 H3 hin ⟨F, v3, v4, v5, S2, hn, hF, rfl⟩ ⟨rfl, hy⟩
      obtain ⟨p, z, rfl, hz, hp⟩ := P.at hy
      have hp2 := S2 _ _ (S1 _ _ hp)
      refine ⟨p, _, rfl, SqT.of hp2, rfl, _, _, rfl, _, _, rfl, rfl, ?_⟩
      refine ⟨_, rfl, F, rfl, ⟨_, SqL.of hF⟩, fun D hD => ?_⟩
      refine lc_it walk_list (fun j H4 => Same H3 H4 ∧ H4 D = some (.lst ((((fitM B (zs.take i)).take j).filter fun m => decide (mkW B m z.1 = z.2)).map V.int))) ⟨same_upd hD, by rw [upd_same]; rfl⟩ (fun j H4 _ ⟨S4, _⟩ => SqL.of (S4 _ _ hF)) ?_ ?_
      · rintro j y H4 H5 hj ⟨S4, hD4⟩ ⟨rfl, hy⟩
        rw [List.getElem?_map] at hy
        obtain ⟨m, hm, rfl⟩ := Option.map_eq_some_iff.mp hy
        obtain ⟨m1, m2⟩ := fitM_mem (List.mem_of_getElem? hm)
        refine ⟨rfl, _, rfl, _, rfl, _, rfl, B, m, z.1, rfl, B1, B2, m1, m2, _, rfl, rfl, _, rfl, ?_⟩
        have ln := List.length_filter_le (fun m => decide (mkW B m z.1 = z.2)) ((fitM B (zs.take i)).take j)
        have l2 := fitM_len B (zs.take i)
        rw [List.length_take] at ln
        rw [dec_i]
        refine ite2 (fun g => ?_) (fun g => ?_)
        · have g1 : decide (mkW B m z.1 = z.2) = true := g
          refine ⟨_, rfl, _, hD4, small1000 (by rw [List.length_map]; omega), fun c' o hc' => ?_, ?_⟩
          · rw [upd_ne (ne_of_none hc' hD)]
            exact S4 _ _ hc'
          · rw [upd_same, take_snocP hm, List.filter_append, List.map_append]
            simp only [List.filter_cons, g1, if_true, List.filter_nil]
            rfl
        · have g1 : decide (mkW B m z.1 = z.2) = false := by
            have : ¬ decide (mkW B m z.1 = z.2) = true := g
            simpa using this
          refine ⟨S4, ?_⟩
          rw [take_snocP hm, List.filter_append]
          simp only [List.filter_cons, g1, List.filter_nil]
          rw [if_neg Bool.false_ne_true, List.append_nil]
          exact hD4
      · rintro H4 ⟨S4, hD4⟩
        rw [List.length_map, List.take_length] at hD4
        refine ⟨D, _, _, _, S2.trans S4, ?_, ?_, rfl⟩
        · cases e : H D with
          | none => rfl
          | some o => rw [S2 _ _ (S1 _ _ e)] at hD; cases hD
        rw [take_snocP hz, fitM_snoc]
        exact hD4
    · rintro σ H2 ⟨F, v3, v4, v5, S2, hn, hF, rfl⟩
      rw [P.len, List.take_length] at hF
      exact ⟨_, rfl, k F H2 (S1.trans S2) hn hF⟩

/-! ### what fits -/
abbrev Tri := Int × Int × Int
def TrisAt (H : Hp) : List V → List Tri → Prop
  | [], [] => True
  | v :: vs, z :: l => (∃ p, v = .ref p ∧ H p = some (.tup [.int z.1, .int z.2.1, .int z.2.2])) ∧ TrisAt H vs l
  | _, _ => False
theorem TrisAt.of {H H2 : Hp} (S : ∀ c xs, H c = some (.tup xs) → H2 c = some (.tup xs)) : ∀ {vs : List V} {l : List Tri}, TrisAt H vs l → TrisAt H2 vs l
  | [], [], _ => trivial
  | _ :: _, _ :: _, ⟨⟨p, e, h⟩, r⟩ => ⟨⟨p, e, S _ _ h⟩, r.of S⟩
  | [], _ :: _, h => h.elim
  | _ :: _, [], h => h.elim
theorem TrisAt.snoc {H : Hp} {q : Addr} {z : Tri} (hq : H q = some (.tup [.int z.1, .int z.2.1, .int z.2.2])) : ∀ {vs : List V} {l : List Tri}, TrisAt H vs l → TrisAt H (vs ++ [.ref q]) (l ++ [z])
  | [], [], _ => ⟨⟨q, rfl, hq⟩, trivial⟩
  | _ :: _, _ :: _, ⟨h1, h3⟩ => ⟨h1, h3.snoc hq⟩
  | [], _ :: _, h => h.elim
  | _ :: _, [], h => h.elim
theorem TrisAt.len {H : Hp} : ∀ {vs : List V} {l : List Tri}, TrisAt H vs l → vs.length = l.length
  | [], [], _ => rfl
  | _ :: _, _ :: _, ⟨_, r⟩ => congrArg Nat.succ r.len
  | [], _ :: _, h => h.elim
  | _ :: _, [], h => h.elim
theorem TrisAt.at {H : Hp} : ∀ {vs : List V} {l : List Tri}, TrisAt H vs l → ∀ {i : Nat} {y : V}, vs[i]? = some y → ∃ p z, y = .ref p ∧ l[i]? = some z ∧ H p = some (.tup [.int z.1, .int z.2.1, .int z.2.2])
  | [], [], _, i, y, h => by cases h
  | _ :: _, z :: _, ⟨⟨q, h1, h2⟩, _⟩, 0, y, h => by
    cases h
    exact ⟨q, z, h1, rfl, h2⟩
  | _ :: _, _ :: _, ⟨_, h3⟩, i + 1, y, h => h3.at (i := i) h
  | [], _ :: _, h, _, _, _ => h.elim
  | _ :: _, [], h, _, _, _ => h.elim
def fit2 (zs : List (Int × Int)) (b t : Int) : List Tri := (fitM (blockOf b t) zs).map fun m => (b, t, m)
def fit1 (zs : List (Int × Int)) (b : Int) (j : Nat) : List Tri := (List.range j).flatMap fun (y : Nat) => fit2 zs b (1 + (y : Int))
def fit0 (zs : List (Int × Int)) (i : Nat) : List Tri := (List.range i).flatMap fun (x : Nat) => fit1 zs (2 + (x : Int)) 2
theorem fit1_succ (zs : List (Int × Int)) (b : Int) (j : Nat) : fit1 zs b (j + 1) = fit1 zs b j ++ fit2 zs b (1 + (j : Int)) := by
  unfold fit1
  rw [List.range_succ, List.flatMap_append, List.flatMap_singleton]
theorem fit0_succ (zs : List (Int × Int)) (i : Nat) : fit0 zs (i + 1) = fit0 zs i ++ fit1 zs (2 + (i : Int)) 2 := by
  unfold fit0
  rw [List.range_succ, List.flatMap_append, List.flatMap_singleton]
theorem fit2_len (zs : List (Int × Int)) (b t : Int) : (fit2 zs b t).length ≤ 201 := by
  unfold fit2
  rw [List.length_map]
  exact fitM_len _ _
theorem fit1_len (zs : List (Int × Int)) (b : Int) : ∀ j, (fit1 zs b j).length ≤ 201 * j
  | 0 => Nat.zero_le _
  | j + 1 => by
    rw [fit1_succ, List.length_append]
    have h1 := fit1_len zs b j
    have h2 := fit2_len zs b (1 + (j : Int))
    omega
theorem fit0_len (zs : List (Int × Int)) : ∀ i, (fit0 zs i).length ≤ 402 * i
  | 0 => Nat.zero_le _
  | i + 1 => by
    rw [fit0_succ, List.length_append]
    have h1 := fit0_len zs i
    have h2 := fit1_len zs (2 + (i : Int)) 2
    omega
theorem walk_w {J : It} {n : Nat} {G : Hp → Prop} {Y : Nat → Hp → V → Hp → Prop} {H0 : Hp} {step : V → Hp → (Hp → Prop) → Prop} {Qd : Hp → Prop} (w : Walk J n G Y) (Pv : Nat → Hp → Prop) (h0 : Pv 0 H0) (hG : ∀ i H, i ≤ n → Pv i H → G H)
    (hs : ∀ i x H H', i < n → Pv i H → Y i H x H' → step x H' (Pv (i + 1))) (hd : ∀ H, Pv n H → Qd H) :
    ∃ W : Nat → Nat → Hp → Prop, (∃ m, W 0 m H0) ∧ ∀ i m H, W i m H → (J.stop i H ∧ Qd H) ∨ (J.go i H ∧ ∃ N1 : Hp → Prop, (∀ H', N1 H' → ∃ m', m' < m ∧ W (i + 1) m' H') ∧ ∀ x H', J.yld i H x H' → step x H' N1) := by
  refine ⟨fun i m H => m + i = n ∧ Pv i H, ⟨n, rfl, h0⟩, ?_⟩
  rintro i m H ⟨e, hp⟩
  have g := hG i H (by omega) hp
  rcases Nat.lt_or_ge i n with lt | ge
  · exact .inr ⟨w.goes i H lt g, Pv (i + 1), fun H' q => ⟨m - 1, by omega, by omega, q⟩, fun x H' y => hs i x H H' lt hp (w.yields i H x H' lt g y)⟩
  · obtain rfl : i = n := by omega
    exact .inl ⟨w.stops H g, hd H hp⟩
def spFit (T : Tx P K mg) : Sp := fun vs H Q E => ∃ (c : Addr) (ys : List V) (zs : List (Int × Int)), vs = [.ref c] ∧ SqA H c ys ∧ PairsAt2 H ys zs ∧ 1 ≤ ys.length ∧ ys.length ≤ 10 ∧ (∀ z ∈ zs, -(10 ^ 40) ≤ z.1 ∧ z.1 ≤ 10 ^ 40 ∧ -(10 ^ 40) ≤ z.2 ∧ z.2 ≤ 10 ^ 40) ∧
  ∀ (D : Addr) (us : List V) (H' : Hp), H D = none → Same H H' → H' D = some (.lst us) → TrisAt H' us (fit0 zs 15) → Q (.ref D) H'
theorem ok_fitting (T : Tx P K mg) : FnOk P w K mg base (L2.CX P w) lv_fitting T.a_fitting T.d_fitting ["pairs"] (spFit T) := by
  refine T.F_fitting.okX sc_fitting (fun vs H Q E h => ?_) (fun cdv A outer s H vs Q E hr h => ?_)
  · obtain ⟨c, ys, zs, rfl, _⟩ := h
    rfl
  · obtain ⟨c, ys, zs, rfl, hc, P, l1, l2, bd, k⟩ := h
    refine ⟨_, (pss_cons (ps_expr (pe_call (ok_check_pairs T) (hr.mono (by decide)) rfl T.g_check_pairs T.F_check_pairs.kp T.b_check_pairs .nil (passes_call (takes_of rfl rfl rfl rfl) fun _ _ _ _ h => h) (pa_cons (pv 0) pa_nil)))
      (pss_one (ps_ret (pe_lcN (body := fun D => (tCl _ (gName 2) tYes [2, 3] (tCl _ (gName 3) tYes [3] (tPut D _)))) (own := [("base", 1), ("take", 2), ("times", 3)]) (g := gName 1) (tt := tYes) (fs := [2, 3]) rfl sc_fitting.nd (pi_range2 (by rfl) T.n_range (pa_cons (pe_glob (v := .int 2) rfl T.c_LEAST_BASE ⟨_, rfl⟩) (pa_cons (pe_op op_add (pe_glob (v := .int 16) rfl T.c_GREATEST_BASE ⟨_, rfl⟩) pe_int) pa_nil))) (blkOk_by (own := [("base", 1), ("take", 2), ("times", 3)]) (N := ["pairs", "base", "take", "times"]) (sc := defScope s_fitting) (by decide +kernel)) (fun _ _ _ _ _ => pg_name (i := 1) sc_fitting.nd rfl (Or.inl rfl)) (fun _ _ _ _ _ => pts_nil) (fun D _ _ _ _ _ => by (refine runs_cl (g := gName 2) (tt := tYes) (vs := [2, 3]) (fs := [3]) (by exact rfl) ?_ (by rfl) (by rfl) ?_ ?_ pts_nil ?_ (by decide); exact (fun _ e => by cases e; exact ⟨rfl, fun _ => rfl⟩); exact (pi_range2 (by rfl) T.n_range (pa_cons pe_int (pa_cons (pe_op op_add (pe_glob (v := .int 2) rfl T.c_GREATEST_TAKE ⟨_, rfl⟩) pe_int) pa_nil))); exact pg_name (i := 2) sc_fitting.nd rfl (Or.inl rfl); (refine runs_cl (g := gName 3) (tt := tYes) (vs := [3]) (fs := []) (by exact rfl) ?_ (by rfl) (by rfl) ?_ ?_ pts_nil ?_ (by decide); exact (fun _ e => by cases e); exact (pi_listK (K := K) rfl (pe_call (ok_fitting_times T) (hr.mono (by decide)) rfl T.g_fitting_times T.F_fitting_times.kp T.b_fitting_times .nil pass0 (pa_cons (pe_call (ok_block_of T) (hr.mono (by decide)) rfl T.g_block_of T.F_block_of.kp T.b_block_of .nil pass0 (pa_cons (pv 1) (pa_cons (pv 2) pa_nil))) (pa_cons (pv 0) pa_nil)))); exact pg_name (i := 3) sc_fitting.nd rfl (Or.inl rfl); exact runs_put rfl rfl (pe_tup (pa_cons (pv 1) (pa_cons (pv 2) (pa_cons (pv 3) pa_nil))))))) (by decide) (by intro _; rfl) (fun _ _ e => by cases e; exact ⟨rfl, fun _ => rfl⟩))))), ?_⟩
    have sq : seqOf H (.ref c) = some ys := seqOf_at hc
    have tu : isTup 1 10 (seqOf H (.ref c)) = true := by
      rw [sq]
      show (decide ((1 : Int) ≤ (ys.length : Int)) && decide ((ys.length : Int) ≤ 10)) = true
      rw [Bool.and_eq_true, decide_eq_true_eq, decide_eq_true_eq]
      omega
    have good : ∀ y ∈ ys, (AnyV (OwnT T) H y ∧ ItemsAny (OwnT T) H y) ∧ pairOk H y = true := fun y hy => by
      obtain ⟨i, hi⟩ := List.mem_iff_getElem?.mp hy
      obtain ⟨p, z, rfl, hz, hp⟩ := P.at hi
      obtain ⟨z1, z2, z3, z4⟩ := bd z (List.mem_of_getElem? hz)
      refine ⟨⟨.tup hp, ItemsAny.ints (ns := [z.1, z.2]) hp⟩, ?_⟩
      rw [pairOk_at (tupOf_ref hp), intIn_of z1 z2, intIn_of z3 z4]
      rfl
    refine ⟨_, rfl, .ref c, rfl, hc.elim .lst .tup, fun ys' e y hy => ?_, fun g => ?_, fun ys' _ e i y hy g => ?_, fun _ _ _ _ H2 S2 => ?_⟩
    · rw [sq] at e
      cases e
      exact (good y hy).1
    · rw [tu] at g
      cases g
    · rw [sq] at e
      cases e
      rw [(good y (List.mem_of_getElem? hy)).2] at g
      cases g
    have hs : (200000 : Nat) ≤ sizeLine := by decide
    refine ⟨_, _, rfl, rfl, _, _, rfl, ⟨by decide, by decide, by decide, by decide⟩, fun D hD => ?_⟩
    have SD := S2.trans (same_upd (o := .lst []) hD)
    refine walk_w walk_range (fun i H3 => Same H H3 ∧ ∃ us, H3 D = some (.lst us) ∧ TrisAt H3 us (fit0 zs i)) ⟨SD, [], upd_same, trivial⟩ (fun _ _ _ _ => trivial) ?_ ?_
    · rintro i x H3 H4 hi ⟨S3, us, hD3, t3⟩ ⟨rfl, rfl⟩
      refine ⟨rfl, _, _, rfl, rfl, _, _, rfl, ⟨by decide, by decide, by decide, by decide⟩, ?_⟩
      refine walk_w walk_range (fun j H5 => Same H H5 ∧ ∃ us, H5 D = some (.lst us) ∧ TrisAt H5 us (fit0 zs i ++ fit1 zs (2 + (i : Int)) j)) ⟨S3, us, hD3, by rw [show fit1 zs (2 + (i : Int)) 0 = [] from rfl, List.append_nil]; exact t3⟩ (fun _ _ _ _ => trivial) ?_ ?_
      · rintro j x H5 H6 hj ⟨S5, us, hD5, t5⟩ ⟨rfl, rfl⟩
        obtain ⟨B1, B2⟩ := block_bd (b := 2 + (i : Int)) (t := 1 + (j : Int)) (by omega) (by omega)
        refine ⟨rfl, _, rfl, _, rfl, 2 + (i : Int), 1 + (j : Int), rfl, by omega, by omega, _, rfl, _, c, ys, zs, rfl, B1, B2, hc.same S5, P.same S5, fun F H7 S7 nF hF => ⟨F, rfl, ⟨_, SqL.of hF⟩, ?_⟩⟩
        have nFD : F ≠ D := fun z => by rw [z, hD5] at nF; cases nF
        have hDn : H D = none := by
          cases e : H D with
          | none => rfl
          | some o => rw [S2 _ _ e] at hD; cases hD
        have up : ∀ {HH : Hp} {o : HO}, Same H HH → Same H (upd HH D o) := fun {HH o} S c' o' e => by
          rw [upd_ne (ne_of_none e hDn)]
          exact S _ _ e
        refine walk_w walk_list (fun l H8 => Same H H8 ∧ H8 F = some (.lst ((fitM (blockOf (2 + (i : Int)) (1 + (j : Int))) zs).map V.int)) ∧ ∃ us, H8 D = some (.lst us) ∧ TrisAt H8 us (fit0 zs i ++ fit1 zs (2 + (i : Int)) j ++ (fit2 zs (2 + (i : Int)) (1 + (j : Int))).take l))
          ⟨S5.trans S7, hF, us, S7 _ _ hD5, by rw [List.take_zero, List.append_nil]; exact t5.of fun _ _ e => S7 _ _ e⟩ (fun l H8 _ ⟨_, h, _⟩ => SqL.of h) ?_ ?_
        · rintro l y H8 H9 hl ⟨S8, hF8, us8, hD8, t8⟩ ⟨rfl, hy⟩
          rw [List.getElem?_map] at hy
          obtain ⟨m, hm, rfl⟩ := Option.map_eq_some_iff.mp hy
          have hz : (fit2 zs (2 + (i : Int)) (1 + (j : Int)))[l]? = some (2 + (i : Int), 1 + (j : Int), m) := by
            unfold fit2
            rw [List.getElem?_map, hm]
            rfl
          refine ⟨rfl, _, rfl, _, rfl, _, rfl, by show 3 ≤ sizeLine; decide, fun p hp => ⟨us8, same_upd hp _ _ hD8, ?_, ?_⟩⟩
          · have h1 := fit0_len zs i
            have h2 := fit1_len zs (2 + (i : Int)) j
            have h3 := fit2_len zs (2 + (i : Int)) (1 + (j : Int))
            rw [t8.len, List.length_append, List.length_append, List.length_take]
            omega
          · have Sp := S8.trans (same_upd (o := .tup [.int (2 + (i : Int)), .int (1 + (j : Int)), .int m]) hp)
            have npD : p ≠ D := fun z => by rw [z, hD8] at hp; cases hp
            have kt : ∀ c' xs, upd H9 p (.tup [.int (2 + (i : Int)), .int (1 + (j : Int)), .int m]) c' = some (.tup xs) → upd (upd H9 p (.tup [.int (2 + (i : Int)), .int (1 + (j : Int)), .int m])) D (.lst (us8 ++ [.ref p])) c' = some (.tup xs) := fun c' xs e => by
              rw [upd_ne (fun z => by rw [z, same_upd hp _ _ hD8] at e; cases e)]
              exact e
            refine ⟨up Sp, ?_, _, upd_same, ?_⟩
            · rw [upd_ne nFD]
              exact same_upd hp _ _ hF8
            · rw [take_snocP hz, ← List.append_assoc]
              exact TrisAt.snoc (z := (2 + (i : Int), 1 + (j : Int), m)) (kt _ _ upd_same) ((t8.of fun _ _ e => same_upd hp _ _ e).of kt)
        · rintro H8 ⟨S8, hF8, us8, hD8, t8⟩
          refine ⟨S8, us8, hD8, ?_⟩
          rw [fit1_succ, ← List.append_assoc]
          rw [List.length_map, List.take_of_length_le (by unfold fit2; rw [List.length_map]; exact Nat.le_refl _)] at t8
          exact t8
      · rintro H5 ⟨S5, us, hD5, t5⟩
        refine ⟨S5, us, hD5, ?_⟩
        rw [fit0_succ]
        exact t5
    · rintro H3 ⟨S3, us, hD3, t3⟩
      exact k D us H3 (by
        cases e : H D with
        | none => rfl
        | some o => rw [S2 _ _ e] at hD; cases hD) S3 hD3 t3

/-! ### chains of tricks -/
abbrev Prt : Type := Int × Int × Int
/-- the values are tricks of these parts -/
def Trs (T : Tx P K mg) (H : Hp) : List V → List Prt → Prop
  | [], [] => True
  | v :: vs, z :: l => (∃ p, v = .ref p ∧ TrickAt T H p z.1 z.2.1 z.2.2) ∧ Trs T H vs l
  | _, _ => False
theorem Trs.of {T : Tx P K mg} {H H' : Hp} (e : ∀ p b t m, TrickAt T H p b t m → TrickAt T H' p b t m) : ∀ {vs : List V} {l : List Prt}, Trs T H vs l → Trs T H' vs l
  | [], [], _ => trivial
  | _ :: _, _ :: _, ⟨⟨q, h1, h2⟩, h3⟩ => ⟨⟨q, h1, e _ _ _ _ h2⟩, h3.of e⟩
  | [], _ :: _, h => h.elim
  | _ :: _, [], h => h.elim
theorem Trs.same {T : Tx P K mg} {H H' : Hp} {vs : List V} {l : List Prt} (h : Trs T H vs l) (S : Same H H') : Trs T H' vs l := h.of fun _ _ _ _ e => e.same S
theorem Trs.but {T : Tx P K mg} {H H' : Hp} {r : Addr} {ys : List V} {vs : List V} {l : List Prt} (h : Trs T H vs l) (hr : H r = some (.lst ys)) (B : But r H H') : Trs T H' vs l :=
  h.of fun p _ _ _ e => e.but B fun z => by
    obtain ⟨⟨dx, e1⟩, _⟩ := e
    rw [z, hr] at e1
    cases e1
theorem Trs.len {T : Tx P K mg} {H : Hp} : ∀ {vs : List V} {l : List Prt}, Trs T H vs l → vs.length = l.length
  | [], [], _ => rfl
  | _ :: _, _ :: _, ⟨_, h3⟩ => congrArg Nat.succ h3.len
  | [], _ :: _, h => h.elim
  | _ :: _, [], h => h.elim
theorem Trs.at {T : Tx P K mg} {H : Hp} : ∀ {vs : List V} {l : List Prt}, Trs T H vs l → ∀ {i : Nat} {y : V}, vs[i]? = some y → ∃ p z, y = .ref p ∧ l[i]? = some z ∧ TrickAt T H p z.1 z.2.1 z.2.2
  | [], [], _, i, y, h => by cases h
  | _ :: _, z :: _, ⟨⟨q, h1, h2⟩, _⟩, 0, y, h => by
    cases h
    exact ⟨q, z, h1, rfl, h2⟩
  | _ :: _, _ :: _, ⟨_, h3⟩, i + 1, y, h => h3.at (i := i) h
  | [], _ :: _, h, _, _, _ => h.elim
  | _ :: _, [], h, _, _, _ => h.elim
theorem Trs.snoc {T : Tx P K mg} {H : Hp} {q : Addr} {z : Prt} (hq : TrickAt T H q z.1 z.2.1 z.2.2) : ∀ {vs : List V} {l : List Prt}, Trs T H vs l → Trs T H (vs ++ [.ref q]) (l ++ [z])
  | [], [], _ => ⟨⟨q, rfl, hq⟩, trivial⟩
  | _ :: _, _ :: _, ⟨h1, h3⟩ => ⟨h1, h3.snoc hq⟩
  | [], _ :: _, h => h.elim
  | _ :: _, [], h => h.elim
theorem Trs.take {T : Tx P K mg} {H : Hp} : ∀ {vs : List V} {l : List Prt} (k : Nat), Trs T H vs l → Trs T H (vs.take k) (l.take k)
  | [], [], k, _ => by rw [List.take_nil, List.take_nil]; trivial
  | _ :: _, _ :: _, 0, _ => trivial
  | _ :: _, _ :: _, k + 1, ⟨h1, h3⟩ => ⟨h1, h3.take k⟩
  | [], _ :: _, _, h => h.elim
  | _ :: _, [], _, h => h.elim
/-- is a Trick -/
def isT (T : Tx P K mg) (H : Hp) (y : V) : Prop := ∃ p dx fs, y = .ref p ∧ H p = some (.ins T.C_Trick dx fs)
theorem isT.same {T : Tx P K mg} {H H' : Hp} {y : V} (h : isT T H y) (S : Same H H') : isT T H' y :=
  let ⟨p, dx, fs, e, hp⟩ := h
  ⟨p, dx, fs, e, S _ _ hp⟩
theorem Trs.isT {T : Tx P K mg} {H : Hp} {vs : List V} {l : List Prt} (h : Trs T H vs l) {i : Nat} {y : V} (hy : vs[i]? = some y) : isT T H y := by
  obtain ⟨p, z, e, _, ⟨dx, hp⟩, _⟩ := h.at hy
  exact ⟨p, dx, _, e, hp⟩
def errN (T : Tx P K mg) (E : XK) (C : Addr) (f : Str) (H : Hp) (v : V) : Prop := ∀ H2 d, Same H H2 → H2 d = none → E (.ref C) (some d) (upd H2 d (.xd [(f, v)]))
/-- a list or tuple of 1 to 4 tricks, or the error -/
def spTricks (T : Tx P K mg) : Sp := fun vs H Q E => ∃ x : V, vs = [x] ∧
  ((AnyV (OwnT T) H x ∧ isTup 1 4 (seqOf H x) = false ∧ errN T E T.C_BadTricks "index" H .non) ∨
   ∃ (c : Addr) (ys : List V) (lim : Nat), x = .ref c ∧ SqA H c ys ∧ 1 ≤ ys.length ∧ ys.length ≤ 4 ∧ lim ≤ ys.length ∧ (∀ (j : Nat) (z : V), j < lim → ys[j]? = some z → isT T H z) ∧
     (lim < ys.length → ∃ y, ys[lim]? = some y ∧ AnyV (fun _ => False) H y ∧ errN T E T.C_BadTricks "index" H (.int (lim : Nat))) ∧ (lim = ys.length → ∀ H2, Same H H2 → Q .non H2))
theorem SqA.any {T : Addr → Prop} {H : Hp} {c : Addr} {ys : List V} (h : SqA H c ys) : AnyV T H (.ref c) := h.elim .lst .tup
theorem isTup_len {lo hi : Nat} {H : Hp} {c : Addr} {ys : List V} (h : SqA H c ys) (l1 : lo ≤ ys.length) (l2 : ys.length ≤ hi) : isTup lo hi (seqOf H (.ref c)) = true := by
  rw [seqOf_at h]
  show (decide ((lo : Int) ≤ (ys.length : Int)) && decide ((ys.length : Int) ≤ (hi : Int))) = true
  rw [Bool.and_eq_true, decide_eq_true_eq, decide_eq_true_eq]
  omega
theorem ok_check_tricks (T : Tx P K mg) : FnOk P w K mg base (L2.CX P w) lv_check_tricks T.a_check_tricks T.d_check_tricks ["tricks"] (spTricks T) := by
  refine T.F_check_tricks.okX sc_check_tricks (fun vs H Q E h => ?_) (fun cdv A outer s H vs Q E hr h => ?_)
  · obtain ⟨x, rfl, _⟩ := h
    rfl
  · obtain ⟨x, rfl, h⟩ := h
    refine ⟨_, (pss_cons (ps_if (pt_not (pt_val (pe_call (ok_is_list_or_tuple T) (hr.mono (by decide)) rfl T.g_is_list_or_tuple T.F_is_list_or_tuple.kp T.b_is_list_or_tuple .nil pass0 (pa_cons (pv 0) (pa_cons pe_int (pa_cons (pe_glob (v := .int 4) rfl T.c_MOST_TRICKS ⟨_, rfl⟩) pa_nil)))))) (pss_one (ps_raiseF T.x_BadTricks ar_BadTricks rfl hr (takes_of rfl rfl rfl rfl) (pa_cons pe_non pa_nil))) pss_nil)
      (pss_one (ps_for (passes_of rfl) rfl (pi_enumA (by rfl) T.n_enumerate (pa_cons (pv 0) pa_nil)) (pg_tup rfl (pgs_cons (pg_name (i := 1) sc_check_tricks.nd rfl (Or.inl rfl)) (pgs_cons (pg_name (i := 2) sc_check_tricks.nd rfl (Or.inl rfl)) pgs_nil))) (pss_one (ps_if (pt_not (pt_val (pe_callB call_isi (by rfl) T.n_isinstance (by decide +kernel) (pa_cons (pv 2) (pa_cons (pe_glob (v := .ref T.C_Trick) rfl T.g_Trick rfl) pa_nil))))) (pss_one (ps_raiseF T.x_BadTricks ar_BadTricks rfl hr (takes_of rfl rfl rfl rfl) (pa_cons (pv 1) pa_nil))) pss_nil))))), ?_⟩
    rcases h with ⟨a, g, e⟩ | ⟨c, ys, lim, rfl, hc, l1, l2, hl, hi, e, k⟩
    · refine ⟨_, rfl, x, 1, 4, rfl, a, fun H1 S1 => ⟨_, rfl, ?_⟩⟩
      rw [g]
      exact iteT ⟨_, rfl, .inl rfl, fun d hd => e H1 d S1 hd⟩
    · refine ⟨_, rfl, .ref c, 1, 4, rfl, SqA.any hc, fun H1 S1 => ⟨_, rfl, ?_⟩⟩
      rw [show isTup 1 4 (seqOf H (.ref c)) = true from isTup_len (lo := 1) (hi := 4) hc l1 l2]
      refine iteF (enumA_of rfl (hc.same S1) fun J G wk hG => ?_)
      refine for_it wk (fun i σ H2 => ∃ v1 v2 : Option V, Same H1 H2 ∧ i ≤ lim ∧ σ = [some (.ref c), v1, v2]) ⟨none, none, Same.refl H1, Nat.zero_le _, rfl⟩ (fun i σ H2 _ ⟨_, _, S, _, _⟩ => hG H2 S) ?_ ?_
      · rintro i x' σ H2 H3 hin ⟨v1, v2, S, hlim, rfl⟩ ⟨p, x2, y, rfl, np, rfl, e2', hy'⟩
        cases e2'
        have hy' : ys[i]? = some y := hy'
        refine ⟨p, _, rfl, SqT.of upd_same, rfl, _, _, rfl, _, _, rfl, rfl, ?_⟩
        have S3 := (S1.trans S).trans (same_upd (o := .tup [.int (i : Nat), y]) np)
        rcases Nat.lt_or_ge i lim with q | q
        · obtain ⟨p2, dx, fs, rfl, hp⟩ := (hi i y q hy').same S3
          exact ⟨_, rfl, _, _, _, _, _, rfl, .own _, .base (T.ins_Trick _ _ _ _ hp), T.kis_Trick, _, rfl, iteF ⟨_, _, S.trans (same_upd np), by omega, rfl⟩⟩
        · have ei : i = lim := by omega
          subst ei
          obtain ⟨y2, hy2, ay, er⟩ := e hin
          rw [hy'] at hy2
          cases hy2
          obtain ⟨t, ty, ek⟩ := isi_trick T (ay.mono S3)
          have sm : ((i : Int)).natAbs.log2 < 1920 := Nat.lt_of_le_of_lt (Nat.log2_le_self _) (by omega)
          exact ⟨_, rfl, _, _, _, _, _, rfl, .own _, ty, ek, _, rfl, iteT ⟨_, rfl, _, rfl, .inr ⟨_, rfl, sm⟩, fun d hd => er _ d S3 hd⟩⟩
      · rintro σ H2 ⟨v1, v2, S, hlim, rfl⟩
        exact k (by omega) H2 (S1.trans S)
/-! ### what a chain makes -/
def mkAll (qs : List Prt) (n : Int) : Int := qs.foldl (fun n q => made q.1 q.2.1 q.2.2 n) n
def wide (qs : List Prt) : Int := qs.foldl (fun w q => w * blockOf q.1 q.2.1) 1
theorem take_snoc {α : Type} {l : List α} {i : Nat} {z : α} (h : l[i]? = some z) : l.take (i + 1) = l.take i ++ [z] := by
  obtain ⟨hi, e⟩ := List.getElem?_eq_some_iff.mp h
  rw [List.take_succ, h]
  rfl
theorem mkAll_snoc (qs : List Prt) (z : Prt) (n : Int) : mkAll (qs ++ [z]) n = made z.1 z.2.1 z.2.2 (mkAll qs n) := by
  unfold mkAll
  rw [List.foldl_append]
  rfl
theorem wide_snoc (qs : List Prt) (z : Prt) : wide (qs ++ [z]) = wide qs * blockOf z.1 z.2.1 := by
  unfold wide
  rw [List.foldl_append]
  rfl
def spMadeAll (T : Tx P K mg) : Sp := fun vs H Q _ => ∃ (c : Addr) (ys : List V) (qs : List Prt) (n : Int), vs = [.ref c, .int n] ∧ SqA H c ys ∧ Trs T H ys qs ∧ Q (.int (mkAll qs n)) H
theorem ok_made_of_all (T : Tx P K mg) : FnOk P w K mg base CX0 lv_made_of_all T.a_made_of_all T.d_made_of_all ["tricks", "n"] (spMadeAll T) := by
  refine T.F_made_of_all.ok sc_made_of_all (fun vs H Q E h => ?_) (fun cdv A outer s H vs Q E hr h => ?_)
  · obtain ⟨c, ys, qs, n, rfl, _⟩ := h
    rfl
  · obtain ⟨c, ys, qs, n, rfl, hc, ht, k⟩ := h
    refine ⟨_, (pss_cons (ps_for PassesOwn.never rfl (pi_seqA (pv 0)) (pg_name (i := 2) sc_made_of_all.nd rfl (Or.inl rfl)) (pss_one (ps_set (i := 1) sc_made_of_all.nd rfl (Or.inl rfl) (pe_call (ok_made_of T) (hr.mono (by decide)) rfl T.g_made_of T.F_made_of.kp T.b_made_of .nil pass0 (pa_cons (pv 2) (pa_cons (pv 1) pa_nil))))))
      (pss_one (ps_ret (pv 1)))), ?_⟩
    refine seqA_of rfl hc fun J G wk hG => ?_
    refine for_it wk (fun i σ H2 => ∃ v : Option V, H2 = H ∧ σ = [some (.ref c), some (.int (mkAll (qs.take i) n)), v]) ⟨none, rfl, rfl⟩ (fun i σ H2 _ ⟨_, e, _⟩ => e ▸ hG H (Same.refl H)) ?_ ?_
    · rintro i x' σ H2 H3 hin ⟨v, rfl, rfl⟩ ⟨rfl, hy⟩
      obtain ⟨p, z, rfl, hz, hT⟩ := ht.at hy
      refine ⟨_, rfl, _, rfl, p, _, _, _, _, rfl, hT, some (.ref p), rfl, ?_⟩
      rw [take_snoc hz, mkAll_snoc]
      rfl
    · rintro σ H2 ⟨v, rfl, rfl⟩
      rw [ht.len, List.take_length]
      exact ⟨_, rfl, k⟩
theorem Trs.blk {T : Tx P K mg} {H : Hp} {ys : List V} {qs : List Prt} (h : Trs T H ys qs) {i : Nat} {z : Prt} (hz : qs[i]? = some z) : 2 ≤ blockOf z.1 z.2.1 ∧ blockOf z.1 z.2.1 ≤ 256 := by
  have li := (List.getElem?_eq_some_iff.mp hz).1
  obtain ⟨p, z', _, hz', ⟨_, b1, b2, _⟩⟩ := h.at (i := i) (y := ys[i]'(by rw [h.len]; exact li)) (List.getElem?_eq_getElem _)
  rw [hz] at hz'
  cases hz'
  exact block_bd b1 b2
def spProduct (T : Tx P K mg) : Sp := fun vs H Q _ => ∃ (c : Addr) (ys : List V) (qs : List Prt), vs = [.ref c] ∧ SqA H c ys ∧ Trs T H ys qs ∧ Q (.int (wide qs)) H
theorem ok_blocks_product (T : Tx P K mg) : FnOk P w K mg base CX0 lv_blocks_product T.a_blocks_product T.d_blocks_product ["tricks"] (spProduct T) := by
  refine T.F_blocks_product.ok sc_blocks_product (fun vs H Q E h => ?_) (fun cdv A outer s H vs Q E hr h => ?_)
  · obtain ⟨c, ys, qs, rfl, _⟩ := h
    rfl
  · obtain ⟨c, ys, qs, rfl, hc, ht, k⟩ := h
    refine ⟨_, (pss_cons (ps_set (i := 1) sc_blocks_product.nd rfl (Or.inl rfl) pe_int)
      (pss_cons (ps_for PassesOwn.never rfl (pi_seqA (pv 0)) (pg_name (i := 2) sc_blocks_product.nd rfl (Or.inl rfl)) (pss_one (ps_aug (i := 1) sc_blocks_product.nd rfl (Or.inl rfl) (pe_call (ok_trick_block T) (hr.mono (by decide)) rfl T.g_trick_block T.F_trick_block.kp T.b_trick_block .nil pass0 (pa_cons (pv 2) pa_nil)) (ip_op iop_mul))))
      (pss_one (ps_ret (pv 1))))), ?_⟩
    refine seqA_of rfl hc fun J G wk hG => ?_
    refine for_it wk (fun i σ H2 => ∃ v : Option V, H2 = H ∧ σ = [some (.ref c), some (.int (wide (qs.take i))), v]) ⟨none, rfl, rfl⟩ (fun i σ H2 _ ⟨_, e, _⟩ => e ▸ hG H (Same.refl H)) ?_ ?_
    · rintro i x' σ H2 H3 hin ⟨v, rfl, rfl⟩ ⟨rfl, hy⟩
      obtain ⟨p, z, rfl, hz, hT⟩ := ht.at hy
      obtain ⟨B1, B2⟩ := ht.blk hz
      refine ⟨_, rfl, _, rfl, p, _, _, _, rfl, hT, _, _, rfl, rfl, .inr ⟨(show -(2 ^ 64) < blockOf z.1 z.2.1 by omega), (show blockOf z.1 z.2.1 < 2 ^ 64 by omega)⟩, some (.ref p), rfl, ?_⟩
      rw [take_snoc hz, wide_snoc]
      rfl
    · rintro σ H2 ⟨v, rfl, rfl⟩
      rw [ht.len, List.take_length]
      exact ⟨_, rfl, k⟩

/-! ### lists of pairs -/
/-- the values vs are the pairs l -/
def Prs (H : Hp) : List V → List (Int × Int) → Prop
  | [], [] => True
  | v :: vs, z :: l => (∃ q, v = .ref q ∧ H q = some (.tup [.int z.1, .int z.2])) ∧ Prs H vs l
  | _, _ => False
theorem Prs.of {H H' : Hp} (e : ∀ q xs, H q = some (.tup xs) → H' q = some (.tup xs)) : ∀ {vs : List V} {l : List (Int × Int)}, Prs H vs l → Prs H' vs l
  | [], [], _ => trivial
  | _ :: _, _ :: _, ⟨⟨q, h1, h2⟩, h3⟩ => ⟨⟨q, h1, e _ _ h2⟩, h3.of e⟩
  | [], _ :: _, h => h.elim
  | _ :: _, [], h => h.elim
theorem Prs.same {H H' : Hp} {vs : List V} {l : List (Int × Int)} (h : Prs H vs l) (S : Same H H') : Prs H' vs l := h.of fun q _ e => S _ _ e
theorem Prs.put {H : Hp} {a : Addr} {ys : List V} {o : HO} {vs : List V} {l : List (Int × Int)} (h : Prs H vs l) (ha : H a = some (.lst ys)) : Prs (upd H a o) vs l := h.of fun q xs e => by
  rw [upd_ne (ne_of e ha (by intro z; cases z))]
  exact e
theorem Prs.but {H H' : Hp} {r : Addr} {ys : List V} {vs : List V} {l : List (Int × Int)} (h : Prs H vs l) (hr : H r = some (.lst ys)) (B : But r H H') : Prs H' vs l := h.of fun q xs e => B _ _ e (ne_of e hr (by intro z; cases z))
theorem Prs.len {H : Hp} : ∀ {vs : List V} {l : List (Int × Int)}, Prs H vs l → vs.length = l.length
  | [], [], _ => rfl
  | _ :: _, _ :: _, ⟨_, h3⟩ => congrArg Nat.succ h3.len
  | [], _ :: _, h => h.elim
  | _ :: _, [], h => h.elim
theorem Prs.snoc {H : Hp} {q : Addr} {z : Int × Int} (hq : H q = some (.tup [.int z.1, .int z.2])) : ∀ {vs : List V} {l : List (Int × Int)}, Prs H vs l → Prs H (vs ++ [.ref q]) (l ++ [z])
  | [], [], _ => ⟨⟨q, rfl, hq⟩, trivial⟩
  | _ :: _, _ :: _, ⟨h1, h3⟩ => ⟨h1, h3.snoc hq⟩
  | [], _ :: _, h => h.elim
  | _ :: _, [], h => h.elim
def pairD (z : Int × Int) : PyData := .tuple [.int z.1, .int z.2]
theorem dp_pair {H : Hp} {q : Addr} {z : Int × Int} (h : H q = some (.tup [.int z.1, .int z.2])) : Dp K H (.ref q) (pairD z) := .tup (SqT.of h) (.cons (.int _) (.cons (.int _) .nil))
theorem Prs.dp {H : Hp} : ∀ {vs : List V} {l : List (Int × Int)}, Prs H vs l → DpAll K H vs (l.map pairD)
  | [], [], _ => .nil
  | _ :: _, _ :: _, ⟨⟨q, h1, h2⟩, h3⟩ => h1 ▸ .cons (dp_pair h2) h3.dp
  | [], _ :: _, h => h.elim
  | _ :: _, [], h => h.elim
theorem eqv_pair (z y : Int × Int) : PyData.eqv (pairD z) (pairD y) = decide (z = y) := by
  show (PyData.eqv (.int z.1) (.int y.1) && (PyData.eqv (.int z.2) (.int y.2) && true)) = _
  show ((z.1 == y.1) && ((z.2 == y.2) && true)) = _
  rw [Bool.eq_iff_iff]
  simp [Prod.ext_iff]
theorem lay_pair (z : Int × Int) : PyData.canLay0 (pairD z) = true ∧ PyData.depth (pairD z) ≤ 2 := ⟨by simp [pairD, PyData.canLay0, PyData.canLayAll0], by simp [pairD, PyData.depth, PyData.depthAll]⟩
theorem shaped_pairs (l : List (Int × Int)) : SeqAt.shaped (.list (l.map pairD)) = true := (shaped_of (lays_map pairD 2 lay_pair l) (by decide)).1
theorem shaped_pair (z : Int × Int) : SeqAt.shaped (pairD z) = true := by
  show (PyData.canLay0 (pairD z) && decide (PyData.depth (pairD z) ≤ 64)) = true
  have := lay_pair z
  rw [Bool.and_eq_true]
  exact ⟨this.1, decide_eq_true (by omega)⟩

/-! ### a chain, a divisor, not too wide -/
/-- what is wished of any value as a chain, and a value as its divisor -/
def ChW (T : Tx P K mg) (H : Hp) (x d : V) (E : XK) (G : Addr → List V → List Prt → Hp → Prop) : Prop := AnyV (OwnT T) H d ∧
  ((AnyV (OwnT T) H x ∧ isTup 1 4 (seqOf H x) = false ∧ errN T E T.C_BadTricks "index" H .non) ∨
   (∃ (c : Addr) (ys : List V) (lim : Nat), x = .ref c ∧ SqA H c ys ∧ 1 ≤ ys.length ∧ ys.length ≤ 4 ∧ lim < ys.length ∧ (∀ (j : Nat) (z : V), j < lim → ys[j]? = some z → isT T H z) ∧
     ∃ y, ys[lim]? = some y ∧ AnyV (fun _ => False) H y ∧ errN T E T.C_BadTricks "index" H (.int (lim : Nat))) ∨
   ∃ (c : Addr) (ys : List V) (qs : List Prt), x = .ref c ∧ SqA H c ys ∧ 1 ≤ ys.length ∧ ys.length ≤ 4 ∧ Trs T H ys qs ∧
     (intIn d 1 30 = false → ∀ H2, Same H H2 → E (.ref T.C_BadDivisor) none H2) ∧ (intIn d 1 30 = true → 300 < wide qs → errN T E T.C_TooWide "most" H (.int 300)) ∧
     (intIn d 1 30 = true → wide qs ≤ 300 → ∀ H2, Same H H2 → G c ys qs H2))
def spChkChain (T : Tx P K mg) : Sp := fun vs H Q E => ∃ x d : V, vs = [x, d] ∧ ChW T H x d E fun _ _ _ H2 => Q .non H2
theorem ok_check_chain (T : Tx P K mg) : FnOk P w K mg base (L2.CX P w) lv_check_chain T.a_check_chain T.d_check_chain ["tricks", "d"] (spChkChain T) := by
  refine T.F_check_chain.okX sc_check_chain (fun vs H Q E h => ?_) (fun cdv A outer s H vs Q E hr h => ?_)
  · obtain ⟨x, d, rfl, _⟩ := h
    rfl
  · obtain ⟨x, d, rfl, ad, h⟩ := h
    refine ⟨_, (pss_cons (ps_expr (pe_call (ok_check_tricks T) (hr.mono (by decide)) rfl T.g_check_tricks T.F_check_tricks.kp T.b_check_tricks .nil (passes_call (takes_of rfl rfl rfl rfl) fun _ _ _ _ h => h) (pa_cons (pv 0) pa_nil)))
      (pss_cons (ps_expr (pe_call (ok_check_divisor T) (hr.mono (by decide)) rfl T.g_check_divisor T.F_check_divisor.kp T.b_check_divisor .nil (passes_call (takes_of rfl rfl rfl rfl) fun _ _ _ _ h => h) (pa_cons (pv 1) (pa_cons (pe_glob (v := .int 30) rfl T.c_GREATEST_CHAIN_DIVISOR ⟨_, rfl⟩) pa_nil))))
      (pss_one (ps_if (pt_cmpR op_gt (pe_call (ok_blocks_product T) (hr.mono (by decide)) rfl T.g_blocks_product T.F_blocks_product.kp T.b_blocks_product .nil pass0 (pa_cons (pv 0) pa_nil)) (pe_glob (v := .int 300) rfl T.c_GREATEST_PRODUCT ⟨_, rfl⟩) (nomark _)) (pss_one (ps_raiseF T.x_TooWide ar_TooWide rfl hr (takes_of rfl rfl rfl rfl) (pa_cons (pe_glob (v := .int 300) rfl T.c_GREATEST_PRODUCT ⟨_, rfl⟩) pa_nil))) pss_nil)))), ?_⟩
    rcases h with ⟨a, g, e⟩ | ⟨c, ys, lim, rfl, hc, l1, l2, hl, hi, y, hy, ay, e⟩ | ⟨c, ys, qs, rfl, hc, l1, l2, ht, e1, e2, k⟩
    · exact ⟨_, rfl, x, rfl, .inl ⟨a, g, e⟩⟩
    · exact ⟨_, rfl, _, rfl, .inr ⟨c, ys, lim, rfl, hc, l1, l2, by omega, hi, fun _ => ⟨y, hy, ay, e⟩, fun z => by omega⟩⟩
    · refine ⟨_, rfl, _, rfl, .inr ⟨c, ys, ys.length, rfl, hc, l1, l2, Nat.le_refl _, fun j z _ hz => ht.isT hz, fun z => by omega, fun _ H2 S2 => ?_⟩⟩
      refine ⟨_, rfl, d, 30, rfl, by decide, by decide, ad.mono S2, fun g => ?_, fun g => e1 g H2 S2⟩
      refine ⟨_, rfl, c, ys, qs, rfl, hc.same S2, ht.same S2, _, _, rfl, rfl, _, rfl, ?_⟩
      refine ite2 (fun q => ?_) (fun q => ?_)
      · have q1 : 300 < wide qs := by simpa using q
        exact ⟨_, rfl, .inr ⟨_, rfl, by decide⟩, fun d' hd => e2 g q1 H2 d' S2 hd⟩
      · have q1 : ¬ 300 < wide qs := by simpa using q
        exact k g (by omega) H2 S2
/-- what is wished behind it -/
theorem ChW.to {T : Tx P K mg} {H : Hp} {x d : V} {E : XK} {G G' : Addr → List V → List Prt → Hp → Prop} (h : ChW T H x d E G)
    (k : ∀ (c : Addr) (ys : List V) (qs : List Prt) (dd : Int) (H2 : Hp), x = .ref c → d = .int dd → 1 ≤ dd → dd ≤ 30 → wide qs ≤ 300 → SqA H c ys → 1 ≤ ys.length → ys.length ≤ 4 → Trs T H ys qs → Same H H2 → G c ys qs H2 → G' c ys qs H2) : ChW T H x d E G' := by
  obtain ⟨ad, h⟩ := h
  refine ⟨ad, ?_⟩
  rcases h with h | h | ⟨c, ys, qs, rfl, hc, l1, l2, ht, e1, e2, g⟩
  · exact .inl h
  · exact .inr (.inl h)
  · refine .inr (.inr ⟨c, ys, qs, rfl, hc, l1, l2, ht, e1, e2, fun i w H2 S2 => ?_⟩)
    obtain ⟨dd, rfl, d1, d2⟩ := intIn_int' i
    exact k c ys qs dd H2 rfl rfl d1 d2 w hc l1 l2 ht S2 (g i w H2 S2)

/-! ### the law's draws: what is drawn lies in its range; nothing but the row of the draws changes -/
theorem fmod_bd (x : Int) {m : Int} (h : 0 < m) : 0 ≤ x.fmod m ∧ x.fmod m < m := by
  rw [Int.fmod_eq_emod_of_nonneg x (by omega)]
  exact ⟨Int.emod_nonneg x (by omega), Int.emod_lt_of_pos x h⟩
abbrev rowL (a : Addr) (i s c : Int) : List V := [.ref a, .int i, .int s, .int c]
/-- the script at a: locked, or of the top's own -/
def Scr (K : PySem.W.Frag) (H : Hp) (a : Addr) (xs : List V) : Prop := (∃ o, H a = some (.frz o (.lst xs))) ∨ SqL K (fun _ => none) a xs
theorem scr_of {H : Hp} {a : Addr} {xs : List V} (hO : ∀ b, H b = none ∨ ∃ o xs, H b = some (.frz o (.lst xs))) (h : SqL K H a xs) : Scr K H a xs := by
  rcases h with (h | h) | h
  · rcases hO a with z | ⟨o, ys, z⟩
    · rw [z] at h; cases h
    · rw [z] at h; cases h
  · exact .inl h
  · exact .inr (.inr h)
theorem Scr.seq {H : Hp} {a : Addr} {xs : List V} (h : Scr K H a xs) : SqL K H a xs := by
  rcases h with h | (h | ⟨o, h⟩) | h
  · exact .inl (.inr h)
  · cases h
  · cases h
  · exact .inr h
theorem Scr.mono {H H' : Hp} {a : Addr} {xs : List V} (h : Scr K H a xs) (k : ∀ b o u, H b = some (.frz o u) → H' b = some (.frz o u)) : Scr K H' a xs := by
  rcases h with ⟨o, h⟩ | h
  · exact .inl ⟨o, k _ _ _ h⟩
  · exact .inr h
/-- at r the row of the draws over the script at a -/
def RowAt (K : PySem.W.Frag) (H : Hp) (r a : Addr) (ns : List Int) : Prop := ∃ i s c : Int, H r = some (.lst (rowL a i s c)) ∧ 0 ≤ i ∧ 0 ≤ c ∧ Scr K H a (ns.map V.int) ∧ ns.length ≤ 63
theorem RowAt.same {H H' : Hp} {r a : Addr} {ns : List Int} (h : RowAt K H r a ns) (e : Same H H') : RowAt K H' r a ns :=
  let ⟨i, s, c, h1, h2, h3, h4, h5⟩ := h
  ⟨i, s, c, e _ _ h1, h2, h3, h4.mono fun _ _ _ z => e _ _ z, h5⟩
/-- another list is changed -/
theorem RowAt.put {H : Hp} {r a q : Addr} {ns : List Int} {ys : List V} {o : HO} (h : RowAt K H r a ns) (hq : H q = some (.lst ys)) (n : q ≠ r) : RowAt K (upd H q o) r a ns :=
  let ⟨i, s, c, h1, h2, h3, h4, h5⟩ := h
  ⟨i, s, c, by rw [upd_ne (Ne.symm n)]; exact h1, h2, h3, h4.mono fun b o' u z => by rw [upd_ne (ne_of z hq (by intro y; cases y))]; exact z, h5⟩
/-- the row as the law lays it -/
theorem RowAt.start {H : Hp} {r a : Addr} {ns : List Int} {i s c : Int} (hr : H r = none) (hS : Scr K H a (ns.map V.int)) (hl : ns.length ≤ 63) (hi : 0 ≤ i) (hc : 0 ≤ c) : RowAt K (upd H r (.lst (rowL a i s c))) r a ns :=
  ⟨i, s, c, upd_same, hi, hc, hS.mono fun b o u z => by rw [upd_ne (ne_of_none z hr)]; exact z, hl⟩
def spTaken (K : PySem.W.Frag) : Sp := fun vs H Q _ => ∃ (r a : Addr) (ns : List Int) (m : Int), vs = [.ref r, .int m] ∧ 0 < m ∧ m ≤ 10 ^ 41 ∧ RowAt K H r a ns ∧
  ∀ (v : Int) (H' : Hp), 0 ≤ v → v < m → RowAt K H' r a ns → But r H H' → Q (.int v) H'
theorem ok__law_taken (T : Tx P K mg) : FnOk P w K mg base CX0 lv__law_taken T.a__law_taken T.d__law_taken ["_law_row", "_law_many"] (spTaken K) := by
  refine T.F__law_taken.ok sc__law_taken (fun vs H Q E h => ?_) (fun cdv A outer s H vs Q E hr h => ?_)
  · obtain ⟨r, a, ns, m, rfl, _⟩ := h
    rfl
  · obtain ⟨r, a, ns, m, rfl, m0, m1, ⟨i, s, c, hR, i0, c0, hK, hlen⟩, k⟩ := h
    have hKB : ∀ H', But r H H' → Scr K H' a (ns.map V.int) := fun H' b => hK.mono fun c o u z => b c _ z (ne_of z hR (by intro y; cases y))
    have hdv : ∀ x : Int, CDivW x m := fun x => wide_div m0 (b := 140) (by omega) (by decide) (by decide)
    have back : ∀ (v : Int) (i' s' c' : Int) (H' : Hp), 0 ≤ v → v < m → 0 ≤ i' → 0 ≤ c' → H' r = some (.lst (rowL a i' s' c')) → But r H H' → Q (.int v) H' := fun v i' s' c' H' v0 v1 z1 z2 e b =>
      k v H' v0 v1 ⟨i', s', c', e, z1, z2, hKB _ b, hlen⟩ b
    refine ⟨_, (pss_cons (ps_if (pt_cmpR op_gt (pe_ix ix_list (pv 0) pe_int (fun _ _ => rfl)) pe_int (nomark _)) (pss_cons (ps_set (i := 2) sc__law_taken.nd rfl (Or.inl rfl) (pe_op op_modN (pe_callTy call_int1 (by rfl) T.n_int (by decide +kernel) (pa_cons (pe_ix ix_list (pv 0) pe_int (fun _ _ => rfl)) pa_nil)) (pv 1)))
      (pss_cons (ps_asg (pe_op op_fdivW (pe_ix ix_list (pv 0) pe_int (fun _ _ => rfl)) (pv 1)) (pg_sub (pv 0) pe_int set_list))
      (pss_one (ps_ret (pv 2))))) pss_nil)
      (pss_cons (ps_asg (pe_op op_add (pe_ix ix_list (pv 0) pe_int (fun _ _ => rfl)) pe_int) (pg_sub (pv 0) pe_int set_list))
      (pss_cons (ps_if (pt_cmpR op_gt (pe_ix ix_list (pv 0) pe_int (fun _ _ => rfl)) (pe_callB call_len_seq (by rfl) T.n_len (by decide +kernel) (pa_cons (pe_ix ix_list (pv 0) pe_int (fun _ _ => rfl)) pa_nil)) (nomark _)) (pss_cons (ps_asg (pe_op op_modN (pe_callTy call_int1 (by rfl) T.n_int (by decide +kernel) (pa_cons (pe_op op_add (pe_op op_mul (pe_ix ix_list (pv 0) pe_int (fun _ _ => rfl)) pe_int) pe_int) pa_nil)) pe_int) (pg_sub (pv 0) pe_int set_list))
      (pss_one (ps_ret (pe_op op_modN (pe_callTy call_int1 (by rfl) T.n_int (by decide +kernel) (pa_cons (pe_op op_fdivW (pe_ix ix_list (pv 0) pe_int (fun _ _ => rfl)) pe_int) pa_nil)) (pv 1))))) pss_nil)
      (pss_cons (ps_set (i := 3) sc__law_taken.nd rfl (Or.inl rfl) (pe_ix ix_list (pe_ix ix_list (pv 0) pe_int (fun _ _ => rfl)) (pe_op op_sub (pe_ix ix_list (pv 0) pe_int (fun _ _ => rfl)) pe_int) (fun _ _ => rfl)))
      (pss_cons (ps_asg (pe_op op_modN (pe_callTy call_int1 (by rfl) T.n_int (by decide +kernel) (pa_cons (pe_op op_add (pe_op op_add (pe_op op_mul (pe_ix ix_list (pv 0) pe_int (fun _ _ => rfl)) pe_int) (pv 3)) pe_int) pa_nil)) pe_int) (pg_sub (pv 0) pe_int set_list))
      (pss_cons (ps_if (pt_cmpR op_ge (pv 3) (pe_op op_pow pe_int pe_int) (nomark _)) (pss_one (ps_asg (pe_op op_fdivW (pv 3) (pv 1)) (pg_sub (pv 0) pe_int set_list))) pss_nil)
      (pss_one (ps_ret (pe_op op_modN (pe_callTy call_int1 (by rfl) T.n_int (by decide +kernel) (pa_cons (pv 3) pa_nil)) (pv 1)))))))))), ?_⟩
    refine ⟨_, rfl, r, _, _, _, rfl, rfl, SqL.of hR, rfl, _, _, rfl, rfl, _, rfl, ?_⟩
    refine ite2 (fun g => ?_) (fun g => ?_)
    · -- a great cell's digits
      obtain ⟨v0, v1⟩ := fmod_bd c m0
      refine ⟨_, rfl, r, _, _, _, rfl, rfl, SqL.of hR, rfl, .inl ⟨_, rfl, _, rfl, _, _, rfl, rfl, by omega, ?_⟩⟩
      refine ⟨_, rfl, r, _, _, _, rfl, rfl, SqL.of hR, rfl, _, rfl, _, _, rfl, rfl, hdv c, _, rfl, r, _, _, _, rfl, rfl, hR, rfl, ?_⟩
      exact ⟨_, rfl, back _ i s (c / m) _ v0 v1 i0 (Int.ediv_nonneg c0 (by omega)) upd_same But.put⟩
    · refine ⟨_, rfl, r, _, _, _, rfl, rfl, SqL.of hR, rfl, _, _, rfl, rfl, _, rfl, r, _, _, _, rfl, rfl, hR, rfl, ?_⟩
      -- behind the script's end?
      have hR1 : upd H r (.lst (rowL a (i + 1) s c)) r = some (.lst (rowL a (i + 1) s c)) := upd_same
      have hB1 : But r H (upd H r (.lst (rowL a (i + 1) s c))) := But.put
      have hS1 : SqL K (upd H r (.lst (rowL a (i + 1) s c))) a (ns.map V.int) := (hKB _ hB1).seq
      refine ⟨_, rfl, r, _, _, _, rfl, rfl, SqL.of hR1, rfl, _, rfl, r, _, _, _, rfl, rfl, SqL.of hR1, rfl, a, _, rfl, .inl hS1, _, _, rfl, rfl, _, rfl, ?_⟩
      refine ite2 (fun g2 => ?_) (fun g2 => ?_)
      · refine ⟨_, rfl, r, _, _, _, rfl, rfl, SqL.of hR1, rfl, _, _, rfl, rfl, .inr ⟨by decide, by decide⟩, _, _, rfl, rfl, .inl ⟨_, rfl, _, _, rfl, rfl, (show (2147483647 : Int) ≠ 0 by decide), ?_⟩⟩
        refine ⟨_, rfl, r, _, _, _, rfl, rfl, hR1, rfl, ?_⟩
        refine ⟨_, rfl, r, _, _, _, rfl, rfl, SqL.of upd_same, rfl, _, _, rfl, rfl, wide_div (by decide) (b := 3) (by decide) (by decide) (by decide), .inl ⟨_, rfl, _, rfl, _, _, rfl, rfl, by omega, ?_⟩⟩
        obtain ⟨v0, v1⟩ := fmod_bd ((s * 48271 + 11).fmod 2147483647 / 7) m0
        exact back _ (i + 1) _ c _ v0 v1 (by omega) c0 upd_same (hB1.trans But.put)
      · have g3 : i + 1 ≤ (ns.length : Int) := by
          simp only [decide_eq_true_eq, List.length_map] at g2
          omega
        obtain ⟨z, hz⟩ : ∃ z, ns[i.toNat]? = some z := ⟨ns[i.toNat]'(by omega), List.getElem?_eq_getElem (by omega)⟩
        have hz1 : atI (ns.map V.int) (i + 1 - 1) = some (V.int z) := at_of (j := i.toNat) (by omega) (by rw [List.getElem?_map, hz]; rfl)
        refine ⟨_, rfl, r, _, _, _, rfl, rfl, SqL.of hR1, rfl, _, rfl, r, _, _, _, rfl, rfl, SqL.of hR1, rfl, _, _, rfl, rfl, a, _, _, _, rfl, rfl, hS1, hz1, ?_⟩
        refine ⟨_, rfl, r, _, _, _, rfl, rfl, SqL.of hR1, rfl, _, _, rfl, rfl, .inr ⟨by decide, by decide⟩, _, rfl, _, _, rfl, rfl, _, _, rfl, rfl, .inl ⟨_, rfl, _, _, rfl, rfl, (show (2147483647 : Int) ≠ 0 by decide), ?_⟩⟩
        refine ⟨_, rfl, r, _, _, _, rfl, rfl, hR1, rfl, ?_⟩
        have hR2 : upd (upd H r (.lst (rowL a (i + 1) s c))) r (.lst (rowL a (i + 1) ((s * 48271 + z + 11).fmod 2147483647) c)) r = some (.lst (rowL a (i + 1) ((s * 48271 + z + 11).fmod 2147483647) c)) := upd_same
        have hB2 : But r H (upd (upd H r (.lst (rowL a (i + 1) s c))) r (.lst (rowL a (i + 1) ((s * 48271 + z + 11).fmod 2147483647) c))) := hB1.trans But.put
        obtain ⟨v0, v1⟩ := fmod_bd z m0
        refine ⟨_, rfl, _, _, rfl, rfl, ⟨by decide, by decide, by decide⟩, _, _, rfl, rfl, _, rfl, ?_⟩
        refine ite2 (fun g4 => ?_) (fun g4 => ?_)
        · refine ⟨_, rfl, _, rfl, _, _, rfl, rfl, hdv z, _, rfl, r, _, _, _, rfl, rfl, hR2, rfl, ?_⟩
          have z0 : 0 ≤ z := by
            have g5 : (10 : Int) ^ 18 ≤ z := by simpa using g4
            exact Int.le_trans (by decide) g5
          refine ⟨_, rfl, .inl ⟨_, rfl, _, rfl, _, _, rfl, rfl, by omega, ?_⟩⟩
          exact back _ (i + 1) _ (z / m) _ v0 v1 (by omega) (Int.ediv_nonneg z0 (by omega)) upd_same (hB2.trans But.put)
        · refine ⟨_, rfl, .inl ⟨_, rfl, _, rfl, _, _, rfl, rfl, by omega, ?_⟩⟩
          exact back _ (i + 1) _ c _ v0 v1 (by omega) c0 hR2 hB2

/-! ### a menu: an item of a written list at a drawn place -/
theorem RowAt.new {H : Hp} {r a p : Addr} {ns : List Int} {o : HO} (h : RowAt K H r a ns) (hp : H p = none) : RowAt K (upd H p o) r a ns := h.same (same_upd hp)
theorem RowAt.ne {H : Hp} {r a p : Addr} {ns : List Int} (h : RowAt K H r a ns) (hp : H p = none) : p ≠ r :=
  let ⟨_, _, _, h1, _⟩ := h
  (ne_of_none h1 hp).symm
theorem But.new {H H1 : Hp} {r p : Addr} {o : HO} (b : But r H H1) (hp : H1 p = none) : But r H (upd H1 p o) := b.trans (Same.but (same_upd hp))
theorem But.free {H H1 : Hp} {r p : Addr} (b : But r H H1) (n : p ≠ r) (hp : H1 p = none) : H p = none := by
  cases q : H p with
  | none => rfl
  | some o =>
    rw [b p o q n] at hp
    cases hp
/-- an item of the list laid at p, at a place that is drawn -/
theorem menu {H1 : Hp} {r a p : Addr} {ns items : List Int} {m : Int} (Pr : Int → Prop) (hP : ∀ z ∈ items, Pr z) (hl : (items.length : Int) = m) (R1 : RowAt K H1 r a ns) (hp : H1 p = none) {Q : VK}
    (k : ∀ (z : Int) (H2 : Hp), Pr z → RowAt K H2 r a ns → But r H1 H2 → H2 p = some (.lst (items.map V.int)) → Q (.int z) H2) (h0 : 0 < m) (h1 : m ≤ 10 ^ 41) :
    spTaken K ([.ref r, .int m] ++ []) (upd H1 p (.lst (items.map V.int))) (fun y H2 => rIxL K (.ref p) y H2 Q) E0 := by
  refine ⟨r, a, ns, m, rfl, h0, h1, R1.new hp, fun w H2 w0 w1 R2 B2 => ?_⟩
  obtain ⟨z, hz, he⟩ := at_some Pr hP w0 (by omega)
  have npr := R1.ne hp
  exact ⟨p, _, _, _, rfl, rfl, SqL.of (B2 _ _ upd_same npr), he, k z H2 hz R2 ((Same.but (same_upd hp)).trans B2) (B2 _ _ upd_same npr)⟩
theorem at_someV (Pr : V → Prop) {xs : List V} (h : ∀ z ∈ xs, Pr z) {i : Int} (h0 : 0 ≤ i) (h1 : i < xs.length) : ∃ z, Pr z ∧ atI xs i = some z := by
  obtain ⟨z, hz⟩ : ∃ z, xs[i.toNat]? = some z := ⟨xs[i.toNat]'(by omega), List.getElem?_eq_getElem (by omega)⟩
  exact ⟨z, h z (List.mem_of_getElem? hz), at_of (j := i.toNat) (by omega) hz⟩
theorem menuV {H1 : Hp} {r a p : Addr} {ns : List Int} {items : List V} {m : Int} (Pr : V → Prop) (hP : ∀ z ∈ items, Pr z) (hl : (items.length : Int) = m) (R1 : RowAt K H1 r a ns) (hp : H1 p = none) {Q : VK}
    (k : ∀ (z : V) (H2 : Hp), Pr z → RowAt K H2 r a ns → But r H1 H2 → H2 p = some (.lst items) → Q z H2) (h0 : 0 < m) (h1 : m ≤ 10 ^ 41) :
    spTaken K ([.ref r, .int m] ++ []) (upd H1 p (.lst items)) (fun y H2 => rIxL K (.ref p) y H2 Q) E0 := by
  refine ⟨r, a, ns, m, rfl, h0, h1, R1.new hp, fun w H2 w0 w1 R2 B2 => ?_⟩
  obtain ⟨z, hz, he⟩ := at_someV Pr hP w0 (by omega)
  have npr := R1.ne hp
  exact ⟨p, _, _, _, rfl, rfl, SqL.of (B2 _ _ upd_same npr), he, k z H2 hz R2 ((Same.but (same_upd hp)).trans B2) (B2 _ _ upd_same npr)⟩
/-- a plain value: None, a bool, an int, a text -/
def flatA : V → Bool
  | .non => true | .bl _ => true | .int _ => true | .str _ => true | _ => false
theorem any_flat {T : Addr → Prop} {H : Hp} {v : V} (h : flatA v = true) : AnyV T H v := by
  cases v with
  | non => exact .non
  | bl b => exact .bl b
  | int i => exact .int i
  | str x => exact .str x
  | _ => cases h

/-! ### the row is a list -/
theorem RowAt.lst {H : Hp} {r a : Addr} {ns : List Int} (h : RowAt K H r a ns) : ∃ ys, H r = some (.lst ys) := let ⟨_, _, _, h1, _⟩ := h; ⟨_, h1⟩

/-! ### the rests by which a chain is judged -/
theorem wideF (w : Int) : ∀ qs : List Prt, qs.foldl (fun w q => w * blockOf q.1 q.2.1) w = w * wide qs
  | [] => (Int.mul_one w).symm
  | q :: qs => by
    unfold wide
    rw [List.foldl_cons, List.foldl_cons, wideF (w * blockOf q.1 q.2.1) qs, wideF (1 * blockOf q.1 q.2.1) qs, Int.one_mul, Int.mul_assoc]
theorem wide_cons (q : Prt) (qs : List Prt) : wide (q :: qs) = blockOf q.1 q.2.1 * wide qs := by
  show qs.foldl _ (1 * blockOf q.1 q.2.1) = _
  rw [wideF, Int.one_mul]
theorem wide_pos : ∀ {qs : List Prt}, (∀ q ∈ qs, 2 ≤ blockOf q.1 q.2.1) → 1 ≤ wide qs
  | [], _ => Int.le_refl _
  | q :: qs, h => by
    rw [wide_cons]
    have h1 := h q List.mem_cons_self
    have h2 := wide_pos fun z hz => h z (List.mem_cons_of_mem _ hz)
    have := Int.mul_le_mul h1 h2 (by omega) (by omega)
    omega
theorem mkAll_cons (q : Prt) (qs : List Prt) (n : Int) : mkAll (q :: qs) n = mkAll qs (made q.1 q.2.1 q.2.2 n) := rfl
/-- behind a stretch of its width it makes one more -/
theorem mkAll_shift : ∀ {qs : List Prt}, (∀ q ∈ qs, 2 ≤ blockOf q.1 q.2.1) → ∀ n k : Int, mkAll qs (n + wide qs * k) = mkAll qs n + k
  | [], _, n, k => by
    show n + 1 * k = n + k
    rw [Int.one_mul]
  | q :: qs, h, n, k => by
    rw [wide_cons, mkAll_cons, mkAll_cons, Int.mul_assoc]
    have e : made q.1 q.2.1 q.2.2 (n + blockOf q.1 q.2.1 * (wide qs * k)) = made q.1 q.2.1 q.2.2 n + wide qs * k := by
      have h1 := h q List.mem_cons_self
      unfold made
      rw [Int.fmod_eq_emod_of_nonneg _ (by omega), Int.fmod_eq_emod_of_nonneg _ (by omega), Int.add_mul_emod_self_left, Int.add_mul_ediv_left _ _ (by omega)]
      omega
    rw [e]
    exact mkAll_shift (fun z hz => h z (List.mem_cons_of_mem _ hz)) _ k
theorem Trs.blks {T : Tx P K mg} {H : Hp} {ys : List V} {qs : List Prt} (h : Trs T H ys qs) : ∀ q ∈ qs, 2 ≤ blockOf q.1 q.2.1 := fun q hq => by
  obtain ⟨i, hi⟩ := List.mem_iff_getElem?.mp hq
  exact (h.blk hi).1
theorem Prs.at {H : Hp} : ∀ {vs : List V} {l : List (Int × Int)}, Prs H vs l → ∀ {i : Nat} {y : V}, vs[i]? = some y → ∃ q z, y = .ref q ∧ l[i]? = some z ∧ H q = some (.tup [.int z.1, .int z.2])
  | [], [], _, i, y, h => by cases h
  | _ :: _, z :: _, ⟨⟨q, h1, h2⟩, _⟩, 0, y, h => by
    cases h
    exact ⟨q, z, h1, rfl, h2⟩
  | _ :: _, _ :: _, ⟨_, h3⟩, i + 1, y, h => h3.at (i := i) h
  | [], _ :: _, h, _, _, _ => h.elim
  | _ :: _, [], h, _, _, _ => h.elim
/-- the rests of n and of what is made of it -/
def rpL (qs : List Prt) (d : Int) (n : Nat) : List (Int × Int) := (List.range n).map fun (k : Nat) => ((k : Int).fmod d, (mkAll qs (k : Int)).fmod d)
theorem rpL_succ (qs : List Prt) (d : Int) (n : Nat) : rpL qs d (n + 1) = rpL qs d n ++ [((n : Int).fmod d, (mkAll qs (n : Int)).fmod d)] := by
  unfold rpL
  rw [List.range_succ, List.map_append]
  rfl
theorem rpL_len (qs : List Prt) (d : Int) (n : Nat) : (rpL qs d n).length = n := by
  unfold rpL
  rw [List.length_map, List.length_range]
def mL (qs : List Prt) (n : Nat) : List Int := (List.range n).map fun (k : Nat) => mkAll qs (k : Int)
theorem mL_succ (qs : List Prt) (n : Nat) : mL qs (n + 1) = mL qs n ++ [mkAll qs (n : Int)] := by
  unfold mL
  rw [List.range_succ, List.map_append]
  rfl
theorem mL_len (qs : List Prt) (n : Nat) : (mL qs n).length = n := by
  unfold mL
  rw [List.length_map, List.length_range]
def spRestPairs (T : Tx P K mg) : Sp := fun vs H Q _ => ∃ (c : Addr) (ys : List V) (qs : List Prt) (d : Int), vs = [.ref c, .int d] ∧ SqA H c ys ∧ Trs T H ys qs ∧ 1 ≤ d ∧ d ≤ 30 ∧ wide qs ≤ 300 ∧
  ∀ (D : Addr) (us : List V) (H2 : Hp), Same H H2 → H D = none → H2 D = some (.lst us) → Prs H2 us (rpL qs d (wide qs * d).toNat) → Q (.ref D) H2
theorem ok_rest_pairs (T : Tx P K mg) : FnOk P w K mg base CX0 lv_rest_pairs T.a_rest_pairs T.d_rest_pairs ["tricks", "d"] (spRestPairs T) := by
  refine T.F_rest_pairs.ok sc_rest_pairs (fun vs H Q E h => ?_) (fun cdv A outer s H vs Q E hr h => ?_)
  · obtain ⟨c, ys, qs, d, rfl, _⟩ := h
    rfl
  · obtain ⟨c, ys, qs, d, rfl, hc, ht, d1, d2, hw, k⟩ := h
    refine ⟨_, (pss_cons (ps_set (i := 2) sc_rest_pairs.nd rfl (Or.inr rfl) (pe_call (ok_blocks_product T) (hr.mono (by decide)) rfl T.g_blocks_product T.F_blocks_product.kp T.b_blocks_product .nil pass0 (pa_cons (pv 0) pa_nil)))
      (pss_cons (ps_set (i := 3) sc_rest_pairs.nd rfl (Or.inr rfl) (pe_lc (own := [("n", 4)]) (g := gName 4) (tt := tYes) rfl sc_rest_pairs.nd (pi_range1 (by rfl) T.n_range (pa_cons (pv 2) pa_nil)) (blkOk_by (own := [("n", 4)]) (N := ["tricks", "d", "width", "made", "n"]) (sc := defScope s_rest_pairs) (by decide +kernel)) (fun _ _ _ _ _ => pg_name (i := 4) sc_rest_pairs.nd rfl (Or.inl rfl)) (fun _ _ _ _ _ => pts_nil) (fun _ _ _ _ _ => (pe_call (ok_made_of_all T) (hr.mono (by decide)) rfl T.g_made_of_all T.F_made_of_all.kp T.b_made_of_all .nil pass0 (pa_cons (pv 0) (pa_cons (pv 4) pa_nil))))))
      (pss_one (ps_ret (pe_lc (own := [("n", 4)]) (g := gName 4) (tt := tYes) rfl sc_rest_pairs.nd (pi_range1 (by rfl) T.n_range (pa_cons (pe_op op_mul (pv 2) (pv 1)) pa_nil)) (blkOk_by (own := [("n", 4)]) (N := ["tricks", "d", "width", "made", "n"]) (sc := defScope s_rest_pairs) (by decide +kernel)) (fun _ _ _ _ _ => pg_name (i := 4) sc_rest_pairs.nd rfl (Or.inl rfl)) (fun _ _ _ _ _ => pts_nil) (fun _ _ _ _ _ => (pe_tup (pa_cons (pe_op op_modN (pv 4) (pv 1)) (pa_cons (pe_op op_modN (pe_op op_add (pe_ix (ix_lK (K := K) rfl) (pv 3) (pe_op op_modN (pv 4) (pv 2)) (fun _ _ => rfl)) (pe_op op_fdivW (pv 4) (pv 2))) (pv 1)) pa_nil))))))))), ?_⟩
    have w1 := wide_pos ht.blks
    have sh := mkAll_shift ht.blks
    generalize hW : wide qs = W at *
    have nW : W ≠ 0 := by omega
    have nd : d ≠ 0 := by omega
    have hWd : W * d ≤ 300 * 30 := Int.mul_le_mul hw d2 (by omega) (by omega)
    have hWd0 : 0 ≤ W * d := Int.mul_nonneg (by omega) (by omega)
    refine ⟨_, rfl, c, ys, qs, rfl, hc, ht, ?_⟩
    rw [hW]
    refine ⟨_, rfl, W, rfl, by omega, by omega, fun L hL => ?_⟩
    refine lc_range (lo := 0) (n := W.toNat) (fun i H2 => Same H H2 ∧ H2 L = some (.lst ((mL qs i).map V.int))) ⟨same_upd hL, by rw [upd_same]; rfl⟩ ?_ ?_
    · rintro i H2 hi ⟨S2, hL2⟩
      have ei : (0 : Int) + (i : Int) = (i : Int) := Int.zero_add _
      rw [ei]
      refine ⟨rfl, _, rfl, _, rfl, c, ys, qs, _, rfl, hc.same S2, ht.same S2, _, hL2, by rw [List.length_map, mL_len]; exact small5 (by omega), fun e o he => ?_, ?_⟩
      · rw [upd_ne (ne_of_none he hL)]
        exact S2 _ _ he
      · rw [upd_same, mL_succ, List.map_append]
        rfl
    · rintro H2 ⟨S2, hL2⟩
      have mat : ∀ j : Int, 0 ≤ j → j < W → atI ((mL qs W.toNat).map V.int) j = some (V.int (mkAll qs j)) := fun j j0 j1 => at_of (j := j.toNat) (by omega) (by
        rw [List.getElem?_map]
        unfold mL
        rw [List.getElem?_map, List.getElem?_range (by omega)]
        show some (V.int (mkAll qs ((j.toNat : Nat) : Int))) = _
        rw [Int.toNat_of_nonneg j0])
      refine ⟨_, rfl, _, rfl, _, _, rfl, rfl, .inl ⟨by omega, by omega⟩, W * d, rfl, by omega, by omega, fun D hD => ?_⟩
      have hD0 : H D = none := by
        cases q : H D with
        | none => rfl
        | some o => rw [S2 _ _ q] at hD; cases hD
      have nLD : L ≠ D := ne_of_none hL2 hD
      refine lc_range (lo := 0) (n := (W * d).toNat) (fun i H3 => Same H H3 ∧ H3 L = some (.lst ((mL qs W.toNat).map V.int)) ∧ ∃ us, H3 D = some (.lst us) ∧ Prs H3 us (rpL qs d i)) ⟨S2.trans (same_upd hD), same_upd hD _ _ hL2, [], upd_same, trivial⟩ ?_ ?_
      · rintro i H3 hi ⟨S3, hL3, us, hD3, hP⟩
        have ei : (0 : Int) + (i : Int) = (i : Int) := Int.zero_add _
        rw [ei]
        obtain ⟨m0, m1⟩ := fmod_bd (i : Int) (m := W) (by omega)
        refine ⟨rfl, _, rfl, _, rfl, _, _, rfl, rfl, nd, ?_⟩
        refine ⟨_, rfl, _, rfl, _, rfl, _, _, rfl, rfl, nW, L, _, _, _, rfl, rfl, SqL.of hL3, mat _ m0 m1, ?_⟩
        refine ⟨_, rfl, _, rfl, _, _, rfl, rfl, wide_div (show 0 < W by omega) (b := 9) (show W.natAbs < 2 ^ 9 by omega) (by decide) (by decide), _, _, rfl, rfl, _, rfl, _, _, rfl, rfl, nd, by show 2 ≤ sizeLine; decide, fun t ht2 => ?_⟩
        have el : us.length = i := by rw [hP.len, rpL_len]
        have em : mkAll qs ((i : Int).fmod W) + (i : Int) / W = mkAll qs (i : Int) := by
          rw [← sh, Int.fmod_eq_emod_of_nonneg _ (by omega), Int.emod_add_mul_ediv]
        have ntD : t ≠ D := (ne_of_none hD3 ht2).symm
        refine ⟨us, same_upd ht2 _ _ hD3, small5 (by omega), fun e o he => ?_, ?_, us ++ [.ref t], upd_same, ?_⟩
        · have h3 := S3 _ _ he
          rw [upd_ne (ne_of_none he hD0), upd_ne (ne_of_none h3 ht2)]
          exact h3
        · rw [upd_ne nLD, upd_ne (ne_of_none hL3 ht2)]
          exact hL3
        · rw [rpL_succ]
          refine ((hP.same (same_upd ht2)).put (same_upd ht2 _ _ hD3)).snoc ?_
          rw [upd_ne ntD, upd_same]
          simp only
          rw [em]
      · rintro H3 ⟨S3, hL3, us, hD3, hP⟩
        exact k D us H3 S3 hD0 hD3 hP

/-! ### what a chain tells -/
def sameC (z : Int × Int) : Bool := decide (z.1 = z.2)
def multC (z : Int × Int) : Bool := decide (z.1 = 0) == decide (z.2 = 0)
def wordC (l : List (Int × Int)) : Str := if l.all sameC = true then "rest" else if l.all multC = true then "multiples" else "nothing"
def failC (qs : List Prt) (d : Int) (k : Nat) : Bool := !multC ((k : Int).fmod d, (mkAll qs (k : Int)).fmod d)
def spChainT (T : Tx P K mg) : Sp := fun vs H Q E => ∃ x d : V, vs = [x, d] ∧ ChW T H x d E fun _ _ qs H2 => ∀ dd, d = .int dd → ∀ H3, Same H2 H3 → Q (.str (wordC (rpL qs dd (wide qs * dd).toNat))) H3
theorem all_lc {H : Hp} {D L : Addr} {us : List V} {l : List (Int × Int)} {f : Int × Int → Bool} {H2 : Hp} {i : Nat} {z : Int × Int} (hz : l[i]? = some z) (hL : H2 L = some (.lst (((l.take i).map f).map V.bl))) : upd H2 L (.lst (((l.take i).map f).map V.bl ++ [.bl (f z)])) L = some (.lst (((l.take (i + 1)).map f).map V.bl)) := by
  rw [upd_same, take_snoc hz, List.map_append, List.map_append]
  rfl
theorem ok_chain_tells (T : Tx P K mg) : FnOk P w K mg base (L2.CX P w) lv_chain_tells T.a_chain_tells T.d_chain_tells ["tricks", "d"] (spChainT T) := by
  refine T.F_chain_tells.okX sc_chain_tells (fun vs H Q E h => ?_) (fun cdv A outer s H vs Q E hr h => ?_)
  · obtain ⟨x, d, rfl, _⟩ := h
    rfl
  · obtain ⟨x, d, rfl, h⟩ := h
    refine ⟨_, (pss_cons (ps_expr (pe_call (ok_check_chain T) (hr.mono (by decide)) rfl T.g_check_chain T.F_check_chain.kp T.b_check_chain .nil (passes_call (takes_of rfl rfl rfl rfl) fun _ _ _ _ h => h) (pa_cons (pv 0) (pa_cons (pv 1) pa_nil))))
      (pss_cons (ps_set (i := 2) sc_chain_tells.nd rfl (Or.inl rfl) (pe_call (ok_rest_pairs T) (hr.mono (by decide)) rfl T.g_rest_pairs T.F_rest_pairs.kp T.b_rest_pairs .nil pass0 (pa_cons (pv 0) (pa_cons (pv 1) pa_nil))))
      (pss_cons (ps_if (pt_val (pe_callB (cr_all rfl) (by rfl) T.n_all (by decide +kernel) (pa_cons (pe_lc (own := [("rest", 3), ("made", 4)]) (tt := tYes) (g := gTup K 2 (gCons (gName 3) (gCons (gName 4) gNil))) rfl sc_chain_tells.nd (pi_list (pv 2)) (blkOk_by (own := [("rest", 3), ("made", 4)]) (N := ["tricks", "d", "found", "rest", "made"]) (sc := defScope s_chain_tells) (by decide +kernel)) (fun _ _ _ _ _ => pg_tup rfl (pgs_cons (pg_name (i := 3) sc_chain_tells.nd rfl (Or.inl rfl)) (pgs_cons (pg_name (i := 4) sc_chain_tells.nd rfl (Or.inl rfl)) pgs_nil))) (fun _ _ _ _ _ => pts_nil) (fun _ _ _ _ _ => (pe_cmpR op_eq (pv 3) (pv 4) (nomark _)))) pa_nil))) (pss_one (ps_ret pe_str)) pss_nil)
      (pss_cons (ps_if (pt_val (pe_callB (cr_all rfl) (by rfl) T.n_all (by decide +kernel) (pa_cons (pe_lc (own := [("rest", 3), ("made", 4)]) (tt := tYes) (g := gTup K 2 (gCons (gName 3) (gCons (gName 4) gNil))) rfl sc_chain_tells.nd (pi_list (pv 2)) (blkOk_by (own := [("rest", 3), ("made", 4)]) (N := ["tricks", "d", "found", "rest", "made"]) (sc := defScope s_chain_tells) (by decide +kernel)) (fun _ _ _ _ _ => pg_tup rfl (pgs_cons (pg_name (i := 3) sc_chain_tells.nd rfl (Or.inl rfl)) (pgs_cons (pg_name (i := 4) sc_chain_tells.nd rfl (Or.inl rfl)) pgs_nil))) (fun _ _ _ _ _ => pts_nil) (fun _ _ _ _ _ => (pe_cmpR op_eq (pe_cmpR op_eq (pv 3) pe_int (nomark _)) (pe_cmpR op_eq (pv 4) pe_int (nomark _)) (nomark _)))) pa_nil))) (pss_one (ps_ret pe_str)) pss_nil)
      (pss_one (ps_ret pe_str)))))), ?_⟩
    refine ⟨_, rfl, _, rfl, x, d, rfl, h.to fun c ys qs dd H1 ex ed d1 d2 hw hc l1 l2 ht S1 g => ?_⟩
    subst ex ed
    refine ⟨_, rfl, _, rfl, c, ys, qs, dd, rfl, hc.same S1, ht.same S1, d1, d2, hw, fun D us H2 S2 hD0 hD hP => ?_⟩
    have g2 := g dd rfl
    generalize hl : rpL qs dd (wide qs * dd).toNat = l at *
    have hul := hP.len
    have hll : l.length ≤ 9000 := by
      rw [← hl, rpL_len]
      have w1 := wide_pos ht.blks
      have : wide qs * dd ≤ 300 * 30 := Int.mul_le_mul hw d2 (by omega) (by omega)
      omega
    refine ⟨_, rfl, D, rfl, ⟨_, SqL.of hD⟩, fun L hL => ?_⟩
    refine lc_it walk_list (fun i H3 => Same H2 H3 ∧ H3 L = some (.lst (((l.take i).map sameC).map V.bl))) ⟨same_upd hL, by rw [upd_same]; rfl⟩ (fun i H3 _ ⟨S3, _⟩ => SqL.of (S3 _ _ hD)) ?_ ?_
    · rintro i y H3 H4 hi ⟨S3, hL3⟩ ⟨rfl, hy⟩
      obtain ⟨q, z, rfl, hz, hq⟩ := (hP.same S3).at hy
      refine ⟨q, _, rfl, SqT.of hq, rfl, _, _, rfl, _, _, rfl, rfl, rfl, _, rfl, _, rfl, rfl, _, hL3, ?_, fun e o he => ?_, ?_⟩
      · rw [List.length_map, List.length_map, List.length_take]
        exact small5 (by omega)
      · rw [upd_ne (ne_of_none he hL)]
        exact S3 _ _ he
      · rw [dec_i]
        exact all_lc (f := sameC) (H := H4) (D := D) (us := us) hz hL3
    · rintro H3 ⟨S3, hL3⟩
      rw [hul, List.take_length] at hL3
      refine ⟨L, _, rfl, SqL.of hL3, _, rfl, ?_⟩
      rw [show (l.map sameC).all id = l.all sameC from by rw [List.all_map]; rfl]
      refine ite2 (fun g1 => ?_) (fun g1 => ?_)
      · have := g2 H3 (S2.trans S3)
        unfold wordC at this
        rw [if_pos g1] at this
        exact this
      · have hD3 := S3 _ _ hD
        refine ⟨_, rfl, D, rfl, ⟨_, SqL.of hD3⟩, fun M hM => ?_⟩
        refine lc_it walk_list (fun i H4 => Same H3 H4 ∧ H4 M = some (.lst (((l.take i).map multC).map V.bl))) ⟨same_upd hM, by rw [upd_same]; rfl⟩ (fun i H4 _ ⟨S4, _⟩ => SqL.of (S4 _ _ hD3)) ?_ ?_
        · rintro i y H4 H5 hi ⟨S4, hM4⟩ ⟨rfl, hy⟩
          obtain ⟨q, z, rfl, hz, hq⟩ := (hP.same (S3.trans S4)).at hy
          refine ⟨q, _, rfl, SqT.of hq, rfl, _, _, rfl, _, _, rfl, rfl, rfl, _, rfl, rfl, _, rfl, rfl, rfl, _, hM4, ?_, fun e o he => ?_, ?_⟩
          · rw [List.length_map, List.length_map, List.length_take]
            exact small5 (by omega)
          · rw [upd_ne (ne_of_none he hM)]
            exact S4 _ _ he
          · rw [dec_i, dec_i, dec_bl]
            exact all_lc (f := multC) (H := H5) (D := D) (us := us) hz hM4
        · rintro H4 ⟨S4, hM4⟩
          rw [hul, List.take_length] at hM4
          refine ⟨M, _, rfl, SqL.of hM4, _, rfl, ?_⟩
          rw [show (l.map multC).all id = l.all multC from by rw [List.all_map]; rfl]
          have := g2 H4 (S2.trans (S3.trans S4))
          unfold wordC at this
          rw [if_neg g1] at this
          refine ite2 (fun g3 => ?_) (fun g3 => ?_)
          · rw [if_pos g3] at this
            exact this
          · rw [if_neg g3] at this
            exact this

/-! ### what a chain makes of any value -/
def spChained (T : Tx P K mg) : Sp := fun vs H Q E => ∃ x n : V, vs = [x, n] ∧ AnyV (OwnT T) H n ∧
  ((AnyV (OwnT T) H x ∧ isTup 1 4 (seqOf H x) = false ∧ errN T E T.C_BadTricks "index" H .non) ∨
   (∃ (c : Addr) (ys : List V) (lim : Nat), x = .ref c ∧ SqA H c ys ∧ 1 ≤ ys.length ∧ ys.length ≤ 4 ∧ lim < ys.length ∧ (∀ (j : Nat) (z : V), j < lim → ys[j]? = some z → isT T H z) ∧
     ∃ y, ys[lim]? = some y ∧ AnyV (fun _ => False) H y ∧ errN T E T.C_BadTricks "index" H (.int (lim : Nat))) ∨
   ∃ (c : Addr) (ys : List V) (qs : List Prt), x = .ref c ∧ SqA H c ys ∧ 1 ≤ ys.length ∧ ys.length ≤ 4 ∧ Trs T H ys qs ∧
     (intIn n (-(10 ^ 40)) (10 ^ 40) = false → errN T E T.C_BadNumber "n" H n) ∧ (∀ i, n = .int i → -(10 ^ 40) ≤ i → i ≤ 10 ^ 40 → ∀ H2, Same H H2 → Q (.int (mkAll qs i)) H2))
theorem ok_chained (T : Tx P K mg) : FnOk P w K mg base (L2.CX P w) lv_chained T.a_chained T.d_chained ["tricks", "n"] (spChained T) := by
  refine T.F_chained.okX sc_chained (fun vs H Q E h => ?_) (fun cdv A outer s H vs Q E hr h => ?_)
  · obtain ⟨x, n, rfl, _⟩ := h
    rfl
  · obtain ⟨x, n, rfl, an, h⟩ := h
    refine ⟨_, (pss_cons (ps_expr (pe_call (ok_check_tricks T) (hr.mono (by decide)) rfl T.g_check_tricks T.F_check_tricks.kp T.b_check_tricks .nil (passes_call (takes_of rfl rfl rfl rfl) fun _ _ _ _ h => h) (pa_cons (pv 0) pa_nil)))
      (pss_cons (ps_expr (pe_call (ok_check_number T) (hr.mono (by decide)) rfl T.g_check_number T.F_check_number.kp T.b_check_number .nil (passes_call (takes_of rfl rfl rfl rfl) fun _ _ _ _ h => h) (pa_cons (pv 1) pa_nil)))
      (pss_one (ps_ret (pe_call (ok_made_of_all T) (hr.mono (by decide)) rfl T.g_made_of_all T.F_made_of_all.kp T.b_made_of_all .nil pass0 (pa_cons (pv 0) (pa_cons (pv 1) pa_nil))))))), ?_⟩
    rcases h with ⟨a, g, e⟩ | ⟨c, ys, lim, rfl, hc, l1, l2, hl, hi, y, hy, ay, e⟩ | ⟨c, ys, qs, rfl, hc, l1, l2, ht, e1, k⟩
    · exact ⟨_, rfl, x, rfl, .inl ⟨a, g, e⟩⟩
    · exact ⟨_, rfl, _, rfl, .inr ⟨c, ys, lim, rfl, hc, l1, l2, by omega, hi, fun _ => ⟨y, hy, ay, e⟩, fun z => by omega⟩⟩
    · refine ⟨_, rfl, _, rfl, .inr ⟨c, ys, ys.length, rfl, hc, l1, l2, Nat.le_refl _, fun j z _ hz => ht.isT hz, fun z => by omega, fun _ H2 S2 => ?_⟩⟩
      refine ⟨_, rfl, n, rfl, an.mono S2, fun g => ?_, fun g d hd => e1 g H2 d S2 hd⟩
      obtain ⟨i, rfl, i1, i2⟩ := intIn_int' g
      exact ⟨_, rfl, _, rfl, c, ys, qs, i, rfl, hc.same S2, ht.same S2, k i rfl i1 i2 H2 S2⟩

/-! ### changes that a rest does not tell -/
/-- x times the figure at place p, c times, is a multiple -/
def badAt (b d c : Int) (p : Nat) (x : Int) : Bool := decide (d ∣ x * (c * b ^ p))
def rowU (b d c : Int) (p k : Nat) : List (Int × Int) := ((List.range k).filter fun (j : Nat) => badAt b d c p (1 + (j : Int))).map fun (j : Nat) => ((p : Int), 1 + (j : Int))
def allU (b d c : Int) (n : Nat) : List (Int × Int) := (List.range n).flatMap fun p => rowU b d c p (b - 1).toNat
theorem rowU_zero (b d c : Int) (p : Nat) : rowU b d c p 0 = [] := rfl
theorem allU_zero (b d c : Int) : allU b d c 0 = [] := rfl
theorem rowU_succ (b d c : Int) (p k : Nat) : rowU b d c p (k + 1) = rowU b d c p k ++ (if badAt b d c p (1 + (k : Int)) = true then [((p : Int), 1 + (k : Int))] else []) := by
  unfold rowU
  rw [List.range_succ, List.filter_append, List.map_append]
  congr 1
  by_cases h : badAt b d c p (1 + (k : Int)) = true
  · rw [if_pos h]; simp [h]
  · rw [if_neg h]; simp [h]
theorem allU_succ (b d c : Int) (n : Nat) : allU b d c (n + 1) = allU b d c n ++ rowU b d c n (b - 1).toNat := by
  unfold allU
  rw [List.range_succ, List.flatMap_append]
  simp
theorem rowU_pre (b d c : Int) (p : Nat) {j k : Nat} (h : j ≤ k) : ∃ l, rowU b d c p k = rowU b d c p j ++ l := by
  induction k with
  | zero => exact ⟨[], by rw [show j = 0 by omega]; rfl⟩
  | succ k ih =>
    rcases Nat.lt_or_ge k j with z | z
    · exact ⟨[], by rw [show j = k + 1 by omega]; simp⟩
    · obtain ⟨l, e⟩ := ih z
      exact ⟨l ++ _, by rw [rowU_succ, e, List.append_assoc]⟩
theorem allU_pre (b d c : Int) {i n : Nat} (h : i ≤ n) : ∃ l, allU b d c n = allU b d c i ++ l := by
  induction n with
  | zero => exact ⟨[], by rw [show i = 0 by omega]; rfl⟩
  | succ k ih =>
    rcases Nat.lt_or_ge k i with z | z
    · exact ⟨[], by rw [show i = k + 1 by omega]; simp⟩
    · obtain ⟨l, e⟩ := ih z
      exact ⟨l ++ _, by rw [allU_succ, e, List.append_assoc]⟩
/-- the first hit -/
theorem allU_hit {b d c : Int} {n i j : Nat} (h1 : allU b d c i = []) (h2 : rowU b d c i j = []) (h : badAt b d c i (1 + (j : Int)) = true) (hi : i < n) (hj : j < (b - 1).toNat) : (allU b d c n).head? = some ((i : Int), 1 + (j : Int)) := by
  obtain ⟨l, e⟩ := allU_pre b d c (show i + 1 ≤ n from hi)
  obtain ⟨l2, e2⟩ := rowU_pre b d c i (show j + 1 ≤ (b - 1).toNat from hj)
  rw [e, allU_succ, h1, e2, rowU_succ, h2, if_pos h]
  rfl
theorem allU_mem {b d c : Int} {n : Nat} {z : Int × Int} (h : z ∈ allU b d c n) : ∃ p : Nat, p < n ∧ z.1 = (p : Int) ∧ 1 ≤ z.2 ∧ z.2 < b ∧ d ∣ z.2 * (c * b ^ p) := by
  unfold allU at h
  obtain ⟨p, hp, h⟩ := List.mem_flatMap.mp h
  unfold rowU at h
  obtain ⟨j, hj, rfl⟩ := List.mem_map.mp h
  obtain ⟨h1, h2⟩ := List.mem_filter.mp hj
  have h3 := List.mem_range.mp h1
  refine ⟨p, List.mem_range.mp hp, rfl, by show 1 ≤ 1 + (j : Int); omega, by show 1 + (j : Int) < b; omega, ?_⟩
  exact of_decide_eq_true h2
theorem allU_none {b d c : Int} {n : Nat} (h : allU b d c n = []) {p : Nat} {x : Int} (hp : p < n) (x1 : 1 ≤ x) (x2 : x < b) : ¬ d ∣ x * (c * b ^ p) := by
  intro hd
  have : ((p : Int), x) ∈ allU b d c n := by
    refine List.mem_flatMap.mpr ⟨p, List.mem_range.mpr hp, ?_⟩
    refine List.mem_map.mpr ⟨(x - 1).toNat, List.mem_filter.mpr ⟨List.mem_range.mpr (by omega), ?_⟩, ?_⟩
    · rw [show (1 : Int) + ((x - 1).toNat : Int) = x by omega]
      exact decide_eq_true hd
    · rw [show (1 : Int) + ((x - 1).toNat : Int) = x by omega]
  rw [h] at this
  cases this
theorem fmod_dvd {d : Int} (hd : 1 ≤ d) (x : Int) : x.fmod d = 0 ↔ d ∣ x := by
  rw [Int.fmod_eq_emod_of_nonneg _ (by omega)]
  exact (Int.dvd_iff_emod_eq_zero).symm
/-- the rest times a figure, by the rest of the power -/
theorem bad_rest {d : Int} (hd : 1 ≤ d) (x y : Int) : decide ((x * y.fmod d).fmod d = 0) = decide (d ∣ x * y) := by
  rw [Int.fmod_eq_emod_of_nonneg y (by omega), Int.fmod_eq_emod_of_nonneg _ (by omega), Int.mul_emod, Int.emod_emod, ← Int.mul_emod]
  exact decide_eq_decide.mpr (Int.dvd_iff_emod_eq_zero).symm
theorem rest_next {b d : Int} (hd : 1 ≤ d) (c : Int) (i : Nat) : ((c * b ^ i).fmod d * b).fmod d = (c * b ^ (i + 1)).fmod d := by
  rw [Int.fmod_eq_emod_of_nonneg _ (by omega), Int.fmod_eq_emod_of_nonneg _ (by omega), Int.fmod_eq_emod_of_nonneg _ (by omega), Int.mul_emod, Int.emod_emod, ← Int.mul_emod, Int.pow_succ, Int.mul_assoc]
theorem rowU_len (b d c : Int) (p k : Nat) : (rowU b d c p k).length ≤ k := by
  unfold rowU
  rw [List.length_map]
  exact Nat.le_trans (List.length_filter_le _ _) (Nat.le_of_eq List.length_range)
theorem allU_len {b : Int} (d c : Int) (h : b ≤ 16) : ∀ n : Nat, (allU b d c n).length ≤ n * 15
  | 0 => Nat.le_refl _
  | n + 1 => by
    rw [allU_succ, List.length_append]
    have h1 := allU_len d c h n
    have h2 := rowU_len b d c n (b - 1).toNat
    omega

/-! ### the least wrong figure, the least exchange -/
/-- None, or a new pair -/
def optP (o : Option (Int × Int)) (Q : VK) (H : Hp) : Prop := match o with
  | none => Q .non H
  | some z => ∀ q, H q = none → Q (.ref q) (upd H q (.tup [.int z.1, .int z.2]))
def spUnseen : Sp := fun vs H Q _ => ∃ b d n c : Int, vs = [.int b, .int d, .int n, .int c] ∧ 2 ≤ b ∧ b ≤ 16 ∧ 1 ≤ d ∧ d ≤ 100 ∧ -100 ≤ n ∧ n ≤ 40 ∧ optP (allU b d c n.toNat).head? Q H
theorem ok_least_unseen (T : Tx P K mg) : FnOk P w K mg base CX0 lv_least_unseen T.a_least_unseen T.d_least_unseen ["base", "d", "places", "change"] spUnseen := by
  refine T.F_least_unseen.ok sc_least_unseen (fun vs H Q E h => ?_) (fun cdv A outer s H vs Q E hr h => ?_)
  · obtain ⟨b, d, n, c, rfl, _⟩ := h
    rfl
  · obtain ⟨b, d, n, c, rfl, b1, b2, d1, d2, n1, n2, k⟩ := h
    refine ⟨_, (pss_cons (ps_set (i := 4) sc_least_unseen.nd rfl (Or.inl rfl) (pe_op op_modN (pv 3) (pv 1)))
      (pss_cons (ps_for PassesOwn.never rfl (pi_range1 (by rfl) T.n_range (pa_cons (pv 2) pa_nil)) (pg_name (i := 5) sc_least_unseen.nd rfl (Or.inl rfl)) (pss_cons (ps_for PassesOwn.never rfl (pi_range2 (by rfl) T.n_range (pa_cons pe_int (pa_cons (pv 0) pa_nil))) (pg_name (i := 6) sc_least_unseen.nd rfl (Or.inl rfl)) (pss_one (ps_if (pt_cmpR op_eq (pe_op op_modN (pe_op op_mul (pv 6) (pv 4)) (pv 1)) pe_int (nomark _)) (pss_one (ps_ret (pe_tup (pa_cons (pv 5) (pa_cons (pv 6) pa_nil))))) pss_nil)))
      (pss_one (ps_set (i := 4) sc_least_unseen.nd rfl (Or.inl rfl) (pe_op op_modN (pe_op op_mul (pv 4) (pv 0)) (pv 1))))))
      (pss_one (ps_ret pe_non)))), ?_⟩
    have nd : d ≠ 0 := by omega
    have rb : ∀ x : Int, 0 ≤ x.fmod d ∧ x.fmod d < d := fun x => fmod_bd x (by omega)
    refine ⟨_, rfl, _, rfl, _, _, rfl, rfl, nd, _, rfl, n, rfl, by omega, by omega, ?_⟩
    refine for_range (lo := 0) (n := n.toNat) (fun i σ H2 => ∃ v u : Option V, σ = [some (.int b), some (.int d), some (.int n), some (.int c), some (.int ((c * b ^ i).fmod d)), v, u] ∧ H2 = H ∧ allU b d c i = []) ⟨none, none, by rw [Int.pow_zero, Int.mul_one]; rfl, rfl, rfl⟩ ?_ ?_
    · rintro i σ H2 hi ⟨v, u, rfl, rfl, h0⟩
      have ei : (0 : Int) + (i : Int) = (i : Int) := Int.zero_add _
      rw [ei]
      refine ⟨_, rfl, _, _, rfl, ⟨by decide, by decide, by omega, by omega⟩, ?_⟩
      refine for_range (lo := 1) (n := (b - 1).toNat) (fun j σ H3 => ∃ u : Option V, σ = [some (.int b), some (.int d), some (.int n), some (.int c), some (.int ((c * b ^ i).fmod d)), some (.int i), u] ∧ H3 = H2 ∧ rowU b d c i j = []) ⟨u, rfl, rfl, rfl⟩ ?_ ?_
      · rintro j σ H3 hj ⟨u, rfl, rfl, h1⟩
        have := rb (c * b ^ i)
        refine ⟨_, rfl, _, rfl, _, _, rfl, rfl, .inr ⟨by omega, by omega⟩, _, rfl, _, _, rfl, rfl, nd, rfl, _, rfl, ?_⟩
        rw [dec_i, bad_rest d1]
        refine ite2 (fun g => ?_) (fun g => ?_)
        · rw [allU_hit h0 h1 g hi hj] at k
          exact ⟨_, rfl, _, rfl, by show 2 ≤ sizeLine; decide, fun q hq => k q hq⟩
        · exact ⟨_, rfl, rfl, by rw [rowU_succ, h1, if_neg (show ¬ badAt b d c i (1 + (j : Int)) = true from g)]; rfl⟩
      · rintro σ H3 ⟨u, rfl, rfl, h1⟩
        have := rb (c * b ^ i)
        refine ⟨_, rfl, _, rfl, _, _, rfl, rfl, .inr ⟨by omega, by omega⟩, _, rfl, _, _, rfl, rfl, nd, ?_⟩
        exact ⟨_, _, by rw [← rest_next d1]; rfl, rfl, by rw [allU_succ, h0, h1]; rfl⟩
    · rintro σ H2 ⟨v, u, rfl, rfl, h0⟩
      rw [h0] at k
      exact k
/-- of any values: the errors, in their order -/
def spSlip (T : Tx P K mg) : Sp := fun vs H Q E => ∃ x y z : V, vs = [x, y, z] ∧ AnyV (OwnT T) H x ∧ AnyV (OwnT T) H y ∧ AnyV (OwnT T) H z ∧
  (intIn x 2 16 = false → E (.ref T.C_BadBase) none H) ∧ (intIn x 2 16 = true → intIn y 1 100 = false → E (.ref T.C_BadDivisor) none H) ∧
  (intIn x 2 16 = true → intIn y 1 100 = true → intIn z 1 40 = false → ∀ e, H e = none → E (.ref T.C_BadNumber) (some e) (upd H e (.xd [(("n" : Str), z)]))) ∧
  ∀ b d n : Int, x = .int b → y = .int d → z = .int n → 2 ≤ b → b ≤ 16 → 1 ≤ d → d ≤ 100 → 1 ≤ n → n ≤ 40 → optP (allU b d 1 n.toNat).head? Q H
def spLength (T : Tx P K mg) : Sp := fun vs H Q E => ∃ x : V, vs = [x] ∧ AnyV (OwnT T) H x ∧ (intIn x 1 40 = true → Q .non H) ∧ (intIn x 1 40 = false → ∀ d, H d = none → E (.ref T.C_BadNumber) (some d) (upd H d (.xd [(("n" : Str), x)])))
theorem ok_check_length (T : Tx P K mg) : FnOk P w K mg base (L2.CX P w) lv_check_length T.a_check_length T.d_check_length ["length"] (spLength T) := by
  refine T.F_check_length.okX sc_check_length (fun vs H Q E h => ?_) (fun cdv A outer s H vs Q E hr h => ?_)
  · obtain ⟨x, rfl, _⟩ := h
    rfl
  · obtain ⟨x, rfl, a, k1, k2⟩ := h
    refine ⟨_, (pss_one (ps_expr (pe_call (ok_check_stretch T) (hr.mono (by decide)) rfl T.g_check_stretch T.F_check_stretch.kp T.b_check_stretch .nil (passes_call (takes_of rfl rfl rfl rfl) fun _ _ _ _ h => h) (pa_cons (pv 0) (pa_cons pe_int (pa_cons (pe_glob (v := .int 40) rfl T.c_GREATEST_LENGTH ⟨_, rfl⟩) pa_nil)))))), ?_⟩
    exact ⟨_, rfl, x, 1, 40, rfl, a, k1, k2⟩
theorem ok_slip (T : Tx P K mg) : FnOk P w K mg base (L2.CX P w) lv_slip T.a_slip T.d_slip ["base", "d", "length"] (spSlip T) := by
  refine T.F_slip.okX sc_slip (fun vs H Q E h => ?_) (fun cdv A outer s H vs Q E hr h => ?_)
  · obtain ⟨x, y, z, rfl, _⟩ := h
    rfl
  · obtain ⟨x, y, z, rfl, ax, ay, az, e1, e2, e3, k⟩ := h
    refine ⟨_, (pss_cons (ps_expr (pe_call (ok_check_base T) (hr.mono (by decide)) rfl T.g_check_base T.F_check_base.kp T.b_check_base .nil (passes_call (takes_of rfl rfl rfl rfl) fun _ _ _ _ h => h) (pa_cons (pv 0) pa_nil)))
      (pss_cons (ps_expr (pe_call (ok_check_divisor T) (hr.mono (by decide)) rfl T.g_check_divisor T.F_check_divisor.kp T.bd_check_divisor T.rd_check_divisor (passes_call (takes_of rfl rfl rfl rfl) fun _ _ _ _ h => h) (pa_cons (pv 1) pa_nil)))
      (pss_cons (ps_expr (pe_call (ok_check_length T) (hr.mono (by decide)) rfl T.g_check_length T.F_check_length.kp T.b_check_length .nil (passes_call (takes_of rfl rfl rfl rfl) fun _ _ _ _ h => h) (pa_cons (pv 2) pa_nil)))
      (pss_one (ps_ret (pe_call (ok_least_unseen T) (hr.mono (by decide)) rfl T.g_least_unseen T.F_least_unseen.kp T.b_least_unseen .nil pass0 (pa_cons (pv 0) (pa_cons (pv 1) (pa_cons (pv 2) (pa_cons pe_int pa_nil)))))))))), ?_⟩
    refine ⟨_, rfl, x, rfl, ax, fun g1 => ?_, e1⟩
    refine ⟨_, rfl, y, 100, rfl, by decide, by decide, ay, fun g2 => ?_, e2 g1⟩
    refine ⟨_, rfl, z, rfl, az, fun g3 => ?_, e3 g1 g2⟩
    obtain ⟨b, rfl, b1, b2⟩ := intIn_int' g1
    obtain ⟨d, rfl, d1, d2⟩ := intIn_int' g2
    obtain ⟨n, rfl, n1, n2⟩ := intIn_int' g3
    exact ⟨_, rfl, _, rfl, _, rfl, b, d, n, 1, rfl, b1, b2, d1, d2, by omega, n2, k b d n rfl rfl rfl b1 b2 d1 d2 n1 n2⟩
def spSwap (T : Tx P K mg) : Sp := fun vs H Q E => ∃ x y z u : V, vs = [x, y, z, u] ∧ AnyV (OwnT T) H x ∧ AnyV (OwnT T) H y ∧ AnyV (OwnT T) H z ∧ AnyV (OwnT T) H u ∧
  (intIn x 2 16 = false → E (.ref T.C_BadBase) none H) ∧ (intIn x 2 16 = true → intIn y 1 100 = false → E (.ref T.C_BadDivisor) none H) ∧
  (intIn x 2 16 = true → intIn y 1 100 = true → intIn z 1 40 = false → ∀ e, H e = none → E (.ref T.C_BadNumber) (some e) (upd H e (.xd [(("n" : Str), z)]))) ∧
  (intIn x 2 16 = true → intIn y 1 100 = true → intIn z 1 40 = true → intIn u 1 40 = false → ∀ e, H e = none → E (.ref T.C_BadNumber) (some e) (upd H e (.xd [(("n" : Str), u)]))) ∧
  ∀ b d n f : Int, x = .int b → y = .int d → z = .int n → u = .int f → 2 ≤ b → b ≤ 16 → 1 ≤ d → d ≤ 100 → 1 ≤ n → n ≤ 40 → 1 ≤ f → f ≤ 40 → optP (allU b d (b ^ f.toNat - 1) (n - f).toNat).head? Q H
theorem ok_swap (T : Tx P K mg) : FnOk P w K mg base (L2.CX P w) lv_swap T.a_swap T.d_swap ["base", "d", "length", "far"] (spSwap T) := by
  refine T.F_swap.okX sc_swap (fun vs H Q E h => ?_) (fun cdv A outer s H vs Q E hr h => ?_)
  · obtain ⟨x, y, z, u, rfl, _⟩ := h
    rfl
  · obtain ⟨x, y, z, u, rfl, ax, ay, az, au, e1, e2, e3, e4, k⟩ := h
    refine ⟨_, (pss_cons (ps_expr (pe_call (ok_check_base T) (hr.mono (by decide)) rfl T.g_check_base T.F_check_base.kp T.b_check_base .nil (passes_call (takes_of rfl rfl rfl rfl) fun _ _ _ _ h => h) (pa_cons (pv 0) pa_nil)))
      (pss_cons (ps_expr (pe_call (ok_check_divisor T) (hr.mono (by decide)) rfl T.g_check_divisor T.F_check_divisor.kp T.bd_check_divisor T.rd_check_divisor (passes_call (takes_of rfl rfl rfl rfl) fun _ _ _ _ h => h) (pa_cons (pv 1) pa_nil)))
      (pss_cons (ps_expr (pe_call (ok_check_length T) (hr.mono (by decide)) rfl T.g_check_length T.F_check_length.kp T.b_check_length .nil (passes_call (takes_of rfl rfl rfl rfl) fun _ _ _ _ h => h) (pa_cons (pv 2) pa_nil)))
      (pss_cons (ps_expr (pe_call (ok_check_length T) (hr.mono (by decide)) rfl T.g_check_length T.F_check_length.kp T.b_check_length .nil (passes_call (takes_of rfl rfl rfl rfl) fun _ _ _ _ h => h) (pa_cons (pv 3) pa_nil)))
      (pss_cons (ps_set (i := 4) sc_swap.nd rfl (Or.inl rfl) pe_int)
      (pss_cons (ps_for (passes_of rfl) rfl (pi_range1 (by rfl) T.n_range (pa_cons (pv 3) pa_nil)) (pg_name (i := 5) sc_swap.nd rfl (Or.inl rfl)) (pss_one (ps_aug (i := 4) sc_swap.nd rfl (Or.inl rfl) (pv 0) (ip_op iop_mul))))
      (pss_one (ps_ret (pe_call (ok_least_unseen T) (hr.mono (by decide)) rfl T.g_least_unseen T.F_least_unseen.kp T.b_least_unseen .nil pass0 (pa_cons (pv 0) (pa_cons (pv 1) (pa_cons (pe_op op_sub (pv 2) (pv 3)) (pa_cons (pe_op op_sub (pv 4) pe_int) pa_nil))))))))))))), ?_⟩
    refine ⟨_, rfl, x, rfl, ax, fun g1 => ?_, e1⟩
    refine ⟨_, rfl, y, 100, rfl, by decide, by decide, ay, fun g2 => ?_, e2 g1⟩
    refine ⟨_, rfl, z, rfl, az, fun g3 => ?_, e3 g1 g2⟩
    refine ⟨_, rfl, u, rfl, au, fun g4 => ?_, e4 g1 g2 g3⟩
    obtain ⟨b, rfl, b1, b2⟩ := intIn_int' g1
    obtain ⟨d, rfl, d1, d2⟩ := intIn_int' g2
    obtain ⟨n, rfl, n1, n2⟩ := intIn_int' g3
    obtain ⟨f, rfl, f1, f2⟩ := intIn_int' g4
    have k := k b d n f rfl rfl rfl rfl b1 b2 d1 d2 n1 n2 f1 f2
    refine ⟨_, rfl, f, rfl, by omega, by omega, ?_⟩
    refine for_range (lo := 0) (n := f.toNat) (fun i σ H2 => ∃ v : Option V, σ = [some (.int b), some (.int d), some (.int n), some (.int f), some (.int (b ^ i)), v] ∧ H2 = H) ⟨none, by rw [Int.pow_zero]; rfl, rfl⟩ ?_ ?_
    · rintro i σ H2 hi ⟨v, rfl, rfl⟩
      exact ⟨_, rfl, _, rfl, _, _, rfl, rfl, .inr ⟨by omega, by omega⟩, _, by rw [Int.pow_succ]; rfl, rfl⟩
    · rintro σ H2 ⟨v, rfl, rfl⟩
      exact ⟨_, rfl, _, rfl, _, rfl, _, rfl, _, _, rfl, rfl, _, rfl, _, _, rfl, rfl, b, d, n - f, b ^ f.toNat - 1, rfl, b1, b2, d1, d2, by omega, by omega, k⟩

/-! ### the divisors that tell all of these -/
def okD (b n d : Int) : Bool := (allU b d 1 n.toNat).isEmpty && (allU b d (b ^ (1 : Int).toNat - 1) (n - 1).toNat).isEmpty
def okL (b n : Int) (k : Nat) : List Int := ((List.range k).map fun (i : Nat) => 1 + (i : Int)).filter (okD b n)
theorem okL_succ (b n : Int) (k : Nat) : okL b n (k + 1) = okL b n k ++ (if okD b n (1 + (k : Int)) = true then [1 + (k : Int)] else []) := by
  unfold okL
  rw [List.range_succ, List.map_append, List.filter_append]
  congr 1
  show List.filter _ [1 + (k : Int)] = _
  by_cases h : okD b n (1 + (k : Int)) = true
  · rw [if_pos h]; simp [h]
  · rw [if_neg h]; simp [h]
theorem okL_len (b n : Int) (k : Nat) : (okL b n k).length ≤ k := by
  unfold okL
  refine Nat.le_trans (List.length_filter_le _ _) ?_
  simp
/-- whether a pair that may be none is none, where it is told -/
theorem opt_is {l : List (Int × Int)} {Q : VK} {H : Hp} (h1 : l.isEmpty = true → Q .non H) (h2 : l.isEmpty = false → ∀ q H', Same H H' → Q (.ref q) H') : optP l.head? Q H := by
  cases l with
  | nil => exact h1 rfl
  | cons z l => exact fun q hq => h2 rfl q _ (same_upd hq)
def spGood (T : Tx P K mg) : Sp := fun vs H Q E => ∃ x y z : V, vs = [x, y, z] ∧ AnyV (OwnT T) H x ∧ AnyV (OwnT T) H y ∧ AnyV (OwnT T) H z ∧
  (intIn x 2 16 = false → E (.ref T.C_BadBase) none H) ∧
  (intIn x 2 16 = true → intIn y 1 40 = false → ∀ e, H e = none → E (.ref T.C_BadNumber) (some e) (upd H e (.xd [(("n" : Str), y)]))) ∧
  (intIn x 2 16 = true → intIn y 1 40 = true → intIn z 1 100 = false → ∀ e, H e = none → E (.ref T.C_BadNumber) (some e) (upd H e (.xd [(("n" : Str), z)]))) ∧
  ∀ b n m : Int, x = .int b → y = .int n → z = .int m → 2 ≤ b → b ≤ 16 → 1 ≤ n → n ≤ 40 → 1 ≤ m → m ≤ 100 → ∀ q H', H q = none → Same H H' → H' q = some (.lst ((okL b n m.toNat).map V.int)) → Q (.ref q) H'
theorem ok_good_divisors (T : Tx P K mg) : FnOk P w K mg base (L2.CX P w) lv_good_divisors T.a_good_divisors T.d_good_divisors ["base", "length", "most"] (spGood T) := by
  refine T.F_good_divisors.okX sc_good_divisors (fun vs H Q E h => ?_) (fun cdv A outer s H vs Q E hr h => ?_)
  · obtain ⟨x, y, z, rfl, _⟩ := h
    rfl
  · obtain ⟨x, y, z, rfl, ax, ay, az, e1, e2, e3, k⟩ := h
    refine ⟨_, (pss_cons (ps_expr (pe_call (ok_check_base T) (hr.mono (by decide)) rfl T.g_check_base T.F_check_base.kp T.b_check_base .nil (passes_call (takes_of rfl rfl rfl rfl) fun _ _ _ _ h => h) (pa_cons (pv 0) pa_nil)))
      (pss_cons (ps_expr (pe_call (ok_check_length T) (hr.mono (by decide)) rfl T.g_check_length T.F_check_length.kp T.b_check_length .nil (passes_call (takes_of rfl rfl rfl rfl) fun _ _ _ _ h => h) (pa_cons (pv 1) pa_nil)))
      (pss_cons (ps_expr (pe_call (ok_check_stretch T) (hr.mono (by decide)) rfl T.g_check_stretch T.F_check_stretch.kp T.b_check_stretch .nil (passes_call (takes_of rfl rfl rfl rfl) fun _ _ _ _ h => h) (pa_cons (pv 2) (pa_cons pe_int (pa_cons (pe_glob (v := .int 100) rfl T.c_GREATEST_DIVISOR ⟨_, rfl⟩) pa_nil)))))
      (pss_one (ps_ret (pe_lc (own := [("d", 3)]) (g := gName 3) rfl sc_good_divisors.nd (pi_range2 (by rfl) T.n_range (pa_cons pe_int (pa_cons (pe_op op_add (pv 2) pe_int) pa_nil))) (blkOk_by (own := [("d", 3)]) (N := ["base", "length", "most", "d"]) (sc := defScope s_good_divisors) (by decide +kernel)) (fun _ _ _ _ _ => pg_name (i := 3) sc_good_divisors.nd rfl (Or.inl rfl)) (fun _ _ _ _ _ => pts_one (PW.pt (pw_and (pt_cmpR op_isN (pe_call (ok_slip T) (hr.mono (by decide)) rfl T.g_slip T.F_slip.kp T.b_slip .nil passL (pa_cons (pv 0) (pa_cons (pv 3) (pa_cons (pv 1) pa_nil)))) pe_non (nomark _)) (pw_and1 (pt_cmpR op_isN (pe_call (ok_swap T) (hr.mono (by decide)) rfl T.g_swap T.F_swap.kp T.b_swap .nil passL (pa_cons (pv 0) (pa_cons (pv 3) (pa_cons (pv 1) (pa_cons pe_int pa_nil))))) pe_non (nomark _)))))) (fun _ _ _ _ _ => (pv 3)))))))), ?_⟩
    refine ⟨_, rfl, x, rfl, ax, fun g1 => ?_, e1⟩
    refine ⟨_, rfl, y, rfl, ay, fun g2 => ?_, e2 g1⟩
    refine ⟨_, rfl, z, 1, 100, rfl, az, fun g3 => ?_, e3 g1 g2⟩
    obtain ⟨b, rfl, b1, b2⟩ := intIn_int' g1
    obtain ⟨n, rfl, n1, n2⟩ := intIn_int' g2
    obtain ⟨m, rfl, m1, m2⟩ := intIn_int' g3
    have k := k b n m rfl rfl rfl b1 b2 n1 n2 m1 m2
    have en : m + 1 - 1 = m := by omega
    have nf : ∀ {v : V} {lo hi : Int} {G : Prop}, intIn v lo hi = true → intIn v lo hi = false → G := fun p q => Bool.noConfusion (p.symm.trans q)
    refine ⟨_, rfl, _, _, rfl, rfl, _, _, rfl, ⟨by decide, by decide, by omega, by omega⟩, fun D hD => ?_⟩
    refine lc_range (lo := 1) (n := (m + 1 - 1).toNat) (fun i H4 => Same H H4 ∧ H4 D = some (.lst ((okL b n i).map V.int))) ⟨same_upd hD, upd_same⟩ ?_ ?_
    · rintro i H4 hi ⟨S4, hL⟩
      rw [en] at hi
      have hln := okL_len b n i
      have id' : intIn (.int (1 + (i : Int))) 1 100 = true := intIn_of (by omega) (by omega)
      refine ⟨rfl, _, rfl, _, rfl, _, rfl, .int b, .int (1 + (i : Int)), .int n, rfl, .int b, .int _, .int n, nf g1, fun _ => nf id', fun _ _ => nf g2, fun b' d' n' q1 q2 q3 _ _ _ _ _ _ => ?_⟩
      cases q1; cases q2; cases q3
      refine opt_is (fun h1 => ⟨rfl, _, rfl, ?_⟩) (fun h1 q H5 S5 => ⟨rfl, _, rfl, ?_⟩)
      · rw [decide_eq_true rfl]
        refine iteT ⟨_, rfl, _, rfl, _, rfl, .int b, .int (1 + (i : Int)), .int n, .int 1, rfl, .int b, .int _, .int n, .int 1, nf g1, fun _ => nf id', fun _ _ => nf g2, fun _ _ _ => nf (by decide), fun b' d' n' f' q1 q2 q3 q4 _ _ _ _ _ _ _ _ => ?_⟩
        cases q1; cases q2; cases q3; cases q4
        refine opt_is (fun h2 => ⟨rfl, _, rfl, ?_⟩) (fun h2 q H5 S5 => ⟨rfl, _, rfl, ?_⟩)
        · have g : okD b n (1 + (i : Int)) = true := by
            unfold okD
            rw [h1, h2]
            rfl
          rw [decide_eq_true rfl]
          refine iteT ⟨_, rfl, _, hL, by rw [List.length_map]; exact small1000 (by omega), fun c o e => ?_, ?_⟩
          · rw [upd_ne (ne_of_none e hD)]
            exact S4 _ _ e
          · rw [upd_same, okL_succ, if_pos g, List.map_append]
            rfl
        · have g : ¬ okD b n (1 + (i : Int)) = true := by
            unfold okD
            rw [h2, Bool.and_false]
            exact Bool.false_ne_true
          rw [decide_eq_false (fun e => nomatch e)]
          refine iteF ⟨S4.trans S5, ?_⟩
          rw [okL_succ, if_neg g, List.append_nil]
          exact S5 _ _ hL
      · have g : ¬ okD b n (1 + (i : Int)) = true := by
          unfold okD
          rw [h1, Bool.false_and]
          exact Bool.false_ne_true
        rw [decide_eq_false (fun e => nomatch e)]
        refine iteF ⟨S4.trans S5, ?_⟩
        rw [okL_succ, if_neg g, List.append_nil]
        exact S5 _ _ hL
    · rintro H4 ⟨S4, hL⟩
      rw [en] at hL
      exact k D H4 hD S4 hL

/-! ### rests, by dividing -/
theorem fmod_iff {d x y : Int} (hd : 1 ≤ d) : x.fmod d = y.fmod d ↔ d ∣ x - y := by
  rw [Int.fmod_eq_emod_of_nonneg _ (by omega), Int.fmod_eq_emod_of_nonneg _ (by omega), Int.emod_eq_emod_iff_emod_sub_eq_zero, Int.dvd_iff_emod_eq_zero]
theorem fmod0_iff {d x : Int} (hd : 1 ≤ d) : x.fmod d = 0 ↔ d ∣ x := by
  rw [Int.fmod_eq_emod_of_nonneg _ (by omega), Int.dvd_iff_emod_eq_zero]
def goodB (b t m d : Int) : Bool := decide (d ∣ m * blockOf b t - 1)

def spTellsM : Sp := fun vs H Q _ => ∃ B m d : Int, vs = [.int B, .int m, .int d] ∧ -100 ≤ m ∧ m ≤ 100 ∧ 1 ≤ d ∧ Q (.bl (decide (d ∣ m * B - 1))) H
theorem ok_tells_multiples (T : Tx P K mg) : FnOk P w K mg base CX0 lv_tells_multiples T.a_tells_multiples T.d_tells_multiples ["block", "times", "d"] spTellsM := by
  refine T.F_tells_multiples.ok sc_tells_multiples (fun vs H Q E h => ?_) (fun cdv A outer s H vs Q E hr h => ?_)
  · obtain ⟨B, m, d, rfl, _⟩ := h
    rfl
  · obtain ⟨B, m, d, rfl, m1, m2, d1, k⟩ := h
    refine ⟨_, (pss_one (ps_ret (pe_cmpR op_eq (pe_op op_modN (pe_op op_sub (pe_op op_mul (pv 1) (pv 0)) pe_int) (pv 2)) pe_int (nomark _)))), ?_⟩
    refine ⟨_, rfl, _, rfl, _, _, rfl, rfl, .inl ⟨by omega, by omega⟩, _, _, rfl, rfl, _, rfl, _, _, rfl, rfl, (show d ≠ 0 by omega), rfl, ?_⟩
    have e2 : decide (V.int ((m * B - 1).fmod d) = V.int 0) = decide (d ∣ m * B - 1) := by
      rw [dec_i, Bool.eq_iff_iff, decide_eq_true_iff, decide_eq_true_iff, fmod0_iff d1]
    rw [← e2] at k
    exact k

/-! ### all multipliers -/
def mulL (b t d : Int) (k : Nat) : List Int := ((List.range k).map fun (i : Nat) => (i : Int)).filter fun r => goodB b t r d
theorem mulL_succ (b t d : Int) (k : Nat) : mulL b t d (k + 1) = mulL b t d k ++ (if goodB b t (k : Int) d = true then [(k : Int)] else []) := by
  unfold mulL
  rw [List.range_succ, List.map_append, List.filter_append]
  congr 1
  show List.filter _ [(k : Int)] = _
  by_cases h : goodB b t (k : Int) d = true
  · rw [if_pos h]; simp [h]
  · rw [if_neg h]; simp [h]
theorem mulL_len (b t d : Int) (k : Nat) : (mulL b t d k).length ≤ k := by
  unfold mulL
  refine Nat.le_trans (List.length_filter_le _ _) ?_
  simp
def sp_multipliers (T : Tx P K mg) : Sp := fun vs H Q E => ∃ x y z : V, vs = [x, y, z] ∧ AnyV (OwnT T) H x ∧ AnyV (OwnT T) H y ∧ AnyV (OwnT T) H z ∧
  (intIn x 2 16 = false → E (.ref T.C_BadBase) none H) ∧ (intIn x 2 16 = true → intIn y 1 2 = false → E (.ref T.C_BadTake) none H) ∧ (intIn x 2 16 = true → intIn y 1 2 = true → intIn z 1 100 = false → E (.ref T.C_BadDivisor) none H) ∧
  ∀ b t d : Int, x = .int b → y = .int t → z = .int d → 2 ≤ b → b ≤ 16 → 1 ≤ t → t ≤ 2 → 1 ≤ d → d ≤ 100 → ∀ p, H p = none → Q (.ref p) (upd H p (.lst ((mulL b t d d.toNat).map V.int)))
theorem ok_multipliers (T : Tx P K mg) : FnOk P w K mg base (L2.CX P w) lv_multipliers T.a_multipliers T.d_multipliers ["base", "take", "d"] (sp_multipliers T) := by
  refine T.F_multipliers.okX sc_multipliers (fun vs H Q E h => ?_) (fun cdv A outer s H vs Q E hr h => ?_)
  · obtain ⟨x, y, z, rfl, _⟩ := h
    rfl
  · obtain ⟨x, y, z, rfl, ax, ay, az, e1, e2, e3, k⟩ := h
    refine ⟨_, (pss_cons (ps_expr (pe_call (ok_check_base T) (hr.mono (by decide)) rfl T.g_check_base T.F_check_base.kp T.b_check_base .nil (passes_call (takes_of rfl rfl rfl rfl) fun _ _ _ _ h => h) (pa_cons (pv 0) pa_nil)))
      (pss_cons (ps_expr (pe_call (ok_check_take T) (hr.mono (by decide)) rfl T.g_check_take T.F_check_take.kp T.b_check_take .nil (passes_call (takes_of rfl rfl rfl rfl) fun _ _ _ _ h => h) (pa_cons (pv 1) pa_nil)))
      (pss_cons (ps_expr (pe_call (ok_check_divisor T) (hr.mono (by decide)) rfl T.g_check_divisor T.F_check_divisor.kp T.bd_check_divisor T.rd_check_divisor (passes_call (takes_of rfl rfl rfl rfl) fun _ _ _ _ h => h) (pa_cons (pv 2) pa_nil)))
      (pss_cons (ps_set (i := 3) sc_multipliers.nd rfl (Or.inr rfl) (pe_call (ok_block_of T) (hr.mono (by decide)) rfl T.g_block_of T.F_block_of.kp T.b_block_of .nil pass0 (pa_cons (pv 0) (pa_cons (pv 1) pa_nil))))
      (pss_one (ps_ret (pe_lc (own := [("rest", 4)]) (g := gName 4) rfl sc_multipliers.nd (pi_range1 (by rfl) T.n_range (pa_cons (pv 2) pa_nil)) (blkOk_by (own := [("rest", 4)]) (N := ["base", "take", "d", "block", "rest"]) (sc := defScope s_multipliers) (by decide +kernel)) (fun _ _ _ _ _ => pg_name (i := 4) sc_multipliers.nd rfl (Or.inl rfl)) (fun _ _ _ _ _ => pts_one (pt_val (pe_call (ok_tells_multiples T) (hr.mono (by decide)) rfl T.g_tells_multiples T.F_tells_multiples.kp T.b_tells_multiples .nil pass0 (pa_cons (pv 3) (pa_cons (pv 4) (pa_cons (pv 2) pa_nil)))))) (fun _ _ _ _ _ => (pv 4))))))))), ?_⟩
    refine ⟨_, rfl, x, rfl, ax, fun g1 => ?_, e1⟩
    refine ⟨_, rfl, y, rfl, ay, fun g2 => ?_, e2 g1⟩
    refine ⟨_, rfl, z, 100, rfl, by decide, by decide, az, fun g3 => ?_, e3 g1 g2⟩
    obtain ⟨b, rfl, b1, b2⟩ := intIn_int' g1
    obtain ⟨t, rfl, t1, t2⟩ := intIn_int' g2
    obtain ⟨d, rfl, d1, d2⟩ := intIn_int' g3
    refine ⟨_, rfl, _, rfl, b, t, rfl, b1, b2, ?_⟩
    refine ⟨_, rfl, d, rfl, by omega, by omega, fun D hD => ?_⟩
    refine lc_range (lo := 0) (n := d.toNat) (fun i H4 => H4 = upd H D (.lst ((mulL b t d i).map V.int))) rfl ?_ ?_
    · rintro i H4 hi rfl
      have ei : (0 : Int) + (i : Int) = (i : Int) := Int.zero_add _
      have hln := mulL_len b t d i
      refine ⟨rfl, _, rfl, _, rfl, _, rfl, _, _, _, rfl, by omega, by omega, d1, _, rfl, ?_⟩
      rw [ei]
      refine ite2 (fun g => ?_) (fun g => ?_)
      · have g1 : goodB b t (i : Int) d = true := g
        refine ⟨_, rfl, _, upd_same, by rw [List.length_map]; exact small1000 (by omega), ?_⟩
        rw [upd_upd, mulL_succ, if_pos g1, List.map_append]
        rfl
      · have g1 : ¬ goodB b t (i : Int) d = true := g
        rw [mulL_succ, if_neg g1, List.append_nil]
    · rintro H4 rfl
      exact k b t d rfl rfl rfl b1 b2 t1 t2 d1 d2 D hD

/-! ### all divisors of which a trick tells the multiples -/
def divL (b t m : Int) (n : Nat) : List Int := ((List.range n).map fun (i : Nat) => 1 + (i : Int)).filter fun d => goodB b t m d
theorem divL_succ (b t m : Int) (k : Nat) : divL b t m (k + 1) = divL b t m k ++ (if goodB b t m (1 + (k : Int)) = true then [1 + (k : Int)] else []) := by
  unfold divL
  rw [List.range_succ, List.map_append, List.filter_append]
  congr 1
  show List.filter _ [1 + (k : Int)] = _
  by_cases h : goodB b t m (1 + (k : Int)) = true
  · rw [if_pos h]; simp [h]
  · rw [if_neg h]; simp [h]
theorem divL_len (b t m : Int) (k : Nat) : (divL b t m k).length ≤ k := by
  unfold divL
  refine Nat.le_trans (List.length_filter_le _ _) ?_
  simp
def spDivisorsX (T : Tx P K mg) : Sp := fun vs H Q E => ∃ (p : Addr) (b t m : Int) (x : V), vs = [.ref p, x] ∧ TrickAt T H p b t m ∧ AnyV (OwnT T) H x ∧ (intIn x 1 100 = false → ∀ d, H d = none → E (.ref T.C_BadNumber) (some d) (upd H d (.xd [(("n" : Str), x)]))) ∧
  ∀ n : Int, x = .int n → 1 ≤ n → n ≤ 100 → ∀ D, H D = none → Q (.ref D) (upd H D (.lst ((divL b t m n.toNat).map V.int)))
theorem ok_divisors (T : Tx P K mg) : FnOk P w K mg base (L2.CX P w) lv_divisors T.a_divisors T.d_divisors ["trick", "most"] (spDivisorsX T) := by
  refine T.F_divisors.okX sc_divisors (fun vs H Q E h => ?_) (fun cdv A outer s H vs Q E hr h => ?_)
  · obtain ⟨p, b, t, m, x, rfl, _⟩ := h
    rfl
  · obtain ⟨p, b, t, m, x, rfl, a, ax, e1, kx⟩ := h
    obtain ⟨⟨dx, e⟩, b1, b2, t1, t2, m1, m2⟩ := id a
    obtain ⟨B1, B2⟩ := block_bd (t := t) b1 b2
    refine ⟨_, (pss_cons (ps_expr (pe_call (ok_check_trick T) (hr.mono (by decide)) rfl T.g_check_trick T.F_check_trick.kp T.b_check_trick .nil (passes_call (takes_of rfl rfl rfl rfl) fun _ _ _ _ h => h) (pa_cons (pv 0) pa_nil)))
      (pss_cons (ps_expr (pe_call (ok_check_stretch T) (hr.mono (by decide)) rfl T.g_check_stretch T.F_check_stretch.kp T.b_check_stretch .nil (passes_call (takes_of rfl rfl rfl rfl) fun _ _ _ _ h => h) (pa_cons (pv 1) (pa_cons pe_int (pa_cons (pe_glob (v := .int 100) rfl T.c_GREATEST_DIVISOR ⟨_, rfl⟩) pa_nil)))))
      (pss_cons (ps_set (i := 2) sc_divisors.nd rfl (Or.inr rfl) (pe_call (ok_trick_block T) (hr.mono (by decide)) rfl T.g_trick_block T.F_trick_block.kp T.b_trick_block .nil pass0 (pa_cons (pv 0) pa_nil)))
      (pss_one (ps_ret (pe_lc (own := [("d", 3)]) (g := gName 3) rfl sc_divisors.nd (pi_range2 (by rfl) T.n_range (pa_cons pe_int (pa_cons (pe_op op_add (pv 1) pe_int) pa_nil))) (blkOk_by (own := [("d", 3)]) (N := ["trick", "most", "block", "d"]) (sc := defScope s_divisors) (by decide +kernel)) (fun _ _ _ _ _ => pg_name (i := 3) sc_divisors.nd rfl (Or.inl rfl)) (fun _ _ _ _ _ => pts_one (pt_val (pe_call (ok_tells_multiples T) (hr.mono (by decide)) rfl T.g_tells_multiples T.F_tells_multiples.kp T.b_tells_multiples .nil pass0 (pa_cons (pv 2) (pa_cons (pe_prop (pv 0) T.cl_Trick T.p_Trick_times (ok_Trick_times T) (hr.mono (by decide)) T.b_Trick_times .nil pass0 rfl) (pa_cons (pv 3) pa_nil)))))) (fun _ _ _ _ _ => (pv 3)))))))), ?_⟩
    refine ⟨_, rfl, _, rfl, .inl ⟨p, dx, _, rfl, e, ?_⟩⟩
    refine ⟨_, rfl, x, _, _, rfl, ax, fun g0 => ?_, e1⟩
    obtain ⟨n, rfl, n1, n2⟩ := intIn_int' g0
    have k := kx n rfl n1 n2
    refine ⟨_, rfl, p, b, t, m, rfl, a, ?_⟩
    refine ⟨_, rfl, ?_⟩
    have en : n + 1 - 1 = n := by omega
    refine ⟨_, _, rfl, rfl, _, _, rfl, ⟨by decide, by decide, by omega, by omega⟩, fun D hD => ?_⟩
    refine lc_range (lo := 1) (n := (n + 1 - 1).toNat) (fun i H4 => H4 = upd H D (.lst ((divL b t m i).map V.int))) rfl ?_ ?_
    · rintro i H4 hi rfl
      rw [en] at hi
      have hln := divL_len b t m i
      have nDp : p ≠ D := ne_of_none e hD
      have e4 : upd H D (.lst ((divL b t m i).map V.int)) p = some (.ins T.C_Trick dx (tf b t m)) := by
        rw [upd_ne nDp]
        exact e
      have a4 : TrickAt T (upd H D (.lst ((divL b t m i).map V.int))) p b t m := ⟨⟨dx, e4⟩, b1, b2, t1, t2, m1, m2⟩
      refine ⟨rfl, _, rfl, _, rfl, p, dx, _, rfl, e4, p, b, t, m, rfl, a4, _, rfl, _, m, _, rfl, m1, m2, by omega, _, rfl, ?_⟩
      refine ite2 (fun g => ?_) (fun g => ?_)
      · have g1 : goodB b t m (1 + (i : Int)) = true := g
        refine ⟨_, rfl, _, upd_same, by rw [List.length_map]; exact small1000 (by omega), ?_⟩
        rw [upd_upd, divL_succ, if_pos g1, List.map_append]
        rfl
      · have g1 : ¬ goodB b t m (1 + (i : Int)) = true := g
        rw [divL_succ, if_neg g1, List.append_nil]
    · rintro H4 rfl
      rw [en]
      exact k D hD

/-! ### reckoners -/
def rf (u v : V) : List (Str × V) := putF "_tricks" v (putF "_numbers" u [])
theorem rn1 : ¬ (("_numbers" : Str) = "_tricks") := by decide +kernel
theorem rf_numbers (u v : V) : (rf u v).lookup ("_numbers" : Str) = some u := by
  unfold rf
  rw [lookup_putF, if_neg rn1, lookup_putF, if_pos rfl]
theorem rf_tricks (u v : V) : (rf u v).lookup ("_tricks" : Str) = some v := by
  unfold rf
  rw [lookup_putF, if_pos rfl]
theorem rf_no (u v : V) {m : Str} (h1 : ¬ m = ("_numbers" : Str)) (h2 : ¬ m = ("_tricks" : Str)) : (rf u v).lookup m = none := by
  unfold rf
  rw [lookup_putF, if_neg h2, lookup_putF, if_neg h1]
  rfl
theorem rf_put1 (u v u' : V) : putF "_numbers" u' (rf u v) = rf u' v := by rfl
theorem rf_put2 (u v v' : V) : putF "_tricks" v' (rf u v) = rf u v' := by rfl
/-- Reckoner(n) -/
def sp_Reckoner___init__ (T : Tx P K mg) : Sp := fun vs H Q E => ∃ (p dx : Addr) (x : V), vs = [.ref p, x] ∧ H p = some (.ins T.C_Reckoner dx []) ∧ AnyV (OwnT T) H x ∧
  (intIn x (-(10 ^ 40)) (10 ^ 40) = false → ∀ d, H d = none → E (.ref T.C_BadNumber) (some d) (upd H d (.xd [(("n" : Str), x)]))) ∧
  ∀ (n : Int) (H' : Hp) (l1 l2 : Addr), x = .int n → -(10 ^ 40) ≤ n → n ≤ 10 ^ 40 → H' p = some (.ins T.C_Reckoner dx (rf (.ref l1) (.ref l2))) → H' l1 = some (.lst [.int n]) → H' l2 = some (.lst []) → H l1 = none → H l2 = none → l1 ≠ l2 → (∀ c o, H c = some o → c ≠ p → H' c = some o) → Q .non H'
theorem ok_Reckoner___init__ (T : Tx P K mg) : FnOk P w K mg base (L2.CX P w) lv_Reckoner___init__ T.a_Reckoner___init__ T.d_Reckoner___init__ ["self", "n"] (sp_Reckoner___init__ T) := by
  refine T.F_Reckoner___init__.okX sc_Reckoner___init__ (fun vs H Q E h => ?_) (fun cdv A outer s H vs Q E hr h => ?_)
  · obtain ⟨p, dx, x, rfl, _⟩ := h
    rfl
  · obtain ⟨p, dx, x, rfl, hp, ax, e, k⟩ := h
    refine ⟨_, (pss_cons (ps_expr (pe_call (ok_check_number T) (hr.mono (by decide)) rfl T.g_check_number T.F_check_number.kp T.b_check_number .nil (passes_call (takes_of rfl rfl rfl rfl) fun _ _ _ _ h => h) (pa_cons (pv 1) pa_nil)))
      (pss_cons (ps_fld (pv 0) (pe_lst (pa_cons (pv 1) pa_nil)) rfl)
      (pss_one (ps_fld (pv 0) (pe_lst pa_nil) rfl)))), ?_⟩
    refine ⟨_, rfl, x, rfl, ax, fun g => ?_, e⟩
    obtain ⟨n, rfl, n1, n2⟩ := intIn_int' g
    refine ⟨_, rfl, by show 1 ≤ sizeLine; decide, fun l1 h1 => ?_⟩
    have np1 : p ≠ l1 := ne_of_none hp h1
    refine ⟨_, rfl, p, _, dx, _, rfl, same_upd h1 _ _ hp, T.cl_Reckoner, T.na_Reckoner_numbers, (by show 0 < 1000; decide), ?_⟩
    refine ⟨by show 0 ≤ sizeLine; decide, fun l2 h2 => ?_⟩
    have np2 : p ≠ l2 := fun z => by rw [← z, upd_same] at h2; cases h2
    have n12 : l1 ≠ l2 := fun z => by rw [← z, upd_ne np1.symm, upd_same] at h2; cases h2
    refine ⟨_, rfl, p, _, dx, _, rfl, same_upd h2 _ _ upd_same, T.cl_Reckoner, T.na_Reckoner_tricks, (by show 1 < 1000; decide), ?_⟩
    refine k n _ l1 l2 rfl n1 n2 upd_same ?_ ?_ h1 ?_ n12 ?_
    · rw [upd_ne np1.symm, upd_ne n12, upd_ne np1.symm, upd_same]
    · rw [upd_ne np2.symm, upd_same]
    · rw [upd_ne np2.symm, upd_ne n12.symm] at h2
      exact h2
    · intro c o e hc
      have c1 : c ≠ l1 := ne_of_none e h1
      have c2 : c ≠ l2 := fun z => by rw [← z, upd_ne hc, upd_ne c1, e] at h2; cases h2
      rw [upd_ne hc, upd_ne c2, upd_ne hc, upd_ne c1]
      exact e
/-- a reckoner: its two lists -/
structure ReckAt (T : Tx P K mg) (H : Hp) (p l1 l2 : Addr) (ns : List Int) (ts : List V) (qs : List Prt) : Prop where
  ob : ∃ dx, H p = some (.ins T.C_Reckoner dx (rf (.ref l1) (.ref l2)))
  nums : H l1 = some (.lst (ns.map V.int))
  tris : H l2 = some (.lst ts)
  trs : Trs T H ts qs
  ne : l1 ≠ l2
  len : ns.length ≤ 100 ∧ ts.length ≤ 100
/-- two lists may be changed -/
def But2 (l1 l2 : Addr) (H H' : Hp) : Prop := ∀ c o, H c = some o → c ≠ l1 → c ≠ l2 → H' c = some o
theorem But2.rd {l1 l2 c : Addr} {H H' : Hp} {o : HO} {xs ys : List V} (B : But2 l1 l2 H H') (h1 : H l1 = some (.lst xs)) (h2 : H l2 = some (.lst ys)) (e : H c = some o) (no : ∀ zs, o ≠ .lst zs) : H' c = some o :=
  B c o e (fun z => by rw [z, h1] at e; cases e; exact no _ rfl) (fun z => by rw [z, h2] at e; cases e; exact no _ rfl)
theorem ReckAt.same {T : Tx P K mg} {H H' : Hp} {p l1 l2 : Addr} {ns : List Int} {ts : List V} {qs : List Prt} (h : ReckAt T H p l1 l2 ns ts qs) (S : Same H H') : ReckAt T H' p l1 l2 ns ts qs :=
  ⟨h.ob.imp fun _ e => S _ _ e, S _ _ h.nums, S _ _ h.tris, h.trs.same S, h.ne, h.len⟩
theorem TrickAt.but2 {T : Tx P K mg} {H H' : Hp} {l1 l2 q : Addr} {b t m : Int} {xs ys : List V} (h : TrickAt T H q b t m) (B : But2 l1 l2 H H') (h1 : H l1 = some (.lst xs)) (h2 : H l2 = some (.lst ys)) : TrickAt T H' q b t m :=
  let ⟨⟨dx, e⟩, r⟩ := h
  ⟨⟨dx, B.rd h1 h2 e fun _ z => nomatch z⟩, r⟩
theorem at_last (xs : List V) (z : V) : atI (xs ++ [z]) (-1) = some z := by
  unfold atI ixN
  rw [if_neg (by decide), List.length_append, List.length_singleton]
  rw [if_pos (by omega)]
  show (xs ++ [z])[(((xs.length + 1 : Nat) : Int) + -1).toNat]? = some z
  rw [show (((xs.length + 1 : Nat) : Int) + -1).toNat = xs.length by omega, List.getElem?_append_right (Nat.le_refl _), Nat.sub_self]
  rfl
def spNow (T : Tx P K mg) : Sp := fun vs H Q _ => ∃ (p l1 l2 : Addr) (ns : List Int) (n : Int) (ts : List V) (qs : List Prt), vs = [.ref p] ∧ ReckAt T H p l1 l2 (ns ++ [n]) ts qs ∧ Q (.int n) H
theorem ok_Reckoner_now (T : Tx P K mg) : FnOk P w K mg base CX0 lv_Reckoner_now T.a_Reckoner_now T.d_Reckoner_now ["self"] (spNow T) := by
  refine T.F_Reckoner_now.ok sc_Reckoner_now (fun vs H Q E h => ?_) (fun cdv A outer s H vs Q E hr h => ?_)
  · obtain ⟨p, l1, l2, ns, n, ts, qs, rfl, _⟩ := h
    rfl
  · obtain ⟨p, l1, l2, ns, n, ts, qs, rfl, R, k⟩ := h
    obtain ⟨dx, ep⟩ := R.ob
    refine ⟨_, (pss_one (ps_ret (pe_ix ix_list (pe_fld (pv 0) rfl) (pe_un un_neg pe_int) (fun _ _ => rfl)))), ?_⟩
    refine ⟨_, rfl, p, _, dx, _, _, rfl, ep, T.cl_Reckoner, T.na_Reckoner_numbers, rf_numbers _ _, _, rfl, l1, _, _, _, rfl, rfl, SqL.of R.nums, ?_, k⟩
    rw [List.map_append]
    exact at_last _ _
def spTris (T : Tx P K mg) : Sp := fun vs H Q _ => ∃ (p l1 l2 : Addr) (ns : List Int) (ts : List V) (qs : List Prt), vs = [.ref p] ∧ ReckAt T H p l1 l2 ns ts qs ∧ ∀ c H', Same H H' → H' c = some (.tup ts) → Q (.ref c) H'
theorem ok_Reckoner_tricks (T : Tx P K mg) : FnOk P w K mg base CX0 lv_Reckoner_tricks T.a_Reckoner_tricks T.d_Reckoner_tricks ["self"] (spTris T) := by
  refine T.F_Reckoner_tricks.ok sc_Reckoner_tricks (fun vs H Q E h => ?_) (fun cdv A outer s H vs Q E hr h => ?_)
  · obtain ⟨p, l1, l2, ns, ts, qs, rfl, _⟩ := h
    rfl
  · obtain ⟨p, l1, l2, ns, ts, qs, rfl, R, k⟩ := h
    obtain ⟨dx, ep⟩ := R.ob
    refine ⟨_, (pss_one (ps_ret (pe_callTy call_tuple_of (by rfl) T.n_tuple (by decide +kernel) (pa_cons (pe_fld (pv 0) rfl) pa_nil)))), ?_⟩
    refine ⟨_, rfl, p, _, dx, _, _, rfl, ep, T.cl_Reckoner, T.na_Reckoner_tricks, rf_tricks _ _, _, ts, rfl, .inl ⟨SqL.of R.tris, fun l hl => k l _ (same_upd hl) upd_same⟩⟩
def spLen (T : Tx P K mg) : Sp := fun vs H Q _ => ∃ (p l1 l2 : Addr) (ns : List Int) (ts : List V) (qs : List Prt), vs = [.ref p] ∧ ReckAt T H p l1 l2 ns ts qs ∧ Q (.int ts.length) H
theorem ok_Reckoner___len__ (T : Tx P K mg) : FnOk P w K mg base CX0 lv_Reckoner___len__ T.a_Reckoner___len__ T.d_Reckoner___len__ ["self"] (spLen T) := by
  refine T.F_Reckoner___len__.ok sc_Reckoner___len__ (fun vs H Q E h => ?_) (fun cdv A outer s H vs Q E hr h => ?_)
  · obtain ⟨p, l1, l2, ns, ts, qs, rfl, _⟩ := h
    rfl
  · obtain ⟨p, l1, l2, ns, ts, qs, rfl, R, k⟩ := h
    obtain ⟨dx, ep⟩ := R.ob
    refine ⟨_, (pss_one (ps_ret (pe_callB call_len_seq (by rfl) T.n_len (by decide +kernel) (pa_cons (pe_fld (pv 0) rfl) pa_nil)))), ?_⟩
    refine ⟨_, rfl, p, _, dx, _, _, rfl, ep, T.cl_Reckoner, T.na_Reckoner_tricks, rf_tricks _ _, _, _, rfl, .inl (SqL.of R.tris), k⟩
def spStep (T : Tx P K mg) : Sp := fun vs H Q E => ∃ (p : Addr) (x : V), vs = [.ref p, x] ∧ ((AnyV (fun _ => False) H x ∧ E (.ref T.C_BadTrick) none H) ∨
  ∃ (q : Addr) (b t m : Int) (l1 l2 : Addr) (ns : List Int) (n : Int) (ts : List V) (qs : List Prt), x = .ref q ∧ TrickAt T H q b t m ∧ ReckAt T H p l1 l2 (ns ++ [n]) ts qs ∧ ns.length + 1 < 100 ∧ ts.length < 100 ∧
    ∀ H', ReckAt T H' p l1 l2 (ns ++ [n] ++ [made b t m n]) (ts ++ [x]) (qs ++ [(b, t, m)]) → But2 l1 l2 H H' → Q (.int (made b t m n)) H')
theorem ok_Reckoner_step (T : Tx P K mg) : FnOk P w K mg base (L2.CX P w) lv_Reckoner_step T.a_Reckoner_step T.d_Reckoner_step ["self", "trick"] (spStep T) := by
  refine T.F_Reckoner_step.okX sc_Reckoner_step (fun vs H Q E h => ?_) (fun cdv A outer s H vs Q E hr h => ?_)
  · obtain ⟨p, x, rfl, _⟩ := h
    rfl
  · obtain ⟨p, x, rfl, h⟩ := h
    refine ⟨_, (pss_cons (ps_expr (pe_call (ok_check_trick T) (hr.mono (by decide)) rfl T.g_check_trick T.F_check_trick.kp T.b_check_trick .nil (passes_call (takes_of rfl rfl rfl rfl) fun _ _ _ _ h => h) (pa_cons (pv 1) pa_nil)))
      (pss_cons (ps_set (i := 2) sc_Reckoner_step.nd rfl (Or.inl rfl) (pe_call (ok_made_of T) (hr.mono (by decide)) rfl T.g_made_of T.F_made_of.kp T.b_made_of .nil pass0 (pa_cons (pv 1) (pa_cons (pe_prop (pv 0) T.cl_Reckoner T.p_Reckoner_now (ok_Reckoner_now T) (hr.mono (by decide)) T.b_Reckoner_now .nil pass0 rfl) pa_nil))))
      (pss_cons (ps_expr (pe_bm PySem.F.plainAttrs_list PySem.F.slot_list_append PySem.F.type_list_append mt_append (pe_fld (pv 0) rfl) (pa_cons (pv 2) pa_nil)))
      (pss_cons (ps_expr (pe_bm PySem.F.plainAttrs_list PySem.F.slot_list_append PySem.F.type_list_append mt_append (pe_fld (pv 0) rfl) (pa_cons (pv 1) pa_nil)))
      (pss_one (ps_ret (pv 2))))))), ?_⟩
    rcases h with ⟨a, k⟩ | ⟨q, b, t, m, l1, l2, ns, n, ts, qs, rfl, hq, R, z1, z2, k⟩
    · exact ⟨_, rfl, _, rfl, .inr ⟨a, k⟩⟩
    · obtain ⟨dx, ep⟩ := R.ob
      obtain ⟨⟨dt, eq⟩, _⟩ := id hq
      refine ⟨_, rfl, _, rfl, .inl ⟨q, dt, _, rfl, eq, ?_⟩⟩
      refine ⟨_, rfl, _, rfl, p, dx, _, rfl, ep, p, l1, l2, ns, n, ts, qs, rfl, R, q, b, t, m, n, rfl, hq, ?_⟩
      have np1 : p ≠ l1 := fun z => by rw [z, R.nums] at ep; cases ep
      have np2 : p ≠ l2 := fun z => by rw [z, R.tris] at ep; cases ep
      refine ⟨_, rfl, p, _, dx, _, _, rfl, ep, T.cl_Reckoner, T.na_Reckoner_numbers, rf_numbers _ _, .inl ⟨rfl, _, SqL.of R.nums⟩, _, rfl, l1, _, _, rfl, rfl, R.nums, small1000 (by rw [List.length_map, List.length_append, List.length_singleton]; omega), ?_⟩
      have e2 : (upd H l1 (.lst ((ns ++ [n]).map V.int ++ [V.int (made b t m n)]))) p = some (.ins T.C_Reckoner dx (rf (.ref l1) (.ref l2))) := by rw [upd_ne np1]; exact ep
      have t2 : (upd H l1 (.lst ((ns ++ [n]).map V.int ++ [V.int (made b t m n)]))) l2 = some (.lst ts) := by rw [upd_ne R.ne.symm]; exact R.tris
      refine ⟨_, rfl, p, _, dx, _, _, rfl, e2, T.cl_Reckoner, T.na_Reckoner_tricks, rf_tricks _ _, .inl ⟨rfl, _, SqL.of t2⟩, _, rfl, l2, _, _, rfl, rfl, t2, small1000 (by omega), ?_⟩
      have B : But2 l1 l2 H (upd (upd H l1 (.lst ((ns ++ [n]).map V.int ++ [V.int (made b t m n)]))) l2 (.lst (ts ++ [V.ref q]))) := fun c o e c1 c2 => by
        rw [upd_ne c2, upd_ne c1]
        exact e
      have kT : ∀ q' b' t' m', TrickAt T H q' b' t' m' → TrickAt T (upd (upd H l1 (.lst ((ns ++ [n]).map V.int ++ [V.int (made b t m n)]))) l2 (.lst (ts ++ [V.ref q]))) q' b' t' m' := fun q' b' t' m' h => h.but2 B R.nums R.tris
      refine ⟨_, rfl, k _ ⟨⟨dx, B.rd R.nums R.tris ep (fun _ z => nomatch z)⟩, ?_, upd_same, ?_, R.ne, ?_⟩ B⟩
      · rw [upd_ne R.ne, upd_same, List.map_append (l₁ := ns ++ [n])]
        rfl
      · exact (R.trs.of kT).snoc (z := (b, t, m)) (kT _ _ _ _ hq)
      · rw [List.length_append, List.length_append, List.length_append]
        exact ⟨by show ns.length + 1 + 1 ≤ 100; omega, by show ts.length + 1 ≤ 100; omega⟩
def spUndo (T : Tx P K mg) : Sp := fun vs H Q _ => ∃ (p l1 l2 : Addr) (ns : List Int) (ts : List V) (qs : List Prt), vs = [.ref p] ∧ ReckAt T H p l1 l2 ns ts qs ∧ ns.length = ts.length + 1 ∧ (ts = [] → Q (.bl false) H) ∧
  (ts ≠ [] → ∀ H', ReckAt T H' p l1 l2 ns.dropLast ts.dropLast qs.dropLast → But2 l1 l2 H H' → Q (.bl true) H')
theorem ok_Reckoner_undo (T : Tx P K mg) : FnOk P w K mg base CX0 lv_Reckoner_undo T.a_Reckoner_undo T.d_Reckoner_undo ["self"] (spUndo T) := by
  refine T.F_Reckoner_undo.ok sc_Reckoner_undo (fun vs H Q E h => ?_) (fun cdv A outer s H vs Q E hr h => ?_)
  · obtain ⟨p, l1, l2, ns, ts, qs, rfl, _⟩ := h
    rfl
  · obtain ⟨p, l1, l2, ns, ts, qs, rfl, R, ln, k0, k⟩ := h
    obtain ⟨dx, ep⟩ := R.ob
    refine ⟨_, (pss_cons (ps_if (pt_not (pt_truth (pe_fld (pv 0) rfl) (by intro _; rfl))) (pss_one (ps_ret pe_bl)) pss_nil)
      (pss_cons (ps_expr (pe_bm0 PySem.F.plainAttrs_list PySem.F.slot_list_pop PySem.F.type_list_pop mt_pop (pe_fld (pv 0) rfl)))
      (pss_cons (ps_expr (pe_bm0 PySem.F.plainAttrs_list PySem.F.slot_list_pop PySem.F.type_list_pop mt_pop (pe_fld (pv 0) rfl)))
      (pss_one (ps_ret pe_bl))))), ?_⟩
    refine ⟨_, rfl, p, _, dx, _, _, rfl, ep, T.cl_Reckoner, T.na_Reckoner_tricks, rf_tricks _ _, !ts.isEmpty, .inl ⟨ts, SqL.of R.tris, rfl⟩, ?_⟩
    have np1 : p ≠ l1 := fun z => by rw [z, R.nums] at ep; cases ep
    have np2 : p ≠ l2 := fun z => by rw [z, R.tris] at ep; cases ep
    by_cases hts : ts = []
    · have e : (!(!ts.isEmpty)) = true := by rw [hts]; rfl
      show if (!(!ts.isEmpty)) = true then _ else _
      rw [if_pos e]
      exact k0 hts
    · have l0 : 0 < ts.length := List.length_pos_iff.mpr hts
      have e : ¬ (!(!ts.isEmpty)) = true := by
        cases ts with
        | nil => exact absurd rfl hts
        | cons => exact Bool.false_ne_true
      show if (!(!ts.isEmpty)) = true then _ else _
      rw [if_neg e]
      have y1 : (ns.map V.int)[(ns.map V.int).length - 1]? = some ((ns.map V.int)[(ns.map V.int).length - 1]'(by rw [List.length_map]; omega)) := List.getElem?_eq_getElem _
      have y2 : ts[ts.length - 1]? = some (ts[ts.length - 1]'(by omega)) := List.getElem?_eq_getElem _
      refine ⟨_, rfl, p, _, dx, _, _, rfl, ep, T.cl_Reckoner, T.na_Reckoner_numbers, rf_numbers _ _, .inl ⟨rfl, _, SqL.of R.nums⟩, l1, _, _, rfl, rfl, R.nums, y1, ?_⟩
      have e2 : (upd H l1 (.lst (ns.map V.int).dropLast)) p = some (.ins T.C_Reckoner dx (rf (.ref l1) (.ref l2))) := by rw [upd_ne np1]; exact ep
      have t2 : (upd H l1 (.lst (ns.map V.int).dropLast)) l2 = some (.lst ts) := by rw [upd_ne R.ne.symm]; exact R.tris
      refine ⟨_, rfl, p, _, dx, _, _, rfl, e2, T.cl_Reckoner, T.na_Reckoner_tricks, rf_tricks _ _, .inl ⟨rfl, _, SqL.of t2⟩, l2, _, _, rfl, rfl, t2, y2, ?_⟩
      have B : But2 l1 l2 H (upd (upd H l1 (.lst (ns.map V.int).dropLast)) l2 (.lst ts.dropLast)) := fun c o e c1 c2 => by
        rw [upd_ne c2, upd_ne c1]
        exact e
      refine k hts _ ⟨⟨dx, B.rd R.nums R.tris ep (fun _ z => nomatch z)⟩, ?_, upd_same, ?_, R.ne, ?_⟩ B
      · rw [upd_ne R.ne, upd_same, List.map_dropLast]
      · have tk := R.trs.take (ts.length - 1)
        rw [show ts.take (ts.length - 1) = ts.dropLast from List.dropLast_eq_take.symm, show qs.take (ts.length - 1) = qs.dropLast by rw [R.trs.len]; exact List.dropLast_eq_take.symm] at tk
        exact tk.of fun q' b' t' m' h => h.but2 B R.nums R.tris
      · have := R.len
        rw [List.length_dropLast, List.length_dropLast]
        omega
def spCopy (T : Tx P K mg) : Sp := fun vs H Q _ => ∃ (p l1 l2 : Addr) (n : Int) (ns : List Int) (ts : List V) (qs : List Prt), vs = [.ref p] ∧ ReckAt T H p l1 l2 (n :: ns) ts qs ∧ -(10 ^ 40) ≤ n ∧ n ≤ 10 ^ 40 ∧
  ∀ (H' : Hp) (p' l1' l2' : Addr), Same H H' → ReckAt T H' p' l1' l2' (n :: ns) ts qs → H l1' = none → H l2' = none → H p' = none → Q (.ref p') H'
theorem ok_Reckoner_copy (T : Tx P K mg) : FnOk P w K mg base CX0 lv_Reckoner_copy T.a_Reckoner_copy T.d_Reckoner_copy ["self"] (spCopy T) := by
  refine T.F_Reckoner_copy.ok sc_Reckoner_copy (fun vs H Q E h => ?_) (fun cdv A outer s H vs Q E hr h => ?_)
  · obtain ⟨p, l1, l2, n, ns, ts, qs, rfl, _⟩ := h
    rfl
  · obtain ⟨p, l1, l2, n, ns, ts, qs, rfl, R, n1, n2, k⟩ := h
    obtain ⟨dx, ep⟩ := R.ob
    refine ⟨_, (pss_cons (ps_set (i := 1) sc_Reckoner_copy.nd rfl (Or.inl rfl) (pe_make T.mk_Reckoner (ok_Reckoner___init__ T) (hr.mono (by decide)) rfl T.g_Reckoner T.b_Reckoner___init__ .nil passL (pa_cons (pe_ix ix_list (pe_fld (pv 0) rfl) pe_int (fun _ _ => rfl)) pa_nil)))
      (pss_cons (ps_fld (pv 1) (pe_callTy call_list_of (by rfl) T.n_list (by decide +kernel) (pa_cons (pe_fld (pv 0) rfl) pa_nil)) rfl)
      (pss_cons (ps_fld (pv 1) (pe_callTy call_list_of (by rfl) T.n_list (by decide +kernel) (pa_cons (pe_fld (pv 0) rfl) pa_nil)) rfl)
      (pss_one (ps_ret (pv 1)))))), ?_⟩
    refine ⟨_, rfl, p, _, dx, _, _, rfl, ep, T.cl_Reckoner, T.na_Reckoner_numbers, rf_numbers _ _, l1, _, 0, _, rfl, rfl, SqL.of R.nums, at_of (j := 0) rfl rfl, ?_⟩
    have gn : intIn (V.int n) (-(10 ^ 40)) (10 ^ 40) = true := intIn_of n1 n2
    intro q dq nq nd ne
    refine ⟨q, dq, .int n, rfl, upd_same, .int n, fun g => Bool.noConfusion (gn.symm.trans g), fun n' H1 a1 a2 en _ _ eq e1 e2 f1 f2 d12 kp => ⟨rfl, ?_⟩⟩
    have S1 := Same.made nq nd kp
    have R1 := R.same S1
    obtain ⟨dx1, ep1⟩ := R1.ob
    refine ⟨_, rfl, p, _, dx1, _, _, rfl, ep1, T.cl_Reckoner, T.na_Reckoner_numbers, rf_numbers _ _, _, _, rfl, .inl (SqL.of R1.nums), fun m1 h1 => ?_⟩
    refine ⟨_, rfl, q, _, dq, _, rfl, same_upd h1 _ _ eq, T.cl_Reckoner, T.na_Reckoner_numbers, (by show 2 < 1000; decide), ?_⟩
    rw [rf_put1]
    have nq1 : q ≠ m1 := ne_of_none eq h1
    have npq : p ≠ q := fun z => by rw [z] at ep; rw [ep] at nq; cases nq
    have S2 : Same H (upd (upd H1 m1 (.lst ((n :: ns).map V.int))) q (.ins T.C_Reckoner dq (rf (.ref m1) (.ref a2)))) := fun c o e => by
      rw [upd_ne (ne_of_none e nq)]
      exact same_upd h1 _ _ (S1 _ _ e)
    have R2 := R.same S2
    obtain ⟨dx2, ep2⟩ := R2.ob
    refine ⟨_, rfl, p, _, dx2, _, _, rfl, ep2, T.cl_Reckoner, T.na_Reckoner_tricks, rf_tricks _ _, _, _, rfl, .inl (SqL.of R2.tris), fun m2 h2 => ?_⟩
    have nq2 : q ≠ m2 := fun z => by rw [← z, upd_same] at h2; cases h2
    have n12 : m1 ≠ m2 := fun z => by rw [← z, upd_ne nq1.symm, upd_same] at h2; cases h2
    refine ⟨_, rfl, q, _, dq, _, rfl, same_upd h2 _ _ upd_same, T.cl_Reckoner, T.na_Reckoner_tricks, (by show 2 < 1000; decide), ?_⟩
    rw [rf_put2]
    have old : ∀ {HH : Hp} {c : Addr}, Same H HH → HH c = none → H c = none := fun {HH c} S hc => by
      cases e : H c with
      | none => rfl
      | some o => rw [S _ _ e] at hc; cases hc
    have hm1 := old S1 h1
    have hm2 := old S2 h2
    have S3 : Same H (upd (upd (upd (upd H1 m1 (.lst ((n :: ns).map V.int))) q (.ins T.C_Reckoner dq (rf (.ref m1) (.ref a2)))) m2 (.lst ts)) q (.ins T.C_Reckoner dq (rf (.ref m1) (.ref m2)))) := fun c o e => by
      rw [upd_ne (ne_of_none e nq), upd_ne (ne_of_none e hm2)]
      exact S2 _ _ e
    refine ⟨_, rfl, k _ q m1 m2 S3 ⟨⟨dq, upd_same⟩, ?_, ?_, R.trs.same S3, n12, R.len⟩ hm1 hm2 nq⟩
    · rw [upd_ne nq1.symm, upd_ne n12, upd_ne nq1.symm, upd_same]
    · rw [upd_ne nq2.symm, upd_same]

/-! ### equality of tricks -/
def eqB (b t m b' t' m' : Int) : Bool := decide (b = b') && (decide (t = t') && decide (m = m'))
def spEqT (T : Tx P K mg) : Sp := fun vs H Q _ => ∃ (p : Addr) (y : V) (b t m : Int), vs = [.ref p, y] ∧ TrickAt T H p b t m ∧
  ((∃ q b' t' m', y = .ref q ∧ TrickAt T H q b' t' m' ∧ Q (.bl (eqB b t m b' t' m')) H) ∨ (AnyV (fun _ => False) H y ∧ Q (.bl false) H))
theorem ok_Trick___eq__ (T : Tx P K mg) : FnOk P w K mg base CX0 lv_Trick___eq__ T.a_Trick___eq__ T.d_Trick___eq__ ["self", "other"] (spEqT T) := by
  refine T.F_Trick___eq__.ok sc_Trick___eq__ (fun vs H Q E h => ?_) (fun cdv A outer s H vs Q E hr h => ?_)
  · obtain ⟨p, y, b, t, m, rfl, _⟩ := h
    rfl
  · obtain ⟨p, y, b, t, m, rfl, ⟨⟨dx, e⟩, _⟩, h⟩ := h
    refine ⟨_, (pss_one (ps_ret (pe_and (pe_callB call_isi (by rfl) T.n_isinstance (by decide +kernel) (pa_cons (pv 1) (pa_cons (pe_glob (v := .ref T.C_Trick) rfl T.g_Trick rfl) pa_nil))) (pe_and (pe_cmpR op_eq (pe_fld (pv 0) rfl) (pe_fld (pv 1) rfl) (nomark _)) (pe_and (pe_cmpR op_eq (pe_fld (pv 0) rfl) (pe_fld (pv 1) rfl) (nomark _)) (pe_one (pe_cmpR op_eq (pe_fld (pv 0) rfl) (pe_fld (pv 1) rfl) (nomark _)))))))), ?_⟩
    rcases h with ⟨q, b', t', m', rfl, ⟨⟨dy, e'⟩, _⟩, k⟩ | ⟨a, k⟩
    · refine ⟨_, rfl, _, _, _, _, _, rfl, .own _, .base (T.ins_Trick _ _ _ _ e'), T.kis_Trick, _, rfl, iteT ?_⟩
      unfold eqB at k
      refine ⟨_, rfl, p, _, dx, _, _, rfl, e, T.cl_Trick, T.na_Trick_base, tf_base b t m, _, rfl, q, _, dy, _, _, rfl, e', T.cl_Trick, T.na_Trick_base, tf_base b' t' m', rfl, _, rfl, ?_⟩
      rw [dec_i]
      cases g1 : decide (b = b') with
      | false => rw [g1] at k; exact iteF k
      | true =>
        rw [g1, Bool.true_and] at k
        refine iteT ?_
        refine ⟨_, rfl, p, _, dx, _, _, rfl, e, T.cl_Trick, T.na_Trick_take, tf_take b t m, _, rfl, q, _, dy, _, _, rfl, e', T.cl_Trick, T.na_Trick_take, tf_take b' t' m', rfl, _, rfl, ?_⟩
        rw [dec_i]
        cases g2 : decide (t = t') with
        | false => rw [g2] at k; exact iteF k
        | true =>
          rw [g2, Bool.true_and] at k
          refine iteT ?_
          refine ⟨_, rfl, p, _, dx, _, _, rfl, e, T.cl_Trick, T.na_Trick_times, tf_times b t m, _, rfl, q, _, dy, _, _, rfl, e', T.cl_Trick, T.na_Trick_times, tf_times b' t' m', rfl, ?_⟩
          rw [dec_i]
          exact k
    · obtain ⟨u, ty, e2⟩ := isi_trick T a
      exact ⟨_, rfl, _, _, _, _, _, rfl, .own _, ty, e2, _, rfl, iteF k⟩

/-! ### a power -/
def spPower : Sp := fun vs H Q _ => ∃ b k : Int, vs = [.int b, .int k] ∧ 0 ≤ b ∧ b ≤ 1000 ∧ 0 ≤ k ∧ k ≤ 1000000 ∧ Q (.int (b ^ k.toNat)) H
theorem ok__law_power (T : Tx P K mg) : FnOk P w K mg base CX0 lv__law_power T.a__law_power T.d__law_power ["_law_base", "_law_many"] spPower := by
  refine T.F__law_power.ok sc__law_power (fun vs H Q E h => ?_) (fun cdv A outer s H vs Q E hr h => ?_)
  · obtain ⟨b, k, rfl, _⟩ := h
    rfl
  · obtain ⟨b, k, rfl, b0, b1, k0, k1, q⟩ := h
    refine ⟨_, (pss_cons (ps_set (i := 2) sc__law_power.nd rfl (Or.inl rfl) pe_int)
      (pss_cons (ps_for PassesOwn.never rfl (pi_range1 (by rfl) T.n_range (pa_cons (pv 1) pa_nil)) (pg_name (i := 3) sc__law_power.nd rfl (Or.inl rfl)) (pss_one (ps_set (i := 2) sc__law_power.nd rfl (Or.inl rfl) (pe_op op_mul (pv 2) (pv 0)))))
      (pss_one (ps_ret (pv 2))))), ?_⟩
    refine ⟨_, rfl, k, rfl, by omega, by omega, ?_⟩
    refine for_range (lo := 0) (fun i σ H2 => ∃ v : Option V, σ = [some (.int b), some (.int k), some (.int (b ^ i)), v] ∧ H2 = H) ⟨none, by rw [Int.pow_zero]; rfl, rfl⟩ ?_ ?_
    · rintro i σ H2 hi ⟨v, rfl, rfl⟩
      refine ⟨_, rfl, _, rfl, _, _, rfl, rfl, .inr ⟨by omega, by omega⟩, ?_⟩
      exact ⟨_, by rw [Int.pow_succ]; rfl, rfl⟩
    · rintro σ H2 ⟨v, rfl, rfl⟩
      exact ⟨_, rfl, q⟩

/-! ### a drawn trick's parts -/
def spLawTrick (K : PySem.W.Frag) : Sp := fun vs H Q _ => ∃ (r a : Addr) (ns : List Int) (small : Bool), vs = [.ref r, .bl small] ∧ RowAt K H r a ns ∧
  ∀ (b t m : Int) (q : Addr) (H' : Hp), 2 ≤ b → b ≤ 16 → 1 ≤ t → t ≤ 2 → (small = true → b ≤ 5 ∨ t = 1) → -100 ≤ m → m ≤ 100 → RowAt K H' r a ns → But r H H' → H q = none → H' q = some (.lst [.int b, .int t, .int m]) → q ≠ r → Q (.ref q) H'
theorem ok__law_trick (T : Tx P K mg) : FnOk P w K mg base CX0 lv__law_trick T.a__law_trick T.d__law_trick ["_law_row", "_law_small"] (spLawTrick K) := by
  refine T.F__law_trick.ok sc__law_trick (fun vs H Q E h => ?_) (fun cdv A outer s H vs Q E hr h => ?_)
  · obtain ⟨r, a, ns, sm, rfl, _⟩ := h
    rfl
  · obtain ⟨r, a, ns, sm, rfl, R0, k⟩ := h
    refine ⟨_, (Evl.pss_cut (ps_set (i := 2) sc__law_trick.nd rfl (Or.inr rfl) (pe_ix ix_list (pe_lst (pa_cons pe_int (pa_cons pe_int (pa_cons pe_int (pa_cons pe_int (pa_cons pe_int (pa_cons pe_int (pa_cons (pe_op op_add pe_int (pe_call (ok__law_taken T) (hr.mono (by decide)) rfl T.g__law_taken T.F__law_taken.kp T.b__law_taken .nil pass0 (pa_cons (pv 0) (pa_cons pe_int pa_nil)))) pa_nil)))))))) (pe_call (ok__law_taken T) (hr.mono (by decide)) rfl T.g__law_taken T.F__law_taken.kp T.b__law_taken .nil pass0 (pa_cons (pv 0) (pa_cons pe_int pa_nil))) (fun _ _ => rfl)))
      (Evl.pss_cut (ps_set (i := 3) sc__law_trick.nd rfl (Or.inr rfl) (pe_ifExp (PW.pt (pw_and (pt_val (pv 1)) (pw_and1 (pt_cmpR op_gt (pv 2) pe_int (nomark _))))) pe_int (pe_op op_add pe_int (pe_call (ok__law_taken T) (hr.mono (by decide)) rfl T.g__law_taken T.F__law_taken.kp T.b__law_taken .nil pass0 (pa_cons (pv 0) (pa_cons pe_int pa_nil))))))
      (Evl.pss_cut (ps_set (i := 4) sc__law_trick.nd rfl (Or.inl rfl) (pe_ix ix_list (pe_lst (pa_cons pe_int (pa_cons (pe_un un_neg pe_int) (pa_cons (pe_un un_neg pe_int) (pa_cons pe_int (pa_cons (pe_op op_sub (pe_call (ok__law_taken T) (hr.mono (by decide)) rfl T.g__law_taken T.F__law_taken.kp T.b__law_taken .nil pass0 (pa_cons (pv 0) (pa_cons pe_int pa_nil))) pe_int) (pa_cons (pe_op op_sub (pe_call (ok__law_taken T) (hr.mono (by decide)) rfl T.g__law_taken T.F__law_taken.kp T.b__law_taken .nil pass0 (pa_cons (pv 0) (pa_cons pe_int pa_nil))) pe_int) pa_nil))))))) (pe_call (ok__law_taken T) (hr.mono (by decide)) rfl T.g__law_taken T.F__law_taken.kp T.b__law_taken .nil pass0 (pa_cons (pv 0) (pa_cons pe_int pa_nil))) (fun _ _ => rfl)))
      (Evl.pss_cut (ps_if (pt_cmpR op_eq (pe_call (ok__law_taken T) (hr.mono (by decide)) rfl T.g__law_taken T.F__law_taken.kp T.b__law_taken .nil pass0 (pa_cons (pv 0) (pa_cons pe_int pa_nil))) pe_int (nomark _)) (pss_cons (ps_set (i := 5) sc__law_trick.nd rfl (Or.inr rfl) (pe_op op_add pe_int (pe_call (ok__law_taken T) (hr.mono (by decide)) rfl T.g__law_taken T.F__law_taken.kp T.b__law_taken .nil pass0 (pa_cons (pv 0) (pa_cons pe_int pa_nil)))))
      (pss_cons (ps_setLc (i := 6) (own := [("_law_one", 7)]) (g := gName 7) rfl sc__law_trick.nd rfl rfl (sw_true rfl rfl rfl (by decide +kernel)) (pi_range1 (by rfl) T.n_range (pa_cons (pv 5) pa_nil)) (blkOk_by (own := [("_law_one", 7)]) (N := ["_law_row", "_law_small", "_law_base", "_law_take", "_law_times", "_law_d", "_law_some", "_law_one"]) (sc := defScope s__law_trick) (by decide +kernel)) (fun _ _ _ _ _ => pg_name (i := 7) sc__law_trick.nd rfl (Or.inl rfl)) (fun _ _ _ _ _ => pts_one (pt_cmpR op_eq (pe_op op_modN (pe_op op_mul (pv 7) (pe_call (ok__law_power T) (hr.mono (by decide)) rfl T.g__law_power T.F__law_power.kp T.b__law_power .nil pass0 (pa_cons (pv 2) (pa_cons (pv 3) pa_nil)))) (pv 5)) pe_int (nomark _))) (fun _ _ _ _ _ => (pv 7)))
      (pss_one (ps_set (i := 4) sc__law_trick.nd rfl (Or.inl rfl) (pe_ifExp (pt_cmpR (op_neD hr.units) (pv 6) (pe_lst pa_nil) (nomark _)) (pe_op op_sub (pe_ix ix_list (pv 6) pe_int (fun _ _ => rfl)) (pe_op op_mul (pv 5) (pe_call (ok__law_taken T) (hr.mono (by decide)) rfl T.g__law_taken T.F__law_taken.kp T.b__law_taken .nil pass0 (pa_cons (pv 0) (pa_cons pe_int pa_nil))))) (pv 4)))))) pss_nil)
      (pss_one (ps_ret (pe_lst (pa_cons (pv 2) (pa_cons (pv 3) (pa_cons (pv 4) pa_nil)))))))))), ?_⟩
    -- the base
    refine ⟨fun σ H1 => ∃ b : Int, 2 ≤ b ∧ b ≤ 16 ∧ RowAt K H1 r a ns ∧ But r H H1 ∧ σ = [some (.ref r), some (.bl sm), some (.int b), none, none, none, none, none], ?_, ?_⟩
    · refine ⟨_, rfl, r, a, ns, _, rfl, by decide, by decide, R0, fun v H1 v0 v1 R1 B1 => ?_⟩
      refine ⟨_, _, rfl, rfl, by show 7 ≤ sizeLine; decide, fun p hp => ?_⟩
      refine ⟨_, rfl, menu (items := [10, 2, 3, 7, 8, 16, 2 + v]) (fun z => 2 ≤ z ∧ z ≤ 16) (by simp; omega) rfl R1 hp (fun z H2 hz R2 B2 _ => ?_) (by show (0 : Int) < 7; decide) (by show (7 : Int) ≤ 10 ^ 41; decide)⟩
      exact ⟨z, hz.1, hz.2, R2, B1.trans B2, rfl⟩
    rintro σ H1 ⟨b, b1, b2, R1, B1, rfl⟩
    -- the figures
    refine ⟨fun σ H2 => ∃ t : Int, 1 ≤ t ∧ t ≤ 2 ∧ (sm = true → b ≤ 5 ∨ t = 1) ∧ RowAt K H2 r a ns ∧ But r H H2 ∧ σ = [some (.ref r), some (.bl sm), some (.int b), some (.int t), none, none, none, none], ?_, ?_⟩
    · refine ⟨_, rfl, _, rfl, ?_⟩
      refine ite2 (fun g => ?_) (fun g => ?_)
      · refine ⟨_, rfl, _, _, rfl, rfl, _, rfl, ?_⟩
        refine ite2 (fun g2 => ?_) (fun g2 => ?_)
        · exact ⟨1, by decide, by decide, fun _ => .inr rfl, R1, B1, rfl⟩
        · refine ⟨_, rfl, r, a, ns, _, rfl, by decide, by decide, R1, fun v H2 v0 v1 R2 B2 => ?_⟩
          refine ⟨_, _, rfl, rfl, 1 + v, by omega, by omega, fun _ => .inl ?_, R2, B1.trans B2, rfl⟩
          simpa using g2
      · refine iteF ?_
        refine ⟨_, rfl, r, a, ns, _, rfl, by decide, by decide, R1, fun v H2 v0 v1 R2 B2 => ?_⟩
        exact ⟨_, _, rfl, rfl, 1 + v, by omega, by omega, fun z => absurd z g, R2, B1.trans B2, rfl⟩
    clear R1 B1
    rintro σ H1 ⟨t, t1, t2, hst, R1, B1, rfl⟩
    -- the multiplier
    refine ⟨fun σ H2 => ∃ m : Int, -100 ≤ m ∧ m ≤ 100 ∧ RowAt K H2 r a ns ∧ But r H H2 ∧ σ = [some (.ref r), some (.bl sm), some (.int b), some (.int t), some (.int m), none, none, none], ?_, ?_⟩
    · refine ⟨_, rfl, _, rfl, _, rfl, r, a, ns, _, rfl, by decide, by decide, R1, fun v H2 v0 v1 R2 B2 => ?_⟩
      refine ⟨_, _, rfl, rfl, _, rfl, r, a, ns, _, rfl, by decide, by decide, R2, fun v' H3 v0' v1' R3 B3 => ?_⟩
      refine ⟨_, _, rfl, rfl, by show 6 ≤ sizeLine; decide, fun p hp => ?_⟩
      refine ⟨_, rfl, menu (items := [1, -1, -2, 0, v - 10, v' - 100]) (fun z => -100 ≤ z ∧ z ≤ 100) (by simp; omega) rfl R3 hp (fun z H4 hz R4 B4 _ => ?_) (by show (0 : Int) < 6; decide) (by show (6 : Int) ≤ 10 ^ 41; decide)⟩
      exact ⟨z, hz.1, hz.2, R4, B1.trans (B2.trans (B3.trans B4)), rfl⟩
    clear R1 B1
    rintro σ H1 ⟨m, m1, m2, R1, B1, rfl⟩
    -- a multiplier that tells multiples
    refine ⟨fun σ H2 => ∃ (m : Int) (x y z : Option V), -100 ≤ m ∧ m ≤ 100 ∧ RowAt K H2 r a ns ∧ But r H H2 ∧ σ = [some (.ref r), some (.bl sm), some (.int b), some (.int t), some (.int m), x, y, z], ?_, ?_⟩
    · refine ⟨_, rfl, r, a, ns, _, rfl, by decide, by decide, R1, fun v H2 v0 v1 R2 B2 => ?_⟩
      refine ⟨rfl, _, rfl, ?_⟩
      refine ite2 (fun g => ?_) (fun g => ?_)
      · refine ⟨_, rfl, r, a, ns, _, rfl, by decide, by decide, R2, fun d' H3 d0 d1 R3 B3 => ?_⟩
        refine ⟨_, _, rfl, rfl, ?_⟩
        dsimp only
        generalize hd : 2 + d' = d
        refine ⟨_, rfl, d, rfl, by omega, by omega, fun D hD => ?_⟩
        have hDr := R3.ne hD
        refine lc_range (lo := 0) (n := d.toNat) (fun i H4 => ∃ acc : List Int, (∀ z ∈ acc, 0 ≤ z ∧ z < d) ∧ acc.length ≤ i ∧ H4 = upd H3 D (.lst (acc.map V.int))) ⟨[], by simp, Nat.le_refl _, rfl⟩ ?_ ?_
        · rintro i H4 hi ⟨acc, hacc, hlen, rfl⟩
          refine ⟨rfl, ?_⟩
          refine ⟨_, rfl, _, rfl, _, rfl, b, t, rfl, by omega, by omega, by omega, by omega, ?_⟩
          refine ⟨_, _, rfl, rfl, .inl ⟨by omega, by omega⟩, _, rfl, _, _, rfl, rfl, (show d ≠ 0 by omega), rfl, _, rfl, ?_⟩
          refine ite2 (fun g2 => ?_) (fun g2 => ?_)
          · refine ⟨_, rfl, _, upd_same, by rw [List.length_map]; exact small1000 (by omega), acc ++ [(0 : Int) + (i : Int)], ?_, by simp; omega, by rw [upd_upd, List.map_append]; rfl⟩
            intro z hz
            rcases List.mem_append.mp hz with hz | hz
            · exact hacc z hz
            · have ez : z = 0 + (i : Int) := by simpa using hz
              omega
          · exact ⟨acc, hacc, by omega, rfl⟩
        · rintro H4 ⟨acc, hacc, hlen, rfl⟩
          have R4 := R3.new (o := .lst (acc.map V.int)) hD
          have B4 := (B2.trans B3).new (o := .lst (acc.map V.int)) hD
          have eD : upd H3 D (.lst (acc.map V.int)) D = some (.lst (acc.map V.int)) := upd_same
          generalize upd H3 D (.lst (acc.map V.int)) = H4 at R4 B4 eD ⊢
          refine ⟨_, rfl, by show 0 ≤ sizeLine; decide, fun p hp => ?_⟩
          have npD : D ≠ p := ne_of_none eD hp
          refine ⟨_, _, dp_ints (SqL.of (by rw [upd_ne npD]; exact eD)), dp_ints (ns := []) (SqL.of upd_same), shaped_lints _, shaped_lints _, ?_⟩
          rw [eqv_ints]
          refine ⟨_, rfl, ?_⟩
          refine ite2 (fun g2 => ?_) (fun g2 => ?_)
          · have hne : acc ≠ [] := by simpa using g2
            obtain ⟨z, acc', rfl⟩ : ∃ z acc', acc = z :: acc' := by
              cases acc with
              | nil => exact absurd rfl hne
              | cons z acc' => exact ⟨z, acc', rfl⟩
            obtain ⟨z0, z1⟩ := hacc z List.mem_cons_self
            refine ⟨_, rfl, D, _, _, _, rfl, rfl, SqL.of (by rw [upd_ne npD]; exact eD), at_of (j := 0) rfl rfl, _, rfl, _, rfl, r, a, ns, _, rfl, by decide, by decide, R4.new hp, fun v3 H5 v30 v31 R5 B5 => ?_⟩
            refine ⟨_, _, rfl, rfl, .inl ⟨by omega, by omega⟩, _, _, rfl, rfl, ?_⟩
            refine ⟨z - d * v3, _, _, _, ?_, ?_, R5, (B1.trans (B4.new hp)).trans B5, rfl⟩
            · have q : d * v3 ≤ d * 1 := Int.mul_le_mul_of_nonneg_left (by omega) (by omega)
              omega
            · have q : 0 ≤ d * v3 := Int.mul_nonneg (by omega) v30
              omega
          · exact ⟨_, rfl, m, _, _, _, m1, m2, R4.new hp, B1.trans (B4.new hp), rfl⟩
      · exact ⟨m, none, none, none, m1, m2, R2, B1.trans B2, rfl⟩
    clear R1 B1 m1 m2
    rintro σ H1 ⟨m, x, y, z, m1, m2, R1, B1, rfl⟩
    refine ⟨_, rfl, _, rfl, _, rfl, by show 3 ≤ sizeLine; decide, fun q hq => ?_⟩
    exact k b t m q _ b1 b2 t1 t2 hst m1 m2 (R1.new hq) (B1.new hq) (B1.free (R1.ne hq) hq) upd_same (R1.ne hq)

/-! ### the number behind a trick -/
def behind (b t m n : Int) : Int := (n - n.fmod (blockOf b t)) / blockOf b t + m * n.fmod (blockOf b t)
def spBehind (K : PySem.W.Frag) : Sp := fun vs H Q _ => ∃ (q : Addr) (b t m n : Int), vs = [.ref q, .int n] ∧ SqL K H q [.int b, .int t, .int m] ∧ 2 ≤ b ∧ b ≤ 16 ∧ -100 ≤ m ∧ m ≤ 100 ∧ Q (.int (behind b t m n)) H
theorem ok__law_behind (T : Tx P K mg) : FnOk P w K mg base CX0 lv__law_behind T.a__law_behind T.d__law_behind ["_law_told_here", "_law_n"] (spBehind K) := by
  refine T.F__law_behind.ok sc__law_behind (fun vs H Q E h => ?_) (fun cdv A outer s H vs Q E hr h => ?_)
  · obtain ⟨q, b, t, m, n, rfl, _⟩ := h
    rfl
  · obtain ⟨q, b, t, m, n, rfl, hq, b1, b2, m1, m2, k⟩ := h
    obtain ⟨B1, B2⟩ := block_bd (t := t) b1 b2
    refine ⟨_, (pss_cons (ps_asg (pv 0) (pg_unl rfl (pgs_cons (pg_name (i := 2) sc__law_behind.nd rfl (Or.inl rfl)) (pgs_cons (pg_name (i := 3) sc__law_behind.nd rfl (Or.inl rfl)) (pgs_cons (pg_name (i := 4) sc__law_behind.nd rfl (Or.inl rfl)) pgs_nil)))))
      (Evl.pss_cut (ps_set (i := 5) sc__law_behind.nd rfl (Or.inl rfl) (pe_ifExp (pt_cmpR op_eq (pv 3) pe_int (nomark _)) (pv 2) (pe_op op_mul (pv 2) (pv 2))))
      (pss_cons (ps_set (i := 6) sc__law_behind.nd rfl (Or.inl rfl) (pe_op op_modN (pv 1) (pv 5)))
      (pss_one (ps_ret (pe_op op_add (pe_op op_fdivW (pe_op op_sub (pv 1) (pv 6)) (pv 5)) (pe_op op_mul (pv 4) (pv 6)))))))), ?_⟩
    refine ⟨_, rfl, q, _, rfl, hq, rfl, _, _, rfl, _, _, rfl, _, _, rfl, rfl, ?_⟩
    -- the block
    refine ⟨fun σ H1 => ∃ x : Option V, H1 = H ∧ σ = [some (.ref q), some (.int n), some (.int b), some (.int t), some (.int m), some (.int (blockOf b t)), x], ?_, ?_⟩
    · refine ⟨_, rfl, rfl, _, rfl, ?_⟩
      refine ite2 (fun c => ?_) (fun c => ?_)
      · have c1 : t = 1 := by simpa using c
        exact ⟨_, rfl, none, rfl, by unfold blockOf; rw [if_pos c1]; rfl⟩
      · have c1 : ¬ t = 1 := by simpa using c
        exact ⟨_, rfl, _, rfl, _, _, rfl, rfl, .inl ⟨by omega, by omega⟩, none, rfl, by unfold blockOf; rw [if_neg c1]; rfl⟩
    rintro σ H1 ⟨x, rfl, rfl⟩
    refine ⟨_, rfl, _, rfl, _, _, rfl, rfl, (show blockOf b t ≠ 0 by omega), ?_⟩
    exact ⟨_, rfl, _, rfl, _, _, rfl, rfl, _, rfl, _, _, rfl, rfl, wide_div (by omega) (b := 9) (by omega) (by decide) (by decide), _, rfl, _, rfl, _, _, rfl, rfl, .inl ⟨by omega, by omega⟩, _, _, rfl, rfl, k⟩

/-! ### the two ways to say what is behind a trick -/
theorem behind_made {b t m n : Int} (h : 2 ≤ blockOf b t) : behind b t m n = made b t m n := by
  unfold behind made
  congr 1
  rw [Int.fmod_eq_emod_of_nonneg n (by omega)]
  have e := Int.mul_ediv_add_emod n (blockOf b t)
  have e2 : n - n % blockOf b t = blockOf b t * (n / blockOf b t) := by omega
  rw [e2, Int.mul_ediv_cancel_left _ (by omega)]

/-! ### a drawn number -/
def spNumber (K : PySem.W.Frag) : Sp := fun vs H Q _ => ∃ (r a : Addr) (ns : List Int), vs = [.ref r] ∧ RowAt K H r a ns ∧ ∀ (v : Int) (H' : Hp), -(10 ^ 40) ≤ v → v ≤ 10 ^ 40 → RowAt K H' r a ns → But r H H' → Q (.int v) H'
theorem ok__law_number (T : Tx P K mg) : FnOk P w K mg base CX0 lv__law_number T.a__law_number T.d__law_number ["_law_row"] (spNumber K) := by
  refine T.F__law_number.ok sc__law_number (fun vs H Q E h => ?_) (fun cdv A outer s H vs Q E hr h => ?_)
  · obtain ⟨r, a, ns, rfl, _⟩ := h
    rfl
  · obtain ⟨r, a, ns, rfl, R0, k⟩ := h
    refine ⟨_, (Evl.pss_cut (ps_set (i := 1) sc__law_number.nd rfl (Or.inl rfl) (pe_ix ix_list (pe_lst (pa_cons pe_int (pa_cons pe_int (pa_cons (pe_op op_pow pe_int pe_int) (pa_cons (pe_op op_pow pe_int pe_int) pa_nil))))) (pe_call (ok__law_taken T) (hr.mono (by decide)) rfl T.g__law_taken T.F__law_taken.kp T.b__law_taken .nil pass0 (pa_cons (pv 0) (pa_cons pe_int pa_nil))) (fun _ _ => rfl)))
      (Evl.pss_cut (ps_set (i := 2) sc__law_number.nd rfl (Or.inl rfl) (pe_ifExp (pt_cmpR op_gt (pe_call (ok__law_taken T) (hr.mono (by decide)) rfl T.g__law_taken T.F__law_taken.kp T.b__law_taken .nil pass0 (pa_cons (pv 0) (pa_cons pe_int pa_nil))) pe_int (nomark _)) (pe_call (ok__law_taken T) (hr.mono (by decide)) rfl T.g__law_taken T.F__law_taken.kp T.b__law_taken .nil pass0 (pa_cons (pv 0) (pa_cons (pe_op op_add (pv 1) pe_int) pa_nil))) (pv 1)))
      (pss_one (ps_ret (pe_ifExp (pt_cmpR op_gt (pe_call (ok__law_taken T) (hr.mono (by decide)) rfl T.g__law_taken T.F__law_taken.kp T.b__law_taken .nil pass0 (pa_cons (pv 0) (pa_cons pe_int pa_nil))) pe_int (nomark _)) (pv 2) (pe_un un_neg (pv 2))))))), ?_⟩
    refine ⟨fun σ H1 => ∃ z : Int, 1 ≤ z ∧ z ≤ 10 ^ 40 ∧ RowAt K H1 r a ns ∧ But r H H1 ∧ σ = [some (.ref r), some (.int z), none], ?_, ?_⟩
    · refine ⟨_, _, rfl, rfl, ⟨by decide, by decide, by decide⟩, _, _, rfl, rfl, ⟨by decide, by decide, by decide⟩, by show 4 ≤ sizeLine; decide, fun p hp => ?_⟩
      refine ⟨_, rfl, menu (items := [9, 200, 10 ^ (6 : Int).toNat, 10 ^ (40 : Int).toNat]) (fun z => 1 ≤ z ∧ z ≤ 10 ^ 40) ?_ rfl R0 hp (fun z H2 hz R2 B2 _ => ?_) (by show (0 : Int) < 4; decide) (by show (4 : Int) ≤ 10 ^ 41; decide)⟩
      · intro z hz
        rcases List.mem_cons.mp hz with rfl | hz
        · decide
        rcases List.mem_cons.mp hz with rfl | hz
        · decide
        rcases List.mem_cons.mp hz with rfl | hz
        · decide
        rcases List.mem_cons.mp hz with rfl | hz
        · decide
        · cases hz
      · exact ⟨z, hz.1, hz.2, R2, B2, rfl⟩
    rintro σ H1 ⟨z, z1, z2, R1, B1, rfl⟩
    refine ⟨fun σ H2 => ∃ n : Int, 0 ≤ n ∧ n ≤ 10 ^ 40 ∧ RowAt K H2 r a ns ∧ But r H H2 ∧ σ = [some (.ref r), some (.int z), some (.int n)], ?_, ?_⟩
    · refine ⟨_, rfl, r, a, ns, _, rfl, by decide, by decide, R1, fun v H2 v0 v1 R2 B2 => ?_⟩
      refine ⟨_, _, rfl, rfl, _, rfl, ?_⟩
      refine ite2 (fun g => ?_) (fun g => ?_)
      · refine ⟨_, rfl, _, rfl, _, _, rfl, rfl, r, a, ns, _, rfl, by omega, by omega, R2, fun n H3 n0 n1 R3 B3 => ?_⟩
        exact ⟨n, n0, by omega, R3, B1.trans (B2.trans B3), rfl⟩
      · exact ⟨_, rfl, z, by omega, z2, R2, B1.trans B2, rfl⟩
    clear R1 B1
    rintro σ H1 ⟨n, n0, n1, R1, B1, rfl⟩
    refine ⟨_, rfl, r, a, ns, _, rfl, by decide, by decide, R1, fun v H2 v0 v1 R2 B2 => ?_⟩
    refine ⟨_, _, rfl, rfl, _, rfl, ?_⟩
    refine ite2 (fun g => ?_) (fun g => ?_)
    · exact ⟨_, rfl, k n H2 (by omega) n1 R2 (B1.trans B2)⟩
    · exact ⟨_, rfl, _, rfl, k (-n) H2 (by omega) (by omega) R2 (B1.trans B2)⟩

/-! ### drawn chains -/
/-- the values are lists of these parts -/
def Pls (N : Addr → Prop) (H : Hp) : List V → List Prt → Prop
  | [], [] => True
  | v :: vs, z :: l => (∃ p, v = .ref p ∧ N p ∧ H p = some (.lst [.int z.1, .int z.2.1, .int z.2.2]) ∧ (2 ≤ z.1 ∧ z.1 ≤ 16 ∧ 1 ≤ z.2.1 ∧ z.2.1 ≤ 2 ∧ -100 ≤ z.2.2 ∧ z.2.2 ≤ 100)) ∧ Pls N H vs l
  | _, _ => False
theorem Pls.of {N N' : Addr → Prop} {H H' : Hp} (e : ∀ p o, N p → H p = some o → N' p ∧ H' p = some o) : ∀ {vs : List V} {l : List Prt}, Pls N H vs l → Pls N' H' vs l
  | [], [], _ => trivial
  | _ :: _, _ :: _, ⟨⟨q, h1, hn, h2, b⟩, h3⟩ => ⟨⟨q, h1, (e _ _ hn h2).1, (e _ _ hn h2).2, b⟩, h3.of e⟩
  | [], _ :: _, h => h.elim
  | _ :: _, [], h => h.elim
theorem Pls.same {N : Addr → Prop} {H H' : Hp} {vs : List V} {l : List Prt} (h : Pls N H vs l) (S : Same H H') : Pls N H' vs l := h.of fun p o n e => ⟨n, S _ _ e⟩
theorem Pls.but {N : Addr → Prop} {H H' : Hp} {r : Addr} {vs : List V} {l : List Prt} (h : Pls N H vs l) (hN : ∀ p, N p → p ≠ r) (B : But r H H') : Pls N H' vs l := h.of fun p o n e => ⟨n, B _ _ e (hN p n)⟩
theorem Pls.len {N : Addr → Prop} {H : Hp} : ∀ {vs : List V} {l : List Prt}, Pls N H vs l → vs.length = l.length
  | [], [], _ => rfl
  | _ :: _, _ :: _, ⟨_, h3⟩ => congrArg Nat.succ h3.len
  | [], _ :: _, h => h.elim
  | _ :: _, [], h => h.elim
theorem Pls.at {N : Addr → Prop} {H : Hp} : ∀ {vs : List V} {l : List Prt}, Pls N H vs l → ∀ {i : Nat} {y : V}, vs[i]? = some y → ∃ p z, y = .ref p ∧ l[i]? = some z ∧ N p ∧ H p = some (.lst [.int z.1, .int z.2.1, .int z.2.2]) ∧ (2 ≤ z.1 ∧ z.1 ≤ 16 ∧ 1 ≤ z.2.1 ∧ z.2.1 ≤ 2 ∧ -100 ≤ z.2.2 ∧ z.2.2 ≤ 100)
  | [], [], _, i, y, h => by cases h
  | _ :: _, z :: _, ⟨⟨q, h1, h2⟩, _⟩, 0, y, h => by
    cases h
    exact ⟨q, z, h1, rfl, h2⟩
  | _ :: _, _ :: _, ⟨_, h3⟩, i + 1, y, h => h3.at (i := i) h
  | [], _ :: _, h, _, _, _ => h.elim
  | _ :: _, [], h, _, _, _ => h.elim
theorem Pls.snoc {N : Addr → Prop} {H : Hp} {q : Addr} {z : Prt} (hn : N q) (hq : H q = some (.lst [.int z.1, .int z.2.1, .int z.2.2])) (b : 2 ≤ z.1 ∧ z.1 ≤ 16 ∧ 1 ≤ z.2.1 ∧ z.2.1 ≤ 2 ∧ -100 ≤ z.2.2 ∧ z.2.2 ≤ 100) : ∀ {vs : List V} {l : List Prt}, Pls N H vs l → Pls N H (vs ++ [.ref q]) (l ++ [z])
  | [], [], _ => ⟨⟨q, rfl, hn, hq, b⟩, trivial⟩
  | _ :: _, _ :: _, ⟨h1, h3⟩ => ⟨h1, h3.snoc hn hq b⟩
  | [], _ :: _, h => h.elim
  | _ :: _, [], h => h.elim
theorem But.putF {r p : Addr} {H H1 : Hp} {o : HO} (b : But r H H1) (hp : H p = none) : But r H (upd H1 p o) := fun c o' e n => by
  rw [upd_ne (ne_of_none e hp)]
  exact b c o' e n

/-! ### drawn chains -/
def spLawChain (K : PySem.W.Frag) : Sp := fun vs H Q _ => ∃ (r a : Addr) (ns : List Int), vs = [.ref r] ∧ RowAt K H r a ns ∧
  ∀ (F : Addr) (ys : List V) (qs : List Prt) (H' : Hp), RowAt K H' r a ns → But r H H' → H F = none → F ≠ r → H' F = some (.lst ys) → Pls (fun p => p ≠ r) H' ys qs → 1 ≤ ys.length → ys.length ≤ 4 → wide qs ≤ 300 → Q (.ref F) H'
theorem ok__law_chain (T : Tx P K mg) : FnOk P w K mg base CX0 lv__law_chain T.a__law_chain T.d__law_chain ["_law_row"] (spLawChain K) := by
  refine T.F__law_chain.ok sc__law_chain (fun vs H Q E h => ?_) (fun cdv A outer s H vs Q E hr h => ?_)
  · obtain ⟨r, a, ns, rfl, _⟩ := h
    rfl
  · obtain ⟨r, a, ns, rfl, R0, k⟩ := h
    refine ⟨_, (pss_cons (ps_par (i := 1) (j := 2) rfl sc__law_chain.nd rfl rfl (by decide) rfl rfl (pa_cons (pe_lst pa_nil) (pa_cons pe_int pa_nil)) (by rfl))
      (pss_cons (ps_for PassesOwn.never rfl (pi_range1 (by rfl) T.n_range (pa_cons (pe_op op_add pe_int (pe_call (ok__law_taken T) (hr.mono (by decide)) rfl T.g__law_taken T.F__law_taken.kp T.b__law_taken .nil pass0 (pa_cons (pv 0) (pa_cons pe_int pa_nil)))) pa_nil)) (pg_name (i := 3) sc__law_chain.nd rfl (Or.inl rfl)) (Evl.pss_cut (ps_set (i := 4) sc__law_chain.nd rfl (Or.inl rfl) (pe_call (ok__law_trick T) (hr.mono (by decide)) rfl T.g__law_trick T.F__law_trick.kp T.b__law_trick .nil pass0 (pa_cons (pv 0) (pa_cons pe_bl pa_nil))))
      (Evl.pss_cut (ps_if (pt_cmpR op_eq (pe_call (ok__law_taken T) (hr.mono (by decide)) rfl T.g__law_taken T.F__law_taken.kp T.b__law_taken .nil pass0 (pa_cons (pv 0) (pa_cons pe_int pa_nil))) pe_int (nomark _)) (pss_one (ps_set (i := 4) sc__law_chain.nd rfl (Or.inl rfl) (pe_lst (pa_cons (pe_op op_add pe_int (pe_call (ok__law_taken T) (hr.mono (by decide)) rfl T.g__law_taken T.F__law_taken.kp T.b__law_taken .nil pass0 (pa_cons (pv 0) (pa_cons pe_int pa_nil)))) (pa_cons pe_int (pa_cons (pe_op op_sub (pe_call (ok__law_taken T) (hr.mono (by decide)) rfl T.g__law_taken T.F__law_taken.kp T.b__law_taken .nil pass0 (pa_cons (pv 0) (pa_cons pe_int pa_nil))) pe_int) pa_nil)))))) pss_nil)
      (pss_one (ps_if (pt_cmpR op_le (pe_op op_mul (pv 2) (pe_call (ok__law_power T) (hr.mono (by decide)) rfl T.g__law_power T.F__law_power.kp T.b__law_power .nil pass0 (pa_cons (pe_ix ix_list (pv 4) pe_int (fun _ _ => rfl)) (pa_cons (pe_ix ix_list (pv 4) pe_int (fun _ _ => rfl)) pa_nil)))) pe_int (nomark _)) (pss_cons (ps_set (i := 2) sc__law_chain.nd rfl (Or.inl rfl) (pe_op op_mul (pv 2) (pe_call (ok__law_power T) (hr.mono (by decide)) rfl T.g__law_power T.F__law_power.kp T.b__law_power .nil pass0 (pa_cons (pe_ix ix_list (pv 4) pe_int (fun _ _ => rfl)) (pa_cons (pe_ix ix_list (pv 4) pe_int (fun _ _ => rfl)) pa_nil)))))
      (pss_one (ps_expr (pe_bm PySem.F.plainAttrs_list PySem.F.slot_list_append PySem.F.type_list_append mt_append (pv 1) (pa_cons (pv 4) pa_nil))))) pss_nil)))))
      (pss_one (ps_ret (pv 1))))), ?_⟩
    refine ⟨by show 0 ≤ sizeLine; decide, fun F hF => ?_⟩
    have nFr := R0.ne hF
    refine ⟨_, _, rfl, ?_⟩
    refine ⟨_, rfl, r, a, ns, _, rfl, by decide, by decide, R0.new hF, fun v H1 v0 v1 R1 B1 => ?_⟩
    have hF1 := B1 _ _ upd_same nFr
    have B01 : But r H H1 := (Same.but (same_upd hF)).trans B1
    refine ⟨_, _, rfl, rfl, 1 + v, rfl, by omega, by omega, ?_⟩
    refine for_range (lo := 0) (n := (1 + v).toNat) (fun i σ H2 => ∃ (ys : List V) (qs : List Prt) (x3 x4 : Option V), RowAt K H2 r a ns ∧ But r H H2 ∧ H2 F = some (.lst ys) ∧ Pls (fun p => p ≠ r ∧ p ≠ F) H2 ys qs ∧ ys.length ≤ i ∧ (1 ≤ i → 1 ≤ ys.length) ∧ wide qs ≤ 300 ∧ σ = [some (.ref r), some (.ref F), some (.int (wide qs)), x3, x4]) ⟨[], [], none, none, R1, B01, hF1, trivial, Nat.le_refl _, fun z => absurd z (by decide), by decide, rfl⟩ ?_ ?_
    · rintro i σ H2 hi ⟨ys, qs, x3, x4, R2, B2, hF2, hP, l1, l2, hw, rfl⟩
      -- the parts
      refine ⟨fun σ H3 => ∃ (b t m : Int) (q : Addr), 2 ≤ b ∧ b ≤ 16 ∧ 1 ≤ t ∧ t ≤ 2 ∧ -100 ≤ m ∧ m ≤ 100 ∧ q ≠ r ∧ q ≠ F ∧ H3 q = some (.lst [.int b, .int t, .int m]) ∧ RowAt K H3 r a ns ∧ But r H H3 ∧ H3 F = some (.lst ys) ∧ Pls (fun p => p ≠ r ∧ p ≠ F) H3 ys qs ∧ σ = [some (.ref r), some (.ref F), some (.int (wide qs)), some (.int (0 + (i : Int))), some (.ref q)], ?_, ?_⟩
      · refine ⟨_, rfl, r, a, ns, true, rfl, R2, fun b t m q H3 b1 b2 t1 t2 _ m1 m2 R3 B3 hq0 hq nqr => ?_⟩
        have hF3 := B3 _ _ hF2 nFr
        have nqF : q ≠ F := fun z => by rw [z, hF2] at hq0; cases hq0
        exact ⟨b, t, m, q, b1, b2, t1, t2, m1, m2, nqr, nqF, hq, R3, B2.trans B3, hF3, hP.but (fun p n => n.1) B3, rfl⟩
      clear R2 B2 hF2 hP
      rintro σ H3 ⟨b, t, m, q, b1, b2, t1, t2, m1, m2, nqr, nqF, hq, R3, B3, hF3, hP, rfl⟩
      generalize some (V.int (0 + (i : Int))) = x3
      refine ⟨fun σ H3 => ∃ (b t m : Int) (q : Addr), 2 ≤ b ∧ b ≤ 16 ∧ 1 ≤ t ∧ t ≤ 2 ∧ -100 ≤ m ∧ m ≤ 100 ∧ q ≠ r ∧ q ≠ F ∧ H3 q = some (.lst [.int b, .int t, .int m]) ∧ RowAt K H3 r a ns ∧ But r H H3 ∧ H3 F = some (.lst ys) ∧ Pls (fun p => p ≠ r ∧ p ≠ F) H3 ys qs ∧ σ = [some (.ref r), some (.ref F), some (.int (wide qs)), x3, some (.ref q)], ?_, ?_⟩
      · refine ⟨_, rfl, r, a, ns, _, rfl, by decide, by decide, R3, fun u H4 u0 u1 R4 B4 => ?_⟩
        have hF4 := B4 _ _ hF3 nFr
        have hP4 := hP.but (fun p n => n.1) B4
        refine ⟨rfl, _, rfl, ?_⟩
        refine ite2 (fun g => ?_) (fun g => ?_)
        · refine ⟨_, rfl, r, a, ns, _, rfl, by decide, by decide, R4, fun w1 H5 p0 p1 R5 B5 => ?_⟩
          refine ⟨_, _, rfl, rfl, _, rfl, r, a, ns, _, rfl, by decide, by decide, R5, fun w2 H6 q0 q1 R6 B6 => ?_⟩
          have hF6 := B6 _ _ (B5 _ _ hF4 nFr) nFr
          have hP6 := (hP4.but (fun p n => n.1) B5).but (fun p n => n.1) B6
          refine ⟨_, _, rfl, rfl, by show 3 ≤ sizeLine; decide, fun q2 hq2 => ?_⟩
          exact ⟨2 + w1, 1, w2 - 4, q2, by omega, by omega, by decide, by decide, by omega, by omega, R6.ne hq2, (ne_of_none hF6 hq2).symm, upd_same, R6.new hq2, (B3.trans (B4.trans (B5.trans B6))).new hq2, same_upd hq2 _ _ hF6, hP6.same (same_upd hq2), rfl⟩
        · exact ⟨b, t, m, q, b1, b2, t1, t2, m1, m2, nqr, nqF, B4 _ _ hq nqr, R4, B3.trans B4, hF4, hP4, rfl⟩
      clear R3 B3 hF3 hP hq nqr nqF b1 b2 t1 t2 m1 m2
      clear b t m q H3
      rintro σ H3 ⟨b, t, m, q, b1, b2, t1, t2, m1, m2, nqr, nqF, hq, R3, B3, hF3, hP, rfl⟩
      have hbs : ∀ z ∈ qs, 2 ≤ blockOf z.1 z.2.1 := fun z hz => by
        obtain ⟨j, hj⟩ := List.mem_iff_getElem?.mp hz
        have lj := (List.getElem?_eq_some_iff.mp hj).1
        obtain ⟨p, z', _, hz', _, _, g1, g2, _⟩ := hP.at (i := j) (y := ys[j]'(by rw [hP.len]; exact lj)) (List.getElem?_eq_getElem _)
        rw [hj] at hz'
        cases hz'
        exact (block_bd g1 g2).1
      have w1 := wide_pos hbs
      have pw := pow_block (b := b) t1 t2
      obtain ⟨B1', B2'⟩ := block_bd (t := t) b1 b2
      refine ⟨_, rfl, _, rfl, q, _, _, _, rfl, rfl, SqL.of hq, rfl, _, rfl, q, _, _, _, rfl, rfl, SqL.of hq, rfl, b, t, rfl, by omega, by omega, by omega, by omega, _, _, rfl, rfl, .inl ⟨by omega, by omega⟩, _, _, rfl, rfl, _, rfl, ?_⟩
      rw [pw]
      refine ite2 (fun g => ?_) (fun g => ?_)
      · have g1 : wide qs * blockOf b t ≤ 300 := by simpa using g
        refine ⟨_, rfl, _, rfl, q, _, _, _, rfl, rfl, SqL.of hq, rfl, _, rfl, q, _, _, _, rfl, rfl, SqL.of hq, rfl, b, t, rfl, by omega, by omega, by omega, by omega, _, _, rfl, rfl, .inl ⟨by omega, by omega⟩, ?_⟩
        refine ⟨_, rfl, .inl ⟨rfl, _, SqL.of hF3⟩, _, rfl, F, _, _, rfl, rfl, hF3, small1000 (by omega), ?_⟩
        refine ⟨ys ++ [.ref q], qs ++ [(b, t, m)], _, _, R3.put hF3 nFr, B3.putF hF, upd_same, ?_, by simp; omega, fun _ => by simp, by rw [wide_snoc]; exact g1, by rw [wide_snoc, pw]; rfl⟩
        refine (hP.of fun p o n e => ⟨n, by rw [upd_ne n.2]; exact e⟩).snoc ⟨nqr, nqF⟩ (by rw [upd_ne nqF]; exact hq) ⟨b1, b2, t1, t2, m1, m2⟩
      · have g1 : ¬ wide qs * blockOf b t ≤ 300 := by simpa using g
        refine ⟨ys, qs, _, _, R3, B3, hF3, hP, by omega, fun _ => ?_, hw, rfl⟩
        rcases Nat.eq_zero_or_pos ys.length with e | e
        · exfalso
          have e2 : qs = [] := List.length_eq_zero_iff.mp (by rw [← hP.len]; exact e)
          rw [e2] at g1
          have e3 : wide ([] : List Prt) = 1 := rfl
          rw [e3] at g1
          omega
        · exact e
    · rintro σ H2 ⟨ys, qs, x3, x4, R2, B2, hF2, hP, l1, l2, hw, rfl⟩
      exact ⟨_, rfl, k F ys qs H2 R2 B2 hF nFr hF2 (hP.of fun p o n e => ⟨n.1, e⟩) (l2 (by omega)) (by omega) hw⟩

/-! ### their tricks -/
def spLawTricks (T : Tx P K mg) : Sp := fun vs H Q _ => ∃ (N : Addr → Prop) (F : Addr) (ys : List V) (qs : List Prt), vs = [.ref F] ∧ H F = some (.lst ys) ∧ Pls N H ys qs ∧ ys.length ≤ 100 ∧
  ∀ (D : Addr) (us : List V) (H' : Hp), Same H H' → H D = none → H' D = some (.lst us) → Trs T H' us qs → Q (.ref D) H'
theorem ok__law_tricks (T : Tx P K mg) : FnOk P w K mg base CX0 lv__law_tricks T.a__law_tricks T.d__law_tricks ["_law_told_here"] (spLawTricks T) := by
  refine T.F__law_tricks.ok sc__law_tricks (fun vs H Q E h => ?_) (fun cdv A outer s H vs Q E hr h => ?_)
  · obtain ⟨N, F, ys, qs, rfl, _⟩ := h
    rfl
  · obtain ⟨N, F, ys, qs, rfl, hF, hP, ln, k⟩ := h
    refine ⟨_, (pss_one (ps_ret (pe_lc (own := [("_law_base", 1), ("_law_take", 2), ("_law_times", 3)]) (tt := tYes) (g := gUnl K 3 (gCons (gName 1) (gCons (gName 2) (gCons (gName 3) gNil)))) rfl sc__law_tricks.nd (pi_list (pv 0)) (blkOk_by (own := [("_law_base", 1), ("_law_take", 2), ("_law_times", 3)]) (N := ["_law_told_here", "_law_base", "_law_take", "_law_times"]) (sc := defScope s__law_tricks) (by decide +kernel)) (fun _ _ _ _ _ => pg_unl rfl (pgs_cons (pg_name (i := 1) sc__law_tricks.nd rfl (Or.inl rfl)) (pgs_cons (pg_name (i := 2) sc__law_tricks.nd rfl (Or.inl rfl)) (pgs_cons (pg_name (i := 3) sc__law_tricks.nd rfl (Or.inl rfl)) pgs_nil)))) (fun _ _ _ _ _ => pts_nil) (fun _ _ _ _ _ => (pe_make T.mk_Trick (ok_Trick___init__ T) (hr.mono (by decide)) rfl T.g_Trick T.b_Trick___init__ .nil pass0 (pa_cons (pv 1) (pa_cons (pv 2) (pa_cons (pv 3) pa_nil)))))))), ?_⟩
    refine ⟨_, rfl, F, rfl, ⟨_, SqL.of hF⟩, fun D hD => ?_⟩
    refine lc_it walk_list (fun i H2 => Same H H2 ∧ ∃ us, H2 D = some (.lst us) ∧ Trs T H2 us (qs.take i)) ⟨same_upd hD, [], upd_same, trivial⟩ (fun i H2 _ ⟨S2, _⟩ => SqL.of (S2 _ _ hF)) ?_ ?_
    · rintro i y H2 H3 hi ⟨S2, us, hD2, hT⟩ ⟨rfl, hy⟩
      obtain ⟨p, z, rfl, hz, _, hp, b1, b2, t1, t2, m1, m2⟩ := (hP.same S2).at hy
      refine ⟨p, _, rfl, SqL.of hp, rfl, _, _, rfl, _, _, rfl, _, _, rfl, rfl, rfl, _, rfl, _, rfl, _, rfl, fun q dx nq nd nn => mk_trick nq nd b1 b2 t1 t2 m1 m2 fun H4 hQ S4 => ?_⟩
      have hD4 := S4 _ _ hD2
      have el : us.length = i := by
        rw [hT.len, List.length_take]
        have := hP.len
        omega
      refine ⟨us, hD4, small1000 (by omega), fun e o he => ?_, us ++ [.ref q], upd_same, ?_⟩
      · rw [upd_ne (ne_of_none he hD)]
        exact S4 _ _ (S2 _ _ he)
      · have kT : ∀ p b t m, TrickAt T H4 p b t m → TrickAt T (upd H4 D (.lst (us ++ [.ref q]))) p b t m := fun p b t m h => by
          obtain ⟨⟨dx', e⟩, rest⟩ := h
          refine ⟨⟨dx', ?_⟩, rest⟩
          rw [upd_ne (fun z => by rw [z, hD4] at e; cases e)]
          exact e
        rw [take_snoc hz]
        exact ((hT.same S4).of kT).snoc (kT _ _ _ _ hQ)
    · rintro H2 ⟨S2, us, hD2, hT⟩
      rw [hP.len, List.take_length] at hT
      exact k D us H2 S2 hD hD2 hT

end
end Rt
namespace L2
open PySem PySem.Spec PyProof.Rows
/-! ### two lists of the same objects -/
theorem refs_one : ∀ {xs : List V} {us vs : List Value}, (∀ x ∈ xs, ∃ a, x = V.ref a) → Vals xs us → Vals xs vs → us = vs
  | [], _, _, _, .nil, .nil => rfl
  | _ :: _, _, _, h, .cons r1 t1, .cons r2 t2 => by
    obtain ⟨a, rfl⟩ := h _ List.mem_cons_self
    cases r1
    cases r2
    rw [refs_one (fun x hx => h x (List.mem_cons_of_mem _ hx)) t1 t2]
def rNeS (K : PySem.W.Frag) : R2 := fun x y H Q => (∃ a b xs, x = .ref a ∧ y = .ref b ∧ SqL K H a xs ∧ SqL K H b xs ∧ (∀ x ∈ xs, ∃ c, x = V.ref c) ∧ Q (.bl false) H) ∨ rNeD K x y H Q
theorem op_neS {X : Cx} (hu : X.A.units + 64 < cLine) : OpR X (compareOp .NotEq) (rNeS X.K) := by
  intro pins s σ H x y v u Q I rx ry h
  rcases h with ⟨a, b, xs, rfl, rfl, h1, h2, hr, q⟩ | h
  · obtain ⟨its, rv, hl, _⟩ := I.list h1
    obtain ⟨its2, rv2, hl2, _⟩ := I.list h2
    cases (show v = Value.ref a from rx)
    cases (show u = Value.ref b from ry)
    obtain rfl := refs_one hr rv rv2
    refine SeqAt.RcNeAt.lists (e := fun _ => true) hl.isList hl2.isList rfl (by omega) (fun j j1 j2 => ?_) _ _ _ _ ⟨.bl false, H, I, ?_, q⟩
    · exact SeqAt.EqAt.same _
    · have e : (List.range its.toArray.size).all (fun _ => true) = true := by simp
      show RelV (V.bl false) (Value.bool (!(List.range its.toArray.size).all (fun _ => true)))
      rw [e]
      rfl
  · exact op_neD hu pins s σ H x y v u Q I rx ry h
theorem call_list_ofK {X : Cx} {K : PySem.W.Frag} (e : X.K = K) : CallR X (.type "list") (fun xs H Q => ∃ p ys, xs = [.ref p] ∧ (SqL K H p ys ∨ SqT K H p ys) ∧ ∀ l, H l = none → Q (.ref l) (upd H l (.lst ys))) := by
  subst e
  exact call_list_of
end L2
namespace Rt
open PySem L2 PySem.Spec PyProof.Rows
section
variable {P : Program} {w : World} {K : PySem.W.Frag} {mg : Str → Option Value} {base : Heap}
theorem canLay_ints : ∀ r : List Int, PyData.canLayAll0 (r.map PyData.int) = true
  | [] => by simp [PyData.canLayAll0]
  | x :: r => by simp [PyData.canLayAll0, PyData.canLay0, canLay_ints r]
theorem depth_ints : ∀ r : List Int, PyData.depthAll (r.map PyData.int) = 0
  | [] => by simp [PyData.depthAll]
  | x :: r => by simp [PyData.depthAll, PyData.depth, depth_ints r]
/-- the rings, as data -/
def ringsD (R : List (List Int)) : List PyData := R.map fun r => .tuple (r.map PyData.int)
/-- numbers, texts and tuples of numbers -/
def ItD (H : Hp) (v : V) (d : PyData) : Prop := (∃ i, v = .int i ∧ d = .int i) ∨ (∃ s, v = .str s ∧ PyData.strOk s = true ∧ d = .str s) ∨ ∃ (c : Addr) (is : List Int), v = .ref c ∧ H c = some (.tup (is.map V.int)) ∧ d = .tuple (is.map PyData.int)
def ItsD (H : Hp) : List V → List PyData → Prop
  | [], [] => True
  | v :: vs, d :: ds => ItD H v d ∧ ItsD H vs ds
  | _, _ => False
theorem ItD.of {H H2 : Hp} (S : ∀ c xs, H c = some (.tup xs) → H2 c = some (.tup xs)) {v : V} {d : PyData} : ItD H v d → ItD H2 v d
  | .inl h => .inl h
  | .inr (.inl h) => .inr (.inl h)
  | .inr (.inr ⟨c, is, e1, e2, e3⟩) => .inr (.inr ⟨c, is, e1, S _ _ e2, e3⟩)
theorem ItsD.of {H H2 : Hp} (S : ∀ c xs, H c = some (.tup xs) → H2 c = some (.tup xs)) : ∀ {vs : List V} {ds : List PyData}, ItsD H vs ds → ItsD H2 vs ds
  | [], [], _ => trivial
  | _ :: _, _ :: _, ⟨h, r⟩ => ⟨h.of S, r.of S⟩
  | [], _ :: _, h => h.elim
  | _ :: _, [], h => h.elim
theorem ItD.lay {H : Hp} {v : V} {d : PyData} : ItD H v d → d.canLay0 = true ∧ d.depth ≤ 1
  | .inl ⟨i, e1, e2⟩ => by subst e1 e2; exact ⟨by simp [PyData.canLay0], by simp [PyData.depth]⟩
  | .inr (.inl ⟨s, e1, e0, e2⟩) => by subst e1 e2; exact ⟨by simp [PyData.canLay0, e0], by simp [PyData.depth]⟩
  | .inr (.inr ⟨c, is, e1, e2, e3⟩) => by
    subst e1 e3
    exact ⟨by simp [PyData.canLay0, canLay_ints], by simp [PyData.depth, depth_ints]⟩
theorem ItsD.lay {H : Hp} : ∀ {vs : List V} {ds : List PyData}, ItsD H vs ds → PyData.canLayAll0 ds = true ∧ PyData.depthAll ds ≤ 1
  | [], [], _ => ⟨by simp [PyData.canLayAll0], by simp [PyData.depthAll]⟩
  | _ :: _, d :: ds, ⟨h, r⟩ => by
    obtain ⟨a2, a3⟩ := h.lay
    obtain ⟨b2, b3⟩ := r.lay
    exact ⟨by simp [PyData.canLayAll0, a2, b2], by simp only [PyData.depthAll]; omega⟩
  | [], _ :: _, h => h.elim
  | _ :: _, [], h => h.elim
theorem ItD.dp {H : Hp} {v : V} {d : PyData} : ItD H v d → Dp K H v d
  | .inl ⟨i, e1, e2⟩ => by subst e1 e2; exact .int i
  | .inr (.inl ⟨s, e1, e0, e2⟩) => by subst e1 e2; exact .str s
  | .inr (.inr ⟨c, is, e1, e2, e3⟩) => by
    subst e1 e3
    exact dp_tints (SqT.of e2)
theorem ItsD.dp {H : Hp} : ∀ {vs : List V} {ds : List PyData}, ItsD H vs ds → DpAll K H vs ds
  | [], [], _ => .nil
  | _ :: _, d :: ds, ⟨h, r⟩ => .cons h.dp r.dp
  | [], _ :: _, h => h.elim
  | _ :: _, [], h => h.elim
/-- lists of such -/
def LsD (N : Addr → Prop) (H : Hp) : List V → List (List PyData) → Prop
  | [], [] => True
  | v :: vs, d :: ds => (∃ c xs, v = .ref c ∧ N c ∧ H c = some (.lst xs) ∧ ItsD H xs d ∧ xs.length ≤ 120000) ∧ LsD N H vs ds
  | _, _ => False
theorem LsD.of {N N' : Addr → Prop} {H H2 : Hp} (S : ∀ c xs, H c = some (.tup xs) → H2 c = some (.tup xs)) (L : ∀ c xs, N c → H c = some (.lst xs) → N' c ∧ H2 c = some (.lst xs)) : ∀ {vs : List V} {ds : List (List PyData)}, LsD N H vs ds → LsD N' H2 vs ds
  | [], [], _ => trivial
  | _ :: _, _ :: _, ⟨⟨c, xs, e1, n, e2, h, l⟩, r⟩ => ⟨⟨c, xs, e1, (L _ _ n e2).1, (L _ _ n e2).2, h.of S, l⟩, r.of S L⟩
  | [], _ :: _, h => h.elim
  | _ :: _, [], h => h.elim
theorem LsD.same {N : Addr → Prop} {H H2 : Hp} (S : Same H H2) {vs : List V} {ds : List (List PyData)} (h : LsD N H vs ds) : LsD N H2 vs ds := h.of (fun _ _ e => S _ _ e) fun _ _ n e => ⟨n, S _ _ e⟩
theorem LsD.app {N : Addr → Prop} {H : Hp} : ∀ {vs ws : List V} {ds es : List (List PyData)}, LsD N H vs ds → LsD N H ws es → LsD N H (vs ++ ws) (ds ++ es)
  | [], _, [], _, _, h => h
  | _ :: _, _, _ :: _, _, ⟨h, r⟩, h2 => ⟨h, r.app h2⟩
  | [], _, _ :: _, _, h, _ => h.elim
  | _ :: _, _, [], _, h, _ => h.elim
theorem LsD.len {N : Addr → Prop} {H : Hp} : ∀ {vs : List V} {ds : List (List PyData)}, LsD N H vs ds → vs.length = ds.length
  | [], [], _ => rfl
  | _ :: _, _ :: _, ⟨_, r⟩ => congrArg Nat.succ r.len
  | [], _ :: _, h => h.elim
  | _ :: _, [], h => h.elim
theorem LsD.at {N : Addr → Prop} {H : Hp} : ∀ {vs : List V} {ds : List (List PyData)}, LsD N H vs ds → ∀ {i : Nat} {y : V}, vs[i]? = some y → ∃ c xs d, y = .ref c ∧ ds[i]? = some d ∧ N c ∧ H c = some (.lst xs) ∧ ItsD H xs d ∧ xs.length ≤ 120000
  | [], [], _, i, y, h => by cases h
  | _ :: _, d :: _, ⟨⟨c, xs, h1, h2⟩, _⟩, 0, y, h => by
    cases h
    exact ⟨c, xs, d, h1, rfl, h2⟩
  | _ :: _, _ :: _, ⟨_, h3⟩, i + 1, y, h => h3.at (i := i) h
  | [], _ :: _, h, _, _, _ => h.elim
  | _ :: _, [], h, _, _, _ => h.elim
theorem LsD.dp {N : Addr → Prop} {H : Hp} : ∀ {vs : List V} {ds : List (List PyData)}, LsD N H vs ds → DpAll K H vs (ds.map PyData.list)
  | [], [], _ => .nil
  | _ :: _, d :: ds, ⟨⟨c, xs, e1, n, e2, h, l⟩, r⟩ => by
    subst e1
    exact .cons (.lst (SqL.of e2) h.dp) r.dp
  | [], _ :: _, h => h.elim
  | _ :: _, [], h => h.elim
theorem LsD.lay {N : Addr → Prop} {H : Hp} : ∀ {vs : List V} {ds : List (List PyData)}, LsD N H vs ds → PyData.canLayAll0 (ds.map PyData.list) = true ∧ PyData.depthAll (ds.map PyData.list) ≤ 2
  | [], [], _ => ⟨by simp [PyData.canLayAll0], by simp [PyData.depthAll]⟩
  | _ :: _, d :: ds, ⟨⟨c, xs, e1, n, e2, h, l⟩, r⟩ => by
    obtain ⟨a2, a3⟩ := h.lay
    obtain ⟨b2, b3⟩ := r.lay
    exact ⟨by simp [PyData.canLayAll0, PyData.canLay0, a2, b2], by simp only [List.map_cons, PyData.depthAll, PyData.depth]; omega⟩
  | [], _ :: _, h => h.elim
  | _ :: _, [], h => h.elim
theorem LsD.shaped {N : Addr → Prop} {H : Hp} {vs : List V} {ds : List (List PyData)} (h : LsD N H vs ds) : SeqAt.shaped (.list (ds.map PyData.list)) = true ∧ PyData.eqv (.list (ds.map PyData.list)) (.list (ds.map PyData.list)) = true := by
  obtain ⟨b2, b3⟩ := h.lay
  have c : (PyData.list (ds.map PyData.list)).canLay0 = true := by simp [PyData.canLay0, b2]
  refine ⟨?_, SeqAt.eqv_refl _ c⟩
  show ((PyData.list (ds.map PyData.list)).canLay0 && decide ((PyData.list (ds.map PyData.list)).depth ≤ 64)) = true
  rw [Bool.and_eq_true]
  exact ⟨c, decide_eq_true (by simp only [PyData.depth]; omega)⟩
theorem its_ints {H : Hp} : ∀ ns : List Int, ItsD H (ns.map V.int) (ns.map PyData.int)
  | [] => trivial
  | n :: ns => ⟨.inl ⟨n, rfl, rfl⟩, its_ints ns⟩
theorem its_rings {H : Hp} : ∀ {ps : List Addr} {R : List (List Int)}, RsAt H ps R → ItsD H (ps.map V.ref) (ringsD R)
  | [], [], _ => trivial
  | p :: ps, r :: R, ⟨h1, h2⟩ => ⟨.inr (.inr ⟨p, r, rfl, h1, rfl⟩), its_rings h2⟩
  | [], _ :: _, h => h.elim
  | _ :: _, [], h => h.elim
def trisD (l : List (Int × Int × Int)) : List PyData := l.map fun z => .tuple [.int z.1, .int z.2.1, .int z.2.2]
theorem its_tris {H : Hp} : ∀ {vs : List V} {l : List Tri}, TrisAt H vs l → ItsD H vs (trisD l)
  | [], [], _ => trivial
  | _ :: _, z :: l, ⟨⟨p, e, h⟩, r⟩ => ⟨.inr (.inr ⟨p, [z.1, z.2.1, z.2.2], e, h, rfl⟩), its_tris r⟩
  | [], _ :: _, h => h.elim
  | _ :: _, [], h => h.elim
theorem ItsD.len {H : Hp} : ∀ {vs : List V} {ds : List PyData}, ItsD H vs ds → vs.length = ds.length
  | [], [], _ => rfl
  | _ :: _, _ :: _, ⟨_, r⟩ => congrArg Nat.succ r.len
  | [], _ :: _, h => h.elim
  | _ :: _, [], h => h.elim

/-! ### all that is told -/
def toldD (b t m n : Int) (qs : List Prt) (zs : List (Int × Int)) (R : List (List Int)) (ns : List Int) : List (List PyData) :=
  [ringsD R, (divL b t m (40 : Int).toNat).map PyData.int, (mulL b t 21 (21 : Int).toNat).map PyData.int, (okL b 4 (40 : Int).toNat).map PyData.int, ns.map PyData.int, (trailL b t m 5 n).map PyData.int, trisD (fit0 zs 15), [PyData.int (mkAll qs n)], [PyData.str (wordC (rpL qs 3 (wide qs * 3).toNat))]]
def spTold (T : Tx P K mg) : Sp := fun vs H Q _ => ∃ (p c g : Addr) (b t m n : Int) (ys us : List V) (qs : List Prt) (zs : List (Int × Int)), vs = [.ref p, .ref c, .int n, .ref g] ∧ TrickAt T H p b t m ∧ -(10 ^ 40) ≤ n ∧ n ≤ 10 ^ 40 ∧
  SqA H c ys ∧ Trs T H ys qs ∧ 1 ≤ ys.length ∧ ys.length ≤ 4 ∧ wide qs ≤ 300 ∧ SqA H g us ∧ PairsAt2 H us zs ∧ 1 ≤ us.length ∧ us.length ≤ 10 ∧ (∀ z ∈ zs, -(10 ^ 40) ≤ z.1 ∧ z.1 ≤ 10 ^ 40 ∧ -(10 ^ 40) ≤ z.2 ∧ z.2 ≤ 10 ^ 40) ∧
  ∀ (F : Addr) (ws : List V) (R : List (List Int)) (ns : List Int) (H' : Hp), Same H H' → H' F = some (.lst ws) → AllRings (made b t m) R → ns.Perm (ahL (blockOf b t) m n (blockOf b t).toNat) → ns.Pairwise (· ≤ ·) → LsD (fun x => H x = none ∧ x ≠ F) H' ws (toldD b t m n qs zs R ns) → Q (.ref F) H'
theorem new_of {H H2 : Hp} {D : Addr} (S : Same H H2) (h : H2 D = none) : H D = none := by
  cases e : H D with
  | none => rfl
  | some o => rw [S _ _ e] at h; cases h
theorem ok__law_told (T : Tx P K mg) : FnOk P w K mg base CX0 lv__law_told T.a__law_told T.d__law_told ["_law_trick_here", "_law_chain_here", "_law_n", "_law_pairs"] (spTold T) := by
  refine T.F__law_told.ok sc__law_told (fun vs H Q E h => ?_) (fun cdv A outer s H vs Q E hr h => ?_)
  · obtain ⟨p, c, g, b, t, m, n, ys, us, qs, zs, rfl, _⟩ := h
    rfl
  · obtain ⟨p, c, g, b, t, m, n, ys, us, qs, zs, rfl, tr, n1, n2, hc, ht, l1, l2, hw, hg, hp, l3, l4, bd, k⟩ := h
    obtain ⟨⟨dx, e⟩, b1, b2, t1, t2, m1, m2⟩ := id tr
    have nf : ∀ {v : V} {lo hi : Int} {G : Prop}, intIn v lo hi = true → intIn v lo hi = false → G := fun p q => Bool.noConfusion (p.symm.trans q)
    refine ⟨_, (Evl.pss_cut (ps_set (i := 4) sc__law_told.nd rfl (Or.inl rfl) (pe_lst (pa_cons (pe_call (ok_rings T) (hr.mono (by decide)) rfl T.g_rings T.F_rings.kp T.b_rings .nil passL (pa_cons (pv 0) pa_nil)) (pa_cons (pe_call (ok_divisors T) (hr.mono (by decide)) rfl T.g_divisors T.F_divisors.kp T.b_divisors .nil passL (pa_cons (pv 0) (pa_cons pe_int pa_nil))) (pa_cons (pe_call (ok_multipliers T) (hr.mono (by decide)) rfl T.g_multipliers T.F_multipliers.kp T.b_multipliers .nil passL (pa_cons (pe_prop (pv 0) T.cl_Trick T.p_Trick_base (ok_Trick_base T) (hr.mono (by decide)) T.b_Trick_base .nil pass0 rfl) (pa_cons (pe_prop (pv 0) T.cl_Trick T.p_Trick_take (ok_Trick_take T) (hr.mono (by decide)) T.b_Trick_take .nil pass0 rfl) (pa_cons pe_int pa_nil)))) (pa_cons (pe_call (ok_good_divisors T) (hr.mono (by decide)) rfl T.g_good_divisors T.F_good_divisors.kp T.b_good_divisors .nil passL (pa_cons (pe_prop (pv 0) T.cl_Trick T.p_Trick_base (ok_Trick_base T) (hr.mono (by decide)) T.b_Trick_base .nil pass0 rfl) (pa_cons pe_int (pa_cons pe_int pa_nil)))) pa_nil))))))
      (Evl.pss_cut (ps_set (i := 4) sc__law_told.nd rfl (Or.inl rfl) (pe_op op_cat (pv 4) (pe_lst (pa_cons (pe_call (ok_ahead T) (hr.mono (by decide)) rfl T.g_ahead T.F_ahead.kp T.b_ahead .nil passL (pa_cons (pv 0) (pa_cons (pv 2) pa_nil))) (pa_cons (pe_call (ok_trail T) (hr.mono (by decide)) rfl T.g_trail T.F_trail.kp T.b_trail .nil passL (pa_cons (pv 0) (pa_cons (pv 2) (pa_cons pe_int pa_nil)))) pa_nil)))))
      (pss_one (ps_ret (pe_op op_cat (pv 4) (pe_lst (pa_cons (pe_call (ok_fitting T) (hr.mono (by decide)) rfl T.g_fitting T.F_fitting.kp T.b_fitting .nil passL (pa_cons (pv 3) pa_nil)) (pa_cons (pe_lst (pa_cons (pe_call (ok_chained T) (hr.mono (by decide)) rfl T.g_chained T.F_chained.kp T.b_chained .nil passL (pa_cons (pv 1) (pa_cons (pv 2) pa_nil))) pa_nil)) (pa_cons (pe_lst (pa_cons (pe_call (ok_chain_tells T) (hr.mono (by decide)) rfl T.g_chain_tells T.F_chain_tells.kp T.b_chain_tells .nil passL (pa_cons (pv 1) (pa_cons pe_int pa_nil))) pa_nil)) pa_nil))))))))), ?_⟩
    refine ⟨fun σ H1 => ∃ (G : Addr) (ws : List V) (R : List (List Int)), Same H H1 ∧ H1 G = some (.lst ws) ∧ H G = none ∧ AllRings (made b t m) R ∧ LsD (fun x => H x = none) H1 ws ((toldD b t m n qs zs R []).take 4) ∧ σ = [some (.ref p), some (.ref c), some (.int n), some (.ref g), some (.ref G)], ?_, ?_⟩
    · refine ⟨_, rfl, p, b, t, m, rfl, tr, fun R ps D1 H1 hR f1 lR S1 h1 rs => ?_⟩
      refine ⟨_, rfl, p, b, t, m, .int 40, rfl, tr.same S1, .int _, nf (by decide), fun d q1 _ _ D2 f2 => ?_⟩
      cases q1
      have S2 := S1.trans (same_upd (o := .lst ((divL b t m (40 : Int).toNat).map V.int)) f2)
      have tr2 := tr.same S2
      obtain ⟨⟨dx2, e2⟩, _⟩ := id tr2
      refine ⟨_, rfl, p, dx2, _, rfl, e2, p, b, t, m, rfl, tr2, _, rfl, p, dx2, _, rfl, e2, p, b, t, m, rfl, tr2, .int b, .int t, .int 21, rfl, .int _, .int _, .int _, nf (intIn_of b1 b2), fun _ => nf (intIn_of t1 t2), fun _ _ => nf (by decide), fun b' t' d' q1 q2 q3 _ _ _ _ _ _ D3 f3 => ?_⟩
      cases q1; cases q2; cases q3
      have S3 := S2.trans (same_upd (o := .lst ((mulL b t 21 (21 : Int).toNat).map V.int)) f3)
      have tr3 := tr.same S3
      obtain ⟨⟨dx3, e3⟩, _⟩ := id tr3
      refine ⟨_, rfl, p, dx3, _, rfl, e3, p, b, t, m, rfl, tr3, .int b, .int 4, .int 40, rfl, .int _, .int _, .int _, nf (intIn_of b1 b2), fun _ => nf (by decide), fun _ _ => nf (by decide), fun b' n' m' q1 q2 q3 _ _ _ _ _ _ D4 H4 f4 S34 h4 => ?_⟩
      cases q1; cases q2; cases q3
      have S4 := S3.trans S34
      refine ⟨by show 4 ≤ sizeLine; decide, fun G hG => ⟨G, _, R, S4.trans (same_upd hG), upd_same, new_of S4 hG, hR, ?_, rfl⟩⟩
      have S5 := same_upd (o := .lst [.ref D1, .ref D2, .ref D3, .ref D4]) hG
      have h1' := S5 _ _ (S34 _ _ (same_upd (o := .lst ((mulL b t 21 (21 : Int).toNat).map V.int)) f3 _ _ (same_upd (o := .lst ((divL b t m (40 : Int).toNat).map V.int)) f2 _ _ h1)))
      have h2' := S5 _ _ (S34 _ _ (same_upd (o := .lst ((mulL b t 21 (21 : Int).toNat).map V.int)) f3 _ _ (upd_same (H := H1) (a := D2) (o := .lst ((divL b t m (40 : Int).toNat).map V.int)))))
      have h3' := S5 _ _ (S34 _ _ (upd_same (H := upd H1 D2 (.lst ((divL b t m (40 : Int).toNat).map V.int))) (a := D3) (o := .lst ((mulL b t 21 (21 : Int).toNat).map V.int))))
      have h4' := S5 _ _ h4
      have kt : ∀ c xs, H1 c = some (.tup xs) → upd H4 G (.lst [.ref D1, .ref D2, .ref D3, .ref D4]) c = some (.tup xs) := fun c xs e => S5 _ _ (S34 _ _ (same_upd f3 _ _ (same_upd f2 _ _ e)))
      have it := (its_rings rs).of kt
      refine ⟨⟨D1, _, rfl, f1, h1', it, ?_⟩, ⟨D2, _, rfl, new_of S1 f2, h2', its_ints _, ?_⟩, ⟨D3, _, rfl, new_of S2 f3, h3', its_ints _, ?_⟩, ⟨D4, _, rfl, new_of S3 f4, h4', its_ints _, ?_⟩, trivial⟩
      · rw [it.len]
        unfold ringsD
        rw [List.length_map]
        omega
      · have := divL_len b t m (40 : Int).toNat
        rw [List.length_map]
        exact Nat.le_trans this (by decide)
      · have := mulL_len b t 21 (21 : Int).toNat
        rw [List.length_map]
        exact Nat.le_trans this (by decide)
      · have := okL_len b 4 (40 : Int).toNat
        rw [List.length_map]
        exact Nat.le_trans this (by decide)
    rintro σ H1 ⟨G, ws, R, S1, hG, nG, hR, L1, rfl⟩
    have lw := L1.len
    have tr1 := tr.same S1
    obtain ⟨⟨dx1, e1⟩, _⟩ := id tr1
    refine ⟨fun σ H2 => ∃ (G : Addr) (ws : List V) (ns : List Int), Same H H2 ∧ H2 G = some (.lst ws) ∧ H G = none ∧ ns.Perm (ahL (blockOf b t) m n (blockOf b t).toNat) ∧ ns.Pairwise (· ≤ ·) ∧ LsD (fun x => H x = none) H2 ws ((toldD b t m n qs zs R ns).take 6) ∧ σ = [some (.ref p), some (.ref c), some (.int n), some (.ref g), some (.ref G)], ?_, ?_⟩
    · refine ⟨_, rfl, _, rfl, _, rfl, p, b, t, m, n, rfl, tr1, n1, n2, fun ns D5 H2 pn sn S12 f5 h5 => ⟨_, rfl, _, rfl, p, b, t, m, n, 5, rfl, tr1.same S12, n1, n2, by decide, fun D6 H3 f6 S23 h6 => ⟨by show 2 ≤ sizeLine; decide, fun q hq => ?_⟩⟩⟩
      have Sq := same_upd (o := .lst [.ref D5, .ref D6]) hq
      have S13 := S12.trans S23
      have hG3 := Sq _ _ (S13 _ _ hG)
      refine ⟨G, q, ws, _, rfl, rfl, hG3, upd_same, by rw [lw]; show 4 + 2 ≤ sizeLine; decide, fun G2 hG2 => ?_⟩
      have SG := same_upd (o := .lst (ws ++ [.ref D5, .ref D6])) hG2
      have Sall := (S13.trans Sq).trans SG
      refine ⟨G2, _, ns, S1.trans Sall, upd_same, new_of (S1.trans (S13.trans Sq)) hG2, pn, sn, ?_, rfl⟩
      refine LsD.app (ds := (toldD b t m n qs zs R []).take 4) (L1.same Sall) ⟨⟨D5, _, rfl, new_of S1 f5, SG _ _ (Sq _ _ (S23 _ _ h5)), its_ints _, ?_⟩, ⟨D6, _, rfl, new_of (S1.trans S12) f6, SG _ _ (Sq _ _ h6), its_ints _, ?_⟩, trivial⟩
      · have := ahL_len (blockOf b t) m n (blockOf b t).toNat
        have B2 := (block_bd (t := t) b1 b2).2
        rw [List.length_map, pn.length_eq]
        omega
      · rw [List.length_map, trail_len]
        decide
    clear S1 hG nG L1 lw tr1 e1
    clear dx1 G ws H1
    rintro σ H1 ⟨G, ws, ns, S1, hG, nG, pn, sn, L1, rfl⟩
    have lw := L1.len
    refine ⟨_, rfl, _, rfl, g, us, zs, rfl, hg.same S1, hp.same S1, l3, l4, bd, fun D7 vs7 H2 f7 S12 h7 t7 => ?_⟩
    have S2 := S1.trans S12
    refine ⟨_, rfl, _, rfl, .ref c, .int n, rfl, .int n, .inr (.inr ⟨c, ys, qs, rfl, hc.same S2, l1, l2, ht.same S2, fun z => nf (intIn_of n1 n2) z, fun i q _ _ H3 S23 => ?_⟩)⟩
    cases q
    refine ⟨by show 1 ≤ sizeLine; decide, fun D8 f8 => ?_⟩
    have S3 := S2.trans S23
    have U8 := same_upd (o := .lst [.int (mkAll qs n)]) f8
    have S4 := S3.trans U8
    refine ⟨_, rfl, .ref c, .int 3, rfl, .int _, .inr (.inr ⟨c, ys, qs, rfl, hc.same S4, l1, l2, ht.same S4, fun z => nf (by decide) z, fun _ z => absurd hw (by omega), fun _ _ H5 S45 dd q H6 S56 => ?_⟩)⟩
    cases q
    refine ⟨by show 1 ≤ sizeLine; decide, fun D9 f9 => ⟨by show 3 ≤ sizeLine; decide, fun q hq => ?_⟩⟩
    have S6 := S4.trans (S45.trans S56)
    have U9 := same_upd (o := .lst [.str (wordC (rpL qs 3 (wide qs * 3).toNat))]) f9
    have Uq := same_upd (o := .lst [.ref D7, .ref D8, .ref D9]) hq
    have S36 := U8.trans (S45.trans S56)
    have h7' := Uq _ _ (U9 _ _ (S36 _ _ (S23 _ _ h7)))
    have h8' := Uq _ _ (U9 _ _ (S56 _ _ (S45 _ _ (upd_same (H := H3) (a := D8) (o := .lst [.int (mkAll qs n)])))))
    have h9' := Uq _ _ (upd_same (H := H6) (a := D9) (o := .lst [.str (wordC (rpL qs 3 (wide qs * 3).toNat))]))
    have SA := (S12.trans (S23.trans S36)).trans (U9.trans Uq)
    refine ⟨G, q, ws, _, rfl, rfl, SA _ _ hG, upd_same, by rw [lw]; show 6 + 3 ≤ sizeLine; decide, fun F hF => ?_⟩
    have SF := same_upd (o := .lst (ws ++ [.ref D7, .ref D8, .ref D9])) hF
    have SB := SA.trans SF
    have ne : ∀ {x : Addr} {o : HO} {H : Hp}, Same H _ → H x = some o → x ≠ F := fun {x o H} S e => ne_of_none (S _ _ e) hF
    refine k F _ _ ns _ (S1.trans SB) upd_same hR pn sn ?_
    refine LsD.app (ds := (toldD b t m n qs zs _ ns).take 6) (LsD.of (N := fun x => H x = none) (N' := fun x => H x = none ∧ x ≠ F) (fun _ _ e => SB _ _ e) (fun x xs nx e => ⟨⟨nx, ne SA e⟩, SB _ _ e⟩) L1)
      ⟨⟨D7, _, rfl, ⟨new_of S1 f7, ne (Same.refl _) h7'⟩, SF _ _ h7', (its_tris t7).of fun _ _ e => SF _ _ (Uq _ _ (U9 _ _ (S36 _ _ (S23 _ _ e)))), ?_⟩, ⟨D8, _, rfl, ⟨new_of S3 f8, ne (Same.refl _) h8'⟩, SF _ _ h8', its_ints [_], by show 1 ≤ 120000; decide⟩, ⟨D9, _, rfl, ⟨new_of S6 f9, ne (Same.refl _) h9'⟩, SF _ _ h9', ⟨.inr (.inl ⟨_, rfl, ?_, rfl⟩), trivial⟩, by show 1 ≤ 120000; decide⟩, trivial⟩
    · have l7 := t7.len
      have f0 := fit0_len zs 15
      omega
    · unfold wordC
      split
      · decide +kernel
      · split <;> decide +kernel

/-! ### the law -/
/-- all that is drawn and handed in -/
structure Held (T : Tx P K mg) (N : Addr → Prop) (H : Hp) (q p C P hd gv t : Addr) (b m n : Int) (ys : List V) (qs : List Prt) (z : Int × Int) : Prop where
  hq : N q ∧ H q = some (.lst [.int b, .int 1, .int m])
  tr : TrickAt T H p b 1 m
  hC : N C ∧ H C = some (.lst ys)
  ht : Trs T H ys qs
  hP : N P ∧ H P = some (.lst [.ref t])
  hT : H t = some (.tup [.int z.1, .int z.2])
  hh : N hd ∧ H hd = some (.lst ys)
  hg : N gv ∧ H gv = some (.lst [.ref t])
theorem Held.of {T : Tx P K mg} {N N' : Addr → Prop} {H H' : Hp} {q p C P hd gv t : Addr} {b m n : Int} {ys : List V} {qs : List Prt} {z : Int × Int} (h : Held T N H q p C P hd gv t b m n ys qs z)
    (L : ∀ c xs, N c → H c = some (.lst xs) → N' c ∧ H' c = some (.lst xs)) (O : ∀ c o, H c = some o → (∀ xs, o ≠ .lst xs) → H' c = some o) : Held T N' H' q p C P hd gv t b m n ys qs z := by
  have tk : ∀ p b t m, TrickAt T H p b t m → TrickAt T H' p b t m := fun p b t m ⟨⟨dx, e⟩, w⟩ => ⟨⟨dx, O _ _ e fun _ z => nomatch z⟩, w⟩
  exact ⟨L _ _ h.hq.1 h.hq.2, tk _ _ _ _ h.tr, L _ _ h.hC.1 h.hC.2, h.ht.of tk, L _ _ h.hP.1 h.hP.2, O _ _ h.hT (fun _ z => (nomatch z)), L _ _ h.hh.1 h.hh.2, L _ _ h.hg.1 h.hg.2⟩
theorem Held.same {T : Tx P K mg} {N : Addr → Prop} {H H' : Hp} {q p C P hd gv t : Addr} {b m n : Int} {ys : List V} {qs : List Prt} {z : Int × Int} (h : Held T N H q p C P hd gv t b m n ys qs z) (S : Same H H') : Held T N H' q p C P hd gv t b m n ys qs z :=
  h.of (fun _ _ n e => ⟨n, S _ _ e⟩) fun _ _ e _ => S _ _ e
theorem take_one {α : Type} {l : List α} {i : Nat} {z : α} (h : l[i]? = some z) : l.take (i + 1) = l.take i ++ [z] := by
  rw [List.take_succ, h]
  rfl
theorem LsD.mem {N : Addr → Prop} {H : Hp} {vs : List V} {ds : List (List PyData)} (h : LsD N H vs ds) {c : Addr} (hc : V.ref c ∈ vs) : N c ∧ ∃ xs, H c = some (.lst xs) ∧ xs.length ≤ 120000 := by
  obtain ⟨i, hi⟩ := List.mem_iff_getElem?.mp hc
  obtain ⟨c', xs, d, e, _, n, e2, _, l⟩ := h.at hi
  cases e
  exact ⟨n, xs, e2, l⟩
/-- what stands while the lists that were told are changed -/
structure Stand (T : Tx P K mg) (ws : List V) (H : Hp) (F kp : Addr) (kws : List V) (DD : List (List PyData)) (q p C P hd gv t : Addr) (b m n : Int) (ys : List V) (qs : List Prt) (z : Int × Int) (i : Nat) : Prop where
  held : Held T (fun c => V.ref c ∉ ws) H q p C P hd gv t b m n ys qs z
  first : V.ref F ∉ ws ∧ H F = some (.lst ws)
  keep : V.ref kp ∉ ws ∧ H kp = some (.lst kws)
  kept : LsD (fun c => V.ref c ∉ ws) H kws DD
  mem : ∀ c, V.ref c ∈ ws → ∃ xs, H c = some (.lst xs) ∧ xs.length ≤ 120000 + i
theorem Stand.put {T : Tx P K mg} {ws : List V} {H : Hp} {F kp : Addr} {kws : List V} {DD : List (List PyData)} {q p C P hd gv t : Addr} {b m n : Int} {ys : List V} {qs : List Prt} {z : Int × Int} {i j : Nat} (h : Stand T ws H F kp kws DD q p C P hd gv t b m n ys qs z i) {c : Addr} {xs : List V} (hc : V.ref c ∈ ws) (hx : xs.length ≤ 120000 + j) (hij : i ≤ j) : Stand T ws (upd H c (.lst xs)) F kp kws DD q p C P hd gv t b m n ys qs z j := by
  obtain ⟨x0, e0, _⟩ := h.mem c hc
  have L : ∀ d zs, V.ref d ∉ ws → H d = some (.lst zs) → V.ref d ∉ ws ∧ upd H c (.lst xs) d = some (.lst zs) := fun d zs n e => ⟨n, by
    rw [upd_ne (fun g => n (by rw [g]; exact hc))]
    exact e⟩
  have O : ∀ d o, H d = some o → (∀ zs, o ≠ .lst zs) → upd H c (.lst xs) d = some o := fun d o e n => by
    rw [upd_ne (fun g => by rw [g, e0] at e; cases e; exact n _ rfl)]
    exact e
  refine ⟨h.held.of L O, L _ _ h.first.1 h.first.2, L _ _ h.keep.1 h.keep.2, h.kept.of (fun d zs e => O _ _ e fun _ g => nomatch g) L, fun d hd => ?_⟩
  by_cases g : d = c
  · subst g
    exact ⟨_, upd_same, hx⟩
  · obtain ⟨zs, e1, e2⟩ := h.mem d hd
    exact ⟨zs, by rw [upd_ne g]; exact e1, by omega⟩
theorem Stand.same {T : Tx P K mg} {ws : List V} {H H' : Hp} {F kp : Addr} {kws : List V} {DD : List (List PyData)} {q p C P hd gv t : Addr} {b m n : Int} {ys : List V} {qs : List Prt} {z : Int × Int} {i : Nat} (h : Stand T ws H F kp kws DD q p C P hd gv t b m n ys qs z i) (S : Same H H') : Stand T ws H' F kp kws DD q p C P hd gv t b m n ys qs z i :=
  ⟨h.held.same S, ⟨h.first.1, S _ _ h.first.2⟩, ⟨h.keep.1, S _ _ h.keep.2⟩, h.kept.same S, fun c hc => let ⟨xs, e, l⟩ := h.mem c hc; ⟨xs, S _ _ e, l⟩⟩
theorem Trs.refs {T : Tx P K mg} {H : Hp} {vs : List V} {l : List Prt} (h : Trs T H vs l) : ∀ x ∈ vs, ∃ c, x = V.ref c := fun x hx => by
  obtain ⟨i, hi⟩ := List.mem_iff_getElem?.mp hx
  obtain ⟨p, _, e, _⟩ := h.at hi
  exact ⟨p, e⟩
theorem same_told {N : Addr → Prop} {H : Hp} {F kp : Addr} {ws kws : List V} {DD : List (List PyData)} {N2 : Addr → Prop} {Q : VK} (L : LsD N H ws DD) (hF : H F = some (.lst ws)) (L2 : LsD N2 H kws DD) (hk : H kp = some (.lst kws)) (h : Q (.bl false) H) : rNeS K (.ref F) (.ref kp) H Q := by
  refine .inr ⟨_, _, .lst (SqL.of hF) L.dp, .lst (SqL.of hk) L2.dp, L.shaped.1, L.shaped.1, ?_⟩
  rw [L.shaped.2]
  exact h
theorem ReckAt.aside {T : Tx P K mg} {H H' : Hp} {p l1 l2 k1 k2 : Addr} {ns : List Int} {ts xs ys : List V} {qs : List Prt} (h : ReckAt T H p l1 l2 ns ts qs) (B : But2 k1 k2 H H') (e1 : H k1 = some (.lst xs)) (e2 : H k2 = some (.lst ys)) (n : l1 ≠ k1 ∧ l1 ≠ k2 ∧ l2 ≠ k1 ∧ l2 ≠ k2) : ReckAt T H' p l1 l2 ns ts qs :=
  let ⟨dx, e⟩ := h.ob
  ⟨⟨dx, B.rd e1 e2 e fun _ z => nomatch z⟩, B _ _ h.nums n.1 n.2.1, B _ _ h.tris n.2.2.1 n.2.2.2, h.trs.of fun _ _ _ _ w => w.but2 B e1 e2, h.ne, h.len⟩
theorem apart {H : Hp} {c d : Addr} {o : HO} (e : H c = some o) (f : H d = none) : c ≠ d := fun z => by
  rw [z, f] at e
  cases e
def sp_law (K : PySem.W.Frag) : Sp := fun vs H Q _ => ∃ (a : Addr) (ns : List Int), vs = [.ref a] ∧ Scr K H a (ns.map V.int) ∧ ns.length ≤ 63 ∧ ∀ H', Q (.bl true) H'
theorem ok_law (T : Tx P K mg) : FnOk P w K mg base CX0 lv_law T.a_law T.d_law ["_law_script"] (sp_law K) := by
  refine T.F_law.ok sc_law (fun vs H Q E h => ?_) (fun cdv A outer s H vs Q E hr h => ?_)
  · obtain ⟨a, ns, rfl, _⟩ := h
    rfl
  · obtain ⟨a, sc, rfl, hS, hlen, k⟩ := h
    refine ⟨_, (Evl.pss_cut (ps_set (i := 1) sc_law.nd rfl (Or.inl rfl) (pe_lst (pa_cons (pv 0) (pa_cons pe_int (pa_cons pe_int (pa_cons pe_int pa_nil))))))
      (Evl.pss_cut (ps_set (i := 2) sc_law.nd rfl (Or.inl rfl) (pe_lst (pa_cons (pe_op op_add pe_int (pe_call (ok__law_taken T) (hr.mono (by decide)) rfl T.g__law_taken T.F__law_taken.kp T.b__law_taken .nil pass0 (pa_cons (pv 1) (pa_cons pe_int pa_nil)))) (pa_cons pe_int (pa_cons (pe_op op_sub (pe_call (ok__law_taken T) (hr.mono (by decide)) rfl T.g__law_taken T.F__law_taken.kp T.b__law_taken .nil pass0 (pa_cons (pv 1) (pa_cons pe_int pa_nil))) pe_int) pa_nil)))))
      (Evl.pss_cut (ps_par (i := 3) (j := 4) rfl sc_law.nd rfl rfl (by decide) rfl rfl (pa_cons (pe_make T.mk_Trick (ok_Trick___init__ T) (hr.mono (by decide)) rfl T.g_Trick T.b_Trick___init__ .nil pass0 (pa_cons (pe_ix ix_list (pv 2) pe_int (fun _ _ => rfl)) (pa_cons (pe_ix ix_list (pv 2) pe_int (fun _ _ => rfl)) (pa_cons (pe_ix ix_list (pv 2) pe_int (fun _ _ => rfl)) pa_nil)))) (pa_cons (pe_call (ok__law_number T) (hr.mono (by decide)) rfl T.g__law_number T.F__law_number.kp T.b__law_number .nil pass0 (pa_cons (pv 1) pa_nil)) pa_nil)) (by rfl))
      (Evl.pss_cut (ps_set (i := 5) sc_law.nd rfl (Or.inl rfl) (pe_call (ok__law_tricks T) (hr.mono (by decide)) rfl T.g__law_tricks T.F__law_tricks.kp T.b__law_tricks .nil pass0 (pa_cons (pe_call (ok__law_chain T) (hr.mono (by decide)) rfl T.g__law_chain T.F__law_chain.kp T.b__law_chain .nil pass0 (pa_cons (pv 1) pa_nil)) pa_nil)))
      (Evl.pss_cut (ps_set (i := 6) sc_law.nd rfl (Or.inl rfl) (pe_ifExp (pt_cmpR op_le (pe_callB call_abs (by rfl) T.n_abs (by decide +kernel) (pa_cons (pe_call (ok__law_behind T) (hr.mono (by decide)) rfl T.g__law_behind T.F__law_behind.kp T.b__law_behind .nil pass0 (pa_cons (pv 2) (pa_cons (pv 4) pa_nil))) pa_nil)) (pe_op op_pow pe_int pe_int) (nomark _)) (pe_lst (pa_cons (pe_tup (pa_cons (pv 4) (pa_cons (pe_call (ok__law_behind T) (hr.mono (by decide)) rfl T.g__law_behind T.F__law_behind.kp T.b__law_behind .nil pass0 (pa_cons (pv 2) (pa_cons (pv 4) pa_nil))) pa_nil))) pa_nil)) (pe_lst (pa_cons (pe_tup (pa_cons pe_int (pa_cons pe_int pa_nil))) pa_nil))))
      (Evl.pss_cut (ps_par (i := 7) (j := 8) rfl sc_law.nd rfl rfl (by decide) rfl rfl (pa_cons (pe_callTy (call_list_ofK (K := K) rfl) (by rfl) T.n_list (by decide +kernel) (pa_cons (pv 5) pa_nil)) (pa_cons (pe_callTy (call_list_ofK (K := K) rfl) (by rfl) T.n_list (by decide +kernel) (pa_cons (pv 6) pa_nil)) pa_nil)) (by rfl))
      (Evl.pss_cut (ps_set (i := 9) sc_law.nd rfl (Or.inl rfl) (pe_call (ok__law_told T) (hr.mono (by decide)) rfl T.g__law_told T.F__law_told.kp T.b__law_told .nil pass0 (pa_cons (pv 3) (pa_cons (pv 7) (pa_cons (pv 4) (pa_cons (pv 8) pa_nil))))))
      (Evl.pss_cut (ps_setLc (i := 10) (own := [("_law_one", 11)]) (g := gName 11) (tt := tYes) rfl sc_law.nd rfl rfl (sw_true rfl rfl rfl (by decide +kernel)) (pi_list (pv 9)) (blkOk_by (own := [("_law_one", 11)]) (N := ["_law_script", "_law_line", "_law_told_here", "_law_trick_here", "_law_n", "_law_chain_here", "_law_pairs", "_law_handed", "_law_given", "_law_first", "_law_kept", "_law_one", "_law_reckoner", "_law_mate", "_law_twin"]) (sc := defScope s_law) (by decide +kernel)) (fun _ _ _ _ _ => pg_name (i := 11) sc_law.nd rfl (Or.inl rfl)) (fun _ _ _ _ _ => pts_nil) (fun _ _ _ _ _ => (pe_callTy (call_list_ofK (K := K) rfl) (by rfl) T.n_list (by decide +kernel) (pa_cons (pv 11) pa_nil))))
      (Evl.pss_cut (ps_for PassesOwn.never rfl (pi_list (pv 9)) (pg_name (i := 11) sc_law.nd rfl (Or.inl rfl)) (pss_cons (ps_expr (pe_bm PySem.F.plainAttrs_list PySem.F.slot_list_append PySem.F.type_list_append mt_append (pv 11) (pa_cons pe_str pa_nil)))
      (pss_one (ps_expr (pe_bm0 PySem.F.plainAttrs_list PySem.F.slot_list_reverse PySem.F.type_list_reverse mt_reverse (pv 11))))))
      (Evl.pss_cut (ps_if (PW.pt (pw_or (pt_cmpR (op_neS hr.units) (pe_call (ok__law_told T) (hr.mono (by decide)) rfl T.g__law_told T.F__law_told.kp T.b__law_told .nil pass0 (pa_cons (pv 3) (pa_cons (pv 7) (pa_cons (pv 4) (pa_cons (pv 8) pa_nil))))) (pv 10) (nomark _)) (pw_or (pt_cmpR (op_neS hr.units) (pv 7) (pv 5) (nomark _)) (pw_or1 (pt_cmpR (op_neS hr.units) (pv 8) (pv 6) (nomark _)))))) (pss_one (ps_ret pe_bl)) pss_nil)
      (Evl.pss_cut (ps_if (pt_cmpR (op_neS hr.units) (pe_call (ok__law_told T) (hr.mono (by decide)) rfl T.g__law_told T.F__law_told.kp T.b__law_told .nil pass0 (pa_cons (pe_make T.mk_Trick (ok_Trick___init__ T) (hr.mono (by decide)) rfl T.g_Trick T.b_Trick___init__ .nil pass0 (pa_cons (pe_ix ix_list (pv 2) pe_int (fun _ _ => rfl)) (pa_cons (pe_ix ix_list (pv 2) pe_int (fun _ _ => rfl)) (pa_cons (pe_ix ix_list (pv 2) pe_int (fun _ _ => rfl)) pa_nil)))) (pa_cons (pe_callTy call_tuple_of (by rfl) T.n_tuple (by decide +kernel) (pa_cons (pv 5) pa_nil)) (pa_cons (pv 4) (pa_cons (pe_callTy call_tuple_of (by rfl) T.n_tuple (by decide +kernel) (pa_cons (pv 6) pa_nil)) pa_nil))))) (pv 10) (nomark _)) (pss_one (ps_ret pe_bl)) pss_nil)
      (Evl.pss_cut (ps_par (i := 12) (j := 13) rfl sc_law.nd rfl rfl (by decide) rfl rfl (pa_cons (pe_make T.mk_Reckoner (ok_Reckoner___init__ T) (hr.mono (by decide)) rfl T.g_Reckoner T.b_Reckoner___init__ .nil passL (pa_cons (pv 4) pa_nil)) (pa_cons (pe_make T.mk_Reckoner (ok_Reckoner___init__ T) (hr.mono (by decide)) rfl T.g_Reckoner T.b_Reckoner___init__ .nil passL (pa_cons (pv 4) pa_nil)) pa_nil)) (by rfl))
      (Evl.pss_cut (ps_expr (pe_meth (pv 12) T.cl_Reckoner T.m_Reckoner_step (ok_Reckoner_step T) (hr.mono (by decide)) T.b_Reckoner_step .nil passL (pa_cons (pv 3) pa_nil)))
      (Evl.pss_cut (ps_set (i := 14) sc_law.nd rfl (Or.inl rfl) (pe_meth0 (pv 12) T.cl_Reckoner T.m_Reckoner_copy (ok_Reckoner_copy T) (hr.mono (by decide)) T.b_Reckoner_copy .nil pass0))
      (Evl.pss_cut (ps_if (PW.pt (pw_or (pt_not (pt_val (pe_meth0 (pv 14) T.cl_Reckoner T.m_Reckoner_undo (ok_Reckoner_undo T) (hr.mono (by decide)) T.b_Reckoner_undo .nil pass0))) (pw_or (pt_cmpR op_ne (pe_callB (call_lenO (ok_Reckoner___len__ T) (hr.mono (by decide)) T.m_Reckoner___len__.at_ T.m_Reckoner___len__.fn T.b_Reckoner___len__ pass0) (by rfl) T.n_len (by decide +kernel) (pa_cons (pv 12) pa_nil)) pe_int (nomark _)) (pw_or (pt_cmpR op_ne (pe_callB (call_lenO (ok_Reckoner___len__ T) (hr.mono (by decide)) T.m_Reckoner___len__.at_ T.m_Reckoner___len__.fn T.b_Reckoner___len__ pass0) (by rfl) T.n_len (by decide +kernel) (pa_cons (pv 13) pa_nil)) pe_int (nomark _)) (pw_or (pt_cmpR op_ne (pe_callB (call_lenO (ok_Reckoner___len__ T) (hr.mono (by decide)) T.m_Reckoner___len__.at_ T.m_Reckoner___len__.fn T.b_Reckoner___len__ pass0) (by rfl) T.n_len (by decide +kernel) (pa_cons (pv 14) pa_nil)) pe_int (nomark _)) (pw_or1 (pt_val (pe_meth0 (pv 13) T.cl_Reckoner T.m_Reckoner_undo (ok_Reckoner_undo T) (hr.mono (by decide)) T.b_Reckoner_undo .nil pass0)))))))) (pss_one (ps_ret pe_bl)) pss_nil)
      (pss_one (ps_ret (pe_and (pe_cmpR op_eq (pe_prop (pv 12) T.cl_Reckoner T.p_Reckoner_now (ok_Reckoner_now T) (hr.mono (by decide)) T.b_Reckoner_now .nil pass0 rfl) (pe_call (ok__law_behind T) (hr.mono (by decide)) rfl T.g__law_behind T.F__law_behind.kp T.b__law_behind .nil pass0 (pa_cons (pv 2) (pa_cons (pv 4) pa_nil))) (nomark _)) (pe_and (pe_cmpR op_eq (pe_prop (pv 14) T.cl_Reckoner T.p_Reckoner_now (ok_Reckoner_now T) (hr.mono (by decide)) T.b_Reckoner_now .nil pass0 rfl) (pv 4) (nomark _)) (pe_and (pe_cmpR op_eq (pe_prop (pv 13) T.cl_Reckoner T.p_Reckoner_now (ok_Reckoner_now T) (hr.mono (by decide)) T.b_Reckoner_now .nil pass0 rfl) (pv 4) (nomark _)) (pe_one (pe_cmpR op_eq (pe_prop (pv 3) T.cl_Trick T.p_Trick_times (ok_Trick_times T) (hr.mono (by decide)) T.b_Trick_times .nil pass0 rfl) (pe_ix ix_list (pv 2) pe_int (fun _ _ => rfl)) (nomark _))))))))))))))))))))))), ?_⟩
    refine ⟨fun σ H1 => ∃ r, RowAt K H1 r a sc ∧ σ = [some (.ref a), some (.ref r), none, none, none, none, none, none, none, none, none, none, none, none, none], ?_, ?_⟩
    · exact ⟨_, rfl, by show 4 ≤ sizeLine; decide, fun r hr0 => ⟨r, RowAt.start hr0 hS hlen (by decide) (by decide), rfl⟩⟩
    clear hS
    rintro σ H1 ⟨r, R1, rfl⟩
    refine ⟨fun σ H2 => ∃ (q : Addr) (b m : Int), 2 ≤ b ∧ b ≤ 16 ∧ -100 ≤ m ∧ m ≤ 100 ∧ q ≠ r ∧ H2 q = some (.lst [.int b, .int 1, .int m]) ∧ RowAt K H2 r a sc ∧ σ = [some (.ref a), some (.ref r), some (.ref q), none, none, none, none, none, none, none, none, none, none, none, none], ?_, ?_⟩
    · refine ⟨_, rfl, r, a, sc, _, rfl, by decide, by decide, R1, fun w1 H5 p0 p1 R5 B5 => ⟨_, _, rfl, rfl, _, rfl, r, a, sc, _, rfl, by decide, by decide, R5, fun w2 H6 q0 q1 R6 B6 => ⟨_, _, rfl, rfl, by show 3 ≤ sizeLine; decide, fun q2 hq2 => ?_⟩⟩⟩
      exact ⟨q2, 2 + w1, w2 - 4, by omega, by omega, by omega, by omega, R6.ne hq2, upd_same, R6.new hq2, rfl⟩
    clear R1
    rintro σ H2 ⟨q, b, m, b1, b2, m1, m2, nqr, hq, R2, rfl⟩
    refine ⟨fun σ H3 => ∃ (p : Addr) (n : Int), -(10 ^ 40) ≤ n ∧ n ≤ 10 ^ 40 ∧ TrickAt T H3 p b 1 m ∧ H3 q = some (.lst [.int b, .int 1, .int m]) ∧ RowAt K H3 r a sc ∧ σ = [some (.ref a), some (.ref r), some (.ref q), some (.ref p), some (.int n), none, none, none, none, none, none, none, none, none, none], ?_, ?_⟩
    · refine ⟨_, rfl, q, _, _, _, rfl, rfl, SqL.of hq, rfl, _, rfl, q, _, _, _, rfl, rfl, SqL.of hq, rfl, _, rfl, q, _, _, _, rfl, rfl, SqL.of hq, rfl, fun p dx np nx nn => mk_trick np nx b1 b2 (by decide) (by decide) m1 m2 fun H5 hT S5 => ?_⟩
      refine ⟨_, rfl, r, a, sc, rfl, R2.same S5, fun n H6 n1 n2 R6 B6 => ⟨_, _, rfl, p, n, n1, n2, ?_, B6 _ _ (S5 _ _ hq) nqr, R6, rfl⟩⟩
      obtain ⟨yr, er⟩ := (R2.same S5).lst
      obtain ⟨⟨dx', e'⟩, w'⟩ := hT
      exact ⟨⟨dx', B6 _ _ e' (ne_of e' er (by intro z; cases z))⟩, w'⟩
    clear R2 hq
    rintro σ H3 ⟨p, n, n1, n2, tr, hq, R3, rfl⟩
    refine ⟨fun σ H4 => ∃ (C : Addr) (ys : List V) (qs : List Prt), H4 C = some (.lst ys) ∧ Trs T H4 ys qs ∧ 1 ≤ ys.length ∧ ys.length ≤ 4 ∧ wide qs ≤ 300 ∧ TrickAt T H4 p b 1 m ∧ H4 q = some (.lst [.int b, .int 1, .int m]) ∧ σ = [some (.ref a), some (.ref r), some (.ref q), some (.ref p), some (.int n), some (.ref C), none, none, none, none, none, none, none, none, none], ?_, ?_⟩
    · refine ⟨_, rfl, r, a, sc, rfl, R3, fun F ys qs H4 R4 B4 hF0 nFr hF hP l1 l2 hw => ?_⟩
      refine ⟨_, F, ys, qs, rfl, hF, hP, by omega, fun D us H5 S5 hD0 hD hT => ⟨D, us, qs, hD, hT, ?_, ?_, hw, ?_, S5 _ _ (B4 _ _ hq nqr), rfl⟩⟩
      · rw [hT.len, ← hP.len]; exact l1
      · rw [hT.len, ← hP.len]; exact l2
      · obtain ⟨yr, er⟩ := R3.lst
        obtain ⟨⟨dx', e'⟩, w'⟩ := tr
        exact ⟨⟨dx', S5 _ _ (B4 _ _ e' (ne_of e' er (by intro z; cases z)))⟩, w'⟩
    clear R3 hq tr nqr
    rintro σ H4 ⟨C, ys, qs, hC, ht, l1, l2, hw, tr, hq, rfl⟩
    refine ⟨fun σ H5 => ∃ (P t : Addr) (z : Int × Int), H5 P = some (.lst [.ref t]) ∧ H5 t = some (.tup [.int z.1, .int z.2]) ∧ (-(10 ^ 40) ≤ z.1 ∧ z.1 ≤ 10 ^ 40 ∧ -(10 ^ 40) ≤ z.2 ∧ z.2 ≤ 10 ^ 40) ∧ Same H4 H5 ∧ σ = [some (.ref a), some (.ref r), some (.ref q), some (.ref p), some (.int n), some (.ref C), some (.ref P), none, none, none, none, none, none, none, none], ?_, ?_⟩
    · refine ⟨_, rfl, _, rfl, q, b, 1, m, n, rfl, SqL.of hq, b1, b2, m1, m2, _, rfl, _, _, rfl, rfl, ⟨by decide, by decide, by decide⟩, _, _, rfl, rfl, _, rfl, ?_⟩
      refine ite2 (fun g => ?_) (fun g => ?_)
      · have g1 : (if behind b 1 m n < 0 then -behind b 1 m n else behind b 1 m n) ≤ 10 ^ 40 := by simpa using g
        refine ⟨_, rfl, _, rfl, _, rfl, q, b, 1, m, n, rfl, SqL.of hq, b1, b2, m1, m2, by show 2 ≤ sizeLine; decide, fun t ht' => ⟨by show 1 ≤ sizeLine; decide, fun P hP => ?_⟩⟩
        refine ⟨P, t, (n, behind b 1 m n), upd_same, same_upd hP _ _ upd_same, ⟨n1, n2, ?_, ?_⟩, (same_upd ht').trans (same_upd hP), rfl⟩
        · split at g1 <;> omega
        · split at g1 <;> omega
      · exact ⟨by show 2 ≤ sizeLine; decide, fun t ht' => ⟨by show 1 ≤ sizeLine; decide, fun P hP => ⟨P, t, (7, 7), upd_same, same_upd hP _ _ upd_same, by decide, (same_upd ht').trans (same_upd hP), rfl⟩⟩⟩
    rintro σ H5 ⟨P, t, z, hP, hT, bd, S5, rfl⟩
    refine ⟨fun σ H6 => ∃ (hd gv : Addr), Held T (fun _ => True) H6 q p C P hd gv t b m n ys qs z ∧ σ = [some (.ref a), some (.ref r), some (.ref q), some (.ref p), some (.int n), some (.ref C), some (.ref P), some (.ref hd), some (.ref gv), none, none, none, none, none, none], ?_, ?_⟩
    · refine ⟨_, rfl, C, ys, rfl, .inl (SqL.of (S5 _ _ hC)), fun hd hhd => ⟨_, rfl, P, _, rfl, .inl (SqL.of (same_upd hhd _ _ hP)), fun gv hgv => ?_⟩⟩
      have S6 := S5.trans ((same_upd (o := .lst ys) hhd).trans (same_upd (o := .lst [.ref t]) hgv))
      have S7 := (same_upd (o := .lst ys) hhd).trans (same_upd (o := .lst [.ref t]) hgv)
      exact ⟨_, _, rfl, hd, gv, ⟨⟨trivial, S6 _ _ hq⟩, tr.same S6, ⟨trivial, S6 _ _ hC⟩, ht.same S6, ⟨trivial, S7 _ _ hP⟩, S7 _ _ hT, ⟨trivial, same_upd hgv _ _ upd_same⟩, ⟨trivial, upd_same⟩⟩, rfl⟩
    clear hC ht tr hq hP hT S5
    rintro σ H6 ⟨hd, gv, D6, rfl⟩
    refine ⟨fun σ H7 => ∃ (F : Addr) (ws : List V) (R : List (List Int)) (ns : List Int), AllRings (made b 1 m) R ∧ ns.Perm (ahL (blockOf b 1) m n (blockOf b 1).toNat) ∧ ns.Pairwise (· ≤ ·) ∧ V.ref F ∉ ws ∧ H7 F = some (.lst ws) ∧ LsD (fun _ => True) H7 ws (toldD b 1 m n qs [z] R ns) ∧ Held T (fun c => V.ref c ∉ ws) H7 q p C P hd gv t b m n ys qs z ∧ σ = [some (.ref a), some (.ref r), some (.ref q), some (.ref p), some (.int n), some (.ref C), some (.ref P), some (.ref hd), some (.ref gv), some (.ref F), none, none, none, none, none], ?_, ?_⟩
    · refine ⟨_, rfl, _, rfl, _, rfl, _, rfl, p, hd, gv, b, 1, m, n, ys, [.ref t], qs, [z], rfl, D6.tr, n1, n2, .inl D6.hh.2, D6.ht, l1, l2, hw, .inl D6.hg.2, ⟨⟨t, rfl, D6.hT⟩, trivial⟩, by show 1 ≤ 1; decide, by show 1 ≤ 10; decide, ?_, fun F ws R ns H7 S7 hF hR pn sn L => ?_⟩
      · intro z' hz
        cases List.mem_singleton.mp hz
        exact bd
      · refine ⟨F, ws, R, ns, hR, pn, sn, fun g => (L.mem g).1.2 rfl, hF, L.of (fun _ _ e => e) fun _ _ _ e => ⟨trivial, e⟩, D6.of (fun c xs _ e => ⟨fun g => ?_, S7 _ _ e⟩) fun _ _ e _ => S7 _ _ e, rfl⟩
        have := (L.mem g).1.1
        rw [e] at this
        cases this
    clear D6
    rintro σ H7 ⟨F, ws, R, ns, hR, pn, sn, nF, hF, L7, D7, rfl⟩
    have lw := L7.len
    refine ⟨fun σ H8 => ∃ (kp : Addr) (kws : List V), Stand T ws H8 F kp kws (toldD b 1 m n qs [z] R ns) q p C P hd gv t b m n ys qs z 0 ∧ σ = [some (.ref a), some (.ref r), some (.ref q), some (.ref p), some (.int n), some (.ref C), some (.ref P), some (.ref hd), some (.ref gv), some (.ref F), some (.ref kp), none, none, none, none], ?_, ?_⟩
    · refine ⟨_, rfl, F, rfl, ⟨_, SqL.of hF⟩, fun kp hkp => ?_⟩
      have nw : ∀ {H : Hp} {c : Addr}, Same H7 H → H c = none → V.ref c ∉ ws := fun {H c} S e g => by
        obtain ⟨_, xs, e2, _⟩ := L7.mem g
        rw [S _ _ e2] at e
        cases e
      refine lc_it walk_list (fun i H8 => Same H7 H8 ∧ ∃ kws, H8 kp = some (.lst kws) ∧ LsD (fun c => V.ref c ∉ ws ∧ c ≠ kp) H8 kws ((toldD b 1 m n qs [z] R ns).take i)) ⟨same_upd hkp, [], upd_same, trivial⟩ (fun i H8 _ ⟨S8, _⟩ => SqL.of (S8 _ _ hF)) ?_ ?_
      · rintro i y H8 H9 hi ⟨S8, kws, hk, L8⟩ ⟨rfl, hy⟩
        obtain ⟨c, xs, d, rfl, hd', _, hc, it, lx⟩ := (L7.same S8).at hy
        refine ⟨rfl, _, rfl, c, xs, rfl, .inl (SqL.of hc), fun l hl => ?_⟩
        have Sl := same_upd (o := .lst xs) hl
        have hk2 := Sl _ _ hk
        have lk := L8.len
        have nkp := nw (Same.refl _) hkp
        have up : ∀ c o, upd H9 l (.lst xs) c = some o → c ≠ kp → upd (upd H9 l (.lst xs)) kp (.lst (kws ++ [.ref l])) c = some o := fun c o e n => by
          rw [upd_ne n]
          exact e
        have nlk : l ≠ kp := fun g => by rw [g, hk] at hl; cases hl
        refine ⟨kws, hk2, ?_, fun c o e => up _ _ (Sl _ _ (S8 _ _ e)) (ne_of_none e hkp), _, upd_same, ?_⟩
        · rw [lk, List.length_take]
          refine Nat.lt_of_le_of_lt (Nat.min_le_right _ _) ?_
          show 9 < sizeLine
          decide
        · rw [take_one hd']
          have tupk : ∀ c zs, upd H9 l (.lst xs) c = some (.tup zs) → upd (upd H9 l (.lst xs)) kp (.lst (kws ++ [.ref l])) c = some (.tup zs) := fun c zs e => up _ _ e (fun g => by rw [g, hk2] at e; cases e)
          refine ((L8.same Sl).of tupk fun c zs n e => ⟨n, up _ _ e n.2⟩).app ⟨⟨l, xs, rfl, ⟨nw S8 hl, nlk⟩, up _ _ upd_same nlk, (it.of fun _ _ e => Sl _ _ e).of tupk, lx⟩, trivial⟩
      · rintro H8 ⟨S8, kws, hk, L8⟩
        rw [lw, List.take_length] at L8
        exact ⟨kp, kws, ⟨D7.same S8, ⟨nF, S8 _ _ hF⟩, ⟨nw (Same.refl _) hkp, hk⟩, L8.of (fun _ _ e => e) (fun _ _ n e => ⟨n.1, e⟩), fun c hc => ((L7.same S8).mem hc).2⟩, rfl⟩
    have wr : ∀ y ∈ ws, ∃ c, y = V.ref c := fun y hy => by
      obtain ⟨i, hi⟩ := List.mem_iff_getElem?.mp hy
      obtain ⟨c, xs, d, e, _⟩ := L7.at hi
      exact ⟨c, e⟩
    clear D7 L7 hF
    rintro σ H8 ⟨kp, kws, Z8, rfl⟩
    refine ⟨fun σ H9 => ∃ x11, Stand T ws H9 F kp kws (toldD b 1 m n qs [z] R ns) q p C P hd gv t b m n ys qs z 9 ∧ σ = [some (.ref a), some (.ref r), some (.ref q), some (.ref p), some (.int n), some (.ref C), some (.ref P), some (.ref hd), some (.ref gv), some (.ref F), some (.ref kp), x11, none, none, none], ?_, ?_⟩
    · refine ⟨_, rfl, F, rfl, ⟨_, SqL.of Z8.first.2⟩, ?_⟩
      refine for_it walk_list (fun i σ H9 => ∃ x11, Stand T ws H9 F kp kws (toldD b 1 m n qs [z] R ns) q p C P hd gv t b m n ys qs z i ∧ σ = [some (.ref a), some (.ref r), some (.ref q), some (.ref p), some (.int n), some (.ref C), some (.ref P), some (.ref hd), some (.ref gv), some (.ref F), some (.ref kp), x11, none, none, none]) ⟨none, Z8, rfl⟩ (fun i σ H9 _ ⟨_, Z9, _⟩ => SqL.of Z9.first.2) ?_ ?_
      · rintro i y σ H9 H10 hi ⟨x11, Z9, rfl⟩ ⟨rfl, hy⟩
        have li : i < 9 := by rw [lw] at hi; exact hi
        have hm : y ∈ ws := List.mem_of_getElem? hy
        obtain ⟨c, rfl⟩ : ∃ c, y = V.ref c := wr y hm
        obtain ⟨xs, hc, lx⟩ := Z9.mem c hm
        have hs : (120011 : Nat) ≤ sizeLine := by decide
        have Z10 := Z9.put (j := i + 1) (xs := xs ++ [.str "more"]) hm (by rw [List.length_append, List.length_singleton]; omega) (by omega)
        have Z11 := Z10.put (j := i + 1) (xs := (xs ++ [V.str "more"]).reverse) hm (by rw [List.length_reverse, List.length_append, List.length_singleton]; omega) (by omega)
        refine ⟨_, rfl, .inl ⟨rfl, _, SqL.of hc⟩, c, xs, _, rfl, rfl, hc, by omega, ?_⟩
        exact ⟨_, rfl, .inl ⟨rfl, _, SqL.of upd_same⟩, c, _, rfl, rfl, upd_same, _, Z11, rfl⟩
      · rintro σ H9 ⟨x11, Z9, rfl⟩
        rw [lw] at Z9
        exact ⟨x11, Z9, rfl⟩
    clear Z8 wr
    rintro σ H9 ⟨x11, Z9, rfl⟩
    have bd1 : ∀ z' ∈ [z], -(10 ^ 40) ≤ z'.1 ∧ z'.1 ≤ 10 ^ 40 ∧ -(10 ^ 40) ≤ z'.2 ∧ z'.2 ≤ 10 ^ 40 := fun z' hz => by
      cases List.mem_singleton.mp hz
      exact bd
    refine ⟨fun σ H10 => Stand T ws H10 F kp kws (toldD b 1 m n qs [z] R ns) q p C P hd gv t b m n ys qs z 9 ∧ σ = [some (.ref a), some (.ref r), some (.ref q), some (.ref p), some (.int n), some (.ref C), some (.ref P), some (.ref hd), some (.ref gv), some (.ref F), some (.ref kp), x11, none, none, none], ?_, ?_⟩
    · have D9 := Z9.held
      refine ⟨_, rfl, _, rfl, _, rfl, _, rfl, p, hd, gv, b, 1, m, n, ys, [.ref t], qs, [z], rfl, D9.tr, n1, n2, .inl D9.hh.2, D9.ht, l1, l2, hw, .inl D9.hg.2, ⟨⟨t, rfl, D9.hT⟩, trivial⟩, by show 1 ≤ 1; decide, by show 1 ≤ 10; decide, bd1, fun F2 ws2 R2 ns2 H10 S10 hF2 hR2 pn2 sn2 L2 => ?_⟩
      obtain rfl := hR2.uniq hR
      obtain rfl := sorted_ext (pn2.trans pn.symm) sn2 sn
      have Z10 := Z9.same S10
      refine ⟨_, rfl, same_told L2 hF2 Z10.kept Z10.keep.2 ?_⟩
      refine ⟨_, rfl, iteF ⟨_, rfl, _, rfl, .inl ⟨hd, C, ys, rfl, rfl, SqL.of Z10.held.hh.2, SqL.of Z10.held.hC.2, Z10.held.ht.refs, ?_⟩⟩⟩
      refine ⟨_, rfl, iteF ⟨_, rfl, _, rfl, .inl ⟨gv, P, [.ref t], rfl, rfl, SqL.of Z10.held.hg.2, SqL.of Z10.held.hP.2, fun x hx => ⟨t, List.mem_singleton.mp hx⟩, ?_⟩⟩⟩
      exact ⟨_, rfl, iteF ⟨Z10, rfl⟩⟩
    clear Z9
    rintro σ H10 ⟨Z10, rfl⟩
    refine ⟨fun σ H11 => Stand T ws H11 F kp kws (toldD b 1 m n qs [z] R ns) q p C P hd gv t b m n ys qs z 9 ∧ σ = [some (.ref a), some (.ref r), some (.ref q), some (.ref p), some (.int n), some (.ref C), some (.ref P), some (.ref hd), some (.ref gv), some (.ref F), some (.ref kp), x11, none, none, none], ?_, ?_⟩
    · have hq := Z10.held.hq.2
      refine ⟨_, rfl, q, _, _, _, rfl, rfl, SqL.of hq, rfl, _, rfl, q, _, _, _, rfl, rfl, SqL.of hq, rfl, _, rfl, q, _, _, _, rfl, rfl, SqL.of hq, rfl, fun p2 dx np nx nn => mk_trick np nx b1 b2 (by decide) (by decide) m1 m2 fun H11 hT2 S11 => ?_⟩
      have Z11 := Z10.same S11
      refine ⟨_, rfl, C, ys, rfl, .inl ⟨SqL.of Z11.held.hC.2, fun c2 hc2 => ?_⟩⟩
      have Z12 := Z11.same (same_upd (o := .tup ys) hc2)
      refine ⟨_, rfl, _, rfl, P, _, rfl, .inl ⟨SqL.of Z12.held.hP.2, fun g2 hg2 => ?_⟩⟩
      have S13 := same_upd (o := .tup [.ref t]) hg2
      have D13 := (Z12.same S13).held
      have S12 := (same_upd (o := .tup ys) hc2).trans S13
      refine ⟨p2, c2, g2, b, 1, m, n, ys, [.ref t], qs, [z], rfl, hT2.same S12, n1, n2, .inr (S13 _ _ upd_same), D13.ht, l1, l2, hw, .inr upd_same, ⟨⟨t, rfl, D13.hT⟩, trivial⟩, by show 1 ≤ 1; decide, by show 1 ≤ 10; decide, bd1, fun F2 ws2 R2 ns2 H14 S14 hF2 hR2 pn2 sn2 L2 => ?_⟩
      obtain rfl := hR2.uniq hR
      obtain rfl := sorted_ext (pn2.trans pn.symm) sn2 sn
      have Z14 := (Z12.same S13).same S14
      refine ⟨_, rfl, same_told L2 hF2 Z14.kept Z14.keep.2 ?_⟩
      exact ⟨_, rfl, iteF ⟨Z14, rfl⟩⟩
    clear Z10
    rintro σ H11 ⟨Z11, rfl⟩
    have hq := Z11.held.hq.2
    have tr := Z11.held.tr
    clear Z11 bd1
    have gn : intIn (V.int n) (-(10 ^ 40)) (10 ^ 40) = true := intIn_of n1 n2
    refine ⟨fun σ H12 => ∃ rp r1 r2 mp k1 k2 : Addr, ReckAt T H12 rp r1 r2 [n] [] [] ∧ ReckAt T H12 mp k1 k2 [n] [] [] ∧ (k1 ≠ r1 ∧ k1 ≠ r2 ∧ k2 ≠ r1 ∧ k2 ≠ r2) ∧ q ≠ r1 ∧ q ≠ r2 ∧ H12 q = some (.lst [.int b, .int 1, .int m]) ∧ TrickAt T H12 p b 1 m ∧ σ = [some (.ref a), some (.ref r), some (.ref q), some (.ref p), some (.int n), some (.ref C), some (.ref P), some (.ref hd), some (.ref gv), some (.ref F), some (.ref kp), x11, some (.ref rp), some (.ref mp), none], ?_, ?_⟩
    · refine ⟨_, rfl, fun rp dx np nx ne => ⟨rp, dx, .int n, rfl, upd_same, .int n, fun g => Bool.noConfusion (gn.symm.trans g), fun n' H12 r1 r2 en _ _ ep e1 e2 f1 f2 d12 kr => ⟨rfl, ?_⟩⟩⟩
      cases en
      have S0 : Same H11 (upd (upd H11 dx (.own rp)) rp (.ins T.C_Reckoner dx [])) := Same.made np nx fun _ _ e _ => e
      have S1 := Same.made np nx kr
      have rk : ReckAt T H12 rp r1 r2 [n] [] [] := ⟨⟨dx, ep⟩, e1, e2, trivial, d12, (by show 1 ≤ 100; decide), (by show 0 ≤ 100; decide)⟩
      refine ⟨_, rfl, fun mp dm np' nx' ne' => ⟨mp, dm, .int n, rfl, upd_same, .int n, fun g => Bool.noConfusion (gn.symm.trans g), fun n' H13 k1 k2 en _ _ ep' e1' e2' f1' f2' d12' kr' => ⟨rfl, ?_⟩⟩⟩
      cases en
      have S2 : Same H12 (upd (upd H12 dm (.own mp)) mp (.ins T.C_Reckoner dm [])) := Same.made np' nx' fun _ _ e _ => e
      have S3 := Same.made np' nx' kr'
      exact ⟨_, _, rfl, rp, r1, r2, mp, k1, k2, rk.same S3, ⟨⟨dm, ep'⟩, e1', e2', trivial, d12', (by show 1 ≤ 100; decide), (by show 0 ≤ 100; decide)⟩, ⟨(apart (S2 _ _ e1) f1').symm, (apart (S2 _ _ e2) f1').symm, (apart (S2 _ _ e1) f2').symm, (apart (S2 _ _ e2) f2').symm⟩, apart (S0 _ _ hq) f1, apart (S0 _ _ hq) f2, S3 _ _ (S1 _ _ hq), (tr.same S1).same S3, rfl⟩
    clear hq tr
    rintro σ H12 ⟨rp, r1, r2, mp, k1, k2, rk, mk, ap, q1, q2, hq, tr, rfl⟩
    refine ⟨fun σ H13 => ReckAt T H13 rp r1 r2 [n, made b 1 m n] [.ref p] [(b, 1, m)] ∧ ReckAt T H13 mp k1 k2 [n] [] [] ∧ H13 q = some (.lst [.int b, .int 1, .int m]) ∧ TrickAt T H13 p b 1 m ∧ σ = [some (.ref a), some (.ref r), some (.ref q), some (.ref p), some (.int n), some (.ref C), some (.ref P), some (.ref hd), some (.ref gv), some (.ref F), some (.ref kp), x11, some (.ref rp), some (.ref mp), none], ?_, ?_⟩
    · obtain ⟨dx, ep⟩ := rk.ob
      refine ⟨_, rfl, rp, dx, _, rfl, ep, rf_no _ _ (by decide +kernel) (by decide +kernel), _, rfl, rp, .ref p, rfl, .inr ⟨p, b, 1, m, r1, r2, [], n, [], [], rfl, tr, rk, by decide, by decide, fun H13 R13 B13 => ?_⟩⟩
      exact ⟨R13, mk.aside B13 rk.nums rk.tris ap, B13 _ _ hq q1 q2, tr.but2 B13 rk.nums rk.tris, rfl⟩
    clear rk mk hq tr ap q1 q2
    rintro σ H13 ⟨rk, mk, hq, tr, rfl⟩
    refine ⟨fun σ H14 => ∃ tp t1 t2 : Addr, ReckAt T H14 rp r1 r2 [n, made b 1 m n] [.ref p] [(b, 1, m)] ∧ ReckAt T H14 mp k1 k2 [n] [] [] ∧ ReckAt T H14 tp t1 t2 [n, made b 1 m n] [.ref p] [(b, 1, m)] ∧ (r1 ≠ t1 ∧ r1 ≠ t2 ∧ r2 ≠ t1 ∧ r2 ≠ t2) ∧ (k1 ≠ t1 ∧ k1 ≠ t2 ∧ k2 ≠ t1 ∧ k2 ≠ t2) ∧ q ≠ t1 ∧ q ≠ t2 ∧ H14 q = some (.lst [.int b, .int 1, .int m]) ∧ TrickAt T H14 p b 1 m ∧ σ = [some (.ref a), some (.ref r), some (.ref q), some (.ref p), some (.int n), some (.ref C), some (.ref P), some (.ref hd), some (.ref gv), some (.ref F), some (.ref kp), x11, some (.ref rp), some (.ref mp), some (.ref tp)], ?_, ?_⟩
    · obtain ⟨dx, ep⟩ := rk.ob
      refine ⟨_, rfl, rp, dx, _, rfl, ep, rf_no _ _ (by decide +kernel) (by decide +kernel), rp, r1, r2, n, [made b 1 m n], [.ref p], [(b, 1, m)], rfl, rk, n1, n2, fun H14 tp t1 t2 S R' f1 f2 fp => ?_⟩
      exact ⟨tp, t1, t2, rk.same S, mk.same S, R', ⟨apart rk.nums f1, apart rk.nums f2, apart rk.tris f1, apart rk.tris f2⟩, ⟨apart mk.nums f1, apart mk.nums f2, apart mk.tris f1, apart mk.tris f2⟩, apart hq f1, apart hq f2, S _ _ hq, tr.same S, rfl⟩
    clear rk mk hq tr
    rintro σ H14 ⟨tp, t1, t2, rk, mk, tk, ap1, ap2, q1, q2, hq, tr, rfl⟩
    refine ⟨fun σ H15 => ReckAt T H15 rp r1 r2 [n, made b 1 m n] [.ref p] [(b, 1, m)] ∧ ReckAt T H15 mp k1 k2 [n] [] [] ∧ ReckAt T H15 tp t1 t2 [n] [] [] ∧ H15 q = some (.lst [.int b, .int 1, .int m]) ∧ TrickAt T H15 p b 1 m ∧ σ = [some (.ref a), some (.ref r), some (.ref q), some (.ref p), some (.int n), some (.ref C), some (.ref P), some (.ref hd), some (.ref gv), some (.ref F), some (.ref kp), x11, some (.ref rp), some (.ref mp), some (.ref tp)], ?_, ?_⟩
    · obtain ⟨dx, ep⟩ := tk.ob
      refine ⟨_, rfl, tp, dx, _, rfl, ep, rf_no _ _ (by decide +kernel) (by decide +kernel), tp, t1, t2, [n, made b 1 m n], [.ref p], [(b, 1, m)], rfl, tk, rfl, fun g => (nomatch g), fun _ H15 R15 B15 => ?_⟩
      have rk15 := rk.aside B15 tk.nums tk.tris ap1
      have mk15 := mk.aside B15 tk.nums tk.tris ap2
      have tk15 : ReckAt T H15 tp t1 t2 [n] [] [] := R15
      have hq15 := B15 _ _ hq q1 q2
      have tr15 := tr.but2 B15 tk.nums tk.tris
      obtain ⟨dr, er⟩ := rk15.ob
      obtain ⟨dm, em⟩ := mk15.ob
      obtain ⟨dt, et⟩ := tk15.ob
      refine ⟨_, rfl, iteF ⟨_, rfl, rp, dr, _, rfl, er, rp, r1, r2, _, _, _, rfl, rk15, 1, rfl, by decide, rfl, _, rfl, ?_⟩⟩
      refine iteF ⟨_, rfl, mp, dm, _, rfl, em, mp, k1, k2, _, _, _, rfl, mk15, 0, rfl, by decide, rfl, _, rfl, ?_⟩
      refine iteF ⟨_, rfl, tp, dt, _, rfl, et, tp, t1, t2, _, _, _, rfl, tk15, 0, rfl, by decide, rfl, _, rfl, ?_⟩
      refine iteF ⟨_, rfl, mp, dm, _, rfl, em, rf_no _ _ (by decide +kernel) (by decide +kernel), mp, k1, k2, [n], [], [], rfl, mk15, rfl, fun _ => ⟨_, rfl, iteF ⟨rk15, mk15, tk15, hq15, tr15, rfl⟩⟩, fun g => absurd rfl g⟩
    clear rk mk tk hq tr ap1 ap2 q1 q2
    rintro σ H15 ⟨rk, mk, tk, hq, tr, rfl⟩
    obtain ⟨dr, er⟩ := rk.ob
    obtain ⟨dm, em⟩ := mk.ob
    obtain ⟨dt, et⟩ := tk.ob
    have eb := behind_made (b := b) (t := 1) (m := m) (n := n) (block_bd (t := 1) b1 b2).1
    obtain ⟨⟨dp, e⟩, _⟩ := id tr
    refine ⟨_, rfl, rp, dr, _, rfl, er, rp, r1, r2, [n], made b 1 m n, _, _, rfl, rk, _, rfl, _, rfl, q, b, 1, m, n, rfl, SqL.of hq, b1, b2, m1, m2, rfl, _, rfl, ?_⟩
    rw [eb, decide_eq_true rfl]
    refine iteT ⟨_, rfl, tp, dt, _, rfl, et, tp, t1, t2, [], n, _, _, rfl, tk, _, rfl, rfl, _, rfl, ?_⟩
    rw [decide_eq_true rfl]
    refine iteT ⟨_, rfl, mp, dm, _, rfl, em, mp, k1, k2, [], n, _, _, rfl, mk, _, rfl, rfl, _, rfl, ?_⟩
    rw [decide_eq_true rfl]
    refine iteT ⟨_, rfl, p, dp, _, rfl, e, p, b, 1, m, rfl, tr, _, rfl, q, _, _, _, rfl, rfl, SqL.of hq, rfl, rfl, ?_⟩
    rw [decide_eq_true rfl]
    exact k _

end
/-! ### the end -/
theorem all_mk {l : PySem.W.OpenLaw} {w : World} {K : PySem.W.Frag} {h : Heap} {mg : Str → Option Value} {fa : Addr} (X : K.In h) (G : h.Ns mainGlobals mg) (hfa : mg "law" = some (.ref fa))
    {C_TrickError : Addr}
    {C_BadBase : Addr}
    {C_BadTake : Addr}
    {C_BadTimes : Addr}
    {C_BadTrick : Addr}
    {C_BadDivisor : Addr}
    {C_BadNumber : Addr}
    {C_BadTricks : Addr}
    {C_BadPairs : Addr}
    {C_TooWide : Addr}
    {tk_GREATEST_NUMBER : Tok}
    {tk_LEAST_BASE : Tok}
    {tk_GREATEST_BASE : Tok}
    {tk_GREATEST_TAKE : Tok}
    {tk_GREATEST_DIVISOR : Tok}
    {tk_GREATEST_TIMES : Tok}
    {tk_MOST_ROUNDS : Tok}
    {tk_MOST_TRICKS : Tok}
    {tk_GREATEST_CHAIN_DIVISOR : Tok}
    {tk_GREATEST_PRODUCT : Tok}
    {tk_GREATEST_LENGTH : Tok}
    {tk_MOST_PAIRS : Tok}
    {a_check_divisor dT_check_divisor : Addr} {od_check_divisor an_check_divisor dod_check_divisor : Option Addr} {sl_check_divisor dsl_check_divisor : Array (Option Value)} {oc_check_divisor kV_check_divisor dc_check_divisor pm_check_divisor cd_check_divisor ct_check_divisor doc_check_divisor : Value} {dvs_check_divisor : Array Value} {dn_check_divisor : Nat} {dt0_check_divisor : Tok}
    {a_law : Addr} {od_law an_law : Option Addr} {sl_law : Array (Option Value)} {oc_law kV_law dc_law pm_law cd_law ct_law : Value}
    {C_Trick : Addr}
    {a_Trick___init__ : Addr} {od_Trick___init__ an_Trick___init__ : Option Addr} {sl_Trick___init__ : Array (Option Value)} {oc_Trick___init__ kV_Trick___init__ dc_Trick___init__ pm_Trick___init__ cd_Trick___init__ ct_Trick___init__ : Value}
    {pr_Trick_base : Addr} {rs_Trick_base : List Value}
    {a_Trick_base : Addr} {od_Trick_base an_Trick_base : Option Addr} {sl_Trick_base : Array (Option Value)} {oc_Trick_base kV_Trick_base dc_Trick_base pm_Trick_base cd_Trick_base ct_Trick_base : Value}
    {pr_Trick_take : Addr} {rs_Trick_take : List Value}
    {a_Trick_take : Addr} {od_Trick_take an_Trick_take : Option Addr} {sl_Trick_take : Array (Option Value)} {oc_Trick_take kV_Trick_take dc_Trick_take pm_Trick_take cd_Trick_take ct_Trick_take : Value}
    {pr_Trick_times : Addr} {rs_Trick_times : List Value}
    {a_Trick_times : Addr} {od_Trick_times an_Trick_times : Option Addr} {sl_Trick_times : Array (Option Value)} {oc_Trick_times kV_Trick_times dc_Trick_times pm_Trick_times cd_Trick_times ct_Trick_times : Value}
    {a_Trick___eq__ : Addr} {od_Trick___eq__ an_Trick___eq__ : Option Addr} {sl_Trick___eq__ : Array (Option Value)} {oc_Trick___eq__ kV_Trick___eq__ dc_Trick___eq__ pm_Trick___eq__ cd_Trick___eq__ ct_Trick___eq__ : Value}
    {C_Reckoner : Addr}
    {a_Reckoner___init__ : Addr} {od_Reckoner___init__ an_Reckoner___init__ : Option Addr} {sl_Reckoner___init__ : Array (Option Value)} {oc_Reckoner___init__ kV_Reckoner___init__ dc_Reckoner___init__ pm_Reckoner___init__ cd_Reckoner___init__ ct_Reckoner___init__ : Value}
    {pr_Reckoner_now : Addr} {rs_Reckoner_now : List Value}
    {a_Reckoner_now : Addr} {od_Reckoner_now an_Reckoner_now : Option Addr} {sl_Reckoner_now : Array (Option Value)} {oc_Reckoner_now kV_Reckoner_now dc_Reckoner_now pm_Reckoner_now cd_Reckoner_now ct_Reckoner_now : Value}
    {pr_Reckoner_tricks : Addr} {rs_Reckoner_tricks : List Value}
    {a_Reckoner_tricks : Addr} {od_Reckoner_tricks an_Reckoner_tricks : Option Addr} {sl_Reckoner_tricks : Array (Option Value)} {oc_Reckoner_tricks kV_Reckoner_tricks dc_Reckoner_tricks pm_Reckoner_tricks cd_Reckoner_tricks ct_Reckoner_tricks : Value}
    {a_Reckoner_step : Addr} {od_Reckoner_step an_Reckoner_step : Option Addr} {sl_Reckoner_step : Array (Option Value)} {oc_Reckoner_step kV_Reckoner_step dc_Reckoner_step pm_Reckoner_step cd_Reckoner_step ct_Reckoner_step : Value}
    {a_Reckoner_undo : Addr} {od_Reckoner_undo an_Reckoner_undo : Option Addr} {sl_Reckoner_undo : Array (Option Value)} {oc_Reckoner_undo kV_Reckoner_undo dc_Reckoner_undo pm_Reckoner_undo cd_Reckoner_undo ct_Reckoner_undo : Value}
    {a_Reckoner_copy : Addr} {od_Reckoner_copy an_Reckoner_copy : Option Addr} {sl_Reckoner_copy : Array (Option Value)} {oc_Reckoner_copy kV_Reckoner_copy dc_Reckoner_copy pm_Reckoner_copy cd_Reckoner_copy ct_Reckoner_copy : Value}
    {a_Reckoner___len__ : Addr} {od_Reckoner___len__ an_Reckoner___len__ : Option Addr} {sl_Reckoner___len__ : Array (Option Value)} {oc_Reckoner___len__ kV_Reckoner___len__ dc_Reckoner___len__ pm_Reckoner___len__ cd_Reckoner___len__ ct_Reckoner___len__ : Value}
    {a_BadNumber___init__ cda_BadNumber___init__ cc_BadNumber___init__ N_BadNumber___init__ : Addr} {od_BadNumber___init__ an_BadNumber___init__ cdd_BadNumber___init__ cld_BadNumber___init__ dd_BadNumber___init__ : Option Addr} {sl_BadNumber___init__ ccs_BadNumber___init__ csl_BadNumber___init__ : Array (Option Value)} {oc_BadNumber___init__ dc_BadNumber___init__ pm_BadNumber___init__ ct_BadNumber___init__ ccl_BadNumber___init__ cl_BadNumber___init__ : Value} {vs_BadNumber___init__ : Array Value} {file_BadNumber___init__ nm_BadNumber___init__ qn_BadNumber___init__ : Str} {tf_BadNumber___init__ : Tok} {bs_BadNumber___init__ bm_BadNumber___init__ sub_BadNumber___init__ : List Value} {sn_BadNumber___init__ : List Str} {ab_BadNumber___init__ : Bool} {col_BadNumber___init__ : Option Bool} {k0_BadNumber___init__ k1_BadNumber___init__ k2_BadNumber___init__ k3_BadNumber___init__ k5_BadNumber___init__ : Option Value}
    {a_BadTricks___init__ cda_BadTricks___init__ cc_BadTricks___init__ N_BadTricks___init__ : Addr} {od_BadTricks___init__ an_BadTricks___init__ cdd_BadTricks___init__ cld_BadTricks___init__ dd_BadTricks___init__ : Option Addr} {sl_BadTricks___init__ ccs_BadTricks___init__ csl_BadTricks___init__ : Array (Option Value)} {oc_BadTricks___init__ dc_BadTricks___init__ pm_BadTricks___init__ ct_BadTricks___init__ ccl_BadTricks___init__ cl_BadTricks___init__ : Value} {vs_BadTricks___init__ : Array Value} {file_BadTricks___init__ nm_BadTricks___init__ qn_BadTricks___init__ : Str} {tf_BadTricks___init__ : Tok} {bs_BadTricks___init__ bm_BadTricks___init__ sub_BadTricks___init__ : List Value} {sn_BadTricks___init__ : List Str} {ab_BadTricks___init__ : Bool} {col_BadTricks___init__ : Option Bool} {k0_BadTricks___init__ k1_BadTricks___init__ k2_BadTricks___init__ k3_BadTricks___init__ k5_BadTricks___init__ : Option Value}
    {a_BadPairs___init__ cda_BadPairs___init__ cc_BadPairs___init__ N_BadPairs___init__ : Addr} {od_BadPairs___init__ an_BadPairs___init__ cdd_BadPairs___init__ cld_BadPairs___init__ dd_BadPairs___init__ : Option Addr} {sl_BadPairs___init__ ccs_BadPairs___init__ csl_BadPairs___init__ : Array (Option Value)} {oc_BadPairs___init__ dc_BadPairs___init__ pm_BadPairs___init__ ct_BadPairs___init__ ccl_BadPairs___init__ cl_BadPairs___init__ : Value} {vs_BadPairs___init__ : Array Value} {file_BadPairs___init__ nm_BadPairs___init__ qn_BadPairs___init__ : Str} {tf_BadPairs___init__ : Tok} {bs_BadPairs___init__ bm_BadPairs___init__ sub_BadPairs___init__ : List Value} {sn_BadPairs___init__ : List Str} {ab_BadPairs___init__ : Bool} {col_BadPairs___init__ : Option Bool} {k0_BadPairs___init__ k1_BadPairs___init__ k2_BadPairs___init__ k3_BadPairs___init__ k5_BadPairs___init__ : Option Value}
    {a_TooWide___init__ cda_TooWide___init__ cc_TooWide___init__ N_TooWide___init__ : Addr} {od_TooWide___init__ an_TooWide___init__ cdd_TooWide___init__ cld_TooWide___init__ dd_TooWide___init__ : Option Addr} {sl_TooWide___init__ ccs_TooWide___init__ csl_TooWide___init__ : Array (Option Value)} {oc_TooWide___init__ dc_TooWide___init__ pm_TooWide___init__ ct_TooWide___init__ ccl_TooWide___init__ cl_TooWide___init__ : Value} {vs_TooWide___init__ : Array Value} {file_TooWide___init__ nm_TooWide___init__ qn_TooWide___init__ : Str} {tf_TooWide___init__ : Tok} {bs_TooWide___init__ bm_TooWide___init__ sub_TooWide___init__ : List Value} {sn_TooWide___init__ : List Str} {ab_TooWide___init__ : Bool} {col_TooWide___init__ : Option Bool} {k0_TooWide___init__ k1_TooWide___init__ k2_TooWide___init__ k3_TooWide___init__ k5_TooWide___init__ : Option Value}
    (gx_TrickError : PySem.W.nsIn K mainGlobals "TrickError" = some (some (.ref C_TrickError)))
    (x_TrickError : PySem.W.excIn K C_TrickError [.type "ValueError", .type "Exception", .type "BaseException", .type "object"] "ValueError.__new__" = true)
    (k_TrickError : PySem.W.keepIn K (.ref C_TrickError) = true)
    (s_TrickError : PySem.W.subIn K (.ref C_TrickError) (.type "BaseException") = some true)
    (t_TrickError : PySem.W.typeIn K (.ref C_TrickError) = some (.type "type"))
    (gx_BadBase : PySem.W.nsIn K mainGlobals "BadBase" = some (some (.ref C_BadBase)))
    (x_BadBase : PySem.W.excIn K C_BadBase [.type "ValueError", .type "Exception", .type "BaseException", .type "object"] "ValueError.__new__" = true)
    (k_BadBase : PySem.W.keepIn K (.ref C_BadBase) = true)
    (s_BadBase : PySem.W.subIn K (.ref C_BadBase) (.type "BaseException") = some true)
    (t_BadBase : PySem.W.typeIn K (.ref C_BadBase) = some (.type "type"))
    (gx_BadTake : PySem.W.nsIn K mainGlobals "BadTake" = some (some (.ref C_BadTake)))
    (x_BadTake : PySem.W.excIn K C_BadTake [.type "ValueError", .type "Exception", .type "BaseException", .type "object"] "ValueError.__new__" = true)
    (k_BadTake : PySem.W.keepIn K (.ref C_BadTake) = true)
    (s_BadTake : PySem.W.subIn K (.ref C_BadTake) (.type "BaseException") = some true)
    (t_BadTake : PySem.W.typeIn K (.ref C_BadTake) = some (.type "type"))
    (gx_BadTimes : PySem.W.nsIn K mainGlobals "BadTimes" = some (some (.ref C_BadTimes)))
    (x_BadTimes : PySem.W.excIn K C_BadTimes [.type "ValueError", .type "Exception", .type "BaseException", .type "object"] "ValueError.__new__" = true)
    (k_BadTimes : PySem.W.keepIn K (.ref C_BadTimes) = true)
    (s_BadTimes : PySem.W.subIn K (.ref C_BadTimes) (.type "BaseException") = some true)
    (t_BadTimes : PySem.W.typeIn K (.ref C_BadTimes) = some (.type "type"))
    (gx_BadTrick : PySem.W.nsIn K mainGlobals "BadTrick" = some (some (.ref C_BadTrick)))
    (x_BadTrick : PySem.W.excIn K C_BadTrick [.type "ValueError", .type "Exception", .type "BaseException", .type "object"] "ValueError.__new__" = true)
    (k_BadTrick : PySem.W.keepIn K (.ref C_BadTrick) = true)
    (s_BadTrick : PySem.W.subIn K (.ref C_BadTrick) (.type "BaseException") = some true)
    (t_BadTrick : PySem.W.typeIn K (.ref C_BadTrick) = some (.type "type"))
    (gx_BadDivisor : PySem.W.nsIn K mainGlobals "BadDivisor" = some (some (.ref C_BadDivisor)))
    (x_BadDivisor : PySem.W.excIn K C_BadDivisor [.type "ValueError", .type "Exception", .type "BaseException", .type "object"] "ValueError.__new__" = true)
    (k_BadDivisor : PySem.W.keepIn K (.ref C_BadDivisor) = true)
    (s_BadDivisor : PySem.W.subIn K (.ref C_BadDivisor) (.type "BaseException") = some true)
    (t_BadDivisor : PySem.W.typeIn K (.ref C_BadDivisor) = some (.type "type"))
    (gx_BadNumber : PySem.W.nsIn K mainGlobals "BadNumber" = some (some (.ref C_BadNumber)))
    (k_BadNumber : PySem.W.keepIn K (.ref C_BadNumber) = true)
    (s_BadNumber : PySem.W.subIn K (.ref C_BadNumber) (.type "BaseException") = some true)
    (t_BadNumber : PySem.W.typeIn K (.ref C_BadNumber) = some (.type "type"))
    (gx_BadTricks : PySem.W.nsIn K mainGlobals "BadTricks" = some (some (.ref C_BadTricks)))
    (k_BadTricks : PySem.W.keepIn K (.ref C_BadTricks) = true)
    (s_BadTricks : PySem.W.subIn K (.ref C_BadTricks) (.type "BaseException") = some true)
    (t_BadTricks : PySem.W.typeIn K (.ref C_BadTricks) = some (.type "type"))
    (gx_BadPairs : PySem.W.nsIn K mainGlobals "BadPairs" = some (some (.ref C_BadPairs)))
    (k_BadPairs : PySem.W.keepIn K (.ref C_BadPairs) = true)
    (s_BadPairs : PySem.W.subIn K (.ref C_BadPairs) (.type "BaseException") = some true)
    (t_BadPairs : PySem.W.typeIn K (.ref C_BadPairs) = some (.type "type"))
    (gx_TooWide : PySem.W.nsIn K mainGlobals "TooWide" = some (some (.ref C_TooWide)))
    (k_TooWide : PySem.W.keepIn K (.ref C_TooWide) = true)
    (s_TooWide : PySem.W.subIn K (.ref C_TooWide) (.type "BaseException") = some true)
    (t_TooWide : PySem.W.typeIn K (.ref C_TooWide) = some (.type "type"))
    (cx_GREATEST_NUMBER : PySem.W.nsIn K mainGlobals "GREATEST_NUMBER" = some (some (.int 10000000000000000000000000000000000000000 tk_GREATEST_NUMBER)))
    (cx_LEAST_BASE : PySem.W.nsIn K mainGlobals "LEAST_BASE" = some (some (.int 2 tk_LEAST_BASE)))
    (cx_GREATEST_BASE : PySem.W.nsIn K mainGlobals "GREATEST_BASE" = some (some (.int 16 tk_GREATEST_BASE)))
    (cx_GREATEST_TAKE : PySem.W.nsIn K mainGlobals "GREATEST_TAKE" = some (some (.int 2 tk_GREATEST_TAKE)))
    (cx_GREATEST_DIVISOR : PySem.W.nsIn K mainGlobals "GREATEST_DIVISOR" = some (some (.int 100 tk_GREATEST_DIVISOR)))
    (cx_GREATEST_TIMES : PySem.W.nsIn K mainGlobals "GREATEST_TIMES" = some (some (.int 100 tk_GREATEST_TIMES)))
    (cx_MOST_ROUNDS : PySem.W.nsIn K mainGlobals "MOST_ROUNDS" = some (some (.int 200 tk_MOST_ROUNDS)))
    (cx_MOST_TRICKS : PySem.W.nsIn K mainGlobals "MOST_TRICKS" = some (some (.int 4 tk_MOST_TRICKS)))
    (cx_GREATEST_CHAIN_DIVISOR : PySem.W.nsIn K mainGlobals "GREATEST_CHAIN_DIVISOR" = some (some (.int 30 tk_GREATEST_CHAIN_DIVISOR)))
    (cx_GREATEST_PRODUCT : PySem.W.nsIn K mainGlobals "GREATEST_PRODUCT" = some (some (.int 300 tk_GREATEST_PRODUCT)))
    (cx_GREATEST_LENGTH : PySem.W.nsIn K mainGlobals "GREATEST_LENGTH" = some (some (.int 40 tk_GREATEST_LENGTH)))
    (cx_MOST_PAIRS : PySem.W.nsIn K mainGlobals "MOST_PAIRS" = some (some (.int 10 tk_MOST_PAIRS)))
    (df_is_integer : ∃ (a : Addr) (d : FuncData), PySem.W.nsIn K mainGlobals "is_integer" = some (some (.ref a)) ∧ Fun K "is_integer" "is_integer" s_is_integer a d)
    (df_is_list_or_tuple : ∃ (a : Addr) (d : FuncData), PySem.W.nsIn K mainGlobals "is_list_or_tuple" = some (some (.ref a)) ∧ Fun K "is_list_or_tuple" "is_list_or_tuple" s_is_list_or_tuple a d)
    (df_is_number : ∃ (a : Addr) (d : FuncData), PySem.W.nsIn K mainGlobals "is_number" = some (some (.ref a)) ∧ Fun K "is_number" "is_number" s_is_number a d)
    (df_check_base : ∃ (a : Addr) (d : FuncData), PySem.W.nsIn K mainGlobals "check_base" = some (some (.ref a)) ∧ Fun K "check_base" "check_base" s_check_base a d)
    (df_check_take : ∃ (a : Addr) (d : FuncData), PySem.W.nsIn K mainGlobals "check_take" = some (some (.ref a)) ∧ Fun K "check_take" "check_take" s_check_take a d)
    (gf_check_divisor : PySem.W.nsIn K mainGlobals "check_divisor" = some (some (.ref a_check_divisor)))
    (l_check_divisor : K.lookup a_check_divisor = some ⟨oc_check_divisor, od_check_divisor, .func (PySem.W.fnOf "check_divisor" "check_divisor" (defArgs s_check_divisor) (defBody s_check_divisor) (defScope s_check_divisor) (.ref dT_check_divisor) kV_check_divisor dc_check_divisor pm_check_divisor an_check_divisor cd_check_divisor ct_check_divisor), sl_check_divisor⟩)
    (c_check_divisor : PySem.W.codeIn K cd_check_divisor "check_divisor" = true)
    (kp_check_divisor : PySem.W.keepIn K (.ref a_check_divisor) = true)
    (ldT_check_divisor : K.lookup dT_check_divisor = some ⟨doc_check_divisor, dod_check_divisor, .seq dvs_check_divisor dn_check_divisor, dsl_check_divisor⟩)
    (rdv_check_divisor : dvs_check_divisor = #[.int 100 dt0_check_divisor])
    (df_check_stretch : ∃ (a : Addr) (d : FuncData), PySem.W.nsIn K mainGlobals "check_stretch" = some (some (.ref a)) ∧ Fun K "check_stretch" "check_stretch" s_check_stretch a d)
    (df_check_number : ∃ (a : Addr) (d : FuncData), PySem.W.nsIn K mainGlobals "check_number" = some (some (.ref a)) ∧ Fun K "check_number" "check_number" s_check_number a d)
    (df_block_of : ∃ (a : Addr) (d : FuncData), PySem.W.nsIn K mainGlobals "block_of" = some (some (.ref a)) ∧ Fun K "block_of" "block_of" s_block_of a d)
    (df_trail : ∃ (a : Addr) (d : FuncData), PySem.W.nsIn K mainGlobals "trail" = some (some (.ref a)) ∧ Fun K "trail" "trail" s_trail a d)
    (df_ahead : ∃ (a : Addr) (d : FuncData), PySem.W.nsIn K mainGlobals "ahead" = some (some (.ref a)) ∧ Fun K "ahead" "ahead" s_ahead a d)
    (df_check_trick : ∃ (a : Addr) (d : FuncData), PySem.W.nsIn K mainGlobals "check_trick" = some (some (.ref a)) ∧ Fun K "check_trick" "check_trick" s_check_trick a d)
    (df_trick_block : ∃ (a : Addr) (d : FuncData), PySem.W.nsIn K mainGlobals "trick_block" = some (some (.ref a)) ∧ Fun K "trick_block" "trick_block" s_trick_block a d)
    (df_made_of : ∃ (a : Addr) (d : FuncData), PySem.W.nsIn K mainGlobals "made_of" = some (some (.ref a)) ∧ Fun K "made_of" "made_of" s_made_of a d)
    (df_made_with : ∃ (a : Addr) (d : FuncData), PySem.W.nsIn K mainGlobals "made_with" = some (some (.ref a)) ∧ Fun K "made_with" "made_with" s_made_with a d)
    (df_bound : ∃ (a : Addr) (d : FuncData), PySem.W.nsIn K mainGlobals "bound" = some (some (.ref a)) ∧ Fun K "bound" "bound" s_bound a d)
    (df_rings : ∃ (a : Addr) (d : FuncData), PySem.W.nsIn K mainGlobals "rings" = some (some (.ref a)) ∧ Fun K "rings" "rings" s_rings a d)
    (df_greatest_size : ∃ (a : Addr) (d : FuncData), PySem.W.nsIn K mainGlobals "greatest_size" = some (some (.ref a)) ∧ Fun K "greatest_size" "greatest_size" s_greatest_size a d)
    (df_rounded_up : ∃ (a : Addr) (d : FuncData), PySem.W.nsIn K mainGlobals "rounded_up" = some (some (.ref a)) ∧ Fun K "rounded_up" "rounded_up" s_rounded_up a d)
    (df_unseen_path : ∃ (a : Addr) (d : FuncData), PySem.W.nsIn K mainGlobals "unseen_path" = some (some (.ref a)) ∧ Fun K "unseen_path" "unseen_path" s_unseen_path a d)
    (df_ring_at_end : ∃ (a : Addr) (d : FuncData), PySem.W.nsIn K mainGlobals "ring_at_end" = some (some (.ref a)) ∧ Fun K "ring_at_end" "ring_at_end" s_ring_at_end a d)
    (df_chained : ∃ (a : Addr) (d : FuncData), PySem.W.nsIn K mainGlobals "chained" = some (some (.ref a)) ∧ Fun K "chained" "chained" s_chained a d)
    (df_chain_tells : ∃ (a : Addr) (d : FuncData), PySem.W.nsIn K mainGlobals "chain_tells" = some (some (.ref a)) ∧ Fun K "chain_tells" "chain_tells" s_chain_tells a d)
    (df_check_tricks : ∃ (a : Addr) (d : FuncData), PySem.W.nsIn K mainGlobals "check_tricks" = some (some (.ref a)) ∧ Fun K "check_tricks" "check_tricks" s_check_tricks a d)
    (df_check_chain : ∃ (a : Addr) (d : FuncData), PySem.W.nsIn K mainGlobals "check_chain" = some (some (.ref a)) ∧ Fun K "check_chain" "check_chain" s_check_chain a d)
    (df_made_of_all : ∃ (a : Addr) (d : FuncData), PySem.W.nsIn K mainGlobals "made_of_all" = some (some (.ref a)) ∧ Fun K "made_of_all" "made_of_all" s_made_of_all a d)
    (df_blocks_product : ∃ (a : Addr) (d : FuncData), PySem.W.nsIn K mainGlobals "blocks_product" = some (some (.ref a)) ∧ Fun K "blocks_product" "blocks_product" s_blocks_product a d)
    (df_rest_pairs : ∃ (a : Addr) (d : FuncData), PySem.W.nsIn K mainGlobals "rest_pairs" = some (some (.ref a)) ∧ Fun K "rest_pairs" "rest_pairs" s_rest_pairs a d)
    (df_slip : ∃ (a : Addr) (d : FuncData), PySem.W.nsIn K mainGlobals "slip" = some (some (.ref a)) ∧ Fun K "slip" "slip" s_slip a d)
    (df_swap : ∃ (a : Addr) (d : FuncData), PySem.W.nsIn K mainGlobals "swap" = some (some (.ref a)) ∧ Fun K "swap" "swap" s_swap a d)
    (df_good_divisors : ∃ (a : Addr) (d : FuncData), PySem.W.nsIn K mainGlobals "good_divisors" = some (some (.ref a)) ∧ Fun K "good_divisors" "good_divisors" s_good_divisors a d)
    (df_check_length : ∃ (a : Addr) (d : FuncData), PySem.W.nsIn K mainGlobals "check_length" = some (some (.ref a)) ∧ Fun K "check_length" "check_length" s_check_length a d)
    (df_least_unseen : ∃ (a : Addr) (d : FuncData), PySem.W.nsIn K mainGlobals "least_unseen" = some (some (.ref a)) ∧ Fun K "least_unseen" "least_unseen" s_least_unseen a d)
    (df_multipliers : ∃ (a : Addr) (d : FuncData), PySem.W.nsIn K mainGlobals "multipliers" = some (some (.ref a)) ∧ Fun K "multipliers" "multipliers" s_multipliers a d)
    (df_divisors : ∃ (a : Addr) (d : FuncData), PySem.W.nsIn K mainGlobals "divisors" = some (some (.ref a)) ∧ Fun K "divisors" "divisors" s_divisors a d)
    (df_tells_multiples : ∃ (a : Addr) (d : FuncData), PySem.W.nsIn K mainGlobals "tells_multiples" = some (some (.ref a)) ∧ Fun K "tells_multiples" "tells_multiples" s_tells_multiples a d)
    (df_fitting : ∃ (a : Addr) (d : FuncData), PySem.W.nsIn K mainGlobals "fitting" = some (some (.ref a)) ∧ Fun K "fitting" "fitting" s_fitting a d)
    (df_check_pairs : ∃ (a : Addr) (d : FuncData), PySem.W.nsIn K mainGlobals "check_pairs" = some (some (.ref a)) ∧ Fun K "check_pairs" "check_pairs" s_check_pairs a d)
    (df_is_pair : ∃ (a : Addr) (d : FuncData), PySem.W.nsIn K mainGlobals "is_pair" = some (some (.ref a)) ∧ Fun K "is_pair" "is_pair" s_is_pair a d)
    (df_fitting_times : ∃ (a : Addr) (d : FuncData), PySem.W.nsIn K mainGlobals "fitting_times" = some (some (.ref a)) ∧ Fun K "fitting_times" "fitting_times" s_fitting_times a d)
    (df__law_taken : ∃ (a : Addr) (d : FuncData), PySem.W.nsIn K mainGlobals "_law_taken" = some (some (.ref a)) ∧ Fun K "_law_taken" "_law_taken" s__law_taken a d)
    (df__law_power : ∃ (a : Addr) (d : FuncData), PySem.W.nsIn K mainGlobals "_law_power" = some (some (.ref a)) ∧ Fun K "_law_power" "_law_power" s__law_power a d)
    (df__law_trick : ∃ (a : Addr) (d : FuncData), PySem.W.nsIn K mainGlobals "_law_trick" = some (some (.ref a)) ∧ Fun K "_law_trick" "_law_trick" s__law_trick a d)
    (df__law_behind : ∃ (a : Addr) (d : FuncData), PySem.W.nsIn K mainGlobals "_law_behind" = some (some (.ref a)) ∧ Fun K "_law_behind" "_law_behind" s__law_behind a d)
    (df__law_number : ∃ (a : Addr) (d : FuncData), PySem.W.nsIn K mainGlobals "_law_number" = some (some (.ref a)) ∧ Fun K "_law_number" "_law_number" s__law_number a d)
    (df__law_chain : ∃ (a : Addr) (d : FuncData), PySem.W.nsIn K mainGlobals "_law_chain" = some (some (.ref a)) ∧ Fun K "_law_chain" "_law_chain" s__law_chain a d)
    (df__law_tricks : ∃ (a : Addr) (d : FuncData), PySem.W.nsIn K mainGlobals "_law_tricks" = some (some (.ref a)) ∧ Fun K "_law_tricks" "_law_tricks" s__law_tricks a d)
    (df__law_told : ∃ (a : Addr) (d : FuncData), PySem.W.nsIn K mainGlobals "_law_told" = some (some (.ref a)) ∧ Fun K "_law_told" "_law_told" s__law_told a d)
    (gf_law : PySem.W.nsIn K mainGlobals "law" = some (some (.ref a_law)))
    (l_law : K.lookup a_law = some ⟨oc_law, od_law, .func (PySem.W.fnOf "law" "law" (defArgs s_law) (defBody s_law) (defScope s_law) .none kV_law dc_law pm_law an_law cd_law ct_law), sl_law⟩)
    (c_law : PySem.W.codeIn K cd_law "law" = true)
    (kp_law : PySem.W.keepIn K (.ref a_law) = true)
    (gx_Trick : PySem.W.nsIn K mainGlobals "Trick" = some (some (.ref C_Trick)))
    (pg_Trick : PySem.W.plainGet K C_Trick Str.empty = true)
    (hd_Trick : PySem.W.hasDictIn K C_Trick = true)
    (po_Trick : PySem.W.plainOver K C_Trick = true)
    (sa_Trick : PySem.W.findIn K (.ref C_Trick) "__setattr__" = some (some (.builtin "object.__setattr__")))
    (mk_Trick : PySem.W.makesIn K C_Trick = true)
    (kc_Trick : PySem.W.keepIn K (.ref C_Trick) = true)
    (cc_Trick : PySem.W.findIn K (.ref C_Trick) "__class__" = some (some (.builtin "object.__class__")))
    (mo_Trick : PySem.W.mroIn K C_Trick (.type "object") = some true)
    (sp_cls : PySem.W.specialIn K (.builtin "object.__class__") "__get__" = some (some (.builtin "getset_descriptor.__get__")))
    (tk_cls : PySem.W.takesIn K (.builtin "object.__class__") = some true)
    (ki_Trick_int : PySem.W.kitOne K (.ref C_Trick) (.type "int") = some false)
    (ki_Trick_bool : PySem.W.kitOne K (.ref C_Trick) (.type "bool") = some false)
    (ki_Trick_tuple : PySem.W.kitOne K (.ref C_Trick) (.type "tuple") = some false)
    (ki_Trick_list : PySem.W.kitOne K (.ref C_Trick) (.type "list") = some false)
    (nf_Trick_tuple : PySem.W.subIn K (.type "tuple") (.ref C_Trick) = some false)
    (kis_Trick : PySem.W.kitOne K (.ref C_Trick) (.ref C_Trick) = some true)
    (kin_Trick_int : PySem.W.kitOne K (.type "int") (.ref C_Trick) = some false)
    (kin_Trick_bool : PySem.W.kitOne K (.type "bool") (.ref C_Trick) = some false)
    (kin_Trick_tuple : PySem.W.kitOne K (.type "tuple") (.ref C_Trick) = some false)
    (kin_Trick_list : PySem.W.kitOne K (.type "list") (.ref C_Trick) = some false)
    (kin_Trick_NoneType : PySem.W.kitOne K (.type "NoneType") (.ref C_Trick) = some false)
    (kin_Trick_str : PySem.W.kitOne K (.type "str") (.ref C_Trick) = some false)
    (kin_Trick_dict : PySem.W.kitOne K (.type "dict") (.ref C_Trick) = some false)
    (na_Trick_base : PySem.W.findIn K (.ref C_Trick) "_base" = some none)
    (na_Trick_take : PySem.W.findIn K (.ref C_Trick) "_take" = some none)
    (na_Trick_times : PySem.W.findIn K (.ref C_Trick) "_times" = some none)
    (gf_Trick___init__ : PySem.W.findIn K (.ref C_Trick) "__init__" = some (some (.ref a_Trick___init__)))
    (l_Trick___init__ : K.lookup a_Trick___init__ = some ⟨oc_Trick___init__, od_Trick___init__, .func (PySem.W.fnOf "__init__" "Trick.__init__" (defArgs s_Trick___init__) (defBody s_Trick___init__) (defScope s_Trick___init__) .none kV_Trick___init__ dc_Trick___init__ pm_Trick___init__ an_Trick___init__ cd_Trick___init__ ct_Trick___init__), sl_Trick___init__⟩)
    (c_Trick___init__ : PySem.W.codeIn K cd_Trick___init__ "Trick.__init__" = true)
    (kp_Trick___init__ : PySem.W.keepIn K (.ref a_Trick___init__) = true)
    (isf_Trick___init__ : PySem.W.isFn K (.ref a_Trick___init__) = true)
    (pa_Trick_base : PySem.W.findIn K (.ref C_Trick) "base" = some (some (.ref pr_Trick_base)))
    (pg_Trick_base : PySem.W.specialIn K (.ref pr_Trick_base) "__get__" = some (some (.builtin "property.__get__")))
    (pt_Trick_base : PySem.W.takesIn K (.ref pr_Trick_base) = some true)
    (prr_Trick_base : PySem.W.recIn K pr_Trick_base "property" = some (.ref a_Trick_base :: rs_Trick_base))
    (l_Trick_base : K.lookup a_Trick_base = some ⟨oc_Trick_base, od_Trick_base, .func (PySem.W.fnOf "base" "Trick.base" (defArgs s_Trick_base) (defBody s_Trick_base) (defScope s_Trick_base) .none kV_Trick_base dc_Trick_base pm_Trick_base an_Trick_base cd_Trick_base ct_Trick_base), sl_Trick_base⟩)
    (c_Trick_base : PySem.W.codeIn K cd_Trick_base "Trick.base" = true)
    (kp_Trick_base : PySem.W.keepIn K (.ref a_Trick_base) = true)
    (pa_Trick_take : PySem.W.findIn K (.ref C_Trick) "take" = some (some (.ref pr_Trick_take)))
    (pg_Trick_take : PySem.W.specialIn K (.ref pr_Trick_take) "__get__" = some (some (.builtin "property.__get__")))
    (pt_Trick_take : PySem.W.takesIn K (.ref pr_Trick_take) = some true)
    (prr_Trick_take : PySem.W.recIn K pr_Trick_take "property" = some (.ref a_Trick_take :: rs_Trick_take))
    (l_Trick_take : K.lookup a_Trick_take = some ⟨oc_Trick_take, od_Trick_take, .func (PySem.W.fnOf "take" "Trick.take" (defArgs s_Trick_take) (defBody s_Trick_take) (defScope s_Trick_take) .none kV_Trick_take dc_Trick_take pm_Trick_take an_Trick_take cd_Trick_take ct_Trick_take), sl_Trick_take⟩)
    (c_Trick_take : PySem.W.codeIn K cd_Trick_take "Trick.take" = true)
    (kp_Trick_take : PySem.W.keepIn K (.ref a_Trick_take) = true)
    (pa_Trick_times : PySem.W.findIn K (.ref C_Trick) "times" = some (some (.ref pr_Trick_times)))
    (pg_Trick_times : PySem.W.specialIn K (.ref pr_Trick_times) "__get__" = some (some (.builtin "property.__get__")))
    (pt_Trick_times : PySem.W.takesIn K (.ref pr_Trick_times) = some true)
    (prr_Trick_times : PySem.W.recIn K pr_Trick_times "property" = some (.ref a_Trick_times :: rs_Trick_times))
    (l_Trick_times : K.lookup a_Trick_times = some ⟨oc_Trick_times, od_Trick_times, .func (PySem.W.fnOf "times" "Trick.times" (defArgs s_Trick_times) (defBody s_Trick_times) (defScope s_Trick_times) .none kV_Trick_times dc_Trick_times pm_Trick_times an_Trick_times cd_Trick_times ct_Trick_times), sl_Trick_times⟩)
    (c_Trick_times : PySem.W.codeIn K cd_Trick_times "Trick.times" = true)
    (kp_Trick_times : PySem.W.keepIn K (.ref a_Trick_times) = true)
    (gf_Trick___eq__ : PySem.W.findIn K (.ref C_Trick) "__eq__" = some (some (.ref a_Trick___eq__)))
    (l_Trick___eq__ : K.lookup a_Trick___eq__ = some ⟨oc_Trick___eq__, od_Trick___eq__, .func (PySem.W.fnOf "__eq__" "Trick.__eq__" (defArgs s_Trick___eq__) (defBody s_Trick___eq__) (defScope s_Trick___eq__) .none kV_Trick___eq__ dc_Trick___eq__ pm_Trick___eq__ an_Trick___eq__ cd_Trick___eq__ ct_Trick___eq__), sl_Trick___eq__⟩)
    (c_Trick___eq__ : PySem.W.codeIn K cd_Trick___eq__ "Trick.__eq__" = true)
    (kp_Trick___eq__ : PySem.W.keepIn K (.ref a_Trick___eq__) = true)
    (isf_Trick___eq__ : PySem.W.isFn K (.ref a_Trick___eq__) = true)
    (gx_Reckoner : PySem.W.nsIn K mainGlobals "Reckoner" = some (some (.ref C_Reckoner)))
    (pg_Reckoner : PySem.W.plainGet K C_Reckoner Str.empty = true)
    (hd_Reckoner : PySem.W.hasDictIn K C_Reckoner = true)
    (po_Reckoner : PySem.W.plainOver K C_Reckoner = true)
    (sa_Reckoner : PySem.W.findIn K (.ref C_Reckoner) "__setattr__" = some (some (.builtin "object.__setattr__")))
    (mk_Reckoner : PySem.W.makesIn K C_Reckoner = true)
    (kc_Reckoner : PySem.W.keepIn K (.ref C_Reckoner) = true)
    (cc_Reckoner : PySem.W.findIn K (.ref C_Reckoner) "__class__" = some (some (.builtin "object.__class__")))
    (mo_Reckoner : PySem.W.mroIn K C_Reckoner (.type "object") = some true)
    (ki_Reckoner_int : PySem.W.kitOne K (.ref C_Reckoner) (.type "int") = some false)
    (ki_Reckoner_bool : PySem.W.kitOne K (.ref C_Reckoner) (.type "bool") = some false)
    (ki_Reckoner_tuple : PySem.W.kitOne K (.ref C_Reckoner) (.type "tuple") = some false)
    (ki_Reckoner_list : PySem.W.kitOne K (.ref C_Reckoner) (.type "list") = some false)
    (kis_Reckoner : PySem.W.kitOne K (.ref C_Reckoner) (.ref C_Reckoner) = some true)
    (kin_Reckoner_int : PySem.W.kitOne K (.type "int") (.ref C_Reckoner) = some false)
    (kin_Reckoner_bool : PySem.W.kitOne K (.type "bool") (.ref C_Reckoner) = some false)
    (kin_Reckoner_tuple : PySem.W.kitOne K (.type "tuple") (.ref C_Reckoner) = some false)
    (kin_Reckoner_list : PySem.W.kitOne K (.type "list") (.ref C_Reckoner) = some false)
    (kin_Reckoner_NoneType : PySem.W.kitOne K (.type "NoneType") (.ref C_Reckoner) = some false)
    (kin_Reckoner_str : PySem.W.kitOne K (.type "str") (.ref C_Reckoner) = some false)
    (kin_Reckoner_dict : PySem.W.kitOne K (.type "dict") (.ref C_Reckoner) = some false)
    (na_Reckoner_numbers : PySem.W.findIn K (.ref C_Reckoner) "_numbers" = some none)
    (na_Reckoner_tricks : PySem.W.findIn K (.ref C_Reckoner) "_tricks" = some none)
    (gf_Reckoner___init__ : PySem.W.findIn K (.ref C_Reckoner) "__init__" = some (some (.ref a_Reckoner___init__)))
    (l_Reckoner___init__ : K.lookup a_Reckoner___init__ = some ⟨oc_Reckoner___init__, od_Reckoner___init__, .func (PySem.W.fnOf "__init__" "Reckoner.__init__" (defArgs s_Reckoner___init__) (defBody s_Reckoner___init__) (defScope s_Reckoner___init__) .none kV_Reckoner___init__ dc_Reckoner___init__ pm_Reckoner___init__ an_Reckoner___init__ cd_Reckoner___init__ ct_Reckoner___init__), sl_Reckoner___init__⟩)
    (c_Reckoner___init__ : PySem.W.codeIn K cd_Reckoner___init__ "Reckoner.__init__" = true)
    (kp_Reckoner___init__ : PySem.W.keepIn K (.ref a_Reckoner___init__) = true)
    (isf_Reckoner___init__ : PySem.W.isFn K (.ref a_Reckoner___init__) = true)
    (pa_Reckoner_now : PySem.W.findIn K (.ref C_Reckoner) "now" = some (some (.ref pr_Reckoner_now)))
    (pg_Reckoner_now : PySem.W.specialIn K (.ref pr_Reckoner_now) "__get__" = some (some (.builtin "property.__get__")))
    (pt_Reckoner_now : PySem.W.takesIn K (.ref pr_Reckoner_now) = some true)
    (prr_Reckoner_now : PySem.W.recIn K pr_Reckoner_now "property" = some (.ref a_Reckoner_now :: rs_Reckoner_now))
    (l_Reckoner_now : K.lookup a_Reckoner_now = some ⟨oc_Reckoner_now, od_Reckoner_now, .func (PySem.W.fnOf "now" "Reckoner.now" (defArgs s_Reckoner_now) (defBody s_Reckoner_now) (defScope s_Reckoner_now) .none kV_Reckoner_now dc_Reckoner_now pm_Reckoner_now an_Reckoner_now cd_Reckoner_now ct_Reckoner_now), sl_Reckoner_now⟩)
    (c_Reckoner_now : PySem.W.codeIn K cd_Reckoner_now "Reckoner.now" = true)
    (kp_Reckoner_now : PySem.W.keepIn K (.ref a_Reckoner_now) = true)
    (pa_Reckoner_tricks : PySem.W.findIn K (.ref C_Reckoner) "tricks" = some (some (.ref pr_Reckoner_tricks)))
    (pg_Reckoner_tricks : PySem.W.specialIn K (.ref pr_Reckoner_tricks) "__get__" = some (some (.builtin "property.__get__")))
    (pt_Reckoner_tricks : PySem.W.takesIn K (.ref pr_Reckoner_tricks) = some true)
    (prr_Reckoner_tricks : PySem.W.recIn K pr_Reckoner_tricks "property" = some (.ref a_Reckoner_tricks :: rs_Reckoner_tricks))
    (l_Reckoner_tricks : K.lookup a_Reckoner_tricks = some ⟨oc_Reckoner_tricks, od_Reckoner_tricks, .func (PySem.W.fnOf "tricks" "Reckoner.tricks" (defArgs s_Reckoner_tricks) (defBody s_Reckoner_tricks) (defScope s_Reckoner_tricks) .none kV_Reckoner_tricks dc_Reckoner_tricks pm_Reckoner_tricks an_Reckoner_tricks cd_Reckoner_tricks ct_Reckoner_tricks), sl_Reckoner_tricks⟩)
    (c_Reckoner_tricks : PySem.W.codeIn K cd_Reckoner_tricks "Reckoner.tricks" = true)
    (kp_Reckoner_tricks : PySem.W.keepIn K (.ref a_Reckoner_tricks) = true)
    (gf_Reckoner_step : PySem.W.findIn K (.ref C_Reckoner) "step" = some (some (.ref a_Reckoner_step)))
    (l_Reckoner_step : K.lookup a_Reckoner_step = some ⟨oc_Reckoner_step, od_Reckoner_step, .func (PySem.W.fnOf "step" "Reckoner.step" (defArgs s_Reckoner_step) (defBody s_Reckoner_step) (defScope s_Reckoner_step) .none kV_Reckoner_step dc_Reckoner_step pm_Reckoner_step an_Reckoner_step cd_Reckoner_step ct_Reckoner_step), sl_Reckoner_step⟩)
    (c_Reckoner_step : PySem.W.codeIn K cd_Reckoner_step "Reckoner.step" = true)
    (kp_Reckoner_step : PySem.W.keepIn K (.ref a_Reckoner_step) = true)
    (isf_Reckoner_step : PySem.W.isFn K (.ref a_Reckoner_step) = true)
    (gf_Reckoner_undo : PySem.W.findIn K (.ref C_Reckoner) "undo" = some (some (.ref a_Reckoner_undo)))
    (l_Reckoner_undo : K.lookup a_Reckoner_undo = some ⟨oc_Reckoner_undo, od_Reckoner_undo, .func (PySem.W.fnOf "undo" "Reckoner.undo" (defArgs s_Reckoner_undo) (defBody s_Reckoner_undo) (defScope s_Reckoner_undo) .none kV_Reckoner_undo dc_Reckoner_undo pm_Reckoner_undo an_Reckoner_undo cd_Reckoner_undo ct_Reckoner_undo), sl_Reckoner_undo⟩)
    (c_Reckoner_undo : PySem.W.codeIn K cd_Reckoner_undo "Reckoner.undo" = true)
    (kp_Reckoner_undo : PySem.W.keepIn K (.ref a_Reckoner_undo) = true)
    (isf_Reckoner_undo : PySem.W.isFn K (.ref a_Reckoner_undo) = true)
    (gf_Reckoner_copy : PySem.W.findIn K (.ref C_Reckoner) "copy" = some (some (.ref a_Reckoner_copy)))
    (l_Reckoner_copy : K.lookup a_Reckoner_copy = some ⟨oc_Reckoner_copy, od_Reckoner_copy, .func (PySem.W.fnOf "copy" "Reckoner.copy" (defArgs s_Reckoner_copy) (defBody s_Reckoner_copy) (defScope s_Reckoner_copy) .none kV_Reckoner_copy dc_Reckoner_copy pm_Reckoner_copy an_Reckoner_copy cd_Reckoner_copy ct_Reckoner_copy), sl_Reckoner_copy⟩)
    (c_Reckoner_copy : PySem.W.codeIn K cd_Reckoner_copy "Reckoner.copy" = true)
    (kp_Reckoner_copy : PySem.W.keepIn K (.ref a_Reckoner_copy) = true)
    (isf_Reckoner_copy : PySem.W.isFn K (.ref a_Reckoner_copy) = true)
    (gf_Reckoner___len__ : PySem.W.findIn K (.ref C_Reckoner) "__len__" = some (some (.ref a_Reckoner___len__)))
    (l_Reckoner___len__ : K.lookup a_Reckoner___len__ = some ⟨oc_Reckoner___len__, od_Reckoner___len__, .func (PySem.W.fnOf "__len__" "Reckoner.__len__" (defArgs s_Reckoner___len__) (defBody s_Reckoner___len__) (defScope s_Reckoner___len__) .none kV_Reckoner___len__ dc_Reckoner___len__ pm_Reckoner___len__ an_Reckoner___len__ cd_Reckoner___len__ ct_Reckoner___len__), sl_Reckoner___len__⟩)
    (c_Reckoner___len__ : PySem.W.codeIn K cd_Reckoner___len__ "Reckoner.__len__" = true)
    (kp_Reckoner___len__ : PySem.W.keepIn K (.ref a_Reckoner___len__) = true)
    (isf_Reckoner___len__ : PySem.W.isFn K (.ref a_Reckoner___len__) = true)
    (z_int : PySem.W.nsIn K mainGlobals "int" = some none)
    (z_bool : PySem.W.nsIn K mainGlobals "bool" = some none)
    (z_len : PySem.W.nsIn K mainGlobals "len" = some none)
    (z_range : PySem.W.nsIn K mainGlobals "range" = some none)
    (z_isinstance : PySem.W.nsIn K mainGlobals "isinstance" = some none)
    (z_tuple : PySem.W.nsIn K mainGlobals "tuple" = some none)
    (z_list : PySem.W.nsIn K mainGlobals "list" = some none)
    (z_sorted : PySem.W.nsIn K mainGlobals "sorted" = some none)
    (z_enumerate : PySem.W.nsIn K mainGlobals "enumerate" = some none)
    (z_abs : PySem.W.nsIn K mainGlobals "abs" = some none)
    (z_all : PySem.W.nsIn K mainGlobals "all" = some none)
    (z_min : PySem.W.nsIn K mainGlobals "min" = some none)
    (z_max : PySem.W.nsIn K mainGlobals "max" = some none)
    (z_super : PySem.W.nsIn K mainGlobals "super" = some none)
    (z_ValueError : PySem.W.nsIn K mainGlobals "ValueError" = some none)
    (xl_BadNumber___init__ : K.lookup C_BadNumber = some (PySem.excClassObj nm_BadNumber___init__ qn_BadNumber___init__ C_BadNumber N_BadNumber___init__ bs_BadNumber___init__ bm_BadNumber___init__ true sn_BadNumber___init__ sub_BadNumber___init__ ab_BadNumber___init__ col_BadNumber___init__ dd_BadNumber___init__ k0_BadNumber___init__ k1_BadNumber___init__ k2_BadNumber___init__ k3_BadNumber___init__ k5_BadNumber___init__ "ValueError.__new__"))
    (xrb_BadNumber___init__ : PySem.HandSPX.refsVE bm_BadNumber___init__ = true)
    (xsa_BadNumber___init__ : PySem.W.findIn K (.ref C_BadNumber) "__setattr__" = some (some (.builtin "object.__setattr__")))
    (xga_BadNumber___init__ : PySem.W.findIn K (.ref C_BadNumber) "__getattribute__" = some (some (.builtin "BaseException.__getattribute__")))
    (xgg_BadNumber___init__ : PySem.W.findIn K (.ref C_BadNumber) "__getattr__" = some none)
    (xnf_BadNumber___init__ : PySem.W.findIn K (.ref C_BadNumber) "n" = some none)
    (xic_BadNumber___init__ : PySem.W.findIn K (.ref C_BadNumber) "__init__" = some (some (.ref a_BadNumber___init__)))
    (xtc_BadNumber___init__ : PySem.W.typeIn K (.ref a_BadNumber___init__) = some (.type "function"))
    (xhd_BadNumber___init__ : PySem.W.hasDictIn K C_BadNumber = true)
    (xup_BadNumber___init__ : PySem.W.ks_superIn K C_BadNumber C_BadNumber "__init__" = some (some (.builtin "ValueError.__init__")))
    (xan_BadNumber___init__ : PySem.W.nsIn K PySem.cStatics "thirdparty.any" = some none)
    (xve_BadNumber___init__ : PySem.W.subIn K (.ref C_BadNumber) (.type "ValueError") = some true)
    (xow_BadNumber___init__ : PySem.W.mroIn K C_BadNumber (.ref C_BadNumber) = some true)
    (rmn_BadNumber___init__ : (l.prog.main.scope.names.lookup ("super" : Str)).isSome = false)
    (xfn_BadNumber___init__ : K.lookup a_BadNumber___init__ = some ⟨oc_BadNumber___init__, od_BadNumber___init__, .func (PySem.W.ksFn "__init__" "BadNumber.__init__" (defArgs s_BadNumber___init__) (defBody s_BadNumber___init__) (defScope s_BadNumber___init__) .none .none dc_BadNumber___init__ pm_BadNumber___init__ an_BadNumber___init__ (.ref cda_BadNumber___init__) ct_BadNumber___init__ cc_BadNumber___init__), sl_BadNumber___init__⟩)
    (xco_BadNumber___init__ : PySem.W.codeIn K (.ref cda_BadNumber___init__) "BadNumber.__init__" = true)
    (xcd_BadNumber___init__ : K.lookup cda_BadNumber___init__ = some ⟨ccl_BadNumber___init__, cdd_BadNumber___init__, .fields vs_BadNumber___init__, ccs_BadNumber___init__⟩)
    (rvs_BadNumber___init__ : vs_BadNumber___init__[2]? = some (.str file_BadNumber___init__ tf_BadNumber___init__))
    (rfi_BadNumber___init__ : ((l.prog.main.file : Str) == file_BadNumber___init__) = true)
    (xcc_BadNumber___init__ : K.lookup cc_BadNumber___init__ = some ⟨cl_BadNumber___init__, cld_BadNumber___init__, .cell (some (.ref C_BadNumber)), csl_BadNumber___init__⟩)
    (xl_BadTricks___init__ : K.lookup C_BadTricks = some (PySem.excClassObj nm_BadTricks___init__ qn_BadTricks___init__ C_BadTricks N_BadTricks___init__ bs_BadTricks___init__ bm_BadTricks___init__ true sn_BadTricks___init__ sub_BadTricks___init__ ab_BadTricks___init__ col_BadTricks___init__ dd_BadTricks___init__ k0_BadTricks___init__ k1_BadTricks___init__ k2_BadTricks___init__ k3_BadTricks___init__ k5_BadTricks___init__ "ValueError.__new__"))
    (xrb_BadTricks___init__ : PySem.HandSPX.refsVE bm_BadTricks___init__ = true)
    (xsa_BadTricks___init__ : PySem.W.findIn K (.ref C_BadTricks) "__setattr__" = some (some (.builtin "object.__setattr__")))
    (xga_BadTricks___init__ : PySem.W.findIn K (.ref C_BadTricks) "__getattribute__" = some (some (.builtin "BaseException.__getattribute__")))
    (xgg_BadTricks___init__ : PySem.W.findIn K (.ref C_BadTricks) "__getattr__" = some none)
    (xnf_BadTricks___init__ : PySem.W.findIn K (.ref C_BadTricks) "index" = some none)
    (xic_BadTricks___init__ : PySem.W.findIn K (.ref C_BadTricks) "__init__" = some (some (.ref a_BadTricks___init__)))
    (xtc_BadTricks___init__ : PySem.W.typeIn K (.ref a_BadTricks___init__) = some (.type "function"))
    (xhd_BadTricks___init__ : PySem.W.hasDictIn K C_BadTricks = true)
    (xup_BadTricks___init__ : PySem.W.ks_superIn K C_BadTricks C_BadTricks "__init__" = some (some (.builtin "ValueError.__init__")))
    (xan_BadTricks___init__ : PySem.W.nsIn K PySem.cStatics "thirdparty.any" = some none)
    (xve_BadTricks___init__ : PySem.W.subIn K (.ref C_BadTricks) (.type "ValueError") = some true)
    (xow_BadTricks___init__ : PySem.W.mroIn K C_BadTricks (.ref C_BadTricks) = some true)
    (rmn_BadTricks___init__ : (l.prog.main.scope.names.lookup ("super" : Str)).isSome = false)
    (xfn_BadTricks___init__ : K.lookup a_BadTricks___init__ = some ⟨oc_BadTricks___init__, od_BadTricks___init__, .func (PySem.W.ksFn "__init__" "BadTricks.__init__" (defArgs s_BadTricks___init__) (defBody s_BadTricks___init__) (defScope s_BadTricks___init__) .none .none dc_BadTricks___init__ pm_BadTricks___init__ an_BadTricks___init__ (.ref cda_BadTricks___init__) ct_BadTricks___init__ cc_BadTricks___init__), sl_BadTricks___init__⟩)
    (xco_BadTricks___init__ : PySem.W.codeIn K (.ref cda_BadTricks___init__) "BadTricks.__init__" = true)
    (xcd_BadTricks___init__ : K.lookup cda_BadTricks___init__ = some ⟨ccl_BadTricks___init__, cdd_BadTricks___init__, .fields vs_BadTricks___init__, ccs_BadTricks___init__⟩)
    (rvs_BadTricks___init__ : vs_BadTricks___init__[2]? = some (.str file_BadTricks___init__ tf_BadTricks___init__))
    (rfi_BadTricks___init__ : ((l.prog.main.file : Str) == file_BadTricks___init__) = true)
    (xcc_BadTricks___init__ : K.lookup cc_BadTricks___init__ = some ⟨cl_BadTricks___init__, cld_BadTricks___init__, .cell (some (.ref C_BadTricks)), csl_BadTricks___init__⟩)
    (xl_BadPairs___init__ : K.lookup C_BadPairs = some (PySem.excClassObj nm_BadPairs___init__ qn_BadPairs___init__ C_BadPairs N_BadPairs___init__ bs_BadPairs___init__ bm_BadPairs___init__ true sn_BadPairs___init__ sub_BadPairs___init__ ab_BadPairs___init__ col_BadPairs___init__ dd_BadPairs___init__ k0_BadPairs___init__ k1_BadPairs___init__ k2_BadPairs___init__ k3_BadPairs___init__ k5_BadPairs___init__ "ValueError.__new__"))
    (xrb_BadPairs___init__ : PySem.HandSPX.refsVE bm_BadPairs___init__ = true)
    (xsa_BadPairs___init__ : PySem.W.findIn K (.ref C_BadPairs) "__setattr__" = some (some (.builtin "object.__setattr__")))
    (xga_BadPairs___init__ : PySem.W.findIn K (.ref C_BadPairs) "__getattribute__" = some (some (.builtin "BaseException.__getattribute__")))
    (xgg_BadPairs___init__ : PySem.W.findIn K (.ref C_BadPairs) "__getattr__" = some none)
    (xnf_BadPairs___init__ : PySem.W.findIn K (.ref C_BadPairs) "index" = some none)
    (xic_BadPairs___init__ : PySem.W.findIn K (.ref C_BadPairs) "__init__" = some (some (.ref a_BadPairs___init__)))
    (xtc_BadPairs___init__ : PySem.W.typeIn K (.ref a_BadPairs___init__) = some (.type "function"))
    (xhd_BadPairs___init__ : PySem.W.hasDictIn K C_BadPairs = true)
    (xup_BadPairs___init__ : PySem.W.ks_superIn K C_BadPairs C_BadPairs "__init__" = some (some (.builtin "ValueError.__init__")))
    (xan_BadPairs___init__ : PySem.W.nsIn K PySem.cStatics "thirdparty.any" = some none)
    (xve_BadPairs___init__ : PySem.W.subIn K (.ref C_BadPairs) (.type "ValueError") = some true)
    (xow_BadPairs___init__ : PySem.W.mroIn K C_BadPairs (.ref C_BadPairs) = some true)
    (rmn_BadPairs___init__ : (l.prog.main.scope.names.lookup ("super" : Str)).isSome = false)
    (xfn_BadPairs___init__ : K.lookup a_BadPairs___init__ = some ⟨oc_BadPairs___init__, od_BadPairs___init__, .func (PySem.W.ksFn "__init__" "BadPairs.__init__" (defArgs s_BadPairs___init__) (defBody s_BadPairs___init__) (defScope s_BadPairs___init__) .none .none dc_BadPairs___init__ pm_BadPairs___init__ an_BadPairs___init__ (.ref cda_BadPairs___init__) ct_BadPairs___init__ cc_BadPairs___init__), sl_BadPairs___init__⟩)
    (xco_BadPairs___init__ : PySem.W.codeIn K (.ref cda_BadPairs___init__) "BadPairs.__init__" = true)
    (xcd_BadPairs___init__ : K.lookup cda_BadPairs___init__ = some ⟨ccl_BadPairs___init__, cdd_BadPairs___init__, .fields vs_BadPairs___init__, ccs_BadPairs___init__⟩)
    (rvs_BadPairs___init__ : vs_BadPairs___init__[2]? = some (.str file_BadPairs___init__ tf_BadPairs___init__))
    (rfi_BadPairs___init__ : ((l.prog.main.file : Str) == file_BadPairs___init__) = true)
    (xcc_BadPairs___init__ : K.lookup cc_BadPairs___init__ = some ⟨cl_BadPairs___init__, cld_BadPairs___init__, .cell (some (.ref C_BadPairs)), csl_BadPairs___init__⟩)
    (xl_TooWide___init__ : K.lookup C_TooWide = some (PySem.excClassObj nm_TooWide___init__ qn_TooWide___init__ C_TooWide N_TooWide___init__ bs_TooWide___init__ bm_TooWide___init__ true sn_TooWide___init__ sub_TooWide___init__ ab_TooWide___init__ col_TooWide___init__ dd_TooWide___init__ k0_TooWide___init__ k1_TooWide___init__ k2_TooWide___init__ k3_TooWide___init__ k5_TooWide___init__ "ValueError.__new__"))
    (xrb_TooWide___init__ : PySem.HandSPX.refsVE bm_TooWide___init__ = true)
    (xsa_TooWide___init__ : PySem.W.findIn K (.ref C_TooWide) "__setattr__" = some (some (.builtin "object.__setattr__")))
    (xga_TooWide___init__ : PySem.W.findIn K (.ref C_TooWide) "__getattribute__" = some (some (.builtin "BaseException.__getattribute__")))
    (xgg_TooWide___init__ : PySem.W.findIn K (.ref C_TooWide) "__getattr__" = some none)
    (xnf_TooWide___init__ : PySem.W.findIn K (.ref C_TooWide) "most" = some none)
    (xic_TooWide___init__ : PySem.W.findIn K (.ref C_TooWide) "__init__" = some (some (.ref a_TooWide___init__)))
    (xtc_TooWide___init__ : PySem.W.typeIn K (.ref a_TooWide___init__) = some (.type "function"))
    (xhd_TooWide___init__ : PySem.W.hasDictIn K C_TooWide = true)
    (xup_TooWide___init__ : PySem.W.ks_superIn K C_TooWide C_TooWide "__init__" = some (some (.builtin "ValueError.__init__")))
    (xan_TooWide___init__ : PySem.W.nsIn K PySem.cStatics "thirdparty.any" = some none)
    (xve_TooWide___init__ : PySem.W.subIn K (.ref C_TooWide) (.type "ValueError") = some true)
    (xow_TooWide___init__ : PySem.W.mroIn K C_TooWide (.ref C_TooWide) = some true)
    (rmn_TooWide___init__ : (l.prog.main.scope.names.lookup ("super" : Str)).isSome = false)
    (xfn_TooWide___init__ : K.lookup a_TooWide___init__ = some ⟨oc_TooWide___init__, od_TooWide___init__, .func (PySem.W.ksFn "__init__" "TooWide.__init__" (defArgs s_TooWide___init__) (defBody s_TooWide___init__) (defScope s_TooWide___init__) .none .none dc_TooWide___init__ pm_TooWide___init__ an_TooWide___init__ (.ref cda_TooWide___init__) ct_TooWide___init__ cc_TooWide___init__), sl_TooWide___init__⟩)
    (xco_TooWide___init__ : PySem.W.codeIn K (.ref cda_TooWide___init__) "TooWide.__init__" = true)
    (xcd_TooWide___init__ : K.lookup cda_TooWide___init__ = some ⟨ccl_TooWide___init__, cdd_TooWide___init__, .fields vs_TooWide___init__, ccs_TooWide___init__⟩)
    (rvs_TooWide___init__ : vs_TooWide___init__[2]? = some (.str file_TooWide___init__ tf_TooWide___init__))
    (rfi_TooWide___init__ : ((l.prog.main.file : Str) == file_TooWide___init__) = true)
    (xcc_TooWide___init__ : K.lookup cc_TooWide___init__ = some ⟨cl_TooWide___init__, cld_TooWide___init__, .cell (some (.ref C_TooWide)), csl_TooWide___init__⟩)
    : ∃ fd : FuncData, (∀ (s : Shared) (v : Value), BindsTo s fd ⟨[v], []⟩ [("_law_script", v)]) ∧ ∀ base : Heap, K.In base → base.Ns mainGlobals mg → FnOk l.prog w K mg base CX0 lv_law fa fd ["_law_script"] (sp_law K) := by
  have e := hfa.symm.trans (PySem.W.mg_of X G gf_law)
  have e2 : a_law = fa := by cases e; rfl
  subst e2
  obtain ⟨a_is_integer, d_is_integer, gf_is_integer, F_is_integer⟩ := df_is_integer
  obtain ⟨a_is_list_or_tuple, d_is_list_or_tuple, gf_is_list_or_tuple, F_is_list_or_tuple⟩ := df_is_list_or_tuple
  obtain ⟨a_is_number, d_is_number, gf_is_number, F_is_number⟩ := df_is_number
  obtain ⟨a_check_base, d_check_base, gf_check_base, F_check_base⟩ := df_check_base
  obtain ⟨a_check_take, d_check_take, gf_check_take, F_check_take⟩ := df_check_take
  have F_check_divisor : FunD K "check_divisor" "check_divisor" (defArgs s_check_divisor) (defBody s_check_divisor) (defScope s_check_divisor) [.int 100] [] a_check_divisor _ := ⟨⟨_, _, _, _, _, _, _, _, _, _, rfl, l_check_divisor, c_check_divisor, .inr ⟨List.cons_ne_nil _ _, _, _, [.int 100 dt0_check_divisor], _, rfl, ldT_check_divisor, by rw [rdv_check_divisor], (.cons ⟨_, rfl⟩ .nil)⟩, .inl rfl⟩, kp_check_divisor⟩
  obtain ⟨dn0_check_divisor, ro_check_divisor, bo_check_divisor⟩ := F_check_divisor.binds1 (ps := ["d", "greatest"]) 2 1 (List.cons_ne_nil _ _) rfl fun _ _ _ _ _ _ _ us its h1 h2 => match us, its, h1, h2 with | [_, _], [_], _, _ => ⟨_, rfl, rfl⟩
  cases ro_check_divisor
  obtain ⟨ds_check_divisor, rd_check_divisor, bd_check_divisor⟩ := F_check_divisor.binds1 (ps := ["d", "greatest"]) 1 0 (List.cons_ne_nil _ _) rfl fun _ _ _ _ _ _ _ us its h1 h2 => match us, its, h1, h2 with | [_], [_], _, _ => ⟨_, rfl, rfl⟩
  obtain ⟨a_check_stretch, d_check_stretch, gf_check_stretch, F_check_stretch⟩ := df_check_stretch
  obtain ⟨a_check_number, d_check_number, gf_check_number, F_check_number⟩ := df_check_number
  obtain ⟨a_block_of, d_block_of, gf_block_of, F_block_of⟩ := df_block_of
  obtain ⟨a_trail, d_trail, gf_trail, F_trail⟩ := df_trail
  obtain ⟨a_ahead, d_ahead, gf_ahead, F_ahead⟩ := df_ahead
  obtain ⟨a_check_trick, d_check_trick, gf_check_trick, F_check_trick⟩ := df_check_trick
  obtain ⟨a_trick_block, d_trick_block, gf_trick_block, F_trick_block⟩ := df_trick_block
  obtain ⟨a_made_of, d_made_of, gf_made_of, F_made_of⟩ := df_made_of
  obtain ⟨a_made_with, d_made_with, gf_made_with, F_made_with⟩ := df_made_with
  obtain ⟨a_bound, d_bound, gf_bound, F_bound⟩ := df_bound
  obtain ⟨a_rings, d_rings, gf_rings, F_rings⟩ := df_rings
  obtain ⟨a_greatest_size, d_greatest_size, gf_greatest_size, F_greatest_size⟩ := df_greatest_size
  obtain ⟨a_rounded_up, d_rounded_up, gf_rounded_up, F_rounded_up⟩ := df_rounded_up
  obtain ⟨a_unseen_path, d_unseen_path, gf_unseen_path, F_unseen_path⟩ := df_unseen_path
  obtain ⟨a_ring_at_end, d_ring_at_end, gf_ring_at_end, F_ring_at_end⟩ := df_ring_at_end
  obtain ⟨a_chained, d_chained, gf_chained, F_chained⟩ := df_chained
  obtain ⟨a_chain_tells, d_chain_tells, gf_chain_tells, F_chain_tells⟩ := df_chain_tells
  obtain ⟨a_check_tricks, d_check_tricks, gf_check_tricks, F_check_tricks⟩ := df_check_tricks
  obtain ⟨a_check_chain, d_check_chain, gf_check_chain, F_check_chain⟩ := df_check_chain
  obtain ⟨a_made_of_all, d_made_of_all, gf_made_of_all, F_made_of_all⟩ := df_made_of_all
  obtain ⟨a_blocks_product, d_blocks_product, gf_blocks_product, F_blocks_product⟩ := df_blocks_product
  obtain ⟨a_rest_pairs, d_rest_pairs, gf_rest_pairs, F_rest_pairs⟩ := df_rest_pairs
  obtain ⟨a_slip, d_slip, gf_slip, F_slip⟩ := df_slip
  obtain ⟨a_swap, d_swap, gf_swap, F_swap⟩ := df_swap
  obtain ⟨a_good_divisors, d_good_divisors, gf_good_divisors, F_good_divisors⟩ := df_good_divisors
  obtain ⟨a_check_length, d_check_length, gf_check_length, F_check_length⟩ := df_check_length
  obtain ⟨a_least_unseen, d_least_unseen, gf_least_unseen, F_least_unseen⟩ := df_least_unseen
  obtain ⟨a_multipliers, d_multipliers, gf_multipliers, F_multipliers⟩ := df_multipliers
  obtain ⟨a_divisors, d_divisors, gf_divisors, F_divisors⟩ := df_divisors
  obtain ⟨a_tells_multiples, d_tells_multiples, gf_tells_multiples, F_tells_multiples⟩ := df_tells_multiples
  obtain ⟨a_fitting, d_fitting, gf_fitting, F_fitting⟩ := df_fitting
  obtain ⟨a_check_pairs, d_check_pairs, gf_check_pairs, F_check_pairs⟩ := df_check_pairs
  obtain ⟨a_is_pair, d_is_pair, gf_is_pair, F_is_pair⟩ := df_is_pair
  obtain ⟨a_fitting_times, d_fitting_times, gf_fitting_times, F_fitting_times⟩ := df_fitting_times
  obtain ⟨a__law_taken, d__law_taken, gf__law_taken, F__law_taken⟩ := df__law_taken
  obtain ⟨a__law_power, d__law_power, gf__law_power, F__law_power⟩ := df__law_power
  obtain ⟨a__law_trick, d__law_trick, gf__law_trick, F__law_trick⟩ := df__law_trick
  obtain ⟨a__law_behind, d__law_behind, gf__law_behind, F__law_behind⟩ := df__law_behind
  obtain ⟨a__law_number, d__law_number, gf__law_number, F__law_number⟩ := df__law_number
  obtain ⟨a__law_chain, d__law_chain, gf__law_chain, F__law_chain⟩ := df__law_chain
  obtain ⟨a__law_tricks, d__law_tricks, gf__law_tricks, F__law_tricks⟩ := df__law_tricks
  obtain ⟨a__law_told, d__law_told, gf__law_told, F__law_told⟩ := df__law_told
  refine ⟨PySem.W.fnOf "law" "law" (defArgs s_law) (defBody s_law) (defScope s_law) .none kV_law dc_law pm_law an_law cd_law ct_law, fun s v => .of_eq rfl, fun base _ _ => ?_⟩
  exact ok_law (T :=
    { C_TrickError := C_TrickError,
      g_TrickError := PySem.W.mg_of X G gx_TrickError,
      x_TrickError := x_TrickError,
      k_TrickError := k_TrickError,
      s_TrickError := s_TrickError,
      t_TrickError := t_TrickError,
      C_BadBase := C_BadBase,
      g_BadBase := PySem.W.mg_of X G gx_BadBase,
      x_BadBase := x_BadBase,
      k_BadBase := k_BadBase,
      s_BadBase := s_BadBase,
      t_BadBase := t_BadBase,
      C_BadTake := C_BadTake,
      g_BadTake := PySem.W.mg_of X G gx_BadTake,
      x_BadTake := x_BadTake,
      k_BadTake := k_BadTake,
      s_BadTake := s_BadTake,
      t_BadTake := t_BadTake,
      C_BadTimes := C_BadTimes,
      g_BadTimes := PySem.W.mg_of X G gx_BadTimes,
      x_BadTimes := x_BadTimes,
      k_BadTimes := k_BadTimes,
      s_BadTimes := s_BadTimes,
      t_BadTimes := t_BadTimes,
      C_BadTrick := C_BadTrick,
      g_BadTrick := PySem.W.mg_of X G gx_BadTrick,
      x_BadTrick := x_BadTrick,
      k_BadTrick := k_BadTrick,
      s_BadTrick := s_BadTrick,
      t_BadTrick := t_BadTrick,
      C_BadDivisor := C_BadDivisor,
      g_BadDivisor := PySem.W.mg_of X G gx_BadDivisor,
      x_BadDivisor := x_BadDivisor,
      k_BadDivisor := k_BadDivisor,
      s_BadDivisor := s_BadDivisor,
      t_BadDivisor := t_BadDivisor,
      C_BadNumber := C_BadNumber,
      g_BadNumber := PySem.W.mg_of X G gx_BadNumber,
      k_BadNumber := k_BadNumber,
      s_BadNumber := s_BadNumber,
      t_BadNumber := t_BadNumber,
      C_BadTricks := C_BadTricks,
      g_BadTricks := PySem.W.mg_of X G gx_BadTricks,
      k_BadTricks := k_BadTricks,
      s_BadTricks := s_BadTricks,
      t_BadTricks := t_BadTricks,
      C_BadPairs := C_BadPairs,
      g_BadPairs := PySem.W.mg_of X G gx_BadPairs,
      k_BadPairs := k_BadPairs,
      s_BadPairs := s_BadPairs,
      t_BadPairs := t_BadPairs,
      C_TooWide := C_TooWide,
      g_TooWide := PySem.W.mg_of X G gx_TooWide,
      k_TooWide := k_TooWide,
      s_TooWide := s_TooWide,
      t_TooWide := t_TooWide,
      t_c_GREATEST_NUMBER := tk_GREATEST_NUMBER,
      c_GREATEST_NUMBER := PySem.W.mg_of X G cx_GREATEST_NUMBER,
      t_c_LEAST_BASE := tk_LEAST_BASE,
      c_LEAST_BASE := PySem.W.mg_of X G cx_LEAST_BASE,
      t_c_GREATEST_BASE := tk_GREATEST_BASE,
      c_GREATEST_BASE := PySem.W.mg_of X G cx_GREATEST_BASE,
      t_c_GREATEST_TAKE := tk_GREATEST_TAKE,
      c_GREATEST_TAKE := PySem.W.mg_of X G cx_GREATEST_TAKE,
      t_c_GREATEST_DIVISOR := tk_GREATEST_DIVISOR,
      c_GREATEST_DIVISOR := PySem.W.mg_of X G cx_GREATEST_DIVISOR,
      t_c_GREATEST_TIMES := tk_GREATEST_TIMES,
      c_GREATEST_TIMES := PySem.W.mg_of X G cx_GREATEST_TIMES,
      t_c_MOST_ROUNDS := tk_MOST_ROUNDS,
      c_MOST_ROUNDS := PySem.W.mg_of X G cx_MOST_ROUNDS,
      t_c_MOST_TRICKS := tk_MOST_TRICKS,
      c_MOST_TRICKS := PySem.W.mg_of X G cx_MOST_TRICKS,
      t_c_GREATEST_CHAIN_DIVISOR := tk_GREATEST_CHAIN_DIVISOR,
      c_GREATEST_CHAIN_DIVISOR := PySem.W.mg_of X G cx_GREATEST_CHAIN_DIVISOR,
      t_c_GREATEST_PRODUCT := tk_GREATEST_PRODUCT,
      c_GREATEST_PRODUCT := PySem.W.mg_of X G cx_GREATEST_PRODUCT,
      t_c_GREATEST_LENGTH := tk_GREATEST_LENGTH,
      c_GREATEST_LENGTH := PySem.W.mg_of X G cx_GREATEST_LENGTH,
      t_c_MOST_PAIRS := tk_MOST_PAIRS,
      c_MOST_PAIRS := PySem.W.mg_of X G cx_MOST_PAIRS,
      a_is_integer := a_is_integer,
      d_is_integer := d_is_integer,
      F_is_integer := F_is_integer,
      b_is_integer := F_is_integer.binds (ps := ["told", "low", "high"]) fun _ _ _ _ _ _ us hl => match us, hl with | [_, _, _], _ => rfl,
      g_is_integer := PySem.W.mg_of X G gf_is_integer,
      a_is_list_or_tuple := a_is_list_or_tuple,
      d_is_list_or_tuple := d_is_list_or_tuple,
      F_is_list_or_tuple := F_is_list_or_tuple,
      b_is_list_or_tuple := F_is_list_or_tuple.binds (ps := ["told", "fewest", "most"]) fun _ _ _ _ _ _ us hl => match us, hl with | [_, _, _], _ => rfl,
      g_is_list_or_tuple := PySem.W.mg_of X G gf_is_list_or_tuple,
      a_is_number := a_is_number,
      d_is_number := d_is_number,
      F_is_number := F_is_number,
      b_is_number := F_is_number.binds (ps := ["told"]) fun _ _ _ _ _ _ us hl => match us, hl with | [_], _ => rfl,
      g_is_number := PySem.W.mg_of X G gf_is_number,
      a_check_base := a_check_base,
      d_check_base := d_check_base,
      F_check_base := F_check_base,
      b_check_base := F_check_base.binds (ps := ["base"]) fun _ _ _ _ _ _ us hl => match us, hl with | [_], _ => rfl,
      g_check_base := PySem.W.mg_of X G gf_check_base,
      a_check_take := a_check_take,
      d_check_take := d_check_take,
      F_check_take := F_check_take,
      b_check_take := F_check_take.binds (ps := ["take"]) fun _ _ _ _ _ _ us hl => match us, hl with | [_], _ => rfl,
      g_check_take := PySem.W.mg_of X G gf_check_take,
      a_check_divisor := a_check_divisor,
      d_check_divisor := _,
      F_check_divisor := F_check_divisor,
      b_check_divisor := bo_check_divisor,
      ds_check_divisor := ds_check_divisor,
      rd_check_divisor := rd_check_divisor,
      bd_check_divisor := bd_check_divisor,
      g_check_divisor := PySem.W.mg_of X G gf_check_divisor,
      a_check_stretch := a_check_stretch,
      d_check_stretch := d_check_stretch,
      F_check_stretch := F_check_stretch,
      b_check_stretch := F_check_stretch.binds (ps := ["n", "low", "high"]) fun _ _ _ _ _ _ us hl => match us, hl with | [_, _, _], _ => rfl,
      g_check_stretch := PySem.W.mg_of X G gf_check_stretch,
      a_check_number := a_check_number,
      d_check_number := d_check_number,
      F_check_number := F_check_number,
      b_check_number := F_check_number.binds (ps := ["n"]) fun _ _ _ _ _ _ us hl => match us, hl with | [_], _ => rfl,
      g_check_number := PySem.W.mg_of X G gf_check_number,
      a_block_of := a_block_of,
      d_block_of := d_block_of,
      F_block_of := F_block_of,
      b_block_of := F_block_of.binds (ps := ["base", "take"]) fun _ _ _ _ _ _ us hl => match us, hl with | [_, _], _ => rfl,
      g_block_of := PySem.W.mg_of X G gf_block_of,
      a_trail := a_trail,
      d_trail := d_trail,
      F_trail := F_trail,
      b_trail := F_trail.binds (ps := ["trick", "n", "rounds"]) fun _ _ _ _ _ _ us hl => match us, hl with | [_, _, _], _ => rfl,
      g_trail := PySem.W.mg_of X G gf_trail,
      a_ahead := a_ahead,
      d_ahead := d_ahead,
      F_ahead := F_ahead,
      b_ahead := F_ahead.binds (ps := ["trick", "n"]) fun _ _ _ _ _ _ us hl => match us, hl with | [_, _], _ => rfl,
      g_ahead := PySem.W.mg_of X G gf_ahead,
      a_check_trick := a_check_trick,
      d_check_trick := d_check_trick,
      F_check_trick := F_check_trick,
      b_check_trick := F_check_trick.binds (ps := ["trick"]) fun _ _ _ _ _ _ us hl => match us, hl with | [_], _ => rfl,
      g_check_trick := PySem.W.mg_of X G gf_check_trick,
      a_trick_block := a_trick_block,
      d_trick_block := d_trick_block,
      F_trick_block := F_trick_block,
      b_trick_block := F_trick_block.binds (ps := ["trick"]) fun _ _ _ _ _ _ us hl => match us, hl with | [_], _ => rfl,
      g_trick_block := PySem.W.mg_of X G gf_trick_block,
      a_made_of := a_made_of,
      d_made_of := d_made_of,
      F_made_of := F_made_of,
      b_made_of := F_made_of.binds (ps := ["trick", "n"]) fun _ _ _ _ _ _ us hl => match us, hl with | [_, _], _ => rfl,
      g_made_of := PySem.W.mg_of X G gf_made_of,
      a_made_with := a_made_with,
      d_made_with := d_made_with,
      F_made_with := F_made_with,
      b_made_with := F_made_with.binds (ps := ["block", "times", "n"]) fun _ _ _ _ _ _ us hl => match us, hl with | [_, _, _], _ => rfl,
      g_made_with := PySem.W.mg_of X G gf_made_with,
      a_bound := a_bound,
      d_bound := d_bound,
      F_bound := F_bound,
      b_bound := F_bound.binds (ps := ["trick"]) fun _ _ _ _ _ _ us hl => match us, hl with | [_], _ => rfl,
      g_bound := PySem.W.mg_of X G gf_bound,
      a_rings := a_rings,
      d_rings := d_rings,
      F_rings := F_rings,
      b_rings := F_rings.binds (ps := ["trick"]) fun _ _ _ _ _ _ us hl => match us, hl with | [_], _ => rfl,
      g_rings := PySem.W.mg_of X G gf_rings,
      a_greatest_size := a_greatest_size,
      d_greatest_size := d_greatest_size,
      F_greatest_size := F_greatest_size,
      b_greatest_size := F_greatest_size.binds (ps := ["block", "times", "rest"]) fun _ _ _ _ _ _ us hl => match us, hl with | [_, _, _], _ => rfl,
      g_greatest_size := PySem.W.mg_of X G gf_greatest_size,
      a_rounded_up := a_rounded_up,
      d_rounded_up := d_rounded_up,
      F_rounded_up := F_rounded_up,
      b_rounded_up := F_rounded_up.binds (ps := ["n", "d"]) fun _ _ _ _ _ _ us hl => match us, hl with | [_, _], _ => rfl,
      g_rounded_up := PySem.W.mg_of X G gf_rounded_up,
      a_unseen_path := a_unseen_path,
      d_unseen_path := d_unseen_path,
      F_unseen_path := F_unseen_path,
      b_unseen_path := F_unseen_path.binds (ps := ["trick", "n", "seen"]) fun _ _ _ _ _ _ us hl => match us, hl with | [_, _, _], _ => rfl,
      g_unseen_path := PySem.W.mg_of X G gf_unseen_path,
      a_ring_at_end := a_ring_at_end,
      d_ring_at_end := d_ring_at_end,
      F_ring_at_end := F_ring_at_end,
      b_ring_at_end := F_ring_at_end.binds (ps := ["trick", "path"]) fun _ _ _ _ _ _ us hl => match us, hl with | [_, _], _ => rfl,
      g_ring_at_end := PySem.W.mg_of X G gf_ring_at_end,
      a_chained := a_chained,
      d_chained := d_chained,
      F_chained := F_chained,
      b_chained := F_chained.binds (ps := ["tricks", "n"]) fun _ _ _ _ _ _ us hl => match us, hl with | [_, _], _ => rfl,
      g_chained := PySem.W.mg_of X G gf_chained,
      a_chain_tells := a_chain_tells,
      d_chain_tells := d_chain_tells,
      F_chain_tells := F_chain_tells,
      b_chain_tells := F_chain_tells.binds (ps := ["tricks", "d"]) fun _ _ _ _ _ _ us hl => match us, hl with | [_, _], _ => rfl,
      g_chain_tells := PySem.W.mg_of X G gf_chain_tells,
      a_check_tricks := a_check_tricks,
      d_check_tricks := d_check_tricks,
      F_check_tricks := F_check_tricks,
      b_check_tricks := F_check_tricks.binds (ps := ["tricks"]) fun _ _ _ _ _ _ us hl => match us, hl with | [_], _ => rfl,
      g_check_tricks := PySem.W.mg_of X G gf_check_tricks,
      a_check_chain := a_check_chain,
      d_check_chain := d_check_chain,
      F_check_chain := F_check_chain,
      b_check_chain := F_check_chain.binds (ps := ["tricks", "d"]) fun _ _ _ _ _ _ us hl => match us, hl with | [_, _], _ => rfl,
      g_check_chain := PySem.W.mg_of X G gf_check_chain,
      a_made_of_all := a_made_of_all,
      d_made_of_all := d_made_of_all,
      F_made_of_all := F_made_of_all,
      b_made_of_all := F_made_of_all.binds (ps := ["tricks", "n"]) fun _ _ _ _ _ _ us hl => match us, hl with | [_, _], _ => rfl,
      g_made_of_all := PySem.W.mg_of X G gf_made_of_all,
      a_blocks_product := a_blocks_product,
      d_blocks_product := d_blocks_product,
      F_blocks_product := F_blocks_product,
      b_blocks_product := F_blocks_product.binds (ps := ["tricks"]) fun _ _ _ _ _ _ us hl => match us, hl with | [_], _ => rfl,
      g_blocks_product := PySem.W.mg_of X G gf_blocks_product,
      a_rest_pairs := a_rest_pairs,
      d_rest_pairs := d_rest_pairs,
      F_rest_pairs := F_rest_pairs,
      b_rest_pairs := F_rest_pairs.binds (ps := ["tricks", "d"]) fun _ _ _ _ _ _ us hl => match us, hl with | [_, _], _ => rfl,
      g_rest_pairs := PySem.W.mg_of X G gf_rest_pairs,
      a_slip := a_slip,
      d_slip := d_slip,
      F_slip := F_slip,
      b_slip := F_slip.binds (ps := ["base", "d", "length"]) fun _ _ _ _ _ _ us hl => match us, hl with | [_, _, _], _ => rfl,
      g_slip := PySem.W.mg_of X G gf_slip,
      a_swap := a_swap,
      d_swap := d_swap,
      F_swap := F_swap,
      b_swap := F_swap.binds (ps := ["base", "d", "length", "far"]) fun _ _ _ _ _ _ us hl => match us, hl with | [_, _, _, _], _ => rfl,
      g_swap := PySem.W.mg_of X G gf_swap,
      a_good_divisors := a_good_divisors,
      d_good_divisors := d_good_divisors,
      F_good_divisors := F_good_divisors,
      b_good_divisors := F_good_divisors.binds (ps := ["base", "length", "most"]) fun _ _ _ _ _ _ us hl => match us, hl with | [_, _, _], _ => rfl,
      g_good_divisors := PySem.W.mg_of X G gf_good_divisors,
      a_check_length := a_check_length,
      d_check_length := d_check_length,
      F_check_length := F_check_length,
      b_check_length := F_check_length.binds (ps := ["length"]) fun _ _ _ _ _ _ us hl => match us, hl with | [_], _ => rfl,
      g_check_length := PySem.W.mg_of X G gf_check_length,
      a_least_unseen := a_least_unseen,
      d_least_unseen := d_least_unseen,
      F_least_unseen := F_least_unseen,
      b_least_unseen := F_least_unseen.binds (ps := ["base", "d", "places", "change"]) fun _ _ _ _ _ _ us hl => match us, hl with | [_, _, _, _], _ => rfl,
      g_least_unseen := PySem.W.mg_of X G gf_least_unseen,
      a_multipliers := a_multipliers,
      d_multipliers := d_multipliers,
      F_multipliers := F_multipliers,
      b_multipliers := F_multipliers.binds (ps := ["base", "take", "d"]) fun _ _ _ _ _ _ us hl => match us, hl with | [_, _, _], _ => rfl,
      g_multipliers := PySem.W.mg_of X G gf_multipliers,
      a_divisors := a_divisors,
      d_divisors := d_divisors,
      F_divisors := F_divisors,
      b_divisors := F_divisors.binds (ps := ["trick", "most"]) fun _ _ _ _ _ _ us hl => match us, hl with | [_, _], _ => rfl,
      g_divisors := PySem.W.mg_of X G gf_divisors,
      a_tells_multiples := a_tells_multiples,
      d_tells_multiples := d_tells_multiples,
      F_tells_multiples := F_tells_multiples,
      b_tells_multiples := F_tells_multiples.binds (ps := ["block", "times", "d"]) fun _ _ _ _ _ _ us hl => match us, hl with | [_, _, _], _ => rfl,
      g_tells_multiples := PySem.W.mg_of X G gf_tells_multiples,
      a_fitting := a_fitting,
      d_fitting := d_fitting,
      F_fitting := F_fitting,
      b_fitting := F_fitting.binds (ps := ["pairs"]) fun _ _ _ _ _ _ us hl => match us, hl with | [_], _ => rfl,
      g_fitting := PySem.W.mg_of X G gf_fitting,
      a_check_pairs := a_check_pairs,
      d_check_pairs := d_check_pairs,
      F_check_pairs := F_check_pairs,
      b_check_pairs := F_check_pairs.binds (ps := ["pairs"]) fun _ _ _ _ _ _ us hl => match us, hl with | [_], _ => rfl,
      g_check_pairs := PySem.W.mg_of X G gf_check_pairs,
      a_is_pair := a_is_pair,
      d_is_pair := d_is_pair,
      F_is_pair := F_is_pair,
      b_is_pair := F_is_pair.binds (ps := ["told"]) fun _ _ _ _ _ _ us hl => match us, hl with | [_], _ => rfl,
      g_is_pair := PySem.W.mg_of X G gf_is_pair,
      a_fitting_times := a_fitting_times,
      d_fitting_times := d_fitting_times,
      F_fitting_times := F_fitting_times,
      b_fitting_times := F_fitting_times.binds (ps := ["block", "pairs"]) fun _ _ _ _ _ _ us hl => match us, hl with | [_, _], _ => rfl,
      g_fitting_times := PySem.W.mg_of X G gf_fitting_times,
      a__law_taken := a__law_taken,
      d__law_taken := d__law_taken,
      F__law_taken := F__law_taken,
      b__law_taken := F__law_taken.binds (ps := ["_law_row", "_law_many"]) fun _ _ _ _ _ _ us hl => match us, hl with | [_, _], _ => rfl,
      g__law_taken := PySem.W.mg_of X G gf__law_taken,
      a__law_power := a__law_power,
      d__law_power := d__law_power,
      F__law_power := F__law_power,
      b__law_power := F__law_power.binds (ps := ["_law_base", "_law_many"]) fun _ _ _ _ _ _ us hl => match us, hl with | [_, _], _ => rfl,
      g__law_power := PySem.W.mg_of X G gf__law_power,
      a__law_trick := a__law_trick,
      d__law_trick := d__law_trick,
      F__law_trick := F__law_trick,
      b__law_trick := F__law_trick.binds (ps := ["_law_row", "_law_small"]) fun _ _ _ _ _ _ us hl => match us, hl with | [_, _], _ => rfl,
      g__law_trick := PySem.W.mg_of X G gf__law_trick,
      a__law_behind := a__law_behind,
      d__law_behind := d__law_behind,
      F__law_behind := F__law_behind,
      b__law_behind := F__law_behind.binds (ps := ["_law_told_here", "_law_n"]) fun _ _ _ _ _ _ us hl => match us, hl with | [_, _], _ => rfl,
      g__law_behind := PySem.W.mg_of X G gf__law_behind,
      a__law_number := a__law_number,
      d__law_number := d__law_number,
      F__law_number := F__law_number,
      b__law_number := F__law_number.binds (ps := ["_law_row"]) fun _ _ _ _ _ _ us hl => match us, hl with | [_], _ => rfl,
      g__law_number := PySem.W.mg_of X G gf__law_number,
      a__law_chain := a__law_chain,
      d__law_chain := d__law_chain,
      F__law_chain := F__law_chain,
      b__law_chain := F__law_chain.binds (ps := ["_law_row"]) fun _ _ _ _ _ _ us hl => match us, hl with | [_], _ => rfl,
      g__law_chain := PySem.W.mg_of X G gf__law_chain,
      a__law_tricks := a__law_tricks,
      d__law_tricks := d__law_tricks,
      F__law_tricks := F__law_tricks,
      b__law_tricks := F__law_tricks.binds (ps := ["_law_told_here"]) fun _ _ _ _ _ _ us hl => match us, hl with | [_], _ => rfl,
      g__law_tricks := PySem.W.mg_of X G gf__law_tricks,
      a__law_told := a__law_told,
      d__law_told := d__law_told,
      F__law_told := F__law_told,
      b__law_told := F__law_told.binds (ps := ["_law_trick_here", "_law_chain_here", "_law_n", "_law_pairs"]) fun _ _ _ _ _ _ us hl => match us, hl with | [_, _, _, _], _ => rfl,
      g__law_told := PySem.W.mg_of X G gf__law_told,
      a_law := a_law,
      d_law := _,
      F_law := fun_mk (st := s_law) l_law c_law kp_law,
      b_law := (fun_mk (st := s_law) l_law c_law kp_law).binds (ps := ["_law_script"]) fun _ _ _ _ _ _ us hl => match us, hl with | [_], _ => rfl,
      g_law := PySem.W.mg_of X G gf_law,
      C_Trick := C_Trick,
      cl_Trick := ⟨pg_Trick, hd_Trick, po_Trick, sa_Trick⟩,
      g_Trick := PySem.W.mg_of X G gx_Trick,
      kc_Trick := kc_Trick,
      ins_Trick := fun _ _ _ _ e => .ins e ⟨pg_Trick, hd_Trick, po_Trick, sa_Trick⟩ cc_Trick sp_cls tk_cls mo_Trick,
      ki_Trick_int := ki_Trick_int,
      ki_Trick_bool := ki_Trick_bool,
      ki_Trick_tuple := ki_Trick_tuple,
      ki_Trick_list := ki_Trick_list,
      nf_Trick_tuple := nf_Trick_tuple,
      kis_Trick := kis_Trick,
      kin_Trick_int := kin_Trick_int,
      kin_Trick_bool := kin_Trick_bool,
      kin_Trick_tuple := kin_Trick_tuple,
      kin_Trick_list := kin_Trick_list,
      kin_Trick_NoneType := kin_Trick_NoneType,
      kin_Trick_str := kin_Trick_str,
      kin_Trick_dict := kin_Trick_dict,
      na_Trick_base := na_Trick_base,
      na_Trick_take := na_Trick_take,
      na_Trick_times := na_Trick_times,
      a_Trick___init__ := a_Trick___init__,
      d_Trick___init__ := _,
      F_Trick___init__ := fun_mk (st := s_Trick___init__) l_Trick___init__ c_Trick___init__ kp_Trick___init__,
      b_Trick___init__ := (fun_mk (st := s_Trick___init__) l_Trick___init__ c_Trick___init__ kp_Trick___init__).binds (ps := ["self", "base", "take", "times"]) fun _ _ _ _ _ _ us hl => match us, hl with | [_, _, _, _], _ => rfl,
      mk_Trick := ⟨mk_Trick, gf_Trick___init__, isf_Trick___init__, kc_Trick⟩,
      a_Trick_base := a_Trick_base,
      d_Trick_base := _,
      F_Trick_base := fun_mk (st := s_Trick_base) l_Trick_base c_Trick_base kp_Trick_base,
      b_Trick_base := (fun_mk (st := s_Trick_base) l_Trick_base c_Trick_base kp_Trick_base).binds (ps := ["self"]) fun _ _ _ _ _ _ us hl => match us, hl with | [_], _ => rfl,
      q_Trick_base := pr_Trick_base,
      p_Trick_base := ⟨pa_Trick_base, pg_Trick_base, pt_Trick_base, ⟨_, prr_Trick_base⟩⟩,
      a_Trick_take := a_Trick_take,
      d_Trick_take := _,
      F_Trick_take := fun_mk (st := s_Trick_take) l_Trick_take c_Trick_take kp_Trick_take,
      b_Trick_take := (fun_mk (st := s_Trick_take) l_Trick_take c_Trick_take kp_Trick_take).binds (ps := ["self"]) fun _ _ _ _ _ _ us hl => match us, hl with | [_], _ => rfl,
      q_Trick_take := pr_Trick_take,
      p_Trick_take := ⟨pa_Trick_take, pg_Trick_take, pt_Trick_take, ⟨_, prr_Trick_take⟩⟩,
      a_Trick_times := a_Trick_times,
      d_Trick_times := _,
      F_Trick_times := fun_mk (st := s_Trick_times) l_Trick_times c_Trick_times kp_Trick_times,
      b_Trick_times := (fun_mk (st := s_Trick_times) l_Trick_times c_Trick_times kp_Trick_times).binds (ps := ["self"]) fun _ _ _ _ _ _ us hl => match us, hl with | [_], _ => rfl,
      q_Trick_times := pr_Trick_times,
      p_Trick_times := ⟨pa_Trick_times, pg_Trick_times, pt_Trick_times, ⟨_, prr_Trick_times⟩⟩,
      a_Trick___eq__ := a_Trick___eq__,
      d_Trick___eq__ := _,
      F_Trick___eq__ := fun_mk (st := s_Trick___eq__) l_Trick___eq__ c_Trick___eq__ kp_Trick___eq__,
      b_Trick___eq__ := (fun_mk (st := s_Trick___eq__) l_Trick___eq__ c_Trick___eq__ kp_Trick___eq__).binds (ps := ["self", "other"]) fun _ _ _ _ _ _ us hl => match us, hl with | [_, _], _ => rfl,
      m_Trick___eq__ := ⟨gf_Trick___eq__, isf_Trick___eq__, kp_Trick___eq__⟩,
      C_Reckoner := C_Reckoner,
      cl_Reckoner := ⟨pg_Reckoner, hd_Reckoner, po_Reckoner, sa_Reckoner⟩,
      g_Reckoner := PySem.W.mg_of X G gx_Reckoner,
      kc_Reckoner := kc_Reckoner,
      ins_Reckoner := fun _ _ _ _ e => .ins e ⟨pg_Reckoner, hd_Reckoner, po_Reckoner, sa_Reckoner⟩ cc_Reckoner sp_cls tk_cls mo_Reckoner,
      ki_Reckoner_int := ki_Reckoner_int,
      ki_Reckoner_bool := ki_Reckoner_bool,
      ki_Reckoner_tuple := ki_Reckoner_tuple,
      ki_Reckoner_list := ki_Reckoner_list,
      kis_Reckoner := kis_Reckoner,
      kin_Reckoner_int := kin_Reckoner_int,
      kin_Reckoner_bool := kin_Reckoner_bool,
      kin_Reckoner_tuple := kin_Reckoner_tuple,
      kin_Reckoner_list := kin_Reckoner_list,
      kin_Reckoner_NoneType := kin_Reckoner_NoneType,
      kin_Reckoner_str := kin_Reckoner_str,
      kin_Reckoner_dict := kin_Reckoner_dict,
      na_Reckoner_numbers := na_Reckoner_numbers,
      na_Reckoner_tricks := na_Reckoner_tricks,
      a_Reckoner___init__ := a_Reckoner___init__,
      d_Reckoner___init__ := _,
      F_Reckoner___init__ := fun_mk (st := s_Reckoner___init__) l_Reckoner___init__ c_Reckoner___init__ kp_Reckoner___init__,
      b_Reckoner___init__ := (fun_mk (st := s_Reckoner___init__) l_Reckoner___init__ c_Reckoner___init__ kp_Reckoner___init__).binds (ps := ["self", "n"]) fun _ _ _ _ _ _ us hl => match us, hl with | [_, _], _ => rfl,
      mk_Reckoner := ⟨mk_Reckoner, gf_Reckoner___init__, isf_Reckoner___init__, kc_Reckoner⟩,
      a_Reckoner_now := a_Reckoner_now,
      d_Reckoner_now := _,
      F_Reckoner_now := fun_mk (st := s_Reckoner_now) l_Reckoner_now c_Reckoner_now kp_Reckoner_now,
      b_Reckoner_now := (fun_mk (st := s_Reckoner_now) l_Reckoner_now c_Reckoner_now kp_Reckoner_now).binds (ps := ["self"]) fun _ _ _ _ _ _ us hl => match us, hl with | [_], _ => rfl,
      q_Reckoner_now := pr_Reckoner_now,
      p_Reckoner_now := ⟨pa_Reckoner_now, pg_Reckoner_now, pt_Reckoner_now, ⟨_, prr_Reckoner_now⟩⟩,
      a_Reckoner_tricks := a_Reckoner_tricks,
      d_Reckoner_tricks := _,
      F_Reckoner_tricks := fun_mk (st := s_Reckoner_tricks) l_Reckoner_tricks c_Reckoner_tricks kp_Reckoner_tricks,
      b_Reckoner_tricks := (fun_mk (st := s_Reckoner_tricks) l_Reckoner_tricks c_Reckoner_tricks kp_Reckoner_tricks).binds (ps := ["self"]) fun _ _ _ _ _ _ us hl => match us, hl with | [_], _ => rfl,
      q_Reckoner_tricks := pr_Reckoner_tricks,
      p_Reckoner_tricks := ⟨pa_Reckoner_tricks, pg_Reckoner_tricks, pt_Reckoner_tricks, ⟨_, prr_Reckoner_tricks⟩⟩,
      a_Reckoner_step := a_Reckoner_step,
      d_Reckoner_step := _,
      F_Reckoner_step := fun_mk (st := s_Reckoner_step) l_Reckoner_step c_Reckoner_step kp_Reckoner_step,
      b_Reckoner_step := (fun_mk (st := s_Reckoner_step) l_Reckoner_step c_Reckoner_step kp_Reckoner_step).binds (ps := ["self", "trick"]) fun _ _ _ _ _ _ us hl => match us, hl with | [_, _], _ => rfl,
      m_Reckoner_step := ⟨gf_Reckoner_step, isf_Reckoner_step, kp_Reckoner_step⟩,
      a_Reckoner_undo := a_Reckoner_undo,
      d_Reckoner_undo := _,
      F_Reckoner_undo := fun_mk (st := s_Reckoner_undo) l_Reckoner_undo c_Reckoner_undo kp_Reckoner_undo,
      b_Reckoner_undo := (fun_mk (st := s_Reckoner_undo) l_Reckoner_undo c_Reckoner_undo kp_Reckoner_undo).binds (ps := ["self"]) fun _ _ _ _ _ _ us hl => match us, hl with | [_], _ => rfl,
      m_Reckoner_undo := ⟨gf_Reckoner_undo, isf_Reckoner_undo, kp_Reckoner_undo⟩,
      a_Reckoner_copy := a_Reckoner_copy,
      d_Reckoner_copy := _,
      F_Reckoner_copy := fun_mk (st := s_Reckoner_copy) l_Reckoner_copy c_Reckoner_copy kp_Reckoner_copy,
      b_Reckoner_copy := (fun_mk (st := s_Reckoner_copy) l_Reckoner_copy c_Reckoner_copy kp_Reckoner_copy).binds (ps := ["self"]) fun _ _ _ _ _ _ us hl => match us, hl with | [_], _ => rfl,
      m_Reckoner_copy := ⟨gf_Reckoner_copy, isf_Reckoner_copy, kp_Reckoner_copy⟩,
      a_Reckoner___len__ := a_Reckoner___len__,
      d_Reckoner___len__ := _,
      F_Reckoner___len__ := fun_mk (st := s_Reckoner___len__) l_Reckoner___len__ c_Reckoner___len__ kp_Reckoner___len__,
      b_Reckoner___len__ := (fun_mk (st := s_Reckoner___len__) l_Reckoner___len__ c_Reckoner___len__ kp_Reckoner___len__).binds (ps := ["self"]) fun _ _ _ _ _ _ us hl => match us, hl with | [_], _ => rfl,
      m_Reckoner___len__ := ⟨gf_Reckoner___len__, isf_Reckoner___len__, kp_Reckoner___len__⟩,
      n_int := PySem.W.mg_none_of X G z_int,
      n_bool := PySem.W.mg_none_of X G z_bool,
      n_len := PySem.W.mg_none_of X G z_len,
      n_range := PySem.W.mg_none_of X G z_range,
      n_isinstance := PySem.W.mg_none_of X G z_isinstance,
      n_tuple := PySem.W.mg_none_of X G z_tuple,
      n_list := PySem.W.mg_none_of X G z_list,
      n_sorted := PySem.W.mg_none_of X G z_sorted,
      n_enumerate := PySem.W.mg_none_of X G z_enumerate,
      n_abs := PySem.W.mg_none_of X G z_abs,
      n_all := PySem.W.mg_none_of X G z_all,
      n_min := PySem.W.mg_none_of X G z_min,
      n_max := PySem.W.mg_none_of X G z_max,
      n_super := PySem.W.mg_none_of X G z_super,
      n_ValueError := PySem.W.mg_none_of X G z_ValueError,
      a_BadNumber___init__ := a_BadNumber___init__,
      x_BadNumber := { gC := PySem.W.mg_of X G gx_BadNumber, cls := ⟨_, _, _, _, _, _, _, _, _, _, _, _, _, _, _, xl_BadNumber___init__, xrb_BadNumber___init__⟩, sa := xsa_BadNumber___init__, ga := xga_BadNumber___init__, gg := xgg_BadNumber___init__, noF := xnf_BadNumber___init__, iC := xic_BadNumber___init__, tC := xtc_BadNumber___init__, kC := k_BadNumber, exC := s_BadNumber, tyC := t_BadNumber, hdC := xhd_BadNumber___init__, up := xup_BadNumber___init__, any := xan_BadNumber___init__, ve := xve_BadNumber___init__, own := xow_BadNumber___init__, sup := PySem.W.mg_none_of X G z_super, main := rmn_BadNumber___init__, fn := ⟨_, _, _, _, _, _, _, _, _, _, _, _, _, _, _, _, _, _, _, xfn_BadNumber___init__, xco_BadNumber___init__, xcd_BadNumber___init__, rvs_BadNumber___init__, rfi_BadNumber___init__, xcc_BadNumber___init__⟩, text := ⟨_, _, _, _, _, _, _, _, _, _, _, rfl, rfl, fun _ => rfl⟩, kS := rfl, kK := rfl, k0 := rfl, kF := rfl, nF := by decide, nD := by decide, noCell := by decide +kernel, bind := fun _ _ _ _ _ _ _ _ _ => rfl, plain := fun _ => rfl, knd := rfl, co := rfl, gen := rfl },
      a_BadTricks___init__ := a_BadTricks___init__,
      x_BadTricks := { gC := PySem.W.mg_of X G gx_BadTricks, cls := ⟨_, _, _, _, _, _, _, _, _, _, _, _, _, _, _, xl_BadTricks___init__, xrb_BadTricks___init__⟩, sa := xsa_BadTricks___init__, ga := xga_BadTricks___init__, gg := xgg_BadTricks___init__, noF := xnf_BadTricks___init__, iC := xic_BadTricks___init__, tC := xtc_BadTricks___init__, kC := k_BadTricks, exC := s_BadTricks, tyC := t_BadTricks, hdC := xhd_BadTricks___init__, up := xup_BadTricks___init__, any := xan_BadTricks___init__, ve := xve_BadTricks___init__, own := xow_BadTricks___init__, sup := PySem.W.mg_none_of X G z_super, main := rmn_BadTricks___init__, fn := ⟨_, _, _, _, _, _, _, _, _, _, _, _, _, _, _, _, _, _, _, xfn_BadTricks___init__, xco_BadTricks___init__, xcd_BadTricks___init__, rvs_BadTricks___init__, rfi_BadTricks___init__, xcc_BadTricks___init__⟩, text := ⟨_, _, _, _, _, _, _, _, _, _, _, rfl, rfl, fun _ => rfl⟩, kS := rfl, kK := rfl, k0 := rfl, kF := rfl, nF := by decide, nD := by decide, noCell := by decide +kernel, bind := fun _ _ _ _ _ _ _ _ _ => rfl, plain := fun _ => rfl, knd := rfl, co := rfl, gen := rfl },
      a_BadPairs___init__ := a_BadPairs___init__,
      x_BadPairs := { gC := PySem.W.mg_of X G gx_BadPairs, cls := ⟨_, _, _, _, _, _, _, _, _, _, _, _, _, _, _, xl_BadPairs___init__, xrb_BadPairs___init__⟩, sa := xsa_BadPairs___init__, ga := xga_BadPairs___init__, gg := xgg_BadPairs___init__, noF := xnf_BadPairs___init__, iC := xic_BadPairs___init__, tC := xtc_BadPairs___init__, kC := k_BadPairs, exC := s_BadPairs, tyC := t_BadPairs, hdC := xhd_BadPairs___init__, up := xup_BadPairs___init__, any := xan_BadPairs___init__, ve := xve_BadPairs___init__, own := xow_BadPairs___init__, sup := PySem.W.mg_none_of X G z_super, main := rmn_BadPairs___init__, fn := ⟨_, _, _, _, _, _, _, _, _, _, _, _, _, _, _, _, _, _, _, xfn_BadPairs___init__, xco_BadPairs___init__, xcd_BadPairs___init__, rvs_BadPairs___init__, rfi_BadPairs___init__, xcc_BadPairs___init__⟩, text := ⟨_, _, _, _, _, _, _, _, _, _, _, rfl, rfl, fun _ => rfl⟩, kS := rfl, kK := rfl, k0 := rfl, kF := rfl, nF := by decide, nD := by decide, noCell := by decide +kernel, bind := fun _ _ _ _ _ _ _ _ _ => rfl, plain := fun _ => rfl, knd := rfl, co := rfl, gen := rfl },
      a_TooWide___init__ := a_TooWide___init__,
      x_TooWide := { gC := PySem.W.mg_of X G gx_TooWide, cls := ⟨_, _, _, _, _, _, _, _, _, _, _, _, _, _, _, xl_TooWide___init__, xrb_TooWide___init__⟩, sa := xsa_TooWide___init__, ga := xga_TooWide___init__, gg := xgg_TooWide___init__, noF := xnf_TooWide___init__, iC := xic_TooWide___init__, tC := xtc_TooWide___init__, kC := k_TooWide, exC := s_TooWide, tyC := t_TooWide, hdC := xhd_TooWide___init__, up := xup_TooWide___init__, any := xan_TooWide___init__, ve := xve_TooWide___init__, own := xow_TooWide___init__, sup := PySem.W.mg_none_of X G z_super, main := rmn_TooWide___init__, fn := ⟨_, _, _, _, _, _, _, _, _, _, _, _, _, _, _, _, _, _, _, xfn_TooWide___init__, xco_TooWide___init__, xcd_TooWide___init__, rvs_TooWide___init__, rfi_TooWide___init__, xcc_TooWide___init__⟩, text := ⟨_, _, _, _, _, _, _, _, _, _, _, rfl, rfl, fun _ => rfl⟩, kS := rfl, kK := rfl, k0 := rfl, kF := rfl, nF := by decide, nD := by decide, noCell := by decide +kernel, bind := fun _ _ _ _ _ _ _ _ _ => rfl, plain := fun _ => rfl, knd := rfl, co := rfl, gen := rfl } })
theorem walk {l : PySem.W.OpenLaw} {q : Program} {loose : List Str} {XP : (Str → Option Value) → Heap → Prop} {YP : World → Heap → Prop} {d : DefRec} {K : Params → PySem.W.Frag} (hn : l.most = some 63) (hdn : d.name = "law") (hdf : d.params.defaults = [])
    (hY : ∀ (w : World) (h : Heap), YP w h → (K w.params).In h)
    (F : ∀ (w : World) (mg : Str → Option Value) (fa : Addr) (h : Heap), (K w.params).In h → h.Ns mainGlobals mg → mg "law" = some (.ref fa) →
      ∃ fd : FuncData, (∀ (s : Shared) (u : Value), BindsTo s fd ⟨[u], []⟩ [("_law_script", u)]) ∧ ∀ base : Heap, (K w.params).In base → base.Ns mainGlobals mg → FnOk l.prog w (K w.params) mg base CX0 lv_law fa fd ["_law_script"] (sp_law (K w.params))) :
    PySem.W.WalkO q loose XP YP l.row.toRowW d [] (fun f vs => PySem.call f vs) :=
  L2.walk_of (n := 63) (k := lv_law) (x := "_law_script") (CX := fun _ => CX0) (sp := fun w => sp_law (K w.params)) hn (by decide) hdf ⟨rfl, by decide, by decide⟩ hY (fun w mg fa h a b c => F w mg fa h a b (hdn ▸ c)) (fun _ _ a ns hl hO hS => ⟨a, ns, rfl, scr_of hO hS, hl, fun _ => rfl⟩) fun _ _ _ _ _ z => z
end Rt
open PySem PySem.W PyProof.Rows
set_option maxRecDepth 100000 in
set_option maxHeartbeats 0 in
theorem PySem.Challenge.cw_resttricks_k41_asked_again_holds : PySem.Challenge.rw_resttricks_k41_asked_again.Holds := by
  w_on; o_law
  refine HandSHeadRun.head_any (r := Rt.topRow) (q := view Rt.topRow.prog [83]) (H := Rt.topHook) (ob := Rt.topSeen) (M := 10212)
    (loose := Rt.topOthers) (d := HandSHeadRun.topDef Rt.topRow.prog 83) (kwd := []) Rt.topSeen_eq
    (by kernel_rfl) (fun s => by kernel_rfl) Rt.topRan (by kernel_rfl) (by kernel_rfl) (by kernel_rfl) (by rfl)
    (by first | assumption | decide +kernel) (by decide +kernel) ⟨rfl, rfl, rfl, rfl, rfl, by decide +kernel⟩ ?hw ?hc
  case hw => w_witness2
  refine Rt.walk (l := PySem.Challenge.rw_resttricks_k41_asked_again) (K := Rt.topPart.heap_1) rfl (by kernel_rfl) (by kernel_rfl) (fun w h Y => PySem.W.kIn_of Y) ?F
  k_fill
  case F => as_aux_lemma =>
    intro w mg fa h KX G hmg
    refine' Rt.all_mk KX G hmg ?gx_TrickError ?x_TrickError ?k_TrickError ?s_TrickError ?t_TrickError ?gx_BadBase ?x_BadBase ?k_BadBase ?s_BadBase ?t_BadBase ?gx_BadTake ?x_BadTake ?k_BadTake ?s_BadTake ?t_BadTake ?gx_BadTimes ?x_BadTimes ?k_BadTimes ?s_BadTimes ?t_BadTimes ?gx_BadTrick ?x_BadTrick ?k_BadTrick ?s_BadTrick ?t_BadTrick ?gx_BadDivisor ?x_BadDivisor ?k_BadDivisor ?s_BadDivisor ?t_BadDivisor ?gx_BadNumber ?k_BadNumber ?s_BadNumber ?t_BadNumber ?gx_BadTricks ?k_BadTricks ?s_BadTricks ?t_BadTricks ?gx_BadPairs ?k_BadPairs ?s_BadPairs ?t_BadPairs ?gx_TooWide ?k_TooWide ?s_TooWide ?t_TooWide ?cx_GREATEST_NUMBER ?cx_LEAST_BASE ?cx_GREATEST_BASE ?cx_GREATEST_TAKE ?cx_GREATEST_DIVISOR ?cx_GREATEST_TIMES ?cx_MOST_ROUNDS ?cx_MOST_TRICKS ?cx_GREATEST_CHAIN_DIVISOR ?cx_GREATEST_PRODUCT ?cx_GREATEST_LENGTH ?cx_MOST_PAIRS ?df_is_integer ?df_is_list_or_tuple ?df_is_number ?df_check_base ?df_check_take ?gf_check_divisor ?l_check_divisor ?c_check_divisor ?kp_check_divisor ?ldT_check_divisor ?rdv_check_divisor ?df_check_stretch ?df_check_number ?df_block_of ?df_trail ?df_ahead ?df_check_trick ?df_trick_block ?df_made_of ?df_made_with ?df_bound ?df_rings ?df_greatest_size ?df_rounded_up ?df_unseen_path ?df_ring_at_end ?df_chained ?df_chain_tells ?df_check_tricks ?df_check_chain ?df_made_of_all ?df_blocks_product ?df_rest_pairs ?df_slip ?df_swap ?df_good_divisors ?df_check_length ?df_least_unseen ?df_multipliers ?df_divisors ?df_tells_multiples ?df_fitting ?df_check_pairs ?df_is_pair ?df_fitting_times ?df__law_taken ?df__law_power ?df__law_trick ?df__law_behind ?df__law_number ?df__law_chain ?df__law_tricks ?df__law_told ?gf_law ?l_law ?c_law ?kp_law ?gx_Trick ?pg_Trick ?hd_Trick ?po_Trick ?sa_Trick ?mk_Trick ?kc_Trick ?cc_Trick ?mo_Trick ?sp_cls ?tk_cls ?ki_Trick_int ?ki_Trick_bool ?ki_Trick_tuple ?ki_Trick_list ?nf_Trick_tuple ?kis_Trick ?kin_Trick_int ?kin_Trick_bool ?kin_Trick_tuple ?kin_Trick_list ?kin_Trick_NoneType ?kin_Trick_str ?kin_Trick_dict ?na_Trick_base ?na_Trick_take ?na_Trick_times ?gf_Trick___init__ ?l_Trick___init__ ?c_Trick___init__ ?kp_Trick___init__ ?isf_Trick___init__ ?pa_Trick_base ?pg_Trick_base ?pt_Trick_base ?prr_Trick_base ?l_Trick_base ?c_Trick_base ?kp_Trick_base ?pa_Trick_take ?pg_Trick_take ?pt_Trick_take ?prr_Trick_take ?l_Trick_take ?c_Trick_take ?kp_Trick_take ?pa_Trick_times ?pg_Trick_times ?pt_Trick_times ?prr_Trick_times ?l_Trick_times ?c_Trick_times ?kp_Trick_times ?gf_Trick___eq__ ?l_Trick___eq__ ?c_Trick___eq__ ?kp_Trick___eq__ ?isf_Trick___eq__ ?gx_Reckoner ?pg_Reckoner ?hd_Reckoner ?po_Reckoner ?sa_Reckoner ?mk_Reckoner ?kc_Reckoner ?cc_Reckoner ?mo_Reckoner ?ki_Reckoner_int ?ki_Reckoner_bool ?ki_Reckoner_tuple ?ki_Reckoner_list ?kis_Reckoner ?kin_Reckoner_int ?kin_Reckoner_bool ?kin_Reckoner_tuple ?kin_Reckoner_list ?kin_Reckoner_NoneType ?kin_Reckoner_str ?kin_Reckoner_dict ?na_Reckoner_numbers ?na_Reckoner_tricks ?gf_Reckoner___init__ ?l_Reckoner___init__ ?c_Reckoner___init__ ?kp_Reckoner___init__ ?isf_Reckoner___init__ ?pa_Reckoner_now ?pg_Reckoner_now ?pt_Reckoner_now ?prr_Reckoner_now ?l_Reckoner_now ?c_Reckoner_now ?kp_Reckoner_now ?pa_Reckoner_tricks ?pg_Reckoner_tricks ?pt_Reckoner_tricks ?prr_Reckoner_tricks ?l_Reckoner_tricks ?c_Reckoner_tricks ?kp_Reckoner_tricks ?gf_Reckoner_step ?l_Reckoner_step ?c_Reckoner_step ?kp_Reckoner_step ?isf_Reckoner_step ?gf_Reckoner_undo ?l_Reckoner_undo ?c_Reckoner_undo ?kp_Reckoner_undo ?isf_Reckoner_undo ?gf_Reckoner_copy ?l_Reckoner_copy ?c_Reckoner_copy ?kp_Reckoner_copy ?isf_Reckoner_copy ?gf_Reckoner___len__ ?l_Reckoner___len__ ?c_Reckoner___len__ ?kp_Reckoner___len__ ?isf_Reckoner___len__ ?z_int ?z_bool ?z_len ?z_range ?z_isinstance ?z_tuple ?z_list ?z_sorted ?z_enumerate ?z_abs ?z_all ?z_min ?z_max ?z_super ?z_ValueError ?xl_BadNumber___init__ ?xrb_BadNumber___init__ ?xsa_BadNumber___init__ ?xga_BadNumber___init__ ?xgg_BadNumber___init__ ?xnf_BadNumber___init__ ?xic_BadNumber___init__ ?xtc_BadNumber___init__ ?xhd_BadNumber___init__ ?xup_BadNumber___init__ ?xan_BadNumber___init__ ?xve_BadNumber___init__ ?xow_BadNumber___init__ ?rmn_BadNumber___init__ ?xfn_BadNumber___init__ ?xco_BadNumber___init__ ?xcd_BadNumber___init__ ?rvs_BadNumber___init__ ?rfi_BadNumber___init__ ?xcc_BadNumber___init__ ?xl_BadTricks___init__ ?xrb_BadTricks___init__ ?xsa_BadTricks___init__ ?xga_BadTricks___init__ ?xgg_BadTricks___init__ ?xnf_BadTricks___init__ ?xic_BadTricks___init__ ?xtc_BadTricks___init__ ?xhd_BadTricks___init__ ?xup_BadTricks___init__ ?xan_BadTricks___init__ ?xve_BadTricks___init__ ?xow_BadTricks___init__ ?rmn_BadTricks___init__ ?xfn_BadTricks___init__ ?xco_BadTricks___init__ ?xcd_BadTricks___init__ ?rvs_BadTricks___init__ ?rfi_BadTricks___init__ ?xcc_BadTricks___init__ ?xl_BadPairs___init__ ?xrb_BadPairs___init__ ?xsa_BadPairs___init__ ?xga_BadPairs___init__ ?xgg_BadPairs___init__ ?xnf_BadPairs___init__ ?xic_BadPairs___init__ ?xtc_BadPairs___init__ ?xhd_BadPairs___init__ ?xup_BadPairs___init__ ?xan_BadPairs___init__ ?xve_BadPairs___init__ ?xow_BadPairs___init__ ?rmn_BadPairs___init__ ?xfn_BadPairs___init__ ?xco_BadPairs___init__ ?xcd_BadPairs___init__ ?rvs_BadPairs___init__ ?rfi_BadPairs___init__ ?xcc_BadPairs___init__ ?xl_TooWide___init__ ?xrb_TooWide___init__ ?xsa_TooWide___init__ ?xga_TooWide___init__ ?xgg_TooWide___init__ ?xnf_TooWide___init__ ?xic_TooWide___init__ ?xtc_TooWide___init__ ?xhd_TooWide___init__ ?xup_TooWide___init__ ?xan_TooWide___init__ ?xve_TooWide___init__ ?xow_TooWide___init__ ?rmn_TooWide___init__ ?xfn_TooWide___init__ ?xco_TooWide___init__ ?xcd_TooWide___init__ ?rvs_TooWide___init__ ?rfi_TooWide___init__ ?xcc_TooWide___init__
    (case gx_TrickError => k_is)
    (case x_TrickError => k_exc)
    (case k_TrickError => first | (as_aux_lemma => k_is) | k_is)
    (case s_TrickError => first | (as_aux_lemma => k_is) | k_is)
    (case t_TrickError => first | (as_aux_lemma => k_is) | k_is)
    (case gx_BadBase => k_is)
    (case x_BadBase => k_exc)
    (case k_BadBase => first | (as_aux_lemma => k_is) | k_is)
    (case s_BadBase => first | (as_aux_lemma => k_is) | k_is)
    (case t_BadBase => first | (as_aux_lemma => k_is) | k_is)
    (case gx_BadTake => k_is)
    (case x_BadTake => k_exc)
    (case k_BadTake => first | (as_aux_lemma => k_is) | k_is)
    (case s_BadTake => first | (as_aux_lemma => k_is) | k_is)
    (case t_BadTake => first | (as_aux_lemma => k_is) | k_is)
    (case gx_BadTimes => k_is)
    (case x_BadTimes => k_exc)
    (case k_BadTimes => first | (as_aux_lemma => k_is) | k_is)
    (case s_BadTimes => first | (as_aux_lemma => k_is) | k_is)
    (case t_BadTimes => first | (as_aux_lemma => k_is) | k_is)
    (case gx_BadTrick => k_is)
    (case x_BadTrick => k_exc)
    (case k_BadTrick => first | (as_aux_lemma => k_is) | k_is)
    (case s_BadTrick => first | (as_aux_lemma => k_is) | k_is)
    (case t_BadTrick => first | (as_aux_lemma => k_is) | k_is)
    (case gx_BadDivisor => k_is)
    (case x_BadDivisor => k_exc)
    (case k_BadDivisor => first | (as_aux_lemma => k_is) | k_is)
    (case s_BadDivisor => first | (as_aux_lemma => k_is) | k_is)
    (case t_BadDivisor => first | (as_aux_lemma => k_is) | k_is)
    (case gx_BadNumber => k_is)
    (case k_BadNumber => first | (as_aux_lemma => k_is) | k_is)
    (case s_BadNumber => first | (as_aux_lemma => k_is) | k_is)
    (case t_BadNumber => first | (as_aux_lemma => k_is) | k_is)
    (case gx_BadTricks => k_is)
    (case k_BadTricks => first | (as_aux_lemma => k_is) | k_is)
    (case s_BadTricks => first | (as_aux_lemma => k_is) | k_is)
    (case t_BadTricks => first | (as_aux_lemma => k_is) | k_is)
    (case gx_BadPairs => k_is)
    (case k_BadPairs => first | (as_aux_lemma => k_is) | k_is)
    (case s_BadPairs => first | (as_aux_lemma => k_is) | k_is)
    (case t_BadPairs => first | (as_aux_lemma => k_is) | k_is)
    (case gx_TooWide => k_is)
    (case k_TooWide => first | (as_aux_lemma => k_is) | k_is)
    (case s_TooWide => first | (as_aux_lemma => k_is) | k_is)
    (case t_TooWide => first | (as_aux_lemma => k_is) | k_is)
    (case cx_GREATEST_NUMBER => k_is)
    (case cx_LEAST_BASE => k_is)
    (case cx_GREATEST_BASE => k_is)
    (case cx_GREATEST_TAKE => k_is)
    (case cx_GREATEST_DIVISOR => k_is)
    (case cx_GREATEST_TIMES => k_is)
    (case cx_MOST_ROUNDS => k_is)
    (case cx_MOST_TRICKS => k_is)
    (case cx_GREATEST_CHAIN_DIVISOR => k_is)
    (case cx_GREATEST_PRODUCT => k_is)
    (case cx_GREATEST_LENGTH => k_is)
    (case cx_MOST_PAIRS => k_is)
    (case df_is_integer => as_aux_lemma => (refine' ⟨_, _, ?gf, L2.fun_mk (st := Rt.s_is_integer) ?lk ?cd ?kp⟩; (case gf => k_is); (case lk => k_is); (case cd => k_is); (case kp => k_is)))
    (case df_is_list_or_tuple => as_aux_lemma => (refine' ⟨_, _, ?gf, L2.fun_mk (st := Rt.s_is_list_or_tuple) ?lk ?cd ?kp⟩; (case gf => k_is); (case lk => k_is); (case cd => k_is); (case kp => k_is)))
    (case df_is_number => as_aux_lemma => (refine' ⟨_, _, ?gf, L2.fun_mk (st := Rt.s_is_number) ?lk ?cd ?kp⟩; (case gf => k_is); (case lk => k_is); (case cd => k_is); (case kp => k_is)))
    (case df_check_base => as_aux_lemma => (refine' ⟨_, _, ?gf, L2.fun_mk (st := Rt.s_check_base) ?lk ?cd ?kp⟩; (case gf => k_is); (case lk => k_is); (case cd => k_is); (case kp => k_is)))
    (case df_check_take => as_aux_lemma => (refine' ⟨_, _, ?gf, L2.fun_mk (st := Rt.s_check_take) ?lk ?cd ?kp⟩; (case gf => k_is); (case lk => k_is); (case cd => k_is); (case kp => k_is)))
    (case gf_check_divisor => k_is)
    (case l_check_divisor => k_is)
    (case c_check_divisor => first | (as_aux_lemma => k_is) | k_is)
    (case kp_check_divisor => first | (as_aux_lemma => k_is) | k_is)
    (case ldT_check_divisor => k_is)
    (case rdv_check_divisor => first | rfl | decide +kernel)
    (case df_check_stretch => as_aux_lemma => (refine' ⟨_, _, ?gf, L2.fun_mk (st := Rt.s_check_stretch) ?lk ?cd ?kp⟩; (case gf => k_is); (case lk => k_is); (case cd => k_is); (case kp => k_is)))
    (case df_check_number => as_aux_lemma => (refine' ⟨_, _, ?gf, L2.fun_mk (st := Rt.s_check_number) ?lk ?cd ?kp⟩; (case gf => k_is); (case lk => k_is); (case cd => k_is); (case kp => k_is)))
    (case df_block_of => as_aux_lemma => (refine' ⟨_, _, ?gf, L2.fun_mk (st := Rt.s_block_of) ?lk ?cd ?kp⟩; (case gf => k_is); (case lk => k_is); (case cd => k_is); (case kp => k_is)))
    (case df_trail => as_aux_lemma => (refine' ⟨_, _, ?gf, L2.fun_mk (st := Rt.s_trail) ?lk ?cd ?kp⟩; (case gf => k_is); (case lk => k_is); (case cd => k_is); (case kp => k_is)))
    (case df_ahead => as_aux_lemma => (refine' ⟨_, _, ?gf, L2.fun_mk (st := Rt.s_ahead) ?lk ?cd ?kp⟩; (case gf => k_is); (case lk => k_is); (case cd => k_is); (case kp => k_is)))
    (case df_check_trick => as_aux_lemma => (refine' ⟨_, _, ?gf, L2.fun_mk (st := Rt.s_check_trick) ?lk ?cd ?kp⟩; (case gf => k_is); (case lk => k_is); (case cd => k_is); (case kp => k_is)))
    (case df_trick_block => as_aux_lemma => (refine' ⟨_, _, ?gf, L2.fun_mk (st := Rt.s_trick_block) ?lk ?cd ?kp⟩; (case gf => k_is); (case lk => k_is); (case cd => k_is); (case kp => k_is)))
    (case df_made_of => as_aux_lemma => (refine' ⟨_, _, ?gf, L2.fun_mk (st := Rt.s_made_of) ?lk ?cd ?kp⟩; (case gf => k_is); (case lk => k_is); (case cd => k_is); (case kp => k_is)))
    (case df_made_with => as_aux_lemma => (refine' ⟨_, _, ?gf, L2.fun_mk (st := Rt.s_made_with) ?lk ?cd ?kp⟩; (case gf => k_is); (case lk => k_is); (case cd => k_is); (case kp => k_is)))
    (case df_bound => as_aux_lemma => (refine' ⟨_, _, ?gf, L2.fun_mk (st := Rt.s_bound) ?lk ?cd ?kp⟩; (case gf => k_is); (case lk => k_is); (case cd => k_is); (case kp => k_is)))
    (case df_rings => as_aux_lemma => (refine' ⟨_, _, ?gf, L2.fun_mk (st := Rt.s_rings) ?lk ?cd ?kp⟩; (case gf => k_is); (case lk => k_is); (case cd => k_is); (case kp => k_is)))
    (case df_greatest_size => as_aux_lemma => (refine' ⟨_, _, ?gf, L2.fun_mk (st := Rt.s_greatest_size) ?lk ?cd ?kp⟩; (case gf => k_is); (case lk => k_is); (case cd => k_is); (case kp => k_is)))
    (case df_rounded_up => as_aux_lemma => (refine' ⟨_, _, ?gf, L2.fun_mk (st := Rt.s_rounded_up) ?lk ?cd ?kp⟩; (case gf => k_is); (case lk => k_is); (case cd => k_is); (case kp => k_is)))
    (case df_unseen_path => as_aux_lemma => (refine' ⟨_, _, ?gf, L2.fun_mk (st := Rt.s_unseen_path) ?lk ?cd ?kp⟩; (case gf => k_is); (case lk => k_is); (case cd => k_is); (case kp => k_is)))
    (case df_ring_at_end => as_aux_lemma => (refine' ⟨_, _, ?gf, L2.fun_mk (st := Rt.s_ring_at_end) ?lk ?cd ?kp⟩; (case gf => k_is); (case lk => k_is); (case cd => k_is); (case kp => k_is)))
    (case df_chained => as_aux_lemma => (refine' ⟨_, _, ?gf, L2.fun_mk (st := Rt.s_chained) ?lk ?cd ?kp⟩; (case gf => k_is); (case lk => k_is); (case cd => k_is); (case kp => k_is)))
    (case df_chain_tells => as_aux_lemma => (refine' ⟨_, _, ?gf, L2.fun_mk (st := Rt.s_chain_tells) ?lk ?cd ?kp⟩; (case gf => k_is); (case lk => k_is); (case cd => k_is); (case kp => k_is)))
    (case df_check_tricks => as_aux_lemma => (refine' ⟨_, _, ?gf, L2.fun_mk (st := Rt.s_check_tricks) ?lk ?cd ?kp⟩; (case gf => k_is); (case lk => k_is); (case cd => k_is); (case kp => k_is)))
    (case df_check_chain => as_aux_lemma => (refine' ⟨_, _, ?gf, L2.fun_mk (st := Rt.s_check_chain) ?lk ?cd ?kp⟩; (case gf => k_is); (case lk => k_is); (case cd => k_is); (case kp => k_is)))
    (case df_made_of_all => as_aux_lemma => (refine' ⟨_, _, ?gf, L2.fun_mk (st := Rt.s_made_of_all) ?lk ?cd ?kp⟩; (case gf => k_is); (case lk => k_is); (case cd => k_is); (case kp => k_is)))
    (case df_blocks_product => as_aux_lemma => (refine' ⟨_, _, ?gf, L2.fun_mk (st := Rt.s_blocks_product) ?lk ?cd ?kp⟩; (case gf => k_is); (case lk => k_is); (case cd => k_is); (case kp => k_is)))
    (case df_rest_pairs => as_aux_lemma => (refine' ⟨_, _, ?gf, L2.fun_mk (st := Rt.s_rest_pairs) ?lk ?cd ?kp⟩; (case gf => k_is); (case lk => k_is); (case cd => k_is); (case kp => k_is)))
    (case df_slip => as_aux_lemma => (refine' ⟨_, _, ?gf, L2.fun_mk (st := Rt.s_slip) ?lk ?cd ?kp⟩; (case gf => k_is); (case lk => k_is); (case cd => k_is); (case kp => k_is)))
    (case df_swap => as_aux_lemma => (refine' ⟨_, _, ?gf, L2.fun_mk (st := Rt.s_swap) ?lk ?cd ?kp⟩; (case gf => k_is); (case lk => k_is); (case cd => k_is); (case kp => k_is)))
    (case df_good_divisors => as_aux_lemma => (refine' ⟨_, _, ?gf, L2.fun_mk (st := Rt.s_good_divisors) ?lk ?cd ?kp⟩; (case gf => k_is); (case lk => k_is); (case cd => k_is); (case kp => k_is)))
    (case df_check_length => as_aux_lemma => (refine' ⟨_, _, ?gf, L2.fun_mk (st := Rt.s_check_length) ?lk ?cd ?kp⟩; (case gf => k_is); (case lk => k_is); (case cd => k_is); (case kp => k_is)))
    (case df_least_unseen => as_aux_lemma => (refine' ⟨_, _, ?gf, L2.fun_mk (st := Rt.s_least_unseen) ?lk ?cd ?kp⟩; (case gf => k_is); (case lk => k_is); (case cd => k_is); (case kp => k_is)))
    (case df_multipliers => as_aux_lemma => (refine' ⟨_, _, ?gf, L2.fun_mk (st := Rt.s_multipliers) ?lk ?cd ?kp⟩; (case gf => k_is); (case lk => k_is); (case cd => k_is); (case kp => k_is)))
    (case df_divisors => as_aux_lemma => (refine' ⟨_, _, ?gf, L2.fun_mk (st := Rt.s_divisors) ?lk ?cd ?kp⟩; (case gf => k_is); (case lk => k_is); (case cd => k_is); (case kp => k_is)))
    (case df_tells_multiples => as_aux_lemma => (refine' ⟨_, _, ?gf, L2.fun_mk (st := Rt.s_tells_multiples) ?lk ?cd ?kp⟩; (case gf => k_is); (case lk => k_is); (case cd => k_is); (case kp => k_is)))
    (case df_fitting => as_aux_lemma => (refine' ⟨_, _, ?gf, L2.fun_mk (st := Rt.s_fitting) ?lk ?cd ?kp⟩; (case gf => k_is); (case lk => k_is); (case cd => k_is); (case kp => k_is)))
    (case df_check_pairs => as_aux_lemma => (refine' ⟨_, _, ?gf, L2.fun_mk (st := Rt.s_check_pairs) ?lk ?cd ?kp⟩; (case gf => k_is); (case lk => k_is); (case cd => k_is); (case kp => k_is)))
    (case df_is_pair => as_aux_lemma => (refine' ⟨_, _, ?gf, L2.fun_mk (st := Rt.s_is_pair) ?lk ?cd ?kp⟩; (case gf => k_is); (case lk => k_is); (case cd => k_is); (case kp => k_is)))
    (case df_fitting_times => as_aux_lemma => (refine' ⟨_, _, ?gf, L2.fun_mk (st := Rt.s_fitting_times) ?lk ?cd ?kp⟩; (case gf => k_is); (case lk => k_is); (case cd => k_is); (case kp => k_is)))
    (case df__law_taken => as_aux_lemma => (refine' ⟨_, _, ?gf, L2.fun_mk (st := Rt.s__law_taken) ?lk ?cd ?kp⟩; (case gf => k_is); (case lk => k_is); (case cd => k_is); (case kp => k_is)))
    (case df__law_power => as_aux_lemma => (refine' ⟨_, _, ?gf, L2.fun_mk (st := Rt.s__law_power) ?lk ?cd ?kp⟩; (case gf => k_is); (case lk => k_is); (case cd => k_is); (case kp => k_is)))
    (case df__law_trick => as_aux_lemma => (refine' ⟨_, _, ?gf, L2.fun_mk (st := Rt.s__law_trick) ?lk ?cd ?kp⟩; (case gf => k_is); (case lk => k_is); (case cd => k_is); (case kp => k_is)))
    (case df__law_behind => as_aux_lemma => (refine' ⟨_, _, ?gf, L2.fun_mk (st := Rt.s__law_behind) ?lk ?cd ?kp⟩; (case gf => k_is); (case lk => k_is); (case cd => k_is); (case kp => k_is)))
    (case df__law_number => as_aux_lemma => (refine' ⟨_, _, ?gf, L2.fun_mk (st := Rt.s__law_number) ?lk ?cd ?kp⟩; (case gf => k_is); (case lk => k_is); (case cd => k_is); (case kp => k_is)))
    (case df__law_chain => as_aux_lemma => (refine' ⟨_, _, ?gf, L2.fun_mk (st := Rt.s__law_chain) ?lk ?cd ?kp⟩; (case gf => k_is); (case lk => k_is); (case cd => k_is); (case kp => k_is)))
    (case df__law_tricks => as_aux_lemma => (refine' ⟨_, _, ?gf, L2.fun_mk (st := Rt.s__law_tricks) ?lk ?cd ?kp⟩; (case gf => k_is); (case lk => k_is); (case cd => k_is); (case kp => k_is)))
    (case df__law_told => as_aux_lemma => (refine' ⟨_, _, ?gf, L2.fun_mk (st := Rt.s__law_told) ?lk ?cd ?kp⟩; (case gf => k_is); (case lk => k_is); (case cd => k_is); (case kp => k_is)))
    (case gf_law => k_is)
    (case l_law => k_is)
    (case c_law => first | (as_aux_lemma => k_is) | k_is)
    (case kp_law => first | (as_aux_lemma => k_is) | k_is)
    (case gx_Trick => k_is)
    (case pg_Trick => first | (as_aux_lemma => k_is) | k_is)
    (case hd_Trick => first | (as_aux_lemma => k_is) | k_is)
    (case po_Trick => first | (as_aux_lemma => k_is) | k_is)
    (case sa_Trick => first | (as_aux_lemma => k_is) | k_is)
    (case mk_Trick => first | (as_aux_lemma => k_is) | k_is)
    (case kc_Trick => first | (as_aux_lemma => k_is) | k_is)
    (case cc_Trick => first | (as_aux_lemma => k_is) | k_is)
    (case mo_Trick => first | (as_aux_lemma => k_is) | k_is)
    (case sp_cls => first | (as_aux_lemma => k_is) | k_is)
    (case tk_cls => first | (as_aux_lemma => k_is) | k_is)
    (case ki_Trick_int => first | k_is | rfl)
    (case ki_Trick_bool => first | k_is | rfl)
    (case ki_Trick_tuple => first | k_is | rfl)
    (case ki_Trick_list => first | k_is | rfl)
    (case nf_Trick_tuple => first | k_is | rfl)
    (case kis_Trick => first | k_is | rfl)
    (case kin_Trick_int => first | k_is | rfl)
    (case kin_Trick_bool => first | k_is | rfl)
    (case kin_Trick_tuple => first | k_is | rfl)
    (case kin_Trick_list => first | k_is | rfl)
    (case kin_Trick_NoneType => first | k_is | rfl)
    (case kin_Trick_str => first | k_is | rfl)
    (case kin_Trick_dict => first | k_is | rfl)
    (case na_Trick_base => first | (as_aux_lemma => k_is) | k_is)
    (case na_Trick_take => first | (as_aux_lemma => k_is) | k_is)
    (case na_Trick_times => first | (as_aux_lemma => k_is) | k_is)
    (case gf_Trick___init__ => k_is)
    (case l_Trick___init__ => k_is)
    (case c_Trick___init__ => first | (as_aux_lemma => k_is) | k_is)
    (case kp_Trick___init__ => first | (as_aux_lemma => k_is) | k_is)
    (case isf_Trick___init__ => first | (as_aux_lemma => k_is) | k_is)
    (case pa_Trick_base => k_is)
    (case pg_Trick_base => first | (as_aux_lemma => k_is) | k_is)
    (case pt_Trick_base => first | (as_aux_lemma => k_is) | k_is)
    (case prr_Trick_base => k_is)
    (case l_Trick_base => k_is)
    (case c_Trick_base => first | (as_aux_lemma => k_is) | k_is)
    (case kp_Trick_base => first | (as_aux_lemma => k_is) | k_is)
    (case pa_Trick_take => k_is)
    (case pg_Trick_take => first | (as_aux_lemma => k_is) | k_is)
    (case pt_Trick_take => first | (as_aux_lemma => k_is) | k_is)
    (case prr_Trick_take => k_is)
    (case l_Trick_take => k_is)
    (case c_Trick_take => first | (as_aux_lemma => k_is) | k_is)
    (case kp_Trick_take => first | (as_aux_lemma => k_is) | k_is)
    (case pa_Trick_times => k_is)
    (case pg_Trick_times => first | (as_aux_lemma => k_is) | k_is)
    (case pt_Trick_times => first | (as_aux_lemma => k_is) | k_is)
    (case prr_Trick_times => k_is)
    (case l_Trick_times => k_is)
    (case c_Trick_times => first | (as_aux_lemma => k_is) | k_is)
    (case kp_Trick_times => first | (as_aux_lemma => k_is) | k_is)
    (case gf_Trick___eq__ => k_is)
    (case l_Trick___eq__ => k_is)
    (case c_Trick___eq__ => first | (as_aux_lemma => k_is) | k_is)
    (case kp_Trick___eq__ => first | (as_aux_lemma => k_is) | k_is)
    (case isf_Trick___eq__ => first | (as_aux_lemma => k_is) | k_is)
    (case gx_Reckoner => k_is)
    (case pg_Reckoner => first | (as_aux_lemma => k_is) | k_is)
    (case hd_Reckoner => first | (as_aux_lemma => k_is) | k_is)
    (case po_Reckoner => first | (as_aux_lemma => k_is) | k_is)
    (case sa_Reckoner => first | (as_aux_lemma => k_is) | k_is)
    (case mk_Reckoner => first | (as_aux_lemma => k_is) | k_is)
    (case kc_Reckoner => first | (as_aux_lemma => k_is) | k_is)
    (case cc_Reckoner => first | (as_aux_lemma => k_is) | k_is)
    (case mo_Reckoner => first | (as_aux_lemma => k_is) | k_is)
    (case ki_Reckoner_int => first | k_is | rfl)
    (case ki_Reckoner_bool => first | k_is | rfl)
    (case ki_Reckoner_tuple => first | k_is | rfl)
    (case ki_Reckoner_list => first | k_is | rfl)
    (case kis_Reckoner => first | k_is | rfl)
    (case kin_Reckoner_int => first | k_is | rfl)
    (case kin_Reckoner_bool => first | k_is | rfl)
    (case kin_Reckoner_tuple => first | k_is | rfl)
    (case kin_Reckoner_list => first | k_is | rfl)
    (case kin_Reckoner_NoneType => first | k_is | rfl)
    (case kin_Reckoner_str => first | k_is | rfl)
    (case kin_Reckoner_dict => first | k_is | rfl)
    (case na_Reckoner_numbers => first | (as_aux_lemma => k_is) | k_is)
    (case na_Reckoner_tricks => first | (as_aux_lemma => k_is) | k_is)
    (case gf_Reckoner___init__ => k_is)
    (case l_Reckoner___init__ => k_is)
    (case c_Reckoner___init__ => first | (as_aux_lemma => k_is) | k_is)
    (case kp_Reckoner___init__ => first | (as_aux_lemma => k_is) | k_is)
    (case isf_Reckoner___init__ => first | (as_aux_lemma => k_is) | k_is)
    (case pa_Reckoner_now => k_is)
    (case pg_Reckoner_now => first | (as_aux_lemma => k_is) | k_is)
    (case pt_Reckoner_now => first | (as_aux_lemma => k_is) | k_is)
    (case prr_Reckoner_now => k_is)
    (case l_Reckoner_now => k_is)
    (case c_Reckoner_now => first | (as_aux_lemma => k_is) | k_is)
    (case kp_Reckoner_now => first | (as_aux_lemma => k_is) | k_is)
    (case pa_Reckoner_tricks => k_is)
    (case pg_Reckoner_tricks => first | (as_aux_lemma => k_is) | k_is)
    (case pt_Reckoner_tricks => first | (as_aux_lemma => k_is) | k_is)
    (case prr_Reckoner_tricks => k_is)
    (case l_Reckoner_tricks => k_is)
    (case c_Reckoner_tricks => first | (as_aux_lemma => k_is) | k_is)
    (case kp_Reckoner_tricks => first | (as_aux_lemma => k_is) | k_is)
    (case gf_Reckoner_step => k_is)
    (case l_Reckoner_step => k_is)
    (case c_Reckoner_step => first | (as_aux_lemma => k_is) | k_is)
    (case kp_Reckoner_step => first | (as_aux_lemma => k_is) | k_is)
    (case isf_Reckoner_step => first | (as_aux_lemma => k_is) | k_is)
    (case gf_Reckoner_undo => k_is)
    (case l_Reckoner_undo => k_is)
    (case c_Reckoner_undo => first | (as_aux_lemma => k_is) | k_is)
    (case kp_Reckoner_undo => first | (as_aux_lemma => k_is) | k_is)
    (case isf_Reckoner_undo => first | (as_aux_lemma => k_is) | k_is)
    (case gf_Reckoner_copy => k_is)
    (case l_Reckoner_copy => k_is)
    (case c_Reckoner_copy => first | (as_aux_lemma => k_is) | k_is)
    (case kp_Reckoner_copy => first | (as_aux_lemma => k_is) | k_is)
    (case isf_Reckoner_copy => first | (as_aux_lemma => k_is) | k_is)
    (case gf_Reckoner___len__ => k_is)
    (case l_Reckoner___len__ => k_is)
    (case c_Reckoner___len__ => first | (as_aux_lemma => k_is) | k_is)
    (case kp_Reckoner___len__ => first | (as_aux_lemma => k_is) | k_is)
    (case isf_Reckoner___len__ => first | (as_aux_lemma => k_is) | k_is)
    (case z_int => k_is)
    (case z_bool => k_is)
    (case z_len => k_is)
    (case z_range => k_is)
    (case z_isinstance => k_is)
    (case z_tuple => k_is)
    (case z_list => k_is)
    (case z_sorted => k_is)
    (case z_enumerate => k_is)
    (case z_abs => k_is)
    (case z_all => k_is)
    (case z_min => k_is)
    (case z_max => k_is)
    (case z_super => k_is)
    (case z_ValueError => k_is)
    (case xl_BadNumber___init__ => k_is)
    (case xrb_BadNumber___init__ => first | rfl | decide +kernel)
    (case xsa_BadNumber___init__ => first | (as_aux_lemma => k_is) | k_is)
    (case xga_BadNumber___init__ => first | (as_aux_lemma => k_is) | k_is)
    (case xgg_BadNumber___init__ => first | (as_aux_lemma => k_is) | k_is)
    (case xnf_BadNumber___init__ => first | (as_aux_lemma => k_is) | k_is)
    (case xic_BadNumber___init__ => k_is)
    (case xtc_BadNumber___init__ => first | (as_aux_lemma => k_is) | k_is)
    (case xhd_BadNumber___init__ => first | (as_aux_lemma => k_is) | k_is)
    (case xup_BadNumber___init__ => ks_is)
    (case xan_BadNumber___init__ => first | (as_aux_lemma => k_is) | k_is)
    (case xve_BadNumber___init__ => first | (as_aux_lemma => k_is) | k_is)
    (case xow_BadNumber___init__ => first | (as_aux_lemma => k_is) | k_is)
    (case rmn_BadNumber___init__ => first | rfl | decide +kernel)
    (case xfn_BadNumber___init__ => k_is)
    (case xco_BadNumber___init__ => first | (as_aux_lemma => k_is) | k_is)
    (case xcd_BadNumber___init__ => k_is)
    (case rvs_BadNumber___init__ => first | rfl | decide +kernel)
    (case rfi_BadNumber___init__ => first | rfl | decide +kernel)
    (case xcc_BadNumber___init__ => k_is)
    (case xl_BadTricks___init__ => k_is)
    (case xrb_BadTricks___init__ => first | rfl | decide +kernel)
    (case xsa_BadTricks___init__ => first | (as_aux_lemma => k_is) | k_is)
    (case xga_BadTricks___init__ => first | (as_aux_lemma => k_is) | k_is)
    (case xgg_BadTricks___init__ => first | (as_aux_lemma => k_is) | k_is)
    (case xnf_BadTricks___init__ => first | (as_aux_lemma => k_is) | k_is)
    (case xic_BadTricks___init__ => k_is)
    (case xtc_BadTricks___init__ => first | (as_aux_lemma => k_is) | k_is)
    (case xhd_BadTricks___init__ => first | (as_aux_lemma => k_is) | k_is)
    (case xup_BadTricks___init__ => ks_is)
    (case xan_BadTricks___init__ => first | (as_aux_lemma => k_is) | k_is)
    (case xve_BadTricks___init__ => first | (as_aux_lemma => k_is) | k_is)
    (case xow_BadTricks___init__ => first | (as_aux_lemma => k_is) | k_is)
    (case rmn_BadTricks___init__ => first | rfl | decide +kernel)
    (case xfn_BadTricks___init__ => k_is)
    (case xco_BadTricks___init__ => first | (as_aux_lemma => k_is) | k_is)
    (case xcd_BadTricks___init__ => k_is)
    (case rvs_BadTricks___init__ => first | rfl | decide +kernel)
    (case rfi_BadTricks___init__ => first | rfl | decide +kernel)
    (case xcc_BadTricks___init__ => k_is)
    (case xl_BadPairs___init__ => k_is)
    (case xrb_BadPairs___init__ => first | rfl | decide +kernel)
    (case xsa_BadPairs___init__ => first | (as_aux_lemma => k_is) | k_is)
    (case xga_BadPairs___init__ => first | (as_aux_lemma => k_is) | k_is)
    (case xgg_BadPairs___init__ => first | (as_aux_lemma => k_is) | k_is)
    (case xnf_BadPairs___init__ => first | (as_aux_lemma => k_is) | k_is)
    (case xic_BadPairs___init__ => k_is)
    (case xtc_BadPairs___init__ => first | (as_aux_lemma => k_is) | k_is)
    (case xhd_BadPairs___init__ => first | (as_aux_lemma => k_is) | k_is)
    (case xup_BadPairs___init__ => ks_is)
    (case xan_BadPairs___init__ => first | (as_aux_lemma => k_is) | k_is)
    (case xve_BadPairs___init__ => first | (as_aux_lemma => k_is) | k_is)
    (case xow_BadPairs___init__ => first | (as_aux_lemma => k_is) | k_is)
    (case rmn_BadPairs___init__ => first | rfl | decide +kernel)
    (case xfn_BadPairs___init__ => k_is)
    (case xco_BadPairs___init__ => first | (as_aux_lemma => k_is) | k_is)
    (case xcd_BadPairs___init__ => k_is)
    (case rvs_BadPairs___init__ => first | rfl | decide +kernel)
    (case rfi_BadPairs___init__ => first | rfl | decide +kernel)
    (case xcc_BadPairs___init__ => k_is)
    (case xl_TooWide___init__ => k_is)
    (case xrb_TooWide___init__ => first | rfl | decide +kernel)
    (case xsa_TooWide___init__ => first | (as_aux_lemma => k_is) | k_is)
    (case xga_TooWide___init__ => first | (as_aux_lemma => k_is) | k_is)
    (case xgg_TooWide___init__ => first | (as_aux_lemma => k_is) | k_is)
    (case xnf_TooWide___init__ => first | (as_aux_lemma => k_is) | k_is)
    (case xic_TooWide___init__ => k_is)
    (case xtc_TooWide___init__ => first | (as_aux_lemma => k_is) | k_is)
    (case xhd_TooWide___init__ => first | (as_aux_lemma => k_is) | k_is)
    (case xup_TooWide___init__ => ks_is)
    (case xan_TooWide___init__ => first | (as_aux_lemma => k_is) | k_is)
    (case xve_TooWide___init__ => first | (as_aux_lemma => k_is) | k_is)
    (case xow_TooWide___init__ => first | (as_aux_lemma => k_is) | k_is)
    (case rmn_TooWide___init__ => first | rfl | decide +kernel)
    (case xfn_TooWide___init__ => k_is)
    (case xco_TooWide___init__ => first | (as_aux_lemma => k_is) | k_is)
    (case xcd_TooWide___init__ => k_is)
    (case rvs_TooWide___init__ => first | rfl | decide +kernel)
    (case rfi_TooWide___init__ => first | rfl | decide +kernel)
    (case xcc_TooWide___init__ => k_is)
#print axioms PySem.Challenge.cw_resttricks_k41_asked_again_holds
