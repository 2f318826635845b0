import PyProof.Rows.All
import Wide.All
import OpenK.AllK
import Wide.FinOn
import HandS.ForMost
import HandS.Exc
import HandS.TryOnly
import HandS.ExcOwn
import HandS.WordsExc
import HandS.TryMany
import HandS.IsInst
import HandS.Property
import HandS.Wide
import HandS.SortInts
import HandS.Conv
import HandS.Evl
import HandS.NoneIn
import HandS.ExcIs
import HandS.ExcSuper
import KE.KExcSuper
import KE.KExcInit
import KE.GoesMore
import HandS.Rev
import HandS.FStr
import HandS.Walk
import HandS.WideMore
import HandS.TupAny
import HandS.TupMul
import HandS.Style
import HandS.SetFor
import HandS.Strs
import HandS.Defaults
import HandS.RaiseMore
import HandS.Zip
import PySem.Challenge.RW_resttricks_k42_errors_are_apart
import HandS.Head2
set_option Elab.async false
set_option linter.all false
set_option maxRecDepth 100000
set_option maxHeartbeats 2000000
/-! ### the top, run -/
namespace Rt
section
open PySem PySem.W PySem.Calls PyProof.Rows
abbrev topRow : OpenRow := OpenLaw.row PySem.Challenge.rw_resttricks_k42_errors_are_apart
section
local macro_rules | `(tactic| o_head $_) => `(tactic| assumption)
theorem topPart (h : OpenRow.Holds topRow) : OpenRow.Holds topRow := by k_head
end
def topOthers0 : List PySem.Str := [("__name__" : PySem.Str), ("TrickError" : PySem.Str), ("BadBase" : PySem.Str), ("BadTake" : PySem.Str), ("BadTimes" : PySem.Str), ("BadTrick" : PySem.Str), ("BadNumber" : PySem.Str), ("BadDivisor" : PySem.Str), ("BadFigures" : PySem.Str), ("BadWeights" : PySem.Str)]
def topOthers1 : List PySem.Str := [("BadSum" : PySem.Str), ("BadRests" : PySem.Str), ("BadRest" : PySem.Str), ("BadTricks" : PySem.Str), ("BadPairs" : PySem.Str), ("TooWide" : PySem.Str), ("InvalidText" : PySem.Str), ("GREATEST_NUMBER" : PySem.Str), ("LEAST_BASE" : PySem.Str), ("GREATEST_BASE" : PySem.Str)]
def topOthers2 : List PySem.Str := [("GREATEST_TAKE" : PySem.Str), ("GREATEST_DIVISOR" : PySem.Str), ("is_integer" : PySem.Str), ("is_tuple" : PySem.Str), ("is_list_or_tuple" : PySem.Str), ("is_number" : PySem.Str), ("first_wrong" : PySem.Str), ("check_base" : PySem.Str), ("check_take" : PySem.Str), ("check_divisor" : PySem.Str)]
def topOthers3 : List PySem.Str := [("check_stretch" : PySem.Str), ("check_number" : PySem.Str), ("MOST_FIGURES" : PySem.Str), ("figures" : PySem.Str), ("number" : PySem.Str), ("check_figures" : PySem.Str), ("block_of" : PySem.Str), ("GREATEST_TIMES" : PySem.Str), ("Trick" : PySem.Str), ("done" : PySem.Str)]
def topOthers4 : List PySem.Str := [("check_trick" : PySem.Str), ("trick_block" : PySem.Str), ("made_of" : PySem.Str), ("made_with" : PySem.Str), ("MOST_TRICKS" : PySem.Str), ("GREATEST_CHAIN_DIVISOR" : PySem.Str), ("GREATEST_PRODUCT" : PySem.Str), ("chained" : PySem.Str), ("chain_tells" : PySem.Str), ("check_tricks" : PySem.Str)]
def topOthers5 : List PySem.Str := [("check_chain" : PySem.Str), ("made_of_all" : PySem.Str), ("blocks_product" : PySem.Str), ("rest_pairs" : PySem.Str), ("tells" : PySem.Str), ("keeps_rest" : PySem.Str), ("tells_multiples" : PySem.Str), ("MOST_LABELS" : PySem.Str), ("GREATEST_LABEL" : PySem.Str), ("front_states" : PySem.Str)]
def topOthers6 : List PySem.Str := [("front_classes" : PySem.Str), ("front_word" : PySem.Str), ("check_labels" : PySem.Str), ("check_rest" : PySem.Str), ("front_machine" : PySem.Str), ("classes" : PySem.Str), ("numbered" : PySem.Str), ("least_word" : PySem.Str), ("GREATEST_WEIGHT" : PySem.Str), ("MOST_WEIGHTS" : PySem.Str)]
def topOthers7 : List PySem.Str := [("Sum" : PySem.Str), ("total" : PySem.Str), ("check_weights" : PySem.Str), ("check_sum" : PySem.Str), ("sum_block" : PySem.Str), ("weight_at" : PySem.Str), ("read" : PySem.Str), ("possible_words" : PySem.Str), ("written" : PySem.Str), ("MOST_PAIRS" : PySem.Str)]
def topOthers8 : List PySem.Str := [("fitting" : PySem.Str), ("check_pairs" : PySem.Str), ("is_pair" : PySem.Str), ("fitting_times" : PySem.Str), ("_law_taken" : PySem.Str), ("_law_call" : PySem.Str), ("_law_early" : PySem.Str), ("_law_first" : PySem.Str), ("_law_second" : PySem.Str)]
def topOthers : List PySem.Str := topOthers0 ++ (topOthers1 ++ (topOthers2 ++ (topOthers3 ++ (topOthers4 ++ (topOthers5 ++ (topOthers6 ++ (topOthers7 ++ (topOthers8))))))))
def topPlaces0 : List Nat := [2, 3, 15, 22, 23, 24, 25, 28, 35, 36, 37, 40, 47, 48, 49, 52, 59, 60, 61, 64, 71, 72, 73, 76, 79, 84, 85, 87, 88, 90, 91, 92, 93, 94, 97, 104, 105, 106, 109, 112]
def topPlaces1 : List Nat := [117, 118, 120, 121, 123, 124, 125, 126, 127, 130, 133, 138, 139, 141, 142, 144, 145, 146, 147, 148, 151, 158, 159, 160, 163, 166, 171, 172, 174, 175, 177, 178, 179, 180, 181, 184, 191, 192, 193, 196]
def topPlaces2 : List Nat := [199, 204, 205, 207, 208, 210, 211, 212, 213, 214, 217, 220, 225, 226, 228, 229, 231, 232, 233, 234, 235, 238, 241, 246, 247, 249, 250, 252, 253, 254, 255, 256, 259, 262, 267, 268, 270, 271, 273, 274]
def topPlaces3 : List Nat := [275, 276, 277, 280, 282, 283, 285, 286, 287, 289, 290, 292, 293, 294, 296, 297, 299, 300, 301, 303, 304, 306, 307, 308, 310, 311, 313, 314, 315, 317, 318, 320, 321, 322, 324, 325, 327, 328, 329, 330]
def topPlaces4 : List Nat := [332, 333, 335, 336, 337, 339, 340, 342, 343, 344, 346, 347, 349, 350, 351, 353, 354, 356, 357, 358, 360, 361, 363, 364, 365, 367, 368, 370, 371, 372, 374, 375, 377, 378, 386, 388, 389, 391, 392, 393]
def topPlaces5 : List Nat := [395, 396, 398, 399, 400, 401, 403, 404, 406, 407, 408, 409, 411, 412, 414, 415, 416, 417, 419, 420, 422, 423, 424, 425, 426, 427, 428, 431, 433, 434, 436, 437, 438, 440, 441, 443, 444, 445, 447, 448]
def topPlaces6 : List Nat := [450, 451, 452, 454, 455, 457, 458, 459, 461, 462, 464, 465, 466, 468, 469, 471, 472, 473, 476, 477, 478, 480, 481, 483, 484, 485, 487, 488, 490, 491, 492, 494, 495, 497, 498, 499, 501, 502, 504, 505]
def topPlaces7 : List Nat := [506, 509, 510, 511, 513, 514, 516, 517, 518, 520, 521, 523, 524, 525, 527, 528, 530, 531, 532, 534, 535, 537, 538, 539, 541, 542, 544, 545, 546, 548, 549, 551, 552, 553, 555, 556, 558, 559, 560, 562]
def topPlaces8 : List Nat := [563, 565, 566, 567, 570, 571, 572, 575, 576, 577, 579, 580, 582, 583, 584, 586, 587, 589, 590, 598, 600, 601, 603, 604, 605, 607, 608, 610, 611, 612, 613, 615, 616, 618, 619, 620, 621, 623, 624, 626]
def topPlaces9 : List Nat := [627, 628, 629, 631, 632, 634, 635, 636, 637, 639, 640, 642, 643, 644, 645, 646, 647, 648, 651, 653, 654, 656, 657, 658, 660, 661, 663, 664, 665, 667, 668, 670, 671, 672, 674, 675, 677, 678, 679, 681]
def topPlaces10 : List Nat := [682, 684, 685, 686, 689, 690, 691, 693, 694, 696, 697, 698, 701, 702, 703, 706, 707, 708, 710, 711, 713, 714, 715, 717, 718, 720, 721, 722, 725, 726, 727, 729, 730, 732, 733, 734, 736, 737, 739, 740]
def topPlaces11 : List Nat := [741, 743, 744, 746, 747, 748, 750, 751, 753, 754, 755, 757, 758, 760, 761, 762, 764, 765, 767, 768]
def topPlaces : List Nat := topPlaces0 ++ (topPlaces1 ++ (topPlaces2 ++ (topPlaces3 ++ (topPlaces4 ++ (topPlaces5 ++ (topPlaces6 ++ (topPlaces7 ++ (topPlaces8 ++ (topPlaces9 ++ (topPlaces10 ++ (topPlaces11)))))))))))
theorem topPlaces_eq : ∀ P, topPlaces = (topPart.heap_1 P).map (·.1) := fun _ => by kernel_rfl
noncomputable abbrev topHook : Hook := kHook topPart.heap_1 topPlaces topPlaces_eq
noncomputable def topSeen (s : SharedT) : topHook.α := topPlaces.map (HandSHeadRun.getT s)
theorem topSeen_eq (s : SharedT) : topSeen s = topHook.obs s.abs := List.map_congr_left fun a _ => HandSHeadRun.getT_eq s a
theorem topRan (w : World) : HandSHeadRun.RunEq topRow (view topRow.prog [99]) topHook topSeen 13822 topOthers w := by
  intro os
  kernel_rfl
end
end Rt
namespace Rt
open PySem L2 PySem.Spec PyProof.Rows
/-! ### the text by places -/
def topS (i : Nat) : Stmt := PySem.Challenge.pw_resttricks_k42_errors_are_apart.main.body.getD i (.Pass ⟨0, 0, 0, 0⟩)
abbrev s_is_integer : Stmt := topS 23
abbrev s_is_tuple : Stmt := topS 24
abbrev s_is_list_or_tuple : Stmt := topS 25
abbrev s_is_number : Stmt := topS 26
abbrev s_first_wrong : Stmt := topS 27
abbrev s_check_base : Stmt := topS 28
abbrev s_check_take : Stmt := topS 29
abbrev s_check_divisor : Stmt := topS 30
abbrev s_check_stretch : Stmt := topS 31
abbrev s_check_number : Stmt := topS 32
abbrev s_figures : Stmt := topS 35
abbrev s_number : Stmt := topS 36
abbrev s_check_figures : Stmt := topS 37
abbrev s_block_of : Stmt := topS 38
abbrev s_done : Stmt := topS 42
abbrev s_check_trick : Stmt := topS 43
abbrev s_trick_block : Stmt := topS 44
abbrev s_made_of : Stmt := topS 45
abbrev s_made_with : Stmt := topS 46
abbrev s_chained : Stmt := topS 51
abbrev s_chain_tells : Stmt := topS 52
abbrev s_check_tricks : Stmt := topS 53
abbrev s_check_chain : Stmt := topS 54
abbrev s_made_of_all : Stmt := topS 55
abbrev s_blocks_product : Stmt := topS 56
abbrev s_rest_pairs : Stmt := topS 57
abbrev s_tells : Stmt := topS 59
abbrev s_keeps_rest : Stmt := topS 60
abbrev s_tells_multiples : Stmt := topS 61
abbrev s_front_states : Stmt := topS 65
abbrev s_front_classes : Stmt := topS 66
abbrev s_front_word : Stmt := topS 67
abbrev s_check_labels : Stmt := topS 68
abbrev s_check_rest : Stmt := topS 69
abbrev s_front_machine : Stmt := topS 70
abbrev s_classes : Stmt := topS 71
abbrev s_numbered : Stmt := topS 72
abbrev s_least_word : Stmt := topS 73
abbrev s_total : Stmt := topS 78
abbrev s_check_weights : Stmt := topS 79
abbrev s_check_sum : Stmt := topS 80
abbrev s_sum_block : Stmt := topS 81
abbrev s_weight_at : Stmt := topS 82
abbrev s_read : Stmt := topS 84
abbrev s_possible_words : Stmt := topS 85
abbrev s_written : Stmt := topS 86
abbrev s_fitting : Stmt := topS 89
abbrev s_check_pairs : Stmt := topS 90
abbrev s_is_pair : Stmt := topS 91
abbrev s_fitting_times : Stmt := topS 92
abbrev s__law_taken : Stmt := topS 94
abbrev s__law_call : Stmt := topS 95
abbrev s__law_early : Stmt := topS 96
abbrev s__law_first : Stmt := topS 97
abbrev s__law_second : Stmt := topS 98
abbrev s_law : Stmt := topS 99
abbrev s_BadNumber___init__ : Stmt := inClass (topS 6) 0
abbrev s_BadFigures___init__ : Stmt := inClass (topS 8) 0
abbrev s_BadWeights___init__ : Stmt := inClass (topS 9) 0
abbrev s_BadRests___init__ : Stmt := inClass (topS 11) 0
abbrev s_BadTricks___init__ : Stmt := inClass (topS 13) 0
abbrev s_BadPairs___init__ : Stmt := inClass (topS 14) 0
abbrev s_TooWide___init__ : Stmt := inClass (topS 15) 0
abbrev s_InvalidText___init__ : Stmt := inClass (topS 16) 0
abbrev s_Trick___init__ : Stmt := inClass (topS 41) 0
abbrev s_Trick_base : Stmt := inClass (topS 41) 1
abbrev s_Trick_take : Stmt := inClass (topS 41) 2
abbrev s_Trick_times : Stmt := inClass (topS 41) 3
abbrev s_Trick___eq__ : Stmt := inClass (topS 41) 4
abbrev s_Sum___init__ : Stmt := inClass (topS 77) 0
abbrev s_Sum_base : Stmt := inClass (topS 77) 1
abbrev s_Sum_take : Stmt := inClass (topS 77) 2
abbrev s_Sum_first : Stmt := inClass (topS 77) 3
abbrev s_Sum_loop : Stmt := inClass (topS 77) 4
abbrev s_Sum___eq__ : Stmt := inClass (topS 77) 5
theorem sc_is_integer : FnScope ["told", "low", "high"] ["told", "low", "high"] (defScope s_is_integer) := ⟨rfl, rfl, rfl, by decide +kernel, rfl, by decide +kernel, by decide +kernel⟩
abbrev lv_is_integer : Nat := 1
theorem sc_is_tuple : FnScope ["told", "fewest", "most"] ["told", "fewest", "most"] (defScope s_is_tuple) := ⟨rfl, rfl, rfl, by decide +kernel, rfl, by decide +kernel, by decide +kernel⟩
abbrev lv_is_tuple : Nat := 1
theorem sc_is_list_or_tuple : FnScope ["told", "fewest", "most"] ["told", "fewest", "most"] (defScope s_is_list_or_tuple) := ⟨rfl, rfl, rfl, by decide +kernel, rfl, by decide +kernel, by decide +kernel⟩
abbrev lv_is_list_or_tuple : Nat := 1
theorem sc_is_number : FnScope ["told"] ["told"] (defScope s_is_number) := ⟨rfl, rfl, rfl, by decide +kernel, rfl, by decide +kernel, by decide +kernel⟩
abbrev lv_is_number : Nat := 2
theorem sc_first_wrong : FnScope ["told", "low", "high", "index", "thing"] ["told", "low", "high"] (defScope s_first_wrong) := ⟨rfl, rfl, rfl, by decide +kernel, rfl, by decide +kernel, by decide +kernel⟩
abbrev lv_first_wrong : Nat := 2
theorem sc_check_base : FnScope ["base"] ["base"] (defScope s_check_base) := ⟨rfl, rfl, rfl, by decide +kernel, rfl, by decide +kernel, by decide +kernel⟩
abbrev lv_check_base : Nat := 2
theorem sc_check_take : FnScope ["take"] ["take"] (defScope s_check_take) := ⟨rfl, rfl, rfl, by decide +kernel, rfl, by decide +kernel, by decide +kernel⟩
abbrev lv_check_take : Nat := 2
theorem sc_check_divisor : FnScope ["d", "greatest"] ["d", "greatest"] (defScope s_check_divisor) := ⟨rfl, rfl, rfl, by decide +kernel, rfl, by decide +kernel, by decide +kernel⟩
abbrev lv_check_divisor : Nat := 2
theorem sc_check_stretch : FnScope ["n", "low", "high"] ["n", "low", "high"] (defScope s_check_stretch) := ⟨rfl, rfl, rfl, by decide +kernel, rfl, by decide +kernel, by decide +kernel⟩
abbrev lv_check_stretch : Nat := 3
theorem sc_check_number : FnScope ["n"] ["n"] (defScope s_check_number) := ⟨rfl, rfl, rfl, by decide +kernel, rfl, by decide +kernel, by decide +kernel⟩
abbrev lv_check_number : Nat := 3
theorem sc_figures : FnScope ["n", "base", "found", "left"] ["n", "base"] (defScope s_figures) := ⟨rfl, rfl, rfl, by decide +kernel, rfl, by decide +kernel, by decide +kernel⟩
abbrev lv_figures : Nat := 4
theorem sc_number : FnScope ["told", "base", "n", "figure"] ["told", "base"] (defScope s_number) := ⟨rfl, rfl, rfl, by decide +kernel, rfl, by decide +kernel, by decide +kernel⟩
abbrev lv_number : Nat := 4
theorem sc_check_figures : FnScope ["told", "base", "fewest", "index"] ["told", "base", "fewest"] (defScope s_check_figures) := ⟨rfl, rfl, rfl, by decide +kernel, rfl, by decide +kernel, by decide +kernel⟩
abbrev lv_check_figures : Nat := 3
theorem sc_block_of : FnScope ["base", "take"] ["base", "take"] (defScope s_block_of) := ⟨rfl, rfl, rfl, by decide +kernel, rfl, by decide +kernel, by decide +kernel⟩
abbrev lv_block_of : Nat := 1
theorem sc_done : FnScope ["trick", "n"] ["trick", "n"] (defScope s_done) := ⟨rfl, rfl, rfl, by decide +kernel, rfl, by decide +kernel, by decide +kernel⟩
abbrev lv_done : Nat := 5
theorem sc_check_trick : FnScope ["trick"] ["trick"] (defScope s_check_trick) := ⟨rfl, rfl, rfl, by decide +kernel, rfl, by decide +kernel, by decide +kernel⟩
abbrev lv_check_trick : Nat := 1
theorem sc_trick_block : FnScope ["trick"] ["trick"] (defScope s_trick_block) := ⟨rfl, rfl, rfl, by decide +kernel, rfl, by decide +kernel, by decide +kernel⟩
abbrev lv_trick_block : Nat := 3
theorem sc_made_of : FnScope ["trick", "n"] ["trick", "n"] (defScope s_made_of) := ⟨rfl, rfl, rfl, by decide +kernel, rfl, by decide +kernel, by decide +kernel⟩
abbrev lv_made_of : Nat := 4
theorem sc_made_with : FnScope ["block", "times", "n"] ["block", "times", "n"] (defScope s_made_with) := ⟨rfl, rfl, rfl, by decide +kernel, rfl, by decide +kernel, by decide +kernel⟩
abbrev lv_made_with : Nat := 1
theorem sc_chained : FnScope ["tricks", "n"] ["tricks", "n"] (defScope s_chained) := ⟨rfl, rfl, rfl, by decide +kernel, rfl, by decide +kernel, by decide +kernel⟩
abbrev lv_chained : Nat := 6
theorem sc_chain_tells : FnScope ["tricks", "d", "found", "rest", "made"] ["tricks", "d"] (defScope s_chain_tells) := ⟨rfl, rfl, rfl, by decide +kernel, rfl, by decide +kernel, by decide +kernel⟩
abbrev lv_chain_tells : Nat := 7
theorem sc_check_tricks : FnScope ["tricks", "index", "trick"] ["tricks"] (defScope s_check_tricks) := ⟨rfl, rfl, rfl, by decide +kernel, rfl, by decide +kernel, by decide +kernel⟩
abbrev lv_check_tricks : Nat := 3
theorem sc_check_chain : FnScope ["tricks", "d"] ["tricks", "d"] (defScope s_check_chain) := ⟨rfl, rfl, rfl, by decide +kernel, rfl, by decide +kernel, by decide +kernel⟩
abbrev lv_check_chain : Nat := 5
theorem sc_made_of_all : FnScope ["tricks", "n", "trick"] ["tricks", "n"] (defScope s_made_of_all) := ⟨rfl, rfl, rfl, by decide +kernel, rfl, by decide +kernel, by decide +kernel⟩
abbrev lv_made_of_all : Nat := 5
theorem sc_blocks_product : FnScope ["tricks", "found", "trick"] ["tricks"] (defScope s_blocks_product) := ⟨rfl, rfl, rfl, by decide +kernel, rfl, by decide +kernel, by decide +kernel⟩
abbrev lv_blocks_product : Nat := 4
theorem sc_rest_pairs : FnScope ["tricks", "d", "width", "made", "n"] ["tricks", "d"] (defScope s_rest_pairs) := ⟨rfl, rfl, rfl, by decide +kernel, rfl, by decide +kernel, by decide +kernel⟩
abbrev lv_rest_pairs : Nat := 6
theorem sc_tells : FnScope ["trick", "d"] ["trick", "d"] (defScope s_tells) := ⟨rfl, rfl, rfl, by decide +kernel, rfl, by decide +kernel, by decide +kernel⟩
abbrev lv_tells : Nat := 5
theorem sc_keeps_rest : FnScope ["trick", "d"] ["trick", "d"] (defScope s_keeps_rest) := ⟨rfl, rfl, rfl, by decide +kernel, rfl, by decide +kernel, by decide +kernel⟩
abbrev lv_keeps_rest : Nat := 4
theorem sc_tells_multiples : FnScope ["block", "times", "d"] ["block", "times", "d"] (defScope s_tells_multiples) := ⟨rfl, rfl, rfl, by decide +kernel, rfl, by decide +kernel, by decide +kernel⟩
abbrev lv_tells_multiples : Nat := 1
theorem sc_front_states : FnScope ["base", "labels"] ["base", "labels"] (defScope s_front_states) := ⟨rfl, rfl, rfl, by decide +kernel, rfl, by decide +kernel, by decide +kernel⟩
abbrev lv_front_states : Nat := 5
theorem sc_front_classes : FnScope ["base", "labels"] ["base", "labels"] (defScope s_front_classes) := ⟨rfl, rfl, rfl, by decide +kernel, rfl, by decide +kernel, by decide +kernel⟩
abbrev lv_front_classes : Nat := 4
theorem sc_front_word : FnScope ["base", "labels", "one", "other"] ["base", "labels", "one", "other"] (defScope s_front_word) := ⟨rfl, rfl, rfl, by decide +kernel, rfl, by decide +kernel, by decide +kernel⟩
abbrev lv_front_word : Nat := 4
theorem sc_check_labels : FnScope ["labels", "index"] ["labels"] (defScope s_check_labels) := ⟨rfl, rfl, rfl, by decide +kernel, rfl, by decide +kernel, by decide +kernel⟩
abbrev lv_check_labels : Nat := 3
theorem sc_check_rest : FnScope ["rest", "d"] ["rest", "d"] (defScope s_check_rest) := ⟨rfl, rfl, rfl, by decide +kernel, rfl, by decide +kernel, by decide +kernel⟩
abbrev lv_check_rest : Nat := 2
theorem sc_front_machine : FnScope ["base", "labels", "d", "steps", "rest", "figure"] ["base", "labels"] (defScope s_front_machine) := ⟨rfl, rfl, rfl, by decide +kernel, rfl, by decide +kernel, by decide +kernel⟩
abbrev lv_front_machine : Nat := 1
theorem sc_classes : FnScope ["machine", "told", "steps", "found", "finer", "state", "row", "later"] ["machine"] (defScope s_classes) := ⟨rfl, rfl, rfl, by decide +kernel, rfl, by decide +kernel, by decide +kernel⟩
abbrev lv_classes : Nat := 2
theorem sc_numbered : FnScope ["things", "numbers", "found", "thing"] ["things"] (defScope s_numbered) := ⟨rfl, rfl, rfl, by decide +kernel, rfl, by decide +kernel, by decide +kernel⟩
abbrev lv_numbered : Nat := 1
theorem sc_least_word : FnScope ["machine", "one", "other", "told", "steps", "words", "pairs", "further", "left", "right", "word", "figure", "pair"] ["machine", "one", "other"] (defScope s_least_word) := ⟨rfl, rfl, rfl, by decide +kernel, rfl, by decide +kernel, by decide +kernel⟩
abbrev lv_least_word : Nat := 1
theorem sc_total : FnScope ["told", "n", "block", "found", "place", "left"] ["told", "n"] (defScope s_total) := ⟨rfl, rfl, rfl, by decide +kernel, rfl, by decide +kernel, by decide +kernel⟩
abbrev lv_total : Nat := 4
theorem sc_check_weights : FnScope ["told", "fewest", "index"] ["told", "fewest"] (defScope s_check_weights) := ⟨rfl, rfl, rfl, by decide +kernel, rfl, by decide +kernel, by decide +kernel⟩
abbrev lv_check_weights : Nat := 3
theorem sc_check_sum : FnScope ["told"] ["told"] (defScope s_check_sum) := ⟨rfl, rfl, rfl, by decide +kernel, rfl, by decide +kernel, by decide +kernel⟩
abbrev lv_check_sum : Nat := 1
theorem sc_sum_block : FnScope ["told"] ["told"] (defScope s_sum_block) := ⟨rfl, rfl, rfl, by decide +kernel, rfl, by decide +kernel, by decide +kernel⟩
abbrev lv_sum_block : Nat := 3
theorem sc_weight_at : FnScope ["told", "place", "further"] ["told", "place"] (defScope s_weight_at) := ⟨rfl, rfl, rfl, by decide +kernel, rfl, by decide +kernel, by decide +kernel⟩
abbrev lv_weight_at : Nat := 3
theorem sc_read : FnScope ["text", "words", "places", "place", "possible", "word"] ["text"] (defScope s_read) := ⟨rfl, rfl, rfl, by decide +kernel, rfl, by decide +kernel, by decide +kernel⟩
abbrev lv_read : Nat := 5
theorem sc_possible_words : FnScope [] [] (defScope s_possible_words) := ⟨rfl, rfl, rfl, by decide +kernel, rfl, by decide +kernel, by decide +kernel⟩
abbrev lv_possible_words : Nat := 2
theorem sc_written : FnScope ["low", "high", "n"] ["low", "high"] (defScope s_written) := ⟨rfl, rfl, rfl, by decide +kernel, rfl, by decide +kernel, by decide +kernel⟩
abbrev lv_written : Nat := 1
theorem sc_fitting : FnScope ["pairs", "base", "take", "times"] ["pairs"] (defScope s_fitting) := ⟨rfl, rfl, rfl, by decide +kernel, rfl, by decide +kernel, by decide +kernel⟩
abbrev lv_fitting : Nat := 5
theorem sc_check_pairs : FnScope ["pairs", "index", "pair"] ["pairs"] (defScope s_check_pairs) := ⟨rfl, rfl, rfl, by decide +kernel, rfl, by decide +kernel, by decide +kernel⟩
abbrev lv_check_pairs : Nat := 4
theorem sc_is_pair : FnScope ["told"] ["told"] (defScope s_is_pair) := ⟨rfl, rfl, rfl, by decide +kernel, rfl, by decide +kernel, by decide +kernel⟩
abbrev lv_is_pair : Nat := 3
theorem sc_fitting_times : FnScope ["block", "pairs", "found", "n", "later", "times"] ["block", "pairs"] (defScope s_fitting_times) := ⟨rfl, rfl, rfl, by decide +kernel, rfl, by decide +kernel, by decide +kernel⟩
abbrev lv_fitting_times : Nat := 2
theorem sc__law_taken : FnScope ["_law_row", "_law_many", "_law_found", "_law_cell"] ["_law_row", "_law_many"] (defScope s__law_taken) := ⟨rfl, rfl, rfl, by decide +kernel, rfl, by decide +kernel, by decide +kernel⟩
abbrev lv__law_taken : Nat := 1
theorem sc__law_call : FnScope ["_law_kind", "_law_trick"] ["_law_kind"] (defScope s__law_call) := ⟨rfl, rfl, rfl, by decide +kernel, rfl, by decide +kernel, by decide +kernel⟩
abbrev lv__law_call : Nat := 8
theorem sc__law_early : FnScope ["_law_kind", "_law_trick"] ["_law_kind", "_law_trick"] (defScope s__law_early) := ⟨rfl, rfl, rfl, by decide +kernel, rfl, by decide +kernel, by decide +kernel⟩
abbrev lv__law_early : Nat := 6
theorem sc__law_first : FnScope ["_law_kind", "_law_raised"] ["_law_kind"] (defScope s__law_first) := ⟨rfl, rfl, rfl, by decide +kernel, rfl, by decide +kernel, by decide +kernel⟩
abbrev lv__law_first : Nat := 9
theorem sc__law_second : FnScope ["_law_kind", "_law_raised"] ["_law_kind"] (defScope s__law_second) := ⟨rfl, rfl, rfl, by decide +kernel, rfl, by decide +kernel, by decide +kernel⟩
abbrev lv__law_second : Nat := 9
theorem sc_law : FnScope ["_law_script", "_law_line", "_law_turn", "_law_kind"] ["_law_script"] (defScope s_law) := ⟨rfl, rfl, rfl, by decide +kernel, rfl, by decide +kernel, by decide +kernel⟩
abbrev lv_law : Nat := 11
theorem sc_Trick___init__ : FnScope ["self", "base", "take", "times"] ["self", "base", "take", "times"] (defScope s_Trick___init__) := ⟨rfl, rfl, rfl, by decide +kernel, rfl, by decide +kernel, by decide +kernel⟩
abbrev lv_Trick___init__ : Nat := 3
theorem sc_Trick_base : FnScope ["self"] ["self"] (defScope s_Trick_base) := ⟨rfl, rfl, rfl, by decide +kernel, rfl, by decide +kernel, by decide +kernel⟩
abbrev lv_Trick_base : Nat := 1
theorem sc_Trick_take : FnScope ["self"] ["self"] (defScope s_Trick_take) := ⟨rfl, rfl, rfl, by decide +kernel, rfl, by decide +kernel, by decide +kernel⟩
abbrev lv_Trick_take : Nat := 1
theorem sc_Trick_times : FnScope ["self"] ["self"] (defScope s_Trick_times) := ⟨rfl, rfl, rfl, by decide +kernel, rfl, by decide +kernel, by decide +kernel⟩
abbrev lv_Trick_times : Nat := 1
theorem sc_Trick___eq__ : FnScope ["self", "other"] ["self", "other"] (defScope s_Trick___eq__) := ⟨rfl, rfl, rfl, by decide +kernel, rfl, by decide +kernel, by decide +kernel⟩
abbrev lv_Trick___eq__ : Nat := 1
theorem sc_Sum___init__ : FnScope ["self", "base", "take", "first", "loop"] ["self", "base", "take", "first", "loop"] (defScope s_Sum___init__) := ⟨rfl, rfl, rfl, by decide +kernel, rfl, by decide +kernel, by decide +kernel⟩
abbrev lv_Sum___init__ : Nat := 4
theorem sc_Sum_base : FnScope ["self"] ["self"] (defScope s_Sum_base) := ⟨rfl, rfl, rfl, by decide +kernel, rfl, by decide +kernel, by decide +kernel⟩
abbrev lv_Sum_base : Nat := 1
theorem sc_Sum_take : FnScope ["self"] ["self"] (defScope s_Sum_take) := ⟨rfl, rfl, rfl, by decide +kernel, rfl, by decide +kernel, by decide +kernel⟩
abbrev lv_Sum_take : Nat := 1
theorem sc_Sum_first : FnScope ["self"] ["self"] (defScope s_Sum_first) := ⟨rfl, rfl, rfl, by decide +kernel, rfl, by decide +kernel, by decide +kernel⟩
abbrev lv_Sum_first : Nat := 1
theorem sc_Sum_loop : FnScope ["self"] ["self"] (defScope s_Sum_loop) := ⟨rfl, rfl, rfl, by decide +kernel, rfl, by decide +kernel, by decide +kernel⟩
abbrev lv_Sum_loop : Nat := 1
theorem sc_Sum___eq__ : FnScope ["self", "other"] ["self", "other"] (defScope s_Sum___eq__) := ⟨rfl, rfl, rfl, by decide +kernel, rfl, by decide +kernel, by decide +kernel⟩
abbrev lv_Sum___eq__ : Nat := 1
/-! ### what is known of the top behind its run -/
/-! ### an own error whose __init__ says super().__init__(text); self.F = F -/
end Rt
namespace ErrX
open PySem PySem.W PySem.Calls PyProof.Rows PySem.HandSPX
/-- what the written part says of such a class at C, its field F, its __init__ at fI -/
structure ErrTxt (P : Program) (K : Frag) (mg : Str → Option Value) (x fld : Str) (C fI : Addr) (ae : PySem.Expr) (st : Stmt) : Prop where
  gC : mg x = some (.ref C)
  cls : ∃ nm q N bs bm sn sub ab col dd k0 k1 k2 k3 k5, K.lookup C = some (excClassObj nm q C N bs bm true sn sub ab col dd k0 k1 k2 k3 k5 "ValueError.__new__") ∧ refsVE bm = true
  sa : findIn K (.ref C) "__setattr__" = some (some (.builtin "object.__setattr__"))
  ga : findIn K (.ref C) "__getattribute__" = some (some (.builtin "BaseException.__getattribute__"))
  gg : findIn K (.ref C) "__getattr__" = some none
  noF : findIn K (.ref C) fld = some none
  iC : findIn K (.ref C) "__init__" = some (some (.ref fI))
  tC : typeIn K (.ref fI) = some (.type "function")
  kC : keepIn K (.ref C) = true
  exC : subIn K (.ref C) (.type "BaseException") = some true
  tyC : typeIn K (.ref C) = some (.type "type")
  hdC : hasDictIn K C = true
  up : ks_superIn K C C "__init__" = some (some (.builtin "ValueError.__init__"))
  any : nsIn K cStatics "thirdparty.any" = some none
  ve : subIn K (.ref C) (.type "ValueError") = some true
  own : mroIn K C (.ref C) = some true
  sup : mg "super" = none
  main : (P.main.scope.names.lookup ("super" : Str)).isSome = false
  fn : ∃ (oc : Value) (od : Option Addr) (doc pm : Value) (an : Option Addr) (cda : Addr) (ct : Value) (osl : Array (Option Value)) (cc : Addr) (vs : Array Value) (file : Str) (tf : Tok) (ccl cl : Value) (cdd cld : Option Addr) (ccs csl : Array (Option Value)) (qual : Str),
    K.lookup fI = some ⟨oc, od, .func (ksFn "__init__" qual (L2.defArgs st) (L2.defBody st) (L2.defScope st) .none .none doc pm an (.ref cda) ct cc), osl⟩ ∧ codeIn K (.ref cda) qual = true ∧
    K.lookup cda = some ⟨ccl, cdd, .fields vs, ccs⟩ ∧ vs[2]? = some (.str file tf) ∧ ((P.main.file : Str) == file) = true ∧ K.lookup cc = some ⟨cl, cld, .cell (some (.ref C)), csl⟩
  text : ∃ (p0 p1 p2 p3 p4 q1 q2 q3 q4 a1 a2 : Pos), L2.defBody st = [.Expr (.Call (.Attribute (.Call (.Name "super" p0) [] [] p1) "__init__" p2) [ae] [] p3) p4, .Assign [.Attribute (.Name "self" q1) fld q2] (.Name fld q3) q4] ∧
    L2.defArgs st = { posonlyargs := [], args := [{ arg := "self", annotation := none, pos := a1 }, { arg := fld, annotation := none, pos := a2 }], vararg := none, kwonlyargs := [], kw_defaults := [], kwarg := none, defaults := [] } ∧
    ∀ env : Env, eval (.Call (.Attribute (.Call (.Name "super" p0) [] [] p1) "__init__" p2) [ae] [] p3) env = (do
      let ov ← attributeBase (.Call (.Name "super" p0) [] [] p1) "__init__" env (eval (.Call (.Name "super" p0) [] [] p1) env)
      standAt p2.atName
      let (f, first) ← holding [ov] (getMethod ov "__init__" (do return (← importBound (.Call (.Name "super" p0) [] [] p1) env).getD true))
      callWith p3 f first (backTo p3 (starEach [ae] env)) [])
  kS : (L2.defScope st).names.lookup ("super" : Str) = some .globalImplicit
  kK : (L2.defScope st).names.lookup ("__class__" : Str) = some .free
  k0 : (L2.defScope st).names.lookup ("self" : Str) = some .local
  kF : (L2.defScope st).names.lookup fld = some .local
  nF : (("self" : Str) == fld) = false
  nD : (fld == ("__debug__" : Str)) = false
  noCell : ∀ y ∈ (L2.defScope st).names, y.2 ≠ .cell
  bind : ∀ (qual : Str) (doc pm : Value) (an : Option Addr) (cda : Addr) (ct : Value) (cc : Addr) (u v : Value), bindArgs (ksFn "__init__" qual (L2.defArgs st) (L2.defBody st) (L2.defScope st) .none .none doc pm an (.ref cda) ct cc) ⟨[u, v], []⟩ = pure [(("self" : Str), u), (fld, v)]
  plain : ∀ env : Env, starEach (ae :: []) env = (false, eval ae env) :: starEach [] env
  knd : (L2.defScope st).kind = .function
  co : (L2.defScope st).isCoroutine = false
  gen : (L2.defScope st).isGenerator = false
/-- what __init__ leaves of a fresh error at x -/
structure EndOf (h h' : Heap) (x C dx t1 : Addr) (fld : Str) (v : Value) : Prop where
  keep : ∀ b o, b ≠ x → h.get? b = some o → h'.get? b = some o
  obj : h'.get? x = some { cls := .ref C, dict := some dx, data := .fields #[.ref t1, .none, .none, .none, .bool false, .none] }
  dbig : h.objs.size ≤ dx
  dne : dx ≠ x
  ns : h'.Ns1 dx (fun y => if y = fld then some v else none)
/-- the argument of super().__init__ is a text, whatever the field is -/
def ArgOk (prog : Program) (w : World) (ae : PySem.Expr) (fld : Str) (v : Value) : Prop := ∀ (env : Env) (m : Str → Option Value) (A : Around) (Q : Value → Shared → Prop) (E : Value → Shared → Prop) (s : Shared), s.heap.Ns env.locals m → m fld = some v → env.scope.kind = .function → env.kindOf fld = some .local →
  (∀ z t tk, Q (.str z t) { s with toks := tk }) → wpAny (model prog w) A (eval ae env) Q E s
theorem argOk_const {prog : Program} {w : World} {ae : PySem.Expr} {fld : Str} {v : Value} {z : Str} {k : Nat} {pos : Pos} (h : ae = .Constant (.str z) k pos) : ArgOk prog w ae fld v := by
  intro env m A Q E s _ _ _ _ hq
  rw [h]
  exact wpAny_Constant_str (hq _ _ _)
/-- None, or an int whose text is short -/
def NoneInt (v : L2.V) : Prop := v = .non ∨ ∃ i : Int, v = .int i ∧ i.natAbs.log2 < 1920
theorem argOk_f {prog : Program} {w : World} {ae : PySem.Expr} {fld : Str} {v : L2.V} {u : Value} {z : Str} {k : Nat} {p1 p2 p3 p4 : Pos} (n : NoneInt v) (r : L2.RelV v u)
    (h : ae = .JoinedStr [.Constant (.str z) k p1, .FormattedValue (.Name fld p2) (-1) none p3] p4 := by rfl) (hz : z.length ≤ 1000 := by decide) (hd : (fld == ("__debug__" : Str)) = false := by decide) : ArgOk prog w ae fld u := by
  intro env m A Q E s hn hv hk hl hq
  rw [h]
  have e0 : evalEach [.Constant (.str z) k p1, .FormattedValue (.Name fld p2) (-1) none p3] env = [eval (.Constant (.str z) k p1) env, eval (.FormattedValue (.Name fld p2) (-1) none p3) env] := by first | rfl | simp [evalEach]
  refine wpAny_JoinedStr ?_
  rw [e0]
  refine wpAny_Constant_str ?_
  have l0 : (Str.empty ++ z).length ≤ 1000 := by
    rw [Str.length_append]
    exact Nat.le_trans (Nat.le_of_eq (Nat.zero_add _)) hz
  refine ⟨z, _, rfl, Nat.le_trans l0 (by rw [sizeLine_eq]; decide), ?_⟩
  refine wpAny_FormattedValue_plain (wpAny_Name (wpAny_loadName_local hk hl hn hv ?_) hd)
  rcases n with rfl | ⟨i, rfl, hi⟩
  · cases r
    refine wpAny_formatField_none ⟨"None", _, rfl, ?_, ?_⟩
    · rw [Str.length_append, sizeLine_eq]
      have e : ("None" : Str).length = 4 := by decide
      omega
    · refine ⟨?_, hq _ _ _⟩
      rw [Str.length_append, sizeLine_eq]
      have e : ("None" : Str).length = 4 := by decide
      omega
  · obtain ⟨t, rfl⟩ := r
    refine wpAny_formatField_int hi ⟨_, _, rfl, ?_, ?_⟩
    · rw [Str.length_append, sizeLine_eq]
      have e := int_text_length_le (k := 1920) (by decide) hi
      have e2 : (Str.ofString (toString i)).length = (toString i).length := PySem.ofString_length _
      omega
    · refine ⟨?_, hq _ _ _⟩
      rw [Str.length_append, sizeLine_eq]
      have e := int_text_length_le (k := 1920) (by decide) hi
      have e2 : (Str.ofString (toString i)).length = (toString i).length := PySem.ofString_length _
      omega
/-- the argument of super().__init__ in the text of an __init__ -/
def aeOf (st : Stmt) : PySem.Expr := match L2.defBody st with
  | .Expr (.Call _ (a :: _) _ _) _ :: _ => a
  | _ => .Name "self" ⟨0, 0, 0, 0⟩
section
variable {prog : Program} {w : World} {A : Around} {E : Value → Shared → Prop} {hp : Heap} {g : Array GenState} {d : Drawn} {tk : Nat} {os : OsState}
/-- the bound __init__ of the base, called: the args are laid anew -/
theorem base_init {nm q : Str} {C N u e t0 : Addr} {bs bm : List Value} {sn : List Str} {sub : List Value} {ab : Bool} {col : Option Bool} {dd : Option Addr} {k0 k1 k2 k3 k5 : Option Value} {rest : List Value} {Q : Value → Shared → Prop}
    (hC : hp.get? C = some (excClassObj nm q C N bs bm true sn sub ab col dd k0 k1 k2 k3 k5 "ValueError.__new__")) (he : hp.get? e = some (excO C t0)) (hu : hp.get? u = some (kxs_mw "ValueError.__init__" e)) (hz : rest.length ≤ sizeLine)
    (k : ∀ h' t1, (∀ b o, b ≠ e → hp.get? b = some o → h'.get? b = some o) → h'.get? e = some (excO C t1) → Q .none ⟨h', g, d, tk, os⟩) : wpAny (model prog w) A (call (.ref u) rest) Q E ⟨hp, g, d, tk, os⟩ := by
  refine wpAny_call (codeAny_of_tree ?_)
  show wpAny _ A.in1 (callAny (.ref u) { pos := rest }) _ _ _
  unfold callAny
  refine wpAny_bind (wpAny_load hu ?_)
  have c1 : (Value.type "method-wrapper" == Value.type "method" || Value.type "method-wrapper" == Value.type "builtin_function_or_method" ||
    Value.type "method-wrapper" == Value.type "method-wrapper") = true := by decide
  simp only [kxs_mw, c1, if_true]
  refine KFB.if_so (by decide) (wpAny_bind (ESX.check_bound F.excBase_ValueError hC he rfl (wpAny_bind (wpAny_pure (wpAny_pure ?_)))))
  have FB := F.excBase_ValueError
  refine ⟨plainId_quiet FB.init.plain _, codeAny_builtin FB.initEntry ?_⟩
  rw [Around.under_plainId FB.init.plain _]
  wp_walk
  refine k _ hp.objs.size (fun b o n z => ?_) ?_
  · rw [Heap.get?_update_other _ _ (Ne.symm n)]
    exact Heap.get?_push_of_some _ z
  · rw [Heap.get?_update_self _ (Heap.get?_push_of_some _ he) rfl]
    rfl
theorem call_bound1 {M : Model} {s : Shared} {pos : Pos} {u b : Addr} {env : Env} {ae : PySem.Expr} {i : String} {Q : Value → Shared → Prop} (hpl : starEach (ae :: []) env = (false, eval ae env) :: starEach [] env)
    (h : wpAny M A (eval ae env) (fun v s₁ => KxsAt i u b s₁.heap ∧ wpAny M A (call (.ref u) [v]) Q E s₁) E s) : wpAny M A (callWith pos (.ref u) [] (backTo pos (starEach [ae] env)) []) Q E s := by
  have q : wpAny M A (spliced (backTo pos (starEach (ae :: []) env))) (fun vs s₁ => KxsAt i u b s₁.heap ∧ wpAny M A (call (.ref u) vs) Q E s₁) E s := args_cons (he := hpl) (wpAny_mono h (fun v s₁ z => wpAny_of_eq rfl z) fun _ _ z => z)
  rw [hpl] at q ⊢
  exact kxs_callWith (x := b) rfl (evalArgs_plain q)
theorem err_init {R : Result → Shared → Prop} {K : Frag} {mg mb : Str → Option Value} {x fld : Str} {C fI e t0 : Addr} {ae : PySem.Expr} {st : Stmt} {v : Value} (T : ErrTxt prog K mg x fld C fI ae st) (hA : ArgOk prog w ae fld v)
    (X : K.In hp) (hlim : hp.NoLimit) (hg : hp.Ns mainGlobals mg) (hb : hp.Ns builtinsNs mb) (hbb : ∀ y : Str, y ≠ "__name__" → mb y = bootBuiltins y) (he : hp.get? e = some (excO C t0)) (hne : K.lookup e = none) (hroom : A.depth < recursionLimit)
    (hq : ∀ h' tk dx t1, EndOf hp h' e C dx t1 fld v → R (.ok (.ret .none)) ⟨h', g, d, tk, os⟩) : codeAny (model prog w) A (.call (.ref fI) ⟨[.ref e, v], []⟩) R ⟨hp, g, d, tk, os⟩ := by
  obtain ⟨oc, od, doc, pm, an, cda, ct, osl, cc, vs, file, tf, ccl, cl, cdd, cld, ccs, csl, qual, lf, lc, lda, lvs, lfile, lcc⟩ := T.fn
  obtain ⟨p0, p1, p2, p3, p4, q1, q2, q3, q4, a1, a2, hB, hArgs, hcallE⟩ := T.text
  obtain ⟨nm, qn, N, bs, bm, sn, sub, ab, col, dd, k0, k1, k2, k3, k5, lC, hbm⟩ := T.cls
  have hcl : clsIn K C = some { name := nm, bases := bs, mro := .ref C :: bm, ns := N, qualname := qn, hasDict := true, slotNames := sn, subclasses := sub, abstract := ab, collection := col, hasDel := false } := by
    unfold clsIn
    rw [lC]
    all_goals rfl
  have hbind := T.bind qual doc pm an cda ct cc (.ref e) v
  rw [hB, hArgs] at lf hbind
  have neC : e ≠ C := fun z => by
    rw [z, lC] at hne
    cases hne
  refine ks_codeAny_call_defAt (binds := [("self", .ref e), (fld, v)]) hroom (X _ _ lf) rfl hlim (codeRec_of X lc) rfl (BindsTo.of_eq hbind) T.noCell ?_ (fun h1 hns keep => ?_) T.co T.gen T.knd
  · intro y hy
    rcases List.mem_cons.mp hy with z | hy
    · rw [z]; exact T.k0
    · rcases List.mem_cons.mp hy with z | hy
      · rw [z]; exact T.kF
      · cases hy
  have hint : ∀ env : Env, env.scope = L2.defScope st → interactive env = false := fun env z => by
    unfold interactive
    rw [z, T.knd]
    rfl
  have X1 : K.In h1 := X.keeps keep
  have he1 := keep _ _ he
  have m0 : ([("self", Value.ref e), (fld, v)] : List (Str × Value)).reverse.lookup ("self" : Str) = some (.ref e) := by
    show List.lookup ("self" : Str) [(fld, v), (("self" : Str), Value.ref e)] = some (.ref e)
    rw [List.lookup_cons, T.nF]
    rfl
  have mF : ([("self", Value.ref e), (fld, v)] : List (Str × Value)).reverse.lookup fld = some v := by
    show List.lookup fld [(fld, v), (("self" : Str), Value.ref e)] = some v
    rw [List.lookup_cons, beq_self_eq_true]
  obtain ⟨oD, hD1, hD2⟩ : ∃ oD : Obj, h1.get? C = some oD ∧ oD.data = .cls { name := nm, bases := bs, mro := .ref C :: bm, ns := N, qualname := qn, hasDict := true, slotNames := sn, subclasses := sub, abstract := ab, collection := col, hasDel := false } := ⟨_, X1 _ _ lC, rfl⟩
  refine ks_wpAt_execs_cons (ks_wpAt_Expr_any (hi := hint _ rfl) (ks_wpAt_MethodCall (he := hcallE _) (ks_wpAt_super_base T.kS T.kK (by decide) rfl (X1 _ _ lf) rfl rfl rfl (X1 _ _ lda) rfl lvs lfile T.main ?_)))
  refine ks_loadName_global T.knd T.kS (Calls.loadGlobal_builtin (hg.keeps keep) T.sup (hb.keeps keep) ((hbb _ (by decide +kernel)).trans (show bootBuiltins "super" = some (.type "super") by kernel_rfl)) ⟨rfl, ?_⟩)
  refine wpAny_loadName_free T.knd T.kK rfl ⟨_, X1 _ _ lcc, rfl⟩ ?_
  refine wpAny_loadName_local T.knd T.k0 hns m0 ?_
  refine ks_wpAny_isType_cls hD1 hD2 ⟨rfl, ?_⟩
  refine ks_wpAny_call_super hD1 hD2 he1 rfl (fun c z => by cases z) (looks_mroIn X1 T.own) (fun h2 hso k2 => ?_)
  have X2 : K.In h2 := X1.keeps k2
  have he2 := k2 _ _ he1
  have hup : alongIn K "__init__" (List.drop 1 (List.dropWhile (fun (z : Value) => z != Value.ref C) (.ref C :: bm))) = some (some (.builtin "ValueError.__init__")) := by
    have z := T.up
    unfold ks_superIn at z
    rw [hcl] at z
    exact z
  have I2 : InstAt h2 e (excO C t0) C none := ⟨he2, rfl, rfl, trivial⟩
  refine kxs_getMethod kxs_ValueError hso (looks_opaque X2 T.any) (l₀ := .ref C :: bm) (fun A Q E s k q => wpAny_bind ((looks_clsIn X2 hcl) A _ E s k (wpAny_pure q))) rfl X2 hup (I2.type.andThen (looks_subIn X2 T.ve)) neC (by decide) ?_
  have k3 : ∀ b o, h2.get? b = some o → (h2.push (kxs_mw "ValueError.__init__" e)).get? b = some o := fun b o z => Heap.get?_push_of_some _ z
  have k13 : ∀ b o, h1.get? b = some o → (h2.push (kxs_mw "ValueError.__init__" e)).get? b = some o := fun b o z => k3 _ _ (k2 _ _ z)
  have hn3 := hns.keeps k13
  refine call_bound1 (i := "ValueError.__init__") (b := e) (T.plain _) ?_
  refine hA _ _ _ _ _ _ hn3 mF T.knd T.kF fun z t tk => ⟨Heap.get?_push_at rfl rfl, ?_⟩
  refine base_init (X2.keeps k3 _ _ lC) (k3 _ _ he2) (Heap.get?_push_at rfl rfl) (by rw [sizeLine_eq]; exact Nat.le_of_ble_eq_true rfl) fun h4 t1 k4 he4 => ?_
  have X4 : K.In h4 := fun b o z => k4 _ _ (fun y => by rw [y, hne] at z; cases z) (X2.keeps k3 b o z)
  have hLe : hp.objs.size ≠ e := Nat.ne_of_gt (Heap.lt_size he)
  have hn4 : h4.Ns hp.objs.size (fun y => List.lookup y ([(("self" : Str), Value.ref e), (fld, v)] : List (Str × Value)).reverse) := by
    obtain ⟨oL, es, ep, hL, r⟩ := hn3
    exact ⟨oL, es, ep, k4 _ _ hLe hL, r⟩
  -- self.F = F
  refine wpAt_of_wpAny (wpAny_execs_cons (plainObj_wpAny_Assign_Attribute ?_))
  refine ESX.ldL hn4 mF (ESX.ldL hn4 m0 ?_ T.knd T.k0) T.knd T.kF T.nD
  refine set_plain X4 (ox := excO C t1) (od := none) ⟨he4, rfl, rfl, trivial⟩ T.sa ?_
  refine exc_osa X4 he4 hcl (show refsVE (.ref C :: bm) = true from hbm) rfl T.noF (fun h5 tk5 dx k5' dn dne he5 hn5 => ?_)
  have z : hp.objs.size ≤ dx := Nat.le_trans (Nat.le_of_lt (Nat.lt_of_lt_of_le hn4.lt (Nat.le_refl _))) dn
  exact wpAny_execs_nil (hq h5 tk5 dx t1 ⟨fun b o hbe y => k5' b o hbe (k4 b o hbe (k3 b o (k2 b o (keep b o y)))), he5, z, dne, hn5⟩)
/-- a made error -/
structure Made (h h' : Heap) (e C d : Addr) (fld : Str) (v : Value) : Prop where
  keep : ∀ b o, h.get? b = some o → h'.get? b = some o
  new : h.objs.size ≤ e
  obj : ∃ oe vs, h'.get? e = some oe ∧ oe.cls = .ref C ∧ oe.dict = some d ∧ oe.data = .fields vs ∧ vs[1]? = some .none
  dbig : h.objs.size ≤ d
  dne : d ≠ e
  ns : h'.Ns1 d (fun y => if y = fld then some v else none)
theorem err_made {R : Result → Shared → Prop} {K : Frag} {mg mb : Str → Option Value} {x fld : Str} {C fI : Addr} {ae : PySem.Expr} {st : Stmt} {v : Value} (T : ErrTxt prog K mg x fld C fI ae st) (hA : ArgOk prog w ae fld v)
    (X : K.In hp) (hlim : hp.NoLimit) (hg : hp.Ns mainGlobals mg) (hb : hp.Ns builtinsNs mb) (hbb : ∀ y : Str, y ≠ "__name__" → mb y = bootBuiltins y) (hroom : A.depth + 1 < recursionLimit)
    (hq : ∀ h' tk e dx, Made hp h' e C dx fld v → R (.ok (.ret (.ref e))) ⟨h', g, d, tk, os⟩) : codeAny (model prog w) A (.call (.ref C) ⟨[v], []⟩) R ⟨hp, g, d, tk, os⟩ := by
  obtain ⟨nm, qn, N, bs, bm, sn, sub, ab, col, dd, k0, k1, k2, k3, k5, lC, hbm⟩ := T.cls
  have k : ∀ b o, hp.get? b = some o → ((hp.push (kdv_tup [v])).push (excO C hp.objs.size)).get? b = some o := fun b o z => Heap.get?_push_of_some _ (Heap.get?_push_of_some _ z)
  have hget : ((hp.push (kdv_tup [v])).push (excO C hp.objs.size)).get? (hp.objs.size + 1) = some (excO C hp.objs.size) := by heap_get
  have hnx : K.lookup (hp.objs.size + 1) = none := by
    cases z : K.lookup (hp.objs.size + 1) with
    | none => rfl
    | some o => exact absurd (Nat.lt_of_succ_lt (Heap.lt_size (X _ _ z))) (Nat.lt_irrefl _)
  refine call_own F.excBase_ValueError (fun X => refsVE_contains X bm hbm) (X _ _ lC) (looks_findIn X T.iC) (fun self => bind_fn X self T.tC) (by rw [sizeLine_eq]; exact Nat.le_of_ble_eq_true rfl) ?_
  refine err_init T hA (X.keeps k) (hlim.keeps k) (hg.keeps k) (hb.keeps k) hbb hget hnx ?_ fun h' tk' dx t1 M => ?_
  · show A.depth + 1 < recursionLimit
    exact hroom
  · have old : ∀ b o, hp.get? b = some o → h'.get? b = some o := fun b o z => M.keep b o (Nat.ne_of_lt (Nat.lt_succ_of_lt (Heap.lt_size z))) (k b o z)
    have z : hp.objs.size + 1 + 1 ≤ dx := by
      have q := M.dbig
      rw [Heap.size_push, Heap.size_push] at q
      exact q
    exact ⟨rfl, hq h' tk' (hp.objs.size + 1) dx ⟨old, Nat.le_succ _, ⟨_, _, M.obj, rfl, rfl, rfl, rfl⟩, Nat.le_trans (Nat.le_trans (Nat.le_succ _) (Nat.le_succ _)) z, M.dne, M.ns⟩⟩
end
end ErrX
namespace L2
open PySem PySem.Spec PyProof.Rows ErrX
theorem relO_fld {v : V} {v' : Value} (fld : Str) (r : RelV v v') (f : Str) : RelO (List.lookup f [(fld, v)]) (if f = fld then some v' else none) := by
  by_cases hw : f = fld
  · subst hw
    rw [if_pos rfl]
    have q : List.lookup f [(f, v)] = some v := by simp [List.lookup]
    rw [q]
    exact r
  · rw [if_neg hw]
    have qw : (f == fld) = false := by simpa using hw
    have q2 : List.lookup f [(fld, v)] = none := by simp [List.lookup, qw]
    rw [q2]
    trivial
section
variable {X : Cx} {C fI : Addr} {x fld : Str} {ae : PySem.Expr} {st : Stmt}
/-- Bad(e) -/
def tMkErr (C : Addr) (fld : Str) (ok : V → Prop) (ta : TA) : L2.St → Hp → XK → Prop := fun σ H Q => ta σ H fun vs H1 => ∃ v, vs = [v] ∧ ok v ∧ ∀ d, H1 d = none → Q (.ref C) (some d) (upd H1 d (.xd [(fld, v)]))
theorem pmk_err {ok : V → Prop} {a : PySem.Expr} {ta : TA} {p pos : Pos} {k : Nat} (T : ErrTxt X.prog X.K X.mg x fld C fI ae st) (hA : ∀ v u, ok v → RelV v u → ArgOk X.prog X.w ae fld u) (hr : Room k X.A) (ha : PA X [a] ta) (hg : Gl X x) (hdb : (x == ("__debug__" : Str)) = false)
    (he : starEach (a :: []) X.env = (false, eval a X.env) :: starEach [] X.env) (hpl : (backTo pos (starEach [] X.env)).any (·.1) = false) :
    PMk X (.Call (.Name x p) [a] [] pos) (tMkErr C fld ok ta) := by
  intro pins s σ H Q I h
  refine wpAny_Call_Name_kw (ld_glob I hg T.gC ?_ hdb)
  refine PySem.W.callWith_K (h₀ := X.base) I.ok.mod.kin T.kC (thn (ha.run pos pins s σ H _ I h) fun us s1 hh => ?_) he hpl
  obtain ⟨vs, H1, I1, r1, v, ev, okv, q1⟩ := hh
  subst ev
  refine ⟨I1.kIn, ?_⟩
  cases r1 with
  | cons rv rn =>
    rename_i v' us'
    cases rn
    show wpAny _ _ (call (.ref C) [v']) _ _ _
    have hlim := I1.nolimit
    obtain ⟨mb, hb1, hb2⟩ := I1.mod.blt
    have hgN := I1.mod.glob.keeps I1.bk
    have hbN := hb1.keeps I1.bk
    obtain ⟨hp, g, dr, tk, os⟩ := s1
    refine wpAny_call (err_made T (hA v v' okv rv) I1.kIn hlim hgN hbN hb2 (by have := hr.dp; omega) fun h' tk' e d M => ?_)
    show MkP X pins σ Q (.ref e) ⟨h', g, dr, tk', os⟩
    obtain ⟨oe, fv, hoe, hc, hd, hdat, h1⟩ := M.obj
    have hns := M.ns
    obtain ⟨G', g1, g2⟩ := restrict h' fun b => decide (b ≠ e)
    have gk : ∀ b, b ≠ e → G'.get? b = h'.get? b := fun b hb => g1 b (decide_eq_true hb)
    have ge : G'.get? e = none := g2 e (by simp)
    have old : ∀ b o, hp.get? b = some o → G'.get? b = some o := fun b o q => (gk b (Nat.ne_of_lt (Nat.lt_of_lt_of_le (Heap.lt_size q) M.new))).trans (M.keep b o q)
    have ob : ObjOk X.prog X.w (upd H1 d (.xd [(fld, v)])) G' d (.xd [(fld, v)]) := ⟨_, hns.at (fun o q => (gk d M.dne).trans q), fun f => relO_fld fld rv f⟩
    have J : Inv X pins σ (upd H1 d (.xd [(fld, v)])) ⟨G', g, dr, tk', os⟩ := I1.laid (t' := tk') old M.dbig ob
    refine ⟨e, oe, fv, ⟨G', g, dr, tk', os⟩, _, .ref C, some d, rfl, J, fun b o q => ?_, ge, hoe, ⟨hc, hd⟩, hdat, h1, ?_, rfl, I1.bare, raises_own T.exC T.tyC, q1 d (I1.hok.fresh M.dbig)⟩
    · by_cases hb : b = e
      · have q' : G'.get? b = some o := q
        rw [hb, ge] at q'
        cases q'
      · exact (gk b hb).symm.trans q
    · rw [upd_ne (Ne.symm M.dne)]
      exact I1.hok.fresh M.new
/-- raise Bad(e) -/
def tRaiseF (C : Addr) (fld : Str) (ok : V → Prop) (W : WX) (ta : TA) : TS := fun _ σ H => tMkErr C fld ok ta σ H fun cls d H' => W cls d σ H'
theorem ps_raiseF {ok : V → Prop} {a : PySem.Expr} {ta : TA} {W : WX} {p pos pos2 : Pos} {k : Nat} (T : ErrTxt X.prog X.K X.mg x fld C fI ae st) (hA : ∀ v u, ok v → RelV v u → ArgOk X.prog X.w ae fld u) (hc : X.calm = true) (hr : Room k X.A) (tk : Takes X W) (ha : PA X [a] ta) (hg : Gl X x := by rfl)
    (hdb : (x == ("__debug__" : Str)) = false := by decide) (he : starEach (a :: []) X.env = (false, eval a X.env) :: starEach [] X.env := by rfl) (hpl : (backTo pos (starEach [] X.env)).any (·.1) = false := by rfl) :
    PS X (.Raise (some (.Call (.Name x p) [a] [] pos)) none pos2) (tRaiseF C fld ok W ta) := ps_raise hc tk (pmk_err T hA hr ha hg hdb he hpl)
/-- e.F, e the error that the suite holds (at a; its class cls, its dict d) -/
def tErrF (C : Addr) (fld : Str) (a : Addr) (cls : Value) (d : Option Addr) (te : TE) : TE := fun σ H Q => te σ H fun y H1 => y = .ref a ∧ cls = .ref C ∧ ∃ (dd : Addr) (v : V), d = some dd ∧ H1 dd = some (.xd [(fld, v)]) ∧ Q v H1
theorem pe_errF {P : Program} {a : Addr} {oe : Obj} {cls : Value} {d : Option Addr} {pn : List (Addr × Obj)} {e : PySem.Expr} {te : TE} {pos : Pos} (T : ErrTxt P X.K X.mg x fld C fI ae st) (hz : Zc cls d oe) (hf : ∃ vs, oe.data = .fields vs) (he : PE (X.suite a ((a, oe) :: pn)) e te)
    (hb : attributeBase e fld X.env (eval e X.env) = eval e X.env := by rfl) : PE (X.suite a ((a, oe) :: pn)) (.Attribute e fld pos) (tErrF C fld a cls d te) := by
  refine ⟨fun pins s σ H Q I h => ?_⟩
  refine attr_of hb (thn (he.run pins s σ H _ I h) fun u s1 hh => ?_)
  obtain ⟨y, H1, I1, rx, ex, ec, dd, v, ed, ea, q⟩ := hh
  subst ex
  obtain rfl : u = Value.ref a := rx
  subst ec
  subst ed
  obtain ⟨ha, _⟩ := I1.pin (a, oe) (List.mem_append_left _ List.mem_cons_self)
  obtain ⟨vs, hd⟩ := hf
  have hx : ObjOk X.prog X.w H1 s1.heap dd (.xd [(fld, v)]) := I1.hok dd _ ea
  obtain ⟨mA, hns, hr⟩ := hx
  obtain ⟨od, ho, hl⟩ := lookIn_ns hns
  have l : List.lookup fld [(fld, v)] = some v := by simp [List.lookup]
  obtain ⟨u, hu, ru⟩ := RelO.some_of (v := v) (o := mA fld) (by rw [← l]; exact hr fld)
  have J : PySem.W.InstAt s1.heap a oe C (some od) := ⟨ha, hz.1, by unfold PySem.W.notCls; rw [hd] <;> rfl, by rw [hz.2]; exact ho⟩
  exact HandSPX.exc_get I1.kIn J T.ga T.gg T.exC (PySem.W.findObj_own T.hdC T.noF rfl (by rw [hl, hu])) (handed_of ru) ⟨v, H1, I1.tok _, ru, q⟩
end
end L2
namespace Rt
open PySem L2 PySem.Spec PyProof.Rows

set_option genInjectivity false in
set_option genSizeOf false in
set_option genSizeOfSpec false in
set_option genCtorIdx false in
structure Tx (P : Program) (K : PySem.W.Frag) (mg : Str → Option Value) : Type where
  C_TrickError : Addr
  g_TrickError : mg "TrickError" = some (.ref C_TrickError)
  x_TrickError : PySem.W.excIn K C_TrickError [.type "ValueError", .type "Exception", .type "BaseException", .type "object"] "ValueError.__new__" = true
  k_TrickError : PySem.W.keepIn K (.ref C_TrickError) = true
  s_TrickError : PySem.W.subIn K (.ref C_TrickError) (.type "BaseException") = some true
  t_TrickError : PySem.W.typeIn K (.ref C_TrickError) = some (.type "type")
  hd_TrickError : PySem.W.hasDictIn K C_TrickError = true
  C_BadBase : Addr
  g_BadBase : mg "BadBase" = some (.ref C_BadBase)
  x_BadBase : PySem.W.excIn K C_BadBase [.type "ValueError", .type "Exception", .type "BaseException", .type "object"] "ValueError.__new__" = true
  k_BadBase : PySem.W.keepIn K (.ref C_BadBase) = true
  s_BadBase : PySem.W.subIn K (.ref C_BadBase) (.type "BaseException") = some true
  t_BadBase : PySem.W.typeIn K (.ref C_BadBase) = some (.type "type")
  hd_BadBase : PySem.W.hasDictIn K C_BadBase = true
  C_BadTake : Addr
  g_BadTake : mg "BadTake" = some (.ref C_BadTake)
  x_BadTake : PySem.W.excIn K C_BadTake [.type "ValueError", .type "Exception", .type "BaseException", .type "object"] "ValueError.__new__" = true
  k_BadTake : PySem.W.keepIn K (.ref C_BadTake) = true
  s_BadTake : PySem.W.subIn K (.ref C_BadTake) (.type "BaseException") = some true
  t_BadTake : PySem.W.typeIn K (.ref C_BadTake) = some (.type "type")
  hd_BadTake : PySem.W.hasDictIn K C_BadTake = true
  C_BadTimes : Addr
  g_BadTimes : mg "BadTimes" = some (.ref C_BadTimes)
  x_BadTimes : PySem.W.excIn K C_BadTimes [.type "ValueError", .type "Exception", .type "BaseException", .type "object"] "ValueError.__new__" = true
  k_BadTimes : PySem.W.keepIn K (.ref C_BadTimes) = true
  s_BadTimes : PySem.W.subIn K (.ref C_BadTimes) (.type "BaseException") = some true
  t_BadTimes : PySem.W.typeIn K (.ref C_BadTimes) = some (.type "type")
  hd_BadTimes : PySem.W.hasDictIn K C_BadTimes = true
  C_BadTrick : Addr
  g_BadTrick : mg "BadTrick" = some (.ref C_BadTrick)
  x_BadTrick : PySem.W.excIn K C_BadTrick [.type "ValueError", .type "Exception", .type "BaseException", .type "object"] "ValueError.__new__" = true
  k_BadTrick : PySem.W.keepIn K (.ref C_BadTrick) = true
  s_BadTrick : PySem.W.subIn K (.ref C_BadTrick) (.type "BaseException") = some true
  t_BadTrick : PySem.W.typeIn K (.ref C_BadTrick) = some (.type "type")
  hd_BadTrick : PySem.W.hasDictIn K C_BadTrick = true
  C_BadDivisor : Addr
  g_BadDivisor : mg "BadDivisor" = some (.ref C_BadDivisor)
  x_BadDivisor : PySem.W.excIn K C_BadDivisor [.type "ValueError", .type "Exception", .type "BaseException", .type "object"] "ValueError.__new__" = true
  k_BadDivisor : PySem.W.keepIn K (.ref C_BadDivisor) = true
  s_BadDivisor : PySem.W.subIn K (.ref C_BadDivisor) (.type "BaseException") = some true
  t_BadDivisor : PySem.W.typeIn K (.ref C_BadDivisor) = some (.type "type")
  hd_BadDivisor : PySem.W.hasDictIn K C_BadDivisor = true
  C_BadSum : Addr
  g_BadSum : mg "BadSum" = some (.ref C_BadSum)
  x_BadSum : PySem.W.excIn K C_BadSum [.type "ValueError", .type "Exception", .type "BaseException", .type "object"] "ValueError.__new__" = true
  k_BadSum : PySem.W.keepIn K (.ref C_BadSum) = true
  s_BadSum : PySem.W.subIn K (.ref C_BadSum) (.type "BaseException") = some true
  t_BadSum : PySem.W.typeIn K (.ref C_BadSum) = some (.type "type")
  hd_BadSum : PySem.W.hasDictIn K C_BadSum = true
  C_BadRest : Addr
  g_BadRest : mg "BadRest" = some (.ref C_BadRest)
  x_BadRest : PySem.W.excIn K C_BadRest [.type "ValueError", .type "Exception", .type "BaseException", .type "object"] "ValueError.__new__" = true
  k_BadRest : PySem.W.keepIn K (.ref C_BadRest) = true
  s_BadRest : PySem.W.subIn K (.ref C_BadRest) (.type "BaseException") = some true
  t_BadRest : PySem.W.typeIn K (.ref C_BadRest) = some (.type "type")
  hd_BadRest : PySem.W.hasDictIn K C_BadRest = true
  C_BadNumber : Addr
  g_BadNumber : mg "BadNumber" = some (.ref C_BadNumber)
  k_BadNumber : PySem.W.keepIn K (.ref C_BadNumber) = true
  s_BadNumber : PySem.W.subIn K (.ref C_BadNumber) (.type "BaseException") = some true
  t_BadNumber : PySem.W.typeIn K (.ref C_BadNumber) = some (.type "type")
  hd_BadNumber : PySem.W.hasDictIn K C_BadNumber = true
  C_BadFigures : Addr
  g_BadFigures : mg "BadFigures" = some (.ref C_BadFigures)
  k_BadFigures : PySem.W.keepIn K (.ref C_BadFigures) = true
  s_BadFigures : PySem.W.subIn K (.ref C_BadFigures) (.type "BaseException") = some true
  t_BadFigures : PySem.W.typeIn K (.ref C_BadFigures) = some (.type "type")
  hd_BadFigures : PySem.W.hasDictIn K C_BadFigures = true
  C_BadWeights : Addr
  g_BadWeights : mg "BadWeights" = some (.ref C_BadWeights)
  k_BadWeights : PySem.W.keepIn K (.ref C_BadWeights) = true
  s_BadWeights : PySem.W.subIn K (.ref C_BadWeights) (.type "BaseException") = some true
  t_BadWeights : PySem.W.typeIn K (.ref C_BadWeights) = some (.type "type")
  hd_BadWeights : PySem.W.hasDictIn K C_BadWeights = true
  C_BadRests : Addr
  g_BadRests : mg "BadRests" = some (.ref C_BadRests)
  k_BadRests : PySem.W.keepIn K (.ref C_BadRests) = true
  s_BadRests : PySem.W.subIn K (.ref C_BadRests) (.type "BaseException") = some true
  t_BadRests : PySem.W.typeIn K (.ref C_BadRests) = some (.type "type")
  hd_BadRests : PySem.W.hasDictIn K C_BadRests = true
  C_BadTricks : Addr
  g_BadTricks : mg "BadTricks" = some (.ref C_BadTricks)
  k_BadTricks : PySem.W.keepIn K (.ref C_BadTricks) = true
  s_BadTricks : PySem.W.subIn K (.ref C_BadTricks) (.type "BaseException") = some true
  t_BadTricks : PySem.W.typeIn K (.ref C_BadTricks) = some (.type "type")
  hd_BadTricks : PySem.W.hasDictIn K C_BadTricks = true
  C_BadPairs : Addr
  g_BadPairs : mg "BadPairs" = some (.ref C_BadPairs)
  k_BadPairs : PySem.W.keepIn K (.ref C_BadPairs) = true
  s_BadPairs : PySem.W.subIn K (.ref C_BadPairs) (.type "BaseException") = some true
  t_BadPairs : PySem.W.typeIn K (.ref C_BadPairs) = some (.type "type")
  hd_BadPairs : PySem.W.hasDictIn K C_BadPairs = true
  C_TooWide : Addr
  g_TooWide : mg "TooWide" = some (.ref C_TooWide)
  k_TooWide : PySem.W.keepIn K (.ref C_TooWide) = true
  s_TooWide : PySem.W.subIn K (.ref C_TooWide) (.type "BaseException") = some true
  t_TooWide : PySem.W.typeIn K (.ref C_TooWide) = some (.type "type")
  hd_TooWide : PySem.W.hasDictIn K C_TooWide = true
  C_InvalidText : Addr
  g_InvalidText : mg "InvalidText" = some (.ref C_InvalidText)
  k_InvalidText : PySem.W.keepIn K (.ref C_InvalidText) = true
  s_InvalidText : PySem.W.subIn K (.ref C_InvalidText) (.type "BaseException") = some true
  t_InvalidText : PySem.W.typeIn K (.ref C_InvalidText) = some (.type "type")
  hd_InvalidText : PySem.W.hasDictIn K C_InvalidText = true
  xm_TrickError_BadBase : PySem.W.exmOne K (.ref C_TrickError) (.ref C_BadBase) = some false
  xm_TrickError_BadDivisor : PySem.W.exmOne K (.ref C_TrickError) (.ref C_BadDivisor) = some false
  xm_TrickError_BadFigures : PySem.W.exmOne K (.ref C_TrickError) (.ref C_BadFigures) = some false
  xm_TrickError_BadNumber : PySem.W.exmOne K (.ref C_TrickError) (.ref C_BadNumber) = some false
  xm_TrickError_BadPairs : PySem.W.exmOne K (.ref C_TrickError) (.ref C_BadPairs) = some false
  xm_TrickError_BadRest : PySem.W.exmOne K (.ref C_TrickError) (.ref C_BadRest) = some false
  xm_TrickError_BadRests : PySem.W.exmOne K (.ref C_TrickError) (.ref C_BadRests) = some false
  xm_TrickError_BadSum : PySem.W.exmOne K (.ref C_TrickError) (.ref C_BadSum) = some false
  xm_TrickError_BadTake : PySem.W.exmOne K (.ref C_TrickError) (.ref C_BadTake) = some false
  xm_TrickError_BadTimes : PySem.W.exmOne K (.ref C_TrickError) (.ref C_BadTimes) = some false
  xm_TrickError_BadTrick : PySem.W.exmOne K (.ref C_TrickError) (.ref C_BadTrick) = some false
  xm_TrickError_BadTricks : PySem.W.exmOne K (.ref C_TrickError) (.ref C_BadTricks) = some false
  xm_TrickError_BadWeights : PySem.W.exmOne K (.ref C_TrickError) (.ref C_BadWeights) = some false
  xm_TrickError_InvalidText : PySem.W.exmOne K (.ref C_TrickError) (.ref C_InvalidText) = some false
  xm_TrickError_TooWide : PySem.W.exmOne K (.ref C_TrickError) (.ref C_TooWide) = some false
  xm_TrickError_TrickError : PySem.W.exmOne K (.ref C_TrickError) (.ref C_TrickError) = some true
  xm_BadBase_BadBase : PySem.W.exmOne K (.ref C_BadBase) (.ref C_BadBase) = some true
  xm_BadBase_BadDivisor : PySem.W.exmOne K (.ref C_BadBase) (.ref C_BadDivisor) = some false
  xm_BadBase_BadFigures : PySem.W.exmOne K (.ref C_BadBase) (.ref C_BadFigures) = some false
  xm_BadBase_BadNumber : PySem.W.exmOne K (.ref C_BadBase) (.ref C_BadNumber) = some false
  xm_BadBase_BadPairs : PySem.W.exmOne K (.ref C_BadBase) (.ref C_BadPairs) = some false
  xm_BadBase_BadRest : PySem.W.exmOne K (.ref C_BadBase) (.ref C_BadRest) = some false
  xm_BadBase_BadRests : PySem.W.exmOne K (.ref C_BadBase) (.ref C_BadRests) = some false
  xm_BadBase_BadSum : PySem.W.exmOne K (.ref C_BadBase) (.ref C_BadSum) = some false
  xm_BadBase_BadTake : PySem.W.exmOne K (.ref C_BadBase) (.ref C_BadTake) = some false
  xm_BadBase_BadTimes : PySem.W.exmOne K (.ref C_BadBase) (.ref C_BadTimes) = some false
  xm_BadBase_BadTrick : PySem.W.exmOne K (.ref C_BadBase) (.ref C_BadTrick) = some false
  xm_BadBase_BadTricks : PySem.W.exmOne K (.ref C_BadBase) (.ref C_BadTricks) = some false
  xm_BadBase_BadWeights : PySem.W.exmOne K (.ref C_BadBase) (.ref C_BadWeights) = some false
  xm_BadBase_InvalidText : PySem.W.exmOne K (.ref C_BadBase) (.ref C_InvalidText) = some false
  xm_BadBase_TooWide : PySem.W.exmOne K (.ref C_BadBase) (.ref C_TooWide) = some false
  xm_BadBase_TrickError : PySem.W.exmOne K (.ref C_BadBase) (.ref C_TrickError) = some true
  xm_BadTake_BadBase : PySem.W.exmOne K (.ref C_BadTake) (.ref C_BadBase) = some false
  xm_BadTake_BadDivisor : PySem.W.exmOne K (.ref C_BadTake) (.ref C_BadDivisor) = some false
  xm_BadTake_BadFigures : PySem.W.exmOne K (.ref C_BadTake) (.ref C_BadFigures) = some false
  xm_BadTake_BadNumber : PySem.W.exmOne K (.ref C_BadTake) (.ref C_BadNumber) = some false
  xm_BadTake_BadPairs : PySem.W.exmOne K (.ref C_BadTake) (.ref C_BadPairs) = some false
  xm_BadTake_BadRest : PySem.W.exmOne K (.ref C_BadTake) (.ref C_BadRest) = some false
  xm_BadTake_BadRests : PySem.W.exmOne K (.ref C_BadTake) (.ref C_BadRests) = some false
  xm_BadTake_BadSum : PySem.W.exmOne K (.ref C_BadTake) (.ref C_BadSum) = some false
  xm_BadTake_BadTake : PySem.W.exmOne K (.ref C_BadTake) (.ref C_BadTake) = some true
  xm_BadTake_BadTimes : PySem.W.exmOne K (.ref C_BadTake) (.ref C_BadTimes) = some false
  xm_BadTake_BadTrick : PySem.W.exmOne K (.ref C_BadTake) (.ref C_BadTrick) = some false
  xm_BadTake_BadTricks : PySem.W.exmOne K (.ref C_BadTake) (.ref C_BadTricks) = some false
  xm_BadTake_BadWeights : PySem.W.exmOne K (.ref C_BadTake) (.ref C_BadWeights) = some false
  xm_BadTake_InvalidText : PySem.W.exmOne K (.ref C_BadTake) (.ref C_InvalidText) = some false
  xm_BadTake_TooWide : PySem.W.exmOne K (.ref C_BadTake) (.ref C_TooWide) = some false
  xm_BadTake_TrickError : PySem.W.exmOne K (.ref C_BadTake) (.ref C_TrickError) = some true
  xm_BadTimes_BadBase : PySem.W.exmOne K (.ref C_BadTimes) (.ref C_BadBase) = some false
  xm_BadTimes_BadDivisor : PySem.W.exmOne K (.ref C_BadTimes) (.ref C_BadDivisor) = some false
  xm_BadTimes_BadFigures : PySem.W.exmOne K (.ref C_BadTimes) (.ref C_BadFigures) = some false
  xm_BadTimes_BadNumber : PySem.W.exmOne K (.ref C_BadTimes) (.ref C_BadNumber) = some false
  xm_BadTimes_BadPairs : PySem.W.exmOne K (.ref C_BadTimes) (.ref C_BadPairs) = some false
  xm_BadTimes_BadRest : PySem.W.exmOne K (.ref C_BadTimes) (.ref C_BadRest) = some false
  xm_BadTimes_BadRests : PySem.W.exmOne K (.ref C_BadTimes) (.ref C_BadRests) = some false
  xm_BadTimes_BadSum : PySem.W.exmOne K (.ref C_BadTimes) (.ref C_BadSum) = some false
  xm_BadTimes_BadTake : PySem.W.exmOne K (.ref C_BadTimes) (.ref C_BadTake) = some false
  xm_BadTimes_BadTimes : PySem.W.exmOne K (.ref C_BadTimes) (.ref C_BadTimes) = some true
  xm_BadTimes_BadTrick : PySem.W.exmOne K (.ref C_BadTimes) (.ref C_BadTrick) = some false
  xm_BadTimes_BadTricks : PySem.W.exmOne K (.ref C_BadTimes) (.ref C_BadTricks) = some false
  xm_BadTimes_BadWeights : PySem.W.exmOne K (.ref C_BadTimes) (.ref C_BadWeights) = some false
  xm_BadTimes_InvalidText : PySem.W.exmOne K (.ref C_BadTimes) (.ref C_InvalidText) = some false
  xm_BadTimes_TooWide : PySem.W.exmOne K (.ref C_BadTimes) (.ref C_TooWide) = some false
  xm_BadTimes_TrickError : PySem.W.exmOne K (.ref C_BadTimes) (.ref C_TrickError) = some true
  xm_BadTrick_BadBase : PySem.W.exmOne K (.ref C_BadTrick) (.ref C_BadBase) = some false
  xm_BadTrick_BadDivisor : PySem.W.exmOne K (.ref C_BadTrick) (.ref C_BadDivisor) = some false
  xm_BadTrick_BadFigures : PySem.W.exmOne K (.ref C_BadTrick) (.ref C_BadFigures) = some false
  xm_BadTrick_BadNumber : PySem.W.exmOne K (.ref C_BadTrick) (.ref C_BadNumber) = some false
  xm_BadTrick_BadPairs : PySem.W.exmOne K (.ref C_BadTrick) (.ref C_BadPairs) = some false
  xm_BadTrick_BadRest : PySem.W.exmOne K (.ref C_BadTrick) (.ref C_BadRest) = some false
  xm_BadTrick_BadRests : PySem.W.exmOne K (.ref C_BadTrick) (.ref C_BadRests) = some false
  xm_BadTrick_BadSum : PySem.W.exmOne K (.ref C_BadTrick) (.ref C_BadSum) = some false
  xm_BadTrick_BadTake : PySem.W.exmOne K (.ref C_BadTrick) (.ref C_BadTake) = some false
  xm_BadTrick_BadTimes : PySem.W.exmOne K (.ref C_BadTrick) (.ref C_BadTimes) = some false
  xm_BadTrick_BadTrick : PySem.W.exmOne K (.ref C_BadTrick) (.ref C_BadTrick) = some true
  xm_BadTrick_BadTricks : PySem.W.exmOne K (.ref C_BadTrick) (.ref C_BadTricks) = some false
  xm_BadTrick_BadWeights : PySem.W.exmOne K (.ref C_BadTrick) (.ref C_BadWeights) = some false
  xm_BadTrick_InvalidText : PySem.W.exmOne K (.ref C_BadTrick) (.ref C_InvalidText) = some false
  xm_BadTrick_TooWide : PySem.W.exmOne K (.ref C_BadTrick) (.ref C_TooWide) = some false
  xm_BadTrick_TrickError : PySem.W.exmOne K (.ref C_BadTrick) (.ref C_TrickError) = some true
  xm_BadDivisor_BadBase : PySem.W.exmOne K (.ref C_BadDivisor) (.ref C_BadBase) = some false
  xm_BadDivisor_BadDivisor : PySem.W.exmOne K (.ref C_BadDivisor) (.ref C_BadDivisor) = some true
  xm_BadDivisor_BadFigures : PySem.W.exmOne K (.ref C_BadDivisor) (.ref C_BadFigures) = some false
  xm_BadDivisor_BadNumber : PySem.W.exmOne K (.ref C_BadDivisor) (.ref C_BadNumber) = some false
  xm_BadDivisor_BadPairs : PySem.W.exmOne K (.ref C_BadDivisor) (.ref C_BadPairs) = some false
  xm_BadDivisor_BadRest : PySem.W.exmOne K (.ref C_BadDivisor) (.ref C_BadRest) = some false
  xm_BadDivisor_BadRests : PySem.W.exmOne K (.ref C_BadDivisor) (.ref C_BadRests) = some false
  xm_BadDivisor_BadSum : PySem.W.exmOne K (.ref C_BadDivisor) (.ref C_BadSum) = some false
  xm_BadDivisor_BadTake : PySem.W.exmOne K (.ref C_BadDivisor) (.ref C_BadTake) = some false
  xm_BadDivisor_BadTimes : PySem.W.exmOne K (.ref C_BadDivisor) (.ref C_BadTimes) = some false
  xm_BadDivisor_BadTrick : PySem.W.exmOne K (.ref C_BadDivisor) (.ref C_BadTrick) = some false
  xm_BadDivisor_BadTricks : PySem.W.exmOne K (.ref C_BadDivisor) (.ref C_BadTricks) = some false
  xm_BadDivisor_BadWeights : PySem.W.exmOne K (.ref C_BadDivisor) (.ref C_BadWeights) = some false
  xm_BadDivisor_InvalidText : PySem.W.exmOne K (.ref C_BadDivisor) (.ref C_InvalidText) = some false
  xm_BadDivisor_TooWide : PySem.W.exmOne K (.ref C_BadDivisor) (.ref C_TooWide) = some false
  xm_BadDivisor_TrickError : PySem.W.exmOne K (.ref C_BadDivisor) (.ref C_TrickError) = some true
  xm_BadSum_BadBase : PySem.W.exmOne K (.ref C_BadSum) (.ref C_BadBase) = some false
  xm_BadSum_BadDivisor : PySem.W.exmOne K (.ref C_BadSum) (.ref C_BadDivisor) = some false
  xm_BadSum_BadFigures : PySem.W.exmOne K (.ref C_BadSum) (.ref C_BadFigures) = some false
  xm_BadSum_BadNumber : PySem.W.exmOne K (.ref C_BadSum) (.ref C_BadNumber) = some false
  xm_BadSum_BadPairs : PySem.W.exmOne K (.ref C_BadSum) (.ref C_BadPairs) = some false
  xm_BadSum_BadRest : PySem.W.exmOne K (.ref C_BadSum) (.ref C_BadRest) = some false
  xm_BadSum_BadRests : PySem.W.exmOne K (.ref C_BadSum) (.ref C_BadRests) = some false
  xm_BadSum_BadSum : PySem.W.exmOne K (.ref C_BadSum) (.ref C_BadSum) = some true
  xm_BadSum_BadTake : PySem.W.exmOne K (.ref C_BadSum) (.ref C_BadTake) = some false
  xm_BadSum_BadTimes : PySem.W.exmOne K (.ref C_BadSum) (.ref C_BadTimes) = some false
  xm_BadSum_BadTrick : PySem.W.exmOne K (.ref C_BadSum) (.ref C_BadTrick) = some false
  xm_BadSum_BadTricks : PySem.W.exmOne K (.ref C_BadSum) (.ref C_BadTricks) = some false
  xm_BadSum_BadWeights : PySem.W.exmOne K (.ref C_BadSum) (.ref C_BadWeights) = some false
  xm_BadSum_InvalidText : PySem.W.exmOne K (.ref C_BadSum) (.ref C_InvalidText) = some false
  xm_BadSum_TooWide : PySem.W.exmOne K (.ref C_BadSum) (.ref C_TooWide) = some false
  xm_BadSum_TrickError : PySem.W.exmOne K (.ref C_BadSum) (.ref C_TrickError) = some true
  xm_BadRest_BadBase : PySem.W.exmOne K (.ref C_BadRest) (.ref C_BadBase) = some false
  xm_BadRest_BadDivisor : PySem.W.exmOne K (.ref C_BadRest) (.ref C_BadDivisor) = some false
  xm_BadRest_BadFigures : PySem.W.exmOne K (.ref C_BadRest) (.ref C_BadFigures) = some false
  xm_BadRest_BadNumber : PySem.W.exmOne K (.ref C_BadRest) (.ref C_BadNumber) = some false
  xm_BadRest_BadPairs : PySem.W.exmOne K (.ref C_BadRest) (.ref C_BadPairs) = some false
  xm_BadRest_BadRest : PySem.W.exmOne K (.ref C_BadRest) (.ref C_BadRest) = some true
  xm_BadRest_BadRests : PySem.W.exmOne K (.ref C_BadRest) (.ref C_BadRests) = some false
  xm_BadRest_BadSum : PySem.W.exmOne K (.ref C_BadRest) (.ref C_BadSum) = some false
  xm_BadRest_BadTake : PySem.W.exmOne K (.ref C_BadRest) (.ref C_BadTake) = some false
  xm_BadRest_BadTimes : PySem.W.exmOne K (.ref C_BadRest) (.ref C_BadTimes) = some false
  xm_BadRest_BadTrick : PySem.W.exmOne K (.ref C_BadRest) (.ref C_BadTrick) = some false
  xm_BadRest_BadTricks : PySem.W.exmOne K (.ref C_BadRest) (.ref C_BadTricks) = some false
  xm_BadRest_BadWeights : PySem.W.exmOne K (.ref C_BadRest) (.ref C_BadWeights) = some false
  xm_BadRest_InvalidText : PySem.W.exmOne K (.ref C_BadRest) (.ref C_InvalidText) = some false
  xm_BadRest_TooWide : PySem.W.exmOne K (.ref C_BadRest) (.ref C_TooWide) = some false
  xm_BadRest_TrickError : PySem.W.exmOne K (.ref C_BadRest) (.ref C_TrickError) = some true
  xm_BadNumber_BadBase : PySem.W.exmOne K (.ref C_BadNumber) (.ref C_BadBase) = some false
  xm_BadNumber_BadDivisor : PySem.W.exmOne K (.ref C_BadNumber) (.ref C_BadDivisor) = some false
  xm_BadNumber_BadFigures : PySem.W.exmOne K (.ref C_BadNumber) (.ref C_BadFigures) = some false
  xm_BadNumber_BadNumber : PySem.W.exmOne K (.ref C_BadNumber) (.ref C_BadNumber) = some true
  xm_BadNumber_BadPairs : PySem.W.exmOne K (.ref C_BadNumber) (.ref C_BadPairs) = some false
  xm_BadNumber_BadRest : PySem.W.exmOne K (.ref C_BadNumber) (.ref C_BadRest) = some false
  xm_BadNumber_BadRests : PySem.W.exmOne K (.ref C_BadNumber) (.ref C_BadRests) = some false
  xm_BadNumber_BadSum : PySem.W.exmOne K (.ref C_BadNumber) (.ref C_BadSum) = some false
  xm_BadNumber_BadTake : PySem.W.exmOne K (.ref C_BadNumber) (.ref C_BadTake) = some false
  xm_BadNumber_BadTimes : PySem.W.exmOne K (.ref C_BadNumber) (.ref C_BadTimes) = some false
  xm_BadNumber_BadTrick : PySem.W.exmOne K (.ref C_BadNumber) (.ref C_BadTrick) = some false
  xm_BadNumber_BadTricks : PySem.W.exmOne K (.ref C_BadNumber) (.ref C_BadTricks) = some false
  xm_BadNumber_BadWeights : PySem.W.exmOne K (.ref C_BadNumber) (.ref C_BadWeights) = some false
  xm_BadNumber_InvalidText : PySem.W.exmOne K (.ref C_BadNumber) (.ref C_InvalidText) = some false
  xm_BadNumber_TooWide : PySem.W.exmOne K (.ref C_BadNumber) (.ref C_TooWide) = some false
  xm_BadNumber_TrickError : PySem.W.exmOne K (.ref C_BadNumber) (.ref C_TrickError) = some true
  xm_BadFigures_BadBase : PySem.W.exmOne K (.ref C_BadFigures) (.ref C_BadBase) = some false
  xm_BadFigures_BadDivisor : PySem.W.exmOne K (.ref C_BadFigures) (.ref C_BadDivisor) = some false
  xm_BadFigures_BadFigures : PySem.W.exmOne K (.ref C_BadFigures) (.ref C_BadFigures) = some true
  xm_BadFigures_BadNumber : PySem.W.exmOne K (.ref C_BadFigures) (.ref C_BadNumber) = some false
  xm_BadFigures_BadPairs : PySem.W.exmOne K (.ref C_BadFigures) (.ref C_BadPairs) = some false
  xm_BadFigures_BadRest : PySem.W.exmOne K (.ref C_BadFigures) (.ref C_BadRest) = some false
  xm_BadFigures_BadRests : PySem.W.exmOne K (.ref C_BadFigures) (.ref C_BadRests) = some false
  xm_BadFigures_BadSum : PySem.W.exmOne K (.ref C_BadFigures) (.ref C_BadSum) = some false
  xm_BadFigures_BadTake : PySem.W.exmOne K (.ref C_BadFigures) (.ref C_BadTake) = some false
  xm_BadFigures_BadTimes : PySem.W.exmOne K (.ref C_BadFigures) (.ref C_BadTimes) = some false
  xm_BadFigures_BadTrick : PySem.W.exmOne K (.ref C_BadFigures) (.ref C_BadTrick) = some false
  xm_BadFigures_BadTricks : PySem.W.exmOne K (.ref C_BadFigures) (.ref C_BadTricks) = some false
  xm_BadFigures_BadWeights : PySem.W.exmOne K (.ref C_BadFigures) (.ref C_BadWeights) = some false
  xm_BadFigures_InvalidText : PySem.W.exmOne K (.ref C_BadFigures) (.ref C_InvalidText) = some false
  xm_BadFigures_TooWide : PySem.W.exmOne K (.ref C_BadFigures) (.ref C_TooWide) = some false
  xm_BadFigures_TrickError : PySem.W.exmOne K (.ref C_BadFigures) (.ref C_TrickError) = some true
  xm_BadWeights_BadBase : PySem.W.exmOne K (.ref C_BadWeights) (.ref C_BadBase) = some false
  xm_BadWeights_BadDivisor : PySem.W.exmOne K (.ref C_BadWeights) (.ref C_BadDivisor) = some false
  xm_BadWeights_BadFigures : PySem.W.exmOne K (.ref C_BadWeights) (.ref C_BadFigures) = some false
  xm_BadWeights_BadNumber : PySem.W.exmOne K (.ref C_BadWeights) (.ref C_BadNumber) = some false
  xm_BadWeights_BadPairs : PySem.W.exmOne K (.ref C_BadWeights) (.ref C_BadPairs) = some false
  xm_BadWeights_BadRest : PySem.W.exmOne K (.ref C_BadWeights) (.ref C_BadRest) = some false
  xm_BadWeights_BadRests : PySem.W.exmOne K (.ref C_BadWeights) (.ref C_BadRests) = some false
  xm_BadWeights_BadSum : PySem.W.exmOne K (.ref C_BadWeights) (.ref C_BadSum) = some false
  xm_BadWeights_BadTake : PySem.W.exmOne K (.ref C_BadWeights) (.ref C_BadTake) = some false
  xm_BadWeights_BadTimes : PySem.W.exmOne K (.ref C_BadWeights) (.ref C_BadTimes) = some false
  xm_BadWeights_BadTrick : PySem.W.exmOne K (.ref C_BadWeights) (.ref C_BadTrick) = some false
  xm_BadWeights_BadTricks : PySem.W.exmOne K (.ref C_BadWeights) (.ref C_BadTricks) = some false
  xm_BadWeights_BadWeights : PySem.W.exmOne K (.ref C_BadWeights) (.ref C_BadWeights) = some true
  xm_BadWeights_InvalidText : PySem.W.exmOne K (.ref C_BadWeights) (.ref C_InvalidText) = some false
  xm_BadWeights_TooWide : PySem.W.exmOne K (.ref C_BadWeights) (.ref C_TooWide) = some false
  xm_BadWeights_TrickError : PySem.W.exmOne K (.ref C_BadWeights) (.ref C_TrickError) = some true
  xm_BadRests_BadBase : PySem.W.exmOne K (.ref C_BadRests) (.ref C_BadBase) = some false
  xm_BadRests_BadDivisor : PySem.W.exmOne K (.ref C_BadRests) (.ref C_BadDivisor) = some false
  xm_BadRests_BadFigures : PySem.W.exmOne K (.ref C_BadRests) (.ref C_BadFigures) = some false
  xm_BadRests_BadNumber : PySem.W.exmOne K (.ref C_BadRests) (.ref C_BadNumber) = some false
  xm_BadRests_BadPairs : PySem.W.exmOne K (.ref C_BadRests) (.ref C_BadPairs) = some false
  xm_BadRests_BadRest : PySem.W.exmOne K (.ref C_BadRests) (.ref C_BadRest) = some false
  xm_BadRests_BadRests : PySem.W.exmOne K (.ref C_BadRests) (.ref C_BadRests) = some true
  xm_BadRests_BadSum : PySem.W.exmOne K (.ref C_BadRests) (.ref C_BadSum) = some false
  xm_BadRests_BadTake : PySem.W.exmOne K (.ref C_BadRests) (.ref C_BadTake) = some false
  xm_BadRests_BadTimes : PySem.W.exmOne K (.ref C_BadRests) (.ref C_BadTimes) = some false
  xm_BadRests_BadTrick : PySem.W.exmOne K (.ref C_BadRests) (.ref C_BadTrick) = some false
  xm_BadRests_BadTricks : PySem.W.exmOne K (.ref C_BadRests) (.ref C_BadTricks) = some false
  xm_BadRests_BadWeights : PySem.W.exmOne K (.ref C_BadRests) (.ref C_BadWeights) = some false
  xm_BadRests_InvalidText : PySem.W.exmOne K (.ref C_BadRests) (.ref C_InvalidText) = some false
  xm_BadRests_TooWide : PySem.W.exmOne K (.ref C_BadRests) (.ref C_TooWide) = some false
  xm_BadRests_TrickError : PySem.W.exmOne K (.ref C_BadRests) (.ref C_TrickError) = some true
  xm_BadTricks_BadBase : PySem.W.exmOne K (.ref C_BadTricks) (.ref C_BadBase) = some false
  xm_BadTricks_BadDivisor : PySem.W.exmOne K (.ref C_BadTricks) (.ref C_BadDivisor) = some false
  xm_BadTricks_BadFigures : PySem.W.exmOne K (.ref C_BadTricks) (.ref C_BadFigures) = some false
  xm_BadTricks_BadNumber : PySem.W.exmOne K (.ref C_BadTricks) (.ref C_BadNumber) = some false
  xm_BadTricks_BadPairs : PySem.W.exmOne K (.ref C_BadTricks) (.ref C_BadPairs) = some false
  xm_BadTricks_BadRest : PySem.W.exmOne K (.ref C_BadTricks) (.ref C_BadRest) = some false
  xm_BadTricks_BadRests : PySem.W.exmOne K (.ref C_BadTricks) (.ref C_BadRests) = some false
  xm_BadTricks_BadSum : PySem.W.exmOne K (.ref C_BadTricks) (.ref C_BadSum) = some false
  xm_BadTricks_BadTake : PySem.W.exmOne K (.ref C_BadTricks) (.ref C_BadTake) = some false
  xm_BadTricks_BadTimes : PySem.W.exmOne K (.ref C_BadTricks) (.ref C_BadTimes) = some false
  xm_BadTricks_BadTrick : PySem.W.exmOne K (.ref C_BadTricks) (.ref C_BadTrick) = some false
  xm_BadTricks_BadTricks : PySem.W.exmOne K (.ref C_BadTricks) (.ref C_BadTricks) = some true
  xm_BadTricks_BadWeights : PySem.W.exmOne K (.ref C_BadTricks) (.ref C_BadWeights) = some false
  xm_BadTricks_InvalidText : PySem.W.exmOne K (.ref C_BadTricks) (.ref C_InvalidText) = some false
  xm_BadTricks_TooWide : PySem.W.exmOne K (.ref C_BadTricks) (.ref C_TooWide) = some false
  xm_BadTricks_TrickError : PySem.W.exmOne K (.ref C_BadTricks) (.ref C_TrickError) = some true
  xm_BadPairs_BadBase : PySem.W.exmOne K (.ref C_BadPairs) (.ref C_BadBase) = some false
  xm_BadPairs_BadDivisor : PySem.W.exmOne K (.ref C_BadPairs) (.ref C_BadDivisor) = some false
  xm_BadPairs_BadFigures : PySem.W.exmOne K (.ref C_BadPairs) (.ref C_BadFigures) = some false
  xm_BadPairs_BadNumber : PySem.W.exmOne K (.ref C_BadPairs) (.ref C_BadNumber) = some false
  xm_BadPairs_BadPairs : PySem.W.exmOne K (.ref C_BadPairs) (.ref C_BadPairs) = some true
  xm_BadPairs_BadRest : PySem.W.exmOne K (.ref C_BadPairs) (.ref C_BadRest) = some false
  xm_BadPairs_BadRests : PySem.W.exmOne K (.ref C_BadPairs) (.ref C_BadRests) = some false
  xm_BadPairs_BadSum : PySem.W.exmOne K (.ref C_BadPairs) (.ref C_BadSum) = some false
  xm_BadPairs_BadTake : PySem.W.exmOne K (.ref C_BadPairs) (.ref C_BadTake) = some false
  xm_BadPairs_BadTimes : PySem.W.exmOne K (.ref C_BadPairs) (.ref C_BadTimes) = some false
  xm_BadPairs_BadTrick : PySem.W.exmOne K (.ref C_BadPairs) (.ref C_BadTrick) = some false
  xm_BadPairs_BadTricks : PySem.W.exmOne K (.ref C_BadPairs) (.ref C_BadTricks) = some false
  xm_BadPairs_BadWeights : PySem.W.exmOne K (.ref C_BadPairs) (.ref C_BadWeights) = some false
  xm_BadPairs_InvalidText : PySem.W.exmOne K (.ref C_BadPairs) (.ref C_InvalidText) = some false
  xm_BadPairs_TooWide : PySem.W.exmOne K (.ref C_BadPairs) (.ref C_TooWide) = some false
  xm_BadPairs_TrickError : PySem.W.exmOne K (.ref C_BadPairs) (.ref C_TrickError) = some true
  xm_TooWide_BadBase : PySem.W.exmOne K (.ref C_TooWide) (.ref C_BadBase) = some false
  xm_TooWide_BadDivisor : PySem.W.exmOne K (.ref C_TooWide) (.ref C_BadDivisor) = some false
  xm_TooWide_BadFigures : PySem.W.exmOne K (.ref C_TooWide) (.ref C_BadFigures) = some false
  xm_TooWide_BadNumber : PySem.W.exmOne K (.ref C_TooWide) (.ref C_BadNumber) = some false
  xm_TooWide_BadPairs : PySem.W.exmOne K (.ref C_TooWide) (.ref C_BadPairs) = some false
  xm_TooWide_BadRest : PySem.W.exmOne K (.ref C_TooWide) (.ref C_BadRest) = some false
  xm_TooWide_BadRests : PySem.W.exmOne K (.ref C_TooWide) (.ref C_BadRests) = some false
  xm_TooWide_BadSum : PySem.W.exmOne K (.ref C_TooWide) (.ref C_BadSum) = some false
  xm_TooWide_BadTake : PySem.W.exmOne K (.ref C_TooWide) (.ref C_BadTake) = some false
  xm_TooWide_BadTimes : PySem.W.exmOne K (.ref C_TooWide) (.ref C_BadTimes) = some false
  xm_TooWide_BadTrick : PySem.W.exmOne K (.ref C_TooWide) (.ref C_BadTrick) = some false
  xm_TooWide_BadTricks : PySem.W.exmOne K (.ref C_TooWide) (.ref C_BadTricks) = some false
  xm_TooWide_BadWeights : PySem.W.exmOne K (.ref C_TooWide) (.ref C_BadWeights) = some false
  xm_TooWide_InvalidText : PySem.W.exmOne K (.ref C_TooWide) (.ref C_InvalidText) = some false
  xm_TooWide_TooWide : PySem.W.exmOne K (.ref C_TooWide) (.ref C_TooWide) = some true
  xm_TooWide_TrickError : PySem.W.exmOne K (.ref C_TooWide) (.ref C_TrickError) = some true
  xm_InvalidText_BadBase : PySem.W.exmOne K (.ref C_InvalidText) (.ref C_BadBase) = some false
  xm_InvalidText_BadDivisor : PySem.W.exmOne K (.ref C_InvalidText) (.ref C_BadDivisor) = some false
  xm_InvalidText_BadFigures : PySem.W.exmOne K (.ref C_InvalidText) (.ref C_BadFigures) = some false
  xm_InvalidText_BadNumber : PySem.W.exmOne K (.ref C_InvalidText) (.ref C_BadNumber) = some false
  xm_InvalidText_BadPairs : PySem.W.exmOne K (.ref C_InvalidText) (.ref C_BadPairs) = some false
  xm_InvalidText_BadRest : PySem.W.exmOne K (.ref C_InvalidText) (.ref C_BadRest) = some false
  xm_InvalidText_BadRests : PySem.W.exmOne K (.ref C_InvalidText) (.ref C_BadRests) = some false
  xm_InvalidText_BadSum : PySem.W.exmOne K (.ref C_InvalidText) (.ref C_BadSum) = some false
  xm_InvalidText_BadTake : PySem.W.exmOne K (.ref C_InvalidText) (.ref C_BadTake) = some false
  xm_InvalidText_BadTimes : PySem.W.exmOne K (.ref C_InvalidText) (.ref C_BadTimes) = some false
  xm_InvalidText_BadTrick : PySem.W.exmOne K (.ref C_InvalidText) (.ref C_BadTrick) = some false
  xm_InvalidText_BadTricks : PySem.W.exmOne K (.ref C_InvalidText) (.ref C_BadTricks) = some false
  xm_InvalidText_BadWeights : PySem.W.exmOne K (.ref C_InvalidText) (.ref C_BadWeights) = some false
  xm_InvalidText_InvalidText : PySem.W.exmOne K (.ref C_InvalidText) (.ref C_InvalidText) = some true
  xm_InvalidText_TooWide : PySem.W.exmOne K (.ref C_InvalidText) (.ref C_TooWide) = some false
  xm_InvalidText_TrickError : PySem.W.exmOne K (.ref C_InvalidText) (.ref C_TrickError) = some true
  t_c_GREATEST_NUMBER : Tok
  c_GREATEST_NUMBER : mg "GREATEST_NUMBER" = some (.int 10000000000000000000000000000000000000000 t_c_GREATEST_NUMBER)
  t_c_LEAST_BASE : Tok
  c_LEAST_BASE : mg "LEAST_BASE" = some (.int 2 t_c_LEAST_BASE)
  t_c_GREATEST_BASE : Tok
  c_GREATEST_BASE : mg "GREATEST_BASE" = some (.int 16 t_c_GREATEST_BASE)
  t_c_GREATEST_TAKE : Tok
  c_GREATEST_TAKE : mg "GREATEST_TAKE" = some (.int 2 t_c_GREATEST_TAKE)
  t_c_GREATEST_DIVISOR : Tok
  c_GREATEST_DIVISOR : mg "GREATEST_DIVISOR" = some (.int 100 t_c_GREATEST_DIVISOR)
  t_c_MOST_FIGURES : Tok
  c_MOST_FIGURES : mg "MOST_FIGURES" = some (.int 150 t_c_MOST_FIGURES)
  t_c_GREATEST_TIMES : Tok
  c_GREATEST_TIMES : mg "GREATEST_TIMES" = some (.int 100 t_c_GREATEST_TIMES)
  t_c_MOST_TRICKS : Tok
  c_MOST_TRICKS : mg "MOST_TRICKS" = some (.int 4 t_c_MOST_TRICKS)
  t_c_GREATEST_CHAIN_DIVISOR : Tok
  c_GREATEST_CHAIN_DIVISOR : mg "GREATEST_CHAIN_DIVISOR" = some (.int 30 t_c_GREATEST_CHAIN_DIVISOR)
  t_c_GREATEST_PRODUCT : Tok
  c_GREATEST_PRODUCT : mg "GREATEST_PRODUCT" = some (.int 300 t_c_GREATEST_PRODUCT)
  t_c_MOST_LABELS : Tok
  c_MOST_LABELS : mg "MOST_LABELS" = some (.int 20 t_c_MOST_LABELS)
  t_c_GREATEST_LABEL : Tok
  c_GREATEST_LABEL : mg "GREATEST_LABEL" = some (.int 19 t_c_GREATEST_LABEL)
  t_c_GREATEST_WEIGHT : Tok
  c_GREATEST_WEIGHT : mg "GREATEST_WEIGHT" = some (.int 1000000 t_c_GREATEST_WEIGHT)
  t_c_MOST_WEIGHTS : Tok
  c_MOST_WEIGHTS : mg "MOST_WEIGHTS" = some (.int 12 t_c_MOST_WEIGHTS)
  t_c_MOST_PAIRS : Tok
  c_MOST_PAIRS : mg "MOST_PAIRS" = some (.int 10 t_c_MOST_PAIRS)
  a_is_integer : Addr
  d_is_integer : FuncData
  F_is_integer : Fun K "is_integer" "is_integer" s_is_integer a_is_integer d_is_integer
  b_is_integer : Binds K d_is_integer ["told", "low", "high"] []
  g_is_integer : mg "is_integer" = some (.ref a_is_integer)
  a_is_tuple : Addr
  d_is_tuple : FuncData
  F_is_tuple : Fun K "is_tuple" "is_tuple" s_is_tuple a_is_tuple d_is_tuple
  b_is_tuple : Binds K d_is_tuple ["told", "fewest", "most"] []
  g_is_tuple : mg "is_tuple" = some (.ref a_is_tuple)
  a_is_list_or_tuple : Addr
  d_is_list_or_tuple : FuncData
  F_is_list_or_tuple : Fun K "is_list_or_tuple" "is_list_or_tuple" s_is_list_or_tuple a_is_list_or_tuple d_is_list_or_tuple
  b_is_list_or_tuple : Binds K d_is_list_or_tuple ["told", "fewest", "most"] []
  g_is_list_or_tuple : mg "is_list_or_tuple" = some (.ref a_is_list_or_tuple)
  a_is_number : Addr
  d_is_number : FuncData
  F_is_number : Fun K "is_number" "is_number" s_is_number a_is_number d_is_number
  b_is_number : Binds K d_is_number ["told"] []
  g_is_number : mg "is_number" = some (.ref a_is_number)
  a_first_wrong : Addr
  d_first_wrong : FuncData
  F_first_wrong : Fun K "first_wrong" "first_wrong" s_first_wrong a_first_wrong d_first_wrong
  b_first_wrong : Binds K d_first_wrong ["told", "low", "high"] []
  g_first_wrong : mg "first_wrong" = some (.ref a_first_wrong)
  a_check_base : Addr
  d_check_base : FuncData
  F_check_base : Fun K "check_base" "check_base" s_check_base a_check_base d_check_base
  b_check_base : Binds K d_check_base ["base"] []
  g_check_base : mg "check_base" = some (.ref a_check_base)
  a_check_take : Addr
  d_check_take : FuncData
  F_check_take : Fun K "check_take" "check_take" s_check_take a_check_take d_check_take
  b_check_take : Binds K d_check_take ["take"] []
  g_check_take : mg "check_take" = some (.ref a_check_take)
  a_check_divisor : Addr
  d_check_divisor : FuncData
  F_check_divisor : FunD K "check_divisor" "check_divisor" (defArgs s_check_divisor) (defBody s_check_divisor) (defScope s_check_divisor) [.int 100] [] a_check_divisor d_check_divisor
  b_check_divisor : Binds K d_check_divisor ["d", "greatest"] []
  ds_check_divisor : List Value
  rd_check_divisor : Vals [.int 100] ds_check_divisor
  bd_check_divisor : Binds K d_check_divisor ["d", "greatest"] ds_check_divisor
  g_check_divisor : mg "check_divisor" = some (.ref a_check_divisor)
  a_check_stretch : Addr
  d_check_stretch : FuncData
  F_check_stretch : Fun K "check_stretch" "check_stretch" s_check_stretch a_check_stretch d_check_stretch
  b_check_stretch : Binds K d_check_stretch ["n", "low", "high"] []
  g_check_stretch : mg "check_stretch" = some (.ref a_check_stretch)
  a_check_number : Addr
  d_check_number : FuncData
  F_check_number : Fun K "check_number" "check_number" s_check_number a_check_number d_check_number
  b_check_number : Binds K d_check_number ["n"] []
  g_check_number : mg "check_number" = some (.ref a_check_number)
  a_figures : Addr
  d_figures : FuncData
  F_figures : Fun K "figures" "figures" s_figures a_figures d_figures
  b_figures : Binds K d_figures ["n", "base"] []
  g_figures : mg "figures" = some (.ref a_figures)
  a_number : Addr
  d_number : FuncData
  F_number : Fun K "number" "number" s_number a_number d_number
  b_number : Binds K d_number ["told", "base"] []
  g_number : mg "number" = some (.ref a_number)
  a_check_figures : Addr
  d_check_figures : FuncData
  F_check_figures : Fun K "check_figures" "check_figures" s_check_figures a_check_figures d_check_figures
  b_check_figures : Binds K d_check_figures ["told", "base", "fewest"] []
  g_check_figures : mg "check_figures" = some (.ref a_check_figures)
  a_block_of : Addr
  d_block_of : FuncData
  F_block_of : Fun K "block_of" "block_of" s_block_of a_block_of d_block_of
  b_block_of : Binds K d_block_of ["base", "take"] []
  g_block_of : mg "block_of" = some (.ref a_block_of)
  a_done : Addr
  d_done : FuncData
  F_done : Fun K "done" "done" s_done a_done d_done
  b_done : Binds K d_done ["trick", "n"] []
  g_done : mg "done" = some (.ref a_done)
  a_check_trick : Addr
  d_check_trick : FuncData
  F_check_trick : Fun K "check_trick" "check_trick" s_check_trick a_check_trick d_check_trick
  b_check_trick : Binds K d_check_trick ["trick"] []
  g_check_trick : mg "check_trick" = some (.ref a_check_trick)
  a_trick_block : Addr
  d_trick_block : FuncData
  F_trick_block : Fun K "trick_block" "trick_block" s_trick_block a_trick_block d_trick_block
  b_trick_block : Binds K d_trick_block ["trick"] []
  g_trick_block : mg "trick_block" = some (.ref a_trick_block)
  a_made_of : Addr
  d_made_of : FuncData
  F_made_of : Fun K "made_of" "made_of" s_made_of a_made_of d_made_of
  b_made_of : Binds K d_made_of ["trick", "n"] []
  g_made_of : mg "made_of" = some (.ref a_made_of)
  a_made_with : Addr
  d_made_with : FuncData
  F_made_with : Fun K "made_with" "made_with" s_made_with a_made_with d_made_with
  b_made_with : Binds K d_made_with ["block", "times", "n"] []
  g_made_with : mg "made_with" = some (.ref a_made_with)
  a_chained : Addr
  d_chained : FuncData
  F_chained : Fun K "chained" "chained" s_chained a_chained d_chained
  b_chained : Binds K d_chained ["tricks", "n"] []
  g_chained : mg "chained" = some (.ref a_chained)
  a_chain_tells : Addr
  d_chain_tells : FuncData
  F_chain_tells : Fun K "chain_tells" "chain_tells" s_chain_tells a_chain_tells d_chain_tells
  b_chain_tells : Binds K d_chain_tells ["tricks", "d"] []
  g_chain_tells : mg "chain_tells" = some (.ref a_chain_tells)
  a_check_tricks : Addr
  d_check_tricks : FuncData
  F_check_tricks : Fun K "check_tricks" "check_tricks" s_check_tricks a_check_tricks d_check_tricks
  b_check_tricks : Binds K d_check_tricks ["tricks"] []
  g_check_tricks : mg "check_tricks" = some (.ref a_check_tricks)
  a_check_chain : Addr
  d_check_chain : FuncData
  F_check_chain : Fun K "check_chain" "check_chain" s_check_chain a_check_chain d_check_chain
  b_check_chain : Binds K d_check_chain ["tricks", "d"] []
  g_check_chain : mg "check_chain" = some (.ref a_check_chain)
  a_made_of_all : Addr
  d_made_of_all : FuncData
  F_made_of_all : Fun K "made_of_all" "made_of_all" s_made_of_all a_made_of_all d_made_of_all
  b_made_of_all : Binds K d_made_of_all ["tricks", "n"] []
  g_made_of_all : mg "made_of_all" = some (.ref a_made_of_all)
  a_blocks_product : Addr
  d_blocks_product : FuncData
  F_blocks_product : Fun K "blocks_product" "blocks_product" s_blocks_product a_blocks_product d_blocks_product
  b_blocks_product : Binds K d_blocks_product ["tricks"] []
  g_blocks_product : mg "blocks_product" = some (.ref a_blocks_product)
  a_rest_pairs : Addr
  d_rest_pairs : FuncData
  F_rest_pairs : Fun K "rest_pairs" "rest_pairs" s_rest_pairs a_rest_pairs d_rest_pairs
  b_rest_pairs : Binds K d_rest_pairs ["tricks", "d"] []
  g_rest_pairs : mg "rest_pairs" = some (.ref a_rest_pairs)
  a_tells : Addr
  d_tells : FuncData
  F_tells : Fun K "tells" "tells" s_tells a_tells d_tells
  b_tells : Binds K d_tells ["trick", "d"] []
  g_tells : mg "tells" = some (.ref a_tells)
  a_keeps_rest : Addr
  d_keeps_rest : FuncData
  F_keeps_rest : Fun K "keeps_rest" "keeps_rest" s_keeps_rest a_keeps_rest d_keeps_rest
  b_keeps_rest : Binds K d_keeps_rest ["trick", "d"] []
  g_keeps_rest : mg "keeps_rest" = some (.ref a_keeps_rest)
  a_tells_multiples : Addr
  d_tells_multiples : FuncData
  F_tells_multiples : Fun K "tells_multiples" "tells_multiples" s_tells_multiples a_tells_multiples d_tells_multiples
  b_tells_multiples : Binds K d_tells_multiples ["block", "times", "d"] []
  g_tells_multiples : mg "tells_multiples" = some (.ref a_tells_multiples)
  a_front_states : Addr
  d_front_states : FuncData
  F_front_states : Fun K "front_states" "front_states" s_front_states a_front_states d_front_states
  b_front_states : Binds K d_front_states ["base", "labels"] []
  g_front_states : mg "front_states" = some (.ref a_front_states)
  a_front_classes : Addr
  d_front_classes : FuncData
  F_front_classes : Fun K "front_classes" "front_classes" s_front_classes a_front_classes d_front_classes
  b_front_classes : Binds K d_front_classes ["base", "labels"] []
  g_front_classes : mg "front_classes" = some (.ref a_front_classes)
  a_front_word : Addr
  d_front_word : FuncData
  F_front_word : Fun K "front_word" "front_word" s_front_word a_front_word d_front_word
  b_front_word : Binds K d_front_word ["base", "labels", "one", "other"] []
  g_front_word : mg "front_word" = some (.ref a_front_word)
  a_check_labels : Addr
  d_check_labels : FuncData
  F_check_labels : Fun K "check_labels" "check_labels" s_check_labels a_check_labels d_check_labels
  b_check_labels : Binds K d_check_labels ["labels"] []
  g_check_labels : mg "check_labels" = some (.ref a_check_labels)
  a_check_rest : Addr
  d_check_rest : FuncData
  F_check_rest : Fun K "check_rest" "check_rest" s_check_rest a_check_rest d_check_rest
  b_check_rest : Binds K d_check_rest ["rest", "d"] []
  g_check_rest : mg "check_rest" = some (.ref a_check_rest)
  a_front_machine : Addr
  d_front_machine : FuncData
  F_front_machine : Fun K "front_machine" "front_machine" s_front_machine a_front_machine d_front_machine
  b_front_machine : Binds K d_front_machine ["base", "labels"] []
  g_front_machine : mg "front_machine" = some (.ref a_front_machine)
  a_classes : Addr
  d_classes : FuncData
  F_classes : Fun K "classes" "classes" s_classes a_classes d_classes
  b_classes : Binds K d_classes ["machine"] []
  g_classes : mg "classes" = some (.ref a_classes)
  a_numbered : Addr
  d_numbered : FuncData
  F_numbered : Fun K "numbered" "numbered" s_numbered a_numbered d_numbered
  b_numbered : Binds K d_numbered ["things"] []
  g_numbered : mg "numbered" = some (.ref a_numbered)
  a_least_word : Addr
  d_least_word : FuncData
  F_least_word : Fun K "least_word" "least_word" s_least_word a_least_word d_least_word
  b_least_word : Binds K d_least_word ["machine", "one", "other"] []
  g_least_word : mg "least_word" = some (.ref a_least_word)
  a_total : Addr
  d_total : FuncData
  F_total : Fun K "total" "total" s_total a_total d_total
  b_total : Binds K d_total ["told", "n"] []
  g_total : mg "total" = some (.ref a_total)
  a_check_weights : Addr
  d_check_weights : FuncData
  F_check_weights : Fun K "check_weights" "check_weights" s_check_weights a_check_weights d_check_weights
  b_check_weights : Binds K d_check_weights ["told", "fewest"] []
  g_check_weights : mg "check_weights" = some (.ref a_check_weights)
  a_check_sum : Addr
  d_check_sum : FuncData
  F_check_sum : Fun K "check_sum" "check_sum" s_check_sum a_check_sum d_check_sum
  b_check_sum : Binds K d_check_sum ["told"] []
  g_check_sum : mg "check_sum" = some (.ref a_check_sum)
  a_sum_block : Addr
  d_sum_block : FuncData
  F_sum_block : Fun K "sum_block" "sum_block" s_sum_block a_sum_block d_sum_block
  b_sum_block : Binds K d_sum_block ["told"] []
  g_sum_block : mg "sum_block" = some (.ref a_sum_block)
  a_weight_at : Addr
  d_weight_at : FuncData
  F_weight_at : Fun K "weight_at" "weight_at" s_weight_at a_weight_at d_weight_at
  b_weight_at : Binds K d_weight_at ["told", "place"] []
  g_weight_at : mg "weight_at" = some (.ref a_weight_at)
  a_read : Addr
  d_read : FuncData
  F_read : Fun K "read" "read" s_read a_read d_read
  b_read : Binds K d_read ["text"] []
  g_read : mg "read" = some (.ref a_read)
  a_possible_words : Addr
  d_possible_words : FuncData
  F_possible_words : Fun K "possible_words" "possible_words" s_possible_words a_possible_words d_possible_words
  b_possible_words : Binds K d_possible_words [] []
  g_possible_words : mg "possible_words" = some (.ref a_possible_words)
  a_written : Addr
  d_written : FuncData
  F_written : Fun K "written" "written" s_written a_written d_written
  b_written : Binds K d_written ["low", "high"] []
  g_written : mg "written" = some (.ref a_written)
  a_fitting : Addr
  d_fitting : FuncData
  F_fitting : Fun K "fitting" "fitting" s_fitting a_fitting d_fitting
  b_fitting : Binds K d_fitting ["pairs"] []
  g_fitting : mg "fitting" = some (.ref a_fitting)
  a_check_pairs : Addr
  d_check_pairs : FuncData
  F_check_pairs : Fun K "check_pairs" "check_pairs" s_check_pairs a_check_pairs d_check_pairs
  b_check_pairs : Binds K d_check_pairs ["pairs"] []
  g_check_pairs : mg "check_pairs" = some (.ref a_check_pairs)
  a_is_pair : Addr
  d_is_pair : FuncData
  F_is_pair : Fun K "is_pair" "is_pair" s_is_pair a_is_pair d_is_pair
  b_is_pair : Binds K d_is_pair ["told"] []
  g_is_pair : mg "is_pair" = some (.ref a_is_pair)
  a_fitting_times : Addr
  d_fitting_times : FuncData
  F_fitting_times : Fun K "fitting_times" "fitting_times" s_fitting_times a_fitting_times d_fitting_times
  b_fitting_times : Binds K d_fitting_times ["block", "pairs"] []
  g_fitting_times : mg "fitting_times" = some (.ref a_fitting_times)
  a__law_taken : Addr
  d__law_taken : FuncData
  F__law_taken : Fun K "_law_taken" "_law_taken" s__law_taken a__law_taken d__law_taken
  b__law_taken : Binds K d__law_taken ["_law_row", "_law_many"] []
  g__law_taken : mg "_law_taken" = some (.ref a__law_taken)
  a__law_call : Addr
  d__law_call : FuncData
  F__law_call : Fun K "_law_call" "_law_call" s__law_call a__law_call d__law_call
  b__law_call : Binds K d__law_call ["_law_kind"] []
  g__law_call : mg "_law_call" = some (.ref a__law_call)
  a__law_early : Addr
  d__law_early : FuncData
  F__law_early : Fun K "_law_early" "_law_early" s__law_early a__law_early d__law_early
  b__law_early : Binds K d__law_early ["_law_kind", "_law_trick"] []
  g__law_early : mg "_law_early" = some (.ref a__law_early)
  a__law_first : Addr
  d__law_first : FuncData
  F__law_first : Fun K "_law_first" "_law_first" s__law_first a__law_first d__law_first
  b__law_first : Binds K d__law_first ["_law_kind"] []
  g__law_first : mg "_law_first" = some (.ref a__law_first)
  a__law_second : Addr
  d__law_second : FuncData
  F__law_second : Fun K "_law_second" "_law_second" s__law_second a__law_second d__law_second
  b__law_second : Binds K d__law_second ["_law_kind"] []
  g__law_second : mg "_law_second" = some (.ref a__law_second)
  a_law : Addr
  d_law : FuncData
  F_law : Fun K "law" "law" s_law a_law d_law
  b_law : Binds K d_law ["_law_script"] []
  g_law : mg "law" = some (.ref a_law)
  C_Trick : Addr
  cl_Trick : Cls K C_Trick
  g_Trick : mg "Trick" = some (.ref C_Trick)
  kc_Trick : PySem.W.keepIn K (.ref C_Trick) = true
  ins_Trick : ∀ (H : Hp) (a dx : Addr) (fs : List (Str × V)), H a = some (.ins C_Trick dx fs) → TyOf K H (.ref a) (.ref C_Trick)
  ki_Trick_int : PySem.W.kitOne K (.ref C_Trick) (.type "int") = some false
  ki_Trick_bool : PySem.W.kitOne K (.ref C_Trick) (.type "bool") = some false
  ki_Trick_tuple : PySem.W.kitOne K (.ref C_Trick) (.type "tuple") = some false
  ki_Trick_list : PySem.W.kitOne K (.ref C_Trick) (.type "list") = some false
  nf_Trick_tuple : PySem.W.subIn K (.type "tuple") (.ref C_Trick) = some false
  kis_Trick : PySem.W.kitOne K (.ref C_Trick) (.ref C_Trick) = some true
  kin_Trick_int : PySem.W.kitOne K (.type "int") (.ref C_Trick) = some false
  kin_Trick_bool : PySem.W.kitOne K (.type "bool") (.ref C_Trick) = some false
  kin_Trick_tuple : PySem.W.kitOne K (.type "tuple") (.ref C_Trick) = some false
  kin_Trick_list : PySem.W.kitOne K (.type "list") (.ref C_Trick) = some false
  kin_Trick_NoneType : PySem.W.kitOne K (.type "NoneType") (.ref C_Trick) = some false
  kin_Trick_str : PySem.W.kitOne K (.type "str") (.ref C_Trick) = some false
  kin_Trick_dict : PySem.W.kitOne K (.type "dict") (.ref C_Trick) = some false
  na_Trick_base : NoAttr K C_Trick "_base"
  na_Trick_take : NoAttr K C_Trick "_take"
  na_Trick_times : NoAttr K C_Trick "_times"
  a_Trick___init__ : Addr
  d_Trick___init__ : FuncData
  F_Trick___init__ : Fun K "__init__" "Trick.__init__" s_Trick___init__ a_Trick___init__ d_Trick___init__
  b_Trick___init__ : Binds K d_Trick___init__ ["self", "base", "take", "times"] []
  mk_Trick : Mk K C_Trick a_Trick___init__
  a_Trick_base : Addr
  d_Trick_base : FuncData
  F_Trick_base : Fun K "base" "Trick.base" s_Trick_base a_Trick_base d_Trick_base
  b_Trick_base : Binds K d_Trick_base ["self"] []
  q_Trick_base : Addr
  p_Trick_base : PropOf K C_Trick "base" q_Trick_base a_Trick_base
  a_Trick_take : Addr
  d_Trick_take : FuncData
  F_Trick_take : Fun K "take" "Trick.take" s_Trick_take a_Trick_take d_Trick_take
  b_Trick_take : Binds K d_Trick_take ["self"] []
  q_Trick_take : Addr
  p_Trick_take : PropOf K C_Trick "take" q_Trick_take a_Trick_take
  a_Trick_times : Addr
  d_Trick_times : FuncData
  F_Trick_times : Fun K "times" "Trick.times" s_Trick_times a_Trick_times d_Trick_times
  b_Trick_times : Binds K d_Trick_times ["self"] []
  q_Trick_times : Addr
  p_Trick_times : PropOf K C_Trick "times" q_Trick_times a_Trick_times
  a_Trick___eq__ : Addr
  d_Trick___eq__ : FuncData
  F_Trick___eq__ : Fun K "__eq__" "Trick.__eq__" s_Trick___eq__ a_Trick___eq__ d_Trick___eq__
  b_Trick___eq__ : Binds K d_Trick___eq__ ["self", "other"] []
  m_Trick___eq__ : Meth K C_Trick "__eq__" a_Trick___eq__
  C_Sum : Addr
  cl_Sum : Cls K C_Sum
  g_Sum : mg "Sum" = some (.ref C_Sum)
  kc_Sum : PySem.W.keepIn K (.ref C_Sum) = true
  ins_Sum : ∀ (H : Hp) (a dx : Addr) (fs : List (Str × V)), H a = some (.ins C_Sum dx fs) → TyOf K H (.ref a) (.ref C_Sum)
  ki_Sum_int : PySem.W.kitOne K (.ref C_Sum) (.type "int") = some false
  ki_Sum_bool : PySem.W.kitOne K (.ref C_Sum) (.type "bool") = some false
  ki_Sum_tuple : PySem.W.kitOne K (.ref C_Sum) (.type "tuple") = some false
  ki_Sum_list : PySem.W.kitOne K (.ref C_Sum) (.type "list") = some false
  nf_Sum_tuple : PySem.W.subIn K (.type "tuple") (.ref C_Sum) = some false
  kis_Sum : PySem.W.kitOne K (.ref C_Sum) (.ref C_Sum) = some true
  kin_Sum_int : PySem.W.kitOne K (.type "int") (.ref C_Sum) = some false
  kin_Sum_bool : PySem.W.kitOne K (.type "bool") (.ref C_Sum) = some false
  kin_Sum_tuple : PySem.W.kitOne K (.type "tuple") (.ref C_Sum) = some false
  kin_Sum_list : PySem.W.kitOne K (.type "list") (.ref C_Sum) = some false
  kin_Sum_NoneType : PySem.W.kitOne K (.type "NoneType") (.ref C_Sum) = some false
  kin_Sum_str : PySem.W.kitOne K (.type "str") (.ref C_Sum) = some false
  kin_Sum_dict : PySem.W.kitOne K (.type "dict") (.ref C_Sum) = some false
  na_Sum_base : NoAttr K C_Sum "_base"
  na_Sum_first : NoAttr K C_Sum "_first"
  na_Sum_loop : NoAttr K C_Sum "_loop"
  na_Sum_take : NoAttr K C_Sum "_take"
  a_Sum___init__ : Addr
  d_Sum___init__ : FuncData
  F_Sum___init__ : Fun K "__init__" "Sum.__init__" s_Sum___init__ a_Sum___init__ d_Sum___init__
  b_Sum___init__ : Binds K d_Sum___init__ ["self", "base", "take", "first", "loop"] []
  mk_Sum : Mk K C_Sum a_Sum___init__
  a_Sum_base : Addr
  d_Sum_base : FuncData
  F_Sum_base : Fun K "base" "Sum.base" s_Sum_base a_Sum_base d_Sum_base
  b_Sum_base : Binds K d_Sum_base ["self"] []
  q_Sum_base : Addr
  p_Sum_base : PropOf K C_Sum "base" q_Sum_base a_Sum_base
  a_Sum_take : Addr
  d_Sum_take : FuncData
  F_Sum_take : Fun K "take" "Sum.take" s_Sum_take a_Sum_take d_Sum_take
  b_Sum_take : Binds K d_Sum_take ["self"] []
  q_Sum_take : Addr
  p_Sum_take : PropOf K C_Sum "take" q_Sum_take a_Sum_take
  a_Sum_first : Addr
  d_Sum_first : FuncData
  F_Sum_first : Fun K "first" "Sum.first" s_Sum_first a_Sum_first d_Sum_first
  b_Sum_first : Binds K d_Sum_first ["self"] []
  q_Sum_first : Addr
  p_Sum_first : PropOf K C_Sum "first" q_Sum_first a_Sum_first
  a_Sum_loop : Addr
  d_Sum_loop : FuncData
  F_Sum_loop : Fun K "loop" "Sum.loop" s_Sum_loop a_Sum_loop d_Sum_loop
  b_Sum_loop : Binds K d_Sum_loop ["self"] []
  q_Sum_loop : Addr
  p_Sum_loop : PropOf K C_Sum "loop" q_Sum_loop a_Sum_loop
  a_Sum___eq__ : Addr
  d_Sum___eq__ : FuncData
  F_Sum___eq__ : Fun K "__eq__" "Sum.__eq__" s_Sum___eq__ a_Sum___eq__ d_Sum___eq__
  b_Sum___eq__ : Binds K d_Sum___eq__ ["self", "other"] []
  m_Sum___eq__ : Meth K C_Sum "__eq__" a_Sum___eq__
  n_int : mg "int" = none
  n_bool : mg "bool" = none
  n_len : mg "len" = none
  n_range : mg "range" = none
  n_isinstance : mg "isinstance" = none
  n_tuple : mg "tuple" = none
  n_list : mg "list" = none
  n_reversed : mg "reversed" = none
  n_enumerate : mg "enumerate" = none
  n_all : mg "all" = none
  n_min : mg "min" = none
  n_max : mg "max" = none
  n_super : mg "super" = none
  n_str : mg "str" = none
  n_zip : mg "zip" = none
  n_ValueError : mg "ValueError" = none
  a_BadNumber___init__ : Addr
  x_BadNumber : ErrX.ErrTxt P K mg "BadNumber" "n" C_BadNumber a_BadNumber___init__ (ErrX.aeOf s_BadNumber___init__) s_BadNumber___init__
  a_BadFigures___init__ : Addr
  x_BadFigures : ErrX.ErrTxt P K mg "BadFigures" "index" C_BadFigures a_BadFigures___init__ (ErrX.aeOf s_BadFigures___init__) s_BadFigures___init__
  a_BadWeights___init__ : Addr
  x_BadWeights : ErrX.ErrTxt P K mg "BadWeights" "index" C_BadWeights a_BadWeights___init__ (ErrX.aeOf s_BadWeights___init__) s_BadWeights___init__
  a_BadRests___init__ : Addr
  x_BadRests : ErrX.ErrTxt P K mg "BadRests" "index" C_BadRests a_BadRests___init__ (ErrX.aeOf s_BadRests___init__) s_BadRests___init__
  a_BadTricks___init__ : Addr
  x_BadTricks : ErrX.ErrTxt P K mg "BadTricks" "index" C_BadTricks a_BadTricks___init__ (ErrX.aeOf s_BadTricks___init__) s_BadTricks___init__
  a_BadPairs___init__ : Addr
  x_BadPairs : ErrX.ErrTxt P K mg "BadPairs" "index" C_BadPairs a_BadPairs___init__ (ErrX.aeOf s_BadPairs___init__) s_BadPairs___init__
  a_TooWide___init__ : Addr
  x_TooWide : ErrX.ErrTxt P K mg "TooWide" "most" C_TooWide a_TooWide___init__ (ErrX.aeOf s_TooWide___init__) s_TooWide___init__
  a_InvalidText___init__ : Addr
  x_InvalidText : ErrX.ErrTxt P K mg "InvalidText" "word" C_InvalidText a_InvalidText___init__ (ErrX.aeOf s_InvalidText___init__) s_InvalidText___init__
/-! ### the program's own classes (no errors) -/
def OwnT {P : Program} {K : PySem.W.Frag} {mg : Str → Option Value} (T : Tx P K mg) (C : Addr) : Prop := C = T.C_Trick ∨ C = T.C_Sum
theorem OwnT.ty {P : Program} {K : PySem.W.Frag} {mg : Str → Option Value} {T : Tx P K mg} {C : Addr} (t : OwnT T C) {H : Hp} {a dx : Addr} {fs : List (Str × V)} (e : H a = some (.ins C dx fs)) : TyOf K H (.ref a) (.ref C) := by
  rcases t with rfl | rfl
  · exact T.ins_Trick _ _ _ _ e
  · exact T.ins_Sum _ _ _ _ e
theorem OwnT.nint {P : Program} {K : PySem.W.Frag} {mg : Str → Option Value} {T : Tx P K mg} {C : Addr} (t : OwnT T C) : PySem.W.kitOne K (.ref C) (.type "int") = some false := by
  rcases t with rfl | rfl
  · exact T.ki_Trick_int
  · exact T.ki_Sum_int
theorem OwnT.nbool {P : Program} {K : PySem.W.Frag} {mg : Str → Option Value} {T : Tx P K mg} {C : Addr} (t : OwnT T C) : PySem.W.kitOne K (.ref C) (.type "bool") = some false := by
  rcases t with rfl | rfl
  · exact T.ki_Trick_bool
  · exact T.ki_Sum_bool
theorem OwnT.ntuple {P : Program} {K : PySem.W.Frag} {mg : Str → Option Value} {T : Tx P K mg} {C : Addr} (t : OwnT T C) : PySem.W.kitOne K (.ref C) (.type "tuple") = some false := by
  rcases t with rfl | rfl
  · exact T.ki_Trick_tuple
  · exact T.ki_Sum_tuple
theorem OwnT.nlist {P : Program} {K : PySem.W.Frag} {mg : Str → Option Value} {T : Tx P K mg} {C : Addr} (t : OwnT T C) : PySem.W.kitOne K (.ref C) (.type "list") = some false := by
  rcases t with rfl | rfl
  · exact T.ki_Trick_list
  · exact T.ki_Sum_list
theorem ar_BadNumber {P : Program} {w : World} : ∀ (v : V) (u : Value), True → RelV v u → ErrX.ArgOk P w (ErrX.aeOf s_BadNumber___init__) "n" u := fun _ _ _ _ => ErrX.argOk_const rfl
theorem ar_BadFigures {P : Program} {w : World} : ∀ (v : V) (u : Value), ErrX.NoneInt v → RelV v u → ErrX.ArgOk P w (ErrX.aeOf s_BadFigures___init__) "index" u := fun _ _ n r => ErrX.argOk_f n r
theorem ar_BadWeights {P : Program} {w : World} : ∀ (v : V) (u : Value), ErrX.NoneInt v → RelV v u → ErrX.ArgOk P w (ErrX.aeOf s_BadWeights___init__) "index" u := fun _ _ n r => ErrX.argOk_f n r
theorem ar_BadRests {P : Program} {w : World} : ∀ (v : V) (u : Value), ErrX.NoneInt v → RelV v u → ErrX.ArgOk P w (ErrX.aeOf s_BadRests___init__) "index" u := fun _ _ n r => ErrX.argOk_f n r
theorem ar_BadTricks {P : Program} {w : World} : ∀ (v : V) (u : Value), ErrX.NoneInt v → RelV v u → ErrX.ArgOk P w (ErrX.aeOf s_BadTricks___init__) "index" u := fun _ _ n r => ErrX.argOk_f n r
theorem ar_BadPairs {P : Program} {w : World} : ∀ (v : V) (u : Value), ErrX.NoneInt v → RelV v u → ErrX.ArgOk P w (ErrX.aeOf s_BadPairs___init__) "index" u := fun _ _ n r => ErrX.argOk_f n r
theorem ar_TooWide {P : Program} {w : World} : ∀ (v : V) (u : Value), ErrX.NoneInt v → RelV v u → ErrX.ArgOk P w (ErrX.aeOf s_TooWide___init__) "most" u := fun _ _ n r => ErrX.argOk_f n r
theorem ar_InvalidText {P : Program} {w : World} : ∀ (v : V) (u : Value), ErrX.NoneInt v → RelV v u → ErrX.ArgOk P w (ErrX.aeOf s_InvalidText___init__) "word" u := fun _ _ n r => ErrX.argOk_f n r
section
variable {P : Program} {w : World} {K : PySem.W.Frag} {mg : Str → Option Value} {base : Heap}
/-! ### heaps -/
/-- all but what stands at r is as it was -/
def But (r : Addr) (H H' : Hp) : Prop := ∀ b o, H b = some o → b ≠ r → H' b = some o
theorem But.refl (r : Addr) (H : Hp) : But r H H := fun _ _ e _ => e
theorem But.trans {r : Addr} {H H1 H2 : Hp} (a : But r H H1) (b : But r H1 H2) : But r H H2 := fun c o e n => b c o (a c o e n) n
theorem Same.but {r : Addr} {H H' : Hp} (a : Same H H') : But r H H' := fun c o e _ => a c o e
theorem But.put {r : Addr} {H : Hp} {o : HO} : But r H (upd H r o) := fun b _ e n => by rw [upd_ne n]; exact e
theorem But.seq {K : PySem.W.Frag} {r a : Addr} {H H' : Hp} {xs : List V} (e : But r H H') (n : a ≠ r) (h : SqL K H a xs) : SqL K H' a xs := by
  rcases h with (h | ⟨o, h⟩) | h
  · exact .inl (.inl (e _ _ h n))
  · exact .inl (.inr ⟨o, e _ _ h n⟩)
  · exact .inr h
theorem same_upd {H : Hp} {p : Addr} {o : HO} (h : H p = none) : Same H (upd H p o) := fun b x e => by
  rw [upd_ne (ne_of_none e h)]
  exact e
/-- any value of the document's point 1 -/
inductive AnyV (T : Addr → Prop) (H : Hp) : V → Prop where
  | non : AnyV T H .non
  | bl (b : Bool) : AnyV T H (.bl b)
  | int (i : Int) : AnyV T H (.int i)
  | str (x : Str) : AnyV T H (.str x)
  | lst {a : Addr} {xs : List V} (e : H a = some (.lst xs)) : AnyV T H (.ref a)
  | tup {a : Addr} {xs : List V} (e : H a = some (.tup xs)) : AnyV T H (.ref a)
  | dct {a : Addr} {kvs : List (Key × V)} (e : H a = some (.dK kvs)) : AnyV T H (.ref a)
  | ins {a C dx : Addr} {fs : List (Str × V)} (t : T C) (e : H a = some (.ins C dx fs)) : AnyV T H (.ref a)
/-- it is an integer from lo to hi -/
def intIn (x : V) (lo hi : Int) : Bool := match x with | .int i => decide (lo ≤ i) && decide (i ≤ hi) | _ => false
theorem intIn_of {i lo hi : Int} (h1 : lo ≤ i) (h2 : i ≤ hi) : intIn (.int i) lo hi = true := by
  show (decide (lo ≤ i) && decide (i ≤ hi)) = true
  rw [decide_eq_true h1, decide_eq_true h2]
  all_goals rfl
theorem small5 {n : Nat} (h : n ≤ 100000) : n < sizeLine := Nat.lt_of_le_of_lt h (by decide)
theorem dec_i (i j : Int) : decide (V.int i = V.int j) = decide (i = j) := by
  rw [Bool.eq_iff_iff]
  simp
theorem AnyV.mono {T : Addr → Prop} {H H' : Hp} {v : V} (a : AnyV T H v) (s : Same H H') : AnyV T H' v := by
  cases a with
  | non => exact .non
  | bl b => exact .bl b
  | int i => exact .int i
  | str x => exact .str x
  | lst e => exact .lst (s _ _ e)
  | tup e => exact .tup (s _ _ e)
  | dct e => exact .dct (s _ _ e)
  | ins t e => exact .ins t (s _ _ e)
theorem intIn_int' {x : V} {lo hi : Int} (h : intIn x lo hi = true) : ∃ i, x = .int i ∧ lo ≤ i ∧ i ≤ hi := by
  cases x with
  | int i =>
    have h2 : (decide (lo ≤ i) && decide (i ≤ hi)) = true := h
    rw [Bool.and_eq_true, decide_eq_true_iff, decide_eq_true_iff] at h2
    exact ⟨i, rfl, h2⟩
  | _ => cases h

/-! ### lists of ints -/
theorem dpAll_ints {H : Hp} : ∀ ns : List Int, DpAll K H (ns.map V.int) (ns.map PyData.int)
  | [] => .nil
  | n :: ns => .cons (.int n) (dpAll_ints ns)
theorem dp_ints {H : Hp} {a : Addr} {ns : List Int} (h : SqL K H a (ns.map V.int)) : Dp K H (.ref a) (.list (ns.map PyData.int)) := .lst h (dpAll_ints ns)
theorem dp_tints {H : Hp} {a : Addr} {ns : List Int} (h : SqT K H a (ns.map V.int)) : Dp K H (.ref a) (.tuple (ns.map PyData.int)) := .tup h (dpAll_ints ns)
theorem eqvAll_ints : ∀ ns ms : List Int, PyData.eqvAll (ns.map PyData.int) (ms.map PyData.int) = decide (ns = ms)
  | [], [] => rfl
  | [], _ :: _ => rfl
  | _ :: _, [] => rfl
  | n :: ns, m :: ms => by
    show (PyData.eqv (.int n) (.int m) && PyData.eqvAll (ns.map PyData.int) (ms.map PyData.int)) = _
    rw [eqvAll_ints ns ms]
    show ((n == m) && decide (ns = ms)) = _
    by_cases h1 : n = m
    · by_cases h2 : ns = ms
      · simp [h1, h2]
      · simp [h1, h2]
    · simp [h1]
theorem eqv_ints (ns ms : List Int) : PyData.eqv (.list (ns.map PyData.int)) (.list (ms.map PyData.int)) = decide (ns = ms) := eqvAll_ints ns ms
theorem eqv_tints (ns ms : List Int) : PyData.eqv (.tuple (ns.map PyData.int)) (.tuple (ms.map PyData.int)) = decide (ns = ms) := eqvAll_ints ns ms
theorem shaped_lints (ns : List Int) : SeqAt.shaped (.list (ns.map PyData.int)) = true := PySem.W.shaped_ints ns
/-- an item of a written list at a drawn place -/
theorem at_some (Pr : Int → Prop) {ns : List Int} (h : ∀ z ∈ ns, Pr z) {i : Int} (h0 : 0 ≤ i) (h1 : i < ns.length) : ∃ z, Pr z ∧ atI (ns.map V.int) i = some (V.int z) := by
  obtain ⟨z, hz⟩ : ∃ z, ns[i.toNat]? = some z := ⟨ns[i.toNat]'(by omega), List.getElem?_eq_getElem (by omega)⟩
  refine ⟨z, h z (List.mem_of_getElem? hz), at_of (j := i.toNat) (by omega) (by rw [List.getElem?_map, hz]; rfl)⟩
theorem sorted_ext {l m : List Int} (p : l.Perm m) (h1 : l.Pairwise (· ≤ ·)) (h2 : m.Pairwise (· ≤ ·)) : l = m :=
  p.eq_of_pairwise (fun a b _ _ x y => Int.le_antisymm x y) h1 h2
/-- reading an item within a comprehension: the written part said aloud -/
theorem ix_lK {X : Cx} (h : X.K = K) : IxR X (rIxL K) := by
  subst h
  exact ix_list
/-- the same of a tuple -/
theorem ix_tK {X : Cx} (h : X.K = K) : IxR X (rIxT K) := by
  subst h
  exact ix_tup
/-- name op= e, by the operation in place -/
theorem ip_op {X : Cx} {op : Operator} {r : R2} (ho : OpR X (inplaceOp op) r) : PIp X op r := fun pins s σ H x y v u Q I r1 r2 h => ho pins s σ H x y v u Q I r1 r2 h

/-! ### what is shallow enough to be compared -/
theorem lays_map {α : Type} (f : α → PyData) (k : Nat) (h : ∀ x, PyData.canLay0 (f x) = true ∧ PyData.depth (f x) ≤ k) : ∀ l : List α, PyData.canLayAll0 (l.map f) = true ∧ PyData.depthAll (l.map f) ≤ k
  | [] => ⟨by simp [PyData.canLayAll0], by simp [PyData.depthAll]⟩
  | x :: l => by
    have h1 := lays_map f k h l
    have h2 := h x
    refine ⟨by simp [PyData.canLayAll0, h1.1, h2.1], ?_⟩
    simp only [List.map_cons, PyData.depthAll]
    omega
theorem shaped_of {ds : List PyData} {k : Nat} (h : PyData.canLayAll0 ds = true ∧ PyData.depthAll ds ≤ k) (hk : k ≤ 60) : SeqAt.shaped (.list ds) = true ∧ SeqAt.shaped (.tuple ds) = true := by
  have e1 : PyData.depth (.list ds) ≤ 64 := by simp only [PyData.depth]; omega
  have e2 : PyData.depth (.tuple ds) ≤ 64 := by simp only [PyData.depth]; omega
  refine ⟨?_, ?_⟩
  · show (PyData.canLay0 (.list ds) && decide (PyData.depth (.list ds) ≤ 64)) = true
    rw [Bool.and_eq_true]
    exact ⟨by simp only [PyData.canLay0]; exact h.1, decide_eq_true e1⟩
  · show (PyData.canLay0 (.tuple ds) && decide (PyData.depth (.tuple ds) ≤ 64)) = true
    rw [Bool.and_eq_true]
    exact ⟨by simp only [PyData.canLay0]; exact h.1, decide_eq_true e2⟩
theorem lay_int (i : Int) : PyData.canLay0 (.int i) = true ∧ PyData.depth (.int i) ≤ 1 := ⟨by simp [PyData.canLay0], by simp [PyData.depth]⟩
theorem shaped_tints (ns : List Int) : SeqAt.shaped (.tuple (ns.map PyData.int)) = true := (shaped_of (lays_map PyData.int 1 lay_int ns) (by decide)).2

/-! ### what is wished for less is met, too -/
def TEMono (t : TE) : Prop := ∀ (σ : L2.St) (H : Hp) (Q Q' : VK), (∀ v H1, Q v H1 → Q' v H1) → t σ H Q → t σ H Q'
def TAMono (t : TA) : Prop := ∀ (σ : L2.St) (H : Hp) (Q Q' : List V → Hp → Prop), (∀ v H1, Q v H1 → Q' v H1) → t σ H Q → t σ H Q'
def TTMono (t : TT) : Prop := ∀ (σ : L2.St) (H : Hp) (Q Q' : Bool → Hp → Prop), (∀ b H1, Q b H1 → Q' b H1) → t σ H Q → t σ H Q'
def R2Mono (r : R2) : Prop := ∀ (x y : V) (H : Hp) (Q Q' : VK), (∀ v H1, Q v H1 → Q' v H1) → r x y H Q → r x y H Q'
theorem m_var {i : Nat} : TEMono (tVar i) := fun _ _ _ _ h ⟨v, e, z⟩ => ⟨v, e, h _ _ z⟩
theorem m_c {v : V} : TEMono (tC v) := fun _ _ _ _ h z => h _ _ z
theorem m_op {r : R2} {a b : TE} (hr : R2Mono r) (ha : TEMono a) (hb : TEMono b) : TEMono (tOp r a b) := fun σ H Q Q' h z => ha σ H _ _ (fun x H1 q => hb σ H1 _ _ (fun y H2 q2 => hr x y H2 _ _ h q2) q) z
theorem m_nil : TAMono tNil := fun _ _ _ _ h z => h _ _ z
theorem m_cons {t : TE} {u : TA} (ht : TEMono t) (hu : TAMono u) : TAMono (tCons t u) := fun σ H Q Q' h z => ht σ H _ _ (fun x H1 q => hu σ H1 _ _ (fun xs H2 q2 => h _ _ q2) q) z
theorem m_test {t : TE} (ht : TEMono t) : TTMono (tTest t) := fun σ H Q Q' h z => ht σ H _ _ (fun x H1 ⟨k, e, q⟩ => ⟨k, e, h _ _ q⟩) z
theorem m_and {t u : TT} (ht : TTMono t) (hu : TTMono u) : TTMono (tAnd t u) := fun σ H Q Q' h z => ht σ H _ _ (fun c H1 q => by
  cases c with
  | true => exact hu σ H1 _ _ h q
  | false => exact h _ _ q) z
theorem m_rI {C : Int → Int → Prop} {g : Int → Int → V} : R2Mono (rI C g) := fun _ _ _ _ _ h ⟨i, j, e1, e2, c, q⟩ => ⟨i, j, e1, e2, c, h _ _ q⟩
theorem m_rI0 {g : Int → Int → V} : R2Mono (rI0 g) := fun _ _ _ _ _ h ⟨i, j, e1, e2, q⟩ => ⟨i, j, e1, e2, h _ _ q⟩
theorem m_rEq : R2Mono rEq := fun _ _ _ _ _ h ⟨e, q⟩ => ⟨e, h _ _ q⟩
theorem m_rNe : R2Mono rNe := fun _ _ _ _ _ h ⟨e, q⟩ => ⟨e, h _ _ q⟩
theorem m_rIn {n : Bool} : R2Mono (rIn K n) := fun _ _ _ _ _ h ⟨p, xs, e, s, f, a, q⟩ => ⟨p, xs, e, s, f, a, h _ _ q⟩
theorem m_len {i : Nat} : TEMono (tCB (fun xs H Q => ∃ p ys, xs = [V.ref p] ∧ (SqL K H p ys ∨ SqT K H p ys) ∧ Q (.int (ys.length : Int)) H) (tCons (tVar i) tNil)) := fun _ _ _ _ h ⟨v, e, p, ys, e1, e2, q⟩ => ⟨v, e, p, ys, e1, e2, h _ _ q⟩
/-! ### what is never reached -/
def tNev : TS := fun _ _ _ => False
theorem pss_nev {X : Cx} {sts : List Stmt} : PSs X sts tNev := ⟨fun _ _ _ _ _ _ h => h.elim⟩

/-! ### is_integer, and the checks -/
def spIsInt (T : Tx P K mg) : Sp := fun vs H Q _ => ∃ (x : V) (lo hi : Int), vs = [x, .int lo, .int hi] ∧ AnyV (OwnT T) H x ∧ Q (.bl (intIn x lo hi)) H
theorem isi_int (T : Tx P K mg) {H : Hp} {x : V} (a : AnyV (OwnT T) H x) : ∃ t, TyX K H x t ∧ (∃ b, PySem.W.kitOne K t (.type "int") = some b ∧ (b = false → ∀ lo hi, intIn x lo hi = false) ∧ ∃ c, PySem.W.kitOne K t (.type "bool") = some c ∧ (c = true → ∀ lo hi, intIn x lo hi = false) ∧ (b = true → c = false → ∃ i, x = .int i)) := by
  cases a with
  | non => exact ⟨_, .base .non, false, kit_ty (by decide +kernel), fun _ _ _ => rfl, false, kit_ty (by decide +kernel), fun _ _ _ => rfl, fun z => nomatch z⟩
  | bl b => exact ⟨_, .base (.bl b), true, kit_ty (by decide +kernel), fun _ _ _ => rfl, true, kit_ty (by decide +kernel), fun _ _ _ => rfl, fun _ z => nomatch z⟩
  | int i => exact ⟨.type "int", .base (.int i), true, kit_ty (by decide +kernel), fun z => Bool.noConfusion z, false, kit_ty (by decide +kernel), fun z => Bool.noConfusion z, fun _ _ => ⟨i, rfl⟩⟩
  | str x => exact ⟨_, .base (.str x), false, kit_ty (by decide +kernel), fun _ _ _ => rfl, false, kit_ty (by decide +kernel), fun _ _ _ => rfl, fun z => nomatch z⟩
  | lst e => exact ⟨_, .base (.lst e), false, kit_ty (by decide +kernel), fun _ _ _ => rfl, false, kit_ty (by decide +kernel), fun _ _ _ => rfl, fun z => nomatch z⟩
  | tup e => exact ⟨_, .base (.tup e), false, kit_ty (by decide +kernel), fun _ _ _ => rfl, false, kit_ty (by decide +kernel), fun _ _ _ => rfl, fun z => nomatch z⟩
  | dct e => exact ⟨_, .base (.dK e), false, kit_ty (by decide +kernel), fun _ _ _ => rfl, false, kit_ty (by decide +kernel), fun _ _ _ => rfl, fun z => nomatch z⟩
  | ins t e => exact ⟨_, .base (t.ty e), false, t.nint, fun _ _ _ => rfl, false, t.nbool, fun _ _ _ => rfl, fun z => nomatch z⟩
theorem ok_is_integer (T : Tx P K mg) : FnOk P w K mg base CX0 lv_is_integer T.a_is_integer T.d_is_integer ["told", "low", "high"] (spIsInt T) := by
  refine T.F_is_integer.ok sc_is_integer (fun vs H Q E h => ?_) (fun cdv A outer s H vs Q E hr h => ?_)
  · obtain ⟨x, lo, hi, rfl, _⟩ := h
    rfl
  · obtain ⟨x, lo, hi, rfl, a, k⟩ := h
    refine ⟨_, (pss_one (ps_ret (pe_and (pe_callB call_isi (by rfl) T.n_isinstance (by decide +kernel) (pa_cons (pv 0) (pa_cons (pe_bltn (v := .ty "int") rfl T.n_int (by decide +kernel) rfl) pa_nil))) (pe_and (pe_not (pe_callB call_isi (by rfl) T.n_isinstance (by decide +kernel) (pa_cons (pv 0) (pa_cons (pe_bltn (v := .ty "bool") rfl T.n_bool (by decide +kernel) rfl) pa_nil)))) (pe_one (pe_chain op_le op_le (pv 1) (pv 0) (pv 2))))))), ?_⟩
    obtain ⟨t, ty, b, e1, h1, c, e2, h2, h3⟩ := isi_int T a
    refine ⟨_, rfl, _, _, _, _, b, rfl, .ty _, ty, e1, b, rfl, ?_⟩
    cases b with
    | false => exact iteF (by rw [h1 rfl lo hi] at k; exact k)
    | true =>
      refine iteT ?_
      refine ⟨_, rfl, _, _, _, _, c, rfl, .ty _, ty, e2, c, rfl, _, rfl, ?_⟩
      cases c with
      | true => exact iteF (by rw [h2 rfl lo hi] at k; exact k)
      | false =>
        refine iteT ?_
        obtain ⟨i, rfl⟩ := h3 rfl rfl
        refine ⟨_, rfl, _, rfl, _, _, rfl, rfl, _, rfl, ?_⟩
        have ke : Q (V.bl (decide (lo ≤ i) && decide (i ≤ hi))) H := k
        refine ite2 (fun c1 => ?_) (fun c1 => ?_)
        · rw [c1] at ke
          exact ⟨_, rfl, _, _, rfl, rfl, ke⟩
        · rw [show decide (lo ≤ i) = false from by simpa using c1] at ke
          exact ke
/-- base, take and the like: a value in the range, or the error of the class C -/
def spChk (T : Tx P K mg) (C : Addr) (lo hi : Int) : Sp := fun vs H Q E => ∃ x : V, vs = [x] ∧ AnyV (OwnT T) H x ∧ (intIn x lo hi = true → Q .non H) ∧ (intIn x lo hi = false → E (.ref C) none H)

/-! ### is_number -/
def spIsNum (T : Tx P K mg) : Sp := fun vs H Q _ => ∃ x : V, vs = [x] ∧ AnyV (OwnT T) H x ∧ Q (.bl (intIn x (-(10 ^ 40)) (10 ^ 40))) H
theorem ok_is_number (T : Tx P K mg) : FnOk P w K mg base CX0 lv_is_number T.a_is_number T.d_is_number ["told"] (spIsNum T) := by
  refine T.F_is_number.ok sc_is_number (fun vs H Q E h => ?_) (fun cdv A outer s H vs Q E hr h => ?_)
  · obtain ⟨x, rfl, _⟩ := h
    rfl
  · obtain ⟨x, rfl, a, k⟩ := h
    refine ⟨_, (pss_one (ps_ret (pe_call (ok_is_integer T) (hr.mono (by decide)) rfl T.g_is_integer T.F_is_integer.kp T.b_is_integer .nil pass0 (pa_cons (pv 0) (pa_cons (pe_un un_neg (pe_glob (v := .int 10000000000000000000000000000000000000000) rfl T.c_GREATEST_NUMBER ⟨_, rfl⟩)) (pa_cons (pe_glob (v := .int 10000000000000000000000000000000000000000) rfl T.c_GREATEST_NUMBER ⟨_, rfl⟩) pa_nil)))))), ?_⟩
    exact ⟨_, rfl, _, rfl, x, _, _, rfl, a, k⟩

theorem ok_check_base (T : Tx P K mg) : FnOk P w K mg base (L2.CX P w) lv_check_base T.a_check_base T.d_check_base ["base"] (spChk T T.C_BadBase 2 16) := by
  refine T.F_check_base.okX sc_check_base (fun vs H Q E h => ?_) (fun cdv A outer s H vs Q E hr h => ?_)
  · obtain ⟨x, rfl, _⟩ := h
    rfl
  · obtain ⟨x, rfl, a, k1, k2⟩ := h
    refine ⟨_, (pss_one (ps_if (pt_not (pt_val (pe_call (ok_is_integer T) (hr.mono (by decide)) rfl T.g_is_integer T.F_is_integer.kp T.b_is_integer .nil pass0 (pa_cons (pv 0) (pa_cons (pe_glob (v := .int 2) rfl T.c_LEAST_BASE ⟨_, rfl⟩) (pa_cons (pe_glob (v := .int 16) rfl T.c_GREATEST_BASE ⟨_, rfl⟩) pa_nil)))))) (pss_one (ps_raise rfl (takes_of rfl rfl rfl rfl) (pmk_own PySem.F.excBase_ValueError T.x_BadBase T.g_BadBase T.k_BadBase (raises_own T.s_BadBase T.t_BadBase) rfl))) pss_nil)), ?_⟩
    refine ⟨_, rfl, _, _, _, rfl, a, _, rfl, ?_⟩
    cases e : intIn x 2 16 with
    | true => exact iteF (k1 e)
    | false => exact iteT (k2 e)

theorem ok_check_take (T : Tx P K mg) : FnOk P w K mg base (L2.CX P w) lv_check_take T.a_check_take T.d_check_take ["take"] (spChk T T.C_BadTake 1 2) := by
  refine T.F_check_take.okX sc_check_take (fun vs H Q E h => ?_) (fun cdv A outer s H vs Q E hr h => ?_)
  · obtain ⟨x, rfl, _⟩ := h
    rfl
  · obtain ⟨x, rfl, a, k1, k2⟩ := h
    refine ⟨_, (pss_one (ps_if (pt_not (pt_val (pe_call (ok_is_integer T) (hr.mono (by decide)) rfl T.g_is_integer T.F_is_integer.kp T.b_is_integer .nil pass0 (pa_cons (pv 0) (pa_cons pe_int (pa_cons (pe_glob (v := .int 2) rfl T.c_GREATEST_TAKE ⟨_, rfl⟩) pa_nil)))))) (pss_one (ps_raise rfl (takes_of rfl rfl rfl rfl) (pmk_own PySem.F.excBase_ValueError T.x_BadTake T.g_BadTake T.k_BadTake (raises_own T.s_BadTake T.t_BadTake) rfl))) pss_nil)), ?_⟩
    refine ⟨_, rfl, _, _, _, rfl, a, _, rfl, ?_⟩
    cases e : intIn x 1 2 with
    | true => exact iteF (k1 e)
    | false => exact iteT (k2 e)

/-! ### divisors up to a greatest one -/
def spDivisor (T : Tx P K mg) : Sp := fun vs H Q E => ∃ (x : V) (g : Int), vs = [x, .int g] ∧ 1 ≤ g ∧ g ≤ 100 ∧ AnyV (OwnT T) H x ∧ (intIn x 1 g = true → Q .non H) ∧ (intIn x 1 g = false → E (.ref T.C_BadDivisor) none H)
theorem ok_check_divisor (T : Tx P K mg) : FnOk P w K mg base (L2.CX P w) lv_check_divisor T.a_check_divisor T.d_check_divisor ["d", "greatest"] (spDivisor T) := by
  refine FunD.ok T.F_check_divisor sc_check_divisor (fun vs H Q E h => ?_) (fun cdv A outer s H vs Q E hr h => ?_)
  · obtain ⟨x, g, rfl, _⟩ := h
    rfl
  · obtain ⟨x, g, rfl, g1, g2, a, k1, k2⟩ := h
    refine ⟨_, (pss_one (ps_if (pt_not (pt_val (pe_call (ok_is_integer T) (hr.mono (by decide)) rfl T.g_is_integer T.F_is_integer.kp T.b_is_integer .nil pass0 (pa_cons (pv 0) (pa_cons pe_int (pa_cons (pv 1) pa_nil)))))) (pss_one (ps_raise rfl (takes_of rfl rfl rfl rfl) (SkE.pmk_own1 PySem.F.excBase_ValueError T.x_BadDivisor T.g_BadDivisor T.k_BadDivisor (raises_own T.s_BadDivisor T.t_BadDivisor) rfl (pe_joined (PJ.cons pe_str (PJ.cons (pe_fmt (pv 1)) PJ.nil)))))) pss_nil)), ?_⟩
    refine ⟨_, rfl, _, rfl, _, _, _, rfl, a, _, rfl, ?_⟩
    cases e : intIn x 1 g with
    | true => exact iteF (k1 e)
    | false =>
      have sm : g.natAbs.log2 < 1920 := Nat.lt_of_le_of_lt (Nat.log2_le_self _) (by omega)
      refine iteT ⟨_, rfl, (by rw [Str.length_append, sizeLine_eq]; exact Nat.le_trans (Nat.add_le_add (Nat.zero_le 0) (show ("no integer from 1 to " : Str).length ≤ 21 by decide)) (by decide)), _, rfl, .inr ⟨g, rfl, sm, _, rfl, ?_, k2 e⟩⟩
      rw [Str.length_append, Str.length_append, sizeLine_eq]
      have e0 := int_text_length_le (k := 1920) (by decide) sm
      have e2 : (Str.ofString (toString g)).length = (toString g).length := PySem.ofString_length _
      have e3 : ("no integer from 1 to " : Str).length ≤ 21 := by decide
      have e4 : Str.empty.length = 0 := rfl
      have e5 : ((toString g : Str)).length = (Str.ofString (toString g)).length := rfl
      omega

/-! ### numbers, or the error -/
def spNumberX (T : Tx P K mg) : Sp := fun vs H Q E => ∃ x : V, vs = [x] ∧ AnyV (OwnT T) H x ∧ (intIn x (-(10 ^ 40)) (10 ^ 40) = true → Q .non H) ∧ (intIn x (-(10 ^ 40)) (10 ^ 40) = false → ∀ d, H d = none → E (.ref T.C_BadNumber) (some d) (upd H d (.xd [(("n" : Str), x)])))
theorem ok_check_number (T : Tx P K mg) : FnOk P w K mg base (L2.CX P w) lv_check_number T.a_check_number T.d_check_number ["n"] (spNumberX T) := by
  refine T.F_check_number.okX sc_check_number (fun vs H Q E h => ?_) (fun cdv A outer s H vs Q E hr h => ?_)
  · obtain ⟨x, rfl, _⟩ := h
    rfl
  · obtain ⟨x, rfl, a, k1, k2⟩ := h
    refine ⟨_, (pss_one (ps_if (pt_not (pt_val (pe_call (ok_is_number T) (hr.mono (by decide)) rfl T.g_is_number T.F_is_number.kp T.b_is_number .nil pass0 (pa_cons (pv 0) pa_nil)))) (pss_one (ps_raiseF T.x_BadNumber ar_BadNumber rfl hr (takes_of rfl rfl rfl rfl) (pa_cons (pv 0) pa_nil))) pss_nil)), ?_⟩
    refine ⟨_, rfl, x, rfl, a, _, rfl, ?_⟩
    cases e : intIn x (-(10 ^ 40)) (10 ^ 40) with
    | true => exact iteF (k1 e)
    | false => exact iteT ⟨_, rfl, _, rfl, trivial, fun d hd => k2 e d hd⟩

/-! ### numbers in a stretch, or the error -/
def spStretchX (T : Tx P K mg) : Sp := fun vs H Q E => ∃ (x : V) (lo hi : Int), vs = [x, .int lo, .int hi] ∧ AnyV (OwnT T) H x ∧ (intIn x lo hi = true → Q .non H) ∧ (intIn x lo hi = false → ∀ d, H d = none → E (.ref T.C_BadNumber) (some d) (upd H d (.xd [(("n" : Str), x)])))
theorem ok_check_stretch (T : Tx P K mg) : FnOk P w K mg base (L2.CX P w) lv_check_stretch T.a_check_stretch T.d_check_stretch ["n", "low", "high"] (spStretchX T) := by
  refine T.F_check_stretch.okX sc_check_stretch (fun vs H Q E h => ?_) (fun cdv A outer s H vs Q E hr h => ?_)
  · obtain ⟨x, lo, hi, rfl, _⟩ := h
    rfl
  · obtain ⟨x, lo, hi, rfl, a, k1, k2⟩ := h
    refine ⟨_, (pss_one (ps_if (pt_not (pt_val (pe_call (ok_is_integer T) (hr.mono (by decide)) rfl T.g_is_integer T.F_is_integer.kp T.b_is_integer .nil pass0 (pa_cons (pv 0) (pa_cons (pv 1) (pa_cons (pv 2) pa_nil)))))) (pss_one (ps_raiseF T.x_BadNumber ar_BadNumber rfl hr (takes_of rfl rfl rfl rfl) (pa_cons (pv 0) pa_nil))) pss_nil)), ?_⟩
    refine ⟨_, rfl, _, rfl, _, rfl, _, _, _, rfl, a, _, rfl, ?_⟩
    cases e : intIn x lo hi with
    | true => exact iteF (k1 e)
    | false => exact iteT ⟨_, rfl, _, rfl, trivial, fun d hd => k2 e d hd⟩

/-! ### a call of what an expression gives: one def of a family -/
structure HeldX (P : Program) (w : World) (K : PySem.W.Frag) (mg : Str → Option Value) (base : Heap) (CX : CXT) (k : Nat) (f : Addr) (sp : Sp) : Prop where
  ex : ∃ (k2 : Nat) (fd : FuncData) (ps : List Str), k2 ≤ k ∧ FnOk P w K mg base CX k2 f fd ps sp ∧ PySem.W.keepIn K (.ref f) = true ∧ Binds K fd ps []
def tCallE (te : TE) (fam : Addr → Sp → Prop) (E : XK) (t : TA) : TE := fun σ H Q => te σ H fun x H0 => ∃ f sp, x = .ref f ∧ fam f sp ∧ t σ H0 fun vs H1 => sp vs H1 Q E
theorem pe_callE {X : Cx} {CX : CXT} {k : Nat} {fam : Addr → Sp → Prop} {E : XK} {e0 : PySem.Expr} {te : TE} {e : PySem.Expr} {es : List PySem.Expr} {t : TA} {pos : Pos} (A : ∀ f sp, fam f sp → HeldX X.prog X.w X.K X.mg X.base CX k f sp) (hr : Room k X.A) (h0 : PE X e0 te) (hx : Passes CX X E) (ha : PA X (e :: es) t)
    (hev : eval (.Call e0 (e :: es) [] pos) X.env = (do callWith pos (← eval e0 X.env) [] (backTo pos (starEach (e :: es) X.env)) []) := by rfl)
    (he : starEach (e :: es) X.env = (false, eval e X.env) :: starEach es X.env := by rfl) (hpl : (backTo pos (starEach es X.env)).any (·.1) = false := by rfl) : PE X (.Call e0 (e :: es) [] pos) (tCallE te fam E t) := by
  refine ⟨fun pins s σ H Q I h => ?_⟩
  rw [hev]
  refine wpAny_bind (thn (h0.run pins s σ H _ I h) fun u s1 hh => ?_)
  obtain ⟨x, H1, I1, r1, f, sp, rfl, hf, ht⟩ := hh
  obtain rfl : u = Value.ref f := r1
  obtain ⟨k2, fd, ps, lk, F, hk, hb⟩ := (A f sp hf).ex
  refine PySem.W.callWith_K (h₀ := X.base) I.ok.mod.kin hk (thn (ha.run pos pins s1 σ _ _ I1 ht) fun us s2 ⟨vs, H2, I2, r, q⟩ => ⟨I2.kIn, ?_⟩) he hpl
  exact run_fn F (hr.mono lk) hb .nil hx I2 r (by rw [List.append_nil]; exact q)
/-- the same, where what it lets out may speak of the slots -/
def tCallES (te : TE) (fam : Addr → Sp → Prop) (E : L2.St → XK) (t : TA) : TE := fun σ H Q => te σ H fun x H0 => ∃ f sp, x = .ref f ∧ fam f sp ∧ t σ H0 fun vs H1 => sp vs H1 Q (E σ)
theorem pe_callES {X : Cx} {CX : CXT} {k : Nat} {fam : Addr → Sp → Prop} {E : L2.St → XK} {e0 : PySem.Expr} {te : TE} {e : PySem.Expr} {es : List PySem.Expr} {t : TA} {pos : Pos} (A : ∀ f sp, fam f sp → HeldX X.prog X.w X.K X.mg X.base CX k f sp) (hr : Room k X.A) (h0 : PE X e0 te) (hx : ∀ σ, PassesAt CX X σ (E σ)) (ha : PA X (e :: es) t)
    (hev : eval (.Call e0 (e :: es) [] pos) X.env = (do callWith pos (← eval e0 X.env) [] (backTo pos (starEach (e :: es) X.env)) []) := by rfl)
    (he : starEach (e :: es) X.env = (false, eval e X.env) :: starEach es X.env := by rfl) (hpl : (backTo pos (starEach es X.env)).any (·.1) = false := by rfl) : PE X (.Call e0 (e :: es) [] pos) (tCallES te fam E t) := by
  refine ⟨fun pins s σ H Q I h => ?_⟩
  rw [hev]
  refine wpAny_bind (thn (h0.run pins s σ H _ I h) fun u s1 hh => ?_)
  obtain ⟨x, H1, I1, r1, f, sp, rfl, hf, ht⟩ := hh
  obtain rfl : u = Value.ref f := r1
  obtain ⟨k2, fd, ps, lk, F, hk, hb⟩ := (A f sp hf).ex
  refine PySem.W.callWith_K (h₀ := X.base) I.ok.mod.kin hk (thn (ha.run pos pins s1 σ _ _ I1 ht) fun us s2 ⟨vs, H2, I2, r, q⟩ => ⟨I2.kIn, ?_⟩) he hpl
  exact run_fnS F (hr.mono lk) hb (hx σ) I2 r q

/-! ### enumerate(tuple) -/
end
end Rt
namespace EnumX
open PySem PyProof.Rows
theorem new1 {u : Value} {ob : Obj} {Z : Heap → Prop} (B : Begins u ob Z) : Meets (Builtin.«enumerate.__new__» ⟨[.type "enumerate", u], []⟩) (fun _ R s => Z s.heap ∧
      R (.ok (.ret (.ref (s.heap.push ob).objs.size))) { s with heap := (s.heap.push ob).push ⟨.type "enumerate", none, .fields #[.none, .bool false, .ref s.heap.objs.size, rawInt 0, .none, .none], #[]⟩ }) := by
  refine Meets.of_wp fun P w A R s hyp => ?_
  obtain ⟨z, fin⟩ := hyp
  obtain ⟨hp, g, d, tk, os⟩ := s
  have se := sub_enumerate
  have go : ∀ {A2 : Around} {E2 Q2 : Value → Shared → Prop}, Q2 (.ref hp.objs.size) ⟨hp.push ob, g, d, tk, os⟩ → wpAny (model P w) A2 (pyIter u) Q2 E2 ⟨hp, g, d, tk, os⟩ := fun q => B.iter P w _ _ ⟨hp, g, d, tk, os⟩ _ z q
  wp_walk using go
  refine wpAny_stack_any fun stk => (wpAny_pure ?_)
  split
  · rename_i cc _ _ _ _ _
    cases (cc == Value.type "enumerate") <;> (wp_walk using go; exact ⟨_, rfl, fin⟩)
  · wp_walk using go
    exact ⟨_, rfl, fin⟩
theorem made1 {P : Program} {w : World} {A : Around} {E Q : Value → Shared → Prop} {s : Shared} {u : Value} {ob : Obj} {Z : Heap → Prop} (B : Begins u ob Z) (z : Z s.heap)
    (q : ∀ h2, IsEnum h2 (s.heap.objs.size + 1) s.heap.objs.size 0 .none → h2.get? s.heap.objs.size = some ob → (∀ b o, s.heap.get? b = some o → h2.get? b = some o) → Q (.ref (s.heap.objs.size + 1)) { s with heap := h2 }) :
    wpAny (model P w) A (call (.type "enumerate") [u]) Q E s := by
  refine callType_new F.called_enumerate (by decide) (F.typeCall_enumerate_1 u) (F.newCall_enumerate_1 u) (fun ob => F.args_object_init_2 ob u) F.entry_enumerate_new (new1 B) ⟨z, ?_⟩
  have sz : (s.heap.push ob).objs.size = s.heap.objs.size + 1 := Heap.size_push ..
  have at1 : ((s.heap.push ob).push ⟨.type "enumerate", none, .fields #[.none, .bool false, .ref s.heap.objs.size, rawInt 0, .none, .none], #[]⟩).get? (s.heap.objs.size + 1) = some ⟨.type "enumerate", none, .fields #[.none, .bool false, .ref s.heap.objs.size, rawInt 0, .none, .none], #[]⟩ := by
    rw [← sz]
    exact Heap.get?_push_size _ rfl
  show _ ∧ _
  rw [sz]
  exact ⟨⟨_, at1, rfl⟩, q _ at1 (Heap.get?_push_of_some _ (Heap.get?_push_size _ B.free)) fun b o e => Heap.get?_push_of_some _ (Heap.get?_push_of_some _ e)⟩
/-- at the end nothing is drawn -/
theorem drawn_out {P : Program} {w : World} {A : Around} (hh : A.handled = none) (it t : Addr) (ne : t ≠ it) (its : Array Value) (n : Nat) (hn : its.size ≤ n) : Draws P w A it [it, t] n (fun _ _ => True) (fun j h => j = n ∧ h.IsTupleIter it t n ∧ h.IsTuple t its) where
  live := fun _ _ ⟨_, ⟨o, e, _⟩, _⟩ => ⟨o, e⟩
  frame := fun _ _ _ ⟨z, a, b⟩ k => ⟨z, a.at fun o e => k it List.mem_cons_self o e, b.at fun o e => k t (List.mem_cons_of_mem _ List.mem_cons_self) o e⟩
  item := fun j _ _ _ lt ⟨z, _⟩ _ => absurd z (Nat.ne_of_lt lt)
  done := fun s Q E ⟨_, a, b⟩ q => wpAny_nextOf_tuple_end hh a b (Array.getElem?_eq_none hn) q
end EnumX
namespace L2
open PySem PySem.Spec PyProof.Rows
/-- the tuple at a, each item in a new pair with its place -/
def IteT (K : PySem.W.Frag) (a : Addr) : It where
  go := fun i H => ∃ (ys : List V) (y : V), SqT K H a ys ∧ ys[i]? = some y
  yld := fun i H v H2 => ∃ c y, v = .ref c ∧ H c = none ∧ H2 = upd H c (.tup [.int (i : Nat), y]) ∧ ∀ ys, SqT K H a ys → ys[i]? = some y
  stop := fun i H => ∃ ys : List V, SqT K H a ys ∧ ys.length ≤ i
theorem turn_enumT {P : Program} {w : World} {K : PySem.W.Frag} {elts : List PySem.Expr} {kk : Nat} {tpos : Pos} (a e it : Addr) :
    Turn P w K (.Tuple elts kk tpos) (IteT K a) [e, it] e (fun i h => (∃ old, IsEnum h e it ((i : Nat) : Int) old) ∧ h.IsTupleIter it a i ∧ e ≠ it) where
  mem := List.mem_cons_self
  obj := fun i h st b hb => by
    obtain ⟨⟨v0, en⟩, ⟨o, g1, g2, g3⟩, _⟩ := st
    rcases List.mem_cons.mp hb with z | hb2
    · rw [z]
      exact ⟨_, en, fun v q => nomatch q⟩
    · rw [List.mem_singleton.mp hb2]
      exact ⟨o, g1, fun v q => by rw [g3] at q; cases q⟩
  keep := fun i h h2 st k => by
    obtain ⟨⟨v0, en⟩, ti, ne⟩ := st
    exact ⟨⟨v0, k e List.mem_cons_self _ en⟩, ti.at fun o q => k it (List.mem_cons_of_mem _ List.mem_cons_self) o q, ne⟩
  item := by
    intro X hP hw hK hc i pins s σ H E I hf st hg
    subst hP hw hK
    obtain ⟨⟨v0, en⟩, ti, ne⟩ := st
    obtain ⟨ys, y, sq, hy⟩ := hg
    obtain ⟨its, vals, tp, ln⟩ := I.tuple sq
    obtain ⟨u, hu, ru⟩ := vals.get hy
    have tpl : s.heap.IsTuple a its.toArray := tp
    have le : e < s.heap.objs.size := Heap.lt_size en
    have li : it < s.heap.objs.size := by
      obtain ⟨_, q, _⟩ := ti
      exact Heap.lt_size q
    have nea : e ≠ a := fun z => by
      obtain ⟨o, g1, g2, _⟩ := tpl
      rw [← z, (show s.heap.get? e = some _ from en)] at g1
      rw [← Option.some.inj g1] at g2
      exact absurd (show Value.type "enumerate" = Value.type "tuple" from g2) (by decide)
    have nia : it ≠ a := fun z => by
      obtain ⟨o, g1, g2, _⟩ := tpl
      obtain ⟨o2, f1, f2, _⟩ := ti
      rw [← z, f1] at g1
      rw [← Option.some.inj g1, f2] at g2
      exact absurd g2 (by decide)
    refine wpAny_pyNext_enum_itemD (Draws.tuple (show X.A.in1.handled = none from I.ok.hd hc) it a (Ne.symm nia) its.toArray) en ⟨ti, tpl⟩ (by have := (List.getElem?_eq_some_iff.mp hu).1; simpa using this) ne (by simp [ne, nea]) fun x h2 tk px eo st2 nt sz kp => ?_
    have exu : x = u := by
      have px2 : its.toArray[i]? = some x := px
      rw [List.getElem?_toArray, hu] at px2
      exact (Option.some.inj px2).symm
    subst exu
    refine ⟨_, rfl, wpAny_letOwnedTupleGo_enum (s := { s with heap := h2, toks := tk + 1 }) eo fun h3 en3 sb => ?_⟩
    have nt3 : h3.get? s.heap.objs.size = some { cls := .type "tuple", data := .seq #[.int i tk, x] } := (sb.2 _ (Nat.ne_of_gt le)).trans nt
    have nw : ObjOk X.prog X.w (upd H s.heap.objs.size (.tup [.int (i : Nat), y])) h3 s.heap.objs.size (.tup [.int (i : Nat), y]) := ⟨by show 2 ≤ sizeLine; decide, [.int i tk, x], .cons ⟨_, rfl⟩ (.cons ru .nil), ⟨_, nt3, rfl, _, rfl⟩⟩
    have J : Inv X pins σ (upd H s.heap.objs.size (.tup [.int (i : Nat), y])) { s with heap := h3, toks := tk + 1 } :=
      I.turnedNew (ch := [e, it]) (fun b ob hb q => (sb.2 b (fun z => hb (z ▸ List.mem_cons_self))).trans (kp b ob (fun z => hb (z ▸ List.mem_cons_self)) (fun z => hb (z ▸ List.mem_cons_of_mem _ List.mem_cons_self)) q)) hf (Nat.le_refl _) nw
    refine ⟨.ref s.heap.objs.size, _, J, rfl, ⟨_, y, rfl, I.hok.fresh (Nat.le_refl _), rfl, fun zs hz => by rw [I.tuple_inj hz sq]; exact hy⟩, ⟨⟨x, ?_⟩, st2.1.at fun o q => (sb.2 it (Ne.symm ne)).trans q, ne⟩, fun b hb => ?_⟩
    · rw [show ((i + 1 : Nat) : Int) = (i : Int) + 1 from by omega]
      exact en3
    · have lb : b < s.heap.objs.size := by
        rcases List.mem_cons.mp hb with z | hb2
        · rw [z]
          exact le
        · rw [List.mem_singleton.mp hb2]
          exact li
      rw [upd_ne (Nat.ne_of_lt lb)]
      exact (hf b hb).1
  done := by
    intro X hP hw hK hc i pins s σ H E I hf st hg
    subst hP hw hK
    obtain ⟨⟨v0, en⟩, ti, ne⟩ := st
    obtain ⟨ys, sq, ln⟩ := hg
    obtain ⟨its, vals, tp, _⟩ := I.tuple sq
    obtain ⟨f0, f1, f2, f3, f4, f5⟩ := hf it (List.mem_cons_of_mem _ List.mem_cons_self)
    have tpl : s.heap.IsTuple a its.toArray := tp
    have nia : it ≠ a := fun z => by
      obtain ⟨o, g1, g2, _⟩ := tpl
      obtain ⟨o2, q1, q2, _⟩ := ti
      rw [← z, q1] at g1
      rw [← Option.some.inj g1, q2] at g2
      exact absurd g2 (by decide)
    have hl := vals.length
    refine wpAny_pyNext_enum_endD (EnumX.drawn_out (show X.A.in1.handled = none from I.ok.hd hc) it a (Ne.symm nia) its.toArray i (by simp; omega)) en ⟨rfl, ti, tpl⟩ fun h2 eb => ⟨rfl, I.turned (t' := s.toks) (fun b o hb q => eb b o hb q) f0 f1 f3 f4 f5⟩
  self := fun A i s Q E st h => let ⟨⟨_, en⟩, _⟩ := st; wpAny_pyIter_enum en h
def iEnumT (K : PySem.W.Frag) (ta : TA) : TI := fun σ H R => ta σ H fun vs H1 => ∃ a ys, vs = [.ref a] ∧ SqT K H1 a ys ∧ R (IteT K a) H1
theorem pi_enumT {X : Cx} {e : PySem.Expr} {ta : TA} {p pos tpos : Pos} {elts : List PySem.Expr} {kk : Nat} (hg : Gl X "enumerate") (hm : X.mg "enumerate" = none) (ha : PA X [e] ta) (hs : starEach [e] X.env = [(false, eval e X.env)] := by rfl) :
    PI X (.Tuple elts kk tpos) (.Call (.Name "enumerate" p) [e] [] pos) (iEnumT X.K ta) := by
  refine ⟨fun pins s σ H R I wish => ?_⟩
  refine Call_ (ld_blt I hg hm boot_enumerate (PyProof.Rows.callWith_type1 (thn (ha.run pos pins s σ H _ I wish) fun us s1 hh => ?_) hs rfl))
  obtain ⟨vs, H1, I1, r1, a, ys, rfl, sq, q⟩ := hh
  cases r1 with
  | cons r rr =>
    cases rr
    cases r
    obtain ⟨its, vals, tp, ln⟩ := I1.tuple sq
    have tpl : s1.heap.IsTuple a its.toArray := tp
    refine EnumX.made1 (begins_tuple a its.toArray) tpl fun h2 en nw kp => wpAny_pyIter_enum en ?_
    have J : Inv X pins σ H1 { s1 with heap := h2 } := I1.kept (t' := s1.toks) kp
    refine ⟨s1.heap.objs.size + 1, [s1.heap.objs.size + 1, s1.heap.objs.size], _, _, H1, rfl, J, turn_enumT a (s1.heap.objs.size + 1) s1.heap.objs.size, ⟨⟨.none, en⟩, ⟨_, nw, rfl, rfl⟩, Nat.succ_ne_self _⟩, fun b hb => ?_, q⟩
    have le : s1.heap.objs.size ≤ b := by
      rcases List.mem_cons.mp hb with z | hb2
      · rw [z]
        exact Nat.le_succ _
      · rw [List.mem_singleton.mp hb2]
        exact Nat.le_refl _
    exact I1.fpOk le (I1.hok.fresh le)
theorem walk_enumT {K : PySem.W.Frag} {a : Addr} {ys : List V} : Walk (IteT K a) ys.length (fun H => SqT K H a ys) (YPair (fun i => some (.int (i : Nat))) (fun i => ys[i]?)) := by
  refine ⟨fun i _ lt q => ⟨ys, ys[i], q, by simp [lt]⟩, fun _ q => ⟨ys, q, Nat.le_refl _⟩, fun i H v H2 _ q w => ?_⟩
  obtain ⟨c, y, e1, e2, e3, e4⟩ := w
  exact ⟨c, .int (i : Nat), y, e1, e2, e3, rfl, e4 ys q⟩
end L2
namespace Rt
open PySem L2 PySem.Spec PyProof.Rows
section
variable {P : Program} {w : World} {K : PySem.W.Frag} {mg : Str → Option Value} {base : Heap}

/-! ### a program's own == ; errors that leave a call within a try -/
def NoSub (K : PySem.W.Frag) (C : Addr) (H : Hp) (y : V) : Prop := (∃ b dy gs, y = .ref b ∧ H b = some (.ins C dy gs)) ∨ (∃ b xs, y = .ref b ∧ H b = some (.tup xs) ∧ PySem.W.subIn K (.type "tuple") (.ref C) = some false)
def rOwn (K : PySem.W.Frag) (C : Addr) (sp : Sp) (E : XK) : R2 := fun x y H Q => ∃ a dx fs, x = .ref a ∧ H a = some (.ins C dx fs) ∧ NoSub K C H y ∧ sp [x, y] H (fun v H' => (∃ k, v = .bl k) ∧ Q v H') E
section
variable {X : Cx}
theorem op_own {n : Nat} {CX : CXT} {C f : Addr} {fd : FuncData} {ps : List Str} {sp : Sp} {E : XK} (G : FnOk X.prog X.w X.K X.mg X.base CX n f fd ps sp) (hr : Room n X.A)
    (hs : PySem.W.findIn X.K (.ref C) "__eq__" = some (some (.ref f))) (hf : PySem.W.isFn X.K (.ref f) = true) (hb : Binds X.K fd ps []) (hx : Passes CX X E) : OpR X (compareOp .Eq) (rOwn X.K C sp E) := by
  intro pins s σ H x y v u Q I rx ry hq
  obtain ⟨a, dx, fs, rfl, ha, hy, hsp⟩ := hq
  obtain rfl : v = Value.ref a := rx
  obtain ⟨mA, O, _⟩ := ins_get I.hok ha
  obtain ⟨od, J, _⟩ := O.look
  obtain ⟨m, hF⟩ := I.fr
  have hl : ([V.ref a, y] : List V).length = ps.length := G.len _ _ _ _ hsp
  have back : wpAny (model X.prog X.w) X.A (call (.ref f) [.ref a, u]) (PySem.W.CmpBack (EP X pins σ Q)) X.xe s := by
    have rv : Vals [V.ref a, y] [Value.ref a, u] := .cons rfl (.cons ry .nil)
    have bd := hb s [.ref a, u] I.kIn (by rw [List.append_nil]; exact hl)
    rw [List.append_nil] at bd
    refine wpAny_call (codeAny_mono (G.run X.A X.stack s H ⟨[.ref a, u], []⟩ [.ref a, u] _ _ E hr I.env0 bd rv hsp) fun r s' hw => ?_)
    match r, hw with
    | .error e, hw => exact hx pins σ H s e s' I hw
    | .ok (.ret w'), hw =>
      obtain ⟨z, H', I', rz, ⟨k, ek⟩, qz⟩ := I.after hw
      subst ek
      cases rz
      exact ⟨.bl k, H', I', rfl, qz⟩
    | .ok .next, hw => exact hw.elim
    | .ok .brk, hw => exact hw.elim
    | .ok .cont, hw => exact hw.elim
  show wpAny (model X.prog X.w) X.A (richCompare .Eq (.ref a) u) _ _ s
  rcases hy with ⟨b, dy, gs, rfl, hb'⟩ | ⟨b, xs, rfl, hb', hsub⟩
  · obtain rfl : u = Value.ref b := ry
    obtain ⟨mB, O', _⟩ := ins_get I.hok hb'
    obtain ⟨od', J', _⟩ := O'.look
    exact PySem.W.cmp_K (op := .Eq) (tb := .ref C) hr.units0 hF I.ok.mod.kin J J'.type (by simp [PySem.W.notFirst]) hs hf back
  · obtain rfl : u = Value.ref b := ry
    obtain ⟨_, its, _, o, ho, hc, _⟩ := (show ObjOk X.prog X.w H s.heap b (.tup xs) from I.hok b _ hb')
    exact PySem.W.cmp_K (op := .Eq) (tb := .type "tuple") hr.units0 hF I.ok.mod.kin J (fun A' Q' E' s2 k2 q2 => wpAny_typeOf_ref (k2 _ _ ho) (by rw [hc]; exact q2)) (by simp [PySem.W.notFirst, hsub]) hs hf back
/-- what a call lets out is taken, whatever the slots hold -/
theorem passN {W : WX} (tk : Takes X W) : Passes (L2.CX X.prog X.w) X (fun cls d H => ∀ σ : L2.St, σ.length = X.N.length → W cls d σ H) :=
  fun _ σ _ _ e s' I c => tk e s' (XE.of_call I (fun _ _ _ h => h σ I.len) c)
end

/-! ### try with clauses, each with a name or without one -/
structure Cl where
  cls : Value
  slot : Option Nat
  ts : Addr → Value → Option Addr → TS
/-- behind a suite its name is forgotten -/
def offName (D : Ends) (i : Nat) : Ends := ⟨fun σ H => D.nx (σ.set i none) H, D.rt, fun σ H => D.bk (σ.set i none) H, fun σ H => D.ct (σ.set i none) H⟩
def Cl.wish (q : Cl) (a : Addr) (k : Value) (d : Option Addr) (D : Ends) (σ : L2.St) (H : Hp) : Prop := match q.slot with
  | none => q.ts a k d D σ H
  | some i => q.ts a k d (offName D i) (σ.set i (some (.ref a))) H
def wX (K : PySem.W.Frag) (Wo : WX) (D : Ends) : List Cl → WX
  | [] => Wo
  | q :: r => fun k d σ H => ∃ b, PySem.W.exmOne K k q.cls = some b ∧ (b = true → ∀ a, H a = none → q.wish a k d D σ H) ∧ (b = false → wX K Wo D r k d σ H)
inductive HdsX (X : Cx) : List ExceptHandler → List Cl → Prop
  | nil : HdsX X [] []
  | un {x : Str} {c : Value} {ts : Addr → Value → Option Addr → TS} {s0 : Stmt} {su : List Stmt} {p1 p2 : Pos} {hs : List ExceptHandler} {l : List Cl} (nm : Names X x c)
      (ok : ∀ (a : Addr) (oe : Obj) (k : Value) (d : Option Addr) (pn : List (Addr × Obj)), Zc k d oe → (∃ vs, oe.data = .fields vs) → PSs (X.suite a ((a, oe) :: pn)) (s0 :: su) (ts a k d)) (r : HdsX X hs l) :
      HdsX X (.ExceptHandler (some (.Name x p1)) none (s0 :: su) p2 :: hs) (⟨c, none, ts⟩ :: l)
  | as {x n : Str} {i : Nat} {c : Value} {ts : Addr → Value → Option Addr → TS} {s0 : Stmt} {su : List Stmt} {p1 p2 : Pos} {hs : List ExceptHandler} {l : List Cl} (hi : X.N[i]? = some n) (hl : X.env.kindOf n = some .local) (nm : Names X x c)
      (ok : ∀ (a : Addr) (oe : Obj) (k : Value) (d : Option Addr) (pn : List (Addr × Obj)), Zc k d oe → (∃ vs, oe.data = .fields vs) → PSs (X.suite a ((a, oe) :: pn)) (s0 :: su) (ts a k d)) (r : HdsX X hs l) :
      HdsX X (.ExceptHandler (some (.Name x p1)) (some n) (s0 :: su) p2 :: hs) (⟨c, some i, ts⟩ :: l)
section
variable {X : Cx} {tb : WX → TS} {Wo : WX}
/-- a flight that was landed at the try: what every clause needs of it -/
structure Land (X : Cx) (pins : List (Addr × Obj)) (σ : L2.St) (H : Hp) (a : Addr) (B : Heap) (sI : Shared) (k : Value) (d : Option Addr) (s : Shared) (h : Heap) : Prop where
  ok : X.Ok
  inv : Inv X pins σ H sI
  nb : ∀ b o, sI.heap.get? b = some o → b ∉ frs X.stack → B.get? b = some o
  up : sI.heap.UpToSlots h
  fly : HandSPX.FlyingZ B (X.env :: X.outer) a (Zc k d) h
  na : H a = none
  nL : a ≠ X.env.locals
  nF : a ∉ X.fs
  os : s.os = sI.os
  ag : AllBare s.gens
theorem clauses (hst : X.stack = X.env :: X.outer) (hfr : X.env.frame = some X.env.locals) (hN : X.N.Nodup) (tk : Takes X Wo) {pins : List (Addr × Obj)} {σ : L2.St} {H : Hp} {a : Addr} {B : Heap} {sI : Shared} {k : Value} {d : Option Addr} {s : Shared} {h : Heap} {D : Ends}
    (L : Land X pins σ H a B sI k d s h) : ∀ {hds : List ExceptHandler} {l : List Cl}, HdsX X hds l → wX X.K Wo D l k d σ H → wpAny (model X.prog X.w) X.A (handleBy (.ref a) X.env hds) (SP X pins D) X.xe { s with heap := h } := by
  have Jh : Inv X pins σ H { s with heap := h } := L.inv.landed L.nb L.fly.1 L.up L.os L.ag
  -- a clause's test
  have tst : ∀ {x : Str} {c : Value} {p1 : Pos} {b : Bool} {Q : Bool → Shared → Prop} {E E2 : Value → Shared → Prop}, Names X x c → PySem.W.exmOne X.K k c = some b → Q b { s with heap := h } →
      wpAny (model X.prog X.w) (X.A.mark (some (.ref a))) (eval (.Name x p1) X.env) (fun v s1 => wpAny (model X.prog X.w) (X.A.mark (some (.ref a))) (excMatches (.ref a) v) Q E s1) E2 { s with heap := h } := by
    intro x c p1 b Q E E2 nm e q
    obtain ⟨oe, fv, g1, g2, g3⟩ := L.fly.there
    have S := Jh.suite g1 g3 L.na L.nL L.nF
    have look : PySem.W.Looks (model X.prog X.w) h (typeOf (.ref a)) k := fun A' Q' E' s2 k2 q2 => wpAny_typeOf_ref (k2 _ _ g1) (by rw [g2.1]; exact q2)
    have m := PySem.W.exm_one (M := model X.prog X.w) Jh.kIn look e
    obtain ⟨n1, n2, n3 | ⟨n3, n4, n5⟩⟩ := nm
    · exact ld_glob (X := X.suite a ((a, oe) :: (X.pn ++ pins))) S n1 n3 (m.here q) n2
    · exact ld_blt (X := X.suite a ((a, oe) :: (X.pn ++ pins))) S n1 n3 n4 (m.here q) n5 n2
  intro hds l hk
  induction hk with
  | nil =>
    intro w
    refine wpAny_handleBy_nil ?_
    obtain ⟨_, _, _, oe, fv, t0, _, _, g1, g2, g3, g4, _⟩ := id L.fly
    have out : wpAny (model X.prog X.w) X.A (setFlight (.ref a) X.env.frame) (fun _ s4 => wpAny (model X.prog X.w) X.A (throw (.ref a) : Sem Flow) (SP X pins D) X.xe s4) X.xe { s with heap := h } := by
      rw [hfr]
      exact HandSPX.setFlight_upZ L.fly fun h4 hh4 up4 => wpAny_throw (tk _ _ ⟨a, B, sI, pins, σ, H, k, d, rfl, L.inv, L.nb, L.up.trans up4, .inr (.inr (by rw [hst]; exact hh4)), L.na, L.os, L.ag, w⟩)
    have neN : ¬ ((Value.ref t0 == Value.none) = true) := by simp
    unfold PySem.passOn
    refine wpAny_bind (wpAny_field g1 g3 g4 ?_)
    rw [if_neg neN]
    first
      | exact wpAny_bind (wpAny_pure (wpAny_bind out))
      | exact wpAny_bind out
  | un nm ok r ih =>
    intro w
    obtain ⟨b, e, yes, no⟩ := w
    refine wpAny_handleBy_cons (codeAny_handlers_test (tst nm e ?_)) (by intro q; cases q)
    cases b with
    | false => exact ih (no rfl)
    | true =>
      refine codeAny_handlers_suite (HandSPX.lands_againZ L.fly fun h4 fl4 up4 => ?_)
      obtain ⟨oe, fv, g1, g2, g3⟩ := fl4.there
      have J4 : Inv X pins σ H { s with heap := h4 } := L.inv.landed L.nb fl4.1 (L.up.trans up4) L.os L.ag
      have S := J4.suite g1 g3 L.na L.nL L.nF
      refine wpAny_mono ((ok a oe k d (X.pn ++ pins) g2 ⟨_, g3⟩).run [] _ _ H _ S (yes rfl a L.na)) (fun f s6 z => ?_) (fun _ _ z => z.elim)
      match f, z with
      | .next, ⟨_, _, z, q⟩ => exact ⟨_, _, z.unsuite L.ok, q⟩
      | .brk, ⟨_, _, z, q⟩ => exact ⟨_, _, z.unsuite L.ok, q⟩
      | .cont, ⟨_, _, z, q⟩ => exact ⟨_, _, z.unsuite L.ok, q⟩
      | .ret _, ⟨_, _, _, z, rv, q⟩ => exact ⟨_, _, _, z.unsuite L.ok, rv, q⟩
  | @as x n i c ts s0 su p1 p2 hs l hi hl nm ok r ih =>
    intro w
    obtain ⟨b, e, yes, no⟩ := w
    refine wpAny_handleBy_cons (codeAny_handlers_test (tst nm e ?_)) (by intro q; cases q)
    cases b with
    | false => exact ih (no rfl)
    | true =>
      refine codeAny_handlers_suite_as (HandSPX.lands_againZ L.fly fun h4 fl4 up4 => ?_)
      obtain ⟨oe, fv, g1, g2, g3⟩ := fl4.there
      have J4 : Inv X pins σ H { s with heap := h4 } := L.inv.landed L.nb fl4.1 (L.up.trans up4) L.os L.ag
      have S := J4.suite g1 g3 L.na L.nL L.nF
      refine store_ok (X := X.suite a ((a, oe) :: (X.pn ++ pins))) (v := .ref a) S hN hi (.inl hl) rfl (fun s5 S5 => ?_) (.inr hl)
      refine wpAny_mono ((ok a oe k d (X.pn ++ pins) g2 ⟨_, g3⟩).run [] s5 _ H _ S5 (yes rfl a L.na)) (fun f s6 z => ?_) (fun _ _ z => z.elim)
      have off : ∀ {σ6 : L2.St} {H6 : Hp} {Q : Shared → Prop}, Inv (X.suite a ((a, oe) :: (X.pn ++ pins))) [] σ6 H6 s6 → (∀ s7, Inv X pins (σ6.set i none) H6 s7 → Q s7) →
          wpAny (model X.prog X.w) X.A (do bindName X.env n .none; unbindBehindTheSuite X.env n p2) (fun _ s7 => Q s7) X.xe s6 := fun z hq => gone_ok (z.unsuite L.ok) hN hi hl hq
      match f, z with
      | .next, ⟨_, _, z, q⟩ => exact off z fun s7 J => ⟨_, _, J, q⟩
      | .brk, ⟨_, _, z, q⟩ => exact off z fun s7 J => ⟨_, _, J, q⟩
      | .cont, ⟨_, _, z, q⟩ => exact off z fun s7 J => ⟨_, _, J, q⟩
      | .ret _, ⟨_, _, _, z, rv, q⟩ => exact off z fun s7 J => ⟨_, _, _, J, rv, q⟩
theorem ps_try_x {body : List Stmt} {h0 : ExceptHandler} {hds : List ExceptHandler} {l : List Cl} {pos : Pos} (hst : X.stack = X.env :: X.outer) (hfr : X.env.frame = some X.env.locals) (hN : X.N.Nodup) (tk : Takes X Wo)
    (hb : ∀ (W : WX) (pn : List (Addr × Obj)) (xe : Value → Shared → Prop), Takes (X.tr pn xe) W → PassesOwn (model X.prog X.w) X.A X.env xe → PSs (X.tr pn xe) body (tb W)) (hh : HdsX X (h0 :: hds) l) :
    PS X (.Try body (h0 :: hds) [] [] pos) (fun D σ H => tb (wX X.K Wo D l) D σ H) := by
  refine ⟨fun pins s σ H D I w => wpAny_Try_except ?_⟩
  have ok := I.ok
  refine wpAny_mono ((hb (wX X.K Wo D l) (X.pn ++ pins) (fun e s1 => wpAny (model X.prog X.w) X.A (noteFrame e X.env) (fun _ s2 => wpAny (model X.prog X.w) X.A (setFlight e none) (fun _ s3 =>
    wpAny (model X.prog X.w) X.A (handleBy e X.env (h0 :: hds)) (SP X pins D) X.xe s3) X.xe s2) X.xe s1) (fun u s' q => ?_) PassesOwn.looking).run [] s σ H D (I.toTry _) w) (fun f s1 z => ?_) (fun _ _ z => z)
  · obtain ⟨a, B, sI, pi, σ', H', k, d, rfl, J', nb, up, sky, na, os, ag, w'⟩ := q
    have J := J'.ofTry (X := X) ok
    rw [show (X.tr (X.pn ++ pins) _).stack = X.stack from rfl, hst] at sky
    show wpAny (model X.prog X.w) X.A (noteFrame (.ref a) X.env) _ _ _
    refine Sky.land Zc.steady (by rw [ok.frames, hst]) hfr sky fun h3 fl3 up3 => ?_
    obtain ⟨oe, fv, g1, g2, g3⟩ := fl3.there
    have far : a ∉ frs (X.env :: X.outer) := fun hm => by
      obtain ⟨_, o', e', nf⟩ := fl3.2.2.1.mem hm
      exact nf _ ((Option.some.inj (g1.symm.trans e')) ▸ g3)
    refine clauses hst hfr hN tk ⟨ok, J, nb, up.trans up3, fl3, na, fun z => far ?_, fun hm => far ?_, os, ag⟩ hh w'
    · exact List.mem_filterMap.mpr ⟨X.env, List.mem_cons_self, by rw [hfr, z]⟩
    · obtain ⟨e2, he2, q2⟩ := List.mem_filterMap.mp hm
      exact List.mem_filterMap.mpr ⟨e2, List.mem_cons_of_mem _ he2, q2⟩
  · match f, z with
    | .next, ⟨_, _, z, q⟩ => exact wpAny_execs_nil ⟨_, _, z.ofTry ok, q⟩
    | .brk, ⟨_, _, z, q⟩ => exact ⟨_, _, z.ofTry ok, q⟩
    | .cont, ⟨_, _, z, q⟩ => exact ⟨_, _, z.ofTry ok, q⟩
    | .ret _, ⟨_, _, _, z, rv, q⟩ => exact ⟨_, _, _, z.ofTry ok, rv, q⟩
end

/-! ### what stands where a value points -/
theorem AnyV.at {T : Addr → Prop} {H H1 : Hp} {c : Addr} {o : HO} (a : AnyV T H (.ref c)) (S : Same H H1) (e : H1 c = some o) : H c = some o := by
  cases a with
  | lst e2 => rw [S _ _ e2] at e; rw [← e]; exact e2
  | tup e2 => rw [S _ _ e2] at e; rw [← e]; exact e2
  | dct e2 => rw [S _ _ e2] at e; rw [← e]; exact e2
  | ins t e2 => rw [S _ _ e2] at e; rw [← e]; exact e2
/-- the things of the tuple x -/
def tupOf (H : Hp) (x : V) : Option (List V) := match x with
  | .ref c => match H c with
    | some (.tup ys) => some ys
    | _ => none
  | _ => none
theorem tupOf_ref {H : Hp} {c : Addr} {ys : List V} (h : H c = some (.tup ys)) : tupOf H (.ref c) = some ys := by
  show (match H c with | some (.tup ys) => some ys | _ => none) = _
  rw [h]
theorem tupOf_some {H : Hp} {x : V} {ys : List V} (h : tupOf H x = some ys) : ∃ c, x = .ref c ∧ H c = some (.tup ys) := by
  cases x with
  | ref c =>
    refine ⟨c, rfl, ?_⟩
    have h2 : (match H c with | some (.tup ys) => some ys | _ => none) = some ys := h
    split at h2
    · rename_i zs e
      cases h2
      exact e
    · cases h2
  | _ => cases h
theorem tupOf_same {T : Addr → Prop} {H H2 : Hp} {x : V} (a : AnyV T H x) (S : Same H H2) : tupOf H2 x = tupOf H x := by
  cases e : tupOf H x with
  | some ys =>
    obtain ⟨c, rfl, h⟩ := tupOf_some e
    exact tupOf_ref (S _ _ h)
  | none =>
    cases e2 : tupOf H2 x with
    | none => rfl
    | some ys =>
      obtain ⟨c, rfl, h⟩ := tupOf_some e2
      rw [tupOf_ref (a.at S h)] at e
      cases e
/-- its things are any values -/
def ItemsAny (T : Addr → Prop) (H : Hp) (x : V) : Prop := ∀ ys, tupOf H x = some ys → ∀ y ∈ ys, AnyV T H y
theorem ItemsAny.same {T : Addr → Prop} {H H2 : Hp} {x : V} (h : ItemsAny T H x) (a : AnyV T H x) (S : Same H H2) : ItemsAny T H2 x := fun ys e y hy => by
  rw [tupOf_same a S] at e
  exact (h ys e y hy).mono S
theorem ItemsAny.ints {T : Addr → Prop} {H : Hp} {c : Addr} {ns : List Int} (h : H c = some (.tup (ns.map V.int))) : ItemsAny T H (.ref c) := fun ys e y hy => by
  rw [tupOf_ref h] at e
  cases e
  obtain ⟨z, _, rfl⟩ := List.mem_map.mp hy
  exact .int z
theorem ItemsAny.non {T : Addr → Prop} {H : Hp} {x : V} (h : tupOf H x = none) : ItemsAny T H x := fun ys e => by
  rw [h] at e
  cases e
/-- the place of the first thing that is no integer from a to b -/
def firstW (a b : Int) : List V → Option Nat
  | [] => none
  | y :: ys => if intIn y a b = true then (firstW a b ys).map (· + 1) else some 0
theorem firstW_none {a b : Int} : ∀ {ys : List V}, (∀ y ∈ ys, intIn y a b = true) → firstW a b ys = none
  | [], _ => rfl
  | y :: ys, h => by
    unfold firstW
    rw [if_pos (h y List.mem_cons_self), firstW_none fun z hz => h z (List.mem_cons_of_mem _ hz)]
    rfl
theorem firstW_all {a b : Int} : ∀ {ys : List V}, firstW a b ys = none → ∀ y ∈ ys, intIn y a b = true
  | [], _, _, hy => by cases hy
  | z :: ys, h, y, hy => by
    unfold firstW at h
    by_cases e : intIn z a b = true
    · rw [if_pos e] at h
      rcases List.mem_cons.mp hy with rfl | hy
      · exact e
      · exact firstW_all (Option.map_eq_none_iff.mp h) y hy
    · rw [if_neg e] at h
      cases h
theorem firstW_at {a b : Int} : ∀ {ys : List V} {i : Nat} {y : V}, (∀ (j : Nat) (z : V), j < i → ys[j]? = some z → intIn z a b = true) → ys[i]? = some y → intIn y a b = false → firstW a b ys = some i
  | [], i, y, _, h, _ => by cases h
  | z :: ys, 0, y, _, h, e => by
    cases h
    unfold firstW
    rw [if_neg (by rw [e]; exact Bool.false_ne_true)]
  | z :: ys, i + 1, y, h0, h, e => by
    unfold firstW
    rw [if_pos (h0 0 z (Nat.succ_pos _) rfl), firstW_at (i := i) (y := y) (fun j x hj hx => h0 (j + 1) x (Nat.succ_lt_succ hj) hx) h e]
    rfl
theorem firstW_lt {a b : Int} : ∀ {ys : List V} {i : Nat}, firstW a b ys = some i → i < ys.length
  | [], _, h => by cases h
  | y :: ys, i, h => by
    unfold firstW at h
    by_cases e : intIn y a b = true
    · rw [if_pos e] at h
      obtain ⟨j, hj, rfl⟩ := Option.map_eq_some_iff.mp h
      exact Nat.succ_lt_succ (firstW_lt hj)
    · rw [if_neg e] at h
      cases h
      exact Nat.succ_pos _
theorem firstW_some {a b : Int} : ∀ {ys : List V} {i : Nat}, firstW a b ys = some i → (∀ (j : Nat) (z : V), j < i → ys[j]? = some z → intIn z a b = true) ∧ ∃ y, ys[i]? = some y ∧ intIn y a b = false
  | [], _, h => by cases h
  | y :: ys, i, h => by
    unfold firstW at h
    by_cases e : intIn y a b = true
    · rw [if_pos e] at h
      obtain ⟨j, hj, rfl⟩ := Option.map_eq_some_iff.mp h
      obtain ⟨h1, z, h2, h3⟩ := firstW_some hj
      refine ⟨fun m v hm hv => ?_, z, h2, h3⟩
      cases m with
      | zero =>
        cases hv
        exact e
      | succ m => exact h1 m v (by omega) hv
    · rw [if_neg e] at h
      cases h
      exact ⟨fun m v hm => absurd hm (Nat.not_lt_zero _), y, rfl, by simpa using e⟩
/-- what is wrong of a tuple of lo to hi integers from a to b: nothing, None, or the first wrong place -/
def verdict (lo hi : Nat) (a b : Int) (o : Option (List V)) : Option V := match o with
  | none => some .non
  | some ys => if lo ≤ ys.length ∧ ys.length ≤ hi then (firstW a b ys).map fun i => .int (i : Nat) else some .non
theorem verdict_some (lo hi : Nat) (a b : Int) (ys : List V) : verdict lo hi a b (some ys) = if lo ≤ ys.length ∧ ys.length ≤ hi then (firstW a b ys).map fun i => .int (i : Nat) else some .non := rfl
theorem verdict_good {lo hi : Nat} {a b : Int} {ys : List V} (l1 : lo ≤ ys.length) (l2 : ys.length ≤ hi) (h : ∀ y ∈ ys, intIn y a b = true) : verdict lo hi a b (some ys) = none := by
  rw [verdict_some, if_pos ⟨l1, l2⟩, firstW_none h]
  rfl
theorem verdict_none {lo hi : Nat} {a b : Int} {o : Option (List V)} (h : verdict lo hi a b o = none) : ∃ ys, o = some ys ∧ lo ≤ ys.length ∧ ys.length ≤ hi ∧ ∀ y ∈ ys, intIn y a b = true := by
  cases o with
  | none => cases h
  | some ys =>
    rw [verdict_some] at h
    by_cases l : lo ≤ ys.length ∧ ys.length ≤ hi
    · rw [if_pos l] at h
      exact ⟨ys, rfl, l.1, l.2, firstW_all (Option.map_eq_none_iff.mp h)⟩
    · rw [if_neg l] at h
      cases h

/-! ### for over a list or a tuple -/
end
end Rt
namespace L2
open PySem PySem.Spec PyProof.Rows
def iSeqA (K : PySem.W.Frag) (tl : TE) : TI := fun σ H R => iList K tl σ H R ∨ iTup K tl σ H R
theorem pi_seqA {X : Cx} {tg l : PySem.Expr} {tl : TE} (hl : PE X l tl) : PI X tg l (iSeqA X.K tl) :=
  ⟨fun pins s σ H R I h => h.elim ((pi_list hl).run pins s σ H R I) ((pi_tup hl).run pins s σ H R I)⟩
def iEnumA (K : PySem.W.Frag) (ta : TA) : TI := fun σ H R => iEnum K ta σ H R ∨ iEnumT K ta σ H R
theorem pi_enumA {X : Cx} {e : PySem.Expr} {ta : TA} {p pos tpos : Pos} {elts : List PySem.Expr} {kk : Nat} (hg : Gl X "enumerate") (hm : X.mg "enumerate" = none) (ha : PA X [e] ta) (hs : starEach [e] X.env = [(false, eval e X.env)] := by rfl) :
    PI X (.Tuple elts kk tpos) (.Call (.Name "enumerate" p) [e] [] pos) (iEnumA X.K ta) :=
  ⟨fun pins s σ H R I h => h.elim ((pi_enum hg hm ha hs).run pins s σ H R I) ((pi_enumT hg hm ha hs).run pins s σ H R I)⟩
/-- a list or a tuple stands at c -/
def SqA (H : Hp) (c : Addr) (ys : List V) : Prop := H c = some (.lst ys) ∨ H c = some (.tup ys)
theorem SqA.same {H H2 : Hp} {c : Addr} {ys : List V} (h : SqA H c ys) (S : Same H H2) : SqA H2 c ys := h.imp (S _ _) (S _ _)
theorem SqA.len {K : PySem.W.Frag} {H : Hp} {c : Addr} {ys : List V} (h : SqA H c ys) : SqL K H c ys ∨ SqT K H c ys := h.imp SqL.of SqT.of
theorem seqA_of {K : PySem.W.Frag} {i : Nat} {σ : L2.St} {H : Hp} {R : It → Hp → Prop} {c : Addr} {ys : List V} (hv : σ[i]? = some (some (.ref c))) (hc : SqA H c ys)
    (k : ∀ (J : It) (G : Hp → Prop), Walk J ys.length G (YAt ys) → (∀ H2, Same H H2 → G H2) → R J H) : iSeqA K (tVar i) σ H R := by
  rcases hc with hc | hc
  · exact .inl ⟨_, hv, c, rfl, ⟨_, SqL.of hc⟩, k _ _ walk_list fun H2 S => SqL.of (S _ _ hc)⟩
  · exact .inr ⟨_, hv, c, rfl, ⟨_, SqT.of hc⟩, k _ _ walk_tup fun H2 S => SqT.of (S _ _ hc)⟩
theorem enumA_of {K : PySem.W.Frag} {i : Nat} {σ : L2.St} {H : Hp} {R : It → Hp → Prop} {c : Addr} {ys : List V} (hv : σ[i]? = some (some (.ref c))) (hc : SqA H c ys)
    (k : ∀ (J : It) (G : Hp → Prop), Walk J ys.length G (YPair (fun i => some (.int (i : Nat))) (fun i => ys[i]?)) → (∀ H2, Same H H2 → G H2) → R J H) : iEnumA K (tCons (tVar i) tNil) σ H R := by
  rcases hc with hc | hc
  · exact .inl ⟨_, hv, c, ys, rfl, SqL.of hc, k _ _ walk_enum fun H2 S => SqL.of (S _ _ hc)⟩
  · exact .inr ⟨_, hv, c, ys, rfl, SqT.of hc, k _ _ walk_enumT fun H2 S => SqT.of (S _ _ hc)⟩
end L2
namespace Rt
open PySem L2 PySem.Spec PyProof.Rows
section
variable {P : Program} {w : World} {K : PySem.W.Frag} {mg : Str → Option Value} {base : Heap}

/-! ### tuples of so many things; the first wrong one -/
def isTup (lo hi : Int) (o : Option (List V)) : Bool := match o with
  | none => false
  | some ys => decide (lo ≤ (ys.length : Int)) && decide ((ys.length : Int) ≤ hi)
theorem isi_tup (T : Tx P K mg) {H : Hp} {x : V} (a : AnyV (OwnT T) H x) : ∃ t, TyX K H x t ∧ ∃ b, PySem.W.kitOne K t (.type "tuple") = some b ∧ (b = false → tupOf H x = none) ∧ (b = true → ∃ c ys, x = .ref c ∧ H c = some (.tup ys)) := by
  have no : ∀ {c : Addr} {o : HO}, H c = some o → (∀ ys, o ≠ .tup ys) → tupOf H (.ref c) = none := fun {c o} e h => by
    cases q : tupOf H (.ref c) with
    | none => rfl
    | some ys =>
      obtain ⟨c', e1, e2⟩ := tupOf_some q
      cases e1
      rw [e] at e2
      exact absurd (Option.some.inj e2) (h ys)
  cases a with
  | non => exact ⟨_, .base .non, false, kit_ty (by decide +kernel), fun _ => rfl, fun z => nomatch z⟩
  | bl b => exact ⟨_, .base (.bl b), false, kit_ty (by decide +kernel), fun _ => rfl, fun z => nomatch z⟩
  | int i => exact ⟨.type "int", .base (.int i), false, kit_ty (by decide +kernel), fun _ => rfl, fun z => nomatch z⟩
  | str x => exact ⟨_, .base (.str x), false, kit_ty (by decide +kernel), fun _ => rfl, fun z => nomatch z⟩
  | lst e => exact ⟨_, .base (.lst e), false, kit_ty (by decide +kernel), fun _ => no e (fun _ z => nomatch z), fun z => nomatch z⟩
  | tup e => exact ⟨_, .base (.tup e), true, kit_ty (by decide +kernel), fun z => (nomatch z), fun _ => ⟨_, _, rfl, e⟩⟩
  | dct e => exact ⟨_, .base (.dK e), false, kit_ty (by decide +kernel), fun _ => no e (fun _ z => nomatch z), fun z => nomatch z⟩
  | ins t e => exact ⟨_, .base (t.ty e), false, t.ntuple, fun _ => no e (fun _ z => nomatch z), fun z => nomatch z⟩

def spIsTup (T : Tx P K mg) : Sp := fun vs H Q _ => ∃ (x : V) (lo hi : Int), vs = [x, .int lo, .int hi] ∧ AnyV (OwnT T) H x ∧ Q (.bl (isTup lo hi (tupOf H x))) H
theorem ok_is_tuple (T : Tx P K mg) : FnOk P w K mg base CX0 lv_is_tuple T.a_is_tuple T.d_is_tuple ["told", "fewest", "most"] (spIsTup T) := by
  refine T.F_is_tuple.ok sc_is_tuple (fun vs H Q E h => ?_) (fun cdv A outer s H vs Q E hr h => ?_)
  · obtain ⟨x, lo, hi, rfl, _⟩ := h
    rfl
  · obtain ⟨x, lo, hi, rfl, a, k⟩ := h
    refine ⟨_, (pss_one (ps_ret (pe_and (pe_callB call_isi (by rfl) T.n_isinstance (by decide +kernel) (pa_cons (pv 0) (pa_cons (pe_bltn (v := .ty "tuple") rfl T.n_tuple (by decide +kernel) rfl) pa_nil))) (pe_one (pe_chain op_le op_le (pv 1) (pe_callB call_len_seq (by rfl) T.n_len (by decide +kernel) (pa_cons (pv 0) pa_nil)) (pv 2)))))), ?_⟩
    obtain ⟨t, ty, q, e1, h1, h2⟩ := isi_tup T a
    refine ⟨_, rfl, _, _, _, _, q, rfl, .ty _, ty, e1, q, rfl, ?_⟩
    cases q with
    | false =>
      rw [h1 rfl] at k
      exact iteF k
    | true =>
      obtain ⟨c, ys, rfl, e⟩ := h2 rfl
      rw [tupOf_ref e] at k
      have k : Q (V.bl (decide (lo ≤ (ys.length : Int)) && decide ((ys.length : Int) ≤ hi))) H := k
      refine iteT ⟨_, rfl, _, rfl, c, ys, rfl, .inr (SqT.of e), _, _, rfl, rfl, _, rfl, ?_⟩
      refine ite2 (fun g1 => ?_) (fun g1 => ?_)
      · rw [g1] at k
        exact ⟨_, rfl, _, _, rfl, rfl, k⟩
      · rw [show decide (lo ≤ (ys.length : Int)) = false from by simpa using g1] at k
        exact k
def optN (o : Option Nat) : V := match o with
  | none => .non
  | some i => .int (i : Nat)
def spFirstW (T : Tx P K mg) : Sp := fun vs H Q _ => ∃ (c : Addr) (ys : List V) (a b : Int), vs = [.ref c, .int a, .int b] ∧ H c = some (.tup ys) ∧ ys.length ≤ 1000 ∧ (∀ y ∈ ys, AnyV (OwnT T) H y) ∧ ∀ H2, Same H H2 → Q (optN (firstW a b ys)) H2
theorem ok_first_wrong (T : Tx P K mg) : FnOk P w K mg base CX0 lv_first_wrong T.a_first_wrong T.d_first_wrong ["told", "low", "high"] (spFirstW T) := by
  refine T.F_first_wrong.ok sc_first_wrong (fun vs H Q E h => ?_) (fun cdv A outer s H vs Q E hr h => ?_)
  · obtain ⟨c, ys, a, b, rfl, _⟩ := h
    rfl
  · obtain ⟨c, ys, a, b, rfl, e, hl, hy, k⟩ := h
    refine ⟨_, (pss_cons (ps_for PassesOwn.never rfl (pi_enumT (by rfl) T.n_enumerate (pa_cons (pv 0) pa_nil)) (pg_tup rfl (pgs_cons (pg_name (i := 3) sc_first_wrong.nd rfl (Or.inl rfl)) (pgs_cons (pg_name (i := 4) sc_first_wrong.nd rfl (Or.inl rfl)) pgs_nil))) (pss_one (ps_if (pt_not (pt_val (pe_call (ok_is_integer T) (hr.mono (by decide)) rfl T.g_is_integer T.F_is_integer.kp T.b_is_integer .nil pass0 (pa_cons (pv 4) (pa_cons (pv 1) (pa_cons (pv 2) pa_nil)))))) (pss_one (ps_ret (pv 3))) pss_nil)))
      (pss_one (ps_ret pe_non))), ?_⟩
    refine ⟨_, rfl, c, ys, rfl, SqT.of e, ?_⟩
    refine for_it (walk_enumT (a := c) (ys := ys)) (fun i σ H2 => ∃ v3 v4 : Option V, Same H H2 ∧ (∀ (j : Nat) (z : V), j < i → ys[j]? = some z → intIn z a b = true) ∧ σ = [some (.ref c), some (.int a), some (.int b), v3, v4]) ⟨none, none, fun _ _ e => e, fun j z lt _ => absurd lt (Nat.not_lt_zero _), rfl⟩ (fun i σ H2 _ ⟨_, _, S, _, _⟩ => SqT.of (S _ _ e)) ?_ ?_
    · rintro i x' σ H2 H3 hi ⟨v3, v4, S, hf, rfl⟩ ⟨p, x2, y, rfl, np, rfl, e2, hy'⟩
      cases e2
      have hy' : ys[i]? = some y := hy'
      refine ⟨p, _, rfl, SqT.of upd_same, rfl, _, _, rfl, _, _, rfl, rfl, ?_⟩
      have S3 := S.trans (same_upd (o := .tup [.int (i : Nat), y]) np)
      have ay : AnyV (OwnT T) (upd H2 p (.tup [.int (i : Nat), y])) y := (hy y (List.mem_of_getElem? hy')).mono S3
      refine ⟨_, rfl, _, rfl, _, rfl, y, a, b, rfl, ay, _, rfl, ?_⟩
      cases g : intIn y a b with
      | true =>
        refine iteF ⟨_, _, S3, fun j z lt hz => ?_, rfl⟩
        rcases Nat.lt_or_ge j i with q | q
        · exact hf j z q hz
        · rw [show j = i by omega, hy'] at hz
          cases hz
          exact g
      | false =>
        have k2 := k _ S3
        rw [firstW_at hf hy' g] at k2
        exact iteT ⟨_, rfl, k2⟩
    · rintro σ H2 ⟨v3, v4, S, hf, rfl⟩
      have k2 := k _ S
      rw [firstW_none fun y hy => by
        obtain ⟨j, hj⟩ := List.mem_iff_getElem?.mp hy
        exact hf j y (List.getElem?_eq_some_iff.mp hj).1 hj] at k2
      exact k2

/-! ### lists and tuples -/
def seqOf (H : Hp) (x : V) : Option (List V) := match x with
  | .ref c => match H c with
    | some (.tup ys) => some ys
    | some (.lst ys) => some ys
    | _ => none
  | _ => none
theorem seqOf_at {H : Hp} {c : Addr} {ys : List V} (h : SqA H c ys) : seqOf H (.ref c) = some ys := by
  show (match H c with | some (.tup ys) => some ys | some (.lst ys) => some ys | _ => none) = _
  rcases h with h | h <;> rw [h]
theorem seqOf_some {H : Hp} {x : V} {ys : List V} (h : seqOf H x = some ys) : ∃ c, x = .ref c ∧ SqA H c ys := by
  cases x with
  | ref c =>
    refine ⟨c, rfl, ?_⟩
    have h2 : (match H c with | some (.tup ys) => some ys | some (.lst ys) => some ys | _ => none) = some ys := h
    split at h2
    · rename_i zs e
      cases h2
      exact .inr e
    · rename_i zs e
      cases h2
      exact .inl e
    · cases h2
  | _ => cases h
theorem seqOf_same {T : Addr → Prop} {H H2 : Hp} {x : V} (a : AnyV T H x) (S : Same H H2) : seqOf H2 x = seqOf H x := by
  cases e : seqOf H x with
  | some ys =>
    obtain ⟨c, rfl, h⟩ := seqOf_some e
    exact seqOf_at (h.same S)
  | none =>
    cases e2 : seqOf H2 x with
    | none => rfl
    | some ys =>
      obtain ⟨c, rfl, h⟩ := seqOf_some e2
      rw [seqOf_at (show SqA H c ys from h.imp (a.at S) (a.at S))] at e
      cases e
theorem isi_seq (T : Tx P K mg) {H : Hp} {x : V} (a : AnyV (OwnT T) H x) : ∃ t, TyX K H x t ∧ ∃ b, PySem.W.kitAny K t [.type "list", .type "tuple"] = some b ∧ (b = false → seqOf H x = none) ∧ (b = true → ∃ c ys, x = .ref c ∧ SqA H c ys) := by
  have no : ∀ {t : Value}, PySem.W.kitOne K t (.type "list") = some false → PySem.W.kitOne K t (.type "tuple") = some false → PySem.W.kitAny K t [.type "list", .type "tuple"] = some false := fun h1 h2 => kitAny_cons h1 (fun _ => kitAny_cons h2 (fun _ => rfl) (fun z => nomatch z)) (fun z => nomatch z)
  have un : ∀ {c : Addr} {o : HO}, H c = some o → (∀ ys, o ≠ .tup ys) → (∀ ys, o ≠ .lst ys) → seqOf H (.ref c) = none := fun {c o} e h1 h2 => by
    cases q : seqOf H (.ref c) with
    | none => rfl
    | some ys =>
      obtain ⟨c', e1, e2⟩ := seqOf_some q
      cases e1
      rcases e2 with e2 | e2
      · rw [e] at e2
        exact absurd (Option.some.inj e2) (h2 ys)
      · rw [e] at e2
        exact absurd (Option.some.inj e2) (h1 ys)
  cases a with
  | non => exact ⟨_, .base .non, false, no (kit_ty (by decide +kernel)) (kit_ty (by decide +kernel)), fun _ => rfl, fun z => nomatch z⟩
  | bl b => exact ⟨_, .base (.bl b), false, no (kit_ty (by decide +kernel)) (kit_ty (by decide +kernel)), fun _ => rfl, fun z => nomatch z⟩
  | int i => exact ⟨.type "int", .base (.int i), false, no (kit_ty (by decide +kernel)) (kit_ty (by decide +kernel)), fun _ => rfl, fun z => nomatch z⟩
  | str x => exact ⟨_, .base (.str x), false, no (kit_ty (by decide +kernel)) (kit_ty (by decide +kernel)), fun _ => rfl, fun z => nomatch z⟩
  | lst e => exact ⟨_, .base (.lst e), true, kitAny_cons (b := true) (kit_ty (by decide +kernel)) (fun z => nomatch z) (fun _ => rfl), fun z => (nomatch z), fun _ => ⟨_, _, rfl, .inl e⟩⟩
  | tup e => exact ⟨_, .base (.tup e), true, kitAny_cons (b := false) (kit_ty (by decide +kernel)) (fun _ => kitAny_cons (b := true) (kit_ty (by decide +kernel)) (fun z => nomatch z) (fun _ => rfl)) (fun z => nomatch z), fun z => (nomatch z), fun _ => ⟨_, _, rfl, .inr e⟩⟩
  | dct e => exact ⟨_, .base (.dK e), false, no (kit_ty (by decide +kernel)) (kit_ty (by decide +kernel)), fun _ => un e (fun _ z => nomatch z) (fun _ z => nomatch z), fun z => nomatch z⟩
  | ins t e => exact ⟨_, .base (t.ty e), false, no t.nlist t.ntuple, fun _ => un e (fun _ z => nomatch z) (fun _ z => nomatch z), fun z => nomatch z⟩
def spIsSeq (T : Tx P K mg) : Sp := fun vs H Q _ => ∃ (x : V) (lo hi : Int), vs = [x, .int lo, .int hi] ∧ AnyV (OwnT T) H x ∧ ∀ H2, Same H H2 → Q (.bl (isTup lo hi (seqOf H x))) H2
theorem ok_is_list_or_tuple (T : Tx P K mg) : FnOk P w K mg base CX0 lv_is_list_or_tuple T.a_is_list_or_tuple T.d_is_list_or_tuple ["told", "fewest", "most"] (spIsSeq T) := by
  refine T.F_is_list_or_tuple.ok sc_is_list_or_tuple (fun vs H Q E h => ?_) (fun cdv A outer s H vs Q E hr h => ?_)
  · obtain ⟨x, lo, hi, rfl, _⟩ := h
    rfl
  · obtain ⟨x, lo, hi, rfl, a, k⟩ := h
    refine ⟨_, (pss_one (ps_ret (pe_and (pe_callB call_isiT (by rfl) T.n_isinstance (by decide +kernel) (pa_cons (pv 0) (pa_cons (pe_tup (pa_cons (pe_bltn (v := .ty "list") rfl T.n_list (by decide +kernel) rfl) (pa_cons (pe_bltn (v := .ty "tuple") rfl T.n_tuple (by decide +kernel) rfl) pa_nil))) pa_nil))) (pe_one (pe_chain op_le op_le (pv 1) (pe_callB call_len_seq (by rfl) T.n_len (by decide +kernel) (pa_cons (pv 0) pa_nil)) (pv 2)))))), ?_⟩
    refine ⟨_, rfl, by show 2 ≤ sizeLine; decide, fun tp htp => ?_⟩
    have S := same_upd (o := .tup [.ty "list", .ty "tuple"]) htp
    have k := k _ S
    rw [← seqOf_same a S] at k
    have a2 := a.mono S
    obtain ⟨t, ty, q, e1, h1, h2⟩ := isi_seq T a2
    refine ⟨x, tp, _, t, _, q, rfl, upd_same, .cons (.ty _) (.cons (.ty _) .nil), ty, e1, q, rfl, ?_⟩
    cases q with
    | false =>
      rw [h1 rfl] at k
      exact iteF k
    | true =>
      obtain ⟨c, ys, rfl, e⟩ := h2 rfl
      rw [seqOf_at e] at k
      have k : Q (V.bl (decide (lo ≤ (ys.length : Int)) && decide ((ys.length : Int) ≤ hi))) _ := k
      refine iteT ⟨_, rfl, _, rfl, c, ys, rfl, e.len, _, _, rfl, rfl, _, rfl, ?_⟩
      refine ite2 (fun g1 => ?_) (fun g1 => ?_)
      · rw [g1] at k
        exact ⟨_, rfl, _, _, rfl, rfl, k⟩
      · rw [show decide (lo ≤ (ys.length : Int)) = false from by simpa using g1] at k
        exact k

/-! ### pairs -/
def pairOk (H : Hp) (x : V) : Bool := match tupOf H x with
  | some [y, z] => intIn y (-(10 ^ 40)) (10 ^ 40) && intIn z (-(10 ^ 40)) (10 ^ 40)
  | _ => false
theorem pairOk_at {H : Hp} {x y z : V} (h : tupOf H x = some [y, z]) : pairOk H x = (intIn y (-(10 ^ 40)) (10 ^ 40) && intIn z (-(10 ^ 40)) (10 ^ 40)) := by
  unfold pairOk
  rw [h]
theorem pairOk_no {H : Hp} {x : V} (h : ∀ y z, tupOf H x ≠ some [y, z]) : pairOk H x = false := by
  unfold pairOk
  split
  · rename_i y z e
    exact absurd e (h y z)
  · rfl
theorem pairOk_same {T : Addr → Prop} {H H2 : Hp} {x : V} (a : AnyV T H x) (S : Same H H2) : pairOk H2 x = pairOk H x := by
  unfold pairOk
  rw [tupOf_same a S]
def spIsPair (T : Tx P K mg) : Sp := fun vs H Q _ => ∃ x : V, vs = [x] ∧ AnyV (OwnT T) H x ∧ ItemsAny (OwnT T) H x ∧ Q (.bl (pairOk H x)) H
theorem ok_is_pair (T : Tx P K mg) : FnOk P w K mg base CX0 lv_is_pair T.a_is_pair T.d_is_pair ["told"] (spIsPair T) := by
  refine T.F_is_pair.ok sc_is_pair (fun vs H Q E h => ?_) (fun cdv A outer s H vs Q E hr h => ?_)
  · obtain ⟨x, rfl, _⟩ := h
    rfl
  · obtain ⟨x, rfl, a, ia, k⟩ := h
    refine ⟨_, (pss_one (ps_ret (pe_and (pe_callB call_isi (by rfl) T.n_isinstance (by decide +kernel) (pa_cons (pv 0) (pa_cons (pe_bltn (v := .ty "tuple") rfl T.n_tuple (by decide +kernel) rfl) pa_nil))) (pe_and (pe_cmpR op_eq (pe_callB call_len_seq (by rfl) T.n_len (by decide +kernel) (pa_cons (pv 0) pa_nil)) pe_int (nomark _)) (pe_and (pe_call (ok_is_number T) (hr.mono (by decide)) rfl T.g_is_number T.F_is_number.kp T.b_is_number .nil pass0 (pa_cons (pe_ix ix_tup (pv 0) pe_int (fun _ _ => rfl)) pa_nil)) (pe_one (pe_call (ok_is_number T) (hr.mono (by decide)) rfl T.g_is_number T.F_is_number.kp T.b_is_number .nil pass0 (pa_cons (pe_ix ix_tup (pv 0) pe_int (fun _ _ => rfl)) pa_nil)))))))), ?_⟩
    obtain ⟨t, ty, q, e1, h1, h2⟩ := isi_tup T a
    refine ⟨_, rfl, _, _, _, _, q, rfl, .ty _, ty, e1, q, rfl, ?_⟩
    cases q with
    | false =>
      rw [pairOk_no (fun y z => by rw [h1 rfl]; exact fun w => nomatch w)] at k
      exact iteF k
    | true =>
      obtain ⟨c, ys, rfl, e⟩ := h2 rfl
      refine iteT ⟨_, rfl, c, ys, rfl, .inr (SqT.of e), rfl, _, rfl, ?_⟩
      rw [dec_i]
      by_cases l : ys.length = 2
      · rw [decide_eq_true (show (ys.length : Int) = 2 by omega)]
        obtain ⟨y, z, rfl⟩ : ∃ y z, ys = [y, z] := match ys, l with
          | [y, z], _ => ⟨y, z, rfl⟩
        have ay := ia _ (tupOf_ref e) y (by simp)
        have az := ia _ (tupOf_ref e) z (by simp)
        rw [pairOk_at (tupOf_ref e)] at k
        refine iteT ⟨_, rfl, c, _, _, _, rfl, rfl, SqT.of e, at_of (j := 0) rfl rfl, y, rfl, ay, _, rfl, ?_⟩
        cases g : intIn y (-(10 ^ 40)) (10 ^ 40) with
        | false =>
          rw [g] at k
          exact iteF k
        | true =>
          rw [g] at k
          exact iteT ⟨_, rfl, c, _, _, _, rfl, rfl, SqT.of e, at_of (j := 1) rfl rfl, z, rfl, az, k⟩
      · rw [decide_eq_false (show ¬ (ys.length : Int) = 2 by omega)]
        rw [pairOk_no (fun y z => by rw [tupOf_ref e]; exact fun w => l (by cases w; rfl))] at k
        exact iteF k
/-- pairs, or the error -/
def spPairs (T : Tx P K mg) : Sp := fun vs H Q E => ∃ x : V, vs = [x] ∧ AnyV (OwnT T) H x ∧ (∀ ys, seqOf H x = some ys → ∀ y ∈ ys, AnyV (OwnT T) H y ∧ ItemsAny (OwnT T) H y) ∧
  (isTup 1 10 (seqOf H x) = false → ∀ H2 d, Same H H2 → H2 d = none → E (.ref T.C_BadPairs) (some d) (upd H2 d (.xd [(("index" : Str), .non)]))) ∧
  (∀ ys, isTup 1 10 (seqOf H x) = true → seqOf H x = some ys → ∀ (i : Nat) (y : V), ys[i]? = some y → pairOk H y = false → (∀ (j : Nat) (z : V), j < i → ys[j]? = some z → pairOk H z = true) → ∀ H2 d, Same H H2 → H2 d = none → E (.ref T.C_BadPairs) (some d) (upd H2 d (.xd [(("index" : Str), .int (i : Nat))]))) ∧
  (∀ ys, isTup 1 10 (seqOf H x) = true → seqOf H x = some ys → (∀ y ∈ ys, pairOk H y = true) → ∀ H2, Same H H2 → Q .non H2)
theorem ok_check_pairs (T : Tx P K mg) : FnOk P w K mg base (L2.CX P w) lv_check_pairs T.a_check_pairs T.d_check_pairs ["pairs"] (spPairs T) := by
  refine T.F_check_pairs.okX sc_check_pairs (fun vs H Q E h => ?_) (fun cdv A outer s H vs Q E hr h => ?_)
  · obtain ⟨x, rfl, _⟩ := h
    rfl
  · obtain ⟨x, rfl, a, ia, e1, e2, k⟩ := h
    refine ⟨_, (pss_cons (ps_if (pt_not (pt_val (pe_call (ok_is_list_or_tuple T) (hr.mono (by decide)) rfl T.g_is_list_or_tuple T.F_is_list_or_tuple.kp T.b_is_list_or_tuple .nil pass0 (pa_cons (pv 0) (pa_cons pe_int (pa_cons (pe_glob (v := .int 10) rfl T.c_MOST_PAIRS ⟨_, rfl⟩) pa_nil)))))) (pss_one (ps_raiseF T.x_BadPairs ar_BadPairs rfl hr (takes_of rfl rfl rfl rfl) (pa_cons pe_non pa_nil))) pss_nil)
      (pss_one (ps_for (passes_of rfl) rfl (pi_enumA (by rfl) T.n_enumerate (pa_cons (pv 0) pa_nil)) (pg_tup rfl (pgs_cons (pg_name (i := 1) sc_check_pairs.nd rfl (Or.inl rfl)) (pgs_cons (pg_name (i := 2) sc_check_pairs.nd rfl (Or.inl rfl)) pgs_nil))) (pss_one (ps_if (pt_not (pt_val (pe_call (ok_is_pair T) (hr.mono (by decide)) rfl T.g_is_pair T.F_is_pair.kp T.b_is_pair .nil pass0 (pa_cons (pv 2) pa_nil)))) (pss_one (ps_raiseF T.x_BadPairs ar_BadPairs rfl hr (takes_of rfl rfl rfl rfl) (pa_cons (pv 1) pa_nil))) pss_nil))))), ?_⟩
    refine ⟨_, rfl, x, 1, 10, rfl, a, fun H1 S1 => ⟨_, rfl, ?_⟩⟩
    cases g : isTup 1 10 (seqOf H x) with
    | false => exact iteT ⟨_, rfl, .inl rfl, fun d hd => e1 g H1 d S1 hd⟩
    | true =>
      refine iteF ?_
      cases es : seqOf H x with
      | none => rw [es] at g; cases g
      | some ys =>
        obtain ⟨c, rfl, hc⟩ := seqOf_some es
        have ln : ys.length ≤ 10 := by
          rw [es] at g
          have g2 : (decide ((1 : Int) ≤ (ys.length : Int)) && decide ((ys.length : Int) ≤ 10)) = true := g
          rw [Bool.and_eq_true, decide_eq_true_eq, decide_eq_true_eq] at g2
          omega
        refine enumA_of rfl (hc.same S1) fun J G wk hG => ?_
        refine for_it wk (fun i σ H2 => ∃ v1 v2 : Option V, Same H1 H2 ∧ (∀ (j : Nat) (z : V), j < i → ys[j]? = some z → pairOk H z = true) ∧ σ = [some (.ref c), v1, v2]) ⟨none, none, Same.refl H1, fun j z lt _ => absurd lt (Nat.not_lt_zero _), rfl⟩ (fun i σ H2 _ ⟨_, _, S, _, _⟩ => hG H2 S) ?_ ?_
        · rintro i x' σ H2 H3 hi ⟨v1, v2, S, hf, rfl⟩ ⟨p, x2, y, rfl, np, rfl, e2', hy'⟩
          cases e2'
          have hy' : ys[i]? = some y := hy'
          refine ⟨p, _, rfl, SqT.of upd_same, rfl, _, _, rfl, _, _, rfl, rfl, ?_⟩
          have S3 := (S1.trans S).trans (same_upd (o := .tup [.int (i : Nat), y]) np)
          obtain ⟨ay, iy⟩ := ia ys es y (List.mem_of_getElem? hy')
          refine ⟨_, rfl, y, rfl, ay.mono S3, iy.same ay S3, _, rfl, ?_⟩
          rw [pairOk_same ay S3]
          cases gp : pairOk H y with
          | true =>
            refine iteF ⟨_, _, S.trans (same_upd np), fun j z lt hz => ?_, rfl⟩
            rcases Nat.lt_or_ge j i with q | q
            · exact hf j z q hz
            · rw [show j = i by omega, hy'] at hz
              cases hz
              exact gp
          | false =>
            have li : i < ys.length := (List.getElem?_eq_some_iff.mp hy').1
            have sm : ((i : Int)).natAbs.log2 < 1920 := Nat.lt_of_le_of_lt (Nat.log2_le_self _) (by omega)
            exact iteT ⟨_, rfl, _, rfl, .inr ⟨_, rfl, sm⟩, fun d hd => e2 ys g es i y hy' gp hf _ d S3 hd⟩
        · rintro σ H2 ⟨v1, v2, S, hf, rfl⟩
          exact k ys g es (fun y hy => by
            obtain ⟨j, hj⟩ := List.mem_iff_getElem?.mp hy
            exact hf j y (List.getElem?_eq_some_iff.mp hj).1 hj) H2 (S1.trans S)

/-! ### fitting, as far as it refuses -/
/-- x is refused with v -/
structure PBad (T : Tx P K mg) (H : Hp) (x v : V) : Prop where
  any : AnyV (OwnT T) H x
  its : ∀ ys, seqOf H x = some ys → ∀ y ∈ ys, AnyV (OwnT T) H y ∧ ItemsAny (OwnT T) H y
  bad : (isTup 1 10 (seqOf H x) = false ∧ v = .non) ∨ ∃ ys, isTup 1 10 (seqOf H x) = true ∧ seqOf H x = some ys ∧ ∃ (i : Nat) (y : V), ys[i]? = some y ∧ pairOk H y = false ∧ (∀ (j : Nat) (z : V), j < i → ys[j]? = some z → pairOk H z = true) ∧ v = .int (i : Nat)
theorem PBad.same {T : Tx P K mg} {H H2 : Hp} {x v : V} (h : PBad T H x v) (S : Same H H2) : PBad T H2 x v := by
  have e := seqOf_same h.any S
  refine ⟨h.any.mono S, fun ys es y hy => ?_, ?_⟩
  · rw [e] at es
    obtain ⟨a, b⟩ := h.its ys es y hy
    exact ⟨a.mono S, b.same a S⟩
  · rw [e]
    rcases h.bad with b | ⟨ys, g, es, i, y, hy, gp, hf, ev⟩
    · exact .inl b
    · refine .inr ⟨ys, g, es, i, y, hy, ?_, fun j z hj hz => ?_, ev⟩
      · rw [pairOk_same (h.its ys es y (List.mem_of_getElem? hy)).1 S]
        exact gp
      · rw [pairOk_same (h.its ys es z (List.mem_of_getElem? hz)).1 S]
        exact hf j z hj hz
def spFitE (T : Tx P K mg) : Sp := fun vs H Q E => ∃ x v : V, vs = [x] ∧ PBad T H x v ∧ ∀ H2 d, Same H H2 → H2 d = none → E (.ref T.C_BadPairs) (some d) (upd H2 d (.xd [(("index" : Str), v)]))
theorem ok_fitting (T : Tx P K mg) : FnOk P w K mg base (L2.CX P w) lv_fitting T.a_fitting T.d_fitting ["pairs"] (spFitE T) := by
  refine T.F_fitting.okX sc_fitting (fun vs H Q E h => ?_) (fun cdv A outer s H vs Q E hr h => ?_)
  · obtain ⟨x, v, rfl, _⟩ := h
    rfl
  · obtain ⟨x, v, rfl, ⟨a, ia, hv⟩, k⟩ := h
    refine ⟨_, (pss_cons (ps_expr (pe_call (ok_check_pairs T) (hr.mono (by decide)) rfl T.g_check_pairs T.F_check_pairs.kp T.b_check_pairs .nil (passes_call (takes_of rfl rfl rfl rfl) fun _ _ _ _ h => h) (pa_cons (pv 0) pa_nil)))
      pss_nev), ?_⟩
    refine ⟨_, rfl, x, rfl, a, ia, fun g H2 d S hd => ?_, fun ys g es i y hy gp hf H2 d S hd => ?_, fun ys g es hg H2 S => ?_⟩
    · rcases hv with ⟨_, rfl⟩ | ⟨ys, g2, _⟩
      · exact k H2 d S hd
      · rw [g] at g2; cases g2
    · rcases hv with ⟨g2, _⟩ | ⟨ys', g2, es2, i', y', hy2, gp2, hf2, rfl⟩
      · rw [g] at g2; cases g2
      · rw [es] at es2
        cases es2
        have ei : i = i' := by
          rcases Nat.lt_trichotomy i i' with q | q | q
          · rw [hf2 i y q hy] at gp; cases gp
          · exact q
          · rw [hf i' y' q hy2] at gp2; cases gp2
        subst ei
        exact k H2 d S hd
    · rcases hv with ⟨g2, _⟩ | ⟨ys', g2, es2, i', y', hy2, gp2, hf2, rfl⟩
      · rw [g] at g2; cases g2
      · rw [es] at es2
        cases es2
        rw [hg y' (List.mem_of_getElem? hy2)] at gp2
        cases gp2

/-! ### the block -/
def blockOf (b t : Int) : Int := if t = 1 then b else b * b
theorem block_bd {b t : Int} (h1 : 2 ≤ b) (h2 : b ≤ 16) : 2 ≤ blockOf b t ∧ blockOf b t ≤ 256 := by
  unfold blockOf
  split
  · omega
  · have q : b * b ≤ 16 * 16 := Int.mul_le_mul h2 h2 (by omega) (by omega)
    have r : 2 * 2 ≤ b * b := Int.mul_le_mul h1 h1 (by omega) (by omega)
    omega
theorem pow_block {b t : Int} (t1 : 1 ≤ t) (t2 : t ≤ 2) : b ^ t.toNat = blockOf b t := by
  unfold blockOf
  by_cases h : t = 1
  · rw [if_pos h, h]
    exact Int.pow_succ b 0 |>.trans (by rw [Int.pow_zero, Int.one_mul])
  · have h2 : t = 2 := by omega
    rw [if_neg h, h2]
    exact Int.pow_succ b 1 |>.trans (by rw [Int.pow_succ, Int.pow_zero, Int.one_mul])

/-! ### tricks -/
def spBlockOf : Sp := fun vs H Q _ => ∃ b t : Int, vs = [.int b, .int t] ∧ 2 ≤ b ∧ b ≤ 16 ∧ Q (.int (blockOf b t)) H
theorem ok_block_of (T : Tx P K mg) : FnOk P w K mg base CX0 lv_block_of T.a_block_of T.d_block_of ["base", "take"] spBlockOf := by
  refine T.F_block_of.ok sc_block_of (fun vs H Q E h => ?_) (fun cdv A outer s H vs Q E hr h => ?_)
  · obtain ⟨b, t, rfl, _⟩ := h
    rfl
  · obtain ⟨b, t, rfl, h1, h2, k⟩ := h
    refine ⟨_, (pss_one (ps_ret (pe_ifExp (pt_cmpR op_eq (pv 1) pe_int (nomark _)) (pv 0) (pe_op op_mul (pv 0) (pv 0))))), ?_⟩
    refine ⟨_, rfl, rfl, _, rfl, ?_⟩
    refine ite2 (fun c => ?_) (fun c => ?_)
    · have c1 : t = 1 := by simpa using c
      have k2 : Q (.int b) H := by
        have e : blockOf b t = b := by unfold blockOf; rw [if_pos c1]
        rw [e] at k
        exact k
      exact ⟨_, rfl, k2⟩
    · have c1 : ¬ t = 1 := by simpa using c
      have k2 : Q (.int (b * b)) H := by
        have e : blockOf b t = b * b := by unfold blockOf; rw [if_neg c1]
        rw [e] at k
        exact k
      exact ⟨_, rfl, _, rfl, _, _, rfl, rfl, .inl ⟨by omega, by omega⟩, k2⟩

/-- a trick's attributes -/
def tf (b t m : Int) : List (Str × V) := putF "_times" (.int m) (putF "_take" (.int t) (putF "_base" (.int b) []))
theorem n1 : ¬ (("_base" : Str) = "_take") := by decide +kernel
theorem n2 : ¬ (("_base" : Str) = "_times") := by decide +kernel
theorem n3 : ¬ (("_take" : Str) = "_times") := by decide +kernel
theorem tf_eq (b t m : Int) : tf b t m = ([("_base", V.int b), ("_take", V.int t), ("_times", V.int m)] : List (Str × V)) := by
  have e2 : putF "_take" (V.int t) (putF "_base" (V.int b) []) = ([("_base", V.int b), ("_take", V.int t)] : List (Str × V)) := by
    show (if ("_base" : Str) = "_take" then [(("_base" : Str), V.int t)] else (("_base" : Str), V.int b) :: putF "_take" (V.int t) []) = _
    rw [if_neg n1]
    all_goals rfl
  unfold tf
  rw [e2]
  show (if ("_base" : Str) = "_times" then _ else (("_base" : Str), V.int b) :: (if ("_take" : Str) = "_times" then _ else (("_take" : Str), V.int t) :: putF "_times" (V.int m) [])) = _
  rw [if_neg n2, if_neg n3]
  all_goals rfl
theorem tf_base (b t m : Int) : (tf b t m).lookup ("_base" : Str) = some (.int b) := by
  unfold tf
  rw [lookup_putF, if_neg n2, lookup_putF, if_neg n1, lookup_putF, if_pos rfl]
theorem tf_take (b t m : Int) : (tf b t m).lookup ("_take" : Str) = some (.int t) := by
  unfold tf
  rw [lookup_putF, if_neg n3, lookup_putF, if_pos rfl]
theorem tf_times (b t m : Int) : (tf b t m).lookup ("_times" : Str) = some (.int m) := by
  unfold tf
  rw [lookup_putF, if_pos rfl]
/-- the Trick of these parts stands at p -/
def TrickAt (T : Tx P K mg) (H : Hp) (p : Addr) (b t m : Int) : Prop := (∃ dx, H p = some (.ins T.C_Trick dx (tf b t m))) ∧ 2 ≤ b ∧ b ≤ 16 ∧ 1 ≤ t ∧ t ≤ 2 ∧ -100 ≤ m ∧ m ≤ 100
theorem TrickAt.same {T : Tx P K mg} {H H' : Hp} {p : Addr} {b t m : Int} (h : TrickAt T H p b t m) (s : Same H H') : TrickAt T H' p b t m :=
  let ⟨⟨dx, e⟩, r⟩ := h
  ⟨⟨dx, s _ _ e⟩, r⟩
theorem TrickAt.but {T : Tx P K mg} {H H' : Hp} {p r : Addr} {b t m : Int} (h : TrickAt T H p b t m) (s : But r H H') (n : p ≠ r) : TrickAt T H' p b t m :=
  let ⟨⟨dx, e⟩, q⟩ := h
  ⟨⟨dx, s _ _ e n⟩, q⟩
theorem TrickAt.any {T : Tx P K mg} {H : Hp} {p : Addr} {b t m : Int} (h : TrickAt T H p b t m) : AnyV (OwnT T) H (.ref p) :=
  let ⟨⟨_, e⟩, _⟩ := h
  .ins (by first | exact rfl | exact Or.inl rfl) e
theorem isi_trick (T : Tx P K mg) {H : Hp} {x : V} (a : AnyV (fun _ => False) H x) : ∃ t, TyX K H x t ∧ PySem.W.kitOne K t (.ref T.C_Trick) = some false := by
  cases a with
  | non => exact ⟨_, .base .non, T.kin_Trick_NoneType⟩
  | bl b => exact ⟨_, .base (.bl b), T.kin_Trick_bool⟩
  | int i => exact ⟨_, .base (.int i), T.kin_Trick_int⟩
  | str x => exact ⟨_, .base (.str x), T.kin_Trick_str⟩
  | lst e => exact ⟨_, .base (.lst e), T.kin_Trick_list⟩
  | tup e => exact ⟨_, .base (.tup e), T.kin_Trick_tuple⟩
  | dct e => exact ⟨_, .base (.dK e), T.kin_Trick_dict⟩
  | ins t e => exact t.elim

/-- Trick(x, y, z) of any values: the first error, or a new object -/
def sp_Trick___init__ (T : Tx P K mg) : Sp := fun vs H Q E => ∃ (p dx : Addr) (x y z : V), vs = [.ref p, x, y, z] ∧ H p = some (.ins T.C_Trick dx []) ∧ AnyV (OwnT T) H x ∧ AnyV (OwnT T) H y ∧ AnyV (OwnT T) H z ∧
  (intIn x 2 16 = false → E (.ref T.C_BadBase) none H) ∧ (intIn x 2 16 = true → intIn y 1 2 = false → E (.ref T.C_BadTake) none H) ∧ (intIn x 2 16 = true → intIn y 1 2 = true → intIn z (-100) 100 = false → E (.ref T.C_BadTimes) none H) ∧
  ∀ b t m : Int, x = .int b → y = .int t → z = .int m → 2 ≤ b → b ≤ 16 → 1 ≤ t → t ≤ 2 → -100 ≤ m → m ≤ 100 → ∀ H', TrickAt T H' p b t m → (∀ c o, H c = some o → c ≠ p → H' c = some o) → Q .non H'
theorem intIn_int {x : V} {lo hi : Int} (h : intIn x lo hi = true) : ∃ i, x = .int i ∧ lo ≤ i ∧ i ≤ hi := by
  cases x with
  | int i =>
    have h2 : (decide (lo ≤ i) && decide (i ≤ hi)) = true := h
    rw [Bool.and_eq_true, decide_eq_true_iff, decide_eq_true_iff] at h2
    exact ⟨i, rfl, h2⟩
  | _ => cases h
theorem ok_Trick___init__ (T : Tx P K mg) : FnOk P w K mg base (L2.CX P w) lv_Trick___init__ T.a_Trick___init__ T.d_Trick___init__ ["self", "base", "take", "times"] (sp_Trick___init__ T) := by
  refine T.F_Trick___init__.okX sc_Trick___init__ (fun vs H Q E h => ?_) (fun cdv A outer s H vs Q E hr h => ?_)
  · obtain ⟨p, dx, x, y, z, rfl, _⟩ := h
    rfl
  · obtain ⟨p, dx, x, y, z, rfl, hp, ax, ay, az, e1, e2, e3, k⟩ := h
    refine ⟨_, (pss_cons (ps_expr (pe_call (ok_check_base T) (hr.mono (by decide)) rfl T.g_check_base T.F_check_base.kp T.b_check_base .nil (passes_call (takes_of rfl rfl rfl rfl) fun _ _ _ _ h => h) (pa_cons (pv 1) pa_nil)))
      (pss_cons (ps_expr (pe_call (ok_check_take T) (hr.mono (by decide)) rfl T.g_check_take T.F_check_take.kp T.b_check_take .nil (passes_call (takes_of rfl rfl rfl rfl) fun _ _ _ _ h => h) (pa_cons (pv 2) pa_nil)))
      (pss_cons (ps_if (pt_not (pt_val (pe_call (ok_is_integer T) (hr.mono (by decide)) rfl T.g_is_integer T.F_is_integer.kp T.b_is_integer .nil pass0 (pa_cons (pv 3) (pa_cons (pe_un un_neg (pe_glob (v := .int 100) rfl T.c_GREATEST_TIMES ⟨_, rfl⟩)) (pa_cons (pe_glob (v := .int 100) rfl T.c_GREATEST_TIMES ⟨_, rfl⟩) pa_nil)))))) (pss_one (ps_raise rfl (takes_of rfl rfl rfl rfl) (pmk_own PySem.F.excBase_ValueError T.x_BadTimes T.g_BadTimes T.k_BadTimes (raises_own T.s_BadTimes T.t_BadTimes) rfl))) pss_nil)
      (pss_cons (ps_fld (pv 0) (pv 1) rfl)
      (pss_cons (ps_fld (pv 0) (pv 2) rfl)
      (pss_one (ps_fld (pv 0) (pv 3) rfl))))))), ?_⟩
    refine ⟨_, rfl, x, rfl, ax, fun g1 => ?_, e1⟩
    refine ⟨_, rfl, y, rfl, ay, fun g2 => ?_, e2 g1⟩
    refine ⟨_, rfl, _, rfl, z, _, _, rfl, az, _, rfl, ?_⟩
    cases g3 : intIn z (-100) 100 with
    | false =>
      exact iteT (e3 g1 g2 g3)
    | true =>
      obtain ⟨b, rfl, b1, b2⟩ := intIn_int g1
      obtain ⟨t, rfl, t1, t2⟩ := intIn_int g2
      obtain ⟨m, rfl, m1, m2⟩ := intIn_int g3
      refine iteF ?_
      refine ⟨_, rfl, _, rfl, p, _, dx, _, rfl, hp, T.cl_Trick, T.na_Trick_base, (by show 0 < 1000; decide), ?_⟩
      refine ⟨_, rfl, _, rfl, p, _, dx, _, rfl, upd_same, T.cl_Trick, T.na_Trick_take, (by show 1 < 1000; decide), ?_⟩
      refine ⟨_, rfl, _, rfl, p, _, dx, _, rfl, upd_same, T.cl_Trick, T.na_Trick_times, (by show 2 < 1000; decide), ?_⟩
      refine k b t m rfl rfl rfl b1 b2 t1 t2 m1 m2 _ ⟨⟨dx, upd_same⟩, b1, b2, t1, t2, m1, m2⟩ fun c o e hc => ?_
      rw [upd_ne hc, upd_ne hc, upd_ne hc]
      exact e
/-- a Trick of good parts is made -/
theorem mk_trick {T : Tx P K mg} {H1 : Hp} {p dx : Addr} {b t m : Int} {R : Hp → Prop} (np : H1 p = none) (nd : H1 dx = none) (b1 : 2 ≤ b) (b2 : b ≤ 16) (t1 : 1 ≤ t) (t2 : t ≤ 2) (m1 : -100 ≤ m) (m2 : m ≤ 100)
    (k : ∀ H2, TrickAt T H2 p b t m → Same H1 H2 → R H2) : sp_Trick___init__ T (.ref p :: ([.int b, .int t, .int m] ++ [])) (upd (upd H1 dx (.own p)) p (.ins T.C_Trick dx [])) (fun v H2 => v = .non ∧ R H2) E0 := by
  refine ⟨p, dx, .int b, .int t, .int m, rfl, upd_same, .int b, .int t, .int m, fun z => ?_, fun _ z => ?_, fun _ _ z => ?_, fun b' t' m' e1 e2 e3 _ _ _ _ _ _ H2 hT kp => ⟨rfl, ?_⟩⟩
  · rw [intIn_of b1 b2] at z; cases z
  · rw [intIn_of t1 t2] at z; cases z
  · rw [intIn_of m1 m2] at z; cases z
  · cases e1; cases e2; cases e3
    exact k H2 hT (Same.made np nd kp)

/-! ### a trick's parts, its block -/
def spGet (T : Tx P K mg) (f : Int → Int → Int → Int) : Sp := fun vs H Q _ => ∃ (p : Addr) (b t m : Int), vs = [.ref p] ∧ TrickAt T H p b t m ∧ Q (.int (f b t m)) H
theorem ok_Trick_base (T : Tx P K mg) : FnOk P w K mg base CX0 lv_Trick_base T.a_Trick_base T.d_Trick_base ["self"] (spGet T fun b _ _ => b) := by
  refine T.F_Trick_base.ok sc_Trick_base (fun vs H Q E h => ?_) (fun cdv A outer s H vs Q E hr h => ?_)
  · obtain ⟨p, b, t, m, rfl, _⟩ := h
    rfl
  · obtain ⟨p, b, t, m, rfl, ⟨⟨dx, e⟩, _⟩, k⟩ := h
    exact ⟨_, (pss_one (ps_ret (pe_fld (pv 0) rfl))), _, rfl, p, _, dx, _, _, rfl, e, T.cl_Trick, T.na_Trick_base, tf_base b t m, k⟩
theorem ok_Trick_take (T : Tx P K mg) : FnOk P w K mg base CX0 lv_Trick_take T.a_Trick_take T.d_Trick_take ["self"] (spGet T fun _ t _ => t) := by
  refine T.F_Trick_take.ok sc_Trick_take (fun vs H Q E h => ?_) (fun cdv A outer s H vs Q E hr h => ?_)
  · obtain ⟨p, b, t, m, rfl, _⟩ := h
    rfl
  · obtain ⟨p, b, t, m, rfl, ⟨⟨dx, e⟩, _⟩, k⟩ := h
    exact ⟨_, (pss_one (ps_ret (pe_fld (pv 0) rfl))), _, rfl, p, _, dx, _, _, rfl, e, T.cl_Trick, T.na_Trick_take, tf_take b t m, k⟩
theorem ok_Trick_times (T : Tx P K mg) : FnOk P w K mg base CX0 lv_Trick_times T.a_Trick_times T.d_Trick_times ["self"] (spGet T fun _ _ m => m) := by
  refine T.F_Trick_times.ok sc_Trick_times (fun vs H Q E h => ?_) (fun cdv A outer s H vs Q E hr h => ?_)
  · obtain ⟨p, b, t, m, rfl, _⟩ := h
    rfl
  · obtain ⟨p, b, t, m, rfl, ⟨⟨dx, e⟩, _⟩, k⟩ := h
    exact ⟨_, (pss_one (ps_ret (pe_fld (pv 0) rfl))), _, rfl, p, _, dx, _, _, rfl, e, T.cl_Trick, T.na_Trick_times, tf_times b t m, k⟩

theorem ok_trick_block (T : Tx P K mg) : FnOk P w K mg base CX0 lv_trick_block T.a_trick_block T.d_trick_block ["trick"] (spGet T fun b t _ => blockOf b t) := by
  refine T.F_trick_block.ok sc_trick_block (fun vs H Q E h => ?_) (fun cdv A outer s H vs Q E hr h => ?_)
  · obtain ⟨p, b, t, m, rfl, _⟩ := h
    rfl
  · obtain ⟨p, b, t, m, rfl, a, k⟩ := h
    obtain ⟨⟨dx, e⟩, b1, b2, _⟩ := id a
    exact ⟨_, (pss_one (ps_ret (pe_call (ok_block_of T) (hr.mono (by decide)) rfl T.g_block_of T.F_block_of.kp T.b_block_of .nil pass0 (pa_cons (pe_prop (pv 0) T.cl_Trick T.p_Trick_base (ok_Trick_base T) (hr.mono (by decide)) T.b_Trick_base .nil pass0 rfl) (pa_cons (pe_prop (pv 0) T.cl_Trick T.p_Trick_take (ok_Trick_take T) (hr.mono (by decide)) T.b_Trick_take .nil pass0 rfl) pa_nil))))), _, rfl, p, dx, _, rfl, e, p, b, t, m, rfl, a, _, rfl, p, dx, _, rfl, e, p, b, t, m, rfl, a, b, t, rfl, b1, b2, k⟩

/-- what is a Trick, or the error -/
def isTrick (T : Tx P K mg) (H : Hp) (x : V) : Prop := ∃ p b t m, x = .ref p ∧ TrickAt T H p b t m
def spChkTrick (T : Tx P K mg) : Sp := fun vs H Q E => ∃ x : V, vs = [x] ∧ ((∃ p dx fs, x = .ref p ∧ H p = some (.ins T.C_Trick dx fs) ∧ Q .non H) ∨ (AnyV (fun _ => False) H x ∧ E (.ref T.C_BadTrick) none H))
theorem ok_check_trick (T : Tx P K mg) : FnOk P w K mg base (L2.CX P w) lv_check_trick T.a_check_trick T.d_check_trick ["trick"] (spChkTrick T) := by
  refine T.F_check_trick.okX sc_check_trick (fun vs H Q E h => ?_) (fun cdv A outer s H vs Q E hr h => ?_)
  · obtain ⟨x, rfl, _⟩ := h
    rfl
  · obtain ⟨x, rfl, h⟩ := h
    refine ⟨_, (pss_one (ps_if (pt_not (pt_val (pe_callB call_isi (by rfl) T.n_isinstance (by decide +kernel) (pa_cons (pv 0) (pa_cons (pe_glob (v := .ref T.C_Trick) rfl T.g_Trick rfl) pa_nil))))) (pss_one (ps_raise rfl (takes_of rfl rfl rfl rfl) (pmk_own PySem.F.excBase_ValueError T.x_BadTrick T.g_BadTrick T.k_BadTrick (raises_own T.s_BadTrick T.t_BadTrick) rfl))) pss_nil)), ?_⟩
    rcases h with ⟨p, dx, fs, rfl, e, k⟩ | ⟨a, k⟩
    · exact ⟨_, rfl, _, _, _, _, _, rfl, .own _, .base (T.ins_Trick _ _ _ _ e), T.kis_Trick, _, rfl, iteF k⟩
    · obtain ⟨t, ty, e⟩ := isi_trick T a
      exact ⟨_, rfl, _, _, _, _, _, rfl, .own _, ty, e, _, rfl, iteT k⟩

/-! ### what a trick makes; the stretch behind which all comes again -/
def made (b t m n : Int) : Int := n / blockOf b t + m * n.fmod (blockOf b t)
def spMadeW (K : PySem.W.Frag) : Sp := fun vs H Q _ => ∃ B m n : Int, vs = [.int B, .int m, .int n] ∧ 2 ≤ B ∧ B ≤ 256 ∧ -100 ≤ m ∧ m ≤ 100 ∧ Q (.int (n / B + m * n.fmod B)) H
theorem ok_made_with (T : Tx P K mg) : FnOk P w K mg base CX0 lv_made_with T.a_made_with T.d_made_with ["block", "times", "n"] (spMadeW K) := by
  refine T.F_made_with.ok sc_made_with (fun vs H Q E h => ?_) (fun cdv A outer s H vs Q E hr h => ?_)
  · obtain ⟨B, m, n, rfl, _⟩ := h
    rfl
  · obtain ⟨B, m, n, rfl, B1, B2, m1, m2, k⟩ := h
    refine ⟨_, (pss_one (ps_ret (pe_op op_add (pe_op op_fdivW (pv 2) (pv 0)) (pe_op op_mul (pv 1) (pe_op op_modN (pv 2) (pv 0)))))), ?_⟩
    refine ⟨_, rfl, _, rfl, _, _, rfl, rfl, wide_div (show 0 < B by omega) (b := 9) (show B.natAbs < 2 ^ 9 by omega) (by decide) (by decide), ?_⟩
    exact ⟨_, rfl, _, rfl, _, rfl, _, _, rfl, rfl, (show B ≠ 0 by omega), _, _, rfl, rfl, .inl (show -(2 ^ 64) < m ∧ m < 2 ^ 64 from ⟨by omega, by omega⟩), _, _, rfl, rfl, k⟩
def spMade (T : Tx P K mg) : Sp := fun vs H Q _ => ∃ (p : Addr) (b t m n : Int), vs = [.ref p, .int n] ∧ TrickAt T H p b t m ∧ Q (.int (made b t m n)) H
theorem ok_made_of (T : Tx P K mg) : FnOk P w K mg base CX0 lv_made_of T.a_made_of T.d_made_of ["trick", "n"] (spMade T) := by
  refine T.F_made_of.ok sc_made_of (fun vs H Q E h => ?_) (fun cdv A outer s H vs Q E hr h => ?_)
  · obtain ⟨p, b, t, m, n, rfl, _⟩ := h
    rfl
  · obtain ⟨p, b, t, m, n, rfl, a, k⟩ := h
    obtain ⟨⟨dx, e⟩, b1, b2, t1, t2, m1, m2⟩ := id a
    obtain ⟨B1, B2⟩ := block_bd (t := t) b1 b2
    refine ⟨_, (pss_one (ps_ret (pe_call (ok_made_with T) (hr.mono (by decide)) rfl T.g_made_with T.F_made_with.kp T.b_made_with .nil pass0 (pa_cons (pe_call (ok_trick_block T) (hr.mono (by decide)) rfl T.g_trick_block T.F_trick_block.kp T.b_trick_block .nil pass0 (pa_cons (pv 0) pa_nil)) (pa_cons (pe_prop (pv 0) T.cl_Trick T.p_Trick_times (ok_Trick_times T) (hr.mono (by decide)) T.b_Trick_times .nil pass0 rfl) (pa_cons (pv 1) pa_nil)))))), ?_⟩
    refine ⟨_, rfl, p, b, t, m, rfl, a, ?_⟩
    refine ⟨_, rfl, p, dx, _, rfl, e, p, b, t, m, rfl, a, ?_⟩
    exact ⟨_, rfl, _, _, _, rfl, by omega, by omega, m1, m2, k⟩

/-! ### chains of tricks -/
abbrev Prt : Type := Int × Int × Int
/-- the values are tricks of these parts -/
def Trs (T : Tx P K mg) (H : Hp) : List V → List Prt → Prop
  | [], [] => True
  | v :: vs, z :: l => (∃ p, v = .ref p ∧ TrickAt T H p z.1 z.2.1 z.2.2) ∧ Trs T H vs l
  | _, _ => False
theorem Trs.of {T : Tx P K mg} {H H' : Hp} (e : ∀ p b t m, TrickAt T H p b t m → TrickAt T H' p b t m) : ∀ {vs : List V} {l : List Prt}, Trs T H vs l → Trs T H' vs l
  | [], [], _ => trivial
  | _ :: _, _ :: _, ⟨⟨q, h1, h2⟩, h3⟩ => ⟨⟨q, h1, e _ _ _ _ h2⟩, h3.of e⟩
  | [], _ :: _, h => h.elim
  | _ :: _, [], h => h.elim
theorem Trs.same {T : Tx P K mg} {H H' : Hp} {vs : List V} {l : List Prt} (h : Trs T H vs l) (S : Same H H') : Trs T H' vs l := h.of fun _ _ _ _ e => e.same S
theorem Trs.but {T : Tx P K mg} {H H' : Hp} {r : Addr} {ys : List V} {vs : List V} {l : List Prt} (h : Trs T H vs l) (hr : H r = some (.lst ys)) (B : But r H H') : Trs T H' vs l :=
  h.of fun p _ _ _ e => e.but B fun z => by
    obtain ⟨⟨dx, e1⟩, _⟩ := e
    rw [z, hr] at e1
    cases e1
theorem Trs.len {T : Tx P K mg} {H : Hp} : ∀ {vs : List V} {l : List Prt}, Trs T H vs l → vs.length = l.length
  | [], [], _ => rfl
  | _ :: _, _ :: _, ⟨_, h3⟩ => congrArg Nat.succ h3.len
  | [], _ :: _, h => h.elim
  | _ :: _, [], h => h.elim
theorem Trs.at {T : Tx P K mg} {H : Hp} : ∀ {vs : List V} {l : List Prt}, Trs T H vs l → ∀ {i : Nat} {y : V}, vs[i]? = some y → ∃ p z, y = .ref p ∧ l[i]? = some z ∧ TrickAt T H p z.1 z.2.1 z.2.2
  | [], [], _, i, y, h => by cases h
  | _ :: _, z :: _, ⟨⟨q, h1, h2⟩, _⟩, 0, y, h => by
    cases h
    exact ⟨q, z, h1, rfl, h2⟩
  | _ :: _, _ :: _, ⟨_, h3⟩, i + 1, y, h => h3.at (i := i) h
  | [], _ :: _, h, _, _, _ => h.elim
  | _ :: _, [], h, _, _, _ => h.elim
theorem Trs.snoc {T : Tx P K mg} {H : Hp} {q : Addr} {z : Prt} (hq : TrickAt T H q z.1 z.2.1 z.2.2) : ∀ {vs : List V} {l : List Prt}, Trs T H vs l → Trs T H (vs ++ [.ref q]) (l ++ [z])
  | [], [], _ => ⟨⟨q, rfl, hq⟩, trivial⟩
  | _ :: _, _ :: _, ⟨h1, h3⟩ => ⟨h1, h3.snoc hq⟩
  | [], _ :: _, h => h.elim
  | _ :: _, [], h => h.elim
theorem Trs.take {T : Tx P K mg} {H : Hp} : ∀ {vs : List V} {l : List Prt} (k : Nat), Trs T H vs l → Trs T H (vs.take k) (l.take k)
  | [], [], k, _ => by rw [List.take_nil, List.take_nil]; trivial
  | _ :: _, _ :: _, 0, _ => trivial
  | _ :: _, _ :: _, k + 1, ⟨h1, h3⟩ => ⟨h1, h3.take k⟩
  | [], _ :: _, _, h => h.elim
  | _ :: _, [], _, h => h.elim
/-- is a Trick -/
def isT (T : Tx P K mg) (H : Hp) (y : V) : Prop := ∃ p dx fs, y = .ref p ∧ H p = some (.ins T.C_Trick dx fs)
theorem isT.same {T : Tx P K mg} {H H' : Hp} {y : V} (h : isT T H y) (S : Same H H') : isT T H' y :=
  let ⟨p, dx, fs, e, hp⟩ := h
  ⟨p, dx, fs, e, S _ _ hp⟩
theorem Trs.isT {T : Tx P K mg} {H : Hp} {vs : List V} {l : List Prt} (h : Trs T H vs l) {i : Nat} {y : V} (hy : vs[i]? = some y) : isT T H y := by
  obtain ⟨p, z, e, _, ⟨dx, hp⟩, _⟩ := h.at hy
  exact ⟨p, dx, _, e, hp⟩
def errN (T : Tx P K mg) (E : XK) (C : Addr) (f : Str) (H : Hp) (v : V) : Prop := ∀ H2 d, Same H H2 → H2 d = none → E (.ref C) (some d) (upd H2 d (.xd [(f, v)]))
/-- a list or tuple of 1 to 4 tricks, or the error -/
def spTricks (T : Tx P K mg) : Sp := fun vs H Q E => ∃ x : V, vs = [x] ∧
  ((AnyV (OwnT T) H x ∧ isTup 1 4 (seqOf H x) = false ∧ errN T E T.C_BadTricks "index" H .non) ∨
   ∃ (c : Addr) (ys : List V) (lim : Nat), x = .ref c ∧ SqA H c ys ∧ 1 ≤ ys.length ∧ ys.length ≤ 4 ∧ lim ≤ ys.length ∧ (∀ (j : Nat) (z : V), j < lim → ys[j]? = some z → isT T H z) ∧
     (lim < ys.length → ∃ y, ys[lim]? = some y ∧ AnyV (fun _ => False) H y ∧ errN T E T.C_BadTricks "index" H (.int (lim : Nat))) ∧ (lim = ys.length → ∀ H2, Same H H2 → Q .non H2))
theorem SqA.any {T : Addr → Prop} {H : Hp} {c : Addr} {ys : List V} (h : SqA H c ys) : AnyV T H (.ref c) := h.elim .lst .tup
theorem isTup_len {lo hi : Nat} {H : Hp} {c : Addr} {ys : List V} (h : SqA H c ys) (l1 : lo ≤ ys.length) (l2 : ys.length ≤ hi) : isTup lo hi (seqOf H (.ref c)) = true := by
  rw [seqOf_at h]
  show (decide ((lo : Int) ≤ (ys.length : Int)) && decide ((ys.length : Int) ≤ (hi : Int))) = true
  rw [Bool.and_eq_true, decide_eq_true_eq, decide_eq_true_eq]
  omega
theorem ok_check_tricks (T : Tx P K mg) : FnOk P w K mg base (L2.CX P w) lv_check_tricks T.a_check_tricks T.d_check_tricks ["tricks"] (spTricks T) := by
  refine T.F_check_tricks.okX sc_check_tricks (fun vs H Q E h => ?_) (fun cdv A outer s H vs Q E hr h => ?_)
  · obtain ⟨x, rfl, _⟩ := h
    rfl
  · obtain ⟨x, rfl, h⟩ := h
    refine ⟨_, (pss_cons (ps_if (pt_not (pt_val (pe_call (ok_is_list_or_tuple T) (hr.mono (by decide)) rfl T.g_is_list_or_tuple T.F_is_list_or_tuple.kp T.b_is_list_or_tuple .nil pass0 (pa_cons (pv 0) (pa_cons pe_int (pa_cons (pe_glob (v := .int 4) rfl T.c_MOST_TRICKS ⟨_, rfl⟩) pa_nil)))))) (pss_one (ps_raiseF T.x_BadTricks ar_BadTricks rfl hr (takes_of rfl rfl rfl rfl) (pa_cons pe_non pa_nil))) pss_nil)
      (pss_one (ps_for (passes_of rfl) rfl (pi_enumA (by rfl) T.n_enumerate (pa_cons (pv 0) pa_nil)) (pg_tup rfl (pgs_cons (pg_name (i := 1) sc_check_tricks.nd rfl (Or.inl rfl)) (pgs_cons (pg_name (i := 2) sc_check_tricks.nd rfl (Or.inl rfl)) pgs_nil))) (pss_one (ps_if (pt_not (pt_val (pe_callB call_isi (by rfl) T.n_isinstance (by decide +kernel) (pa_cons (pv 2) (pa_cons (pe_glob (v := .ref T.C_Trick) rfl T.g_Trick rfl) pa_nil))))) (pss_one (ps_raiseF T.x_BadTricks ar_BadTricks rfl hr (takes_of rfl rfl rfl rfl) (pa_cons (pv 1) pa_nil))) pss_nil))))), ?_⟩
    rcases h with ⟨a, g, e⟩ | ⟨c, ys, lim, rfl, hc, l1, l2, hl, hi, e, k⟩
    · refine ⟨_, rfl, x, 1, 4, rfl, a, fun H1 S1 => ⟨_, rfl, ?_⟩⟩
      rw [g]
      exact iteT ⟨_, rfl, .inl rfl, fun d hd => e H1 d S1 hd⟩
    · refine ⟨_, rfl, .ref c, 1, 4, rfl, SqA.any hc, fun H1 S1 => ⟨_, rfl, ?_⟩⟩
      rw [show isTup 1 4 (seqOf H (.ref c)) = true from isTup_len (lo := 1) (hi := 4) hc l1 l2]
      refine iteF (enumA_of rfl (hc.same S1) fun J G wk hG => ?_)
      refine for_it wk (fun i σ H2 => ∃ v1 v2 : Option V, Same H1 H2 ∧ i ≤ lim ∧ σ = [some (.ref c), v1, v2]) ⟨none, none, Same.refl H1, Nat.zero_le _, rfl⟩ (fun i σ H2 _ ⟨_, _, S, _, _⟩ => hG H2 S) ?_ ?_
      · rintro i x' σ H2 H3 hin ⟨v1, v2, S, hlim, rfl⟩ ⟨p, x2, y, rfl, np, rfl, e2', hy'⟩
        cases e2'
        have hy' : ys[i]? = some y := hy'
        refine ⟨p, _, rfl, SqT.of upd_same, rfl, _, _, rfl, _, _, rfl, rfl, ?_⟩
        have S3 := (S1.trans S).trans (same_upd (o := .tup [.int (i : Nat), y]) np)
        rcases Nat.lt_or_ge i lim with q | q
        · obtain ⟨p2, dx, fs, rfl, hp⟩ := (hi i y q hy').same S3
          exact ⟨_, rfl, _, _, _, _, _, rfl, .own _, .base (T.ins_Trick _ _ _ _ hp), T.kis_Trick, _, rfl, iteF ⟨_, _, S.trans (same_upd np), by omega, rfl⟩⟩
        · have ei : i = lim := by omega
          subst ei
          obtain ⟨y2, hy2, ay, er⟩ := e hin
          rw [hy'] at hy2
          cases hy2
          obtain ⟨t, ty, ek⟩ := isi_trick T (ay.mono S3)
          have sm : ((i : Int)).natAbs.log2 < 1920 := Nat.lt_of_le_of_lt (Nat.log2_le_self _) (by omega)
          exact ⟨_, rfl, _, _, _, _, _, rfl, .own _, ty, ek, _, rfl, iteT ⟨_, rfl, _, rfl, .inr ⟨_, rfl, sm⟩, fun d hd => er _ d S3 hd⟩⟩
      · rintro σ H2 ⟨v1, v2, S, hlim, rfl⟩
        exact k (by omega) H2 (S1.trans S)
/-! ### what a chain makes -/
def mkAll (qs : List Prt) (n : Int) : Int := qs.foldl (fun n q => made q.1 q.2.1 q.2.2 n) n
def wide (qs : List Prt) : Int := qs.foldl (fun w q => w * blockOf q.1 q.2.1) 1
theorem take_snoc {α : Type} {l : List α} {i : Nat} {z : α} (h : l[i]? = some z) : l.take (i + 1) = l.take i ++ [z] := by
  obtain ⟨hi, e⟩ := List.getElem?_eq_some_iff.mp h
  rw [List.take_succ, h]
  rfl
theorem mkAll_snoc (qs : List Prt) (z : Prt) (n : Int) : mkAll (qs ++ [z]) n = made z.1 z.2.1 z.2.2 (mkAll qs n) := by
  unfold mkAll
  rw [List.foldl_append]
  rfl
theorem wide_snoc (qs : List Prt) (z : Prt) : wide (qs ++ [z]) = wide qs * blockOf z.1 z.2.1 := by
  unfold wide
  rw [List.foldl_append]
  rfl
def spMadeAll (T : Tx P K mg) : Sp := fun vs H Q _ => ∃ (c : Addr) (ys : List V) (qs : List Prt) (n : Int), vs = [.ref c, .int n] ∧ SqA H c ys ∧ Trs T H ys qs ∧ Q (.int (mkAll qs n)) H
theorem ok_made_of_all (T : Tx P K mg) : FnOk P w K mg base CX0 lv_made_of_all T.a_made_of_all T.d_made_of_all ["tricks", "n"] (spMadeAll T) := by
  refine T.F_made_of_all.ok sc_made_of_all (fun vs H Q E h => ?_) (fun cdv A outer s H vs Q E hr h => ?_)
  · obtain ⟨c, ys, qs, n, rfl, _⟩ := h
    rfl
  · obtain ⟨c, ys, qs, n, rfl, hc, ht, k⟩ := h
    refine ⟨_, (pss_cons (ps_for PassesOwn.never rfl (pi_seqA (pv 0)) (pg_name (i := 2) sc_made_of_all.nd rfl (Or.inl rfl)) (pss_one (ps_set (i := 1) sc_made_of_all.nd rfl (Or.inl rfl) (pe_call (ok_made_of T) (hr.mono (by decide)) rfl T.g_made_of T.F_made_of.kp T.b_made_of .nil pass0 (pa_cons (pv 2) (pa_cons (pv 1) pa_nil))))))
      (pss_one (ps_ret (pv 1)))), ?_⟩
    refine seqA_of rfl hc fun J G wk hG => ?_
    refine for_it wk (fun i σ H2 => ∃ v : Option V, H2 = H ∧ σ = [some (.ref c), some (.int (mkAll (qs.take i) n)), v]) ⟨none, rfl, rfl⟩ (fun i σ H2 _ ⟨_, e, _⟩ => e ▸ hG H (Same.refl H)) ?_ ?_
    · rintro i x' σ H2 H3 hin ⟨v, rfl, rfl⟩ ⟨rfl, hy⟩
      obtain ⟨p, z, rfl, hz, hT⟩ := ht.at hy
      refine ⟨_, rfl, _, rfl, p, _, _, _, _, rfl, hT, some (.ref p), rfl, ?_⟩
      rw [take_snoc hz, mkAll_snoc]
      rfl
    · rintro σ H2 ⟨v, rfl, rfl⟩
      rw [ht.len, List.take_length]
      exact ⟨_, rfl, k⟩
theorem Trs.blk {T : Tx P K mg} {H : Hp} {ys : List V} {qs : List Prt} (h : Trs T H ys qs) {i : Nat} {z : Prt} (hz : qs[i]? = some z) : 2 ≤ blockOf z.1 z.2.1 ∧ blockOf z.1 z.2.1 ≤ 256 := by
  have li := (List.getElem?_eq_some_iff.mp hz).1
  obtain ⟨p, z', _, hz', ⟨_, b1, b2, _⟩⟩ := h.at (i := i) (y := ys[i]'(by rw [h.len]; exact li)) (List.getElem?_eq_getElem _)
  rw [hz] at hz'
  cases hz'
  exact block_bd b1 b2
def spProduct (T : Tx P K mg) : Sp := fun vs H Q _ => ∃ (c : Addr) (ys : List V) (qs : List Prt), vs = [.ref c] ∧ SqA H c ys ∧ Trs T H ys qs ∧ Q (.int (wide qs)) H
theorem ok_blocks_product (T : Tx P K mg) : FnOk P w K mg base CX0 lv_blocks_product T.a_blocks_product T.d_blocks_product ["tricks"] (spProduct T) := by
  refine T.F_blocks_product.ok sc_blocks_product (fun vs H Q E h => ?_) (fun cdv A outer s H vs Q E hr h => ?_)
  · obtain ⟨c, ys, qs, rfl, _⟩ := h
    rfl
  · obtain ⟨c, ys, qs, rfl, hc, ht, k⟩ := h
    refine ⟨_, (pss_cons (ps_set (i := 1) sc_blocks_product.nd rfl (Or.inl rfl) pe_int)
      (pss_cons (ps_for PassesOwn.never rfl (pi_seqA (pv 0)) (pg_name (i := 2) sc_blocks_product.nd rfl (Or.inl rfl)) (pss_one (ps_aug (i := 1) sc_blocks_product.nd rfl (Or.inl rfl) (pe_call (ok_trick_block T) (hr.mono (by decide)) rfl T.g_trick_block T.F_trick_block.kp T.b_trick_block .nil pass0 (pa_cons (pv 2) pa_nil)) (ip_op iop_mul))))
      (pss_one (ps_ret (pv 1))))), ?_⟩
    refine seqA_of rfl hc fun J G wk hG => ?_
    refine for_it wk (fun i σ H2 => ∃ v : Option V, H2 = H ∧ σ = [some (.ref c), some (.int (wide (qs.take i))), v]) ⟨none, rfl, rfl⟩ (fun i σ H2 _ ⟨_, e, _⟩ => e ▸ hG H (Same.refl H)) ?_ ?_
    · rintro i x' σ H2 H3 hin ⟨v, rfl, rfl⟩ ⟨rfl, hy⟩
      obtain ⟨p, z, rfl, hz, hT⟩ := ht.at hy
      obtain ⟨B1, B2⟩ := ht.blk hz
      refine ⟨_, rfl, _, rfl, p, _, _, _, rfl, hT, _, _, rfl, rfl, .inr ⟨(show -(2 ^ 64) < blockOf z.1 z.2.1 by omega), (show blockOf z.1 z.2.1 < 2 ^ 64 by omega)⟩, some (.ref p), rfl, ?_⟩
      rw [take_snoc hz, wide_snoc]
      rfl
    · rintro σ H2 ⟨v, rfl, rfl⟩
      rw [ht.len, List.take_length]
      exact ⟨_, rfl, k⟩

/-! ### lists of pairs -/
/-- the values vs are the pairs l -/
def Prs (H : Hp) : List V → List (Int × Int) → Prop
  | [], [] => True
  | v :: vs, z :: l => (∃ q, v = .ref q ∧ H q = some (.tup [.int z.1, .int z.2])) ∧ Prs H vs l
  | _, _ => False
theorem Prs.of {H H' : Hp} (e : ∀ q xs, H q = some (.tup xs) → H' q = some (.tup xs)) : ∀ {vs : List V} {l : List (Int × Int)}, Prs H vs l → Prs H' vs l
  | [], [], _ => trivial
  | _ :: _, _ :: _, ⟨⟨q, h1, h2⟩, h3⟩ => ⟨⟨q, h1, e _ _ h2⟩, h3.of e⟩
  | [], _ :: _, h => h.elim
  | _ :: _, [], h => h.elim
theorem Prs.same {H H' : Hp} {vs : List V} {l : List (Int × Int)} (h : Prs H vs l) (S : Same H H') : Prs H' vs l := h.of fun q _ e => S _ _ e
theorem Prs.put {H : Hp} {a : Addr} {ys : List V} {o : HO} {vs : List V} {l : List (Int × Int)} (h : Prs H vs l) (ha : H a = some (.lst ys)) : Prs (upd H a o) vs l := h.of fun q xs e => by
  rw [upd_ne (ne_of e ha (by intro z; cases z))]
  exact e
theorem Prs.but {H H' : Hp} {r : Addr} {ys : List V} {vs : List V} {l : List (Int × Int)} (h : Prs H vs l) (hr : H r = some (.lst ys)) (B : But r H H') : Prs H' vs l := h.of fun q xs e => B _ _ e (ne_of e hr (by intro z; cases z))
theorem Prs.len {H : Hp} : ∀ {vs : List V} {l : List (Int × Int)}, Prs H vs l → vs.length = l.length
  | [], [], _ => rfl
  | _ :: _, _ :: _, ⟨_, h3⟩ => congrArg Nat.succ h3.len
  | [], _ :: _, h => h.elim
  | _ :: _, [], h => h.elim
theorem Prs.snoc {H : Hp} {q : Addr} {z : Int × Int} (hq : H q = some (.tup [.int z.1, .int z.2])) : ∀ {vs : List V} {l : List (Int × Int)}, Prs H vs l → Prs H (vs ++ [.ref q]) (l ++ [z])
  | [], [], _ => ⟨⟨q, rfl, hq⟩, trivial⟩
  | _ :: _, _ :: _, ⟨h1, h3⟩ => ⟨h1, h3.snoc hq⟩
  | [], _ :: _, h => h.elim
  | _ :: _, [], h => h.elim
def pairD (z : Int × Int) : PyData := .tuple [.int z.1, .int z.2]
theorem dp_pair {H : Hp} {q : Addr} {z : Int × Int} (h : H q = some (.tup [.int z.1, .int z.2])) : Dp K H (.ref q) (pairD z) := .tup (SqT.of h) (.cons (.int _) (.cons (.int _) .nil))
theorem Prs.dp {H : Hp} : ∀ {vs : List V} {l : List (Int × Int)}, Prs H vs l → DpAll K H vs (l.map pairD)
  | [], [], _ => .nil
  | _ :: _, _ :: _, ⟨⟨q, h1, h2⟩, h3⟩ => h1 ▸ .cons (dp_pair h2) h3.dp
  | [], _ :: _, h => h.elim
  | _ :: _, [], h => h.elim
theorem eqv_pair (z y : Int × Int) : PyData.eqv (pairD z) (pairD y) = decide (z = y) := by
  show (PyData.eqv (.int z.1) (.int y.1) && (PyData.eqv (.int z.2) (.int y.2) && true)) = _
  show ((z.1 == y.1) && ((z.2 == y.2) && true)) = _
  rw [Bool.eq_iff_iff]
  simp [Prod.ext_iff]
theorem lay_pair (z : Int × Int) : PyData.canLay0 (pairD z) = true ∧ PyData.depth (pairD z) ≤ 2 := ⟨by simp [pairD, PyData.canLay0, PyData.canLayAll0], by simp [pairD, PyData.depth, PyData.depthAll]⟩
theorem shaped_pairs (l : List (Int × Int)) : SeqAt.shaped (.list (l.map pairD)) = true := (shaped_of (lays_map pairD 2 lay_pair l) (by decide)).1
theorem shaped_pair (z : Int × Int) : SeqAt.shaped (pairD z) = true := by
  show (PyData.canLay0 (pairD z) && decide (PyData.depth (pairD z) ≤ 64)) = true
  have := lay_pair z
  rw [Bool.and_eq_true]
  exact ⟨this.1, decide_eq_true (by omega)⟩

/-! ### the least number for which it fails -/
/-- None, or the number -/
def optV : Option Nat → V
  | none => .non
  | some n => .int (n : Int)
theorem find_at {f : Nat → Bool} {i k : Nat} (h : ∀ j, j < i → f j = false) (hf : f i = true) (hk : i < k) : (List.range k).find? f = some i := by
  rw [List.find?_range_eq_some]
  exact ⟨hf, List.mem_range.mpr hk, fun j hj => by rw [h j hj]; rfl⟩
theorem find_none {f : Nat → Bool} {k : Nat} (h : ∀ j, j < k → f j = false) : (List.range k).find? f = none := by
  rw [List.find?_eq_none]
  exact fun j hj => by rw [h j (List.mem_range.mp hj)]; exact Bool.false_ne_true
theorem find_succ (f : Nat → Bool) (i : Nat) : (List.range (i + 1)).find? f = ((List.range i).find? f).or (if f i = true then some i else none) := by
  rw [List.range_succ, List.find?_append]
  congr 1
  by_cases h : f i = true
  · rw [if_pos h]; simp [h]
  · rw [if_neg h]; simp [h]
theorem opt_non (o : Option Nat) : decide (optV o = .non) = o.isNone := by
  cases o <;> simp [optV]
theorem scal_opt (o u : Option Nat) : scal (optV o) (optV u) = true := by
  cases o <;> cases u <;> rfl

/-! ### a chain, a divisor, not too wide -/
/-- what is wished of any value as a chain, and a value as its divisor -/
def ChW (T : Tx P K mg) (H : Hp) (x d : V) (E : XK) (G : Addr → List V → List Prt → Hp → Prop) : Prop := AnyV (OwnT T) H d ∧
  ((AnyV (OwnT T) H x ∧ isTup 1 4 (seqOf H x) = false ∧ errN T E T.C_BadTricks "index" H .non) ∨
   (∃ (c : Addr) (ys : List V) (lim : Nat), x = .ref c ∧ SqA H c ys ∧ 1 ≤ ys.length ∧ ys.length ≤ 4 ∧ lim < ys.length ∧ (∀ (j : Nat) (z : V), j < lim → ys[j]? = some z → isT T H z) ∧
     ∃ y, ys[lim]? = some y ∧ AnyV (fun _ => False) H y ∧ errN T E T.C_BadTricks "index" H (.int (lim : Nat))) ∨
   ∃ (c : Addr) (ys : List V) (qs : List Prt), x = .ref c ∧ SqA H c ys ∧ 1 ≤ ys.length ∧ ys.length ≤ 4 ∧ Trs T H ys qs ∧
     (intIn d 1 30 = false → ∀ H2, Same H H2 → E (.ref T.C_BadDivisor) none H2) ∧ (intIn d 1 30 = true → 300 < wide qs → errN T E T.C_TooWide "most" H (.int 300)) ∧
     (intIn d 1 30 = true → wide qs ≤ 300 → ∀ H2, Same H H2 → G c ys qs H2))
def spChkChain (T : Tx P K mg) : Sp := fun vs H Q E => ∃ x d : V, vs = [x, d] ∧ ChW T H x d E fun _ _ _ H2 => Q .non H2
theorem ok_check_chain (T : Tx P K mg) : FnOk P w K mg base (L2.CX P w) lv_check_chain T.a_check_chain T.d_check_chain ["tricks", "d"] (spChkChain T) := by
  refine T.F_check_chain.okX sc_check_chain (fun vs H Q E h => ?_) (fun cdv A outer s H vs Q E hr h => ?_)
  · obtain ⟨x, d, rfl, _⟩ := h
    rfl
  · obtain ⟨x, d, rfl, ad, h⟩ := h
    refine ⟨_, (pss_cons (ps_expr (pe_call (ok_check_tricks T) (hr.mono (by decide)) rfl T.g_check_tricks T.F_check_tricks.kp T.b_check_tricks .nil (passes_call (takes_of rfl rfl rfl rfl) fun _ _ _ _ h => h) (pa_cons (pv 0) pa_nil)))
      (pss_cons (ps_expr (pe_call (ok_check_divisor T) (hr.mono (by decide)) rfl T.g_check_divisor T.F_check_divisor.kp T.b_check_divisor .nil (passes_call (takes_of rfl rfl rfl rfl) fun _ _ _ _ h => h) (pa_cons (pv 1) (pa_cons (pe_glob (v := .int 30) rfl T.c_GREATEST_CHAIN_DIVISOR ⟨_, rfl⟩) pa_nil))))
      (pss_one (ps_if (pt_cmpR op_gt (pe_call (ok_blocks_product T) (hr.mono (by decide)) rfl T.g_blocks_product T.F_blocks_product.kp T.b_blocks_product .nil pass0 (pa_cons (pv 0) pa_nil)) (pe_glob (v := .int 300) rfl T.c_GREATEST_PRODUCT ⟨_, rfl⟩) (nomark _)) (pss_one (ps_raiseF T.x_TooWide ar_TooWide rfl hr (takes_of rfl rfl rfl rfl) (pa_cons (pe_glob (v := .int 300) rfl T.c_GREATEST_PRODUCT ⟨_, rfl⟩) pa_nil))) pss_nil)))), ?_⟩
    rcases h with ⟨a, g, e⟩ | ⟨c, ys, lim, rfl, hc, l1, l2, hl, hi, y, hy, ay, e⟩ | ⟨c, ys, qs, rfl, hc, l1, l2, ht, e1, e2, k⟩
    · exact ⟨_, rfl, x, rfl, .inl ⟨a, g, e⟩⟩
    · exact ⟨_, rfl, _, rfl, .inr ⟨c, ys, lim, rfl, hc, l1, l2, by omega, hi, fun _ => ⟨y, hy, ay, e⟩, fun z => by omega⟩⟩
    · refine ⟨_, rfl, _, rfl, .inr ⟨c, ys, ys.length, rfl, hc, l1, l2, Nat.le_refl _, fun j z _ hz => ht.isT hz, fun z => by omega, fun _ H2 S2 => ?_⟩⟩
      refine ⟨_, rfl, d, 30, rfl, by decide, by decide, ad.mono S2, fun g => ?_, fun g => e1 g H2 S2⟩
      refine ⟨_, rfl, c, ys, qs, rfl, hc.same S2, ht.same S2, _, _, rfl, rfl, _, rfl, ?_⟩
      refine ite2 (fun q => ?_) (fun q => ?_)
      · have q1 : 300 < wide qs := by simpa using q
        exact ⟨_, rfl, .inr ⟨_, rfl, by decide⟩, fun d' hd => e2 g q1 H2 d' S2 hd⟩
      · have q1 : ¬ 300 < wide qs := by simpa using q
        exact k g (by omega) H2 S2
/-- what is wished behind it -/
theorem ChW.to {T : Tx P K mg} {H : Hp} {x d : V} {E : XK} {G G' : Addr → List V → List Prt → Hp → Prop} (h : ChW T H x d E G)
    (k : ∀ (c : Addr) (ys : List V) (qs : List Prt) (dd : Int) (H2 : Hp), x = .ref c → d = .int dd → 1 ≤ dd → dd ≤ 30 → wide qs ≤ 300 → SqA H c ys → 1 ≤ ys.length → ys.length ≤ 4 → Trs T H ys qs → Same H H2 → G c ys qs H2 → G' c ys qs H2) : ChW T H x d E G' := by
  obtain ⟨ad, h⟩ := h
  refine ⟨ad, ?_⟩
  rcases h with h | h | ⟨c, ys, qs, rfl, hc, l1, l2, ht, e1, e2, g⟩
  · exact .inl h
  · exact .inr (.inl h)
  · refine .inr (.inr ⟨c, ys, qs, rfl, hc, l1, l2, ht, e1, e2, fun i w H2 S2 => ?_⟩)
    obtain ⟨dd, rfl, d1, d2⟩ := intIn_int' i
    exact k c ys qs dd H2 rfl rfl d1 d2 w hc l1 l2 ht S2 (g i w H2 S2)

/-! ### weights -/
abbrev wVerd (lo : Nat) (H : Hp) (x : V) : Option V := verdict lo 12 (-(10 ^ 6)) (10 ^ 6) (tupOf H x)
def spWeights (T : Tx P K mg) : Sp := fun vs H Q E => ∃ (x : V) (lo : Nat), vs = [x, .int (lo : Int)] ∧ AnyV (OwnT T) H x ∧ ItemsAny (OwnT T) H x ∧ (wVerd lo H x = none → ∀ H2, Same H H2 → Q .non H2) ∧
  ∀ v, wVerd lo H x = some v → ∀ H2 d, Same H H2 → H2 d = none → E (.ref T.C_BadWeights) (some d) (upd H2 d (.xd [(("index" : Str), v)]))
theorem ok_check_weights (T : Tx P K mg) : FnOk P w K mg base (L2.CX P w) lv_check_weights T.a_check_weights T.d_check_weights ["told", "fewest"] (spWeights T) := by
  refine T.F_check_weights.okX sc_check_weights (fun vs H Q E h => ?_) (fun cdv A outer s H vs Q E hr h => ?_)
  · obtain ⟨x, lo, rfl, _⟩ := h
    rfl
  · obtain ⟨x, lo, rfl, a, ia, k1, k2⟩ := h
    refine ⟨_, (pss_cons (ps_if (pt_not (pt_val (pe_call (ok_is_tuple T) (hr.mono (by decide)) rfl T.g_is_tuple T.F_is_tuple.kp T.b_is_tuple .nil pass0 (pa_cons (pv 0) (pa_cons (pv 1) (pa_cons (pe_glob (v := .int 12) rfl T.c_MOST_WEIGHTS ⟨_, rfl⟩) pa_nil)))))) (pss_one (ps_raiseF T.x_BadWeights ar_BadWeights rfl hr (takes_of rfl rfl rfl rfl) (pa_cons pe_non pa_nil))) pss_nil)
      (pss_cons (ps_set (i := 2) sc_check_weights.nd rfl (Or.inl rfl) (pe_call (ok_first_wrong T) (hr.mono (by decide)) rfl T.g_first_wrong T.F_first_wrong.kp T.b_first_wrong .nil pass0 (pa_cons (pv 0) (pa_cons (pe_un un_neg (pe_glob (v := .int 1000000) rfl T.c_GREATEST_WEIGHT ⟨_, rfl⟩)) (pa_cons (pe_glob (v := .int 1000000) rfl T.c_GREATEST_WEIGHT ⟨_, rfl⟩) pa_nil)))))
      (pss_one (ps_if (pt_cmpR op_notN (pv 2) pe_non (nomark _)) (pss_one (ps_raiseF T.x_BadWeights ar_BadWeights rfl hr (takes_of rfl rfl rfl rfl) (pa_cons (pv 2) pa_nil))) pss_nil)))), ?_⟩
    refine ⟨_, rfl, _, rfl, x, (lo : Int), 12, rfl, a, _, rfl, ?_⟩
    cases e : tupOf H x with
    | none =>
      have ev : wVerd lo H x = some .non := by unfold wVerd; rw [e]; rfl
      exact iteT ⟨_, rfl, .inl rfl, fun d hd => k2 _ ev H d (Same.refl H) hd⟩
    | some ys =>
      obtain ⟨c, rfl, hc⟩ := tupOf_some e
      show if (!(decide ((lo : Int) ≤ (ys.length : Int)) && decide ((ys.length : Int) ≤ 12))) = true then _ else _
      by_cases l : lo ≤ ys.length ∧ ys.length ≤ 12
      · rw [show (decide ((lo : Int) ≤ (ys.length : Int)) && decide ((ys.length : Int) ≤ 12)) = true from by rw [Bool.and_eq_true, decide_eq_true_eq, decide_eq_true_eq]; omega]
        have ev : wVerd lo H (.ref c) = (firstW (-(10 ^ 6)) (10 ^ 6) ys).map fun i => .int (i : Nat) := by
          unfold wVerd
          rw [e, verdict_some]
          exact if_pos l
        rw [ev] at k1 k2
        refine iteF ⟨_, rfl, _, rfl, c, ys, -(10 ^ 6), 10 ^ 6, rfl, hc, by omega, fun y hy => ia ys e y hy, fun H2 S2 => ?_⟩
        cases ef : firstW (-(10 ^ 6)) (10 ^ 6) ys with
        | none =>
          rw [ef] at k1
          refine ⟨_, rfl, rfl, _, rfl, ?_⟩
          rw [show decide (optN none = V.non) = true from decide_eq_true rfl]
          exact iteF (k1 rfl H2 S2)
        | some i =>
          have li : i < ys.length := by
            have := firstW_lt ef
            exact this
          rw [ef] at k2
          refine ⟨_, rfl, rfl, _, rfl, ?_⟩
          rw [show decide (optN (some i) = V.non) = false from decide_eq_false (fun z => nomatch z)]
          have sm : ((i : Int)).natAbs.log2 < 1920 := Nat.lt_of_le_of_lt (Nat.log2_le_self _) (by omega)
          exact iteT ⟨_, rfl, _, rfl, .inr ⟨_, rfl, sm⟩, fun d hd => k2 _ rfl H2 d S2 hd⟩
      · have ev : wVerd lo H (.ref c) = some .non := by
          unfold wVerd
          rw [e, verdict_some]
          exact if_neg l
        rw [show (decide ((lo : Int) ≤ (ys.length : Int)) && decide ((ys.length : Int) ≤ 12)) = false from by rw [Bool.and_eq_false_iff, decide_eq_false_iff_not, decide_eq_false_iff_not]; omega]
        exact iteT ⟨_, rfl, .inl rfl, fun d hd => k2 _ ev H d (Same.refl H) hd⟩

/-! ### sums -/
def sfl (x y u v : V) : List (Str × V) := putF "_loop" v (putF "_first" u (putF "_take" y (putF "_base" x [])))
theorem sn1 : ¬ (("_base" : Str) = "_take") := by decide +kernel
theorem sn2 : ¬ (("_base" : Str) = "_first") := by decide +kernel
theorem sn3 : ¬ (("_base" : Str) = "_loop") := by decide +kernel
theorem sn4 : ¬ (("_take" : Str) = "_first") := by decide +kernel
theorem sn5 : ¬ (("_take" : Str) = "_loop") := by decide +kernel
theorem sn6 : ¬ (("_first" : Str) = "_loop") := by decide +kernel
theorem sfl_base (x y u v : V) : (sfl x y u v).lookup ("_base" : Str) = some x := by
  unfold sfl
  rw [lookup_putF, if_neg sn3, lookup_putF, if_neg sn2, lookup_putF, if_neg sn1, lookup_putF, if_pos rfl]
theorem sfl_take (x y u v : V) : (sfl x y u v).lookup ("_take" : Str) = some y := by
  unfold sfl
  rw [lookup_putF, if_neg sn5, lookup_putF, if_neg sn4, lookup_putF, if_pos rfl]
theorem sfl_first (x y u v : V) : (sfl x y u v).lookup ("_first" : Str) = some u := by
  unfold sfl
  rw [lookup_putF, if_neg sn6, lookup_putF, if_pos rfl]
theorem sfl_loop (x y u v : V) : (sfl x y u v).lookup ("_loop" : Str) = some v := by
  unfold sfl
  rw [lookup_putF, if_pos rfl]
/-- weights -/
def Wts (lo : Nat) (ns : List Int) : Prop := lo ≤ ns.length ∧ ns.length ≤ 12 ∧ ∀ z ∈ ns, -(10 ^ 6) ≤ z ∧ z ≤ 10 ^ 6
/-- the Sum of these parts stands at p -/
def SumAt (T : Tx P K mg) (H : Hp) (p : Addr) (b t : Int) (fs ls : List Int) : Prop := ∃ (dx f l : Addr), H p = some (.ins T.C_Sum dx (sfl (.int b) (.int t) (.ref f) (.ref l))) ∧ H f = some (.tup (fs.map V.int)) ∧ H l = some (.tup (ls.map V.int)) ∧ 2 ≤ b ∧ b ≤ 16 ∧ 1 ≤ t ∧ t ≤ 2 ∧ Wts 0 fs ∧ Wts 1 ls
theorem SumAt.same {T : Tx P K mg} {H H' : Hp} {p : Addr} {b t : Int} {fs ls : List Int} (h : SumAt T H p b t fs ls) (s : Same H H') : SumAt T H' p b t fs ls :=
  let ⟨dx, f, l, e1, e2, e3, r⟩ := h
  ⟨dx, f, l, s _ _ e1, s _ _ e2, s _ _ e3, r⟩
theorem SumAt.but {T : Tx P K mg} {H H' : Hp} {p r : Addr} {ys : List V} {b t : Int} {fs ls : List Int} (h : SumAt T H p b t fs ls) (hr : H r = some (.lst ys)) (s : But r H H') : SumAt T H' p b t fs ls :=
  let ⟨dx, f, l, e1, e2, e3, q⟩ := h
  ⟨dx, f, l, s _ _ e1 (ne_of e1 hr (by intro z; cases z)), s _ _ e2 (ne_of e2 hr (by intro z; cases z)), s _ _ e3 (ne_of e3 hr (by intro z; cases z)), q⟩
theorem wVerd_good {H : Hp} {c : Addr} {lo : Nat} {ns : List Int} (h : H c = some (.tup (ns.map V.int))) (w : Wts lo ns) : wVerd lo H (.ref c) = none := by
  unfold wVerd
  rw [tupOf_ref h]
  refine verdict_good (by rw [List.length_map]; exact w.1) (by rw [List.length_map]; exact w.2.1) fun y hy => ?_
  obtain ⟨z, hz, rfl⟩ := List.mem_map.mp hy
  exact intIn_of (w.2.2 z hz).1 (w.2.2 z hz).2
/-- Sum(base, take, first, loop), of any values -/
def spSumI (T : Tx P K mg) : Sp := fun vs H Q E => ∃ (p dx : Addr) (x y u v : V), vs = [.ref p, x, y, u, v] ∧ H p = some (.ins T.C_Sum dx []) ∧ AnyV (OwnT T) H x ∧ AnyV (OwnT T) H y ∧ AnyV (OwnT T) H u ∧ AnyV (OwnT T) H v ∧ ItemsAny (OwnT T) H u ∧ ItemsAny (OwnT T) H v ∧
  (intIn x 2 16 = false → E (.ref T.C_BadBase) none H) ∧ (intIn x 2 16 = true → intIn y 1 2 = false → E (.ref T.C_BadTake) none H) ∧
  (intIn x 2 16 = true → intIn y 1 2 = true → ∀ w, wVerd 0 H u = some w → ∀ H2 d, Same H H2 → H2 d = none → E (.ref T.C_BadWeights) (some d) (upd H2 d (.xd [(("index" : Str), w)]))) ∧
  (intIn x 2 16 = true → intIn y 1 2 = true → wVerd 0 H u = none → ∀ w, wVerd 1 H v = some w → ∀ H2 d, Same H H2 → H2 d = none → E (.ref T.C_BadWeights) (some d) (upd H2 d (.xd [(("index" : Str), w)]))) ∧
  (intIn x 2 16 = true → intIn y 1 2 = true → wVerd 0 H u = none → wVerd 1 H v = none → ∀ H', H' p = some (.ins T.C_Sum dx (sfl x y u v)) → (∀ c o, H c = some o → c ≠ p → H' c = some o) → Q .non H')
theorem ok_Sum___init__ (T : Tx P K mg) : FnOk P w K mg base (L2.CX P w) lv_Sum___init__ T.a_Sum___init__ T.d_Sum___init__ ["self", "base", "take", "first", "loop"] (spSumI T) := by
  refine T.F_Sum___init__.okX sc_Sum___init__ (fun vs H Q E h => ?_) (fun cdv A outer s H vs Q E hr h => ?_)
  · obtain ⟨p, dx, x, y, u, v, rfl, _⟩ := h
    rfl
  · obtain ⟨p, dx, x, y, u, v, rfl, hp, ax, ay, au, av, iu, iv, e1, e2, e3, e4, k⟩ := h
    refine ⟨_, (pss_cons (ps_expr (pe_call (ok_check_base T) (hr.mono (by decide)) rfl T.g_check_base T.F_check_base.kp T.b_check_base .nil (passes_call (takes_of rfl rfl rfl rfl) fun _ _ _ _ h => h) (pa_cons (pv 1) pa_nil)))
      (pss_cons (ps_expr (pe_call (ok_check_take T) (hr.mono (by decide)) rfl T.g_check_take T.F_check_take.kp T.b_check_take .nil (passes_call (takes_of rfl rfl rfl rfl) fun _ _ _ _ h => h) (pa_cons (pv 2) pa_nil)))
      (pss_cons (ps_expr (pe_call (ok_check_weights T) (hr.mono (by decide)) rfl T.g_check_weights T.F_check_weights.kp T.b_check_weights .nil (passes_call (takes_of rfl rfl rfl rfl) fun _ _ _ _ h => h) (pa_cons (pv 3) (pa_cons pe_int pa_nil))))
      (pss_cons (ps_expr (pe_call (ok_check_weights T) (hr.mono (by decide)) rfl T.g_check_weights T.F_check_weights.kp T.b_check_weights .nil (passes_call (takes_of rfl rfl rfl rfl) fun _ _ _ _ h => h) (pa_cons (pv 4) (pa_cons pe_int pa_nil))))
      (pss_cons (ps_fld (pv 0) (pv 1) rfl)
      (pss_cons (ps_fld (pv 0) (pv 2) rfl)
      (pss_cons (ps_fld (pv 0) (pv 3) rfl)
      (pss_one (ps_fld (pv 0) (pv 4) rfl))))))))), ?_⟩
    refine ⟨_, rfl, x, rfl, ax, fun g1 => ?_, e1⟩
    refine ⟨_, rfl, y, rfl, ay, fun g2 => ?_, e2 g1⟩
    refine ⟨_, rfl, u, 0, rfl, au, iu, fun g3 H1 S1 => ?_, fun w hw => e3 g1 g2 w hw⟩
    have ev : wVerd 1 H1 v = wVerd 1 H v := by
      unfold wVerd
      rw [tupOf_same av S1]
    refine ⟨_, rfl, v, 1, rfl, av.mono S1, iv.same av S1, fun g4 H2 S2 => ?_, fun w hw H2 d S2 hd => e4 g1 g2 g3 w (ev ▸ hw) H2 d (S1.trans S2) hd⟩
    have S := S1.trans S2
    have hp2 := S _ _ hp
    refine ⟨_, rfl, _, rfl, p, _, dx, _, rfl, hp2, T.cl_Sum, T.na_Sum_base, (by show 0 < 1000; decide), ?_⟩
    refine ⟨_, rfl, _, rfl, p, _, dx, _, rfl, upd_same, T.cl_Sum, T.na_Sum_take, (by show 1 < 1000; decide), ?_⟩
    refine ⟨_, rfl, _, rfl, p, _, dx, _, rfl, upd_same, T.cl_Sum, T.na_Sum_first, (by show 2 < 1000; decide), ?_⟩
    refine ⟨_, rfl, _, rfl, p, _, dx, _, rfl, upd_same, T.cl_Sum, T.na_Sum_loop, (by show 3 < 1000; decide), ?_⟩
    refine k g1 g2 g3 (ev ▸ g4) _ upd_same fun c o e hc => ?_
    rw [upd_ne hc, upd_ne hc, upd_ne hc, upd_ne hc]
    exact S _ _ e
/-- a Sum of good parts is made -/
theorem mk_sum {T : Tx P K mg} {H1 : Hp} {p dx f l : Addr} {b t : Int} {fs ls : List Int} {R : Hp → Prop} {E : XK} (np : H1 p = none) (nd : H1 dx = none) (hf : H1 f = some (.tup (fs.map V.int))) (hl : H1 l = some (.tup (ls.map V.int))) (b1 : 2 ≤ b) (b2 : b ≤ 16) (t1 : 1 ≤ t) (t2 : t ≤ 2) (w1 : Wts 0 fs) (w2 : Wts 1 ls)
    (k : ∀ H2, SumAt T H2 p b t fs ls → Same H1 H2 → R H2) : spSumI T (.ref p :: ([.int b, .int t, .ref f, .ref l] ++ [])) (upd (upd H1 dx (.own p)) p (.ins T.C_Sum dx [])) (fun v H2 => v = .non ∧ R H2) E := by
  have S : Same H1 (upd (upd H1 dx (.own p)) p (.ins T.C_Sum dx [])) := fun c o e => by
    rw [upd_ne (ne_of_none e np), upd_ne (ne_of_none e nd)]
    exact e
  have hf2 := S _ _ hf
  have hl2 := S _ _ hl
  have nf : ∀ {v : V} {lo hi : Int} {G : Prop}, intIn v lo hi = true → intIn v lo hi = false → G := fun p q => Bool.noConfusion (p.symm.trans q)
  have g3 := wVerd_good hf2 w1
  have g4 := wVerd_good hl2 w2
  refine ⟨p, dx, .int b, .int t, .ref f, .ref l, rfl, upd_same, .int b, .int t, .tup hf2, .tup hl2, .ints hf2, .ints hl2, nf (intIn_of b1 b2), fun _ => nf (intIn_of t1 t2), fun _ _ w hw => ?_, fun _ _ _ w hw => ?_, fun _ _ _ _ H2 h2 kp => ⟨rfl, ?_⟩⟩
  · rw [g3] at hw
    cases hw
  · rw [g4] at hw
    cases hw
  · exact k H2 ⟨dx, f, l, h2, kp _ _ hf2 (ne_of_none hf np), kp _ _ hl2 (ne_of_none hl np), b1, b2, t1, t2, w1, w2⟩ (Same.made np nd kp)
/-! ### its parts -/
def spGetS (T : Tx P K mg) (g : V → V → V → V → V) : Sp := fun vs H Q _ => ∃ (p dx : Addr) (x y u v : V), vs = [.ref p] ∧ H p = some (.ins T.C_Sum dx (sfl x y u v)) ∧ Q (g x y u v) H
theorem ok_Sum_base (T : Tx P K mg) : FnOk P w K mg base CX0 lv_Sum_base T.a_Sum_base T.d_Sum_base ["self"] (spGetS T fun x _ _ _ => x) := by
  refine T.F_Sum_base.ok sc_Sum_base (fun vs H Q E h => ?_) (fun cdv A outer s H vs Q E hr h => ?_)
  · obtain ⟨p, dx, x, y, u, v, rfl, _⟩ := h
    rfl
  · obtain ⟨p, dx, x, y, u, v, rfl, e, k⟩ := h
    exact ⟨_, (pss_one (ps_ret (pe_fld (pv 0) rfl))), _, rfl, p, _, dx, _, _, rfl, e, T.cl_Sum, T.na_Sum_base, sfl_base x y u v, k⟩
theorem ok_Sum_take (T : Tx P K mg) : FnOk P w K mg base CX0 lv_Sum_take T.a_Sum_take T.d_Sum_take ["self"] (spGetS T fun _ y _ _ => y) := by
  refine T.F_Sum_take.ok sc_Sum_take (fun vs H Q E h => ?_) (fun cdv A outer s H vs Q E hr h => ?_)
  · obtain ⟨p, dx, x, y, u, v, rfl, _⟩ := h
    rfl
  · obtain ⟨p, dx, x, y, u, v, rfl, e, k⟩ := h
    exact ⟨_, (pss_one (ps_ret (pe_fld (pv 0) rfl))), _, rfl, p, _, dx, _, _, rfl, e, T.cl_Sum, T.na_Sum_take, sfl_take x y u v, k⟩
theorem ok_Sum_first (T : Tx P K mg) : FnOk P w K mg base CX0 lv_Sum_first T.a_Sum_first T.d_Sum_first ["self"] (spGetS T fun _ _ u _ => u) := by
  refine T.F_Sum_first.ok sc_Sum_first (fun vs H Q E h => ?_) (fun cdv A outer s H vs Q E hr h => ?_)
  · obtain ⟨p, dx, x, y, u, v, rfl, _⟩ := h
    rfl
  · obtain ⟨p, dx, x, y, u, v, rfl, e, k⟩ := h
    exact ⟨_, (pss_one (ps_ret (pe_fld (pv 0) rfl))), _, rfl, p, _, dx, _, _, rfl, e, T.cl_Sum, T.na_Sum_first, sfl_first x y u v, k⟩
theorem ok_Sum_loop (T : Tx P K mg) : FnOk P w K mg base CX0 lv_Sum_loop T.a_Sum_loop T.d_Sum_loop ["self"] (spGetS T fun _ _ _ v => v) := by
  refine T.F_Sum_loop.ok sc_Sum_loop (fun vs H Q E h => ?_) (fun cdv A outer s H vs Q E hr h => ?_)
  · obtain ⟨p, dx, x, y, u, v, rfl, _⟩ := h
    rfl
  · obtain ⟨p, dx, x, y, u, v, rfl, e, k⟩ := h
    exact ⟨_, (pss_one (ps_ret (pe_fld (pv 0) rfl))), _, rfl, p, _, dx, _, _, rfl, e, T.cl_Sum, T.na_Sum_loop, sfl_loop x y u v, k⟩
/-- what is a Sum, or the error -/
theorem isi_sum (T : Tx P K mg) {H : Hp} {x : V} (a : AnyV (fun _ => False) H x) : ∃ t, TyX K H x t ∧ PySem.W.kitOne K t (.ref T.C_Sum) = some false := by
  cases a with
  | non => exact ⟨_, .base .non, T.kin_Sum_NoneType⟩
  | bl b => exact ⟨_, .base (.bl b), T.kin_Sum_bool⟩
  | int i => exact ⟨_, .base (.int i), T.kin_Sum_int⟩
  | str x => exact ⟨_, .base (.str x), T.kin_Sum_str⟩
  | lst e => exact ⟨_, .base (.lst e), T.kin_Sum_list⟩
  | tup e => exact ⟨_, .base (.tup e), T.kin_Sum_tuple⟩
  | dct e => exact ⟨_, .base (.dK e), T.kin_Sum_dict⟩
  | ins t e => exact t.elim
def spChkSum (T : Tx P K mg) : Sp := fun vs H Q E => ∃ x : V, vs = [x] ∧ ((∃ p dx fs, x = .ref p ∧ H p = some (.ins T.C_Sum dx fs) ∧ Q .non H) ∨ (AnyV (fun _ => False) H x ∧ E (.ref T.C_BadSum) none H))
theorem ok_check_sum (T : Tx P K mg) : FnOk P w K mg base (L2.CX P w) lv_check_sum T.a_check_sum T.d_check_sum ["told"] (spChkSum T) := by
  refine T.F_check_sum.okX sc_check_sum (fun vs H Q E h => ?_) (fun cdv A outer s H vs Q E hr h => ?_)
  · obtain ⟨x, rfl, _⟩ := h
    rfl
  · obtain ⟨x, rfl, h⟩ := h
    refine ⟨_, (pss_one (ps_if (pt_not (pt_val (pe_callB call_isi (by rfl) T.n_isinstance (by decide +kernel) (pa_cons (pv 0) (pa_cons (pe_glob (v := .ref T.C_Sum) rfl T.g_Sum rfl) pa_nil))))) (pss_one (ps_raise rfl (takes_of rfl rfl rfl rfl) (pmk_own PySem.F.excBase_ValueError T.x_BadSum T.g_BadSum T.k_BadSum (raises_own T.s_BadSum T.t_BadSum) rfl))) pss_nil)), ?_⟩
    rcases h with ⟨p, dx, fs, rfl, e, k⟩ | ⟨a, k⟩
    · exact ⟨_, rfl, _, _, _, _, _, rfl, .own _, .base (T.ins_Sum _ _ _ _ e), T.kis_Sum, _, rfl, iteF k⟩
    · obtain ⟨t, ty, e⟩ := isi_sum T a
      exact ⟨_, rfl, _, _, _, _, _, rfl, .own _, ty, e, _, rfl, iteT k⟩

/-! ### labels of rests -/
abbrev lVerd (H : Hp) (x : V) : Option V := verdict 1 20 0 19 (tupOf H x)
def spLabels (T : Tx P K mg) : Sp := fun vs H Q E => ∃ x : V, vs = [x] ∧ AnyV (OwnT T) H x ∧ ItemsAny (OwnT T) H x ∧ (lVerd H x = none → ∀ H2, Same H H2 → Q .non H2) ∧
  ∀ v, lVerd H x = some v → ∀ H2 d, Same H H2 → H2 d = none → E (.ref T.C_BadRests) (some d) (upd H2 d (.xd [(("index" : Str), v)]))
theorem ok_check_labels (T : Tx P K mg) : FnOk P w K mg base (L2.CX P w) lv_check_labels T.a_check_labels T.d_check_labels ["labels"] (spLabels T) := by
  refine T.F_check_labels.okX sc_check_labels (fun vs H Q E h => ?_) (fun cdv A outer s H vs Q E hr h => ?_)
  · obtain ⟨x, rfl, _⟩ := h
    rfl
  · obtain ⟨x, rfl, a, ia, k1, k2⟩ := h
    refine ⟨_, (pss_cons (ps_if (pt_not (pt_val (pe_call (ok_is_tuple T) (hr.mono (by decide)) rfl T.g_is_tuple T.F_is_tuple.kp T.b_is_tuple .nil pass0 (pa_cons (pv 0) (pa_cons pe_int (pa_cons (pe_glob (v := .int 20) rfl T.c_MOST_LABELS ⟨_, rfl⟩) pa_nil)))))) (pss_one (ps_raiseF T.x_BadRests ar_BadRests rfl hr (takes_of rfl rfl rfl rfl) (pa_cons pe_non pa_nil))) pss_nil)
      (pss_cons (ps_set (i := 1) sc_check_labels.nd rfl (Or.inl rfl) (pe_call (ok_first_wrong T) (hr.mono (by decide)) rfl T.g_first_wrong T.F_first_wrong.kp T.b_first_wrong .nil pass0 (pa_cons (pv 0) (pa_cons pe_int (pa_cons (pe_glob (v := .int 19) rfl T.c_GREATEST_LABEL ⟨_, rfl⟩) pa_nil)))))
      (pss_one (ps_if (pt_cmpR op_notN (pv 1) pe_non (nomark _)) (pss_one (ps_raiseF T.x_BadRests ar_BadRests rfl hr (takes_of rfl rfl rfl rfl) (pa_cons (pv 1) pa_nil))) pss_nil)))), ?_⟩
    refine ⟨_, rfl, x, 1, 20, rfl, a, _, rfl, ?_⟩
    cases e : tupOf H x with
    | none =>
      have ev : lVerd H x = some .non := by unfold lVerd; rw [e]; rfl
      exact iteT ⟨_, rfl, .inl rfl, fun d hd => k2 _ ev H d (Same.refl H) hd⟩
    | some ys =>
      obtain ⟨c, rfl, hc⟩ := tupOf_some e
      show if (!(decide ((1 : Int) ≤ (ys.length : Int)) && decide ((ys.length : Int) ≤ 20))) = true then _ else _
      by_cases l : 1 ≤ ys.length ∧ ys.length ≤ 20
      · rw [show (decide ((1 : Int) ≤ (ys.length : Int)) && decide ((ys.length : Int) ≤ 20)) = true from by rw [Bool.and_eq_true, decide_eq_true_eq, decide_eq_true_eq]; omega]
        have ev : lVerd H (.ref c) = (firstW 0 19 ys).map fun i => .int (i : Nat) := by
          unfold lVerd
          rw [e, verdict_some]
          exact if_pos l
        rw [ev] at k1 k2
        refine iteF ⟨_, rfl, c, ys, 0, 19, rfl, hc, by omega, fun y hy => ia ys e y hy, fun H2 S2 => ?_⟩
        cases ef : firstW 0 19 ys with
        | none =>
          rw [ef] at k1
          refine ⟨_, rfl, rfl, _, rfl, ?_⟩
          rw [show decide (optN none = V.non) = true from decide_eq_true rfl]
          exact iteF (k1 rfl H2 S2)
        | some i =>
          have li : i < ys.length := firstW_lt ef
          rw [ef] at k2
          refine ⟨_, rfl, rfl, _, rfl, ?_⟩
          rw [show decide (optN (some i) = V.non) = false from decide_eq_false (fun z => nomatch z)]
          have sm : ((i : Int)).natAbs.log2 < 1920 := Nat.lt_of_le_of_lt (Nat.log2_le_self _) (by omega)
          exact iteT ⟨_, rfl, _, rfl, .inr ⟨_, rfl, sm⟩, fun d hd => k2 _ rfl H2 d S2 hd⟩
      · have ev : lVerd H (.ref c) = some .non := by
          unfold lVerd
          rw [e, verdict_some]
          exact if_neg l
        rw [show (decide ((1 : Int) ≤ (ys.length : Int)) && decide ((ys.length : Int) ≤ 20)) = false from by rw [Bool.and_eq_false_iff, decide_eq_false_iff_not, decide_eq_false_iff_not]; omega]
        exact iteT ⟨_, rfl, .inl rfl, fun d hd => k2 _ ev H d (Same.refl H) hd⟩
/-! ### a rest -/
def spRest (T : Tx P K mg) : Sp := fun vs H Q E => ∃ (x : V) (d : Int), vs = [x, .int d] ∧ AnyV (OwnT T) H x ∧ (intIn x 0 (d - 1) = true → Q .non H) ∧ (intIn x 0 (d - 1) = false → E (.ref T.C_BadRest) none H)
theorem ok_check_rest (T : Tx P K mg) : FnOk P w K mg base (L2.CX P w) lv_check_rest T.a_check_rest T.d_check_rest ["rest", "d"] (spRest T) := by
  refine T.F_check_rest.okX sc_check_rest (fun vs H Q E h => ?_) (fun cdv A outer s H vs Q E hr h => ?_)
  · obtain ⟨x, d, rfl, _⟩ := h
    rfl
  · obtain ⟨x, d, rfl, a, k1, k2⟩ := h
    refine ⟨_, (pss_one (ps_if (pt_not (pt_val (pe_call (ok_is_integer T) (hr.mono (by decide)) rfl T.g_is_integer T.F_is_integer.kp T.b_is_integer .nil pass0 (pa_cons (pv 0) (pa_cons pe_int (pa_cons (pe_op op_sub (pv 1) pe_int) pa_nil)))))) (pss_one (ps_raise rfl (takes_of rfl rfl rfl rfl) (pmk_own PySem.F.excBase_ValueError T.x_BadRest T.g_BadRest T.k_BadRest (raises_own T.s_BadRest T.t_BadRest) rfl))) pss_nil)), ?_⟩
    refine ⟨_, rfl, _, rfl, _, _, rfl, rfl, _, _, _, rfl, a, _, rfl, ?_⟩
    cases e : intIn x 0 (d - 1) with
    | true => exact iteF (k1 e)
    | false => exact iteT (k2 e)

theorem in_ints {lo hi : Int} : ∀ {ys : List V}, (∀ y ∈ ys, intIn y lo hi = true) → ∃ ns : List Int, ys = ns.map V.int ∧ ∀ n ∈ ns, lo ≤ n ∧ n ≤ hi
  | [], _ => ⟨[], rfl, fun n h => by cases h⟩
  | y :: ys, h => by
    obtain ⟨i, rfl, i1, i2⟩ := intIn_int' (h y List.mem_cons_self)
    obtain ⟨ns, rfl, hn⟩ := in_ints fun z hz => h z (List.mem_cons_of_mem _ hz)
    refine ⟨i :: ns, rfl, fun n hn2 => ?_⟩
    rcases List.mem_cons.mp hn2 with e | e
    · rw [e]; exact ⟨i1, i2⟩
    · exact hn n e
def errF (T : Tx P K mg) (E : XK) (C : Addr) (H : Hp) (v : V) : Prop := ∀ H2 d, Same H H2 → H2 d = none → E (.ref C) (some d) (upd H2 d (.xd [(("index" : Str), v)]))
/-! ### what is refused at first -/
def spFrontW (T : Tx P K mg) : Sp := fun vs H Q E => ∃ (bs lb o1 o2 : V), vs = [bs, lb, o1, o2] ∧ AnyV (OwnT T) H bs ∧ AnyV (OwnT T) H lb ∧ ItemsAny (OwnT T) H lb ∧ AnyV (OwnT T) H o1 ∧ AnyV (OwnT T) H o2 ∧
  (intIn bs 2 16 = false → E (.ref T.C_BadBase) none H) ∧ (intIn bs 2 16 = true → (∀ v, lVerd H lb = some v → errF T E T.C_BadRests H v) ∧ ∀ (c : Addr) (ls : List Int), lb = .ref c → H c = some (.tup (ls.map V.int)) → lVerd H lb = none →
    (∀ H2, Same H H2 → E (.ref T.C_BadRest) none H2) ∧ (intIn o1 0 ((ls.length : Int) - 1) = false ∨ intIn o2 0 ((ls.length : Int) - 1) = false))
theorem ok_front_word (T : Tx P K mg) : FnOk P w K mg base (L2.CX P w) lv_front_word T.a_front_word T.d_front_word ["base", "labels", "one", "other"] (spFrontW T) := by
  refine T.F_front_word.okX sc_front_word (fun vs H Q E h => ?_) (fun cdv A outer s H vs Q E hr h => ?_)
  · obtain ⟨bs, lb, o1, o2, rfl, _⟩ := h
    rfl
  · obtain ⟨bs, lb, o1, o2, rfl, ab, al, il, a1, a2, k0, k⟩ := h
    refine ⟨_, (pss_cons (ps_expr (pe_call (ok_check_base T) (hr.mono (by decide)) rfl T.g_check_base T.F_check_base.kp T.b_check_base .nil (passes_call (takes_of rfl rfl rfl rfl) fun _ _ _ _ h => h) (pa_cons (pv 0) pa_nil)))
      (pss_cons (ps_expr (pe_call (ok_check_labels T) (hr.mono (by decide)) rfl T.g_check_labels T.F_check_labels.kp T.b_check_labels .nil (passes_call (takes_of rfl rfl rfl rfl) fun _ _ _ _ h => h) (pa_cons (pv 1) pa_nil)))
      (pss_cons (ps_expr (pe_call (ok_check_rest T) (hr.mono (by decide)) rfl T.g_check_rest T.F_check_rest.kp T.b_check_rest .nil (passes_call (takes_of rfl rfl rfl rfl) fun _ _ _ _ h => h) (pa_cons (pv 2) (pa_cons (pe_callB call_len_seq (by rfl) T.n_len (by decide +kernel) (pa_cons (pv 1) pa_nil)) pa_nil))))
      (pss_cons (ps_expr (pe_call (ok_check_rest T) (hr.mono (by decide)) rfl T.g_check_rest T.F_check_rest.kp T.b_check_rest .nil (passes_call (takes_of rfl rfl rfl rfl) fun _ _ _ _ h => h) (pa_cons (pv 3) (pa_cons (pe_callB call_len_seq (by rfl) T.n_len (by decide +kernel) (pa_cons (pv 1) pa_nil)) pa_nil))))
      pss_nev)))), ?_⟩
    refine ⟨_, rfl, bs, rfl, ab, fun g1 => ?_, k0⟩
    obtain ⟨kl, k⟩ := k g1
    refine ⟨_, rfl, lb, rfl, al, il, fun gl H2 S2 => ?_, fun v hv H2 d S2 hd => kl v hv H2 d S2 hd⟩
    obtain ⟨ys, ey, y1, y2, y3⟩ := verdict_none gl
    obtain ⟨c, rfl, hc⟩ := tupOf_some ey
    obtain ⟨ls, rfl, _⟩ := in_ints y3
    obtain ⟨ke, kk⟩ := k c ls rfl hc gl
    refine ⟨_, rfl, _, rfl, c, _, rfl, .inr (SqT.of (S2 _ _ hc)), o1, _, rfl, a1.mono S2, fun g2 => ?_, fun _ => ke _ S2⟩
    refine ⟨_, rfl, _, rfl, c, _, rfl, .inr (SqT.of (S2 _ _ hc)), o2, _, rfl, a2.mono S2, fun g3 => ?_, fun _ => ke _ S2⟩
    rw [List.length_map] at g2 g3
    rcases kk with q | q
    · rw [q] at g2; cases g2
    · rw [q] at g3; cases g3
def spClass (T : Tx P K mg) : Sp := fun vs H Q E => ∃ (bs lb : V), vs = [bs, lb] ∧ AnyV (OwnT T) H bs ∧ AnyV (OwnT T) H lb ∧ ItemsAny (OwnT T) H lb ∧
  (intIn bs 2 16 = false → E (.ref T.C_BadBase) none H) ∧ (intIn bs 2 16 = true → ∃ v, lVerd H lb = some v ∧ errF T E T.C_BadRests H v)
theorem ok_front_classes (T : Tx P K mg) : FnOk P w K mg base (L2.CX P w) lv_front_classes T.a_front_classes T.d_front_classes ["base", "labels"] (spClass T) := by
  refine T.F_front_classes.okX sc_front_classes (fun vs H Q E h => ?_) (fun cdv A outer s H vs Q E hr h => ?_)
  · obtain ⟨bs, lb, rfl, _⟩ := h
    rfl
  · obtain ⟨bs, lb, rfl, ab, al, il, k0, k⟩ := h
    refine ⟨_, (pss_cons (ps_expr (pe_call (ok_check_base T) (hr.mono (by decide)) rfl T.g_check_base T.F_check_base.kp T.b_check_base .nil (passes_call (takes_of rfl rfl rfl rfl) fun _ _ _ _ h => h) (pa_cons (pv 0) pa_nil)))
      (pss_cons (ps_expr (pe_call (ok_check_labels T) (hr.mono (by decide)) rfl T.g_check_labels T.F_check_labels.kp T.b_check_labels .nil (passes_call (takes_of rfl rfl rfl rfl) fun _ _ _ _ h => h) (pa_cons (pv 1) pa_nil)))
      pss_nev)), ?_⟩
    refine ⟨_, rfl, bs, rfl, ab, fun g1 => ?_, k0⟩
    obtain ⟨v, hv, kl⟩ := k g1
    exact ⟨_, rfl, lb, rfl, al, il, fun gl H2 S2 => (by rw [gl] at hv; cases hv), fun v2 hv2 H2 d S2 hd => by rw [hv] at hv2; cases hv2; exact kl H2 d S2 hd⟩

/-! ### max of a tuple of numbers -/
end
end Rt
namespace L2
open PySem PySem.Spec PyProof.Rows
section
variable {prog : Program} {w : World} {A : Around} {E : Value → Shared → Prop} {s : Shared} {l : Addr} {its : List Value} {ns : List Int} {Q : Value → Shared → Prop}
theorem max_rawT (hh : A.handled = none) (hl : s.heap.IsTuple l its.toArray) (hi : IntsAre its ns) (hne : 0 < ns.length)
    (h : ∀ h' tk M t', (∀ b o, s.heap.get? b = some o → h'.get? b = some o) → M ∈ ns → (∀ a, a ∈ ns → a ≤ M) → Q (.int M t') { s with heap := h', toks := tk }) : wpAny (model prog w) A (call (.builtin "max") [.ref l]) Q E s := by
  obtain ⟨xs, e⟩ := hi.allInts.items
  have hn : numsOf (intItems xs).toList = ns := by rw [← e]; exact hi.numsOf
  rw [nums_intItems] at hn
  subst hn
  rw [e] at hl
  have hsz : 0 < xs.size := by simpa using hne
  have hlt : l < s.heap.objs.size := by obtain ⟨_, e, _⟩ := hl; exact Heap.lt_size e
  refine call_max_walk (wpAny_pyIter_tuple hl ?_)
  refine ⟨_, _, _, _, _, _, _, rfl, Walks.tuple (A := A.in1) hh _ l (Nat.ne_of_lt hlt) (intItems xs), ⟨⟨_, Heap.get?_push_size _ rfl, rfl, rfl⟩, hl.push _⟩, (fun b hb => ?_), by simpa [intItems] using hsz, CmpOf.ints_gt (numAt xs) (fun _ _ => intItems_at), fun v h' tk hv hk => ?_⟩
  · show b < (s.heap.push _).objs.size
    rw [Heap.size_push]
    rcases List.mem_cons.mp hb with rfl | hb
    · exact Nat.lt_succ_self _
    · rcases List.mem_cons.mp hb with rfl | hb
      · exact Nat.lt_succ_of_lt hlt
      · cases hb
  · have hv : (intItems xs)[argBest (fun i j => decide (numAt xs i > numAt xs j)) (xs.size - 1)]? = some v := by simpa [intItems] using hv
    obtain ⟨t, rfl⟩ := intItems_at hv
    obtain ⟨h1, h2⟩ := argBest_gt (numAt xs) (xs.size - 1)
    refine h h' tk _ t (fun b o e => ?_) ?_ fun a ha => ?_
    · refine hk b o (fun hm => ?_) (Heap.get?_push_of_some _ e)
      rcases List.mem_cons.mp hm with e1 | hm
      · exact absurd (e1 ▸ Heap.lt_size e) (Nat.lt_irrefl _)
      · cases hm
    · rw [numAt_eq]; exact PySem.getD_mem (by rw [List.length_map, Array.length_toList]; omega)
    · obtain ⟨j, hj, rfl⟩ := mem_getD ha
      rw [List.length_map, Array.length_toList] at hj
      rw [← numAt_eq]; exact h2 j (by omega)
end
section
variable {X : Cx}
def rMaxT (K : PySem.W.Frag) : List V → Hp → VK → Prop := fun vs H Q => ∃ (a : Addr) (ns : List Int), vs = [V.ref a] ∧ SqT K H a (ns.map V.int) ∧ 0 < ns.length ∧ ∀ m, m ∈ ns → (∀ y, y ∈ ns → y ≤ m) → Q (.int m) H
theorem cr_maxT (hc : X.calm = true) : CallR X (.builtin "max") (rMaxT X.K) := by
  intro pins s σ H vs us Q I r h
  obtain ⟨a, ns, rfl, hs, hne, q⟩ := h
  obtain ⟨its, rv, hl, _⟩ := I.tuple hs
  rw [Vals.ref1 r]
  exact max_rawT (I.ok.hd hc) hl rv.ints hne fun h' tk m t' hk h1 h2 => ⟨.int _, H, I.kept hk, ⟨_, rfl⟩, q m h1 h2⟩
end
end L2
namespace Rt
open PySem L2 PySem.Spec PyProof.Rows
section
variable {P : Program} {w : World} {K : PySem.W.Frag} {mg : Str → Option Value} {base : Heap}

/-! ### how many states -/
theorem ok_front_states (T : Tx P K mg) : FnOk P w K mg base (L2.CX P w) lv_front_states T.a_front_states T.d_front_states ["base", "labels"] (spClass T) := by
  refine T.F_front_states.okX sc_front_states (fun vs H Q E h => ?_) (fun cdv A outer s H vs Q E hr h => ?_)
  · obtain ⟨bs, lb, rfl, _⟩ := h
    rfl
  · obtain ⟨bs, lb, rfl, ab, al, il, k0, k⟩ := h
    refine ⟨_, (pss_one (ps_ret (pe_op op_add (pe_callB (cr_maxT rfl) (by rfl) T.n_max (by decide +kernel) (pa_cons (pe_call (ok_front_classes T) (hr.mono (by decide)) rfl T.g_front_classes T.F_front_classes.kp T.b_front_classes .nil (passes_call (takes_of rfl rfl rfl rfl) fun _ _ _ _ h => h) (pa_cons (pv 0) (pa_cons (pv 1) pa_nil))) pa_nil)) pe_int))), ?_⟩
    exact ⟨_, rfl, _, rfl, bs, lb, rfl, ab, al, il, k0, k⟩

/-! ### a text so many times -/
end
end Rt
namespace L2
open PySem PySem.Spec PyProof.Rows
/-- x one behind the other, n times -/
def strRep (x : Str) (n : Nat) : Str := ⟨((List.replicate n (TL.tl x)).flatten).toArray⟩
def rRepS : R2 := fun x y H Q => ∃ (i : Str) (k : Int), x = .str i ∧ y = .int k ∧ 0 ≤ k ∧ k ≤ 100 ∧ i.length ≤ 100 ∧ Q (.str (strRep i k.toNat)) H
theorem fold_rep (z : Array Nat) : ∀ (n : Nat) (a : Array Nat), ((List.replicate n z).foldl (fun u v => u ++ v) a).toList = a.toList ++ (List.replicate n z.toList).flatten
  | 0, a => by simp
  | n + 1, a => by
    rw [List.replicate_succ, List.foldl_cons, fold_rep z n, List.replicate_succ, List.flatten_cons, Array.toList_append, List.append_assoc]
theorem op_mulS {X : Cx} : OpR X (binaryOp .Mult) rRepS := by
  intro pins s σ H x y v u Q I rx ry h
  obtain ⟨i, k, rfl, rfl, k0, k1, li, q⟩ := h
  obtain ⟨t, rfl⟩ := rx
  obtain ⟨t', rfl⟩ := ry
  have c : (decide (k < -(2 ^ 63 : Int)) || decide (k ≥ 2 ^ 63)) = false := by
    rw [decide_eq_false (by omega), decide_eq_false (by omega)]
    all_goals rfl
  have lm : i.length * k.toNat ≤ 100 * 100 := Nat.mul_le_mul li (by omega)
  refine P.mul_str c (fun h1 _ => ?_) (fun _ _ => ?_) ?_
  · have : (100 : Int) ≤ (2 ^ 63 - 1) / k := by
      rw [Int.le_ediv_iff_mul_le (by omega)]
      omega
    omega
  · unfold Builtin.Str.tooLong
    rw [decide_eq_false_iff_not]
    have hs : (10000 : Nat) ≤ sizeLine := by decide
    omega
  · by_cases e0 : k < 1
    · rw [if_pos e0]
      have e : k = 0 := by omega
      subst e
      exact ⟨by decide, .str (strRep i (0 : Int).toNat), H, I.tok _, ⟨_, rfl⟩, q⟩
    · rw [if_neg e0]
      by_cases e1 : (k == 1 || i.length == 0) = true
      · rw [if_pos e1]
        refine ⟨.str i, H, I, ⟨_, rfl⟩, ?_⟩
        have : strRep i k.toNat = i := by
          unfold strRep
          refine TL.ext_tl ?_
          rw [TL.tl_mk]
          rcases Bool.or_eq_true .. |>.mp e1 with z | z
          · have : k = 1 := by simpa using z
            rw [this]
            simp
          · have : i.length = 0 := by simpa using z
            rw [(TL.len0_tl i).mp this]
            simp
        rw [this] at q
        exact q
      · rw [if_neg e1]
        have e : (⟨(List.replicate k.toNat i.cps).foldl (· ++ ·) #[]⟩ : Str) = strRep i k.toNat := by
          refine TL.ext_tl ?_
          unfold strRep
          rw [TL.tl_mk]
          show ((List.replicate k.toNat i.cps).foldl (· ++ ·) #[]).toList = _
          rw [fold_rep]
          rfl
        rw [e]
        refine ⟨?_, .str (strRep i k.toNat), H, I.tok _, ⟨_, rfl⟩, q⟩
        have l2 : (strRep i k.toNat).length = i.length * k.toNat := by
          rw [TL.len_tl]
          unfold strRep
          rw [TL.tl_mk, List.length_flatten, List.map_replicate, List.sum_replicate_nat, ← TL.len_tl, Nat.mul_comm]
        rw [l2]
        exact Nat.le_trans lm (by decide)
end L2
namespace Rt
open PySem L2 PySem.Spec PyProof.Rows
section
variable {P : Program} {w : World} {K : PySem.W.Frag} {mg : Str → Option Value} {base : Heap}

/-! ### words -/
abbrev strI (i : Int) : Str := toString i
/-- a word: some signs, no blank among them -/
def wordOk (w : Str) : Bool := decide (w.length ≤ 20) && decide (1 ≤ w.length) && (TL.tl w).all (fun c => c != 32)
def numOk (i : Int) : Bool := wordOk (strI i) && decide (PySem.intText? (strI i) = some i) && decide (i.natAbs.log2 < 1920)
theorem numOk_all : ((List.range 201).all fun (k : Nat) => numOk ((k : Int) - 100)) = true := by decide +kernel
theorem numOk_of {i : Int} (h1 : -100 ≤ i) (h2 : i ≤ 100) : numOk i = true := by
  have := List.all_eq_true.mp numOk_all (i + 100).toNat (List.mem_range.mpr (by omega))
  rw [Int.toNat_of_nonneg (by omega), Int.add_sub_cancel] at this
  exact this
theorem num_word {i : Int} (h1 : -100 ≤ i) (h2 : i ≤ 100) : wordOk (strI i) = true := by
  have := numOk_of h1 h2
  unfold numOk at this
  rw [Bool.and_eq_true, Bool.and_eq_true] at this
  exact this.1.1
theorem num_text {i : Int} (h1 : -100 ≤ i) (h2 : i ≤ 100) : PySem.intText? (strI i) = some i := by
  have := numOk_of h1 h2
  unfold numOk at this
  rw [Bool.and_eq_true, Bool.and_eq_true] at this
  exact of_decide_eq_true this.1.2
theorem num_log {i : Int} (h1 : -100 ≤ i) (h2 : i ≤ 100) : i.natAbs.log2 < 1920 := by
  have := numOk_of h1 h2
  unfold numOk at this
  rw [Bool.and_eq_true] at this
  exact of_decide_eq_true this.2
theorem word_len {w : Str} (h : wordOk w = true) : w.length ≤ 20 ∧ 1 ≤ w.length := by
  unfold wordOk at h
  rw [Bool.and_eq_true, Bool.and_eq_true] at h
  exact ⟨of_decide_eq_true h.1.1, of_decide_eq_true h.1.2⟩
theorem word_no32 {w : Str} (h : wordOk w = true) : 32 ∉ TL.tl w := fun m => by
  unfold wordOk at h
  rw [Bool.and_eq_true] at h
  have := List.all_eq_true.mp h.2 32 m
  cases this
/-- the words of a text -/
def wordsOf (s : Str) : List Str := (Txt.split s " ").filter fun w => decide (w ≠ Str.empty)
theorem str_ne {a b : Str} : decide (V.str a = V.str b) = decide (a = b) := by
  rw [Bool.eq_iff_iff]
  simp
theorem words_join {ws : List Str} (h : ∀ w ∈ ws, w = Str.empty ∨ wordOk w = true) : wordsOf (Txt.join " " ws) = ws.filter fun w => decide (w ≠ Str.empty) := by
  unfold wordsOf
  by_cases e : ws = []
  · rw [e]
    decide +kernel
  · rw [TL.split_join (y := " ") (s := 32) (S := []) (by decide +kernel) (by decide +kernel) e]
    intro p hp
    rcases h p hp with z | z
    · rw [z]
      intro m
      cases m
    · exact word_no32 z
theorem words_of {ws : List Str} (h : ∀ w ∈ ws, wordOk w = true) : wordsOf (Txt.join " " ws) = ws := by
  rw [words_join fun w hw => .inr (h w hw), List.filter_eq_self]
  intro w hw
  refine decide_eq_true fun z => ?_
  have := (word_len (h w hw)).2
  rw [z] at this
  cases this
/-- the words that can stand at each place -/
def numsL (lo hi : Int) : List Str := (List.range (hi + 1 - lo).toNat).map fun (k : Nat) => strI (lo + (k : Int))
def lotsL : List (List Str) := [["base"], numsL 2 16, ["take"], numsL 1 2, ["times"], numsL (-100) 100]
theorem numsL_mem {lo hi : Int} {w : Str} (h : w ∈ numsL lo hi) : ∃ i, lo ≤ i ∧ i ≤ hi ∧ w = strI i := by
  obtain ⟨k, hk, rfl⟩ := List.mem_map.mp h
  have := List.mem_range.mp hk
  exact ⟨lo + (k : Int), by omega, by omega, rfl⟩
theorem numsL_of {lo hi i : Int} (h1 : lo ≤ i) (h2 : i ≤ hi) : strI i ∈ numsL lo hi := by
  refine List.mem_map.mpr ⟨(i - lo).toNat, List.mem_range.mpr (by omega), ?_⟩
  have e : lo + ((i - lo).toNat : Int) = i := by omega
  show strI (lo + ((i - lo).toNat : Int)) = strI i
  rw [e]
/-- no word that can stand there is at this place -/
def badAt (ws : List Str) (i : Nat) : Bool := match ws[i]? with
  | none => true
  | some w => !((lotsL.getD i []).elem w)
def verdT (ws : List Str) : Option Nat := match (List.range 6).find? (badAt ws) with
  | some i => some (i + 1)
  | none => if 6 < ws.length then some 7 else none
theorem inV_strs (w : Str) (zs : List Str) : inV (.str w) (zs.map V.str) = zs.elem w := by
  unfold inV
  rw [List.any_map]
  induction zs with
  | nil => rfl
  | cons z zs ih =>
    rw [List.any_cons, List.elem_cons, ih]
    show ((z == w) || _) = (match w == z with | true => true | false => zs.elem w)
    have : (z == w) = (w == z) := by rw [Bool.eq_iff_iff, beq_iff_eq, beq_iff_eq]; exact ⟨Eq.symm, Eq.symm⟩
    rw [this]
    cases w == z <;> rfl
theorem flat_strs (zs : List Str) : (zs.map V.str).all flatV = true := by
  rw [List.all_map]
  exact List.all_eq_true.mpr fun _ _ => rfl
theorem bad_none {ws : List Str} {i : Nat} (h : ws.length ≤ i) : badAt ws i = true := by
  unfold badAt
  rw [List.getElem?_eq_none h]
theorem bad_some {ws : List Str} {i : Nat} {w : Str} (h : ws[i]? = some w) : badAt ws i = !((lotsL.getD i []).elem w) := by
  unfold badAt
  rw [h]
/-! ### str(n) of a stretch -/
def spWritten (K : PySem.W.Frag) : Sp := fun vs H Q _ => ∃ lo hi : Int, vs = [.int lo, .int hi] ∧ -100 ≤ lo ∧ lo ≤ 100 ∧ hi ≤ 100 ∧ lo ≤ hi + 1 ∧ ∀ (D : Addr) (H' : Hp), Same H H' → H D = none → H' D = some (.lst ((numsL lo hi).map V.str)) → Q (.ref D) H'
theorem ok_written (T : Tx P K mg) : FnOk P w K mg base CX0 lv_written T.a_written T.d_written ["low", "high"] (spWritten K) := by
  refine T.F_written.ok sc_written (fun vs H Q E h => ?_) (fun cdv A outer s H vs Q E hr h => ?_)
  · obtain ⟨lo, hi, rfl, _⟩ := h
    rfl
  · obtain ⟨lo, hi, rfl, l1, l2, h2, h3, k⟩ := h
    refine ⟨_, (pss_one (ps_ret (pe_lc (own := [("n", 2)]) (g := gName 2) (tt := tYes) rfl sc_written.nd (pi_range2 (by rfl) T.n_range (pa_cons (pv 0) (pa_cons (pe_op op_add (pv 1) pe_int) pa_nil))) (blkOk_by (own := [("n", 2)]) (N := ["low", "high", "n"]) (sc := defScope s_written) (by decide +kernel)) (fun _ _ _ _ _ => pg_name (i := 2) sc_written.nd rfl (Or.inl rfl)) (fun _ _ _ _ _ => pts_nil) (fun _ _ _ _ _ => (pe_callTy call_str_int (by rfl) T.n_str (by decide +kernel) (pa_cons (pv 2) pa_nil)))))), ?_⟩
    refine ⟨_, rfl, _, rfl, _, _, rfl, rfl, lo, hi + 1, rfl, ⟨by omega, by omega, by omega, by omega⟩, fun D hD => ?_⟩
    refine lc_range (lo := lo) (n := (hi + 1 - lo).toNat) (fun i H2 => Same H H2 ∧ H2 D = some (.lst (((List.range i).map fun (k : Nat) => strI (lo + (k : Int))).map V.str))) ⟨same_upd hD, by rw [upd_same]; rfl⟩ ?_ ?_
    · rintro i H2 hi2 ⟨S2, hL⟩
      refine ⟨rfl, _, rfl, _, rfl, num_log (by omega) (by omega), _, hL, by rw [List.length_map, List.length_map, List.length_range]; exact small1000 (by omega), fun c o e => ?_, ?_⟩
      · rw [upd_ne (ne_of_none e hD)]
        exact S2 _ _ e
      · rw [upd_same, List.range_succ, List.map_append, List.map_append]
        rfl
    · rintro H2 ⟨S2, hL⟩
      exact k D H2 S2 hD hL
/-- the lists of the words that can stand -/
def Lots (H : Hp) (ys : List V) : Prop := ys.length = 6 ∧ ∀ (i : Nat) (y : V), ys[i]? = some y → ∃ l, y = .ref l ∧ H l = some (.lst ((lotsL.getD i []).map V.str))
theorem Lots.same {H H2 : Hp} {ys : List V} (h : Lots H ys) (S : Same H H2) : Lots H2 ys := ⟨h.1, fun i y hy => let ⟨l, e, hl⟩ := h.2 i y hy; ⟨l, e, S _ _ hl⟩⟩
theorem lots_of {H : Hp} {a b c d e f : Addr} (ha : H a = some (.lst [.str "base"])) (hb : H b = some (.lst ((numsL 2 16).map V.str))) (hc : H c = some (.lst [.str "take"])) (hd : H d = some (.lst ((numsL 1 2).map V.str))) (he : H e = some (.lst [.str "times"])) (hf : H f = some (.lst ((numsL (-100) 100).map V.str))) :
    Lots H [.ref a, .ref b, .ref c, .ref d, .ref e, .ref f] := by
  refine ⟨rfl, fun i y hy => ?_⟩
  match i, hy with
  | 0, hy => cases hy; exact ⟨a, rfl, ha⟩
  | 1, hy => cases hy; exact ⟨b, rfl, hb⟩
  | 2, hy => cases hy; exact ⟨c, rfl, hc⟩
  | 3, hy => cases hy; exact ⟨d, rfl, hd⟩
  | 4, hy => cases hy; exact ⟨e, rfl, he⟩
  | 5, hy => cases hy; exact ⟨f, rfl, hf⟩
  | i + 6, hy => cases hy
def spPossible (K : PySem.W.Frag) : Sp := fun vs H Q _ => vs = [] ∧ ∀ (L : Addr) (ys : List V) (H' : Hp), Same H H' → H' L = some (.lst ys) → Lots H' ys → Q (.ref L) H'
theorem ok_possible_words (T : Tx P K mg) : FnOk P w K mg base CX0 lv_possible_words T.a_possible_words T.d_possible_words [] (spPossible K) := by
  refine T.F_possible_words.ok sc_possible_words (fun vs H Q E h => ?_) (fun cdv A outer s H vs Q E hr h => ?_)
  · obtain ⟨rfl, _⟩ := h
    rfl
  · obtain ⟨rfl, k⟩ := h
    refine ⟨_, (pss_one (ps_ret (pe_lst (pa_cons (pe_lst (pa_cons pe_str pa_nil)) (pa_cons (pe_call (ok_written T) (hr.mono (by decide)) rfl T.g_written T.F_written.kp T.b_written .nil pass0 (pa_cons (pe_glob (v := .int 2) rfl T.c_LEAST_BASE ⟨_, rfl⟩) (pa_cons (pe_glob (v := .int 16) rfl T.c_GREATEST_BASE ⟨_, rfl⟩) pa_nil))) (pa_cons (pe_lst (pa_cons pe_str pa_nil)) (pa_cons (pe_call (ok_written T) (hr.mono (by decide)) rfl T.g_written T.F_written.kp T.b_written .nil pass0 (pa_cons pe_int (pa_cons (pe_glob (v := .int 2) rfl T.c_GREATEST_TAKE ⟨_, rfl⟩) pa_nil))) (pa_cons (pe_lst (pa_cons pe_str pa_nil)) (pa_cons (pe_call (ok_written T) (hr.mono (by decide)) rfl T.g_written T.F_written.kp T.b_written .nil pass0 (pa_cons (pe_un un_neg (pe_glob (v := .int 100) rfl T.c_GREATEST_TIMES ⟨_, rfl⟩)) (pa_cons (pe_glob (v := .int 100) rfl T.c_GREATEST_TIMES ⟨_, rfl⟩) pa_nil))) pa_nil))))))))), ?_⟩
    refine ⟨by show 1 ≤ sizeLine; decide, fun a ha => ?_⟩
    refine ⟨2, 16, rfl, by decide, by decide, by decide, by decide, fun b H2 S2 hb0 hb => ?_⟩
    refine ⟨by show 1 ≤ sizeLine; decide, fun c hc => ?_⟩
    refine ⟨1, 2, rfl, by decide, by decide, by decide, by decide, fun d H4 S4 hd0 hd => ?_⟩
    refine ⟨by show 1 ≤ sizeLine; decide, fun e he => ?_⟩
    refine ⟨_, rfl, -100, 100, rfl, by decide, by decide, by decide, by decide, fun f H6 S6 hf0 hf => ?_⟩
    refine ⟨by show 6 ≤ sizeLine; decide, fun L hL => ?_⟩
    have SL := same_upd (o := .lst [.ref a, .ref b, .ref c, .ref d, .ref e, .ref f]) hL
    have T6 := S6.trans SL
    have T5 := (same_upd (o := .lst [.str "times"]) he).trans T6
    have T4 := S4.trans T5
    have T3 := (same_upd (o := .lst [.str "take"]) hc).trans T4
    have T2 := S2.trans T3
    have T1 := (same_upd (o := .lst [.str "base"]) ha).trans T2
    exact k L _ _ T1 upd_same (lots_of (T2 _ _ upd_same) (T3 _ _ hb) (T4 _ _ upd_same) (T5 _ _ hd) (T6 _ _ upd_same) (SL _ _ hf))

/-! ### read -/
def errI (T : Tx P K mg) (E : XK) (H : Hp) (k : Nat) : Prop := ∀ H2 d, Same H H2 → H2 d = none → E (.ref T.C_InvalidText) (some d) (upd H2 d (.xd [(("word" : Str), .int (k : Nat))]))
def spReadX (T : Tx P K mg) : Sp := fun vs H Q E => ∃ s : Str, vs = [.str s] ∧ s.length ≤ 100000 ∧ (wordsOf s).length ≤ 1000 ∧ (Txt.split s " ").length ≤ 1000 ∧ (∃ i, i < 6 ∧ badAt (wordsOf s) i = true) ∧ ∀ k, verdT (wordsOf s) = some k → errI T E H k
theorem verd_at {ws : List Str} {i : Nat} (h : ∀ j, j < i → badAt ws j = false) (hb : badAt ws i = true) (hi : i < 6) : verdT ws = some (i + 1) := by
  unfold verdT
  have : (List.range 6).find? (badAt ws) = some i := by
    rw [List.find?_range_eq_some]
    exact ⟨hb, List.mem_range.mpr hi, fun j hj => by rw [h j hj]; rfl⟩
  rw [this]
theorem verd_all {ws : List Str} (h : ∀ j, j < 6 → badAt ws j = false) : verdT ws = if 6 < ws.length then some 7 else none := by
  unfold verdT
  have : (List.range 6).find? (badAt ws) = none := by
    rw [List.find?_eq_none]
    exact fun j hj => by rw [h j (List.mem_range.mp hj)]; exact Bool.false_ne_true
  rw [this]
theorem ok_read (T : Tx P K mg) : FnOk P w K mg base (L2.CX P w) lv_read T.a_read T.d_read ["text"] (spReadX T) := by
  refine T.F_read.okX sc_read (fun vs H Q E h => ?_) (fun cdv A outer s H vs Q E hr h => ?_)
  · obtain ⟨s, rfl, _⟩ := h
    rfl
  · obtain ⟨x, rfl, lx, lw, ls, ⟨ib, ib6, hib⟩, e⟩ := h
    refine ⟨_, (pss_cons (ps_setLc (i := 1) (own := [("word", 5)]) (g := gName 5) rfl sc_read.nd rfl rfl (sw_true rfl rfl rfl (by decide +kernel)) (pi_list (pe_split (pv 0) pe_str)) (blkOk_by (own := [("word", 5)]) (N := ["text", "words", "places", "place", "possible", "word"]) (sc := defScope s_read) (by decide +kernel)) (fun _ _ _ _ _ => pg_name (i := 5) sc_read.nd rfl (Or.inl rfl)) (fun _ _ _ _ _ => pts_one (pt_cmpR op_ne (pv 5) pe_str (nomark _))) (fun _ _ _ _ _ => (pv 5)))
      (pss_cons (ps_set (i := 2) sc_read.nd rfl (Or.inl rfl) (pe_call0 (ok_possible_words T) (hr.mono (by decide)) rfl T.g_possible_words T.F_possible_words.kp T.b_possible_words .nil pass0))
      (pss_cons (ps_for (passes_of rfl) rfl (pi_enum (by rfl) T.n_enumerate (pa_cons (pv 2) pa_nil)) (pg_tup rfl (pgs_cons (pg_name (i := 3) sc_read.nd rfl (Or.inl rfl)) (pgs_cons (pg_name (i := 4) sc_read.nd rfl (Or.inl rfl)) pgs_nil))) (pss_one (ps_if (PW.pt (pw_or (pt_cmpR op_eq (pv 3) (pe_callB call_len_seq (by rfl) T.n_len (by decide +kernel) (pa_cons (pv 1) pa_nil)) (nomark _)) (pw_or1 (pt_cmpR op_notIn_seq (pe_ix ix_list (pv 1) (pv 3) (fun _ _ => rfl)) (pv 4) (by with_unfolding_all rfl))))) (pss_one (ps_raiseF T.x_InvalidText ar_InvalidText rfl hr (takes_of rfl rfl rfl rfl) (pa_cons (pe_op op_add (pv 3) pe_int) pa_nil))) pss_nil)))
      pss_nev))), ?_⟩
    have hs : (200000 : Nat) ≤ sizeLine := by decide
    refine ⟨_, rfl, ⟨x, rfl⟩, x, " ", rfl, rfl, by decide +kernel, by omega, fun p hp => ?_⟩
    refine ⟨p, rfl, ⟨_, SqL.of upd_same⟩, fun W hW => ?_⟩
    have Sp := same_upd (o := .lst ((Txt.split x " ").map V.str)) hp
    refine lc_it walk_list (fun i H2 => Same (upd H p (.lst ((Txt.split x " ").map V.str))) H2 ∧ H2 W = some (.lst ((((Txt.split x " ").take i).filter fun w => decide (w ≠ Str.empty)).map V.str))) ⟨same_upd hW, by rw [upd_same]; rfl⟩ (fun i H2 _ ⟨S2, _⟩ => SqL.of (S2 _ _ upd_same)) ?_ ?_
    · rintro i y H2 H3 hi ⟨S2, hW2⟩ ⟨rfl, hy⟩
      rw [List.getElem?_map] at hy
      obtain ⟨z, hz, rfl⟩ := Option.map_eq_some_iff.mp hy
      refine ⟨rfl, _, rfl, rfl, _, rfl, ?_⟩
      rw [str_ne]
      have tk : (Txt.split x " ").take (i + 1) = (Txt.split x " ").take i ++ [z] := by
        rw [List.take_succ, hz]
        rfl
      have se : ("" : Str) = Str.empty := by decide +kernel
      rw [se]
      refine ite2 (fun g => ?_) (fun g => ?_)
      · have g1 : decide (z ≠ Str.empty) = true := by simpa using g
        refine ⟨_, rfl, _, hW2, ?_, fun c o hc => ?_, ?_⟩
        · rw [List.length_map]
          have := List.length_filter_le (fun w => decide (w ≠ Str.empty)) ((Txt.split x " ").take i)
          rw [List.length_take] at this
          exact small5 (by omega)
        · rw [upd_ne (ne_of_none hc hW)]
          exact S2 _ _ hc
        · rw [upd_same, tk, List.filter_append, List.map_append]
          simp only [List.filter_cons, g1, if_true, List.filter_nil]
          rfl
      · have g1 : decide (z ≠ Str.empty) = false := by simpa using g
        refine ⟨S2, ?_⟩
        rw [tk, List.filter_append]
        simp only [List.filter_cons, g1, List.filter_nil]
        rw [if_neg Bool.false_ne_true, List.append_nil]
        exact hW2
    · rintro H2 ⟨S2, hW2⟩
      rw [List.length_map, List.take_length] at hW2
      change H2 W = some (.lst ((wordsOf x).map V.str)) at hW2
      have S02 := Sp.trans S2
      generalize hws : wordsOf x = ws at *
      refine ⟨rfl, fun L ys H3 S3 hL hl => ?_⟩
      have hW3 := S3 _ _ hW2
      refine ⟨_, rfl, L, ys, rfl, SqL.of hL, ?_⟩
      refine for_it walk_enum (fun i σ H4 => ∃ v3 v4 : Option V, Same H3 H4 ∧ (∀ j, j < i → badAt ws j = false) ∧ σ = [some (.str x), some (.ref W), some (.ref L), v3, v4, none]) ⟨none, none, Same.refl H3, fun j hj => absurd hj (Nat.not_lt_zero _), rfl⟩ (fun i σ H4 _ ⟨_, _, S4, _⟩ => SqL.of (S4 _ _ hL)) ?_ ?_
      · rintro i x' σ H4 H5 hin ⟨v3, v4, S4, hall, rfl⟩ ⟨q, x2, y, rfl, nq, rfl, e2', hy⟩
        cases e2'
        have hy : ys[i]? = some y := hy
        obtain ⟨l, rfl, hl4⟩ := (hl.same S4).2 i y hy
        have S5 := same_upd (o := .tup [.int (i : Nat), .ref l]) nq
        have hW5 := S5 _ _ (S4 _ _ hW3)
        have hl5 := S5 _ _ hl4
        have S05 := S02.trans (S3.trans (S4.trans S5))
        have l6 := hl.1
        have sm : ((i : Int) + 1).natAbs.log2 < 1920 := Nat.lt_of_le_of_lt (Nat.log2_le_self _) (by omega)
        have bad : badAt ws i = true → errI T E H (i + 1) := fun hb => e _ (verd_at hall hb (by omega))
        refine ⟨q, _, rfl, SqT.of upd_same, rfl, _, _, rfl, _, _, rfl, rfl, ?_⟩
        refine ⟨_, rfl, _, rfl, W, _, rfl, .inl (SqL.of hW5), rfl, _, rfl, ?_⟩
        rw [dec_i, List.length_map]
        refine ite2 (fun g => ?_) (fun g => ?_)
        · have g1 : (i : Int) = (ws.length : Int) := of_decide_eq_true g
          exact iteT ⟨_, rfl, _, _, rfl, rfl, _, rfl, .inr ⟨_, rfl, sm⟩, fun d hd => bad (bad_none (by omega)) _ d S05 hd⟩
        · have g1 : ¬ (i : Int) = (ws.length : Int) := fun z => g (decide_eq_true z)
          have li : i < ws.length := by
            rcases Nat.lt_or_ge i ws.length with z | z
            · exact z
            · rcases Nat.eq_zero_or_pos i with z0 | z0
              · omega
              · have := hall ws.length (by omega)
                rw [bad_none (Nat.le_refl _)] at this
                cases this
          obtain ⟨w, hw⟩ : ∃ w, ws[i]? = some w := ⟨_, List.getElem?_eq_getElem li⟩
          refine ⟨_, rfl, _, rfl, W, _, _, _, rfl, rfl, SqL.of hW5, at_of (j := i) (by omega) (by rw [List.getElem?_map, hw]; rfl), _, rfl, l, _, rfl, .inl (SqL.of hl5), rfl, flat_strs _, _, rfl, ?_⟩
          rw [inV_strs]
          have eb := bad_some hw
          refine ite2 (fun g2 => ?_) (fun g2 => ?_)
          · have g3 : (!(lotsL.getD i []).elem w) = true := g2
            exact ⟨_, rfl, _, _, rfl, rfl, _, rfl, .inr ⟨_, rfl, sm⟩, fun d hd => bad (eb.trans g3) _ d S05 hd⟩
          · have g3 : (!(lotsL.getD i []).elem w) = false := by
              have : ¬ (!(lotsL.getD i []).elem w) = true := g2
              simpa using this
            exact ⟨_, _, S4.trans S5, fun j hj => by
              rcases Nat.lt_or_ge j i with z | z
              · exact hall j z
              · rw [show j = i by omega]; exact eb.trans g3, rfl⟩
      · rintro σ H4 ⟨v3, v4, S4, hall, rfl⟩
        rw [hl.1] at hall
        rw [hall ib ib6] at hib
        cases hib

/-! ### as far as they refuse -/
theorem ok_check_figures (T : Tx P K mg) : FnOk P w K mg base (L2.CX P w) lv_check_figures T.a_check_figures T.d_check_figures ["told", "base", "fewest"] (fun vs H Q E => ∃ (x : V) (b lo : Int), vs = [x, .int b, .int lo] ∧ AnyV (OwnT T) H x ∧ isTup lo 150 (tupOf H x) = false ∧ ∀ d, H d = none → E (.ref T.C_BadFigures) (some d) (upd H d (.xd [(("index" : Str), .non)]))) := by
  refine T.F_check_figures.okX sc_check_figures (fun vs H Q E h => ?_) (fun cdv A outer s H vs Q E hr h => ?_)
  · obtain ⟨x, b, lo, rfl, _⟩ := h
    rfl
  · obtain ⟨x, b, lo, rfl, a, g, k⟩ := h
    refine ⟨_, (pss_cons (ps_if (pt_not (pt_val (pe_call (ok_is_tuple T) (hr.mono (by decide)) rfl T.g_is_tuple T.F_is_tuple.kp T.b_is_tuple .nil pass0 (pa_cons (pv 0) (pa_cons (pv 2) (pa_cons (pe_glob (v := .int 150) rfl T.c_MOST_FIGURES ⟨_, rfl⟩) pa_nil)))))) (pss_one (ps_raiseF T.x_BadFigures ar_BadFigures rfl hr (takes_of rfl rfl rfl rfl) (pa_cons pe_non pa_nil))) pss_nil)
      pss_nev), ?_⟩
    refine ⟨_, rfl, _, rfl, x, lo, 150, rfl, a, _, rfl, ?_⟩
    rw [g]
    exact iteT ⟨_, rfl, .inl rfl, fun d hd => k d hd⟩
theorem ok_figures (T : Tx P K mg) : FnOk P w K mg base (L2.CX P w) lv_figures T.a_figures T.d_figures ["n", "base"] (fun vs H Q E => ∃ (n : Int) (y : V), vs = [.int n, y] ∧ 0 ≤ n ∧ n ≤ 10 ^ 40 ∧ AnyV (OwnT T) H y ∧ intIn y 2 16 = false ∧ E (.ref T.C_BadBase) none H) := by
  refine T.F_figures.okX sc_figures (fun vs H Q E h => ?_) (fun cdv A outer s H vs Q E hr h => ?_)
  · obtain ⟨n, y, rfl, _⟩ := h
    rfl
  · obtain ⟨n, y, rfl, n0, n1, a, g, k⟩ := h
    refine ⟨_, (pss_cons (ps_expr (pe_call (ok_check_stretch T) (hr.mono (by decide)) rfl T.g_check_stretch T.F_check_stretch.kp T.b_check_stretch .nil (passes_call (takes_of rfl rfl rfl rfl) fun _ _ _ _ h => h) (pa_cons (pv 0) (pa_cons pe_int (pa_cons (pe_glob (v := .int 10000000000000000000000000000000000000000) rfl T.c_GREATEST_NUMBER ⟨_, rfl⟩) pa_nil)))))
      (pss_cons (ps_expr (pe_call (ok_check_base T) (hr.mono (by decide)) rfl T.g_check_base T.F_check_base.kp T.b_check_base .nil (passes_call (takes_of rfl rfl rfl rfl) fun _ _ _ _ h => h) (pa_cons (pv 1) pa_nil)))
      pss_nev)), ?_⟩
    have gn : intIn (V.int n) 0 (10 ^ 40) = true := intIn_of n0 n1
    refine ⟨_, rfl, _, 0, 10 ^ 40, rfl, .int n, fun _ => ?_, fun z => Bool.noConfusion (gn.symm.trans z)⟩
    exact ⟨_, rfl, y, rfl, a, fun z => Bool.noConfusion (g.symm.trans z), fun _ => k⟩
theorem ok_number (T : Tx P K mg) : FnOk P w K mg base (L2.CX P w) lv_number T.a_number T.d_number ["told", "base"] (fun vs H Q E => ∃ (x : V) (b : Int), vs = [x, .int b] ∧ 2 ≤ b ∧ b ≤ 16 ∧ AnyV (OwnT T) H x ∧ isTup 1 150 (tupOf H x) = false ∧ ∀ d, H d = none → E (.ref T.C_BadFigures) (some d) (upd H d (.xd [(("index" : Str), .non)]))) := by
  refine T.F_number.okX sc_number (fun vs H Q E h => ?_) (fun cdv A outer s H vs Q E hr h => ?_)
  · obtain ⟨x, b, rfl, _⟩ := h
    rfl
  · obtain ⟨x, b, rfl, b1, b2, a, g, k⟩ := h
    refine ⟨_, (pss_cons (ps_expr (pe_call (ok_check_base T) (hr.mono (by decide)) rfl T.g_check_base T.F_check_base.kp T.b_check_base .nil (passes_call (takes_of rfl rfl rfl rfl) fun _ _ _ _ h => h) (pa_cons (pv 1) pa_nil)))
      (pss_cons (ps_expr (pe_call (ok_check_figures T) (hr.mono (by decide)) rfl T.g_check_figures T.F_check_figures.kp T.b_check_figures .nil (passes_call (takes_of rfl rfl rfl rfl) fun _ _ _ _ h => h) (pa_cons (pv 0) (pa_cons (pv 1) (pa_cons pe_int pa_nil)))))
      pss_nev)), ?_⟩
    have gn : intIn (V.int b) 2 16 = true := intIn_of b1 b2
    refine ⟨_, rfl, _, rfl, .int b, fun _ => ?_, fun z => Bool.noConfusion (gn.symm.trans z)⟩
    exact ⟨_, rfl, _, rfl, x, b, 1, rfl, a, g, k⟩
theorem ok_done (T : Tx P K mg) : FnOk P w K mg base (L2.CX P w) lv_done T.a_done T.d_done ["trick", "n"] (fun vs H Q E => ∃ x y : V, vs = [x, y] ∧ ((AnyV (fun _ => False) H x ∧ E (.ref T.C_BadTrick) none H) ∨
    (∃ p dx fs, x = .ref p ∧ H p = some (.ins T.C_Trick dx fs) ∧ AnyV (OwnT T) H y ∧ intIn y (-(10 ^ 40)) (10 ^ 40) = false ∧ ∀ d, H d = none → E (.ref T.C_BadNumber) (some d) (upd H d (.xd [(("n" : Str), y)]))))) := by
  refine T.F_done.okX sc_done (fun vs H Q E h => ?_) (fun cdv A outer s H vs Q E hr h => ?_)
  · obtain ⟨x, y, rfl, _⟩ := h
    rfl
  · obtain ⟨x, y, rfl, h⟩ := h
    refine ⟨_, (pss_cons (ps_expr (pe_call (ok_check_trick T) (hr.mono (by decide)) rfl T.g_check_trick T.F_check_trick.kp T.b_check_trick .nil (passes_call (takes_of rfl rfl rfl rfl) fun _ _ _ _ h => h) (pa_cons (pv 0) pa_nil)))
      (pss_cons (ps_expr (pe_call (ok_check_number T) (hr.mono (by decide)) rfl T.g_check_number T.F_check_number.kp T.b_check_number .nil (passes_call (takes_of rfl rfl rfl rfl) fun _ _ _ _ h => h) (pa_cons (pv 1) pa_nil)))
      pss_nev)), ?_⟩
    rcases h with ⟨a, k⟩ | ⟨p, dx, fs, rfl, hp, a, g, k⟩
    · exact ⟨_, rfl, _, rfl, .inr ⟨a, k⟩⟩
    · exact ⟨_, rfl, _, rfl, .inl ⟨p, dx, fs, rfl, hp, _, rfl, y, rfl, a, fun z => Bool.noConfusion (g.symm.trans z), fun _ => k⟩⟩
theorem ok_tells (T : Tx P K mg) : FnOk P w K mg base (L2.CX P w) lv_tells T.a_tells T.d_tells ["trick", "d"] (fun vs H Q E => ∃ (p dx : Addr) (fs : List (Str × V)) (y : V), vs = [.ref p, y] ∧ H p = some (.ins T.C_Trick dx fs) ∧ AnyV (OwnT T) H y ∧ intIn y 1 100 = false ∧ E (.ref T.C_BadDivisor) none H) := by
  refine T.F_tells.okX sc_tells (fun vs H Q E h => ?_) (fun cdv A outer s H vs Q E hr h => ?_)
  · obtain ⟨p, dx, fs, y, rfl, _⟩ := h
    rfl
  · obtain ⟨p, dx, fs, y, rfl, hp, a, g, k⟩ := h
    refine ⟨_, (pss_cons (ps_expr (pe_call (ok_check_trick T) (hr.mono (by decide)) rfl T.g_check_trick T.F_check_trick.kp T.b_check_trick .nil (passes_call (takes_of rfl rfl rfl rfl) fun _ _ _ _ h => h) (pa_cons (pv 0) pa_nil)))
      (pss_cons (ps_expr (pe_call (ok_check_divisor T) (hr.mono (by decide)) rfl T.g_check_divisor T.F_check_divisor.kp T.bd_check_divisor T.rd_check_divisor (passes_call (takes_of rfl rfl rfl rfl) fun _ _ _ _ h => h) (pa_cons (pv 1) pa_nil)))
      pss_nev)), ?_⟩
    exact ⟨_, rfl, _, rfl, .inl ⟨p, dx, fs, rfl, hp, _, rfl, _, 100, rfl, by decide, by decide, a, fun z => Bool.noConfusion (g.symm.trans z), fun _ => k⟩⟩
theorem ok_total (T : Tx P K mg) : FnOk P w K mg base (L2.CX P w) lv_total T.a_total T.d_total ["told", "n"] (fun vs H Q E => ∃ x y : V, vs = [x, y] ∧ AnyV (fun _ => False) H x ∧ E (.ref T.C_BadSum) none H) := by
  refine T.F_total.okX sc_total (fun vs H Q E h => ?_) (fun cdv A outer s H vs Q E hr h => ?_)
  · obtain ⟨x, y, rfl, _⟩ := h
    rfl
  · obtain ⟨x, y, rfl, a, k⟩ := h
    exact ⟨_, (pss_cons (ps_expr (pe_call (ok_check_sum T) (hr.mono (by decide)) rfl T.g_check_sum T.F_check_sum.kp T.b_check_sum .nil (passes_call (takes_of rfl rfl rfl rfl) fun _ _ _ _ h => h) (pa_cons (pv 0) pa_nil)))
      pss_nev), _, rfl, x, rfl, .inr ⟨a, k⟩⟩
theorem ok_chained (T : Tx P K mg) : FnOk P w K mg base (L2.CX P w) lv_chained T.a_chained T.d_chained ["tricks", "n"] (fun vs H Q E => ∃ x n : V, vs = [x, n] ∧ AnyV (OwnT T) H x ∧ isTup 1 4 (seqOf H x) = false ∧ errN T E T.C_BadTricks "index" H .non) := by
  refine T.F_chained.okX sc_chained (fun vs H Q E h => ?_) (fun cdv A outer s H vs Q E hr h => ?_)
  · obtain ⟨x, n, rfl, _⟩ := h
    rfl
  · obtain ⟨x, n, rfl, a, g, k⟩ := h
    refine ⟨_, (pss_cons (ps_expr (pe_call (ok_check_tricks T) (hr.mono (by decide)) rfl T.g_check_tricks T.F_check_tricks.kp T.b_check_tricks .nil (passes_call (takes_of rfl rfl rfl rfl) fun _ _ _ _ h => h) (pa_cons (pv 0) pa_nil)))
      pss_nev), ?_⟩
    exact ⟨_, rfl, x, rfl, .inl ⟨a, g, k⟩⟩
theorem ok_chain_tells (T : Tx P K mg) : FnOk P w K mg base (L2.CX P w) lv_chain_tells T.a_chain_tells T.d_chain_tells ["tricks", "d"] (fun vs H Q E => ∃ x d : V, vs = [x, d] ∧ ChW T H x d E fun _ _ _ _ => False) := by
  refine T.F_chain_tells.okX sc_chain_tells (fun vs H Q E h => ?_) (fun cdv A outer s H vs Q E hr h => ?_)
  · obtain ⟨x, n, rfl, _⟩ := h
    rfl
  · obtain ⟨x, d, rfl, h⟩ := h
    refine ⟨_, (pss_cons (ps_expr (pe_call (ok_check_chain T) (hr.mono (by decide)) rfl T.g_check_chain T.F_check_chain.kp T.b_check_chain .nil (passes_call (takes_of rfl rfl rfl rfl) fun _ _ _ _ h => h) (pa_cons (pv 0) (pa_cons (pv 1) pa_nil))))
      pss_nev), ?_⟩
    exact ⟨_, rfl, _, rfl, x, d, rfl, h.to fun _ _ _ _ _ _ _ _ _ _ _ _ _ _ _ f => f.elim⟩

/-! ### the wrong calls -/
def clsN (T : Tx P K mg) : Nat → Addr
  | 0 => T.C_BadBase | 1 => T.C_BadTake | 2 => T.C_BadTimes | 3 => T.C_BadTrick | 4 => T.C_BadNumber | 5 => T.C_BadDivisor | 6 => T.C_BadFigures | 7 => T.C_BadWeights
  | 8 => T.C_BadSum | 9 => T.C_BadRests | 10 => T.C_BadRest | 11 => T.C_BadTricks | 12 => T.C_BadPairs | 13 => T.C_TooWide | _ => T.C_InvalidText
def sp__law_early (T : Tx P K mg) : Sp := fun vs H Q E => ∃ (n : Nat) (p : Addr), vs = [.int (n : Nat), .ref p] ∧ n < 8 ∧ TrickAt T H p 10 1 (-2) ∧ ∀ H' dv, Same H H' → E (.ref (clsN T n)) dv H'
theorem ok__law_early (T : Tx P K mg) : FnOk P w K mg base (L2.CX P w) lv__law_early T.a__law_early T.d__law_early ["_law_kind", "_law_trick"] (sp__law_early T) := by
  refine T.F__law_early.okX sc__law_early (fun vs H Q E h => ?_) (fun cdv A outer s H vs Q E hr h => ?_)
  · obtain ⟨n, p, rfl, _⟩ := h
    rfl
  · obtain ⟨n, p, rfl, n8, hp, k⟩ := h
    obtain ⟨⟨dx, e⟩, _⟩ := id hp
    refine ⟨_, (pss_one (ps_if (pt_cmpR op_eq (pv 0) pe_int (nomark _)) (pss_one (ps_expr (pe_call (ok_figures T) (hr.mono (by decide)) rfl T.g_figures T.F_figures.kp T.b_figures .nil (passes_call (takes_of rfl rfl rfl rfl) fun _ _ _ _ h => h) (pa_cons pe_int (pa_cons pe_int pa_nil))))) (pss_one (ps_if (pt_cmpR op_eq (pv 0) pe_int (nomark _)) (pss_one (ps_expr (pe_make T.mk_Trick (ok_Trick___init__ T) (hr.mono (by decide)) rfl T.g_Trick T.b_Trick___init__ .nil (passes_call (takes_of rfl rfl rfl rfl) fun _ _ _ _ h => h) (pa_cons pe_int (pa_cons pe_int (pa_cons pe_int pa_nil)))))) (pss_one (ps_if (pt_cmpR op_eq (pv 0) pe_int (nomark _)) (pss_one (ps_expr (pe_make T.mk_Trick (ok_Trick___init__ T) (hr.mono (by decide)) rfl T.g_Trick T.b_Trick___init__ .nil (passes_call (takes_of rfl rfl rfl rfl) fun _ _ _ _ h => h) (pa_cons pe_int (pa_cons pe_int (pa_cons pe_int pa_nil)))))) (pss_one (ps_if (pt_cmpR op_eq (pv 0) pe_int (nomark _)) (pss_one (ps_expr (pe_call (ok_done T) (hr.mono (by decide)) rfl T.g_done T.F_done.kp T.b_done .nil (passes_call (takes_of rfl rfl rfl rfl) fun _ _ _ _ h => h) (pa_cons pe_int (pa_cons pe_int pa_nil))))) (pss_one (ps_if (pt_cmpR op_eq (pv 0) pe_int (nomark _)) (pss_one (ps_expr (pe_call (ok_done T) (hr.mono (by decide)) rfl T.g_done T.F_done.kp T.b_done .nil (passes_call (takes_of rfl rfl rfl rfl) fun _ _ _ _ h => h) (pa_cons (pv 1) (pa_cons pe_non pa_nil))))) (pss_one (ps_if (pt_cmpR op_eq (pv 0) pe_int (nomark _)) (pss_one (ps_expr (pe_call (ok_tells T) (hr.mono (by decide)) rfl T.g_tells T.F_tells.kp T.b_tells .nil (passes_call (takes_of rfl rfl rfl rfl) fun _ _ _ _ h => h) (pa_cons (pv 1) (pa_cons pe_int pa_nil))))) (pss_one (ps_if (pt_cmpR op_eq (pv 0) pe_int (nomark _)) (pss_one (ps_expr (pe_call (ok_number T) (hr.mono (by decide)) rfl T.g_number T.F_number.kp T.b_number .nil (passes_call (takes_of rfl rfl rfl rfl) fun _ _ _ _ h => h) (pa_cons (pe_tup pa_nil) (pa_cons pe_int pa_nil))))) (pss_one (ps_expr (pe_make T.mk_Sum (ok_Sum___init__ T) (hr.mono (by decide)) rfl T.g_Sum T.b_Sum___init__ .nil (passes_call (takes_of rfl rfl rfl rfl) fun _ _ _ _ h => h) (pa_cons pe_int (pa_cons pe_int (pa_cons (pe_tup pa_nil) (pa_cons (pe_tup pa_nil) pa_nil))))))))))))))))))))), ?_⟩
    obtain rfl | rfl | rfl | rfl | rfl | rfl | rfl | rfl : n = 0 ∨ n = 1 ∨ n = 2 ∨ n = 3 ∨ n = 4 ∨ n = 5 ∨ n = 6 ∨ n = 7 := by omega
    · exact ⟨_, rfl, rfl, _, rfl, iteT ⟨7, .int 1, rfl, by decide, by decide, .int 1, by decide, k _ _ (Same.refl H)⟩⟩
    · refine ⟨_, rfl, rfl, _, rfl, iteF ⟨_, rfl, rfl, _, rfl, iteT fun q dq nq nd ne => ?_⟩⟩
      have S : Same H (upd (upd H dq (.own q)) q (.ins T.C_Trick dq [])) := Same.made nq nd fun _ _ e _ => e
      refine ⟨q, dq, .int 10, .int 3, .int 1, rfl, upd_same, .int 10, .int 3, .int 1, fun z => absurd z (by decide), fun _ _ => k _ none S, fun _ z => absurd z (by decide), fun b t m _ e2 _ _ _ t1 t2 => ?_⟩
      cases e2
      exact absurd t2 (by decide)
    · refine ⟨_, rfl, rfl, _, rfl, iteF ⟨_, rfl, rfl, _, rfl, iteF ⟨_, rfl, rfl, _, rfl, iteT fun q dq nq nd ne => ?_⟩⟩⟩
      have S : Same H (upd (upd H dq (.own q)) q (.ins T.C_Trick dq [])) := Same.made nq nd fun _ _ e _ => e
      refine ⟨q, dq, .int 10, .int 1, .int 101, rfl, upd_same, .int 10, .int 1, .int 101, fun z => absurd z (by decide), fun _ z => absurd z (by decide), fun _ _ _ => k _ none S, fun b t m _ _ e3 _ _ _ _ m1 m2 => ?_⟩
      cases e3
      exact absurd m2 (by decide)
    · refine ⟨_, rfl, rfl, _, rfl, iteF ⟨_, rfl, rfl, _, rfl, iteF ⟨_, rfl, rfl, _, rfl, iteF ⟨_, rfl, rfl, _, rfl, iteT ?_⟩⟩⟩⟩
      exact ⟨.int 7, .int 7, rfl, .inl ⟨.int 7, k _ _ (Same.refl H)⟩⟩
    · refine ⟨_, rfl, rfl, _, rfl, iteF ⟨_, rfl, rfl, _, rfl, iteF ⟨_, rfl, rfl, _, rfl, iteF ⟨_, rfl, rfl, _, rfl, iteF ⟨_, rfl, rfl, _, rfl, iteT ?_⟩⟩⟩⟩⟩
      exact ⟨_, rfl, _, _, rfl, .inr ⟨p, dx, _, rfl, e, .non, by decide, fun d hd => k _ _ (same_upd hd)⟩⟩
    · refine ⟨_, rfl, rfl, _, rfl, iteF ⟨_, rfl, rfl, _, rfl, iteF ⟨_, rfl, rfl, _, rfl, iteF ⟨_, rfl, rfl, _, rfl, iteF ⟨_, rfl, rfl, _, rfl, iteF ⟨_, rfl, rfl, _, rfl, iteT ?_⟩⟩⟩⟩⟩⟩
      exact ⟨_, rfl, p, dx, _, .int 0, rfl, e, .int 0, by decide, k _ _ (Same.refl H)⟩
    · refine ⟨_, rfl, rfl, _, rfl, iteF ⟨_, rfl, rfl, _, rfl, iteF ⟨_, rfl, rfl, _, rfl, iteF ⟨_, rfl, rfl, _, rfl, iteF ⟨_, rfl, rfl, _, rfl, iteF ⟨_, rfl, rfl, _, rfl, iteF ⟨_, rfl, rfl, _, rfl, iteT ?_⟩⟩⟩⟩⟩⟩⟩
      refine ⟨by show 0 ≤ sizeLine; decide, fun q hq => ?_⟩
      exact ⟨.ref q, 10, rfl, by decide, by decide, .tup upd_same, by rw [tupOf_ref upd_same]; rfl, fun d hd => k _ _ ((same_upd hq).trans (same_upd hd))⟩
    · refine ⟨_, rfl, rfl, _, rfl, iteF ⟨_, rfl, rfl, _, rfl, iteF ⟨_, rfl, rfl, _, rfl, iteF ⟨_, rfl, rfl, _, rfl, iteF ⟨_, rfl, rfl, _, rfl, iteF ⟨_, rfl, rfl, _, rfl, iteF ⟨_, rfl, rfl, _, rfl, iteF ?_⟩⟩⟩⟩⟩⟩⟩
      refine ⟨by show 0 ≤ sizeLine; decide, fun q1 h1 => ⟨by show 0 ≤ sizeLine; decide, fun q2 h2 => fun q dq nq nd ne => ?_⟩⟩
      have S1 := same_upd (o := .tup []) h1
      have S2 := same_upd (o := .tup []) h2
      have S3 : Same (upd (upd H q1 (.tup [])) q2 (.tup [])) (upd (upd (upd (upd H q1 (.tup [])) q2 (.tup [])) dq (.own q)) q (.ins T.C_Sum dq [])) := Same.made nq nd fun _ _ e _ => e
      have e1 := S3 _ _ (S2 _ _ (upd_same (H := H) (a := q1) (o := .tup [])))
      have e2 := S3 _ _ (upd_same (H := upd H q1 (.tup [])) (a := q2) (o := .tup []))
      have w0 : wVerd 0 (upd (upd (upd (upd H q1 (.tup [])) q2 (.tup [])) dq (.own q)) q (.ins T.C_Sum dq [])) (.ref q1) = none := by
        unfold wVerd
        rw [tupOf_ref e1]
        decide
      have w1 : wVerd 1 (upd (upd (upd (upd H q1 (.tup [])) q2 (.tup [])) dq (.own q)) q (.ins T.C_Sum dq [])) (.ref q2) = some .non := by
        unfold wVerd
        rw [tupOf_ref e2]
        decide
      have no : ∀ {r : Addr} {HH : Hp}, HH r = some (.tup []) → ItemsAny (OwnT T) HH (.ref r) := fun {r HH} er ys e3 y hy => by
        rw [tupOf_ref er] at e3
        cases e3
        cases hy
      refine ⟨q, dq, .int 10, .int 1, .ref q1, .ref q2, rfl, upd_same, .int 10, .int 1, .tup e1, .tup e2, no e1, no e2, fun z => absurd z (by decide), fun _ z => absurd z (by decide), fun _ _ w hw => ?_, fun _ _ _ w hw H2 d S4 hd => ?_, fun _ _ _ hw => ?_⟩
      · rw [w0] at hw
        cases hw
      · exact k _ _ (((S1.trans S2).trans S3).trans (S4.trans (same_upd hd)))
      · rw [w1] at hw
        cases hw

def sp__law_call (T : Tx P K mg) : Sp := fun vs H Q E => ∃ n : Nat, vs = [.int (n : Nat)] ∧ n < 15 ∧ ∀ H' dv, Same H H' → E (.ref (clsN T n)) dv H'
theorem ok__law_call (T : Tx P K mg) : FnOk P w K mg base (L2.CX P w) lv__law_call T.a__law_call T.d__law_call ["_law_kind"] (sp__law_call T) := by
  refine T.F__law_call.okX sc__law_call (fun vs H Q E h => ?_) (fun cdv A outer s H vs Q E hr h => ?_)
  · obtain ⟨n, rfl, _⟩ := h
    rfl
  · obtain ⟨n, rfl, n15, k⟩ := h
    refine ⟨_, (pss_cons (ps_set (i := 1) sc__law_call.nd rfl (Or.inl rfl) (pe_make T.mk_Trick (ok_Trick___init__ T) (hr.mono (by decide)) rfl T.g_Trick T.b_Trick___init__ .nil (passes_call (takes_of rfl rfl rfl rfl) fun _ _ _ _ h => h) (pa_cons pe_int (pa_cons pe_int (pa_cons (pe_un un_neg pe_int) pa_nil)))))
      (pss_one (ps_if (pt_cmpR op_lt (pv 0) pe_int (nomark _)) (pss_one (ps_expr (pe_call (ok__law_early T) (hr.mono (by decide)) rfl T.g__law_early T.F__law_early.kp T.b__law_early .nil (passes_call (takes_of rfl rfl rfl rfl) fun _ _ _ _ h => h) (pa_cons (pv 0) (pa_cons (pv 1) pa_nil))))) (pss_one (ps_if (pt_cmpR op_eq (pv 0) pe_int (nomark _)) (pss_one (ps_expr (pe_call (ok_total T) (hr.mono (by decide)) rfl T.g_total T.F_total.kp T.b_total .nil (passes_call (takes_of rfl rfl rfl rfl) fun _ _ _ _ h => h) (pa_cons pe_int (pa_cons pe_int pa_nil))))) (pss_one (ps_if (pt_cmpR op_eq (pv 0) pe_int (nomark _)) (pss_one (ps_expr (pe_call (ok_front_states T) (hr.mono (by decide)) rfl T.g_front_states T.F_front_states.kp T.b_front_states .nil (passes_call (takes_of rfl rfl rfl rfl) fun _ _ _ _ h => h) (pa_cons pe_int (pa_cons (pe_tup pa_nil) pa_nil))))) (pss_one (ps_if (pt_cmpR op_eq (pv 0) pe_int (nomark _)) (pss_one (ps_expr (pe_call (ok_front_word T) (hr.mono (by decide)) rfl T.g_front_word T.F_front_word.kp T.b_front_word .nil (passes_call (takes_of rfl rfl rfl rfl) fun _ _ _ _ h => h) (pa_cons pe_int (pa_cons (pe_tup (pa_cons pe_int (pa_cons pe_int pa_nil))) (pa_cons pe_int (pa_cons pe_int pa_nil))))))) (pss_one (ps_if (pt_cmpR op_eq (pv 0) pe_int (nomark _)) (pss_one (ps_expr (pe_call (ok_chained T) (hr.mono (by decide)) rfl T.g_chained T.F_chained.kp T.b_chained .nil (passes_call (takes_of rfl rfl rfl rfl) fun _ _ _ _ h => h) (pa_cons (pe_lst pa_nil) (pa_cons pe_int pa_nil))))) (pss_one (ps_if (pt_cmpR op_eq (pv 0) pe_int (nomark _)) (pss_one (ps_expr (pe_call (ok_fitting T) (hr.mono (by decide)) rfl T.g_fitting T.F_fitting.kp T.b_fitting .nil (passes_call (takes_of rfl rfl rfl rfl) fun _ _ _ _ h => h) (pa_cons (pe_lst pa_nil) pa_nil)))) (pss_one (ps_if (pt_cmpR op_eq (pv 0) pe_int (nomark _)) (pss_one (ps_expr (pe_call (ok_chain_tells T) (hr.mono (by decide)) rfl T.g_chain_tells T.F_chain_tells.kp T.b_chain_tells .nil (passes_call (takes_of rfl rfl rfl rfl) fun _ _ _ _ h => h) (pa_cons (pe_lst (pa_cons (pe_make T.mk_Trick (ok_Trick___init__ T) (hr.mono (by decide)) rfl T.g_Trick T.b_Trick___init__ .nil (passes_call (takes_of rfl rfl rfl rfl) fun _ _ _ _ h => h) (pa_cons pe_int (pa_cons pe_int (pa_cons pe_int pa_nil)))) (pa_cons (pv 1) pa_nil))) (pa_cons pe_int pa_nil))))) (pss_one (ps_expr (pe_call (ok_read T) (hr.mono (by decide)) rfl T.g_read T.F_read.kp T.b_read .nil (passes_call (takes_of rfl rfl rfl rfl) fun _ _ _ _ h => h) (pa_cons pe_str pa_nil))))))))))))))))))), ?_⟩
    refine ⟨_, rfl, fun p dx np nd ne => ?_⟩
    refine ⟨p, dx, .int 10, .int 1, .int (-2), rfl, upd_same, .int 10, .int 1, .int (-2), fun z => absurd z (by decide), fun _ z => absurd z (by decide), fun _ _ z => absurd z (by decide), fun b t m e1 e2 e3 b1 b2 t1 t2 m1 m2 H1 hp kp => ⟨rfl, ?_⟩⟩
    cases e1; cases e2; cases e3
    have S := Same.made np nd kp
    by_cases n8 : n < 8
    · refine ⟨_, rfl, _, _, rfl, rfl, _, rfl, ?_⟩
      refine ite2 (fun g => ?_) (fun g => ?_)
      · exact ⟨_, rfl, _, rfl, n, p, rfl, n8, hp, fun H' dv S' => k _ _ (S.trans S')⟩
      · have g1 : ¬ ((n : Int) < 8) := by simpa using g
        omega
    obtain rfl | rfl | rfl | rfl | rfl | rfl | rfl : n = 8 ∨ n = 9 ∨ n = 10 ∨ n = 11 ∨ n = 12 ∨ n = 13 ∨ n = 14 := by omega
    · refine ⟨_, rfl, _, _, rfl, rfl, _, rfl, iteF ⟨_, rfl, rfl, _, rfl, iteT ?_⟩⟩
      exact ⟨.int 7, .int 7, rfl, .int 7, k _ _ S⟩
    · refine ⟨_, rfl, _, _, rfl, rfl, _, rfl, iteF ⟨_, rfl, rfl, _, rfl, iteF ⟨_, rfl, rfl, _, rfl, iteT ?_⟩⟩⟩
      refine ⟨by show 0 ≤ sizeLine; decide, fun q hq => ?_⟩
      refine ⟨.int 10, .ref q, rfl, .int 10, .tup upd_same, ItemsAny.ints (ns := []) upd_same, fun z => absurd z (by decide), fun _ => ⟨.non, ?_, fun H2 d S2 hd => k _ _ ((S.trans (same_upd hq)).trans (S2.trans (same_upd hd)))⟩⟩
      unfold lVerd
      rw [tupOf_ref upd_same]
      decide
    · refine ⟨_, rfl, _, _, rfl, rfl, _, rfl, iteF ⟨_, rfl, rfl, _, rfl, iteF ⟨_, rfl, rfl, _, rfl, iteF ⟨_, rfl, rfl, _, rfl, iteT ?_⟩⟩⟩⟩
      refine ⟨by show 2 ≤ sizeLine; decide, fun q hq => ?_⟩
      have lv : lVerd (upd H1 q (.tup [.int 0, .int 1])) (.ref q) = none := by
        unfold lVerd
        rw [tupOf_ref upd_same]
        decide
      refine ⟨.int 10, .ref q, .int 0, .int 2, rfl, .int 10, .tup upd_same, ItemsAny.ints (ns := [0, 1]) upd_same, .int 0, .int 2, fun z => absurd z (by decide), fun _ => ⟨fun v hv => ?_, fun c ls e1 e2 _ => ⟨fun H2 S2 => k _ _ ((S.trans (same_upd hq)).trans S2), .inr ?_⟩⟩⟩
      · rw [lv] at hv
        cases hv
      · cases e1
        rw [upd_same] at e2
        have e3 : ([.int 0, .int 1] : List V) = ls.map V.int := by injection e2 with e2; injection e2
        have e4 := congrArg List.length e3
        rw [List.length_map] at e4
        rw [← e4]
        decide
    · refine ⟨_, rfl, _, _, rfl, rfl, _, rfl, iteF ⟨_, rfl, rfl, _, rfl, iteF ⟨_, rfl, rfl, _, rfl, iteF ⟨_, rfl, rfl, _, rfl, iteF ⟨_, rfl, rfl, _, rfl, iteT ?_⟩⟩⟩⟩⟩
      refine ⟨by show 0 ≤ sizeLine; decide, fun l hl => ?_⟩
      refine ⟨.ref l, .int 7, rfl, .lst upd_same, by rw [seqOf_at (.inl upd_same)]; rfl, fun H2 d S2 hd => k _ _ ((S.trans (same_upd hl)).trans (S2.trans (same_upd hd)))⟩
    · refine ⟨_, rfl, _, _, rfl, rfl, _, rfl, iteF ⟨_, rfl, rfl, _, rfl, iteF ⟨_, rfl, rfl, _, rfl, iteF ⟨_, rfl, rfl, _, rfl, iteF ⟨_, rfl, rfl, _, rfl, iteF ⟨_, rfl, rfl, _, rfl, iteT ?_⟩⟩⟩⟩⟩⟩
      refine ⟨by show 0 ≤ sizeLine; decide, fun l hl => ?_⟩
      have sq : seqOf (upd H1 l (.lst [])) (.ref l) = some [] := seqOf_at (.inl upd_same)
      refine ⟨.ref l, .non, rfl, ⟨.lst upd_same, fun ys e y hy => ?_, .inl ⟨by rw [sq]; rfl, rfl⟩⟩, fun H2 d S2 hd => k _ _ ((S.trans (same_upd hl)).trans (S2.trans (same_upd hd)))⟩
      rw [sq] at e
      cases e
      cases hy
    · refine ⟨_, rfl, _, _, rfl, rfl, _, rfl, iteF ⟨_, rfl, rfl, _, rfl, iteF ⟨_, rfl, rfl, _, rfl, iteF ⟨_, rfl, rfl, _, rfl, iteF ⟨_, rfl, rfl, _, rfl, iteF ⟨_, rfl, rfl, _, rfl, iteF ⟨_, rfl, rfl, _, rfl, iteT ?_⟩⟩⟩⟩⟩⟩⟩
      intro q dq nq nd2 ne2
      refine ⟨q, dq, .int 16, .int 2, .int 1, rfl, upd_same, .int 16, .int 2, .int 1, fun z => absurd z (by decide), fun _ z => absurd z (by decide), fun _ _ z => absurd z (by decide), fun b t m e1 e2 e3 b1 b2 t1 t2 m1 m2 H2 hq kq => ⟨rfl, ?_⟩⟩
      cases e1; cases e2; cases e3
      have S2 := S.trans (Same.made nq nd2 kq)
      have hp2 := hp.same (Same.made nq nd2 kq)
      refine ⟨_, rfl, by show 2 ≤ sizeLine; decide, fun l hl => ?_⟩
      have SL := same_upd (o := .lst [.ref q, .ref p]) hl
      exact ⟨.ref l, .int 3, rfl, .int 3, .inr (.inr ⟨l, [.ref q, .ref p], [(16, 2, 1), (10, 1, -2)], rfl, .inl upd_same, (by show 1 ≤ 2; decide), (by show 2 ≤ 4; decide), ⟨⟨q, rfl, hq.same SL⟩, ⟨p, rfl, hp2.same SL⟩, trivial⟩, fun z => absurd z (by decide), fun _ _ H3 d S3 hd => k _ _ ((S2.trans SL).trans (S3.trans (same_upd hd))), fun _ z => absurd z (by decide)⟩)⟩
    · refine ⟨_, rfl, _, _, rfl, rfl, _, rfl, iteF ⟨_, rfl, rfl, _, rfl, iteF ⟨_, rfl, rfl, _, rfl, iteF ⟨_, rfl, rfl, _, rfl, iteF ⟨_, rfl, rfl, _, rfl, iteF ⟨_, rfl, rfl, _, rfl, iteF ⟨_, rfl, rfl, _, rfl, iteF ?_⟩⟩⟩⟩⟩⟩⟩
      have ws : wordsOf "base" = [("base" : Str)] := by decide +kernel
      refine ⟨"base", rfl, by decide +kernel, by rw [ws]; decide, by decide +kernel, ⟨1, by decide, by rw [ws]; decide +kernel⟩, fun kk hk H2 d S2 hd => k _ _ (S.trans (S2.trans (same_upd hd)))⟩

/-! ### which error it is -/
def sp__law_first (T : Tx P K mg) : Sp := fun vs H Q _ => ∃ n : Nat, vs = [.int (n : Nat)] ∧ n < 15 ∧ ∀ H', Same H H' → Q (.int ((min n 8 : Nat) : Int)) H'
theorem ok__law_first (T : Tx P K mg) : FnOk P w K mg base CX0 lv__law_first T.a__law_first T.d__law_first ["_law_kind"] (sp__law_first T) := by
  refine T.F__law_first.ok sc__law_first (fun vs H Q E h => ?_) (fun cdv A outer s H vs Q E hr h => ?_)
  · obtain ⟨n, rfl, _⟩ := h
    rfl
  · obtain ⟨n, rfl, n15, k⟩ := h
    refine ⟨_, (pss_cons (ps_set (i := 1) sc__law_first.nd rfl (Or.inl rfl) (pe_lst pa_nil))
      (pss_cons (ps_try_x (tb := fun W => (tDrop (tCall (sp__law_call T) [] (fun cls d H => ∀ σ : L2.St, σ.length = 2 → W cls d σ H) (tCons (tVar 0) tNil)))) rfl rfl sc__law_first.nd takes0 (fun W pn xe tk _ => (pss_one (ps_expr (pe_call (ok__law_call T) (hr.mono (by decide)) rfl T.g__law_call T.F__law_call.kp T.b__law_call .nil (passN tk) (pa_cons (pv 0) pa_nil))))) (HdsX.un ⟨rfl, by decide, Or.inl T.g_BadBase⟩ (fun a oe cls d pn hz hf => (pss_one (ps_set (i := 1) sc__law_first.nd rfl (Or.inl rfl) pe_int))) (HdsX.un ⟨rfl, by decide, Or.inl T.g_BadTake⟩ (fun a oe cls d pn hz hf => (pss_one (ps_set (i := 1) sc__law_first.nd rfl (Or.inl rfl) pe_int))) (HdsX.un ⟨rfl, by decide, Or.inl T.g_BadTimes⟩ (fun a oe cls d pn hz hf => (pss_one (ps_set (i := 1) sc__law_first.nd rfl (Or.inl rfl) pe_int))) (HdsX.un ⟨rfl, by decide, Or.inl T.g_BadTrick⟩ (fun a oe cls d pn hz hf => (pss_one (ps_set (i := 1) sc__law_first.nd rfl (Or.inl rfl) pe_int))) (HdsX.un ⟨rfl, by decide, Or.inl T.g_BadNumber⟩ (fun a oe cls d pn hz hf => (pss_one (ps_set (i := 1) sc__law_first.nd rfl (Or.inl rfl) pe_int))) (HdsX.un ⟨rfl, by decide, Or.inl T.g_BadDivisor⟩ (fun a oe cls d pn hz hf => (pss_one (ps_set (i := 1) sc__law_first.nd rfl (Or.inl rfl) pe_int))) (HdsX.un ⟨rfl, by decide, Or.inl T.g_BadFigures⟩ (fun a oe cls d pn hz hf => (pss_one (ps_set (i := 1) sc__law_first.nd rfl (Or.inl rfl) pe_int))) (HdsX.un ⟨rfl, by decide, Or.inl T.g_BadWeights⟩ (fun a oe cls d pn hz hf => (pss_one (ps_set (i := 1) sc__law_first.nd rfl (Or.inl rfl) pe_int))) (HdsX.un ⟨rfl, by decide, Or.inl T.g_TrickError⟩ (fun a oe cls d pn hz hf => (pss_one (ps_set (i := 1) sc__law_first.nd rfl (Or.inl rfl) pe_int))) HdsX.nil))))))))))
      (pss_one (ps_ret (pv 1))))), ?_⟩
    refine ⟨by show 0 ≤ sizeLine; decide, fun l hl => ⟨_, rfl, n, rfl, n15, fun H' dv S σ hσ => ?_⟩⟩
    obtain ⟨v1, v2, rfl⟩ : ∃ a b, σ = [a, b] := match σ, hσ with
      | [a, b], _ => ⟨a, b, rfl⟩
    obtain rfl | rfl | rfl | rfl | rfl | rfl | rfl | rfl | rfl | rfl | rfl | rfl | rfl | rfl | rfl : n = 0 ∨ n = 1 ∨ n = 2 ∨ n = 3 ∨ n = 4 ∨ n = 5 ∨ n = 6 ∨ n = 7 ∨ n = 8 ∨ n = 9 ∨ n = 10 ∨ n = 11 ∨ n = 12 ∨ n = 13 ∨ n = 14 := by omega
    · exact ⟨_, T.xm_BadBase_BadBase, fun _ c nc => ⟨_, rfl, k _ ((same_upd hl).trans S)⟩, fun z => nomatch z⟩
    · exact ⟨_, T.xm_BadTake_BadBase, fun z => (nomatch z), fun _ => ⟨_, T.xm_BadTake_BadTake, fun _ c nc => ⟨_, rfl, k _ ((same_upd hl).trans S)⟩, fun z => nomatch z⟩⟩
    · exact ⟨_, T.xm_BadTimes_BadBase, fun z => (nomatch z), fun _ => ⟨_, T.xm_BadTimes_BadTake, fun z => (nomatch z), fun _ => ⟨_, T.xm_BadTimes_BadTimes, fun _ c nc => ⟨_, rfl, k _ ((same_upd hl).trans S)⟩, fun z => nomatch z⟩⟩⟩
    · exact ⟨_, T.xm_BadTrick_BadBase, fun z => (nomatch z), fun _ => ⟨_, T.xm_BadTrick_BadTake, fun z => (nomatch z), fun _ => ⟨_, T.xm_BadTrick_BadTimes, fun z => (nomatch z), fun _ => ⟨_, T.xm_BadTrick_BadTrick, fun _ c nc => ⟨_, rfl, k _ ((same_upd hl).trans S)⟩, fun z => nomatch z⟩⟩⟩⟩
    · exact ⟨_, T.xm_BadNumber_BadBase, fun z => (nomatch z), fun _ => ⟨_, T.xm_BadNumber_BadTake, fun z => (nomatch z), fun _ => ⟨_, T.xm_BadNumber_BadTimes, fun z => (nomatch z), fun _ => ⟨_, T.xm_BadNumber_BadTrick, fun z => (nomatch z), fun _ => ⟨_, T.xm_BadNumber_BadNumber, fun _ c nc => ⟨_, rfl, k _ ((same_upd hl).trans S)⟩, fun z => nomatch z⟩⟩⟩⟩⟩
    · exact ⟨_, T.xm_BadDivisor_BadBase, fun z => (nomatch z), fun _ => ⟨_, T.xm_BadDivisor_BadTake, fun z => (nomatch z), fun _ => ⟨_, T.xm_BadDivisor_BadTimes, fun z => (nomatch z), fun _ => ⟨_, T.xm_BadDivisor_BadTrick, fun z => (nomatch z), fun _ => ⟨_, T.xm_BadDivisor_BadNumber, fun z => (nomatch z), fun _ => ⟨_, T.xm_BadDivisor_BadDivisor, fun _ c nc => ⟨_, rfl, k _ ((same_upd hl).trans S)⟩, fun z => nomatch z⟩⟩⟩⟩⟩⟩
    · exact ⟨_, T.xm_BadFigures_BadBase, fun z => (nomatch z), fun _ => ⟨_, T.xm_BadFigures_BadTake, fun z => (nomatch z), fun _ => ⟨_, T.xm_BadFigures_BadTimes, fun z => (nomatch z), fun _ => ⟨_, T.xm_BadFigures_BadTrick, fun z => (nomatch z), fun _ => ⟨_, T.xm_BadFigures_BadNumber, fun z => (nomatch z), fun _ => ⟨_, T.xm_BadFigures_BadDivisor, fun z => (nomatch z), fun _ => ⟨_, T.xm_BadFigures_BadFigures, fun _ c nc => ⟨_, rfl, k _ ((same_upd hl).trans S)⟩, fun z => nomatch z⟩⟩⟩⟩⟩⟩⟩
    · exact ⟨_, T.xm_BadWeights_BadBase, fun z => (nomatch z), fun _ => ⟨_, T.xm_BadWeights_BadTake, fun z => (nomatch z), fun _ => ⟨_, T.xm_BadWeights_BadTimes, fun z => (nomatch z), fun _ => ⟨_, T.xm_BadWeights_BadTrick, fun z => (nomatch z), fun _ => ⟨_, T.xm_BadWeights_BadNumber, fun z => (nomatch z), fun _ => ⟨_, T.xm_BadWeights_BadDivisor, fun z => (nomatch z), fun _ => ⟨_, T.xm_BadWeights_BadFigures, fun z => (nomatch z), fun _ => ⟨_, T.xm_BadWeights_BadWeights, fun _ c nc => ⟨_, rfl, k _ ((same_upd hl).trans S)⟩, fun z => nomatch z⟩⟩⟩⟩⟩⟩⟩⟩
    · exact ⟨_, T.xm_BadSum_BadBase, fun z => (nomatch z), fun _ => ⟨_, T.xm_BadSum_BadTake, fun z => (nomatch z), fun _ => ⟨_, T.xm_BadSum_BadTimes, fun z => (nomatch z), fun _ => ⟨_, T.xm_BadSum_BadTrick, fun z => (nomatch z), fun _ => ⟨_, T.xm_BadSum_BadNumber, fun z => (nomatch z), fun _ => ⟨_, T.xm_BadSum_BadDivisor, fun z => (nomatch z), fun _ => ⟨_, T.xm_BadSum_BadFigures, fun z => (nomatch z), fun _ => ⟨_, T.xm_BadSum_BadWeights, fun z => (nomatch z), fun _ => ⟨_, T.xm_BadSum_TrickError, fun _ c nc => ⟨_, rfl, k _ ((same_upd hl).trans S)⟩, fun z => nomatch z⟩⟩⟩⟩⟩⟩⟩⟩⟩
    · exact ⟨_, T.xm_BadRests_BadBase, fun z => (nomatch z), fun _ => ⟨_, T.xm_BadRests_BadTake, fun z => (nomatch z), fun _ => ⟨_, T.xm_BadRests_BadTimes, fun z => (nomatch z), fun _ => ⟨_, T.xm_BadRests_BadTrick, fun z => (nomatch z), fun _ => ⟨_, T.xm_BadRests_BadNumber, fun z => (nomatch z), fun _ => ⟨_, T.xm_BadRests_BadDivisor, fun z => (nomatch z), fun _ => ⟨_, T.xm_BadRests_BadFigures, fun z => (nomatch z), fun _ => ⟨_, T.xm_BadRests_BadWeights, fun z => (nomatch z), fun _ => ⟨_, T.xm_BadRests_TrickError, fun _ c nc => ⟨_, rfl, k _ ((same_upd hl).trans S)⟩, fun z => nomatch z⟩⟩⟩⟩⟩⟩⟩⟩⟩
    · exact ⟨_, T.xm_BadRest_BadBase, fun z => (nomatch z), fun _ => ⟨_, T.xm_BadRest_BadTake, fun z => (nomatch z), fun _ => ⟨_, T.xm_BadRest_BadTimes, fun z => (nomatch z), fun _ => ⟨_, T.xm_BadRest_BadTrick, fun z => (nomatch z), fun _ => ⟨_, T.xm_BadRest_BadNumber, fun z => (nomatch z), fun _ => ⟨_, T.xm_BadRest_BadDivisor, fun z => (nomatch z), fun _ => ⟨_, T.xm_BadRest_BadFigures, fun z => (nomatch z), fun _ => ⟨_, T.xm_BadRest_BadWeights, fun z => (nomatch z), fun _ => ⟨_, T.xm_BadRest_TrickError, fun _ c nc => ⟨_, rfl, k _ ((same_upd hl).trans S)⟩, fun z => nomatch z⟩⟩⟩⟩⟩⟩⟩⟩⟩
    · exact ⟨_, T.xm_BadTricks_BadBase, fun z => (nomatch z), fun _ => ⟨_, T.xm_BadTricks_BadTake, fun z => (nomatch z), fun _ => ⟨_, T.xm_BadTricks_BadTimes, fun z => (nomatch z), fun _ => ⟨_, T.xm_BadTricks_BadTrick, fun z => (nomatch z), fun _ => ⟨_, T.xm_BadTricks_BadNumber, fun z => (nomatch z), fun _ => ⟨_, T.xm_BadTricks_BadDivisor, fun z => (nomatch z), fun _ => ⟨_, T.xm_BadTricks_BadFigures, fun z => (nomatch z), fun _ => ⟨_, T.xm_BadTricks_BadWeights, fun z => (nomatch z), fun _ => ⟨_, T.xm_BadTricks_TrickError, fun _ c nc => ⟨_, rfl, k _ ((same_upd hl).trans S)⟩, fun z => nomatch z⟩⟩⟩⟩⟩⟩⟩⟩⟩
    · exact ⟨_, T.xm_BadPairs_BadBase, fun z => (nomatch z), fun _ => ⟨_, T.xm_BadPairs_BadTake, fun z => (nomatch z), fun _ => ⟨_, T.xm_BadPairs_BadTimes, fun z => (nomatch z), fun _ => ⟨_, T.xm_BadPairs_BadTrick, fun z => (nomatch z), fun _ => ⟨_, T.xm_BadPairs_BadNumber, fun z => (nomatch z), fun _ => ⟨_, T.xm_BadPairs_BadDivisor, fun z => (nomatch z), fun _ => ⟨_, T.xm_BadPairs_BadFigures, fun z => (nomatch z), fun _ => ⟨_, T.xm_BadPairs_BadWeights, fun z => (nomatch z), fun _ => ⟨_, T.xm_BadPairs_TrickError, fun _ c nc => ⟨_, rfl, k _ ((same_upd hl).trans S)⟩, fun z => nomatch z⟩⟩⟩⟩⟩⟩⟩⟩⟩
    · exact ⟨_, T.xm_TooWide_BadBase, fun z => (nomatch z), fun _ => ⟨_, T.xm_TooWide_BadTake, fun z => (nomatch z), fun _ => ⟨_, T.xm_TooWide_BadTimes, fun z => (nomatch z), fun _ => ⟨_, T.xm_TooWide_BadTrick, fun z => (nomatch z), fun _ => ⟨_, T.xm_TooWide_BadNumber, fun z => (nomatch z), fun _ => ⟨_, T.xm_TooWide_BadDivisor, fun z => (nomatch z), fun _ => ⟨_, T.xm_TooWide_BadFigures, fun z => (nomatch z), fun _ => ⟨_, T.xm_TooWide_BadWeights, fun z => (nomatch z), fun _ => ⟨_, T.xm_TooWide_TrickError, fun _ c nc => ⟨_, rfl, k _ ((same_upd hl).trans S)⟩, fun z => nomatch z⟩⟩⟩⟩⟩⟩⟩⟩⟩
    · exact ⟨_, T.xm_InvalidText_BadBase, fun z => (nomatch z), fun _ => ⟨_, T.xm_InvalidText_BadTake, fun z => (nomatch z), fun _ => ⟨_, T.xm_InvalidText_BadTimes, fun z => (nomatch z), fun _ => ⟨_, T.xm_InvalidText_BadTrick, fun z => (nomatch z), fun _ => ⟨_, T.xm_InvalidText_BadNumber, fun z => (nomatch z), fun _ => ⟨_, T.xm_InvalidText_BadDivisor, fun z => (nomatch z), fun _ => ⟨_, T.xm_InvalidText_BadFigures, fun z => (nomatch z), fun _ => ⟨_, T.xm_InvalidText_BadWeights, fun z => (nomatch z), fun _ => ⟨_, T.xm_InvalidText_TrickError, fun _ c nc => ⟨_, rfl, k _ ((same_upd hl).trans S)⟩, fun z => nomatch z⟩⟩⟩⟩⟩⟩⟩⟩⟩
def sp__law_second (T : Tx P K mg) : Sp := fun vs H Q _ => ∃ n : Nat, vs = [.int (n : Nat)] ∧ n < 15 ∧ ∀ H', Same H H' → Q (.int ((if 7 < n then n else 0 : Nat) : Int)) H'
theorem ok__law_second (T : Tx P K mg) : FnOk P w K mg base CX0 lv__law_second T.a__law_second T.d__law_second ["_law_kind"] (sp__law_second T) := by
  refine T.F__law_second.ok sc__law_second (fun vs H Q E h => ?_) (fun cdv A outer s H vs Q E hr h => ?_)
  · obtain ⟨n, rfl, _⟩ := h
    rfl
  · obtain ⟨n, rfl, n15, k⟩ := h
    refine ⟨_, (pss_cons (ps_set (i := 1) sc__law_second.nd rfl (Or.inl rfl) (pe_lst pa_nil))
      (pss_cons (ps_try_x (tb := fun W => (tDrop (tCall (sp__law_call T) [] (fun cls d H => ∀ σ : L2.St, σ.length = 2 → W cls d σ H) (tCons (tVar 0) tNil)))) rfl rfl sc__law_second.nd takes0 (fun W pn xe tk _ => (pss_one (ps_expr (pe_call (ok__law_call T) (hr.mono (by decide)) rfl T.g__law_call T.F__law_call.kp T.b__law_call .nil (passN tk) (pa_cons (pv 0) pa_nil))))) (HdsX.un ⟨rfl, by decide, Or.inl T.g_BadSum⟩ (fun a oe cls d pn hz hf => (pss_one (ps_set (i := 1) sc__law_second.nd rfl (Or.inl rfl) pe_int))) (HdsX.un ⟨rfl, by decide, Or.inl T.g_BadRests⟩ (fun a oe cls d pn hz hf => (pss_one (ps_set (i := 1) sc__law_second.nd rfl (Or.inl rfl) pe_int))) (HdsX.un ⟨rfl, by decide, Or.inl T.g_BadRest⟩ (fun a oe cls d pn hz hf => (pss_one (ps_set (i := 1) sc__law_second.nd rfl (Or.inl rfl) pe_int))) (HdsX.un ⟨rfl, by decide, Or.inl T.g_BadTricks⟩ (fun a oe cls d pn hz hf => (pss_one (ps_set (i := 1) sc__law_second.nd rfl (Or.inl rfl) pe_int))) (HdsX.un ⟨rfl, by decide, Or.inl T.g_BadPairs⟩ (fun a oe cls d pn hz hf => (pss_one (ps_set (i := 1) sc__law_second.nd rfl (Or.inl rfl) pe_int))) (HdsX.un ⟨rfl, by decide, Or.inl T.g_TooWide⟩ (fun a oe cls d pn hz hf => (pss_one (ps_set (i := 1) sc__law_second.nd rfl (Or.inl rfl) pe_int))) (HdsX.un ⟨rfl, by decide, Or.inl T.g_InvalidText⟩ (fun a oe cls d pn hz hf => (pss_one (ps_set (i := 1) sc__law_second.nd rfl (Or.inl rfl) pe_int))) (HdsX.un ⟨rfl, by decide, Or.inl T.g_TrickError⟩ (fun a oe cls d pn hz hf => (pss_one (ps_set (i := 1) sc__law_second.nd rfl (Or.inl rfl) pe_int))) HdsX.nil)))))))))
      (pss_one (ps_ret (pv 1))))), ?_⟩
    refine ⟨by show 0 ≤ sizeLine; decide, fun l hl => ⟨_, rfl, n, rfl, n15, fun H' dv S σ hσ => ?_⟩⟩
    obtain ⟨v1, v2, rfl⟩ : ∃ a b, σ = [a, b] := match σ, hσ with
      | [a, b], _ => ⟨a, b, rfl⟩
    obtain rfl | rfl | rfl | rfl | rfl | rfl | rfl | rfl | rfl | rfl | rfl | rfl | rfl | rfl | rfl : n = 0 ∨ n = 1 ∨ n = 2 ∨ n = 3 ∨ n = 4 ∨ n = 5 ∨ n = 6 ∨ n = 7 ∨ n = 8 ∨ n = 9 ∨ n = 10 ∨ n = 11 ∨ n = 12 ∨ n = 13 ∨ n = 14 := by omega
    · exact ⟨_, T.xm_BadBase_BadSum, fun z => (nomatch z), fun _ => ⟨_, T.xm_BadBase_BadRests, fun z => (nomatch z), fun _ => ⟨_, T.xm_BadBase_BadRest, fun z => (nomatch z), fun _ => ⟨_, T.xm_BadBase_BadTricks, fun z => (nomatch z), fun _ => ⟨_, T.xm_BadBase_BadPairs, fun z => (nomatch z), fun _ => ⟨_, T.xm_BadBase_TooWide, fun z => (nomatch z), fun _ => ⟨_, T.xm_BadBase_InvalidText, fun z => (nomatch z), fun _ => ⟨_, T.xm_BadBase_TrickError, fun _ c nc => ⟨_, rfl, k _ ((same_upd hl).trans S)⟩, fun z => nomatch z⟩⟩⟩⟩⟩⟩⟩⟩
    · exact ⟨_, T.xm_BadTake_BadSum, fun z => (nomatch z), fun _ => ⟨_, T.xm_BadTake_BadRests, fun z => (nomatch z), fun _ => ⟨_, T.xm_BadTake_BadRest, fun z => (nomatch z), fun _ => ⟨_, T.xm_BadTake_BadTricks, fun z => (nomatch z), fun _ => ⟨_, T.xm_BadTake_BadPairs, fun z => (nomatch z), fun _ => ⟨_, T.xm_BadTake_TooWide, fun z => (nomatch z), fun _ => ⟨_, T.xm_BadTake_InvalidText, fun z => (nomatch z), fun _ => ⟨_, T.xm_BadTake_TrickError, fun _ c nc => ⟨_, rfl, k _ ((same_upd hl).trans S)⟩, fun z => nomatch z⟩⟩⟩⟩⟩⟩⟩⟩
    · exact ⟨_, T.xm_BadTimes_BadSum, fun z => (nomatch z), fun _ => ⟨_, T.xm_BadTimes_BadRests, fun z => (nomatch z), fun _ => ⟨_, T.xm_BadTimes_BadRest, fun z => (nomatch z), fun _ => ⟨_, T.xm_BadTimes_BadTricks, fun z => (nomatch z), fun _ => ⟨_, T.xm_BadTimes_BadPairs, fun z => (nomatch z), fun _ => ⟨_, T.xm_BadTimes_TooWide, fun z => (nomatch z), fun _ => ⟨_, T.xm_BadTimes_InvalidText, fun z => (nomatch z), fun _ => ⟨_, T.xm_BadTimes_TrickError, fun _ c nc => ⟨_, rfl, k _ ((same_upd hl).trans S)⟩, fun z => nomatch z⟩⟩⟩⟩⟩⟩⟩⟩
    · exact ⟨_, T.xm_BadTrick_BadSum, fun z => (nomatch z), fun _ => ⟨_, T.xm_BadTrick_BadRests, fun z => (nomatch z), fun _ => ⟨_, T.xm_BadTrick_BadRest, fun z => (nomatch z), fun _ => ⟨_, T.xm_BadTrick_BadTricks, fun z => (nomatch z), fun _ => ⟨_, T.xm_BadTrick_BadPairs, fun z => (nomatch z), fun _ => ⟨_, T.xm_BadTrick_TooWide, fun z => (nomatch z), fun _ => ⟨_, T.xm_BadTrick_InvalidText, fun z => (nomatch z), fun _ => ⟨_, T.xm_BadTrick_TrickError, fun _ c nc => ⟨_, rfl, k _ ((same_upd hl).trans S)⟩, fun z => nomatch z⟩⟩⟩⟩⟩⟩⟩⟩
    · exact ⟨_, T.xm_BadNumber_BadSum, fun z => (nomatch z), fun _ => ⟨_, T.xm_BadNumber_BadRests, fun z => (nomatch z), fun _ => ⟨_, T.xm_BadNumber_BadRest, fun z => (nomatch z), fun _ => ⟨_, T.xm_BadNumber_BadTricks, fun z => (nomatch z), fun _ => ⟨_, T.xm_BadNumber_BadPairs, fun z => (nomatch z), fun _ => ⟨_, T.xm_BadNumber_TooWide, fun z => (nomatch z), fun _ => ⟨_, T.xm_BadNumber_InvalidText, fun z => (nomatch z), fun _ => ⟨_, T.xm_BadNumber_TrickError, fun _ c nc => ⟨_, rfl, k _ ((same_upd hl).trans S)⟩, fun z => nomatch z⟩⟩⟩⟩⟩⟩⟩⟩
    · exact ⟨_, T.xm_BadDivisor_BadSum, fun z => (nomatch z), fun _ => ⟨_, T.xm_BadDivisor_BadRests, fun z => (nomatch z), fun _ => ⟨_, T.xm_BadDivisor_BadRest, fun z => (nomatch z), fun _ => ⟨_, T.xm_BadDivisor_BadTricks, fun z => (nomatch z), fun _ => ⟨_, T.xm_BadDivisor_BadPairs, fun z => (nomatch z), fun _ => ⟨_, T.xm_BadDivisor_TooWide, fun z => (nomatch z), fun _ => ⟨_, T.xm_BadDivisor_InvalidText, fun z => (nomatch z), fun _ => ⟨_, T.xm_BadDivisor_TrickError, fun _ c nc => ⟨_, rfl, k _ ((same_upd hl).trans S)⟩, fun z => nomatch z⟩⟩⟩⟩⟩⟩⟩⟩
    · exact ⟨_, T.xm_BadFigures_BadSum, fun z => (nomatch z), fun _ => ⟨_, T.xm_BadFigures_BadRests, fun z => (nomatch z), fun _ => ⟨_, T.xm_BadFigures_BadRest, fun z => (nomatch z), fun _ => ⟨_, T.xm_BadFigures_BadTricks, fun z => (nomatch z), fun _ => ⟨_, T.xm_BadFigures_BadPairs, fun z => (nomatch z), fun _ => ⟨_, T.xm_BadFigures_TooWide, fun z => (nomatch z), fun _ => ⟨_, T.xm_BadFigures_InvalidText, fun z => (nomatch z), fun _ => ⟨_, T.xm_BadFigures_TrickError, fun _ c nc => ⟨_, rfl, k _ ((same_upd hl).trans S)⟩, fun z => nomatch z⟩⟩⟩⟩⟩⟩⟩⟩
    · exact ⟨_, T.xm_BadWeights_BadSum, fun z => (nomatch z), fun _ => ⟨_, T.xm_BadWeights_BadRests, fun z => (nomatch z), fun _ => ⟨_, T.xm_BadWeights_BadRest, fun z => (nomatch z), fun _ => ⟨_, T.xm_BadWeights_BadTricks, fun z => (nomatch z), fun _ => ⟨_, T.xm_BadWeights_BadPairs, fun z => (nomatch z), fun _ => ⟨_, T.xm_BadWeights_TooWide, fun z => (nomatch z), fun _ => ⟨_, T.xm_BadWeights_InvalidText, fun z => (nomatch z), fun _ => ⟨_, T.xm_BadWeights_TrickError, fun _ c nc => ⟨_, rfl, k _ ((same_upd hl).trans S)⟩, fun z => nomatch z⟩⟩⟩⟩⟩⟩⟩⟩
    · exact ⟨_, T.xm_BadSum_BadSum, fun _ c nc => ⟨_, rfl, k _ ((same_upd hl).trans S)⟩, fun z => nomatch z⟩
    · exact ⟨_, T.xm_BadRests_BadSum, fun z => (nomatch z), fun _ => ⟨_, T.xm_BadRests_BadRests, fun _ c nc => ⟨_, rfl, k _ ((same_upd hl).trans S)⟩, fun z => nomatch z⟩⟩
    · exact ⟨_, T.xm_BadRest_BadSum, fun z => (nomatch z), fun _ => ⟨_, T.xm_BadRest_BadRests, fun z => (nomatch z), fun _ => ⟨_, T.xm_BadRest_BadRest, fun _ c nc => ⟨_, rfl, k _ ((same_upd hl).trans S)⟩, fun z => nomatch z⟩⟩⟩
    · exact ⟨_, T.xm_BadTricks_BadSum, fun z => (nomatch z), fun _ => ⟨_, T.xm_BadTricks_BadRests, fun z => (nomatch z), fun _ => ⟨_, T.xm_BadTricks_BadRest, fun z => (nomatch z), fun _ => ⟨_, T.xm_BadTricks_BadTricks, fun _ c nc => ⟨_, rfl, k _ ((same_upd hl).trans S)⟩, fun z => nomatch z⟩⟩⟩⟩
    · exact ⟨_, T.xm_BadPairs_BadSum, fun z => (nomatch z), fun _ => ⟨_, T.xm_BadPairs_BadRests, fun z => (nomatch z), fun _ => ⟨_, T.xm_BadPairs_BadRest, fun z => (nomatch z), fun _ => ⟨_, T.xm_BadPairs_BadTricks, fun z => (nomatch z), fun _ => ⟨_, T.xm_BadPairs_BadPairs, fun _ c nc => ⟨_, rfl, k _ ((same_upd hl).trans S)⟩, fun z => nomatch z⟩⟩⟩⟩⟩
    · exact ⟨_, T.xm_TooWide_BadSum, fun z => (nomatch z), fun _ => ⟨_, T.xm_TooWide_BadRests, fun z => (nomatch z), fun _ => ⟨_, T.xm_TooWide_BadRest, fun z => (nomatch z), fun _ => ⟨_, T.xm_TooWide_BadTricks, fun z => (nomatch z), fun _ => ⟨_, T.xm_TooWide_BadPairs, fun z => (nomatch z), fun _ => ⟨_, T.xm_TooWide_TooWide, fun _ c nc => ⟨_, rfl, k _ ((same_upd hl).trans S)⟩, fun z => nomatch z⟩⟩⟩⟩⟩⟩
    · exact ⟨_, T.xm_InvalidText_BadSum, fun z => (nomatch z), fun _ => ⟨_, T.xm_InvalidText_BadRests, fun z => (nomatch z), fun _ => ⟨_, T.xm_InvalidText_BadRest, fun z => (nomatch z), fun _ => ⟨_, T.xm_InvalidText_BadTricks, fun z => (nomatch z), fun _ => ⟨_, T.xm_InvalidText_BadPairs, fun z => (nomatch z), fun _ => ⟨_, T.xm_InvalidText_TooWide, fun z => (nomatch z), fun _ => ⟨_, T.xm_InvalidText_InvalidText, fun _ c nc => ⟨_, rfl, k _ ((same_upd hl).trans S)⟩, fun z => nomatch z⟩⟩⟩⟩⟩⟩⟩

/-! ### the law's draws: what is drawn lies in its range; nothing but the row of the draws changes -/
theorem fmod_bd (x : Int) {m : Int} (h : 0 < m) : 0 ≤ x.fmod m ∧ x.fmod m < m := by
  rw [Int.fmod_eq_emod_of_nonneg x (by omega)]
  exact ⟨Int.emod_nonneg x (by omega), Int.emod_lt_of_pos x h⟩
abbrev rowL (a : Addr) (i s c : Int) : List V := [.ref a, .int i, .int s, .int c]
/-- the script at a: locked, or of the top's own -/
def Scr (K : PySem.W.Frag) (H : Hp) (a : Addr) (xs : List V) : Prop := (∃ o, H a = some (.frz o (.lst xs))) ∨ SqL K (fun _ => none) a xs
theorem scr_of {H : Hp} {a : Addr} {xs : List V} (hO : ∀ b, H b = none ∨ ∃ o xs, H b = some (.frz o (.lst xs))) (h : SqL K H a xs) : Scr K H a xs := by
  rcases h with (h | h) | h
  · rcases hO a with z | ⟨o, ys, z⟩
    · rw [z] at h; cases h
    · rw [z] at h; cases h
  · exact .inl h
  · exact .inr (.inr h)
theorem Scr.seq {H : Hp} {a : Addr} {xs : List V} (h : Scr K H a xs) : SqL K H a xs := by
  rcases h with h | (h | ⟨o, h⟩) | h
  · exact .inl (.inr h)
  · cases h
  · cases h
  · exact .inr h
theorem Scr.mono {H H' : Hp} {a : Addr} {xs : List V} (h : Scr K H a xs) (k : ∀ b o u, H b = some (.frz o u) → H' b = some (.frz o u)) : Scr K H' a xs := by
  rcases h with ⟨o, h⟩ | h
  · exact .inl ⟨o, k _ _ _ h⟩
  · exact .inr h
/-- at r the row of the draws over the script at a -/
def RowAt (K : PySem.W.Frag) (H : Hp) (r a : Addr) (ns : List Int) : Prop := ∃ i s c : Int, H r = some (.lst (rowL a i s c)) ∧ 0 ≤ i ∧ 0 ≤ c ∧ Scr K H a (ns.map V.int) ∧ ns.length ≤ 63
theorem RowAt.same {H H' : Hp} {r a : Addr} {ns : List Int} (h : RowAt K H r a ns) (e : Same H H') : RowAt K H' r a ns :=
  let ⟨i, s, c, h1, h2, h3, h4, h5⟩ := h
  ⟨i, s, c, e _ _ h1, h2, h3, h4.mono fun _ _ _ z => e _ _ z, h5⟩
/-- another list is changed -/
theorem RowAt.put {H : Hp} {r a q : Addr} {ns : List Int} {ys : List V} {o : HO} (h : RowAt K H r a ns) (hq : H q = some (.lst ys)) (n : q ≠ r) : RowAt K (upd H q o) r a ns :=
  let ⟨i, s, c, h1, h2, h3, h4, h5⟩ := h
  ⟨i, s, c, by rw [upd_ne (Ne.symm n)]; exact h1, h2, h3, h4.mono fun b o' u z => by rw [upd_ne (ne_of z hq (by intro y; cases y))]; exact z, h5⟩
/-- the row as the law lays it -/
theorem RowAt.start {H : Hp} {r a : Addr} {ns : List Int} {i s c : Int} (hr : H r = none) (hS : Scr K H a (ns.map V.int)) (hl : ns.length ≤ 63) (hi : 0 ≤ i) (hc : 0 ≤ c) : RowAt K (upd H r (.lst (rowL a i s c))) r a ns :=
  ⟨i, s, c, upd_same, hi, hc, hS.mono fun b o u z => by rw [upd_ne (ne_of_none z hr)]; exact z, hl⟩
def spTaken (K : PySem.W.Frag) : Sp := fun vs H Q _ => ∃ (r a : Addr) (ns : List Int) (m : Int), vs = [.ref r, .int m] ∧ 0 < m ∧ m ≤ 10 ^ 41 ∧ RowAt K H r a ns ∧
  ∀ (v : Int) (H' : Hp), 0 ≤ v → v < m → RowAt K H' r a ns → But r H H' → Q (.int v) H'
theorem ok__law_taken (T : Tx P K mg) : FnOk P w K mg base CX0 lv__law_taken T.a__law_taken T.d__law_taken ["_law_row", "_law_many"] (spTaken K) := by
  refine T.F__law_taken.ok sc__law_taken (fun vs H Q E h => ?_) (fun cdv A outer s H vs Q E hr h => ?_)
  · obtain ⟨r, a, ns, m, rfl, _⟩ := h
    rfl
  · obtain ⟨r, a, ns, m, rfl, m0, m1, ⟨i, s, c, hR, i0, c0, hK, hlen⟩, k⟩ := h
    have hKB : ∀ H', But r H H' → Scr K H' a (ns.map V.int) := fun H' b => hK.mono fun c o u z => b c _ z (ne_of z hR (by intro y; cases y))
    have hdv : ∀ x : Int, CDivW x m := fun x => wide_div m0 (b := 140) (by omega) (by decide) (by decide)
    have back : ∀ (v : Int) (i' s' c' : Int) (H' : Hp), 0 ≤ v → v < m → 0 ≤ i' → 0 ≤ c' → H' r = some (.lst (rowL a i' s' c')) → But r H H' → Q (.int v) H' := fun v i' s' c' H' v0 v1 z1 z2 e b =>
      k v H' v0 v1 ⟨i', s', c', e, z1, z2, hKB _ b, hlen⟩ b
    refine ⟨_, (pss_cons (ps_if (pt_cmpR op_gt (pe_ix ix_list (pv 0) pe_int (fun _ _ => rfl)) pe_int (nomark _)) (pss_cons (ps_set (i := 2) sc__law_taken.nd rfl (Or.inl rfl) (pe_op op_modN (pe_callTy call_int1 (by rfl) T.n_int (by decide +kernel) (pa_cons (pe_ix ix_list (pv 0) pe_int (fun _ _ => rfl)) pa_nil)) (pv 1)))
      (pss_cons (ps_asg (pe_op op_fdivW (pe_ix ix_list (pv 0) pe_int (fun _ _ => rfl)) (pv 1)) (pg_sub (pv 0) pe_int set_list))
      (pss_one (ps_ret (pv 2))))) pss_nil)
      (pss_cons (ps_asg (pe_op op_add (pe_ix ix_list (pv 0) pe_int (fun _ _ => rfl)) pe_int) (pg_sub (pv 0) pe_int set_list))
      (pss_cons (ps_if (pt_cmpR op_gt (pe_ix ix_list (pv 0) pe_int (fun _ _ => rfl)) (pe_callB call_len_seq (by rfl) T.n_len (by decide +kernel) (pa_cons (pe_ix ix_list (pv 0) pe_int (fun _ _ => rfl)) pa_nil)) (nomark _)) (pss_cons (ps_asg (pe_op op_modN (pe_callTy call_int1 (by rfl) T.n_int (by decide +kernel) (pa_cons (pe_op op_add (pe_op op_mul (pe_ix ix_list (pv 0) pe_int (fun _ _ => rfl)) pe_int) pe_int) pa_nil)) pe_int) (pg_sub (pv 0) pe_int set_list))
      (pss_one (ps_ret (pe_op op_modN (pe_callTy call_int1 (by rfl) T.n_int (by decide +kernel) (pa_cons (pe_op op_fdivW (pe_ix ix_list (pv 0) pe_int (fun _ _ => rfl)) pe_int) pa_nil)) (pv 1))))) pss_nil)
      (pss_cons (ps_set (i := 3) sc__law_taken.nd rfl (Or.inl rfl) (pe_ix ix_list (pe_ix ix_list (pv 0) pe_int (fun _ _ => rfl)) (pe_op op_sub (pe_ix ix_list (pv 0) pe_int (fun _ _ => rfl)) pe_int) (fun _ _ => rfl)))
      (pss_cons (ps_asg (pe_op op_modN (pe_callTy call_int1 (by rfl) T.n_int (by decide +kernel) (pa_cons (pe_op op_add (pe_op op_add (pe_op op_mul (pe_ix ix_list (pv 0) pe_int (fun _ _ => rfl)) pe_int) (pv 3)) pe_int) pa_nil)) pe_int) (pg_sub (pv 0) pe_int set_list))
      (pss_cons (ps_if (pt_cmpR op_ge (pv 3) (pe_op op_pow pe_int pe_int) (nomark _)) (pss_one (ps_asg (pe_op op_fdivW (pv 3) (pv 1)) (pg_sub (pv 0) pe_int set_list))) pss_nil)
      (pss_one (ps_ret (pe_op op_modN (pe_callTy call_int1 (by rfl) T.n_int (by decide +kernel) (pa_cons (pv 3) pa_nil)) (pv 1)))))))))), ?_⟩
    refine ⟨_, rfl, r, _, _, _, rfl, rfl, SqL.of hR, rfl, _, _, rfl, rfl, _, rfl, ?_⟩
    refine ite2 (fun g => ?_) (fun g => ?_)
    · -- a great cell's digits
      obtain ⟨v0, v1⟩ := fmod_bd c m0
      refine ⟨_, rfl, r, _, _, _, rfl, rfl, SqL.of hR, rfl, .inl ⟨_, rfl, _, rfl, _, _, rfl, rfl, by omega, ?_⟩⟩
      refine ⟨_, rfl, r, _, _, _, rfl, rfl, SqL.of hR, rfl, _, rfl, _, _, rfl, rfl, hdv c, _, rfl, r, _, _, _, rfl, rfl, hR, rfl, ?_⟩
      exact ⟨_, rfl, back _ i s (c / m) _ v0 v1 i0 (Int.ediv_nonneg c0 (by omega)) upd_same But.put⟩
    · refine ⟨_, rfl, r, _, _, _, rfl, rfl, SqL.of hR, rfl, _, _, rfl, rfl, _, rfl, r, _, _, _, rfl, rfl, hR, rfl, ?_⟩
      -- behind the script's end?
      have hR1 : upd H r (.lst (rowL a (i + 1) s c)) r = some (.lst (rowL a (i + 1) s c)) := upd_same
      have hB1 : But r H (upd H r (.lst (rowL a (i + 1) s c))) := But.put
      have hS1 : SqL K (upd H r (.lst (rowL a (i + 1) s c))) a (ns.map V.int) := (hKB _ hB1).seq
      refine ⟨_, rfl, r, _, _, _, rfl, rfl, SqL.of hR1, rfl, _, rfl, r, _, _, _, rfl, rfl, SqL.of hR1, rfl, a, _, rfl, .inl hS1, _, _, rfl, rfl, _, rfl, ?_⟩
      refine ite2 (fun g2 => ?_) (fun g2 => ?_)
      · refine ⟨_, rfl, r, _, _, _, rfl, rfl, SqL.of hR1, rfl, _, _, rfl, rfl, .inr ⟨by decide, by decide⟩, _, _, rfl, rfl, .inl ⟨_, rfl, _, _, rfl, rfl, (show (2147483647 : Int) ≠ 0 by decide), ?_⟩⟩
        refine ⟨_, rfl, r, _, _, _, rfl, rfl, hR1, rfl, ?_⟩
        refine ⟨_, rfl, r, _, _, _, rfl, rfl, SqL.of upd_same, rfl, _, _, rfl, rfl, wide_div (by decide) (b := 3) (by decide) (by decide) (by decide), .inl ⟨_, rfl, _, rfl, _, _, rfl, rfl, by omega, ?_⟩⟩
        obtain ⟨v0, v1⟩ := fmod_bd ((s * 48271 + 11).fmod 2147483647 / 7) m0
        exact back _ (i + 1) _ c _ v0 v1 (by omega) c0 upd_same (hB1.trans But.put)
      · have g3 : i + 1 ≤ (ns.length : Int) := by
          simp only [decide_eq_true_eq, List.length_map] at g2
          omega
        obtain ⟨z, hz⟩ : ∃ z, ns[i.toNat]? = some z := ⟨ns[i.toNat]'(by omega), List.getElem?_eq_getElem (by omega)⟩
        have hz1 : atI (ns.map V.int) (i + 1 - 1) = some (V.int z) := at_of (j := i.toNat) (by omega) (by rw [List.getElem?_map, hz]; rfl)
        refine ⟨_, rfl, r, _, _, _, rfl, rfl, SqL.of hR1, rfl, _, rfl, r, _, _, _, rfl, rfl, SqL.of hR1, rfl, _, _, rfl, rfl, a, _, _, _, rfl, rfl, hS1, hz1, ?_⟩
        refine ⟨_, rfl, r, _, _, _, rfl, rfl, SqL.of hR1, rfl, _, _, rfl, rfl, .inr ⟨by decide, by decide⟩, _, rfl, _, _, rfl, rfl, _, _, rfl, rfl, .inl ⟨_, rfl, _, _, rfl, rfl, (show (2147483647 : Int) ≠ 0 by decide), ?_⟩⟩
        refine ⟨_, rfl, r, _, _, _, rfl, rfl, hR1, rfl, ?_⟩
        have hR2 : upd (upd H r (.lst (rowL a (i + 1) s c))) r (.lst (rowL a (i + 1) ((s * 48271 + z + 11).fmod 2147483647) c)) r = some (.lst (rowL a (i + 1) ((s * 48271 + z + 11).fmod 2147483647) c)) := upd_same
        have hB2 : But r H (upd (upd H r (.lst (rowL a (i + 1) s c))) r (.lst (rowL a (i + 1) ((s * 48271 + z + 11).fmod 2147483647) c))) := hB1.trans But.put
        obtain ⟨v0, v1⟩ := fmod_bd z m0
        refine ⟨_, rfl, _, _, rfl, rfl, ⟨by decide, by decide, by decide⟩, _, _, rfl, rfl, _, rfl, ?_⟩
        refine ite2 (fun g4 => ?_) (fun g4 => ?_)
        · refine ⟨_, rfl, _, rfl, _, _, rfl, rfl, hdv z, _, rfl, r, _, _, _, rfl, rfl, hR2, rfl, ?_⟩
          have z0 : 0 ≤ z := by
            have g5 : (10 : Int) ^ 18 ≤ z := by simpa using g4
            exact Int.le_trans (by decide) g5
          refine ⟨_, rfl, .inl ⟨_, rfl, _, rfl, _, _, rfl, rfl, by omega, ?_⟩⟩
          exact back _ (i + 1) _ (z / m) _ v0 v1 (by omega) (Int.ediv_nonneg z0 (by omega)) upd_same (hB2.trans But.put)
        · refine ⟨_, rfl, .inl ⟨_, rfl, _, rfl, _, _, rfl, rfl, by omega, ?_⟩⟩
          exact back _ (i + 1) _ c _ v0 v1 (by omega) c0 hR2 hB2

/-! ### the law -/
abbrev sp__law_taken (T : Tx P K mg) : Sp := spTaken K
def sp_law (K : PySem.W.Frag) : Sp := fun vs H Q _ => ∃ (a : Addr) (ns : List Int), vs = [.ref a] ∧ Scr K H a (ns.map V.int) ∧ ns.length ≤ 63 ∧ ∀ H', Q (.bl true) H'
theorem ok_law (T : Tx P K mg) : FnOk P w K mg base CX0 lv_law T.a_law T.d_law ["_law_script"] (sp_law K) := by
  refine T.F_law.ok sc_law (fun vs H Q E h => ?_) (fun cdv A outer s H vs Q E hr h => ?_)
  · obtain ⟨a, ns, rfl, _⟩ := h
    rfl
  · obtain ⟨a, ns, rfl, hS, hlen, k⟩ := h
    refine ⟨_, (Evl.pss_cut (ps_set (i := 1) sc_law.nd rfl (Or.inl rfl) (pe_lst (pa_cons (pv 0) (pa_cons pe_int (pa_cons pe_int (pa_cons pe_int pa_nil))))))
      (pss_cons (ps_for PassesOwn.never rfl (pi_range1 (by rfl) T.n_range (pa_cons pe_int pa_nil)) (pg_name (i := 2) sc_law.nd rfl (Or.inl rfl)) (pss_cons (ps_set (i := 3) sc_law.nd rfl (Or.inl rfl) (pe_call (ok__law_taken T) (hr.mono (by decide)) rfl T.g__law_taken T.F__law_taken.kp T.b__law_taken .nil pass0 (pa_cons (pv 1) (pa_cons pe_int pa_nil))))
      (pss_one (ps_if (PW.pt (pw_or (pt_cmpR op_ne (pe_call (ok__law_first T) (hr.mono (by decide)) rfl T.g__law_first T.F__law_first.kp T.b__law_first .nil pass0 (pa_cons (pv 3) pa_nil)) (pe_callB (call_min2 rfl) (by rfl) T.n_min (by decide +kernel) (pa_cons pe_int (pa_cons (pv 3) pa_nil))) (nomark _)) (pw_or1 (pt_cmpR op_ne (pe_call (ok__law_second T) (hr.mono (by decide)) rfl T.g__law_second T.F__law_second.kp T.b__law_second .nil pass0 (pa_cons (pv 3) pa_nil)) (pe_ifExp (pt_cmpR op_gt (pv 3) pe_int (nomark _)) (pv 3) pe_int) (nomark _))))) (pss_one (ps_ret pe_bl)) pss_nil))))
      (pss_one (ps_ret pe_bl)))), ?_⟩
    refine ⟨fun σ H1 => ∃ r, RowAt K H1 r a ns ∧ σ = [some (.ref a), some (.ref r), none, none], ?_, ?_⟩
    · exact ⟨_, rfl, by show 4 ≤ sizeLine; decide, fun r hr0 => ⟨r, RowAt.start hr0 hS hlen (by decide) (by decide), rfl⟩⟩
    clear hS
    rintro σ H1 ⟨r, R1, rfl⟩
    refine ⟨9, rfl, by decide, by decide, ?_⟩
    refine for_range (lo := 0) (n := 9) (fun i σ H2 => ∃ x2 x3 : Option V, RowAt K H2 r a ns ∧ σ = [some (.ref a), some (.ref r), x2, x3]) ⟨none, none, R1, rfl⟩ ?_ ?_
    · clear R1
      rintro i σ H2 hi ⟨x2, x3, R2, rfl⟩
      refine ⟨_, rfl, r, a, ns, _, rfl, by decide, by decide, R2, fun v H3 v0 v1 R3 B3 => ?_⟩
      obtain ⟨n, rfl⟩ := Int.eq_ofNat_of_zero_le v0
      have n15 : n < 15 := by omega
      refine ⟨_, rfl, n, rfl, n15, fun H4 S4 => ?_⟩
      refine ⟨_, rfl, 8, _, rfl, rfl, _, rfl, ?_⟩
      rw [decide_eq_true (show V.int ((min n 8 : Nat) : Int) = V.int (if (n : Int) < 8 then (n : Int) else 8) by congr 1; split <;> omega)]
      refine iteF ⟨_, rfl, n, rfl, n15, fun H5 S5 => ?_⟩
      refine ⟨_, rfl, _, _, rfl, rfl, _, rfl, ?_⟩
      have R5 := R3.same (S4.trans S5)
      refine ite2 (fun g => ?_) (fun g => ?_)
      · have g1 : (7 : Int) < (n : Int) := by simpa using g
        refine ⟨_, rfl, rfl, _, rfl, ?_⟩
        rw [decide_eq_true (show V.int ((if 7 < n then n else 0 : Nat) : Int) = V.int (n : Int) by rw [if_pos (by omega)])]
        exact iteF ⟨_, _, R5, rfl⟩
      · have g1 : ¬ (7 : Int) < (n : Int) := by simpa using g
        refine ⟨rfl, _, rfl, ?_⟩
        rw [decide_eq_true (show V.int ((if 7 < n then n else 0 : Nat) : Int) = V.int 0 by rw [if_neg (by omega)]; rfl)]
        exact iteF ⟨_, _, R5, rfl⟩
    · rintro σ H2 ⟨x2, x3, R2, rfl⟩
      exact k _

end
/-! ### the end -/
theorem all_mk {l : PySem.W.OpenLaw} {w : World} {K : PySem.W.Frag} {h : Heap} {mg : Str → Option Value} {fa : Addr} (X : K.In h) (G : h.Ns mainGlobals mg) (hfa : mg "law" = some (.ref fa))
    {C_TrickError : Addr}
    {C_BadBase : Addr}
    {C_BadTake : Addr}
    {C_BadTimes : Addr}
    {C_BadTrick : Addr}
    {C_BadDivisor : Addr}
    {C_BadSum : Addr}
    {C_BadRest : Addr}
    {C_BadNumber : Addr}
    {C_BadFigures : Addr}
    {C_BadWeights : Addr}
    {C_BadRests : Addr}
    {C_BadTricks : Addr}
    {C_BadPairs : Addr}
    {C_TooWide : Addr}
    {C_InvalidText : Addr}
    {tk_GREATEST_NUMBER : Tok}
    {tk_LEAST_BASE : Tok}
    {tk_GREATEST_BASE : Tok}
    {tk_GREATEST_TAKE : Tok}
    {tk_GREATEST_DIVISOR : Tok}
    {tk_MOST_FIGURES : Tok}
    {tk_GREATEST_TIMES : Tok}
    {tk_MOST_TRICKS : Tok}
    {tk_GREATEST_CHAIN_DIVISOR : Tok}
    {tk_GREATEST_PRODUCT : Tok}
    {tk_MOST_LABELS : Tok}
    {tk_GREATEST_LABEL : Tok}
    {tk_GREATEST_WEIGHT : Tok}
    {tk_MOST_WEIGHTS : Tok}
    {tk_MOST_PAIRS : Tok}
    {a_check_divisor dT_check_divisor : Addr} {od_check_divisor an_check_divisor dod_check_divisor : Option Addr} {sl_check_divisor dsl_check_divisor : Array (Option Value)} {oc_check_divisor kV_check_divisor dc_check_divisor pm_check_divisor cd_check_divisor ct_check_divisor doc_check_divisor : Value} {dvs_check_divisor : Array Value} {dn_check_divisor : Nat} {dt0_check_divisor : Tok}
    {a_law : Addr} {od_law an_law : Option Addr} {sl_law : Array (Option Value)} {oc_law kV_law dc_law pm_law cd_law ct_law : Value}
    {C_Trick : Addr}
    {a_Trick___init__ : Addr} {od_Trick___init__ an_Trick___init__ : Option Addr} {sl_Trick___init__ : Array (Option Value)} {oc_Trick___init__ kV_Trick___init__ dc_Trick___init__ pm_Trick___init__ cd_Trick___init__ ct_Trick___init__ : Value}
    {pr_Trick_base : Addr} {rs_Trick_base : List Value}
    {a_Trick_base : Addr} {od_Trick_base an_Trick_base : Option Addr} {sl_Trick_base : Array (Option Value)} {oc_Trick_base kV_Trick_base dc_Trick_base pm_Trick_base cd_Trick_base ct_Trick_base : Value}
    {pr_Trick_take : Addr} {rs_Trick_take : List Value}
    {a_Trick_take : Addr} {od_Trick_take an_Trick_take : Option Addr} {sl_Trick_take : Array (Option Value)} {oc_Trick_take kV_Trick_take dc_Trick_take pm_Trick_take cd_Trick_take ct_Trick_take : Value}
    {pr_Trick_times : Addr} {rs_Trick_times : List Value}
    {a_Trick_times : Addr} {od_Trick_times an_Trick_times : Option Addr} {sl_Trick_times : Array (Option Value)} {oc_Trick_times kV_Trick_times dc_Trick_times pm_Trick_times cd_Trick_times ct_Trick_times : Value}
    {a_Trick___eq__ : Addr} {od_Trick___eq__ an_Trick___eq__ : Option Addr} {sl_Trick___eq__ : Array (Option Value)} {oc_Trick___eq__ kV_Trick___eq__ dc_Trick___eq__ pm_Trick___eq__ cd_Trick___eq__ ct_Trick___eq__ : Value}
    {C_Sum : Addr}
    {a_Sum___init__ : Addr} {od_Sum___init__ an_Sum___init__ : Option Addr} {sl_Sum___init__ : Array (Option Value)} {oc_Sum___init__ kV_Sum___init__ dc_Sum___init__ pm_Sum___init__ cd_Sum___init__ ct_Sum___init__ : Value}
    {pr_Sum_base : Addr} {rs_Sum_base : List Value}
    {a_Sum_base : Addr} {od_Sum_base an_Sum_base : Option Addr} {sl_Sum_base : Array (Option Value)} {oc_Sum_base kV_Sum_base dc_Sum_base pm_Sum_base cd_Sum_base ct_Sum_base : Value}
    {pr_Sum_take : Addr} {rs_Sum_take : List Value}
    {a_Sum_take : Addr} {od_Sum_take an_Sum_take : Option Addr} {sl_Sum_take : Array (Option Value)} {oc_Sum_take kV_Sum_take dc_Sum_take pm_Sum_take cd_Sum_take ct_Sum_take : Value}
    {pr_Sum_first : Addr} {rs_Sum_first : List Value}
    {a_Sum_first : Addr} {od_Sum_first an_Sum_first : Option Addr} {sl_Sum_first : Array (Option Value)} {oc_Sum_first kV_Sum_first dc_Sum_first pm_Sum_first cd_Sum_first ct_Sum_first : Value}
    {pr_Sum_loop : Addr} {rs_Sum_loop : List Value}
    {a_Sum_loop : Addr} {od_Sum_loop an_Sum_loop : Option Addr} {sl_Sum_loop : Array (Option Value)} {oc_Sum_loop kV_Sum_loop dc_Sum_loop pm_Sum_loop cd_Sum_loop ct_Sum_loop : Value}
    {a_Sum___eq__ : Addr} {od_Sum___eq__ an_Sum___eq__ : Option Addr} {sl_Sum___eq__ : Array (Option Value)} {oc_Sum___eq__ kV_Sum___eq__ dc_Sum___eq__ pm_Sum___eq__ cd_Sum___eq__ ct_Sum___eq__ : Value}
    {a_BadNumber___init__ cda_BadNumber___init__ cc_BadNumber___init__ N_BadNumber___init__ : Addr} {od_BadNumber___init__ an_BadNumber___init__ cdd_BadNumber___init__ cld_BadNumber___init__ dd_BadNumber___init__ : Option Addr} {sl_BadNumber___init__ ccs_BadNumber___init__ csl_BadNumber___init__ : Array (Option Value)} {oc_BadNumber___init__ dc_BadNumber___init__ pm_BadNumber___init__ ct_BadNumber___init__ ccl_BadNumber___init__ cl_BadNumber___init__ : Value} {vs_BadNumber___init__ : Array Value} {file_BadNumber___init__ nm_BadNumber___init__ qn_BadNumber___init__ : Str} {tf_BadNumber___init__ : Tok} {bs_BadNumber___init__ bm_BadNumber___init__ sub_BadNumber___init__ : List Value} {sn_BadNumber___init__ : List Str} {ab_BadNumber___init__ : Bool} {col_BadNumber___init__ : Option Bool} {k0_BadNumber___init__ k1_BadNumber___init__ k2_BadNumber___init__ k3_BadNumber___init__ k5_BadNumber___init__ : Option Value}
    {a_BadFigures___init__ cda_BadFigures___init__ cc_BadFigures___init__ N_BadFigures___init__ : Addr} {od_BadFigures___init__ an_BadFigures___init__ cdd_BadFigures___init__ cld_BadFigures___init__ dd_BadFigures___init__ : Option Addr} {sl_BadFigures___init__ ccs_BadFigures___init__ csl_BadFigures___init__ : Array (Option Value)} {oc_BadFigures___init__ dc_BadFigures___init__ pm_BadFigures___init__ ct_BadFigures___init__ ccl_BadFigures___init__ cl_BadFigures___init__ : Value} {vs_BadFigures___init__ : Array Value} {file_BadFigures___init__ nm_BadFigures___init__ qn_BadFigures___init__ : Str} {tf_BadFigures___init__ : Tok} {bs_BadFigures___init__ bm_BadFigures___init__ sub_BadFigures___init__ : List Value} {sn_BadFigures___init__ : List Str} {ab_BadFigures___init__ : Bool} {col_BadFigures___init__ : Option Bool} {k0_BadFigures___init__ k1_BadFigures___init__ k2_BadFigures___init__ k3_BadFigures___init__ k5_BadFigures___init__ : Option Value}
    {a_BadWeights___init__ cda_BadWeights___init__ cc_BadWeights___init__ N_BadWeights___init__ : Addr} {od_BadWeights___init__ an_BadWeights___init__ cdd_BadWeights___init__ cld_BadWeights___init__ dd_BadWeights___init__ : Option Addr} {sl_BadWeights___init__ ccs_BadWeights___init__ csl_BadWeights___init__ : Array (Option Value)} {oc_BadWeights___init__ dc_BadWeights___init__ pm_BadWeights___init__ ct_BadWeights___init__ ccl_BadWeights___init__ cl_BadWeights___init__ : Value} {vs_BadWeights___init__ : Array Value} {file_BadWeights___init__ nm_BadWeights___init__ qn_BadWeights___init__ : Str} {tf_BadWeights___init__ : Tok} {bs_BadWeights___init__ bm_BadWeights___init__ sub_BadWeights___init__ : List Value} {sn_BadWeights___init__ : List Str} {ab_BadWeights___init__ : Bool} {col_BadWeights___init__ : Option Bool} {k0_BadWeights___init__ k1_BadWeights___init__ k2_BadWeights___init__ k3_BadWeights___init__ k5_BadWeights___init__ : Option Value}
    {a_BadRests___init__ cda_BadRests___init__ cc_BadRests___init__ N_BadRests___init__ : Addr} {od_BadRests___init__ an_BadRests___init__ cdd_BadRests___init__ cld_BadRests___init__ dd_BadRests___init__ : Option Addr} {sl_BadRests___init__ ccs_BadRests___init__ csl_BadRests___init__ : Array (Option Value)} {oc_BadRests___init__ dc_BadRests___init__ pm_BadRests___init__ ct_BadRests___init__ ccl_BadRests___init__ cl_BadRests___init__ : Value} {vs_BadRests___init__ : Array Value} {file_BadRests___init__ nm_BadRests___init__ qn_BadRests___init__ : Str} {tf_BadRests___init__ : Tok} {bs_BadRests___init__ bm_BadRests___init__ sub_BadRests___init__ : List Value} {sn_BadRests___init__ : List Str} {ab_BadRests___init__ : Bool} {col_BadRests___init__ : Option Bool} {k0_BadRests___init__ k1_BadRests___init__ k2_BadRests___init__ k3_BadRests___init__ k5_BadRests___init__ : Option Value}
    {a_BadTricks___init__ cda_BadTricks___init__ cc_BadTricks___init__ N_BadTricks___init__ : Addr} {od_BadTricks___init__ an_BadTricks___init__ cdd_BadTricks___init__ cld_BadTricks___init__ dd_BadTricks___init__ : Option Addr} {sl_BadTricks___init__ ccs_BadTricks___init__ csl_BadTricks___init__ : Array (Option Value)} {oc_BadTricks___init__ dc_BadTricks___init__ pm_BadTricks___init__ ct_BadTricks___init__ ccl_BadTricks___init__ cl_BadTricks___init__ : Value} {vs_BadTricks___init__ : Array Value} {file_BadTricks___init__ nm_BadTricks___init__ qn_BadTricks___init__ : Str} {tf_BadTricks___init__ : Tok} {bs_BadTricks___init__ bm_BadTricks___init__ sub_BadTricks___init__ : List Value} {sn_BadTricks___init__ : List Str} {ab_BadTricks___init__ : Bool} {col_BadTricks___init__ : Option Bool} {k0_BadTricks___init__ k1_BadTricks___init__ k2_BadTricks___init__ k3_BadTricks___init__ k5_BadTricks___init__ : Option Value}
    {a_BadPairs___init__ cda_BadPairs___init__ cc_BadPairs___init__ N_BadPairs___init__ : Addr} {od_BadPairs___init__ an_BadPairs___init__ cdd_BadPairs___init__ cld_BadPairs___init__ dd_BadPairs___init__ : Option Addr} {sl_BadPairs___init__ ccs_BadPairs___init__ csl_BadPairs___init__ : Array (Option Value)} {oc_BadPairs___init__ dc_BadPairs___init__ pm_BadPairs___init__ ct_BadPairs___init__ ccl_BadPairs___init__ cl_BadPairs___init__ : Value} {vs_BadPairs___init__ : Array Value} {file_BadPairs___init__ nm_BadPairs___init__ qn_BadPairs___init__ : Str} {tf_BadPairs___init__ : Tok} {bs_BadPairs___init__ bm_BadPairs___init__ sub_BadPairs___init__ : List Value} {sn_BadPairs___init__ : List Str} {ab_BadPairs___init__ : Bool} {col_BadPairs___init__ : Option Bool} {k0_BadPairs___init__ k1_BadPairs___init__ k2_BadPairs___init__ k3_BadPairs___init__ k5_BadPairs___init__ : Option Value}
    {a_TooWide___init__ cda_TooWide___init__ cc_TooWide___init__ N_TooWide___init__ : Addr} {od_TooWide___init__ an_TooWide___init__ cdd_TooWide___init__ cld_TooWide___init__ dd_TooWide___init__ : Option Addr} {sl_TooWide___init__ ccs_TooWide___init__ csl_TooWide___init__ : Array (Option Value)} {oc_TooWide___init__ dc_TooWide___init__ pm_TooWide___init__ ct_TooWide___init__ ccl_TooWide___init__ cl_TooWide___init__ : Value} {vs_TooWide___init__ : Array Value} {file_TooWide___init__ nm_TooWide___init__ qn_TooWide___init__ : Str} {tf_TooWide___init__ : Tok} {bs_TooWide___init__ bm_TooWide___init__ sub_TooWide___init__ : List Value} {sn_TooWide___init__ : List Str} {ab_TooWide___init__ : Bool} {col_TooWide___init__ : Option Bool} {k0_TooWide___init__ k1_TooWide___init__ k2_TooWide___init__ k3_TooWide___init__ k5_TooWide___init__ : Option Value}
    {a_InvalidText___init__ cda_InvalidText___init__ cc_InvalidText___init__ N_InvalidText___init__ : Addr} {od_InvalidText___init__ an_InvalidText___init__ cdd_InvalidText___init__ cld_InvalidText___init__ dd_InvalidText___init__ : Option Addr} {sl_InvalidText___init__ ccs_InvalidText___init__ csl_InvalidText___init__ : Array (Option Value)} {oc_InvalidText___init__ dc_InvalidText___init__ pm_InvalidText___init__ ct_InvalidText___init__ ccl_InvalidText___init__ cl_InvalidText___init__ : Value} {vs_InvalidText___init__ : Array Value} {file_InvalidText___init__ nm_InvalidText___init__ qn_InvalidText___init__ : Str} {tf_InvalidText___init__ : Tok} {bs_InvalidText___init__ bm_InvalidText___init__ sub_InvalidText___init__ : List Value} {sn_InvalidText___init__ : List Str} {ab_InvalidText___init__ : Bool} {col_InvalidText___init__ : Option Bool} {k0_InvalidText___init__ k1_InvalidText___init__ k2_InvalidText___init__ k3_InvalidText___init__ k5_InvalidText___init__ : Option Value}
    (gx_TrickError : PySem.W.nsIn K mainGlobals "TrickError" = some (some (.ref C_TrickError)))
    (x_TrickError : PySem.W.excIn K C_TrickError [.type "ValueError", .type "Exception", .type "BaseException", .type "object"] "ValueError.__new__" = true)
    (k_TrickError : PySem.W.keepIn K (.ref C_TrickError) = true)
    (s_TrickError : PySem.W.subIn K (.ref C_TrickError) (.type "BaseException") = some true)
    (t_TrickError : PySem.W.typeIn K (.ref C_TrickError) = some (.type "type"))
    (hd_TrickError : PySem.W.hasDictIn K C_TrickError = true)
    (gx_BadBase : PySem.W.nsIn K mainGlobals "BadBase" = some (some (.ref C_BadBase)))
    (x_BadBase : PySem.W.excIn K C_BadBase [.type "ValueError", .type "Exception", .type "BaseException", .type "object"] "ValueError.__new__" = true)
    (k_BadBase : PySem.W.keepIn K (.ref C_BadBase) = true)
    (s_BadBase : PySem.W.subIn K (.ref C_BadBase) (.type "BaseException") = some true)
    (t_BadBase : PySem.W.typeIn K (.ref C_BadBase) = some (.type "type"))
    (hd_BadBase : PySem.W.hasDictIn K C_BadBase = true)
    (gx_BadTake : PySem.W.nsIn K mainGlobals "BadTake" = some (some (.ref C_BadTake)))
    (x_BadTake : PySem.W.excIn K C_BadTake [.type "ValueError", .type "Exception", .type "BaseException", .type "object"] "ValueError.__new__" = true)
    (k_BadTake : PySem.W.keepIn K (.ref C_BadTake) = true)
    (s_BadTake : PySem.W.subIn K (.ref C_BadTake) (.type "BaseException") = some true)
    (t_BadTake : PySem.W.typeIn K (.ref C_BadTake) = some (.type "type"))
    (hd_BadTake : PySem.W.hasDictIn K C_BadTake = true)
    (gx_BadTimes : PySem.W.nsIn K mainGlobals "BadTimes" = some (some (.ref C_BadTimes)))
    (x_BadTimes : PySem.W.excIn K C_BadTimes [.type "ValueError", .type "Exception", .type "BaseException", .type "object"] "ValueError.__new__" = true)
    (k_BadTimes : PySem.W.keepIn K (.ref C_BadTimes) = true)
    (s_BadTimes : PySem.W.subIn K (.ref C_BadTimes) (.type "BaseException") = some true)
    (t_BadTimes : PySem.W.typeIn K (.ref C_BadTimes) = some (.type "type"))
    (hd_BadTimes : PySem.W.hasDictIn K C_BadTimes = true)
    (gx_BadTrick : PySem.W.nsIn K mainGlobals "BadTrick" = some (some (.ref C_BadTrick)))
    (x_BadTrick : PySem.W.excIn K C_BadTrick [.type "ValueError", .type "Exception", .type "BaseException", .type "object"] "ValueError.__new__" = true)
    (k_BadTrick : PySem.W.keepIn K (.ref C_BadTrick) = true)
    (s_BadTrick : PySem.W.subIn K (.ref C_BadTrick) (.type "BaseException") = some true)
    (t_BadTrick : PySem.W.typeIn K (.ref C_BadTrick) = some (.type "type"))
    (hd_BadTrick : PySem.W.hasDictIn K C_BadTrick = true)
    (gx_BadDivisor : PySem.W.nsIn K mainGlobals "BadDivisor" = some (some (.ref C_BadDivisor)))
    (x_BadDivisor : PySem.W.excIn K C_BadDivisor [.type "ValueError", .type "Exception", .type "BaseException", .type "object"] "ValueError.__new__" = true)
    (k_BadDivisor : PySem.W.keepIn K (.ref C_BadDivisor) = true)
    (s_BadDivisor : PySem.W.subIn K (.ref C_BadDivisor) (.type "BaseException") = some true)
    (t_BadDivisor : PySem.W.typeIn K (.ref C_BadDivisor) = some (.type "type"))
    (hd_BadDivisor : PySem.W.hasDictIn K C_BadDivisor = true)
    (gx_BadSum : PySem.W.nsIn K mainGlobals "BadSum" = some (some (.ref C_BadSum)))
    (x_BadSum : PySem.W.excIn K C_BadSum [.type "ValueError", .type "Exception", .type "BaseException", .type "object"] "ValueError.__new__" = true)
    (k_BadSum : PySem.W.keepIn K (.ref C_BadSum) = true)
    (s_BadSum : PySem.W.subIn K (.ref C_BadSum) (.type "BaseException") = some true)
    (t_BadSum : PySem.W.typeIn K (.ref C_BadSum) = some (.type "type"))
    (hd_BadSum : PySem.W.hasDictIn K C_BadSum = true)
    (gx_BadRest : PySem.W.nsIn K mainGlobals "BadRest" = some (some (.ref C_BadRest)))
    (x_BadRest : PySem.W.excIn K C_BadRest [.type "ValueError", .type "Exception", .type "BaseException", .type "object"] "ValueError.__new__" = true)
    (k_BadRest : PySem.W.keepIn K (.ref C_BadRest) = true)
    (s_BadRest : PySem.W.subIn K (.ref C_BadRest) (.type "BaseException") = some true)
    (t_BadRest : PySem.W.typeIn K (.ref C_BadRest) = some (.type "type"))
    (hd_BadRest : PySem.W.hasDictIn K C_BadRest = true)
    (gx_BadNumber : PySem.W.nsIn K mainGlobals "BadNumber" = some (some (.ref C_BadNumber)))
    (k_BadNumber : PySem.W.keepIn K (.ref C_BadNumber) = true)
    (s_BadNumber : PySem.W.subIn K (.ref C_BadNumber) (.type "BaseException") = some true)
    (t_BadNumber : PySem.W.typeIn K (.ref C_BadNumber) = some (.type "type"))
    (hd_BadNumber : PySem.W.hasDictIn K C_BadNumber = true)
    (gx_BadFigures : PySem.W.nsIn K mainGlobals "BadFigures" = some (some (.ref C_BadFigures)))
    (k_BadFigures : PySem.W.keepIn K (.ref C_BadFigures) = true)
    (s_BadFigures : PySem.W.subIn K (.ref C_BadFigures) (.type "BaseException") = some true)
    (t_BadFigures : PySem.W.typeIn K (.ref C_BadFigures) = some (.type "type"))
    (hd_BadFigures : PySem.W.hasDictIn K C_BadFigures = true)
    (gx_BadWeights : PySem.W.nsIn K mainGlobals "BadWeights" = some (some (.ref C_BadWeights)))
    (k_BadWeights : PySem.W.keepIn K (.ref C_BadWeights) = true)
    (s_BadWeights : PySem.W.subIn K (.ref C_BadWeights) (.type "BaseException") = some true)
    (t_BadWeights : PySem.W.typeIn K (.ref C_BadWeights) = some (.type "type"))
    (hd_BadWeights : PySem.W.hasDictIn K C_BadWeights = true)
    (gx_BadRests : PySem.W.nsIn K mainGlobals "BadRests" = some (some (.ref C_BadRests)))
    (k_BadRests : PySem.W.keepIn K (.ref C_BadRests) = true)
    (s_BadRests : PySem.W.subIn K (.ref C_BadRests) (.type "BaseException") = some true)
    (t_BadRests : PySem.W.typeIn K (.ref C_BadRests) = some (.type "type"))
    (hd_BadRests : PySem.W.hasDictIn K C_BadRests = true)
    (gx_BadTricks : PySem.W.nsIn K mainGlobals "BadTricks" = some (some (.ref C_BadTricks)))
    (k_BadTricks : PySem.W.keepIn K (.ref C_BadTricks) = true)
    (s_BadTricks : PySem.W.subIn K (.ref C_BadTricks) (.type "BaseException") = some true)
    (t_BadTricks : PySem.W.typeIn K (.ref C_BadTricks) = some (.type "type"))
    (hd_BadTricks : PySem.W.hasDictIn K C_BadTricks = true)
    (gx_BadPairs : PySem.W.nsIn K mainGlobals "BadPairs" = some (some (.ref C_BadPairs)))
    (k_BadPairs : PySem.W.keepIn K (.ref C_BadPairs) = true)
    (s_BadPairs : PySem.W.subIn K (.ref C_BadPairs) (.type "BaseException") = some true)
    (t_BadPairs : PySem.W.typeIn K (.ref C_BadPairs) = some (.type "type"))
    (hd_BadPairs : PySem.W.hasDictIn K C_BadPairs = true)
    (gx_TooWide : PySem.W.nsIn K mainGlobals "TooWide" = some (some (.ref C_TooWide)))
    (k_TooWide : PySem.W.keepIn K (.ref C_TooWide) = true)
    (s_TooWide : PySem.W.subIn K (.ref C_TooWide) (.type "BaseException") = some true)
    (t_TooWide : PySem.W.typeIn K (.ref C_TooWide) = some (.type "type"))
    (hd_TooWide : PySem.W.hasDictIn K C_TooWide = true)
    (gx_InvalidText : PySem.W.nsIn K mainGlobals "InvalidText" = some (some (.ref C_InvalidText)))
    (k_InvalidText : PySem.W.keepIn K (.ref C_InvalidText) = true)
    (s_InvalidText : PySem.W.subIn K (.ref C_InvalidText) (.type "BaseException") = some true)
    (t_InvalidText : PySem.W.typeIn K (.ref C_InvalidText) = some (.type "type"))
    (hd_InvalidText : PySem.W.hasDictIn K C_InvalidText = true)
    (su_TrickError_BadBase : PySem.W.subIn K (.ref C_TrickError) (.ref C_BadBase) = some false)
    (su_TrickError_BadDivisor : PySem.W.subIn K (.ref C_TrickError) (.ref C_BadDivisor) = some false)
    (su_TrickError_BadFigures : PySem.W.subIn K (.ref C_TrickError) (.ref C_BadFigures) = some false)
    (su_TrickError_BadNumber : PySem.W.subIn K (.ref C_TrickError) (.ref C_BadNumber) = some false)
    (su_TrickError_BadPairs : PySem.W.subIn K (.ref C_TrickError) (.ref C_BadPairs) = some false)
    (su_TrickError_BadRest : PySem.W.subIn K (.ref C_TrickError) (.ref C_BadRest) = some false)
    (su_TrickError_BadRests : PySem.W.subIn K (.ref C_TrickError) (.ref C_BadRests) = some false)
    (su_TrickError_BadSum : PySem.W.subIn K (.ref C_TrickError) (.ref C_BadSum) = some false)
    (su_TrickError_BadTake : PySem.W.subIn K (.ref C_TrickError) (.ref C_BadTake) = some false)
    (su_TrickError_BadTimes : PySem.W.subIn K (.ref C_TrickError) (.ref C_BadTimes) = some false)
    (su_TrickError_BadTrick : PySem.W.subIn K (.ref C_TrickError) (.ref C_BadTrick) = some false)
    (su_TrickError_BadTricks : PySem.W.subIn K (.ref C_TrickError) (.ref C_BadTricks) = some false)
    (su_TrickError_BadWeights : PySem.W.subIn K (.ref C_TrickError) (.ref C_BadWeights) = some false)
    (su_TrickError_InvalidText : PySem.W.subIn K (.ref C_TrickError) (.ref C_InvalidText) = some false)
    (su_TrickError_TooWide : PySem.W.subIn K (.ref C_TrickError) (.ref C_TooWide) = some false)
    (su_TrickError_TrickError : PySem.W.subIn K (.ref C_TrickError) (.ref C_TrickError) = some true)
    (su_BadBase_BadBase : PySem.W.subIn K (.ref C_BadBase) (.ref C_BadBase) = some true)
    (su_BadBase_BadDivisor : PySem.W.subIn K (.ref C_BadBase) (.ref C_BadDivisor) = some false)
    (su_BadBase_BadFigures : PySem.W.subIn K (.ref C_BadBase) (.ref C_BadFigures) = some false)
    (su_BadBase_BadNumber : PySem.W.subIn K (.ref C_BadBase) (.ref C_BadNumber) = some false)
    (su_BadBase_BadPairs : PySem.W.subIn K (.ref C_BadBase) (.ref C_BadPairs) = some false)
    (su_BadBase_BadRest : PySem.W.subIn K (.ref C_BadBase) (.ref C_BadRest) = some false)
    (su_BadBase_BadRests : PySem.W.subIn K (.ref C_BadBase) (.ref C_BadRests) = some false)
    (su_BadBase_BadSum : PySem.W.subIn K (.ref C_BadBase) (.ref C_BadSum) = some false)
    (su_BadBase_BadTake : PySem.W.subIn K (.ref C_BadBase) (.ref C_BadTake) = some false)
    (su_BadBase_BadTimes : PySem.W.subIn K (.ref C_BadBase) (.ref C_BadTimes) = some false)
    (su_BadBase_BadTrick : PySem.W.subIn K (.ref C_BadBase) (.ref C_BadTrick) = some false)
    (su_BadBase_BadTricks : PySem.W.subIn K (.ref C_BadBase) (.ref C_BadTricks) = some false)
    (su_BadBase_BadWeights : PySem.W.subIn K (.ref C_BadBase) (.ref C_BadWeights) = some false)
    (su_BadBase_InvalidText : PySem.W.subIn K (.ref C_BadBase) (.ref C_InvalidText) = some false)
    (su_BadBase_TooWide : PySem.W.subIn K (.ref C_BadBase) (.ref C_TooWide) = some false)
    (su_BadBase_TrickError : PySem.W.subIn K (.ref C_BadBase) (.ref C_TrickError) = some true)
    (su_BadTake_BadBase : PySem.W.subIn K (.ref C_BadTake) (.ref C_BadBase) = some false)
    (su_BadTake_BadDivisor : PySem.W.subIn K (.ref C_BadTake) (.ref C_BadDivisor) = some false)
    (su_BadTake_BadFigures : PySem.W.subIn K (.ref C_BadTake) (.ref C_BadFigures) = some false)
    (su_BadTake_BadNumber : PySem.W.subIn K (.ref C_BadTake) (.ref C_BadNumber) = some false)
    (su_BadTake_BadPairs : PySem.W.subIn K (.ref C_BadTake) (.ref C_BadPairs) = some false)
    (su_BadTake_BadRest : PySem.W.subIn K (.ref C_BadTake) (.ref C_BadRest) = some false)
    (su_BadTake_BadRests : PySem.W.subIn K (.ref C_BadTake) (.ref C_BadRests) = some false)
    (su_BadTake_BadSum : PySem.W.subIn K (.ref C_BadTake) (.ref C_BadSum) = some false)
    (su_BadTake_BadTake : PySem.W.subIn K (.ref C_BadTake) (.ref C_BadTake) = some true)
    (su_BadTake_BadTimes : PySem.W.subIn K (.ref C_BadTake) (.ref C_BadTimes) = some false)
    (su_BadTake_BadTrick : PySem.W.subIn K (.ref C_BadTake) (.ref C_BadTrick) = some false)
    (su_BadTake_BadTricks : PySem.W.subIn K (.ref C_BadTake) (.ref C_BadTricks) = some false)
    (su_BadTake_BadWeights : PySem.W.subIn K (.ref C_BadTake) (.ref C_BadWeights) = some false)
    (su_BadTake_InvalidText : PySem.W.subIn K (.ref C_BadTake) (.ref C_InvalidText) = some false)
    (su_BadTake_TooWide : PySem.W.subIn K (.ref C_BadTake) (.ref C_TooWide) = some false)
    (su_BadTake_TrickError : PySem.W.subIn K (.ref C_BadTake) (.ref C_TrickError) = some true)
    (su_BadTimes_BadBase : PySem.W.subIn K (.ref C_BadTimes) (.ref C_BadBase) = some false)
    (su_BadTimes_BadDivisor : PySem.W.subIn K (.ref C_BadTimes) (.ref C_BadDivisor) = some false)
    (su_BadTimes_BadFigures : PySem.W.subIn K (.ref C_BadTimes) (.ref C_BadFigures) = some false)
    (su_BadTimes_BadNumber : PySem.W.subIn K (.ref C_BadTimes) (.ref C_BadNumber) = some false)
    (su_BadTimes_BadPairs : PySem.W.subIn K (.ref C_BadTimes) (.ref C_BadPairs) = some false)
    (su_BadTimes_BadRest : PySem.W.subIn K (.ref C_BadTimes) (.ref C_BadRest) = some false)
    (su_BadTimes_BadRests : PySem.W.subIn K (.ref C_BadTimes) (.ref C_BadRests) = some false)
    (su_BadTimes_BadSum : PySem.W.subIn K (.ref C_BadTimes) (.ref C_BadSum) = some false)
    (su_BadTimes_BadTake : PySem.W.subIn K (.ref C_BadTimes) (.ref C_BadTake) = some false)
    (su_BadTimes_BadTimes : PySem.W.subIn K (.ref C_BadTimes) (.ref C_BadTimes) = some true)
    (su_BadTimes_BadTrick : PySem.W.subIn K (.ref C_BadTimes) (.ref C_BadTrick) = some false)
    (su_BadTimes_BadTricks : PySem.W.subIn K (.ref C_BadTimes) (.ref C_BadTricks) = some false)
    (su_BadTimes_BadWeights : PySem.W.subIn K (.ref C_BadTimes) (.ref C_BadWeights) = some false)
    (su_BadTimes_InvalidText : PySem.W.subIn K (.ref C_BadTimes) (.ref C_InvalidText) = some false)
    (su_BadTimes_TooWide : PySem.W.subIn K (.ref C_BadTimes) (.ref C_TooWide) = some false)
    (su_BadTimes_TrickError : PySem.W.subIn K (.ref C_BadTimes) (.ref C_TrickError) = some true)
    (su_BadTrick_BadBase : PySem.W.subIn K (.ref C_BadTrick) (.ref C_BadBase) = some false)
    (su_BadTrick_BadDivisor : PySem.W.subIn K (.ref C_BadTrick) (.ref C_BadDivisor) = some false)
    (su_BadTrick_BadFigures : PySem.W.subIn K (.ref C_BadTrick) (.ref C_BadFigures) = some false)
    (su_BadTrick_BadNumber : PySem.W.subIn K (.ref C_BadTrick) (.ref C_BadNumber) = some false)
    (su_BadTrick_BadPairs : PySem.W.subIn K (.ref C_BadTrick) (.ref C_BadPairs) = some false)
    (su_BadTrick_BadRest : PySem.W.subIn K (.ref C_BadTrick) (.ref C_BadRest) = some false)
    (su_BadTrick_BadRests : PySem.W.subIn K (.ref C_BadTrick) (.ref C_BadRests) = some false)
    (su_BadTrick_BadSum : PySem.W.subIn K (.ref C_BadTrick) (.ref C_BadSum) = some false)
    (su_BadTrick_BadTake : PySem.W.subIn K (.ref C_BadTrick) (.ref C_BadTake) = some false)
    (su_BadTrick_BadTimes : PySem.W.subIn K (.ref C_BadTrick) (.ref C_BadTimes) = some false)
    (su_BadTrick_BadTrick : PySem.W.subIn K (.ref C_BadTrick) (.ref C_BadTrick) = some true)
    (su_BadTrick_BadTricks : PySem.W.subIn K (.ref C_BadTrick) (.ref C_BadTricks) = some false)
    (su_BadTrick_BadWeights : PySem.W.subIn K (.ref C_BadTrick) (.ref C_BadWeights) = some false)
    (su_BadTrick_InvalidText : PySem.W.subIn K (.ref C_BadTrick) (.ref C_InvalidText) = some false)
    (su_BadTrick_TooWide : PySem.W.subIn K (.ref C_BadTrick) (.ref C_TooWide) = some false)
    (su_BadTrick_TrickError : PySem.W.subIn K (.ref C_BadTrick) (.ref C_TrickError) = some true)
    (su_BadDivisor_BadBase : PySem.W.subIn K (.ref C_BadDivisor) (.ref C_BadBase) = some false)
    (su_BadDivisor_BadDivisor : PySem.W.subIn K (.ref C_BadDivisor) (.ref C_BadDivisor) = some true)
    (su_BadDivisor_BadFigures : PySem.W.subIn K (.ref C_BadDivisor) (.ref C_BadFigures) = some false)
    (su_BadDivisor_BadNumber : PySem.W.subIn K (.ref C_BadDivisor) (.ref C_BadNumber) = some false)
    (su_BadDivisor_BadPairs : PySem.W.subIn K (.ref C_BadDivisor) (.ref C_BadPairs) = some false)
    (su_BadDivisor_BadRest : PySem.W.subIn K (.ref C_BadDivisor) (.ref C_BadRest) = some false)
    (su_BadDivisor_BadRests : PySem.W.subIn K (.ref C_BadDivisor) (.ref C_BadRests) = some false)
    (su_BadDivisor_BadSum : PySem.W.subIn K (.ref C_BadDivisor) (.ref C_BadSum) = some false)
    (su_BadDivisor_BadTake : PySem.W.subIn K (.ref C_BadDivisor) (.ref C_BadTake) = some false)
    (su_BadDivisor_BadTimes : PySem.W.subIn K (.ref C_BadDivisor) (.ref C_BadTimes) = some false)
    (su_BadDivisor_BadTrick : PySem.W.subIn K (.ref C_BadDivisor) (.ref C_BadTrick) = some false)
    (su_BadDivisor_BadTricks : PySem.W.subIn K (.ref C_BadDivisor) (.ref C_BadTricks) = some false)
    (su_BadDivisor_BadWeights : PySem.W.subIn K (.ref C_BadDivisor) (.ref C_BadWeights) = some false)
    (su_BadDivisor_InvalidText : PySem.W.subIn K (.ref C_BadDivisor) (.ref C_InvalidText) = some false)
    (su_BadDivisor_TooWide : PySem.W.subIn K (.ref C_BadDivisor) (.ref C_TooWide) = some false)
    (su_BadDivisor_TrickError : PySem.W.subIn K (.ref C_BadDivisor) (.ref C_TrickError) = some true)
    (su_BadSum_BadBase : PySem.W.subIn K (.ref C_BadSum) (.ref C_BadBase) = some false)
    (su_BadSum_BadDivisor : PySem.W.subIn K (.ref C_BadSum) (.ref C_BadDivisor) = some false)
    (su_BadSum_BadFigures : PySem.W.subIn K (.ref C_BadSum) (.ref C_BadFigures) = some false)
    (su_BadSum_BadNumber : PySem.W.subIn K (.ref C_BadSum) (.ref C_BadNumber) = some false)
    (su_BadSum_BadPairs : PySem.W.subIn K (.ref C_BadSum) (.ref C_BadPairs) = some false)
    (su_BadSum_BadRest : PySem.W.subIn K (.ref C_BadSum) (.ref C_BadRest) = some false)
    (su_BadSum_BadRests : PySem.W.subIn K (.ref C_BadSum) (.ref C_BadRests) = some false)
    (su_BadSum_BadSum : PySem.W.subIn K (.ref C_BadSum) (.ref C_BadSum) = some true)
    (su_BadSum_BadTake : PySem.W.subIn K (.ref C_BadSum) (.ref C_BadTake) = some false)
    (su_BadSum_BadTimes : PySem.W.subIn K (.ref C_BadSum) (.ref C_BadTimes) = some false)
    (su_BadSum_BadTrick : PySem.W.subIn K (.ref C_BadSum) (.ref C_BadTrick) = some false)
    (su_BadSum_BadTricks : PySem.W.subIn K (.ref C_BadSum) (.ref C_BadTricks) = some false)
    (su_BadSum_BadWeights : PySem.W.subIn K (.ref C_BadSum) (.ref C_BadWeights) = some false)
    (su_BadSum_InvalidText : PySem.W.subIn K (.ref C_BadSum) (.ref C_InvalidText) = some false)
    (su_BadSum_TooWide : PySem.W.subIn K (.ref C_BadSum) (.ref C_TooWide) = some false)
    (su_BadSum_TrickError : PySem.W.subIn K (.ref C_BadSum) (.ref C_TrickError) = some true)
    (su_BadRest_BadBase : PySem.W.subIn K (.ref C_BadRest) (.ref C_BadBase) = some false)
    (su_BadRest_BadDivisor : PySem.W.subIn K (.ref C_BadRest) (.ref C_BadDivisor) = some false)
    (su_BadRest_BadFigures : PySem.W.subIn K (.ref C_BadRest) (.ref C_BadFigures) = some false)
    (su_BadRest_BadNumber : PySem.W.subIn K (.ref C_BadRest) (.ref C_BadNumber) = some false)
    (su_BadRest_BadPairs : PySem.W.subIn K (.ref C_BadRest) (.ref C_BadPairs) = some false)
    (su_BadRest_BadRest : PySem.W.subIn K (.ref C_BadRest) (.ref C_BadRest) = some true)
    (su_BadRest_BadRests : PySem.W.subIn K (.ref C_BadRest) (.ref C_BadRests) = some false)
    (su_BadRest_BadSum : PySem.W.subIn K (.ref C_BadRest) (.ref C_BadSum) = some false)
    (su_BadRest_BadTake : PySem.W.subIn K (.ref C_BadRest) (.ref C_BadTake) = some false)
    (su_BadRest_BadTimes : PySem.W.subIn K (.ref C_BadRest) (.ref C_BadTimes) = some false)
    (su_BadRest_BadTrick : PySem.W.subIn K (.ref C_BadRest) (.ref C_BadTrick) = some false)
    (su_BadRest_BadTricks : PySem.W.subIn K (.ref C_BadRest) (.ref C_BadTricks) = some false)
    (su_BadRest_BadWeights : PySem.W.subIn K (.ref C_BadRest) (.ref C_BadWeights) = some false)
    (su_BadRest_InvalidText : PySem.W.subIn K (.ref C_BadRest) (.ref C_InvalidText) = some false)
    (su_BadRest_TooWide : PySem.W.subIn K (.ref C_BadRest) (.ref C_TooWide) = some false)
    (su_BadRest_TrickError : PySem.W.subIn K (.ref C_BadRest) (.ref C_TrickError) = some true)
    (su_BadNumber_BadBase : PySem.W.subIn K (.ref C_BadNumber) (.ref C_BadBase) = some false)
    (su_BadNumber_BadDivisor : PySem.W.subIn K (.ref C_BadNumber) (.ref C_BadDivisor) = some false)
    (su_BadNumber_BadFigures : PySem.W.subIn K (.ref C_BadNumber) (.ref C_BadFigures) = some false)
    (su_BadNumber_BadNumber : PySem.W.subIn K (.ref C_BadNumber) (.ref C_BadNumber) = some true)
    (su_BadNumber_BadPairs : PySem.W.subIn K (.ref C_BadNumber) (.ref C_BadPairs) = some false)
    (su_BadNumber_BadRest : PySem.W.subIn K (.ref C_BadNumber) (.ref C_BadRest) = some false)
    (su_BadNumber_BadRests : PySem.W.subIn K (.ref C_BadNumber) (.ref C_BadRests) = some false)
    (su_BadNumber_BadSum : PySem.W.subIn K (.ref C_BadNumber) (.ref C_BadSum) = some false)
    (su_BadNumber_BadTake : PySem.W.subIn K (.ref C_BadNumber) (.ref C_BadTake) = some false)
    (su_BadNumber_BadTimes : PySem.W.subIn K (.ref C_BadNumber) (.ref C_BadTimes) = some false)
    (su_BadNumber_BadTrick : PySem.W.subIn K (.ref C_BadNumber) (.ref C_BadTrick) = some false)
    (su_BadNumber_BadTricks : PySem.W.subIn K (.ref C_BadNumber) (.ref C_BadTricks) = some false)
    (su_BadNumber_BadWeights : PySem.W.subIn K (.ref C_BadNumber) (.ref C_BadWeights) = some false)
    (su_BadNumber_InvalidText : PySem.W.subIn K (.ref C_BadNumber) (.ref C_InvalidText) = some false)
    (su_BadNumber_TooWide : PySem.W.subIn K (.ref C_BadNumber) (.ref C_TooWide) = some false)
    (su_BadNumber_TrickError : PySem.W.subIn K (.ref C_BadNumber) (.ref C_TrickError) = some true)
    (su_BadFigures_BadBase : PySem.W.subIn K (.ref C_BadFigures) (.ref C_BadBase) = some false)
    (su_BadFigures_BadDivisor : PySem.W.subIn K (.ref C_BadFigures) (.ref C_BadDivisor) = some false)
    (su_BadFigures_BadFigures : PySem.W.subIn K (.ref C_BadFigures) (.ref C_BadFigures) = some true)
    (su_BadFigures_BadNumber : PySem.W.subIn K (.ref C_BadFigures) (.ref C_BadNumber) = some false)
    (su_BadFigures_BadPairs : PySem.W.subIn K (.ref C_BadFigures) (.ref C_BadPairs) = some false)
    (su_BadFigures_BadRest : PySem.W.subIn K (.ref C_BadFigures) (.ref C_BadRest) = some false)
    (su_BadFigures_BadRests : PySem.W.subIn K (.ref C_BadFigures) (.ref C_BadRests) = some false)
    (su_BadFigures_BadSum : PySem.W.subIn K (.ref C_BadFigures) (.ref C_BadSum) = some false)
    (su_BadFigures_BadTake : PySem.W.subIn K (.ref C_BadFigures) (.ref C_BadTake) = some false)
    (su_BadFigures_BadTimes : PySem.W.subIn K (.ref C_BadFigures) (.ref C_BadTimes) = some false)
    (su_BadFigures_BadTrick : PySem.W.subIn K (.ref C_BadFigures) (.ref C_BadTrick) = some false)
    (su_BadFigures_BadTricks : PySem.W.subIn K (.ref C_BadFigures) (.ref C_BadTricks) = some false)
    (su_BadFigures_BadWeights : PySem.W.subIn K (.ref C_BadFigures) (.ref C_BadWeights) = some false)
    (su_BadFigures_InvalidText : PySem.W.subIn K (.ref C_BadFigures) (.ref C_InvalidText) = some false)
    (su_BadFigures_TooWide : PySem.W.subIn K (.ref C_BadFigures) (.ref C_TooWide) = some false)
    (su_BadFigures_TrickError : PySem.W.subIn K (.ref C_BadFigures) (.ref C_TrickError) = some true)
    (su_BadWeights_BadBase : PySem.W.subIn K (.ref C_BadWeights) (.ref C_BadBase) = some false)
    (su_BadWeights_BadDivisor : PySem.W.subIn K (.ref C_BadWeights) (.ref C_BadDivisor) = some false)
    (su_BadWeights_BadFigures : PySem.W.subIn K (.ref C_BadWeights) (.ref C_BadFigures) = some false)
    (su_BadWeights_BadNumber : PySem.W.subIn K (.ref C_BadWeights) (.ref C_BadNumber) = some false)
    (su_BadWeights_BadPairs : PySem.W.subIn K (.ref C_BadWeights) (.ref C_BadPairs) = some false)
    (su_BadWeights_BadRest : PySem.W.subIn K (.ref C_BadWeights) (.ref C_BadRest) = some false)
    (su_BadWeights_BadRests : PySem.W.subIn K (.ref C_BadWeights) (.ref C_BadRests) = some false)
    (su_BadWeights_BadSum : PySem.W.subIn K (.ref C_BadWeights) (.ref C_BadSum) = some false)
    (su_BadWeights_BadTake : PySem.W.subIn K (.ref C_BadWeights) (.ref C_BadTake) = some false)
    (su_BadWeights_BadTimes : PySem.W.subIn K (.ref C_BadWeights) (.ref C_BadTimes) = some false)
    (su_BadWeights_BadTrick : PySem.W.subIn K (.ref C_BadWeights) (.ref C_BadTrick) = some false)
    (su_BadWeights_BadTricks : PySem.W.subIn K (.ref C_BadWeights) (.ref C_BadTricks) = some false)
    (su_BadWeights_BadWeights : PySem.W.subIn K (.ref C_BadWeights) (.ref C_BadWeights) = some true)
    (su_BadWeights_InvalidText : PySem.W.subIn K (.ref C_BadWeights) (.ref C_InvalidText) = some false)
    (su_BadWeights_TooWide : PySem.W.subIn K (.ref C_BadWeights) (.ref C_TooWide) = some false)
    (su_BadWeights_TrickError : PySem.W.subIn K (.ref C_BadWeights) (.ref C_TrickError) = some true)
    (su_BadRests_BadBase : PySem.W.subIn K (.ref C_BadRests) (.ref C_BadBase) = some false)
    (su_BadRests_BadDivisor : PySem.W.subIn K (.ref C_BadRests) (.ref C_BadDivisor) = some false)
    (su_BadRests_BadFigures : PySem.W.subIn K (.ref C_BadRests) (.ref C_BadFigures) = some false)
    (su_BadRests_BadNumber : PySem.W.subIn K (.ref C_BadRests) (.ref C_BadNumber) = some false)
    (su_BadRests_BadPairs : PySem.W.subIn K (.ref C_BadRests) (.ref C_BadPairs) = some false)
    (su_BadRests_BadRest : PySem.W.subIn K (.ref C_BadRests) (.ref C_BadRest) = some false)
    (su_BadRests_BadRests : PySem.W.subIn K (.ref C_BadRests) (.ref C_BadRests) = some true)
    (su_BadRests_BadSum : PySem.W.subIn K (.ref C_BadRests) (.ref C_BadSum) = some false)
    (su_BadRests_BadTake : PySem.W.subIn K (.ref C_BadRests) (.ref C_BadTake) = some false)
    (su_BadRests_BadTimes : PySem.W.subIn K (.ref C_BadRests) (.ref C_BadTimes) = some false)
    (su_BadRests_BadTrick : PySem.W.subIn K (.ref C_BadRests) (.ref C_BadTrick) = some false)
    (su_BadRests_BadTricks : PySem.W.subIn K (.ref C_BadRests) (.ref C_BadTricks) = some false)
    (su_BadRests_BadWeights : PySem.W.subIn K (.ref C_BadRests) (.ref C_BadWeights) = some false)
    (su_BadRests_InvalidText : PySem.W.subIn K (.ref C_BadRests) (.ref C_InvalidText) = some false)
    (su_BadRests_TooWide : PySem.W.subIn K (.ref C_BadRests) (.ref C_TooWide) = some false)
    (su_BadRests_TrickError : PySem.W.subIn K (.ref C_BadRests) (.ref C_TrickError) = some true)
    (su_BadTricks_BadBase : PySem.W.subIn K (.ref C_BadTricks) (.ref C_BadBase) = some false)
    (su_BadTricks_BadDivisor : PySem.W.subIn K (.ref C_BadTricks) (.ref C_BadDivisor) = some false)
    (su_BadTricks_BadFigures : PySem.W.subIn K (.ref C_BadTricks) (.ref C_BadFigures) = some false)
    (su_BadTricks_BadNumber : PySem.W.subIn K (.ref C_BadTricks) (.ref C_BadNumber) = some false)
    (su_BadTricks_BadPairs : PySem.W.subIn K (.ref C_BadTricks) (.ref C_BadPairs) = some false)
    (su_BadTricks_BadRest : PySem.W.subIn K (.ref C_BadTricks) (.ref C_BadRest) = some false)
    (su_BadTricks_BadRests : PySem.W.subIn K (.ref C_BadTricks) (.ref C_BadRests) = some false)
    (su_BadTricks_BadSum : PySem.W.subIn K (.ref C_BadTricks) (.ref C_BadSum) = some false)
    (su_BadTricks_BadTake : PySem.W.subIn K (.ref C_BadTricks) (.ref C_BadTake) = some false)
    (su_BadTricks_BadTimes : PySem.W.subIn K (.ref C_BadTricks) (.ref C_BadTimes) = some false)
    (su_BadTricks_BadTrick : PySem.W.subIn K (.ref C_BadTricks) (.ref C_BadTrick) = some false)
    (su_BadTricks_BadTricks : PySem.W.subIn K (.ref C_BadTricks) (.ref C_BadTricks) = some true)
    (su_BadTricks_BadWeights : PySem.W.subIn K (.ref C_BadTricks) (.ref C_BadWeights) = some false)
    (su_BadTricks_InvalidText : PySem.W.subIn K (.ref C_BadTricks) (.ref C_InvalidText) = some false)
    (su_BadTricks_TooWide : PySem.W.subIn K (.ref C_BadTricks) (.ref C_TooWide) = some false)
    (su_BadTricks_TrickError : PySem.W.subIn K (.ref C_BadTricks) (.ref C_TrickError) = some true)
    (su_BadPairs_BadBase : PySem.W.subIn K (.ref C_BadPairs) (.ref C_BadBase) = some false)
    (su_BadPairs_BadDivisor : PySem.W.subIn K (.ref C_BadPairs) (.ref C_BadDivisor) = some false)
    (su_BadPairs_BadFigures : PySem.W.subIn K (.ref C_BadPairs) (.ref C_BadFigures) = some false)
    (su_BadPairs_BadNumber : PySem.W.subIn K (.ref C_BadPairs) (.ref C_BadNumber) = some false)
    (su_BadPairs_BadPairs : PySem.W.subIn K (.ref C_BadPairs) (.ref C_BadPairs) = some true)
    (su_BadPairs_BadRest : PySem.W.subIn K (.ref C_BadPairs) (.ref C_BadRest) = some false)
    (su_BadPairs_BadRests : PySem.W.subIn K (.ref C_BadPairs) (.ref C_BadRests) = some false)
    (su_BadPairs_BadSum : PySem.W.subIn K (.ref C_BadPairs) (.ref C_BadSum) = some false)
    (su_BadPairs_BadTake : PySem.W.subIn K (.ref C_BadPairs) (.ref C_BadTake) = some false)
    (su_BadPairs_BadTimes : PySem.W.subIn K (.ref C_BadPairs) (.ref C_BadTimes) = some false)
    (su_BadPairs_BadTrick : PySem.W.subIn K (.ref C_BadPairs) (.ref C_BadTrick) = some false)
    (su_BadPairs_BadTricks : PySem.W.subIn K (.ref C_BadPairs) (.ref C_BadTricks) = some false)
    (su_BadPairs_BadWeights : PySem.W.subIn K (.ref C_BadPairs) (.ref C_BadWeights) = some false)
    (su_BadPairs_InvalidText : PySem.W.subIn K (.ref C_BadPairs) (.ref C_InvalidText) = some false)
    (su_BadPairs_TooWide : PySem.W.subIn K (.ref C_BadPairs) (.ref C_TooWide) = some false)
    (su_BadPairs_TrickError : PySem.W.subIn K (.ref C_BadPairs) (.ref C_TrickError) = some true)
    (su_TooWide_BadBase : PySem.W.subIn K (.ref C_TooWide) (.ref C_BadBase) = some false)
    (su_TooWide_BadDivisor : PySem.W.subIn K (.ref C_TooWide) (.ref C_BadDivisor) = some false)
    (su_TooWide_BadFigures : PySem.W.subIn K (.ref C_TooWide) (.ref C_BadFigures) = some false)
    (su_TooWide_BadNumber : PySem.W.subIn K (.ref C_TooWide) (.ref C_BadNumber) = some false)
    (su_TooWide_BadPairs : PySem.W.subIn K (.ref C_TooWide) (.ref C_BadPairs) = some false)
    (su_TooWide_BadRest : PySem.W.subIn K (.ref C_TooWide) (.ref C_BadRest) = some false)
    (su_TooWide_BadRests : PySem.W.subIn K (.ref C_TooWide) (.ref C_BadRests) = some false)
    (su_TooWide_BadSum : PySem.W.subIn K (.ref C_TooWide) (.ref C_BadSum) = some false)
    (su_TooWide_BadTake : PySem.W.subIn K (.ref C_TooWide) (.ref C_BadTake) = some false)
    (su_TooWide_BadTimes : PySem.W.subIn K (.ref C_TooWide) (.ref C_BadTimes) = some false)
    (su_TooWide_BadTrick : PySem.W.subIn K (.ref C_TooWide) (.ref C_BadTrick) = some false)
    (su_TooWide_BadTricks : PySem.W.subIn K (.ref C_TooWide) (.ref C_BadTricks) = some false)
    (su_TooWide_BadWeights : PySem.W.subIn K (.ref C_TooWide) (.ref C_BadWeights) = some false)
    (su_TooWide_InvalidText : PySem.W.subIn K (.ref C_TooWide) (.ref C_InvalidText) = some false)
    (su_TooWide_TooWide : PySem.W.subIn K (.ref C_TooWide) (.ref C_TooWide) = some true)
    (su_TooWide_TrickError : PySem.W.subIn K (.ref C_TooWide) (.ref C_TrickError) = some true)
    (su_InvalidText_BadBase : PySem.W.subIn K (.ref C_InvalidText) (.ref C_BadBase) = some false)
    (su_InvalidText_BadDivisor : PySem.W.subIn K (.ref C_InvalidText) (.ref C_BadDivisor) = some false)
    (su_InvalidText_BadFigures : PySem.W.subIn K (.ref C_InvalidText) (.ref C_BadFigures) = some false)
    (su_InvalidText_BadNumber : PySem.W.subIn K (.ref C_InvalidText) (.ref C_BadNumber) = some false)
    (su_InvalidText_BadPairs : PySem.W.subIn K (.ref C_InvalidText) (.ref C_BadPairs) = some false)
    (su_InvalidText_BadRest : PySem.W.subIn K (.ref C_InvalidText) (.ref C_BadRest) = some false)
    (su_InvalidText_BadRests : PySem.W.subIn K (.ref C_InvalidText) (.ref C_BadRests) = some false)
    (su_InvalidText_BadSum : PySem.W.subIn K (.ref C_InvalidText) (.ref C_BadSum) = some false)
    (su_InvalidText_BadTake : PySem.W.subIn K (.ref C_InvalidText) (.ref C_BadTake) = some false)
    (su_InvalidText_BadTimes : PySem.W.subIn K (.ref C_InvalidText) (.ref C_BadTimes) = some false)
    (su_InvalidText_BadTrick : PySem.W.subIn K (.ref C_InvalidText) (.ref C_BadTrick) = some false)
    (su_InvalidText_BadTricks : PySem.W.subIn K (.ref C_InvalidText) (.ref C_BadTricks) = some false)
    (su_InvalidText_BadWeights : PySem.W.subIn K (.ref C_InvalidText) (.ref C_BadWeights) = some false)
    (su_InvalidText_InvalidText : PySem.W.subIn K (.ref C_InvalidText) (.ref C_InvalidText) = some true)
    (su_InvalidText_TooWide : PySem.W.subIn K (.ref C_InvalidText) (.ref C_TooWide) = some false)
    (su_InvalidText_TrickError : PySem.W.subIn K (.ref C_InvalidText) (.ref C_TrickError) = some true)
    (cx_GREATEST_NUMBER : PySem.W.nsIn K mainGlobals "GREATEST_NUMBER" = some (some (.int 10000000000000000000000000000000000000000 tk_GREATEST_NUMBER)))
    (cx_LEAST_BASE : PySem.W.nsIn K mainGlobals "LEAST_BASE" = some (some (.int 2 tk_LEAST_BASE)))
    (cx_GREATEST_BASE : PySem.W.nsIn K mainGlobals "GREATEST_BASE" = some (some (.int 16 tk_GREATEST_BASE)))
    (cx_GREATEST_TAKE : PySem.W.nsIn K mainGlobals "GREATEST_TAKE" = some (some (.int 2 tk_GREATEST_TAKE)))
    (cx_GREATEST_DIVISOR : PySem.W.nsIn K mainGlobals "GREATEST_DIVISOR" = some (some (.int 100 tk_GREATEST_DIVISOR)))
    (cx_MOST_FIGURES : PySem.W.nsIn K mainGlobals "MOST_FIGURES" = some (some (.int 150 tk_MOST_FIGURES)))
    (cx_GREATEST_TIMES : PySem.W.nsIn K mainGlobals "GREATEST_TIMES" = some (some (.int 100 tk_GREATEST_TIMES)))
    (cx_MOST_TRICKS : PySem.W.nsIn K mainGlobals "MOST_TRICKS" = some (some (.int 4 tk_MOST_TRICKS)))
    (cx_GREATEST_CHAIN_DIVISOR : PySem.W.nsIn K mainGlobals "GREATEST_CHAIN_DIVISOR" = some (some (.int 30 tk_GREATEST_CHAIN_DIVISOR)))
    (cx_GREATEST_PRODUCT : PySem.W.nsIn K mainGlobals "GREATEST_PRODUCT" = some (some (.int 300 tk_GREATEST_PRODUCT)))
    (cx_MOST_LABELS : PySem.W.nsIn K mainGlobals "MOST_LABELS" = some (some (.int 20 tk_MOST_LABELS)))
    (cx_GREATEST_LABEL : PySem.W.nsIn K mainGlobals "GREATEST_LABEL" = some (some (.int 19 tk_GREATEST_LABEL)))
    (cx_GREATEST_WEIGHT : PySem.W.nsIn K mainGlobals "GREATEST_WEIGHT" = some (some (.int 1000000 tk_GREATEST_WEIGHT)))
    (cx_MOST_WEIGHTS : PySem.W.nsIn K mainGlobals "MOST_WEIGHTS" = some (some (.int 12 tk_MOST_WEIGHTS)))
    (cx_MOST_PAIRS : PySem.W.nsIn K mainGlobals "MOST_PAIRS" = some (some (.int 10 tk_MOST_PAIRS)))
    (df_is_integer : ∃ (a : Addr) (d : FuncData), PySem.W.nsIn K mainGlobals "is_integer" = some (some (.ref a)) ∧ Fun K "is_integer" "is_integer" s_is_integer a d)
    (df_is_tuple : ∃ (a : Addr) (d : FuncData), PySem.W.nsIn K mainGlobals "is_tuple" = some (some (.ref a)) ∧ Fun K "is_tuple" "is_tuple" s_is_tuple a d)
    (df_is_list_or_tuple : ∃ (a : Addr) (d : FuncData), PySem.W.nsIn K mainGlobals "is_list_or_tuple" = some (some (.ref a)) ∧ Fun K "is_list_or_tuple" "is_list_or_tuple" s_is_list_or_tuple a d)
    (df_is_number : ∃ (a : Addr) (d : FuncData), PySem.W.nsIn K mainGlobals "is_number" = some (some (.ref a)) ∧ Fun K "is_number" "is_number" s_is_number a d)
    (df_first_wrong : ∃ (a : Addr) (d : FuncData), PySem.W.nsIn K mainGlobals "first_wrong" = some (some (.ref a)) ∧ Fun K "first_wrong" "first_wrong" s_first_wrong a d)
    (df_check_base : ∃ (a : Addr) (d : FuncData), PySem.W.nsIn K mainGlobals "check_base" = some (some (.ref a)) ∧ Fun K "check_base" "check_base" s_check_base a d)
    (df_check_take : ∃ (a : Addr) (d : FuncData), PySem.W.nsIn K mainGlobals "check_take" = some (some (.ref a)) ∧ Fun K "check_take" "check_take" s_check_take a d)
    (gf_check_divisor : PySem.W.nsIn K mainGlobals "check_divisor" = some (some (.ref a_check_divisor)))
    (l_check_divisor : K.lookup a_check_divisor = some ⟨oc_check_divisor, od_check_divisor, .func (PySem.W.fnOf "check_divisor" "check_divisor" (defArgs s_check_divisor) (defBody s_check_divisor) (defScope s_check_divisor) (.ref dT_check_divisor) kV_check_divisor dc_check_divisor pm_check_divisor an_check_divisor cd_check_divisor ct_check_divisor), sl_check_divisor⟩)
    (c_check_divisor : PySem.W.codeIn K cd_check_divisor "check_divisor" = true)
    (kp_check_divisor : PySem.W.keepIn K (.ref a_check_divisor) = true)
    (ldT_check_divisor : K.lookup dT_check_divisor = some ⟨doc_check_divisor, dod_check_divisor, .seq dvs_check_divisor dn_check_divisor, dsl_check_divisor⟩)
    (rdv_check_divisor : dvs_check_divisor = #[.int 100 dt0_check_divisor])
    (df_check_stretch : ∃ (a : Addr) (d : FuncData), PySem.W.nsIn K mainGlobals "check_stretch" = some (some (.ref a)) ∧ Fun K "check_stretch" "check_stretch" s_check_stretch a d)
    (df_check_number : ∃ (a : Addr) (d : FuncData), PySem.W.nsIn K mainGlobals "check_number" = some (some (.ref a)) ∧ Fun K "check_number" "check_number" s_check_number a d)
    (df_figures : ∃ (a : Addr) (d : FuncData), PySem.W.nsIn K mainGlobals "figures" = some (some (.ref a)) ∧ Fun K "figures" "figures" s_figures a d)
    (df_number : ∃ (a : Addr) (d : FuncData), PySem.W.nsIn K mainGlobals "number" = some (some (.ref a)) ∧ Fun K "number" "number" s_number a d)
    (df_check_figures : ∃ (a : Addr) (d : FuncData), PySem.W.nsIn K mainGlobals "check_figures" = some (some (.ref a)) ∧ Fun K "check_figures" "check_figures" s_check_figures a d)
    (df_block_of : ∃ (a : Addr) (d : FuncData), PySem.W.nsIn K mainGlobals "block_of" = some (some (.ref a)) ∧ Fun K "block_of" "block_of" s_block_of a d)
    (df_done : ∃ (a : Addr) (d : FuncData), PySem.W.nsIn K mainGlobals "done" = some (some (.ref a)) ∧ Fun K "done" "done" s_done a d)
    (df_check_trick : ∃ (a : Addr) (d : FuncData), PySem.W.nsIn K mainGlobals "check_trick" = some (some (.ref a)) ∧ Fun K "check_trick" "check_trick" s_check_trick a d)
    (df_trick_block : ∃ (a : Addr) (d : FuncData), PySem.W.nsIn K mainGlobals "trick_block" = some (some (.ref a)) ∧ Fun K "trick_block" "trick_block" s_trick_block a d)
    (df_made_of : ∃ (a : Addr) (d : FuncData), PySem.W.nsIn K mainGlobals "made_of" = some (some (.ref a)) ∧ Fun K "made_of" "made_of" s_made_of a d)
    (df_made_with : ∃ (a : Addr) (d : FuncData), PySem.W.nsIn K mainGlobals "made_with" = some (some (.ref a)) ∧ Fun K "made_with" "made_with" s_made_with a d)
    (df_chained : ∃ (a : Addr) (d : FuncData), PySem.W.nsIn K mainGlobals "chained" = some (some (.ref a)) ∧ Fun K "chained" "chained" s_chained a d)
    (df_chain_tells : ∃ (a : Addr) (d : FuncData), PySem.W.nsIn K mainGlobals "chain_tells" = some (some (.ref a)) ∧ Fun K "chain_tells" "chain_tells" s_chain_tells a d)
    (df_check_tricks : ∃ (a : Addr) (d : FuncData), PySem.W.nsIn K mainGlobals "check_tricks" = some (some (.ref a)) ∧ Fun K "check_tricks" "check_tricks" s_check_tricks a d)
    (df_check_chain : ∃ (a : Addr) (d : FuncData), PySem.W.nsIn K mainGlobals "check_chain" = some (some (.ref a)) ∧ Fun K "check_chain" "check_chain" s_check_chain a d)
    (df_made_of_all : ∃ (a : Addr) (d : FuncData), PySem.W.nsIn K mainGlobals "made_of_all" = some (some (.ref a)) ∧ Fun K "made_of_all" "made_of_all" s_made_of_all a d)
    (df_blocks_product : ∃ (a : Addr) (d : FuncData), PySem.W.nsIn K mainGlobals "blocks_product" = some (some (.ref a)) ∧ Fun K "blocks_product" "blocks_product" s_blocks_product a d)
    (df_rest_pairs : ∃ (a : Addr) (d : FuncData), PySem.W.nsIn K mainGlobals "rest_pairs" = some (some (.ref a)) ∧ Fun K "rest_pairs" "rest_pairs" s_rest_pairs a d)
    (df_tells : ∃ (a : Addr) (d : FuncData), PySem.W.nsIn K mainGlobals "tells" = some (some (.ref a)) ∧ Fun K "tells" "tells" s_tells a d)
    (df_keeps_rest : ∃ (a : Addr) (d : FuncData), PySem.W.nsIn K mainGlobals "keeps_rest" = some (some (.ref a)) ∧ Fun K "keeps_rest" "keeps_rest" s_keeps_rest a d)
    (df_tells_multiples : ∃ (a : Addr) (d : FuncData), PySem.W.nsIn K mainGlobals "tells_multiples" = some (some (.ref a)) ∧ Fun K "tells_multiples" "tells_multiples" s_tells_multiples a d)
    (df_front_states : ∃ (a : Addr) (d : FuncData), PySem.W.nsIn K mainGlobals "front_states" = some (some (.ref a)) ∧ Fun K "front_states" "front_states" s_front_states a d)
    (df_front_classes : ∃ (a : Addr) (d : FuncData), PySem.W.nsIn K mainGlobals "front_classes" = some (some (.ref a)) ∧ Fun K "front_classes" "front_classes" s_front_classes a d)
    (df_front_word : ∃ (a : Addr) (d : FuncData), PySem.W.nsIn K mainGlobals "front_word" = some (some (.ref a)) ∧ Fun K "front_word" "front_word" s_front_word a d)
    (df_check_labels : ∃ (a : Addr) (d : FuncData), PySem.W.nsIn K mainGlobals "check_labels" = some (some (.ref a)) ∧ Fun K "check_labels" "check_labels" s_check_labels a d)
    (df_check_rest : ∃ (a : Addr) (d : FuncData), PySem.W.nsIn K mainGlobals "check_rest" = some (some (.ref a)) ∧ Fun K "check_rest" "check_rest" s_check_rest a d)
    (df_front_machine : ∃ (a : Addr) (d : FuncData), PySem.W.nsIn K mainGlobals "front_machine" = some (some (.ref a)) ∧ Fun K "front_machine" "front_machine" s_front_machine a d)
    (df_classes : ∃ (a : Addr) (d : FuncData), PySem.W.nsIn K mainGlobals "classes" = some (some (.ref a)) ∧ Fun K "classes" "classes" s_classes a d)
    (df_numbered : ∃ (a : Addr) (d : FuncData), PySem.W.nsIn K mainGlobals "numbered" = some (some (.ref a)) ∧ Fun K "numbered" "numbered" s_numbered a d)
    (df_least_word : ∃ (a : Addr) (d : FuncData), PySem.W.nsIn K mainGlobals "least_word" = some (some (.ref a)) ∧ Fun K "least_word" "least_word" s_least_word a d)
    (df_total : ∃ (a : Addr) (d : FuncData), PySem.W.nsIn K mainGlobals "total" = some (some (.ref a)) ∧ Fun K "total" "total" s_total a d)
    (df_check_weights : ∃ (a : Addr) (d : FuncData), PySem.W.nsIn K mainGlobals "check_weights" = some (some (.ref a)) ∧ Fun K "check_weights" "check_weights" s_check_weights a d)
    (df_check_sum : ∃ (a : Addr) (d : FuncData), PySem.W.nsIn K mainGlobals "check_sum" = some (some (.ref a)) ∧ Fun K "check_sum" "check_sum" s_check_sum a d)
    (df_sum_block : ∃ (a : Addr) (d : FuncData), PySem.W.nsIn K mainGlobals "sum_block" = some (some (.ref a)) ∧ Fun K "sum_block" "sum_block" s_sum_block a d)
    (df_weight_at : ∃ (a : Addr) (d : FuncData), PySem.W.nsIn K mainGlobals "weight_at" = some (some (.ref a)) ∧ Fun K "weight_at" "weight_at" s_weight_at a d)
    (df_read : ∃ (a : Addr) (d : FuncData), PySem.W.nsIn K mainGlobals "read" = some (some (.ref a)) ∧ Fun K "read" "read" s_read a d)
    (df_possible_words : ∃ (a : Addr) (d : FuncData), PySem.W.nsIn K mainGlobals "possible_words" = some (some (.ref a)) ∧ Fun K "possible_words" "possible_words" s_possible_words a d)
    (df_written : ∃ (a : Addr) (d : FuncData), PySem.W.nsIn K mainGlobals "written" = some (some (.ref a)) ∧ Fun K "written" "written" s_written a d)
    (df_fitting : ∃ (a : Addr) (d : FuncData), PySem.W.nsIn K mainGlobals "fitting" = some (some (.ref a)) ∧ Fun K "fitting" "fitting" s_fitting a d)
    (df_check_pairs : ∃ (a : Addr) (d : FuncData), PySem.W.nsIn K mainGlobals "check_pairs" = some (some (.ref a)) ∧ Fun K "check_pairs" "check_pairs" s_check_pairs a d)
    (df_is_pair : ∃ (a : Addr) (d : FuncData), PySem.W.nsIn K mainGlobals "is_pair" = some (some (.ref a)) ∧ Fun K "is_pair" "is_pair" s_is_pair a d)
    (df_fitting_times : ∃ (a : Addr) (d : FuncData), PySem.W.nsIn K mainGlobals "fitting_times" = some (some (.ref a)) ∧ Fun K "fitting_times" "fitting_times" s_fitting_times a d)
    (df__law_taken : ∃ (a : Addr) (d : FuncData), PySem.W.nsIn K mainGlobals "_law_taken" = some (some (.ref a)) ∧ Fun K "_law_taken" "_law_taken" s__law_taken a d)
    (df__law_call : ∃ (a : Addr) (d : FuncData), PySem.W.nsIn K mainGlobals "_law_call" = some (some (.ref a)) ∧ Fun K "_law_call" "_law_call" s__law_call a d)
    (df__law_early : ∃ (a : Addr) (d : FuncData), PySem.W.nsIn K mainGlobals "_law_early" = some (some (.ref a)) ∧ Fun K "_law_early" "_law_early" s__law_early a d)
    (df__law_first : ∃ (a : Addr) (d : FuncData), PySem.W.nsIn K mainGlobals "_law_first" = some (some (.ref a)) ∧ Fun K "_law_first" "_law_first" s__law_first a d)
    (df__law_second : ∃ (a : Addr) (d : FuncData), PySem.W.nsIn K mainGlobals "_law_second" = some (some (.ref a)) ∧ Fun K "_law_second" "_law_second" s__law_second a d)
    (gf_law : PySem.W.nsIn K mainGlobals "law" = some (some (.ref a_law)))
    (l_law : K.lookup a_law = some ⟨oc_law, od_law, .func (PySem.W.fnOf "law" "law" (defArgs s_law) (defBody s_law) (defScope s_law) .none kV_law dc_law pm_law an_law cd_law ct_law), sl_law⟩)
    (c_law : PySem.W.codeIn K cd_law "law" = true)
    (kp_law : PySem.W.keepIn K (.ref a_law) = true)
    (gx_Trick : PySem.W.nsIn K mainGlobals "Trick" = some (some (.ref C_Trick)))
    (pg_Trick : PySem.W.plainGet K C_Trick Str.empty = true)
    (hd_Trick : PySem.W.hasDictIn K C_Trick = true)
    (po_Trick : PySem.W.plainOver K C_Trick = true)
    (sa_Trick : PySem.W.findIn K (.ref C_Trick) "__setattr__" = some (some (.builtin "object.__setattr__")))
    (mk_Trick : PySem.W.makesIn K C_Trick = true)
    (kc_Trick : PySem.W.keepIn K (.ref C_Trick) = true)
    (cc_Trick : PySem.W.findIn K (.ref C_Trick) "__class__" = some (some (.builtin "object.__class__")))
    (mo_Trick : PySem.W.mroIn K C_Trick (.type "object") = some true)
    (sp_cls : PySem.W.specialIn K (.builtin "object.__class__") "__get__" = some (some (.builtin "getset_descriptor.__get__")))
    (tk_cls : PySem.W.takesIn K (.builtin "object.__class__") = some true)
    (ki_Trick_int : PySem.W.kitOne K (.ref C_Trick) (.type "int") = some false)
    (ki_Trick_bool : PySem.W.kitOne K (.ref C_Trick) (.type "bool") = some false)
    (ki_Trick_tuple : PySem.W.kitOne K (.ref C_Trick) (.type "tuple") = some false)
    (ki_Trick_list : PySem.W.kitOne K (.ref C_Trick) (.type "list") = some false)
    (nf_Trick_tuple : PySem.W.subIn K (.type "tuple") (.ref C_Trick) = some false)
    (kis_Trick : PySem.W.kitOne K (.ref C_Trick) (.ref C_Trick) = some true)
    (kin_Trick_int : PySem.W.kitOne K (.type "int") (.ref C_Trick) = some false)
    (kin_Trick_bool : PySem.W.kitOne K (.type "bool") (.ref C_Trick) = some false)
    (kin_Trick_tuple : PySem.W.kitOne K (.type "tuple") (.ref C_Trick) = some false)
    (kin_Trick_list : PySem.W.kitOne K (.type "list") (.ref C_Trick) = some false)
    (kin_Trick_NoneType : PySem.W.kitOne K (.type "NoneType") (.ref C_Trick) = some false)
    (kin_Trick_str : PySem.W.kitOne K (.type "str") (.ref C_Trick) = some false)
    (kin_Trick_dict : PySem.W.kitOne K (.type "dict") (.ref C_Trick) = some false)
    (na_Trick_base : PySem.W.findIn K (.ref C_Trick) "_base" = some none)
    (na_Trick_take : PySem.W.findIn K (.ref C_Trick) "_take" = some none)
    (na_Trick_times : PySem.W.findIn K (.ref C_Trick) "_times" = some none)
    (gf_Trick___init__ : PySem.W.findIn K (.ref C_Trick) "__init__" = some (some (.ref a_Trick___init__)))
    (l_Trick___init__ : K.lookup a_Trick___init__ = some ⟨oc_Trick___init__, od_Trick___init__, .func (PySem.W.fnOf "__init__" "Trick.__init__" (defArgs s_Trick___init__) (defBody s_Trick___init__) (defScope s_Trick___init__) .none kV_Trick___init__ dc_Trick___init__ pm_Trick___init__ an_Trick___init__ cd_Trick___init__ ct_Trick___init__), sl_Trick___init__⟩)
    (c_Trick___init__ : PySem.W.codeIn K cd_Trick___init__ "Trick.__init__" = true)
    (kp_Trick___init__ : PySem.W.keepIn K (.ref a_Trick___init__) = true)
    (isf_Trick___init__ : PySem.W.isFn K (.ref a_Trick___init__) = true)
    (pa_Trick_base : PySem.W.findIn K (.ref C_Trick) "base" = some (some (.ref pr_Trick_base)))
    (pg_Trick_base : PySem.W.specialIn K (.ref pr_Trick_base) "__get__" = some (some (.builtin "property.__get__")))
    (pt_Trick_base : PySem.W.takesIn K (.ref pr_Trick_base) = some true)
    (prr_Trick_base : PySem.W.recIn K pr_Trick_base "property" = some (.ref a_Trick_base :: rs_Trick_base))
    (l_Trick_base : K.lookup a_Trick_base = some ⟨oc_Trick_base, od_Trick_base, .func (PySem.W.fnOf "base" "Trick.base" (defArgs s_Trick_base) (defBody s_Trick_base) (defScope s_Trick_base) .none kV_Trick_base dc_Trick_base pm_Trick_base an_Trick_base cd_Trick_base ct_Trick_base), sl_Trick_base⟩)
    (c_Trick_base : PySem.W.codeIn K cd_Trick_base "Trick.base" = true)
    (kp_Trick_base : PySem.W.keepIn K (.ref a_Trick_base) = true)
    (pa_Trick_take : PySem.W.findIn K (.ref C_Trick) "take" = some (some (.ref pr_Trick_take)))
    (pg_Trick_take : PySem.W.specialIn K (.ref pr_Trick_take) "__get__" = some (some (.builtin "property.__get__")))
    (pt_Trick_take : PySem.W.takesIn K (.ref pr_Trick_take) = some true)
    (prr_Trick_take : PySem.W.recIn K pr_Trick_take "property" = some (.ref a_Trick_take :: rs_Trick_take))
    (l_Trick_take : K.lookup a_Trick_take = some ⟨oc_Trick_take, od_Trick_take, .func (PySem.W.fnOf "take" "Trick.take" (defArgs s_Trick_take) (defBody s_Trick_take) (defScope s_Trick_take) .none kV_Trick_take dc_Trick_take pm_Trick_take an_Trick_take cd_Trick_take ct_Trick_take), sl_Trick_take⟩)
    (c_Trick_take : PySem.W.codeIn K cd_Trick_take "Trick.take" = true)
    (kp_Trick_take : PySem.W.keepIn K (.ref a_Trick_take) = true)
    (pa_Trick_times : PySem.W.findIn K (.ref C_Trick) "times" = some (some (.ref pr_Trick_times)))
    (pg_Trick_times : PySem.W.specialIn K (.ref pr_Trick_times) "__get__" = some (some (.builtin "property.__get__")))
    (pt_Trick_times : PySem.W.takesIn K (.ref pr_Trick_times) = some true)
    (prr_Trick_times : PySem.W.recIn K pr_Trick_times "property" = some (.ref a_Trick_times :: rs_Trick_times))
    (l_Trick_times : K.lookup a_Trick_times = some ⟨oc_Trick_times, od_Trick_times, .func (PySem.W.fnOf "times" "Trick.times" (defArgs s_Trick_times) (defBody s_Trick_times) (defScope s_Trick_times) .none kV_Trick_times dc_Trick_times pm_Trick_times an_Trick_times cd_Trick_times ct_Trick_times), sl_Trick_times⟩)
    (c_Trick_times : PySem.W.codeIn K cd_Trick_times "Trick.times" = true)
    (kp_Trick_times : PySem.W.keepIn K (.ref a_Trick_times) = true)
    (gf_Trick___eq__ : PySem.W.findIn K (.ref C_Trick) "__eq__" = some (some (.ref a_Trick___eq__)))
    (l_Trick___eq__ : K.lookup a_Trick___eq__ = some ⟨oc_Trick___eq__, od_Trick___eq__, .func (PySem.W.fnOf "__eq__" "Trick.__eq__" (defArgs s_Trick___eq__) (defBody s_Trick___eq__) (defScope s_Trick___eq__) .none kV_Trick___eq__ dc_Trick___eq__ pm_Trick___eq__ an_Trick___eq__ cd_Trick___eq__ ct_Trick___eq__), sl_Trick___eq__⟩)
    (c_Trick___eq__ : PySem.W.codeIn K cd_Trick___eq__ "Trick.__eq__" = true)
    (kp_Trick___eq__ : PySem.W.keepIn K (.ref a_Trick___eq__) = true)
    (isf_Trick___eq__ : PySem.W.isFn K (.ref a_Trick___eq__) = true)
    (gx_Sum : PySem.W.nsIn K mainGlobals "Sum" = some (some (.ref C_Sum)))
    (pg_Sum : PySem.W.plainGet K C_Sum Str.empty = true)
    (hd_Sum : PySem.W.hasDictIn K C_Sum = true)
    (po_Sum : PySem.W.plainOver K C_Sum = true)
    (sa_Sum : PySem.W.findIn K (.ref C_Sum) "__setattr__" = some (some (.builtin "object.__setattr__")))
    (mk_Sum : PySem.W.makesIn K C_Sum = true)
    (kc_Sum : PySem.W.keepIn K (.ref C_Sum) = true)
    (cc_Sum : PySem.W.findIn K (.ref C_Sum) "__class__" = some (some (.builtin "object.__class__")))
    (mo_Sum : PySem.W.mroIn K C_Sum (.type "object") = some true)
    (ki_Sum_int : PySem.W.kitOne K (.ref C_Sum) (.type "int") = some false)
    (ki_Sum_bool : PySem.W.kitOne K (.ref C_Sum) (.type "bool") = some false)
    (ki_Sum_tuple : PySem.W.kitOne K (.ref C_Sum) (.type "tuple") = some false)
    (ki_Sum_list : PySem.W.kitOne K (.ref C_Sum) (.type "list") = some false)
    (nf_Sum_tuple : PySem.W.subIn K (.type "tuple") (.ref C_Sum) = some false)
    (kis_Sum : PySem.W.kitOne K (.ref C_Sum) (.ref C_Sum) = some true)
    (kin_Sum_int : PySem.W.kitOne K (.type "int") (.ref C_Sum) = some false)
    (kin_Sum_bool : PySem.W.kitOne K (.type "bool") (.ref C_Sum) = some false)
    (kin_Sum_tuple : PySem.W.kitOne K (.type "tuple") (.ref C_Sum) = some false)
    (kin_Sum_list : PySem.W.kitOne K (.type "list") (.ref C_Sum) = some false)
    (kin_Sum_NoneType : PySem.W.kitOne K (.type "NoneType") (.ref C_Sum) = some false)
    (kin_Sum_str : PySem.W.kitOne K (.type "str") (.ref C_Sum) = some false)
    (kin_Sum_dict : PySem.W.kitOne K (.type "dict") (.ref C_Sum) = some false)
    (na_Sum_base : PySem.W.findIn K (.ref C_Sum) "_base" = some none)
    (na_Sum_first : PySem.W.findIn K (.ref C_Sum) "_first" = some none)
    (na_Sum_loop : PySem.W.findIn K (.ref C_Sum) "_loop" = some none)
    (na_Sum_take : PySem.W.findIn K (.ref C_Sum) "_take" = some none)
    (gf_Sum___init__ : PySem.W.findIn K (.ref C_Sum) "__init__" = some (some (.ref a_Sum___init__)))
    (l_Sum___init__ : K.lookup a_Sum___init__ = some ⟨oc_Sum___init__, od_Sum___init__, .func (PySem.W.fnOf "__init__" "Sum.__init__" (defArgs s_Sum___init__) (defBody s_Sum___init__) (defScope s_Sum___init__) .none kV_Sum___init__ dc_Sum___init__ pm_Sum___init__ an_Sum___init__ cd_Sum___init__ ct_Sum___init__), sl_Sum___init__⟩)
    (c_Sum___init__ : PySem.W.codeIn K cd_Sum___init__ "Sum.__init__" = true)
    (kp_Sum___init__ : PySem.W.keepIn K (.ref a_Sum___init__) = true)
    (isf_Sum___init__ : PySem.W.isFn K (.ref a_Sum___init__) = true)
    (pa_Sum_base : PySem.W.findIn K (.ref C_Sum) "base" = some (some (.ref pr_Sum_base)))
    (pg_Sum_base : PySem.W.specialIn K (.ref pr_Sum_base) "__get__" = some (some (.builtin "property.__get__")))
    (pt_Sum_base : PySem.W.takesIn K (.ref pr_Sum_base) = some true)
    (prr_Sum_base : PySem.W.recIn K pr_Sum_base "property" = some (.ref a_Sum_base :: rs_Sum_base))
    (l_Sum_base : K.lookup a_Sum_base = some ⟨oc_Sum_base, od_Sum_base, .func (PySem.W.fnOf "base" "Sum.base" (defArgs s_Sum_base) (defBody s_Sum_base) (defScope s_Sum_base) .none kV_Sum_base dc_Sum_base pm_Sum_base an_Sum_base cd_Sum_base ct_Sum_base), sl_Sum_base⟩)
    (c_Sum_base : PySem.W.codeIn K cd_Sum_base "Sum.base" = true)
    (kp_Sum_base : PySem.W.keepIn K (.ref a_Sum_base) = true)
    (pa_Sum_take : PySem.W.findIn K (.ref C_Sum) "take" = some (some (.ref pr_Sum_take)))
    (pg_Sum_take : PySem.W.specialIn K (.ref pr_Sum_take) "__get__" = some (some (.builtin "property.__get__")))
    (pt_Sum_take : PySem.W.takesIn K (.ref pr_Sum_take) = some true)
    (prr_Sum_take : PySem.W.recIn K pr_Sum_take "property" = some (.ref a_Sum_take :: rs_Sum_take))
    (l_Sum_take : K.lookup a_Sum_take = some ⟨oc_Sum_take, od_Sum_take, .func (PySem.W.fnOf "take" "Sum.take" (defArgs s_Sum_take) (defBody s_Sum_take) (defScope s_Sum_take) .none kV_Sum_take dc_Sum_take pm_Sum_take an_Sum_take cd_Sum_take ct_Sum_take), sl_Sum_take⟩)
    (c_Sum_take : PySem.W.codeIn K cd_Sum_take "Sum.take" = true)
    (kp_Sum_take : PySem.W.keepIn K (.ref a_Sum_take) = true)
    (pa_Sum_first : PySem.W.findIn K (.ref C_Sum) "first" = some (some (.ref pr_Sum_first)))
    (pg_Sum_first : PySem.W.specialIn K (.ref pr_Sum_first) "__get__" = some (some (.builtin "property.__get__")))
    (pt_Sum_first : PySem.W.takesIn K (.ref pr_Sum_first) = some true)
    (prr_Sum_first : PySem.W.recIn K pr_Sum_first "property" = some (.ref a_Sum_first :: rs_Sum_first))
    (l_Sum_first : K.lookup a_Sum_first = some ⟨oc_Sum_first, od_Sum_first, .func (PySem.W.fnOf "first" "Sum.first" (defArgs s_Sum_first) (defBody s_Sum_first) (defScope s_Sum_first) .none kV_Sum_first dc_Sum_first pm_Sum_first an_Sum_first cd_Sum_first ct_Sum_first), sl_Sum_first⟩)
    (c_Sum_first : PySem.W.codeIn K cd_Sum_first "Sum.first" = true)
    (kp_Sum_first : PySem.W.keepIn K (.ref a_Sum_first) = true)
    (pa_Sum_loop : PySem.W.findIn K (.ref C_Sum) "loop" = some (some (.ref pr_Sum_loop)))
    (pg_Sum_loop : PySem.W.specialIn K (.ref pr_Sum_loop) "__get__" = some (some (.builtin "property.__get__")))
    (pt_Sum_loop : PySem.W.takesIn K (.ref pr_Sum_loop) = some true)
    (prr_Sum_loop : PySem.W.recIn K pr_Sum_loop "property" = some (.ref a_Sum_loop :: rs_Sum_loop))
    (l_Sum_loop : K.lookup a_Sum_loop = some ⟨oc_Sum_loop, od_Sum_loop, .func (PySem.W.fnOf "loop" "Sum.loop" (defArgs s_Sum_loop) (defBody s_Sum_loop) (defScope s_Sum_loop) .none kV_Sum_loop dc_Sum_loop pm_Sum_loop an_Sum_loop cd_Sum_loop ct_Sum_loop), sl_Sum_loop⟩)
    (c_Sum_loop : PySem.W.codeIn K cd_Sum_loop "Sum.loop" = true)
    (kp_Sum_loop : PySem.W.keepIn K (.ref a_Sum_loop) = true)
    (gf_Sum___eq__ : PySem.W.findIn K (.ref C_Sum) "__eq__" = some (some (.ref a_Sum___eq__)))
    (l_Sum___eq__ : K.lookup a_Sum___eq__ = some ⟨oc_Sum___eq__, od_Sum___eq__, .func (PySem.W.fnOf "__eq__" "Sum.__eq__" (defArgs s_Sum___eq__) (defBody s_Sum___eq__) (defScope s_Sum___eq__) .none kV_Sum___eq__ dc_Sum___eq__ pm_Sum___eq__ an_Sum___eq__ cd_Sum___eq__ ct_Sum___eq__), sl_Sum___eq__⟩)
    (c_Sum___eq__ : PySem.W.codeIn K cd_Sum___eq__ "Sum.__eq__" = true)
    (kp_Sum___eq__ : PySem.W.keepIn K (.ref a_Sum___eq__) = true)
    (isf_Sum___eq__ : PySem.W.isFn K (.ref a_Sum___eq__) = true)
    (z_int : PySem.W.nsIn K mainGlobals "int" = some none)
    (z_bool : PySem.W.nsIn K mainGlobals "bool" = some none)
    (z_len : PySem.W.nsIn K mainGlobals "len" = some none)
    (z_range : PySem.W.nsIn K mainGlobals "range" = some none)
    (z_isinstance : PySem.W.nsIn K mainGlobals "isinstance" = some none)
    (z_tuple : PySem.W.nsIn K mainGlobals "tuple" = some none)
    (z_list : PySem.W.nsIn K mainGlobals "list" = some none)
    (z_reversed : PySem.W.nsIn K mainGlobals "reversed" = some none)
    (z_enumerate : PySem.W.nsIn K mainGlobals "enumerate" = some none)
    (z_all : PySem.W.nsIn K mainGlobals "all" = some none)
    (z_min : PySem.W.nsIn K mainGlobals "min" = some none)
    (z_max : PySem.W.nsIn K mainGlobals "max" = some none)
    (z_super : PySem.W.nsIn K mainGlobals "super" = some none)
    (z_str : PySem.W.nsIn K mainGlobals "str" = some none)
    (z_zip : PySem.W.nsIn K mainGlobals "zip" = some none)
    (z_ValueError : PySem.W.nsIn K mainGlobals "ValueError" = some none)
    (xl_BadNumber___init__ : K.lookup C_BadNumber = some (PySem.excClassObj nm_BadNumber___init__ qn_BadNumber___init__ C_BadNumber N_BadNumber___init__ bs_BadNumber___init__ bm_BadNumber___init__ true sn_BadNumber___init__ sub_BadNumber___init__ ab_BadNumber___init__ col_BadNumber___init__ dd_BadNumber___init__ k0_BadNumber___init__ k1_BadNumber___init__ k2_BadNumber___init__ k3_BadNumber___init__ k5_BadNumber___init__ "ValueError.__new__"))
    (xrb_BadNumber___init__ : PySem.HandSPX.refsVE bm_BadNumber___init__ = true)
    (xsa_BadNumber___init__ : PySem.W.findIn K (.ref C_BadNumber) "__setattr__" = some (some (.builtin "object.__setattr__")))
    (xga_BadNumber___init__ : PySem.W.findIn K (.ref C_BadNumber) "__getattribute__" = some (some (.builtin "BaseException.__getattribute__")))
    (xgg_BadNumber___init__ : PySem.W.findIn K (.ref C_BadNumber) "__getattr__" = some none)
    (xnf_BadNumber___init__ : PySem.W.findIn K (.ref C_BadNumber) "n" = some none)
    (xic_BadNumber___init__ : PySem.W.findIn K (.ref C_BadNumber) "__init__" = some (some (.ref a_BadNumber___init__)))
    (xtc_BadNumber___init__ : PySem.W.typeIn K (.ref a_BadNumber___init__) = some (.type "function"))
    (xhd_BadNumber___init__ : PySem.W.hasDictIn K C_BadNumber = true)
    (xup_BadNumber___init__ : PySem.W.ks_superIn K C_BadNumber C_BadNumber "__init__" = some (some (.builtin "ValueError.__init__")))
    (xan_BadNumber___init__ : PySem.W.nsIn K PySem.cStatics "thirdparty.any" = some none)
    (xve_BadNumber___init__ : PySem.W.subIn K (.ref C_BadNumber) (.type "ValueError") = some true)
    (xow_BadNumber___init__ : PySem.W.mroIn K C_BadNumber (.ref C_BadNumber) = some true)
    (rmn_BadNumber___init__ : (l.prog.main.scope.names.lookup ("super" : Str)).isSome = false)
    (xfn_BadNumber___init__ : K.lookup a_BadNumber___init__ = some ⟨oc_BadNumber___init__, od_BadNumber___init__, .func (PySem.W.ksFn "__init__" "BadNumber.__init__" (defArgs s_BadNumber___init__) (defBody s_BadNumber___init__) (defScope s_BadNumber___init__) .none .none dc_BadNumber___init__ pm_BadNumber___init__ an_BadNumber___init__ (.ref cda_BadNumber___init__) ct_BadNumber___init__ cc_BadNumber___init__), sl_BadNumber___init__⟩)
    (xco_BadNumber___init__ : PySem.W.codeIn K (.ref cda_BadNumber___init__) "BadNumber.__init__" = true)
    (xcd_BadNumber___init__ : K.lookup cda_BadNumber___init__ = some ⟨ccl_BadNumber___init__, cdd_BadNumber___init__, .fields vs_BadNumber___init__, ccs_BadNumber___init__⟩)
    (rvs_BadNumber___init__ : vs_BadNumber___init__[2]? = some (.str file_BadNumber___init__ tf_BadNumber___init__))
    (rfi_BadNumber___init__ : ((l.prog.main.file : Str) == file_BadNumber___init__) = true)
    (xcc_BadNumber___init__ : K.lookup cc_BadNumber___init__ = some ⟨cl_BadNumber___init__, cld_BadNumber___init__, .cell (some (.ref C_BadNumber)), csl_BadNumber___init__⟩)
    (xl_BadFigures___init__ : K.lookup C_BadFigures = some (PySem.excClassObj nm_BadFigures___init__ qn_BadFigures___init__ C_BadFigures N_BadFigures___init__ bs_BadFigures___init__ bm_BadFigures___init__ true sn_BadFigures___init__ sub_BadFigures___init__ ab_BadFigures___init__ col_BadFigures___init__ dd_BadFigures___init__ k0_BadFigures___init__ k1_BadFigures___init__ k2_BadFigures___init__ k3_BadFigures___init__ k5_BadFigures___init__ "ValueError.__new__"))
    (xrb_BadFigures___init__ : PySem.HandSPX.refsVE bm_BadFigures___init__ = true)
    (xsa_BadFigures___init__ : PySem.W.findIn K (.ref C_BadFigures) "__setattr__" = some (some (.builtin "object.__setattr__")))
    (xga_BadFigures___init__ : PySem.W.findIn K (.ref C_BadFigures) "__getattribute__" = some (some (.builtin "BaseException.__getattribute__")))
    (xgg_BadFigures___init__ : PySem.W.findIn K (.ref C_BadFigures) "__getattr__" = some none)
    (xnf_BadFigures___init__ : PySem.W.findIn K (.ref C_BadFigures) "index" = some none)
    (xic_BadFigures___init__ : PySem.W.findIn K (.ref C_BadFigures) "__init__" = some (some (.ref a_BadFigures___init__)))
    (xtc_BadFigures___init__ : PySem.W.typeIn K (.ref a_BadFigures___init__) = some (.type "function"))
    (xhd_BadFigures___init__ : PySem.W.hasDictIn K C_BadFigures = true)
    (xup_BadFigures___init__ : PySem.W.ks_superIn K C_BadFigures C_BadFigures "__init__" = some (some (.builtin "ValueError.__init__")))
    (xan_BadFigures___init__ : PySem.W.nsIn K PySem.cStatics "thirdparty.any" = some none)
    (xve_BadFigures___init__ : PySem.W.subIn K (.ref C_BadFigures) (.type "ValueError") = some true)
    (xow_BadFigures___init__ : PySem.W.mroIn K C_BadFigures (.ref C_BadFigures) = some true)
    (rmn_BadFigures___init__ : (l.prog.main.scope.names.lookup ("super" : Str)).isSome = false)
    (xfn_BadFigures___init__ : K.lookup a_BadFigures___init__ = some ⟨oc_BadFigures___init__, od_BadFigures___init__, .func (PySem.W.ksFn "__init__" "BadFigures.__init__" (defArgs s_BadFigures___init__) (defBody s_BadFigures___init__) (defScope s_BadFigures___init__) .none .none dc_BadFigures___init__ pm_BadFigures___init__ an_BadFigures___init__ (.ref cda_BadFigures___init__) ct_BadFigures___init__ cc_BadFigures___init__), sl_BadFigures___init__⟩)
    (xco_BadFigures___init__ : PySem.W.codeIn K (.ref cda_BadFigures___init__) "BadFigures.__init__" = true)
    (xcd_BadFigures___init__ : K.lookup cda_BadFigures___init__ = some ⟨ccl_BadFigures___init__, cdd_BadFigures___init__, .fields vs_BadFigures___init__, ccs_BadFigures___init__⟩)
    (rvs_BadFigures___init__ : vs_BadFigures___init__[2]? = some (.str file_BadFigures___init__ tf_BadFigures___init__))
    (rfi_BadFigures___init__ : ((l.prog.main.file : Str) == file_BadFigures___init__) = true)
    (xcc_BadFigures___init__ : K.lookup cc_BadFigures___init__ = some ⟨cl_BadFigures___init__, cld_BadFigures___init__, .cell (some (.ref C_BadFigures)), csl_BadFigures___init__⟩)
    (xl_BadWeights___init__ : K.lookup C_BadWeights = some (PySem.excClassObj nm_BadWeights___init__ qn_BadWeights___init__ C_BadWeights N_BadWeights___init__ bs_BadWeights___init__ bm_BadWeights___init__ true sn_BadWeights___init__ sub_BadWeights___init__ ab_BadWeights___init__ col_BadWeights___init__ dd_BadWeights___init__ k0_BadWeights___init__ k1_BadWeights___init__ k2_BadWeights___init__ k3_BadWeights___init__ k5_BadWeights___init__ "ValueError.__new__"))
    (xrb_BadWeights___init__ : PySem.HandSPX.refsVE bm_BadWeights___init__ = true)
    (xsa_BadWeights___init__ : PySem.W.findIn K (.ref C_BadWeights) "__setattr__" = some (some (.builtin "object.__setattr__")))
    (xga_BadWeights___init__ : PySem.W.findIn K (.ref C_BadWeights) "__getattribute__" = some (some (.builtin "BaseException.__getattribute__")))
    (xgg_BadWeights___init__ : PySem.W.findIn K (.ref C_BadWeights) "__getattr__" = some none)
    (xnf_BadWeights___init__ : PySem.W.findIn K (.ref C_BadWeights) "index" = some none)
    (xic_BadWeights___init__ : PySem.W.findIn K (.ref C_BadWeights) "__init__" = some (some (.ref a_BadWeights___init__)))
    (xtc_BadWeights___init__ : PySem.W.typeIn K (.ref a_BadWeights___init__) = some (.type "function"))
    (xhd_BadWeights___init__ : PySem.W.hasDictIn K C_BadWeights = true)
    (xup_BadWeights___init__ : PySem.W.ks_superIn K C_BadWeights C_BadWeights "__init__" = some (some (.builtin "ValueError.__init__")))
    (xan_BadWeights___init__ : PySem.W.nsIn K PySem.cStatics "thirdparty.any" = some none)
    (xve_BadWeights___init__ : PySem.W.subIn K (.ref C_BadWeights) (.type "ValueError") = some true)
    (xow_BadWeights___init__ : PySem.W.mroIn K C_BadWeights (.ref C_BadWeights) = some true)
    (rmn_BadWeights___init__ : (l.prog.main.scope.names.lookup ("super" : Str)).isSome = false)
    (xfn_BadWeights___init__ : K.lookup a_BadWeights___init__ = some ⟨oc_BadWeights___init__, od_BadWeights___init__, .func (PySem.W.ksFn "__init__" "BadWeights.__init__" (defArgs s_BadWeights___init__) (defBody s_BadWeights___init__) (defScope s_BadWeights___init__) .none .none dc_BadWeights___init__ pm_BadWeights___init__ an_BadWeights___init__ (.ref cda_BadWeights___init__) ct_BadWeights___init__ cc_BadWeights___init__), sl_BadWeights___init__⟩)
    (xco_BadWeights___init__ : PySem.W.codeIn K (.ref cda_BadWeights___init__) "BadWeights.__init__" = true)
    (xcd_BadWeights___init__ : K.lookup cda_BadWeights___init__ = some ⟨ccl_BadWeights___init__, cdd_BadWeights___init__, .fields vs_BadWeights___init__, ccs_BadWeights___init__⟩)
    (rvs_BadWeights___init__ : vs_BadWeights___init__[2]? = some (.str file_BadWeights___init__ tf_BadWeights___init__))
    (rfi_BadWeights___init__ : ((l.prog.main.file : Str) == file_BadWeights___init__) = true)
    (xcc_BadWeights___init__ : K.lookup cc_BadWeights___init__ = some ⟨cl_BadWeights___init__, cld_BadWeights___init__, .cell (some (.ref C_BadWeights)), csl_BadWeights___init__⟩)
    (xl_BadRests___init__ : K.lookup C_BadRests = some (PySem.excClassObj nm_BadRests___init__ qn_BadRests___init__ C_BadRests N_BadRests___init__ bs_BadRests___init__ bm_BadRests___init__ true sn_BadRests___init__ sub_BadRests___init__ ab_BadRests___init__ col_BadRests___init__ dd_BadRests___init__ k0_BadRests___init__ k1_BadRests___init__ k2_BadRests___init__ k3_BadRests___init__ k5_BadRests___init__ "ValueError.__new__"))
    (xrb_BadRests___init__ : PySem.HandSPX.refsVE bm_BadRests___init__ = true)
    (xsa_BadRests___init__ : PySem.W.findIn K (.ref C_BadRests) "__setattr__" = some (some (.builtin "object.__setattr__")))
    (xga_BadRests___init__ : PySem.W.findIn K (.ref C_BadRests) "__getattribute__" = some (some (.builtin "BaseException.__getattribute__")))
    (xgg_BadRests___init__ : PySem.W.findIn K (.ref C_BadRests) "__getattr__" = some none)
    (xnf_BadRests___init__ : PySem.W.findIn K (.ref C_BadRests) "index" = some none)
    (xic_BadRests___init__ : PySem.W.findIn K (.ref C_BadRests) "__init__" = some (some (.ref a_BadRests___init__)))
    (xtc_BadRests___init__ : PySem.W.typeIn K (.ref a_BadRests___init__) = some (.type "function"))
    (xhd_BadRests___init__ : PySem.W.hasDictIn K C_BadRests = true)
    (xup_BadRests___init__ : PySem.W.ks_superIn K C_BadRests C_BadRests "__init__" = some (some (.builtin "ValueError.__init__")))
    (xan_BadRests___init__ : PySem.W.nsIn K PySem.cStatics "thirdparty.any" = some none)
    (xve_BadRests___init__ : PySem.W.subIn K (.ref C_BadRests) (.type "ValueError") = some true)
    (xow_BadRests___init__ : PySem.W.mroIn K C_BadRests (.ref C_BadRests) = some true)
    (rmn_BadRests___init__ : (l.prog.main.scope.names.lookup ("super" : Str)).isSome = false)
    (xfn_BadRests___init__ : K.lookup a_BadRests___init__ = some ⟨oc_BadRests___init__, od_BadRests___init__, .func (PySem.W.ksFn "__init__" "BadRests.__init__" (defArgs s_BadRests___init__) (defBody s_BadRests___init__) (defScope s_BadRests___init__) .none .none dc_BadRests___init__ pm_BadRests___init__ an_BadRests___init__ (.ref cda_BadRests___init__) ct_BadRests___init__ cc_BadRests___init__), sl_BadRests___init__⟩)
    (xco_BadRests___init__ : PySem.W.codeIn K (.ref cda_BadRests___init__) "BadRests.__init__" = true)
    (xcd_BadRests___init__ : K.lookup cda_BadRests___init__ = some ⟨ccl_BadRests___init__, cdd_BadRests___init__, .fields vs_BadRests___init__, ccs_BadRests___init__⟩)
    (rvs_BadRests___init__ : vs_BadRests___init__[2]? = some (.str file_BadRests___init__ tf_BadRests___init__))
    (rfi_BadRests___init__ : ((l.prog.main.file : Str) == file_BadRests___init__) = true)
    (xcc_BadRests___init__ : K.lookup cc_BadRests___init__ = some ⟨cl_BadRests___init__, cld_BadRests___init__, .cell (some (.ref C_BadRests)), csl_BadRests___init__⟩)
    (xl_BadTricks___init__ : K.lookup C_BadTricks = some (PySem.excClassObj nm_BadTricks___init__ qn_BadTricks___init__ C_BadTricks N_BadTricks___init__ bs_BadTricks___init__ bm_BadTricks___init__ true sn_BadTricks___init__ sub_BadTricks___init__ ab_BadTricks___init__ col_BadTricks___init__ dd_BadTricks___init__ k0_BadTricks___init__ k1_BadTricks___init__ k2_BadTricks___init__ k3_BadTricks___init__ k5_BadTricks___init__ "ValueError.__new__"))
    (xrb_BadTricks___init__ : PySem.HandSPX.refsVE bm_BadTricks___init__ = true)
    (xsa_BadTricks___init__ : PySem.W.findIn K (.ref C_BadTricks) "__setattr__" = some (some (.builtin "object.__setattr__")))
    (xga_BadTricks___init__ : PySem.W.findIn K (.ref C_BadTricks) "__getattribute__" = some (some (.builtin "BaseException.__getattribute__")))
    (xgg_BadTricks___init__ : PySem.W.findIn K (.ref C_BadTricks) "__getattr__" = some none)
    (xnf_BadTricks___init__ : PySem.W.findIn K (.ref C_BadTricks) "index" = some none)
    (xic_BadTricks___init__ : PySem.W.findIn K (.ref C_BadTricks) "__init__" = some (some (.ref a_BadTricks___init__)))
    (xtc_BadTricks___init__ : PySem.W.typeIn K (.ref a_BadTricks___init__) = some (.type "function"))
    (xhd_BadTricks___init__ : PySem.W.hasDictIn K C_BadTricks = true)
    (xup_BadTricks___init__ : PySem.W.ks_superIn K C_BadTricks C_BadTricks "__init__" = some (some (.builtin "ValueError.__init__")))
    (xan_BadTricks___init__ : PySem.W.nsIn K PySem.cStatics "thirdparty.any" = some none)
    (xve_BadTricks___init__ : PySem.W.subIn K (.ref C_BadTricks) (.type "ValueError") = some true)
    (xow_BadTricks___init__ : PySem.W.mroIn K C_BadTricks (.ref C_BadTricks) = some true)
    (rmn_BadTricks___init__ : (l.prog.main.scope.names.lookup ("super" : Str)).isSome = false)
    (xfn_BadTricks___init__ : K.lookup a_BadTricks___init__ = some ⟨oc_BadTricks___init__, od_BadTricks___init__, .func (PySem.W.ksFn "__init__" "BadTricks.__init__" (defArgs s_BadTricks___init__) (defBody s_BadTricks___init__) (defScope s_BadTricks___init__) .none .none dc_BadTricks___init__ pm_BadTricks___init__ an_BadTricks___init__ (.ref cda_BadTricks___init__) ct_BadTricks___init__ cc_BadTricks___init__), sl_BadTricks___init__⟩)
    (xco_BadTricks___init__ : PySem.W.codeIn K (.ref cda_BadTricks___init__) "BadTricks.__init__" = true)
    (xcd_BadTricks___init__ : K.lookup cda_BadTricks___init__ = some ⟨ccl_BadTricks___init__, cdd_BadTricks___init__, .fields vs_BadTricks___init__, ccs_BadTricks___init__⟩)
    (rvs_BadTricks___init__ : vs_BadTricks___init__[2]? = some (.str file_BadTricks___init__ tf_BadTricks___init__))
    (rfi_BadTricks___init__ : ((l.prog.main.file : Str) == file_BadTricks___init__) = true)
    (xcc_BadTricks___init__ : K.lookup cc_BadTricks___init__ = some ⟨cl_BadTricks___init__, cld_BadTricks___init__, .cell (some (.ref C_BadTricks)), csl_BadTricks___init__⟩)
    (xl_BadPairs___init__ : K.lookup C_BadPairs = some (PySem.excClassObj nm_BadPairs___init__ qn_BadPairs___init__ C_BadPairs N_BadPairs___init__ bs_BadPairs___init__ bm_BadPairs___init__ true sn_BadPairs___init__ sub_BadPairs___init__ ab_BadPairs___init__ col_BadPairs___init__ dd_BadPairs___init__ k0_BadPairs___init__ k1_BadPairs___init__ k2_BadPairs___init__ k3_BadPairs___init__ k5_BadPairs___init__ "ValueError.__new__"))
    (xrb_BadPairs___init__ : PySem.HandSPX.refsVE bm_BadPairs___init__ = true)
    (xsa_BadPairs___init__ : PySem.W.findIn K (.ref C_BadPairs) "__setattr__" = some (some (.builtin "object.__setattr__")))
    (xga_BadPairs___init__ : PySem.W.findIn K (.ref C_BadPairs) "__getattribute__" = some (some (.builtin "BaseException.__getattribute__")))
    (xgg_BadPairs___init__ : PySem.W.findIn K (.ref C_BadPairs) "__getattr__" = some none)
    (xnf_BadPairs___init__ : PySem.W.findIn K (.ref C_BadPairs) "index" = some none)
    (xic_BadPairs___init__ : PySem.W.findIn K (.ref C_BadPairs) "__init__" = some (some (.ref a_BadPairs___init__)))
    (xtc_BadPairs___init__ : PySem.W.typeIn K (.ref a_BadPairs___init__) = some (.type "function"))
    (xhd_BadPairs___init__ : PySem.W.hasDictIn K C_BadPairs = true)
    (xup_BadPairs___init__ : PySem.W.ks_superIn K C_BadPairs C_BadPairs "__init__" = some (some (.builtin "ValueError.__init__")))
    (xan_BadPairs___init__ : PySem.W.nsIn K PySem.cStatics "thirdparty.any" = some none)
    (xve_BadPairs___init__ : PySem.W.subIn K (.ref C_BadPairs) (.type "ValueError") = some true)
    (xow_BadPairs___init__ : PySem.W.mroIn K C_BadPairs (.ref C_BadPairs) = some true)
    (rmn_BadPairs___init__ : (l.prog.main.scope.names.lookup ("super" : Str)).isSome = false)
    (xfn_BadPairs___init__ : K.lookup a_BadPairs___init__ = some ⟨oc_BadPairs___init__, od_BadPairs___init__, .func (PySem.W.ksFn "__init__" "BadPairs.__init__" (defArgs s_BadPairs___init__) (defBody s_BadPairs___init__) (defScope s_BadPairs___init__) .none .none dc_BadPairs___init__ pm_BadPairs___init__ an_BadPairs___init__ (.ref cda_BadPairs___init__) ct_BadPairs___init__ cc_BadPairs___init__), sl_BadPairs___init__⟩)
    (xco_BadPairs___init__ : PySem.W.codeIn K (.ref cda_BadPairs___init__) "BadPairs.__init__" = true)
    (xcd_BadPairs___init__ : K.lookup cda_BadPairs___init__ = some ⟨ccl_BadPairs___init__, cdd_BadPairs___init__, .fields vs_BadPairs___init__, ccs_BadPairs___init__⟩)
    (rvs_BadPairs___init__ : vs_BadPairs___init__[2]? = some (.str file_BadPairs___init__ tf_BadPairs___init__))
    (rfi_BadPairs___init__ : ((l.prog.main.file : Str) == file_BadPairs___init__) = true)
    (xcc_BadPairs___init__ : K.lookup cc_BadPairs___init__ = some ⟨cl_BadPairs___init__, cld_BadPairs___init__, .cell (some (.ref C_BadPairs)), csl_BadPairs___init__⟩)
    (xl_TooWide___init__ : K.lookup C_TooWide = some (PySem.excClassObj nm_TooWide___init__ qn_TooWide___init__ C_TooWide N_TooWide___init__ bs_TooWide___init__ bm_TooWide___init__ true sn_TooWide___init__ sub_TooWide___init__ ab_TooWide___init__ col_TooWide___init__ dd_TooWide___init__ k0_TooWide___init__ k1_TooWide___init__ k2_TooWide___init__ k3_TooWide___init__ k5_TooWide___init__ "ValueError.__new__"))
    (xrb_TooWide___init__ : PySem.HandSPX.refsVE bm_TooWide___init__ = true)
    (xsa_TooWide___init__ : PySem.W.findIn K (.ref C_TooWide) "__setattr__" = some (some (.builtin "object.__setattr__")))
    (xga_TooWide___init__ : PySem.W.findIn K (.ref C_TooWide) "__getattribute__" = some (some (.builtin "BaseException.__getattribute__")))
    (xgg_TooWide___init__ : PySem.W.findIn K (.ref C_TooWide) "__getattr__" = some none)
    (xnf_TooWide___init__ : PySem.W.findIn K (.ref C_TooWide) "most" = some none)
    (xic_TooWide___init__ : PySem.W.findIn K (.ref C_TooWide) "__init__" = some (some (.ref a_TooWide___init__)))
    (xtc_TooWide___init__ : PySem.W.typeIn K (.ref a_TooWide___init__) = some (.type "function"))
    (xhd_TooWide___init__ : PySem.W.hasDictIn K C_TooWide = true)
    (xup_TooWide___init__ : PySem.W.ks_superIn K C_TooWide C_TooWide "__init__" = some (some (.builtin "ValueError.__init__")))
    (xan_TooWide___init__ : PySem.W.nsIn K PySem.cStatics "thirdparty.any" = some none)
    (xve_TooWide___init__ : PySem.W.subIn K (.ref C_TooWide) (.type "ValueError") = some true)
    (xow_TooWide___init__ : PySem.W.mroIn K C_TooWide (.ref C_TooWide) = some true)
    (rmn_TooWide___init__ : (l.prog.main.scope.names.lookup ("super" : Str)).isSome = false)
    (xfn_TooWide___init__ : K.lookup a_TooWide___init__ = some ⟨oc_TooWide___init__, od_TooWide___init__, .func (PySem.W.ksFn "__init__" "TooWide.__init__" (defArgs s_TooWide___init__) (defBody s_TooWide___init__) (defScope s_TooWide___init__) .none .none dc_TooWide___init__ pm_TooWide___init__ an_TooWide___init__ (.ref cda_TooWide___init__) ct_TooWide___init__ cc_TooWide___init__), sl_TooWide___init__⟩)
    (xco_TooWide___init__ : PySem.W.codeIn K (.ref cda_TooWide___init__) "TooWide.__init__" = true)
    (xcd_TooWide___init__ : K.lookup cda_TooWide___init__ = some ⟨ccl_TooWide___init__, cdd_TooWide___init__, .fields vs_TooWide___init__, ccs_TooWide___init__⟩)
    (rvs_TooWide___init__ : vs_TooWide___init__[2]? = some (.str file_TooWide___init__ tf_TooWide___init__))
    (rfi_TooWide___init__ : ((l.prog.main.file : Str) == file_TooWide___init__) = true)
    (xcc_TooWide___init__ : K.lookup cc_TooWide___init__ = some ⟨cl_TooWide___init__, cld_TooWide___init__, .cell (some (.ref C_TooWide)), csl_TooWide___init__⟩)
    (xl_InvalidText___init__ : K.lookup C_InvalidText = some (PySem.excClassObj nm_InvalidText___init__ qn_InvalidText___init__ C_InvalidText N_InvalidText___init__ bs_InvalidText___init__ bm_InvalidText___init__ true sn_InvalidText___init__ sub_InvalidText___init__ ab_InvalidText___init__ col_InvalidText___init__ dd_InvalidText___init__ k0_InvalidText___init__ k1_InvalidText___init__ k2_InvalidText___init__ k3_InvalidText___init__ k5_InvalidText___init__ "ValueError.__new__"))
    (xrb_InvalidText___init__ : PySem.HandSPX.refsVE bm_InvalidText___init__ = true)
    (xsa_InvalidText___init__ : PySem.W.findIn K (.ref C_InvalidText) "__setattr__" = some (some (.builtin "object.__setattr__")))
    (xga_InvalidText___init__ : PySem.W.findIn K (.ref C_InvalidText) "__getattribute__" = some (some (.builtin "BaseException.__getattribute__")))
    (xgg_InvalidText___init__ : PySem.W.findIn K (.ref C_InvalidText) "__getattr__" = some none)
    (xnf_InvalidText___init__ : PySem.W.findIn K (.ref C_InvalidText) "word" = some none)
    (xic_InvalidText___init__ : PySem.W.findIn K (.ref C_InvalidText) "__init__" = some (some (.ref a_InvalidText___init__)))
    (xtc_InvalidText___init__ : PySem.W.typeIn K (.ref a_InvalidText___init__) = some (.type "function"))
    (xhd_InvalidText___init__ : PySem.W.hasDictIn K C_InvalidText = true)
    (xup_InvalidText___init__ : PySem.W.ks_superIn K C_InvalidText C_InvalidText "__init__" = some (some (.builtin "ValueError.__init__")))
    (xan_InvalidText___init__ : PySem.W.nsIn K PySem.cStatics "thirdparty.any" = some none)
    (xve_InvalidText___init__ : PySem.W.subIn K (.ref C_InvalidText) (.type "ValueError") = some true)
    (xow_InvalidText___init__ : PySem.W.mroIn K C_InvalidText (.ref C_InvalidText) = some true)
    (rmn_InvalidText___init__ : (l.prog.main.scope.names.lookup ("super" : Str)).isSome = false)
    (xfn_InvalidText___init__ : K.lookup a_InvalidText___init__ = some ⟨oc_InvalidText___init__, od_InvalidText___init__, .func (PySem.W.ksFn "__init__" "InvalidText.__init__" (defArgs s_InvalidText___init__) (defBody s_InvalidText___init__) (defScope s_InvalidText___init__) .none .none dc_InvalidText___init__ pm_InvalidText___init__ an_InvalidText___init__ (.ref cda_InvalidText___init__) ct_InvalidText___init__ cc_InvalidText___init__), sl_InvalidText___init__⟩)
    (xco_InvalidText___init__ : PySem.W.codeIn K (.ref cda_InvalidText___init__) "InvalidText.__init__" = true)
    (xcd_InvalidText___init__ : K.lookup cda_InvalidText___init__ = some ⟨ccl_InvalidText___init__, cdd_InvalidText___init__, .fields vs_InvalidText___init__, ccs_InvalidText___init__⟩)
    (rvs_InvalidText___init__ : vs_InvalidText___init__[2]? = some (.str file_InvalidText___init__ tf_InvalidText___init__))
    (rfi_InvalidText___init__ : ((l.prog.main.file : Str) == file_InvalidText___init__) = true)
    (xcc_InvalidText___init__ : K.lookup cc_InvalidText___init__ = some ⟨cl_InvalidText___init__, cld_InvalidText___init__, .cell (some (.ref C_InvalidText)), csl_InvalidText___init__⟩)
    : ∃ fd : FuncData, (∀ (s : Shared) (v : Value), BindsTo s fd ⟨[v], []⟩ [("_law_script", v)]) ∧ ∀ base : Heap, K.In base → base.Ns mainGlobals mg → FnOk l.prog w K mg base CX0 lv_law fa fd ["_law_script"] (sp_law K) := by
  have e := hfa.symm.trans (PySem.W.mg_of X G gf_law)
  have e2 : a_law = fa := by cases e; rfl
  subst e2
  obtain ⟨a_is_integer, d_is_integer, gf_is_integer, F_is_integer⟩ := df_is_integer
  obtain ⟨a_is_tuple, d_is_tuple, gf_is_tuple, F_is_tuple⟩ := df_is_tuple
  obtain ⟨a_is_list_or_tuple, d_is_list_or_tuple, gf_is_list_or_tuple, F_is_list_or_tuple⟩ := df_is_list_or_tuple
  obtain ⟨a_is_number, d_is_number, gf_is_number, F_is_number⟩ := df_is_number
  obtain ⟨a_first_wrong, d_first_wrong, gf_first_wrong, F_first_wrong⟩ := df_first_wrong
  obtain ⟨a_check_base, d_check_base, gf_check_base, F_check_base⟩ := df_check_base
  obtain ⟨a_check_take, d_check_take, gf_check_take, F_check_take⟩ := df_check_take
  have F_check_divisor : FunD K "check_divisor" "check_divisor" (defArgs s_check_divisor) (defBody s_check_divisor) (defScope s_check_divisor) [.int 100] [] a_check_divisor _ := ⟨⟨_, _, _, _, _, _, _, _, _, _, rfl, l_check_divisor, c_check_divisor, .inr ⟨List.cons_ne_nil _ _, _, _, [.int 100 dt0_check_divisor], _, rfl, ldT_check_divisor, by rw [rdv_check_divisor], (.cons ⟨_, rfl⟩ .nil)⟩, .inl rfl⟩, kp_check_divisor⟩
  obtain ⟨dn0_check_divisor, ro_check_divisor, bo_check_divisor⟩ := F_check_divisor.binds1 (ps := ["d", "greatest"]) 2 1 (List.cons_ne_nil _ _) rfl fun _ _ _ _ _ _ _ us its h1 h2 => match us, its, h1, h2 with | [_, _], [_], _, _ => ⟨_, rfl, rfl⟩
  cases ro_check_divisor
  obtain ⟨ds_check_divisor, rd_check_divisor, bd_check_divisor⟩ := F_check_divisor.binds1 (ps := ["d", "greatest"]) 1 0 (List.cons_ne_nil _ _) rfl fun _ _ _ _ _ _ _ us its h1 h2 => match us, its, h1, h2 with | [_], [_], _, _ => ⟨_, rfl, rfl⟩
  obtain ⟨a_check_stretch, d_check_stretch, gf_check_stretch, F_check_stretch⟩ := df_check_stretch
  obtain ⟨a_check_number, d_check_number, gf_check_number, F_check_number⟩ := df_check_number
  obtain ⟨a_figures, d_figures, gf_figures, F_figures⟩ := df_figures
  obtain ⟨a_number, d_number, gf_number, F_number⟩ := df_number
  obtain ⟨a_check_figures, d_check_figures, gf_check_figures, F_check_figures⟩ := df_check_figures
  obtain ⟨a_block_of, d_block_of, gf_block_of, F_block_of⟩ := df_block_of
  obtain ⟨a_done, d_done, gf_done, F_done⟩ := df_done
  obtain ⟨a_check_trick, d_check_trick, gf_check_trick, F_check_trick⟩ := df_check_trick
  obtain ⟨a_trick_block, d_trick_block, gf_trick_block, F_trick_block⟩ := df_trick_block
  obtain ⟨a_made_of, d_made_of, gf_made_of, F_made_of⟩ := df_made_of
  obtain ⟨a_made_with, d_made_with, gf_made_with, F_made_with⟩ := df_made_with
  obtain ⟨a_chained, d_chained, gf_chained, F_chained⟩ := df_chained
  obtain ⟨a_chain_tells, d_chain_tells, gf_chain_tells, F_chain_tells⟩ := df_chain_tells
  obtain ⟨a_check_tricks, d_check_tricks, gf_check_tricks, F_check_tricks⟩ := df_check_tricks
  obtain ⟨a_check_chain, d_check_chain, gf_check_chain, F_check_chain⟩ := df_check_chain
  obtain ⟨a_made_of_all, d_made_of_all, gf_made_of_all, F_made_of_all⟩ := df_made_of_all
  obtain ⟨a_blocks_product, d_blocks_product, gf_blocks_product, F_blocks_product⟩ := df_blocks_product
  obtain ⟨a_rest_pairs, d_rest_pairs, gf_rest_pairs, F_rest_pairs⟩ := df_rest_pairs
  obtain ⟨a_tells, d_tells, gf_tells, F_tells⟩ := df_tells
  obtain ⟨a_keeps_rest, d_keeps_rest, gf_keeps_rest, F_keeps_rest⟩ := df_keeps_rest
  obtain ⟨a_tells_multiples, d_tells_multiples, gf_tells_multiples, F_tells_multiples⟩ := df_tells_multiples
  obtain ⟨a_front_states, d_front_states, gf_front_states, F_front_states⟩ := df_front_states
  obtain ⟨a_front_classes, d_front_classes, gf_front_classes, F_front_classes⟩ := df_front_classes
  obtain ⟨a_front_word, d_front_word, gf_front_word, F_front_word⟩ := df_front_word
  obtain ⟨a_check_labels, d_check_labels, gf_check_labels, F_check_labels⟩ := df_check_labels
  obtain ⟨a_check_rest, d_check_rest, gf_check_rest, F_check_rest⟩ := df_check_rest
  obtain ⟨a_front_machine, d_front_machine, gf_front_machine, F_front_machine⟩ := df_front_machine
  obtain ⟨a_classes, d_classes, gf_classes, F_classes⟩ := df_classes
  obtain ⟨a_numbered, d_numbered, gf_numbered, F_numbered⟩ := df_numbered
  obtain ⟨a_least_word, d_least_word, gf_least_word, F_least_word⟩ := df_least_word
  obtain ⟨a_total, d_total, gf_total, F_total⟩ := df_total
  obtain ⟨a_check_weights, d_check_weights, gf_check_weights, F_check_weights⟩ := df_check_weights
  obtain ⟨a_check_sum, d_check_sum, gf_check_sum, F_check_sum⟩ := df_check_sum
  obtain ⟨a_sum_block, d_sum_block, gf_sum_block, F_sum_block⟩ := df_sum_block
  obtain ⟨a_weight_at, d_weight_at, gf_weight_at, F_weight_at⟩ := df_weight_at
  obtain ⟨a_read, d_read, gf_read, F_read⟩ := df_read
  obtain ⟨a_possible_words, d_possible_words, gf_possible_words, F_possible_words⟩ := df_possible_words
  obtain ⟨a_written, d_written, gf_written, F_written⟩ := df_written
  obtain ⟨a_fitting, d_fitting, gf_fitting, F_fitting⟩ := df_fitting
  obtain ⟨a_check_pairs, d_check_pairs, gf_check_pairs, F_check_pairs⟩ := df_check_pairs
  obtain ⟨a_is_pair, d_is_pair, gf_is_pair, F_is_pair⟩ := df_is_pair
  obtain ⟨a_fitting_times, d_fitting_times, gf_fitting_times, F_fitting_times⟩ := df_fitting_times
  obtain ⟨a__law_taken, d__law_taken, gf__law_taken, F__law_taken⟩ := df__law_taken
  obtain ⟨a__law_call, d__law_call, gf__law_call, F__law_call⟩ := df__law_call
  obtain ⟨a__law_early, d__law_early, gf__law_early, F__law_early⟩ := df__law_early
  obtain ⟨a__law_first, d__law_first, gf__law_first, F__law_first⟩ := df__law_first
  obtain ⟨a__law_second, d__law_second, gf__law_second, F__law_second⟩ := df__law_second
  refine ⟨PySem.W.fnOf "law" "law" (defArgs s_law) (defBody s_law) (defScope s_law) .none kV_law dc_law pm_law an_law cd_law ct_law, fun s v => .of_eq rfl, fun base _ _ => ?_⟩
  exact ok_law (T :=
    { C_TrickError := C_TrickError,
      g_TrickError := PySem.W.mg_of X G gx_TrickError,
      x_TrickError := x_TrickError,
      k_TrickError := k_TrickError,
      s_TrickError := s_TrickError,
      t_TrickError := t_TrickError,
      hd_TrickError := hd_TrickError,
      C_BadBase := C_BadBase,
      g_BadBase := PySem.W.mg_of X G gx_BadBase,
      x_BadBase := x_BadBase,
      k_BadBase := k_BadBase,
      s_BadBase := s_BadBase,
      t_BadBase := t_BadBase,
      hd_BadBase := hd_BadBase,
      C_BadTake := C_BadTake,
      g_BadTake := PySem.W.mg_of X G gx_BadTake,
      x_BadTake := x_BadTake,
      k_BadTake := k_BadTake,
      s_BadTake := s_BadTake,
      t_BadTake := t_BadTake,
      hd_BadTake := hd_BadTake,
      C_BadTimes := C_BadTimes,
      g_BadTimes := PySem.W.mg_of X G gx_BadTimes,
      x_BadTimes := x_BadTimes,
      k_BadTimes := k_BadTimes,
      s_BadTimes := s_BadTimes,
      t_BadTimes := t_BadTimes,
      hd_BadTimes := hd_BadTimes,
      C_BadTrick := C_BadTrick,
      g_BadTrick := PySem.W.mg_of X G gx_BadTrick,
      x_BadTrick := x_BadTrick,
      k_BadTrick := k_BadTrick,
      s_BadTrick := s_BadTrick,
      t_BadTrick := t_BadTrick,
      hd_BadTrick := hd_BadTrick,
      C_BadDivisor := C_BadDivisor,
      g_BadDivisor := PySem.W.mg_of X G gx_BadDivisor,
      x_BadDivisor := x_BadDivisor,
      k_BadDivisor := k_BadDivisor,
      s_BadDivisor := s_BadDivisor,
      t_BadDivisor := t_BadDivisor,
      hd_BadDivisor := hd_BadDivisor,
      C_BadSum := C_BadSum,
      g_BadSum := PySem.W.mg_of X G gx_BadSum,
      x_BadSum := x_BadSum,
      k_BadSum := k_BadSum,
      s_BadSum := s_BadSum,
      t_BadSum := t_BadSum,
      hd_BadSum := hd_BadSum,
      C_BadRest := C_BadRest,
      g_BadRest := PySem.W.mg_of X G gx_BadRest,
      x_BadRest := x_BadRest,
      k_BadRest := k_BadRest,
      s_BadRest := s_BadRest,
      t_BadRest := t_BadRest,
      hd_BadRest := hd_BadRest,
      C_BadNumber := C_BadNumber,
      g_BadNumber := PySem.W.mg_of X G gx_BadNumber,
      k_BadNumber := k_BadNumber,
      s_BadNumber := s_BadNumber,
      t_BadNumber := t_BadNumber,
      hd_BadNumber := hd_BadNumber,
      C_BadFigures := C_BadFigures,
      g_BadFigures := PySem.W.mg_of X G gx_BadFigures,
      k_BadFigures := k_BadFigures,
      s_BadFigures := s_BadFigures,
      t_BadFigures := t_BadFigures,
      hd_BadFigures := hd_BadFigures,
      C_BadWeights := C_BadWeights,
      g_BadWeights := PySem.W.mg_of X G gx_BadWeights,
      k_BadWeights := k_BadWeights,
      s_BadWeights := s_BadWeights,
      t_BadWeights := t_BadWeights,
      hd_BadWeights := hd_BadWeights,
      C_BadRests := C_BadRests,
      g_BadRests := PySem.W.mg_of X G gx_BadRests,
      k_BadRests := k_BadRests,
      s_BadRests := s_BadRests,
      t_BadRests := t_BadRests,
      hd_BadRests := hd_BadRests,
      C_BadTricks := C_BadTricks,
      g_BadTricks := PySem.W.mg_of X G gx_BadTricks,
      k_BadTricks := k_BadTricks,
      s_BadTricks := s_BadTricks,
      t_BadTricks := t_BadTricks,
      hd_BadTricks := hd_BadTricks,
      C_BadPairs := C_BadPairs,
      g_BadPairs := PySem.W.mg_of X G gx_BadPairs,
      k_BadPairs := k_BadPairs,
      s_BadPairs := s_BadPairs,
      t_BadPairs := t_BadPairs,
      hd_BadPairs := hd_BadPairs,
      C_TooWide := C_TooWide,
      g_TooWide := PySem.W.mg_of X G gx_TooWide,
      k_TooWide := k_TooWide,
      s_TooWide := s_TooWide,
      t_TooWide := t_TooWide,
      hd_TooWide := hd_TooWide,
      C_InvalidText := C_InvalidText,
      g_InvalidText := PySem.W.mg_of X G gx_InvalidText,
      k_InvalidText := k_InvalidText,
      s_InvalidText := s_InvalidText,
      t_InvalidText := t_InvalidText,
      hd_InvalidText := hd_InvalidText,
      xm_TrickError_BadBase := PySem.W.exm_ref s_BadBase hd_BadBase t_BadBase su_TrickError_BadBase,
      xm_TrickError_BadDivisor := PySem.W.exm_ref s_BadDivisor hd_BadDivisor t_BadDivisor su_TrickError_BadDivisor,
      xm_TrickError_BadFigures := PySem.W.exm_ref s_BadFigures hd_BadFigures t_BadFigures su_TrickError_BadFigures,
      xm_TrickError_BadNumber := PySem.W.exm_ref s_BadNumber hd_BadNumber t_BadNumber su_TrickError_BadNumber,
      xm_TrickError_BadPairs := PySem.W.exm_ref s_BadPairs hd_BadPairs t_BadPairs su_TrickError_BadPairs,
      xm_TrickError_BadRest := PySem.W.exm_ref s_BadRest hd_BadRest t_BadRest su_TrickError_BadRest,
      xm_TrickError_BadRests := PySem.W.exm_ref s_BadRests hd_BadRests t_BadRests su_TrickError_BadRests,
      xm_TrickError_BadSum := PySem.W.exm_ref s_BadSum hd_BadSum t_BadSum su_TrickError_BadSum,
      xm_TrickError_BadTake := PySem.W.exm_ref s_BadTake hd_BadTake t_BadTake su_TrickError_BadTake,
      xm_TrickError_BadTimes := PySem.W.exm_ref s_BadTimes hd_BadTimes t_BadTimes su_TrickError_BadTimes,
      xm_TrickError_BadTrick := PySem.W.exm_ref s_BadTrick hd_BadTrick t_BadTrick su_TrickError_BadTrick,
      xm_TrickError_BadTricks := PySem.W.exm_ref s_BadTricks hd_BadTricks t_BadTricks su_TrickError_BadTricks,
      xm_TrickError_BadWeights := PySem.W.exm_ref s_BadWeights hd_BadWeights t_BadWeights su_TrickError_BadWeights,
      xm_TrickError_InvalidText := PySem.W.exm_ref s_InvalidText hd_InvalidText t_InvalidText su_TrickError_InvalidText,
      xm_TrickError_TooWide := PySem.W.exm_ref s_TooWide hd_TooWide t_TooWide su_TrickError_TooWide,
      xm_TrickError_TrickError := PySem.W.exm_ref s_TrickError hd_TrickError t_TrickError su_TrickError_TrickError,
      xm_BadBase_BadBase := PySem.W.exm_ref s_BadBase hd_BadBase t_BadBase su_BadBase_BadBase,
      xm_BadBase_BadDivisor := PySem.W.exm_ref s_BadDivisor hd_BadDivisor t_BadDivisor su_BadBase_BadDivisor,
      xm_BadBase_BadFigures := PySem.W.exm_ref s_BadFigures hd_BadFigures t_BadFigures su_BadBase_BadFigures,
      xm_BadBase_BadNumber := PySem.W.exm_ref s_BadNumber hd_BadNumber t_BadNumber su_BadBase_BadNumber,
      xm_BadBase_BadPairs := PySem.W.exm_ref s_BadPairs hd_BadPairs t_BadPairs su_BadBase_BadPairs,
      xm_BadBase_BadRest := PySem.W.exm_ref s_BadRest hd_BadRest t_BadRest su_BadBase_BadRest,
      xm_BadBase_BadRests := PySem.W.exm_ref s_BadRests hd_BadRests t_BadRests su_BadBase_BadRests,
      xm_BadBase_BadSum := PySem.W.exm_ref s_BadSum hd_BadSum t_BadSum su_BadBase_BadSum,
      xm_BadBase_BadTake := PySem.W.exm_ref s_BadTake hd_BadTake t_BadTake su_BadBase_BadTake,
      xm_BadBase_BadTimes := PySem.W.exm_ref s_BadTimes hd_BadTimes t_BadTimes su_BadBase_BadTimes,
      xm_BadBase_BadTrick := PySem.W.exm_ref s_BadTrick hd_BadTrick t_BadTrick su_BadBase_BadTrick,
      xm_BadBase_BadTricks := PySem.W.exm_ref s_BadTricks hd_BadTricks t_BadTricks su_BadBase_BadTricks,
      xm_BadBase_BadWeights := PySem.W.exm_ref s_BadWeights hd_BadWeights t_BadWeights su_BadBase_BadWeights,
      xm_BadBase_InvalidText := PySem.W.exm_ref s_InvalidText hd_InvalidText t_InvalidText su_BadBase_InvalidText,
      xm_BadBase_TooWide := PySem.W.exm_ref s_TooWide hd_TooWide t_TooWide su_BadBase_TooWide,
      xm_BadBase_TrickError := PySem.W.exm_ref s_TrickError hd_TrickError t_TrickError su_BadBase_TrickError,
      xm_BadTake_BadBase := PySem.W.exm_ref s_BadBase hd_BadBase t_BadBase su_BadTake_BadBase,
      xm_BadTake_BadDivisor := PySem.W.exm_ref s_BadDivisor hd_BadDivisor t_BadDivisor su_BadTake_BadDivisor,
      xm_BadTake_BadFigures := PySem.W.exm_ref s_BadFigures hd_BadFigures t_BadFigures su_BadTake_BadFigures,
      xm_BadTake_BadNumber := PySem.W.exm_ref s_BadNumber hd_BadNumber t_BadNumber su_BadTake_BadNumber,
      xm_BadTake_BadPairs := PySem.W.exm_ref s_BadPairs hd_BadPairs t_BadPairs su_BadTake_BadPairs,
      xm_BadTake_BadRest := PySem.W.exm_ref s_BadRest hd_BadRest t_BadRest su_BadTake_BadRest,
      xm_BadTake_BadRests := PySem.W.exm_ref s_BadRests hd_BadRests t_BadRests su_BadTake_BadRests,
      xm_BadTake_BadSum := PySem.W.exm_ref s_BadSum hd_BadSum t_BadSum su_BadTake_BadSum,
      xm_BadTake_BadTake := PySem.W.exm_ref s_BadTake hd_BadTake t_BadTake su_BadTake_BadTake,
      xm_BadTake_BadTimes := PySem.W.exm_ref s_BadTimes hd_BadTimes t_BadTimes su_BadTake_BadTimes,
      xm_BadTake_BadTrick := PySem.W.exm_ref s_BadTrick hd_BadTrick t_BadTrick su_BadTake_BadTrick,
      xm_BadTake_BadTricks := PySem.W.exm_ref s_BadTricks hd_BadTricks t_BadTricks su_BadTake_BadTricks,
      xm_BadTake_BadWeights := PySem.W.exm_ref s_BadWeights hd_BadWeights t_BadWeights su_BadTake_BadWeights,
      xm_BadTake_InvalidText := PySem.W.exm_ref s_InvalidText hd_InvalidText t_InvalidText su_BadTake_InvalidText,
      xm_BadTake_TooWide := PySem.W.exm_ref s_TooWide hd_TooWide t_TooWide su_BadTake_TooWide,
      xm_BadTake_TrickError := PySem.W.exm_ref s_TrickError hd_TrickError t_TrickError su_BadTake_TrickError,
      xm_BadTimes_BadBase := PySem.W.exm_ref s_BadBase hd_BadBase t_BadBase su_BadTimes_BadBase,
      xm_BadTimes_BadDivisor := PySem.W.exm_ref s_BadDivisor hd_BadDivisor t_BadDivisor su_BadTimes_BadDivisor,
      xm_BadTimes_BadFigures := PySem.W.exm_ref s_BadFigures hd_BadFigures t_BadFigures su_BadTimes_BadFigures,
      xm_BadTimes_BadNumber := PySem.W.exm_ref s_BadNumber hd_BadNumber t_BadNumber su_BadTimes_BadNumber,
      xm_BadTimes_BadPairs := PySem.W.exm_ref s_BadPairs hd_BadPairs t_BadPairs su_BadTimes_BadPairs,
      xm_BadTimes_BadRest := PySem.W.exm_ref s_BadRest hd_BadRest t_BadRest su_BadTimes_BadRest,
      xm_BadTimes_BadRests := PySem.W.exm_ref s_BadRests hd_BadRests t_BadRests su_BadTimes_BadRests,
      xm_BadTimes_BadSum := PySem.W.exm_ref s_BadSum hd_BadSum t_BadSum su_BadTimes_BadSum,
      xm_BadTimes_BadTake := PySem.W.exm_ref s_BadTake hd_BadTake t_BadTake su_BadTimes_BadTake,
      xm_BadTimes_BadTimes := PySem.W.exm_ref s_BadTimes hd_BadTimes t_BadTimes su_BadTimes_BadTimes,
      xm_BadTimes_BadTrick := PySem.W.exm_ref s_BadTrick hd_BadTrick t_BadTrick su_BadTimes_BadTrick,
      xm_BadTimes_BadTricks := PySem.W.exm_ref s_BadTricks hd_BadTricks t_BadTricks su_BadTimes_BadTricks,
      xm_BadTimes_BadWeights := PySem.W.exm_ref s_BadWeights hd_BadWeights t_BadWeights su_BadTimes_BadWeights,
      xm_BadTimes_InvalidText := PySem.W.exm_ref s_InvalidText hd_InvalidText t_InvalidText su_BadTimes_InvalidText,
      xm_BadTimes_TooWide := PySem.W.exm_ref s_TooWide hd_TooWide t_TooWide su_BadTimes_TooWide,
      xm_BadTimes_TrickError := PySem.W.exm_ref s_TrickError hd_TrickError t_TrickError su_BadTimes_TrickError,
      xm_BadTrick_BadBase := PySem.W.exm_ref s_BadBase hd_BadBase t_BadBase su_BadTrick_BadBase,
      xm_BadTrick_BadDivisor := PySem.W.exm_ref s_BadDivisor hd_BadDivisor t_BadDivisor su_BadTrick_BadDivisor,
      xm_BadTrick_BadFigures := PySem.W.exm_ref s_BadFigures hd_BadFigures t_BadFigures su_BadTrick_BadFigures,
      xm_BadTrick_BadNumber := PySem.W.exm_ref s_BadNumber hd_BadNumber t_BadNumber su_BadTrick_BadNumber,
      xm_BadTrick_BadPairs := PySem.W.exm_ref s_BadPairs hd_BadPairs t_BadPairs su_BadTrick_BadPairs,
      xm_BadTrick_BadRest := PySem.W.exm_ref s_BadRest hd_BadRest t_BadRest su_BadTrick_BadRest,
      xm_BadTrick_BadRests := PySem.W.exm_ref s_BadRests hd_BadRests t_BadRests su_BadTrick_BadRests,
      xm_BadTrick_BadSum := PySem.W.exm_ref s_BadSum hd_BadSum t_BadSum su_BadTrick_BadSum,
      xm_BadTrick_BadTake := PySem.W.exm_ref s_BadTake hd_BadTake t_BadTake su_BadTrick_BadTake,
      xm_BadTrick_BadTimes := PySem.W.exm_ref s_BadTimes hd_BadTimes t_BadTimes su_BadTrick_BadTimes,
      xm_BadTrick_BadTrick := PySem.W.exm_ref s_BadTrick hd_BadTrick t_BadTrick su_BadTrick_BadTrick,
      xm_BadTrick_BadTricks := PySem.W.exm_ref s_BadTricks hd_BadTricks t_BadTricks su_BadTrick_BadTricks,
      xm_BadTrick_BadWeights := PySem.W.exm_ref s_BadWeights hd_BadWeights t_BadWeights su_BadTrick_BadWeights,
      xm_BadTrick_InvalidText := PySem.W.exm_ref s_InvalidText hd_InvalidText t_InvalidText su_BadTrick_InvalidText,
      xm_BadTrick_TooWide := PySem.W.exm_ref s_TooWide hd_TooWide t_TooWide su_BadTrick_TooWide,
      xm_BadTrick_TrickError := PySem.W.exm_ref s_TrickError hd_TrickError t_TrickError su_BadTrick_TrickError,
      xm_BadDivisor_BadBase := PySem.W.exm_ref s_BadBase hd_BadBase t_BadBase su_BadDivisor_BadBase,
      xm_BadDivisor_BadDivisor := PySem.W.exm_ref s_BadDivisor hd_BadDivisor t_BadDivisor su_BadDivisor_BadDivisor,
      xm_BadDivisor_BadFigures := PySem.W.exm_ref s_BadFigures hd_BadFigures t_BadFigures su_BadDivisor_BadFigures,
      xm_BadDivisor_BadNumber := PySem.W.exm_ref s_BadNumber hd_BadNumber t_BadNumber su_BadDivisor_BadNumber,
      xm_BadDivisor_BadPairs := PySem.W.exm_ref s_BadPairs hd_BadPairs t_BadPairs su_BadDivisor_BadPairs,
      xm_BadDivisor_BadRest := PySem.W.exm_ref s_BadRest hd_BadRest t_BadRest su_BadDivisor_BadRest,
      xm_BadDivisor_BadRests := PySem.W.exm_ref s_BadRests hd_BadRests t_BadRests su_BadDivisor_BadRests,
      xm_BadDivisor_BadSum := PySem.W.exm_ref s_BadSum hd_BadSum t_BadSum su_BadDivisor_BadSum,
      xm_BadDivisor_BadTake := PySem.W.exm_ref s_BadTake hd_BadTake t_BadTake su_BadDivisor_BadTake,
      xm_BadDivisor_BadTimes := PySem.W.exm_ref s_BadTimes hd_BadTimes t_BadTimes su_BadDivisor_BadTimes,
      xm_BadDivisor_BadTrick := PySem.W.exm_ref s_BadTrick hd_BadTrick t_BadTrick su_BadDivisor_BadTrick,
      xm_BadDivisor_BadTricks := PySem.W.exm_ref s_BadTricks hd_BadTricks t_BadTricks su_BadDivisor_BadTricks,
      xm_BadDivisor_BadWeights := PySem.W.exm_ref s_BadWeights hd_BadWeights t_BadWeights su_BadDivisor_BadWeights,
      xm_BadDivisor_InvalidText := PySem.W.exm_ref s_InvalidText hd_InvalidText t_InvalidText su_BadDivisor_InvalidText,
      xm_BadDivisor_TooWide := PySem.W.exm_ref s_TooWide hd_TooWide t_TooWide su_BadDivisor_TooWide,
      xm_BadDivisor_TrickError := PySem.W.exm_ref s_TrickError hd_TrickError t_TrickError su_BadDivisor_TrickError,
      xm_BadSum_BadBase := PySem.W.exm_ref s_BadBase hd_BadBase t_BadBase su_BadSum_BadBase,
      xm_BadSum_BadDivisor := PySem.W.exm_ref s_BadDivisor hd_BadDivisor t_BadDivisor su_BadSum_BadDivisor,
      xm_BadSum_BadFigures := PySem.W.exm_ref s_BadFigures hd_BadFigures t_BadFigures su_BadSum_BadFigures,
      xm_BadSum_BadNumber := PySem.W.exm_ref s_BadNumber hd_BadNumber t_BadNumber su_BadSum_BadNumber,
      xm_BadSum_BadPairs := PySem.W.exm_ref s_BadPairs hd_BadPairs t_BadPairs su_BadSum_BadPairs,
      xm_BadSum_BadRest := PySem.W.exm_ref s_BadRest hd_BadRest t_BadRest su_BadSum_BadRest,
      xm_BadSum_BadRests := PySem.W.exm_ref s_BadRests hd_BadRests t_BadRests su_BadSum_BadRests,
      xm_BadSum_BadSum := PySem.W.exm_ref s_BadSum hd_BadSum t_BadSum su_BadSum_BadSum,
      xm_BadSum_BadTake := PySem.W.exm_ref s_BadTake hd_BadTake t_BadTake su_BadSum_BadTake,
      xm_BadSum_BadTimes := PySem.W.exm_ref s_BadTimes hd_BadTimes t_BadTimes su_BadSum_BadTimes,
      xm_BadSum_BadTrick := PySem.W.exm_ref s_BadTrick hd_BadTrick t_BadTrick su_BadSum_BadTrick,
      xm_BadSum_BadTricks := PySem.W.exm_ref s_BadTricks hd_BadTricks t_BadTricks su_BadSum_BadTricks,
      xm_BadSum_BadWeights := PySem.W.exm_ref s_BadWeights hd_BadWeights t_BadWeights su_BadSum_BadWeights,
      xm_BadSum_InvalidText := PySem.W.exm_ref s_InvalidText hd_InvalidText t_InvalidText su_BadSum_InvalidText,
      xm_BadSum_TooWide := PySem.W.exm_ref s_TooWide hd_TooWide t_TooWide su_BadSum_TooWide,
      xm_BadSum_TrickError := PySem.W.exm_ref s_TrickError hd_TrickError t_TrickError su_BadSum_TrickError,
      xm_BadRest_BadBase := PySem.W.exm_ref s_BadBase hd_BadBase t_BadBase su_BadRest_BadBase,
      xm_BadRest_BadDivisor := PySem.W.exm_ref s_BadDivisor hd_BadDivisor t_BadDivisor su_BadRest_BadDivisor,
      xm_BadRest_BadFigures := PySem.W.exm_ref s_BadFigures hd_BadFigures t_BadFigures su_BadRest_BadFigures,
      xm_BadRest_BadNumber := PySem.W.exm_ref s_BadNumber hd_BadNumber t_BadNumber su_BadRest_BadNumber,
      xm_BadRest_BadPairs := PySem.W.exm_ref s_BadPairs hd_BadPairs t_BadPairs su_BadRest_BadPairs,
      xm_BadRest_BadRest := PySem.W.exm_ref s_BadRest hd_BadRest t_BadRest su_BadRest_BadRest,
      xm_BadRest_BadRests := PySem.W.exm_ref s_BadRests hd_BadRests t_BadRests su_BadRest_BadRests,
      xm_BadRest_BadSum := PySem.W.exm_ref s_BadSum hd_BadSum t_BadSum su_BadRest_BadSum,
      xm_BadRest_BadTake := PySem.W.exm_ref s_BadTake hd_BadTake t_BadTake su_BadRest_BadTake,
      xm_BadRest_BadTimes := PySem.W.exm_ref s_BadTimes hd_BadTimes t_BadTimes su_BadRest_BadTimes,
      xm_BadRest_BadTrick := PySem.W.exm_ref s_BadTrick hd_BadTrick t_BadTrick su_BadRest_BadTrick,
      xm_BadRest_BadTricks := PySem.W.exm_ref s_BadTricks hd_BadTricks t_BadTricks su_BadRest_BadTricks,
      xm_BadRest_BadWeights := PySem.W.exm_ref s_BadWeights hd_BadWeights t_BadWeights su_BadRest_BadWeights,
      xm_BadRest_InvalidText := PySem.W.exm_ref s_InvalidText hd_InvalidText t_InvalidText su_BadRest_InvalidText,
      xm_BadRest_TooWide := PySem.W.exm_ref s_TooWide hd_TooWide t_TooWide su_BadRest_TooWide,
      xm_BadRest_TrickError := PySem.W.exm_ref s_TrickError hd_TrickError t_TrickError su_BadRest_TrickError,
      xm_BadNumber_BadBase := PySem.W.exm_ref s_BadBase hd_BadBase t_BadBase su_BadNumber_BadBase,
      xm_BadNumber_BadDivisor := PySem.W.exm_ref s_BadDivisor hd_BadDivisor t_BadDivisor su_BadNumber_BadDivisor,
      xm_BadNumber_BadFigures := PySem.W.exm_ref s_BadFigures hd_BadFigures t_BadFigures su_BadNumber_BadFigures,
      xm_BadNumber_BadNumber := PySem.W.exm_ref s_BadNumber hd_BadNumber t_BadNumber su_BadNumber_BadNumber,
      xm_BadNumber_BadPairs := PySem.W.exm_ref s_BadPairs hd_BadPairs t_BadPairs su_BadNumber_BadPairs,
      xm_BadNumber_BadRest := PySem.W.exm_ref s_BadRest hd_BadRest t_BadRest su_BadNumber_BadRest,
      xm_BadNumber_BadRests := PySem.W.exm_ref s_BadRests hd_BadRests t_BadRests su_BadNumber_BadRests,
      xm_BadNumber_BadSum := PySem.W.exm_ref s_BadSum hd_BadSum t_BadSum su_BadNumber_BadSum,
      xm_BadNumber_BadTake := PySem.W.exm_ref s_BadTake hd_BadTake t_BadTake su_BadNumber_BadTake,
      xm_BadNumber_BadTimes := PySem.W.exm_ref s_BadTimes hd_BadTimes t_BadTimes su_BadNumber_BadTimes,
      xm_BadNumber_BadTrick := PySem.W.exm_ref s_BadTrick hd_BadTrick t_BadTrick su_BadNumber_BadTrick,
      xm_BadNumber_BadTricks := PySem.W.exm_ref s_BadTricks hd_BadTricks t_BadTricks su_BadNumber_BadTricks,
      xm_BadNumber_BadWeights := PySem.W.exm_ref s_BadWeights hd_BadWeights t_BadWeights su_BadNumber_BadWeights,
      xm_BadNumber_InvalidText := PySem.W.exm_ref s_InvalidText hd_InvalidText t_InvalidText su_BadNumber_InvalidText,
      xm_BadNumber_TooWide := PySem.W.exm_ref s_TooWide hd_TooWide t_TooWide su_BadNumber_TooWide,
      xm_BadNumber_TrickError := PySem.W.exm_ref s_TrickError hd_TrickError t_TrickError su_BadNumber_TrickError,
      xm_BadFigures_BadBase := PySem.W.exm_ref s_BadBase hd_BadBase t_BadBase su_BadFigures_BadBase,
      xm_BadFigures_BadDivisor := PySem.W.exm_ref s_BadDivisor hd_BadDivisor t_BadDivisor su_BadFigures_BadDivisor,
      xm_BadFigures_BadFigures := PySem.W.exm_ref s_BadFigures hd_BadFigures t_BadFigures su_BadFigures_BadFigures,
      xm_BadFigures_BadNumber := PySem.W.exm_ref s_BadNumber hd_BadNumber t_BadNumber su_BadFigures_BadNumber,
      xm_BadFigures_BadPairs := PySem.W.exm_ref s_BadPairs hd_BadPairs t_BadPairs su_BadFigures_BadPairs,
      xm_BadFigures_BadRest := PySem.W.exm_ref s_BadRest hd_BadRest t_BadRest su_BadFigures_BadRest,
      xm_BadFigures_BadRests := PySem.W.exm_ref s_BadRests hd_BadRests t_BadRests su_BadFigures_BadRests,
      xm_BadFigures_BadSum := PySem.W.exm_ref s_BadSum hd_BadSum t_BadSum su_BadFigures_BadSum,
      xm_BadFigures_BadTake := PySem.W.exm_ref s_BadTake hd_BadTake t_BadTake su_BadFigures_BadTake,
      xm_BadFigures_BadTimes := PySem.W.exm_ref s_BadTimes hd_BadTimes t_BadTimes su_BadFigures_BadTimes,
      xm_BadFigures_BadTrick := PySem.W.exm_ref s_BadTrick hd_BadTrick t_BadTrick su_BadFigures_BadTrick,
      xm_BadFigures_BadTricks := PySem.W.exm_ref s_BadTricks hd_BadTricks t_BadTricks su_BadFigures_BadTricks,
      xm_BadFigures_BadWeights := PySem.W.exm_ref s_BadWeights hd_BadWeights t_BadWeights su_BadFigures_BadWeights,
      xm_BadFigures_InvalidText := PySem.W.exm_ref s_InvalidText hd_InvalidText t_InvalidText su_BadFigures_InvalidText,
      xm_BadFigures_TooWide := PySem.W.exm_ref s_TooWide hd_TooWide t_TooWide su_BadFigures_TooWide,
      xm_BadFigures_TrickError := PySem.W.exm_ref s_TrickError hd_TrickError t_TrickError su_BadFigures_TrickError,
      xm_BadWeights_BadBase := PySem.W.exm_ref s_BadBase hd_BadBase t_BadBase su_BadWeights_BadBase,
      xm_BadWeights_BadDivisor := PySem.W.exm_ref s_BadDivisor hd_BadDivisor t_BadDivisor su_BadWeights_BadDivisor,
      xm_BadWeights_BadFigures := PySem.W.exm_ref s_BadFigures hd_BadFigures t_BadFigures su_BadWeights_BadFigures,
      xm_BadWeights_BadNumber := PySem.W.exm_ref s_BadNumber hd_BadNumber t_BadNumber su_BadWeights_BadNumber,
      xm_BadWeights_BadPairs := PySem.W.exm_ref s_BadPairs hd_BadPairs t_BadPairs su_BadWeights_BadPairs,
      xm_BadWeights_BadRest := PySem.W.exm_ref s_BadRest hd_BadRest t_BadRest su_BadWeights_BadRest,
      xm_BadWeights_BadRests := PySem.W.exm_ref s_BadRests hd_BadRests t_BadRests su_BadWeights_BadRests,
      xm_BadWeights_BadSum := PySem.W.exm_ref s_BadSum hd_BadSum t_BadSum su_BadWeights_BadSum,
      xm_BadWeights_BadTake := PySem.W.exm_ref s_BadTake hd_BadTake t_BadTake su_BadWeights_BadTake,
      xm_BadWeights_BadTimes := PySem.W.exm_ref s_BadTimes hd_BadTimes t_BadTimes su_BadWeights_BadTimes,
      xm_BadWeights_BadTrick := PySem.W.exm_ref s_BadTrick hd_BadTrick t_BadTrick su_BadWeights_BadTrick,
      xm_BadWeights_BadTricks := PySem.W.exm_ref s_BadTricks hd_BadTricks t_BadTricks su_BadWeights_BadTricks,
      xm_BadWeights_BadWeights := PySem.W.exm_ref s_BadWeights hd_BadWeights t_BadWeights su_BadWeights_BadWeights,
      xm_BadWeights_InvalidText := PySem.W.exm_ref s_InvalidText hd_InvalidText t_InvalidText su_BadWeights_InvalidText,
      xm_BadWeights_TooWide := PySem.W.exm_ref s_TooWide hd_TooWide t_TooWide su_BadWeights_TooWide,
      xm_BadWeights_TrickError := PySem.W.exm_ref s_TrickError hd_TrickError t_TrickError su_BadWeights_TrickError,
      xm_BadRests_BadBase := PySem.W.exm_ref s_BadBase hd_BadBase t_BadBase su_BadRests_BadBase,
      xm_BadRests_BadDivisor := PySem.W.exm_ref s_BadDivisor hd_BadDivisor t_BadDivisor su_BadRests_BadDivisor,
      xm_BadRests_BadFigures := PySem.W.exm_ref s_BadFigures hd_BadFigures t_BadFigures su_BadRests_BadFigures,
      xm_BadRests_BadNumber := PySem.W.exm_ref s_BadNumber hd_BadNumber t_BadNumber su_BadRests_BadNumber,
      xm_BadRests_BadPairs := PySem.W.exm_ref s_BadPairs hd_BadPairs t_BadPairs su_BadRests_BadPairs,
      xm_BadRests_BadRest := PySem.W.exm_ref s_BadRest hd_BadRest t_BadRest su_BadRests_BadRest,
      xm_BadRests_BadRests := PySem.W.exm_ref s_BadRests hd_BadRests t_BadRests su_BadRests_BadRests,
      xm_BadRests_BadSum := PySem.W.exm_ref s_BadSum hd_BadSum t_BadSum su_BadRests_BadSum,
      xm_BadRests_BadTake := PySem.W.exm_ref s_BadTake hd_BadTake t_BadTake su_BadRests_BadTake,
      xm_BadRests_BadTimes := PySem.W.exm_ref s_BadTimes hd_BadTimes t_BadTimes su_BadRests_BadTimes,
      xm_BadRests_BadTrick := PySem.W.exm_ref s_BadTrick hd_BadTrick t_BadTrick su_BadRests_BadTrick,
      xm_BadRests_BadTricks := PySem.W.exm_ref s_BadTricks hd_BadTricks t_BadTricks su_BadRests_BadTricks,
      xm_BadRests_BadWeights := PySem.W.exm_ref s_BadWeights hd_BadWeights t_BadWeights su_BadRests_BadWeights,
      xm_BadRests_InvalidText := PySem.W.exm_ref s_InvalidText hd_InvalidText t_InvalidText su_BadRests_InvalidText,
      xm_BadRests_TooWide := PySem.W.exm_ref s_TooWide hd_TooWide t_TooWide su_BadRests_TooWide,
      xm_BadRests_TrickError := PySem.W.exm_ref s_TrickError hd_TrickError t_TrickError su_BadRests_TrickError,
      xm_BadTricks_BadBase := PySem.W.exm_ref s_BadBase hd_BadBase t_BadBase su_BadTricks_BadBase,
      xm_BadTricks_BadDivisor := PySem.W.exm_ref s_BadDivisor hd_BadDivisor t_BadDivisor su_BadTricks_BadDivisor,
      xm_BadTricks_BadFigures := PySem.W.exm_ref s_BadFigures hd_BadFigures t_BadFigures su_BadTricks_BadFigures,
      xm_BadTricks_BadNumber := PySem.W.exm_ref s_BadNumber hd_BadNumber t_BadNumber su_BadTricks_BadNumber,
      xm_BadTricks_BadPairs := PySem.W.exm_ref s_BadPairs hd_BadPairs t_BadPairs su_BadTricks_BadPairs,
      xm_BadTricks_BadRest := PySem.W.exm_ref s_BadRest hd_BadRest t_BadRest su_BadTricks_BadRest,
      xm_BadTricks_BadRests := PySem.W.exm_ref s_BadRests hd_BadRests t_BadRests su_BadTricks_BadRests,
      xm_BadTricks_BadSum := PySem.W.exm_ref s_BadSum hd_BadSum t_BadSum su_BadTricks_BadSum,
      xm_BadTricks_BadTake := PySem.W.exm_ref s_BadTake hd_BadTake t_BadTake su_BadTricks_BadTake,
      xm_BadTricks_BadTimes := PySem.W.exm_ref s_BadTimes hd_BadTimes t_BadTimes su_BadTricks_BadTimes,
      xm_BadTricks_BadTrick := PySem.W.exm_ref s_BadTrick hd_BadTrick t_BadTrick su_BadTricks_BadTrick,
      xm_BadTricks_BadTricks := PySem.W.exm_ref s_BadTricks hd_BadTricks t_BadTricks su_BadTricks_BadTricks,
      xm_BadTricks_BadWeights := PySem.W.exm_ref s_BadWeights hd_BadWeights t_BadWeights su_BadTricks_BadWeights,
      xm_BadTricks_InvalidText := PySem.W.exm_ref s_InvalidText hd_InvalidText t_InvalidText su_BadTricks_InvalidText,
      xm_BadTricks_TooWide := PySem.W.exm_ref s_TooWide hd_TooWide t_TooWide su_BadTricks_TooWide,
      xm_BadTricks_TrickError := PySem.W.exm_ref s_TrickError hd_TrickError t_TrickError su_BadTricks_TrickError,
      xm_BadPairs_BadBase := PySem.W.exm_ref s_BadBase hd_BadBase t_BadBase su_BadPairs_BadBase,
      xm_BadPairs_BadDivisor := PySem.W.exm_ref s_BadDivisor hd_BadDivisor t_BadDivisor su_BadPairs_BadDivisor,
      xm_BadPairs_BadFigures := PySem.W.exm_ref s_BadFigures hd_BadFigures t_BadFigures su_BadPairs_BadFigures,
      xm_BadPairs_BadNumber := PySem.W.exm_ref s_BadNumber hd_BadNumber t_BadNumber su_BadPairs_BadNumber,
      xm_BadPairs_BadPairs := PySem.W.exm_ref s_BadPairs hd_BadPairs t_BadPairs su_BadPairs_BadPairs,
      xm_BadPairs_BadRest := PySem.W.exm_ref s_BadRest hd_BadRest t_BadRest su_BadPairs_BadRest,
      xm_BadPairs_BadRests := PySem.W.exm_ref s_BadRests hd_BadRests t_BadRests su_BadPairs_BadRests,
      xm_BadPairs_BadSum := PySem.W.exm_ref s_BadSum hd_BadSum t_BadSum su_BadPairs_BadSum,
      xm_BadPairs_BadTake := PySem.W.exm_ref s_BadTake hd_BadTake t_BadTake su_BadPairs_BadTake,
      xm_BadPairs_BadTimes := PySem.W.exm_ref s_BadTimes hd_BadTimes t_BadTimes su_BadPairs_BadTimes,
      xm_BadPairs_BadTrick := PySem.W.exm_ref s_BadTrick hd_BadTrick t_BadTrick su_BadPairs_BadTrick,
      xm_BadPairs_BadTricks := PySem.W.exm_ref s_BadTricks hd_BadTricks t_BadTricks su_BadPairs_BadTricks,
      xm_BadPairs_BadWeights := PySem.W.exm_ref s_BadWeights hd_BadWeights t_BadWeights su_BadPairs_BadWeights,
      xm_BadPairs_InvalidText := PySem.W.exm_ref s_InvalidText hd_InvalidText t_InvalidText su_BadPairs_InvalidText,
      xm_BadPairs_TooWide := PySem.W.exm_ref s_TooWide hd_TooWide t_TooWide su_BadPairs_TooWide,
      xm_BadPairs_TrickError := PySem.W.exm_ref s_TrickError hd_TrickError t_TrickError su_BadPairs_TrickError,
      xm_TooWide_BadBase := PySem.W.exm_ref s_BadBase hd_BadBase t_BadBase su_TooWide_BadBase,
      xm_TooWide_BadDivisor := PySem.W.exm_ref s_BadDivisor hd_BadDivisor t_BadDivisor su_TooWide_BadDivisor,
      xm_TooWide_BadFigures := PySem.W.exm_ref s_BadFigures hd_BadFigures t_BadFigures su_TooWide_BadFigures,
      xm_TooWide_BadNumber := PySem.W.exm_ref s_BadNumber hd_BadNumber t_BadNumber su_TooWide_BadNumber,
      xm_TooWide_BadPairs := PySem.W.exm_ref s_BadPairs hd_BadPairs t_BadPairs su_TooWide_BadPairs,
      xm_TooWide_BadRest := PySem.W.exm_ref s_BadRest hd_BadRest t_BadRest su_TooWide_BadRest,
      xm_TooWide_BadRests := PySem.W.exm_ref s_BadRests hd_BadRests t_BadRests su_TooWide_BadRests,
      xm_TooWide_BadSum := PySem.W.exm_ref s_BadSum hd_BadSum t_BadSum su_TooWide_BadSum,
      xm_TooWide_BadTake := PySem.W.exm_ref s_BadTake hd_BadTake t_BadTake su_TooWide_BadTake,
      xm_TooWide_BadTimes := PySem.W.exm_ref s_BadTimes hd_BadTimes t_BadTimes su_TooWide_BadTimes,
      xm_TooWide_BadTrick := PySem.W.exm_ref s_BadTrick hd_BadTrick t_BadTrick su_TooWide_BadTrick,
      xm_TooWide_BadTricks := PySem.W.exm_ref s_BadTricks hd_BadTricks t_BadTricks su_TooWide_BadTricks,
      xm_TooWide_BadWeights := PySem.W.exm_ref s_BadWeights hd_BadWeights t_BadWeights su_TooWide_BadWeights,
      xm_TooWide_InvalidText := PySem.W.exm_ref s_InvalidText hd_InvalidText t_InvalidText su_TooWide_InvalidText,
      xm_TooWide_TooWide := PySem.W.exm_ref s_TooWide hd_TooWide t_TooWide su_TooWide_TooWide,
      xm_TooWide_TrickError := PySem.W.exm_ref s_TrickError hd_TrickError t_TrickError su_TooWide_TrickError,
      xm_InvalidText_BadBase := PySem.W.exm_ref s_BadBase hd_BadBase t_BadBase su_InvalidText_BadBase,
      xm_InvalidText_BadDivisor := PySem.W.exm_ref s_BadDivisor hd_BadDivisor t_BadDivisor su_InvalidText_BadDivisor,
      xm_InvalidText_BadFigures := PySem.W.exm_ref s_BadFigures hd_BadFigures t_BadFigures su_InvalidText_BadFigures,
      xm_InvalidText_BadNumber := PySem.W.exm_ref s_BadNumber hd_BadNumber t_BadNumber su_InvalidText_BadNumber,
      xm_InvalidText_BadPairs := PySem.W.exm_ref s_BadPairs hd_BadPairs t_BadPairs su_InvalidText_BadPairs,
      xm_InvalidText_BadRest := PySem.W.exm_ref s_BadRest hd_BadRest t_BadRest su_InvalidText_BadRest,
      xm_InvalidText_BadRests := PySem.W.exm_ref s_BadRests hd_BadRests t_BadRests su_InvalidText_BadRests,
      xm_InvalidText_BadSum := PySem.W.exm_ref s_BadSum hd_BadSum t_BadSum su_InvalidText_BadSum,
      xm_InvalidText_BadTake := PySem.W.exm_ref s_BadTake hd_BadTake t_BadTake su_InvalidText_BadTake,
      xm_InvalidText_BadTimes := PySem.W.exm_ref s_BadTimes hd_BadTimes t_BadTimes su_InvalidText_BadTimes,
      xm_InvalidText_BadTrick := PySem.W.exm_ref s_BadTrick hd_BadTrick t_BadTrick su_InvalidText_BadTrick,
      xm_InvalidText_BadTricks := PySem.W.exm_ref s_BadTricks hd_BadTricks t_BadTricks su_InvalidText_BadTricks,
      xm_InvalidText_BadWeights := PySem.W.exm_ref s_BadWeights hd_BadWeights t_BadWeights su_InvalidText_BadWeights,
      xm_InvalidText_InvalidText := PySem.W.exm_ref s_InvalidText hd_InvalidText t_InvalidText su_InvalidText_InvalidText,
      xm_InvalidText_TooWide := PySem.W.exm_ref s_TooWide hd_TooWide t_TooWide su_InvalidText_TooWide,
      xm_InvalidText_TrickError := PySem.W.exm_ref s_TrickError hd_TrickError t_TrickError su_InvalidText_TrickError,
      t_c_GREATEST_NUMBER := tk_GREATEST_NUMBER,
      c_GREATEST_NUMBER := PySem.W.mg_of X G cx_GREATEST_NUMBER,
      t_c_LEAST_BASE := tk_LEAST_BASE,
      c_LEAST_BASE := PySem.W.mg_of X G cx_LEAST_BASE,
      t_c_GREATEST_BASE := tk_GREATEST_BASE,
      c_GREATEST_BASE := PySem.W.mg_of X G cx_GREATEST_BASE,
      t_c_GREATEST_TAKE := tk_GREATEST_TAKE,
      c_GREATEST_TAKE := PySem.W.mg_of X G cx_GREATEST_TAKE,
      t_c_GREATEST_DIVISOR := tk_GREATEST_DIVISOR,
      c_GREATEST_DIVISOR := PySem.W.mg_of X G cx_GREATEST_DIVISOR,
      t_c_MOST_FIGURES := tk_MOST_FIGURES,
      c_MOST_FIGURES := PySem.W.mg_of X G cx_MOST_FIGURES,
      t_c_GREATEST_TIMES := tk_GREATEST_TIMES,
      c_GREATEST_TIMES := PySem.W.mg_of X G cx_GREATEST_TIMES,
      t_c_MOST_TRICKS := tk_MOST_TRICKS,
      c_MOST_TRICKS := PySem.W.mg_of X G cx_MOST_TRICKS,
      t_c_GREATEST_CHAIN_DIVISOR := tk_GREATEST_CHAIN_DIVISOR,
      c_GREATEST_CHAIN_DIVISOR := PySem.W.mg_of X G cx_GREATEST_CHAIN_DIVISOR,
      t_c_GREATEST_PRODUCT := tk_GREATEST_PRODUCT,
      c_GREATEST_PRODUCT := PySem.W.mg_of X G cx_GREATEST_PRODUCT,
      t_c_MOST_LABELS := tk_MOST_LABELS,
      c_MOST_LABELS := PySem.W.mg_of X G cx_MOST_LABELS,
      t_c_GREATEST_LABEL := tk_GREATEST_LABEL,
      c_GREATEST_LABEL := PySem.W.mg_of X G cx_GREATEST_LABEL,
      t_c_GREATEST_WEIGHT := tk_GREATEST_WEIGHT,
      c_GREATEST_WEIGHT := PySem.W.mg_of X G cx_GREATEST_WEIGHT,
      t_c_MOST_WEIGHTS := tk_MOST_WEIGHTS,
      c_MOST_WEIGHTS := PySem.W.mg_of X G cx_MOST_WEIGHTS,
      t_c_MOST_PAIRS := tk_MOST_PAIRS,
      c_MOST_PAIRS := PySem.W.mg_of X G cx_MOST_PAIRS,
      a_is_integer := a_is_integer,
      d_is_integer := d_is_integer,
      F_is_integer := F_is_integer,
      b_is_integer := F_is_integer.binds (ps := ["told", "low", "high"]) fun _ _ _ _ _ _ us hl => match us, hl with | [_, _, _], _ => rfl,
      g_is_integer := PySem.W.mg_of X G gf_is_integer,
      a_is_tuple := a_is_tuple,
      d_is_tuple := d_is_tuple,
      F_is_tuple := F_is_tuple,
      b_is_tuple := F_is_tuple.binds (ps := ["told", "fewest", "most"]) fun _ _ _ _ _ _ us hl => match us, hl with | [_, _, _], _ => rfl,
      g_is_tuple := PySem.W.mg_of X G gf_is_tuple,
      a_is_list_or_tuple := a_is_list_or_tuple,
      d_is_list_or_tuple := d_is_list_or_tuple,
      F_is_list_or_tuple := F_is_list_or_tuple,
      b_is_list_or_tuple := F_is_list_or_tuple.binds (ps := ["told", "fewest", "most"]) fun _ _ _ _ _ _ us hl => match us, hl with | [_, _, _], _ => rfl,
      g_is_list_or_tuple := PySem.W.mg_of X G gf_is_list_or_tuple,
      a_is_number := a_is_number,
      d_is_number := d_is_number,
      F_is_number := F_is_number,
      b_is_number := F_is_number.binds (ps := ["told"]) fun _ _ _ _ _ _ us hl => match us, hl with | [_], _ => rfl,
      g_is_number := PySem.W.mg_of X G gf_is_number,
      a_first_wrong := a_first_wrong,
      d_first_wrong := d_first_wrong,
      F_first_wrong := F_first_wrong,
      b_first_wrong := F_first_wrong.binds (ps := ["told", "low", "high"]) fun _ _ _ _ _ _ us hl => match us, hl with | [_, _, _], _ => rfl,
      g_first_wrong := PySem.W.mg_of X G gf_first_wrong,
      a_check_base := a_check_base,
      d_check_base := d_check_base,
      F_check_base := F_check_base,
      b_check_base := F_check_base.binds (ps := ["base"]) fun _ _ _ _ _ _ us hl => match us, hl with | [_], _ => rfl,
      g_check_base := PySem.W.mg_of X G gf_check_base,
      a_check_take := a_check_take,
      d_check_take := d_check_take,
      F_check_take := F_check_take,
      b_check_take := F_check_take.binds (ps := ["take"]) fun _ _ _ _ _ _ us hl => match us, hl with | [_], _ => rfl,
      g_check_take := PySem.W.mg_of X G gf_check_take,
      a_check_divisor := a_check_divisor,
      d_check_divisor := _,
      F_check_divisor := F_check_divisor,
      b_check_divisor := bo_check_divisor,
      ds_check_divisor := ds_check_divisor,
      rd_check_divisor := rd_check_divisor,
      bd_check_divisor := bd_check_divisor,
      g_check_divisor := PySem.W.mg_of X G gf_check_divisor,
      a_check_stretch := a_check_stretch,
      d_check_stretch := d_check_stretch,
      F_check_stretch := F_check_stretch,
      b_check_stretch := F_check_stretch.binds (ps := ["n", "low", "high"]) fun _ _ _ _ _ _ us hl => match us, hl with | [_, _, _], _ => rfl,
      g_check_stretch := PySem.W.mg_of X G gf_check_stretch,
      a_check_number := a_check_number,
      d_check_number := d_check_number,
      F_check_number := F_check_number,
      b_check_number := F_check_number.binds (ps := ["n"]) fun _ _ _ _ _ _ us hl => match us, hl with | [_], _ => rfl,
      g_check_number := PySem.W.mg_of X G gf_check_number,
      a_figures := a_figures,
      d_figures := d_figures,
      F_figures := F_figures,
      b_figures := F_figures.binds (ps := ["n", "base"]) fun _ _ _ _ _ _ us hl => match us, hl with | [_, _], _ => rfl,
      g_figures := PySem.W.mg_of X G gf_figures,
      a_number := a_number,
      d_number := d_number,
      F_number := F_number,
      b_number := F_number.binds (ps := ["told", "base"]) fun _ _ _ _ _ _ us hl => match us, hl with | [_, _], _ => rfl,
      g_number := PySem.W.mg_of X G gf_number,
      a_check_figures := a_check_figures,
      d_check_figures := d_check_figures,
      F_check_figures := F_check_figures,
      b_check_figures := F_check_figures.binds (ps := ["told", "base", "fewest"]) fun _ _ _ _ _ _ us hl => match us, hl with | [_, _, _], _ => rfl,
      g_check_figures := PySem.W.mg_of X G gf_check_figures,
      a_block_of := a_block_of,
      d_block_of := d_block_of,
      F_block_of := F_block_of,
      b_block_of := F_block_of.binds (ps := ["base", "take"]) fun _ _ _ _ _ _ us hl => match us, hl with | [_, _], _ => rfl,
      g_block_of := PySem.W.mg_of X G gf_block_of,
      a_done := a_done,
      d_done := d_done,
      F_done := F_done,
      b_done := F_done.binds (ps := ["trick", "n"]) fun _ _ _ _ _ _ us hl => match us, hl with | [_, _], _ => rfl,
      g_done := PySem.W.mg_of X G gf_done,
      a_check_trick := a_check_trick,
      d_check_trick := d_check_trick,
      F_check_trick := F_check_trick,
      b_check_trick := F_check_trick.binds (ps := ["trick"]) fun _ _ _ _ _ _ us hl => match us, hl with | [_], _ => rfl,
      g_check_trick := PySem.W.mg_of X G gf_check_trick,
      a_trick_block := a_trick_block,
      d_trick_block := d_trick_block,
      F_trick_block := F_trick_block,
      b_trick_block := F_trick_block.binds (ps := ["trick"]) fun _ _ _ _ _ _ us hl => match us, hl with | [_], _ => rfl,
      g_trick_block := PySem.W.mg_of X G gf_trick_block,
      a_made_of := a_made_of,
      d_made_of := d_made_of,
      F_made_of := F_made_of,
      b_made_of := F_made_of.binds (ps := ["trick", "n"]) fun _ _ _ _ _ _ us hl => match us, hl with | [_, _], _ => rfl,
      g_made_of := PySem.W.mg_of X G gf_made_of,
      a_made_with := a_made_with,
      d_made_with := d_made_with,
      F_made_with := F_made_with,
      b_made_with := F_made_with.binds (ps := ["block", "times", "n"]) fun _ _ _ _ _ _ us hl => match us, hl with | [_, _, _], _ => rfl,
      g_made_with := PySem.W.mg_of X G gf_made_with,
      a_chained := a_chained,
      d_chained := d_chained,
      F_chained := F_chained,
      b_chained := F_chained.binds (ps := ["tricks", "n"]) fun _ _ _ _ _ _ us hl => match us, hl with | [_, _], _ => rfl,
      g_chained := PySem.W.mg_of X G gf_chained,
      a_chain_tells := a_chain_tells,
      d_chain_tells := d_chain_tells,
      F_chain_tells := F_chain_tells,
      b_chain_tells := F_chain_tells.binds (ps := ["tricks", "d"]) fun _ _ _ _ _ _ us hl => match us, hl with | [_, _], _ => rfl,
      g_chain_tells := PySem.W.mg_of X G gf_chain_tells,
      a_check_tricks := a_check_tricks,
      d_check_tricks := d_check_tricks,
      F_check_tricks := F_check_tricks,
      b_check_tricks := F_check_tricks.binds (ps := ["tricks"]) fun _ _ _ _ _ _ us hl => match us, hl with | [_], _ => rfl,
      g_check_tricks := PySem.W.mg_of X G gf_check_tricks,
      a_check_chain := a_check_chain,
      d_check_chain := d_check_chain,
      F_check_chain := F_check_chain,
      b_check_chain := F_check_chain.binds (ps := ["tricks", "d"]) fun _ _ _ _ _ _ us hl => match us, hl with | [_, _], _ => rfl,
      g_check_chain := PySem.W.mg_of X G gf_check_chain,
      a_made_of_all := a_made_of_all,
      d_made_of_all := d_made_of_all,
      F_made_of_all := F_made_of_all,
      b_made_of_all := F_made_of_all.binds (ps := ["tricks", "n"]) fun _ _ _ _ _ _ us hl => match us, hl with | [_, _], _ => rfl,
      g_made_of_all := PySem.W.mg_of X G gf_made_of_all,
      a_blocks_product := a_blocks_product,
      d_blocks_product := d_blocks_product,
      F_blocks_product := F_blocks_product,
      b_blocks_product := F_blocks_product.binds (ps := ["tricks"]) fun _ _ _ _ _ _ us hl => match us, hl with | [_], _ => rfl,
      g_blocks_product := PySem.W.mg_of X G gf_blocks_product,
      a_rest_pairs := a_rest_pairs,
      d_rest_pairs := d_rest_pairs,
      F_rest_pairs := F_rest_pairs,
      b_rest_pairs := F_rest_pairs.binds (ps := ["tricks", "d"]) fun _ _ _ _ _ _ us hl => match us, hl with | [_, _], _ => rfl,
      g_rest_pairs := PySem.W.mg_of X G gf_rest_pairs,
      a_tells := a_tells,
      d_tells := d_tells,
      F_tells := F_tells,
      b_tells := F_tells.binds (ps := ["trick", "d"]) fun _ _ _ _ _ _ us hl => match us, hl with | [_, _], _ => rfl,
      g_tells := PySem.W.mg_of X G gf_tells,
      a_keeps_rest := a_keeps_rest,
      d_keeps_rest := d_keeps_rest,
      F_keeps_rest := F_keeps_rest,
      b_keeps_rest := F_keeps_rest.binds (ps := ["trick", "d"]) fun _ _ _ _ _ _ us hl => match us, hl with | [_, _], _ => rfl,
      g_keeps_rest := PySem.W.mg_of X G gf_keeps_rest,
      a_tells_multiples := a_tells_multiples,
      d_tells_multiples := d_tells_multiples,
      F_tells_multiples := F_tells_multiples,
      b_tells_multiples := F_tells_multiples.binds (ps := ["block", "times", "d"]) fun _ _ _ _ _ _ us hl => match us, hl with | [_, _, _], _ => rfl,
      g_tells_multiples := PySem.W.mg_of X G gf_tells_multiples,
      a_front_states := a_front_states,
      d_front_states := d_front_states,
      F_front_states := F_front_states,
      b_front_states := F_front_states.binds (ps := ["base", "labels"]) fun _ _ _ _ _ _ us hl => match us, hl with | [_, _], _ => rfl,
      g_front_states := PySem.W.mg_of X G gf_front_states,
      a_front_classes := a_front_classes,
      d_front_classes := d_front_classes,
      F_front_classes := F_front_classes,
      b_front_classes := F_front_classes.binds (ps := ["base", "labels"]) fun _ _ _ _ _ _ us hl => match us, hl with | [_, _], _ => rfl,
      g_front_classes := PySem.W.mg_of X G gf_front_classes,
      a_front_word := a_front_word,
      d_front_word := d_front_word,
      F_front_word := F_front_word,
      b_front_word := F_front_word.binds (ps := ["base", "labels", "one", "other"]) fun _ _ _ _ _ _ us hl => match us, hl with | [_, _, _, _], _ => rfl,
      g_front_word := PySem.W.mg_of X G gf_front_word,
      a_check_labels := a_check_labels,
      d_check_labels := d_check_labels,
      F_check_labels := F_check_labels,
      b_check_labels := F_check_labels.binds (ps := ["labels"]) fun _ _ _ _ _ _ us hl => match us, hl with | [_], _ => rfl,
      g_check_labels := PySem.W.mg_of X G gf_check_labels,
      a_check_rest := a_check_rest,
      d_check_rest := d_check_rest,
      F_check_rest := F_check_rest,
      b_check_rest := F_check_rest.binds (ps := ["rest", "d"]) fun _ _ _ _ _ _ us hl => match us, hl with | [_, _], _ => rfl,
      g_check_rest := PySem.W.mg_of X G gf_check_rest,
      a_front_machine := a_front_machine,
      d_front_machine := d_front_machine,
      F_front_machine := F_front_machine,
      b_front_machine := F_front_machine.binds (ps := ["base", "labels"]) fun _ _ _ _ _ _ us hl => match us, hl with | [_, _], _ => rfl,
      g_front_machine := PySem.W.mg_of X G gf_front_machine,
      a_classes := a_classes,
      d_classes := d_classes,
      F_classes := F_classes,
      b_classes := F_classes.binds (ps := ["machine"]) fun _ _ _ _ _ _ us hl => match us, hl with | [_], _ => rfl,
      g_classes := PySem.W.mg_of X G gf_classes,
      a_numbered := a_numbered,
      d_numbered := d_numbered,
      F_numbered := F_numbered,
      b_numbered := F_numbered.binds (ps := ["things"]) fun _ _ _ _ _ _ us hl => match us, hl with | [_], _ => rfl,
      g_numbered := PySem.W.mg_of X G gf_numbered,
      a_least_word := a_least_word,
      d_least_word := d_least_word,
      F_least_word := F_least_word,
      b_least_word := F_least_word.binds (ps := ["machine", "one", "other"]) fun _ _ _ _ _ _ us hl => match us, hl with | [_, _, _], _ => rfl,
      g_least_word := PySem.W.mg_of X G gf_least_word,
      a_total := a_total,
      d_total := d_total,
      F_total := F_total,
      b_total := F_total.binds (ps := ["told", "n"]) fun _ _ _ _ _ _ us hl => match us, hl with | [_, _], _ => rfl,
      g_total := PySem.W.mg_of X G gf_total,
      a_check_weights := a_check_weights,
      d_check_weights := d_check_weights,
      F_check_weights := F_check_weights,
      b_check_weights := F_check_weights.binds (ps := ["told", "fewest"]) fun _ _ _ _ _ _ us hl => match us, hl with | [_, _], _ => rfl,
      g_check_weights := PySem.W.mg_of X G gf_check_weights,
      a_check_sum := a_check_sum,
      d_check_sum := d_check_sum,
      F_check_sum := F_check_sum,
      b_check_sum := F_check_sum.binds (ps := ["told"]) fun _ _ _ _ _ _ us hl => match us, hl with | [_], _ => rfl,
      g_check_sum := PySem.W.mg_of X G gf_check_sum,
      a_sum_block := a_sum_block,
      d_sum_block := d_sum_block,
      F_sum_block := F_sum_block,
      b_sum_block := F_sum_block.binds (ps := ["told"]) fun _ _ _ _ _ _ us hl => match us, hl with | [_], _ => rfl,
      g_sum_block := PySem.W.mg_of X G gf_sum_block,
      a_weight_at := a_weight_at,
      d_weight_at := d_weight_at,
      F_weight_at := F_weight_at,
      b_weight_at := F_weight_at.binds (ps := ["told", "place"]) fun _ _ _ _ _ _ us hl => match us, hl with | [_, _], _ => rfl,
      g_weight_at := PySem.W.mg_of X G gf_weight_at,
      a_read := a_read,
      d_read := d_read,
      F_read := F_read,
      b_read := F_read.binds (ps := ["text"]) fun _ _ _ _ _ _ us hl => match us, hl with | [_], _ => rfl,
      g_read := PySem.W.mg_of X G gf_read,
      a_possible_words := a_possible_words,
      d_possible_words := d_possible_words,
      F_possible_words := F_possible_words,
      b_possible_words := F_possible_words.binds (ps := []) fun _ _ _ _ _ _ us hl => match us, hl with | [], _ => rfl,
      g_possible_words := PySem.W.mg_of X G gf_possible_words,
      a_written := a_written,
      d_written := d_written,
      F_written := F_written,
      b_written := F_written.binds (ps := ["low", "high"]) fun _ _ _ _ _ _ us hl => match us, hl with | [_, _], _ => rfl,
      g_written := PySem.W.mg_of X G gf_written,
      a_fitting := a_fitting,
      d_fitting := d_fitting,
      F_fitting := F_fitting,
      b_fitting := F_fitting.binds (ps := ["pairs"]) fun _ _ _ _ _ _ us hl => match us, hl with | [_], _ => rfl,
      g_fitting := PySem.W.mg_of X G gf_fitting,
      a_check_pairs := a_check_pairs,
      d_check_pairs := d_check_pairs,
      F_check_pairs := F_check_pairs,
      b_check_pairs := F_check_pairs.binds (ps := ["pairs"]) fun _ _ _ _ _ _ us hl => match us, hl with | [_], _ => rfl,
      g_check_pairs := PySem.W.mg_of X G gf_check_pairs,
      a_is_pair := a_is_pair,
      d_is_pair := d_is_pair,
      F_is_pair := F_is_pair,
      b_is_pair := F_is_pair.binds (ps := ["told"]) fun _ _ _ _ _ _ us hl => match us, hl with | [_], _ => rfl,
      g_is_pair := PySem.W.mg_of X G gf_is_pair,
      a_fitting_times := a_fitting_times,
      d_fitting_times := d_fitting_times,
      F_fitting_times := F_fitting_times,
      b_fitting_times := F_fitting_times.binds (ps := ["block", "pairs"]) fun _ _ _ _ _ _ us hl => match us, hl with | [_, _], _ => rfl,
      g_fitting_times := PySem.W.mg_of X G gf_fitting_times,
      a__law_taken := a__law_taken,
      d__law_taken := d__law_taken,
      F__law_taken := F__law_taken,
      b__law_taken := F__law_taken.binds (ps := ["_law_row", "_law_many"]) fun _ _ _ _ _ _ us hl => match us, hl with | [_, _], _ => rfl,
      g__law_taken := PySem.W.mg_of X G gf__law_taken,
      a__law_call := a__law_call,
      d__law_call := d__law_call,
      F__law_call := F__law_call,
      b__law_call := F__law_call.binds (ps := ["_law_kind"]) fun _ _ _ _ _ _ us hl => match us, hl with | [_], _ => rfl,
      g__law_call := PySem.W.mg_of X G gf__law_call,
      a__law_early := a__law_early,
      d__law_early := d__law_early,
      F__law_early := F__law_early,
      b__law_early := F__law_early.binds (ps := ["_law_kind", "_law_trick"]) fun _ _ _ _ _ _ us hl => match us, hl with | [_, _], _ => rfl,
      g__law_early := PySem.W.mg_of X G gf__law_early,
      a__law_first := a__law_first,
      d__law_first := d__law_first,
      F__law_first := F__law_first,
      b__law_first := F__law_first.binds (ps := ["_law_kind"]) fun _ _ _ _ _ _ us hl => match us, hl with | [_], _ => rfl,
      g__law_first := PySem.W.mg_of X G gf__law_first,
      a__law_second := a__law_second,
      d__law_second := d__law_second,
      F__law_second := F__law_second,
      b__law_second := F__law_second.binds (ps := ["_law_kind"]) fun _ _ _ _ _ _ us hl => match us, hl with | [_], _ => rfl,
      g__law_second := PySem.W.mg_of X G gf__law_second,
      a_law := a_law,
      d_law := _,
      F_law := fun_mk (st := s_law) l_law c_law kp_law,
      b_law := (fun_mk (st := s_law) l_law c_law kp_law).binds (ps := ["_law_script"]) fun _ _ _ _ _ _ us hl => match us, hl with | [_], _ => rfl,
      g_law := PySem.W.mg_of X G gf_law,
      C_Trick := C_Trick,
      cl_Trick := ⟨pg_Trick, hd_Trick, po_Trick, sa_Trick⟩,
      g_Trick := PySem.W.mg_of X G gx_Trick,
      kc_Trick := kc_Trick,
      ins_Trick := fun _ _ _ _ e => .ins e ⟨pg_Trick, hd_Trick, po_Trick, sa_Trick⟩ cc_Trick sp_cls tk_cls mo_Trick,
      ki_Trick_int := ki_Trick_int,
      ki_Trick_bool := ki_Trick_bool,
      ki_Trick_tuple := ki_Trick_tuple,
      ki_Trick_list := ki_Trick_list,
      nf_Trick_tuple := nf_Trick_tuple,
      kis_Trick := kis_Trick,
      kin_Trick_int := kin_Trick_int,
      kin_Trick_bool := kin_Trick_bool,
      kin_Trick_tuple := kin_Trick_tuple,
      kin_Trick_list := kin_Trick_list,
      kin_Trick_NoneType := kin_Trick_NoneType,
      kin_Trick_str := kin_Trick_str,
      kin_Trick_dict := kin_Trick_dict,
      na_Trick_base := na_Trick_base,
      na_Trick_take := na_Trick_take,
      na_Trick_times := na_Trick_times,
      a_Trick___init__ := a_Trick___init__,
      d_Trick___init__ := _,
      F_Trick___init__ := fun_mk (st := s_Trick___init__) l_Trick___init__ c_Trick___init__ kp_Trick___init__,
      b_Trick___init__ := (fun_mk (st := s_Trick___init__) l_Trick___init__ c_Trick___init__ kp_Trick___init__).binds (ps := ["self", "base", "take", "times"]) fun _ _ _ _ _ _ us hl => match us, hl with | [_, _, _, _], _ => rfl,
      mk_Trick := ⟨mk_Trick, gf_Trick___init__, isf_Trick___init__, kc_Trick⟩,
      a_Trick_base := a_Trick_base,
      d_Trick_base := _,
      F_Trick_base := fun_mk (st := s_Trick_base) l_Trick_base c_Trick_base kp_Trick_base,
      b_Trick_base := (fun_mk (st := s_Trick_base) l_Trick_base c_Trick_base kp_Trick_base).binds (ps := ["self"]) fun _ _ _ _ _ _ us hl => match us, hl with | [_], _ => rfl,
      q_Trick_base := pr_Trick_base,
      p_Trick_base := ⟨pa_Trick_base, pg_Trick_base, pt_Trick_base, ⟨_, prr_Trick_base⟩⟩,
      a_Trick_take := a_Trick_take,
      d_Trick_take := _,
      F_Trick_take := fun_mk (st := s_Trick_take) l_Trick_take c_Trick_take kp_Trick_take,
      b_Trick_take := (fun_mk (st := s_Trick_take) l_Trick_take c_Trick_take kp_Trick_take).binds (ps := ["self"]) fun _ _ _ _ _ _ us hl => match us, hl with | [_], _ => rfl,
      q_Trick_take := pr_Trick_take,
      p_Trick_take := ⟨pa_Trick_take, pg_Trick_take, pt_Trick_take, ⟨_, prr_Trick_take⟩⟩,
      a_Trick_times := a_Trick_times,
      d_Trick_times := _,
      F_Trick_times := fun_mk (st := s_Trick_times) l_Trick_times c_Trick_times kp_Trick_times,
      b_Trick_times := (fun_mk (st := s_Trick_times) l_Trick_times c_Trick_times kp_Trick_times).binds (ps := ["self"]) fun _ _ _ _ _ _ us hl => match us, hl with | [_], _ => rfl,
      q_Trick_times := pr_Trick_times,
      p_Trick_times := ⟨pa_Trick_times, pg_Trick_times, pt_Trick_times, ⟨_, prr_Trick_times⟩⟩,
      a_Trick___eq__ := a_Trick___eq__,
      d_Trick___eq__ := _,
      F_Trick___eq__ := fun_mk (st := s_Trick___eq__) l_Trick___eq__ c_Trick___eq__ kp_Trick___eq__,
      b_Trick___eq__ := (fun_mk (st := s_Trick___eq__) l_Trick___eq__ c_Trick___eq__ kp_Trick___eq__).binds (ps := ["self", "other"]) fun _ _ _ _ _ _ us hl => match us, hl with | [_, _], _ => rfl,
      m_Trick___eq__ := ⟨gf_Trick___eq__, isf_Trick___eq__, kp_Trick___eq__⟩,
      C_Sum := C_Sum,
      cl_Sum := ⟨pg_Sum, hd_Sum, po_Sum, sa_Sum⟩,
      g_Sum := PySem.W.mg_of X G gx_Sum,
      kc_Sum := kc_Sum,
      ins_Sum := fun _ _ _ _ e => .ins e ⟨pg_Sum, hd_Sum, po_Sum, sa_Sum⟩ cc_Sum sp_cls tk_cls mo_Sum,
      ki_Sum_int := ki_Sum_int,
      ki_Sum_bool := ki_Sum_bool,
      ki_Sum_tuple := ki_Sum_tuple,
      ki_Sum_list := ki_Sum_list,
      nf_Sum_tuple := nf_Sum_tuple,
      kis_Sum := kis_Sum,
      kin_Sum_int := kin_Sum_int,
      kin_Sum_bool := kin_Sum_bool,
      kin_Sum_tuple := kin_Sum_tuple,
      kin_Sum_list := kin_Sum_list,
      kin_Sum_NoneType := kin_Sum_NoneType,
      kin_Sum_str := kin_Sum_str,
      kin_Sum_dict := kin_Sum_dict,
      na_Sum_base := na_Sum_base,
      na_Sum_first := na_Sum_first,
      na_Sum_loop := na_Sum_loop,
      na_Sum_take := na_Sum_take,
      a_Sum___init__ := a_Sum___init__,
      d_Sum___init__ := _,
      F_Sum___init__ := fun_mk (st := s_Sum___init__) l_Sum___init__ c_Sum___init__ kp_Sum___init__,
      b_Sum___init__ := (fun_mk (st := s_Sum___init__) l_Sum___init__ c_Sum___init__ kp_Sum___init__).binds (ps := ["self", "base", "take", "first", "loop"]) fun _ _ _ _ _ _ us hl => match us, hl with | [_, _, _, _, _], _ => rfl,
      mk_Sum := ⟨mk_Sum, gf_Sum___init__, isf_Sum___init__, kc_Sum⟩,
      a_Sum_base := a_Sum_base,
      d_Sum_base := _,
      F_Sum_base := fun_mk (st := s_Sum_base) l_Sum_base c_Sum_base kp_Sum_base,
      b_Sum_base := (fun_mk (st := s_Sum_base) l_Sum_base c_Sum_base kp_Sum_base).binds (ps := ["self"]) fun _ _ _ _ _ _ us hl => match us, hl with | [_], _ => rfl,
      q_Sum_base := pr_Sum_base,
      p_Sum_base := ⟨pa_Sum_base, pg_Sum_base, pt_Sum_base, ⟨_, prr_Sum_base⟩⟩,
      a_Sum_take := a_Sum_take,
      d_Sum_take := _,
      F_Sum_take := fun_mk (st := s_Sum_take) l_Sum_take c_Sum_take kp_Sum_take,
      b_Sum_take := (fun_mk (st := s_Sum_take) l_Sum_take c_Sum_take kp_Sum_take).binds (ps := ["self"]) fun _ _ _ _ _ _ us hl => match us, hl with | [_], _ => rfl,
      q_Sum_take := pr_Sum_take,
      p_Sum_take := ⟨pa_Sum_take, pg_Sum_take, pt_Sum_take, ⟨_, prr_Sum_take⟩⟩,
      a_Sum_first := a_Sum_first,
      d_Sum_first := _,
      F_Sum_first := fun_mk (st := s_Sum_first) l_Sum_first c_Sum_first kp_Sum_first,
      b_Sum_first := (fun_mk (st := s_Sum_first) l_Sum_first c_Sum_first kp_Sum_first).binds (ps := ["self"]) fun _ _ _ _ _ _ us hl => match us, hl with | [_], _ => rfl,
      q_Sum_first := pr_Sum_first,
      p_Sum_first := ⟨pa_Sum_first, pg_Sum_first, pt_Sum_first, ⟨_, prr_Sum_first⟩⟩,
      a_Sum_loop := a_Sum_loop,
      d_Sum_loop := _,
      F_Sum_loop := fun_mk (st := s_Sum_loop) l_Sum_loop c_Sum_loop kp_Sum_loop,
      b_Sum_loop := (fun_mk (st := s_Sum_loop) l_Sum_loop c_Sum_loop kp_Sum_loop).binds (ps := ["self"]) fun _ _ _ _ _ _ us hl => match us, hl with | [_], _ => rfl,
      q_Sum_loop := pr_Sum_loop,
      p_Sum_loop := ⟨pa_Sum_loop, pg_Sum_loop, pt_Sum_loop, ⟨_, prr_Sum_loop⟩⟩,
      a_Sum___eq__ := a_Sum___eq__,
      d_Sum___eq__ := _,
      F_Sum___eq__ := fun_mk (st := s_Sum___eq__) l_Sum___eq__ c_Sum___eq__ kp_Sum___eq__,
      b_Sum___eq__ := (fun_mk (st := s_Sum___eq__) l_Sum___eq__ c_Sum___eq__ kp_Sum___eq__).binds (ps := ["self", "other"]) fun _ _ _ _ _ _ us hl => match us, hl with | [_, _], _ => rfl,
      m_Sum___eq__ := ⟨gf_Sum___eq__, isf_Sum___eq__, kp_Sum___eq__⟩,
      n_int := PySem.W.mg_none_of X G z_int,
      n_bool := PySem.W.mg_none_of X G z_bool,
      n_len := PySem.W.mg_none_of X G z_len,
      n_range := PySem.W.mg_none_of X G z_range,
      n_isinstance := PySem.W.mg_none_of X G z_isinstance,
      n_tuple := PySem.W.mg_none_of X G z_tuple,
      n_list := PySem.W.mg_none_of X G z_list,
      n_reversed := PySem.W.mg_none_of X G z_reversed,
      n_enumerate := PySem.W.mg_none_of X G z_enumerate,
      n_all := PySem.W.mg_none_of X G z_all,
      n_min := PySem.W.mg_none_of X G z_min,
      n_max := PySem.W.mg_none_of X G z_max,
      n_super := PySem.W.mg_none_of X G z_super,
      n_str := PySem.W.mg_none_of X G z_str,
      n_zip := PySem.W.mg_none_of X G z_zip,
      n_ValueError := PySem.W.mg_none_of X G z_ValueError,
      a_BadNumber___init__ := a_BadNumber___init__,
      x_BadNumber := { gC := PySem.W.mg_of X G gx_BadNumber, cls := ⟨_, _, _, _, _, _, _, _, _, _, _, _, _, _, _, xl_BadNumber___init__, xrb_BadNumber___init__⟩, sa := xsa_BadNumber___init__, ga := xga_BadNumber___init__, gg := xgg_BadNumber___init__, noF := xnf_BadNumber___init__, iC := xic_BadNumber___init__, tC := xtc_BadNumber___init__, kC := k_BadNumber, exC := s_BadNumber, tyC := t_BadNumber, hdC := xhd_BadNumber___init__, up := xup_BadNumber___init__, any := xan_BadNumber___init__, ve := xve_BadNumber___init__, own := xow_BadNumber___init__, sup := PySem.W.mg_none_of X G z_super, main := rmn_BadNumber___init__, fn := ⟨_, _, _, _, _, _, _, _, _, _, _, _, _, _, _, _, _, _, _, xfn_BadNumber___init__, xco_BadNumber___init__, xcd_BadNumber___init__, rvs_BadNumber___init__, rfi_BadNumber___init__, xcc_BadNumber___init__⟩, text := ⟨_, _, _, _, _, _, _, _, _, _, _, rfl, rfl, fun _ => rfl⟩, kS := rfl, kK := rfl, k0 := rfl, kF := rfl, nF := by decide, nD := by decide, noCell := by decide +kernel, bind := fun _ _ _ _ _ _ _ _ _ => rfl, plain := fun _ => rfl, knd := rfl, co := rfl, gen := rfl },
      a_BadFigures___init__ := a_BadFigures___init__,
      x_BadFigures := { gC := PySem.W.mg_of X G gx_BadFigures, cls := ⟨_, _, _, _, _, _, _, _, _, _, _, _, _, _, _, xl_BadFigures___init__, xrb_BadFigures___init__⟩, sa := xsa_BadFigures___init__, ga := xga_BadFigures___init__, gg := xgg_BadFigures___init__, noF := xnf_BadFigures___init__, iC := xic_BadFigures___init__, tC := xtc_BadFigures___init__, kC := k_BadFigures, exC := s_BadFigures, tyC := t_BadFigures, hdC := xhd_BadFigures___init__, up := xup_BadFigures___init__, any := xan_BadFigures___init__, ve := xve_BadFigures___init__, own := xow_BadFigures___init__, sup := PySem.W.mg_none_of X G z_super, main := rmn_BadFigures___init__, fn := ⟨_, _, _, _, _, _, _, _, _, _, _, _, _, _, _, _, _, _, _, xfn_BadFigures___init__, xco_BadFigures___init__, xcd_BadFigures___init__, rvs_BadFigures___init__, rfi_BadFigures___init__, xcc_BadFigures___init__⟩, text := ⟨_, _, _, _, _, _, _, _, _, _, _, rfl, rfl, fun _ => rfl⟩, kS := rfl, kK := rfl, k0 := rfl, kF := rfl, nF := by decide, nD := by decide, noCell := by decide +kernel, bind := fun _ _ _ _ _ _ _ _ _ => rfl, plain := fun _ => rfl, knd := rfl, co := rfl, gen := rfl },
      a_BadWeights___init__ := a_BadWeights___init__,
      x_BadWeights := { gC := PySem.W.mg_of X G gx_BadWeights, cls := ⟨_, _, _, _, _, _, _, _, _, _, _, _, _, _, _, xl_BadWeights___init__, xrb_BadWeights___init__⟩, sa := xsa_BadWeights___init__, ga := xga_BadWeights___init__, gg := xgg_BadWeights___init__, noF := xnf_BadWeights___init__, iC := xic_BadWeights___init__, tC := xtc_BadWeights___init__, kC := k_BadWeights, exC := s_BadWeights, tyC := t_BadWeights, hdC := xhd_BadWeights___init__, up := xup_BadWeights___init__, any := xan_BadWeights___init__, ve := xve_BadWeights___init__, own := xow_BadWeights___init__, sup := PySem.W.mg_none_of X G z_super, main := rmn_BadWeights___init__, fn := ⟨_, _, _, _, _, _, _, _, _, _, _, _, _, _, _, _, _, _, _, xfn_BadWeights___init__, xco_BadWeights___init__, xcd_BadWeights___init__, rvs_BadWeights___init__, rfi_BadWeights___init__, xcc_BadWeights___init__⟩, text := ⟨_, _, _, _, _, _, _, _, _, _, _, rfl, rfl, fun _ => rfl⟩, kS := rfl, kK := rfl, k0 := rfl, kF := rfl, nF := by decide, nD := by decide, noCell := by decide +kernel, bind := fun _ _ _ _ _ _ _ _ _ => rfl, plain := fun _ => rfl, knd := rfl, co := rfl, gen := rfl },
      a_BadRests___init__ := a_BadRests___init__,
      x_BadRests := { gC := PySem.W.mg_of X G gx_BadRests, cls := ⟨_, _, _, _, _, _, _, _, _, _, _, _, _, _, _, xl_BadRests___init__, xrb_BadRests___init__⟩, sa := xsa_BadRests___init__, ga := xga_BadRests___init__, gg := xgg_BadRests___init__, noF := xnf_BadRests___init__, iC := xic_BadRests___init__, tC := xtc_BadRests___init__, kC := k_BadRests, exC := s_BadRests, tyC := t_BadRests, hdC := xhd_BadRests___init__, up := xup_BadRests___init__, any := xan_BadRests___init__, ve := xve_BadRests___init__, own := xow_BadRests___init__, sup := PySem.W.mg_none_of X G z_super, main := rmn_BadRests___init__, fn := ⟨_, _, _, _, _, _, _, _, _, _, _, _, _, _, _, _, _, _, _, xfn_BadRests___init__, xco_BadRests___init__, xcd_BadRests___init__, rvs_BadRests___init__, rfi_BadRests___init__, xcc_BadRests___init__⟩, text := ⟨_, _, _, _, _, _, _, _, _, _, _, rfl, rfl, fun _ => rfl⟩, kS := rfl, kK := rfl, k0 := rfl, kF := rfl, nF := by decide, nD := by decide, noCell := by decide +kernel, bind := fun _ _ _ _ _ _ _ _ _ => rfl, plain := fun _ => rfl, knd := rfl, co := rfl, gen := rfl },
      a_BadTricks___init__ := a_BadTricks___init__,
      x_BadTricks := { gC := PySem.W.mg_of X G gx_BadTricks, cls := ⟨_, _, _, _, _, _, _, _, _, _, _, _, _, _, _, xl_BadTricks___init__, xrb_BadTricks___init__⟩, sa := xsa_BadTricks___init__, ga := xga_BadTricks___init__, gg := xgg_BadTricks___init__, noF := xnf_BadTricks___init__, iC := xic_BadTricks___init__, tC := xtc_BadTricks___init__, kC := k_BadTricks, exC := s_BadTricks, tyC := t_BadTricks, hdC := xhd_BadTricks___init__, up := xup_BadTricks___init__, any := xan_BadTricks___init__, ve := xve_BadTricks___init__, own := xow_BadTricks___init__, sup := PySem.W.mg_none_of X G z_super, main := rmn_BadTricks___init__, fn := ⟨_, _, _, _, _, _, _, _, _, _, _, _, _, _, _, _, _, _, _, xfn_BadTricks___init__, xco_BadTricks___init__, xcd_BadTricks___init__, rvs_BadTricks___init__, rfi_BadTricks___init__, xcc_BadTricks___init__⟩, text := ⟨_, _, _, _, _, _, _, _, _, _, _, rfl, rfl, fun _ => rfl⟩, kS := rfl, kK := rfl, k0 := rfl, kF := rfl, nF := by decide, nD := by decide, noCell := by decide +kernel, bind := fun _ _ _ _ _ _ _ _ _ => rfl, plain := fun _ => rfl, knd := rfl, co := rfl, gen := rfl },
      a_BadPairs___init__ := a_BadPairs___init__,
      x_BadPairs := { gC := PySem.W.mg_of X G gx_BadPairs, cls := ⟨_, _, _, _, _, _, _, _, _, _, _, _, _, _, _, xl_BadPairs___init__, xrb_BadPairs___init__⟩, sa := xsa_BadPairs___init__, ga := xga_BadPairs___init__, gg := xgg_BadPairs___init__, noF := xnf_BadPairs___init__, iC := xic_BadPairs___init__, tC := xtc_BadPairs___init__, kC := k_BadPairs, exC := s_BadPairs, tyC := t_BadPairs, hdC := xhd_BadPairs___init__, up := xup_BadPairs___init__, any := xan_BadPairs___init__, ve := xve_BadPairs___init__, own := xow_BadPairs___init__, sup := PySem.W.mg_none_of X G z_super, main := rmn_BadPairs___init__, fn := ⟨_, _, _, _, _, _, _, _, _, _, _, _, _, _, _, _, _, _, _, xfn_BadPairs___init__, xco_BadPairs___init__, xcd_BadPairs___init__, rvs_BadPairs___init__, rfi_BadPairs___init__, xcc_BadPairs___init__⟩, text := ⟨_, _, _, _, _, _, _, _, _, _, _, rfl, rfl, fun _ => rfl⟩, kS := rfl, kK := rfl, k0 := rfl, kF := rfl, nF := by decide, nD := by decide, noCell := by decide +kernel, bind := fun _ _ _ _ _ _ _ _ _ => rfl, plain := fun _ => rfl, knd := rfl, co := rfl, gen := rfl },
      a_TooWide___init__ := a_TooWide___init__,
      x_TooWide := { gC := PySem.W.mg_of X G gx_TooWide, cls := ⟨_, _, _, _, _, _, _, _, _, _, _, _, _, _, _, xl_TooWide___init__, xrb_TooWide___init__⟩, sa := xsa_TooWide___init__, ga := xga_TooWide___init__, gg := xgg_TooWide___init__, noF := xnf_TooWide___init__, iC := xic_TooWide___init__, tC := xtc_TooWide___init__, kC := k_TooWide, exC := s_TooWide, tyC := t_TooWide, hdC := xhd_TooWide___init__, up := xup_TooWide___init__, any := xan_TooWide___init__, ve := xve_TooWide___init__, own := xow_TooWide___init__, sup := PySem.W.mg_none_of X G z_super, main := rmn_TooWide___init__, fn := ⟨_, _, _, _, _, _, _, _, _, _, _, _, _, _, _, _, _, _, _, xfn_TooWide___init__, xco_TooWide___init__, xcd_TooWide___init__, rvs_TooWide___init__, rfi_TooWide___init__, xcc_TooWide___init__⟩, text := ⟨_, _, _, _, _, _, _, _, _, _, _, rfl, rfl, fun _ => rfl⟩, kS := rfl, kK := rfl, k0 := rfl, kF := rfl, nF := by decide, nD := by decide, noCell := by decide +kernel, bind := fun _ _ _ _ _ _ _ _ _ => rfl, plain := fun _ => rfl, knd := rfl, co := rfl, gen := rfl },
      a_InvalidText___init__ := a_InvalidText___init__,
      x_InvalidText := { gC := PySem.W.mg_of X G gx_InvalidText, cls := ⟨_, _, _, _, _, _, _, _, _, _, _, _, _, _, _, xl_InvalidText___init__, xrb_InvalidText___init__⟩, sa := xsa_InvalidText___init__, ga := xga_InvalidText___init__, gg := xgg_InvalidText___init__, noF := xnf_InvalidText___init__, iC := xic_InvalidText___init__, tC := xtc_InvalidText___init__, kC := k_InvalidText, exC := s_InvalidText, tyC := t_InvalidText, hdC := xhd_InvalidText___init__, up := xup_InvalidText___init__, any := xan_InvalidText___init__, ve := xve_InvalidText___init__, own := xow_InvalidText___init__, sup := PySem.W.mg_none_of X G z_super, main := rmn_InvalidText___init__, fn := ⟨_, _, _, _, _, _, _, _, _, _, _, _, _, _, _, _, _, _, _, xfn_InvalidText___init__, xco_InvalidText___init__, xcd_InvalidText___init__, rvs_InvalidText___init__, rfi_InvalidText___init__, xcc_InvalidText___init__⟩, text := ⟨_, _, _, _, _, _, _, _, _, _, _, rfl, rfl, fun _ => rfl⟩, kS := rfl, kK := rfl, k0 := rfl, kF := rfl, nF := by decide, nD := by decide, noCell := by decide +kernel, bind := fun _ _ _ _ _ _ _ _ _ => rfl, plain := fun _ => rfl, knd := rfl, co := rfl, gen := rfl } })
theorem walk {l : PySem.W.OpenLaw} {q : Program} {loose : List Str} {XP : (Str → Option Value) → Heap → Prop} {YP : World → Heap → Prop} {d : DefRec} {K : Params → PySem.W.Frag} (hn : l.most = some 63) (hdn : d.name = "law") (hdf : d.params.defaults = [])
    (hY : ∀ (w : World) (h : Heap), YP w h → (K w.params).In h)
    (F : ∀ (w : World) (mg : Str → Option Value) (fa : Addr) (h : Heap), (K w.params).In h → h.Ns mainGlobals mg → mg "law" = some (.ref fa) →
      ∃ fd : FuncData, (∀ (s : Shared) (u : Value), BindsTo s fd ⟨[u], []⟩ [("_law_script", u)]) ∧ ∀ base : Heap, (K w.params).In base → base.Ns mainGlobals mg → FnOk l.prog w (K w.params) mg base CX0 lv_law fa fd ["_law_script"] (sp_law (K w.params))) :
    PySem.W.WalkO q loose XP YP l.row.toRowW d [] (fun f vs => PySem.call f vs) :=
  L2.walk_of (n := 63) (k := lv_law) (x := "_law_script") (CX := fun _ => CX0) (sp := fun w => sp_law (K w.params)) hn (by decide) hdf ⟨rfl, by decide, by decide⟩ hY (fun w mg fa h a b c => F w mg fa h a b (hdn ▸ c)) (fun _ _ a ns hl hO hS => ⟨a, ns, rfl, scr_of hO hS, hl, fun _ => rfl⟩) fun _ _ _ _ _ z => z
end Rt
open PySem PySem.W PyProof.Rows
set_option maxRecDepth 100000 in
set_option maxHeartbeats 0 in
theorem PySem.Challenge.cw_resttricks_k42_errors_are_apart_holds : PySem.Challenge.rw_resttricks_k42_errors_are_apart.Holds := by
  w_on; o_law
  refine HandSHeadRun.head_any (r := Rt.topRow) (q := view Rt.topRow.prog [99]) (H := Rt.topHook) (ob := Rt.topSeen) (M := 13822)
    (loose := Rt.topOthers) (d := HandSHeadRun.topDef Rt.topRow.prog 99) (kwd := []) Rt.topSeen_eq
    (by kernel_rfl) (fun s => by kernel_rfl) Rt.topRan (by kernel_rfl) (by kernel_rfl) (by kernel_rfl) (by rfl)
    (by first | assumption | decide +kernel) (by decide +kernel) ⟨rfl, rfl, rfl, rfl, rfl, by decide +kernel⟩ ?hw ?hc
  case hw => w_witness2
  refine Rt.walk (l := PySem.Challenge.rw_resttricks_k42_errors_are_apart) (K := Rt.topPart.heap_1) rfl (by kernel_rfl) (by kernel_rfl) (fun w h Y => PySem.W.kIn_of Y) ?F
  k_fill
  case F => as_aux_lemma =>
    intro w mg fa h KX G hmg
    refine' Rt.all_mk KX G hmg ?gx_TrickError ?x_TrickError ?k_TrickError ?s_TrickError ?t_TrickError ?hd_TrickError ?gx_BadBase ?x_BadBase ?k_BadBase ?s_BadBase ?t_BadBase ?hd_BadBase ?gx_BadTake ?x_BadTake ?k_BadTake ?s_BadTake ?t_BadTake ?hd_BadTake ?gx_BadTimes ?x_BadTimes ?k_BadTimes ?s_BadTimes ?t_BadTimes ?hd_BadTimes ?gx_BadTrick ?x_BadTrick ?k_BadTrick ?s_BadTrick ?t_BadTrick ?hd_BadTrick ?gx_BadDivisor ?x_BadDivisor ?k_BadDivisor ?s_BadDivisor ?t_BadDivisor ?hd_BadDivisor ?gx_BadSum ?x_BadSum ?k_BadSum ?s_BadSum ?t_BadSum ?hd_BadSum ?gx_BadRest ?x_BadRest ?k_BadRest ?s_BadRest ?t_BadRest ?hd_BadRest ?gx_BadNumber ?k_BadNumber ?s_BadNumber ?t_BadNumber ?hd_BadNumber ?gx_BadFigures ?k_BadFigures ?s_BadFigures ?t_BadFigures ?hd_BadFigures ?gx_BadWeights ?k_BadWeights ?s_BadWeights ?t_BadWeights ?hd_BadWeights ?gx_BadRests ?k_BadRests ?s_BadRests ?t_BadRests ?hd_BadRests ?gx_BadTricks ?k_BadTricks ?s_BadTricks ?t_BadTricks ?hd_BadTricks ?gx_BadPairs ?k_BadPairs ?s_BadPairs ?t_BadPairs ?hd_BadPairs ?gx_TooWide ?k_TooWide ?s_TooWide ?t_TooWide ?hd_TooWide ?gx_InvalidText ?k_InvalidText ?s_InvalidText ?t_InvalidText ?hd_InvalidText ?su_TrickError_BadBase ?su_TrickError_BadDivisor ?su_TrickError_BadFigures ?su_TrickError_BadNumber ?su_TrickError_BadPairs ?su_TrickError_BadRest ?su_TrickError_BadRests ?su_TrickError_BadSum ?su_TrickError_BadTake ?su_TrickError_BadTimes ?su_TrickError_BadTrick ?su_TrickError_BadTricks ?su_TrickError_BadWeights ?su_TrickError_InvalidText ?su_TrickError_TooWide ?su_TrickError_TrickError ?su_BadBase_BadBase ?su_BadBase_BadDivisor ?su_BadBase_BadFigures ?su_BadBase_BadNumber ?su_BadBase_BadPairs ?su_BadBase_BadRest ?su_BadBase_BadRests ?su_BadBase_BadSum ?su_BadBase_BadTake ?su_BadBase_BadTimes ?su_BadBase_BadTrick ?su_BadBase_BadTricks ?su_BadBase_BadWeights ?su_BadBase_InvalidText ?su_BadBase_TooWide ?su_BadBase_TrickError ?su_BadTake_BadBase ?su_BadTake_BadDivisor ?su_BadTake_BadFigures ?su_BadTake_BadNumber ?su_BadTake_BadPairs ?su_BadTake_BadRest ?su_BadTake_BadRests ?su_BadTake_BadSum ?su_BadTake_BadTake ?su_BadTake_BadTimes ?su_BadTake_BadTrick ?su_BadTake_BadTricks ?su_BadTake_BadWeights ?su_BadTake_InvalidText ?su_BadTake_TooWide ?su_BadTake_TrickError ?su_BadTimes_BadBase ?su_BadTimes_BadDivisor ?su_BadTimes_BadFigures ?su_BadTimes_BadNumber ?su_BadTimes_BadPairs ?su_BadTimes_BadRest ?su_BadTimes_BadRests ?su_BadTimes_BadSum ?su_BadTimes_BadTake ?su_BadTimes_BadTimes ?su_BadTimes_BadTrick ?su_BadTimes_BadTricks ?su_BadTimes_BadWeights ?su_BadTimes_InvalidText ?su_BadTimes_TooWide ?su_BadTimes_TrickError ?su_BadTrick_BadBase ?su_BadTrick_BadDivisor ?su_BadTrick_BadFigures ?su_BadTrick_BadNumber ?su_BadTrick_BadPairs ?su_BadTrick_BadRest ?su_BadTrick_BadRests ?su_BadTrick_BadSum ?su_BadTrick_BadTake ?su_BadTrick_BadTimes ?su_BadTrick_BadTrick ?su_BadTrick_BadTricks ?su_BadTrick_BadWeights ?su_BadTrick_InvalidText ?su_BadTrick_TooWide ?su_BadTrick_TrickError ?su_BadDivisor_BadBase ?su_BadDivisor_BadDivisor ?su_BadDivisor_BadFigures ?su_BadDivisor_BadNumber ?su_BadDivisor_BadPairs ?su_BadDivisor_BadRest ?su_BadDivisor_BadRests ?su_BadDivisor_BadSum ?su_BadDivisor_BadTake ?su_BadDivisor_BadTimes ?su_BadDivisor_BadTrick ?su_BadDivisor_BadTricks ?su_BadDivisor_BadWeights ?su_BadDivisor_InvalidText ?su_BadDivisor_TooWide ?su_BadDivisor_TrickError ?su_BadSum_BadBase ?su_BadSum_BadDivisor ?su_BadSum_BadFigures ?su_BadSum_BadNumber ?su_BadSum_BadPairs ?su_BadSum_BadRest ?su_BadSum_BadRests ?su_BadSum_BadSum ?su_BadSum_BadTake ?su_BadSum_BadTimes ?su_BadSum_BadTrick ?su_BadSum_BadTricks ?su_BadSum_BadWeights ?su_BadSum_InvalidText ?su_BadSum_TooWide ?su_BadSum_TrickError ?su_BadRest_BadBase ?su_BadRest_BadDivisor ?su_BadRest_BadFigures ?su_BadRest_BadNumber ?su_BadRest_BadPairs ?su_BadRest_BadRest ?su_BadRest_BadRests ?su_BadRest_BadSum ?su_BadRest_BadTake ?su_BadRest_BadTimes ?su_BadRest_BadTrick ?su_BadRest_BadTricks ?su_BadRest_BadWeights ?su_BadRest_InvalidText ?su_BadRest_TooWide ?su_BadRest_TrickError ?su_BadNumber_BadBase ?su_BadNumber_BadDivisor ?su_BadNumber_BadFigures ?su_BadNumber_BadNumber ?su_BadNumber_BadPairs ?su_BadNumber_BadRest ?su_BadNumber_BadRests ?su_BadNumber_BadSum ?su_BadNumber_BadTake ?su_BadNumber_BadTimes ?su_BadNumber_BadTrick ?su_BadNumber_BadTricks ?su_BadNumber_BadWeights ?su_BadNumber_InvalidText ?su_BadNumber_TooWide ?su_BadNumber_TrickError ?su_BadFigures_BadBase ?su_BadFigures_BadDivisor ?su_BadFigures_BadFigures ?su_BadFigures_BadNumber ?su_BadFigures_BadPairs ?su_BadFigures_BadRest ?su_BadFigures_BadRests ?su_BadFigures_BadSum ?su_BadFigures_BadTake ?su_BadFigures_BadTimes ?su_BadFigures_BadTrick ?su_BadFigures_BadTricks ?su_BadFigures_BadWeights ?su_BadFigures_InvalidText ?su_BadFigures_TooWide ?su_BadFigures_TrickError ?su_BadWeights_BadBase ?su_BadWeights_BadDivisor ?su_BadWeights_BadFigures ?su_BadWeights_BadNumber ?su_BadWeights_BadPairs ?su_BadWeights_BadRest ?su_BadWeights_BadRests ?su_BadWeights_BadSum ?su_BadWeights_BadTake ?su_BadWeights_BadTimes ?su_BadWeights_BadTrick ?su_BadWeights_BadTricks ?su_BadWeights_BadWeights ?su_BadWeights_InvalidText ?su_BadWeights_TooWide ?su_BadWeights_TrickError ?su_BadRests_BadBase ?su_BadRests_BadDivisor ?su_BadRests_BadFigures ?su_BadRests_BadNumber ?su_BadRests_BadPairs ?su_BadRests_BadRest ?su_BadRests_BadRests ?su_BadRests_BadSum ?su_BadRests_BadTake ?su_BadRests_BadTimes ?su_BadRests_BadTrick ?su_BadRests_BadTricks ?su_BadRests_BadWeights ?su_BadRests_InvalidText ?su_BadRests_TooWide ?su_BadRests_TrickError ?su_BadTricks_BadBase ?su_BadTricks_BadDivisor ?su_BadTricks_BadFigures ?su_BadTricks_BadNumber ?su_BadTricks_BadPairs ?su_BadTricks_BadRest ?su_BadTricks_BadRests ?su_BadTricks_BadSum ?su_BadTricks_BadTake ?su_BadTricks_BadTimes ?su_BadTricks_BadTrick ?su_BadTricks_BadTricks ?su_BadTricks_BadWeights ?su_BadTricks_InvalidText ?su_BadTricks_TooWide ?su_BadTricks_TrickError ?su_BadPairs_BadBase ?su_BadPairs_BadDivisor ?su_BadPairs_BadFigures ?su_BadPairs_BadNumber ?su_BadPairs_BadPairs ?su_BadPairs_BadRest ?su_BadPairs_BadRests ?su_BadPairs_BadSum ?su_BadPairs_BadTake ?su_BadPairs_BadTimes ?su_BadPairs_BadTrick ?su_BadPairs_BadTricks ?su_BadPairs_BadWeights ?su_BadPairs_InvalidText ?su_BadPairs_TooWide ?su_BadPairs_TrickError ?su_TooWide_BadBase ?su_TooWide_BadDivisor ?su_TooWide_BadFigures ?su_TooWide_BadNumber ?su_TooWide_BadPairs ?su_TooWide_BadRest ?su_TooWide_BadRests ?su_TooWide_BadSum ?su_TooWide_BadTake ?su_TooWide_BadTimes ?su_TooWide_BadTrick ?su_TooWide_BadTricks ?su_TooWide_BadWeights ?su_TooWide_InvalidText ?su_TooWide_TooWide ?su_TooWide_TrickError ?su_InvalidText_BadBase ?su_InvalidText_BadDivisor ?su_InvalidText_BadFigures ?su_InvalidText_BadNumber ?su_InvalidText_BadPairs ?su_InvalidText_BadRest ?su_InvalidText_BadRests ?su_InvalidText_BadSum ?su_InvalidText_BadTake ?su_InvalidText_BadTimes ?su_InvalidText_BadTrick ?su_InvalidText_BadTricks ?su_InvalidText_BadWeights ?su_InvalidText_InvalidText ?su_InvalidText_TooWide ?su_InvalidText_TrickError ?cx_GREATEST_NUMBER ?cx_LEAST_BASE ?cx_GREATEST_BASE ?cx_GREATEST_TAKE ?cx_GREATEST_DIVISOR ?cx_MOST_FIGURES ?cx_GREATEST_TIMES ?cx_MOST_TRICKS ?cx_GREATEST_CHAIN_DIVISOR ?cx_GREATEST_PRODUCT ?cx_MOST_LABELS ?cx_GREATEST_LABEL ?cx_GREATEST_WEIGHT ?cx_MOST_WEIGHTS ?cx_MOST_PAIRS ?df_is_integer ?df_is_tuple ?df_is_list_or_tuple ?df_is_number ?df_first_wrong ?df_check_base ?df_check_take ?gf_check_divisor ?l_check_divisor ?c_check_divisor ?kp_check_divisor ?ldT_check_divisor ?rdv_check_divisor ?df_check_stretch ?df_check_number ?df_figures ?df_number ?df_check_figures ?df_block_of ?df_done ?df_check_trick ?df_trick_block ?df_made_of ?df_made_with ?df_chained ?df_chain_tells ?df_check_tricks ?df_check_chain ?df_made_of_all ?df_blocks_product ?df_rest_pairs ?df_tells ?df_keeps_rest ?df_tells_multiples ?df_front_states ?df_front_classes ?df_front_word ?df_check_labels ?df_check_rest ?df_front_machine ?df_classes ?df_numbered ?df_least_word ?df_total ?df_check_weights ?df_check_sum ?df_sum_block ?df_weight_at ?df_read ?df_possible_words ?df_written ?df_fitting ?df_check_pairs ?df_is_pair ?df_fitting_times ?df__law_taken ?df__law_call ?df__law_early ?df__law_first ?df__law_second ?gf_law ?l_law ?c_law ?kp_law ?gx_Trick ?pg_Trick ?hd_Trick ?po_Trick ?sa_Trick ?mk_Trick ?kc_Trick ?cc_Trick ?mo_Trick ?sp_cls ?tk_cls ?ki_Trick_int ?ki_Trick_bool ?ki_Trick_tuple ?ki_Trick_list ?nf_Trick_tuple ?kis_Trick ?kin_Trick_int ?kin_Trick_bool ?kin_Trick_tuple ?kin_Trick_list ?kin_Trick_NoneType ?kin_Trick_str ?kin_Trick_dict ?na_Trick_base ?na_Trick_take ?na_Trick_times ?gf_Trick___init__ ?l_Trick___init__ ?c_Trick___init__ ?kp_Trick___init__ ?isf_Trick___init__ ?pa_Trick_base ?pg_Trick_base ?pt_Trick_base ?prr_Trick_base ?l_Trick_base ?c_Trick_base ?kp_Trick_base ?pa_Trick_take ?pg_Trick_take ?pt_Trick_take ?prr_Trick_take ?l_Trick_take ?c_Trick_take ?kp_Trick_take ?pa_Trick_times ?pg_Trick_times ?pt_Trick_times ?prr_Trick_times ?l_Trick_times ?c_Trick_times ?kp_Trick_times ?gf_Trick___eq__ ?l_Trick___eq__ ?c_Trick___eq__ ?kp_Trick___eq__ ?isf_Trick___eq__ ?gx_Sum ?pg_Sum ?hd_Sum ?po_Sum ?sa_Sum ?mk_Sum ?kc_Sum ?cc_Sum ?mo_Sum ?ki_Sum_int ?ki_Sum_bool ?ki_Sum_tuple ?ki_Sum_list ?nf_Sum_tuple ?kis_Sum ?kin_Sum_int ?kin_Sum_bool ?kin_Sum_tuple ?kin_Sum_list ?kin_Sum_NoneType ?kin_Sum_str ?kin_Sum_dict ?na_Sum_base ?na_Sum_first ?na_Sum_loop ?na_Sum_take ?gf_Sum___init__ ?l_Sum___init__ ?c_Sum___init__ ?kp_Sum___init__ ?isf_Sum___init__ ?pa_Sum_base ?pg_Sum_base ?pt_Sum_base ?prr_Sum_base ?l_Sum_base ?c_Sum_base ?kp_Sum_base ?pa_Sum_take ?pg_Sum_take ?pt_Sum_take ?prr_Sum_take ?l_Sum_take ?c_Sum_take ?kp_Sum_take ?pa_Sum_first ?pg_Sum_first ?pt_Sum_first ?prr_Sum_first ?l_Sum_first ?c_Sum_first ?kp_Sum_first ?pa_Sum_loop ?pg_Sum_loop ?pt_Sum_loop ?prr_Sum_loop ?l_Sum_loop ?c_Sum_loop ?kp_Sum_loop ?gf_Sum___eq__ ?l_Sum___eq__ ?c_Sum___eq__ ?kp_Sum___eq__ ?isf_Sum___eq__ ?z_int ?z_bool ?z_len ?z_range ?z_isinstance ?z_tuple ?z_list ?z_reversed ?z_enumerate ?z_all ?z_min ?z_max ?z_super ?z_str ?z_zip ?z_ValueError ?xl_BadNumber___init__ ?xrb_BadNumber___init__ ?xsa_BadNumber___init__ ?xga_BadNumber___init__ ?xgg_BadNumber___init__ ?xnf_BadNumber___init__ ?xic_BadNumber___init__ ?xtc_BadNumber___init__ ?xhd_BadNumber___init__ ?xup_BadNumber___init__ ?xan_BadNumber___init__ ?xve_BadNumber___init__ ?xow_BadNumber___init__ ?rmn_BadNumber___init__ ?xfn_BadNumber___init__ ?xco_BadNumber___init__ ?xcd_BadNumber___init__ ?rvs_BadNumber___init__ ?rfi_BadNumber___init__ ?xcc_BadNumber___init__ ?xl_BadFigures___init__ ?xrb_BadFigures___init__ ?xsa_BadFigures___init__ ?xga_BadFigures___init__ ?xgg_BadFigures___init__ ?xnf_BadFigures___init__ ?xic_BadFigures___init__ ?xtc_BadFigures___init__ ?xhd_BadFigures___init__ ?xup_BadFigures___init__ ?xan_BadFigures___init__ ?xve_BadFigures___init__ ?xow_BadFigures___init__ ?rmn_BadFigures___init__ ?xfn_BadFigures___init__ ?xco_BadFigures___init__ ?xcd_BadFigures___init__ ?rvs_BadFigures___init__ ?rfi_BadFigures___init__ ?xcc_BadFigures___init__ ?xl_BadWeights___init__ ?xrb_BadWeights___init__ ?xsa_BadWeights___init__ ?xga_BadWeights___init__ ?xgg_BadWeights___init__ ?xnf_BadWeights___init__ ?xic_BadWeights___init__ ?xtc_BadWeights___init__ ?xhd_BadWeights___init__ ?xup_BadWeights___init__ ?xan_BadWeights___init__ ?xve_BadWeights___init__ ?xow_BadWeights___init__ ?rmn_BadWeights___init__ ?xfn_BadWeights___init__ ?xco_BadWeights___init__ ?xcd_BadWeights___init__ ?rvs_BadWeights___init__ ?rfi_BadWeights___init__ ?xcc_BadWeights___init__ ?xl_BadRests___init__ ?xrb_BadRests___init__ ?xsa_BadRests___init__ ?xga_BadRests___init__ ?xgg_BadRests___init__ ?xnf_BadRests___init__ ?xic_BadRests___init__ ?xtc_BadRests___init__ ?xhd_BadRests___init__ ?xup_BadRests___init__ ?xan_BadRests___init__ ?xve_BadRests___init__ ?xow_BadRests___init__ ?rmn_BadRests___init__ ?xfn_BadRests___init__ ?xco_BadRests___init__ ?xcd_BadRests___init__ ?rvs_BadRests___init__ ?rfi_BadRests___init__ ?xcc_BadRests___init__ ?xl_BadTricks___init__ ?xrb_BadTricks___init__ ?xsa_BadTricks___init__ ?xga_BadTricks___init__ ?xgg_BadTricks___init__ ?xnf_BadTricks___init__ ?xic_BadTricks___init__ ?xtc_BadTricks___init__ ?xhd_BadTricks___init__ ?xup_BadTricks___init__ ?xan_BadTricks___init__ ?xve_BadTricks___init__ ?xow_BadTricks___init__ ?rmn_BadTricks___init__ ?xfn_BadTricks___init__ ?xco_BadTricks___init__ ?xcd_BadTricks___init__ ?rvs_BadTricks___init__ ?rfi_BadTricks___init__ ?xcc_BadTricks___init__ ?xl_BadPairs___init__ ?xrb_BadPairs___init__ ?xsa_BadPairs___init__ ?xga_BadPairs___init__ ?xgg_BadPairs___init__ ?xnf_BadPairs___init__ ?xic_BadPairs___init__ ?xtc_BadPairs___init__ ?xhd_BadPairs___init__ ?xup_BadPairs___init__ ?xan_BadPairs___init__ ?xve_BadPairs___init__ ?xow_BadPairs___init__ ?rmn_BadPairs___init__ ?xfn_BadPairs___init__ ?xco_BadPairs___init__ ?xcd_BadPairs___init__ ?rvs_BadPairs___init__ ?rfi_BadPairs___init__ ?xcc_BadPairs___init__ ?xl_TooWide___init__ ?xrb_TooWide___init__ ?xsa_TooWide___init__ ?xga_TooWide___init__ ?xgg_TooWide___init__ ?xnf_TooWide___init__ ?xic_TooWide___init__ ?xtc_TooWide___init__ ?xhd_TooWide___init__ ?xup_TooWide___init__ ?xan_TooWide___init__ ?xve_TooWide___init__ ?xow_TooWide___init__ ?rmn_TooWide___init__ ?xfn_TooWide___init__ ?xco_TooWide___init__ ?xcd_TooWide___init__ ?rvs_TooWide___init__ ?rfi_TooWide___init__ ?xcc_TooWide___init__ ?xl_InvalidText___init__ ?xrb_InvalidText___init__ ?xsa_InvalidText___init__ ?xga_InvalidText___init__ ?xgg_InvalidText___init__ ?xnf_InvalidText___init__ ?xic_InvalidText___init__ ?xtc_InvalidText___init__ ?xhd_InvalidText___init__ ?xup_InvalidText___init__ ?xan_InvalidText___init__ ?xve_InvalidText___init__ ?xow_InvalidText___init__ ?rmn_InvalidText___init__ ?xfn_InvalidText___init__ ?xco_InvalidText___init__ ?xcd_InvalidText___init__ ?rvs_InvalidText___init__ ?rfi_InvalidText___init__ ?xcc_InvalidText___init__
    (case gx_TrickError => k_is)
    (case x_TrickError => k_exc)
    (case k_TrickError => first | (as_aux_lemma => k_is) | k_is)
    (case s_TrickError => first | (as_aux_lemma => k_is) | k_is)
    (case t_TrickError => first | (as_aux_lemma => k_is) | k_is)
    (case hd_TrickError => first | (as_aux_lemma => k_is) | k_is)
    (case gx_BadBase => k_is)
    (case x_BadBase => k_exc)
    (case k_BadBase => first | (as_aux_lemma => k_is) | k_is)
    (case s_BadBase => first | (as_aux_lemma => k_is) | k_is)
    (case t_BadBase => first | (as_aux_lemma => k_is) | k_is)
    (case hd_BadBase => first | (as_aux_lemma => k_is) | k_is)
    (case gx_BadTake => k_is)
    (case x_BadTake => k_exc)
    (case k_BadTake => first | (as_aux_lemma => k_is) | k_is)
    (case s_BadTake => first | (as_aux_lemma => k_is) | k_is)
    (case t_BadTake => first | (as_aux_lemma => k_is) | k_is)
    (case hd_BadTake => first | (as_aux_lemma => k_is) | k_is)
    (case gx_BadTimes => k_is)
    (case x_BadTimes => k_exc)
    (case k_BadTimes => first | (as_aux_lemma => k_is) | k_is)
    (case s_BadTimes => first | (as_aux_lemma => k_is) | k_is)
    (case t_BadTimes => first | (as_aux_lemma => k_is) | k_is)
    (case hd_BadTimes => first | (as_aux_lemma => k_is) | k_is)
    (case gx_BadTrick => k_is)
    (case x_BadTrick => k_exc)
    (case k_BadTrick => first | (as_aux_lemma => k_is) | k_is)
    (case s_BadTrick => first | (as_aux_lemma => k_is) | k_is)
    (case t_BadTrick => first | (as_aux_lemma => k_is) | k_is)
    (case hd_BadTrick => first | (as_aux_lemma => k_is) | k_is)
    (case gx_BadDivisor => k_is)
    (case x_BadDivisor => k_exc)
    (case k_BadDivisor => first | (as_aux_lemma => k_is) | k_is)
    (case s_BadDivisor => first | (as_aux_lemma => k_is) | k_is)
    (case t_BadDivisor => first | (as_aux_lemma => k_is) | k_is)
    (case hd_BadDivisor => first | (as_aux_lemma => k_is) | k_is)
    (case gx_BadSum => k_is)
    (case x_BadSum => k_exc)
    (case k_BadSum => first | (as_aux_lemma => k_is) | k_is)
    (case s_BadSum => first | (as_aux_lemma => k_is) | k_is)
    (case t_BadSum => first | (as_aux_lemma => k_is) | k_is)
    (case hd_BadSum => first | (as_aux_lemma => k_is) | k_is)
    (case gx_BadRest => k_is)
    (case x_BadRest => k_exc)
    (case k_BadRest => first | (as_aux_lemma => k_is) | k_is)
    (case s_BadRest => first | (as_aux_lemma => k_is) | k_is)
    (case t_BadRest => first | (as_aux_lemma => k_is) | k_is)
    (case hd_BadRest => first | (as_aux_lemma => k_is) | k_is)
    (case gx_BadNumber => k_is)
    (case k_BadNumber => first | (as_aux_lemma => k_is) | k_is)
    (case s_BadNumber => first | (as_aux_lemma => k_is) | k_is)
    (case t_BadNumber => first | (as_aux_lemma => k_is) | k_is)
    (case hd_BadNumber => first | (as_aux_lemma => k_is) | k_is)
    (case gx_BadFigures => k_is)
    (case k_BadFigures => first | (as_aux_lemma => k_is) | k_is)
    (case s_BadFigures => first | (as_aux_lemma => k_is) | k_is)
    (case t_BadFigures => first | (as_aux_lemma => k_is) | k_is)
    (case hd_BadFigures => first | (as_aux_lemma => k_is) | k_is)
    (case gx_BadWeights => k_is)
    (case k_BadWeights => first | (as_aux_lemma => k_is) | k_is)
    (case s_BadWeights => first | (as_aux_lemma => k_is) | k_is)
    (case t_BadWeights => first | (as_aux_lemma => k_is) | k_is)
    (case hd_BadWeights => first | (as_aux_lemma => k_is) | k_is)
    (case gx_BadRests => k_is)
    (case k_BadRests => first | (as_aux_lemma => k_is) | k_is)
    (case s_BadRests => first | (as_aux_lemma => k_is) | k_is)
    (case t_BadRests => first | (as_aux_lemma => k_is) | k_is)
    (case hd_BadRests => first | (as_aux_lemma => k_is) | k_is)
    (case gx_BadTricks => k_is)
    (case k_BadTricks => first | (as_aux_lemma => k_is) | k_is)
    (case s_BadTricks => first | (as_aux_lemma => k_is) | k_is)
    (case t_BadTricks => first | (as_aux_lemma => k_is) | k_is)
    (case hd_BadTricks => first | (as_aux_lemma => k_is) | k_is)
    (case gx_BadPairs => k_is)
    (case k_BadPairs => first | (as_aux_lemma => k_is) | k_is)
    (case s_BadPairs => first | (as_aux_lemma => k_is) | k_is)
    (case t_BadPairs => first | (as_aux_lemma => k_is) | k_is)
    (case hd_BadPairs => first | (as_aux_lemma => k_is) | k_is)
    (case gx_TooWide => k_is)
    (case k_TooWide => first | (as_aux_lemma => k_is) | k_is)
    (case s_TooWide => first | (as_aux_lemma => k_is) | k_is)
    (case t_TooWide => first | (as_aux_lemma => k_is) | k_is)
    (case hd_TooWide => first | (as_aux_lemma => k_is) | k_is)
    (case gx_InvalidText => k_is)
    (case k_InvalidText => first | (as_aux_lemma => k_is) | k_is)
    (case s_InvalidText => first | (as_aux_lemma => k_is) | k_is)
    (case t_InvalidText => first | (as_aux_lemma => k_is) | k_is)
    (case hd_InvalidText => first | (as_aux_lemma => k_is) | k_is)
    (case su_TrickError_BadBase => first | k_is | rfl)
    (case su_TrickError_BadDivisor => first | k_is | rfl)
    (case su_TrickError_BadFigures => first | k_is | rfl)
    (case su_TrickError_BadNumber => first | k_is | rfl)
    (case su_TrickError_BadPairs => first | k_is | rfl)
    (case su_TrickError_BadRest => first | k_is | rfl)
    (case su_TrickError_BadRests => first | k_is | rfl)
    (case su_TrickError_BadSum => first | k_is | rfl)
    (case su_TrickError_BadTake => first | k_is | rfl)
    (case su_TrickError_BadTimes => first | k_is | rfl)
    (case su_TrickError_BadTrick => first | k_is | rfl)
    (case su_TrickError_BadTricks => first | k_is | rfl)
    (case su_TrickError_BadWeights => first | k_is | rfl)
    (case su_TrickError_InvalidText => first | k_is | rfl)
    (case su_TrickError_TooWide => first | k_is | rfl)
    (case su_TrickError_TrickError => first | k_is | rfl)
    (case su_BadBase_BadBase => first | k_is | rfl)
    (case su_BadBase_BadDivisor => first | k_is | rfl)
    (case su_BadBase_BadFigures => first | k_is | rfl)
    (case su_BadBase_BadNumber => first | k_is | rfl)
    (case su_BadBase_BadPairs => first | k_is | rfl)
    (case su_BadBase_BadRest => first | k_is | rfl)
    (case su_BadBase_BadRests => first | k_is | rfl)
    (case su_BadBase_BadSum => first | k_is | rfl)
    (case su_BadBase_BadTake => first | k_is | rfl)
    (case su_BadBase_BadTimes => first | k_is | rfl)
    (case su_BadBase_BadTrick => first | k_is | rfl)
    (case su_BadBase_BadTricks => first | k_is | rfl)
    (case su_BadBase_BadWeights => first | k_is | rfl)
    (case su_BadBase_InvalidText => first | k_is | rfl)
    (case su_BadBase_TooWide => first | k_is | rfl)
    (case su_BadBase_TrickError => first | k_is | rfl)
    (case su_BadTake_BadBase => first | k_is | rfl)
    (case su_BadTake_BadDivisor => first | k_is | rfl)
    (case su_BadTake_BadFigures => first | k_is | rfl)
    (case su_BadTake_BadNumber => first | k_is | rfl)
    (case su_BadTake_BadPairs => first | k_is | rfl)
    (case su_BadTake_BadRest => first | k_is | rfl)
    (case su_BadTake_BadRests => first | k_is | rfl)
    (case su_BadTake_BadSum => first | k_is | rfl)
    (case su_BadTake_BadTake => first | k_is | rfl)
    (case su_BadTake_BadTimes => first | k_is | rfl)
    (case su_BadTake_BadTrick => first | k_is | rfl)
    (case su_BadTake_BadTricks => first | k_is | rfl)
    (case su_BadTake_BadWeights => first | k_is | rfl)
    (case su_BadTake_InvalidText => first | k_is | rfl)
    (case su_BadTake_TooWide => first | k_is | rfl)
    (case su_BadTake_TrickError => first | k_is | rfl)
    (case su_BadTimes_BadBase => first | k_is | rfl)
    (case su_BadTimes_BadDivisor => first | k_is | rfl)
    (case su_BadTimes_BadFigures => first | k_is | rfl)
    (case su_BadTimes_BadNumber => first | k_is | rfl)
    (case su_BadTimes_BadPairs => first | k_is | rfl)
    (case su_BadTimes_BadRest => first | k_is | rfl)
    (case su_BadTimes_BadRests => first | k_is | rfl)
    (case su_BadTimes_BadSum => first | k_is | rfl)
    (case su_BadTimes_BadTake => first | k_is | rfl)
    (case su_BadTimes_BadTimes => first | k_is | rfl)
    (case su_BadTimes_BadTrick => first | k_is | rfl)
    (case su_BadTimes_BadTricks => first | k_is | rfl)
    (case su_BadTimes_BadWeights => first | k_is | rfl)
    (case su_BadTimes_InvalidText => first | k_is | rfl)
    (case su_BadTimes_TooWide => first | k_is | rfl)
    (case su_BadTimes_TrickError => first | k_is | rfl)
    (case su_BadTrick_BadBase => first | k_is | rfl)
    (case su_BadTrick_BadDivisor => first | k_is | rfl)
    (case su_BadTrick_BadFigures => first | k_is | rfl)
    (case su_BadTrick_BadNumber => first | k_is | rfl)
    (case su_BadTrick_BadPairs => first | k_is | rfl)
    (case su_BadTrick_BadRest => first | k_is | rfl)
    (case su_BadTrick_BadRests => first | k_is | rfl)
    (case su_BadTrick_BadSum => first | k_is | rfl)
    (case su_BadTrick_BadTake => first | k_is | rfl)
    (case su_BadTrick_BadTimes => first | k_is | rfl)
    (case su_BadTrick_BadTrick => first | k_is | rfl)
    (case su_BadTrick_BadTricks => first | k_is | rfl)
    (case su_BadTrick_BadWeights => first | k_is | rfl)
    (case su_BadTrick_InvalidText => first | k_is | rfl)
    (case su_BadTrick_TooWide => first | k_is | rfl)
    (case su_BadTrick_TrickError => first | k_is | rfl)
    (case su_BadDivisor_BadBase => first | k_is | rfl)
    (case su_BadDivisor_BadDivisor => first | k_is | rfl)
    (case su_BadDivisor_BadFigures => first | k_is | rfl)
    (case su_BadDivisor_BadNumber => first | k_is | rfl)
    (case su_BadDivisor_BadPairs => first | k_is | rfl)
    (case su_BadDivisor_BadRest => first | k_is | rfl)
    (case su_BadDivisor_BadRests => first | k_is | rfl)
    (case su_BadDivisor_BadSum => first | k_is | rfl)
    (case su_BadDivisor_BadTake => first | k_is | rfl)
    (case su_BadDivisor_BadTimes => first | k_is | rfl)
    (case su_BadDivisor_BadTrick => first | k_is | rfl)
    (case su_BadDivisor_BadTricks => first | k_is | rfl)
    (case su_BadDivisor_BadWeights => first | k_is | rfl)
    (case su_BadDivisor_InvalidText => first | k_is | rfl)
    (case su_BadDivisor_TooWide => first | k_is | rfl)
    (case su_BadDivisor_TrickError => first | k_is | rfl)
    (case su_BadSum_BadBase => first | k_is | rfl)
    (case su_BadSum_BadDivisor => first | k_is | rfl)
    (case su_BadSum_BadFigures => first | k_is | rfl)
    (case su_BadSum_BadNumber => first | k_is | rfl)
    (case su_BadSum_BadPairs => first | k_is | rfl)
    (case su_BadSum_BadRest => first | k_is | rfl)
    (case su_BadSum_BadRests => first | k_is | rfl)
    (case su_BadSum_BadSum => first | k_is | rfl)
    (case su_BadSum_BadTake => first | k_is | rfl)
    (case su_BadSum_BadTimes => first | k_is | rfl)
    (case su_BadSum_BadTrick => first | k_is | rfl)
    (case su_BadSum_BadTricks => first | k_is | rfl)
    (case su_BadSum_BadWeights => first | k_is | rfl)
    (case su_BadSum_InvalidText => first | k_is | rfl)
    (case su_BadSum_TooWide => first | k_is | rfl)
    (case su_BadSum_TrickError => first | k_is | rfl)
    (case su_BadRest_BadBase => first | k_is | rfl)
    (case su_BadRest_BadDivisor => first | k_is | rfl)
    (case su_BadRest_BadFigures => first | k_is | rfl)
    (case su_BadRest_BadNumber => first | k_is | rfl)
    (case su_BadRest_BadPairs => first | k_is | rfl)
    (case su_BadRest_BadRest => first | k_is | rfl)
    (case su_BadRest_BadRests => first | k_is | rfl)
    (case su_BadRest_BadSum => first | k_is | rfl)
    (case su_BadRest_BadTake => first | k_is | rfl)
    (case su_BadRest_BadTimes => first | k_is | rfl)
    (case su_BadRest_BadTrick => first | k_is | rfl)
    (case su_BadRest_BadTricks => first | k_is | rfl)
    (case su_BadRest_BadWeights => first | k_is | rfl)
    (case su_BadRest_InvalidText => first | k_is | rfl)
    (case su_BadRest_TooWide => first | k_is | rfl)
    (case su_BadRest_TrickError => first | k_is | rfl)
    (case su_BadNumber_BadBase => first | k_is | rfl)
    (case su_BadNumber_BadDivisor => first | k_is | rfl)
    (case su_BadNumber_BadFigures => first | k_is | rfl)
    (case su_BadNumber_BadNumber => first | k_is | rfl)
    (case su_BadNumber_BadPairs => first | k_is | rfl)
    (case su_BadNumber_BadRest => first | k_is | rfl)
    (case su_BadNumber_BadRests => first | k_is | rfl)
    (case su_BadNumber_BadSum => first | k_is | rfl)
    (case su_BadNumber_BadTake => first | k_is | rfl)
    (case su_BadNumber_BadTimes => first | k_is | rfl)
    (case su_BadNumber_BadTrick => first | k_is | rfl)
    (case su_BadNumber_BadTricks => first | k_is | rfl)
    (case su_BadNumber_BadWeights => first | k_is | rfl)
    (case su_BadNumber_InvalidText => first | k_is | rfl)
    (case su_BadNumber_TooWide => first | k_is | rfl)
    (case su_BadNumber_TrickError => first | k_is | rfl)
    (case su_BadFigures_BadBase => first | k_is | rfl)
    (case su_BadFigures_BadDivisor => first | k_is | rfl)
    (case su_BadFigures_BadFigures => first | k_is | rfl)
    (case su_BadFigures_BadNumber => first | k_is | rfl)
    (case su_BadFigures_BadPairs => first | k_is | rfl)
    (case su_BadFigures_BadRest => first | k_is | rfl)
    (case su_BadFigures_BadRests => first | k_is | rfl)
    (case su_BadFigures_BadSum => first | k_is | rfl)
    (case su_BadFigures_BadTake => first | k_is | rfl)
    (case su_BadFigures_BadTimes => first | k_is | rfl)
    (case su_BadFigures_BadTrick => first | k_is | rfl)
    (case su_BadFigures_BadTricks => first | k_is | rfl)
    (case su_BadFigures_BadWeights => first | k_is | rfl)
    (case su_BadFigures_InvalidText => first | k_is | rfl)
    (case su_BadFigures_TooWide => first | k_is | rfl)
    (case su_BadFigures_TrickError => first | k_is | rfl)
    (case su_BadWeights_BadBase => first | k_is | rfl)
    (case su_BadWeights_BadDivisor => first | k_is | rfl)
    (case su_BadWeights_BadFigures => first | k_is | rfl)
    (case su_BadWeights_BadNumber => first | k_is | rfl)
    (case su_BadWeights_BadPairs => first | k_is | rfl)
    (case su_BadWeights_BadRest => first | k_is | rfl)
    (case su_BadWeights_BadRests => first | k_is | rfl)
    (case su_BadWeights_BadSum => first | k_is | rfl)
    (case su_BadWeights_BadTake => first | k_is | rfl)
    (case su_BadWeights_BadTimes => first | k_is | rfl)
    (case su_BadWeights_BadTrick => first | k_is | rfl)
    (case su_BadWeights_BadTricks => first | k_is | rfl)
    (case su_BadWeights_BadWeights => first | k_is | rfl)
    (case su_BadWeights_InvalidText => first | k_is | rfl)
    (case su_BadWeights_TooWide => first | k_is | rfl)
    (case su_BadWeights_TrickError => first | k_is | rfl)
    (case su_BadRests_BadBase => first | k_is | rfl)
    (case su_BadRests_BadDivisor => first | k_is | rfl)
    (case su_BadRests_BadFigures => first | k_is | rfl)
    (case su_BadRests_BadNumber => first | k_is | rfl)
    (case su_BadRests_BadPairs => first | k_is | rfl)
    (case su_BadRests_BadRest => first | k_is | rfl)
    (case su_BadRests_BadRests => first | k_is | rfl)
    (case su_BadRests_BadSum => first | k_is | rfl)
    (case su_BadRests_BadTake => first | k_is | rfl)
    (case su_BadRests_BadTimes => first | k_is | rfl)
    (case su_BadRests_BadTrick => first | k_is | rfl)
    (case su_BadRests_BadTricks => first | k_is | rfl)
    (case su_BadRests_BadWeights => first | k_is | rfl)
    (case su_BadRests_InvalidText => first | k_is | rfl)
    (case su_BadRests_TooWide => first | k_is | rfl)
    (case su_BadRests_TrickError => first | k_is | rfl)
    (case su_BadTricks_BadBase => first | k_is | rfl)
    (case su_BadTricks_BadDivisor => first | k_is | rfl)
    (case su_BadTricks_BadFigures => first | k_is | rfl)
    (case su_BadTricks_BadNumber => first | k_is | rfl)
    (case su_BadTricks_BadPairs => first | k_is | rfl)
    (case su_BadTricks_BadRest => first | k_is | rfl)
    (case su_BadTricks_BadRests => first | k_is | rfl)
    (case su_BadTricks_BadSum => first | k_is | rfl)
    (case su_BadTricks_BadTake => first | k_is | rfl)
    (case su_BadTricks_BadTimes => first | k_is | rfl)
    (case su_BadTricks_BadTrick => first | k_is | rfl)
    (case su_BadTricks_BadTricks => first | k_is | rfl)
    (case su_BadTricks_BadWeights => first | k_is | rfl)
    (case su_BadTricks_InvalidText => first | k_is | rfl)
    (case su_BadTricks_TooWide => first | k_is | rfl)
    (case su_BadTricks_TrickError => first | k_is | rfl)
    (case su_BadPairs_BadBase => first | k_is | rfl)
    (case su_BadPairs_BadDivisor => first | k_is | rfl)
    (case su_BadPairs_BadFigures => first | k_is | rfl)
    (case su_BadPairs_BadNumber => first | k_is | rfl)
    (case su_BadPairs_BadPairs => first | k_is | rfl)
    (case su_BadPairs_BadRest => first | k_is | rfl)
    (case su_BadPairs_BadRests => first | k_is | rfl)
    (case su_BadPairs_BadSum => first | k_is | rfl)
    (case su_BadPairs_BadTake => first | k_is | rfl)
    (case su_BadPairs_BadTimes => first | k_is | rfl)
    (case su_BadPairs_BadTrick => first | k_is | rfl)
    (case su_BadPairs_BadTricks => first | k_is | rfl)
    (case su_BadPairs_BadWeights => first | k_is | rfl)
    (case su_BadPairs_InvalidText => first | k_is | rfl)
    (case su_BadPairs_TooWide => first | k_is | rfl)
    (case su_BadPairs_TrickError => first | k_is | rfl)
    (case su_TooWide_BadBase => first | k_is | rfl)
    (case su_TooWide_BadDivisor => first | k_is | rfl)
    (case su_TooWide_BadFigures => first | k_is | rfl)
    (case su_TooWide_BadNumber => first | k_is | rfl)
    (case su_TooWide_BadPairs => first | k_is | rfl)
    (case su_TooWide_BadRest => first | k_is | rfl)
    (case su_TooWide_BadRests => first | k_is | rfl)
    (case su_TooWide_BadSum => first | k_is | rfl)
    (case su_TooWide_BadTake => first | k_is | rfl)
    (case su_TooWide_BadTimes => first | k_is | rfl)
    (case su_TooWide_BadTrick => first | k_is | rfl)
    (case su_TooWide_BadTricks => first | k_is | rfl)
    (case su_TooWide_BadWeights => first | k_is | rfl)
    (case su_TooWide_InvalidText => first | k_is | rfl)
    (case su_TooWide_TooWide => first | k_is | rfl)
    (case su_TooWide_TrickError => first | k_is | rfl)
    (case su_InvalidText_BadBase => first | k_is | rfl)
    (case su_InvalidText_BadDivisor => first | k_is | rfl)
    (case su_InvalidText_BadFigures => first | k_is | rfl)
    (case su_InvalidText_BadNumber => first | k_is | rfl)
    (case su_InvalidText_BadPairs => first | k_is | rfl)
    (case su_InvalidText_BadRest => first | k_is | rfl)
    (case su_InvalidText_BadRests => first | k_is | rfl)
    (case su_InvalidText_BadSum => first | k_is | rfl)
    (case su_InvalidText_BadTake => first | k_is | rfl)
    (case su_InvalidText_BadTimes => first | k_is | rfl)
    (case su_InvalidText_BadTrick => first | k_is | rfl)
    (case su_InvalidText_BadTricks => first | k_is | rfl)
    (case su_InvalidText_BadWeights => first | k_is | rfl)
    (case su_InvalidText_InvalidText => first | k_is | rfl)
    (case su_InvalidText_TooWide => first | k_is | rfl)
    (case su_InvalidText_TrickError => first | k_is | rfl)
    (case cx_GREATEST_NUMBER => k_is)
    (case cx_LEAST_BASE => k_is)
    (case cx_GREATEST_BASE => k_is)
    (case cx_GREATEST_TAKE => k_is)
    (case cx_GREATEST_DIVISOR => k_is)
    (case cx_MOST_FIGURES => k_is)
    (case cx_GREATEST_TIMES => k_is)
    (case cx_MOST_TRICKS => k_is)
    (case cx_GREATEST_CHAIN_DIVISOR => k_is)
    (case cx_GREATEST_PRODUCT => k_is)
    (case cx_MOST_LABELS => k_is)
    (case cx_GREATEST_LABEL => k_is)
    (case cx_GREATEST_WEIGHT => k_is)
    (case cx_MOST_WEIGHTS => k_is)
    (case cx_MOST_PAIRS => k_is)
    (case df_is_integer => as_aux_lemma => (refine' ⟨_, _, ?gf, L2.fun_mk (st := Rt.s_is_integer) ?lk ?cd ?kp⟩; (case gf => k_is); (case lk => k_is); (case cd => k_is); (case kp => k_is)))
    (case df_is_tuple => as_aux_lemma => (refine' ⟨_, _, ?gf, L2.fun_mk (st := Rt.s_is_tuple) ?lk ?cd ?kp⟩; (case gf => k_is); (case lk => k_is); (case cd => k_is); (case kp => k_is)))
    (case df_is_list_or_tuple => as_aux_lemma => (refine' ⟨_, _, ?gf, L2.fun_mk (st := Rt.s_is_list_or_tuple) ?lk ?cd ?kp⟩; (case gf => k_is); (case lk => k_is); (case cd => k_is); (case kp => k_is)))
    (case df_is_number => as_aux_lemma => (refine' ⟨_, _, ?gf, L2.fun_mk (st := Rt.s_is_number) ?lk ?cd ?kp⟩; (case gf => k_is); (case lk => k_is); (case cd => k_is); (case kp => k_is)))
    (case df_first_wrong => as_aux_lemma => (refine' ⟨_, _, ?gf, L2.fun_mk (st := Rt.s_first_wrong) ?lk ?cd ?kp⟩; (case gf => k_is); (case lk => k_is); (case cd => k_is); (case kp => k_is)))
    (case df_check_base => as_aux_lemma => (refine' ⟨_, _, ?gf, L2.fun_mk (st := Rt.s_check_base) ?lk ?cd ?kp⟩; (case gf => k_is); (case lk => k_is); (case cd => k_is); (case kp => k_is)))
    (case df_check_take => as_aux_lemma => (refine' ⟨_, _, ?gf, L2.fun_mk (st := Rt.s_check_take) ?lk ?cd ?kp⟩; (case gf => k_is); (case lk => k_is); (case cd => k_is); (case kp => k_is)))
    (case gf_check_divisor => k_is)
    (case l_check_divisor => k_is)
    (case c_check_divisor => first | (as_aux_lemma => k_is) | k_is)
    (case kp_check_divisor => first | (as_aux_lemma => k_is) | k_is)
    (case ldT_check_divisor => k_is)
    (case rdv_check_divisor => first | rfl | decide +kernel)
    (case df_check_stretch => as_aux_lemma => (refine' ⟨_, _, ?gf, L2.fun_mk (st := Rt.s_check_stretch) ?lk ?cd ?kp⟩; (case gf => k_is); (case lk => k_is); (case cd => k_is); (case kp => k_is)))
    (case df_check_number => as_aux_lemma => (refine' ⟨_, _, ?gf, L2.fun_mk (st := Rt.s_check_number) ?lk ?cd ?kp⟩; (case gf => k_is); (case lk => k_is); (case cd => k_is); (case kp => k_is)))
    (case df_figures => as_aux_lemma => (refine' ⟨_, _, ?gf, L2.fun_mk (st := Rt.s_figures) ?lk ?cd ?kp⟩; (case gf => k_is); (case lk => k_is); (case cd => k_is); (case kp => k_is)))
    (case df_number => as_aux_lemma => (refine' ⟨_, _, ?gf, L2.fun_mk (st := Rt.s_number) ?lk ?cd ?kp⟩; (case gf => k_is); (case lk => k_is); (case cd => k_is); (case kp => k_is)))
    (case df_check_figures => as_aux_lemma => (refine' ⟨_, _, ?gf, L2.fun_mk (st := Rt.s_check_figures) ?lk ?cd ?kp⟩; (case gf => k_is); (case lk => k_is); (case cd => k_is); (case kp => k_is)))
    (case df_block_of => as_aux_lemma => (refine' ⟨_, _, ?gf, L2.fun_mk (st := Rt.s_block_of) ?lk ?cd ?kp⟩; (case gf => k_is); (case lk => k_is); (case cd => k_is); (case kp => k_is)))
    (case df_done => as_aux_lemma => (refine' ⟨_, _, ?gf, L2.fun_mk (st := Rt.s_done) ?lk ?cd ?kp⟩; (case gf => k_is); (case lk => k_is); (case cd => k_is); (case kp => k_is)))
    (case df_check_trick => as_aux_lemma => (refine' ⟨_, _, ?gf, L2.fun_mk (st := Rt.s_check_trick) ?lk ?cd ?kp⟩; (case gf => k_is); (case lk => k_is); (case cd => k_is); (case kp => k_is)))
    (case df_trick_block => as_aux_lemma => (refine' ⟨_, _, ?gf, L2.fun_mk (st := Rt.s_trick_block) ?lk ?cd ?kp⟩; (case gf => k_is); (case lk => k_is); (case cd => k_is); (case kp => k_is)))
    (case df_made_of => as_aux_lemma => (refine' ⟨_, _, ?gf, L2.fun_mk (st := Rt.s_made_of) ?lk ?cd ?kp⟩; (case gf => k_is); (case lk => k_is); (case cd => k_is); (case kp => k_is)))
    (case df_made_with => as_aux_lemma => (refine' ⟨_, _, ?gf, L2.fun_mk (st := Rt.s_made_with) ?lk ?cd ?kp⟩; (case gf => k_is); (case lk => k_is); (case cd => k_is); (case kp => k_is)))
    (case df_chained => as_aux_lemma => (refine' ⟨_, _, ?gf, L2.fun_mk (st := Rt.s_chained) ?lk ?cd ?kp⟩; (case gf => k_is); (case lk => k_is); (case cd => k_is); (case kp => k_is)))
    (case df_chain_tells => as_aux_lemma => (refine' ⟨_, _, ?gf, L2.fun_mk (st := Rt.s_chain_tells) ?lk ?cd ?kp⟩; (case gf => k_is); (case lk => k_is); (case cd => k_is); (case kp => k_is)))
    (case df_check_tricks => as_aux_lemma => (refine' ⟨_, _, ?gf, L2.fun_mk (st := Rt.s_check_tricks) ?lk ?cd ?kp⟩; (case gf => k_is); (case lk => k_is); (case cd => k_is); (case kp => k_is)))
    (case df_check_chain => as_aux_lemma => (refine' ⟨_, _, ?gf, L2.fun_mk (st := Rt.s_check_chain) ?lk ?cd ?kp⟩; (case gf => k_is); (case lk => k_is); (case cd => k_is); (case kp => k_is)))
    (case df_made_of_all => as_aux_lemma => (refine' ⟨_, _, ?gf, L2.fun_mk (st := Rt.s_made_of_all) ?lk ?cd ?kp⟩; (case gf => k_is); (case lk => k_is); (case cd => k_is); (case kp => k_is)))
    (case df_blocks_product => as_aux_lemma => (refine' ⟨_, _, ?gf, L2.fun_mk (st := Rt.s_blocks_product) ?lk ?cd ?kp⟩; (case gf => k_is); (case lk => k_is); (case cd => k_is); (case kp => k_is)))
    (case df_rest_pairs => as_aux_lemma => (refine' ⟨_, _, ?gf, L2.fun_mk (st := Rt.s_rest_pairs) ?lk ?cd ?kp⟩; (case gf => k_is); (case lk => k_is); (case cd => k_is); (case kp => k_is)))
    (case df_tells => as_aux_lemma => (refine' ⟨_, _, ?gf, L2.fun_mk (st := Rt.s_tells) ?lk ?cd ?kp⟩; (case gf => k_is); (case lk => k_is); (case cd => k_is); (case kp => k_is)))
    (case df_keeps_rest => as_aux_lemma => (refine' ⟨_, _, ?gf, L2.fun_mk (st := Rt.s_keeps_rest) ?lk ?cd ?kp⟩; (case gf => k_is); (case lk => k_is); (case cd => k_is); (case kp => k_is)))
    (case df_tells_multiples => as_aux_lemma => (refine' ⟨_, _, ?gf, L2.fun_mk (st := Rt.s_tells_multiples) ?lk ?cd ?kp⟩; (case gf => k_is); (case lk => k_is); (case cd => k_is); (case kp => k_is)))
    (case df_front_states => as_aux_lemma => (refine' ⟨_, _, ?gf, L2.fun_mk (st := Rt.s_front_states) ?lk ?cd ?kp⟩; (case gf => k_is); (case lk => k_is); (case cd => k_is); (case kp => k_is)))
    (case df_front_classes => as_aux_lemma => (refine' ⟨_, _, ?gf, L2.fun_mk (st := Rt.s_front_classes) ?lk ?cd ?kp⟩; (case gf => k_is); (case lk => k_is); (case cd => k_is); (case kp => k_is)))
    (case df_front_word => as_aux_lemma => (refine' ⟨_, _, ?gf, L2.fun_mk (st := Rt.s_front_word) ?lk ?cd ?kp⟩; (case gf => k_is); (case lk => k_is); (case cd => k_is); (case kp => k_is)))
    (case df_check_labels => as_aux_lemma => (refine' ⟨_, _, ?gf, L2.fun_mk (st := Rt.s_check_labels) ?lk ?cd ?kp⟩; (case gf => k_is); (case lk => k_is); (case cd => k_is); (case kp => k_is)))
    (case df_check_rest => as_aux_lemma => (refine' ⟨_, _, ?gf, L2.fun_mk (st := Rt.s_check_rest) ?lk ?cd ?kp⟩; (case gf => k_is); (case lk => k_is); (case cd => k_is); (case kp => k_is)))
    (case df_front_machine => as_aux_lemma => (refine' ⟨_, _, ?gf, L2.fun_mk (st := Rt.s_front_machine) ?lk ?cd ?kp⟩; (case gf => k_is); (case lk => k_is); (case cd => k_is); (case kp => k_is)))
    (case df_classes => as_aux_lemma => (refine' ⟨_, _, ?gf, L2.fun_mk (st := Rt.s_classes) ?lk ?cd ?kp⟩; (case gf => k_is); (case lk => k_is); (case cd => k_is); (case kp => k_is)))
    (case df_numbered => as_aux_lemma => (refine' ⟨_, _, ?gf, L2.fun_mk (st := Rt.s_numbered) ?lk ?cd ?kp⟩; (case gf => k_is); (case lk => k_is); (case cd => k_is); (case kp => k_is)))
    (case df_least_word => as_aux_lemma => (refine' ⟨_, _, ?gf, L2.fun_mk (st := Rt.s_least_word) ?lk ?cd ?kp⟩; (case gf => k_is); (case lk => k_is); (case cd => k_is); (case kp => k_is)))
    (case df_total => as_aux_lemma => (refine' ⟨_, _, ?gf, L2.fun_mk (st := Rt.s_total) ?lk ?cd ?kp⟩; (case gf => k_is); (case lk => k_is); (case cd => k_is); (case kp => k_is)))
    (case df_check_weights => as_aux_lemma => (refine' ⟨_, _, ?gf, L2.fun_mk (st := Rt.s_check_weights) ?lk ?cd ?kp⟩; (case gf => k_is); (case lk => k_is); (case cd => k_is); (case kp => k_is)))
    (case df_check_sum => as_aux_lemma => (refine' ⟨_, _, ?gf, L2.fun_mk (st := Rt.s_check_sum) ?lk ?cd ?kp⟩; (case gf => k_is); (case lk => k_is); (case cd => k_is); (case kp => k_is)))
    (case df_sum_block => as_aux_lemma => (refine' ⟨_, _, ?gf, L2.fun_mk (st := Rt.s_sum_block) ?lk ?cd ?kp⟩; (case gf => k_is); (case lk => k_is); (case cd => k_is); (case kp => k_is)))
    (case df_weight_at => as_aux_lemma => (refine' ⟨_, _, ?gf, L2.fun_mk (st := Rt.s_weight_at) ?lk ?cd ?kp⟩; (case gf => k_is); (case lk => k_is); (case cd => k_is); (case kp => k_is)))
    (case df_read => as_aux_lemma => (refine' ⟨_, _, ?gf, L2.fun_mk (st := Rt.s_read) ?lk ?cd ?kp⟩; (case gf => k_is); (case lk => k_is); (case cd => k_is); (case kp => k_is)))
    (case df_possible_words => as_aux_lemma => (refine' ⟨_, _, ?gf, L2.fun_mk (st := Rt.s_possible_words) ?lk ?cd ?kp⟩; (case gf => k_is); (case lk => k_is); (case cd => k_is); (case kp => k_is)))
    (case df_written => as_aux_lemma => (refine' ⟨_, _, ?gf, L2.fun_mk (st := Rt.s_written) ?lk ?cd ?kp⟩; (case gf => k_is); (case lk => k_is); (case cd => k_is); (case kp => k_is)))
    (case df_fitting => as_aux_lemma => (refine' ⟨_, _, ?gf, L2.fun_mk (st := Rt.s_fitting) ?lk ?cd ?kp⟩; (case gf => k_is); (case lk => k_is); (case cd => k_is); (case kp => k_is)))
    (case df_check_pairs => as_aux_lemma => (refine' ⟨_, _, ?gf, L2.fun_mk (st := Rt.s_check_pairs) ?lk ?cd ?kp⟩; (case gf => k_is); (case lk => k_is); (case cd => k_is); (case kp => k_is)))
    (case df_is_pair => as_aux_lemma => (refine' ⟨_, _, ?gf, L2.fun_mk (st := Rt.s_is_pair) ?lk ?cd ?kp⟩; (case gf => k_is); (case lk => k_is); (case cd => k_is); (case kp => k_is)))
    (case df_fitting_times => as_aux_lemma => (refine' ⟨_, _, ?gf, L2.fun_mk (st := Rt.s_fitting_times) ?lk ?cd ?kp⟩; (case gf => k_is); (case lk => k_is); (case cd => k_is); (case kp => k_is)))
    (case df__law_taken => as_aux_lemma => (refine' ⟨_, _, ?gf, L2.fun_mk (st := Rt.s__law_taken) ?lk ?cd ?kp⟩; (case gf => k_is); (case lk => k_is); (case cd => k_is); (case kp => k_is)))
    (case df__law_call => as_aux_lemma => (refine' ⟨_, _, ?gf, L2.fun_mk (st := Rt.s__law_call) ?lk ?cd ?kp⟩; (case gf => k_is); (case lk => k_is); (case cd => k_is); (case kp => k_is)))
    (case df__law_early => as_aux_lemma => (refine' ⟨_, _, ?gf, L2.fun_mk (st := Rt.s__law_early) ?lk ?cd ?kp⟩; (case gf => k_is); (case lk => k_is); (case cd => k_is); (case kp => k_is)))
    (case df__law_first => as_aux_lemma => (refine' ⟨_, _, ?gf, L2.fun_mk (st := Rt.s__law_first) ?lk ?cd ?kp⟩; (case gf => k_is); (case lk => k_is); (case cd => k_is); (case kp => k_is)))
    (case df__law_second => as_aux_lemma => (refine' ⟨_, _, ?gf, L2.fun_mk (st := Rt.s__law_second) ?lk ?cd ?kp⟩; (case gf => k_is); (case lk => k_is); (case cd => k_is); (case kp => k_is)))
    (case gf_law => k_is)
    (case l_law => k_is)
    (case c_law => first | (as_aux_lemma => k_is) | k_is)
    (case kp_law => first | (as_aux_lemma => k_is) | k_is)
    (case gx_Trick => k_is)
    (case pg_Trick => first | (as_aux_lemma => k_is) | k_is)
    (case hd_Trick => first | (as_aux_lemma => k_is) | k_is)
    (case po_Trick => first | (as_aux_lemma => k_is) | k_is)
    (case sa_Trick => first | (as_aux_lemma => k_is) | k_is)
    (case mk_Trick => first | (as_aux_lemma => k_is) | k_is)
    (case kc_Trick => first | (as_aux_lemma => k_is) | k_is)
    (case cc_Trick => first | (as_aux_lemma => k_is) | k_is)
    (case mo_Trick => first | (as_aux_lemma => k_is) | k_is)
    (case sp_cls => first | (as_aux_lemma => k_is) | k_is)
    (case tk_cls => first | (as_aux_lemma => k_is) | k_is)
    (case ki_Trick_int => first | k_is | rfl)
    (case ki_Trick_bool => first | k_is | rfl)
    (case ki_Trick_tuple => first | k_is | rfl)
    (case ki_Trick_list => first | k_is | rfl)
    (case nf_Trick_tuple => first | k_is | rfl)
    (case kis_Trick => first | k_is | rfl)
    (case kin_Trick_int => first | k_is | rfl)
    (case kin_Trick_bool => first | k_is | rfl)
    (case kin_Trick_tuple => first | k_is | rfl)
    (case kin_Trick_list => first | k_is | rfl)
    (case kin_Trick_NoneType => first | k_is | rfl)
    (case kin_Trick_str => first | k_is | rfl)
    (case kin_Trick_dict => first | k_is | rfl)
    (case na_Trick_base => first | (as_aux_lemma => k_is) | k_is)
    (case na_Trick_take => first | (as_aux_lemma => k_is) | k_is)
    (case na_Trick_times => first | (as_aux_lemma => k_is) | k_is)
    (case gf_Trick___init__ => k_is)
    (case l_Trick___init__ => k_is)
    (case c_Trick___init__ => first | (as_aux_lemma => k_is) | k_is)
    (case kp_Trick___init__ => first | (as_aux_lemma => k_is) | k_is)
    (case isf_Trick___init__ => first | (as_aux_lemma => k_is) | k_is)
    (case pa_Trick_base => k_is)
    (case pg_Trick_base => first | (as_aux_lemma => k_is) | k_is)
    (case pt_Trick_base => first | (as_aux_lemma => k_is) | k_is)
    (case prr_Trick_base => k_is)
    (case l_Trick_base => k_is)
    (case c_Trick_base => first | (as_aux_lemma => k_is) | k_is)
    (case kp_Trick_base => first | (as_aux_lemma => k_is) | k_is)
    (case pa_Trick_take => k_is)
    (case pg_Trick_take => first | (as_aux_lemma => k_is) | k_is)
    (case pt_Trick_take => first | (as_aux_lemma => k_is) | k_is)
    (case prr_Trick_take => k_is)
    (case l_Trick_take => k_is)
    (case c_Trick_take => first | (as_aux_lemma => k_is) | k_is)
    (case kp_Trick_take => first | (as_aux_lemma => k_is) | k_is)
    (case pa_Trick_times => k_is)
    (case pg_Trick_times => first | (as_aux_lemma => k_is) | k_is)
    (case pt_Trick_times => first | (as_aux_lemma => k_is) | k_is)
    (case prr_Trick_times => k_is)
    (case l_Trick_times => k_is)
    (case c_Trick_times => first | (as_aux_lemma => k_is) | k_is)
    (case kp_Trick_times => first | (as_aux_lemma => k_is) | k_is)
    (case gf_Trick___eq__ => k_is)
    (case l_Trick___eq__ => k_is)
    (case c_Trick___eq__ => first | (as_aux_lemma => k_is) | k_is)
    (case kp_Trick___eq__ => first | (as_aux_lemma => k_is) | k_is)
    (case isf_Trick___eq__ => first | (as_aux_lemma => k_is) | k_is)
    (case gx_Sum => k_is)
    (case pg_Sum => first | (as_aux_lemma => k_is) | k_is)
    (case hd_Sum => first | (as_aux_lemma => k_is) | k_is)
    (case po_Sum => first | (as_aux_lemma => k_is) | k_is)
    (case sa_Sum => first | (as_aux_lemma => k_is) | k_is)
    (case mk_Sum => first | (as_aux_lemma => k_is) | k_is)
    (case kc_Sum => first | (as_aux_lemma => k_is) | k_is)
    (case cc_Sum => first | (as_aux_lemma => k_is) | k_is)
    (case mo_Sum => first | (as_aux_lemma => k_is) | k_is)
    (case ki_Sum_int => first | k_is | rfl)
    (case ki_Sum_bool => first | k_is | rfl)
    (case ki_Sum_tuple => first | k_is | rfl)
    (case ki_Sum_list => first | k_is | rfl)
    (case nf_Sum_tuple => first | k_is | rfl)
    (case kis_Sum => first | k_is | rfl)
    (case kin_Sum_int => first | k_is | rfl)
    (case kin_Sum_bool => first | k_is | rfl)
    (case kin_Sum_tuple => first | k_is | rfl)
    (case kin_Sum_list => first | k_is | rfl)
    (case kin_Sum_NoneType => first | k_is | rfl)
    (case kin_Sum_str => first | k_is | rfl)
    (case kin_Sum_dict => first | k_is | rfl)
    (case na_Sum_base => first | (as_aux_lemma => k_is) | k_is)
    (case na_Sum_first => first | (as_aux_lemma => k_is) | k_is)
    (case na_Sum_loop => first | (as_aux_lemma => k_is) | k_is)
    (case na_Sum_take => first | (as_aux_lemma => k_is) | k_is)
    (case gf_Sum___init__ => k_is)
    (case l_Sum___init__ => k_is)
    (case c_Sum___init__ => first | (as_aux_lemma => k_is) | k_is)
    (case kp_Sum___init__ => first | (as_aux_lemma => k_is) | k_is)
    (case isf_Sum___init__ => first | (as_aux_lemma => k_is) | k_is)
    (case pa_Sum_base => k_is)
    (case pg_Sum_base => first | (as_aux_lemma => k_is) | k_is)
    (case pt_Sum_base => first | (as_aux_lemma => k_is) | k_is)
    (case prr_Sum_base => k_is)
    (case l_Sum_base => k_is)
    (case c_Sum_base => first | (as_aux_lemma => k_is) | k_is)
    (case kp_Sum_base => first | (as_aux_lemma => k_is) | k_is)
    (case pa_Sum_take => k_is)
    (case pg_Sum_take => first | (as_aux_lemma => k_is) | k_is)
    (case pt_Sum_take => first | (as_aux_lemma => k_is) | k_is)
    (case prr_Sum_take => k_is)
    (case l_Sum_take => k_is)
    (case c_Sum_take => first | (as_aux_lemma => k_is) | k_is)
    (case kp_Sum_take => first | (as_aux_lemma => k_is) | k_is)
    (case pa_Sum_first => k_is)
    (case pg_Sum_first => first | (as_aux_lemma => k_is) | k_is)
    (case pt_Sum_first => first | (as_aux_lemma => k_is) | k_is)
    (case prr_Sum_first => k_is)
    (case l_Sum_first => k_is)
    (case c_Sum_first => first | (as_aux_lemma => k_is) | k_is)
    (case kp_Sum_first => first | (as_aux_lemma => k_is) | k_is)
    (case pa_Sum_loop => k_is)
    (case pg_Sum_loop => first | (as_aux_lemma => k_is) | k_is)
    (case pt_Sum_loop => first | (as_aux_lemma => k_is) | k_is)
    (case prr_Sum_loop => k_is)
    (case l_Sum_loop => k_is)
    (case c_Sum_loop => first | (as_aux_lemma => k_is) | k_is)
    (case kp_Sum_loop => first | (as_aux_lemma => k_is) | k_is)
    (case gf_Sum___eq__ => k_is)
    (case l_Sum___eq__ => k_is)
    (case c_Sum___eq__ => first | (as_aux_lemma => k_is) | k_is)
    (case kp_Sum___eq__ => first | (as_aux_lemma => k_is) | k_is)
    (case isf_Sum___eq__ => first | (as_aux_lemma => k_is) | k_is)
    (case z_int => k_is)
    (case z_bool => k_is)
    (case z_len => k_is)
    (case z_range => k_is)
    (case z_isinstance => k_is)
    (case z_tuple => k_is)
    (case z_list => k_is)
    (case z_reversed => k_is)
    (case z_enumerate => k_is)
    (case z_all => k_is)
    (case z_min => k_is)
    (case z_max => k_is)
    (case z_super => k_is)
    (case z_str => k_is)
    (case z_zip => k_is)
    (case z_ValueError => k_is)
    (case xl_BadNumber___init__ => k_is)
    (case xrb_BadNumber___init__ => first | rfl | decide +kernel)
    (case xsa_BadNumber___init__ => first | (as_aux_lemma => k_is) | k_is)
    (case xga_BadNumber___init__ => first | (as_aux_lemma => k_is) | k_is)
    (case xgg_BadNumber___init__ => first | (as_aux_lemma => k_is) | k_is)
    (case xnf_BadNumber___init__ => first | (as_aux_lemma => k_is) | k_is)
    (case xic_BadNumber___init__ => k_is)
    (case xtc_BadNumber___init__ => first | (as_aux_lemma => k_is) | k_is)
    (case xhd_BadNumber___init__ => first | (as_aux_lemma => k_is) | k_is)
    (case xup_BadNumber___init__ => ks_is)
    (case xan_BadNumber___init__ => first | (as_aux_lemma => k_is) | k_is)
    (case xve_BadNumber___init__ => first | (as_aux_lemma => k_is) | k_is)
    (case xow_BadNumber___init__ => first | (as_aux_lemma => k_is) | k_is)
    (case rmn_BadNumber___init__ => first | rfl | decide +kernel)
    (case xfn_BadNumber___init__ => k_is)
    (case xco_BadNumber___init__ => first | (as_aux_lemma => k_is) | k_is)
    (case xcd_BadNumber___init__ => k_is)
    (case rvs_BadNumber___init__ => first | rfl | decide +kernel)
    (case rfi_BadNumber___init__ => first | rfl | decide +kernel)
    (case xcc_BadNumber___init__ => k_is)
    (case xl_BadFigures___init__ => k_is)
    (case xrb_BadFigures___init__ => first | rfl | decide +kernel)
    (case xsa_BadFigures___init__ => first | (as_aux_lemma => k_is) | k_is)
    (case xga_BadFigures___init__ => first | (as_aux_lemma => k_is) | k_is)
    (case xgg_BadFigures___init__ => first | (as_aux_lemma => k_is) | k_is)
    (case xnf_BadFigures___init__ => first | (as_aux_lemma => k_is) | k_is)
    (case xic_BadFigures___init__ => k_is)
    (case xtc_BadFigures___init__ => first | (as_aux_lemma => k_is) | k_is)
    (case xhd_BadFigures___init__ => first | (as_aux_lemma => k_is) | k_is)
    (case xup_BadFigures___init__ => ks_is)
    (case xan_BadFigures___init__ => first | (as_aux_lemma => k_is) | k_is)
    (case xve_BadFigures___init__ => first | (as_aux_lemma => k_is) | k_is)
    (case xow_BadFigures___init__ => first | (as_aux_lemma => k_is) | k_is)
    (case rmn_BadFigures___init__ => first | rfl | decide +kernel)
    (case xfn_BadFigures___init__ => k_is)
    (case xco_BadFigures___init__ => first | (as_aux_lemma => k_is) | k_is)
    (case xcd_BadFigures___init__ => k_is)
    (case rvs_BadFigures___init__ => first | rfl | decide +kernel)
    (case rfi_BadFigures___init__ => first | rfl | decide +kernel)
    (case xcc_BadFigures___init__ => k_is)
    (case xl_BadWeights___init__ => k_is)
    (case xrb_BadWeights___init__ => first | rfl | decide +kernel)
    (case xsa_BadWeights___init__ => first | (as_aux_lemma => k_is) | k_is)
    (case xga_BadWeights___init__ => first | (as_aux_lemma => k_is) | k_is)
    (case xgg_BadWeights___init__ => first | (as_aux_lemma => k_is) | k_is)
    (case xnf_BadWeights___init__ => first | (as_aux_lemma => k_is) | k_is)
    (case xic_BadWeights___init__ => k_is)
    (case xtc_BadWeights___init__ => first | (as_aux_lemma => k_is) | k_is)
    (case xhd_BadWeights___init__ => first | (as_aux_lemma => k_is) | k_is)
    (case xup_BadWeights___init__ => ks_is)
    (case xan_BadWeights___init__ => first | (as_aux_lemma => k_is) | k_is)
    (case xve_BadWeights___init__ => first | (as_aux_lemma => k_is) | k_is)
    (case xow_BadWeights___init__ => first | (as_aux_lemma => k_is) | k_is)
    (case rmn_BadWeights___init__ => first | rfl | decide +kernel)
    (case xfn_BadWeights___init__ => k_is)
    (case xco_BadWeights___init__ => first | (as_aux_lemma => k_is) | k_is)
    (case xcd_BadWeights___init__ => k_is)
    (case rvs_BadWeights___init__ => first | rfl | decide +kernel)
    (case rfi_BadWeights___init__ => first | rfl | decide +kernel)
    (case xcc_BadWeights___init__ => k_is)
    (case xl_BadRests___init__ => k_is)
    (case xrb_BadRests___init__ => first | rfl | decide +kernel)
    (case xsa_BadRests___init__ => first | (as_aux_lemma => k_is) | k_is)
    (case xga_BadRests___init__ => first | (as_aux_lemma => k_is) | k_is)
    (case xgg_BadRests___init__ => first | (as_aux_lemma => k_is) | k_is)
    (case xnf_BadRests___init__ => first | (as_aux_lemma => k_is) | k_is)
    (case xic_BadRests___init__ => k_is)
    (case xtc_BadRests___init__ => first | (as_aux_lemma => k_is) | k_is)
    (case xhd_BadRests___init__ => first | (as_aux_lemma => k_is) | k_is)
    (case xup_BadRests___init__ => ks_is)
    (case xan_BadRests___init__ => first | (as_aux_lemma => k_is) | k_is)
    (case xve_BadRests___init__ => first | (as_aux_lemma => k_is) | k_is)
    (case xow_BadRests___init__ => first | (as_aux_lemma => k_is) | k_is)
    (case rmn_BadRests___init__ => first | rfl | decide +kernel)
    (case xfn_BadRests___init__ => k_is)
    (case xco_BadRests___init__ => first | (as_aux_lemma => k_is) | k_is)
    (case xcd_BadRests___init__ => k_is)
    (case rvs_BadRests___init__ => first | rfl | decide +kernel)
    (case rfi_BadRests___init__ => first | rfl | decide +kernel)
    (case xcc_BadRests___init__ => k_is)
    (case xl_BadTricks___init__ => k_is)
    (case xrb_BadTricks___init__ => first | rfl | decide +kernel)
    (case xsa_BadTricks___init__ => first | (as_aux_lemma => k_is) | k_is)
    (case xga_BadTricks___init__ => first | (as_aux_lemma => k_is) | k_is)
    (case xgg_BadTricks___init__ => first | (as_aux_lemma => k_is) | k_is)
    (case xnf_BadTricks___init__ => first | (as_aux_lemma => k_is) | k_is)
    (case xic_BadTricks___init__ => k_is)
    (case xtc_BadTricks___init__ => first | (as_aux_lemma => k_is) | k_is)
    (case xhd_BadTricks___init__ => first | (as_aux_lemma => k_is) | k_is)
    (case xup_BadTricks___init__ => ks_is)
    (case xan_BadTricks___init__ => first | (as_aux_lemma => k_is) | k_is)
    (case xve_BadTricks___init__ => first | (as_aux_lemma => k_is) | k_is)
    (case xow_BadTricks___init__ => first | (as_aux_lemma => k_is) | k_is)
    (case rmn_BadTricks___init__ => first | rfl | decide +kernel)
    (case xfn_BadTricks___init__ => k_is)
    (case xco_BadTricks___init__ => first | (as_aux_lemma => k_is) | k_is)
    (case xcd_BadTricks___init__ => k_is)
    (case rvs_BadTricks___init__ => first | rfl | decide +kernel)
    (case rfi_BadTricks___init__ => first | rfl | decide +kernel)
    (case xcc_BadTricks___init__ => k_is)
    (case xl_BadPairs___init__ => k_is)
    (case xrb_BadPairs___init__ => first | rfl | decide +kernel)
    (case xsa_BadPairs___init__ => first | (as_aux_lemma => k_is) | k_is)
    (case xga_BadPairs___init__ => first | (as_aux_lemma => k_is) | k_is)
    (case xgg_BadPairs___init__ => first | (as_aux_lemma => k_is) | k_is)
    (case xnf_BadPairs___init__ => first | (as_aux_lemma => k_is) | k_is)
    (case xic_BadPairs___init__ => k_is)
    (case xtc_BadPairs___init__ => first | (as_aux_lemma => k_is) | k_is)
    (case xhd_BadPairs___init__ => first | (as_aux_lemma => k_is) | k_is)
    (case xup_BadPairs___init__ => ks_is)
    (case xan_BadPairs___init__ => first | (as_aux_lemma => k_is) | k_is)
    (case xve_BadPairs___init__ => first | (as_aux_lemma => k_is) | k_is)
    (case xow_BadPairs___init__ => first | (as_aux_lemma => k_is) | k_is)
    (case rmn_BadPairs___init__ => first | rfl | decide +kernel)
    (case xfn_BadPairs___init__ => k_is)
    (case xco_BadPairs___init__ => first | (as_aux_lemma => k_is) | k_is)
    (case xcd_BadPairs___init__ => k_is)
    (case rvs_BadPairs___init__ => first | rfl | decide +kernel)
    (case rfi_BadPairs___init__ => first | rfl | decide +kernel)
    (case xcc_BadPairs___init__ => k_is)
    (case xl_TooWide___init__ => k_is)
    (case xrb_TooWide___init__ => first | rfl | decide +kernel)
    (case xsa_TooWide___init__ => first | (as_aux_lemma => k_is) | k_is)
    (case xga_TooWide___init__ => first | (as_aux_lemma => k_is) | k_is)
    (case xgg_TooWide___init__ => first | (as_aux_lemma => k_is) | k_is)
    (case xnf_TooWide___init__ => first | (as_aux_lemma => k_is) | k_is)
    (case xic_TooWide___init__ => k_is)
    (case xtc_TooWide___init__ => first | (as_aux_lemma => k_is) | k_is)
    (case xhd_TooWide___init__ => first | (as_aux_lemma => k_is) | k_is)
    (case xup_TooWide___init__ => ks_is)
    (case xan_TooWide___init__ => first | (as_aux_lemma => k_is) | k_is)
    (case xve_TooWide___init__ => first | (as_aux_lemma => k_is) | k_is)
    (case xow_TooWide___init__ => first | (as_aux_lemma => k_is) | k_is)
    (case rmn_TooWide___init__ => first | rfl | decide +kernel)
    (case xfn_TooWide___init__ => k_is)
    (case xco_TooWide___init__ => first | (as_aux_lemma => k_is) | k_is)
    (case xcd_TooWide___init__ => k_is)
    (case rvs_TooWide___init__ => first | rfl | decide +kernel)
    (case rfi_TooWide___init__ => first | rfl | decide +kernel)
    (case xcc_TooWide___init__ => k_is)
    (case xl_InvalidText___init__ => k_is)
    (case xrb_InvalidText___init__ => first | rfl | decide +kernel)
    (case xsa_InvalidText___init__ => first | (as_aux_lemma => k_is) | k_is)
    (case xga_InvalidText___init__ => first | (as_aux_lemma => k_is) | k_is)
    (case xgg_InvalidText___init__ => first | (as_aux_lemma => k_is) | k_is)
    (case xnf_InvalidText___init__ => first | (as_aux_lemma => k_is) | k_is)
    (case xic_InvalidText___init__ => k_is)
    (case xtc_InvalidText___init__ => first | (as_aux_lemma => k_is) | k_is)
    (case xhd_InvalidText___init__ => first | (as_aux_lemma => k_is) | k_is)
    (case xup_InvalidText___init__ => ks_is)
    (case xan_InvalidText___init__ => first | (as_aux_lemma => k_is) | k_is)
    (case xve_InvalidText___init__ => first | (as_aux_lemma => k_is) | k_is)
    (case xow_InvalidText___init__ => first | (as_aux_lemma => k_is) | k_is)
    (case rmn_InvalidText___init__ => first | rfl | decide +kernel)
    (case xfn_InvalidText___init__ => k_is)
    (case xco_InvalidText___init__ => first | (as_aux_lemma => k_is) | k_is)
    (case xcd_InvalidText___init__ => k_is)
    (case rvs_InvalidText___init__ => first | rfl | decide +kernel)
    (case rfi_InvalidText___init__ => first | rfl | decide +kernel)
    (case xcc_InvalidText___init__ => k_is)
#print axioms PySem.Challenge.cw_resttricks_k42_errors_are_apart_holds
