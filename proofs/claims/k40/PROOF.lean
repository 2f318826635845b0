import PyProof.Rows.All
import Wide.All
import OpenK.AllK
import Wide.FinOn
import HandS.ForMost
import HandS.Exc
import HandS.TryOnly
import HandS.ExcOwn
import HandS.WordsExc
import HandS.TryMany
import HandS.IsInst
import HandS.Property
import HandS.Wide
import HandS.SortInts
import HandS.Conv
import HandS.Evl
import HandS.NoneIn
import HandS.ExcIs
import HandS.ExcSuper
import KE.KExcSuper
import KE.KExcInit
import KE.GoesMore
import HandS.Rev
import HandS.FStr
import HandS.Walk
import HandS.WideMore
import HandS.TupAny
import HandS.TupMul
import HandS.Style
import HandS.SetFor
import HandS.Strs
import HandS.Defaults
import HandS.RaiseMore
import HandS.Zip
import HandS.DictTup
import HandS.TupLen
import KE.KDictDisplayH
import HandS.Records
import KE.KDictKeyed
import KE.KeyNested
import HandS.TupLen
import PySem.Challenge.RW_resttricks_k40_what_holds
import HandS.Head2
set_option Elab.async false
set_option linter.all false
set_option maxRecDepth 100000
set_option maxHeartbeats 2000000
/-! ### the top, run -/
namespace Rt
section
open PySem PySem.W PySem.Calls PyProof.Rows
abbrev topRow : OpenRow := OpenLaw.row PySem.Challenge.rw_resttricks_k40_what_holds
section
local macro_rules | `(tactic| o_head $_) => `(tactic| assumption)
theorem topPart (h : OpenRow.Holds topRow) : OpenRow.Holds topRow := by k_head
end
def topOthers0 : List PySem.Str := [("__name__" : PySem.Str), ("TrickError" : PySem.Str), ("BadBase" : PySem.Str), ("BadTake" : PySem.Str), ("BadTimes" : PySem.Str), ("BadTrick" : PySem.Str), ("BadNumber" : PySem.Str), ("BadDivisor" : PySem.Str), ("BadWeights" : PySem.Str), ("BadSum" : PySem.Str)]
def topOthers1 : List PySem.Str := [("BadRests" : PySem.Str), ("BadTricks" : PySem.Str), ("TooWide" : PySem.Str), ("GREATEST_NUMBER" : PySem.Str), ("LEAST_BASE" : PySem.Str), ("GREATEST_BASE" : PySem.Str), ("GREATEST_TAKE" : PySem.Str), ("GREATEST_DIVISOR" : PySem.Str), ("is_integer" : PySem.Str), ("is_tuple" : PySem.Str)]
def topOthers2 : List PySem.Str := [("is_list_or_tuple" : PySem.Str), ("is_number" : PySem.Str), ("first_wrong" : PySem.Str), ("check_base" : PySem.Str), ("check_take" : PySem.Str), ("check_divisor" : PySem.Str), ("check_number" : PySem.Str), ("block_of" : PySem.Str), ("GREATEST_TIMES" : PySem.Str), ("Trick" : PySem.Str)]
def topOthers3 : List PySem.Str := [("done" : PySem.Str), ("check_trick" : PySem.Str), ("trick_block" : PySem.Str), ("made_of" : PySem.Str), ("made_with" : PySem.Str), ("tells" : PySem.Str), ("factor" : PySem.Str), ("multipliers" : PySem.Str), ("keeps_rest" : PySem.Str), ("tells_multiples" : PySem.Str)]
def topOthers4 : List PySem.Str := [("MOST_TRICKS" : PySem.Str), ("GREATEST_CHAIN_DIVISOR" : PySem.Str), ("GREATEST_PRODUCT" : PySem.Str), ("chain_tells" : PySem.Str), ("check_tricks" : PySem.Str), ("check_chain" : PySem.Str), ("made_of_all" : PySem.Str), ("blocks_product" : PySem.Str), ("rest_pairs" : PySem.Str), ("bound" : PySem.Str)]
def topOthers5 : List PySem.Str := [("ring_of" : PySem.Str), ("greatest_size" : PySem.Str), ("rounded_up" : PySem.Str), ("unseen_path" : PySem.Str), ("ring_at_end" : PySem.Str), ("MOST_LABELS" : PySem.Str), ("GREATEST_LABEL" : PySem.Str), ("front_states" : PySem.Str), ("front_classes" : PySem.Str), ("check_labels" : PySem.Str)]
def topOthers6 : List PySem.Str := [("front_machine" : PySem.Str), ("classes" : PySem.Str), ("numbered" : PySem.Str), ("GREATEST_WEIGHT" : PySem.Str), ("MOST_WEIGHTS" : PySem.Str), ("GREATEST_SUM_DIVISOR" : PySem.Str), ("Sum" : PySem.Str), ("sum_tells" : PySem.Str), ("sum_rest_fails" : PySem.Str), ("sum_fails" : PySem.Str)]
def topOthers7 : List PySem.Str := [("rest_weights" : PySem.Str), ("check_weights" : PySem.Str), ("check_sum" : PySem.Str), ("sum_block" : PySem.Str), ("weight_at" : PySem.Str), ("power_rests" : PySem.Str), ("nearest" : PySem.Str), ("turn" : PySem.Str), ("new_rests" : PySem.Str), ("_law_taken" : PySem.Str)]
def topOthers8 : List PySem.Str := [("_law_power" : PySem.Str), ("_law_trick" : PySem.Str), ("_law_number" : PySem.Str), ("_law_sum" : PySem.Str), ("_law_labels" : PySem.Str)]
def topOthers : List PySem.Str := topOthers0 ++ (topOthers1 ++ (topOthers2 ++ (topOthers3 ++ (topOthers4 ++ (topOthers5 ++ (topOthers6 ++ (topOthers7 ++ (topOthers8))))))))
def topPlaces0 : List Nat := [2, 3, 15, 22, 23, 24, 25, 28, 35, 36, 37, 40, 47, 48, 49, 52, 59, 60, 61, 64, 71, 72, 73, 76, 79, 84, 85, 87, 88, 90, 91, 92, 93, 94, 97, 104, 105, 106, 109, 112]
def topPlaces1 : List Nat := [117, 118, 120, 121, 123, 124, 125, 126, 127, 130, 137, 138, 139, 142, 145, 150, 151, 153, 154, 156, 157, 158, 159, 160, 163, 166, 171, 172, 174, 175, 177, 178, 179, 180, 181, 184, 187, 192, 193, 195]
def topPlaces2 : List Nat := [196, 198, 199, 200, 201, 202, 205, 207, 208, 210, 211, 212, 214, 215, 217, 218, 219, 221, 222, 224, 225, 226, 228, 229, 231, 232, 233, 235, 236, 238, 239, 240, 242, 243, 245, 246, 247, 249, 250, 252]
def topPlaces3 : List Nat := [253, 254, 255, 257, 258, 260, 261, 262, 264, 265, 267, 268, 269, 271, 272, 274, 275, 283, 285, 286, 288, 289, 290, 292, 293, 295, 296, 297, 298, 300, 301, 303, 304, 305, 306, 308, 309, 311, 312, 313]
def topPlaces4 : List Nat := [314, 316, 317, 319, 320, 321, 322, 323, 324, 325, 328, 330, 331, 333, 334, 335, 337, 338, 340, 341, 342, 344, 345, 347, 348, 349, 351, 352, 354, 355, 356, 358, 359, 361, 362, 363, 365, 366, 368, 369]
def topPlaces5 : List Nat := [370, 372, 373, 375, 376, 377, 380, 381, 382, 384, 385, 387, 388, 389, 391, 392, 394, 395, 396, 399, 400, 401, 403, 404, 406, 407, 408, 410, 411, 413, 414, 415, 417, 418, 420, 421, 422, 424, 425, 427]
def topPlaces6 : List Nat := [428, 429, 432, 433, 434, 437, 438, 439, 441, 442, 444, 445, 446, 448, 449, 451, 452, 453, 455, 456, 458, 459, 460, 462, 463, 465, 466, 467, 469, 470, 472, 473, 474, 476, 477, 479, 480, 481, 483, 484]
def topPlaces7 : List Nat := [486, 487, 488, 490, 491, 493, 494, 495, 498, 499, 500, 503, 504, 505, 507, 508, 510, 511, 519, 521, 522, 524, 525, 526, 528, 529, 531, 532, 533, 534, 536, 537, 539, 540, 541, 542, 544, 545, 547, 548]
def topPlaces8 : List Nat := [549, 550, 552, 553, 555, 556, 557, 558, 560, 561, 563, 564, 565, 566, 567, 568, 569, 572, 574, 575, 577, 578, 579, 581, 582, 584, 585, 586, 588, 589, 591, 592, 593, 596, 597, 598, 600, 601, 603, 604]
def topPlaces9 : List Nat := [605, 607, 608, 610, 611, 612, 614, 615, 617, 618, 619, 621, 622, 624, 625, 626, 628, 629, 631, 632, 633, 635, 636, 638, 639, 640, 642, 643, 645, 646, 647, 649, 650, 652, 653, 654, 656, 657, 659, 660]
def topPlaces10 : List Nat := [661, 663, 664, 666, 667, 668, 671, 672, 673, 675, 676, 678, 679, 680, 683, 684, 685, 688, 689, 690, 693, 694]
def topPlaces : List Nat := topPlaces0 ++ (topPlaces1 ++ (topPlaces2 ++ (topPlaces3 ++ (topPlaces4 ++ (topPlaces5 ++ (topPlaces6 ++ (topPlaces7 ++ (topPlaces8 ++ (topPlaces9 ++ (topPlaces10))))))))))
theorem topPlaces_eq : ∀ P, topPlaces = (topPart.heap_1 P).map (·.1) := fun _ => by kernel_rfl
noncomputable abbrev topHook : Hook := kHook topPart.heap_1 topPlaces topPlaces_eq
noncomputable def topSeen (s : SharedT) : topHook.α := topPlaces.map (HandSHeadRun.getT s)
theorem topSeen_eq (s : SharedT) : topSeen s = topHook.obs s.abs := List.map_congr_left fun a _ => HandSHeadRun.getT_eq s a
theorem topRan (w : World) : HandSHeadRun.RunEq topRow (view topRow.prog [94]) topHook topSeen 11866 topOthers w := by
  intro os
  kernel_rfl
end
end Rt
namespace Rt
open PySem L2 PySem.Spec PyProof.Rows
/-! ### the text by places -/
def topS (i : Nat) : Stmt := PySem.Challenge.pw_resttricks_k40_what_holds.main.body.getD i (.Pass ⟨0, 0, 0, 0⟩)
abbrev s_is_integer : Stmt := topS 19
abbrev s_is_tuple : Stmt := topS 20
abbrev s_is_list_or_tuple : Stmt := topS 21
abbrev s_is_number : Stmt := topS 22
abbrev s_first_wrong : Stmt := topS 23
abbrev s_check_base : Stmt := topS 24
abbrev s_check_take : Stmt := topS 25
abbrev s_check_divisor : Stmt := topS 26
abbrev s_check_number : Stmt := topS 27
abbrev s_block_of : Stmt := topS 29
abbrev s_done : Stmt := topS 33
abbrev s_check_trick : Stmt := topS 34
abbrev s_trick_block : Stmt := topS 35
abbrev s_made_of : Stmt := topS 36
abbrev s_made_with : Stmt := topS 37
abbrev s_tells : Stmt := topS 39
abbrev s_factor : Stmt := topS 40
abbrev s_multipliers : Stmt := topS 41
abbrev s_keeps_rest : Stmt := topS 42
abbrev s_tells_multiples : Stmt := topS 43
abbrev s_chain_tells : Stmt := topS 48
abbrev s_check_tricks : Stmt := topS 49
abbrev s_check_chain : Stmt := topS 50
abbrev s_made_of_all : Stmt := topS 51
abbrev s_blocks_product : Stmt := topS 52
abbrev s_rest_pairs : Stmt := topS 53
abbrev s_bound : Stmt := topS 55
abbrev s_ring_of : Stmt := topS 56
abbrev s_greatest_size : Stmt := topS 57
abbrev s_rounded_up : Stmt := topS 58
abbrev s_unseen_path : Stmt := topS 59
abbrev s_ring_at_end : Stmt := topS 60
abbrev s_front_states : Stmt := topS 64
abbrev s_front_classes : Stmt := topS 65
abbrev s_check_labels : Stmt := topS 66
abbrev s_front_machine : Stmt := topS 67
abbrev s_classes : Stmt := topS 68
abbrev s_numbered : Stmt := topS 69
abbrev s_sum_tells : Stmt := topS 75
abbrev s_sum_rest_fails : Stmt := topS 76
abbrev s_sum_fails : Stmt := topS 77
abbrev s_rest_weights : Stmt := topS 78
abbrev s_check_weights : Stmt := topS 79
abbrev s_check_sum : Stmt := topS 80
abbrev s_sum_block : Stmt := topS 81
abbrev s_weight_at : Stmt := topS 82
abbrev s_power_rests : Stmt := topS 83
abbrev s_nearest : Stmt := topS 84
abbrev s_turn : Stmt := topS 85
abbrev s_new_rests : Stmt := topS 86
abbrev s__law_taken : Stmt := topS 88
abbrev s__law_power : Stmt := topS 89
abbrev s__law_trick : Stmt := topS 90
abbrev s__law_number : Stmt := topS 91
abbrev s__law_sum : Stmt := topS 92
abbrev s__law_labels : Stmt := topS 93
abbrev s_law : Stmt := topS 94
abbrev s_BadNumber___init__ : Stmt := inClass (topS 6) 0
abbrev s_BadWeights___init__ : Stmt := inClass (topS 8) 0
abbrev s_BadRests___init__ : Stmt := inClass (topS 10) 0
abbrev s_BadTricks___init__ : Stmt := inClass (topS 11) 0
abbrev s_TooWide___init__ : Stmt := inClass (topS 12) 0
abbrev s_Trick___init__ : Stmt := inClass (topS 32) 0
abbrev s_Trick_base : Stmt := inClass (topS 32) 1
abbrev s_Trick_take : Stmt := inClass (topS 32) 2
abbrev s_Trick_times : Stmt := inClass (topS 32) 3
abbrev s_Trick___eq__ : Stmt := inClass (topS 32) 4
abbrev s_Sum___init__ : Stmt := inClass (topS 74) 0
abbrev s_Sum_base : Stmt := inClass (topS 74) 1
abbrev s_Sum_take : Stmt := inClass (topS 74) 2
abbrev s_Sum_first : Stmt := inClass (topS 74) 3
abbrev s_Sum_loop : Stmt := inClass (topS 74) 4
abbrev s_Sum___eq__ : Stmt := inClass (topS 74) 5
theorem sc_is_integer : FnScope ["told", "low", "high"] ["told", "low", "high"] (defScope s_is_integer) := ⟨rfl, rfl, rfl, by decide +kernel, rfl, by decide +kernel, by decide +kernel⟩
abbrev lv_is_integer : Nat := 1
theorem sc_is_tuple : FnScope ["told", "fewest", "most"] ["told", "fewest", "most"] (defScope s_is_tuple) := ⟨rfl, rfl, rfl, by decide +kernel, rfl, by decide +kernel, by decide +kernel⟩
abbrev lv_is_tuple : Nat := 1
theorem sc_is_list_or_tuple : FnScope ["told", "fewest", "most"] ["told", "fewest", "most"] (defScope s_is_list_or_tuple) := ⟨rfl, rfl, rfl, by decide +kernel, rfl, by decide +kernel, by decide +kernel⟩
abbrev lv_is_list_or_tuple : Nat := 1
theorem sc_is_number : FnScope ["told"] ["told"] (defScope s_is_number) := ⟨rfl, rfl, rfl, by decide +kernel, rfl, by decide +kernel, by decide +kernel⟩
abbrev lv_is_number : Nat := 2
theorem sc_first_wrong : FnScope ["told", "low", "high", "index", "thing"] ["told", "low", "high"] (defScope s_first_wrong) := ⟨rfl, rfl, rfl, by decide +kernel, rfl, by decide +kernel, by decide +kernel⟩
abbrev lv_first_wrong : Nat := 2
theorem sc_check_base : FnScope ["base"] ["base"] (defScope s_check_base) := ⟨rfl, rfl, rfl, by decide +kernel, rfl, by decide +kernel, by decide +kernel⟩
abbrev lv_check_base : Nat := 2
theorem sc_check_take : FnScope ["take"] ["take"] (defScope s_check_take) := ⟨rfl, rfl, rfl, by decide +kernel, rfl, by decide +kernel, by decide +kernel⟩
abbrev lv_check_take : Nat := 2
theorem sc_check_divisor : FnScope ["d", "greatest"] ["d", "greatest"] (defScope s_check_divisor) := ⟨rfl, rfl, rfl, by decide +kernel, rfl, by decide +kernel, by decide +kernel⟩
abbrev lv_check_divisor : Nat := 2
theorem sc_check_number : FnScope ["n"] ["n"] (defScope s_check_number) := ⟨rfl, rfl, rfl, by decide +kernel, rfl, by decide +kernel, by decide +kernel⟩
abbrev lv_check_number : Nat := 3
theorem sc_block_of : FnScope ["base", "take"] ["base", "take"] (defScope s_block_of) := ⟨rfl, rfl, rfl, by decide +kernel, rfl, by decide +kernel, by decide +kernel⟩
abbrev lv_block_of : Nat := 1
theorem sc_done : FnScope ["trick", "n"] ["trick", "n"] (defScope s_done) := ⟨rfl, rfl, rfl, by decide +kernel, rfl, by decide +kernel, by decide +kernel⟩
abbrev lv_done : Nat := 5
theorem sc_check_trick : FnScope ["trick"] ["trick"] (defScope s_check_trick) := ⟨rfl, rfl, rfl, by decide +kernel, rfl, by decide +kernel, by decide +kernel⟩
abbrev lv_check_trick : Nat := 1
theorem sc_trick_block : FnScope ["trick"] ["trick"] (defScope s_trick_block) := ⟨rfl, rfl, rfl, by decide +kernel, rfl, by decide +kernel, by decide +kernel⟩
abbrev lv_trick_block : Nat := 3
theorem sc_made_of : FnScope ["trick", "n"] ["trick", "n"] (defScope s_made_of) := ⟨rfl, rfl, rfl, by decide +kernel, rfl, by decide +kernel, by decide +kernel⟩
abbrev lv_made_of : Nat := 4
theorem sc_made_with : FnScope ["block", "times", "n"] ["block", "times", "n"] (defScope s_made_with) := ⟨rfl, rfl, rfl, by decide +kernel, rfl, by decide +kernel, by decide +kernel⟩
abbrev lv_made_with : Nat := 1
theorem sc_tells : FnScope ["trick", "d"] ["trick", "d"] (defScope s_tells) := ⟨rfl, rfl, rfl, by decide +kernel, rfl, by decide +kernel, by decide +kernel⟩
abbrev lv_tells : Nat := 5
theorem sc_factor : FnScope ["trick", "d"] ["trick", "d"] (defScope s_factor) := ⟨rfl, rfl, rfl, by decide +kernel, rfl, by decide +kernel, by decide +kernel⟩
abbrev lv_factor : Nat := 4
theorem sc_multipliers : FnScope ["base", "take", "d", "block", "rest"] ["base", "take", "d"] (defScope s_multipliers) := ⟨rfl, rfl, rfl, by decide +kernel, rfl, by decide +kernel, by decide +kernel⟩
abbrev lv_multipliers : Nat := 3
theorem sc_keeps_rest : FnScope ["trick", "d"] ["trick", "d"] (defScope s_keeps_rest) := ⟨rfl, rfl, rfl, by decide +kernel, rfl, by decide +kernel, by decide +kernel⟩
abbrev lv_keeps_rest : Nat := 4
theorem sc_tells_multiples : FnScope ["block", "times", "d"] ["block", "times", "d"] (defScope s_tells_multiples) := ⟨rfl, rfl, rfl, by decide +kernel, rfl, by decide +kernel, by decide +kernel⟩
abbrev lv_tells_multiples : Nat := 1
theorem sc_chain_tells : FnScope ["tricks", "d", "found", "rest", "made"] ["tricks", "d"] (defScope s_chain_tells) := ⟨rfl, rfl, rfl, by decide +kernel, rfl, by decide +kernel, by decide +kernel⟩
abbrev lv_chain_tells : Nat := 7
theorem sc_check_tricks : FnScope ["tricks", "index", "trick"] ["tricks"] (defScope s_check_tricks) := ⟨rfl, rfl, rfl, by decide +kernel, rfl, by decide +kernel, by decide +kernel⟩
abbrev lv_check_tricks : Nat := 3
theorem sc_check_chain : FnScope ["tricks", "d"] ["tricks", "d"] (defScope s_check_chain) := ⟨rfl, rfl, rfl, by decide +kernel, rfl, by decide +kernel, by decide +kernel⟩
abbrev lv_check_chain : Nat := 5
theorem sc_made_of_all : FnScope ["tricks", "n", "trick"] ["tricks", "n"] (defScope s_made_of_all) := ⟨rfl, rfl, rfl, by decide +kernel, rfl, by decide +kernel, by decide +kernel⟩
abbrev lv_made_of_all : Nat := 5
theorem sc_blocks_product : FnScope ["tricks", "found", "trick"] ["tricks"] (defScope s_blocks_product) := ⟨rfl, rfl, rfl, by decide +kernel, rfl, by decide +kernel, by decide +kernel⟩
abbrev lv_blocks_product : Nat := 4
theorem sc_rest_pairs : FnScope ["tricks", "d", "width", "made", "n"] ["tricks", "d"] (defScope s_rest_pairs) := ⟨rfl, rfl, rfl, by decide +kernel, rfl, by decide +kernel, by decide +kernel⟩
abbrev lv_rest_pairs : Nat := 6
theorem sc_bound : FnScope ["trick", "block", "rest"] ["trick"] (defScope s_bound) := ⟨rfl, rfl, rfl, by decide +kernel, rfl, by decide +kernel, by decide +kernel⟩
abbrev lv_bound : Nat := 4
theorem sc_ring_of : FnScope ["trick", "n", "path", "ring"] ["trick", "n"] (defScope s_ring_of) := ⟨rfl, rfl, rfl, by decide +kernel, rfl, by decide +kernel, by decide +kernel⟩
abbrev lv_ring_of : Nat := 6
theorem sc_greatest_size : FnScope ["block", "times", "rest", "equal", "opposite", "least", "greatest"] ["block", "times", "rest"] (defScope s_greatest_size) := ⟨rfl, rfl, rfl, by decide +kernel, rfl, by decide +kernel, by decide +kernel⟩
abbrev lv_greatest_size : Nat := 2
theorem sc_rounded_up : FnScope ["n", "d"] ["n", "d"] (defScope s_rounded_up) := ⟨rfl, rfl, rfl, by decide +kernel, rfl, by decide +kernel, by decide +kernel⟩
abbrev lv_rounded_up : Nat := 1
theorem sc_unseen_path : FnScope ["trick", "n", "seen", "path"] ["trick", "n", "seen"] (defScope s_unseen_path) := ⟨rfl, rfl, rfl, by decide +kernel, rfl, by decide +kernel, by decide +kernel⟩
abbrev lv_unseen_path : Nat := 5
theorem sc_ring_at_end : FnScope ["trick", "path", "ring", "least_at"] ["trick", "path"] (defScope s_ring_at_end) := ⟨rfl, rfl, rfl, by decide +kernel, rfl, by decide +kernel, by decide +kernel⟩
abbrev lv_ring_at_end : Nat := 5
theorem sc_front_states : FnScope ["base", "labels"] ["base", "labels"] (defScope s_front_states) := ⟨rfl, rfl, rfl, by decide +kernel, rfl, by decide +kernel, by decide +kernel⟩
abbrev lv_front_states : Nat := 5
theorem sc_front_classes : FnScope ["base", "labels"] ["base", "labels"] (defScope s_front_classes) := ⟨rfl, rfl, rfl, by decide +kernel, rfl, by decide +kernel, by decide +kernel⟩
abbrev lv_front_classes : Nat := 4
theorem sc_check_labels : FnScope ["labels", "index"] ["labels"] (defScope s_check_labels) := ⟨rfl, rfl, rfl, by decide +kernel, rfl, by decide +kernel, by decide +kernel⟩
abbrev lv_check_labels : Nat := 3
theorem sc_front_machine : FnScope ["base", "labels", "d", "steps", "rest", "figure"] ["base", "labels"] (defScope s_front_machine) := ⟨rfl, rfl, rfl, by decide +kernel, rfl, by decide +kernel, by decide +kernel⟩
abbrev lv_front_machine : Nat := 1
theorem sc_classes : FnScope ["machine", "told", "steps", "found", "finer", "state", "row", "later"] ["machine"] (defScope s_classes) := ⟨rfl, rfl, rfl, by decide +kernel, rfl, by decide +kernel, by decide +kernel⟩
abbrev lv_classes : Nat := 2
theorem sc_numbered : FnScope ["things", "numbers", "found", "thing"] ["things"] (defScope s_numbered) := ⟨rfl, rfl, rfl, by decide +kernel, rfl, by decide +kernel, by decide +kernel⟩
abbrev lv_numbered : Nat := 1
theorem sc_sum_tells : FnScope ["told", "d"] ["told", "d"] (defScope s_sum_tells) := ⟨rfl, rfl, rfl, by decide +kernel, rfl, by decide +kernel, by decide +kernel⟩
abbrev lv_sum_tells : Nat := 6
theorem sc_sum_rest_fails : FnScope ["told", "d", "block", "power", "place"] ["told", "d"] (defScope s_sum_rest_fails) := ⟨rfl, rfl, rfl, by decide +kernel, rfl, by decide +kernel, by decide +kernel⟩
abbrev lv_sum_rest_fails : Nat := 5
theorem sc_sum_fails : FnScope ["told", "d", "block", "least", "place", "power", "idle", "most_idle", "new", "rest", "made", "n"] ["told", "d"] (defScope s_sum_fails) := ⟨rfl, rfl, rfl, by decide +kernel, rfl, by decide +kernel, by decide +kernel⟩
abbrev lv_sum_fails : Nat := 5
theorem sc_rest_weights : FnScope ["base", "take", "d", "before", "again", "rest"] ["base", "take", "d"] (defScope s_rest_weights) := ⟨rfl, rfl, rfl, by decide +kernel, rfl, by decide +kernel, by decide +kernel⟩
abbrev lv_rest_weights : Nat := 3
theorem sc_check_weights : FnScope ["told", "fewest", "index"] ["told", "fewest"] (defScope s_check_weights) := ⟨rfl, rfl, rfl, by decide +kernel, rfl, by decide +kernel, by decide +kernel⟩
abbrev lv_check_weights : Nat := 3
theorem sc_check_sum : FnScope ["told"] ["told"] (defScope s_check_sum) := ⟨rfl, rfl, rfl, by decide +kernel, rfl, by decide +kernel, by decide +kernel⟩
abbrev lv_check_sum : Nat := 1
theorem sc_sum_block : FnScope ["told"] ["told"] (defScope s_sum_block) := ⟨rfl, rfl, rfl, by decide +kernel, rfl, by decide +kernel, by decide +kernel⟩
abbrev lv_sum_block : Nat := 3
theorem sc_weight_at : FnScope ["told", "place", "further"] ["told", "place"] (defScope s_weight_at) := ⟨rfl, rfl, rfl, by decide +kernel, rfl, by decide +kernel, by decide +kernel⟩
abbrev lv_weight_at : Nat := 3
theorem sc_power_rests : FnScope ["block", "d", "rests", "rest", "again"] ["block", "d"] (defScope s_power_rests) := ⟨rfl, rfl, rfl, by decide +kernel, rfl, by decide +kernel, by decide +kernel⟩
abbrev lv_power_rests : Nat := 1
theorem sc_nearest : FnScope ["rest", "d"] ["rest", "d"] (defScope s_nearest) := ⟨rfl, rfl, rfl, by decide +kernel, rfl, by decide +kernel, by decide +kernel⟩
abbrev lv_nearest : Nat := 1
theorem sc_turn : FnScope ["told", "d", "before", "again"] ["told", "d"] (defScope s_turn) := ⟨rfl, rfl, rfl, by decide +kernel, rfl, by decide +kernel, by decide +kernel⟩
abbrev lv_turn : Nat := 4
theorem sc_new_rests : FnScope ["least", "block", "power", "weight", "d", "new", "many", "known", "rest", "made", "n", "pair"] ["least", "block", "power", "weight", "d"] (defScope s_new_rests) := ⟨rfl, rfl, rfl, by decide +kernel, rfl, by decide +kernel, by decide +kernel⟩
abbrev lv_new_rests : Nat := 1
theorem sc__law_taken : FnScope ["_law_row", "_law_many", "_law_found", "_law_cell"] ["_law_row", "_law_many"] (defScope s__law_taken) := ⟨rfl, rfl, rfl, by decide +kernel, rfl, by decide +kernel, by decide +kernel⟩
abbrev lv__law_taken : Nat := 1
theorem sc__law_power : FnScope ["_law_base", "_law_many", "_law_found", "_law_turn"] ["_law_base", "_law_many"] (defScope s__law_power) := ⟨rfl, rfl, rfl, by decide +kernel, rfl, by decide +kernel, by decide +kernel⟩
abbrev lv__law_power : Nat := 1
theorem sc__law_trick : FnScope ["_law_row", "_law_small", "_law_base", "_law_take", "_law_times", "_law_d", "_law_some", "_law_one"] ["_law_row", "_law_small"] (defScope s__law_trick) := ⟨rfl, rfl, rfl, by decide +kernel, rfl, by decide +kernel, by decide +kernel⟩
abbrev lv__law_trick : Nat := 2
theorem sc__law_number : FnScope ["_law_row", "_law_size", "_law_n"] ["_law_row"] (defScope s__law_number) := ⟨rfl, rfl, rfl, by decide +kernel, rfl, by decide +kernel, by decide +kernel⟩
abbrev lv__law_number : Nat := 2
theorem sc__law_sum : FnScope ["_law_row", "_law_d", "_law_base", "_law_take", "_law_block", "_law_kind", "_law_first", "_law_loop", "_law_some", "_law_rest", "_law_at", "_law_unit", "_law_k", "_law_weight"] ["_law_row", "_law_d"] (defScope s__law_sum) := ⟨rfl, rfl, rfl, by decide +kernel, rfl, by decide +kernel, by decide +kernel⟩
abbrev lv__law_sum : Nat := 2
theorem sc__law_labels : FnScope ["_law_row", "_law_most", "_law_d", "_law_kind", "_law_rest"] ["_law_row", "_law_most"] (defScope s__law_labels) := ⟨rfl, rfl, rfl, by decide +kernel, rfl, by decide +kernel, by decide +kernel⟩
abbrev lv__law_labels : Nat := 2
theorem sc_law : FnScope ["_law_script", "_law_line", "_law_told", "_law_d", "_law_trick_here", "_law_block", "_law_word", "_law_n", "_law_k", "_law_rounds_told", "_law_ring", "_law_some", "_law_made", "_law_labels_here", "_law_classes", "_law_rest", "_law_first", "_law_loop", "_law_one"] ["_law_script"] (defScope s_law) := ⟨rfl, rfl, rfl, by decide +kernel, rfl, by decide +kernel, by decide +kernel⟩
abbrev lv_law : Nat := 9
theorem sc_Trick___init__ : FnScope ["self", "base", "take", "times"] ["self", "base", "take", "times"] (defScope s_Trick___init__) := ⟨rfl, rfl, rfl, by decide +kernel, rfl, by decide +kernel, by decide +kernel⟩
abbrev lv_Trick___init__ : Nat := 3
theorem sc_Trick_base : FnScope ["self"] ["self"] (defScope s_Trick_base) := ⟨rfl, rfl, rfl, by decide +kernel, rfl, by decide +kernel, by decide +kernel⟩
abbrev lv_Trick_base : Nat := 1
theorem sc_Trick_take : FnScope ["self"] ["self"] (defScope s_Trick_take) := ⟨rfl, rfl, rfl, by decide +kernel, rfl, by decide +kernel, by decide +kernel⟩
abbrev lv_Trick_take : Nat := 1
theorem sc_Trick_times : FnScope ["self"] ["self"] (defScope s_Trick_times) := ⟨rfl, rfl, rfl, by decide +kernel, rfl, by decide +kernel, by decide +kernel⟩
abbrev lv_Trick_times : Nat := 1
theorem sc_Trick___eq__ : FnScope ["self", "other"] ["self", "other"] (defScope s_Trick___eq__) := ⟨rfl, rfl, rfl, by decide +kernel, rfl, by decide +kernel, by decide +kernel⟩
abbrev lv_Trick___eq__ : Nat := 1
theorem sc_Sum___init__ : FnScope ["self", "base", "take", "first", "loop"] ["self", "base", "take", "first", "loop"] (defScope s_Sum___init__) := ⟨rfl, rfl, rfl, by decide +kernel, rfl, by decide +kernel, by decide +kernel⟩
abbrev lv_Sum___init__ : Nat := 4
theorem sc_Sum_base : FnScope ["self"] ["self"] (defScope s_Sum_base) := ⟨rfl, rfl, rfl, by decide +kernel, rfl, by decide +kernel, by decide +kernel⟩
abbrev lv_Sum_base : Nat := 1
theorem sc_Sum_take : FnScope ["self"] ["self"] (defScope s_Sum_take) := ⟨rfl, rfl, rfl, by decide +kernel, rfl, by decide +kernel, by decide +kernel⟩
abbrev lv_Sum_take : Nat := 1
theorem sc_Sum_first : FnScope ["self"] ["self"] (defScope s_Sum_first) := ⟨rfl, rfl, rfl, by decide +kernel, rfl, by decide +kernel, by decide +kernel⟩
abbrev lv_Sum_first : Nat := 1
theorem sc_Sum_loop : FnScope ["self"] ["self"] (defScope s_Sum_loop) := ⟨rfl, rfl, rfl, by decide +kernel, rfl, by decide +kernel, by decide +kernel⟩
abbrev lv_Sum_loop : Nat := 1
theorem sc_Sum___eq__ : FnScope ["self", "other"] ["self", "other"] (defScope s_Sum___eq__) := ⟨rfl, rfl, rfl, by decide +kernel, rfl, by decide +kernel, by decide +kernel⟩
abbrev lv_Sum___eq__ : Nat := 1
/-! ### what is known of the top behind its run -/
/-! ### an own error whose __init__ says super().__init__(text); self.F = F -/
end Rt
namespace ErrX
open PySem PySem.W PySem.Calls PyProof.Rows PySem.HandSPX
/-- what the written part says of such a class at C, its field F, its __init__ at fI -/
structure ErrTxt (P : Program) (K : Frag) (mg : Str → Option Value) (x fld : Str) (C fI : Addr) (ae : PySem.Expr) (st : Stmt) : Prop where
  gC : mg x = some (.ref C)
  cls : ∃ nm q N bs bm sn sub ab col dd k0 k1 k2 k3 k5, K.lookup C = some (excClassObj nm q C N bs bm true sn sub ab col dd k0 k1 k2 k3 k5 "ValueError.__new__") ∧ refsVE bm = true
  sa : findIn K (.ref C) "__setattr__" = some (some (.builtin "object.__setattr__"))
  ga : findIn K (.ref C) "__getattribute__" = some (some (.builtin "BaseException.__getattribute__"))
  gg : findIn K (.ref C) "__getattr__" = some none
  noF : findIn K (.ref C) fld = some none
  iC : findIn K (.ref C) "__init__" = some (some (.ref fI))
  tC : typeIn K (.ref fI) = some (.type "function")
  kC : keepIn K (.ref C) = true
  exC : subIn K (.ref C) (.type "BaseException") = some true
  tyC : typeIn K (.ref C) = some (.type "type")
  hdC : hasDictIn K C = true
  up : ks_superIn K C C "__init__" = some (some (.builtin "ValueError.__init__"))
  any : nsIn K cStatics "thirdparty.any" = some none
  ve : subIn K (.ref C) (.type "ValueError") = some true
  own : mroIn K C (.ref C) = some true
  sup : mg "super" = none
  main : (P.main.scope.names.lookup ("super" : Str)).isSome = false
  fn : ∃ (oc : Value) (od : Option Addr) (doc pm : Value) (an : Option Addr) (cda : Addr) (ct : Value) (osl : Array (Option Value)) (cc : Addr) (vs : Array Value) (file : Str) (tf : Tok) (ccl cl : Value) (cdd cld : Option Addr) (ccs csl : Array (Option Value)) (qual : Str),
    K.lookup fI = some ⟨oc, od, .func (ksFn "__init__" qual (L2.defArgs st) (L2.defBody st) (L2.defScope st) .none .none doc pm an (.ref cda) ct cc), osl⟩ ∧ codeIn K (.ref cda) qual = true ∧
    K.lookup cda = some ⟨ccl, cdd, .fields vs, ccs⟩ ∧ vs[2]? = some (.str file tf) ∧ ((P.main.file : Str) == file) = true ∧ K.lookup cc = some ⟨cl, cld, .cell (some (.ref C)), csl⟩
  text : ∃ (p0 p1 p2 p3 p4 q1 q2 q3 q4 a1 a2 : Pos), L2.defBody st = [.Expr (.Call (.Attribute (.Call (.Name "super" p0) [] [] p1) "__init__" p2) [ae] [] p3) p4, .Assign [.Attribute (.Name "self" q1) fld q2] (.Name fld q3) q4] ∧
    L2.defArgs st = { posonlyargs := [], args := [{ arg := "self", annotation := none, pos := a1 }, { arg := fld, annotation := none, pos := a2 }], vararg := none, kwonlyargs := [], kw_defaults := [], kwarg := none, defaults := [] } ∧
    ∀ env : Env, eval (.Call (.Attribute (.Call (.Name "super" p0) [] [] p1) "__init__" p2) [ae] [] p3) env = (do
      let ov ← attributeBase (.Call (.Name "super" p0) [] [] p1) "__init__" env (eval (.Call (.Name "super" p0) [] [] p1) env)
      standAt p2.atName
      let (f, first) ← holding [ov] (getMethod ov "__init__" (do return (← importBound (.Call (.Name "super" p0) [] [] p1) env).getD true))
      callWith p3 f first (backTo p3 (starEach [ae] env)) [])
  kS : (L2.defScope st).names.lookup ("super" : Str) = some .globalImplicit
  kK : (L2.defScope st).names.lookup ("__class__" : Str) = some .free
  k0 : (L2.defScope st).names.lookup ("self" : Str) = some .local
  kF : (L2.defScope st).names.lookup fld = some .local
  nF : (("self" : Str) == fld) = false
  nD : (fld == ("__debug__" : Str)) = false
  noCell : ∀ y ∈ (L2.defScope st).names, y.2 ≠ .cell
  bind : ∀ (qual : Str) (doc pm : Value) (an : Option Addr) (cda : Addr) (ct : Value) (cc : Addr) (u v : Value), bindArgs (ksFn "__init__" qual (L2.defArgs st) (L2.defBody st) (L2.defScope st) .none .none doc pm an (.ref cda) ct cc) ⟨[u, v], []⟩ = pure [(("self" : Str), u), (fld, v)]
  plain : ∀ env : Env, starEach (ae :: []) env = (false, eval ae env) :: starEach [] env
  knd : (L2.defScope st).kind = .function
  co : (L2.defScope st).isCoroutine = false
  gen : (L2.defScope st).isGenerator = false
/-- what __init__ leaves of a fresh error at x -/
structure EndOf (h h' : Heap) (x C dx t1 : Addr) (fld : Str) (v : Value) : Prop where
  keep : ∀ b o, b ≠ x → h.get? b = some o → h'.get? b = some o
  obj : h'.get? x = some { cls := .ref C, dict := some dx, data := .fields #[.ref t1, .none, .none, .none, .bool false, .none] }
  dbig : h.objs.size ≤ dx
  dne : dx ≠ x
  ns : h'.Ns1 dx (fun y => if y = fld then some v else none)
/-- the argument of super().__init__ is a text, whatever the field is -/
def ArgOk (prog : Program) (w : World) (ae : PySem.Expr) (fld : Str) (v : Value) : Prop := ∀ (env : Env) (m : Str → Option Value) (A : Around) (Q : Value → Shared → Prop) (E : Value → Shared → Prop) (s : Shared), s.heap.Ns env.locals m → m fld = some v → env.scope.kind = .function → env.kindOf fld = some .local →
  (∀ z t tk, Q (.str z t) { s with toks := tk }) → wpAny (model prog w) A (eval ae env) Q E s
theorem argOk_const {prog : Program} {w : World} {ae : PySem.Expr} {fld : Str} {v : Value} {z : Str} {k : Nat} {pos : Pos} (h : ae = .Constant (.str z) k pos) : ArgOk prog w ae fld v := by
  intro env m A Q E s _ _ _ _ hq
  rw [h]
  exact wpAny_Constant_str (hq _ _ _)
/-- None, or an int whose text is short -/
def NoneInt (v : L2.V) : Prop := v = .non ∨ ∃ i : Int, v = .int i ∧ i.natAbs.log2 < 1920
theorem argOk_f {prog : Program} {w : World} {ae : PySem.Expr} {fld : Str} {v : L2.V} {u : Value} {z : Str} {k : Nat} {p1 p2 p3 p4 : Pos} (n : NoneInt v) (r : L2.RelV v u)
    (h : ae = .JoinedStr [.Constant (.str z) k p1, .FormattedValue (.Name fld p2) (-1) none p3] p4 := by rfl) (hz : z.length ≤ 1000 := by decide) (hd : (fld == ("__debug__" : Str)) = false := by decide) : ArgOk prog w ae fld u := by
  intro env m A Q E s hn hv hk hl hq
  rw [h]
  have e0 : evalEach [.Constant (.str z) k p1, .FormattedValue (.Name fld p2) (-1) none p3] env = [eval (.Constant (.str z) k p1) env, eval (.FormattedValue (.Name fld p2) (-1) none p3) env] := by first | rfl | simp [evalEach]
  refine wpAny_JoinedStr ?_
  rw [e0]
  refine wpAny_Constant_str ?_
  have l0 : (Str.empty ++ z).length ≤ 1000 := by
    rw [Str.length_append]
    exact Nat.le_trans (Nat.le_of_eq (Nat.zero_add _)) hz
  refine ⟨z, _, rfl, Nat.le_trans l0 (by rw [sizeLine_eq]; decide), ?_⟩
  refine wpAny_FormattedValue_plain (wpAny_Name (wpAny_loadName_local hk hl hn hv ?_) hd)
  rcases n with rfl | ⟨i, rfl, hi⟩
  · cases r
    refine wpAny_formatField_none ⟨"None", _, rfl, ?_, ?_⟩
    · rw [Str.length_append, sizeLine_eq]
      have e : ("None" : Str).length = 4 := by decide
      omega
    · refine ⟨?_, hq _ _ _⟩
      rw [Str.length_append, sizeLine_eq]
      have e : ("None" : Str).length = 4 := by decide
      omega
  · obtain ⟨t, rfl⟩ := r
    refine wpAny_formatField_int hi ⟨_, _, rfl, ?_, ?_⟩
    · rw [Str.length_append, sizeLine_eq]
      have e := int_text_length_le (k := 1920) (by decide) hi
      have e2 : (Str.ofString (toString i)).length = (toString i).length := PySem.ofString_length _
      omega
    · refine ⟨?_, hq _ _ _⟩
      rw [Str.length_append, sizeLine_eq]
      have e := int_text_length_le (k := 1920) (by decide) hi
      have e2 : (Str.ofString (toString i)).length = (toString i).length := PySem.ofString_length _
      omega
/-- the argument of super().__init__ in the text of an __init__ -/
def aeOf (st : Stmt) : PySem.Expr := match L2.defBody st with
  | .Expr (.Call _ (a :: _) _ _) _ :: _ => a
  | _ => .Name "self" ⟨0, 0, 0, 0⟩
section
variable {prog : Program} {w : World} {A : Around} {E : Value → Shared → Prop} {hp : Heap} {g : Array GenState} {d : Drawn} {tk : Nat} {os : OsState}
/-- the bound __init__ of the base, called: the args are laid anew -/
theorem base_init {nm q : Str} {C N u e t0 : Addr} {bs bm : List Value} {sn : List Str} {sub : List Value} {ab : Bool} {col : Option Bool} {dd : Option Addr} {k0 k1 k2 k3 k5 : Option Value} {rest : List Value} {Q : Value → Shared → Prop}
    (hC : hp.get? C = some (excClassObj nm q C N bs bm true sn sub ab col dd k0 k1 k2 k3 k5 "ValueError.__new__")) (he : hp.get? e = some (excO C t0)) (hu : hp.get? u = some (kxs_mw "ValueError.__init__" e)) (hz : rest.length ≤ sizeLine)
    (k : ∀ h' t1, (∀ b o, b ≠ e → hp.get? b = some o → h'.get? b = some o) → h'.get? e = some (excO C t1) → Q .none ⟨h', g, d, tk, os⟩) : wpAny (model prog w) A (call (.ref u) rest) Q E ⟨hp, g, d, tk, os⟩ := by
  refine wpAny_call (codeAny_of_tree ?_)
  show wpAny _ A.in1 (callAny (.ref u) { pos := rest }) _ _ _
  unfold callAny
  refine wpAny_bind (wpAny_load hu ?_)
  have c1 : (Value.type "method-wrapper" == Value.type "method" || Value.type "method-wrapper" == Value.type "builtin_function_or_method" ||
    Value.type "method-wrapper" == Value.type "method-wrapper") = true := by decide
  simp only [kxs_mw, c1, if_true]
  refine KFB.if_so (by decide) (wpAny_bind (ESX.check_bound F.excBase_ValueError hC he rfl (wpAny_bind (wpAny_pure (wpAny_pure ?_)))))
  have FB := F.excBase_ValueError
  refine ⟨plainId_quiet FB.init.plain _, codeAny_builtin FB.initEntry ?_⟩
  rw [Around.under_plainId FB.init.plain _]
  wp_walk
  refine k _ hp.objs.size (fun b o n z => ?_) ?_
  · rw [Heap.get?_update_other _ _ (Ne.symm n)]
    exact Heap.get?_push_of_some _ z
  · rw [Heap.get?_update_self _ (Heap.get?_push_of_some _ he) rfl]
    rfl
theorem call_bound1 {M : Model} {s : Shared} {pos : Pos} {u b : Addr} {env : Env} {ae : PySem.Expr} {i : String} {Q : Value → Shared → Prop} (hpl : starEach (ae :: []) env = (false, eval ae env) :: starEach [] env)
    (h : wpAny M A (eval ae env) (fun v s₁ => KxsAt i u b s₁.heap ∧ wpAny M A (call (.ref u) [v]) Q E s₁) E s) : wpAny M A (callWith pos (.ref u) [] (backTo pos (starEach [ae] env)) []) Q E s := by
  have q : wpAny M A (spliced (backTo pos (starEach (ae :: []) env))) (fun vs s₁ => KxsAt i u b s₁.heap ∧ wpAny M A (call (.ref u) vs) Q E s₁) E s := args_cons (he := hpl) (wpAny_mono h (fun v s₁ z => wpAny_of_eq rfl z) fun _ _ z => z)
  rw [hpl] at q ⊢
  exact kxs_callWith (x := b) rfl (evalArgs_plain q)
theorem err_init {R : Result → Shared → Prop} {K : Frag} {mg mb : Str → Option Value} {x fld : Str} {C fI e t0 : Addr} {ae : PySem.Expr} {st : Stmt} {v : Value} (T : ErrTxt prog K mg x fld C fI ae st) (hA : ArgOk prog w ae fld v)
    (X : K.In hp) (hlim : hp.NoLimit) (hg : hp.Ns mainGlobals mg) (hb : hp.Ns builtinsNs mb) (hbb : ∀ y : Str, y ≠ "__name__" → mb y = bootBuiltins y) (he : hp.get? e = some (excO C t0)) (hne : K.lookup e = none) (hroom : A.depth < recursionLimit)
    (hq : ∀ h' tk dx t1, EndOf hp h' e C dx t1 fld v → R (.ok (.ret .none)) ⟨h', g, d, tk, os⟩) : codeAny (model prog w) A (.call (.ref fI) ⟨[.ref e, v], []⟩) R ⟨hp, g, d, tk, os⟩ := by
  obtain ⟨oc, od, doc, pm, an, cda, ct, osl, cc, vs, file, tf, ccl, cl, cdd, cld, ccs, csl, qual, lf, lc, lda, lvs, lfile, lcc⟩ := T.fn
  obtain ⟨p0, p1, p2, p3, p4, q1, q2, q3, q4, a1, a2, hB, hArgs, hcallE⟩ := T.text
  obtain ⟨nm, qn, N, bs, bm, sn, sub, ab, col, dd, k0, k1, k2, k3, k5, lC, hbm⟩ := T.cls
  have hcl : clsIn K C = some { name := nm, bases := bs, mro := .ref C :: bm, ns := N, qualname := qn, hasDict := true, slotNames := sn, subclasses := sub, abstract := ab, collection := col, hasDel := false } := by
    unfold clsIn
    rw [lC]
    all_goals rfl
  have hbind := T.bind qual doc pm an cda ct cc (.ref e) v
  rw [hB, hArgs] at lf hbind
  have neC : e ≠ C := fun z => by
    rw [z, lC] at hne
    cases hne
  refine ks_codeAny_call_defAt (binds := [("self", .ref e), (fld, v)]) hroom (X _ _ lf) rfl hlim (codeRec_of X lc) rfl (BindsTo.of_eq hbind) T.noCell ?_ (fun h1 hns keep => ?_) T.co T.gen T.knd
  · intro y hy
    rcases List.mem_cons.mp hy with z | hy
    · rw [z]; exact T.k0
    · rcases List.mem_cons.mp hy with z | hy
      · rw [z]; exact T.kF
      · cases hy
  have hint : ∀ env : Env, env.scope = L2.defScope st → interactive env = false := fun env z => by
    unfold interactive
    rw [z, T.knd]
    rfl
  have X1 : K.In h1 := X.keeps keep
  have he1 := keep _ _ he
  have m0 : ([("self", Value.ref e), (fld, v)] : List (Str × Value)).reverse.lookup ("self" : Str) = some (.ref e) := by
    show List.lookup ("self" : Str) [(fld, v), (("self" : Str), Value.ref e)] = some (.ref e)
    rw [List.lookup_cons, T.nF]
    rfl
  have mF : ([("self", Value.ref e), (fld, v)] : List (Str × Value)).reverse.lookup fld = some v := by
    show List.lookup fld [(fld, v), (("self" : Str), Value.ref e)] = some v
    rw [List.lookup_cons, beq_self_eq_true]
  obtain ⟨oD, hD1, hD2⟩ : ∃ oD : Obj, h1.get? C = some oD ∧ oD.data = .cls { name := nm, bases := bs, mro := .ref C :: bm, ns := N, qualname := qn, hasDict := true, slotNames := sn, subclasses := sub, abstract := ab, collection := col, hasDel := false } := ⟨_, X1 _ _ lC, rfl⟩
  refine ks_wpAt_execs_cons (ks_wpAt_Expr_any (hi := hint _ rfl) (ks_wpAt_MethodCall (he := hcallE _) (ks_wpAt_super_base T.kS T.kK (by decide) rfl (X1 _ _ lf) rfl rfl rfl (X1 _ _ lda) rfl lvs lfile T.main ?_)))
  refine ks_loadName_global T.knd T.kS (Calls.loadGlobal_builtin (hg.keeps keep) T.sup (hb.keeps keep) ((hbb _ (by decide +kernel)).trans (show bootBuiltins "super" = some (.type "super") by kernel_rfl)) ⟨rfl, ?_⟩)
  refine wpAny_loadName_free T.knd T.kK rfl ⟨_, X1 _ _ lcc, rfl⟩ ?_
  refine wpAny_loadName_local T.knd T.k0 hns m0 ?_
  refine ks_wpAny_isType_cls hD1 hD2 ⟨rfl, ?_⟩
  refine ks_wpAny_call_super hD1 hD2 he1 rfl (fun c z => by cases z) (looks_mroIn X1 T.own) (fun h2 hso k2 => ?_)
  have X2 : K.In h2 := X1.keeps k2
  have he2 := k2 _ _ he1
  have hup : alongIn K "__init__" (List.drop 1 (List.dropWhile (fun (z : Value) => z != Value.ref C) (.ref C :: bm))) = some (some (.builtin "ValueError.__init__")) := by
    have z := T.up
    unfold ks_superIn at z
    rw [hcl] at z
    exact z
  have I2 : InstAt h2 e (excO C t0) C none := ⟨he2, rfl, rfl, trivial⟩
  refine kxs_getMethod kxs_ValueError hso (looks_opaque X2 T.any) (l₀ := .ref C :: bm) (fun A Q E s k q => wpAny_bind ((looks_clsIn X2 hcl) A _ E s k (wpAny_pure q))) rfl X2 hup (I2.type.andThen (looks_subIn X2 T.ve)) neC (by decide) ?_
  have k3 : ∀ b o, h2.get? b = some o → (h2.push (kxs_mw "ValueError.__init__" e)).get? b = some o := fun b o z => Heap.get?_push_of_some _ z
  have k13 : ∀ b o, h1.get? b = some o → (h2.push (kxs_mw "ValueError.__init__" e)).get? b = some o := fun b o z => k3 _ _ (k2 _ _ z)
  have hn3 := hns.keeps k13
  refine call_bound1 (i := "ValueError.__init__") (b := e) (T.plain _) ?_
  refine hA _ _ _ _ _ _ hn3 mF T.knd T.kF fun z t tk => ⟨Heap.get?_push_at rfl rfl, ?_⟩
  refine base_init (X2.keeps k3 _ _ lC) (k3 _ _ he2) (Heap.get?_push_at rfl rfl) (by rw [sizeLine_eq]; exact Nat.le_of_ble_eq_true rfl) fun h4 t1 k4 he4 => ?_
  have X4 : K.In h4 := fun b o z => k4 _ _ (fun y => by rw [y, hne] at z; cases z) (X2.keeps k3 b o z)
  have hLe : hp.objs.size ≠ e := Nat.ne_of_gt (Heap.lt_size he)
  have hn4 : h4.Ns hp.objs.size (fun y => List.lookup y ([(("self" : Str), Value.ref e), (fld, v)] : List (Str × Value)).reverse) := by
    obtain ⟨oL, es, ep, hL, r⟩ := hn3
    exact ⟨oL, es, ep, k4 _ _ hLe hL, r⟩
  -- self.F = F
  refine wpAt_of_wpAny (wpAny_execs_cons (plainObj_wpAny_Assign_Attribute ?_))
  refine ESX.ldL hn4 mF (ESX.ldL hn4 m0 ?_ T.knd T.k0) T.knd T.kF T.nD
  refine set_plain X4 (ox := excO C t1) (od := none) ⟨he4, rfl, rfl, trivial⟩ T.sa ?_
  refine exc_osa X4 he4 hcl (show refsVE (.ref C :: bm) = true from hbm) rfl T.noF (fun h5 tk5 dx k5' dn dne he5 hn5 => ?_)
  have z : hp.objs.size ≤ dx := Nat.le_trans (Nat.le_of_lt (Nat.lt_of_lt_of_le hn4.lt (Nat.le_refl _))) dn
  exact wpAny_execs_nil (hq h5 tk5 dx t1 ⟨fun b o hbe y => k5' b o hbe (k4 b o hbe (k3 b o (k2 b o (keep b o y)))), he5, z, dne, hn5⟩)
/-- a made error -/
structure Made (h h' : Heap) (e C d : Addr) (fld : Str) (v : Value) : Prop where
  keep : ∀ b o, h.get? b = some o → h'.get? b = some o
  new : h.objs.size ≤ e
  obj : ∃ oe vs, h'.get? e = some oe ∧ oe.cls = .ref C ∧ oe.dict = some d ∧ oe.data = .fields vs ∧ vs[1]? = some .none
  dbig : h.objs.size ≤ d
  dne : d ≠ e
  ns : h'.Ns1 d (fun y => if y = fld then some v else none)
theorem err_made {R : Result → Shared → Prop} {K : Frag} {mg mb : Str → Option Value} {x fld : Str} {C fI : Addr} {ae : PySem.Expr} {st : Stmt} {v : Value} (T : ErrTxt prog K mg x fld C fI ae st) (hA : ArgOk prog w ae fld v)
    (X : K.In hp) (hlim : hp.NoLimit) (hg : hp.Ns mainGlobals mg) (hb : hp.Ns builtinsNs mb) (hbb : ∀ y : Str, y ≠ "__name__" → mb y = bootBuiltins y) (hroom : A.depth + 1 < recursionLimit)
    (hq : ∀ h' tk e dx, Made hp h' e C dx fld v → R (.ok (.ret (.ref e))) ⟨h', g, d, tk, os⟩) : codeAny (model prog w) A (.call (.ref C) ⟨[v], []⟩) R ⟨hp, g, d, tk, os⟩ := by
  obtain ⟨nm, qn, N, bs, bm, sn, sub, ab, col, dd, k0, k1, k2, k3, k5, lC, hbm⟩ := T.cls
  have k : ∀ b o, hp.get? b = some o → ((hp.push (kdv_tup [v])).push (excO C hp.objs.size)).get? b = some o := fun b o z => Heap.get?_push_of_some _ (Heap.get?_push_of_some _ z)
  have hget : ((hp.push (kdv_tup [v])).push (excO C hp.objs.size)).get? (hp.objs.size + 1) = some (excO C hp.objs.size) := by heap_get
  have hnx : K.lookup (hp.objs.size + 1) = none := by
    cases z : K.lookup (hp.objs.size + 1) with
    | none => rfl
    | some o => exact absurd (Nat.lt_of_succ_lt (Heap.lt_size (X _ _ z))) (Nat.lt_irrefl _)
  refine call_own F.excBase_ValueError (fun X => refsVE_contains X bm hbm) (X _ _ lC) (looks_findIn X T.iC) (fun self => bind_fn X self T.tC) (by rw [sizeLine_eq]; exact Nat.le_of_ble_eq_true rfl) ?_
  refine err_init T hA (X.keeps k) (hlim.keeps k) (hg.keeps k) (hb.keeps k) hbb hget hnx ?_ fun h' tk' dx t1 M => ?_
  · show A.depth + 1 < recursionLimit
    exact hroom
  · have old : ∀ b o, hp.get? b = some o → h'.get? b = some o := fun b o z => M.keep b o (Nat.ne_of_lt (Nat.lt_succ_of_lt (Heap.lt_size z))) (k b o z)
    have z : hp.objs.size + 1 + 1 ≤ dx := by
      have q := M.dbig
      rw [Heap.size_push, Heap.size_push] at q
      exact q
    exact ⟨rfl, hq h' tk' (hp.objs.size + 1) dx ⟨old, Nat.le_succ _, ⟨_, _, M.obj, rfl, rfl, rfl, rfl⟩, Nat.le_trans (Nat.le_trans (Nat.le_succ _) (Nat.le_succ _)) z, M.dne, M.ns⟩⟩
end
end ErrX
namespace L2
open PySem PySem.Spec PyProof.Rows ErrX
theorem relO_fld {v : V} {v' : Value} (fld : Str) (r : RelV v v') (f : Str) : RelO (List.lookup f [(fld, v)]) (if f = fld then some v' else none) := by
  by_cases hw : f = fld
  · subst hw
    rw [if_pos rfl]
    have q : List.lookup f [(f, v)] = some v := by simp [List.lookup]
    rw [q]
    exact r
  · rw [if_neg hw]
    have qw : (f == fld) = false := by simpa using hw
    have q2 : List.lookup f [(fld, v)] = none := by simp [List.lookup, qw]
    rw [q2]
    trivial
section
variable {X : Cx} {C fI : Addr} {x fld : Str} {ae : PySem.Expr} {st : Stmt}
/-- Bad(e) -/
def tMkErr (C : Addr) (fld : Str) (ok : V → Prop) (ta : TA) : L2.St → Hp → XK → Prop := fun σ H Q => ta σ H fun vs H1 => ∃ v, vs = [v] ∧ ok v ∧ ∀ d, H1 d = none → Q (.ref C) (some d) (upd H1 d (.xd [(fld, v)]))
theorem pmk_err {ok : V → Prop} {a : PySem.Expr} {ta : TA} {p pos : Pos} {k : Nat} (T : ErrTxt X.prog X.K X.mg x fld C fI ae st) (hA : ∀ v u, ok v → RelV v u → ArgOk X.prog X.w ae fld u) (hr : Room k X.A) (ha : PA X [a] ta) (hg : Gl X x) (hdb : (x == ("__debug__" : Str)) = false)
    (he : starEach (a :: []) X.env = (false, eval a X.env) :: starEach [] X.env) (hpl : (backTo pos (starEach [] X.env)).any (·.1) = false) :
    PMk X (.Call (.Name x p) [a] [] pos) (tMkErr C fld ok ta) := by
  intro pins s σ H Q I h
  refine wpAny_Call_Name_kw (ld_glob I hg T.gC ?_ hdb)
  refine PySem.W.callWith_K (h₀ := X.base) I.ok.mod.kin T.kC (thn (ha.run pos pins s σ H _ I h) fun us s1 hh => ?_) he hpl
  obtain ⟨vs, H1, I1, r1, v, ev, okv, q1⟩ := hh
  subst ev
  refine ⟨I1.kIn, ?_⟩
  cases r1 with
  | cons rv rn =>
    rename_i v' us'
    cases rn
    show wpAny _ _ (call (.ref C) [v']) _ _ _
    have hlim := I1.nolimit
    obtain ⟨mb, hb1, hb2⟩ := I1.mod.blt
    have hgN := I1.mod.glob.keeps I1.bk
    have hbN := hb1.keeps I1.bk
    obtain ⟨hp, g, dr, tk, os⟩ := s1
    refine wpAny_call (err_made T (hA v v' okv rv) I1.kIn hlim hgN hbN hb2 (by have := hr.dp; omega) fun h' tk' e d M => ?_)
    show MkP X pins σ Q (.ref e) ⟨h', g, dr, tk', os⟩
    obtain ⟨oe, fv, hoe, hc, hd, hdat, h1⟩ := M.obj
    have hns := M.ns
    obtain ⟨G', g1, g2⟩ := restrict h' fun b => decide (b ≠ e)
    have gk : ∀ b, b ≠ e → G'.get? b = h'.get? b := fun b hb => g1 b (decide_eq_true hb)
    have ge : G'.get? e = none := g2 e (by simp)
    have old : ∀ b o, hp.get? b = some o → G'.get? b = some o := fun b o q => (gk b (Nat.ne_of_lt (Nat.lt_of_lt_of_le (Heap.lt_size q) M.new))).trans (M.keep b o q)
    have ob : ObjOk X.prog X.w (upd H1 d (.xd [(fld, v)])) G' d (.xd [(fld, v)]) := ⟨_, hns.at (fun o q => (gk d M.dne).trans q), fun f => relO_fld fld rv f⟩
    have J : Inv X pins σ (upd H1 d (.xd [(fld, v)])) ⟨G', g, dr, tk', os⟩ := I1.laid (t' := tk') old M.dbig ob
    refine ⟨e, oe, fv, ⟨G', g, dr, tk', os⟩, _, .ref C, some d, rfl, J, fun b o q => ?_, ge, hoe, ⟨hc, hd⟩, hdat, h1, ?_, rfl, I1.bare, raises_own T.exC T.tyC, q1 d (I1.hok.fresh M.dbig)⟩
    · by_cases hb : b = e
      · have q' : G'.get? b = some o := q
        rw [hb, ge] at q'
        cases q'
      · exact (gk b hb).symm.trans q
    · rw [upd_ne (Ne.symm M.dne)]
      exact I1.hok.fresh M.new
/-- raise Bad(e) -/
def tRaiseF (C : Addr) (fld : Str) (ok : V → Prop) (W : WX) (ta : TA) : TS := fun _ σ H => tMkErr C fld ok ta σ H fun cls d H' => W cls d σ H'
theorem ps_raiseF {ok : V → Prop} {a : PySem.Expr} {ta : TA} {W : WX} {p pos pos2 : Pos} {k : Nat} (T : ErrTxt X.prog X.K X.mg x fld C fI ae st) (hA : ∀ v u, ok v → RelV v u → ArgOk X.prog X.w ae fld u) (hc : X.calm = true) (hr : Room k X.A) (tk : Takes X W) (ha : PA X [a] ta) (hg : Gl X x := by rfl)
    (hdb : (x == ("__debug__" : Str)) = false := by decide) (he : starEach (a :: []) X.env = (false, eval a X.env) :: starEach [] X.env := by rfl) (hpl : (backTo pos (starEach [] X.env)).any (·.1) = false := by rfl) :
    PS X (.Raise (some (.Call (.Name x p) [a] [] pos)) none pos2) (tRaiseF C fld ok W ta) := ps_raise hc tk (pmk_err T hA hr ha hg hdb he hpl)
/-- e.F, e the error that the suite holds (at a; its class cls, its dict d) -/
def tErrF (C : Addr) (fld : Str) (a : Addr) (cls : Value) (d : Option Addr) (te : TE) : TE := fun σ H Q => te σ H fun y H1 => y = .ref a ∧ cls = .ref C ∧ ∃ (dd : Addr) (v : V), d = some dd ∧ H1 dd = some (.xd [(fld, v)]) ∧ Q v H1
theorem pe_errF {P : Program} {a : Addr} {oe : Obj} {cls : Value} {d : Option Addr} {pn : List (Addr × Obj)} {e : PySem.Expr} {te : TE} {pos : Pos} (T : ErrTxt P X.K X.mg x fld C fI ae st) (hz : Zc cls d oe) (hf : ∃ vs, oe.data = .fields vs) (he : PE (X.suite a ((a, oe) :: pn)) e te)
    (hb : attributeBase e fld X.env (eval e X.env) = eval e X.env := by rfl) : PE (X.suite a ((a, oe) :: pn)) (.Attribute e fld pos) (tErrF C fld a cls d te) := by
  refine ⟨fun pins s σ H Q I h => ?_⟩
  refine attr_of hb (thn (he.run pins s σ H _ I h) fun u s1 hh => ?_)
  obtain ⟨y, H1, I1, rx, ex, ec, dd, v, ed, ea, q⟩ := hh
  subst ex
  obtain rfl : u = Value.ref a := rx
  subst ec
  subst ed
  obtain ⟨ha, _⟩ := I1.pin (a, oe) (List.mem_append_left _ List.mem_cons_self)
  obtain ⟨vs, hd⟩ := hf
  have hx : ObjOk X.prog X.w H1 s1.heap dd (.xd [(fld, v)]) := I1.hok dd _ ea
  obtain ⟨mA, hns, hr⟩ := hx
  obtain ⟨od, ho, hl⟩ := lookIn_ns hns
  have l : List.lookup fld [(fld, v)] = some v := by simp [List.lookup]
  obtain ⟨u, hu, ru⟩ := RelO.some_of (v := v) (o := mA fld) (by rw [← l]; exact hr fld)
  have J : PySem.W.InstAt s1.heap a oe C (some od) := ⟨ha, hz.1, by unfold PySem.W.notCls; rw [hd] <;> rfl, by rw [hz.2]; exact ho⟩
  exact HandSPX.exc_get I1.kIn J T.ga T.gg T.exC (PySem.W.findObj_own T.hdC T.noF rfl (by rw [hl, hu])) (handed_of ru) ⟨v, H1, I1.tok _, ru, q⟩
end
end L2
namespace Rt
open PySem L2 PySem.Spec PyProof.Rows

set_option genInjectivity false in
set_option genSizeOf false in
set_option genSizeOfSpec false in
set_option genCtorIdx false in
structure Tx (P : Program) (K : PySem.W.Frag) (mg : Str → Option Value) : Type where
  C_TrickError : Addr
  g_TrickError : mg "TrickError" = some (.ref C_TrickError)
  x_TrickError : PySem.W.excIn K C_TrickError [.type "ValueError", .type "Exception", .type "BaseException", .type "object"] "ValueError.__new__" = true
  k_TrickError : PySem.W.keepIn K (.ref C_TrickError) = true
  s_TrickError : PySem.W.subIn K (.ref C_TrickError) (.type "BaseException") = some true
  t_TrickError : PySem.W.typeIn K (.ref C_TrickError) = some (.type "type")
  C_BadBase : Addr
  g_BadBase : mg "BadBase" = some (.ref C_BadBase)
  x_BadBase : PySem.W.excIn K C_BadBase [.type "ValueError", .type "Exception", .type "BaseException", .type "object"] "ValueError.__new__" = true
  k_BadBase : PySem.W.keepIn K (.ref C_BadBase) = true
  s_BadBase : PySem.W.subIn K (.ref C_BadBase) (.type "BaseException") = some true
  t_BadBase : PySem.W.typeIn K (.ref C_BadBase) = some (.type "type")
  C_BadTake : Addr
  g_BadTake : mg "BadTake" = some (.ref C_BadTake)
  x_BadTake : PySem.W.excIn K C_BadTake [.type "ValueError", .type "Exception", .type "BaseException", .type "object"] "ValueError.__new__" = true
  k_BadTake : PySem.W.keepIn K (.ref C_BadTake) = true
  s_BadTake : PySem.W.subIn K (.ref C_BadTake) (.type "BaseException") = some true
  t_BadTake : PySem.W.typeIn K (.ref C_BadTake) = some (.type "type")
  C_BadTimes : Addr
  g_BadTimes : mg "BadTimes" = some (.ref C_BadTimes)
  x_BadTimes : PySem.W.excIn K C_BadTimes [.type "ValueError", .type "Exception", .type "BaseException", .type "object"] "ValueError.__new__" = true
  k_BadTimes : PySem.W.keepIn K (.ref C_BadTimes) = true
  s_BadTimes : PySem.W.subIn K (.ref C_BadTimes) (.type "BaseException") = some true
  t_BadTimes : PySem.W.typeIn K (.ref C_BadTimes) = some (.type "type")
  C_BadTrick : Addr
  g_BadTrick : mg "BadTrick" = some (.ref C_BadTrick)
  x_BadTrick : PySem.W.excIn K C_BadTrick [.type "ValueError", .type "Exception", .type "BaseException", .type "object"] "ValueError.__new__" = true
  k_BadTrick : PySem.W.keepIn K (.ref C_BadTrick) = true
  s_BadTrick : PySem.W.subIn K (.ref C_BadTrick) (.type "BaseException") = some true
  t_BadTrick : PySem.W.typeIn K (.ref C_BadTrick) = some (.type "type")
  C_BadDivisor : Addr
  g_BadDivisor : mg "BadDivisor" = some (.ref C_BadDivisor)
  x_BadDivisor : PySem.W.excIn K C_BadDivisor [.type "ValueError", .type "Exception", .type "BaseException", .type "object"] "ValueError.__new__" = true
  k_BadDivisor : PySem.W.keepIn K (.ref C_BadDivisor) = true
  s_BadDivisor : PySem.W.subIn K (.ref C_BadDivisor) (.type "BaseException") = some true
  t_BadDivisor : PySem.W.typeIn K (.ref C_BadDivisor) = some (.type "type")
  C_BadSum : Addr
  g_BadSum : mg "BadSum" = some (.ref C_BadSum)
  x_BadSum : PySem.W.excIn K C_BadSum [.type "ValueError", .type "Exception", .type "BaseException", .type "object"] "ValueError.__new__" = true
  k_BadSum : PySem.W.keepIn K (.ref C_BadSum) = true
  s_BadSum : PySem.W.subIn K (.ref C_BadSum) (.type "BaseException") = some true
  t_BadSum : PySem.W.typeIn K (.ref C_BadSum) = some (.type "type")
  C_BadNumber : Addr
  g_BadNumber : mg "BadNumber" = some (.ref C_BadNumber)
  k_BadNumber : PySem.W.keepIn K (.ref C_BadNumber) = true
  s_BadNumber : PySem.W.subIn K (.ref C_BadNumber) (.type "BaseException") = some true
  t_BadNumber : PySem.W.typeIn K (.ref C_BadNumber) = some (.type "type")
  C_BadWeights : Addr
  g_BadWeights : mg "BadWeights" = some (.ref C_BadWeights)
  k_BadWeights : PySem.W.keepIn K (.ref C_BadWeights) = true
  s_BadWeights : PySem.W.subIn K (.ref C_BadWeights) (.type "BaseException") = some true
  t_BadWeights : PySem.W.typeIn K (.ref C_BadWeights) = some (.type "type")
  C_BadRests : Addr
  g_BadRests : mg "BadRests" = some (.ref C_BadRests)
  k_BadRests : PySem.W.keepIn K (.ref C_BadRests) = true
  s_BadRests : PySem.W.subIn K (.ref C_BadRests) (.type "BaseException") = some true
  t_BadRests : PySem.W.typeIn K (.ref C_BadRests) = some (.type "type")
  C_BadTricks : Addr
  g_BadTricks : mg "BadTricks" = some (.ref C_BadTricks)
  k_BadTricks : PySem.W.keepIn K (.ref C_BadTricks) = true
  s_BadTricks : PySem.W.subIn K (.ref C_BadTricks) (.type "BaseException") = some true
  t_BadTricks : PySem.W.typeIn K (.ref C_BadTricks) = some (.type "type")
  C_TooWide : Addr
  g_TooWide : mg "TooWide" = some (.ref C_TooWide)
  k_TooWide : PySem.W.keepIn K (.ref C_TooWide) = true
  s_TooWide : PySem.W.subIn K (.ref C_TooWide) (.type "BaseException") = some true
  t_TooWide : PySem.W.typeIn K (.ref C_TooWide) = some (.type "type")
  t_c_GREATEST_NUMBER : Tok
  c_GREATEST_NUMBER : mg "GREATEST_NUMBER" = some (.int 10000000000000000000000000000000000000000 t_c_GREATEST_NUMBER)
  t_c_LEAST_BASE : Tok
  c_LEAST_BASE : mg "LEAST_BASE" = some (.int 2 t_c_LEAST_BASE)
  t_c_GREATEST_BASE : Tok
  c_GREATEST_BASE : mg "GREATEST_BASE" = some (.int 16 t_c_GREATEST_BASE)
  t_c_GREATEST_TAKE : Tok
  c_GREATEST_TAKE : mg "GREATEST_TAKE" = some (.int 2 t_c_GREATEST_TAKE)
  t_c_GREATEST_DIVISOR : Tok
  c_GREATEST_DIVISOR : mg "GREATEST_DIVISOR" = some (.int 100 t_c_GREATEST_DIVISOR)
  t_c_GREATEST_TIMES : Tok
  c_GREATEST_TIMES : mg "GREATEST_TIMES" = some (.int 100 t_c_GREATEST_TIMES)
  t_c_MOST_TRICKS : Tok
  c_MOST_TRICKS : mg "MOST_TRICKS" = some (.int 4 t_c_MOST_TRICKS)
  t_c_GREATEST_CHAIN_DIVISOR : Tok
  c_GREATEST_CHAIN_DIVISOR : mg "GREATEST_CHAIN_DIVISOR" = some (.int 30 t_c_GREATEST_CHAIN_DIVISOR)
  t_c_GREATEST_PRODUCT : Tok
  c_GREATEST_PRODUCT : mg "GREATEST_PRODUCT" = some (.int 300 t_c_GREATEST_PRODUCT)
  t_c_MOST_LABELS : Tok
  c_MOST_LABELS : mg "MOST_LABELS" = some (.int 20 t_c_MOST_LABELS)
  t_c_GREATEST_LABEL : Tok
  c_GREATEST_LABEL : mg "GREATEST_LABEL" = some (.int 19 t_c_GREATEST_LABEL)
  t_c_GREATEST_WEIGHT : Tok
  c_GREATEST_WEIGHT : mg "GREATEST_WEIGHT" = some (.int 1000000 t_c_GREATEST_WEIGHT)
  t_c_MOST_WEIGHTS : Tok
  c_MOST_WEIGHTS : mg "MOST_WEIGHTS" = some (.int 12 t_c_MOST_WEIGHTS)
  t_c_GREATEST_SUM_DIVISOR : Tok
  c_GREATEST_SUM_DIVISOR : mg "GREATEST_SUM_DIVISOR" = some (.int 30 t_c_GREATEST_SUM_DIVISOR)
  a_is_integer : Addr
  d_is_integer : FuncData
  F_is_integer : Fun K "is_integer" "is_integer" s_is_integer a_is_integer d_is_integer
  b_is_integer : Binds K d_is_integer ["told", "low", "high"] []
  g_is_integer : mg "is_integer" = some (.ref a_is_integer)
  a_is_tuple : Addr
  d_is_tuple : FuncData
  F_is_tuple : Fun K "is_tuple" "is_tuple" s_is_tuple a_is_tuple d_is_tuple
  b_is_tuple : Binds K d_is_tuple ["told", "fewest", "most"] []
  g_is_tuple : mg "is_tuple" = some (.ref a_is_tuple)
  a_is_list_or_tuple : Addr
  d_is_list_or_tuple : FuncData
  F_is_list_or_tuple : Fun K "is_list_or_tuple" "is_list_or_tuple" s_is_list_or_tuple a_is_list_or_tuple d_is_list_or_tuple
  b_is_list_or_tuple : Binds K d_is_list_or_tuple ["told", "fewest", "most"] []
  g_is_list_or_tuple : mg "is_list_or_tuple" = some (.ref a_is_list_or_tuple)
  a_is_number : Addr
  d_is_number : FuncData
  F_is_number : Fun K "is_number" "is_number" s_is_number a_is_number d_is_number
  b_is_number : Binds K d_is_number ["told"] []
  g_is_number : mg "is_number" = some (.ref a_is_number)
  a_first_wrong : Addr
  d_first_wrong : FuncData
  F_first_wrong : Fun K "first_wrong" "first_wrong" s_first_wrong a_first_wrong d_first_wrong
  b_first_wrong : Binds K d_first_wrong ["told", "low", "high"] []
  g_first_wrong : mg "first_wrong" = some (.ref a_first_wrong)
  a_check_base : Addr
  d_check_base : FuncData
  F_check_base : Fun K "check_base" "check_base" s_check_base a_check_base d_check_base
  b_check_base : Binds K d_check_base ["base"] []
  g_check_base : mg "check_base" = some (.ref a_check_base)
  a_check_take : Addr
  d_check_take : FuncData
  F_check_take : Fun K "check_take" "check_take" s_check_take a_check_take d_check_take
  b_check_take : Binds K d_check_take ["take"] []
  g_check_take : mg "check_take" = some (.ref a_check_take)
  a_check_divisor : Addr
  d_check_divisor : FuncData
  F_check_divisor : FunD K "check_divisor" "check_divisor" (defArgs s_check_divisor) (defBody s_check_divisor) (defScope s_check_divisor) [.int 100] [] a_check_divisor d_check_divisor
  b_check_divisor : Binds K d_check_divisor ["d", "greatest"] []
  ds_check_divisor : List Value
  rd_check_divisor : Vals [.int 100] ds_check_divisor
  bd_check_divisor : Binds K d_check_divisor ["d", "greatest"] ds_check_divisor
  g_check_divisor : mg "check_divisor" = some (.ref a_check_divisor)
  a_check_number : Addr
  d_check_number : FuncData
  F_check_number : Fun K "check_number" "check_number" s_check_number a_check_number d_check_number
  b_check_number : Binds K d_check_number ["n"] []
  g_check_number : mg "check_number" = some (.ref a_check_number)
  a_block_of : Addr
  d_block_of : FuncData
  F_block_of : Fun K "block_of" "block_of" s_block_of a_block_of d_block_of
  b_block_of : Binds K d_block_of ["base", "take"] []
  g_block_of : mg "block_of" = some (.ref a_block_of)
  a_done : Addr
  d_done : FuncData
  F_done : Fun K "done" "done" s_done a_done d_done
  b_done : Binds K d_done ["trick", "n"] []
  g_done : mg "done" = some (.ref a_done)
  a_check_trick : Addr
  d_check_trick : FuncData
  F_check_trick : Fun K "check_trick" "check_trick" s_check_trick a_check_trick d_check_trick
  b_check_trick : Binds K d_check_trick ["trick"] []
  g_check_trick : mg "check_trick" = some (.ref a_check_trick)
  a_trick_block : Addr
  d_trick_block : FuncData
  F_trick_block : Fun K "trick_block" "trick_block" s_trick_block a_trick_block d_trick_block
  b_trick_block : Binds K d_trick_block ["trick"] []
  g_trick_block : mg "trick_block" = some (.ref a_trick_block)
  a_made_of : Addr
  d_made_of : FuncData
  F_made_of : Fun K "made_of" "made_of" s_made_of a_made_of d_made_of
  b_made_of : Binds K d_made_of ["trick", "n"] []
  g_made_of : mg "made_of" = some (.ref a_made_of)
  a_made_with : Addr
  d_made_with : FuncData
  F_made_with : Fun K "made_with" "made_with" s_made_with a_made_with d_made_with
  b_made_with : Binds K d_made_with ["block", "times", "n"] []
  g_made_with : mg "made_with" = some (.ref a_made_with)
  a_tells : Addr
  d_tells : FuncData
  F_tells : Fun K "tells" "tells" s_tells a_tells d_tells
  b_tells : Binds K d_tells ["trick", "d"] []
  g_tells : mg "tells" = some (.ref a_tells)
  a_factor : Addr
  d_factor : FuncData
  F_factor : Fun K "factor" "factor" s_factor a_factor d_factor
  b_factor : Binds K d_factor ["trick", "d"] []
  g_factor : mg "factor" = some (.ref a_factor)
  a_multipliers : Addr
  d_multipliers : FuncData
  F_multipliers : Fun K "multipliers" "multipliers" s_multipliers a_multipliers d_multipliers
  b_multipliers : Binds K d_multipliers ["base", "take", "d"] []
  g_multipliers : mg "multipliers" = some (.ref a_multipliers)
  a_keeps_rest : Addr
  d_keeps_rest : FuncData
  F_keeps_rest : Fun K "keeps_rest" "keeps_rest" s_keeps_rest a_keeps_rest d_keeps_rest
  b_keeps_rest : Binds K d_keeps_rest ["trick", "d"] []
  g_keeps_rest : mg "keeps_rest" = some (.ref a_keeps_rest)
  a_tells_multiples : Addr
  d_tells_multiples : FuncData
  F_tells_multiples : Fun K "tells_multiples" "tells_multiples" s_tells_multiples a_tells_multiples d_tells_multiples
  b_tells_multiples : Binds K d_tells_multiples ["block", "times", "d"] []
  g_tells_multiples : mg "tells_multiples" = some (.ref a_tells_multiples)
  a_chain_tells : Addr
  d_chain_tells : FuncData
  F_chain_tells : Fun K "chain_tells" "chain_tells" s_chain_tells a_chain_tells d_chain_tells
  b_chain_tells : Binds K d_chain_tells ["tricks", "d"] []
  g_chain_tells : mg "chain_tells" = some (.ref a_chain_tells)
  a_check_tricks : Addr
  d_check_tricks : FuncData
  F_check_tricks : Fun K "check_tricks" "check_tricks" s_check_tricks a_check_tricks d_check_tricks
  b_check_tricks : Binds K d_check_tricks ["tricks"] []
  g_check_tricks : mg "check_tricks" = some (.ref a_check_tricks)
  a_check_chain : Addr
  d_check_chain : FuncData
  F_check_chain : Fun K "check_chain" "check_chain" s_check_chain a_check_chain d_check_chain
  b_check_chain : Binds K d_check_chain ["tricks", "d"] []
  g_check_chain : mg "check_chain" = some (.ref a_check_chain)
  a_made_of_all : Addr
  d_made_of_all : FuncData
  F_made_of_all : Fun K "made_of_all" "made_of_all" s_made_of_all a_made_of_all d_made_of_all
  b_made_of_all : Binds K d_made_of_all ["tricks", "n"] []
  g_made_of_all : mg "made_of_all" = some (.ref a_made_of_all)
  a_blocks_product : Addr
  d_blocks_product : FuncData
  F_blocks_product : Fun K "blocks_product" "blocks_product" s_blocks_product a_blocks_product d_blocks_product
  b_blocks_product : Binds K d_blocks_product ["tricks"] []
  g_blocks_product : mg "blocks_product" = some (.ref a_blocks_product)
  a_rest_pairs : Addr
  d_rest_pairs : FuncData
  F_rest_pairs : Fun K "rest_pairs" "rest_pairs" s_rest_pairs a_rest_pairs d_rest_pairs
  b_rest_pairs : Binds K d_rest_pairs ["tricks", "d"] []
  g_rest_pairs : mg "rest_pairs" = some (.ref a_rest_pairs)
  a_bound : Addr
  d_bound : FuncData
  F_bound : Fun K "bound" "bound" s_bound a_bound d_bound
  b_bound : Binds K d_bound ["trick"] []
  g_bound : mg "bound" = some (.ref a_bound)
  a_ring_of : Addr
  d_ring_of : FuncData
  F_ring_of : Fun K "ring_of" "ring_of" s_ring_of a_ring_of d_ring_of
  b_ring_of : Binds K d_ring_of ["trick", "n"] []
  g_ring_of : mg "ring_of" = some (.ref a_ring_of)
  a_greatest_size : Addr
  d_greatest_size : FuncData
  F_greatest_size : Fun K "greatest_size" "greatest_size" s_greatest_size a_greatest_size d_greatest_size
  b_greatest_size : Binds K d_greatest_size ["block", "times", "rest"] []
  g_greatest_size : mg "greatest_size" = some (.ref a_greatest_size)
  a_rounded_up : Addr
  d_rounded_up : FuncData
  F_rounded_up : Fun K "rounded_up" "rounded_up" s_rounded_up a_rounded_up d_rounded_up
  b_rounded_up : Binds K d_rounded_up ["n", "d"] []
  g_rounded_up : mg "rounded_up" = some (.ref a_rounded_up)
  a_unseen_path : Addr
  d_unseen_path : FuncData
  F_unseen_path : Fun K "unseen_path" "unseen_path" s_unseen_path a_unseen_path d_unseen_path
  b_unseen_path : Binds K d_unseen_path ["trick", "n", "seen"] []
  g_unseen_path : mg "unseen_path" = some (.ref a_unseen_path)
  a_ring_at_end : Addr
  d_ring_at_end : FuncData
  F_ring_at_end : Fun K "ring_at_end" "ring_at_end" s_ring_at_end a_ring_at_end d_ring_at_end
  b_ring_at_end : Binds K d_ring_at_end ["trick", "path"] []
  g_ring_at_end : mg "ring_at_end" = some (.ref a_ring_at_end)
  a_front_states : Addr
  d_front_states : FuncData
  F_front_states : Fun K "front_states" "front_states" s_front_states a_front_states d_front_states
  b_front_states : Binds K d_front_states ["base", "labels"] []
  g_front_states : mg "front_states" = some (.ref a_front_states)
  a_front_classes : Addr
  d_front_classes : FuncData
  F_front_classes : Fun K "front_classes" "front_classes" s_front_classes a_front_classes d_front_classes
  b_front_classes : Binds K d_front_classes ["base", "labels"] []
  g_front_classes : mg "front_classes" = some (.ref a_front_classes)
  a_check_labels : Addr
  d_check_labels : FuncData
  F_check_labels : Fun K "check_labels" "check_labels" s_check_labels a_check_labels d_check_labels
  b_check_labels : Binds K d_check_labels ["labels"] []
  g_check_labels : mg "check_labels" = some (.ref a_check_labels)
  a_front_machine : Addr
  d_front_machine : FuncData
  F_front_machine : Fun K "front_machine" "front_machine" s_front_machine a_front_machine d_front_machine
  b_front_machine : Binds K d_front_machine ["base", "labels"] []
  g_front_machine : mg "front_machine" = some (.ref a_front_machine)
  a_classes : Addr
  d_classes : FuncData
  F_classes : Fun K "classes" "classes" s_classes a_classes d_classes
  b_classes : Binds K d_classes ["machine"] []
  g_classes : mg "classes" = some (.ref a_classes)
  a_numbered : Addr
  d_numbered : FuncData
  F_numbered : Fun K "numbered" "numbered" s_numbered a_numbered d_numbered
  b_numbered : Binds K d_numbered ["things"] []
  g_numbered : mg "numbered" = some (.ref a_numbered)
  a_sum_tells : Addr
  d_sum_tells : FuncData
  F_sum_tells : Fun K "sum_tells" "sum_tells" s_sum_tells a_sum_tells d_sum_tells
  b_sum_tells : Binds K d_sum_tells ["told", "d"] []
  g_sum_tells : mg "sum_tells" = some (.ref a_sum_tells)
  a_sum_rest_fails : Addr
  d_sum_rest_fails : FuncData
  F_sum_rest_fails : Fun K "sum_rest_fails" "sum_rest_fails" s_sum_rest_fails a_sum_rest_fails d_sum_rest_fails
  b_sum_rest_fails : Binds K d_sum_rest_fails ["told", "d"] []
  g_sum_rest_fails : mg "sum_rest_fails" = some (.ref a_sum_rest_fails)
  a_sum_fails : Addr
  d_sum_fails : FuncData
  F_sum_fails : Fun K "sum_fails" "sum_fails" s_sum_fails a_sum_fails d_sum_fails
  b_sum_fails : Binds K d_sum_fails ["told", "d"] []
  g_sum_fails : mg "sum_fails" = some (.ref a_sum_fails)
  a_rest_weights : Addr
  d_rest_weights : FuncData
  F_rest_weights : Fun K "rest_weights" "rest_weights" s_rest_weights a_rest_weights d_rest_weights
  b_rest_weights : Binds K d_rest_weights ["base", "take", "d"] []
  g_rest_weights : mg "rest_weights" = some (.ref a_rest_weights)
  a_check_weights : Addr
  d_check_weights : FuncData
  F_check_weights : Fun K "check_weights" "check_weights" s_check_weights a_check_weights d_check_weights
  b_check_weights : Binds K d_check_weights ["told", "fewest"] []
  g_check_weights : mg "check_weights" = some (.ref a_check_weights)
  a_check_sum : Addr
  d_check_sum : FuncData
  F_check_sum : Fun K "check_sum" "check_sum" s_check_sum a_check_sum d_check_sum
  b_check_sum : Binds K d_check_sum ["told"] []
  g_check_sum : mg "check_sum" = some (.ref a_check_sum)
  a_sum_block : Addr
  d_sum_block : FuncData
  F_sum_block : Fun K "sum_block" "sum_block" s_sum_block a_sum_block d_sum_block
  b_sum_block : Binds K d_sum_block ["told"] []
  g_sum_block : mg "sum_block" = some (.ref a_sum_block)
  a_weight_at : Addr
  d_weight_at : FuncData
  F_weight_at : Fun K "weight_at" "weight_at" s_weight_at a_weight_at d_weight_at
  b_weight_at : Binds K d_weight_at ["told", "place"] []
  g_weight_at : mg "weight_at" = some (.ref a_weight_at)
  a_power_rests : Addr
  d_power_rests : FuncData
  F_power_rests : Fun K "power_rests" "power_rests" s_power_rests a_power_rests d_power_rests
  b_power_rests : Binds K d_power_rests ["block", "d"] []
  g_power_rests : mg "power_rests" = some (.ref a_power_rests)
  a_nearest : Addr
  d_nearest : FuncData
  F_nearest : Fun K "nearest" "nearest" s_nearest a_nearest d_nearest
  b_nearest : Binds K d_nearest ["rest", "d"] []
  g_nearest : mg "nearest" = some (.ref a_nearest)
  a_turn : Addr
  d_turn : FuncData
  F_turn : Fun K "turn" "turn" s_turn a_turn d_turn
  b_turn : Binds K d_turn ["told", "d"] []
  g_turn : mg "turn" = some (.ref a_turn)
  a_new_rests : Addr
  d_new_rests : FuncData
  F_new_rests : Fun K "new_rests" "new_rests" s_new_rests a_new_rests d_new_rests
  b_new_rests : Binds K d_new_rests ["least", "block", "power", "weight", "d"] []
  g_new_rests : mg "new_rests" = some (.ref a_new_rests)
  a__law_taken : Addr
  d__law_taken : FuncData
  F__law_taken : Fun K "_law_taken" "_law_taken" s__law_taken a__law_taken d__law_taken
  b__law_taken : Binds K d__law_taken ["_law_row", "_law_many"] []
  g__law_taken : mg "_law_taken" = some (.ref a__law_taken)
  a__law_power : Addr
  d__law_power : FuncData
  F__law_power : Fun K "_law_power" "_law_power" s__law_power a__law_power d__law_power
  b__law_power : Binds K d__law_power ["_law_base", "_law_many"] []
  g__law_power : mg "_law_power" = some (.ref a__law_power)
  a__law_trick : Addr
  d__law_trick : FuncData
  F__law_trick : Fun K "_law_trick" "_law_trick" s__law_trick a__law_trick d__law_trick
  b__law_trick : Binds K d__law_trick ["_law_row", "_law_small"] []
  g__law_trick : mg "_law_trick" = some (.ref a__law_trick)
  a__law_number : Addr
  d__law_number : FuncData
  F__law_number : Fun K "_law_number" "_law_number" s__law_number a__law_number d__law_number
  b__law_number : Binds K d__law_number ["_law_row"] []
  g__law_number : mg "_law_number" = some (.ref a__law_number)
  a__law_sum : Addr
  d__law_sum : FuncData
  F__law_sum : Fun K "_law_sum" "_law_sum" s__law_sum a__law_sum d__law_sum
  b__law_sum : Binds K d__law_sum ["_law_row", "_law_d"] []
  g__law_sum : mg "_law_sum" = some (.ref a__law_sum)
  a__law_labels : Addr
  d__law_labels : FuncData
  F__law_labels : Fun K "_law_labels" "_law_labels" s__law_labels a__law_labels d__law_labels
  b__law_labels : Binds K d__law_labels ["_law_row", "_law_most"] []
  g__law_labels : mg "_law_labels" = some (.ref a__law_labels)
  a_law : Addr
  d_law : FuncData
  F_law : Fun K "law" "law" s_law a_law d_law
  b_law : Binds K d_law ["_law_script"] []
  g_law : mg "law" = some (.ref a_law)
  C_Trick : Addr
  cl_Trick : Cls K C_Trick
  g_Trick : mg "Trick" = some (.ref C_Trick)
  kc_Trick : PySem.W.keepIn K (.ref C_Trick) = true
  ins_Trick : ∀ (H : Hp) (a dx : Addr) (fs : List (Str × V)), H a = some (.ins C_Trick dx fs) → TyOf K H (.ref a) (.ref C_Trick)
  ki_Trick_int : PySem.W.kitOne K (.ref C_Trick) (.type "int") = some false
  ki_Trick_bool : PySem.W.kitOne K (.ref C_Trick) (.type "bool") = some false
  ki_Trick_tuple : PySem.W.kitOne K (.ref C_Trick) (.type "tuple") = some false
  ki_Trick_list : PySem.W.kitOne K (.ref C_Trick) (.type "list") = some false
  nf_Trick_tuple : PySem.W.subIn K (.type "tuple") (.ref C_Trick) = some false
  kis_Trick : PySem.W.kitOne K (.ref C_Trick) (.ref C_Trick) = some true
  kin_Trick_int : PySem.W.kitOne K (.type "int") (.ref C_Trick) = some false
  kin_Trick_bool : PySem.W.kitOne K (.type "bool") (.ref C_Trick) = some false
  kin_Trick_tuple : PySem.W.kitOne K (.type "tuple") (.ref C_Trick) = some false
  kin_Trick_list : PySem.W.kitOne K (.type "list") (.ref C_Trick) = some false
  kin_Trick_NoneType : PySem.W.kitOne K (.type "NoneType") (.ref C_Trick) = some false
  kin_Trick_str : PySem.W.kitOne K (.type "str") (.ref C_Trick) = some false
  kin_Trick_dict : PySem.W.kitOne K (.type "dict") (.ref C_Trick) = some false
  na_Trick_base : NoAttr K C_Trick "_base"
  na_Trick_take : NoAttr K C_Trick "_take"
  na_Trick_times : NoAttr K C_Trick "_times"
  a_Trick___init__ : Addr
  d_Trick___init__ : FuncData
  F_Trick___init__ : Fun K "__init__" "Trick.__init__" s_Trick___init__ a_Trick___init__ d_Trick___init__
  b_Trick___init__ : Binds K d_Trick___init__ ["self", "base", "take", "times"] []
  mk_Trick : Mk K C_Trick a_Trick___init__
  a_Trick_base : Addr
  d_Trick_base : FuncData
  F_Trick_base : Fun K "base" "Trick.base" s_Trick_base a_Trick_base d_Trick_base
  b_Trick_base : Binds K d_Trick_base ["self"] []
  q_Trick_base : Addr
  p_Trick_base : PropOf K C_Trick "base" q_Trick_base a_Trick_base
  a_Trick_take : Addr
  d_Trick_take : FuncData
  F_Trick_take : Fun K "take" "Trick.take" s_Trick_take a_Trick_take d_Trick_take
  b_Trick_take : Binds K d_Trick_take ["self"] []
  q_Trick_take : Addr
  p_Trick_take : PropOf K C_Trick "take" q_Trick_take a_Trick_take
  a_Trick_times : Addr
  d_Trick_times : FuncData
  F_Trick_times : Fun K "times" "Trick.times" s_Trick_times a_Trick_times d_Trick_times
  b_Trick_times : Binds K d_Trick_times ["self"] []
  q_Trick_times : Addr
  p_Trick_times : PropOf K C_Trick "times" q_Trick_times a_Trick_times
  a_Trick___eq__ : Addr
  d_Trick___eq__ : FuncData
  F_Trick___eq__ : Fun K "__eq__" "Trick.__eq__" s_Trick___eq__ a_Trick___eq__ d_Trick___eq__
  b_Trick___eq__ : Binds K d_Trick___eq__ ["self", "other"] []
  m_Trick___eq__ : Meth K C_Trick "__eq__" a_Trick___eq__
  C_Sum : Addr
  cl_Sum : Cls K C_Sum
  g_Sum : mg "Sum" = some (.ref C_Sum)
  kc_Sum : PySem.W.keepIn K (.ref C_Sum) = true
  ins_Sum : ∀ (H : Hp) (a dx : Addr) (fs : List (Str × V)), H a = some (.ins C_Sum dx fs) → TyOf K H (.ref a) (.ref C_Sum)
  ki_Sum_int : PySem.W.kitOne K (.ref C_Sum) (.type "int") = some false
  ki_Sum_bool : PySem.W.kitOne K (.ref C_Sum) (.type "bool") = some false
  ki_Sum_tuple : PySem.W.kitOne K (.ref C_Sum) (.type "tuple") = some false
  ki_Sum_list : PySem.W.kitOne K (.ref C_Sum) (.type "list") = some false
  nf_Sum_tuple : PySem.W.subIn K (.type "tuple") (.ref C_Sum) = some false
  kis_Sum : PySem.W.kitOne K (.ref C_Sum) (.ref C_Sum) = some true
  kin_Sum_int : PySem.W.kitOne K (.type "int") (.ref C_Sum) = some false
  kin_Sum_bool : PySem.W.kitOne K (.type "bool") (.ref C_Sum) = some false
  kin_Sum_tuple : PySem.W.kitOne K (.type "tuple") (.ref C_Sum) = some false
  kin_Sum_list : PySem.W.kitOne K (.type "list") (.ref C_Sum) = some false
  kin_Sum_NoneType : PySem.W.kitOne K (.type "NoneType") (.ref C_Sum) = some false
  kin_Sum_str : PySem.W.kitOne K (.type "str") (.ref C_Sum) = some false
  kin_Sum_dict : PySem.W.kitOne K (.type "dict") (.ref C_Sum) = some false
  na_Sum_base : NoAttr K C_Sum "_base"
  na_Sum_first : NoAttr K C_Sum "_first"
  na_Sum_loop : NoAttr K C_Sum "_loop"
  na_Sum_take : NoAttr K C_Sum "_take"
  a_Sum___init__ : Addr
  d_Sum___init__ : FuncData
  F_Sum___init__ : Fun K "__init__" "Sum.__init__" s_Sum___init__ a_Sum___init__ d_Sum___init__
  b_Sum___init__ : Binds K d_Sum___init__ ["self", "base", "take", "first", "loop"] []
  mk_Sum : Mk K C_Sum a_Sum___init__
  a_Sum_base : Addr
  d_Sum_base : FuncData
  F_Sum_base : Fun K "base" "Sum.base" s_Sum_base a_Sum_base d_Sum_base
  b_Sum_base : Binds K d_Sum_base ["self"] []
  q_Sum_base : Addr
  p_Sum_base : PropOf K C_Sum "base" q_Sum_base a_Sum_base
  a_Sum_take : Addr
  d_Sum_take : FuncData
  F_Sum_take : Fun K "take" "Sum.take" s_Sum_take a_Sum_take d_Sum_take
  b_Sum_take : Binds K d_Sum_take ["self"] []
  q_Sum_take : Addr
  p_Sum_take : PropOf K C_Sum "take" q_Sum_take a_Sum_take
  a_Sum_first : Addr
  d_Sum_first : FuncData
  F_Sum_first : Fun K "first" "Sum.first" s_Sum_first a_Sum_first d_Sum_first
  b_Sum_first : Binds K d_Sum_first ["self"] []
  q_Sum_first : Addr
  p_Sum_first : PropOf K C_Sum "first" q_Sum_first a_Sum_first
  a_Sum_loop : Addr
  d_Sum_loop : FuncData
  F_Sum_loop : Fun K "loop" "Sum.loop" s_Sum_loop a_Sum_loop d_Sum_loop
  b_Sum_loop : Binds K d_Sum_loop ["self"] []
  q_Sum_loop : Addr
  p_Sum_loop : PropOf K C_Sum "loop" q_Sum_loop a_Sum_loop
  a_Sum___eq__ : Addr
  d_Sum___eq__ : FuncData
  F_Sum___eq__ : Fun K "__eq__" "Sum.__eq__" s_Sum___eq__ a_Sum___eq__ d_Sum___eq__
  b_Sum___eq__ : Binds K d_Sum___eq__ ["self", "other"] []
  m_Sum___eq__ : Meth K C_Sum "__eq__" a_Sum___eq__
  n_int : mg "int" = none
  n_bool : mg "bool" = none
  n_len : mg "len" = none
  n_range : mg "range" = none
  n_isinstance : mg "isinstance" = none
  n_tuple : mg "tuple" = none
  n_list : mg "list" = none
  n_enumerate : mg "enumerate" = none
  n_abs : mg "abs" = none
  n_set : mg "set" = none
  n_all : mg "all" = none
  n_min : mg "min" = none
  n_max : mg "max" = none
  n_super : mg "super" = none
  n_ValueError : mg "ValueError" = none
  a_BadNumber___init__ : Addr
  x_BadNumber : ErrX.ErrTxt P K mg "BadNumber" "n" C_BadNumber a_BadNumber___init__ (ErrX.aeOf s_BadNumber___init__) s_BadNumber___init__
  a_BadWeights___init__ : Addr
  x_BadWeights : ErrX.ErrTxt P K mg "BadWeights" "index" C_BadWeights a_BadWeights___init__ (ErrX.aeOf s_BadWeights___init__) s_BadWeights___init__
  a_BadRests___init__ : Addr
  x_BadRests : ErrX.ErrTxt P K mg "BadRests" "index" C_BadRests a_BadRests___init__ (ErrX.aeOf s_BadRests___init__) s_BadRests___init__
  a_BadTricks___init__ : Addr
  x_BadTricks : ErrX.ErrTxt P K mg "BadTricks" "index" C_BadTricks a_BadTricks___init__ (ErrX.aeOf s_BadTricks___init__) s_BadTricks___init__
  a_TooWide___init__ : Addr
  x_TooWide : ErrX.ErrTxt P K mg "TooWide" "most" C_TooWide a_TooWide___init__ (ErrX.aeOf s_TooWide___init__) s_TooWide___init__
/-! ### the program's own classes (no errors) -/
def OwnT {P : Program} {K : PySem.W.Frag} {mg : Str → Option Value} (T : Tx P K mg) (C : Addr) : Prop := C = T.C_Trick ∨ C = T.C_Sum
theorem OwnT.ty {P : Program} {K : PySem.W.Frag} {mg : Str → Option Value} {T : Tx P K mg} {C : Addr} (t : OwnT T C) {H : Hp} {a dx : Addr} {fs : List (Str × V)} (e : H a = some (.ins C dx fs)) : TyOf K H (.ref a) (.ref C) := by
  rcases t with rfl | rfl
  · exact T.ins_Trick _ _ _ _ e
  · exact T.ins_Sum _ _ _ _ e
theorem OwnT.nint {P : Program} {K : PySem.W.Frag} {mg : Str → Option Value} {T : Tx P K mg} {C : Addr} (t : OwnT T C) : PySem.W.kitOne K (.ref C) (.type "int") = some false := by
  rcases t with rfl | rfl
  · exact T.ki_Trick_int
  · exact T.ki_Sum_int
theorem OwnT.nbool {P : Program} {K : PySem.W.Frag} {mg : Str → Option Value} {T : Tx P K mg} {C : Addr} (t : OwnT T C) : PySem.W.kitOne K (.ref C) (.type "bool") = some false := by
  rcases t with rfl | rfl
  · exact T.ki_Trick_bool
  · exact T.ki_Sum_bool
theorem OwnT.ntuple {P : Program} {K : PySem.W.Frag} {mg : Str → Option Value} {T : Tx P K mg} {C : Addr} (t : OwnT T C) : PySem.W.kitOne K (.ref C) (.type "tuple") = some false := by
  rcases t with rfl | rfl
  · exact T.ki_Trick_tuple
  · exact T.ki_Sum_tuple
theorem OwnT.nlist {P : Program} {K : PySem.W.Frag} {mg : Str → Option Value} {T : Tx P K mg} {C : Addr} (t : OwnT T C) : PySem.W.kitOne K (.ref C) (.type "list") = some false := by
  rcases t with rfl | rfl
  · exact T.ki_Trick_list
  · exact T.ki_Sum_list
theorem ar_BadNumber {P : Program} {w : World} : ∀ (v : V) (u : Value), True → RelV v u → ErrX.ArgOk P w (ErrX.aeOf s_BadNumber___init__) "n" u := fun _ _ _ _ => ErrX.argOk_const rfl
theorem ar_BadWeights {P : Program} {w : World} : ∀ (v : V) (u : Value), ErrX.NoneInt v → RelV v u → ErrX.ArgOk P w (ErrX.aeOf s_BadWeights___init__) "index" u := fun _ _ n r => ErrX.argOk_f n r
theorem ar_BadRests {P : Program} {w : World} : ∀ (v : V) (u : Value), ErrX.NoneInt v → RelV v u → ErrX.ArgOk P w (ErrX.aeOf s_BadRests___init__) "index" u := fun _ _ n r => ErrX.argOk_f n r
theorem ar_BadTricks {P : Program} {w : World} : ∀ (v : V) (u : Value), ErrX.NoneInt v → RelV v u → ErrX.ArgOk P w (ErrX.aeOf s_BadTricks___init__) "index" u := fun _ _ n r => ErrX.argOk_f n r
theorem ar_TooWide {P : Program} {w : World} : ∀ (v : V) (u : Value), ErrX.NoneInt v → RelV v u → ErrX.ArgOk P w (ErrX.aeOf s_TooWide___init__) "most" u := fun _ _ n r => ErrX.argOk_f n r
section
variable {P : Program} {w : World} {K : PySem.W.Frag} {mg : Str → Option Value} {base : Heap}
/-! ### heaps -/
/-- all but what stands at r is as it was -/
def But (r : Addr) (H H' : Hp) : Prop := ∀ b o, H b = some o → b ≠ r → H' b = some o
theorem But.refl (r : Addr) (H : Hp) : But r H H := fun _ _ e _ => e
theorem But.trans {r : Addr} {H H1 H2 : Hp} (a : But r H H1) (b : But r H1 H2) : But r H H2 := fun c o e n => b c o (a c o e n) n
theorem Same.but {r : Addr} {H H' : Hp} (a : Same H H') : But r H H' := fun c o e _ => a c o e
theorem But.put {r : Addr} {H : Hp} {o : HO} : But r H (upd H r o) := fun b _ e n => by rw [upd_ne n]; exact e
theorem But.seq {K : PySem.W.Frag} {r a : Addr} {H H' : Hp} {xs : List V} (e : But r H H') (n : a ≠ r) (h : SqL K H a xs) : SqL K H' a xs := by
  rcases h with (h | ⟨o, h⟩) | h
  · exact .inl (.inl (e _ _ h n))
  · exact .inl (.inr ⟨o, e _ _ h n⟩)
  · exact .inr h
theorem same_upd {H : Hp} {p : Addr} {o : HO} (h : H p = none) : Same H (upd H p o) := fun b x e => by
  rw [upd_ne (ne_of_none e h)]
  exact e
/-- any value of the document's point 1 -/
inductive AnyV (T : Addr → Prop) (H : Hp) : V → Prop where
  | non : AnyV T H .non
  | bl (b : Bool) : AnyV T H (.bl b)
  | int (i : Int) : AnyV T H (.int i)
  | str (x : Str) : AnyV T H (.str x)
  | lst {a : Addr} {xs : List V} (e : H a = some (.lst xs)) : AnyV T H (.ref a)
  | tup {a : Addr} {xs : List V} (e : H a = some (.tup xs)) : AnyV T H (.ref a)
  | dct {a : Addr} {kvs : List (Key × V)} (e : H a = some (.dK kvs)) : AnyV T H (.ref a)
  | ins {a C dx : Addr} {fs : List (Str × V)} (t : T C) (e : H a = some (.ins C dx fs)) : AnyV T H (.ref a)
/-- it is an integer from lo to hi -/
def intIn (x : V) (lo hi : Int) : Bool := match x with | .int i => decide (lo ≤ i) && decide (i ≤ hi) | _ => false
theorem intIn_of {i lo hi : Int} (h1 : lo ≤ i) (h2 : i ≤ hi) : intIn (.int i) lo hi = true := by
  show (decide (lo ≤ i) && decide (i ≤ hi)) = true
  rw [decide_eq_true h1, decide_eq_true h2]
  all_goals rfl
theorem small5 {n : Nat} (h : n ≤ 100000) : n < sizeLine := Nat.lt_of_le_of_lt h (by decide)
theorem dec_i (i j : Int) : decide (V.int i = V.int j) = decide (i = j) := by
  rw [Bool.eq_iff_iff]
  simp
theorem AnyV.mono {T : Addr → Prop} {H H' : Hp} {v : V} (a : AnyV T H v) (s : Same H H') : AnyV T H' v := by
  cases a with
  | non => exact .non
  | bl b => exact .bl b
  | int i => exact .int i
  | str x => exact .str x
  | lst e => exact .lst (s _ _ e)
  | tup e => exact .tup (s _ _ e)
  | dct e => exact .dct (s _ _ e)
  | ins t e => exact .ins t (s _ _ e)
theorem intIn_int' {x : V} {lo hi : Int} (h : intIn x lo hi = true) : ∃ i, x = .int i ∧ lo ≤ i ∧ i ≤ hi := by
  cases x with
  | int i =>
    have h2 : (decide (lo ≤ i) && decide (i ≤ hi)) = true := h
    rw [Bool.and_eq_true, decide_eq_true_iff, decide_eq_true_iff] at h2
    exact ⟨i, rfl, h2⟩
  | _ => cases h

/-! ### none twice; keys of two ints -/
/-- no more than so many without one twice -/
theorem pigL {α : Type} [DecidableEq α] : ∀ (L l : List α), l.Nodup → (∀ x ∈ l, x ∈ L) → l.length ≤ L.length
  | [], l, _, h => by
    cases l with
    | nil => exact Nat.le_refl _
    | cons x _ => exact absurd (h x List.mem_cons_self) List.not_mem_nil
  | a :: L, l, hn, h => by
    have ih := pigL L (l.erase a) (hn.erase a) fun x hx => by
      have hx2 := (hn.mem_erase_iff).mp hx
      rcases List.mem_cons.mp (h x hx2.2) with e | e
      · exact absurd e hx2.1
      · exact e
    rw [List.length_erase] at ih
    rw [List.length_cons]
    split at ih <;> omega
abbrev Pr := Int × Int
def kp (q : Pr) : List Key := [.inl q.1, .inl q.2]
theorem kp_inj {q r : Pr} (h : kp q = kp r) : q = r := by
  unfold kp at h
  injection h with h1 h2
  injection h2 with h2 _
  injection h1 with h1
  injection h2 with h2
  exact Prod.ext h1 h2

/-! ### lists of ints -/
theorem dpAll_ints {H : Hp} : ∀ ns : List Int, DpAll K H (ns.map V.int) (ns.map PyData.int)
  | [] => .nil
  | n :: ns => .cons (.int n) (dpAll_ints ns)
theorem dp_ints {H : Hp} {a : Addr} {ns : List Int} (h : SqL K H a (ns.map V.int)) : Dp K H (.ref a) (.list (ns.map PyData.int)) := .lst h (dpAll_ints ns)
theorem dp_tints {H : Hp} {a : Addr} {ns : List Int} (h : SqT K H a (ns.map V.int)) : Dp K H (.ref a) (.tuple (ns.map PyData.int)) := .tup h (dpAll_ints ns)
theorem eqvAll_ints : ∀ ns ms : List Int, PyData.eqvAll (ns.map PyData.int) (ms.map PyData.int) = decide (ns = ms)
  | [], [] => rfl
  | [], _ :: _ => rfl
  | _ :: _, [] => rfl
  | n :: ns, m :: ms => by
    show (PyData.eqv (.int n) (.int m) && PyData.eqvAll (ns.map PyData.int) (ms.map PyData.int)) = _
    rw [eqvAll_ints ns ms]
    show ((n == m) && decide (ns = ms)) = _
    by_cases h1 : n = m
    · by_cases h2 : ns = ms
      · simp [h1, h2]
      · simp [h1, h2]
    · simp [h1]
theorem eqv_ints (ns ms : List Int) : PyData.eqv (.list (ns.map PyData.int)) (.list (ms.map PyData.int)) = decide (ns = ms) := eqvAll_ints ns ms
theorem eqv_tints (ns ms : List Int) : PyData.eqv (.tuple (ns.map PyData.int)) (.tuple (ms.map PyData.int)) = decide (ns = ms) := eqvAll_ints ns ms
theorem shaped_lints (ns : List Int) : SeqAt.shaped (.list (ns.map PyData.int)) = true := PySem.W.shaped_ints ns
/-- an item of a written list at a drawn place -/
theorem at_some (Pr : Int → Prop) {ns : List Int} (h : ∀ z ∈ ns, Pr z) {i : Int} (h0 : 0 ≤ i) (h1 : i < ns.length) : ∃ z, Pr z ∧ atI (ns.map V.int) i = some (V.int z) := by
  obtain ⟨z, hz⟩ : ∃ z, ns[i.toNat]? = some z := ⟨ns[i.toNat]'(by omega), List.getElem?_eq_getElem (by omega)⟩
  refine ⟨z, h z (List.mem_of_getElem? hz), at_of (j := i.toNat) (by omega) (by rw [List.getElem?_map, hz]; rfl)⟩
theorem sorted_ext {l m : List Int} (p : l.Perm m) (h1 : l.Pairwise (· ≤ ·)) (h2 : m.Pairwise (· ≤ ·)) : l = m :=
  p.eq_of_pairwise (fun a b _ _ x y => Int.le_antisymm x y) h1 h2
/-- reading an item within a comprehension: the written part said aloud -/
theorem ix_lK {X : Cx} (h : X.K = K) : IxR X (rIxL K) := by
  subst h
  exact ix_list
/-- the same of a tuple -/
theorem ix_tK {X : Cx} (h : X.K = K) : IxR X (rIxT K) := by
  subst h
  exact ix_tup
/-- name op= e, by the operation in place -/
theorem ip_op {X : Cx} {op : Operator} {r : R2} (ho : OpR X (inplaceOp op) r) : PIp X op r := fun pins s σ H x y v u Q I r1 r2 h => ho pins s σ H x y v u Q I r1 r2 h

/-! ### what is shallow enough to be compared -/
theorem lays_map {α : Type} (f : α → PyData) (k : Nat) (h : ∀ x, PyData.canLay0 (f x) = true ∧ PyData.depth (f x) ≤ k) : ∀ l : List α, PyData.canLayAll0 (l.map f) = true ∧ PyData.depthAll (l.map f) ≤ k
  | [] => ⟨by simp [PyData.canLayAll0], by simp [PyData.depthAll]⟩
  | x :: l => by
    have h1 := lays_map f k h l
    have h2 := h x
    refine ⟨by simp [PyData.canLayAll0, h1.1, h2.1], ?_⟩
    simp only [List.map_cons, PyData.depthAll]
    omega
theorem shaped_of {ds : List PyData} {k : Nat} (h : PyData.canLayAll0 ds = true ∧ PyData.depthAll ds ≤ k) (hk : k ≤ 60) : SeqAt.shaped (.list ds) = true ∧ SeqAt.shaped (.tuple ds) = true := by
  have e1 : PyData.depth (.list ds) ≤ 64 := by simp only [PyData.depth]; omega
  have e2 : PyData.depth (.tuple ds) ≤ 64 := by simp only [PyData.depth]; omega
  refine ⟨?_, ?_⟩
  · show (PyData.canLay0 (.list ds) && decide (PyData.depth (.list ds) ≤ 64)) = true
    rw [Bool.and_eq_true]
    exact ⟨by simp only [PyData.canLay0]; exact h.1, decide_eq_true e1⟩
  · show (PyData.canLay0 (.tuple ds) && decide (PyData.depth (.tuple ds) ≤ 64)) = true
    rw [Bool.and_eq_true]
    exact ⟨by simp only [PyData.canLay0]; exact h.1, decide_eq_true e2⟩
theorem lay_int (i : Int) : PyData.canLay0 (.int i) = true ∧ PyData.depth (.int i) ≤ 1 := ⟨by simp [PyData.canLay0], by simp [PyData.depth]⟩
theorem shaped_tints (ns : List Int) : SeqAt.shaped (.tuple (ns.map PyData.int)) = true := (shaped_of (lays_map PyData.int 1 lay_int ns) (by decide)).2

/-! ### what is wished for less is met, too -/
def TEMono (t : TE) : Prop := ∀ (σ : L2.St) (H : Hp) (Q Q' : VK), (∀ v H1, Q v H1 → Q' v H1) → t σ H Q → t σ H Q'
def TAMono (t : TA) : Prop := ∀ (σ : L2.St) (H : Hp) (Q Q' : List V → Hp → Prop), (∀ v H1, Q v H1 → Q' v H1) → t σ H Q → t σ H Q'
def TTMono (t : TT) : Prop := ∀ (σ : L2.St) (H : Hp) (Q Q' : Bool → Hp → Prop), (∀ b H1, Q b H1 → Q' b H1) → t σ H Q → t σ H Q'
def R2Mono (r : R2) : Prop := ∀ (x y : V) (H : Hp) (Q Q' : VK), (∀ v H1, Q v H1 → Q' v H1) → r x y H Q → r x y H Q'
theorem m_var {i : Nat} : TEMono (tVar i) := fun _ _ _ _ h ⟨v, e, z⟩ => ⟨v, e, h _ _ z⟩
theorem m_c {v : V} : TEMono (tC v) := fun _ _ _ _ h z => h _ _ z
theorem m_op {r : R2} {a b : TE} (hr : R2Mono r) (ha : TEMono a) (hb : TEMono b) : TEMono (tOp r a b) := fun σ H Q Q' h z => ha σ H _ _ (fun x H1 q => hb σ H1 _ _ (fun y H2 q2 => hr x y H2 _ _ h q2) q) z
theorem m_nil : TAMono tNil := fun _ _ _ _ h z => h _ _ z
theorem m_cons {t : TE} {u : TA} (ht : TEMono t) (hu : TAMono u) : TAMono (tCons t u) := fun σ H Q Q' h z => ht σ H _ _ (fun x H1 q => hu σ H1 _ _ (fun xs H2 q2 => h _ _ q2) q) z
theorem m_test {t : TE} (ht : TEMono t) : TTMono (tTest t) := fun σ H Q Q' h z => ht σ H _ _ (fun x H1 ⟨k, e, q⟩ => ⟨k, e, h _ _ q⟩) z
theorem m_and {t u : TT} (ht : TTMono t) (hu : TTMono u) : TTMono (tAnd t u) := fun σ H Q Q' h z => ht σ H _ _ (fun c H1 q => by
  cases c with
  | true => exact hu σ H1 _ _ h q
  | false => exact h _ _ q) z
theorem m_rI {C : Int → Int → Prop} {g : Int → Int → V} : R2Mono (rI C g) := fun _ _ _ _ _ h ⟨i, j, e1, e2, c, q⟩ => ⟨i, j, e1, e2, c, h _ _ q⟩
theorem m_rI0 {g : Int → Int → V} : R2Mono (rI0 g) := fun _ _ _ _ _ h ⟨i, j, e1, e2, q⟩ => ⟨i, j, e1, e2, h _ _ q⟩
theorem m_rEq : R2Mono rEq := fun _ _ _ _ _ h ⟨e, q⟩ => ⟨e, h _ _ q⟩
theorem m_rNe : R2Mono rNe := fun _ _ _ _ _ h ⟨e, q⟩ => ⟨e, h _ _ q⟩
theorem m_rIn {n : Bool} : R2Mono (rIn K n) := fun _ _ _ _ _ h ⟨p, xs, e, s, f, a, q⟩ => ⟨p, xs, e, s, f, a, h _ _ q⟩
theorem m_len {i : Nat} : TEMono (tCB (fun xs H Q => ∃ p ys, xs = [V.ref p] ∧ (SqL K H p ys ∨ SqT K H p ys) ∧ Q (.int (ys.length : Int)) H) (tCons (tVar i) tNil)) := fun _ _ _ _ h ⟨v, e, p, ys, e1, e2, q⟩ => ⟨v, e, p, ys, e1, e2, h _ _ q⟩
/-! ### what is never reached -/
def tNev : TS := fun _ _ _ => False
theorem pss_nev {X : Cx} {sts : List Stmt} : PSs X sts tNev := ⟨fun _ _ _ _ _ _ h => h.elim⟩

/-! ### {k: v} with one key, a tuple -/
/-- the new dict stands empty while the pair is made -/
def tDisp1T (tk tv : TE) : TE := fun σ H Q => ∀ p, H p = none → tk σ (upd H p (.dT [])) fun x H1 => tv σ H1 fun y H2 => H2 p = some (.dT []) ∧ ∃ b k, x = .ref b ∧ H2 b = some (.tup (k.map kV)) ∧ Q (.ref p) (upd H2 p (.dT [(k, y)]))
theorem pe_disp1T {X : Cx} {pos : Pos} {k v : PySem.Expr} {tk tv : TE} (hu : X.A.units + 1 < cLine) (hk : PE X k tk) (hv : PE X v tv) : PE X (.Dict [some k] [v] pos) (tDisp1T tk tv) := by
  refine ⟨fun pins s σ H Q I q => ?_⟩
  have hn := I.hok.fresh (Nat.le_refl s.heap.objs.size)
  have I1 := I.laid (a := s.heap.objs.size) (o := .dT []) (h' := s.heap.push { cls := .type "dict", data := .dict #[] }) (t' := s.toks) (fun _ _ z => Heap.get?_push_of_some _ z) (Nat.le_refl _) (dt_empty s.heap I.big)
  rw [arm_eval_Dict, zip_pairTrees [some k] [v] X.env pos rfl rfl, dictDisplay_pairs (pairTrees [some k] [v] X.env pos) (by unfold pairTrees; exact fun z => nomatch z) (show (1 : Nat) < 17 by decide)]
  refine wpAny_bind (wpAny_standAt (wpAny_bind (wpAny_subDictH (knd := tupleKind (mixKind X.prog X.w)) (Q := fun d s2 => wpAny (model X.prog X.w) X.A (pure (Value.ref d)) (EP X pins σ Q) X.xe s2) (Nat.lt_of_succ_lt hu) (show (1 : Nat) ≤ 15 by decide) (thn ((pps_cons hk hv pps_nil).run pins _ σ _ (fun ps H2 => match ps with
    | [(x, y)] => H2 s.heap.objs.size = some (.dT []) ∧ ∃ b k, x = .ref b ∧ H2 b = some (.tup (k.map kV)) ∧ Q (.ref s.heap.objs.size) (upd H2 s.heap.objs.size (.dT [(k, y)]))
    | _ => False) I1 (q _ hn)) fun ws s2 hh => ?_))))
  obtain ⟨ps, H2, I2, rel, hq⟩ := hh
  split at hq
  · rename_i x y
    obtain ⟨e, b, kk, rfl, eb, q2⟩ := hq
    cases rel with
    | cons r t =>
      cases t
      rename_i uv
      obtain ⟨u1, u2⟩ := uv
      obtain ⟨r1, r2⟩ := r
      cases (show u1 = Value.ref b from r1)
      obtain ⟨z, hd, xs, rel, dd⟩ := dt_of I2.hok e
      cases rel
      refine ⟨[(kk, b, u2)], ⟨rfl, rfl, key_of I2.hok eb, trivial⟩, dd, fun h' tk dd' hs => wpAny_pure ⟨.ref s.heap.objs.size, _, ?_, rfl, q2⟩⟩
      obtain ⟨o, es, ep, hq, h2, h3, h4, _, h5⟩ := dd'
      refine d_write I2 (by rw [e]; exact True.intro) hs ⟨o, hq⟩ ⟨by show 1 ≤ sizeLine; decide, hd, _, ((KT.put (k := kk) (b := b) (y := y) (u := u2) (.nil : KT H2 [] []) eb r2)).keeps fun c ys ec => ?_, o, es, ep, hq, h2, h3, h4, h5⟩
      rw [upd_ne (ne_of ec e (fun z => nomatch z))]
      exact ec
  · exact hq.elim

/-! ### d.items() of a dict with tuple keys, walked -/
end
end Rt
namespace L2
open PySem PySem.Spec PyProof.Rows
/-- the pairs, each a new tuple with the key's own tuple in it -/
def Itit (d : Addr) (o : Obj) (kvs : List (List Key × V)) : It :=
  ⟨fun i H => H d = some (.frz o (.dT kvs)) ∧ i < kvs.length, fun i H x H2 => ∃ (T : Addr) (k : List Key) (v : V) (q : Addr), kvs[i]? = some (k, v) ∧ H q = some (.tup (k.map kV)) ∧ x = .ref T ∧ H T = none ∧ H2 = upd H T (.tup [.ref q, v]), fun i H => H d = some (.frz o (.dT kvs)) ∧ kvs.length ≤ i⟩
section
variable {X : Cx} {pins : List (Addr × Obj)} {σ : St} {H : Hp} {s : Shared} {d : Addr} {o : Obj}
theorem frzT2 {kvs : List (List Key × V)} (I : Inv X pins σ H s) (h : H d = some (.frz o (.dT kvs))) :
    (d == sysModules) = false ∧ s.heap.get? d = some o ∧ o.ExactDict ∧ ∃ (es : Array DictEntry) (ep : Nat), o.data = .dict es ep ∧ es.size = kvs.length ∧
      ∀ (i : Nat) (k : List Key) (v : V), kvs[i]? = some (k, v) → ∃ (en : DictEntry) (q : Addr), es[i]? = some en ∧ en.key = .ref q ∧ H q = some (.tup (k.map kV)) ∧ RelV v en.val := by
  obtain ⟨hd, _, nm, xs, pr, oo, es, ep, ho, hx, hdt, he, _⟩ := I.hok d _ h
  rw [hd] at ho
  cases ho
  refine ⟨nm, hd, hx, es, ep, hdt, ?_, fun i k v e => ?_⟩
  · have l1 : es.size = xs.length := size_of_entries he
    have l2 : kvs.length = xs.length := Paired.length pr
    omega
  · obtain ⟨b, hb, e1, e2, e3⟩ := L2.paired_get pr e
    have q := entry_at he i
    rw [hb] at q
    exact ⟨_, b.2.1, q, rfl, e2, e3⟩
end
theorem turn_itemsT {P : Program} {w : World} {K : PySem.W.Frag} {d it : Addr} {o : Obj} {es : Array DictEntry} {ep : Nat} {kvs : List (List Key × V)} {elts : List PySem.Expr} {kk : Nat} {tpos : Pos} (hod : o.data = .dict es ep) :
    Turn P w K (.Tuple elts kk tpos) (Itit d o kvs) [it] it (fun i h => ∃ ok ov, IsItemIter h it d i kvs.length ep ok ov) where
  mem := List.mem_cons_self
  obj := fun i h st b hb => by
    rw [List.mem_singleton.mp hb]
    obtain ⟨ok, ov, e⟩ := st
    exact ⟨_, e, fun v z => nomatch z⟩
  keep := fun i h h2 st k => let ⟨ok, ov, e⟩ := st; ⟨ok, ov, k it List.mem_cons_self _ e⟩
  item := by
    intro X hP hw hK hc i pins s σ H E I hf st hg
    subst hP hw hK
    obtain ⟨hd, hi⟩ := hg
    obtain ⟨hs, hgd, hx, es2, ep2, hdt, hsz, at_⟩ := frzT2 I hd
    obtain ⟨rfl, rfl⟩ := dict_ep hod hdt
    obtain ⟨⟨k, v⟩, hkv⟩ : ∃ p, kvs[i]? = some p := ⟨kvs[i], List.getElem?_eq_getElem hi⟩
    obtain ⟨en, q, hen, hkey, hq, rv⟩ := at_ i k v hkv
    obtain ⟨ok, ov, he⟩ := st
    rw [← hsz] at he
    have hlt : it < s.heap.objs.size := Heap.lt_size he
    have hi2 : i < es2.size := by omega
    have een : es2[i] = en := by
      rw [Array.getElem?_eq_getElem hi2] at hen
      exact Option.some.inj hen
    refine DT.nextI (es := es2) he ⟨o, hgd, hx, hdt⟩ hi2 fun h1 ho hT hz hk => ?_
    rw [een] at ho hT
    refine ⟨_, rfl, wpAny_letOwnedTupleGo_items (s := { s with heap := h1 }) ho fun h2 he2 sb => ?_⟩
    have hT2 : h2.get? s.heap.objs.size = some { cls := .type "tuple", data := .seq #[en.key, en.val] } := (sb.2 _ (Nat.ne_of_gt hlt)).trans hT
    have new : ObjOk X.prog X.w (upd H s.heap.objs.size (.tup [.ref q, v])) h2 s.heap.objs.size (.tup [.ref q, v]) :=
      ⟨by show 2 ≤ sizeLine; decide, [en.key, en.val], .cons hkey (.cons rv .nil), ⟨_, hT2, rfl, _, rfl⟩⟩
    have I1 : Inv X pins σ (upd H s.heap.objs.size (.tup [.ref q, v])) { s with heap := h2 } :=
      I.turnedNew (t' := s.toks) (ch := [it]) (fun b ob hb e => (sb.2 b (fun z => hb (by rw [z]; exact List.mem_cons_self))).trans (hk b ob (fun z => hb (by rw [z]; exact List.mem_cons_self)) e)) hf (Nat.le_refl _) new
    refine ⟨.ref s.heap.objs.size, _, I1, rfl, ⟨_, k, v, q, hkv, hq, rfl, I.hok.fresh (Nat.le_refl _), rfl⟩, ⟨en.key, en.val, ?_⟩, fun b hb => ?_⟩
    · rw [← hsz]
      exact he2
    · rw [List.mem_singleton.mp hb, upd_ne (Nat.ne_of_lt hlt)]
      exact (hf it List.mem_cons_self).1
  done := by
    intro X hP hw hK hc i pins s σ H E I hf st hg
    subst hP hw hK
    obtain ⟨hd, hi⟩ := hg
    obtain ⟨f0, f1, f2, f3, f4, f5⟩ := hf it List.mem_cons_self
    obtain ⟨hs, hgd, hx, es2, ep2, hdt, hsz, _⟩ := frzT2 I hd
    obtain ⟨rfl, rfl⟩ := dict_ep hod hdt
    obtain ⟨ok, ov, he⟩ := st
    rw [← hsz] at he
    exact DT.endI (es := es2) (I.ok.hd hc) he ⟨o, hgd, hx, hdt⟩ (by omega) fun h1 eb => ⟨rfl, I.turned (t' := s.toks) (fun b ob hb e => eb b ob hb e) f0 f1 f3 f4 f5⟩
  self := fun A i s Q E st h => let ⟨_, _, e⟩ := st; PySem.W.kcp_self e h
/-- d.items(): the dict is locked -/
def iItemsT (td : TE) : TI := fun σ H R => td σ H fun x H1 => ∃ d o kvs, x = .ref d ∧ H1 d = some (.frz o (.dT kvs)) ∧ R (Itit d o kvs) H1
theorem pi_itemsT {X : Cx} {e : PySem.Expr} {td : TE} {apos cpos tpos : Pos} {elts : List PySem.Expr} {kk : Nat} (he : PE X e td) (hbase : attributeBase e "items" X.env (eval e X.env) = eval e X.env := by rfl) (hline : (apos.endLine == cpos.line) = true := by rfl) :
    PI X (.Tuple elts kk tpos) (.Call (.Attribute e "items" apos) [] [] cpos) (iItemsT td) := by
  refine ⟨fun pins s σ H R I h => ?_⟩
  refine wpAny_Call_method (T := "dict") (id := "dict.items") hbase rfl hline F.plainAttrs_dict F.slot_dict_items F.type_dict_items (thn (he.run pins s σ H _ I h) fun u s1 ⟨x, H1, I1, rx, d, o, kvs, ex, hd, q⟩ => ?_)
  subst ex
  obtain rfl : u = Value.ref d := rx
  obtain ⟨hs, hgd, hx, es, ep, hdt, hsz, _⟩ := frzT2 I1 hd
  have raw : DT.Raw s1.heap d es ep := ⟨o, hgd, hx, hdt⟩
  refine ⟨raw.typeIs, ?_, ?_⟩
  · exact fun b z => by cases z; exact ⟨o, hgd, hx.2.1⟩
  have I2 : Inv X pins σ H1 { s1 with heap := s1.heap.push { cls := .type "dict_items", data := .fields #[.ref d] } } := I1.kept (t' := s1.toks) fun b ob q => Heap.get?_push_of_some _ q
  have fin : wpAny (model X.prog X.w) X.A (pyIter (.ref s1.heap.objs.size)) (PIE X pins σ (.Tuple elts kk tpos) R) X.xe { s1 with heap := s1.heap.push { cls := .type "dict_items", data := .fields #[.ref d] } } := by
    refine DT.iterI (d := d) (es := es) (ep := ep) ⟨_, Heap.get?_push_size _ rfl, rfl, rfl⟩ (raw.push _) (pi_one (tk := s1.toks) I2 _ (turn_itemsT hdt) ⟨.none, .none, ?_⟩ q)
    rw [← hsz]
    exact Heap.get?_push_size _ rfl
  show wpAny _ _ (callWith cpos (.builtin "dict.items") [.ref d] [] []) _ X.xe s1
  exact method_meetsIn F.slot_dict_items F.entry_dict_items rfl (PySem.evalArgs_none ⟨rfl, raw.typeIs, F.args_dict_items_1 _, _, DT.meetsItems (es := es) (ep := ep) hs, raw, fin⟩)
theorem walk_itemsT {d : Addr} {o : Obj} {kvs : List (List Key × V)} : Walk (Itit d o kvs) kvs.length (fun H => H d = some (.frz o (.dT kvs))) (fun i H x H2 => ∃ (T : Addr) (k : List Key) (v : V) (q : Addr), kvs[i]? = some (k, v) ∧ H q = some (.tup (k.map kV)) ∧ x = .ref T ∧ H T = none ∧ H2 = upd H T (.tup [.ref q, v])) :=
  ⟨fun i _ lt q => ⟨q, lt⟩, fun _ q => ⟨q, Nat.le_refl _⟩, fun i H v H2 _ q w => w⟩
end L2
namespace Rt
open PySem L2 PySem.Spec PyProof.Rows
section
variable {P : Program} {w : World} {K : PySem.W.Frag} {mg : Str → Option Value} {base : Heap}

/-! ### the truth of a dict with tuple keys -/
end
end Rt
namespace L2
open PySem PySem.Spec PyProof.Rows
section
variable {P : Program} {w : World} {A : Around} {E : Value → Shared → Prop} {s : Shared} {κ : Type} [DecidableEq κ] {kn : HeapKind P w κ}
theorem truth_dH {a : Addr} {ys : List (κ × Addr × Value)} {Q : Bool → Shared → Prop} (nm : (a == sysModules) = false) (at_ : s.heap.DictOfH kn a ys) (small : (ys.length : Int) < 2 ^ 63) (q : Q (!ys.isEmpty) { s with toks := s.toks + 1 + 1 }) :
    wpAny (model P w) A (truthy (.ref a)) Q E s := by
  have ne0 : ((ys.length : Int) != 0) = !ys.isEmpty := by
    cases ys with
    | nil => rfl
    | cons y r => simp; omega
  have lens : wpAny (model P w) A (runValue (.builtin "len" ⟨[.ref a], []⟩)) (fun r s2 => r = .int ys.length (s.toks + 1) ∧ Q (!ys.isEmpty) s2) E s :=
    wpAny_runValue (codeAny_builtin PySem.entry_len (by
      rw [Around.under_plainId PySem.plain_len _]
      exact wpAny_mono (wpAny_len_body_dictH (Q := fun r s2 => r = .int ys.length (s.toks + 1) ∧ Q (!ys.isEmpty) s2) nm at_ small ⟨rfl, q⟩) (fun fin s2 ⟨r, e, z⟩ => by rw [e]; exact z) fun _ _ e => e))
  unfold truthy
  refine wpAny_bind (wpAny_callSpecial?_none (name := Str.ofString "__bool__") at_.typeIs PySem.noBool_dict (wpAny_bind ?_))
  exact wpAny_specialOf (name := Str.ofString "__len__") at_.typeIs F.slot_dict_len.lookup (wpAny_bind (wpAny_mono lens (fun r s2 ⟨e, z⟩ => by rw [e]; exact wpAny_pure (ne0 ▸ z)) fun _ _ e => e))
end
def rTruT : V → Hp → (Bool → Hp → Prop) → Prop := fun x H Q => ∃ (p : Addr) (kvs : List (List Key × V)), x = .ref p ∧ H p = some (.dT kvs) ∧ Q (!kvs.isEmpty) H
theorem tru_dT {X : Cx} : TruR X rTruT := by
  intro pins s σ H x v Q I rx h
  obtain ⟨p, kvs, rfl, hp, q⟩ := h
  cases rx
  obtain ⟨z, nm, ys, rel, dd⟩ := dt_of I.hok hp
  have hl : kvs.length = ys.length := Paired.length rel
  have e : (!ys.isEmpty) = !kvs.isEmpty := by
    cases kvs <;> cases ys <;> first | rfl | cases hl
  exact truth_dH nm dd (by rw [← hl]; rw [sizeLine_eq] at z; omega) ⟨H, I.tok _, by rw [e]; exact q⟩
end L2
namespace Rt
open PySem L2 PySem.Spec PyProof.Rows
section
variable {P : Program} {w : World} {K : PySem.W.Frag} {mg : Str → Option Value} {base : Heap}

end
end Rt
namespace L2
open PySem PySem.Spec PyProof.Rows
/-! ### dicts whose keys are a number and a tuple of numbers, with numbers as values -/
abbrev NKey : Type := Int × List Int
abbrev NEnt : Type := NKey × Addr × Int
def nkOf (k : NKey) : NestedKey := .tup [.num k.1, .tup (k.2.map .num)]
theorem nums_inj : ∀ {a b : List Int}, a.map NestedKey.num = b.map NestedKey.num → a = b
  | [], [], _ => rfl
  | x :: a, y :: b, h => by
    rw [List.map_cons, List.map_cons] at h
    have h1 := (List.cons.inj h).1
    rw [nums_inj (List.cons.inj h).2]
    cases h1
    rfl
  | [], _ :: _, h => by cases h
  | _ :: _, [], h => by cases h
theorem nkOf_inj {k l : NKey} (h : nkOf k = nkOf l) : k = l := by
  unfold nkOf at h
  injection h with h
  obtain ⟨h1, h2⟩ := List.cons.inj h
  obtain ⟨h2, _⟩ := List.cons.inj h2
  injection h1 with h1
  injection h2 with h2
  exact Prod.ext h1 (nums_inj h2)
theorem nums_depth : ∀ a : List Int, NestedKey.depthAll (a.map NestedKey.num) = 0
  | [] => by simp [NestedKey.depthAll]
  | x :: a => by simp [NestedKey.depthAll, NestedKey.depth, nums_depth a]
theorem nk_depth (k : NKey) : (nkOf k).depth ≤ 8 := by
  unfold nkOf
  simp [NestedKey.depth, NestedKey.depthAll, nums_depth]
/-- the key k stands at b -/
def NkAt (H : Hp) (b : Addr) (k : NKey) : Prop := ∃ c, H b = some (.tup [.int k.1, .ref c]) ∧ H c = some (.tup (k.2.map V.int))
def EntN (x : NEnt) (y : NestedKey × Addr × Value) : Prop := y.1 = nkOf x.1 ∧ y.2.1 = x.2.1 ∧ ∃ t, y.2.2 = .int x.2.2 t
def nO (P : Program) (w : World) (a : Addr) (xs : List NEnt) : HO := .ext fun h => xs.length ≤ sizeLine ∧ (a == sysModules) = false ∧ (xs.map (·.1)).Nodup ∧ ∃ ys, Paired EntN xs ys ∧ ∃ o es ep, h.get? a = some o ∧ o.ExactDict ∧ o.data = .dict es ep ∧ es.toList = ys.map (entryOfKey (nestedKind P w))
theorem nO_ok {P : Program} {w : World} {H : Hp} {h : Heap} {a : Addr} {xs : List NEnt} (h1 : xs.length ≤ sizeLine) (h2 : (a == sysModules) = false) (h3 : (xs.map (·.1)).Nodup) {ys : List (NestedKey × Addr × Value)} (h4 : Paired EntN xs ys) {o : Obj} {es : Array DictEntry} {ep : Nat} (h5 : h.get? a = some o) (h6 : o.ExactDict) (h7 : o.data = .dict es ep) (h8 : es.toList = ys.map (entryOfKey (nestedKind P w))) : ObjOk P w H h a (nO P w a xs) :=
  ⟨⟨h1, h2, h3, ys, h4, o, es, ep, h5, h6, h7, h8⟩, ⟨o, h5⟩, fun _ _ ⟨z1, z2, z3, ys, z4, o, es, ep, z5, z6⟩ k => ⟨z1, z2, z3, ys, z4, o, es, ep, k _ z5, z6⟩⟩
/-- what it holds -/
def nVal (xs : List NEnt) (k : NKey) : Option Int := (xs.find? fun x => decide (x.1 = k)).map (·.2.2)
theorem n_at {k : NKey} : ∀ {xs : List NEnt} {ys : List (NestedKey × Addr × Value)}, Paired EntN xs ys → (nVal xs k = none → atKey ys (nkOf k) = none) ∧ ∀ v, nVal xs k = some v → ∃ b t, atKey ys (nkOf k) = some (b, .int v t)
  | _, _, .nil => ⟨fun _ => rfl, fun _ h => by cases h⟩
  | x :: xs, y :: ys, .cons h r => by
    obtain ⟨e1, e2, t, e3⟩ := h
    obtain ⟨i1, i2⟩ := n_at (k := k) r
    unfold nVal atKey at *
    rw [List.find?_cons, List.find?_cons]
    by_cases e : x.1 = k
    · rw [show decide (x.1 = k) = true from decide_eq_true e, show decide (y.1 = nkOf k) = true from decide_eq_true (by rw [e1, e])]
      refine ⟨fun h => (by cases h), fun v h => ⟨y.2.1, t, ?_⟩⟩
      have hv : x.2.2 = v := Option.some.inj h
      show some y.2 = _
      rw [← hv, ← e3]
    · rw [show decide (x.1 = k) = false from decide_eq_false e, show decide (y.1 = nkOf k) = false from decide_eq_false fun z => e (nkOf_inj (e1.symm.trans z))]
      exact ⟨i1, i2⟩
theorem n_keys : ∀ {xs : List NEnt} {ys : List (NestedKey × Addr × Value)}, Paired EntN xs ys → ys.map (·.1) = (xs.map (·.1)).map nkOf ∧ xs.length = ys.length
  | _, _, .nil => ⟨rfl, rfl⟩
  | x :: xs, y :: ys, .cons h r => by
    obtain ⟨a, b⟩ := n_keys r
    exact ⟨by rw [List.map_cons, List.map_cons, List.map_cons, a, h.1], by rw [List.length_cons, List.length_cons, b]⟩
theorem n_mem : ∀ {xs : List NEnt} {ys : List (NestedKey × Addr × Value)}, Paired EntN xs ys → ∀ y ∈ ys, ∃ x ∈ xs, EntN x y
  | _, _, .nil, y, h => by cases h
  | x :: xs, y' :: ys, .cons h r, y, hy => by
    rcases List.mem_cons.mp hy with e | e
    · exact ⟨x, List.mem_cons_self, e ▸ h⟩
    · obtain ⟨z, hz, q⟩ := n_mem r y e
      exact ⟨z, List.mem_cons_of_mem _ hz, q⟩
section
variable {X : Cx} {pins : List (Addr × Obj)} {σ : St} {H : Hp} {s : Shared}
theorem nums_is {h : Heap} : ∀ {is : List Int} {us : List Value}, Vals (is.map V.int) us → NestedAll h (is.map NestedKey.num) us
  | [], _, .nil => .nil
  | i :: is, _, .cons r t => by
    obtain ⟨u, rfl⟩ := r
    exact .cons (.int i u) (nums_is t)
theorem nk_is (I : Inv X pins σ H s) {b : Addr} {k : NKey} (h : NkAt H b k) : (nestedKind X.prog X.w).is s.heap (nkOf k) b := by
  obtain ⟨c, e1, e2⟩ := h
  obtain ⟨its, r1, ⟨o1, a1, a2, n1, a3⟩, _⟩ := I.tuple (SqT.of e1)
  obtain ⟨its2, r2, ⟨o2, b1, b2, n2, b3⟩, _⟩ := I.tuple (SqT.of e2)
  refine ⟨?_, nk_depth k⟩
  cases r1 with
  | cons q1 t1 =>
    cases t1 with
    | cons q2 t2 =>
      cases t2
      obtain ⟨u, rfl⟩ := q1
      cases q2
      exact .tup a1 a2 a3 (.cons (.int _ _) (.cons (.tup b1 b2 b3 (nums_is r2)) .nil))
def KeysN (H : Hp) (xs : List NEnt) : Prop := ∀ x ∈ xs, NkAt H x.2.1 x.1
theorem dn_of (I : Inv X pins σ H s) {a : Addr} {xs : List NEnt} (e : H a = some (nO X.prog X.w a xs)) (hk : KeysN H xs) : xs.length ≤ sizeLine ∧ (a == sysModules) = false ∧ (xs.map (·.1)).Nodup ∧ ∃ ys, Paired EntN xs ys ∧ s.heap.DictOfH (nestedKind X.prog X.w) a ys := by
  obtain ⟨⟨h1, h2, h3, ys, h4, o, es, ep, h5, h6, h7, h8⟩, _⟩ := I.hok _ _ e
  obtain ⟨k1, _⟩ := n_keys h4
  refine ⟨h1, h2, h3, ys, h4, o, es, ep, h5, h6, h7, h8, fun y hy => ?_, ?_⟩
  · obtain ⟨x, hx, q1, q2, _⟩ := n_mem h4 y hy
    rw [q1, q2]
    exact nk_is I (hk x hx)
  · rw [k1]
    exact List.pairwise_map.mpr (List.Pairwise.imp (fun z q => z (nkOf_inj q)) h3)
/-- what the dict at a holds at y; the heap behind a[y] = v -/
def DGetX (P : Program) (w : World) (H : Hp) (a : Addr) (y : V) (o : Option V) : Prop := DGet H a y o ∨ ∃ xs k b, H a = some (nO P w a xs) ∧ KeysN H xs ∧ y = .ref b ∧ NkAt H b k ∧ o = (nVal xs k).map V.int
def DPutX (P : Program) (w : World) (H : Hp) (a : Addr) (y v : V) (H' : Hp) : Prop := DPut H a y v H' ∨ ∃ xs k b i, H a = some (nO P w a xs) ∧ KeysN H xs ∧ y = .ref b ∧ NkAt H b k ∧ nVal xs k = none ∧ xs.length < sizeLine ∧ v = .int i ∧ H' = upd H a (nO P w a (xs ++ [(k, b, i)]))
variable {a : Addr} {y v : V} {u r : Value} {o : Option V} {A : Around} {E : Value → Shared → Prop}
theorem n_room (hu : A.units + 64 < cLine) : (nestedKind X.prog X.w).room A.in1 := by
  show A.in1.units + 8 < cLine
  have : A.in1.units = A.units + 1 := rfl
  omega
theorem x_getItem {Q : Value → Shared → Prop} (hu : A.units + 64 < cLine) (I : Inv X pins σ H s) (g : DGetX X.prog X.w H a y (some v)) (ry : RelV y u) (h : ∀ w' s', Inv X pins σ H s' → RelV v w' → Q w' s') :
    wpAny (model X.prog X.w) A (getItem (.ref a) u) Q E s := by
  rcases g with g | ⟨xs, k, b, e, hk, ey, eb, l⟩
  · exact d_getItem (by omega) I g ry h
  · subst ey
    cases (show u = Value.ref b from ry)
    obtain ⟨_, hd, _, ys, hp, dd⟩ := dn_of I e hk
    obtain ⟨i, hi, rfl⟩ := Option.map_eq_some_iff.mp l.symm
    obtain ⟨c, t, hc⟩ := (n_at hp).2 i hi
    exact wpAny_getItem_heap (n_room hu) (nk_is I eb) dd hc (h _ _ (I.tok _) ⟨t, rfl⟩)
theorem x_notIn {Q : Value → Shared → Prop} (hu : A.units + 64 < cLine) (I : Inv X pins σ H s) (g : DGetX X.prog X.w H a y o) (ry : RelV y u) (h : ∀ s', Inv X pins σ H s' → Q (.bool (!o.isSome)) s') :
    wpAny (model X.prog X.w) A (compareOp .NotIn u (.ref a)) Q E s := by
  rcases g with g | ⟨xs, k, b, e, hk, ey, eb, l⟩
  · exact d_notIn (by omega) I g ry h
  · subst ey
    cases (show u = Value.ref b from ry)
    obtain ⟨_, hd, _, ys, hp, dd⟩ := dn_of I e hk
    refine wpAny_notIn_heap (n_room hu) (nk_is I eb) hd dd ?_
    have q : (atKey ys (nkOf k)).isSome = o.isSome := by
      rw [l, Option.isSome_map]
      cases z : nVal xs k with
      | none => rw [(n_at hp).1 z]; rfl
      | some i =>
        obtain ⟨c, t, hc⟩ := (n_at hp).2 i z
        rw [hc]
        rfl
    rw [q]
    exact h _ (I.tok _)
theorem n_snoc {x : NEnt} {z : NestedKey × Addr × Value} (h : EntN x z) : ∀ {xs : List NEnt} {ys : List (NestedKey × Addr × Value)}, Paired EntN xs ys → Paired EntN (xs ++ [x]) (ys ++ [z])
  | _, _, .nil => .cons h .nil
  | _, _, .cons a r => .cons a (n_snoc h r)
theorem x_setItem {H' : Hp} {Q : Unit → Shared → Prop} (hu : A.units + 64 < cLine) (I : Inv X pins σ H s) (g : DPutX X.prog X.w H a y v H') (ry : RelV y u) (rv : RelV v r) (h : ∀ s', Inv X pins σ H' s' → Q () s') :
    wpAny (model X.prog X.w) A (setItem (.ref a) u r) Q E s := by
  rcases g with g | ⟨xs, k, b, i, e, hk, ey, eb, hn, hl, ev, eH⟩
  · exact d_setItem (by omega) I g ry rv h
  · subst ey ev eH
    cases (show u = Value.ref b from ry)
    obtain ⟨t, rfl⟩ := rv
    obtain ⟨hz, hd, nd, ys, hp, dd⟩ := dn_of I e hk
    obtain ⟨_, hlen⟩ := n_keys hp
    refine wpAny_setItem_heap (hsz := by rw [← hlen]; exact hz) (n_room hu) (nk_is I eb) dd fun h' dd' hs => h _ ?_
    rw [storedH_new ((n_at hp).1 hn)] at dd'
    obtain ⟨q, es, ep, hq, h2, h3, h4, _, h5⟩ := dd'
    refine d_write I (by rw [e]; exact True.intro) hs ⟨q, hq⟩ (nO_ok (by rw [List.length_append, List.length_singleton]; omega) hd ?_ (n_snoc ⟨rfl, rfl, t, rfl⟩ hp) hq h2 h3 h4)
    rw [List.map_append]
    refine List.nodup_append.mpr ⟨nd, List.nodup_cons.mpr ⟨List.not_mem_nil, List.nodup_nil⟩, fun x hx z hz2 => ?_⟩
    rw [List.mem_singleton.mp hz2]
    rintro rfl
    obtain ⟨x, hx2, rfl⟩ := List.mem_map.mp hx
    unfold nVal at hn
    have := List.find?_eq_none.mp (Option.map_eq_none_iff.mp hn) x hx2
    simp at this
theorem n_empty (h : Heap) (hb : sysModules < h.objs.size) : ObjOk X.prog X.w H (h.push { cls := .type "dict", data := .dict #[] }) h.objs.size (nO X.prog X.w h.objs.size []) :=
  nO_ok (Nat.zero_le _) (beq_eq_false_iff_ne.mpr (Ne.symm (Nat.ne_of_lt hb))) List.nodup_nil .nil (Heap.get?_push_size _ rfl) ⟨rfl, rfl, rfl⟩ rfl rfl
end
section
variable {X : Cx} {o i e value : Expr} {pos pos' tpos : Pos} {td ty tv : TE}
def tDNewX (P : Program) (w : World) : TE := fun _ H Q => (∀ p, H p = none → Q (.ref p) (upd H p (.dK []))) ∨ ∀ p, H p = none → Q (.ref p) (upd H p (nO P w p []))
def tDGetX (P : Program) (w : World) (td ty : TE) : TE := fun σ H Q => td σ H fun x H1 => ty σ H1 fun y H2 => ∃ a v, x = .ref a ∧ DGetX P w H2 a y (some v) ∧ Q v H2
def tDNotInX (P : Program) (w : World) (ty td : TE) : TE := fun σ H Q => ty σ H fun y H1 => td σ H1 fun x H2 => ∃ a o, x = .ref a ∧ DGetX P w H2 a y o ∧ Q (.bl (!o.isSome)) H2
def sDPutX (P : Program) (w : World) (td ty tv : TE) : TS := fun D σ H => tv σ H fun v H1 => td σ H1 fun x H2 => ty σ H2 fun y H3 => ∃ a H4, x = .ref a ∧ DPutX P w H3 a y v H4 ∧ D.nx σ H4
theorem pe_dnewX : PE X (.Dict [] [] pos) (tDNewX X.prog X.w) := ⟨fun pins s σ H Q I h => by
  rcases h with h | h
  · exact pe_dnewK.run pins s σ H Q I h
  · exact wpAny_Dict_empty ⟨.ref s.heap.objs.size, _, I.laid (a := s.heap.objs.size) (o := nO X.prog X.w s.heap.objs.size []) (t' := s.toks) (fun _ _ q => Heap.get?_push_of_some _ q) (Nat.le_refl _) (n_empty s.heap I.big), rfl, h _ (I.hok.fresh (Nat.le_refl _))⟩⟩
theorem dX_typeIs {pins : List (Addr × Obj)} {σ : St} {H : Hp} {s : Shared} {a : Addr} {y : V} {o : Option V} (I : Inv X pins σ H s) (g : DGetX X.prog X.w H a y o) : s.TypeIs (.ref a) "dict" := by
  rcases g with g | ⟨xs, k, b, e, hk, _⟩
  · exact dict_typeIs I g
  · obtain ⟨_, _, _, ys, _, dd⟩ := dn_of I e hk
    exact dd.typeIs
theorem pe_dgetX (hu : X.A.units + 64 < cLine) (ho : PE X o td) (hi : PE X i ty) (hs : NoSl i) : PE X (.Subscript o i pos) (tDGetX X.prog X.w td ty) := by
  refine ⟨fun pins s σ H Q I h => ?_⟩
  refine subD_of PySem.F.slot_dict_getitem.lookup hs (thn (ho.run pins s σ H _ I h) fun u s1 ⟨x, H1, I1, rx, q1⟩ => thn (hi.run pins s1 σ H1 _ I1 q1) fun iv s2 ⟨y, H2, I2, ry, a, v, ex, g, q2⟩ => ?_)
  subst ex
  obtain rfl : u = Value.ref a := rx
  exact ⟨dX_typeIs I2 g, x_getItem hu I2 g ry fun w' s3 I3 rw' => ⟨v, H2, I3, rw', q2⟩⟩
theorem pc_dnotinX (hu : X.A.units + 64 < cLine) (hi : PE X i ty) (ho : PE X o td) : PC X .NotIn i o (tDNotInX X.prog X.w ty td) := by
  refine ⟨fun pins s σ H Q I h => ?_⟩
  refine thn (hi.run pins s σ H _ I h) fun iv s1 ⟨y, H1, I1, ry, q1⟩ => thn (ho.run pins s1 σ H1 _ I1 q1) fun u s2 ⟨x, H2, I2, rx, a, ov, ex, g, q2⟩ => ?_
  subst ex
  obtain rfl : u = Value.ref a := rx
  exact x_notIn hu I2 g ry fun s3 I3 => ⟨.bl (!ov.isSome), H2, I3, rfl, q2⟩
theorem ps_dputX (hu : X.A.units + 64 < cLine) (ho : PE X o td) (hi : PE X i ty) (hv : PE X value tv) (hs : swapsWith value (some (.Subscript o i pos')) pos.line X.env = pure false) :
    PS X (.Assign [.Subscript o i pos'] value pos) (sDPutX X.prog X.w td ty tv) := by
  refine ⟨fun pins s σ H D I h => ?_⟩
  refine wpAny_Assign_Subscript (thn (hv.run pins s σ H _ I h) fun r s1 ⟨v, H1, I1, rv, q1⟩ => thn (ho.run pins s1 σ H1 _ I1 q1) fun u s2 ⟨x, H2, I2, rx, q2⟩ => thn (hi.run pins s2 σ H2 _ I2 q2) fun iv s3 ⟨y, H3, I3, ry, a, H4, ex, g, q3⟩ => ?_) hs
  subst ex
  obtain rfl : u = Value.ref a := rx
  exact x_setItem hu I3 g ry rv fun s4 I4 => ⟨σ, H4, I4, q3⟩
def rLenX (P : Program) (w : World) : List V → Hp → VK → Prop := fun xs H Q => ∃ p, xs = [.ref p] ∧ ((∃ kvs, H p = some (.dK kvs) ∧ Q (.int (kvs.length : Nat)) H) ∨ ∃ es, H p = some (nO P w p es) ∧ KeysN H es ∧ Q (.int (es.length : Nat)) H)
theorem call_len_dX {X : Cx} : CallR X (.builtin "len") (rLenX X.prog X.w) := by
  intro pins s σ H xs us Q I r h
  obtain ⟨p, rfl, h⟩ := h
  obtain ⟨u, rfl, rx⟩ := vals1 r
  obtain rfl : u = .ref p := rx
  rcases h with ⟨kvs, hp, q⟩ | ⟨es, hp, hk, q⟩
  · exact d_len I (.inl hp) fun t s' I' => ⟨.int (kvs.length : Nat), H, I', ⟨t, rfl⟩, q⟩
  · obtain ⟨z, hd, _, ys, rel, dd⟩ := dn_of I hp hk
    obtain ⟨_, hl⟩ := n_keys rel
    refine call_len_dictH hd dd (by rw [← hl]; rw [sizeLine_eq] at z; omega) ?_
    rw [← hl]
    exact ⟨.int ((es.length : Nat) : Int), H, I.tok _, ⟨_, rfl⟩, q⟩
end
end L2
namespace Rt
open PySem L2 PySem.Spec PyProof.Rows
section
variable {P : Program} {w : World} {K : PySem.W.Frag} {mg : Str → Option Value} {base : Heap}

/-! ### is_integer, and the checks -/
def spIsInt (T : Tx P K mg) : Sp := fun vs H Q _ => ∃ (x : V) (lo hi : Int), vs = [x, .int lo, .int hi] ∧ AnyV (OwnT T) H x ∧ Q (.bl (intIn x lo hi)) H
theorem isi_int (T : Tx P K mg) {H : Hp} {x : V} (a : AnyV (OwnT T) H x) : ∃ t, TyX K H x t ∧ (∃ b, PySem.W.kitOne K t (.type "int") = some b ∧ (b = false → ∀ lo hi, intIn x lo hi = false) ∧ ∃ c, PySem.W.kitOne K t (.type "bool") = some c ∧ (c = true → ∀ lo hi, intIn x lo hi = false) ∧ (b = true → c = false → ∃ i, x = .int i)) := by
  cases a with
  | non => exact ⟨_, .base .non, false, kit_ty (by decide +kernel), fun _ _ _ => rfl, false, kit_ty (by decide +kernel), fun _ _ _ => rfl, fun z => nomatch z⟩
  | bl b => exact ⟨_, .base (.bl b), true, kit_ty (by decide +kernel), fun _ _ _ => rfl, true, kit_ty (by decide +kernel), fun _ _ _ => rfl, fun _ z => nomatch z⟩
  | int i => exact ⟨.type "int", .base (.int i), true, kit_ty (by decide +kernel), fun z => Bool.noConfusion z, false, kit_ty (by decide +kernel), fun z => Bool.noConfusion z, fun _ _ => ⟨i, rfl⟩⟩
  | str x => exact ⟨_, .base (.str x), false, kit_ty (by decide +kernel), fun _ _ _ => rfl, false, kit_ty (by decide +kernel), fun _ _ _ => rfl, fun z => nomatch z⟩
  | lst e => exact ⟨_, .base (.lst e), false, kit_ty (by decide +kernel), fun _ _ _ => rfl, false, kit_ty (by decide +kernel), fun _ _ _ => rfl, fun z => nomatch z⟩
  | tup e => exact ⟨_, .base (.tup e), false, kit_ty (by decide +kernel), fun _ _ _ => rfl, false, kit_ty (by decide +kernel), fun _ _ _ => rfl, fun z => nomatch z⟩
  | dct e => exact ⟨_, .base (.dK e), false, kit_ty (by decide +kernel), fun _ _ _ => rfl, false, kit_ty (by decide +kernel), fun _ _ _ => rfl, fun z => nomatch z⟩
  | ins t e => exact ⟨_, .base (t.ty e), false, t.nint, fun _ _ _ => rfl, false, t.nbool, fun _ _ _ => rfl, fun z => nomatch z⟩
theorem ok_is_integer (T : Tx P K mg) : FnOk P w K mg base CX0 lv_is_integer T.a_is_integer T.d_is_integer ["told", "low", "high"] (spIsInt T) := by
  refine T.F_is_integer.ok sc_is_integer (fun vs H Q E h => ?_) (fun cdv A outer s H vs Q E hr h => ?_)
  · obtain ⟨x, lo, hi, rfl, _⟩ := h
    rfl
  · obtain ⟨x, lo, hi, rfl, a, k⟩ := h
    refine ⟨_, (pss_one (ps_ret (pe_and (pe_callB call_isi (by rfl) T.n_isinstance (by decide +kernel) (pa_cons (pv 0) (pa_cons (pe_bltn (v := .ty "int") rfl T.n_int (by decide +kernel) rfl) pa_nil))) (pe_and (pe_not (pe_callB call_isi (by rfl) T.n_isinstance (by decide +kernel) (pa_cons (pv 0) (pa_cons (pe_bltn (v := .ty "bool") rfl T.n_bool (by decide +kernel) rfl) pa_nil)))) (pe_one (pe_chain op_le op_le (pv 1) (pv 0) (pv 2))))))), ?_⟩
    obtain ⟨t, ty, b, e1, h1, c, e2, h2, h3⟩ := isi_int T a
    refine ⟨_, rfl, _, _, _, _, b, rfl, .ty _, ty, e1, b, rfl, ?_⟩
    cases b with
    | false => exact iteF (by rw [h1 rfl lo hi] at k; exact k)
    | true =>
      refine iteT ?_
      refine ⟨_, rfl, _, _, _, _, c, rfl, .ty _, ty, e2, c, rfl, _, rfl, ?_⟩
      cases c with
      | true => exact iteF (by rw [h2 rfl lo hi] at k; exact k)
      | false =>
        refine iteT ?_
        obtain ⟨i, rfl⟩ := h3 rfl rfl
        refine ⟨_, rfl, _, rfl, _, _, rfl, rfl, _, rfl, ?_⟩
        have ke : Q (V.bl (decide (lo ≤ i) && decide (i ≤ hi))) H := k
        refine ite2 (fun c1 => ?_) (fun c1 => ?_)
        · rw [c1] at ke
          exact ⟨_, rfl, _, _, rfl, rfl, ke⟩
        · rw [show decide (lo ≤ i) = false from by simpa using c1] at ke
          exact ke
/-- base, take and the like: a value in the range, or the error of the class C -/
def spChk (T : Tx P K mg) (C : Addr) (lo hi : Int) : Sp := fun vs H Q E => ∃ x : V, vs = [x] ∧ AnyV (OwnT T) H x ∧ (intIn x lo hi = true → Q .non H) ∧ (intIn x lo hi = false → E (.ref C) none H)

/-! ### is_number -/
def spIsNum (T : Tx P K mg) : Sp := fun vs H Q _ => ∃ x : V, vs = [x] ∧ AnyV (OwnT T) H x ∧ Q (.bl (intIn x (-(10 ^ 40)) (10 ^ 40))) H
theorem ok_is_number (T : Tx P K mg) : FnOk P w K mg base CX0 lv_is_number T.a_is_number T.d_is_number ["told"] (spIsNum T) := by
  refine T.F_is_number.ok sc_is_number (fun vs H Q E h => ?_) (fun cdv A outer s H vs Q E hr h => ?_)
  · obtain ⟨x, rfl, _⟩ := h
    rfl
  · obtain ⟨x, rfl, a, k⟩ := h
    refine ⟨_, (pss_one (ps_ret (pe_call (ok_is_integer T) (hr.mono (by decide)) rfl T.g_is_integer T.F_is_integer.kp T.b_is_integer .nil pass0 (pa_cons (pv 0) (pa_cons (pe_un un_neg (pe_glob (v := .int 10000000000000000000000000000000000000000) rfl T.c_GREATEST_NUMBER ⟨_, rfl⟩)) (pa_cons (pe_glob (v := .int 10000000000000000000000000000000000000000) rfl T.c_GREATEST_NUMBER ⟨_, rfl⟩) pa_nil)))))), ?_⟩
    exact ⟨_, rfl, _, rfl, x, _, _, rfl, a, k⟩

theorem ok_check_base (T : Tx P K mg) : FnOk P w K mg base (L2.CX P w) lv_check_base T.a_check_base T.d_check_base ["base"] (spChk T T.C_BadBase 2 16) := by
  refine T.F_check_base.okX sc_check_base (fun vs H Q E h => ?_) (fun cdv A outer s H vs Q E hr h => ?_)
  · obtain ⟨x, rfl, _⟩ := h
    rfl
  · obtain ⟨x, rfl, a, k1, k2⟩ := h
    refine ⟨_, (pss_one (ps_if (pt_not (pt_val (pe_call (ok_is_integer T) (hr.mono (by decide)) rfl T.g_is_integer T.F_is_integer.kp T.b_is_integer .nil pass0 (pa_cons (pv 0) (pa_cons (pe_glob (v := .int 2) rfl T.c_LEAST_BASE ⟨_, rfl⟩) (pa_cons (pe_glob (v := .int 16) rfl T.c_GREATEST_BASE ⟨_, rfl⟩) pa_nil)))))) (pss_one (ps_raise rfl (takes_of rfl rfl rfl rfl) (pmk_own PySem.F.excBase_ValueError T.x_BadBase T.g_BadBase T.k_BadBase (raises_own T.s_BadBase T.t_BadBase) rfl))) pss_nil)), ?_⟩
    refine ⟨_, rfl, _, _, _, rfl, a, _, rfl, ?_⟩
    cases e : intIn x 2 16 with
    | true => exact iteF (k1 e)
    | false => exact iteT (k2 e)

theorem ok_check_take (T : Tx P K mg) : FnOk P w K mg base (L2.CX P w) lv_check_take T.a_check_take T.d_check_take ["take"] (spChk T T.C_BadTake 1 2) := by
  refine T.F_check_take.okX sc_check_take (fun vs H Q E h => ?_) (fun cdv A outer s H vs Q E hr h => ?_)
  · obtain ⟨x, rfl, _⟩ := h
    rfl
  · obtain ⟨x, rfl, a, k1, k2⟩ := h
    refine ⟨_, (pss_one (ps_if (pt_not (pt_val (pe_call (ok_is_integer T) (hr.mono (by decide)) rfl T.g_is_integer T.F_is_integer.kp T.b_is_integer .nil pass0 (pa_cons (pv 0) (pa_cons pe_int (pa_cons (pe_glob (v := .int 2) rfl T.c_GREATEST_TAKE ⟨_, rfl⟩) pa_nil)))))) (pss_one (ps_raise rfl (takes_of rfl rfl rfl rfl) (pmk_own PySem.F.excBase_ValueError T.x_BadTake T.g_BadTake T.k_BadTake (raises_own T.s_BadTake T.t_BadTake) rfl))) pss_nil)), ?_⟩
    refine ⟨_, rfl, _, _, _, rfl, a, _, rfl, ?_⟩
    cases e : intIn x 1 2 with
    | true => exact iteF (k1 e)
    | false => exact iteT (k2 e)

/-! ### numbers, or the error -/
def spNumberX (T : Tx P K mg) : Sp := fun vs H Q E => ∃ x : V, vs = [x] ∧ AnyV (OwnT T) H x ∧ (intIn x (-(10 ^ 40)) (10 ^ 40) = true → Q .non H) ∧ (intIn x (-(10 ^ 40)) (10 ^ 40) = false → ∀ d, H d = none → E (.ref T.C_BadNumber) (some d) (upd H d (.xd [(("n" : Str), x)])))
theorem ok_check_number (T : Tx P K mg) : FnOk P w K mg base (L2.CX P w) lv_check_number T.a_check_number T.d_check_number ["n"] (spNumberX T) := by
  refine T.F_check_number.okX sc_check_number (fun vs H Q E h => ?_) (fun cdv A outer s H vs Q E hr h => ?_)
  · obtain ⟨x, rfl, _⟩ := h
    rfl
  · obtain ⟨x, rfl, a, k1, k2⟩ := h
    refine ⟨_, (pss_one (ps_if (pt_not (pt_val (pe_call (ok_is_number T) (hr.mono (by decide)) rfl T.g_is_number T.F_is_number.kp T.b_is_number .nil pass0 (pa_cons (pv 0) pa_nil)))) (pss_one (ps_raiseF T.x_BadNumber ar_BadNumber rfl hr (takes_of rfl rfl rfl rfl) (pa_cons (pv 0) pa_nil))) pss_nil)), ?_⟩
    refine ⟨_, rfl, x, rfl, a, _, rfl, ?_⟩
    cases e : intIn x (-(10 ^ 40)) (10 ^ 40) with
    | true => exact iteF (k1 e)
    | false => exact iteT ⟨_, rfl, _, rfl, trivial, fun d hd => k2 e d hd⟩

/-! ### divisors up to a greatest one -/
def spDivisor (T : Tx P K mg) : Sp := fun vs H Q E => ∃ (x : V) (g : Int), vs = [x, .int g] ∧ 1 ≤ g ∧ g ≤ 100 ∧ AnyV (OwnT T) H x ∧ (intIn x 1 g = true → Q .non H) ∧ (intIn x 1 g = false → E (.ref T.C_BadDivisor) none H)
theorem ok_check_divisor (T : Tx P K mg) : FnOk P w K mg base (L2.CX P w) lv_check_divisor T.a_check_divisor T.d_check_divisor ["d", "greatest"] (spDivisor T) := by
  refine FunD.ok T.F_check_divisor sc_check_divisor (fun vs H Q E h => ?_) (fun cdv A outer s H vs Q E hr h => ?_)
  · obtain ⟨x, g, rfl, _⟩ := h
    rfl
  · obtain ⟨x, g, rfl, g1, g2, a, k1, k2⟩ := h
    refine ⟨_, (pss_one (ps_if (pt_not (pt_val (pe_call (ok_is_integer T) (hr.mono (by decide)) rfl T.g_is_integer T.F_is_integer.kp T.b_is_integer .nil pass0 (pa_cons (pv 0) (pa_cons pe_int (pa_cons (pv 1) pa_nil)))))) (pss_one (ps_raise rfl (takes_of rfl rfl rfl rfl) (SkE.pmk_own1 PySem.F.excBase_ValueError T.x_BadDivisor T.g_BadDivisor T.k_BadDivisor (raises_own T.s_BadDivisor T.t_BadDivisor) rfl (pe_joined (PJ.cons pe_str (PJ.cons (pe_fmt (pv 1)) PJ.nil)))))) pss_nil)), ?_⟩
    refine ⟨_, rfl, _, rfl, _, _, _, rfl, a, _, rfl, ?_⟩
    cases e : intIn x 1 g with
    | true => exact iteF (k1 e)
    | false =>
      have sm : g.natAbs.log2 < 1920 := Nat.lt_of_le_of_lt (Nat.log2_le_self _) (by omega)
      refine iteT ⟨_, rfl, (by rw [Str.length_append, sizeLine_eq]; exact Nat.le_trans (Nat.add_le_add (Nat.zero_le 0) (show ("no integer from 1 to " : Str).length ≤ 21 by decide)) (by decide)), _, rfl, .inr ⟨g, rfl, sm, _, rfl, ?_, k2 e⟩⟩
      rw [Str.length_append, Str.length_append, sizeLine_eq]
      have e0 := int_text_length_le (k := 1920) (by decide) sm
      have e2 : (Str.ofString (toString g)).length = (toString g).length := PySem.ofString_length _
      have e3 : ("no integer from 1 to " : Str).length ≤ 21 := by decide
      have e4 : Str.empty.length = 0 := rfl
      have e5 : ((toString g : Str)).length = (Str.ofString (toString g)).length := rfl
      omega

/-! ### enumerate(tuple) -/
end
end Rt
namespace EnumX
open PySem PyProof.Rows
theorem new1 {u : Value} {ob : Obj} {Z : Heap → Prop} (B : Begins u ob Z) : Meets (Builtin.«enumerate.__new__» ⟨[.type "enumerate", u], []⟩) (fun _ R s => Z s.heap ∧
      R (.ok (.ret (.ref (s.heap.push ob).objs.size))) { s with heap := (s.heap.push ob).push ⟨.type "enumerate", none, .fields #[.none, .bool false, .ref s.heap.objs.size, rawInt 0, .none, .none], #[]⟩ }) := by
  refine Meets.of_wp fun P w A R s hyp => ?_
  obtain ⟨z, fin⟩ := hyp
  obtain ⟨hp, g, d, tk, os⟩ := s
  have se := sub_enumerate
  have go : ∀ {A2 : Around} {E2 Q2 : Value → Shared → Prop}, Q2 (.ref hp.objs.size) ⟨hp.push ob, g, d, tk, os⟩ → wpAny (model P w) A2 (pyIter u) Q2 E2 ⟨hp, g, d, tk, os⟩ := fun q => B.iter P w _ _ ⟨hp, g, d, tk, os⟩ _ z q
  wp_walk using go
  refine wpAny_stack_any fun stk => (wpAny_pure ?_)
  split
  · rename_i cc _ _ _ _ _
    cases (cc == Value.type "enumerate") <;> (wp_walk using go; exact ⟨_, rfl, fin⟩)
  · wp_walk using go
    exact ⟨_, rfl, fin⟩
theorem made1 {P : Program} {w : World} {A : Around} {E Q : Value → Shared → Prop} {s : Shared} {u : Value} {ob : Obj} {Z : Heap → Prop} (B : Begins u ob Z) (z : Z s.heap)
    (q : ∀ h2, IsEnum h2 (s.heap.objs.size + 1) s.heap.objs.size 0 .none → h2.get? s.heap.objs.size = some ob → (∀ b o, s.heap.get? b = some o → h2.get? b = some o) → Q (.ref (s.heap.objs.size + 1)) { s with heap := h2 }) :
    wpAny (model P w) A (call (.type "enumerate") [u]) Q E s := by
  refine callType_new F.called_enumerate (by decide) (F.typeCall_enumerate_1 u) (F.newCall_enumerate_1 u) (fun ob => F.args_object_init_2 ob u) F.entry_enumerate_new (new1 B) ⟨z, ?_⟩
  have sz : (s.heap.push ob).objs.size = s.heap.objs.size + 1 := Heap.size_push ..
  have at1 : ((s.heap.push ob).push ⟨.type "enumerate", none, .fields #[.none, .bool false, .ref s.heap.objs.size, rawInt 0, .none, .none], #[]⟩).get? (s.heap.objs.size + 1) = some ⟨.type "enumerate", none, .fields #[.none, .bool false, .ref s.heap.objs.size, rawInt 0, .none, .none], #[]⟩ := by
    rw [← sz]
    exact Heap.get?_push_size _ rfl
  show _ ∧ _
  rw [sz]
  exact ⟨⟨_, at1, rfl⟩, q _ at1 (Heap.get?_push_of_some _ (Heap.get?_push_size _ B.free)) fun b o e => Heap.get?_push_of_some _ (Heap.get?_push_of_some _ e)⟩
/-- at the end nothing is drawn -/
theorem drawn_out {P : Program} {w : World} {A : Around} (hh : A.handled = none) (it t : Addr) (ne : t ≠ it) (its : Array Value) (n : Nat) (hn : its.size ≤ n) : Draws P w A it [it, t] n (fun _ _ => True) (fun j h => j = n ∧ h.IsTupleIter it t n ∧ h.IsTuple t its) where
  live := fun _ _ ⟨_, ⟨o, e, _⟩, _⟩ => ⟨o, e⟩
  frame := fun _ _ _ ⟨z, a, b⟩ k => ⟨z, a.at fun o e => k it List.mem_cons_self o e, b.at fun o e => k t (List.mem_cons_of_mem _ List.mem_cons_self) o e⟩
  item := fun j _ _ _ lt ⟨z, _⟩ _ => absurd z (Nat.ne_of_lt lt)
  done := fun s Q E ⟨_, a, b⟩ q => wpAny_nextOf_tuple_end hh a b (Array.getElem?_eq_none hn) q
end EnumX
namespace L2
open PySem PySem.Spec PyProof.Rows
/-- the tuple at a, each item in a new pair with its place -/
def IteT (K : PySem.W.Frag) (a : Addr) : It where
  go := fun i H => ∃ (ys : List V) (y : V), SqT K H a ys ∧ ys[i]? = some y
  yld := fun i H v H2 => ∃ c y, v = .ref c ∧ H c = none ∧ H2 = upd H c (.tup [.int (i : Nat), y]) ∧ ∀ ys, SqT K H a ys → ys[i]? = some y
  stop := fun i H => ∃ ys : List V, SqT K H a ys ∧ ys.length ≤ i
theorem turn_enumT {P : Program} {w : World} {K : PySem.W.Frag} {elts : List PySem.Expr} {kk : Nat} {tpos : Pos} (a e it : Addr) :
    Turn P w K (.Tuple elts kk tpos) (IteT K a) [e, it] e (fun i h => (∃ old, IsEnum h e it ((i : Nat) : Int) old) ∧ h.IsTupleIter it a i ∧ e ≠ it) where
  mem := List.mem_cons_self
  obj := fun i h st b hb => by
    obtain ⟨⟨v0, en⟩, ⟨o, g1, g2, g3⟩, _⟩ := st
    rcases List.mem_cons.mp hb with z | hb2
    · rw [z]
      exact ⟨_, en, fun v q => nomatch q⟩
    · rw [List.mem_singleton.mp hb2]
      exact ⟨o, g1, fun v q => by rw [g3] at q; cases q⟩
  keep := fun i h h2 st k => by
    obtain ⟨⟨v0, en⟩, ti, ne⟩ := st
    exact ⟨⟨v0, k e List.mem_cons_self _ en⟩, ti.at fun o q => k it (List.mem_cons_of_mem _ List.mem_cons_self) o q, ne⟩
  item := by
    intro X hP hw hK hc i pins s σ H E I hf st hg
    subst hP hw hK
    obtain ⟨⟨v0, en⟩, ti, ne⟩ := st
    obtain ⟨ys, y, sq, hy⟩ := hg
    obtain ⟨its, vals, tp, ln⟩ := I.tuple sq
    obtain ⟨u, hu, ru⟩ := vals.get hy
    have tpl : s.heap.IsTuple a its.toArray := tp
    have le : e < s.heap.objs.size := Heap.lt_size en
    have li : it < s.heap.objs.size := by
      obtain ⟨_, q, _⟩ := ti
      exact Heap.lt_size q
    have nea : e ≠ a := fun z => by
      obtain ⟨o, g1, g2, _⟩ := tpl
      rw [← z, (show s.heap.get? e = some _ from en)] at g1
      rw [← Option.some.inj g1] at g2
      exact absurd (show Value.type "enumerate" = Value.type "tuple" from g2) (by decide)
    have nia : it ≠ a := fun z => by
      obtain ⟨o, g1, g2, _⟩ := tpl
      obtain ⟨o2, f1, f2, _⟩ := ti
      rw [← z, f1] at g1
      rw [← Option.some.inj g1, f2] at g2
      exact absurd g2 (by decide)
    refine wpAny_pyNext_enum_itemD (Draws.tuple (show X.A.in1.handled = none from I.ok.hd hc) it a (Ne.symm nia) its.toArray) en ⟨ti, tpl⟩ (by have := (List.getElem?_eq_some_iff.mp hu).1; simpa using this) ne (by simp [ne, nea]) fun x h2 tk px eo st2 nt sz kp => ?_
    have exu : x = u := by
      have px2 : its.toArray[i]? = some x := px
      rw [List.getElem?_toArray, hu] at px2
      exact (Option.some.inj px2).symm
    subst exu
    refine ⟨_, rfl, wpAny_letOwnedTupleGo_enum (s := { s with heap := h2, toks := tk + 1 }) eo fun h3 en3 sb => ?_⟩
    have nt3 : h3.get? s.heap.objs.size = some { cls := .type "tuple", data := .seq #[.int i tk, x] } := (sb.2 _ (Nat.ne_of_gt le)).trans nt
    have nw : ObjOk X.prog X.w (upd H s.heap.objs.size (.tup [.int (i : Nat), y])) h3 s.heap.objs.size (.tup [.int (i : Nat), y]) := ⟨by show 2 ≤ sizeLine; decide, [.int i tk, x], .cons ⟨_, rfl⟩ (.cons ru .nil), ⟨_, nt3, rfl, _, rfl⟩⟩
    have J : Inv X pins σ (upd H s.heap.objs.size (.tup [.int (i : Nat), y])) { s with heap := h3, toks := tk + 1 } :=
      I.turnedNew (ch := [e, it]) (fun b ob hb q => (sb.2 b (fun z => hb (z ▸ List.mem_cons_self))).trans (kp b ob (fun z => hb (z ▸ List.mem_cons_self)) (fun z => hb (z ▸ List.mem_cons_of_mem _ List.mem_cons_self)) q)) hf (Nat.le_refl _) nw
    refine ⟨.ref s.heap.objs.size, _, J, rfl, ⟨_, y, rfl, I.hok.fresh (Nat.le_refl _), rfl, fun zs hz => by rw [I.tuple_inj hz sq]; exact hy⟩, ⟨⟨x, ?_⟩, st2.1.at fun o q => (sb.2 it (Ne.symm ne)).trans q, ne⟩, fun b hb => ?_⟩
    · rw [show ((i + 1 : Nat) : Int) = (i : Int) + 1 from by omega]
      exact en3
    · have lb : b < s.heap.objs.size := by
        rcases List.mem_cons.mp hb with z | hb2
        · rw [z]
          exact le
        · rw [List.mem_singleton.mp hb2]
          exact li
      rw [upd_ne (Nat.ne_of_lt lb)]
      exact (hf b hb).1
  done := by
    intro X hP hw hK hc i pins s σ H E I hf st hg
    subst hP hw hK
    obtain ⟨⟨v0, en⟩, ti, ne⟩ := st
    obtain ⟨ys, sq, ln⟩ := hg
    obtain ⟨its, vals, tp, _⟩ := I.tuple sq
    obtain ⟨f0, f1, f2, f3, f4, f5⟩ := hf it (List.mem_cons_of_mem _ List.mem_cons_self)
    have tpl : s.heap.IsTuple a its.toArray := tp
    have nia : it ≠ a := fun z => by
      obtain ⟨o, g1, g2, _⟩ := tpl
      obtain ⟨o2, q1, q2, _⟩ := ti
      rw [← z, q1] at g1
      rw [← Option.some.inj g1, q2] at g2
      exact absurd g2 (by decide)
    have hl := vals.length
    refine wpAny_pyNext_enum_endD (EnumX.drawn_out (show X.A.in1.handled = none from I.ok.hd hc) it a (Ne.symm nia) its.toArray i (by simp; omega)) en ⟨rfl, ti, tpl⟩ fun h2 eb => ⟨rfl, I.turned (t' := s.toks) (fun b o hb q => eb b o hb q) f0 f1 f3 f4 f5⟩
  self := fun A i s Q E st h => let ⟨⟨_, en⟩, _⟩ := st; wpAny_pyIter_enum en h
def iEnumT (K : PySem.W.Frag) (ta : TA) : TI := fun σ H R => ta σ H fun vs H1 => ∃ a ys, vs = [.ref a] ∧ SqT K H1 a ys ∧ R (IteT K a) H1
theorem pi_enumT {X : Cx} {e : PySem.Expr} {ta : TA} {p pos tpos : Pos} {elts : List PySem.Expr} {kk : Nat} (hg : Gl X "enumerate") (hm : X.mg "enumerate" = none) (ha : PA X [e] ta) (hs : starEach [e] X.env = [(false, eval e X.env)] := by rfl) :
    PI X (.Tuple elts kk tpos) (.Call (.Name "enumerate" p) [e] [] pos) (iEnumT X.K ta) := by
  refine ⟨fun pins s σ H R I wish => ?_⟩
  refine Call_ (ld_blt I hg hm boot_enumerate (PyProof.Rows.callWith_type1 (thn (ha.run pos pins s σ H _ I wish) fun us s1 hh => ?_) hs rfl))
  obtain ⟨vs, H1, I1, r1, a, ys, rfl, sq, q⟩ := hh
  cases r1 with
  | cons r rr =>
    cases rr
    cases r
    obtain ⟨its, vals, tp, ln⟩ := I1.tuple sq
    have tpl : s1.heap.IsTuple a its.toArray := tp
    refine EnumX.made1 (begins_tuple a its.toArray) tpl fun h2 en nw kp => wpAny_pyIter_enum en ?_
    have J : Inv X pins σ H1 { s1 with heap := h2 } := I1.kept (t' := s1.toks) kp
    refine ⟨s1.heap.objs.size + 1, [s1.heap.objs.size + 1, s1.heap.objs.size], _, _, H1, rfl, J, turn_enumT a (s1.heap.objs.size + 1) s1.heap.objs.size, ⟨⟨.none, en⟩, ⟨_, nw, rfl, rfl⟩, Nat.succ_ne_self _⟩, fun b hb => ?_, q⟩
    have le : s1.heap.objs.size ≤ b := by
      rcases List.mem_cons.mp hb with z | hb2
      · rw [z]
        exact Nat.le_succ _
      · rw [List.mem_singleton.mp hb2]
        exact Nat.le_refl _
    exact I1.fpOk le (I1.hok.fresh le)
theorem walk_enumT {K : PySem.W.Frag} {a : Addr} {ys : List V} : Walk (IteT K a) ys.length (fun H => SqT K H a ys) (YPair (fun i => some (.int (i : Nat))) (fun i => ys[i]?)) := by
  refine ⟨fun i _ lt q => ⟨ys, ys[i], q, by simp [lt]⟩, fun _ q => ⟨ys, q, Nat.le_refl _⟩, fun i H v H2 _ q w => ?_⟩
  obtain ⟨c, y, e1, e2, e3, e4⟩ := w
  exact ⟨c, .int (i : Nat), y, e1, e2, e3, rfl, e4 ys q⟩
end L2
namespace Rt
open PySem L2 PySem.Spec PyProof.Rows
section
variable {P : Program} {w : World} {K : PySem.W.Frag} {mg : Str → Option Value} {base : Heap}

/-! ### what stands where a value points -/
theorem AnyV.at {T : Addr → Prop} {H H1 : Hp} {c : Addr} {o : HO} (a : AnyV T H (.ref c)) (S : Same H H1) (e : H1 c = some o) : H c = some o := by
  cases a with
  | lst e2 => rw [S _ _ e2] at e; rw [← e]; exact e2
  | tup e2 => rw [S _ _ e2] at e; rw [← e]; exact e2
  | dct e2 => rw [S _ _ e2] at e; rw [← e]; exact e2
  | ins t e2 => rw [S _ _ e2] at e; rw [← e]; exact e2
/-- the things of the tuple x -/
def tupOf (H : Hp) (x : V) : Option (List V) := match x with
  | .ref c => match H c with
    | some (.tup ys) => some ys
    | _ => none
  | _ => none
theorem tupOf_ref {H : Hp} {c : Addr} {ys : List V} (h : H c = some (.tup ys)) : tupOf H (.ref c) = some ys := by
  show (match H c with | some (.tup ys) => some ys | _ => none) = _
  rw [h]
theorem tupOf_some {H : Hp} {x : V} {ys : List V} (h : tupOf H x = some ys) : ∃ c, x = .ref c ∧ H c = some (.tup ys) := by
  cases x with
  | ref c =>
    refine ⟨c, rfl, ?_⟩
    have h2 : (match H c with | some (.tup ys) => some ys | _ => none) = some ys := h
    split at h2
    · rename_i zs e
      cases h2
      exact e
    · cases h2
  | _ => cases h
theorem tupOf_same {T : Addr → Prop} {H H2 : Hp} {x : V} (a : AnyV T H x) (S : Same H H2) : tupOf H2 x = tupOf H x := by
  cases e : tupOf H x with
  | some ys =>
    obtain ⟨c, rfl, h⟩ := tupOf_some e
    exact tupOf_ref (S _ _ h)
  | none =>
    cases e2 : tupOf H2 x with
    | none => rfl
    | some ys =>
      obtain ⟨c, rfl, h⟩ := tupOf_some e2
      rw [tupOf_ref (a.at S h)] at e
      cases e
/-- its things are any values -/
def ItemsAny (T : Addr → Prop) (H : Hp) (x : V) : Prop := ∀ ys, tupOf H x = some ys → ∀ y ∈ ys, AnyV T H y
theorem ItemsAny.same {T : Addr → Prop} {H H2 : Hp} {x : V} (h : ItemsAny T H x) (a : AnyV T H x) (S : Same H H2) : ItemsAny T H2 x := fun ys e y hy => by
  rw [tupOf_same a S] at e
  exact (h ys e y hy).mono S
theorem ItemsAny.ints {T : Addr → Prop} {H : Hp} {c : Addr} {ns : List Int} (h : H c = some (.tup (ns.map V.int))) : ItemsAny T H (.ref c) := fun ys e y hy => by
  rw [tupOf_ref h] at e
  cases e
  obtain ⟨z, _, rfl⟩ := List.mem_map.mp hy
  exact .int z
theorem ItemsAny.non {T : Addr → Prop} {H : Hp} {x : V} (h : tupOf H x = none) : ItemsAny T H x := fun ys e => by
  rw [h] at e
  cases e
/-- the place of the first thing that is no integer from a to b -/
def firstW (a b : Int) : List V → Option Nat
  | [] => none
  | y :: ys => if intIn y a b = true then (firstW a b ys).map (· + 1) else some 0
theorem firstW_none {a b : Int} : ∀ {ys : List V}, (∀ y ∈ ys, intIn y a b = true) → firstW a b ys = none
  | [], _ => rfl
  | y :: ys, h => by
    unfold firstW
    rw [if_pos (h y List.mem_cons_self), firstW_none fun z hz => h z (List.mem_cons_of_mem _ hz)]
    rfl
theorem firstW_all {a b : Int} : ∀ {ys : List V}, firstW a b ys = none → ∀ y ∈ ys, intIn y a b = true
  | [], _, _, hy => by cases hy
  | z :: ys, h, y, hy => by
    unfold firstW at h
    by_cases e : intIn z a b = true
    · rw [if_pos e] at h
      rcases List.mem_cons.mp hy with rfl | hy
      · exact e
      · exact firstW_all (Option.map_eq_none_iff.mp h) y hy
    · rw [if_neg e] at h
      cases h
theorem firstW_at {a b : Int} : ∀ {ys : List V} {i : Nat} {y : V}, (∀ (j : Nat) (z : V), j < i → ys[j]? = some z → intIn z a b = true) → ys[i]? = some y → intIn y a b = false → firstW a b ys = some i
  | [], i, y, _, h, _ => by cases h
  | z :: ys, 0, y, _, h, e => by
    cases h
    unfold firstW
    rw [if_neg (by rw [e]; exact Bool.false_ne_true)]
  | z :: ys, i + 1, y, h0, h, e => by
    unfold firstW
    rw [if_pos (h0 0 z (Nat.succ_pos _) rfl), firstW_at (i := i) (y := y) (fun j x hj hx => h0 (j + 1) x (Nat.succ_lt_succ hj) hx) h e]
    rfl
theorem firstW_lt {a b : Int} : ∀ {ys : List V} {i : Nat}, firstW a b ys = some i → i < ys.length
  | [], _, h => by cases h
  | y :: ys, i, h => by
    unfold firstW at h
    by_cases e : intIn y a b = true
    · rw [if_pos e] at h
      obtain ⟨j, hj, rfl⟩ := Option.map_eq_some_iff.mp h
      exact Nat.succ_lt_succ (firstW_lt hj)
    · rw [if_neg e] at h
      cases h
      exact Nat.succ_pos _
theorem firstW_some {a b : Int} : ∀ {ys : List V} {i : Nat}, firstW a b ys = some i → (∀ (j : Nat) (z : V), j < i → ys[j]? = some z → intIn z a b = true) ∧ ∃ y, ys[i]? = some y ∧ intIn y a b = false
  | [], _, h => by cases h
  | y :: ys, i, h => by
    unfold firstW at h
    by_cases e : intIn y a b = true
    · rw [if_pos e] at h
      obtain ⟨j, hj, rfl⟩ := Option.map_eq_some_iff.mp h
      obtain ⟨h1, z, h2, h3⟩ := firstW_some hj
      refine ⟨fun m v hm hv => ?_, z, h2, h3⟩
      cases m with
      | zero =>
        cases hv
        exact e
      | succ m => exact h1 m v (by omega) hv
    · rw [if_neg e] at h
      cases h
      exact ⟨fun m v hm => absurd hm (Nat.not_lt_zero _), y, rfl, by simpa using e⟩
/-- what is wrong of a tuple of lo to hi integers from a to b: nothing, None, or the first wrong place -/
def verdict (lo hi : Nat) (a b : Int) (o : Option (List V)) : Option V := match o with
  | none => some .non
  | some ys => if lo ≤ ys.length ∧ ys.length ≤ hi then (firstW a b ys).map fun i => .int (i : Nat) else some .non
theorem verdict_some (lo hi : Nat) (a b : Int) (ys : List V) : verdict lo hi a b (some ys) = if lo ≤ ys.length ∧ ys.length ≤ hi then (firstW a b ys).map fun i => .int (i : Nat) else some .non := rfl
theorem verdict_good {lo hi : Nat} {a b : Int} {ys : List V} (l1 : lo ≤ ys.length) (l2 : ys.length ≤ hi) (h : ∀ y ∈ ys, intIn y a b = true) : verdict lo hi a b (some ys) = none := by
  rw [verdict_some, if_pos ⟨l1, l2⟩, firstW_none h]
  rfl
theorem verdict_none {lo hi : Nat} {a b : Int} {o : Option (List V)} (h : verdict lo hi a b o = none) : ∃ ys, o = some ys ∧ lo ≤ ys.length ∧ ys.length ≤ hi ∧ ∀ y ∈ ys, intIn y a b = true := by
  cases o with
  | none => cases h
  | some ys =>
    rw [verdict_some] at h
    by_cases l : lo ≤ ys.length ∧ ys.length ≤ hi
    · rw [if_pos l] at h
      exact ⟨ys, rfl, l.1, l.2, firstW_all (Option.map_eq_none_iff.mp h)⟩
    · rw [if_neg l] at h
      cases h

/-! ### for over a list or a tuple -/
end
end Rt
namespace L2
open PySem PySem.Spec PyProof.Rows
def iSeqA (K : PySem.W.Frag) (tl : TE) : TI := fun σ H R => iList K tl σ H R ∨ iTup K tl σ H R
theorem pi_seqA {X : Cx} {tg l : PySem.Expr} {tl : TE} (hl : PE X l tl) : PI X tg l (iSeqA X.K tl) :=
  ⟨fun pins s σ H R I h => h.elim ((pi_list hl).run pins s σ H R I) ((pi_tup hl).run pins s σ H R I)⟩
def iEnumA (K : PySem.W.Frag) (ta : TA) : TI := fun σ H R => iEnum K ta σ H R ∨ iEnumT K ta σ H R
theorem pi_enumA {X : Cx} {e : PySem.Expr} {ta : TA} {p pos tpos : Pos} {elts : List PySem.Expr} {kk : Nat} (hg : Gl X "enumerate") (hm : X.mg "enumerate" = none) (ha : PA X [e] ta) (hs : starEach [e] X.env = [(false, eval e X.env)] := by rfl) :
    PI X (.Tuple elts kk tpos) (.Call (.Name "enumerate" p) [e] [] pos) (iEnumA X.K ta) :=
  ⟨fun pins s σ H R I h => h.elim ((pi_enum hg hm ha hs).run pins s σ H R I) ((pi_enumT hg hm ha hs).run pins s σ H R I)⟩
/-- a list or a tuple stands at c -/
def SqA (H : Hp) (c : Addr) (ys : List V) : Prop := H c = some (.lst ys) ∨ H c = some (.tup ys)
theorem SqA.same {H H2 : Hp} {c : Addr} {ys : List V} (h : SqA H c ys) (S : Same H H2) : SqA H2 c ys := h.imp (S _ _) (S _ _)
theorem SqA.len {K : PySem.W.Frag} {H : Hp} {c : Addr} {ys : List V} (h : SqA H c ys) : SqL K H c ys ∨ SqT K H c ys := h.imp SqL.of SqT.of
theorem seqA_of {K : PySem.W.Frag} {i : Nat} {σ : L2.St} {H : Hp} {R : It → Hp → Prop} {c : Addr} {ys : List V} (hv : σ[i]? = some (some (.ref c))) (hc : SqA H c ys)
    (k : ∀ (J : It) (G : Hp → Prop), Walk J ys.length G (YAt ys) → (∀ H2, Same H H2 → G H2) → R J H) : iSeqA K (tVar i) σ H R := by
  rcases hc with hc | hc
  · exact .inl ⟨_, hv, c, rfl, ⟨_, SqL.of hc⟩, k _ _ walk_list fun H2 S => SqL.of (S _ _ hc)⟩
  · exact .inr ⟨_, hv, c, rfl, ⟨_, SqT.of hc⟩, k _ _ walk_tup fun H2 S => SqT.of (S _ _ hc)⟩
theorem enumA_of {K : PySem.W.Frag} {i : Nat} {σ : L2.St} {H : Hp} {R : It → Hp → Prop} {c : Addr} {ys : List V} (hv : σ[i]? = some (some (.ref c))) (hc : SqA H c ys)
    (k : ∀ (J : It) (G : Hp → Prop), Walk J ys.length G (YPair (fun i => some (.int (i : Nat))) (fun i => ys[i]?)) → (∀ H2, Same H H2 → G H2) → R J H) : iEnumA K (tCons (tVar i) tNil) σ H R := by
  rcases hc with hc | hc
  · exact .inl ⟨_, hv, c, ys, rfl, SqL.of hc, k _ _ walk_enum fun H2 S => SqL.of (S _ _ hc)⟩
  · exact .inr ⟨_, hv, c, ys, rfl, SqT.of hc, k _ _ walk_enumT fun H2 S => SqT.of (S _ _ hc)⟩
end L2
namespace Rt
open PySem L2 PySem.Spec PyProof.Rows
section
variable {P : Program} {w : World} {K : PySem.W.Frag} {mg : Str → Option Value} {base : Heap}

/-! ### tuples of so many things; the first wrong one -/
def isTup (lo hi : Int) (o : Option (List V)) : Bool := match o with
  | none => false
  | some ys => decide (lo ≤ (ys.length : Int)) && decide ((ys.length : Int) ≤ hi)
theorem isi_tup (T : Tx P K mg) {H : Hp} {x : V} (a : AnyV (OwnT T) H x) : ∃ t, TyX K H x t ∧ ∃ b, PySem.W.kitOne K t (.type "tuple") = some b ∧ (b = false → tupOf H x = none) ∧ (b = true → ∃ c ys, x = .ref c ∧ H c = some (.tup ys)) := by
  have no : ∀ {c : Addr} {o : HO}, H c = some o → (∀ ys, o ≠ .tup ys) → tupOf H (.ref c) = none := fun {c o} e h => by
    cases q : tupOf H (.ref c) with
    | none => rfl
    | some ys =>
      obtain ⟨c', e1, e2⟩ := tupOf_some q
      cases e1
      rw [e] at e2
      exact absurd (Option.some.inj e2) (h ys)
  cases a with
  | non => exact ⟨_, .base .non, false, kit_ty (by decide +kernel), fun _ => rfl, fun z => nomatch z⟩
  | bl b => exact ⟨_, .base (.bl b), false, kit_ty (by decide +kernel), fun _ => rfl, fun z => nomatch z⟩
  | int i => exact ⟨.type "int", .base (.int i), false, kit_ty (by decide +kernel), fun _ => rfl, fun z => nomatch z⟩
  | str x => exact ⟨_, .base (.str x), false, kit_ty (by decide +kernel), fun _ => rfl, fun z => nomatch z⟩
  | lst e => exact ⟨_, .base (.lst e), false, kit_ty (by decide +kernel), fun _ => no e (fun _ z => nomatch z), fun z => nomatch z⟩
  | tup e => exact ⟨_, .base (.tup e), true, kit_ty (by decide +kernel), fun z => (nomatch z), fun _ => ⟨_, _, rfl, e⟩⟩
  | dct e => exact ⟨_, .base (.dK e), false, kit_ty (by decide +kernel), fun _ => no e (fun _ z => nomatch z), fun z => nomatch z⟩
  | ins t e => exact ⟨_, .base (t.ty e), false, t.ntuple, fun _ => no e (fun _ z => nomatch z), fun z => nomatch z⟩

def spIsTup (T : Tx P K mg) : Sp := fun vs H Q _ => ∃ (x : V) (lo hi : Int), vs = [x, .int lo, .int hi] ∧ AnyV (OwnT T) H x ∧ Q (.bl (isTup lo hi (tupOf H x))) H
theorem ok_is_tuple (T : Tx P K mg) : FnOk P w K mg base CX0 lv_is_tuple T.a_is_tuple T.d_is_tuple ["told", "fewest", "most"] (spIsTup T) := by
  refine T.F_is_tuple.ok sc_is_tuple (fun vs H Q E h => ?_) (fun cdv A outer s H vs Q E hr h => ?_)
  · obtain ⟨x, lo, hi, rfl, _⟩ := h
    rfl
  · obtain ⟨x, lo, hi, rfl, a, k⟩ := h
    refine ⟨_, (pss_one (ps_ret (pe_and (pe_callB call_isi (by rfl) T.n_isinstance (by decide +kernel) (pa_cons (pv 0) (pa_cons (pe_bltn (v := .ty "tuple") rfl T.n_tuple (by decide +kernel) rfl) pa_nil))) (pe_one (pe_chain op_le op_le (pv 1) (pe_callB call_len_seq (by rfl) T.n_len (by decide +kernel) (pa_cons (pv 0) pa_nil)) (pv 2)))))), ?_⟩
    obtain ⟨t, ty, q, e1, h1, h2⟩ := isi_tup T a
    refine ⟨_, rfl, _, _, _, _, q, rfl, .ty _, ty, e1, q, rfl, ?_⟩
    cases q with
    | false =>
      rw [h1 rfl] at k
      exact iteF k
    | true =>
      obtain ⟨c, ys, rfl, e⟩ := h2 rfl
      rw [tupOf_ref e] at k
      have k : Q (V.bl (decide (lo ≤ (ys.length : Int)) && decide ((ys.length : Int) ≤ hi))) H := k
      refine iteT ⟨_, rfl, _, rfl, c, ys, rfl, .inr (SqT.of e), _, _, rfl, rfl, _, rfl, ?_⟩
      refine ite2 (fun g1 => ?_) (fun g1 => ?_)
      · rw [g1] at k
        exact ⟨_, rfl, _, _, rfl, rfl, k⟩
      · rw [show decide (lo ≤ (ys.length : Int)) = false from by simpa using g1] at k
        exact k
def optN (o : Option Nat) : V := match o with
  | none => .non
  | some i => .int (i : Nat)
def spFirstW (T : Tx P K mg) : Sp := fun vs H Q _ => ∃ (c : Addr) (ys : List V) (a b : Int), vs = [.ref c, .int a, .int b] ∧ H c = some (.tup ys) ∧ ys.length ≤ 1000 ∧ (∀ y ∈ ys, AnyV (OwnT T) H y) ∧ ∀ H2, Same H H2 → Q (optN (firstW a b ys)) H2
theorem ok_first_wrong (T : Tx P K mg) : FnOk P w K mg base CX0 lv_first_wrong T.a_first_wrong T.d_first_wrong ["told", "low", "high"] (spFirstW T) := by
  refine T.F_first_wrong.ok sc_first_wrong (fun vs H Q E h => ?_) (fun cdv A outer s H vs Q E hr h => ?_)
  · obtain ⟨c, ys, a, b, rfl, _⟩ := h
    rfl
  · obtain ⟨c, ys, a, b, rfl, e, hl, hy, k⟩ := h
    refine ⟨_, (pss_cons (ps_for PassesOwn.never rfl (pi_enumT (by rfl) T.n_enumerate (pa_cons (pv 0) pa_nil)) (pg_tup rfl (pgs_cons (pg_name (i := 3) sc_first_wrong.nd rfl (Or.inl rfl)) (pgs_cons (pg_name (i := 4) sc_first_wrong.nd rfl (Or.inl rfl)) pgs_nil))) (pss_one (ps_if (pt_not (pt_val (pe_call (ok_is_integer T) (hr.mono (by decide)) rfl T.g_is_integer T.F_is_integer.kp T.b_is_integer .nil pass0 (pa_cons (pv 4) (pa_cons (pv 1) (pa_cons (pv 2) pa_nil)))))) (pss_one (ps_ret (pv 3))) pss_nil)))
      (pss_one (ps_ret pe_non))), ?_⟩
    refine ⟨_, rfl, c, ys, rfl, SqT.of e, ?_⟩
    refine for_it (walk_enumT (a := c) (ys := ys)) (fun i σ H2 => ∃ v3 v4 : Option V, Same H H2 ∧ (∀ (j : Nat) (z : V), j < i → ys[j]? = some z → intIn z a b = true) ∧ σ = [some (.ref c), some (.int a), some (.int b), v3, v4]) ⟨none, none, fun _ _ e => e, fun j z lt _ => absurd lt (Nat.not_lt_zero _), rfl⟩ (fun i σ H2 _ ⟨_, _, S, _, _⟩ => SqT.of (S _ _ e)) ?_ ?_
    · rintro i x' σ H2 H3 hi ⟨v3, v4, S, hf, rfl⟩ ⟨p, x2, y, rfl, np, rfl, e2, hy'⟩
      cases e2
      have hy' : ys[i]? = some y := hy'
      refine ⟨p, _, rfl, SqT.of upd_same, rfl, _, _, rfl, _, _, rfl, rfl, ?_⟩
      have S3 := S.trans (same_upd (o := .tup [.int (i : Nat), y]) np)
      have ay : AnyV (OwnT T) (upd H2 p (.tup [.int (i : Nat), y])) y := (hy y (List.mem_of_getElem? hy')).mono S3
      refine ⟨_, rfl, _, rfl, _, rfl, y, a, b, rfl, ay, _, rfl, ?_⟩
      cases g : intIn y a b with
      | true =>
        refine iteF ⟨_, _, S3, fun j z lt hz => ?_, rfl⟩
        rcases Nat.lt_or_ge j i with q | q
        · exact hf j z q hz
        · rw [show j = i by omega, hy'] at hz
          cases hz
          exact g
      | false =>
        have k2 := k _ S3
        rw [firstW_at hf hy' g] at k2
        exact iteT ⟨_, rfl, k2⟩
    · rintro σ H2 ⟨v3, v4, S, hf, rfl⟩
      have k2 := k _ S
      rw [firstW_none fun y hy => by
        obtain ⟨j, hj⟩ := List.mem_iff_getElem?.mp hy
        exact hf j y (List.getElem?_eq_some_iff.mp hj).1 hj] at k2
      exact k2

/-! ### lists and tuples -/
def seqOf (H : Hp) (x : V) : Option (List V) := match x with
  | .ref c => match H c with
    | some (.tup ys) => some ys
    | some (.lst ys) => some ys
    | _ => none
  | _ => none
theorem seqOf_at {H : Hp} {c : Addr} {ys : List V} (h : SqA H c ys) : seqOf H (.ref c) = some ys := by
  show (match H c with | some (.tup ys) => some ys | some (.lst ys) => some ys | _ => none) = _
  rcases h with h | h <;> rw [h]
theorem seqOf_some {H : Hp} {x : V} {ys : List V} (h : seqOf H x = some ys) : ∃ c, x = .ref c ∧ SqA H c ys := by
  cases x with
  | ref c =>
    refine ⟨c, rfl, ?_⟩
    have h2 : (match H c with | some (.tup ys) => some ys | some (.lst ys) => some ys | _ => none) = some ys := h
    split at h2
    · rename_i zs e
      cases h2
      exact .inr e
    · rename_i zs e
      cases h2
      exact .inl e
    · cases h2
  | _ => cases h
theorem seqOf_same {T : Addr → Prop} {H H2 : Hp} {x : V} (a : AnyV T H x) (S : Same H H2) : seqOf H2 x = seqOf H x := by
  cases e : seqOf H x with
  | some ys =>
    obtain ⟨c, rfl, h⟩ := seqOf_some e
    exact seqOf_at (h.same S)
  | none =>
    cases e2 : seqOf H2 x with
    | none => rfl
    | some ys =>
      obtain ⟨c, rfl, h⟩ := seqOf_some e2
      rw [seqOf_at (show SqA H c ys from h.imp (a.at S) (a.at S))] at e
      cases e
theorem isi_seq (T : Tx P K mg) {H : Hp} {x : V} (a : AnyV (OwnT T) H x) : ∃ t, TyX K H x t ∧ ∃ b, PySem.W.kitAny K t [.type "list", .type "tuple"] = some b ∧ (b = false → seqOf H x = none) ∧ (b = true → ∃ c ys, x = .ref c ∧ SqA H c ys) := by
  have no : ∀ {t : Value}, PySem.W.kitOne K t (.type "list") = some false → PySem.W.kitOne K t (.type "tuple") = some false → PySem.W.kitAny K t [.type "list", .type "tuple"] = some false := fun h1 h2 => kitAny_cons h1 (fun _ => kitAny_cons h2 (fun _ => rfl) (fun z => nomatch z)) (fun z => nomatch z)
  have un : ∀ {c : Addr} {o : HO}, H c = some o → (∀ ys, o ≠ .tup ys) → (∀ ys, o ≠ .lst ys) → seqOf H (.ref c) = none := fun {c o} e h1 h2 => by
    cases q : seqOf H (.ref c) with
    | none => rfl
    | some ys =>
      obtain ⟨c', e1, e2⟩ := seqOf_some q
      cases e1
      rcases e2 with e2 | e2
      · rw [e] at e2
        exact absurd (Option.some.inj e2) (h2 ys)
      · rw [e] at e2
        exact absurd (Option.some.inj e2) (h1 ys)
  cases a with
  | non => exact ⟨_, .base .non, false, no (kit_ty (by decide +kernel)) (kit_ty (by decide +kernel)), fun _ => rfl, fun z => nomatch z⟩
  | bl b => exact ⟨_, .base (.bl b), false, no (kit_ty (by decide +kernel)) (kit_ty (by decide +kernel)), fun _ => rfl, fun z => nomatch z⟩
  | int i => exact ⟨.type "int", .base (.int i), false, no (kit_ty (by decide +kernel)) (kit_ty (by decide +kernel)), fun _ => rfl, fun z => nomatch z⟩
  | str x => exact ⟨_, .base (.str x), false, no (kit_ty (by decide +kernel)) (kit_ty (by decide +kernel)), fun _ => rfl, fun z => nomatch z⟩
  | lst e => exact ⟨_, .base (.lst e), true, kitAny_cons (b := true) (kit_ty (by decide +kernel)) (fun z => nomatch z) (fun _ => rfl), fun z => (nomatch z), fun _ => ⟨_, _, rfl, .inl e⟩⟩
  | tup e => exact ⟨_, .base (.tup e), true, kitAny_cons (b := false) (kit_ty (by decide +kernel)) (fun _ => kitAny_cons (b := true) (kit_ty (by decide +kernel)) (fun z => nomatch z) (fun _ => rfl)) (fun z => nomatch z), fun z => (nomatch z), fun _ => ⟨_, _, rfl, .inr e⟩⟩
  | dct e => exact ⟨_, .base (.dK e), false, no (kit_ty (by decide +kernel)) (kit_ty (by decide +kernel)), fun _ => un e (fun _ z => nomatch z) (fun _ z => nomatch z), fun z => nomatch z⟩
  | ins t e => exact ⟨_, .base (t.ty e), false, no t.nlist t.ntuple, fun _ => un e (fun _ z => nomatch z) (fun _ z => nomatch z), fun z => nomatch z⟩
def spIsSeq (T : Tx P K mg) : Sp := fun vs H Q _ => ∃ (x : V) (lo hi : Int), vs = [x, .int lo, .int hi] ∧ AnyV (OwnT T) H x ∧ ∀ H2, Same H H2 → Q (.bl (isTup lo hi (seqOf H x))) H2
theorem ok_is_list_or_tuple (T : Tx P K mg) : FnOk P w K mg base CX0 lv_is_list_or_tuple T.a_is_list_or_tuple T.d_is_list_or_tuple ["told", "fewest", "most"] (spIsSeq T) := by
  refine T.F_is_list_or_tuple.ok sc_is_list_or_tuple (fun vs H Q E h => ?_) (fun cdv A outer s H vs Q E hr h => ?_)
  · obtain ⟨x, lo, hi, rfl, _⟩ := h
    rfl
  · obtain ⟨x, lo, hi, rfl, a, k⟩ := h
    refine ⟨_, (pss_one (ps_ret (pe_and (pe_callB call_isiT (by rfl) T.n_isinstance (by decide +kernel) (pa_cons (pv 0) (pa_cons (pe_tup (pa_cons (pe_bltn (v := .ty "list") rfl T.n_list (by decide +kernel) rfl) (pa_cons (pe_bltn (v := .ty "tuple") rfl T.n_tuple (by decide +kernel) rfl) pa_nil))) pa_nil))) (pe_one (pe_chain op_le op_le (pv 1) (pe_callB call_len_seq (by rfl) T.n_len (by decide +kernel) (pa_cons (pv 0) pa_nil)) (pv 2)))))), ?_⟩
    refine ⟨_, rfl, by show 2 ≤ sizeLine; decide, fun tp htp => ?_⟩
    have S := same_upd (o := .tup [.ty "list", .ty "tuple"]) htp
    have k := k _ S
    rw [← seqOf_same a S] at k
    have a2 := a.mono S
    obtain ⟨t, ty, q, e1, h1, h2⟩ := isi_seq T a2
    refine ⟨x, tp, _, t, _, q, rfl, upd_same, .cons (.ty _) (.cons (.ty _) .nil), ty, e1, q, rfl, ?_⟩
    cases q with
    | false =>
      rw [h1 rfl] at k
      exact iteF k
    | true =>
      obtain ⟨c, ys, rfl, e⟩ := h2 rfl
      rw [seqOf_at e] at k
      have k : Q (V.bl (decide (lo ≤ (ys.length : Int)) && decide ((ys.length : Int) ≤ hi))) _ := k
      refine iteT ⟨_, rfl, _, rfl, c, ys, rfl, e.len, _, _, rfl, rfl, _, rfl, ?_⟩
      refine ite2 (fun g1 => ?_) (fun g1 => ?_)
      · rw [g1] at k
        exact ⟨_, rfl, _, _, rfl, rfl, k⟩
      · rw [show decide (lo ≤ (ys.length : Int)) = false from by simpa using g1] at k
        exact k

/-! ### weights -/
abbrev wVerd (lo : Nat) (H : Hp) (x : V) : Option V := verdict lo 12 (-(10 ^ 6)) (10 ^ 6) (tupOf H x)
def spWeights (T : Tx P K mg) : Sp := fun vs H Q E => ∃ (x : V) (lo : Nat), vs = [x, .int (lo : Int)] ∧ AnyV (OwnT T) H x ∧ ItemsAny (OwnT T) H x ∧ (wVerd lo H x = none → ∀ H2, Same H H2 → Q .non H2) ∧
  ∀ v, wVerd lo H x = some v → ∀ H2 d, Same H H2 → H2 d = none → E (.ref T.C_BadWeights) (some d) (upd H2 d (.xd [(("index" : Str), v)]))
theorem ok_check_weights (T : Tx P K mg) : FnOk P w K mg base (L2.CX P w) lv_check_weights T.a_check_weights T.d_check_weights ["told", "fewest"] (spWeights T) := by
  refine T.F_check_weights.okX sc_check_weights (fun vs H Q E h => ?_) (fun cdv A outer s H vs Q E hr h => ?_)
  · obtain ⟨x, lo, rfl, _⟩ := h
    rfl
  · obtain ⟨x, lo, rfl, a, ia, k1, k2⟩ := h
    refine ⟨_, (pss_cons (ps_if (pt_not (pt_val (pe_call (ok_is_tuple T) (hr.mono (by decide)) rfl T.g_is_tuple T.F_is_tuple.kp T.b_is_tuple .nil pass0 (pa_cons (pv 0) (pa_cons (pv 1) (pa_cons (pe_glob (v := .int 12) rfl T.c_MOST_WEIGHTS ⟨_, rfl⟩) pa_nil)))))) (pss_one (ps_raiseF T.x_BadWeights ar_BadWeights rfl hr (takes_of rfl rfl rfl rfl) (pa_cons pe_non pa_nil))) pss_nil)
      (pss_cons (ps_set (i := 2) sc_check_weights.nd rfl (Or.inl rfl) (pe_call (ok_first_wrong T) (hr.mono (by decide)) rfl T.g_first_wrong T.F_first_wrong.kp T.b_first_wrong .nil pass0 (pa_cons (pv 0) (pa_cons (pe_un un_neg (pe_glob (v := .int 1000000) rfl T.c_GREATEST_WEIGHT ⟨_, rfl⟩)) (pa_cons (pe_glob (v := .int 1000000) rfl T.c_GREATEST_WEIGHT ⟨_, rfl⟩) pa_nil)))))
      (pss_one (ps_if (pt_cmpR op_notN (pv 2) pe_non (nomark _)) (pss_one (ps_raiseF T.x_BadWeights ar_BadWeights rfl hr (takes_of rfl rfl rfl rfl) (pa_cons (pv 2) pa_nil))) pss_nil)))), ?_⟩
    refine ⟨_, rfl, _, rfl, x, (lo : Int), 12, rfl, a, _, rfl, ?_⟩
    cases e : tupOf H x with
    | none =>
      have ev : wVerd lo H x = some .non := by unfold wVerd; rw [e]; rfl
      exact iteT ⟨_, rfl, .inl rfl, fun d hd => k2 _ ev H d (Same.refl H) hd⟩
    | some ys =>
      obtain ⟨c, rfl, hc⟩ := tupOf_some e
      show if (!(decide ((lo : Int) ≤ (ys.length : Int)) && decide ((ys.length : Int) ≤ 12))) = true then _ else _
      by_cases l : lo ≤ ys.length ∧ ys.length ≤ 12
      · rw [show (decide ((lo : Int) ≤ (ys.length : Int)) && decide ((ys.length : Int) ≤ 12)) = true from by rw [Bool.and_eq_true, decide_eq_true_eq, decide_eq_true_eq]; omega]
        have ev : wVerd lo H (.ref c) = (firstW (-(10 ^ 6)) (10 ^ 6) ys).map fun i => .int (i : Nat) := by
          unfold wVerd
          rw [e, verdict_some]
          exact if_pos l
        rw [ev] at k1 k2
        refine iteF ⟨_, rfl, _, rfl, c, ys, -(10 ^ 6), 10 ^ 6, rfl, hc, by omega, fun y hy => ia ys e y hy, fun H2 S2 => ?_⟩
        cases ef : firstW (-(10 ^ 6)) (10 ^ 6) ys with
        | none =>
          rw [ef] at k1
          refine ⟨_, rfl, rfl, _, rfl, ?_⟩
          rw [show decide (optN none = V.non) = true from decide_eq_true rfl]
          exact iteF (k1 rfl H2 S2)
        | some i =>
          have li : i < ys.length := by
            have := firstW_lt ef
            exact this
          rw [ef] at k2
          refine ⟨_, rfl, rfl, _, rfl, ?_⟩
          rw [show decide (optN (some i) = V.non) = false from decide_eq_false (fun z => nomatch z)]
          have sm : ((i : Int)).natAbs.log2 < 1920 := Nat.lt_of_le_of_lt (Nat.log2_le_self _) (by omega)
          exact iteT ⟨_, rfl, _, rfl, .inr ⟨_, rfl, sm⟩, fun d hd => k2 _ rfl H2 d S2 hd⟩
      · have ev : wVerd lo H (.ref c) = some .non := by
          unfold wVerd
          rw [e, verdict_some]
          exact if_neg l
        rw [show (decide ((lo : Int) ≤ (ys.length : Int)) && decide ((ys.length : Int) ≤ 12)) = false from by rw [Bool.and_eq_false_iff, decide_eq_false_iff_not, decide_eq_false_iff_not]; omega]
        exact iteT ⟨_, rfl, .inl rfl, fun d hd => k2 _ ev H d (Same.refl H) hd⟩

/-! ### sums -/
def sfl (x y u v : V) : List (Str × V) := putF "_loop" v (putF "_first" u (putF "_take" y (putF "_base" x [])))
theorem sn1 : ¬ (("_base" : Str) = "_take") := by decide +kernel
theorem sn2 : ¬ (("_base" : Str) = "_first") := by decide +kernel
theorem sn3 : ¬ (("_base" : Str) = "_loop") := by decide +kernel
theorem sn4 : ¬ (("_take" : Str) = "_first") := by decide +kernel
theorem sn5 : ¬ (("_take" : Str) = "_loop") := by decide +kernel
theorem sn6 : ¬ (("_first" : Str) = "_loop") := by decide +kernel
theorem sfl_base (x y u v : V) : (sfl x y u v).lookup ("_base" : Str) = some x := by
  unfold sfl
  rw [lookup_putF, if_neg sn3, lookup_putF, if_neg sn2, lookup_putF, if_neg sn1, lookup_putF, if_pos rfl]
theorem sfl_take (x y u v : V) : (sfl x y u v).lookup ("_take" : Str) = some y := by
  unfold sfl
  rw [lookup_putF, if_neg sn5, lookup_putF, if_neg sn4, lookup_putF, if_pos rfl]
theorem sfl_first (x y u v : V) : (sfl x y u v).lookup ("_first" : Str) = some u := by
  unfold sfl
  rw [lookup_putF, if_neg sn6, lookup_putF, if_pos rfl]
theorem sfl_loop (x y u v : V) : (sfl x y u v).lookup ("_loop" : Str) = some v := by
  unfold sfl
  rw [lookup_putF, if_pos rfl]
/-- weights -/
def Wts (lo : Nat) (ns : List Int) : Prop := lo ≤ ns.length ∧ ns.length ≤ 12 ∧ ∀ z ∈ ns, -(10 ^ 6) ≤ z ∧ z ≤ 10 ^ 6
/-- the Sum of these parts stands at p -/
def SumAt (T : Tx P K mg) (H : Hp) (p : Addr) (b t : Int) (fs ls : List Int) : Prop := ∃ (dx f l : Addr), H p = some (.ins T.C_Sum dx (sfl (.int b) (.int t) (.ref f) (.ref l))) ∧ H f = some (.tup (fs.map V.int)) ∧ H l = some (.tup (ls.map V.int)) ∧ 2 ≤ b ∧ b ≤ 16 ∧ 1 ≤ t ∧ t ≤ 2 ∧ Wts 0 fs ∧ Wts 1 ls
theorem SumAt.same {T : Tx P K mg} {H H' : Hp} {p : Addr} {b t : Int} {fs ls : List Int} (h : SumAt T H p b t fs ls) (s : Same H H') : SumAt T H' p b t fs ls :=
  let ⟨dx, f, l, e1, e2, e3, r⟩ := h
  ⟨dx, f, l, s _ _ e1, s _ _ e2, s _ _ e3, r⟩
theorem SumAt.but {T : Tx P K mg} {H H' : Hp} {p r : Addr} {ys : List V} {b t : Int} {fs ls : List Int} (h : SumAt T H p b t fs ls) (hr : H r = some (.lst ys)) (s : But r H H') : SumAt T H' p b t fs ls :=
  let ⟨dx, f, l, e1, e2, e3, q⟩ := h
  ⟨dx, f, l, s _ _ e1 (ne_of e1 hr (by intro z; cases z)), s _ _ e2 (ne_of e2 hr (by intro z; cases z)), s _ _ e3 (ne_of e3 hr (by intro z; cases z)), q⟩
theorem wVerd_good {H : Hp} {c : Addr} {lo : Nat} {ns : List Int} (h : H c = some (.tup (ns.map V.int))) (w : Wts lo ns) : wVerd lo H (.ref c) = none := by
  unfold wVerd
  rw [tupOf_ref h]
  refine verdict_good (by rw [List.length_map]; exact w.1) (by rw [List.length_map]; exact w.2.1) fun y hy => ?_
  obtain ⟨z, hz, rfl⟩ := List.mem_map.mp hy
  exact intIn_of (w.2.2 z hz).1 (w.2.2 z hz).2
/-- Sum(base, take, first, loop), of any values -/
def spSumI (T : Tx P K mg) : Sp := fun vs H Q E => ∃ (p dx : Addr) (x y u v : V), vs = [.ref p, x, y, u, v] ∧ H p = some (.ins T.C_Sum dx []) ∧ AnyV (OwnT T) H x ∧ AnyV (OwnT T) H y ∧ AnyV (OwnT T) H u ∧ AnyV (OwnT T) H v ∧ ItemsAny (OwnT T) H u ∧ ItemsAny (OwnT T) H v ∧
  (intIn x 2 16 = false → E (.ref T.C_BadBase) none H) ∧ (intIn x 2 16 = true → intIn y 1 2 = false → E (.ref T.C_BadTake) none H) ∧
  (intIn x 2 16 = true → intIn y 1 2 = true → ∀ w, wVerd 0 H u = some w → ∀ H2 d, Same H H2 → H2 d = none → E (.ref T.C_BadWeights) (some d) (upd H2 d (.xd [(("index" : Str), w)]))) ∧
  (intIn x 2 16 = true → intIn y 1 2 = true → wVerd 0 H u = none → ∀ w, wVerd 1 H v = some w → ∀ H2 d, Same H H2 → H2 d = none → E (.ref T.C_BadWeights) (some d) (upd H2 d (.xd [(("index" : Str), w)]))) ∧
  (intIn x 2 16 = true → intIn y 1 2 = true → wVerd 0 H u = none → wVerd 1 H v = none → ∀ H', H' p = some (.ins T.C_Sum dx (sfl x y u v)) → (∀ c o, H c = some o → c ≠ p → H' c = some o) → Q .non H')
theorem ok_Sum___init__ (T : Tx P K mg) : FnOk P w K mg base (L2.CX P w) lv_Sum___init__ T.a_Sum___init__ T.d_Sum___init__ ["self", "base", "take", "first", "loop"] (spSumI T) := by
  refine T.F_Sum___init__.okX sc_Sum___init__ (fun vs H Q E h => ?_) (fun cdv A outer s H vs Q E hr h => ?_)
  · obtain ⟨p, dx, x, y, u, v, rfl, _⟩ := h
    rfl
  · obtain ⟨p, dx, x, y, u, v, rfl, hp, ax, ay, au, av, iu, iv, e1, e2, e3, e4, k⟩ := h
    refine ⟨_, (pss_cons (ps_expr (pe_call (ok_check_base T) (hr.mono (by decide)) rfl T.g_check_base T.F_check_base.kp T.b_check_base .nil (passes_call (takes_of rfl rfl rfl rfl) fun _ _ _ _ h => h) (pa_cons (pv 1) pa_nil)))
      (pss_cons (ps_expr (pe_call (ok_check_take T) (hr.mono (by decide)) rfl T.g_check_take T.F_check_take.kp T.b_check_take .nil (passes_call (takes_of rfl rfl rfl rfl) fun _ _ _ _ h => h) (pa_cons (pv 2) pa_nil)))
      (pss_cons (ps_expr (pe_call (ok_check_weights T) (hr.mono (by decide)) rfl T.g_check_weights T.F_check_weights.kp T.b_check_weights .nil (passes_call (takes_of rfl rfl rfl rfl) fun _ _ _ _ h => h) (pa_cons (pv 3) (pa_cons pe_int pa_nil))))
      (pss_cons (ps_expr (pe_call (ok_check_weights T) (hr.mono (by decide)) rfl T.g_check_weights T.F_check_weights.kp T.b_check_weights .nil (passes_call (takes_of rfl rfl rfl rfl) fun _ _ _ _ h => h) (pa_cons (pv 4) (pa_cons pe_int pa_nil))))
      (pss_cons (ps_fld (pv 0) (pv 1) rfl)
      (pss_cons (ps_fld (pv 0) (pv 2) rfl)
      (pss_cons (ps_fld (pv 0) (pv 3) rfl)
      (pss_one (ps_fld (pv 0) (pv 4) rfl))))))))), ?_⟩
    refine ⟨_, rfl, x, rfl, ax, fun g1 => ?_, e1⟩
    refine ⟨_, rfl, y, rfl, ay, fun g2 => ?_, e2 g1⟩
    refine ⟨_, rfl, u, 0, rfl, au, iu, fun g3 H1 S1 => ?_, fun w hw => e3 g1 g2 w hw⟩
    have ev : wVerd 1 H1 v = wVerd 1 H v := by
      unfold wVerd
      rw [tupOf_same av S1]
    refine ⟨_, rfl, v, 1, rfl, av.mono S1, iv.same av S1, fun g4 H2 S2 => ?_, fun w hw H2 d S2 hd => e4 g1 g2 g3 w (ev ▸ hw) H2 d (S1.trans S2) hd⟩
    have S := S1.trans S2
    have hp2 := S _ _ hp
    refine ⟨_, rfl, _, rfl, p, _, dx, _, rfl, hp2, T.cl_Sum, T.na_Sum_base, (by show 0 < 1000; decide), ?_⟩
    refine ⟨_, rfl, _, rfl, p, _, dx, _, rfl, upd_same, T.cl_Sum, T.na_Sum_take, (by show 1 < 1000; decide), ?_⟩
    refine ⟨_, rfl, _, rfl, p, _, dx, _, rfl, upd_same, T.cl_Sum, T.na_Sum_first, (by show 2 < 1000; decide), ?_⟩
    refine ⟨_, rfl, _, rfl, p, _, dx, _, rfl, upd_same, T.cl_Sum, T.na_Sum_loop, (by show 3 < 1000; decide), ?_⟩
    refine k g1 g2 g3 (ev ▸ g4) _ upd_same fun c o e hc => ?_
    rw [upd_ne hc, upd_ne hc, upd_ne hc, upd_ne hc]
    exact S _ _ e
/-- a Sum of good parts is made -/
theorem mk_sum {T : Tx P K mg} {H1 : Hp} {p dx f l : Addr} {b t : Int} {fs ls : List Int} {R : Hp → Prop} {E : XK} (np : H1 p = none) (nd : H1 dx = none) (hf : H1 f = some (.tup (fs.map V.int))) (hl : H1 l = some (.tup (ls.map V.int))) (b1 : 2 ≤ b) (b2 : b ≤ 16) (t1 : 1 ≤ t) (t2 : t ≤ 2) (w1 : Wts 0 fs) (w2 : Wts 1 ls)
    (k : ∀ H2, SumAt T H2 p b t fs ls → Same H1 H2 → R H2) : spSumI T (.ref p :: ([.int b, .int t, .ref f, .ref l] ++ [])) (upd (upd H1 dx (.own p)) p (.ins T.C_Sum dx [])) (fun v H2 => v = .non ∧ R H2) E := by
  have S : Same H1 (upd (upd H1 dx (.own p)) p (.ins T.C_Sum dx [])) := fun c o e => by
    rw [upd_ne (ne_of_none e np), upd_ne (ne_of_none e nd)]
    exact e
  have hf2 := S _ _ hf
  have hl2 := S _ _ hl
  have nf : ∀ {v : V} {lo hi : Int} {G : Prop}, intIn v lo hi = true → intIn v lo hi = false → G := fun p q => Bool.noConfusion (p.symm.trans q)
  have g3 := wVerd_good hf2 w1
  have g4 := wVerd_good hl2 w2
  refine ⟨p, dx, .int b, .int t, .ref f, .ref l, rfl, upd_same, .int b, .int t, .tup hf2, .tup hl2, .ints hf2, .ints hl2, nf (intIn_of b1 b2), fun _ => nf (intIn_of t1 t2), fun _ _ w hw => ?_, fun _ _ _ w hw => ?_, fun _ _ _ _ H2 h2 kp => ⟨rfl, ?_⟩⟩
  · rw [g3] at hw
    cases hw
  · rw [g4] at hw
    cases hw
  · exact k H2 ⟨dx, f, l, h2, kp _ _ hf2 (ne_of_none hf np), kp _ _ hl2 (ne_of_none hl np), b1, b2, t1, t2, w1, w2⟩ (Same.made np nd kp)
/-! ### its parts -/
def spGetS (T : Tx P K mg) (g : V → V → V → V → V) : Sp := fun vs H Q _ => ∃ (p dx : Addr) (x y u v : V), vs = [.ref p] ∧ H p = some (.ins T.C_Sum dx (sfl x y u v)) ∧ Q (g x y u v) H
theorem ok_Sum_base (T : Tx P K mg) : FnOk P w K mg base CX0 lv_Sum_base T.a_Sum_base T.d_Sum_base ["self"] (spGetS T fun x _ _ _ => x) := by
  refine T.F_Sum_base.ok sc_Sum_base (fun vs H Q E h => ?_) (fun cdv A outer s H vs Q E hr h => ?_)
  · obtain ⟨p, dx, x, y, u, v, rfl, _⟩ := h
    rfl
  · obtain ⟨p, dx, x, y, u, v, rfl, e, k⟩ := h
    exact ⟨_, (pss_one (ps_ret (pe_fld (pv 0) rfl))), _, rfl, p, _, dx, _, _, rfl, e, T.cl_Sum, T.na_Sum_base, sfl_base x y u v, k⟩
theorem ok_Sum_take (T : Tx P K mg) : FnOk P w K mg base CX0 lv_Sum_take T.a_Sum_take T.d_Sum_take ["self"] (spGetS T fun _ y _ _ => y) := by
  refine T.F_Sum_take.ok sc_Sum_take (fun vs H Q E h => ?_) (fun cdv A outer s H vs Q E hr h => ?_)
  · obtain ⟨p, dx, x, y, u, v, rfl, _⟩ := h
    rfl
  · obtain ⟨p, dx, x, y, u, v, rfl, e, k⟩ := h
    exact ⟨_, (pss_one (ps_ret (pe_fld (pv 0) rfl))), _, rfl, p, _, dx, _, _, rfl, e, T.cl_Sum, T.na_Sum_take, sfl_take x y u v, k⟩
theorem ok_Sum_first (T : Tx P K mg) : FnOk P w K mg base CX0 lv_Sum_first T.a_Sum_first T.d_Sum_first ["self"] (spGetS T fun _ _ u _ => u) := by
  refine T.F_Sum_first.ok sc_Sum_first (fun vs H Q E h => ?_) (fun cdv A outer s H vs Q E hr h => ?_)
  · obtain ⟨p, dx, x, y, u, v, rfl, _⟩ := h
    rfl
  · obtain ⟨p, dx, x, y, u, v, rfl, e, k⟩ := h
    exact ⟨_, (pss_one (ps_ret (pe_fld (pv 0) rfl))), _, rfl, p, _, dx, _, _, rfl, e, T.cl_Sum, T.na_Sum_first, sfl_first x y u v, k⟩
theorem ok_Sum_loop (T : Tx P K mg) : FnOk P w K mg base CX0 lv_Sum_loop T.a_Sum_loop T.d_Sum_loop ["self"] (spGetS T fun _ _ _ v => v) := by
  refine T.F_Sum_loop.ok sc_Sum_loop (fun vs H Q E h => ?_) (fun cdv A outer s H vs Q E hr h => ?_)
  · obtain ⟨p, dx, x, y, u, v, rfl, _⟩ := h
    rfl
  · obtain ⟨p, dx, x, y, u, v, rfl, e, k⟩ := h
    exact ⟨_, (pss_one (ps_ret (pe_fld (pv 0) rfl))), _, rfl, p, _, dx, _, _, rfl, e, T.cl_Sum, T.na_Sum_loop, sfl_loop x y u v, k⟩
/-- what is a Sum, or the error -/
theorem isi_sum (T : Tx P K mg) {H : Hp} {x : V} (a : AnyV (fun _ => False) H x) : ∃ t, TyX K H x t ∧ PySem.W.kitOne K t (.ref T.C_Sum) = some false := by
  cases a with
  | non => exact ⟨_, .base .non, T.kin_Sum_NoneType⟩
  | bl b => exact ⟨_, .base (.bl b), T.kin_Sum_bool⟩
  | int i => exact ⟨_, .base (.int i), T.kin_Sum_int⟩
  | str x => exact ⟨_, .base (.str x), T.kin_Sum_str⟩
  | lst e => exact ⟨_, .base (.lst e), T.kin_Sum_list⟩
  | tup e => exact ⟨_, .base (.tup e), T.kin_Sum_tuple⟩
  | dct e => exact ⟨_, .base (.dK e), T.kin_Sum_dict⟩
  | ins t e => exact t.elim
def spChkSum (T : Tx P K mg) : Sp := fun vs H Q E => ∃ x : V, vs = [x] ∧ ((∃ p dx fs, x = .ref p ∧ H p = some (.ins T.C_Sum dx fs) ∧ Q .non H) ∨ (AnyV (fun _ => False) H x ∧ E (.ref T.C_BadSum) none H))
theorem ok_check_sum (T : Tx P K mg) : FnOk P w K mg base (L2.CX P w) lv_check_sum T.a_check_sum T.d_check_sum ["told"] (spChkSum T) := by
  refine T.F_check_sum.okX sc_check_sum (fun vs H Q E h => ?_) (fun cdv A outer s H vs Q E hr h => ?_)
  · obtain ⟨x, rfl, _⟩ := h
    rfl
  · obtain ⟨x, rfl, h⟩ := h
    refine ⟨_, (pss_one (ps_if (pt_not (pt_val (pe_callB call_isi (by rfl) T.n_isinstance (by decide +kernel) (pa_cons (pv 0) (pa_cons (pe_glob (v := .ref T.C_Sum) rfl T.g_Sum rfl) pa_nil))))) (pss_one (ps_raise rfl (takes_of rfl rfl rfl rfl) (pmk_own PySem.F.excBase_ValueError T.x_BadSum T.g_BadSum T.k_BadSum (raises_own T.s_BadSum T.t_BadSum) rfl))) pss_nil)), ?_⟩
    rcases h with ⟨p, dx, fs, rfl, e, k⟩ | ⟨a, k⟩
    · exact ⟨_, rfl, _, _, _, _, _, rfl, .own _, .base (T.ins_Sum _ _ _ _ e), T.kis_Sum, _, rfl, iteF k⟩
    · obtain ⟨t, ty, e⟩ := isi_sum T a
      exact ⟨_, rfl, _, _, _, _, _, rfl, .own _, ty, e, _, rfl, iteT k⟩

/-! ### the block -/
def blockOf (b t : Int) : Int := if t = 1 then b else b * b
theorem block_bd {b t : Int} (h1 : 2 ≤ b) (h2 : b ≤ 16) : 2 ≤ blockOf b t ∧ blockOf b t ≤ 256 := by
  unfold blockOf
  split
  · omega
  · have q : b * b ≤ 16 * 16 := Int.mul_le_mul h2 h2 (by omega) (by omega)
    have r : 2 * 2 ≤ b * b := Int.mul_le_mul h1 h1 (by omega) (by omega)
    omega
theorem pow_block {b t : Int} (t1 : 1 ≤ t) (t2 : t ≤ 2) : b ^ t.toNat = blockOf b t := by
  unfold blockOf
  by_cases h : t = 1
  · rw [if_pos h, h]
    exact Int.pow_succ b 0 |>.trans (by rw [Int.pow_zero, Int.one_mul])
  · have h2 : t = 2 := by omega
    rw [if_neg h, h2]
    exact Int.pow_succ b 1 |>.trans (by rw [Int.pow_succ, Int.pow_zero, Int.one_mul])

/-! ### tricks -/
def spBlockOf : Sp := fun vs H Q _ => ∃ b t : Int, vs = [.int b, .int t] ∧ 2 ≤ b ∧ b ≤ 16 ∧ Q (.int (blockOf b t)) H
theorem ok_block_of (T : Tx P K mg) : FnOk P w K mg base CX0 lv_block_of T.a_block_of T.d_block_of ["base", "take"] spBlockOf := by
  refine T.F_block_of.ok sc_block_of (fun vs H Q E h => ?_) (fun cdv A outer s H vs Q E hr h => ?_)
  · obtain ⟨b, t, rfl, _⟩ := h
    rfl
  · obtain ⟨b, t, rfl, h1, h2, k⟩ := h
    refine ⟨_, (pss_one (ps_ret (pe_ifExp (pt_cmpR op_eq (pv 1) pe_int (nomark _)) (pv 0) (pe_op op_mul (pv 0) (pv 0))))), ?_⟩
    refine ⟨_, rfl, rfl, _, rfl, ?_⟩
    refine ite2 (fun c => ?_) (fun c => ?_)
    · have c1 : t = 1 := by simpa using c
      have k2 : Q (.int b) H := by
        have e : blockOf b t = b := by unfold blockOf; rw [if_pos c1]
        rw [e] at k
        exact k
      exact ⟨_, rfl, k2⟩
    · have c1 : ¬ t = 1 := by simpa using c
      have k2 : Q (.int (b * b)) H := by
        have e : blockOf b t = b * b := by unfold blockOf; rw [if_neg c1]
        rw [e] at k
        exact k
      exact ⟨_, rfl, _, rfl, _, _, rfl, rfl, .inl ⟨by omega, by omega⟩, k2⟩

/-- a trick's attributes -/
def tf (b t m : Int) : List (Str × V) := putF "_times" (.int m) (putF "_take" (.int t) (putF "_base" (.int b) []))
theorem n1 : ¬ (("_base" : Str) = "_take") := by decide +kernel
theorem n2 : ¬ (("_base" : Str) = "_times") := by decide +kernel
theorem n3 : ¬ (("_take" : Str) = "_times") := by decide +kernel
theorem tf_eq (b t m : Int) : tf b t m = ([("_base", V.int b), ("_take", V.int t), ("_times", V.int m)] : List (Str × V)) := by
  have e2 : putF "_take" (V.int t) (putF "_base" (V.int b) []) = ([("_base", V.int b), ("_take", V.int t)] : List (Str × V)) := by
    show (if ("_base" : Str) = "_take" then [(("_base" : Str), V.int t)] else (("_base" : Str), V.int b) :: putF "_take" (V.int t) []) = _
    rw [if_neg n1]
    all_goals rfl
  unfold tf
  rw [e2]
  show (if ("_base" : Str) = "_times" then _ else (("_base" : Str), V.int b) :: (if ("_take" : Str) = "_times" then _ else (("_take" : Str), V.int t) :: putF "_times" (V.int m) [])) = _
  rw [if_neg n2, if_neg n3]
  all_goals rfl
theorem tf_base (b t m : Int) : (tf b t m).lookup ("_base" : Str) = some (.int b) := by
  unfold tf
  rw [lookup_putF, if_neg n2, lookup_putF, if_neg n1, lookup_putF, if_pos rfl]
theorem tf_take (b t m : Int) : (tf b t m).lookup ("_take" : Str) = some (.int t) := by
  unfold tf
  rw [lookup_putF, if_neg n3, lookup_putF, if_pos rfl]
theorem tf_times (b t m : Int) : (tf b t m).lookup ("_times" : Str) = some (.int m) := by
  unfold tf
  rw [lookup_putF, if_pos rfl]
/-- the Trick of these parts stands at p -/
def TrickAt (T : Tx P K mg) (H : Hp) (p : Addr) (b t m : Int) : Prop := (∃ dx, H p = some (.ins T.C_Trick dx (tf b t m))) ∧ 2 ≤ b ∧ b ≤ 16 ∧ 1 ≤ t ∧ t ≤ 2 ∧ -100 ≤ m ∧ m ≤ 100
theorem TrickAt.same {T : Tx P K mg} {H H' : Hp} {p : Addr} {b t m : Int} (h : TrickAt T H p b t m) (s : Same H H') : TrickAt T H' p b t m :=
  let ⟨⟨dx, e⟩, r⟩ := h
  ⟨⟨dx, s _ _ e⟩, r⟩
theorem TrickAt.but {T : Tx P K mg} {H H' : Hp} {p r : Addr} {b t m : Int} (h : TrickAt T H p b t m) (s : But r H H') (n : p ≠ r) : TrickAt T H' p b t m :=
  let ⟨⟨dx, e⟩, q⟩ := h
  ⟨⟨dx, s _ _ e n⟩, q⟩
theorem TrickAt.any {T : Tx P K mg} {H : Hp} {p : Addr} {b t m : Int} (h : TrickAt T H p b t m) : AnyV (OwnT T) H (.ref p) :=
  let ⟨⟨_, e⟩, _⟩ := h
  .ins (by first | exact rfl | exact Or.inl rfl) e
theorem isi_trick (T : Tx P K mg) {H : Hp} {x : V} (a : AnyV (fun _ => False) H x) : ∃ t, TyX K H x t ∧ PySem.W.kitOne K t (.ref T.C_Trick) = some false := by
  cases a with
  | non => exact ⟨_, .base .non, T.kin_Trick_NoneType⟩
  | bl b => exact ⟨_, .base (.bl b), T.kin_Trick_bool⟩
  | int i => exact ⟨_, .base (.int i), T.kin_Trick_int⟩
  | str x => exact ⟨_, .base (.str x), T.kin_Trick_str⟩
  | lst e => exact ⟨_, .base (.lst e), T.kin_Trick_list⟩
  | tup e => exact ⟨_, .base (.tup e), T.kin_Trick_tuple⟩
  | dct e => exact ⟨_, .base (.dK e), T.kin_Trick_dict⟩
  | ins t e => exact t.elim

/-- Trick(b, t, m) of good parts: a new object; nothing that stood is changed -/
def spTrickI (T : Tx P K mg) : Sp := fun vs H Q _ => ∃ (p dx : Addr) (b t m : Int), vs = [.ref p, .int b, .int t, .int m] ∧ H p = some (.ins T.C_Trick dx []) ∧ 2 ≤ b ∧ b ≤ 16 ∧ 1 ≤ t ∧ t ≤ 2 ∧ -100 ≤ m ∧ m ≤ 100 ∧
  ∀ H', TrickAt T H' p b t m → (∀ c o, H c = some o → c ≠ p → H' c = some o) → Q .non H'
theorem ok_Trick___init__ (T : Tx P K mg) : FnOk P w K mg base CX0 lv_Trick___init__ T.a_Trick___init__ T.d_Trick___init__ ["self", "base", "take", "times"] (spTrickI T) := by
  refine T.F_Trick___init__.ok sc_Trick___init__ (fun vs H Q E h => ?_) (fun cdv A outer s H vs Q E hr h => ?_)
  · obtain ⟨p, dx, b, t, m, rfl, _⟩ := h
    rfl
  · obtain ⟨p, dx, b, t, m, rfl, hp, b1, b2, t1, t2, m1, m2, k⟩ := h
    refine ⟨_, (pss_cons (ps_expr (pe_call (ok_check_base T) (hr.mono (by decide)) rfl T.g_check_base T.F_check_base.kp T.b_check_base .nil passL (pa_cons (pv 1) pa_nil)))
      (pss_cons (ps_expr (pe_call (ok_check_take T) (hr.mono (by decide)) rfl T.g_check_take T.F_check_take.kp T.b_check_take .nil passL (pa_cons (pv 2) pa_nil)))
      (pss_cons (ps_if (pt_not (pt_val (pe_call (ok_is_integer T) (hr.mono (by decide)) rfl T.g_is_integer T.F_is_integer.kp T.b_is_integer .nil pass0 (pa_cons (pv 3) (pa_cons (pe_un un_neg (pe_glob (v := .int 100) rfl T.c_GREATEST_TIMES ⟨_, rfl⟩)) (pa_cons (pe_glob (v := .int 100) rfl T.c_GREATEST_TIMES ⟨_, rfl⟩) pa_nil)))))) (pss_one ps_never) pss_nil)
      (pss_cons (ps_fld (pv 0) (pv 1) rfl)
      (pss_cons (ps_fld (pv 0) (pv 2) rfl)
      (pss_one (ps_fld (pv 0) (pv 3) rfl))))))), ?_⟩
    refine ⟨_, rfl, _, rfl, .int b, fun _ => ?_, fun z => Bool.noConfusion ((intIn_of b1 b2).symm.trans z)⟩
    refine ⟨_, rfl, _, rfl, .int t, fun _ => ?_, fun z => Bool.noConfusion ((intIn_of t1 t2).symm.trans z)⟩
    refine ⟨_, rfl, _, rfl, _, _, _, rfl, .int m, _, rfl, ?_⟩
    rw [intIn_of m1 m2]
    refine iteF ?_
    refine ⟨_, rfl, _, rfl, p, _, dx, _, rfl, hp, T.cl_Trick, T.na_Trick_base, (by show 0 < 1000; decide), ?_⟩
    refine ⟨_, rfl, _, rfl, p, _, dx, _, rfl, upd_same, T.cl_Trick, T.na_Trick_take, (by show 1 < 1000; decide), ?_⟩
    refine ⟨_, rfl, _, rfl, p, _, dx, _, rfl, upd_same, T.cl_Trick, T.na_Trick_times, (by show 2 < 1000; decide), ?_⟩
    refine k _ ⟨⟨dx, upd_same⟩, b1, b2, t1, t2, m1, m2⟩ fun c o e hc => ?_
    rw [upd_ne hc, upd_ne hc, upd_ne hc]
    exact e
/-- a Trick of good parts is made -/
theorem mk_trick {T : Tx P K mg} {H1 : Hp} {p dx : Addr} {b t m : Int} {R : Hp → Prop} {E : XK} (np : H1 p = none) (nd : H1 dx = none) (b1 : 2 ≤ b) (b2 : b ≤ 16) (t1 : 1 ≤ t) (t2 : t ≤ 2) (m1 : -100 ≤ m) (m2 : m ≤ 100)
    (k : ∀ H2, TrickAt T H2 p b t m → Same H1 H2 → R H2) : spTrickI T (.ref p :: ([.int b, .int t, .int m] ++ [])) (upd (upd H1 dx (.own p)) p (.ins T.C_Trick dx [])) (fun v H2 => v = .non ∧ R H2) E :=
  ⟨p, dx, b, t, m, rfl, upd_same, b1, b2, t1, t2, m1, m2, fun H2 hT kp => ⟨rfl, k H2 hT (Same.made np nd kp)⟩⟩

/-! ### a trick's parts, its block -/
def spGet (T : Tx P K mg) (f : Int → Int → Int → Int) : Sp := fun vs H Q _ => ∃ (p : Addr) (b t m : Int), vs = [.ref p] ∧ TrickAt T H p b t m ∧ Q (.int (f b t m)) H
theorem ok_Trick_base (T : Tx P K mg) : FnOk P w K mg base CX0 lv_Trick_base T.a_Trick_base T.d_Trick_base ["self"] (spGet T fun b _ _ => b) := by
  refine T.F_Trick_base.ok sc_Trick_base (fun vs H Q E h => ?_) (fun cdv A outer s H vs Q E hr h => ?_)
  · obtain ⟨p, b, t, m, rfl, _⟩ := h
    rfl
  · obtain ⟨p, b, t, m, rfl, ⟨⟨dx, e⟩, _⟩, k⟩ := h
    exact ⟨_, (pss_one (ps_ret (pe_fld (pv 0) rfl))), _, rfl, p, _, dx, _, _, rfl, e, T.cl_Trick, T.na_Trick_base, tf_base b t m, k⟩
theorem ok_Trick_take (T : Tx P K mg) : FnOk P w K mg base CX0 lv_Trick_take T.a_Trick_take T.d_Trick_take ["self"] (spGet T fun _ t _ => t) := by
  refine T.F_Trick_take.ok sc_Trick_take (fun vs H Q E h => ?_) (fun cdv A outer s H vs Q E hr h => ?_)
  · obtain ⟨p, b, t, m, rfl, _⟩ := h
    rfl
  · obtain ⟨p, b, t, m, rfl, ⟨⟨dx, e⟩, _⟩, k⟩ := h
    exact ⟨_, (pss_one (ps_ret (pe_fld (pv 0) rfl))), _, rfl, p, _, dx, _, _, rfl, e, T.cl_Trick, T.na_Trick_take, tf_take b t m, k⟩
theorem ok_Trick_times (T : Tx P K mg) : FnOk P w K mg base CX0 lv_Trick_times T.a_Trick_times T.d_Trick_times ["self"] (spGet T fun _ _ m => m) := by
  refine T.F_Trick_times.ok sc_Trick_times (fun vs H Q E h => ?_) (fun cdv A outer s H vs Q E hr h => ?_)
  · obtain ⟨p, b, t, m, rfl, _⟩ := h
    rfl
  · obtain ⟨p, b, t, m, rfl, ⟨⟨dx, e⟩, _⟩, k⟩ := h
    exact ⟨_, (pss_one (ps_ret (pe_fld (pv 0) rfl))), _, rfl, p, _, dx, _, _, rfl, e, T.cl_Trick, T.na_Trick_times, tf_times b t m, k⟩

theorem ok_trick_block (T : Tx P K mg) : FnOk P w K mg base CX0 lv_trick_block T.a_trick_block T.d_trick_block ["trick"] (spGet T fun b t _ => blockOf b t) := by
  refine T.F_trick_block.ok sc_trick_block (fun vs H Q E h => ?_) (fun cdv A outer s H vs Q E hr h => ?_)
  · obtain ⟨p, b, t, m, rfl, _⟩ := h
    rfl
  · obtain ⟨p, b, t, m, rfl, a, k⟩ := h
    obtain ⟨⟨dx, e⟩, b1, b2, _⟩ := id a
    exact ⟨_, (pss_one (ps_ret (pe_call (ok_block_of T) (hr.mono (by decide)) rfl T.g_block_of T.F_block_of.kp T.b_block_of .nil pass0 (pa_cons (pe_prop (pv 0) T.cl_Trick T.p_Trick_base (ok_Trick_base T) (hr.mono (by decide)) T.b_Trick_base .nil pass0 rfl) (pa_cons (pe_prop (pv 0) T.cl_Trick T.p_Trick_take (ok_Trick_take T) (hr.mono (by decide)) T.b_Trick_take .nil pass0 rfl) pa_nil))))), _, rfl, p, dx, _, rfl, e, p, b, t, m, rfl, a, _, rfl, p, dx, _, rfl, e, p, b, t, m, rfl, a, b, t, rfl, b1, b2, k⟩

/-- what is a Trick, or the error -/
def isTrick (T : Tx P K mg) (H : Hp) (x : V) : Prop := ∃ p b t m, x = .ref p ∧ TrickAt T H p b t m
def spChkTrick (T : Tx P K mg) : Sp := fun vs H Q E => ∃ x : V, vs = [x] ∧ ((∃ p dx fs, x = .ref p ∧ H p = some (.ins T.C_Trick dx fs) ∧ Q .non H) ∨ (AnyV (fun _ => False) H x ∧ E (.ref T.C_BadTrick) none H))
theorem ok_check_trick (T : Tx P K mg) : FnOk P w K mg base (L2.CX P w) lv_check_trick T.a_check_trick T.d_check_trick ["trick"] (spChkTrick T) := by
  refine T.F_check_trick.okX sc_check_trick (fun vs H Q E h => ?_) (fun cdv A outer s H vs Q E hr h => ?_)
  · obtain ⟨x, rfl, _⟩ := h
    rfl
  · obtain ⟨x, rfl, h⟩ := h
    refine ⟨_, (pss_one (ps_if (pt_not (pt_val (pe_callB call_isi (by rfl) T.n_isinstance (by decide +kernel) (pa_cons (pv 0) (pa_cons (pe_glob (v := .ref T.C_Trick) rfl T.g_Trick rfl) pa_nil))))) (pss_one (ps_raise rfl (takes_of rfl rfl rfl rfl) (pmk_own PySem.F.excBase_ValueError T.x_BadTrick T.g_BadTrick T.k_BadTrick (raises_own T.s_BadTrick T.t_BadTrick) rfl))) pss_nil)), ?_⟩
    rcases h with ⟨p, dx, fs, rfl, e, k⟩ | ⟨a, k⟩
    · exact ⟨_, rfl, _, _, _, _, _, rfl, .own _, .base (T.ins_Trick _ _ _ _ e), T.kis_Trick, _, rfl, iteF k⟩
    · obtain ⟨t, ty, e⟩ := isi_trick T a
      exact ⟨_, rfl, _, _, _, _, _, rfl, .own _, ty, e, _, rfl, iteT k⟩

/-! ### what a trick makes; the stretch behind which all comes again -/
def made (b t m n : Int) : Int := n / blockOf b t + m * n.fmod (blockOf b t)
def spMadeW (K : PySem.W.Frag) : Sp := fun vs H Q _ => ∃ B m n : Int, vs = [.int B, .int m, .int n] ∧ 2 ≤ B ∧ B ≤ 256 ∧ -100 ≤ m ∧ m ≤ 100 ∧ Q (.int (n / B + m * n.fmod B)) H
theorem ok_made_with (T : Tx P K mg) : FnOk P w K mg base CX0 lv_made_with T.a_made_with T.d_made_with ["block", "times", "n"] (spMadeW K) := by
  refine T.F_made_with.ok sc_made_with (fun vs H Q E h => ?_) (fun cdv A outer s H vs Q E hr h => ?_)
  · obtain ⟨B, m, n, rfl, _⟩ := h
    rfl
  · obtain ⟨B, m, n, rfl, B1, B2, m1, m2, k⟩ := h
    refine ⟨_, (pss_one (ps_ret (pe_op op_add (pe_op op_fdivW (pv 2) (pv 0)) (pe_op op_mul (pv 1) (pe_op op_modN (pv 2) (pv 0)))))), ?_⟩
    refine ⟨_, rfl, _, rfl, _, _, rfl, rfl, wide_div (show 0 < B by omega) (b := 9) (show B.natAbs < 2 ^ 9 by omega) (by decide) (by decide), ?_⟩
    exact ⟨_, rfl, _, rfl, _, rfl, _, _, rfl, rfl, (show B ≠ 0 by omega), _, _, rfl, rfl, .inl (show -(2 ^ 64) < m ∧ m < 2 ^ 64 from ⟨by omega, by omega⟩), _, _, rfl, rfl, k⟩
def spMade (T : Tx P K mg) : Sp := fun vs H Q _ => ∃ (p : Addr) (b t m n : Int), vs = [.ref p, .int n] ∧ TrickAt T H p b t m ∧ Q (.int (made b t m n)) H
theorem ok_made_of (T : Tx P K mg) : FnOk P w K mg base CX0 lv_made_of T.a_made_of T.d_made_of ["trick", "n"] (spMade T) := by
  refine T.F_made_of.ok sc_made_of (fun vs H Q E h => ?_) (fun cdv A outer s H vs Q E hr h => ?_)
  · obtain ⟨p, b, t, m, n, rfl, _⟩ := h
    rfl
  · obtain ⟨p, b, t, m, n, rfl, a, k⟩ := h
    obtain ⟨⟨dx, e⟩, b1, b2, t1, t2, m1, m2⟩ := id a
    obtain ⟨B1, B2⟩ := block_bd (t := t) b1 b2
    refine ⟨_, (pss_one (ps_ret (pe_call (ok_made_with T) (hr.mono (by decide)) rfl T.g_made_with T.F_made_with.kp T.b_made_with .nil pass0 (pa_cons (pe_call (ok_trick_block T) (hr.mono (by decide)) rfl T.g_trick_block T.F_trick_block.kp T.b_trick_block .nil pass0 (pa_cons (pv 0) pa_nil)) (pa_cons (pe_prop (pv 0) T.cl_Trick T.p_Trick_times (ok_Trick_times T) (hr.mono (by decide)) T.b_Trick_times .nil pass0 rfl) (pa_cons (pv 1) pa_nil)))))), ?_⟩
    refine ⟨_, rfl, p, b, t, m, rfl, a, ?_⟩
    refine ⟨_, rfl, p, dx, _, rfl, e, p, b, t, m, rfl, a, ?_⟩
    exact ⟨_, rfl, _, _, _, rfl, by omega, by omega, m1, m2, k⟩

/-! ### done -/
def spDone (T : Tx P K mg) : Sp := fun vs H Q _ => ∃ (p : Addr) (b t m n : Int), vs = [.ref p, .int n] ∧ TrickAt T H p b t m ∧ -(10 ^ 40) ≤ n ∧ n ≤ 10 ^ 40 ∧ Q (.int (made b t m n)) H
theorem ok_done (T : Tx P K mg) : FnOk P w K mg base CX0 lv_done T.a_done T.d_done ["trick", "n"] (spDone T) := by
  refine T.F_done.ok sc_done (fun vs H Q E h => ?_) (fun cdv A outer s H vs Q E hr h => ?_)
  · obtain ⟨p, b, t, m, n, rfl, _⟩ := h
    rfl
  · obtain ⟨p, b, t, m, n, rfl, a, n1, n2, k⟩ := h
    obtain ⟨⟨dx, e⟩, b1, b2, t1, t2, m1, m2⟩ := id a
    refine ⟨_, (pss_cons (ps_expr (pe_call (ok_check_trick T) (hr.mono (by decide)) rfl T.g_check_trick T.F_check_trick.kp T.b_check_trick .nil passL (pa_cons (pv 0) pa_nil)))
      (pss_cons (ps_expr (pe_call (ok_check_number T) (hr.mono (by decide)) rfl T.g_check_number T.F_check_number.kp T.b_check_number .nil passL (pa_cons (pv 1) pa_nil)))
      (pss_one (ps_ret (pe_call (ok_made_of T) (hr.mono (by decide)) rfl T.g_made_of T.F_made_of.kp T.b_made_of .nil pass0 (pa_cons (pv 0) (pa_cons (pv 1) pa_nil))))))), ?_⟩
    refine ⟨_, rfl, _, rfl, .inl ⟨p, dx, _, rfl, e, ?_⟩⟩
    refine ⟨_, rfl, .int n, rfl, .int n, fun _ => ?_, fun z => Bool.noConfusion ((intIn_of n1 n2).symm.trans z)⟩
    exact ⟨_, rfl, _, rfl, p, b, t, m, n, rfl, a, k⟩

/-! ### the greatest size that does not get less -/
def mn2 (i j : Int) : Int := if j < i then j else i
def mx2 (i j : Int) : Int := if j > i then j else i
def ab (i : Int) : Int := if i < 0 then -i else i
def cdv (n d : Int) : Int := -(-n / d)
def gLeast (B m r : Int) : Int := mn2 (cdv ((m - 1) * r) (B - 1)) (cdv (-(m + 1) * r) (B + 1))
def gGreat (B m r : Int) : Int := mx2 ((m - 1) * r / (B - 1)) (-(m + 1) * r / (B + 1))
def gSize (B m r : Int) : Int := if gLeast B m r > gGreat B m r then 0 else mx2 (ab (gLeast B m r * B + r)) (ab (gGreat B m r * B + r))
theorem mul_le_cancel {x y c : Int} (hc : 0 < c) (h : x * c ≤ y * c) : x ≤ y := Int.le_of_mul_le_mul_right h hc
theorem cdv_le {n d q : Int} (hd : 0 < d) : cdv n d ≤ q ↔ n ≤ q * d := by
  unfold cdv
  have h : -q ≤ -n / d ↔ -q * d ≤ -n := Int.le_ediv_iff_mul_le hd
  constructor
  · intro z
    have := h.mp (by omega)
    rw [Int.neg_mul] at this
    omega
  · intro z
    have := h.mpr (by rw [Int.neg_mul]; omega)
    omega
/-- what does not get less has its quotient between the two -/
theorem not_less {B m r q : Int} (hB : 2 ≤ B) (h : ab (q * B + r) ≤ ab (q + m * r)) : gLeast B m r ≤ q ∧ q ≤ gGreat B m r := by
  have e1 : q + m * r - (q * B + r) = (m - 1) * r - q * (B - 1) := by grind
  have e2 : q + m * r + (q * B + r) = q * (B + 1) - -(m + 1) * r := by grind
  have key : (q * (B - 1) ≤ (m - 1) * r ∧ -(m + 1) * r ≤ q * (B + 1)) ∨ ((m - 1) * r ≤ q * (B - 1) ∧ q * (B + 1) ≤ -(m + 1) * r) := by
    unfold ab at h
    generalize q * B + r = u at *
    generalize q + m * r = v at *
    generalize (m - 1) * r = e at *
    generalize -(m + 1) * r = o at *
    generalize q * (B - 1) = x at *
    generalize q * (B + 1) = y at *
    split at h <;> split at h <;> omega
  have b1 : 0 < B - 1 := by omega
  have b2 : 0 < B + 1 := by omega
  unfold gLeast gGreat mn2 mx2
  rcases key with ⟨k1, k2⟩ | ⟨k1, k2⟩
  · have h1 := (Int.le_ediv_iff_mul_le b1).mpr k1
    have h2 := (cdv_le b2).mpr k2
    constructor
    · split <;> omega
    · split <;> omega
  · have h1 := (cdv_le b1).mpr k1
    have h2 := (Int.le_ediv_iff_mul_le b2).mpr k2
    constructor
    · split <;> omega
    · split <;> omega
theorem ab_between {x y z : Int} (h1 : x ≤ z) (h2 : z ≤ y) : ab z ≤ mx2 (ab x) (ab y) := by
  unfold ab mx2
  split <;> split <;> split <;> split <;> omega
theorem ab_nonneg (x : Int) : 0 ≤ ab x := by
  unfold ab
  split <;> omega
theorem gSize_nonneg (B m r : Int) : 0 ≤ gSize B m r := by
  unfold gSize mx2
  have h1 := ab_nonneg (gLeast B m r * B + r)
  have h2 := ab_nonneg (gGreat B m r * B + r)
  split
  · exact Int.le_refl 0
  · split <;> omega
/-- all greater ones get less -/
theorem gSize_more {B m r q : Int} (hB : 2 ≤ B) (h : gSize B m r < ab (q * B + r)) : ab (q + m * r) < ab (q * B + r) := by
  rcases Int.lt_or_le (ab (q + m * r)) (ab (q * B + r)) with z | z
  · exact z
  · exfalso
    obtain ⟨h1, h2⟩ := not_less hB z
    unfold gSize at h
    rw [if_neg (by omega)] at h
    have m1 : gLeast B m r * B ≤ q * B := Int.mul_le_mul_of_nonneg_right h1 (by omega)
    have m2 : q * B ≤ gGreat B m r * B := Int.mul_le_mul_of_nonneg_right h2 (by omega)
    have := ab_between (x := gLeast B m r * B + r) (y := gGreat B m r * B + r) (z := q * B + r) (by omega) (by omega)
    omega
/-- both ends do not get less -/
theorem not_less_of {B m r q : Int} (h : (q * (B - 1) ≤ (m - 1) * r ∧ -(m + 1) * r ≤ q * (B + 1)) ∨ ((m - 1) * r ≤ q * (B - 1) ∧ q * (B + 1) ≤ -(m + 1) * r)) : ab (q * B + r) ≤ ab (q + m * r) := by
  have e1 : q + m * r - (q * B + r) = (m - 1) * r - q * (B - 1) := by grind
  have e2 : q + m * r + (q * B + r) = q * (B + 1) - -(m + 1) * r := by grind
  unfold ab
  generalize q * B + r = u at *
  generalize q + m * r = v at *
  generalize (m - 1) * r = e at *
  generalize -(m + 1) * r = o at *
  generalize q * (B - 1) = x at *
  generalize q * (B + 1) = y at *
  split <;> split <;> omega
theorem ends_ok {B m r : Int} (hB : 2 ≤ B) (h : gLeast B m r ≤ gGreat B m r) : ∀ q, (q = gLeast B m r ∨ q = gGreat B m r) → ab (q * B + r) ≤ ab (q + m * r) := by
  have b1 : 0 < B - 1 := by omega
  have b2 : 0 < B + 1 := by omega
  -- floors and ceilings stand in one order
  have fl : ∀ {e o c d : Int}, 0 < c → 0 < d → e * d ≤ o * c → e / c ≤ o / d ∧ cdv e c ≤ cdv o d := fun {e o c d} hc hd z => by
    constructor
    · refine (Int.le_ediv_iff_mul_le hd).mpr (mul_le_cancel hc ?_)
      have h1 : e / c * c ≤ e := (Int.le_ediv_iff_mul_le hc).mp (Int.le_refl _)
      have h2 : e / c * c * d ≤ e * d := Int.mul_le_mul_of_nonneg_right h1 (by omega)
      have h3 : e / c * d * c = e / c * c * d := by grind
      omega
    · refine (cdv_le hc).mpr (mul_le_cancel hd ?_)
      have h1 : o ≤ cdv o d * d := (cdv_le hd).mp (Int.le_refl _)
      have h2 : o * c ≤ cdv o d * d * c := Int.mul_le_mul_of_nonneg_right h1 (by omega)
      have h3 : cdv o d * c * d = cdv o d * d * c := by grind
      omega
  have c1 : (m - 1) * r ≤ cdv ((m - 1) * r) (B - 1) * (B - 1) := (cdv_le b1).mp (Int.le_refl _)
  have c2 : -(m + 1) * r ≤ cdv (-(m + 1) * r) (B + 1) * (B + 1) := (cdv_le b2).mp (Int.le_refl _)
  have f1 : (m - 1) * r / (B - 1) * (B - 1) ≤ (m - 1) * r := (Int.le_ediv_iff_mul_le b1).mp (Int.le_refl _)
  have f2 : -(m + 1) * r / (B + 1) * (B + 1) ≤ -(m + 1) * r := (Int.le_ediv_iff_mul_le b2).mp (Int.le_refl _)
  have le_of : ∀ {x y c : Int}, 0 < c → x ≤ y → x * c ≤ y * c := fun {x y c} hc z => Int.mul_le_mul_of_nonneg_right z (by omega)
  have nl := fun q => @not_less_of B m r q
  unfold gLeast gGreat mn2 mx2 at *
  rcases Int.le_total ((m - 1) * r * (B + 1)) (-(m + 1) * r * (B - 1)) with z | z
  · obtain ⟨g1, g2⟩ := fl b1 b2 z
    generalize (m - 1) * r = e at *
    generalize -(m + 1) * r = o at *
    have hl : (if cdv o (B + 1) < cdv e (B - 1) then cdv o (B + 1) else cdv e (B - 1)) = cdv e (B - 1) := by rw [if_neg (by omega)]
    have hg : (if o / (B + 1) > e / (B - 1) then o / (B + 1) else e / (B - 1)) = o / (B + 1) := by split <;> omega
    rw [hl, hg] at h ⊢
    have l1 := le_of b1 h
    have l2 := le_of b2 h
    intro q hq
    refine nl q (.inr ?_)
    rcases hq with rfl | rfl
    · exact ⟨c1, by omega⟩
    · exact ⟨by omega, f2⟩
  · obtain ⟨g1, g2⟩ := fl b2 b1 z
    generalize (m - 1) * r = e at *
    generalize -(m + 1) * r = o at *
    have hl : (if cdv o (B + 1) < cdv e (B - 1) then cdv o (B + 1) else cdv e (B - 1)) = cdv o (B + 1) := by split <;> omega
    have hg : (if o / (B + 1) > e / (B - 1) then o / (B + 1) else e / (B - 1)) = e / (B - 1) := by rw [if_neg (by omega)]
    rw [hl, hg] at h ⊢
    have l1 := le_of b1 h
    have l2 := le_of b2 h
    intro q hq
    refine nl q (.inl ?_)
    rcases hq with rfl | rfl
    · exact ⟨by omega, c2⟩
    · exact ⟨f1, by omega⟩
/-- the greatest one does not get less -/
theorem gSize_at {B m r : Int} (hB : 2 ≤ B) (h : 0 < gSize B m r) : ∃ q, ab (q * B + r) = gSize B m r ∧ ab (q * B + r) ≤ ab (q + m * r) := by
  unfold gSize at h ⊢
  by_cases c : gLeast B m r > gGreat B m r
  · rw [if_pos c] at h
    omega
  · rw [if_neg c]
    have he := ends_ok hB (show gLeast B m r ≤ gGreat B m r by omega)
    unfold mx2
    split
    · exact ⟨_, rfl, he _ (.inr rfl)⟩
    · exact ⟨_, rfl, he _ (.inl rfl)⟩

theorem split_n (n : Int) {B : Int} (hB : 2 ≤ B) : n / B * B + n.fmod B = n ∧ 0 ≤ n.fmod B ∧ n.fmod B < B := by
  rw [Int.fmod_eq_emod_of_nonneg _ (by omega)]
  have := Int.mul_ediv_add_emod n B
  refine ⟨by rw [Int.mul_comm]; exact this, Int.emod_nonneg n (by omega), Int.emod_lt_of_pos n (by omega)⟩
theorem join_n {q r B : Int} (hB : 2 ≤ B) (r0 : 0 ≤ r) (r1 : r < B) : (q * B + r) / B = q ∧ (q * B + r).fmod B = r := by
  rw [Int.fmod_eq_emod_of_nonneg _ (by omega), Int.add_comm, Int.add_mul_ediv_right _ _ (by omega), Int.add_mul_emod_self_right, Int.ediv_eq_zero_of_lt r0 r1, Int.emod_eq_of_lt r0 r1]
  omega
structure BoundOf (b t m M : Int) : Prop where
  nn : 0 ≤ M
  more : ∀ n, M < ab n → ab (made b t m n) < ab n
  at_ : 0 < M → ∃ n, ab n = M ∧ M ≤ ab (made b t m n)
  le : M ≤ 10 ^ 6
theorem half_n (n : Int) {B : Int} (hB : 2 ≤ B) : 2 * ab (n / B) ≤ ab n + 2 := by
  obtain ⟨e, r0, r1⟩ := split_n n hB
  generalize n.fmod B = r at *
  generalize hq : n / B = q at *
  unfold ab
  split
  · -- below 0
    have h : (-q - 1) * 2 ≤ (-q - 1) * B := Int.mul_le_mul_of_nonneg_left hB (by omega)
    have h2 : (-q - 1) * B = -(q * B) - B := by grind
    split <;> omega
  · have h : q * 2 ≤ q * B := Int.mul_le_mul_of_nonneg_left hB (by omega)
    split <;> omega
theorem bound_of {b t m M : Int} (hB : 2 ≤ blockOf b t) (hB2 : blockOf b t ≤ 256) (m1 : -100 ≤ m) (m2 : m ≤ 100) (hM : M ∈ (List.range (blockOf b t).toNat).map fun r : Nat => gSize (blockOf b t) m (r : Int)) (hmax : ∀ y ∈ (List.range (blockOf b t).toNat).map fun r : Nat => gSize (blockOf b t) m (r : Int), y ≤ M) : BoundOf b t m M := by
  have at0 : 0 < M → ∃ n, ab n = M ∧ M ≤ ab (made b t m n) := fun h => by
    obtain ⟨r, hr, e⟩ := List.mem_map.mp hM
    have hr2 := List.mem_range.mp hr
    obtain ⟨q, h1, h2⟩ := gSize_at (B := blockOf b t) (m := m) (r := (r : Int)) hB (by omega)
    obtain ⟨j1, j2⟩ := join_n (q := q) (r := (r : Int)) hB (by omega) (by omega)
    refine ⟨q * blockOf b t + r, by omega, ?_⟩
    unfold made
    rw [j1, j2]
    omega
  refine ⟨?_, fun n hn => ?_, at0, ?_⟩
  · have := hmax (gSize (blockOf b t) m ((0 : Nat) : Int)) (List.mem_map.mpr ⟨0, List.mem_range.mpr (by omega), rfl⟩)
    have h2 := gSize_nonneg (blockOf b t) m ((0 : Nat) : Int)
    omega
  · obtain ⟨e, r0, r1⟩ := split_n n hB
    unfold made
    have h := hmax (gSize (blockOf b t) m (n.fmod (blockOf b t))) (List.mem_map.mpr ⟨(n.fmod (blockOf b t)).toNat, List.mem_range.mpr (by omega), by rw [Int.toNat_of_nonneg r0]⟩)
    have h2 := gSize_more (q := n / blockOf b t) (r := n.fmod (blockOf b t)) (m := m) hB (by rw [e]; omega)
    rw [e] at h2
    exact h2
  · rcases Int.lt_or_le 0 M with z | z
    · obtain ⟨n, h1, h2⟩ := at0 z
      have h3 := half_n n hB
      obtain ⟨e, r0, r1⟩ := split_n n hB
      unfold made at h2
      have h4 : m * n.fmod (blockOf b t) ≤ 100 * 256 := by
        have h5 : m * n.fmod (blockOf b t) ≤ 100 * n.fmod (blockOf b t) := Int.mul_le_mul_of_nonneg_right m2 r0
        omega
      have h5 : -(100 * 256) ≤ m * n.fmod (blockOf b t) := by
        have h6 : -100 * n.fmod (blockOf b t) ≤ m * n.fmod (blockOf b t) := Int.mul_le_mul_of_nonneg_right m1 r0
        omega
      generalize m * n.fmod (blockOf b t) = y at *
      generalize n / blockOf b t = q at *
      have h6 : ab (q + y) ≤ ab q + 25600 := by
        unfold ab
        split <;> split <;> omega
      omega
    · omega
/-! ### bound -/
def spRounded : Sp := fun vs H Q _ => ∃ n d : Int, vs = [.int n, .int d] ∧ 0 < d ∧ d ≤ 300 ∧ Q (.int (cdv n d)) H
theorem ok_rounded_up (T : Tx P K mg) : FnOk P w K mg base CX0 lv_rounded_up T.a_rounded_up T.d_rounded_up ["n", "d"] spRounded := by
  refine T.F_rounded_up.ok sc_rounded_up (fun vs H Q E h => ?_) (fun cdv' A outer s H vs Q E hr h => ?_)
  · obtain ⟨n, d, rfl, _⟩ := h
    rfl
  · obtain ⟨n, d, rfl, d0, d1, k⟩ := h
    refine ⟨_, (pss_one (ps_ret (pe_un un_neg (pe_op op_fdivW (pe_un un_neg (pv 0)) (pv 1))))), ?_⟩
    exact ⟨_, rfl, _, rfl, _, rfl, _, _, rfl, rfl, ⟨d0, Nat.lt_of_le_of_lt (Nat.log2_le_self _) (by omega)⟩, _, rfl, k⟩
def spGsize : Sp := fun vs H Q _ => ∃ B m r : Int, vs = [.int B, .int m, .int r] ∧ 2 ≤ B ∧ B ≤ 256 ∧ -100 ≤ m ∧ m ≤ 100 ∧ Q (.int (gSize B m r)) H
theorem ok_greatest_size (T : Tx P K mg) : FnOk P w K mg base CX0 lv_greatest_size T.a_greatest_size T.d_greatest_size ["block", "times", "rest"] spGsize := by
  refine T.F_greatest_size.ok sc_greatest_size (fun vs H Q E h => ?_) (fun cdv' A outer s H vs Q E hr h => ?_)
  · obtain ⟨B, m, r, rfl, _⟩ := h
    rfl
  · obtain ⟨B, m, r, rfl, B1, B2, m1, m2, k⟩ := h
    refine ⟨_, (pss_cons (ps_set (i := 3) sc_greatest_size.nd rfl (Or.inl rfl) (pe_op op_mul (pe_op op_sub (pv 1) pe_int) (pv 2)))
      (pss_cons (ps_set (i := 4) sc_greatest_size.nd rfl (Or.inl rfl) (pe_op op_mul (pe_un un_neg (pe_op op_add (pv 1) pe_int)) (pv 2)))
      (pss_cons (ps_set (i := 5) sc_greatest_size.nd rfl (Or.inl rfl) (pe_callB (call_min2 rfl) (by rfl) T.n_min (by decide +kernel) (pa_cons (pe_call (ok_rounded_up T) (hr.mono (by decide)) rfl T.g_rounded_up T.F_rounded_up.kp T.b_rounded_up .nil pass0 (pa_cons (pv 3) (pa_cons (pe_op op_sub (pv 0) pe_int) pa_nil))) (pa_cons (pe_call (ok_rounded_up T) (hr.mono (by decide)) rfl T.g_rounded_up T.F_rounded_up.kp T.b_rounded_up .nil pass0 (pa_cons (pv 4) (pa_cons (pe_op op_add (pv 0) pe_int) pa_nil))) pa_nil))))
      (pss_cons (ps_set (i := 6) sc_greatest_size.nd rfl (Or.inl rfl) (pe_callB (call_max2 rfl) (by rfl) T.n_max (by decide +kernel) (pa_cons (pe_op op_fdivW (pv 3) (pe_op op_sub (pv 0) pe_int)) (pa_cons (pe_op op_fdivW (pv 4) (pe_op op_add (pv 0) pe_int)) pa_nil))))
      (pss_cons (ps_if (pt_cmpR op_gt (pv 5) (pv 6) (nomark _)) (pss_one (ps_ret pe_int)) pss_nil)
      (pss_one (ps_ret (pe_callB (call_max2 rfl) (by rfl) T.n_max (by decide +kernel) (pa_cons (pe_callB call_abs (by rfl) T.n_abs (by decide +kernel) (pa_cons (pe_op op_add (pe_op op_mul (pv 5) (pv 0)) (pv 2)) pa_nil)) (pa_cons (pe_callB call_abs (by rfl) T.n_abs (by decide +kernel) (pa_cons (pe_op op_add (pe_op op_mul (pv 6) (pv 0)) (pv 2)) pa_nil)) pa_nil)))))))))), ?_⟩
    have w1 : CDivW 0 (B - 1) := ⟨by omega, Nat.lt_of_le_of_lt (Nat.log2_le_self _) (by omega)⟩
    have w2 : CDivW 0 (B + 1) := ⟨by omega, Nat.lt_of_le_of_lt (Nat.log2_le_self _) (by omega)⟩
    refine ⟨_, rfl, _, _, rfl, rfl, _, rfl, _, _, rfl, rfl, .inl (show -(2 ^ 64) < m - 1 ∧ m - 1 < 2 ^ 64 from ⟨by omega, by omega⟩), ?_⟩
    refine ⟨_, rfl, _, _, rfl, rfl, _, rfl, _, rfl, _, _, rfl, rfl, .inl (show -(2 ^ 64) < -(m + 1) ∧ -(m + 1) < 2 ^ 64 from ⟨by omega, by omega⟩), ?_⟩
    unfold gSize at k
    refine ⟨_, rfl, _, rfl, _, _, rfl, rfl, _, _, rfl, (show 0 < B - 1 by omega), (show B - 1 ≤ 300 by omega), _, rfl, _, rfl, _, _, rfl, rfl, _, _, rfl, (show 0 < B + 1 by omega), (show B + 1 ≤ 300 by omega), _, _, rfl, ?_⟩
    refine ⟨_, rfl, _, rfl, _, _, rfl, rfl, _, _, rfl, rfl, w1, _, rfl, _, rfl, _, _, rfl, rfl, _, _, rfl, rfl, w2, _, _, rfl, ?_⟩
    refine ⟨_, rfl, _, rfl, _, _, rfl, rfl, _, rfl, ?_⟩
    refine ite2 (fun g => ?_) (fun g => ?_)
    · rw [if_pos (show gLeast B m r > gGreat B m r from of_decide_eq_true g)] at k
      exact k
    · rw [if_neg (show ¬ gLeast B m r > gGreat B m r from fun z => g (decide_eq_true z))] at k
      exact ⟨_, rfl, _, rfl, _, _, rfl, rfl, .inr ⟨by omega, by omega⟩, _, rfl, _, _, rfl, rfl, _, rfl, _, rfl, _, rfl, _, _, rfl, rfl, .inr ⟨by omega, by omega⟩, _, rfl, _, _, rfl, rfl, _, rfl, _, _, rfl, k⟩
def spBound (T : Tx P K mg) : Sp := fun vs H Q _ => ∃ (p : Addr) (b t m : Int), vs = [.ref p] ∧ TrickAt T H p b t m ∧ ∀ M H', BoundOf b t m M → Same H H' → Q (.int M) H'
theorem ok_bound (T : Tx P K mg) : FnOk P w K mg base (L2.CX P w) lv_bound T.a_bound T.d_bound ["trick"] (spBound T) := by
  refine T.F_bound.okX sc_bound (fun vs H Q E h => ?_) (fun cdv' A outer s H vs Q E hr h => ?_)
  · obtain ⟨p, b, t, m, rfl, _⟩ := h
    rfl
  · obtain ⟨p, b, t, m, rfl, a, k⟩ := h
    obtain ⟨⟨dx, e⟩, b1, b2, t1, t2, m1, m2⟩ := id a
    obtain ⟨B1, B2⟩ := block_bd (t := t) b1 b2
    refine ⟨_, (pss_cons (ps_expr (pe_call (ok_check_trick T) (hr.mono (by decide)) rfl T.g_check_trick T.F_check_trick.kp T.b_check_trick .nil (passes_call (takes_of rfl rfl rfl rfl) fun _ _ _ _ h => h) (pa_cons (pv 0) pa_nil)))
      (pss_cons (ps_set (i := 1) sc_bound.nd rfl (Or.inr rfl) (pe_call (ok_trick_block T) (hr.mono (by decide)) rfl T.g_trick_block T.F_trick_block.kp T.b_trick_block .nil pass0 (pa_cons (pv 0) pa_nil)))
      (pss_one (ps_ret (pe_callB (cr_max rfl) (by rfl) T.n_max (by decide +kernel) (pa_cons (pe_lc (own := [("rest", 2)]) (g := gName 2) (tt := tYes) rfl sc_bound.nd (pi_range1 (by rfl) T.n_range (pa_cons (pv 1) pa_nil)) (blkOk_by (own := [("rest", 2)]) (N := ["trick", "block", "rest"]) (sc := defScope s_bound) (by decide +kernel)) (fun _ _ _ _ _ => pg_name (i := 2) sc_bound.nd rfl (Or.inl rfl)) (fun _ _ _ _ _ => pts_nil) (fun _ _ _ _ _ => (pe_call (ok_greatest_size T) (hr.mono (by decide)) rfl T.g_greatest_size T.F_greatest_size.kp T.b_greatest_size .nil pass0 (pa_cons (pv 1) (pa_cons (pe_prop (pv 0) T.cl_Trick T.p_Trick_times (ok_Trick_times T) (hr.mono (by decide)) T.b_Trick_times .nil pass0 rfl) (pa_cons (pv 2) pa_nil)))))) pa_nil)))))), ?_⟩
    refine ⟨_, rfl, _, rfl, .inl ⟨p, dx, _, rfl, e, ?_⟩⟩
    refine ⟨_, rfl, p, b, t, m, rfl, a, ?_⟩
    have bo := fun M => @bound_of b t m M B1 B2 m1 m2
    refine ⟨_, rfl, blockOf b t, rfl, by omega, by omega, fun D hD => ?_⟩
    have nDp : p ≠ D := ne_of_none e hD
    refine lc_range (lo := 0) (n := (blockOf b t).toNat) (fun i H4 => Same H H4 ∧ H4 D = some (.lst (((List.range i).map fun r : Nat => gSize (blockOf b t) m (r : Int)).map V.int))) ⟨same_upd hD, upd_same⟩ ?_ ?_
    · rintro i H4 hi ⟨S4, hL⟩
      have ei : (0 : Int) + (i : Int) = (i : Int) := Int.zero_add _
      rw [ei]
      refine ⟨rfl, _, rfl, _, rfl, p, dx, _, rfl, S4 _ _ e, p, b, t, m, rfl, a.same S4, _, rfl, blockOf b t, m, (i : Int), rfl, B1, B2, m1, m2, _, hL, by rw [List.length_map, List.length_map, List.length_range]; exact small1000 (by omega), fun c o ee => ?_, ?_⟩
      · rw [upd_ne (ne_of_none ee hD)]
        exact S4 _ _ ee
      · rw [upd_same, List.range_succ, List.map_append, List.map_append]
        rfl
    · rintro H4 ⟨S4, hL⟩
      exact ⟨D, _, rfl, SqL.of hL, by rw [List.length_map, List.length_range]; omega, fun M hM hmax => k M H4 (bo M hM hmax) S4⟩

/-! ### tuples cut and joined -/
theorem cutV_take (xs : List V) (k : Nat) : cutV xs none (some (k : Int)) = xs.take k := by
  unfold cutV
  rw [HT.sIx_none, HT.sIx_nat, List.drop_zero, Nat.sub_zero]
  rcases Nat.le_total k xs.length with h | h
  · rw [Nat.min_eq_left h]
  · rw [Nat.min_eq_right h, List.take_of_length_le (Nat.le_refl _), List.take_of_length_le h]
theorem cutV_drop (xs : List V) (k : Nat) : cutV xs (some (k : Int)) none = xs.drop k := by
  unfold cutV
  rw [HT.sIx_none, HT.sIx_nat]
  rcases Nat.le_total k xs.length with h | h
  · rw [Nat.min_eq_left h, List.take_of_length_le (by rw [List.length_drop]; exact Nat.le_refl _)]
  · rw [Nat.min_eq_right h, List.drop_of_length_le (Nat.le_refl _), List.drop_of_length_le h, List.take_nil]
/-- what is before it, then t[k + 1:] -/
theorem tail_cat {σ : L2.St} {H : Hp} {c q : Addr} {ys xs : List V} {k : Nat} {Q : VK} (h6 : σ[6]? = some (some (.ref q))) (h7 : σ[7]? = some (some (.int (k : Int)))) (hq : H q = some (.tup xs)) (hc : H c = some (.tup ys)) (ny : ys ≠ []) (sz : ys.length + xs.length ≤ 1000) (nk : xs ≠ [])
    (hQ : ∀ (w' : Addr) (H2 : Hp), Same H H2 → H2 w' = some (.tup (ys ++ xs.drop (k + 1))) → (w' = c ∨ H w' = none) → Q (.ref w') H2) :
    tSl (rSlT K) (tVar 6) (tPart (tOp (rI0 fun i j => V.int (i + j)) (tVar 7) (tC (V.int 1)))) tNoPart σ H (fun y H2 => rCatA K (.ref c) y H2 Q) := by
  have e1 : ((k : Int) + 1) = ((k + 1 : Nat) : Int) := by omega
  refine ⟨_, h6, _, h7, _, _, rfl, rfl, _, rfl, q, xs, rfl, SqT.of hq, ?_, fun p hp => ?_⟩
  · rintro ⟨z, _⟩
    rw [e1, HT.sIx_nat] at z
    have : 0 < xs.length := List.length_pos_iff.mpr nk
    omega
  · rw [e1, cutV_drop]
    have S := same_upd (o := .tup (xs.drop (k + 1))) hp
    refine ⟨c, p, ys, xs.drop (k + 1), rfl, rfl, SqT.of (S _ _ hc), SqT.of upd_same, ?_, fun e => absurd e ny, fun _ e => ?_, fun _ _ p2 hp2 => ?_⟩
    · have := List.length_drop (l := xs) (i := k + 1)
      have h2 : (1000 : Nat) ≤ sizeLine := by decide
      omega
    · refine hQ c _ S ?_ (.inl rfl)
      have e3 := S _ _ hc
      rw [e] at e3 ⊢
      rw [List.append_nil]
      exact e3
    · refine hQ p2 _ (S.trans (same_upd hp2)) upd_same (.inr ?_)
      by_cases z : p2 = p
      · rw [z]
        exact hp
      · rw [upd_ne z] at hp2
        exact hp2

/-! ### whether an int is among ints -/
theorem inV_ints (r : Int) : ∀ s : List Int, inV (.int r) (s.map V.int) = s.elem r
  | [] => rfl
  | z :: s => by
    show ((z == r) || inV (.int r) (s.map V.int)) = _
    rw [inV_ints r s, List.elem_cons]
    by_cases h : z = r
    · subst h; simp
    · have h2 : ¬ r = z := fun e => h e.symm
      rw [show (z == r) = false from by simpa using h, show (r == z) = false from by simpa using h2]
      rfl
theorem flat_ints (s : List Int) : (s.map V.int).all flatV = true := by
  rw [List.all_eq_true]
  intro v hv
  obtain ⟨z, _, rfl⟩ := List.mem_map.mp hv
  rfl

/-! ### the least number for which it fails -/
/-- None, or the number -/
def optV : Option Nat → V
  | none => .non
  | some n => .int (n : Int)
theorem find_at {f : Nat → Bool} {i k : Nat} (h : ∀ j, j < i → f j = false) (hf : f i = true) (hk : i < k) : (List.range k).find? f = some i := by
  rw [List.find?_range_eq_some]
  exact ⟨hf, List.mem_range.mpr hk, fun j hj => by rw [h j hj]; rfl⟩
theorem find_none {f : Nat → Bool} {k : Nat} (h : ∀ j, j < k → f j = false) : (List.range k).find? f = none := by
  rw [List.find?_eq_none]
  exact fun j hj => by rw [h j (List.mem_range.mp hj)]; exact Bool.false_ne_true
theorem find_succ (f : Nat → Bool) (i : Nat) : (List.range (i + 1)).find? f = ((List.range i).find? f).or (if f i = true then some i else none) := by
  rw [List.range_succ, List.find?_append]
  congr 1
  by_cases h : f i = true
  · rw [if_pos h]; simp [h]
  · rw [if_neg h]; simp [h]
theorem opt_non (o : Option Nat) : decide (optV o = .non) = o.isNone := by
  cases o <;> simp [optV]
theorem scal_opt (o u : Option Nat) : scal (optV o) (optV u) = true := by
  cases o <;> cases u <;> rfl

/-! ### done again and again: rings -/
section
variable (f : Int → Int)
def orb (n : Int) : Nat → Int
  | 0 => n
  | k + 1 => f (orb n k)
def orbL (n : Int) (k : Nat) : List Int := (List.range k).map (orb f n)
theorem orb_add (n : Int) (i : Nat) : ∀ j, orb f n (i + j) = orb f (orb f n i) j
  | 0 => rfl
  | j + 1 => by
    show f (orb f n (i + j)) = f (orb f (orb f n i) j)
    rw [orb_add n i j]
theorem orbL_len (n : Int) (k : Nat) : (orbL f n k).length = k := by
  unfold orbL
  rw [List.length_map, List.length_range]
theorem orbL_get {n : Int} {k j : Nat} (h : j < k) : (orbL f n k)[j]? = some (orb f n j) := by
  unfold orbL
  rw [List.getElem?_map, List.getElem?_range h]
  rfl
theorem orbL_succ (n : Int) (k : Nat) : orbL f n (k + 1) = orbL f n k ++ [orb f n k] := by
  unfold orbL
  rw [List.range_succ, List.map_append]
  rfl
theorem orbL_mem {n x : Int} {k : Nat} : x ∈ orbL f n k ↔ ∃ j, j < k ∧ orb f n j = x := by
  unfold orbL
  rw [List.mem_map]
  exact ⟨fun ⟨j, h, e⟩ => ⟨j, List.mem_range.mp h, e⟩, fun ⟨j, h, e⟩ => ⟨j, List.mem_range.mpr h, e⟩⟩
theorem orbL_drop (n : Int) (i k : Nat) : (orbL f n (i + k)).drop i = orbL f (orb f n i) k := by
  unfold orbL
  apply List.ext_getElem?
  intro j
  rw [List.getElem?_drop]
  rcases Nat.lt_or_ge j k with h | h
  · rw [List.getElem?_map, List.getElem?_map, List.getElem?_range (by omega), List.getElem?_range h]
    show some (orb f n (i + j)) = some (orb f (orb f n i) j)
    rw [orb_add]
  · rw [List.getElem?_eq_none (by rw [List.length_map, List.length_range]; omega), List.getElem?_eq_none (by rw [List.length_map, List.length_range]; omega)]
theorem orbL_take (n : Int) {i k : Nat} (h : i ≤ k) : (orbL f n k).take i = orbL f n i := by
  unfold orbL
  rw [← List.map_take, List.take_range, Nat.min_eq_left h]
/-- n comes again behind L rounds, and not before -/
structure Back (n : Int) (L : Nat) : Prop where
  pos : 0 < L
  back : orb f n L = n
  first : ∀ j, 0 < j → j < L → orb f n j ≠ n
theorem back_mul {n : Int} {L : Nat} (h : orb f n L = n) : ∀ q, orb f n (q * L) = n
  | 0 => by rw [Nat.zero_mul]; rfl
  | q + 1 => by rw [Nat.succ_mul, orb_add, back_mul h q, h]
theorem back_mod {n : Int} {L : Nat} (h : orb f n L = n) (j : Nat) : orb f n (j % L) = orb f n j := by
  conv => rhs; rw [← Nat.div_add_mod j L, Nat.mul_comm, orb_add, back_mul f h]
theorem Back.inj {n : Int} {L : Nat} (h : Back f n L) {i j : Nat} (hij : i < j) (hj : j < L) : orb f n i ≠ orb f n j := by
  intro e
  have e2 : orb f n (i + (L - j)) = n := by
    rw [orb_add, e, ← orb_add, show j + (L - j) = L by omega, h.back]
  exact h.first (i + (L - j)) (by omega) (by omega) e2
theorem Back.on {n : Int} {L : Nat} (h : Back f n L) (s : Nat) : Back f (orb f n s) L := by
  refine ⟨h.pos, ?_, fun j h1 h2 e => ?_⟩
  · rw [← orb_add, Nat.add_comm, orb_add, h.back]
  · rw [← orb_add, ← back_mod f h.back (s + j), ← back_mod f h.back s] at e
    have l1 := Nat.mod_lt s h.pos
    have l2 := Nat.mod_lt (s + j) h.pos
    rcases Nat.lt_trichotomy ((s + j) % L) (s % L) with z | z | z
    · exact h.inj f z l1 e
    · have d1 := Nat.div_add_mod (s + j) L
      have d2 := Nat.div_add_mod s L
      rw [z] at d1
      have : L * ((s + j) / L) = L * (s / L) + j := by omega
      rcases Nat.lt_or_ge ((s + j) / L) (s / L + 1) with y | y
      · have := Nat.mul_le_mul_left L (show (s + j) / L ≤ s / L by omega)
        omega
      · have := Nat.mul_le_mul_left L y
        rw [Nat.mul_succ] at this
        omega
    · exact h.inj f z l2 e.symm
theorem Back.uniq {n : Int} {L M : Nat} (h : Back f n L) (g : Back f n M) : L = M := by
  rcases Nat.lt_trichotomy L M with z | z | z
  · exact absurd h.back (g.first L h.pos z)
  · exact z
  · exact absurd g.back (h.first M g.pos z)
theorem Back.rot {n : Int} {L : Nat} (h : Back f n L) {s : Nat} (hs : s ≤ L) : (orbL f n L).drop s ++ (orbL f n L).take s = orbL f (orb f n s) L := by
  obtain ⟨e, rfl⟩ : ∃ e, L = s + e := ⟨L - s, by omega⟩
  rw [orbL_drop, orbL_take f n hs]
  have : orbL f (orb f n s) (s + e) = orbL f (orb f n s) e ++ (orbL f (orb f n s) (e + s)).drop e := by
    rw [Nat.add_comm s e]
    conv => lhs; rw [← List.take_append_drop e (orbL f (orb f n s) (e + s)), orbL_take f _ (Nat.le_add_right e s)]
  rw [this, orbL_drop, ← orb_add, h.back]
/-- a ring, the least one first -/
def IsRing (r : List Int) : Prop := ∃ x L, Back f x L ∧ (∀ j, x ≤ orb f x j) ∧ r = orbL f x L
/-- where the way from n ends: first all p are new (none of S), then comes one of S, or the i-th again -/
structure Way (S : Int → Prop) (n : Int) (p : Nat) : Prop where
  out : ∀ j, j < p → ¬ S (orb f n j)
  inj : ∀ i j, i < j → j < p → orb f n i ≠ orb f n j
def Way.Ends (S : Int → Prop) (n : Int) (p : Nat) : Prop := S (orb f n p) ∨ ∃ i, i < p ∧ orb f n i = orb f n p
theorem Way.nodup {S : Int → Prop} {n : Int} {p : Nat} (h : Way f S n p) : (orbL f n p).Nodup := by
  unfold orbL
  show List.Pairwise (· ≠ ·) _
  rw [List.pairwise_map]
  refine List.Pairwise.imp_of_mem (fun {a b} ha hb h2 => ?_) (List.pairwise_lt_range (n := p))
  exact h.inj a b h2 (List.mem_range.mp hb)
theorem way_uniq {S : Int → Prop} {n : Int} {p q : Nat} (h : Way f S n p) (e : Way.Ends f S n p) (g : Way f S n q) (k : Way.Ends f S n q) : p = q := by
  have lt : ∀ {p q : Nat}, Way.Ends f S n p → Way f S n q → ¬ p < q := fun {p q} e g z => by
    rcases e with e | ⟨i, hi, e⟩
    · exact g.out p z e
    · exact g.inj i p hi z e
  have a := lt e g
  have b := lt k h
  omega
theorem Way.back {S : Int → Prop} {n : Int} {p i : Nat} (h : Way f S n p) (hi : i < p) (e : orb f n i = orb f n p) : Back f (orb f n i) (p - i) := by
  refine ⟨by omega, ?_, fun j h1 h2 z => ?_⟩
  · rw [← orb_add, show i + (p - i) = p by omega, e]
  · rw [← orb_add] at z
    exact h.inj i (i + j) (by omega) (by omega) z.symm
/-- the path from a number of a ring -/
theorem Back.way {n : Int} {L : Nat} (h : Back f n L) : Way f (fun _ => False) n L ∧ Way.Ends f (fun _ => False) n L :=
  ⟨⟨fun _ _ z => z, fun i j a b => h.inj f a b⟩, .inr ⟨0, h.pos, by rw [h.back]; rfl⟩⟩
end

/-! ### how far it goes until all comes again -/
theorem ab_add (x y : Int) : ab (x + y) ≤ ab x + ab y := by
  unfold ab
  split <;> split <;> split <;> omega
theorem ab_mul {m r c d : Int} (m1 : -c ≤ m) (m2 : m ≤ c) (r0 : 0 ≤ r) (r1 : r ≤ d) : ab (m * r) ≤ c * d := by
  have h1 := Int.mul_le_mul_of_nonneg_right m2 r0
  have h2 := Int.mul_le_mul_of_nonneg_right m1 r0
  have h3 := Int.mul_le_mul_of_nonneg_left r1 (show 0 ≤ c by omega)
  rw [Int.neg_mul] at h2
  unfold ab
  split <;> omega
theorem made_half {b t m n : Int} (hB : 2 ≤ blockOf b t) (hB2 : blockOf b t ≤ 256) (m1 : -100 ≤ m) (m2 : m ≤ 100) : 2 * ab (made b t m n) ≤ ab n + 51002 := by
  obtain ⟨e, r0, r1⟩ := split_n n hB
  have h1 := half_n n hB
  have h2 := ab_add (n / blockOf b t) (m * n.fmod (blockOf b t))
  have h3 := ab_mul m1 m2 r0 (show n.fmod (blockOf b t) ≤ 255 by omega)
  unfold made
  omega
theorem orb_half {b t m : Int} (hB : 2 ≤ blockOf b t) (hB2 : blockOf b t ≤ 256) (m1 : -100 ≤ m) (m2 : m ≤ 100) (n : Int) : ∀ k : Nat, 2 ^ k * ab (orb (made b t m) n k) ≤ ab n + 51002 * 2 ^ k
  | 0 => by
    rw [Int.pow_zero]
    show 1 * ab n ≤ ab n + 51002 * 1
    omega
  | k + 1 => by
    have ih := orb_half hB hB2 m1 m2 n k
    have h := made_half hB hB2 m1 m2 (n := orb (made b t m) n k)
    have p : (0 : Int) < 2 ^ k := Int.pow_pos (by decide)
    have h2 := Int.mul_le_mul_of_nonneg_left h (Int.le_of_lt p)
    rw [Int.mul_add] at h2
    show 2 ^ (k + 1) * ab (made b t m (orb (made b t m) n k)) ≤ ab n + 51002 * 2 ^ (k + 1)
    rw [Int.pow_succ, Int.mul_assoc]
    generalize ab (made b t m (orb (made b t m) n k)) = y at *
    generalize (2 : Int) ^ k = w at *
    have : w * 51002 = 51002 * w := Int.mul_comm _ _
    omega
theorem orb_near {b t m : Int} (hB : 2 ≤ blockOf b t) (hB2 : blockOf b t ≤ 256) (m1 : -100 ≤ m) (m2 : m ≤ 100) {n : Int} (hn : ab n ≤ 10 ^ 40) {k : Nat} (hk : 133 ≤ k) : ab (orb (made b t m) n k) ≤ 51204 := by
  have h := orb_half hB hB2 m1 m2 n k
  obtain ⟨e, rfl⟩ : ∃ e, k = 133 + e := ⟨k - 133, by omega⟩
  have p : (1 : Int) ≤ 2 ^ e := Int.pow_pos (by decide)
  have p2 : (2 : Int) ^ (133 + e) = 2 ^ 133 * 2 ^ e := Int.pow_add _ _ _
  have big : (10 : Int) ^ 40 ≤ 2 ^ 133 := by decide
  have p3 : (2 : Int) ^ 133 ≤ 2 ^ (133 + e) := by
    rw [p2]
    have := Int.mul_le_mul_of_nonneg_left p (show (0 : Int) ≤ 2 ^ 133 by decide)
    omega
  generalize (2 : Int) ^ (133 + e) = w at *
  rcases Int.lt_or_le 51204 (ab (orb (made b t m) n (133 + e))) with z | z
  · have := Int.mul_le_mul_of_nonneg_left (show 51205 ≤ ab (orb (made b t m) n (133 + e)) by omega) (show 0 ≤ w by omega)
    omega
  · exact z
def boxC (C : Nat) : List Int := (List.range (2 * C + 1)).map fun (i : Nat) => (i : Int) - (C : Int)
theorem mem_boxC {C : Nat} {x : Int} (h : ab x ≤ C) : x ∈ boxC C := by
  have : -(C : Int) ≤ x ∧ x ≤ C := by
    unfold ab at h
    split at h <;> omega
  exact List.mem_map.mpr ⟨(x + C).toNat, List.mem_range.mpr (by omega), by omega⟩
theorem boxC_len (C : Nat) : (boxC C).length = 2 * C + 1 := by
  unfold boxC
  rw [List.length_map, List.length_range]
theorem way_len {b t m : Int} (hB : 2 ≤ blockOf b t) (hB2 : blockOf b t ≤ 256) (m1 : -100 ≤ m) (m2 : m ≤ 100) {n : Int} (hn : ab n ≤ 10 ^ 40) {S : Int → Prop} {p : Nat} (h : Way (made b t m) S n p) : p ≤ 102600 := by
  rcases Nat.lt_or_ge p 133 with z | z
  · omega
  · obtain ⟨e, rfl⟩ : ∃ e, p = 133 + e := ⟨p - 133, by omega⟩
    have nd : (orbL (made b t m) (orb (made b t m) n 133) e).Nodup := by
      rw [← orbL_drop]
      exact h.nodup.sublist (List.drop_sublist _ _)
    have := pigL (boxC 51204) _ nd fun x hx => by
      obtain ⟨j, hj, rfl⟩ := (orbL_mem _).mp hx
      rw [← orb_add]
      exact mem_boxC (orb_near hB hB2 m1 m2 hn (by omega))
    rw [orbL_len, boxC_len] at this
    omega

/-! ### the path until something comes again -/
def entK (z : Int) : Key × V := (Sum.inl z, .bl true)
theorem entK_get (n : Int) : ∀ S : List Int, (valV (S.map entK) (Sum.inl n)).isSome = decide (n ∈ S)
  | [] => rfl
  | x :: S => by
    have ih := entK_get n S
    unfold valV at ih ⊢
    rw [List.map_cons, List.find?_cons]
    by_cases e : x = n
    · subst e
      rw [show decide ((entK x).1 = (Sum.inl x : Key)) = true from decide_eq_true rfl, decide_eq_true List.mem_cons_self]
      rfl
    · rw [show decide ((entK x).1 = (Sum.inl n : Key)) = false from decide_eq_false fun z => e (by injection z)]
      show _ = decide (n ∈ x :: S)
      rw [ih, decide_eq_decide]
      simp only [List.mem_cons]
      exact ⟨.inr, fun z => z.elim (fun q => absurd q.symm e) id⟩
theorem entK_none {n : Int} {S : List Int} (h : ¬ n ∈ S) : valV (S.map entK) (Sum.inl n) = none := by
  have := entK_get n S
  rw [decide_eq_false h] at this
  exact Option.not_isSome_iff_eq_none.mp (by rw [this]; exact Bool.false_ne_true)
theorem m_dnot {i j : Nat} : TTMono (tB (tDNotIn (tVar i) (tVar j))) := fun σ H Q Q2 h z => by
  obtain ⟨v, e, w, e2, a, o, e3, g, q⟩ := z
  obtain ⟨b, e4, q⟩ := q
  exact ⟨v, e, w, e2, a, o, e3, g, b, e4, h _ _ q⟩
def spPath (T : Tx P K mg) : Sp := fun vs H Q _ => ∃ (p s : Addr) (b t m n : Int) (S : List Int), vs = [.ref p, .int n, .ref s] ∧ TrickAt T H p b t m ∧ ab n ≤ 10 ^ 40 ∧ H s = some (.dK (S.map entK)) ∧ S.length ≤ 1000000 ∧
  ∀ (k : Nat) (P : Addr) (H' : Hp), Way (made b t m) (· ∈ S) n k → Way.Ends (made b t m) (· ∈ S) n k → k ≤ 102600 → H P = none → H' P = some (.lst ((orbL (made b t m) n k).map V.int)) → H' s = some (.dK ((S ++ orbL (made b t m) n k).map entK)) → (∀ c o, H c = some o → c ≠ s → H' c = some o) → Q (.ref P) H'
theorem ok_unseen_path (T : Tx P K mg) : FnOk P w K mg base CX0 lv_unseen_path T.a_unseen_path T.d_unseen_path ["trick", "n", "seen"] (spPath T) := by
  refine T.F_unseen_path.ok sc_unseen_path (fun vs H Q E h => ?_) (fun cdv A outer s H vs Q E hr h => ?_)
  · obtain ⟨p, s, b, t, m, n, S, rfl, _⟩ := h
    rfl
  · obtain ⟨p, ds, b, t, m, n, S, rfl, a, hn, hs, hS, k⟩ := h
    obtain ⟨⟨dx, e⟩, b1, b2, t1, t2, m1, m2⟩ := id a
    obtain ⟨B1, B2⟩ := block_bd (t := t) b1 b2
    refine ⟨_, (pss_cons (ps_set (i := 3) sc_unseen_path.nd rfl (Or.inl rfl) (pe_lst pa_nil))
      (pss_cons (ps_while PassesOwn.never (pt_cmp (pc_dnotin (hu_of hr) (pv 1) (pv 2))) (pss_cons (ps_dput (hu_of hr) (pv 2) (pv 1) pe_bl rfl)
      (pss_cons (ps_expr (pe_bm PySem.F.plainAttrs_list PySem.F.slot_list_append PySem.F.type_list_append mt_append (pv 3) (pa_cons (pv 1) pa_nil)))
      (pss_one (ps_set (i := 1) sc_unseen_path.nd rfl (Or.inl rfl) (pe_call (ok_made_of T) (hr.mono (by decide)) rfl T.g_made_of T.F_made_of.kp T.b_made_of .nil pass0 (pa_cons (pv 0) (pa_cons (pv 1) pa_nil))))))))
      (pss_one (ps_ret (pv 3))))), ?_⟩
    refine ⟨by show 0 ≤ sizeLine; decide, fun L hL => ?_⟩
    generalize hf : made b t m = f at *
    refine while_by (fun σ H2 => ∃ j : Nat, Way f (· ∈ S) n j ∧ H2 L = some (.lst ((orbL f n j).map V.int)) ∧ H2 ds = some (.dK ((S ++ orbL f n j).map entK)) ∧ (∀ c o, H c = some o → c ≠ ds → H2 c = some o) ∧ σ = [some (.ref p), some (.int (orb f n j)), some (.ref ds), some (.ref L)])
      (fun σ H2 => match H2 L with | some (.lst xs) => 200000 - xs.length | _ => 0) ?_ ?_ ?_
    · exact ⟨0, ⟨fun j hj => absurd hj (Nat.not_lt_zero _), fun i j _ hj => absurd hj (Nat.not_lt_zero _)⟩, upd_same, by rw [upd_ne (ne_of_none hs hL)]; exact hs.trans (by rw [show orbL f n 0 = [] from rfl, List.append_nil]), fun c o g _ => same_upd hL _ _ g, rfl⟩
    · rintro σ H2 ⟨j, hw, hL2, hs2, S2, rfl⟩
      have jl : j ≤ 102600 := way_len B1 B2 m1 m2 hn (hf ▸ hw)
      have pd : p ≠ ds := ne_of e hs (by intro z; cases z)
      have Ld : L ≠ ds := (ne_of_none hs hL).symm
      have ol := orbL_len f n j
      refine ⟨_, rfl, _, rfl, ds, _, rfl, DGet.k (k := Sum.inl (orb f n j)) hs2, _, rfl, ?_⟩
      rw [entK_get]
      by_cases mem : orb f n j ∈ S ++ orbL f n j
      · rw [decide_eq_true mem]
        refine iteF ⟨_, rfl, k j L H2 hw ?_ jl hL hL2 hs2 S2⟩
        rcases List.mem_append.mp mem with q | q
        · exact .inl q
        · obtain ⟨i, hi, ei⟩ := (orbL_mem f).mp q
          exact .inr ⟨i, hi, ei⟩
      · rw [decide_eq_false mem]
        have nS : ¬ orb f n j ∈ S := fun q => mem (List.mem_append_left _ q)
        have nL : ∀ i, i < j → orb f n i ≠ orb f n j := fun i hi q => mem (List.mem_append_right _ ((orbL_mem f).mpr ⟨i, hi, q⟩))
        have hL3 : (upd H2 ds (.dK (putK ((S ++ orbL f n j).map entK) (Sum.inl (orb f n j)) (.bl true)))) L = some (.lst ((orbL f n j).map V.int)) := by
          rw [upd_ne Ld]
          exact hL2
        refine iteT ⟨_, rfl, _, rfl, ds, _, rfl, DPut.k (k := Sum.inl (orb f n j)) hs2 (by rw [List.length_map, List.length_append, ol]; unfold sizeLine; omega), ?_⟩
        refine ⟨_, rfl, .inl ⟨rfl, _, SqL.of hL3⟩, _, rfl, L, _, _, rfl, rfl, hL3, by rw [List.length_map, ol]; unfold sizeLine; omega, ?_⟩
        have hp4 : ∀ fl2, H p = some (.ins T.C_Trick dx fl2) → (upd (upd H2 ds (.dK (putK ((S ++ orbL f n j).map entK) (Sum.inl (orb f n j)) (.bl true)))) L (.lst ((orbL f n j).map V.int ++ [.int (orb f n j)]))) p = some (.ins T.C_Trick dx fl2) := fun fl2 e => by
          rw [upd_ne (ne_of_none e hL), upd_ne pd]
          exact S2 _ _ e pd
        refine ⟨_, rfl, _, rfl, p, b, t, m, _, rfl, ⟨⟨dx, hp4 _ e⟩, b1, b2, t1, t2, m1, m2⟩, ?_⟩
        rw [hf]
        refine ⟨⟨j + 1, ⟨fun i hi => ?_, fun i i2 h1 h2 => ?_⟩, ?_, ?_, fun c o g n2 => ?_, rfl⟩, ?_⟩
        · rcases Nat.lt_or_ge i j with z | z
          · exact hw.out i z
          · rw [show i = j by omega]
            exact nS
        · rcases Nat.lt_or_ge i2 j with z | z
          · exact hw.inj i i2 h1 z
          · rw [show i2 = j by omega]
            exact nL i (by omega)
        · rw [upd_same, orbL_succ, List.map_append]
          rfl
        · rw [upd_ne Ld.symm, upd_same, putK_new _ (entK_none mem), orbL_succ, ← List.append_assoc, List.map_append (l₂ := [orb f n j])]
          rfl
        · rw [upd_ne (ne_of_none g hL), upd_ne n2]
          exact S2 _ _ g n2
        · rw [hL2, upd_same]
          show 200000 - ((orbL f n j).map V.int ++ [V.int (orb f n j)]).length < 200000 - ((orbL f n j).map V.int).length
          rw [List.length_append, List.length_map, ol, List.length_singleton]
          omega
    · exact m_dnot

/-! ### the ring at the end of a path -/
def spRingEnd (T : Tx P K mg) : Sp := fun vs H Q _ => ∃ (p L : Addr) (b t m n : Int) (k i : Nat), vs = [.ref p, .ref L] ∧ TrickAt T H p b t m ∧ H L = some (.lst ((orbL (made b t m) n k).map V.int)) ∧ k ≤ 200000 ∧ i < k ∧ orb (made b t m) n i = orb (made b t m) n k ∧ (∀ i j, i < j → j < k → orb (made b t m) n i ≠ orb (made b t m) n j) ∧
  ∀ (r : List Int) (s : Nat) (q : Addr) (H' : Hp), IsRing (made b t m) r → r = orbL (made b t m) (orb (made b t m) n (i + s)) (k - i) → Same H H' → H q = none → H' q = some (.tup (r.map V.int)) → Q (.ref q) H'
theorem ok_ring_at_end (T : Tx P K mg) : FnOk P w K mg base CX0 lv_ring_at_end T.a_ring_at_end T.d_ring_at_end ["trick", "path"] (spRingEnd T) := by
  refine T.F_ring_at_end.ok sc_ring_at_end (fun vs H Q E h => ?_) (fun cdv A outer s H vs Q E hr h => ?_)
  · obtain ⟨p, L, b, t, m, n, k, i, rfl, _⟩ := h
    rfl
  · obtain ⟨p, L, b, t, m, n, k, i, rfl, a, hL, k2, hi, ei, inj, kk⟩ := h
    obtain ⟨⟨dx, e⟩, b1, b2, t1, t2, m1, m2⟩ := id a
    refine ⟨_, (pss_cons (ps_set (i := 2) sc_ring_at_end.nd rfl (Or.inl rfl) (pe_slice sl_list (pv 1) (po_some (pe_bm PySem.F.plainAttrs_list PySem.F.slot_list_index PySem.F.type_list_index mt_index (pv 1) (pa_cons (pe_call (ok_made_of T) (hr.mono (by decide)) rfl T.g_made_of T.F_made_of.kp T.b_made_of .nil pass0 (pa_cons (pv 0) (pa_cons (pe_ix ix_list (pv 1) (pe_un un_neg pe_int) (fun _ _ => rfl)) pa_nil))) pa_nil))) po_none))
      (pss_cons (ps_set (i := 3) sc_ring_at_end.nd rfl (Or.inl rfl) (pe_bm PySem.F.plainAttrs_list PySem.F.slot_list_index PySem.F.type_list_index mt_index (pv 2) (pa_cons (pe_callB (cr_min rfl) (by rfl) T.n_min (by decide +kernel) (pa_cons (pv 2) pa_nil)) pa_nil)))
      (pss_one (ps_ret (pe_callTy call_tuple_of (by rfl) T.n_tuple (by decide +kernel) (pa_cons (pe_op op_cat (pe_slice sl_list (pv 2) (po_some (pv 3)) po_none) (pe_slice sl_list (pv 2) po_none (po_some (pv 3)))) pa_nil)))))), ?_⟩
    obtain ⟨k', rfl⟩ : ∃ k', k = k' + 1 := ⟨k - 1, by omega⟩
    generalize hf : made b t m = f at *
    have hback : Back f (orb f n i) (k' + 1 - i) := Way.back f (S := fun _ => False) ⟨fun _ _ z => z, inj⟩ hi ei
    have hlast : atI ((orbL f n (k' + 1)).map V.int) (-1) = some (V.int (orb f n k')) := by
      rw [orbL_succ, List.map_append]
      exact atI_last _ _
    refine ⟨_, rfl, _, rfl, .inl ⟨rfl, _, SqL.of hL⟩, _, rfl, _, rfl, _, rfl, L, _, _, _, rfl, rfl, SqL.of hL, hlast, p, b, t, m, _, rfl, a, ?_⟩
    rw [hf, show f (orb f n k') = orb f n i from ei.symm]
    refine ⟨L, _, .int (orb f n i), i, .int (orb f n i), rfl, rfl, SqL.of hL, rfl, flat_ints _, by rw [List.getElem?_map, orbL_get f hi]; rfl, by simp [eqV], fun j z hj hz => ?_, _, rfl, L, _, rfl, SqL.of hL, fun x hx => ?_⟩
    · rw [List.getElem?_map, orbL_get f (by omega)] at hz
      cases hz
      simpa [eqV] using inj j i hj hi
    rw [cutV_drop, ← List.map_drop, show k' + 1 = i + (k' + 1 - i) by omega, orbL_drop]
    generalize hy : orb f n i = y at *
    generalize hl : k' + 1 - i = l at *
    have hX : (upd H x (.lst ((orbL f y l).map V.int))) x = some (.lst ((orbL f y l).map V.int)) := upd_same
    have SX := same_upd (o := .lst ((orbL f y l).map V.int)) hx
    generalize upd H x (HO.lst ((orbL f y l).map V.int)) = H2 at hX SX ⊢
    refine ⟨_, rfl, .inl ⟨rfl, _, SqL.of hX⟩, _, rfl, x, _, rfl, SqL.of hX, by rw [orbL_len]; exact hback.pos, fun mn hmn hle => ?_⟩
    obtain ⟨s, hs, es⟩ := (orbL_mem f).mp hmn
    refine ⟨x, _, .int mn, s, .int mn, rfl, rfl, SqL.of hX, rfl, flat_ints _, by rw [List.getElem?_map, orbL_get f hs, es]; rfl, by simp [eqV], fun j z hj hz => ?_, ?_⟩
    · rw [List.getElem?_map, orbL_get f (by omega)] at hz
      cases hz
      rw [← es]
      simpa [eqV] using hback.inj f hj hs
    refine ⟨_, rfl, _, rfl, _, rfl, x, _, rfl, SqL.of hX, fun q1 hq1 => ?_⟩
    rw [cutV_drop, ← List.map_drop]
    have S1 := same_upd (o := .lst (((orbL f y l).drop s).map V.int)) hq1
    have hX1 := S1 _ _ hX
    refine ⟨_, rfl, _, rfl, _, rfl, x, _, rfl, SqL.of hX1, fun q2 hq2 => ?_⟩
    rw [cutV_take, ← List.map_take]
    have S2 := same_upd (o := .lst (((orbL f y l).take s).map V.int)) hq2
    refine ⟨q1, q2, _, _, rfl, rfl, S2 _ _ upd_same, upd_same, ?_, fun q3 hq3 => ?_⟩
    · rw [List.length_map, List.length_map, List.length_drop, List.length_take, orbL_len]
      unfold sizeLine
      omega
    rw [← List.map_append, hback.rot f (Nat.le_of_lt hs)]
    refine ⟨q3, _, rfl, .inl ⟨SqL.of upd_same, fun q4 hq4 => ?_⟩⟩
    have ey : orb f y s = orb f n (i + s) := by rw [orb_add, hy]
    have S3 := same_upd (o := .lst ((orbL f (orb f y s) l).map V.int)) hq3
    have S4 := same_upd (o := .tup ((orbL f (orb f y s) l).map V.int)) hq4
    have SA := (SX.trans (S1.trans (S2.trans (S3.trans S4))))
    refine kk (orbL f (orb f y s) l) s q4 _ ⟨orb f y s, l, hback.on f s, fun j => ?_, rfl⟩ (by rw [ey]) SA ?_ upd_same
    · rw [es]
      refine hle _ ((orbL_mem f).mpr ⟨(s + j) % l, Nat.mod_lt _ hback.pos, ?_⟩)
      rw [back_mod f hback.back, orb_add, es]
    · cases z : H q4 with
      | none => rfl
      | some o => rw [SX _ _ z |> S1 _ _ |> S2 _ _ |> S3 _ _] at hq4; cases hq4

/-! ### where a number comes to -/
/-- the way of n: k rounds until the i-th comes again -/
structure Comes (f : Int → Int) (n : Int) (k i : Nat) : Prop where
  lt : i < k
  back : orb f n i = orb f n k
  inj : ∀ i j, i < j → j < k → orb f n i ≠ orb f n j
theorem Comes.of {f : Int → Int} {n : Int} {k : Nat} (h : Way f (· ∈ ([] : List Int)) n k) (e : Way.Ends f (· ∈ ([] : List Int)) n k) : ∃ i, Comes f n k i := by
  rcases e with z | ⟨i, hi, e⟩
  · exact nomatch z
  · exact ⟨i, hi, e, h.inj⟩
theorem Comes.way {f : Int → Int} {n : Int} {k i : Nat} (h : Comes f n k i) : Way f (fun _ => False) n k := ⟨fun _ _ z => z, h.inj⟩
theorem Comes.ring {f : Int → Int} {n : Int} {k i : Nat} (h : Comes f n k i) : Back f (orb f n i) (k - i) := h.way.back f h.lt h.back
theorem Comes.uniq {f : Int → Int} {n : Int} {k i k2 i2 : Nat} (h : Comes f n k i) (g : Comes f n k2 i2) : k = k2 ∧ i = i2 := by
  have e : k = k2 := way_uniq f h.way (.inr ⟨i, h.lt, h.back⟩) g.way (.inr ⟨i2, g.lt, g.back⟩)
  subst e
  refine ⟨rfl, ?_⟩
  rcases Nat.lt_trichotomy i i2 with z | z | z
  · exact absurd (h.back.trans g.back.symm) (h.inj i i2 z g.lt)
  · exact z
  · exact absurd (g.back.trans h.back.symm) (h.inj i2 i z h.lt)
theorem Comes.len {b t m : Int} (hB : 2 ≤ blockOf b t) (hB2 : blockOf b t ≤ 256) (m1 : -100 ≤ m) (m2 : m ≤ 100) {n : Int} (hn : ab n ≤ 10 ^ 40) {k i : Nat} (h : Comes (made b t m) n k i) : k ≤ 102600 := way_len hB hB2 m1 m2 hn h.way
/-- r is the ring in which n ends -/
def RingOf (f : Int → Int) (n : Int) (k i : Nat) (r : List Int) : Prop := IsRing f r ∧ ∃ s, r = orbL f (orb f n (i + s)) (k - i)
theorem ring_head {f : Int → Int} {x y : Int} {L M : Nat} (h : Back f x L) (g : Back f y M) (lx : ∀ j, x ≤ orb f x j) (ly : ∀ j, y ≤ orb f y j) (on : ∃ s, orb f x s = y) : orbL f x L = orbL f y M := by
  obtain ⟨s, rfl⟩ := on
  have g2 := h.on f s
  have e := Back.uniq f g2 g
  subst e
  obtain ⟨u, hu⟩ : ∃ u, orb f (orb f x s) u = x := by
    refine ⟨L - s % L, ?_⟩
    rw [← back_mod f h.back s, ← orb_add, show s % L + (L - s % L) = L by have := Nat.mod_lt s h.pos; omega, h.back]
  have a := ly u
  rw [hu] at a
  have c := lx s
  have e2 : orb f x s = x := by omega
  rw [e2]
theorem RingOf.uniq {f : Int → Int} {n : Int} {k i : Nat} (hc : Comes f n k i) {r r2 : List Int} (h : RingOf f n k i r) (g : RingOf f n k i r2) : r = r2 := by
  obtain ⟨⟨x, L, bx, lx, rfl⟩, s, e⟩ := h
  obtain ⟨⟨y, M, by_, ly, rfl⟩, s2, e2⟩ := g
  have l1 := congrArg List.length e
  have l2 := congrArg List.length e2
  rw [orbL_len, orbL_len] at l1 l2
  have p := hc.lt
  have x0 : x = orb f n (i + s) := by
    have := congrArg (fun l => l[0]?) e
    rw [orbL_get f bx.pos, orbL_get f (by omega)] at this
    exact Option.some.inj this
  have y0 : y = orb f n (i + s2) := by
    have := congrArg (fun l => l[0]?) e2
    rw [orbL_get f by_.pos, orbL_get f (by omega)] at this
    exact Option.some.inj this
  refine ring_head bx by_ lx ly ?_
  have rb := hc.ring
  rw [x0, y0]
  refine ⟨(k - i) * s + s2 - s, ?_⟩
  have hs : s ≤ (k - i) * s := Nat.le_mul_of_pos_left s (by omega)
  rw [← orb_add, show i + s + ((k - i) * s + s2 - s) = i + ((k - i) * s + s2) by omega, orb_add, orb_add f n i s2]
  rw [orb_add, Nat.mul_comm, back_mul f rb.back]
/-- of a number of a ring -/
theorem ring_self {f : Int → Int} {r : List Int} (h : IsRing f r) {x : Int} (hx : x ∈ r) : Comes f x r.length 0 ∧ RingOf f x r.length 0 r := by
  obtain ⟨y, L, b, l, rfl⟩ := h
  obtain ⟨j, hj, rfl⟩ := (orbL_mem f).mp hx
  have bj := b.on f j
  rw [orbL_len]
  refine ⟨⟨b.pos, bj.back.symm, fun a c h1 h2 => bj.inj f h1 h2⟩, ⟨y, L, b, l, rfl⟩, L - j, ?_⟩
  rw [Nat.zero_add, Nat.sub_zero, ← orb_add, show j + (L - j) = L by omega, b.back]
theorem IsRing.ne {f : Int → Int} {r : List Int} (h : IsRing f r) : r ≠ [] := by
  obtain ⟨y, L, b, l, rfl⟩ := h
  intro z
  have := congrArg List.length z
  rw [orbL_len] at this
  have := b.pos
  simp at *
  omega

/-! ### the ring of a number, and the rounds ahead of it -/
def spRingOf (T : Tx P K mg) : Sp := fun vs H Q _ => ∃ (p : Addr) (b t m n : Int), vs = [.ref p, .int n] ∧ TrickAt T H p b t m ∧ -(10 ^ 40) ≤ n ∧ n ≤ 10 ^ 40 ∧
  ∀ (k i : Nat) (r : List Int) (q q2 : Addr) (H' : Hp), Comes (made b t m) n k i → RingOf (made b t m) n k i r → Same H H' → H' q = some (.tup [.int (i : Int), .ref q2]) → H' q2 = some (.tup (r.map V.int)) → Q (.ref q) H'
theorem ok_ring_of (T : Tx P K mg) : FnOk P w K mg base (L2.CX P w) lv_ring_of T.a_ring_of T.d_ring_of ["trick", "n"] (spRingOf T) := by
  refine T.F_ring_of.okX sc_ring_of (fun vs H Q E h => ?_) (fun cdv A outer s H vs Q E hr h => ?_)
  · obtain ⟨p, b, t, m, n, rfl, _⟩ := h
    rfl
  · obtain ⟨p, b, t, m, n, rfl, a, n1, n2, kk⟩ := h
    obtain ⟨⟨dx, e⟩, b1, b2, t1, t2, m1, m2⟩ := id a
    have an : ab n ≤ 10 ^ 40 := by
      unfold ab
      split <;> omega
    refine ⟨_, (pss_cons (ps_expr (pe_call (ok_check_trick T) (hr.mono (by decide)) rfl T.g_check_trick T.F_check_trick.kp T.b_check_trick .nil (passes_call (takes_of rfl rfl rfl rfl) fun _ _ _ _ h => h) (pa_cons (pv 0) pa_nil)))
      (pss_cons (ps_expr (pe_call (ok_check_number T) (hr.mono (by decide)) rfl T.g_check_number T.F_check_number.kp T.b_check_number .nil (passes_call (takes_of rfl rfl rfl rfl) fun _ _ _ _ h => h) (pa_cons (pv 1) pa_nil)))
      (pss_cons (ps_set (i := 2) sc_ring_of.nd rfl (Or.inl rfl) (pe_call (ok_unseen_path T) (hr.mono (by decide)) rfl T.g_unseen_path T.F_unseen_path.kp T.b_unseen_path .nil pass0 (pa_cons (pv 0) (pa_cons (pv 1) (pa_cons pe_dnewK pa_nil)))))
      (pss_cons (ps_set (i := 3) sc_ring_of.nd rfl (Or.inl rfl) (pe_call (ok_ring_at_end T) (hr.mono (by decide)) rfl T.g_ring_at_end T.F_ring_at_end.kp T.b_ring_at_end .nil pass0 (pa_cons (pv 0) (pa_cons (pv 2) pa_nil))))
      (pss_one (ps_ret (pe_tup (pa_cons (pe_op op_sub (pe_callB call_len_seq (by rfl) T.n_len (by decide +kernel) (pa_cons (pv 2) pa_nil)) (pe_callB call_len_seq (by rfl) T.n_len (by decide +kernel) (pa_cons (pv 3) pa_nil))) (pa_cons (pv 3) pa_nil))))))))), ?_⟩
    refine ⟨_, rfl, _, rfl, .inl ⟨p, dx, _, rfl, e, ?_⟩⟩
    refine ⟨_, rfl, .int n, rfl, .int n, fun _ => ?_, fun z => Bool.noConfusion ((intIn_of n1 n2).symm.trans z)⟩
    refine ⟨_, rfl, _, rfl, fun s hs => ?_⟩
    have Ss := same_upd (o := .dK []) hs
    refine ⟨p, s, b, t, m, n, [], rfl, a.same Ss, an, upd_same, Nat.zero_le _, fun k L H2 hw he kl nL hL hs2 S2 => ?_⟩
    obtain ⟨i, hc⟩ := Comes.of hw he
    have S02 : Same H H2 := fun c o g => S2 c o (Ss _ _ g) (ne_of_none g hs)
    refine ⟨_, rfl, _, rfl, p, L, b, t, m, n, k, i, rfl, a.same S02, hL, by omega, hc.lt, hc.back, hc.inj, fun r s2 q2 H3 ir er S3 nq2 hq2 => ?_⟩
    have hL3 := S3 _ _ hL
    have rl : r.length = k - i := by rw [er, orbL_len]
    refine ⟨_, rfl, L, _, rfl, .inl (SqL.of hL3), _, rfl, q2, _, rfl, .inr (SqT.of hq2), _, _, rfl, rfl, _, rfl, by show 2 ≤ sizeLine; decide, fun q hq => ?_⟩
    have S4 := same_upd (o := .tup [.int (i : Int), .ref q2]) hq
    have ei : (((orbL (made b t m) n k).map V.int).length : Int) - ((r.map V.int).length : Int) = (i : Int) := by
      rw [List.length_map, List.length_map, orbL_len, rl]
      have := hc.lt
      omega
    show Q (.ref q) (upd H3 q (.tup [.int ((((orbL (made b t m) n k).map V.int).length : Int) - ((r.map V.int).length : Int)), .ref q2]))
    rw [ei]
    exact kk k i r q q2 _ hc ⟨ir, s2, er⟩ (S02.trans (S3.trans S4)) upd_same (S4 _ _ hq2)
def spRounds (T : Tx P K mg) : Sp := fun vs H Q _ => ∃ (p : Addr) (b t m n low : Int), vs = [.ref p, .int n, .int low] ∧ TrickAt T H p b t m ∧ -(10 ^ 40) ≤ n ∧ n ≤ 10 ^ 40 ∧ 0 ≤ low ∧ low ≤ 10 ^ 40 ∧
  ∀ (k i : Nat) (H' : Hp), Comes (made b t m) n k i → Same H H' → Q (optV ((List.range k).find? fun j => decide (ab (orb (made b t m) n j) ≤ low))) H'
/-! ### chains of tricks -/
abbrev Prt : Type := Int × Int × Int
/-- the values are tricks of these parts -/
def Trs (T : Tx P K mg) (H : Hp) : List V → List Prt → Prop
  | [], [] => True
  | v :: vs, z :: l => (∃ p, v = .ref p ∧ TrickAt T H p z.1 z.2.1 z.2.2) ∧ Trs T H vs l
  | _, _ => False
theorem Trs.of {T : Tx P K mg} {H H' : Hp} (e : ∀ p b t m, TrickAt T H p b t m → TrickAt T H' p b t m) : ∀ {vs : List V} {l : List Prt}, Trs T H vs l → Trs T H' vs l
  | [], [], _ => trivial
  | _ :: _, _ :: _, ⟨⟨q, h1, h2⟩, h3⟩ => ⟨⟨q, h1, e _ _ _ _ h2⟩, h3.of e⟩
  | [], _ :: _, h => h.elim
  | _ :: _, [], h => h.elim
theorem Trs.same {T : Tx P K mg} {H H' : Hp} {vs : List V} {l : List Prt} (h : Trs T H vs l) (S : Same H H') : Trs T H' vs l := h.of fun _ _ _ _ e => e.same S
theorem Trs.but {T : Tx P K mg} {H H' : Hp} {r : Addr} {ys : List V} {vs : List V} {l : List Prt} (h : Trs T H vs l) (hr : H r = some (.lst ys)) (B : But r H H') : Trs T H' vs l :=
  h.of fun p _ _ _ e => e.but B fun z => by
    obtain ⟨⟨dx, e1⟩, _⟩ := e
    rw [z, hr] at e1
    cases e1
theorem Trs.len {T : Tx P K mg} {H : Hp} : ∀ {vs : List V} {l : List Prt}, Trs T H vs l → vs.length = l.length
  | [], [], _ => rfl
  | _ :: _, _ :: _, ⟨_, h3⟩ => congrArg Nat.succ h3.len
  | [], _ :: _, h => h.elim
  | _ :: _, [], h => h.elim
theorem Trs.at {T : Tx P K mg} {H : Hp} : ∀ {vs : List V} {l : List Prt}, Trs T H vs l → ∀ {i : Nat} {y : V}, vs[i]? = some y → ∃ p z, y = .ref p ∧ l[i]? = some z ∧ TrickAt T H p z.1 z.2.1 z.2.2
  | [], [], _, i, y, h => by cases h
  | _ :: _, z :: _, ⟨⟨q, h1, h2⟩, _⟩, 0, y, h => by
    cases h
    exact ⟨q, z, h1, rfl, h2⟩
  | _ :: _, _ :: _, ⟨_, h3⟩, i + 1, y, h => h3.at (i := i) h
  | [], _ :: _, h, _, _, _ => h.elim
  | _ :: _, [], h, _, _, _ => h.elim
theorem Trs.snoc {T : Tx P K mg} {H : Hp} {q : Addr} {z : Prt} (hq : TrickAt T H q z.1 z.2.1 z.2.2) : ∀ {vs : List V} {l : List Prt}, Trs T H vs l → Trs T H (vs ++ [.ref q]) (l ++ [z])
  | [], [], _ => ⟨⟨q, rfl, hq⟩, trivial⟩
  | _ :: _, _ :: _, ⟨h1, h3⟩ => ⟨h1, h3.snoc hq⟩
  | [], _ :: _, h => h.elim
  | _ :: _, [], h => h.elim
theorem Trs.take {T : Tx P K mg} {H : Hp} : ∀ {vs : List V} {l : List Prt} (k : Nat), Trs T H vs l → Trs T H (vs.take k) (l.take k)
  | [], [], k, _ => by rw [List.take_nil, List.take_nil]; trivial
  | _ :: _, _ :: _, 0, _ => trivial
  | _ :: _, _ :: _, k + 1, ⟨h1, h3⟩ => ⟨h1, h3.take k⟩
  | [], _ :: _, _, h => h.elim
  | _ :: _, [], _, h => h.elim
/-- is a Trick -/
def isT (T : Tx P K mg) (H : Hp) (y : V) : Prop := ∃ p dx fs, y = .ref p ∧ H p = some (.ins T.C_Trick dx fs)
theorem isT.same {T : Tx P K mg} {H H' : Hp} {y : V} (h : isT T H y) (S : Same H H') : isT T H' y :=
  let ⟨p, dx, fs, e, hp⟩ := h
  ⟨p, dx, fs, e, S _ _ hp⟩
theorem Trs.isT {T : Tx P K mg} {H : Hp} {vs : List V} {l : List Prt} (h : Trs T H vs l) {i : Nat} {y : V} (hy : vs[i]? = some y) : isT T H y := by
  obtain ⟨p, z, e, _, ⟨dx, hp⟩, _⟩ := h.at hy
  exact ⟨p, dx, _, e, hp⟩
def errN (T : Tx P K mg) (E : XK) (C : Addr) (f : Str) (H : Hp) (v : V) : Prop := ∀ H2 d, Same H H2 → H2 d = none → E (.ref C) (some d) (upd H2 d (.xd [(f, v)]))
/-- a list or tuple of 1 to 4 tricks, or the error -/
def spTricks (T : Tx P K mg) : Sp := fun vs H Q E => ∃ x : V, vs = [x] ∧
  ((AnyV (OwnT T) H x ∧ isTup 1 4 (seqOf H x) = false ∧ errN T E T.C_BadTricks "index" H .non) ∨
   ∃ (c : Addr) (ys : List V) (lim : Nat), x = .ref c ∧ SqA H c ys ∧ 1 ≤ ys.length ∧ ys.length ≤ 4 ∧ lim ≤ ys.length ∧ (∀ (j : Nat) (z : V), j < lim → ys[j]? = some z → isT T H z) ∧
     (lim < ys.length → ∃ y, ys[lim]? = some y ∧ AnyV (fun _ => False) H y ∧ errN T E T.C_BadTricks "index" H (.int (lim : Nat))) ∧ (lim = ys.length → ∀ H2, Same H H2 → Q .non H2))
theorem SqA.any {T : Addr → Prop} {H : Hp} {c : Addr} {ys : List V} (h : SqA H c ys) : AnyV T H (.ref c) := h.elim .lst .tup
theorem isTup_len {lo hi : Nat} {H : Hp} {c : Addr} {ys : List V} (h : SqA H c ys) (l1 : lo ≤ ys.length) (l2 : ys.length ≤ hi) : isTup lo hi (seqOf H (.ref c)) = true := by
  rw [seqOf_at h]
  show (decide ((lo : Int) ≤ (ys.length : Int)) && decide ((ys.length : Int) ≤ (hi : Int))) = true
  rw [Bool.and_eq_true, decide_eq_true_eq, decide_eq_true_eq]
  omega
theorem ok_check_tricks (T : Tx P K mg) : FnOk P w K mg base (L2.CX P w) lv_check_tricks T.a_check_tricks T.d_check_tricks ["tricks"] (spTricks T) := by
  refine T.F_check_tricks.okX sc_check_tricks (fun vs H Q E h => ?_) (fun cdv A outer s H vs Q E hr h => ?_)
  · obtain ⟨x, rfl, _⟩ := h
    rfl
  · obtain ⟨x, rfl, h⟩ := h
    refine ⟨_, (pss_cons (ps_if (pt_not (pt_val (pe_call (ok_is_list_or_tuple T) (hr.mono (by decide)) rfl T.g_is_list_or_tuple T.F_is_list_or_tuple.kp T.b_is_list_or_tuple .nil pass0 (pa_cons (pv 0) (pa_cons pe_int (pa_cons (pe_glob (v := .int 4) rfl T.c_MOST_TRICKS ⟨_, rfl⟩) pa_nil)))))) (pss_one (ps_raiseF T.x_BadTricks ar_BadTricks rfl hr (takes_of rfl rfl rfl rfl) (pa_cons pe_non pa_nil))) pss_nil)
      (pss_one (ps_for (passes_of rfl) rfl (pi_enumA (by rfl) T.n_enumerate (pa_cons (pv 0) pa_nil)) (pg_tup rfl (pgs_cons (pg_name (i := 1) sc_check_tricks.nd rfl (Or.inl rfl)) (pgs_cons (pg_name (i := 2) sc_check_tricks.nd rfl (Or.inl rfl)) pgs_nil))) (pss_one (ps_if (pt_not (pt_val (pe_callB call_isi (by rfl) T.n_isinstance (by decide +kernel) (pa_cons (pv 2) (pa_cons (pe_glob (v := .ref T.C_Trick) rfl T.g_Trick rfl) pa_nil))))) (pss_one (ps_raiseF T.x_BadTricks ar_BadTricks rfl hr (takes_of rfl rfl rfl rfl) (pa_cons (pv 1) pa_nil))) pss_nil))))), ?_⟩
    rcases h with ⟨a, g, e⟩ | ⟨c, ys, lim, rfl, hc, l1, l2, hl, hi, e, k⟩
    · refine ⟨_, rfl, x, 1, 4, rfl, a, fun H1 S1 => ⟨_, rfl, ?_⟩⟩
      rw [g]
      exact iteT ⟨_, rfl, .inl rfl, fun d hd => e H1 d S1 hd⟩
    · refine ⟨_, rfl, .ref c, 1, 4, rfl, SqA.any hc, fun H1 S1 => ⟨_, rfl, ?_⟩⟩
      rw [show isTup 1 4 (seqOf H (.ref c)) = true from isTup_len (lo := 1) (hi := 4) hc l1 l2]
      refine iteF (enumA_of rfl (hc.same S1) fun J G wk hG => ?_)
      refine for_it wk (fun i σ H2 => ∃ v1 v2 : Option V, Same H1 H2 ∧ i ≤ lim ∧ σ = [some (.ref c), v1, v2]) ⟨none, none, Same.refl H1, Nat.zero_le _, rfl⟩ (fun i σ H2 _ ⟨_, _, S, _, _⟩ => hG H2 S) ?_ ?_
      · rintro i x' σ H2 H3 hin ⟨v1, v2, S, hlim, rfl⟩ ⟨p, x2, y, rfl, np, rfl, e2', hy'⟩
        cases e2'
        have hy' : ys[i]? = some y := hy'
        refine ⟨p, _, rfl, SqT.of upd_same, rfl, _, _, rfl, _, _, rfl, rfl, ?_⟩
        have S3 := (S1.trans S).trans (same_upd (o := .tup [.int (i : Nat), y]) np)
        rcases Nat.lt_or_ge i lim with q | q
        · obtain ⟨p2, dx, fs, rfl, hp⟩ := (hi i y q hy').same S3
          exact ⟨_, rfl, _, _, _, _, _, rfl, .own _, .base (T.ins_Trick _ _ _ _ hp), T.kis_Trick, _, rfl, iteF ⟨_, _, S.trans (same_upd np), by omega, rfl⟩⟩
        · have ei : i = lim := by omega
          subst ei
          obtain ⟨y2, hy2, ay, er⟩ := e hin
          rw [hy'] at hy2
          cases hy2
          obtain ⟨t, ty, ek⟩ := isi_trick T (ay.mono S3)
          have sm : ((i : Int)).natAbs.log2 < 1920 := Nat.lt_of_le_of_lt (Nat.log2_le_self _) (by omega)
          exact ⟨_, rfl, _, _, _, _, _, rfl, .own _, ty, ek, _, rfl, iteT ⟨_, rfl, _, rfl, .inr ⟨_, rfl, sm⟩, fun d hd => er _ d S3 hd⟩⟩
      · rintro σ H2 ⟨v1, v2, S, hlim, rfl⟩
        exact k (by omega) H2 (S1.trans S)
/-! ### what a chain makes -/
def mkAll (qs : List Prt) (n : Int) : Int := qs.foldl (fun n q => made q.1 q.2.1 q.2.2 n) n
def wide (qs : List Prt) : Int := qs.foldl (fun w q => w * blockOf q.1 q.2.1) 1
theorem take_snoc {α : Type} {l : List α} {i : Nat} {z : α} (h : l[i]? = some z) : l.take (i + 1) = l.take i ++ [z] := by
  obtain ⟨hi, e⟩ := List.getElem?_eq_some_iff.mp h
  rw [List.take_succ, h]
  rfl
theorem mkAll_snoc (qs : List Prt) (z : Prt) (n : Int) : mkAll (qs ++ [z]) n = made z.1 z.2.1 z.2.2 (mkAll qs n) := by
  unfold mkAll
  rw [List.foldl_append]
  rfl
theorem wide_snoc (qs : List Prt) (z : Prt) : wide (qs ++ [z]) = wide qs * blockOf z.1 z.2.1 := by
  unfold wide
  rw [List.foldl_append]
  rfl
def spMadeAll (T : Tx P K mg) : Sp := fun vs H Q _ => ∃ (c : Addr) (ys : List V) (qs : List Prt) (n : Int), vs = [.ref c, .int n] ∧ SqA H c ys ∧ Trs T H ys qs ∧ Q (.int (mkAll qs n)) H
theorem ok_made_of_all (T : Tx P K mg) : FnOk P w K mg base CX0 lv_made_of_all T.a_made_of_all T.d_made_of_all ["tricks", "n"] (spMadeAll T) := by
  refine T.F_made_of_all.ok sc_made_of_all (fun vs H Q E h => ?_) (fun cdv A outer s H vs Q E hr h => ?_)
  · obtain ⟨c, ys, qs, n, rfl, _⟩ := h
    rfl
  · obtain ⟨c, ys, qs, n, rfl, hc, ht, k⟩ := h
    refine ⟨_, (pss_cons (ps_for PassesOwn.never rfl (pi_seqA (pv 0)) (pg_name (i := 2) sc_made_of_all.nd rfl (Or.inl rfl)) (pss_one (ps_set (i := 1) sc_made_of_all.nd rfl (Or.inl rfl) (pe_call (ok_made_of T) (hr.mono (by decide)) rfl T.g_made_of T.F_made_of.kp T.b_made_of .nil pass0 (pa_cons (pv 2) (pa_cons (pv 1) pa_nil))))))
      (pss_one (ps_ret (pv 1)))), ?_⟩
    refine seqA_of rfl hc fun J G wk hG => ?_
    refine for_it wk (fun i σ H2 => ∃ v : Option V, H2 = H ∧ σ = [some (.ref c), some (.int (mkAll (qs.take i) n)), v]) ⟨none, rfl, rfl⟩ (fun i σ H2 _ ⟨_, e, _⟩ => e ▸ hG H (Same.refl H)) ?_ ?_
    · rintro i x' σ H2 H3 hin ⟨v, rfl, rfl⟩ ⟨rfl, hy⟩
      obtain ⟨p, z, rfl, hz, hT⟩ := ht.at hy
      refine ⟨_, rfl, _, rfl, p, _, _, _, _, rfl, hT, some (.ref p), rfl, ?_⟩
      rw [take_snoc hz, mkAll_snoc]
      rfl
    · rintro σ H2 ⟨v, rfl, rfl⟩
      rw [ht.len, List.take_length]
      exact ⟨_, rfl, k⟩
theorem Trs.blk {T : Tx P K mg} {H : Hp} {ys : List V} {qs : List Prt} (h : Trs T H ys qs) {i : Nat} {z : Prt} (hz : qs[i]? = some z) : 2 ≤ blockOf z.1 z.2.1 ∧ blockOf z.1 z.2.1 ≤ 256 := by
  have li := (List.getElem?_eq_some_iff.mp hz).1
  obtain ⟨p, z', _, hz', ⟨_, b1, b2, _⟩⟩ := h.at (i := i) (y := ys[i]'(by rw [h.len]; exact li)) (List.getElem?_eq_getElem _)
  rw [hz] at hz'
  cases hz'
  exact block_bd b1 b2
def spProduct (T : Tx P K mg) : Sp := fun vs H Q _ => ∃ (c : Addr) (ys : List V) (qs : List Prt), vs = [.ref c] ∧ SqA H c ys ∧ Trs T H ys qs ∧ Q (.int (wide qs)) H
theorem ok_blocks_product (T : Tx P K mg) : FnOk P w K mg base CX0 lv_blocks_product T.a_blocks_product T.d_blocks_product ["tricks"] (spProduct T) := by
  refine T.F_blocks_product.ok sc_blocks_product (fun vs H Q E h => ?_) (fun cdv A outer s H vs Q E hr h => ?_)
  · obtain ⟨c, ys, qs, rfl, _⟩ := h
    rfl
  · obtain ⟨c, ys, qs, rfl, hc, ht, k⟩ := h
    refine ⟨_, (pss_cons (ps_set (i := 1) sc_blocks_product.nd rfl (Or.inl rfl) pe_int)
      (pss_cons (ps_for PassesOwn.never rfl (pi_seqA (pv 0)) (pg_name (i := 2) sc_blocks_product.nd rfl (Or.inl rfl)) (pss_one (ps_aug (i := 1) sc_blocks_product.nd rfl (Or.inl rfl) (pe_call (ok_trick_block T) (hr.mono (by decide)) rfl T.g_trick_block T.F_trick_block.kp T.b_trick_block .nil pass0 (pa_cons (pv 2) pa_nil)) (ip_op iop_mul))))
      (pss_one (ps_ret (pv 1))))), ?_⟩
    refine seqA_of rfl hc fun J G wk hG => ?_
    refine for_it wk (fun i σ H2 => ∃ v : Option V, H2 = H ∧ σ = [some (.ref c), some (.int (wide (qs.take i))), v]) ⟨none, rfl, rfl⟩ (fun i σ H2 _ ⟨_, e, _⟩ => e ▸ hG H (Same.refl H)) ?_ ?_
    · rintro i x' σ H2 H3 hin ⟨v, rfl, rfl⟩ ⟨rfl, hy⟩
      obtain ⟨p, z, rfl, hz, hT⟩ := ht.at hy
      obtain ⟨B1, B2⟩ := ht.blk hz
      refine ⟨_, rfl, _, rfl, p, _, _, _, rfl, hT, _, _, rfl, rfl, .inr ⟨(show -(2 ^ 64) < blockOf z.1 z.2.1 by omega), (show blockOf z.1 z.2.1 < 2 ^ 64 by omega)⟩, some (.ref p), rfl, ?_⟩
      rw [take_snoc hz, wide_snoc]
      rfl
    · rintro σ H2 ⟨v, rfl, rfl⟩
      rw [ht.len, List.take_length]
      exact ⟨_, rfl, k⟩

/-! ### lists of pairs -/
/-- the values vs are the pairs l -/
def Prs (H : Hp) : List V → List (Int × Int) → Prop
  | [], [] => True
  | v :: vs, z :: l => (∃ q, v = .ref q ∧ H q = some (.tup [.int z.1, .int z.2])) ∧ Prs H vs l
  | _, _ => False
theorem Prs.of {H H' : Hp} (e : ∀ q xs, H q = some (.tup xs) → H' q = some (.tup xs)) : ∀ {vs : List V} {l : List (Int × Int)}, Prs H vs l → Prs H' vs l
  | [], [], _ => trivial
  | _ :: _, _ :: _, ⟨⟨q, h1, h2⟩, h3⟩ => ⟨⟨q, h1, e _ _ h2⟩, h3.of e⟩
  | [], _ :: _, h => h.elim
  | _ :: _, [], h => h.elim
theorem Prs.same {H H' : Hp} {vs : List V} {l : List (Int × Int)} (h : Prs H vs l) (S : Same H H') : Prs H' vs l := h.of fun q _ e => S _ _ e
theorem Prs.put {H : Hp} {a : Addr} {ys : List V} {o : HO} {vs : List V} {l : List (Int × Int)} (h : Prs H vs l) (ha : H a = some (.lst ys)) : Prs (upd H a o) vs l := h.of fun q xs e => by
  rw [upd_ne (ne_of e ha (by intro z; cases z))]
  exact e
theorem Prs.but {H H' : Hp} {r : Addr} {ys : List V} {vs : List V} {l : List (Int × Int)} (h : Prs H vs l) (hr : H r = some (.lst ys)) (B : But r H H') : Prs H' vs l := h.of fun q xs e => B _ _ e (ne_of e hr (by intro z; cases z))
theorem Prs.len {H : Hp} : ∀ {vs : List V} {l : List (Int × Int)}, Prs H vs l → vs.length = l.length
  | [], [], _ => rfl
  | _ :: _, _ :: _, ⟨_, h3⟩ => congrArg Nat.succ h3.len
  | [], _ :: _, h => h.elim
  | _ :: _, [], h => h.elim
theorem Prs.snoc {H : Hp} {q : Addr} {z : Int × Int} (hq : H q = some (.tup [.int z.1, .int z.2])) : ∀ {vs : List V} {l : List (Int × Int)}, Prs H vs l → Prs H (vs ++ [.ref q]) (l ++ [z])
  | [], [], _ => ⟨⟨q, rfl, hq⟩, trivial⟩
  | _ :: _, _ :: _, ⟨h1, h3⟩ => ⟨h1, h3.snoc hq⟩
  | [], _ :: _, h => h.elim
  | _ :: _, [], h => h.elim
def pairD (z : Int × Int) : PyData := .tuple [.int z.1, .int z.2]
theorem dp_pair {H : Hp} {q : Addr} {z : Int × Int} (h : H q = some (.tup [.int z.1, .int z.2])) : Dp K H (.ref q) (pairD z) := .tup (SqT.of h) (.cons (.int _) (.cons (.int _) .nil))
theorem Prs.dp {H : Hp} : ∀ {vs : List V} {l : List (Int × Int)}, Prs H vs l → DpAll K H vs (l.map pairD)
  | [], [], _ => .nil
  | _ :: _, _ :: _, ⟨⟨q, h1, h2⟩, h3⟩ => h1 ▸ .cons (dp_pair h2) h3.dp
  | [], _ :: _, h => h.elim
  | _ :: _, [], h => h.elim
theorem eqv_pair (z y : Int × Int) : PyData.eqv (pairD z) (pairD y) = decide (z = y) := by
  show (PyData.eqv (.int z.1) (.int y.1) && (PyData.eqv (.int z.2) (.int y.2) && true)) = _
  show ((z.1 == y.1) && ((z.2 == y.2) && true)) = _
  rw [Bool.eq_iff_iff]
  simp [Prod.ext_iff]
theorem lay_pair (z : Int × Int) : PyData.canLay0 (pairD z) = true ∧ PyData.depth (pairD z) ≤ 2 := ⟨by simp [pairD, PyData.canLay0, PyData.canLayAll0], by simp [pairD, PyData.depth, PyData.depthAll]⟩
theorem shaped_pairs (l : List (Int × Int)) : SeqAt.shaped (.list (l.map pairD)) = true := (shaped_of (lays_map pairD 2 lay_pair l) (by decide)).1
theorem shaped_pair (z : Int × Int) : SeqAt.shaped (pairD z) = true := by
  show (PyData.canLay0 (pairD z) && decide (PyData.depth (pairD z) ≤ 64)) = true
  have := lay_pair z
  rw [Bool.and_eq_true]
  exact ⟨this.1, decide_eq_true (by omega)⟩

/-! ### a chain, a divisor, not too wide -/
/-- what is wished of any value as a chain, and a value as its divisor -/
def ChW (T : Tx P K mg) (H : Hp) (x d : V) (E : XK) (G : Addr → List V → List Prt → Hp → Prop) : Prop := AnyV (OwnT T) H d ∧
  ((AnyV (OwnT T) H x ∧ isTup 1 4 (seqOf H x) = false ∧ errN T E T.C_BadTricks "index" H .non) ∨
   (∃ (c : Addr) (ys : List V) (lim : Nat), x = .ref c ∧ SqA H c ys ∧ 1 ≤ ys.length ∧ ys.length ≤ 4 ∧ lim < ys.length ∧ (∀ (j : Nat) (z : V), j < lim → ys[j]? = some z → isT T H z) ∧
     ∃ y, ys[lim]? = some y ∧ AnyV (fun _ => False) H y ∧ errN T E T.C_BadTricks "index" H (.int (lim : Nat))) ∨
   ∃ (c : Addr) (ys : List V) (qs : List Prt), x = .ref c ∧ SqA H c ys ∧ 1 ≤ ys.length ∧ ys.length ≤ 4 ∧ Trs T H ys qs ∧
     (intIn d 1 30 = false → ∀ H2, Same H H2 → E (.ref T.C_BadDivisor) none H2) ∧ (intIn d 1 30 = true → 300 < wide qs → errN T E T.C_TooWide "most" H (.int 300)) ∧
     (intIn d 1 30 = true → wide qs ≤ 300 → ∀ H2, Same H H2 → G c ys qs H2))
def spChkChain (T : Tx P K mg) : Sp := fun vs H Q E => ∃ x d : V, vs = [x, d] ∧ ChW T H x d E fun _ _ _ H2 => Q .non H2
theorem ok_check_chain (T : Tx P K mg) : FnOk P w K mg base (L2.CX P w) lv_check_chain T.a_check_chain T.d_check_chain ["tricks", "d"] (spChkChain T) := by
  refine T.F_check_chain.okX sc_check_chain (fun vs H Q E h => ?_) (fun cdv A outer s H vs Q E hr h => ?_)
  · obtain ⟨x, d, rfl, _⟩ := h
    rfl
  · obtain ⟨x, d, rfl, ad, h⟩ := h
    refine ⟨_, (pss_cons (ps_expr (pe_call (ok_check_tricks T) (hr.mono (by decide)) rfl T.g_check_tricks T.F_check_tricks.kp T.b_check_tricks .nil (passes_call (takes_of rfl rfl rfl rfl) fun _ _ _ _ h => h) (pa_cons (pv 0) pa_nil)))
      (pss_cons (ps_expr (pe_call (ok_check_divisor T) (hr.mono (by decide)) rfl T.g_check_divisor T.F_check_divisor.kp T.b_check_divisor .nil (passes_call (takes_of rfl rfl rfl rfl) fun _ _ _ _ h => h) (pa_cons (pv 1) (pa_cons (pe_glob (v := .int 30) rfl T.c_GREATEST_CHAIN_DIVISOR ⟨_, rfl⟩) pa_nil))))
      (pss_one (ps_if (pt_cmpR op_gt (pe_call (ok_blocks_product T) (hr.mono (by decide)) rfl T.g_blocks_product T.F_blocks_product.kp T.b_blocks_product .nil pass0 (pa_cons (pv 0) pa_nil)) (pe_glob (v := .int 300) rfl T.c_GREATEST_PRODUCT ⟨_, rfl⟩) (nomark _)) (pss_one (ps_raiseF T.x_TooWide ar_TooWide rfl hr (takes_of rfl rfl rfl rfl) (pa_cons (pe_glob (v := .int 300) rfl T.c_GREATEST_PRODUCT ⟨_, rfl⟩) pa_nil))) pss_nil)))), ?_⟩
    rcases h with ⟨a, g, e⟩ | ⟨c, ys, lim, rfl, hc, l1, l2, hl, hi, y, hy, ay, e⟩ | ⟨c, ys, qs, rfl, hc, l1, l2, ht, e1, e2, k⟩
    · exact ⟨_, rfl, x, rfl, .inl ⟨a, g, e⟩⟩
    · exact ⟨_, rfl, _, rfl, .inr ⟨c, ys, lim, rfl, hc, l1, l2, by omega, hi, fun _ => ⟨y, hy, ay, e⟩, fun z => by omega⟩⟩
    · refine ⟨_, rfl, _, rfl, .inr ⟨c, ys, ys.length, rfl, hc, l1, l2, Nat.le_refl _, fun j z _ hz => ht.isT hz, fun z => by omega, fun _ H2 S2 => ?_⟩⟩
      refine ⟨_, rfl, d, 30, rfl, by decide, by decide, ad.mono S2, fun g => ?_, fun g => e1 g H2 S2⟩
      refine ⟨_, rfl, c, ys, qs, rfl, hc.same S2, ht.same S2, _, _, rfl, rfl, _, rfl, ?_⟩
      refine ite2 (fun q => ?_) (fun q => ?_)
      · have q1 : 300 < wide qs := by simpa using q
        exact ⟨_, rfl, .inr ⟨_, rfl, by decide⟩, fun d' hd => e2 g q1 H2 d' S2 hd⟩
      · have q1 : ¬ 300 < wide qs := by simpa using q
        exact k g (by omega) H2 S2
/-- what is wished behind it -/
theorem ChW.to {T : Tx P K mg} {H : Hp} {x d : V} {E : XK} {G G' : Addr → List V → List Prt → Hp → Prop} (h : ChW T H x d E G)
    (k : ∀ (c : Addr) (ys : List V) (qs : List Prt) (dd : Int) (H2 : Hp), x = .ref c → d = .int dd → 1 ≤ dd → dd ≤ 30 → wide qs ≤ 300 → SqA H c ys → 1 ≤ ys.length → ys.length ≤ 4 → Trs T H ys qs → Same H H2 → G c ys qs H2 → G' c ys qs H2) : ChW T H x d E G' := by
  obtain ⟨ad, h⟩ := h
  refine ⟨ad, ?_⟩
  rcases h with h | h | ⟨c, ys, qs, rfl, hc, l1, l2, ht, e1, e2, g⟩
  · exact .inl h
  · exact .inr (.inl h)
  · refine .inr (.inr ⟨c, ys, qs, rfl, hc, l1, l2, ht, e1, e2, fun i w H2 S2 => ?_⟩)
    obtain ⟨dd, rfl, d1, d2⟩ := intIn_int' i
    exact k c ys qs dd H2 rfl rfl d1 d2 w hc l1 l2 ht S2 (g i w H2 S2)

/-! ### the law's draws: what is drawn lies in its range; nothing but the row of the draws changes -/
theorem fmod_bd (x : Int) {m : Int} (h : 0 < m) : 0 ≤ x.fmod m ∧ x.fmod m < m := by
  rw [Int.fmod_eq_emod_of_nonneg x (by omega)]
  exact ⟨Int.emod_nonneg x (by omega), Int.emod_lt_of_pos x h⟩
abbrev rowL (a : Addr) (i s c : Int) : List V := [.ref a, .int i, .int s, .int c]
/-- the script at a: locked, or of the top's own -/
def Scr (K : PySem.W.Frag) (H : Hp) (a : Addr) (xs : List V) : Prop := (∃ o, H a = some (.frz o (.lst xs))) ∨ SqL K (fun _ => none) a xs
theorem scr_of {H : Hp} {a : Addr} {xs : List V} (hO : ∀ b, H b = none ∨ ∃ o xs, H b = some (.frz o (.lst xs))) (h : SqL K H a xs) : Scr K H a xs := by
  rcases h with (h | h) | h
  · rcases hO a with z | ⟨o, ys, z⟩
    · rw [z] at h; cases h
    · rw [z] at h; cases h
  · exact .inl h
  · exact .inr (.inr h)
theorem Scr.seq {H : Hp} {a : Addr} {xs : List V} (h : Scr K H a xs) : SqL K H a xs := by
  rcases h with h | (h | ⟨o, h⟩) | h
  · exact .inl (.inr h)
  · cases h
  · cases h
  · exact .inr h
theorem Scr.mono {H H' : Hp} {a : Addr} {xs : List V} (h : Scr K H a xs) (k : ∀ b o u, H b = some (.frz o u) → H' b = some (.frz o u)) : Scr K H' a xs := by
  rcases h with ⟨o, h⟩ | h
  · exact .inl ⟨o, k _ _ _ h⟩
  · exact .inr h
/-- at r the row of the draws over the script at a -/
def RowAt (K : PySem.W.Frag) (H : Hp) (r a : Addr) (ns : List Int) : Prop := ∃ i s c : Int, H r = some (.lst (rowL a i s c)) ∧ 0 ≤ i ∧ 0 ≤ c ∧ Scr K H a (ns.map V.int) ∧ ns.length ≤ 63
theorem RowAt.same {H H' : Hp} {r a : Addr} {ns : List Int} (h : RowAt K H r a ns) (e : Same H H') : RowAt K H' r a ns :=
  let ⟨i, s, c, h1, h2, h3, h4, h5⟩ := h
  ⟨i, s, c, e _ _ h1, h2, h3, h4.mono fun _ _ _ z => e _ _ z, h5⟩
/-- another list is changed -/
theorem RowAt.put {H : Hp} {r a q : Addr} {ns : List Int} {ys : List V} {o : HO} (h : RowAt K H r a ns) (hq : H q = some (.lst ys)) (n : q ≠ r) : RowAt K (upd H q o) r a ns :=
  let ⟨i, s, c, h1, h2, h3, h4, h5⟩ := h
  ⟨i, s, c, by rw [upd_ne (Ne.symm n)]; exact h1, h2, h3, h4.mono fun b o' u z => by rw [upd_ne (ne_of z hq (by intro y; cases y))]; exact z, h5⟩
/-- the row as the law lays it -/
theorem RowAt.start {H : Hp} {r a : Addr} {ns : List Int} {i s c : Int} (hr : H r = none) (hS : Scr K H a (ns.map V.int)) (hl : ns.length ≤ 63) (hi : 0 ≤ i) (hc : 0 ≤ c) : RowAt K (upd H r (.lst (rowL a i s c))) r a ns :=
  ⟨i, s, c, upd_same, hi, hc, hS.mono fun b o u z => by rw [upd_ne (ne_of_none z hr)]; exact z, hl⟩
def spTaken (K : PySem.W.Frag) : Sp := fun vs H Q _ => ∃ (r a : Addr) (ns : List Int) (m : Int), vs = [.ref r, .int m] ∧ 0 < m ∧ m ≤ 10 ^ 41 ∧ RowAt K H r a ns ∧
  ∀ (v : Int) (H' : Hp), 0 ≤ v → v < m → RowAt K H' r a ns → But r H H' → Q (.int v) H'
theorem ok__law_taken (T : Tx P K mg) : FnOk P w K mg base CX0 lv__law_taken T.a__law_taken T.d__law_taken ["_law_row", "_law_many"] (spTaken K) := by
  refine T.F__law_taken.ok sc__law_taken (fun vs H Q E h => ?_) (fun cdv A outer s H vs Q E hr h => ?_)
  · obtain ⟨r, a, ns, m, rfl, _⟩ := h
    rfl
  · obtain ⟨r, a, ns, m, rfl, m0, m1, ⟨i, s, c, hR, i0, c0, hK, hlen⟩, k⟩ := h
    have hKB : ∀ H', But r H H' → Scr K H' a (ns.map V.int) := fun H' b => hK.mono fun c o u z => b c _ z (ne_of z hR (by intro y; cases y))
    have hdv : ∀ x : Int, CDivW x m := fun x => wide_div m0 (b := 140) (by omega) (by decide) (by decide)
    have back : ∀ (v : Int) (i' s' c' : Int) (H' : Hp), 0 ≤ v → v < m → 0 ≤ i' → 0 ≤ c' → H' r = some (.lst (rowL a i' s' c')) → But r H H' → Q (.int v) H' := fun v i' s' c' H' v0 v1 z1 z2 e b =>
      k v H' v0 v1 ⟨i', s', c', e, z1, z2, hKB _ b, hlen⟩ b
    refine ⟨_, (pss_cons (ps_if (pt_cmpR op_gt (pe_ix ix_list (pv 0) pe_int (fun _ _ => rfl)) pe_int (nomark _)) (pss_cons (ps_set (i := 2) sc__law_taken.nd rfl (Or.inl rfl) (pe_op op_modN (pe_callTy call_int1 (by rfl) T.n_int (by decide +kernel) (pa_cons (pe_ix ix_list (pv 0) pe_int (fun _ _ => rfl)) pa_nil)) (pv 1)))
      (pss_cons (ps_asg (pe_op op_fdivW (pe_ix ix_list (pv 0) pe_int (fun _ _ => rfl)) (pv 1)) (pg_sub (pv 0) pe_int set_list))
      (pss_one (ps_ret (pv 2))))) pss_nil)
      (pss_cons (ps_asg (pe_op op_add (pe_ix ix_list (pv 0) pe_int (fun _ _ => rfl)) pe_int) (pg_sub (pv 0) pe_int set_list))
      (pss_cons (ps_if (pt_cmpR op_gt (pe_ix ix_list (pv 0) pe_int (fun _ _ => rfl)) (pe_callB call_len_seq (by rfl) T.n_len (by decide +kernel) (pa_cons (pe_ix ix_list (pv 0) pe_int (fun _ _ => rfl)) pa_nil)) (nomark _)) (pss_cons (ps_asg (pe_op op_modN (pe_callTy call_int1 (by rfl) T.n_int (by decide +kernel) (pa_cons (pe_op op_add (pe_op op_mul (pe_ix ix_list (pv 0) pe_int (fun _ _ => rfl)) pe_int) pe_int) pa_nil)) pe_int) (pg_sub (pv 0) pe_int set_list))
      (pss_one (ps_ret (pe_op op_modN (pe_callTy call_int1 (by rfl) T.n_int (by decide +kernel) (pa_cons (pe_op op_fdivW (pe_ix ix_list (pv 0) pe_int (fun _ _ => rfl)) pe_int) pa_nil)) (pv 1))))) pss_nil)
      (pss_cons (ps_set (i := 3) sc__law_taken.nd rfl (Or.inl rfl) (pe_ix ix_list (pe_ix ix_list (pv 0) pe_int (fun _ _ => rfl)) (pe_op op_sub (pe_ix ix_list (pv 0) pe_int (fun _ _ => rfl)) pe_int) (fun _ _ => rfl)))
      (pss_cons (ps_asg (pe_op op_modN (pe_callTy call_int1 (by rfl) T.n_int (by decide +kernel) (pa_cons (pe_op op_add (pe_op op_add (pe_op op_mul (pe_ix ix_list (pv 0) pe_int (fun _ _ => rfl)) pe_int) (pv 3)) pe_int) pa_nil)) pe_int) (pg_sub (pv 0) pe_int set_list))
      (pss_cons (ps_if (pt_cmpR op_ge (pv 3) (pe_op op_pow pe_int pe_int) (nomark _)) (pss_one (ps_asg (pe_op op_fdivW (pv 3) (pv 1)) (pg_sub (pv 0) pe_int set_list))) pss_nil)
      (pss_one (ps_ret (pe_op op_modN (pe_callTy call_int1 (by rfl) T.n_int (by decide +kernel) (pa_cons (pv 3) pa_nil)) (pv 1)))))))))), ?_⟩
    refine ⟨_, rfl, r, _, _, _, rfl, rfl, SqL.of hR, rfl, _, _, rfl, rfl, _, rfl, ?_⟩
    refine ite2 (fun g => ?_) (fun g => ?_)
    · -- a great cell's digits
      obtain ⟨v0, v1⟩ := fmod_bd c m0
      refine ⟨_, rfl, r, _, _, _, rfl, rfl, SqL.of hR, rfl, .inl ⟨_, rfl, _, rfl, _, _, rfl, rfl, by omega, ?_⟩⟩
      refine ⟨_, rfl, r, _, _, _, rfl, rfl, SqL.of hR, rfl, _, rfl, _, _, rfl, rfl, hdv c, _, rfl, r, _, _, _, rfl, rfl, hR, rfl, ?_⟩
      exact ⟨_, rfl, back _ i s (c / m) _ v0 v1 i0 (Int.ediv_nonneg c0 (by omega)) upd_same But.put⟩
    · refine ⟨_, rfl, r, _, _, _, rfl, rfl, SqL.of hR, rfl, _, _, rfl, rfl, _, rfl, r, _, _, _, rfl, rfl, hR, rfl, ?_⟩
      -- behind the script's end?
      have hR1 : upd H r (.lst (rowL a (i + 1) s c)) r = some (.lst (rowL a (i + 1) s c)) := upd_same
      have hB1 : But r H (upd H r (.lst (rowL a (i + 1) s c))) := But.put
      have hS1 : SqL K (upd H r (.lst (rowL a (i + 1) s c))) a (ns.map V.int) := (hKB _ hB1).seq
      refine ⟨_, rfl, r, _, _, _, rfl, rfl, SqL.of hR1, rfl, _, rfl, r, _, _, _, rfl, rfl, SqL.of hR1, rfl, a, _, rfl, .inl hS1, _, _, rfl, rfl, _, rfl, ?_⟩
      refine ite2 (fun g2 => ?_) (fun g2 => ?_)
      · refine ⟨_, rfl, r, _, _, _, rfl, rfl, SqL.of hR1, rfl, _, _, rfl, rfl, .inr ⟨by decide, by decide⟩, _, _, rfl, rfl, .inl ⟨_, rfl, _, _, rfl, rfl, (show (2147483647 : Int) ≠ 0 by decide), ?_⟩⟩
        refine ⟨_, rfl, r, _, _, _, rfl, rfl, hR1, rfl, ?_⟩
        refine ⟨_, rfl, r, _, _, _, rfl, rfl, SqL.of upd_same, rfl, _, _, rfl, rfl, wide_div (by decide) (b := 3) (by decide) (by decide) (by decide), .inl ⟨_, rfl, _, rfl, _, _, rfl, rfl, by omega, ?_⟩⟩
        obtain ⟨v0, v1⟩ := fmod_bd ((s * 48271 + 11).fmod 2147483647 / 7) m0
        exact back _ (i + 1) _ c _ v0 v1 (by omega) c0 upd_same (hB1.trans But.put)
      · have g3 : i + 1 ≤ (ns.length : Int) := by
          simp only [decide_eq_true_eq, List.length_map] at g2
          omega
        obtain ⟨z, hz⟩ : ∃ z, ns[i.toNat]? = some z := ⟨ns[i.toNat]'(by omega), List.getElem?_eq_getElem (by omega)⟩
        have hz1 : atI (ns.map V.int) (i + 1 - 1) = some (V.int z) := at_of (j := i.toNat) (by omega) (by rw [List.getElem?_map, hz]; rfl)
        refine ⟨_, rfl, r, _, _, _, rfl, rfl, SqL.of hR1, rfl, _, rfl, r, _, _, _, rfl, rfl, SqL.of hR1, rfl, _, _, rfl, rfl, a, _, _, _, rfl, rfl, hS1, hz1, ?_⟩
        refine ⟨_, rfl, r, _, _, _, rfl, rfl, SqL.of hR1, rfl, _, _, rfl, rfl, .inr ⟨by decide, by decide⟩, _, rfl, _, _, rfl, rfl, _, _, rfl, rfl, .inl ⟨_, rfl, _, _, rfl, rfl, (show (2147483647 : Int) ≠ 0 by decide), ?_⟩⟩
        refine ⟨_, rfl, r, _, _, _, rfl, rfl, hR1, rfl, ?_⟩
        have hR2 : upd (upd H r (.lst (rowL a (i + 1) s c))) r (.lst (rowL a (i + 1) ((s * 48271 + z + 11).fmod 2147483647) c)) r = some (.lst (rowL a (i + 1) ((s * 48271 + z + 11).fmod 2147483647) c)) := upd_same
        have hB2 : But r H (upd (upd H r (.lst (rowL a (i + 1) s c))) r (.lst (rowL a (i + 1) ((s * 48271 + z + 11).fmod 2147483647) c))) := hB1.trans But.put
        obtain ⟨v0, v1⟩ := fmod_bd z m0
        refine ⟨_, rfl, _, _, rfl, rfl, ⟨by decide, by decide, by decide⟩, _, _, rfl, rfl, _, rfl, ?_⟩
        refine ite2 (fun g4 => ?_) (fun g4 => ?_)
        · refine ⟨_, rfl, _, rfl, _, _, rfl, rfl, hdv z, _, rfl, r, _, _, _, rfl, rfl, hR2, rfl, ?_⟩
          have z0 : 0 ≤ z := by
            have g5 : (10 : Int) ^ 18 ≤ z := by simpa using g4
            exact Int.le_trans (by decide) g5
          refine ⟨_, rfl, .inl ⟨_, rfl, _, rfl, _, _, rfl, rfl, by omega, ?_⟩⟩
          exact back _ (i + 1) _ (z / m) _ v0 v1 (by omega) (Int.ediv_nonneg z0 (by omega)) upd_same (hB2.trans But.put)
        · refine ⟨_, rfl, .inl ⟨_, rfl, _, rfl, _, _, rfl, rfl, by omega, ?_⟩⟩
          exact back _ (i + 1) _ c _ v0 v1 (by omega) c0 hR2 hB2

/-! ### a menu: an item of a written list at a drawn place -/
theorem RowAt.new {H : Hp} {r a p : Addr} {ns : List Int} {o : HO} (h : RowAt K H r a ns) (hp : H p = none) : RowAt K (upd H p o) r a ns := h.same (same_upd hp)
theorem RowAt.ne {H : Hp} {r a p : Addr} {ns : List Int} (h : RowAt K H r a ns) (hp : H p = none) : p ≠ r :=
  let ⟨_, _, _, h1, _⟩ := h
  (ne_of_none h1 hp).symm
theorem But.new {H H1 : Hp} {r p : Addr} {o : HO} (b : But r H H1) (hp : H1 p = none) : But r H (upd H1 p o) := b.trans (Same.but (same_upd hp))
theorem But.free {H H1 : Hp} {r p : Addr} (b : But r H H1) (n : p ≠ r) (hp : H1 p = none) : H p = none := by
  cases q : H p with
  | none => rfl
  | some o =>
    rw [b p o q n] at hp
    cases hp
/-- an item of the list laid at p, at a place that is drawn -/
theorem menu {H1 : Hp} {r a p : Addr} {ns items : List Int} {m : Int} (Pr : Int → Prop) (hP : ∀ z ∈ items, Pr z) (hl : (items.length : Int) = m) (R1 : RowAt K H1 r a ns) (hp : H1 p = none) {Q : VK}
    (k : ∀ (z : Int) (H2 : Hp), Pr z → RowAt K H2 r a ns → But r H1 H2 → H2 p = some (.lst (items.map V.int)) → Q (.int z) H2) (h0 : 0 < m) (h1 : m ≤ 10 ^ 41) :
    spTaken K ([.ref r, .int m] ++ []) (upd H1 p (.lst (items.map V.int))) (fun y H2 => rIxL K (.ref p) y H2 Q) E0 := by
  refine ⟨r, a, ns, m, rfl, h0, h1, R1.new hp, fun w H2 w0 w1 R2 B2 => ?_⟩
  obtain ⟨z, hz, he⟩ := at_some Pr hP w0 (by omega)
  have npr := R1.ne hp
  exact ⟨p, _, _, _, rfl, rfl, SqL.of (B2 _ _ upd_same npr), he, k z H2 hz R2 ((Same.but (same_upd hp)).trans B2) (B2 _ _ upd_same npr)⟩
theorem at_someV (Pr : V → Prop) {xs : List V} (h : ∀ z ∈ xs, Pr z) {i : Int} (h0 : 0 ≤ i) (h1 : i < xs.length) : ∃ z, Pr z ∧ atI xs i = some z := by
  obtain ⟨z, hz⟩ : ∃ z, xs[i.toNat]? = some z := ⟨xs[i.toNat]'(by omega), List.getElem?_eq_getElem (by omega)⟩
  exact ⟨z, h z (List.mem_of_getElem? hz), at_of (j := i.toNat) (by omega) hz⟩
theorem menuV {H1 : Hp} {r a p : Addr} {ns : List Int} {items : List V} {m : Int} (Pr : V → Prop) (hP : ∀ z ∈ items, Pr z) (hl : (items.length : Int) = m) (R1 : RowAt K H1 r a ns) (hp : H1 p = none) {Q : VK}
    (k : ∀ (z : V) (H2 : Hp), Pr z → RowAt K H2 r a ns → But r H1 H2 → H2 p = some (.lst items) → Q z H2) (h0 : 0 < m) (h1 : m ≤ 10 ^ 41) :
    spTaken K ([.ref r, .int m] ++ []) (upd H1 p (.lst items)) (fun y H2 => rIxL K (.ref p) y H2 Q) E0 := by
  refine ⟨r, a, ns, m, rfl, h0, h1, R1.new hp, fun w H2 w0 w1 R2 B2 => ?_⟩
  obtain ⟨z, hz, he⟩ := at_someV Pr hP w0 (by omega)
  have npr := R1.ne hp
  exact ⟨p, _, _, _, rfl, rfl, SqL.of (B2 _ _ upd_same npr), he, k z H2 hz R2 ((Same.but (same_upd hp)).trans B2) (B2 _ _ upd_same npr)⟩
/-- a plain value: None, a bool, an int, a text -/
def flatA : V → Bool
  | .non => true | .bl _ => true | .int _ => true | .str _ => true | _ => false
theorem any_flat {T : Addr → Prop} {H : Hp} {v : V} (h : flatA v = true) : AnyV T H v := by
  cases v with
  | non => exact .non
  | bl b => exact .bl b
  | int i => exact .int i
  | str x => exact .str x
  | _ => cases h

/-! ### the row is a list -/
theorem RowAt.lst {H : Hp} {r a : Addr} {ns : List Int} (h : RowAt K H r a ns) : ∃ ys, H r = some (.lst ys) := let ⟨_, _, _, h1, _⟩ := h; ⟨_, h1⟩

/-! ### the rests by which a chain is judged -/
theorem wideF (w : Int) : ∀ qs : List Prt, qs.foldl (fun w q => w * blockOf q.1 q.2.1) w = w * wide qs
  | [] => (Int.mul_one w).symm
  | q :: qs => by
    unfold wide
    rw [List.foldl_cons, List.foldl_cons, wideF (w * blockOf q.1 q.2.1) qs, wideF (1 * blockOf q.1 q.2.1) qs, Int.one_mul, Int.mul_assoc]
theorem wide_cons (q : Prt) (qs : List Prt) : wide (q :: qs) = blockOf q.1 q.2.1 * wide qs := by
  show qs.foldl _ (1 * blockOf q.1 q.2.1) = _
  rw [wideF, Int.one_mul]
theorem wide_pos : ∀ {qs : List Prt}, (∀ q ∈ qs, 2 ≤ blockOf q.1 q.2.1) → 1 ≤ wide qs
  | [], _ => Int.le_refl _
  | q :: qs, h => by
    rw [wide_cons]
    have h1 := h q List.mem_cons_self
    have h2 := wide_pos fun z hz => h z (List.mem_cons_of_mem _ hz)
    have := Int.mul_le_mul h1 h2 (by omega) (by omega)
    omega
theorem mkAll_cons (q : Prt) (qs : List Prt) (n : Int) : mkAll (q :: qs) n = mkAll qs (made q.1 q.2.1 q.2.2 n) := rfl
/-- behind a stretch of its width it makes one more -/
theorem mkAll_shift : ∀ {qs : List Prt}, (∀ q ∈ qs, 2 ≤ blockOf q.1 q.2.1) → ∀ n k : Int, mkAll qs (n + wide qs * k) = mkAll qs n + k
  | [], _, n, k => by
    show n + 1 * k = n + k
    rw [Int.one_mul]
  | q :: qs, h, n, k => by
    rw [wide_cons, mkAll_cons, mkAll_cons, Int.mul_assoc]
    have e : made q.1 q.2.1 q.2.2 (n + blockOf q.1 q.2.1 * (wide qs * k)) = made q.1 q.2.1 q.2.2 n + wide qs * k := by
      have h1 := h q List.mem_cons_self
      unfold made
      rw [Int.fmod_eq_emod_of_nonneg _ (by omega), Int.fmod_eq_emod_of_nonneg _ (by omega), Int.add_mul_emod_self_left, Int.add_mul_ediv_left _ _ (by omega)]
      omega
    rw [e]
    exact mkAll_shift (fun z hz => h z (List.mem_cons_of_mem _ hz)) _ k
theorem Trs.blks {T : Tx P K mg} {H : Hp} {ys : List V} {qs : List Prt} (h : Trs T H ys qs) : ∀ q ∈ qs, 2 ≤ blockOf q.1 q.2.1 := fun q hq => by
  obtain ⟨i, hi⟩ := List.mem_iff_getElem?.mp hq
  exact (h.blk hi).1
theorem Prs.at {H : Hp} : ∀ {vs : List V} {l : List (Int × Int)}, Prs H vs l → ∀ {i : Nat} {y : V}, vs[i]? = some y → ∃ q z, y = .ref q ∧ l[i]? = some z ∧ H q = some (.tup [.int z.1, .int z.2])
  | [], [], _, i, y, h => by cases h
  | _ :: _, z :: _, ⟨⟨q, h1, h2⟩, _⟩, 0, y, h => by
    cases h
    exact ⟨q, z, h1, rfl, h2⟩
  | _ :: _, _ :: _, ⟨_, h3⟩, i + 1, y, h => h3.at (i := i) h
  | [], _ :: _, h, _, _, _ => h.elim
  | _ :: _, [], h, _, _, _ => h.elim
/-- the rests of n and of what is made of it -/
def rpL (qs : List Prt) (d : Int) (n : Nat) : List (Int × Int) := (List.range n).map fun (k : Nat) => ((k : Int).fmod d, (mkAll qs (k : Int)).fmod d)
theorem rpL_succ (qs : List Prt) (d : Int) (n : Nat) : rpL qs d (n + 1) = rpL qs d n ++ [((n : Int).fmod d, (mkAll qs (n : Int)).fmod d)] := by
  unfold rpL
  rw [List.range_succ, List.map_append]
  rfl
theorem rpL_len (qs : List Prt) (d : Int) (n : Nat) : (rpL qs d n).length = n := by
  unfold rpL
  rw [List.length_map, List.length_range]
def mL (qs : List Prt) (n : Nat) : List Int := (List.range n).map fun (k : Nat) => mkAll qs (k : Int)
theorem mL_succ (qs : List Prt) (n : Nat) : mL qs (n + 1) = mL qs n ++ [mkAll qs (n : Int)] := by
  unfold mL
  rw [List.range_succ, List.map_append]
  rfl
theorem mL_len (qs : List Prt) (n : Nat) : (mL qs n).length = n := by
  unfold mL
  rw [List.length_map, List.length_range]
def spRestPairs (T : Tx P K mg) : Sp := fun vs H Q _ => ∃ (c : Addr) (ys : List V) (qs : List Prt) (d : Int), vs = [.ref c, .int d] ∧ SqA H c ys ∧ Trs T H ys qs ∧ 1 ≤ d ∧ d ≤ 30 ∧ wide qs ≤ 300 ∧
  ∀ (D : Addr) (us : List V) (H2 : Hp), Same H H2 → H D = none → H2 D = some (.lst us) → Prs H2 us (rpL qs d (wide qs * d).toNat) → Q (.ref D) H2
theorem ok_rest_pairs (T : Tx P K mg) : FnOk P w K mg base CX0 lv_rest_pairs T.a_rest_pairs T.d_rest_pairs ["tricks", "d"] (spRestPairs T) := by
  refine T.F_rest_pairs.ok sc_rest_pairs (fun vs H Q E h => ?_) (fun cdv A outer s H vs Q E hr h => ?_)
  · obtain ⟨c, ys, qs, d, rfl, _⟩ := h
    rfl
  · obtain ⟨c, ys, qs, d, rfl, hc, ht, d1, d2, hw, k⟩ := h
    refine ⟨_, (pss_cons (ps_set (i := 2) sc_rest_pairs.nd rfl (Or.inr rfl) (pe_call (ok_blocks_product T) (hr.mono (by decide)) rfl T.g_blocks_product T.F_blocks_product.kp T.b_blocks_product .nil pass0 (pa_cons (pv 0) pa_nil)))
      (pss_cons (ps_set (i := 3) sc_rest_pairs.nd rfl (Or.inr rfl) (pe_lc (own := [("n", 4)]) (g := gName 4) (tt := tYes) rfl sc_rest_pairs.nd (pi_range1 (by rfl) T.n_range (pa_cons (pv 2) pa_nil)) (blkOk_by (own := [("n", 4)]) (N := ["tricks", "d", "width", "made", "n"]) (sc := defScope s_rest_pairs) (by decide +kernel)) (fun _ _ _ _ _ => pg_name (i := 4) sc_rest_pairs.nd rfl (Or.inl rfl)) (fun _ _ _ _ _ => pts_nil) (fun _ _ _ _ _ => (pe_call (ok_made_of_all T) (hr.mono (by decide)) rfl T.g_made_of_all T.F_made_of_all.kp T.b_made_of_all .nil pass0 (pa_cons (pv 0) (pa_cons (pv 4) pa_nil))))))
      (pss_one (ps_ret (pe_lc (own := [("n", 4)]) (g := gName 4) (tt := tYes) rfl sc_rest_pairs.nd (pi_range1 (by rfl) T.n_range (pa_cons (pe_op op_mul (pv 2) (pv 1)) pa_nil)) (blkOk_by (own := [("n", 4)]) (N := ["tricks", "d", "width", "made", "n"]) (sc := defScope s_rest_pairs) (by decide +kernel)) (fun _ _ _ _ _ => pg_name (i := 4) sc_rest_pairs.nd rfl (Or.inl rfl)) (fun _ _ _ _ _ => pts_nil) (fun _ _ _ _ _ => (pe_tup (pa_cons (pe_op op_modN (pv 4) (pv 1)) (pa_cons (pe_op op_modN (pe_op op_add (pe_ix (ix_lK (K := K) rfl) (pv 3) (pe_op op_modN (pv 4) (pv 2)) (fun _ _ => rfl)) (pe_op op_fdivW (pv 4) (pv 2))) (pv 1)) pa_nil))))))))), ?_⟩
    have w1 := wide_pos ht.blks
    have sh := mkAll_shift ht.blks
    generalize hW : wide qs = W at *
    have nW : W ≠ 0 := by omega
    have nd : d ≠ 0 := by omega
    have hWd : W * d ≤ 300 * 30 := Int.mul_le_mul hw d2 (by omega) (by omega)
    have hWd0 : 0 ≤ W * d := Int.mul_nonneg (by omega) (by omega)
    refine ⟨_, rfl, c, ys, qs, rfl, hc, ht, ?_⟩
    rw [hW]
    refine ⟨_, rfl, W, rfl, by omega, by omega, fun L hL => ?_⟩
    refine lc_range (lo := 0) (n := W.toNat) (fun i H2 => Same H H2 ∧ H2 L = some (.lst ((mL qs i).map V.int))) ⟨same_upd hL, by rw [upd_same]; rfl⟩ ?_ ?_
    · rintro i H2 hi ⟨S2, hL2⟩
      have ei : (0 : Int) + (i : Int) = (i : Int) := Int.zero_add _
      rw [ei]
      refine ⟨rfl, _, rfl, _, rfl, c, ys, qs, _, rfl, hc.same S2, ht.same S2, _, hL2, by rw [List.length_map, mL_len]; exact small5 (by omega), fun e o he => ?_, ?_⟩
      · rw [upd_ne (ne_of_none he hL)]
        exact S2 _ _ he
      · rw [upd_same, mL_succ, List.map_append]
        rfl
    · rintro H2 ⟨S2, hL2⟩
      have mat : ∀ j : Int, 0 ≤ j → j < W → atI ((mL qs W.toNat).map V.int) j = some (V.int (mkAll qs j)) := fun j j0 j1 => at_of (j := j.toNat) (by omega) (by
        rw [List.getElem?_map]
        unfold mL
        rw [List.getElem?_map, List.getElem?_range (by omega)]
        show some (V.int (mkAll qs ((j.toNat : Nat) : Int))) = _
        rw [Int.toNat_of_nonneg j0])
      refine ⟨_, rfl, _, rfl, _, _, rfl, rfl, .inl ⟨by omega, by omega⟩, W * d, rfl, by omega, by omega, fun D hD => ?_⟩
      have hD0 : H D = none := by
        cases q : H D with
        | none => rfl
        | some o => rw [S2 _ _ q] at hD; cases hD
      have nLD : L ≠ D := ne_of_none hL2 hD
      refine lc_range (lo := 0) (n := (W * d).toNat) (fun i H3 => Same H H3 ∧ H3 L = some (.lst ((mL qs W.toNat).map V.int)) ∧ ∃ us, H3 D = some (.lst us) ∧ Prs H3 us (rpL qs d i)) ⟨S2.trans (same_upd hD), same_upd hD _ _ hL2, [], upd_same, trivial⟩ ?_ ?_
      · rintro i H3 hi ⟨S3, hL3, us, hD3, hP⟩
        have ei : (0 : Int) + (i : Int) = (i : Int) := Int.zero_add _
        rw [ei]
        obtain ⟨m0, m1⟩ := fmod_bd (i : Int) (m := W) (by omega)
        refine ⟨rfl, _, rfl, _, rfl, _, _, rfl, rfl, nd, ?_⟩
        refine ⟨_, rfl, _, rfl, _, rfl, _, _, rfl, rfl, nW, L, _, _, _, rfl, rfl, SqL.of hL3, mat _ m0 m1, ?_⟩
        refine ⟨_, rfl, _, rfl, _, _, rfl, rfl, wide_div (show 0 < W by omega) (b := 9) (show W.natAbs < 2 ^ 9 by omega) (by decide) (by decide), _, _, rfl, rfl, _, rfl, _, _, rfl, rfl, nd, by show 2 ≤ sizeLine; decide, fun t ht2 => ?_⟩
        have el : us.length = i := by rw [hP.len, rpL_len]
        have em : mkAll qs ((i : Int).fmod W) + (i : Int) / W = mkAll qs (i : Int) := by
          rw [← sh, Int.fmod_eq_emod_of_nonneg _ (by omega), Int.emod_add_mul_ediv]
        have ntD : t ≠ D := (ne_of_none hD3 ht2).symm
        refine ⟨us, same_upd ht2 _ _ hD3, small5 (by omega), fun e o he => ?_, ?_, us ++ [.ref t], upd_same, ?_⟩
        · have h3 := S3 _ _ he
          rw [upd_ne (ne_of_none he hD0), upd_ne (ne_of_none h3 ht2)]
          exact h3
        · rw [upd_ne nLD, upd_ne (ne_of_none hL3 ht2)]
          exact hL3
        · rw [rpL_succ]
          refine ((hP.same (same_upd ht2)).put (same_upd ht2 _ _ hD3)).snoc ?_
          rw [upd_ne ntD, upd_same]
          simp only
          rw [em]
      · rintro H3 ⟨S3, hL3, us, hD3, hP⟩
        exact k D us H3 S3 hD0 hD3 hP

/-! ### what a chain tells -/
def sameC (z : Int × Int) : Bool := decide (z.1 = z.2)
def multC (z : Int × Int) : Bool := decide (z.1 = 0) == decide (z.2 = 0)
def wordC (l : List (Int × Int)) : Str := if l.all sameC = true then "rest" else if l.all multC = true then "multiples" else "nothing"
def failC (qs : List Prt) (d : Int) (k : Nat) : Bool := !multC ((k : Int).fmod d, (mkAll qs (k : Int)).fmod d)
def spChainT (T : Tx P K mg) : Sp := fun vs H Q E => ∃ x d : V, vs = [x, d] ∧ ChW T H x d E fun _ _ qs H2 => ∀ dd, d = .int dd → ∀ H3, Same H2 H3 → Q (.str (wordC (rpL qs dd (wide qs * dd).toNat))) H3
theorem all_lc {H : Hp} {D L : Addr} {us : List V} {l : List (Int × Int)} {f : Int × Int → Bool} {H2 : Hp} {i : Nat} {z : Int × Int} (hz : l[i]? = some z) (hL : H2 L = some (.lst (((l.take i).map f).map V.bl))) : upd H2 L (.lst (((l.take i).map f).map V.bl ++ [.bl (f z)])) L = some (.lst (((l.take (i + 1)).map f).map V.bl)) := by
  rw [upd_same, take_snoc hz, List.map_append, List.map_append]
  rfl
theorem ok_chain_tells (T : Tx P K mg) : FnOk P w K mg base (L2.CX P w) lv_chain_tells T.a_chain_tells T.d_chain_tells ["tricks", "d"] (spChainT T) := by
  refine T.F_chain_tells.okX sc_chain_tells (fun vs H Q E h => ?_) (fun cdv A outer s H vs Q E hr h => ?_)
  · obtain ⟨x, d, rfl, _⟩ := h
    rfl
  · obtain ⟨x, d, rfl, h⟩ := h
    refine ⟨_, (pss_cons (ps_expr (pe_call (ok_check_chain T) (hr.mono (by decide)) rfl T.g_check_chain T.F_check_chain.kp T.b_check_chain .nil (passes_call (takes_of rfl rfl rfl rfl) fun _ _ _ _ h => h) (pa_cons (pv 0) (pa_cons (pv 1) pa_nil))))
      (pss_cons (ps_set (i := 2) sc_chain_tells.nd rfl (Or.inl rfl) (pe_call (ok_rest_pairs T) (hr.mono (by decide)) rfl T.g_rest_pairs T.F_rest_pairs.kp T.b_rest_pairs .nil pass0 (pa_cons (pv 0) (pa_cons (pv 1) pa_nil))))
      (pss_cons (ps_if (pt_val (pe_callB (cr_all rfl) (by rfl) T.n_all (by decide +kernel) (pa_cons (pe_lc (own := [("rest", 3), ("made", 4)]) (tt := tYes) (g := gTup K 2 (gCons (gName 3) (gCons (gName 4) gNil))) rfl sc_chain_tells.nd (pi_list (pv 2)) (blkOk_by (own := [("rest", 3), ("made", 4)]) (N := ["tricks", "d", "found", "rest", "made"]) (sc := defScope s_chain_tells) (by decide +kernel)) (fun _ _ _ _ _ => pg_tup rfl (pgs_cons (pg_name (i := 3) sc_chain_tells.nd rfl (Or.inl rfl)) (pgs_cons (pg_name (i := 4) sc_chain_tells.nd rfl (Or.inl rfl)) pgs_nil))) (fun _ _ _ _ _ => pts_nil) (fun _ _ _ _ _ => (pe_cmpR op_eq (pv 3) (pv 4) (nomark _)))) pa_nil))) (pss_one (ps_ret pe_str)) pss_nil)
      (pss_cons (ps_if (pt_val (pe_callB (cr_all rfl) (by rfl) T.n_all (by decide +kernel) (pa_cons (pe_lc (own := [("rest", 3), ("made", 4)]) (tt := tYes) (g := gTup K 2 (gCons (gName 3) (gCons (gName 4) gNil))) rfl sc_chain_tells.nd (pi_list (pv 2)) (blkOk_by (own := [("rest", 3), ("made", 4)]) (N := ["tricks", "d", "found", "rest", "made"]) (sc := defScope s_chain_tells) (by decide +kernel)) (fun _ _ _ _ _ => pg_tup rfl (pgs_cons (pg_name (i := 3) sc_chain_tells.nd rfl (Or.inl rfl)) (pgs_cons (pg_name (i := 4) sc_chain_tells.nd rfl (Or.inl rfl)) pgs_nil))) (fun _ _ _ _ _ => pts_nil) (fun _ _ _ _ _ => (pe_cmpR op_eq (pe_cmpR op_eq (pv 3) pe_int (nomark _)) (pe_cmpR op_eq (pv 4) pe_int (nomark _)) (nomark _)))) pa_nil))) (pss_one (ps_ret pe_str)) pss_nil)
      (pss_one (ps_ret pe_str)))))), ?_⟩
    refine ⟨_, rfl, _, rfl, x, d, rfl, h.to fun c ys qs dd H1 ex ed d1 d2 hw hc l1 l2 ht S1 g => ?_⟩
    subst ex ed
    refine ⟨_, rfl, _, rfl, c, ys, qs, dd, rfl, hc.same S1, ht.same S1, d1, d2, hw, fun D us H2 S2 hD0 hD hP => ?_⟩
    have g2 := g dd rfl
    generalize hl : rpL qs dd (wide qs * dd).toNat = l at *
    have hul := hP.len
    have hll : l.length ≤ 9000 := by
      rw [← hl, rpL_len]
      have w1 := wide_pos ht.blks
      have : wide qs * dd ≤ 300 * 30 := Int.mul_le_mul hw d2 (by omega) (by omega)
      omega
    refine ⟨_, rfl, D, rfl, ⟨_, SqL.of hD⟩, fun L hL => ?_⟩
    refine lc_it walk_list (fun i H3 => Same H2 H3 ∧ H3 L = some (.lst (((l.take i).map sameC).map V.bl))) ⟨same_upd hL, by rw [upd_same]; rfl⟩ (fun i H3 _ ⟨S3, _⟩ => SqL.of (S3 _ _ hD)) ?_ ?_
    · rintro i y H3 H4 hi ⟨S3, hL3⟩ ⟨rfl, hy⟩
      obtain ⟨q, z, rfl, hz, hq⟩ := (hP.same S3).at hy
      refine ⟨q, _, rfl, SqT.of hq, rfl, _, _, rfl, _, _, rfl, rfl, rfl, _, rfl, _, rfl, rfl, _, hL3, ?_, fun e o he => ?_, ?_⟩
      · rw [List.length_map, List.length_map, List.length_take]
        exact small5 (by omega)
      · rw [upd_ne (ne_of_none he hL)]
        exact S3 _ _ he
      · rw [dec_i]
        exact all_lc (f := sameC) (H := H4) (D := D) (us := us) hz hL3
    · rintro H3 ⟨S3, hL3⟩
      rw [hul, List.take_length] at hL3
      refine ⟨L, _, rfl, SqL.of hL3, _, rfl, ?_⟩
      rw [show (l.map sameC).all id = l.all sameC from by rw [List.all_map]; rfl]
      refine ite2 (fun g1 => ?_) (fun g1 => ?_)
      · have := g2 H3 (S2.trans S3)
        unfold wordC at this
        rw [if_pos g1] at this
        exact this
      · have hD3 := S3 _ _ hD
        refine ⟨_, rfl, D, rfl, ⟨_, SqL.of hD3⟩, fun M hM => ?_⟩
        refine lc_it walk_list (fun i H4 => Same H3 H4 ∧ H4 M = some (.lst (((l.take i).map multC).map V.bl))) ⟨same_upd hM, by rw [upd_same]; rfl⟩ (fun i H4 _ ⟨S4, _⟩ => SqL.of (S4 _ _ hD3)) ?_ ?_
        · rintro i y H4 H5 hi ⟨S4, hM4⟩ ⟨rfl, hy⟩
          obtain ⟨q, z, rfl, hz, hq⟩ := (hP.same (S3.trans S4)).at hy
          refine ⟨q, _, rfl, SqT.of hq, rfl, _, _, rfl, _, _, rfl, rfl, rfl, _, rfl, rfl, _, rfl, rfl, rfl, _, hM4, ?_, fun e o he => ?_, ?_⟩
          · rw [List.length_map, List.length_map, List.length_take]
            exact small5 (by omega)
          · rw [upd_ne (ne_of_none he hM)]
            exact S4 _ _ he
          · rw [dec_i, dec_i, dec_bl]
            exact all_lc (f := multC) (H := H5) (D := D) (us := us) hz hM4
        · rintro H4 ⟨S4, hM4⟩
          rw [hul, List.take_length] at hM4
          refine ⟨M, _, rfl, SqL.of hM4, _, rfl, ?_⟩
          rw [show (l.map multC).all id = l.all multC from by rw [List.all_map]; rfl]
          have := g2 H4 (S2.trans (S3.trans S4))
          unfold wordC at this
          rw [if_neg g1] at this
          refine ite2 (fun g3 => ?_) (fun g3 => ?_)
          · rw [if_pos g3] at this
            exact this
          · rw [if_neg g3] at this
            exact this

/-! ### a power -/
def spPower : Sp := fun vs H Q _ => ∃ b k : Int, vs = [.int b, .int k] ∧ 0 ≤ b ∧ b ≤ 1000 ∧ 0 ≤ k ∧ k ≤ 1000000 ∧ Q (.int (b ^ k.toNat)) H
theorem ok__law_power (T : Tx P K mg) : FnOk P w K mg base CX0 lv__law_power T.a__law_power T.d__law_power ["_law_base", "_law_many"] spPower := by
  refine T.F__law_power.ok sc__law_power (fun vs H Q E h => ?_) (fun cdv A outer s H vs Q E hr h => ?_)
  · obtain ⟨b, k, rfl, _⟩ := h
    rfl
  · obtain ⟨b, k, rfl, b0, b1, k0, k1, q⟩ := h
    refine ⟨_, (pss_cons (ps_set (i := 2) sc__law_power.nd rfl (Or.inl rfl) pe_int)
      (pss_cons (ps_for PassesOwn.never rfl (pi_range1 (by rfl) T.n_range (pa_cons (pv 1) pa_nil)) (pg_name (i := 3) sc__law_power.nd rfl (Or.inl rfl)) (pss_one (ps_set (i := 2) sc__law_power.nd rfl (Or.inl rfl) (pe_op op_mul (pv 2) (pv 0)))))
      (pss_one (ps_ret (pv 2))))), ?_⟩
    refine ⟨_, rfl, k, rfl, by omega, by omega, ?_⟩
    refine for_range (lo := 0) (fun i σ H2 => ∃ v : Option V, σ = [some (.int b), some (.int k), some (.int (b ^ i)), v] ∧ H2 = H) ⟨none, by rw [Int.pow_zero]; rfl, rfl⟩ ?_ ?_
    · rintro i σ H2 hi ⟨v, rfl, rfl⟩
      refine ⟨_, rfl, _, rfl, _, _, rfl, rfl, .inr ⟨by omega, by omega⟩, ?_⟩
      exact ⟨_, by rw [Int.pow_succ]; rfl, rfl⟩
    · rintro σ H2 ⟨v, rfl, rfl⟩
      exact ⟨_, rfl, q⟩

/-! ### a drawn trick's parts -/
def spLawTrick (K : PySem.W.Frag) : Sp := fun vs H Q _ => ∃ (r a : Addr) (ns : List Int) (small : Bool), vs = [.ref r, .bl small] ∧ RowAt K H r a ns ∧
  ∀ (b t m : Int) (q : Addr) (H' : Hp), 2 ≤ b → b ≤ 16 → 1 ≤ t → t ≤ 2 → (small = true → b ≤ 5 ∨ t = 1) → -100 ≤ m → m ≤ 100 → RowAt K H' r a ns → But r H H' → H q = none → H' q = some (.lst [.int b, .int t, .int m]) → q ≠ r → Q (.ref q) H'
theorem ok__law_trick (T : Tx P K mg) : FnOk P w K mg base CX0 lv__law_trick T.a__law_trick T.d__law_trick ["_law_row", "_law_small"] (spLawTrick K) := by
  refine T.F__law_trick.ok sc__law_trick (fun vs H Q E h => ?_) (fun cdv A outer s H vs Q E hr h => ?_)
  · obtain ⟨r, a, ns, sm, rfl, _⟩ := h
    rfl
  · obtain ⟨r, a, ns, sm, rfl, R0, k⟩ := h
    refine ⟨_, (Evl.pss_cut (ps_set (i := 2) sc__law_trick.nd rfl (Or.inr rfl) (pe_ix ix_list (pe_lst (pa_cons pe_int (pa_cons pe_int (pa_cons pe_int (pa_cons pe_int (pa_cons pe_int (pa_cons pe_int (pa_cons (pe_op op_add pe_int (pe_call (ok__law_taken T) (hr.mono (by decide)) rfl T.g__law_taken T.F__law_taken.kp T.b__law_taken .nil pass0 (pa_cons (pv 0) (pa_cons pe_int pa_nil)))) pa_nil)))))))) (pe_call (ok__law_taken T) (hr.mono (by decide)) rfl T.g__law_taken T.F__law_taken.kp T.b__law_taken .nil pass0 (pa_cons (pv 0) (pa_cons pe_int pa_nil))) (fun _ _ => rfl)))
      (Evl.pss_cut (ps_set (i := 3) sc__law_trick.nd rfl (Or.inr rfl) (pe_ifExp (PW.pt (pw_and (pt_val (pv 1)) (pw_and1 (pt_cmpR op_gt (pv 2) pe_int (nomark _))))) pe_int (pe_op op_add pe_int (pe_call (ok__law_taken T) (hr.mono (by decide)) rfl T.g__law_taken T.F__law_taken.kp T.b__law_taken .nil pass0 (pa_cons (pv 0) (pa_cons pe_int pa_nil))))))
      (Evl.pss_cut (ps_set (i := 4) sc__law_trick.nd rfl (Or.inl rfl) (pe_ix ix_list (pe_lst (pa_cons pe_int (pa_cons (pe_un un_neg pe_int) (pa_cons (pe_un un_neg pe_int) (pa_cons pe_int (pa_cons (pe_op op_sub (pe_call (ok__law_taken T) (hr.mono (by decide)) rfl T.g__law_taken T.F__law_taken.kp T.b__law_taken .nil pass0 (pa_cons (pv 0) (pa_cons pe_int pa_nil))) pe_int) (pa_cons (pe_op op_sub (pe_call (ok__law_taken T) (hr.mono (by decide)) rfl T.g__law_taken T.F__law_taken.kp T.b__law_taken .nil pass0 (pa_cons (pv 0) (pa_cons pe_int pa_nil))) pe_int) pa_nil))))))) (pe_call (ok__law_taken T) (hr.mono (by decide)) rfl T.g__law_taken T.F__law_taken.kp T.b__law_taken .nil pass0 (pa_cons (pv 0) (pa_cons pe_int pa_nil))) (fun _ _ => rfl)))
      (Evl.pss_cut (ps_if (pt_cmpR op_eq (pe_call (ok__law_taken T) (hr.mono (by decide)) rfl T.g__law_taken T.F__law_taken.kp T.b__law_taken .nil pass0 (pa_cons (pv 0) (pa_cons pe_int pa_nil))) pe_int (nomark _)) (pss_cons (ps_set (i := 5) sc__law_trick.nd rfl (Or.inr rfl) (pe_op op_add pe_int (pe_call (ok__law_taken T) (hr.mono (by decide)) rfl T.g__law_taken T.F__law_taken.kp T.b__law_taken .nil pass0 (pa_cons (pv 0) (pa_cons pe_int pa_nil)))))
      (pss_cons (ps_setLc (i := 6) (own := [("_law_one", 7)]) (g := gName 7) rfl sc__law_trick.nd rfl rfl (sw_true rfl rfl rfl (by decide +kernel)) (pi_range1 (by rfl) T.n_range (pa_cons (pv 5) pa_nil)) (blkOk_by (own := [("_law_one", 7)]) (N := ["_law_row", "_law_small", "_law_base", "_law_take", "_law_times", "_law_d", "_law_some", "_law_one"]) (sc := defScope s__law_trick) (by decide +kernel)) (fun _ _ _ _ _ => pg_name (i := 7) sc__law_trick.nd rfl (Or.inl rfl)) (fun _ _ _ _ _ => pts_one (pt_cmpR op_eq (pe_op op_modN (pe_op op_mul (pv 7) (pe_call (ok__law_power T) (hr.mono (by decide)) rfl T.g__law_power T.F__law_power.kp T.b__law_power .nil pass0 (pa_cons (pv 2) (pa_cons (pv 3) pa_nil)))) (pv 5)) pe_int (nomark _))) (fun _ _ _ _ _ => (pv 7)))
      (pss_one (ps_set (i := 4) sc__law_trick.nd rfl (Or.inl rfl) (pe_ifExp (pt_cmpR (op_neD hr.units) (pv 6) (pe_lst pa_nil) (nomark _)) (pe_op op_sub (pe_ix ix_list (pv 6) pe_int (fun _ _ => rfl)) (pe_op op_mul (pv 5) (pe_call (ok__law_taken T) (hr.mono (by decide)) rfl T.g__law_taken T.F__law_taken.kp T.b__law_taken .nil pass0 (pa_cons (pv 0) (pa_cons pe_int pa_nil))))) (pv 4)))))) pss_nil)
      (pss_one (ps_ret (pe_lst (pa_cons (pv 2) (pa_cons (pv 3) (pa_cons (pv 4) pa_nil)))))))))), ?_⟩
    -- the base
    refine ⟨fun σ H1 => ∃ b : Int, 2 ≤ b ∧ b ≤ 16 ∧ RowAt K H1 r a ns ∧ But r H H1 ∧ σ = [some (.ref r), some (.bl sm), some (.int b), none, none, none, none, none], ?_, ?_⟩
    · refine ⟨_, rfl, r, a, ns, _, rfl, by decide, by decide, R0, fun v H1 v0 v1 R1 B1 => ?_⟩
      refine ⟨_, _, rfl, rfl, by show 7 ≤ sizeLine; decide, fun p hp => ?_⟩
      refine ⟨_, rfl, menu (items := [10, 2, 3, 7, 8, 16, 2 + v]) (fun z => 2 ≤ z ∧ z ≤ 16) (by simp; omega) rfl R1 hp (fun z H2 hz R2 B2 _ => ?_) (by show (0 : Int) < 7; decide) (by show (7 : Int) ≤ 10 ^ 41; decide)⟩
      exact ⟨z, hz.1, hz.2, R2, B1.trans B2, rfl⟩
    rintro σ H1 ⟨b, b1, b2, R1, B1, rfl⟩
    -- the figures
    refine ⟨fun σ H2 => ∃ t : Int, 1 ≤ t ∧ t ≤ 2 ∧ (sm = true → b ≤ 5 ∨ t = 1) ∧ RowAt K H2 r a ns ∧ But r H H2 ∧ σ = [some (.ref r), some (.bl sm), some (.int b), some (.int t), none, none, none, none], ?_, ?_⟩
    · refine ⟨_, rfl, _, rfl, ?_⟩
      refine ite2 (fun g => ?_) (fun g => ?_)
      · refine ⟨_, rfl, _, _, rfl, rfl, _, rfl, ?_⟩
        refine ite2 (fun g2 => ?_) (fun g2 => ?_)
        · exact ⟨1, by decide, by decide, fun _ => .inr rfl, R1, B1, rfl⟩
        · refine ⟨_, rfl, r, a, ns, _, rfl, by decide, by decide, R1, fun v H2 v0 v1 R2 B2 => ?_⟩
          refine ⟨_, _, rfl, rfl, 1 + v, by omega, by omega, fun _ => .inl ?_, R2, B1.trans B2, rfl⟩
          simpa using g2
      · refine iteF ?_
        refine ⟨_, rfl, r, a, ns, _, rfl, by decide, by decide, R1, fun v H2 v0 v1 R2 B2 => ?_⟩
        exact ⟨_, _, rfl, rfl, 1 + v, by omega, by omega, fun z => absurd z g, R2, B1.trans B2, rfl⟩
    clear R1 B1
    rintro σ H1 ⟨t, t1, t2, hst, R1, B1, rfl⟩
    -- the multiplier
    refine ⟨fun σ H2 => ∃ m : Int, -100 ≤ m ∧ m ≤ 100 ∧ RowAt K H2 r a ns ∧ But r H H2 ∧ σ = [some (.ref r), some (.bl sm), some (.int b), some (.int t), some (.int m), none, none, none], ?_, ?_⟩
    · refine ⟨_, rfl, _, rfl, _, rfl, r, a, ns, _, rfl, by decide, by decide, R1, fun v H2 v0 v1 R2 B2 => ?_⟩
      refine ⟨_, _, rfl, rfl, _, rfl, r, a, ns, _, rfl, by decide, by decide, R2, fun v' H3 v0' v1' R3 B3 => ?_⟩
      refine ⟨_, _, rfl, rfl, by show 6 ≤ sizeLine; decide, fun p hp => ?_⟩
      refine ⟨_, rfl, menu (items := [1, -1, -2, 0, v - 10, v' - 100]) (fun z => -100 ≤ z ∧ z ≤ 100) (by simp; omega) rfl R3 hp (fun z H4 hz R4 B4 _ => ?_) (by show (0 : Int) < 6; decide) (by show (6 : Int) ≤ 10 ^ 41; decide)⟩
      exact ⟨z, hz.1, hz.2, R4, B1.trans (B2.trans (B3.trans B4)), rfl⟩
    clear R1 B1
    rintro σ H1 ⟨m, m1, m2, R1, B1, rfl⟩
    -- a multiplier that tells multiples
    refine ⟨fun σ H2 => ∃ (m : Int) (x y z : Option V), -100 ≤ m ∧ m ≤ 100 ∧ RowAt K H2 r a ns ∧ But r H H2 ∧ σ = [some (.ref r), some (.bl sm), some (.int b), some (.int t), some (.int m), x, y, z], ?_, ?_⟩
    · refine ⟨_, rfl, r, a, ns, _, rfl, by decide, by decide, R1, fun v H2 v0 v1 R2 B2 => ?_⟩
      refine ⟨rfl, _, rfl, ?_⟩
      refine ite2 (fun g => ?_) (fun g => ?_)
      · refine ⟨_, rfl, r, a, ns, _, rfl, by decide, by decide, R2, fun d' H3 d0 d1 R3 B3 => ?_⟩
        refine ⟨_, _, rfl, rfl, ?_⟩
        dsimp only
        generalize hd : 2 + d' = d
        refine ⟨_, rfl, d, rfl, by omega, by omega, fun D hD => ?_⟩
        have hDr := R3.ne hD
        refine lc_range (lo := 0) (n := d.toNat) (fun i H4 => ∃ acc : List Int, (∀ z ∈ acc, 0 ≤ z ∧ z < d) ∧ acc.length ≤ i ∧ H4 = upd H3 D (.lst (acc.map V.int))) ⟨[], by simp, Nat.le_refl _, rfl⟩ ?_ ?_
        · rintro i H4 hi ⟨acc, hacc, hlen, rfl⟩
          refine ⟨rfl, ?_⟩
          refine ⟨_, rfl, _, rfl, _, rfl, b, t, rfl, by omega, by omega, by omega, by omega, ?_⟩
          refine ⟨_, _, rfl, rfl, .inl ⟨by omega, by omega⟩, _, rfl, _, _, rfl, rfl, (show d ≠ 0 by omega), rfl, _, rfl, ?_⟩
          refine ite2 (fun g2 => ?_) (fun g2 => ?_)
          · refine ⟨_, rfl, _, upd_same, by rw [List.length_map]; exact small1000 (by omega), acc ++ [(0 : Int) + (i : Int)], ?_, by simp; omega, by rw [upd_upd, List.map_append]; rfl⟩
            intro z hz
            rcases List.mem_append.mp hz with hz | hz
            · exact hacc z hz
            · have ez : z = 0 + (i : Int) := by simpa using hz
              omega
          · exact ⟨acc, hacc, by omega, rfl⟩
        · rintro H4 ⟨acc, hacc, hlen, rfl⟩
          have R4 := R3.new (o := .lst (acc.map V.int)) hD
          have B4 := (B2.trans B3).new (o := .lst (acc.map V.int)) hD
          have eD : upd H3 D (.lst (acc.map V.int)) D = some (.lst (acc.map V.int)) := upd_same
          generalize upd H3 D (.lst (acc.map V.int)) = H4 at R4 B4 eD ⊢
          refine ⟨_, rfl, by show 0 ≤ sizeLine; decide, fun p hp => ?_⟩
          have npD : D ≠ p := ne_of_none eD hp
          refine ⟨_, _, dp_ints (SqL.of (by rw [upd_ne npD]; exact eD)), dp_ints (ns := []) (SqL.of upd_same), shaped_lints _, shaped_lints _, ?_⟩
          rw [eqv_ints]
          refine ⟨_, rfl, ?_⟩
          refine ite2 (fun g2 => ?_) (fun g2 => ?_)
          · have hne : acc ≠ [] := by simpa using g2
            obtain ⟨z, acc', rfl⟩ : ∃ z acc', acc = z :: acc' := by
              cases acc with
              | nil => exact absurd rfl hne
              | cons z acc' => exact ⟨z, acc', rfl⟩
            obtain ⟨z0, z1⟩ := hacc z List.mem_cons_self
            refine ⟨_, rfl, D, _, _, _, rfl, rfl, SqL.of (by rw [upd_ne npD]; exact eD), at_of (j := 0) rfl rfl, _, rfl, _, rfl, r, a, ns, _, rfl, by decide, by decide, R4.new hp, fun v3 H5 v30 v31 R5 B5 => ?_⟩
            refine ⟨_, _, rfl, rfl, .inl ⟨by omega, by omega⟩, _, _, rfl, rfl, ?_⟩
            refine ⟨z - d * v3, _, _, _, ?_, ?_, R5, (B1.trans (B4.new hp)).trans B5, rfl⟩
            · have q : d * v3 ≤ d * 1 := Int.mul_le_mul_of_nonneg_left (by omega) (by omega)
              omega
            · have q : 0 ≤ d * v3 := Int.mul_nonneg (by omega) v30
              omega
          · exact ⟨_, rfl, m, _, _, _, m1, m2, R4.new hp, B1.trans (B4.new hp), rfl⟩
      · exact ⟨m, none, none, none, m1, m2, R2, B1.trans B2, rfl⟩
    clear R1 B1 m1 m2
    rintro σ H1 ⟨m, x, y, z, m1, m2, R1, B1, rfl⟩
    refine ⟨_, rfl, _, rfl, _, rfl, by show 3 ≤ sizeLine; decide, fun q hq => ?_⟩
    exact k b t m q _ b1 b2 t1 t2 hst m1 m2 (R1.new hq) (B1.new hq) (B1.free (R1.ne hq) hq) upd_same (R1.ne hq)

/-! ### a drawn number -/
def spNumber (K : PySem.W.Frag) : Sp := fun vs H Q _ => ∃ (r a : Addr) (ns : List Int), vs = [.ref r] ∧ RowAt K H r a ns ∧ ∀ (v : Int) (H' : Hp), -(10 ^ 40) ≤ v → v ≤ 10 ^ 40 → RowAt K H' r a ns → But r H H' → Q (.int v) H'
theorem ok__law_number (T : Tx P K mg) : FnOk P w K mg base CX0 lv__law_number T.a__law_number T.d__law_number ["_law_row"] (spNumber K) := by
  refine T.F__law_number.ok sc__law_number (fun vs H Q E h => ?_) (fun cdv A outer s H vs Q E hr h => ?_)
  · obtain ⟨r, a, ns, rfl, _⟩ := h
    rfl
  · obtain ⟨r, a, ns, rfl, R0, k⟩ := h
    refine ⟨_, (Evl.pss_cut (ps_set (i := 1) sc__law_number.nd rfl (Or.inl rfl) (pe_ix ix_list (pe_lst (pa_cons pe_int (pa_cons pe_int (pa_cons (pe_op op_pow pe_int pe_int) (pa_cons (pe_op op_pow pe_int pe_int) pa_nil))))) (pe_call (ok__law_taken T) (hr.mono (by decide)) rfl T.g__law_taken T.F__law_taken.kp T.b__law_taken .nil pass0 (pa_cons (pv 0) (pa_cons pe_int pa_nil))) (fun _ _ => rfl)))
      (Evl.pss_cut (ps_set (i := 2) sc__law_number.nd rfl (Or.inl rfl) (pe_ifExp (pt_cmpR op_gt (pe_call (ok__law_taken T) (hr.mono (by decide)) rfl T.g__law_taken T.F__law_taken.kp T.b__law_taken .nil pass0 (pa_cons (pv 0) (pa_cons pe_int pa_nil))) pe_int (nomark _)) (pe_call (ok__law_taken T) (hr.mono (by decide)) rfl T.g__law_taken T.F__law_taken.kp T.b__law_taken .nil pass0 (pa_cons (pv 0) (pa_cons (pe_op op_add (pv 1) pe_int) pa_nil))) (pv 1)))
      (pss_one (ps_ret (pe_ifExp (pt_cmpR op_gt (pe_call (ok__law_taken T) (hr.mono (by decide)) rfl T.g__law_taken T.F__law_taken.kp T.b__law_taken .nil pass0 (pa_cons (pv 0) (pa_cons pe_int pa_nil))) pe_int (nomark _)) (pv 2) (pe_un un_neg (pv 2))))))), ?_⟩
    refine ⟨fun σ H1 => ∃ z : Int, 1 ≤ z ∧ z ≤ 10 ^ 40 ∧ RowAt K H1 r a ns ∧ But r H H1 ∧ σ = [some (.ref r), some (.int z), none], ?_, ?_⟩
    · refine ⟨_, _, rfl, rfl, ⟨by decide, by decide, by decide⟩, _, _, rfl, rfl, ⟨by decide, by decide, by decide⟩, by show 4 ≤ sizeLine; decide, fun p hp => ?_⟩
      refine ⟨_, rfl, menu (items := [9, 200, 10 ^ (6 : Int).toNat, 10 ^ (40 : Int).toNat]) (fun z => 1 ≤ z ∧ z ≤ 10 ^ 40) ?_ rfl R0 hp (fun z H2 hz R2 B2 _ => ?_) (by show (0 : Int) < 4; decide) (by show (4 : Int) ≤ 10 ^ 41; decide)⟩
      · intro z hz
        rcases List.mem_cons.mp hz with rfl | hz
        · decide
        rcases List.mem_cons.mp hz with rfl | hz
        · decide
        rcases List.mem_cons.mp hz with rfl | hz
        · decide
        rcases List.mem_cons.mp hz with rfl | hz
        · decide
        · cases hz
      · exact ⟨z, hz.1, hz.2, R2, B2, rfl⟩
    rintro σ H1 ⟨z, z1, z2, R1, B1, rfl⟩
    refine ⟨fun σ H2 => ∃ n : Int, 0 ≤ n ∧ n ≤ 10 ^ 40 ∧ RowAt K H2 r a ns ∧ But r H H2 ∧ σ = [some (.ref r), some (.int z), some (.int n)], ?_, ?_⟩
    · refine ⟨_, rfl, r, a, ns, _, rfl, by decide, by decide, R1, fun v H2 v0 v1 R2 B2 => ?_⟩
      refine ⟨_, _, rfl, rfl, _, rfl, ?_⟩
      refine ite2 (fun g => ?_) (fun g => ?_)
      · refine ⟨_, rfl, _, rfl, _, _, rfl, rfl, r, a, ns, _, rfl, by omega, by omega, R2, fun n H3 n0 n1 R3 B3 => ?_⟩
        exact ⟨n, n0, by omega, R3, B1.trans (B2.trans B3), rfl⟩
      · exact ⟨_, rfl, z, by omega, z2, R2, B1.trans B2, rfl⟩
    clear R1 B1
    rintro σ H1 ⟨n, n0, n1, R1, B1, rfl⟩
    refine ⟨_, rfl, r, a, ns, _, rfl, by decide, by decide, R1, fun v H2 v0 v1 R2 B2 => ?_⟩
    refine ⟨_, _, rfl, rfl, _, rfl, ?_⟩
    refine ite2 (fun g => ?_) (fun g => ?_)
    · exact ⟨_, rfl, k n H2 (by omega) n1 R2 (B1.trans B2)⟩
    · exact ⟨_, rfl, _, rfl, k (-n) H2 (by omega) (by omega) R2 (B1.trans B2)⟩

/-! ### rests of powers, until one comes again or there are twenty -/
def simI (B d : Int) : Nat → List Int → Int → List Int × Int
  | 0, s, r => (s, r)
  | n + 1, s, r => if s.elem r then (s, r) else simI B d n (s ++ [r]) (r * B % d)
/-- where the rest stands in the list -/
def idxI (r : Int) : List Int → Nat
  | [] => 0
  | z :: s => if z == r then 0 else idxI r s + 1
def simOk (B d : Int) : Bool :=
  let F := simI B d 20 [] (1 % d)
  let j := if F.1.elem F.2 then idxI F.2 F.1 else 0
  decide (j ≤ 11) && (decide (j < F.1.length) && (decide (F.1.length ≤ 20) && (F.1.all fun z => decide (0 ≤ z) && decide (z < d))))
theorem simAll : ((List.range 15).all fun b => (List.range 2).all fun t => (List.range 30).all fun d => simOk (((b + 2 : Nat) : Int) ^ (t + 1)) ((d + 1 : Nat) : Int)) = true := by decide +kernel
theorem sim_ok {b t d : Int} (b1 : 2 ≤ b) (b2 : b ≤ 16) (t1 : 1 ≤ t) (t2 : t ≤ 2) (d1 : 1 ≤ d) (d2 : d ≤ 30) : simOk (b ^ t.toNat) d = true := by
  have h := simAll
  rw [List.all_eq_true] at h
  have h1 := h (b - 2).toNat (List.mem_range.mpr (by omega))
  rw [List.all_eq_true] at h1
  have h2 := h1 (t - 1).toNat (List.mem_range.mpr (by omega))
  rw [List.all_eq_true] at h2
  have h3 := h2 (d - 1).toNat (List.mem_range.mpr (by omega))
  rw [show (((b - 2).toNat + 2 : Nat) : Int) = b by omega, show (t - 1).toNat + 1 = t.toNat by omega, show (((d - 1).toNat + 1 : Nat) : Int) = d by omega] at h3
  exact h3
theorem idxI_spec {r : Int} : ∀ {s : List Int}, s.elem r = true → s[idxI r s]? = some r ∧ ∀ m, m < idxI r s → ∀ z, s[m]? = some z → z ≠ r
  | [], h => by cases h
  | z :: s, h => by
    by_cases e : z = r
    · subst e
      have e0 : idxI z (z :: s) = 0 := by simp [idxI]
      rw [e0]
      exact ⟨rfl, fun m hm => absurd hm (Nat.not_lt_zero _)⟩
    · have e0 : idxI r (z :: s) = idxI r s + 1 := by simp [idxI, e]
      rw [e0]
      have h' : s.elem r = true := by
        have := List.elem_iff.mp h
        rcases List.mem_cons.mp this with q | q
        · exact absurd q.symm e
        · exact List.elem_iff.mpr q
      obtain ⟨i1, i2⟩ := idxI_spec h'
      refine ⟨i1, fun m hm y hy => ?_⟩
      cases m with
      | zero =>
        cases hy
        exact e
      | succ m => exact i2 m (by omega) y hy
theorem sim_stop {B d r : Int} {s : List Int} {n : Nat} (h : s.elem r = true ∨ n = 0) : simI B d n s r = (s, r) := by
  cases n with
  | zero => rfl
  | succ n =>
    rcases h with h | h
    · simp only [simI, h, if_true]
    · cases h
theorem sim_go {B d r : Int} {s : List Int} {n : Nat} (h : s.elem r = false) : simI B d (n + 1) s r = simI B d n (s ++ [r]) (r * B % d) := by
  simp only [simI, h]
  simp

/-! ### the law's sums -/
def WOk (z : Int) : Prop := -1000 ≤ z ∧ z ≤ 1000
structure SumOk (b t : Int) (fs ls : List Int) : Prop where
  b1 : 2 ≤ b
  b2 : b ≤ 16
  t1 : 1 ≤ t
  t2 : t ≤ 2
  lf : fs.length ≤ 11
  l1 : 1 ≤ ls.length
  l2 : ls.length ≤ 12
  wf : ∀ z ∈ fs, WOk z
  wl : ∀ z ∈ ls, WOk z
theorem But.putN {r p : Addr} {H H1 : Hp} {o : HO} (b : But r H H1) (hp : H p = none) : But r H (upd H1 p o) := fun c o' e n => by
  rw [upd_ne (ne_of_none e hp)]
  exact b c o' e n
theorem mul01 {u w : Int} (u0 : 0 ≤ u) (u1 : u < 2) (w0 : 0 ≤ w) (w1 : w < 2) : 0 ≤ u * w ∧ u * w ≤ 1 := by
  obtain rfl | rfl : u = 0 ∨ u = 1 := by omega
  · rw [Int.zero_mul]; omega
  · rw [Int.one_mul]; omega
/-- weights by a unit and shifts -/
theorem wok_unit {z u d v : Int} (z0 : 0 ≤ z) (z1 : z < d) (u1 : 1 ≤ u) (u2 : u ≤ 30) (d1 : 1 ≤ d) (d2 : d ≤ 30) (v0 : 0 ≤ v) (v1 : v < 3) : -900 ≤ z * u + d * (v - 1) ∧ z * u + d * (v - 1) ≤ 900 := by
  have h1 : z * u ≤ 29 * 30 := Int.mul_le_mul (by omega) u2 (by omega) (by omega)
  have h2 : 0 ≤ z * u := Int.mul_nonneg z0 (by omega)
  obtain rfl | rfl | rfl : v = 0 ∨ v = 1 ∨ v = 2 := by omega
  · omega
  · omega
  · omega
def spLawSum (K : PySem.W.Frag) : Sp := fun vs H Q _ => ∃ (r a : Addr) (ns : List Int) (d : Int), vs = [.ref r, .int d] ∧ 1 ≤ d ∧ d ≤ 30 ∧ RowAt K H r a ns ∧
  ∀ (b t : Int) (fs ls : List Int) (q f l : Addr) (H' : Hp), SumOk b t fs ls → RowAt K H' r a ns → But r H H' → H' q = some (.lst [.int b, .int t, .ref f, .ref l]) → H' f = some (.tup (fs.map V.int)) → H' l = some (.tup (ls.map V.int)) → q ≠ r → H q = none → Q (.ref q) H'
theorem ok__law_sum (T : Tx P K mg) : FnOk P w K mg base CX0 lv__law_sum T.a__law_sum T.d__law_sum ["_law_row", "_law_d"] (spLawSum K) := by
  refine T.F__law_sum.ok sc__law_sum (fun vs H Q E h => ?_) (fun cdv A outer s H vs Q E hr h => ?_)
  · obtain ⟨r, a, ns, d, rfl, _⟩ := h
    rfl
  · obtain ⟨r, a, ns, d, rfl, d1, d2, R0, k⟩ := h
    have nd : d ≠ 0 := by omega
    refine ⟨_, (Evl.pss_cut (ps_par (i := 2) (j := 3) rfl sc__law_sum.nd rfl rfl (by decide) rfl rfl (pa_cons (pe_ix ix_list (pe_lst (pa_cons pe_int (pa_cons pe_int (pa_cons pe_int (pa_cons pe_int (pa_cons (pe_op op_add pe_int (pe_call (ok__law_taken T) (hr.mono (by decide)) rfl T.g__law_taken T.F__law_taken.kp T.b__law_taken .nil pass0 (pa_cons (pv 0) (pa_cons pe_int pa_nil)))) pa_nil)))))) (pe_call (ok__law_taken T) (hr.mono (by decide)) rfl T.g__law_taken T.F__law_taken.kp T.b__law_taken .nil pass0 (pa_cons (pv 0) (pa_cons pe_int pa_nil))) (fun _ _ => rfl)) (pa_cons (pe_op op_add pe_int (pe_op op_mul (pe_call (ok__law_taken T) (hr.mono (by decide)) rfl T.g__law_taken T.F__law_taken.kp T.b__law_taken .nil pass0 (pa_cons (pv 0) (pa_cons pe_int pa_nil))) (pe_call (ok__law_taken T) (hr.mono (by decide)) rfl T.g__law_taken T.F__law_taken.kp T.b__law_taken .nil pass0 (pa_cons (pv 0) (pa_cons pe_int pa_nil))))) pa_nil)) (by rfl))
      (Evl.pss_cut (ps_par (i := 4) (j := 5) rfl sc__law_sum.nd rfl rfl (by decide) rfl rfl (pa_cons (pe_call (ok__law_power T) (hr.mono (by decide)) rfl T.g__law_power T.F__law_power.kp T.b__law_power .nil pass0 (pa_cons (pv 2) (pa_cons (pv 3) pa_nil))) (pa_cons (pe_call (ok__law_taken T) (hr.mono (by decide)) rfl T.g__law_taken T.F__law_taken.kp T.b__law_taken .nil pass0 (pa_cons (pv 0) (pa_cons pe_int pa_nil))) pa_nil)) (by rfl))
      (Evl.pss_cut (ps_setLc (i := 6) (own := [("_law_k", 12)]) (g := gName 12) (tt := tYes) rfl sc__law_sum.nd rfl rfl (sw_true rfl rfl rfl (by decide +kernel)) (pi_range1 (by rfl) T.n_range (pa_cons (pe_call (ok__law_taken T) (hr.mono (by decide)) rfl T.g__law_taken T.F__law_taken.kp T.b__law_taken .nil pass0 (pa_cons (pv 0) (pa_cons pe_int pa_nil))) pa_nil)) (blkOk_by (own := [("_law_k", 12)]) (N := ["_law_row", "_law_d", "_law_base", "_law_take", "_law_block", "_law_kind", "_law_first", "_law_loop", "_law_some", "_law_rest", "_law_at", "_law_unit", "_law_k", "_law_weight"]) (sc := defScope s__law_sum) (by decide +kernel)) (fun _ _ _ _ _ => pg_name (i := 12) sc__law_sum.nd rfl (Or.inl rfl)) (fun _ _ _ _ _ => pts_nil) (fun _ _ _ _ _ => (pe_op op_sub (pe_call (ok__law_taken T) (hr.mono (by decide)) rfl T.g__law_taken T.F__law_taken.kp T.b__law_taken .nil pass0 (pa_cons (pv 0) (pa_cons pe_int pa_nil))) pe_int)))
      (Evl.pss_cut (ps_setLc (i := 7) (own := [("_law_k", 12)]) (g := gName 12) (tt := tYes) rfl sc__law_sum.nd rfl rfl (sw_true rfl rfl rfl (by decide +kernel)) (pi_range1 (by rfl) T.n_range (pa_cons (pe_op op_add pe_int (pe_call (ok__law_taken T) (hr.mono (by decide)) rfl T.g__law_taken T.F__law_taken.kp T.b__law_taken .nil pass0 (pa_cons (pv 0) (pa_cons pe_int pa_nil)))) pa_nil)) (blkOk_by (own := [("_law_k", 12)]) (N := ["_law_row", "_law_d", "_law_base", "_law_take", "_law_block", "_law_kind", "_law_first", "_law_loop", "_law_some", "_law_rest", "_law_at", "_law_unit", "_law_k", "_law_weight"]) (sc := defScope s__law_sum) (by decide +kernel)) (fun _ _ _ _ _ => pg_name (i := 12) sc__law_sum.nd rfl (Or.inl rfl)) (fun _ _ _ _ _ => pts_nil) (fun _ _ _ _ _ => (pe_op op_sub (pe_call (ok__law_taken T) (hr.mono (by decide)) rfl T.g__law_taken T.F__law_taken.kp T.b__law_taken .nil pass0 (pa_cons (pv 0) (pa_cons pe_int pa_nil))) pe_int)))
      (Evl.pss_cut (ps_if (pt_cmpR op_gt (pv 5) pe_int (nomark _)) (Evl.pss_cut (ps_par (i := 8) (j := 9) rfl sc__law_sum.nd rfl rfl (by decide) rfl rfl (pa_cons (pe_lst pa_nil) (pa_cons (pe_op op_modN pe_int (pv 1)) pa_nil)) (by rfl))
      (Evl.pss_cut (ps_while PassesOwn.never (PW.pt (pw_and (pt_cmpR op_notIn_seq (pv 9) (pv 8) (by with_unfolding_all rfl)) (pw_and1 (pt_cmpR op_lt (pe_callB call_len_seq (by rfl) T.n_len (by decide +kernel) (pa_cons (pv 8) pa_nil)) pe_int (nomark _))))) (pss_cons (ps_expr (pe_bm PySem.F.plainAttrs_list PySem.F.slot_list_append PySem.F.type_list_append mt_append (pv 8) (pa_cons (pv 9) pa_nil)))
      (pss_one (ps_set (i := 9) sc__law_sum.nd rfl (Or.inl rfl) (pe_op op_modN (pe_op op_mul (pv 9) (pv 4)) (pv 1))))))
      (Evl.pss_cut (ps_set (i := 10) sc__law_sum.nd rfl (Or.inl rfl) (pe_ifExp (pt_cmpR op_in_seq (pv 9) (pv 8) (by with_unfolding_all rfl)) (pe_bm PySem.F.plainAttrs_list PySem.F.slot_list_index PySem.F.type_list_index mt_index (pv 8) (pa_cons (pv 9) pa_nil)) pe_int))
      (Evl.pss_cut (ps_par (i := 6) (j := 7) rfl sc__law_sum.nd rfl rfl (by decide) rfl rfl (pa_cons (pe_slice sl_list (pv 8) po_none (po_some (pv 10))) (pa_cons (pe_slice sl_list (pv 8) (po_some (pv 10)) po_none) pa_nil)) (by rfl))
      (Evl.pss_cut (ps_if (pt_cmpR op_gt (pe_callB call_len_seq (by rfl) T.n_len (by decide +kernel) (pa_cons (pv 7) pa_nil)) pe_int (nomark _)) (pss_one (ps_set (i := 7) sc__law_sum.nd rfl (Or.inl rfl) (pe_slice sl_list (pv 7) po_none (po_some pe_int)))) pss_nil)
      (Evl.pss_cut (ps_set (i := 11) sc__law_sum.nd rfl (Or.inr rfl) (pe_ifExp (pt_cmpR op_eq (pv 5) pe_int (nomark _)) (pe_op op_add pe_int (pe_call (ok__law_taken T) (hr.mono (by decide)) rfl T.g__law_taken T.F__law_taken.kp T.b__law_taken .nil pass0 (pa_cons (pv 0) (pa_cons (pv 1) pa_nil)))) pe_int))
      (Evl.pss_cut (ps_setLc (i := 6) (own := [("_law_weight", 13)]) (g := gName 13) (tt := tYes) rfl sc__law_sum.nd rfl rfl (sw_true rfl rfl rfl (by decide +kernel)) (pi_list (pv 6)) (blkOk_by (own := [("_law_weight", 13)]) (N := ["_law_row", "_law_d", "_law_base", "_law_take", "_law_block", "_law_kind", "_law_first", "_law_loop", "_law_some", "_law_rest", "_law_at", "_law_unit", "_law_k", "_law_weight"]) (sc := defScope s__law_sum) (by decide +kernel)) (fun _ _ _ _ _ => pg_name (i := 13) sc__law_sum.nd rfl (Or.inl rfl)) (fun _ _ _ _ _ => pts_nil) (fun _ _ _ _ _ => (pe_op op_add (pe_op op_mul (pv 13) (pv 11)) (pe_op op_mul (pv 1) (pe_op op_sub (pe_call (ok__law_taken T) (hr.mono (by decide)) rfl T.g__law_taken T.F__law_taken.kp T.b__law_taken .nil pass0 (pa_cons (pv 0) (pa_cons pe_int pa_nil))) pe_int)))))
      (Evl.pss_cut (ps_setLc (i := 7) (own := [("_law_weight", 13)]) (g := gName 13) (tt := tYes) rfl sc__law_sum.nd rfl rfl (sw_true rfl rfl rfl (by decide +kernel)) (pi_list (pv 7)) (blkOk_by (own := [("_law_weight", 13)]) (N := ["_law_row", "_law_d", "_law_base", "_law_take", "_law_block", "_law_kind", "_law_first", "_law_loop", "_law_some", "_law_rest", "_law_at", "_law_unit", "_law_k", "_law_weight"]) (sc := defScope s__law_sum) (by decide +kernel)) (fun _ _ _ _ _ => pg_name (i := 13) sc__law_sum.nd rfl (Or.inl rfl)) (fun _ _ _ _ _ => pts_nil) (fun _ _ _ _ _ => (pe_op op_add (pe_op op_mul (pv 13) (pv 11)) (pe_op op_mul (pv 1) (pe_op op_sub (pe_call (ok__law_taken T) (hr.mono (by decide)) rfl T.g__law_taken T.F__law_taken.kp T.b__law_taken .nil pass0 (pa_cons (pv 0) (pa_cons pe_int pa_nil))) pe_int)))))
      (pss_one (ps_if (pt_cmpR op_eq (pv 5) pe_int (nomark _)) (Evl.pss_cut (ps_set (i := 10) sc__law_sum.nd rfl (Or.inl rfl) (pe_call (ok__law_taken T) (hr.mono (by decide)) rfl T.g__law_taken T.F__law_taken.kp T.b__law_taken .nil pass0 (pa_cons (pv 0) (pa_cons (pe_callB call_len_seq (by rfl) T.n_len (by decide +kernel) (pa_cons (pv 7) pa_nil)) pa_nil))))
      (pss_one (ps_asg (pe_op op_add (pe_ix ix_list (pv 7) (pv 10) (fun _ _ => rfl)) pe_int) (pg_sub (pv 7) (pv 10) set_list)))) pss_nil)))))))))) pss_nil)
      (pss_one (ps_ret (pe_lst (pa_cons (pv 2) (pa_cons (pv 3) (pa_cons (pe_callTy call_tuple_of (by rfl) T.n_tuple (by decide +kernel) (pa_cons (pv 6) pa_nil)) (pa_cons (pe_callTy call_tuple_of (by rfl) T.n_tuple (by decide +kernel) (pa_cons (pv 7) pa_nil)) pa_nil)))))))))))), ?_⟩
    -- the base, the figures
    refine ⟨fun σ H1 => ∃ b t : Int, 2 ≤ b ∧ b ≤ 16 ∧ 1 ≤ t ∧ t ≤ 2 ∧ RowAt K H1 r a ns ∧ But r H H1 ∧ σ = [some (.ref r), some (.int d), some (.int b), some (.int t), none, none, none, none, none, none, none, none, none, none], ?_, ?_⟩
    · refine ⟨_, rfl, r, a, ns, _, rfl, by decide, by decide, R0, fun v H3 v0 v1 R3 B3 => ?_⟩
      refine ⟨_, _, rfl, rfl, by show 5 ≤ sizeLine; decide, fun p hp => ⟨_, rfl, ?_⟩⟩
      refine menu (items := [10, 2, 3, 6, 2 + v]) (fun z => 2 ≤ z ∧ z ≤ 16) (by
        intro z hz
        simp only [List.mem_cons, List.not_mem_nil, or_false] at hz
        omega) rfl R3 hp (fun b H4 hb R4 B4 _ => ?_) (by show (0 : Int) < 5; decide) (by show (5 : Int) ≤ 10 ^ 41; decide)
      refine ⟨_, rfl, r, a, ns, _, rfl, by decide, by decide, R4, fun u H5 u0 u1 R5 B5 => ?_⟩
      refine ⟨_, rfl, r, a, ns, _, rfl, by decide, by decide, R5, fun x H6 x0 x1 R6 B6 => ?_⟩
      obtain ⟨m0, m1⟩ := mul01 u0 u1 x0 x1
      exact ⟨_, _, rfl, rfl, .inl ⟨by omega, by omega⟩, _, _, rfl, rfl, _, _, rfl, b, 1 + u * x, hb.1, hb.2, by omega, by omega, R6, B3.trans (B4.trans (B5.trans B6)), rfl⟩
    clear R0
    rintro σ H1 ⟨b, t, b1, b2, t1, t2, R1, B1, rfl⟩
    have hB2 : 2 ≤ b ^ t.toNat ∧ b ^ t.toNat ≤ 256 := by
      obtain rfl | rfl : t = 1 ∨ t = 2 := by omega
      · rw [show (1 : Int).toNat = 1 from rfl, Int.pow_one]; omega
      · rw [show (2 : Int).toNat = 2 from rfl, Int.pow_succ, Int.pow_one]
        have h1 : b * b ≤ 16 * 16 := Int.mul_le_mul b2 b2 (by omega) (by omega)
        have h2 : 2 * 2 ≤ b * b := Int.mul_le_mul b1 b1 (by omega) (by omega)
        omega
    refine ⟨fun σ H2 => ∃ kd : Int, 0 ≤ kd ∧ kd < 4 ∧ RowAt K H2 r a ns ∧ But r H H2 ∧ σ = [some (.ref r), some (.int d), some (.int b), some (.int t), some (.int (b ^ t.toNat)), some (.int kd), none, none, none, none, none, none, none, none], ?_, ?_⟩
    · refine ⟨_, rfl, _, rfl, b, t, rfl, by omega, by omega, by omega, by omega, _, rfl, r, a, ns, _, rfl, by decide, by decide, R1, fun v H3 v0 v1 R3 B3 => ?_⟩
      exact ⟨_, _, rfl, v, v0, v1, R3, B1.trans B3, rfl⟩
    clear R1 B1
    rintro σ H1 ⟨kd, kd0, kd1, R1, B1, rfl⟩
    refine ⟨fun σ H2 => ∃ (f : Addr) (fs : List Int), f ≠ r ∧ H f = none ∧ H2 f = some (.lst (fs.map V.int)) ∧ fs.length ≤ 11 ∧ (∀ z ∈ fs, WOk z) ∧ RowAt K H2 r a ns ∧ But r H H2 ∧ σ = [some (.ref r), some (.int d), some (.int b), some (.int t), some (.int (b ^ t.toNat)), some (.int kd), some (.ref f), none, none, none, none, none, none, none], ?_, ?_⟩
    · refine ⟨_, rfl, r, a, ns, _, rfl, by decide, by decide, R1, fun v H3 v0 v1 R3 B3 => ?_⟩
      refine ⟨v, rfl, by omega, by omega, fun f hf => ?_⟩
      have nfr := R3.ne hf
      have hf0 : H f = none := (B1.trans B3).free nfr hf
      refine lc_range (lo := 0) (n := v.toNat) (fun i H4 => RowAt K H4 r a ns ∧ But r H H4 ∧ ∃ fs : List Int, fs.length = i ∧ (∀ z ∈ fs, WOk z) ∧ H4 f = some (.lst (fs.map V.int))) ⟨R3.new hf, (B1.trans B3).new hf, [], rfl, fun _ z => (nomatch z), upd_same⟩ ?_ ?_
      · rintro i H4 hi ⟨R4, B4, fs, hfs, wf, hL⟩
        refine ⟨rfl, _, rfl, r, a, ns, _, rfl, by decide, by decide, R4, fun u H5 u0 u1 R5 B5 => ?_⟩
        have hL5 := B5 _ _ hL nfr
        refine ⟨_, _, rfl, rfl, _, hL5, by rw [List.length_map]; exact small1000 (by omega), R5.put hL5 nfr, (B4.trans B5).putN hf0, fs ++ [u - 4], by simp; omega, fun z hz => ?_, by rw [upd_same, List.map_append]; rfl⟩
        rcases List.mem_append.mp hz with hz | hz
        · exact wf z hz
        · rw [List.mem_singleton.mp hz]
          exact ⟨by omega, by omega⟩
      · rintro H4 ⟨R4, B4, fs, hfs, wf, hL⟩
        exact ⟨f, fs, nfr, hf0, hL, by omega, wf, R4, B4, rfl⟩
    clear R1 B1
    rintro σ H1 ⟨f, fs, nfr, hf0, hf, lf, wf, R1, B1, rfl⟩
    refine ⟨fun σ H2 => ∃ (l : Addr) (ls : List Int), l ≠ r ∧ H l = none ∧ l ≠ f ∧ H2 f = some (.lst (fs.map V.int)) ∧ H2 l = some (.lst (ls.map V.int)) ∧ 1 ≤ ls.length ∧ ls.length ≤ 12 ∧ (∀ z ∈ ls, WOk z) ∧ RowAt K H2 r a ns ∧ But r H H2 ∧ σ = [some (.ref r), some (.int d), some (.int b), some (.int t), some (.int (b ^ t.toNat)), some (.int kd), some (.ref f), some (.ref l), none, none, none, none, none, none], ?_, ?_⟩
    · refine ⟨_, rfl, r, a, ns, _, rfl, by decide, by decide, R1, fun v H3 v0 v1 R3 B3 => ?_⟩
      have hf3 := B3 _ _ hf nfr
      refine ⟨_, _, rfl, rfl, 1 + v, rfl, by omega, by omega, fun l hl => ?_⟩
      have nlr := R3.ne hl
      have nlf : l ≠ f := (ne_of_none hf3 hl).symm
      have hl0 : H l = none := (B1.trans B3).free nlr hl
      refine lc_range (lo := 0) (n := (1 + v).toNat) (fun i H4 => RowAt K H4 r a ns ∧ But r H H4 ∧ H4 f = some (.lst (fs.map V.int)) ∧ ∃ ls : List Int, ls.length = i ∧ (∀ z ∈ ls, WOk z) ∧ H4 l = some (.lst (ls.map V.int))) ⟨R3.new hl, (B1.trans B3).new hl, same_upd hl _ _ hf3, [], rfl, fun _ z => (nomatch z), upd_same⟩ ?_ ?_
      · rintro i H4 hi ⟨R4, B4, hf4, ls, hls, wl, hL⟩
        refine ⟨rfl, _, rfl, r, a, ns, _, rfl, by decide, by decide, R4, fun u H5 u0 u1 R5 B5 => ?_⟩
        have hL5 := B5 _ _ hL nlr
        refine ⟨_, _, rfl, rfl, _, hL5, by rw [List.length_map]; exact small1000 (by omega), R5.put hL5 nlr, (B4.trans B5).putN hl0, by rw [upd_ne nlf.symm]; exact B5 _ _ hf4 nfr, ls ++ [u - 4], by simp; omega, fun z hz => ?_, by rw [upd_same, List.map_append]; rfl⟩
        rcases List.mem_append.mp hz with hz | hz
        · exact wl z hz
        · rw [List.mem_singleton.mp hz]
          exact ⟨by omega, by omega⟩
      · rintro H4 ⟨R4, B4, hf4, ls, hls, wl, hL⟩
        exact ⟨l, ls, nlr, hl0, nlf, hf4, hL, by omega, by omega, wl, R4, B4, rfl⟩
    clear R1 B1 hf
    rintro σ H1 ⟨l, ls, nlr, hl0, nlf, hf, hl, l1, l2, wl, R1, B1, rfl⟩
    refine ⟨fun σ H2 => ∃ (f l : Addr) (fs ls : List Int) (x8 x9 x10 x11 x12 x13 : Option V), H2 f = some (.lst (fs.map V.int)) ∧ H2 l = some (.lst (ls.map V.int)) ∧ SumOk b t fs ls ∧ RowAt K H2 r a ns ∧ But r H H2 ∧ σ = [some (.ref r), some (.int d), some (.int b), some (.int t), some (.int (b ^ t.toNat)), some (.int kd), some (.ref f), some (.ref l), x8, x9, x10, x11, x12, x13], ?_, ?_⟩
    · refine ⟨_, rfl, _, _, rfl, rfl, _, rfl, ?_⟩
      refine ite2 (fun g => ?_) (fun g => ?_)
      · have sok := sim_ok b1 b2 t1 t2 d1 d2
        generalize hBB : b ^ t.toNat = B at sok hB2
        have e1 : (1 : Int).fmod d = 1 % d := Int.fmod_eq_emod_of_nonneg _ (by omega)
        have r0 := Int.emod_nonneg 1 nd
        have r1 := Int.emod_lt_of_pos 1 (show 0 < d by omega)
        refine ⟨fun σ H2 => ∃ S : Addr, S ≠ r ∧ H S = none ∧ H2 S = some (.lst []) ∧ RowAt K H2 r a ns ∧ But r H H2 ∧ σ = [some (.ref r), some (.int d), some (.int b), some (.int t), some (.int B), some (.int kd), some (.ref f), some (.ref l), some (.ref S), some (.int (1 % d)), none, none, none, none], ?_, ?_⟩
        · refine ⟨by show 0 ≤ sizeLine; decide, fun S hS => ?_⟩
          have nSr := R1.ne hS
          exact ⟨_, rfl, _, _, rfl, rfl, nd, _, _, rfl, S, nSr, B1.free nSr hS, upd_same, R1.new hS, B1.new hS, by rw [← e1]; rfl⟩
        clear R1 B1 hf hl
        rintro σ H1 ⟨S, nSr, hS0, hS, R1, B1, rfl⟩
        refine ⟨fun σ H2 => ∃ (s : List Int) (rr : Int), simI B d 20 [] (1 % d) = (s, rr) ∧ H2 S = some (.lst (s.map V.int)) ∧ RowAt K H2 r a ns ∧ But r H H2 ∧ σ = [some (.ref r), some (.int d), some (.int b), some (.int t), some (.int B), some (.int kd), some (.ref f), some (.ref l), some (.ref S), some (.int rr), none, none, none, none], ?_, ?_⟩
        · refine while_by (fun σ H2 => ∃ (s : List Int) (rr : Int) (n : Nat), s.length + n = 20 ∧ simI B d 20 [] (1 % d) = simI B d n s rr ∧ 0 ≤ rr ∧ rr < d ∧ H2 S = some (.lst (s.map V.int)) ∧ RowAt K H2 r a ns ∧ But r H H2 ∧ σ = [some (.ref r), some (.int d), some (.int b), some (.int t), some (.int B), some (.int kd), some (.ref f), some (.ref l), some (.ref S), some (.int rr), none, none, none, none])
            (fun _ H2 => match H2 S with | some (.lst xs) => 20 - xs.length | _ => 0) ⟨[], 1 % d, 20, rfl, rfl, r0, r1, hS, R1, B1, rfl⟩ ?_ ?_
          · clear hS R1 B1
            rintro σ H2 ⟨s, rr, n, hn, hs, rr0, rr1, hS, R2, B2, rfl⟩
            refine ⟨_, rfl, _, rfl, S, _, rfl, .inl (SqL.of hS), rfl, flat_ints s, _, rfl, ?_⟩
            rw [inV_ints]
            refine ite2 (fun g1 => ?_) (fun g1 => ?_)
            · have g2 : s.elem rr = false := by simpa using g1
              refine ⟨_, rfl, S, _, rfl, .inl (SqL.of hS), _, _, rfl, rfl, _, rfl, ?_⟩
              rw [List.length_map]
              refine ite2 (fun g3 => ?_) (fun g3 => ?_)
              · have g4 : s.length < 20 := by
                  have : (s.length : Int) < 20 := of_decide_eq_true g3
                  omega
                obtain ⟨n', rfl⟩ : ∃ n', n = n' + 1 := ⟨n - 1, by omega⟩
                rw [sim_go g2] at hs
                refine ⟨_, rfl, .inl ⟨rfl, _, SqL.of hS⟩, _, rfl, S, _, _, rfl, rfl, hS, by rw [List.length_map]; exact small1000 (by omega), ?_⟩
                have e2 : (rr * B).fmod d = rr * B % d := Int.fmod_eq_emod_of_nonneg _ (by omega)
                refine ⟨_, rfl, _, rfl, _, _, rfl, rfl, .inl ⟨by omega, by omega⟩, _, rfl, _, _, rfl, rfl, nd, ⟨s ++ [rr], rr * B % d, n', by simp; omega, hs, Int.emod_nonneg _ nd, Int.emod_lt_of_pos _ (by omega), by rw [upd_same, List.map_append]; rfl, R2.put hS nSr, B2.putN hS0, by rw [← e2]; rfl⟩, ?_⟩
                rw [upd_same, hS]
                simp
                omega
              · refine ⟨s, rr, ?_, hS, R2, B2, rfl⟩
                have g4 : ¬ (s.length : Int) < 20 := fun z => g3 (decide_eq_true z)
                rw [hs]
                exact sim_stop (.inr (by omega))
            · refine ⟨s, rr, ?_, hS, R2, B2, rfl⟩
              rw [hs]
              exact sim_stop (.inl (by simpa using g1))
          · exact m_and (m_test (m_op m_rIn m_var m_var)) (m_test (m_op m_rI0 m_len m_c))
        clear R1 B1 hS
        rintro σ H1 ⟨s, rr, hs, hS, R1, B1, rfl⟩
        unfold simOk at sok
        rw [hs] at sok
        simp only [Bool.and_eq_true, decide_eq_true_eq] at sok
        obtain ⟨at0, hat⟩ : ∃ at0 : Nat, at0 = (if s.elem rr = true then idxI rr s else 0) := ⟨_, rfl⟩
        obtain ⟨j1, j2, j3, j4⟩ := sok
        rw [← hat] at j1 j2
        have sb : ∀ z ∈ s, 0 ≤ z ∧ z < d := fun z hz => by
          have := List.all_eq_true.mp j4 z hz
          simpa using this
        refine ⟨fun σ H2 => H2 S = some (.lst (s.map V.int)) ∧ RowAt K H2 r a ns ∧ But r H H2 ∧ σ = [some (.ref r), some (.int d), some (.int b), some (.int t), some (.int B), some (.int kd), some (.ref f), some (.ref l), some (.ref S), some (.int rr), some (.int (at0 : Int)), none, none, none], ?_, ?_⟩
        · refine ⟨_, rfl, _, rfl, S, _, rfl, .inl (SqL.of hS), rfl, flat_ints s, _, rfl, ?_⟩
          rw [inV_ints]
          refine ite2 (fun g1 => ?_) (fun g1 => ?_)
          · have g1 : s.elem rr = true := g1
            rw [if_pos g1] at hat
            obtain ⟨i1, i2⟩ := idxI_spec g1
            refine ⟨_, rfl, .inl ⟨rfl, _, SqL.of hS⟩, _, rfl, S, _, .int rr, at0, .int rr, rfl, rfl, SqL.of hS, rfl, flat_ints s, by rw [List.getElem?_map, hat, i1]; rfl, by simp [eqV], fun m z' hm hz' => ?_, hS, R1, B1, rfl⟩
            rw [List.getElem?_map] at hz'
            obtain ⟨y, hy, rfl⟩ := Option.map_eq_some_iff.mp hz'
            have := i2 m (by omega) y hy
            simpa [eqV] using this
          · have g1 : ¬ s.elem rr = true := g1
            rw [if_neg g1] at hat
            subst hat
            exact ⟨hS, R1, B1, rfl⟩
        clear R1 B1 hS
        rintro σ H1 ⟨hS, R1, B1, rfl⟩
        refine ⟨fun σ H2 => ∃ (f l : Addr), f ≠ r ∧ l ≠ r ∧ f ≠ l ∧ H f = none ∧ H l = none ∧ H2 f = some (.lst ((s.take at0).map V.int)) ∧ H2 l = some (.lst ((s.drop at0).map V.int)) ∧ RowAt K H2 r a ns ∧ But r H H2 ∧ σ = [some (.ref r), some (.int d), some (.int b), some (.int t), some (.int B), some (.int kd), some (.ref f), some (.ref l), some (.ref S), some (.int rr), some (.int (at0 : Int)), none, none, none], ?_, ?_⟩
        · refine ⟨_, rfl, _, rfl, _, rfl, S, _, rfl, SqL.of hS, fun f hf => ?_⟩
          rw [cutV_take, ← List.map_take]
          have nSf : S ≠ f := ne_of_none hS hf
          have hS2 := same_upd (o := .lst ((s.take at0).map V.int)) hf _ _ hS
          refine ⟨_, rfl, _, rfl, _, rfl, S, _, rfl, SqL.of hS2, fun l hl => ?_⟩
          rw [cutV_drop, ← List.map_drop]
          have R2 := R1.new (o := .lst ((s.take at0).map V.int)) hf
          have nfr := R1.ne hf
          have nlr := R2.ne hl
          have B2 := B1.new (o := .lst ((s.take at0).map V.int)) hf
          refine ⟨_, _, rfl, f, l, nfr, nlr, ne_of_none upd_same hl, B1.free nfr hf, B2.free nlr hl, same_upd hl _ _ upd_same, upd_same, R2.new hl, B2.new hl, rfl⟩
        clear R1 B1 hS
        rintro σ H1 ⟨f, l, nfr, nlr, nfl, hf0, hl0, hf, hl, R1, B1, rfl⟩
        refine ⟨fun σ H2 => ∃ (l : Addr) (ls : List Int), l ≠ r ∧ f ≠ l ∧ H l = none ∧ H2 f = some (.lst ((s.take at0).map V.int)) ∧ H2 l = some (.lst (ls.map V.int)) ∧ 1 ≤ ls.length ∧ ls.length ≤ 12 ∧ (∀ z ∈ ls, 0 ≤ z ∧ z < d) ∧ RowAt K H2 r a ns ∧ But r H H2 ∧ σ = [some (.ref r), some (.int d), some (.int b), some (.int t), some (.int B), some (.int kd), some (.ref f), some (.ref l), some (.ref S), some (.int rr), some (.int (at0 : Int)), none, none, none], ?_, ?_⟩
        · refine ⟨_, rfl, l, _, rfl, .inl (SqL.of hl), _, _, rfl, rfl, _, rfl, ?_⟩
          have lb : ∀ z ∈ s.drop at0, 0 ≤ z ∧ z < d := fun z hz => sb z (List.mem_of_mem_drop hz)
          have ll : (s.drop at0).length = s.length - at0 := List.length_drop
          rw [List.length_map]
          refine ite2 (fun g1 => ?_) (fun g1 => ?_)
          · refine ⟨_, rfl, _, rfl, l, _, rfl, SqL.of hl, fun l2 hl2 => ?_⟩
            have ec : cutV ((s.drop at0).map V.int) none (some 12) = ((s.drop at0).take 12).map V.int := (cutV_take _ 12).trans (List.map_take ..).symm
            rw [ec]
            have nl2r := R1.ne hl2
            refine ⟨l2, _, nl2r, ne_of_none hf hl2, B1.free nl2r hl2, same_upd hl2 _ _ hf, upd_same, ?_, ?_, fun z hz => lb z (List.mem_of_mem_take hz), R1.new hl2, B1.new hl2, rfl⟩
            · rw [List.length_take]; omega
            · rw [List.length_take]; omega
          · have g2 : ¬ (12 : Int) < ((s.drop at0).length : Int) := fun z => g1 (decide_eq_true z)
            exact ⟨l, _, nlr, nfl, hl0, hf, hl, by omega, by omega, lb, R1, B1, rfl⟩
        clear R1 B1 hf hl
        rintro σ H1 ⟨l, ls, nlr, nfl, hl0, hf, hl, l1, l2, lb, R1, B1, rfl⟩
        obtain ⟨fs, hfs⟩ : ∃ fs, fs = s.take at0 := ⟨_, rfl⟩
        have lf : fs.length ≤ 11 := by rw [hfs, List.length_take]; omega
        have fb : ∀ z ∈ fs, 0 ≤ z ∧ z < d := fun z hz => sb z (List.mem_of_mem_take (hfs ▸ hz))
        rw [← hfs] at hf
        refine ⟨fun σ H2 => ∃ u : Int, 1 ≤ u ∧ u ≤ 30 ∧ H2 f = some (.lst (fs.map V.int)) ∧ H2 l = some (.lst (ls.map V.int)) ∧ RowAt K H2 r a ns ∧ But r H H2 ∧ σ = [some (.ref r), some (.int d), some (.int b), some (.int t), some (.int B), some (.int kd), some (.ref f), some (.ref l), some (.ref S), some (.int rr), some (.int (at0 : Int)), some (.int u), none, none], ?_, ?_⟩
        · refine ⟨_, rfl, rfl, _, rfl, ?_⟩
          refine ite2 (fun g1 => ?_) (fun g1 => ?_)
          · refine ⟨_, rfl, _, rfl, r, a, ns, d, rfl, by omega, by omega, R1, fun v H3 v0 v1 R3 B3 => ?_⟩
            exact ⟨_, _, rfl, rfl, 1 + v, by omega, by omega, B3 _ _ hf nfr, B3 _ _ hl nlr, R3, B1.trans B3, rfl⟩
          · exact ⟨1, by decide, by decide, hf, hl, R1, B1, rfl⟩
        clear R1 B1 hf hl
        rintro σ H1 ⟨u, u1, u2, hf, hl, R1, B1, rfl⟩
        refine ⟨fun σ H2 => ∃ (f2 : Addr) (fs2 : List Int), f2 ≠ r ∧ f2 ≠ l ∧ H f2 = none ∧ fs2.length ≤ 11 ∧ (∀ z ∈ fs2, -900 ≤ z ∧ z ≤ 900) ∧ H2 f2 = some (.lst (fs2.map V.int)) ∧ H2 l = some (.lst (ls.map V.int)) ∧ RowAt K H2 r a ns ∧ But r H H2 ∧ σ = [some (.ref r), some (.int d), some (.int b), some (.int t), some (.int B), some (.int kd), some (.ref f2), some (.ref l), some (.ref S), some (.int rr), some (.int (at0 : Int)), some (.int u), none, none], ?_, ?_⟩
        · refine ⟨_, rfl, f, rfl, ⟨_, SqL.of hf⟩, fun f2 hN => ?_⟩
          have nNr := R1.ne hN
          have nNs : f ≠ f2 := ne_of_none hf hN
          have nNk : l ≠ f2 := ne_of_none hl hN
          have hN0 : H f2 = none := B1.free nNr hN
          refine lc_list (K := K) (a := f) (xs := fs.map V.int) (fun i H4 => RowAt K H4 r a ns ∧ But r H H4 ∧ H4 f = some (.lst (fs.map V.int)) ∧ H4 l = some (.lst (ls.map V.int)) ∧ ∃ us : List Int, us.length = i ∧ (∀ z ∈ us, -900 ≤ z ∧ z ≤ 900) ∧ H4 f2 = some (.lst (us.map V.int)))
            ⟨R1.new hN, B1.new hN, same_upd hN _ _ hf, same_upd hN _ _ hl, [], rfl, fun _ z => (nomatch z), upd_same⟩ (fun i H4 hi P => SqL.of P.2.2.1) ?_ ?_
          · rintro i x H4 hx ⟨R4, B4, hs4, hk4, us, hus, wu, hL⟩
            obtain ⟨z, hz, rfl⟩ : ∃ z, fs[i]? = some z ∧ V.int z = x := by
              rw [List.getElem?_map] at hx
              obtain ⟨z, hz, e⟩ := Option.map_eq_some_iff.mp hx
              exact ⟨z, hz, e⟩
            obtain ⟨z0, z1⟩ := fb z (List.mem_of_getElem? hz)
            have hil : i < fs.length := (List.getElem?_eq_some_iff.mp hz).1
            refine ⟨rfl, _, rfl, _, rfl, _, _, rfl, rfl, .inl ⟨by omega, by omega⟩, _, rfl, _, rfl, r, a, ns, _, rfl, by decide, by decide, R4, fun v H5 v0 v1 R5 B5 => ?_⟩
            have hL5 := B5 _ _ hL nNr
            obtain ⟨w0, w1⟩ := wok_unit z0 z1 u1 u2 d1 d2 v0 v1
            refine ⟨_, _, rfl, rfl, _, _, rfl, rfl, .inl ⟨by omega, by omega⟩, _, _, rfl, rfl, _, hL5, by rw [List.length_map]; exact small1000 (by omega), R5.put hL5 nNr, (B4.trans B5).putN hN0, by rw [upd_ne nNs]; exact B5 _ _ hs4 nfr, by rw [upd_ne nNk]; exact B5 _ _ hk4 nlr, us ++ [z * u + d * (v - 1)], by simp; omega, fun y hy => ?_, by rw [upd_same, List.map_append]; rfl⟩
            rcases List.mem_append.mp hy with hy | hy
            · exact wu y hy
            · rw [List.mem_singleton.mp hy]
              exact ⟨w0, w1⟩
          · rw [List.length_map]
            rintro H4 ⟨R4, B4, hs4, hk4, us, hus, wu, hL⟩
            exact ⟨f2, us, nNr, nNk.symm, hN0, by omega, wu, hL, hk4, R4, B4, rfl⟩
        clear R1 B1 hf hl
        rintro σ H1 ⟨f2, fs2, nf2r, nf2l, hf20, lf2, wf2, hf2, hl, R1, B1, rfl⟩
        refine ⟨fun σ H2 => ∃ (l2 : Addr) (ls2 : List Int), l2 ≠ r ∧ f2 ≠ l2 ∧ H l2 = none ∧ 1 ≤ ls2.length ∧ ls2.length ≤ 12 ∧ (∀ z ∈ ls2, -900 ≤ z ∧ z ≤ 900) ∧ H2 f2 = some (.lst (fs2.map V.int)) ∧ H2 l2 = some (.lst (ls2.map V.int)) ∧ RowAt K H2 r a ns ∧ But r H H2 ∧ σ = [some (.ref r), some (.int d), some (.int b), some (.int t), some (.int B), some (.int kd), some (.ref f2), some (.ref l2), some (.ref S), some (.int rr), some (.int (at0 : Int)), some (.int u), none, none], ?_, ?_⟩
        · refine ⟨_, rfl, l, rfl, ⟨_, SqL.of hl⟩, fun l3 hN => ?_⟩
          have nNr := R1.ne hN
          have nNs : l ≠ l3 := ne_of_none hl hN
          have nNk : f2 ≠ l3 := ne_of_none hf2 hN
          have hN0 : H l3 = none := B1.free nNr hN
          refine lc_list (K := K) (a := l) (xs := ls.map V.int) (fun i H4 => RowAt K H4 r a ns ∧ But r H H4 ∧ H4 l = some (.lst (ls.map V.int)) ∧ H4 f2 = some (.lst (fs2.map V.int)) ∧ ∃ us : List Int, us.length = i ∧ (∀ z ∈ us, -900 ≤ z ∧ z ≤ 900) ∧ H4 l3 = some (.lst (us.map V.int)))
            ⟨R1.new hN, B1.new hN, same_upd hN _ _ hl, same_upd hN _ _ hf2, [], rfl, fun _ z => (nomatch z), upd_same⟩ (fun i H4 hi P => SqL.of P.2.2.1) ?_ ?_
          · rintro i x H4 hx ⟨R4, B4, hs4, hk4, us, hus, wu, hL⟩
            obtain ⟨z, hz, rfl⟩ : ∃ z, ls[i]? = some z ∧ V.int z = x := by
              rw [List.getElem?_map] at hx
              obtain ⟨z, hz, e⟩ := Option.map_eq_some_iff.mp hx
              exact ⟨z, hz, e⟩
            obtain ⟨z0, z1⟩ := lb z (List.mem_of_getElem? hz)
            have hil : i < ls.length := (List.getElem?_eq_some_iff.mp hz).1
            refine ⟨rfl, _, rfl, _, rfl, _, _, rfl, rfl, .inl ⟨by omega, by omega⟩, _, rfl, _, rfl, r, a, ns, _, rfl, by decide, by decide, R4, fun v H5 v0 v1 R5 B5 => ?_⟩
            have hL5 := B5 _ _ hL nNr
            obtain ⟨w0, w1⟩ := wok_unit z0 z1 u1 u2 d1 d2 v0 v1
            refine ⟨_, _, rfl, rfl, _, _, rfl, rfl, .inl ⟨by omega, by omega⟩, _, _, rfl, rfl, _, hL5, by rw [List.length_map]; exact small1000 (by omega), R5.put hL5 nNr, (B4.trans B5).putN hN0, by rw [upd_ne nNs]; exact B5 _ _ hs4 nlr, by rw [upd_ne nNk]; exact B5 _ _ hk4 nf2r, us ++ [z * u + d * (v - 1)], by simp; omega, fun y hy => ?_, by rw [upd_same, List.map_append]; rfl⟩
            rcases List.mem_append.mp hy with hy | hy
            · exact wu y hy
            · rw [List.mem_singleton.mp hy]
              exact ⟨w0, w1⟩
          · rw [List.length_map]
            rintro H4 ⟨R4, B4, hs4, hk4, us, hus, wu, hL⟩
            exact ⟨l3, us, nNr, nNk, hN0, by omega, by omega, wu, hk4, hL, R4, B4, rfl⟩
        clear R1 B1 hl hf2
        rintro σ H1 ⟨l3, ls2, nl2r, nf2l2, hl20, l21, l22, wl2, hf2, hl2, R1, B1, rfl⟩
        have wfo : ∀ z ∈ fs2, WOk z := fun z hz => ⟨by have := wf2 z hz; omega, by have := wf2 z hz; omega⟩
        have wlo : ∀ z ∈ ls2, WOk z := fun z hz => ⟨by have := wl2 z hz; omega, by have := wl2 z hz; omega⟩
        refine ⟨_, rfl, rfl, _, rfl, ?_⟩
        refine ite2 (fun g1 => ?_) (fun g1 => ?_)
        · refine ⟨fun σ H2 => ∃ (j : Nat), j < ls2.length ∧ H2 f2 = some (.lst (fs2.map V.int)) ∧ H2 l3 = some (.lst (ls2.map V.int)) ∧ RowAt K H2 r a ns ∧ But r H H2 ∧ σ = [some (.ref r), some (.int d), some (.int b), some (.int t), some (.int B), some (.int kd), some (.ref f2), some (.ref l3), some (.ref S), some (.int rr), some (.int (j : Int)), some (.int u), none, none], ?_, ?_⟩
          · refine ⟨_, rfl, _, rfl, l3, _, rfl, .inl (SqL.of hl2), r, a, ns, _, rfl, by rw [List.length_map]; omega, by rw [List.length_map]; omega, R1, fun v H3 v0 v1 R3 B3 => ?_⟩
            rw [List.length_map] at v1
            exact ⟨v.toNat, by omega, B3 _ _ hf2 nf2r, B3 _ _ hl2 nl2r, R3, B1.trans B3, by rw [Int.toNat_of_nonneg v0]; rfl⟩
          clear hf2 hl2 R1 B1
          rintro σ H2 ⟨j, hj, hf2, hl2, R2, B2, rfl⟩
          have hz : ls2[j]? = some ls2[j] := List.getElem?_eq_getElem hj
          refine ⟨_, rfl, _, rfl, l3, _, _, _, rfl, rfl, SqL.of hl2, at_of (j := j) rfl (by rw [List.getElem?_map, hz]; rfl), _, _, rfl, rfl, _, rfl, _, rfl, l3, _, _, j, rfl, rfl, hl2, ?_, ?_⟩
          · rw [List.length_map]
            unfold ixN
            rw [if_pos (by omega), if_pos (by omega), Int.toNat_natCast]
          · refine ⟨f2, l3, fs2, ls2.set j (ls2[j] + 1), _, _, _, _, _, _, by rw [upd_ne nf2l2]; exact hf2, by rw [upd_same, List.map_set], ⟨b1, b2, t1, t2, lf2, by rw [List.length_set]; exact l21, by rw [List.length_set]; exact l22, wfo, fun z hz => ?_⟩, R2.put hl2 nl2r, B2.putN hl20, rfl⟩
            rcases List.mem_or_eq_of_mem_set hz with h | h
            · exact wlo z h
            · have := wl2 _ (List.getElem_mem hj)
              exact ⟨by omega, by omega⟩
        · exact ⟨f2, l3, fs2, ls2, _, _, _, _, _, _, hf2, hl2, ⟨b1, b2, t1, t2, lf2, l21, l22, wfo, wlo⟩, R1, B1, rfl⟩
      · exact ⟨f, l, fs, ls, _, _, _, _, _, _, hf, hl, ⟨b1, b2, t1, t2, lf, l1, l2, wf, wl⟩, R1, B1, rfl⟩
    clear R1 B1 hf hl wl wf l1 l2 lf hl0 hf0
    rintro σ H1 ⟨f, l, fs, ls, x8, x9, x10, x11, x12, x13, hf, hl, ok, R1, B1, rfl⟩
    refine ⟨_, rfl, _, rfl, _, rfl, f, _, rfl, .inl ⟨SqL.of hf, fun f2 hf2 => ?_⟩⟩
    have hl2 := same_upd (o := .tup (fs.map V.int)) hf2 _ _ hl
    refine ⟨_, rfl, l, _, rfl, .inl ⟨SqL.of hl2, fun l2 hl3 => ⟨by show 4 ≤ sizeLine; decide, fun q hq => ?_⟩⟩⟩
    have R2 := R1.new (o := .tup (fs.map V.int)) hf2
    have R3 := R2.new (o := .tup (ls.map V.int)) hl3
    have nqr := R3.ne hq
    have B3 := ((B1.new (o := .tup (fs.map V.int)) hf2).new (o := .tup (ls.map V.int)) hl3)
    exact k b t fs ls q f2 l2 _ ok (R3.new hq) (B3.new hq) upd_same (same_upd hq _ _ (same_upd hl3 _ _ upd_same)) (same_upd hq _ _ upd_same) nqr (B3.free nqr hq)

/-! ### the weight at a place -/
def wAt (fs ls : List Int) (k : Nat) : Int := if k < fs.length then fs.getD k 0 else ls.getD ((k - fs.length) % ls.length) 0
theorem at_ints {ns : List Int} {k : Nat} (h : k < ns.length) : atI (ns.map V.int) (k : Int) = some (V.int (ns.getD k 0)) := by
  refine at_of (j := k) rfl ?_
  rw [List.getElem?_map, List.getD_eq_getElem?_getD, List.getElem?_eq_getElem h]
  rfl
theorem wAt_first {fs ls : List Int} {k : Nat} (h : k < fs.length) : atI (fs.map V.int) (k : Int) = some (V.int (wAt fs ls k)) := by
  unfold wAt
  rw [if_pos h]
  exact at_ints h
theorem wAt_loop {fs ls : List Int} {k : Nat} (h : ¬ k < fs.length) (hl : 1 ≤ ls.length) : atI (ls.map V.int) (((k : Int) - (fs.length : Int)).fmod (ls.length : Int)) = some (V.int (wAt fs ls k)) := by
  unfold wAt
  rw [if_neg h, Int.fmod_eq_emod_of_nonneg _ (by omega), show ((k : Int) - (fs.length : Int)) % (ls.length : Int) = (((k - fs.length) % ls.length : Nat) : Int) by rw [Int.natCast_emod]; congr 1; omega]
  exact at_ints (Nat.mod_lt _ (by omega))
def spWeightAt (T : Tx P K mg) : Sp := fun vs H Q _ => ∃ (p : Addr) (b t : Int) (fs ls : List Int) (k : Nat), vs = [.ref p, .int (k : Int)] ∧ SumAt T H p b t fs ls ∧ Q (.int (wAt fs ls k)) H
theorem ok_weight_at (T : Tx P K mg) : FnOk P w K mg base CX0 lv_weight_at T.a_weight_at T.d_weight_at ["told", "place"] (spWeightAt T) := by
  refine T.F_weight_at.ok sc_weight_at (fun vs H Q E h => ?_) (fun cdv A outer s H vs Q E hr h => ?_)
  · obtain ⟨p, b, t, fs, ls, k, rfl, _⟩ := h
    rfl
  · obtain ⟨p, b, t, fs, ls, k, rfl, a, kk⟩ := h
    obtain ⟨dx, f, l, e, hf, hl, b1, b2, t1, t2, w1, w2⟩ := id a
    refine ⟨_, (pss_cons (ps_set (i := 2) sc_weight_at.nd rfl (Or.inl rfl) (pe_op op_sub (pv 1) (pe_callB call_len_seq (by rfl) T.n_len (by decide +kernel) (pa_cons (pe_prop (pv 0) T.cl_Sum T.p_Sum_first (ok_Sum_first T) (hr.mono (by decide)) T.b_Sum_first .nil pass0 rfl) pa_nil))))
      (pss_one (ps_ret (pe_ifExp (pt_cmpR op_lt (pv 2) pe_int (nomark _)) (pe_ix ix_tup (pe_prop (pv 0) T.cl_Sum T.p_Sum_first (ok_Sum_first T) (hr.mono (by decide)) T.b_Sum_first .nil pass0 rfl) (pv 1) (fun _ _ => rfl)) (pe_ix ix_tup (pe_prop (pv 0) T.cl_Sum T.p_Sum_loop (ok_Sum_loop T) (hr.mono (by decide)) T.b_Sum_loop .nil pass0 rfl) (pe_op op_modN (pv 2) (pe_callB call_len_seq (by rfl) T.n_len (by decide +kernel) (pa_cons (pe_prop (pv 0) T.cl_Sum T.p_Sum_loop (ok_Sum_loop T) (hr.mono (by decide)) T.b_Sum_loop .nil pass0 rfl) pa_nil))) (fun _ _ => rfl)))))), ?_⟩
    refine ⟨_, rfl, _, rfl, p, dx, _, rfl, e, p, dx, _, _, _, _, rfl, e, f, _, rfl, .inr (SqT.of hf), _, _, rfl, rfl, ?_⟩
    refine ⟨_, rfl, _, _, rfl, rfl, _, rfl, ?_⟩
    have hl1 : 1 ≤ ls.length := w2.1
    refine ite2 (fun g => ?_) (fun g => ?_)
    · have g1 : k < fs.length := by
        have : (k : Int) - ((fs.map V.int).length : Int) < 0 := of_decide_eq_true g
        rw [List.length_map] at this
        omega
      exact ⟨_, rfl, p, dx, _, rfl, e, p, dx, _, _, _, _, rfl, e, _, rfl, f, _, _, _, rfl, rfl, SqT.of hf, wAt_first g1, kk⟩
    · have g1 : ¬ k < fs.length := fun z => g (decide_eq_true (show (k : Int) - ((fs.map V.int).length : Int) < 0 by rw [List.length_map]; omega))
      refine ⟨_, rfl, p, dx, _, rfl, e, p, dx, _, _, _, _, rfl, e, _, rfl, _, rfl, p, dx, _, rfl, e, p, dx, _, _, _, _, rfl, e, l, _, rfl, .inr (SqT.of hl), ?_⟩
      refine ⟨_, _, rfl, rfl, (show ((ls.map V.int).length : Int) ≠ 0 by rw [List.length_map]; omega), ?_⟩
      refine ⟨l, _, _, _, rfl, rfl, SqT.of hl, ?_, kk⟩
      rw [List.length_map, List.length_map]
      exact wAt_loop g1 hl1
def spSumBlock (T : Tx P K mg) : Sp := fun vs H Q _ => ∃ (p : Addr) (b t : Int) (fs ls : List Int), vs = [.ref p] ∧ SumAt T H p b t fs ls ∧ Q (.int (blockOf b t)) H
theorem ok_sum_block (T : Tx P K mg) : FnOk P w K mg base CX0 lv_sum_block T.a_sum_block T.d_sum_block ["told"] (spSumBlock T) := by
  refine T.F_sum_block.ok sc_sum_block (fun vs H Q E h => ?_) (fun cdv A outer s H vs Q E hr h => ?_)
  · obtain ⟨p, b, t, fs, ls, rfl, _⟩ := h
    rfl
  · obtain ⟨p, b, t, fs, ls, rfl, a, k⟩ := h
    obtain ⟨dx, f, l, e, hf, hl, b1, b2, t1, t2, w1, w2⟩ := id a
    exact ⟨_, (pss_one (ps_ret (pe_call (ok_block_of T) (hr.mono (by decide)) rfl T.g_block_of T.F_block_of.kp T.b_block_of .nil pass0 (pa_cons (pe_prop (pv 0) T.cl_Sum T.p_Sum_base (ok_Sum_base T) (hr.mono (by decide)) T.b_Sum_base .nil pass0 rfl) (pa_cons (pe_prop (pv 0) T.cl_Sum T.p_Sum_take (ok_Sum_take T) (hr.mono (by decide)) T.b_Sum_take .nil pass0 rfl) pa_nil))))), _, rfl, p, dx, _, rfl, e, p, dx, _, _, _, _, rfl, e, _, rfl, p, dx, _, rfl, e, p, dx, _, _, _, _, rfl, e, b, t, rfl, b1, b2, k⟩

/-! ### the rests of powers come again -/
theorem simAll2 : ((List.range 15).all fun b => (List.range 2).all fun t => (List.range 30).all fun d =>
    (let F := simI (((b + 2 : Nat) : Int) ^ (t + 1)) ((d + 1 : Nat) : Int) 31 [] (1 % ((d + 1 : Nat) : Int)); F.1.elem F.2 && decide (F.1.length ≤ 31))) = true := by decide +kernel
theorem sim_ok2 {b t d : Int} (b1 : 2 ≤ b) (b2 : b ≤ 16) (t1 : 1 ≤ t) (t2 : t ≤ 2) (d1 : 1 ≤ d) (d2 : d ≤ 30) :
    (simI (b ^ t.toNat) d 31 [] (1 % d)).1.elem (simI (b ^ t.toNat) d 31 [] (1 % d)).2 = true ∧ (simI (b ^ t.toNat) d 31 [] (1 % d)).1.length ≤ 31 := by
  have h := simAll2
  rw [List.all_eq_true] at h
  have h1 := h (b - 2).toNat (List.mem_range.mpr (by omega))
  rw [List.all_eq_true] at h1
  have h2 := h1 (t - 1).toNat (List.mem_range.mpr (by omega))
  rw [List.all_eq_true] at h2
  have h3 := h2 (d - 1).toNat (List.mem_range.mpr (by omega))
  rw [show (((b - 2).toNat + 2 : Nat) : Int) = b by omega, show (t - 1).toNat + 1 = t.toNat by omega, show (((d - 1).toNat + 1 : Nat) : Int) = d by omega] at h3
  rw [Bool.and_eq_true, decide_eq_true_eq] at h3
  exact h3
theorem sim_pw {B d : Int} : ∀ (n : Nat) (s : List Int) (r : Int), (∀ j, j < s.length → s[j]? = some (B ^ j % d)) → r = B ^ s.length % d →
    (∀ j, j < (simI B d n s r).1.length → (simI B d n s r).1[j]? = some (B ^ j % d)) ∧ (simI B d n s r).2 = B ^ (simI B d n s r).1.length % d
  | 0, s, r, h1, h2 => ⟨h1, h2⟩
  | n + 1, s, r, h1, h2 => by
    cases e : s.elem r with
    | true =>
      rw [sim_stop (.inl e)]
      exact ⟨h1, h2⟩
    | false =>
      rw [sim_go e]
      refine sim_pw n (s ++ [r]) _ (fun j hj => ?_) ?_
      · rw [List.length_append, List.length_singleton] at hj
        rcases Nat.lt_or_ge j s.length with q | q
        · rw [List.getElem?_append_left q]
          exact h1 j q
        · have ej : j = s.length := by omega
          subst ej
          rw [List.getElem?_append_right (Nat.le_refl _), Nat.sub_self, h2]
          rfl
      · rw [List.length_append, List.length_singleton, h2, Int.pow_succ, Int.mul_emod, Int.emod_emod, ← Int.mul_emod]
theorem sim_nodup {B d : Int} : ∀ (n : Nat) (s : List Int) (r : Int), s.Nodup → (simI B d n s r).1.Nodup
  | 0, s, r, h => h
  | n + 1, s, r, h => by
    cases e : s.elem r with
    | true =>
      rw [sim_stop (.inl e)]
      exact h
    | false =>
      rw [sim_go e]
      refine sim_nodup n _ _ (List.nodup_append.mpr ⟨h, List.nodup_cons.mpr ⟨List.not_mem_nil, List.nodup_nil⟩, fun x hx y hy => ?_⟩)
      rw [List.mem_singleton.mp hy]
      intro z
      rw [z] at hx
      rw [List.elem_iff.mpr hx] at e
      cases e
/-- the rests of the powers L, from place a on again and again -/
structure PowR (B d : Int) (L : List Int) (a : Nat) : Prop where
  at_ : ∀ j, j < L.length → L[j]? = some (B ^ j % d)
  lt : a < L.length
  le : L.length ≤ 31
  per : B ^ L.length % d = B ^ a % d
  nodup : L.Nodup
theorem pow_r {b t d : Int} (b1 : 2 ≤ b) (b2 : b ≤ 16) (t1 : 1 ≤ t) (t2 : t ≤ 2) (d1 : 1 ≤ d) (d2 : d ≤ 30) {s : List Int} {r : Int} (h : simI (b ^ t.toNat) d 31 [] (1 % d) = (s, r)) : PowR (b ^ t.toNat) d s (idxI r s) ∧ s.elem r = true := by
  obtain ⟨h1, h2⟩ := sim_ok2 b1 b2 t1 t2 d1 d2
  obtain ⟨h3, h4⟩ := sim_pw (B := b ^ t.toNat) (d := d) 31 [] (1 % d) (fun j hj => absurd hj (Nat.not_lt_zero _)) (by rw [List.length_nil, Int.pow_zero])
  rw [h] at h1 h2 h3 h4
  obtain ⟨i1, i2⟩ := idxI_spec h1
  have il := (List.getElem?_eq_some_iff.mp i1).1
  have hn := sim_nodup (B := b ^ t.toNat) (d := d) 31 [] (1 % d) List.nodup_nil
  rw [h] at hn
  refine ⟨⟨h3, il, h2, ?_, hn⟩, h1⟩
  have := h3 _ il
  rw [i1] at this
  rw [← h4]
  exact Option.some.inj this
theorem PowR.again {B d : Int} {L : List Int} {a : Nat} (h : PowR B d L a) {k : Nat} (hk : a ≤ k) : B ^ (k + (L.length - a)) % d = B ^ k % d := by
  have hl := h.lt
  rw [show k + (L.length - a) = L.length + (k - a) by omega, Int.pow_add, Int.mul_emod, h.per, ← Int.mul_emod, ← Int.pow_add, show a + (k - a) = k by omega]
theorem PowR.agains {B d : Int} {L : List Int} {a : Nat} (h : PowR B d L a) {k : Nat} (hk : a ≤ k) : ∀ m : Nat, B ^ (k + m * (L.length - a)) % d = B ^ k % d
  | 0 => by rw [Nat.zero_mul, Nat.add_zero]
  | m + 1 => by
    rw [Nat.succ_mul, ← Nat.add_assoc, h.again (by omega), h.agains hk m]
theorem wAt_again {fs ls : List Int} {k : Nat} (hk : fs.length ≤ k) (m : Nat) : wAt fs ls (k + m * ls.length) = wAt fs ls k := by
  unfold wAt
  rw [if_neg (by omega), if_neg (by omega), show k + m * ls.length - fs.length = (k - fs.length) + m * ls.length by omega, Nat.add_mul_mod_self_right]
/-- the weight at a place has another rest than the power -/
def badP (B d : Int) (u : Nat → Int) (k : Nat) : Bool := !decide (d ∣ B ^ k - u k)
theorem bad_again {B d : Int} {L : List Int} {a : Nat} (h : PowR B d L a) {fs ls : List Int} {k : Nat} (h1 : a ≤ k) (h2 : fs.length ≤ k) : badP B d (wAt fs ls) (k + ls.length * (L.length - a)) = badP B d (wAt fs ls) k := by
  unfold badP
  rw [show wAt fs ls (k + ls.length * (L.length - a)) = wAt fs ls k by rw [Nat.mul_comm]; exact wAt_again h2 _]
  congr 1
  apply decide_eq_decide.mpr
  have e := h.agains h1 ls.length
  rw [Int.dvd_iff_emod_eq_zero, Int.dvd_iff_emod_eq_zero, Int.sub_emod, e, ← Int.sub_emod]
/-- so many places tell all -/
def turnN (fs ls L : List Int) (a : Nat) : Nat := max fs.length a + ls.length * (L.length - a)
theorem bad_turn {B d : Int} {L : List Int} {a : Nat} (h : PowR B d L a) {fs ls : List Int} (hl : 0 < ls.length) (h0 : ∀ k, k < turnN fs ls L a → badP B d (wAt fs ls) k = false) : ∀ k, badP B d (wAt fs ls) k = false := by
  intro k
  induction k using Nat.strongRecOn with
  | ind k ih =>
    by_cases hk : k < turnN fs ls L a
    · exact h0 k hk
    · unfold turnN at hk
      have hp : 0 < ls.length * (L.length - a) := Nat.mul_pos hl (by have := h.lt; omega)
      have e := bad_again h (fs := fs) (ls := ls) (k := k - ls.length * (L.length - a)) (by omega) (by omega)
      rw [show k - ls.length * (L.length - a) + ls.length * (L.length - a) = k by omega] at e
      rw [e]
      exact ih _ (by omega)
/-! ### the first one of a stretch -/
theorem find_hit {f : Nat → Bool} {i n : Nat} (h0 : ∀ j, j < i → f j = false) (h1 : f i = true) (hi : i < n) : (List.range n).find? f = some i := by
  rw [List.find?_eq_some_iff_append]
  refine ⟨h1, List.range i, (List.range' (i + 1) (n - (i + 1))), ?_, fun x hx => by rw [h0 x (List.mem_range.mp hx)]; rfl⟩
  rw [List.range_eq_range', List.range_eq_range', show n = i + (1 + (n - (i + 1))) by omega, ← List.range'_append_1, Nat.zero_add]
  congr 1
  rw [Nat.add_comm 1 _, List.range'_succ]
  simp
  omega
theorem find_no {f : Nat → Bool} {n : Nat} (h0 : ∀ j, j < n → f j = false) : (List.range n).find? f = none := by
  rw [List.find?_eq_none]
  intro x hx
  rw [h0 x (List.mem_range.mp hx)]
  exact Bool.false_ne_true
/-- the power at the first wrong place, or None -/
def dueV (B : Int) (o : Option Nat) : V := match o with
  | none => .non
  | some k => .int (B ^ k)
/-- a longer stretch tells the same -/
theorem due_more {B d : Int} {L : List Int} {a : Nat} (h : PowR B d L a) {fs ls : List Int} (hl : 0 < ls.length) {n : Nat} (hn : turnN fs ls L a ≤ n) : (List.range n).find? (badP B d (wAt fs ls)) = (List.range (turnN fs ls L a)).find? (badP B d (wAt fs ls)) := by
  cases e : (List.range (turnN fs ls L a)).find? (badP B d (wAt fs ls)) with
  | none =>
    have h0 : ∀ k, k < turnN fs ls L a → badP B d (wAt fs ls) k = false := fun k hk => by
      have := List.find?_eq_none.mp e k (List.mem_range.mpr hk)
      simpa using this
    exact find_no fun j _ => bad_turn h hl h0 j
  | some i =>
    obtain ⟨h1, as, bs, e2, h2⟩ := List.find?_eq_some_iff_append.mp e
    have hi : i < turnN fs ls L a := List.mem_range.mp (by rw [e2]; exact List.mem_append_right _ List.mem_cons_self)
    refine find_hit (fun j hj => ?_) h1 (by omega)
    have hm : j ∈ as := by
      have hj2 : j ∈ List.range (turnN fs ls L a) := List.mem_range.mpr (by omega)
      have hp : (List.range (turnN fs ls L a)).Pairwise (· < ·) := List.pairwise_lt_range
      rw [e2] at hj2 hp
      rcases List.mem_append.mp hj2 with q | q
      · exact q
      · rcases List.mem_cons.mp q with q | q
        · omega
        · have := (List.pairwise_cons.mp (List.pairwise_append.mp hp).2.1).1 j q
          omega
    have := h2 j hm
    simpa using this

/-! ### the rests of powers -/
def spPowerRests (K : PySem.W.Frag) : Sp := fun vs H Q _ => ∃ (b t d : Int), vs = [.int (blockOf b t), .int d] ∧ 2 ≤ b ∧ b ≤ 16 ∧ 1 ≤ t ∧ t ≤ 2 ∧ 1 ≤ d ∧ d ≤ 30 ∧
  ∀ (L : List Int) (a : Nat) (q x y : Addr) (H' : Hp), PowR (blockOf b t) d L a → (∀ z ∈ L, 0 ≤ z ∧ z < d) → Same H H' → H' q = some (.tup [.ref x, .ref y]) → H' x = some (.lst ((L.take a).map V.int)) → H' y = some (.lst ((L.drop a).map V.int)) → Q (.ref q) H'
theorem ok_power_rests (T : Tx P K mg) : FnOk P w K mg base CX0 lv_power_rests T.a_power_rests T.d_power_rests ["block", "d"] (spPowerRests K) := by
  refine T.F_power_rests.ok sc_power_rests (fun vs H Q E h => ?_) (fun cdv A outer s H vs Q E hr h => ?_)
  · obtain ⟨b, t, d, rfl, _⟩ := h
    rfl
  · obtain ⟨b, t, d, rfl, b1, b2, t1, t2, d1, d2, k⟩ := h
    refine ⟨_, (pss_cons (ps_set (i := 2) sc_power_rests.nd rfl (Or.inl rfl) (pe_lst pa_nil))
      (pss_cons (ps_set (i := 3) sc_power_rests.nd rfl (Or.inl rfl) (pe_op op_modN pe_int (pv 1)))
      (pss_cons (ps_while PassesOwn.never (pt_cmpR op_notIn_seq (pv 3) (pv 2) (by with_unfolding_all rfl)) (pss_cons (ps_expr (pe_bm PySem.F.plainAttrs_list PySem.F.slot_list_append PySem.F.type_list_append mt_append (pv 2) (pa_cons (pv 3) pa_nil)))
      (pss_one (ps_set (i := 3) sc_power_rests.nd rfl (Or.inl rfl) (pe_op op_modN (pe_op op_mul (pv 3) (pv 0)) (pv 1))))))
      (pss_cons (ps_set (i := 4) sc_power_rests.nd rfl (Or.inl rfl) (pe_bm PySem.F.plainAttrs_list PySem.F.slot_list_index PySem.F.type_list_index mt_index (pv 2) (pa_cons (pv 3) pa_nil)))
      (pss_one (ps_ret (pe_tup (pa_cons (pe_slice sl_list (pv 2) po_none (po_some (pv 4))) (pa_cons (pe_slice sl_list (pv 2) (po_some (pv 4)) po_none) pa_nil))))))))), ?_⟩
    have nd : d ≠ 0 := by omega
    obtain ⟨B1, B2⟩ := block_bd (t := t) b1 b2
    have epow := fun {s : List Int} {r : Int} (h : simI (blockOf b t) d 31 [] (1 % d) = (s, r)) => by
      rw [← pow_block t1 t2] at h
      have := pow_r b1 b2 t1 t2 d1 d2 h
      rw [pow_block t1 t2] at this
      exact this
    generalize blockOf b t = B at *
    have e1 : (1 : Int).fmod d = 1 % d := Int.fmod_eq_emod_of_nonneg _ (by omega)
    refine ⟨by show 0 ≤ sizeLine; decide, fun R hR => ?_⟩
    refine ⟨_, rfl, _, _, rfl, rfl, nd, ?_⟩
    refine while_by (fun σ H2 => ∃ (s : List Int) (rr : Int) (n : Nat), s.length + n = 31 ∧ simI B d 31 [] (1 % d) = simI B d n s rr ∧ 0 ≤ rr ∧ rr < d ∧ (∀ z ∈ s, 0 ≤ z ∧ z < d) ∧ H2 = upd H R (.lst (s.map V.int)) ∧ σ = [some (.int B), some (.int d), some (.ref R), some (.int rr), none])
      (fun _ H2 => match H2 R with | some (.lst xs) => 31 - xs.length | _ => 0) ⟨[], 1 % d, 31, rfl, rfl, Int.emod_nonneg 1 nd, Int.emod_lt_of_pos 1 (by omega), fun _ z => (nomatch z), rfl, by rw [← e1]; rfl⟩ ?_ ?_
    · rintro σ H2 ⟨s, rr, n, hn, hs, rr0, rr1, sb, rfl, rfl⟩
      have hS : upd H R (.lst (s.map V.int)) R = some (.lst (s.map V.int)) := upd_same
      refine ⟨_, rfl, _, rfl, R, _, rfl, .inl (SqL.of hS), rfl, flat_ints s, _, rfl, ?_⟩
      rw [inV_ints]
      refine ite2 (fun g1 => ?_) (fun g1 => ?_)
      · have g2 : s.elem rr = false := by simpa using g1
        obtain ⟨n', rfl⟩ : ∃ n', n = n' + 1 := by
          refine ⟨n - 1, ?_⟩
          rcases Nat.eq_zero_or_pos n with z | z
          · subst z
            have e3 := epow (hs.trans (sim_stop (.inr rfl)))
            rw [g2] at e3
            exact absurd e3.2 Bool.false_ne_true
          · omega
        rw [sim_go g2] at hs
        have e2 : (rr * B).fmod d = rr * B % d := Int.fmod_eq_emod_of_nonneg _ (by omega)
        refine ⟨_, rfl, .inl ⟨rfl, _, SqL.of hS⟩, _, rfl, R, _, _, rfl, rfl, hS, by rw [List.length_map]; exact small1000 (by omega), ?_⟩
        refine ⟨_, rfl, _, rfl, _, _, rfl, rfl, .inl ⟨by omega, by omega⟩, _, rfl, _, _, rfl, rfl, nd, ⟨s ++ [rr], rr * B % d, n', by simp; omega, hs, Int.emod_nonneg _ nd, Int.emod_lt_of_pos _ (by omega), fun z hz => ?_, by rw [upd_upd, List.map_append]; rfl, by rw [← e2]; rfl⟩, ?_⟩
        · rcases List.mem_append.mp hz with hz | hz
          · exact sb z hz
          · rw [List.mem_singleton.mp hz]
            exact ⟨rr0, rr1⟩
        · rw [upd_same, upd_same]
          simp
          omega
      · have g2 : s.elem rr = true := by simpa using g1
        obtain ⟨pr, _⟩ := epow (hs.trans (sim_stop (.inl g2)))
        obtain ⟨i1, i2⟩ := idxI_spec g2
        generalize ha : idxI rr s = a0 at *
        refine ⟨_, rfl, .inl ⟨rfl, _, SqL.of hS⟩, _, rfl, R, _, .int rr, a0, .int rr, rfl, rfl, SqL.of hS, rfl, flat_ints s, by rw [List.getElem?_map, i1]; rfl, by simp [eqV], fun m z' hm hz' => ?_, ?_⟩
        · rw [List.getElem?_map] at hz'
          obtain ⟨y, hy, rfl⟩ := Option.map_eq_some_iff.mp hz'
          have := i2 m (by omega) y hy
          simpa [eqV] using this
        · refine ⟨_, rfl, _, rfl, _, rfl, R, _, rfl, SqL.of hS, fun x hx => ?_⟩
          rw [cutV_take, ← List.map_take]
          have hS2 := same_upd (o := .lst ((s.take a0).map V.int)) hx _ _ hS
          refine ⟨_, rfl, _, rfl, _, rfl, R, _, rfl, SqL.of hS2, fun y hy => ?_⟩
          rw [cutV_drop, ← List.map_drop]
          refine ⟨by show 2 ≤ sizeLine; decide, fun q hq => ?_⟩
          exact k s a0 q x y _ pr sb (((same_upd hR).trans (same_upd hx)).trans ((same_upd hy).trans (same_upd hq))) upd_same (same_upd hq _ _ (same_upd hy _ _ upd_same)) (same_upd hq _ _ upd_same)
    · exact m_test (m_op m_rIn m_var m_var)
/-! ### so many places tell all -/
def spTurn (T : Tx P K mg) : Sp := fun vs H Q _ => ∃ (p : Addr) (b t : Int) (fs ls : List Int) (d : Int), vs = [.ref p, .int d] ∧ SumAt T H p b t fs ls ∧ 1 ≤ d ∧ d ≤ 30 ∧ ∀ (L : List Int) (a : Nat) (H' : Hp), PowR (blockOf b t) d L a → Same H H' → Q (.int (turnN fs ls L a : Int)) H'
theorem ok_turn (T : Tx P K mg) : FnOk P w K mg base CX0 lv_turn T.a_turn T.d_turn ["told", "d"] (spTurn T) := by
  refine T.F_turn.ok sc_turn (fun vs H Q E h => ?_) (fun cdv A outer s H vs Q E hr h => ?_)
  · obtain ⟨p, b, t, fs, ls, d, rfl, _⟩ := h
    rfl
  · obtain ⟨p, b, t, fs, ls, d, rfl, a, d1, d2, k⟩ := h
    obtain ⟨dx, f, l, e, hf, hl, b1, b2, t1, t2, w1, w2⟩ := id a
    refine ⟨_, (pss_cons (ps_asg (pe_call (ok_power_rests T) (hr.mono (by decide)) rfl T.g_power_rests T.F_power_rests.kp T.b_power_rests .nil pass0 (pa_cons (pe_call (ok_sum_block T) (hr.mono (by decide)) rfl T.g_sum_block T.F_sum_block.kp T.b_sum_block .nil pass0 (pa_cons (pv 0) pa_nil)) (pa_cons (pv 1) pa_nil))) (pg_tup rfl (pgs_cons (pg_name (i := 2) sc_turn.nd rfl (Or.inl rfl)) (pgs_cons (pg_name (i := 3) sc_turn.nd rfl (Or.inl rfl)) pgs_nil))))
      (pss_one (ps_ret (pe_op op_add (pe_callB (call_max2 rfl) (by rfl) T.n_max (by decide +kernel) (pa_cons (pe_callB call_len_seq (by rfl) T.n_len (by decide +kernel) (pa_cons (pe_prop (pv 0) T.cl_Sum T.p_Sum_first (ok_Sum_first T) (hr.mono (by decide)) T.b_Sum_first .nil pass0 rfl) pa_nil)) (pa_cons (pe_callB call_len_seq (by rfl) T.n_len (by decide +kernel) (pa_cons (pv 2) pa_nil)) pa_nil))) (pe_op op_mul (pe_callB call_len_seq (by rfl) T.n_len (by decide +kernel) (pa_cons (pe_prop (pv 0) T.cl_Sum T.p_Sum_loop (ok_Sum_loop T) (hr.mono (by decide)) T.b_Sum_loop .nil pass0 rfl) pa_nil)) (pe_callB call_len_seq (by rfl) T.n_len (by decide +kernel) (pa_cons (pv 3) pa_nil))))))), ?_⟩
    refine ⟨_, rfl, p, b, t, fs, ls, rfl, a, _, rfl, b, t, d, rfl, b1, b2, t1, t2, d1, d2, fun L a0 q x y H2 pr sb S hq hx hy => ?_⟩
    refine ⟨q, _, rfl, SqT.of hq, rfl, _, _, rfl, _, _, rfl, rfl, ?_⟩
    have e2 := S _ _ e
    have k2 := k L a0 H2 pr S
    have ev : (if (((L.take a0).map V.int).length : Int) > ((fs.map V.int).length : Int) then (((L.take a0).map V.int).length : Int) else ((fs.map V.int).length : Int)) + ((ls.map V.int).length : Int) * (((L.drop a0).map V.int).length : Int) = (turnN fs ls L a0 : Int) := by
      have hlt := pr.lt
      rw [List.length_map, List.length_map, List.length_map, List.length_map, List.length_take, List.length_drop, Nat.min_eq_left (by omega)]
      unfold turnN
      rw [Int.natCast_add, Int.natCast_mul]
      congr 1
      split <;> omega
    rw [← ev] at k2
    exact ⟨_, rfl, p, dx, _, rfl, e2, p, dx, _, _, _, _, rfl, e2, f, _, rfl, .inr (SqT.of (S _ _ hf)), _, rfl, x, _, rfl, .inl (SqL.of hx), _, _, rfl, _, rfl, p, dx, _, rfl, e2, p, dx, _, _, _, _, rfl, e2, l, _, rfl, .inr (SqT.of (S _ _ hl)), _, rfl, y, _, rfl, .inl (SqL.of hy), _, _, rfl, rfl,
      .inl (show -(2 ^ 64) < ((ls.map V.int).length : Int) ∧ ((ls.map V.int).length : Int) < 2 ^ 64 from by rw [List.length_map]; have := w2.2.1; omega), _, _, rfl, rfl, k2⟩

/-! ### the least number whose rest is not kept -/
def spSumRest (T : Tx P K mg) : Sp := fun vs H Q _ => ∃ (p : Addr) (b t : Int) (fs ls : List Int) (d : Int), vs = [.ref p, .int d] ∧ SumAt T H p b t fs ls ∧ 1 ≤ d ∧ d ≤ 30 ∧
  ∀ (L : List Int) (a : Nat) (H' : Hp), PowR (blockOf b t) d L a → Same H H' → Q (dueV (blockOf b t) ((List.range (turnN fs ls L a)).find? (badP (blockOf b t) d (wAt fs ls)))) H'
theorem dvd_swap {d x y : Int} : decide (d ∣ x - y) = decide (d ∣ y - x) := decide_eq_decide.mpr (by rw [← Int.dvd_neg, Int.neg_sub])
theorem ok_sum_rest_fails (T : Tx P K mg) : FnOk P w K mg base (L2.CX P w) lv_sum_rest_fails T.a_sum_rest_fails T.d_sum_rest_fails ["told", "d"] (spSumRest T) := by
  refine T.F_sum_rest_fails.okX sc_sum_rest_fails (fun vs H Q E h => ?_) (fun cdv A outer s H vs Q E hr h => ?_)
  · obtain ⟨p, b, t, fs, ls, d, rfl, _⟩ := h
    rfl
  · obtain ⟨p, b, t, fs, ls, d, rfl, a, d1, d2, k⟩ := h
    obtain ⟨dx, f, l, e, hf, hl, b1, b2, t1, t2, w1, w2⟩ := id a
    obtain ⟨B1, B2⟩ := block_bd (t := t) b1 b2
    have nd : d ≠ 0 := by omega
    refine ⟨_, (pss_cons (ps_expr (pe_call (ok_check_sum T) (hr.mono (by decide)) rfl T.g_check_sum T.F_check_sum.kp T.b_check_sum .nil (passes_call (takes_of rfl rfl rfl rfl) fun _ _ _ _ h => h) (pa_cons (pv 0) pa_nil)))
      (pss_cons (ps_expr (pe_call (ok_check_divisor T) (hr.mono (by decide)) rfl T.g_check_divisor T.F_check_divisor.kp T.b_check_divisor .nil (passes_call (takes_of rfl rfl rfl rfl) fun _ _ _ _ h => h) (pa_cons (pv 1) (pa_cons (pe_glob (v := .int 30) rfl T.c_GREATEST_SUM_DIVISOR ⟨_, rfl⟩) pa_nil))))
      (pss_cons (ps_set (i := 2) sc_sum_rest_fails.nd rfl (Or.inl rfl) (pe_call (ok_sum_block T) (hr.mono (by decide)) rfl T.g_sum_block T.F_sum_block.kp T.b_sum_block .nil pass0 (pa_cons (pv 0) pa_nil)))
      (pss_cons (ps_set (i := 3) sc_sum_rest_fails.nd rfl (Or.inl rfl) pe_int)
      (pss_cons (ps_for (passes_of rfl) rfl (pi_range1 (by rfl) T.n_range (pa_cons (pe_call (ok_turn T) (hr.mono (by decide)) rfl T.g_turn T.F_turn.kp T.b_turn .nil pass0 (pa_cons (pv 0) (pa_cons (pv 1) pa_nil))) pa_nil)) (pg_name (i := 4) sc_sum_rest_fails.nd rfl (Or.inl rfl)) (pss_cons (ps_if (pt_cmpR op_ne (pe_op op_modN (pe_op op_sub (pe_call (ok_weight_at T) (hr.mono (by decide)) rfl T.g_weight_at T.F_weight_at.kp T.b_weight_at .nil pass0 (pa_cons (pv 0) (pa_cons (pv 4) pa_nil))) (pv 3)) (pv 1)) pe_int (nomark _)) (pss_one (ps_ret (pv 3))) pss_nil)
      (pss_one (ps_aug (i := 3) sc_sum_rest_fails.nd rfl (Or.inl rfl) (pv 2) (ip_op iop_mul)))))
      (pss_one (ps_ret pe_non))))))), ?_⟩
    refine ⟨_, rfl, _, rfl, .inl ⟨p, dx, _, rfl, e, ?_⟩⟩
    refine ⟨_, rfl, .int d, 30, rfl, by decide, by decide, .int d, fun _ => ?_, fun z => Bool.noConfusion ((intIn_of d1 d2).symm.trans z)⟩
    refine ⟨_, rfl, p, b, t, fs, ls, rfl, a, ?_⟩
    refine ⟨_, rfl, _, rfl, p, b, t, fs, ls, d, rfl, a, d1, d2, fun L a0 H2 pr S2 => ?_⟩
    have k := k L a0 H2 pr S2
    have a2 := a.same S2
    have hlt := pr.lt
    have hle := pr.le
    have hN : turnN fs ls L a0 ≤ 402 := by
      have h1 : ls.length * (L.length - a0) ≤ 12 * (L.length - a0) := Nat.mul_le_mul_right _ w2.2.1
      have h2 := w1.2.1
      unfold turnN
      omega
    generalize turnN fs ls L a0 = N at *
    refine ⟨(N : Int), rfl, by omega, by omega, ?_⟩
    generalize blockOf b t = B at *
    refine for_range (lo := 0) (n := (N : Int).toNat) (fun i σ H3 => ∃ x4 : Option V, H3 = H2 ∧ (∀ j, j < i → badP B d (wAt fs ls) j = false) ∧ σ = [some (.ref p), some (.int d), some (.int B), some (.int (B ^ i)), x4]) ⟨none, rfl, fun j hj => absurd hj (Nat.not_lt_zero _), by rw [Int.pow_zero]; rfl⟩ ?_ ?_
    · rintro i σ H3 hi ⟨x4, rfl, h0, rfl⟩
      rw [Int.toNat_natCast] at hi
      have ei : (0 : Int) + (i : Int) = (i : Int) := Int.zero_add _
      rw [ei]
      refine ⟨_, rfl, _, rfl, p, b, t, fs, ls, i, rfl, a2, _, rfl, _, _, rfl, rfl, _, rfl, _, _, rfl, rfl, nd, rfl, _, rfl, ?_⟩
      have eb : (!decide (V.int ((wAt fs ls i - B ^ i).fmod d) = V.int 0)) = badP B d (wAt fs ls) i := by
        unfold badP
        rw [dec_i, dvd_swap]
        congr 1
        apply decide_eq_decide.mpr
        rw [Int.fmod_eq_emod_of_nonneg _ (by omega)]
        exact (Int.dvd_iff_emod_eq_zero).symm
      rw [eb]
      refine ite2 (fun g => ?_) (fun g => ?_)
      · rw [find_hit h0 g hi] at k
        exact ⟨_, rfl, k⟩
      · have g1 : badP B d (wAt fs ls) i = false := by simpa using g
        refine ⟨_, rfl, _, rfl, _, _, rfl, rfl, .inr ⟨by omega, by omega⟩, _, rfl, fun j hj => ?_, by rw [Int.pow_succ]; rfl⟩
        rcases Nat.lt_or_ge j i with q | q
        · exact h0 j q
        · rw [show j = i by omega]
          exact g1
    · rintro σ H3 ⟨x4, rfl, h0, rfl⟩
      rw [Int.toNat_natCast] at h0
      rw [find_no h0] at k
      exact k

/-! ### the weights nearest to 0 -/
def near (d r : Int) : Int := if 2 * r ≤ d then r else r - d
theorem near_ok {d z : Int} (z0 : 0 ≤ z) (z1 : z < d) : near d z % d = z ∧ -d < 2 * near d z ∧ 2 * near d z ≤ d := by
  unfold near
  split
  · exact ⟨Int.emod_eq_of_lt z0 z1, by omega, by omega⟩
  · refine ⟨?_, by omega, by omega⟩
    rw [show z - d = z + d * (-1) by omega, Int.add_mul_emod_self_left]
    exact Int.emod_eq_of_lt z0 z1
def nearL (d : Int) (L : List Int) : List Int := L.map (near d)
def spNear : Sp := fun vs H Q _ => ∃ r d : Int, vs = [.int r, .int d] ∧ 0 ≤ r ∧ r ≤ 100 ∧ Q (.int (near d r)) H
theorem ok_nearest (T : Tx P K mg) : FnOk P w K mg base CX0 lv_nearest T.a_nearest T.d_nearest ["rest", "d"] spNear := by
  refine T.F_nearest.ok sc_nearest (fun vs H Q E h => ?_) (fun cdv A outer s H vs Q E hr h => ?_)
  · obtain ⟨r, d, rfl, _⟩ := h
    rfl
  · obtain ⟨r, d, rfl, r0, r1, k⟩ := h
    refine ⟨_, (pss_one (ps_ret (pe_ifExp (pt_cmpR op_le (pe_op op_mul pe_int (pv 0)) (pv 1) (nomark _)) (pv 0) (pe_op op_sub (pv 0) (pv 1))))), ?_⟩
    unfold near at k
    refine ⟨_, rfl, _, _, rfl, rfl, .inl ⟨by decide, by decide⟩, _, rfl, _, _, rfl, rfl, _, rfl, ?_⟩
    refine ite2 (fun g => ?_) (fun g => ?_)
    · rw [if_pos (of_decide_eq_true g)] at k
      exact ⟨_, rfl, k⟩
    · rw [if_neg (fun z => g (decide_eq_true z))] at k
      exact ⟨_, rfl, _, rfl, _, _, rfl, rfl, k⟩
def spRestWeights (T : Tx P K mg) : Sp := fun vs H Q E => ∃ x y z : V, vs = [x, y, z] ∧ AnyV (OwnT T) H x ∧ AnyV (OwnT T) H y ∧ AnyV (OwnT T) H z ∧
  (intIn x 2 16 = false → E (.ref T.C_BadBase) none H) ∧ (intIn x 2 16 = true → intIn y 1 2 = false → E (.ref T.C_BadTake) none H) ∧
  (intIn x 2 16 = true → intIn y 1 2 = true → intIn z 1 30 = false → E (.ref T.C_BadDivisor) none H) ∧
  ∀ b t d : Int, x = .int b → y = .int t → z = .int d → 2 ≤ b → b ≤ 16 → 1 ≤ t → t ≤ 2 → 1 ≤ d → d ≤ 30 →
    ∀ (L : List Int) (a : Nat) (q f l : Addr) (H' : Hp), PowR (blockOf b t) d L a → (∀ z ∈ L, 0 ≤ z ∧ z < d) → Same H H' → H' q = some (.tup [.ref f, .ref l]) → H' f = some (.tup ((nearL d (L.take a)).map V.int)) → H' l = some (.tup ((nearL d (L.drop a)).map V.int)) → Q (.ref q) H'
theorem ok_rest_weights (T : Tx P K mg) : FnOk P w K mg base (L2.CX P w) lv_rest_weights T.a_rest_weights T.d_rest_weights ["base", "take", "d"] (spRestWeights T) := by
  refine T.F_rest_weights.okX sc_rest_weights (fun vs H Q E h => ?_) (fun cdv A outer s H vs Q E hr h => ?_)
  · obtain ⟨x, y, z, rfl, _⟩ := h
    rfl
  · obtain ⟨x, y, z, rfl, ax, ay, az, e1, e2, e3, k⟩ := h
    refine ⟨_, (pss_cons (ps_expr (pe_call (ok_check_base T) (hr.mono (by decide)) rfl T.g_check_base T.F_check_base.kp T.b_check_base .nil (passes_call (takes_of rfl rfl rfl rfl) fun _ _ _ _ h => h) (pa_cons (pv 0) pa_nil)))
      (pss_cons (ps_expr (pe_call (ok_check_take T) (hr.mono (by decide)) rfl T.g_check_take T.F_check_take.kp T.b_check_take .nil (passes_call (takes_of rfl rfl rfl rfl) fun _ _ _ _ h => h) (pa_cons (pv 1) pa_nil)))
      (pss_cons (ps_expr (pe_call (ok_check_divisor T) (hr.mono (by decide)) rfl T.g_check_divisor T.F_check_divisor.kp T.b_check_divisor .nil (passes_call (takes_of rfl rfl rfl rfl) fun _ _ _ _ h => h) (pa_cons (pv 2) (pa_cons (pe_glob (v := .int 30) rfl T.c_GREATEST_SUM_DIVISOR ⟨_, rfl⟩) pa_nil))))
      (pss_cons (ps_asg (pe_call (ok_power_rests T) (hr.mono (by decide)) rfl T.g_power_rests T.F_power_rests.kp T.b_power_rests .nil pass0 (pa_cons (pe_call (ok_block_of T) (hr.mono (by decide)) rfl T.g_block_of T.F_block_of.kp T.b_block_of .nil pass0 (pa_cons (pv 0) (pa_cons (pv 1) pa_nil))) (pa_cons (pv 2) pa_nil))) (pg_tup rfl (pgs_cons (pg_name (i := 3) sc_rest_weights.nd rfl (Or.inl rfl)) (pgs_cons (pg_name (i := 4) sc_rest_weights.nd rfl (Or.inl rfl)) pgs_nil))))
      (pss_one (ps_ret (pe_tup (pa_cons (pe_callTy call_tuple_of (by rfl) T.n_tuple (by decide +kernel) (pa_cons (pe_lc (own := [("rest", 5)]) (g := gName 5) (tt := tYes) rfl sc_rest_weights.nd (pi_list (pv 3)) (blkOk_by (own := [("rest", 5)]) (N := ["base", "take", "d", "before", "again", "rest"]) (sc := defScope s_rest_weights) (by decide +kernel)) (fun _ _ _ _ _ => pg_name (i := 5) sc_rest_weights.nd rfl (Or.inl rfl)) (fun _ _ _ _ _ => pts_nil) (fun _ _ _ _ _ => (pe_call (ok_nearest T) (hr.mono (by decide)) rfl T.g_nearest T.F_nearest.kp T.b_nearest .nil pass0 (pa_cons (pv 5) (pa_cons (pv 2) pa_nil))))) pa_nil)) (pa_cons (pe_callTy call_tuple_of (by rfl) T.n_tuple (by decide +kernel) (pa_cons (pe_lc (own := [("rest", 5)]) (g := gName 5) (tt := tYes) rfl sc_rest_weights.nd (pi_list (pv 4)) (blkOk_by (own := [("rest", 5)]) (N := ["base", "take", "d", "before", "again", "rest"]) (sc := defScope s_rest_weights) (by decide +kernel)) (fun _ _ _ _ _ => pg_name (i := 5) sc_rest_weights.nd rfl (Or.inl rfl)) (fun _ _ _ _ _ => pts_nil) (fun _ _ _ _ _ => (pe_call (ok_nearest T) (hr.mono (by decide)) rfl T.g_nearest T.F_nearest.kp T.b_nearest .nil pass0 (pa_cons (pv 5) (pa_cons (pv 2) pa_nil))))) pa_nil)) pa_nil))))))))), ?_⟩
    refine ⟨_, rfl, x, rfl, ax, fun g1 => ?_, e1⟩
    refine ⟨_, rfl, y, rfl, ay, fun g2 => ?_, e2 g1⟩
    refine ⟨_, rfl, z, 30, rfl, by decide, by decide, az, fun g3 => ?_, e3 g1 g2⟩
    obtain ⟨b, rfl, b1, b2⟩ := intIn_int' g1
    obtain ⟨t, rfl, t1, t2⟩ := intIn_int' g2
    obtain ⟨d, rfl, d1, d2⟩ := intIn_int' g3
    have k := k b t d rfl rfl rfl b1 b2 t1 t2 d1 d2
    refine ⟨_, rfl, _, rfl, b, t, rfl, b1, b2, _, rfl, b, t, d, rfl, b1, b2, t1, t2, d1, d2, fun L a q x y H2 pr sb S2 hq hx hy => ?_⟩
    have k := k L a
    refine ⟨q, _, rfl, SqT.of hq, rfl, _, _, rfl, _, _, rfl, rfl, ?_⟩
    have step : ∀ {M : List Int} {c D : Addr} {σ0 : L2.St}, True := trivial
    refine ⟨_, rfl, x, rfl, ⟨_, SqL.of hx⟩, fun D hD => ?_⟩
    refine lc_list (K := K) (a := x) (xs := (L.take a).map V.int) (fun i H4 => Same H2 H4 ∧ H4 D = some (.lst ((nearL d ((L.take a).take i)).map V.int))) ⟨same_upd hD, upd_same⟩ (fun i H4 hi P => SqL.of (P.1 _ _ hx)) ?_ ?_
    · rintro i v H4 hv ⟨S4, hL⟩
      obtain ⟨z, hz, rfl⟩ : ∃ z, (L.take a)[i]? = some z ∧ V.int z = v := by
        rw [List.getElem?_map] at hv
        obtain ⟨z, hz, e⟩ := Option.map_eq_some_iff.mp hv
        exact ⟨z, hz, e⟩
      obtain ⟨z0, z1⟩ := sb z (List.mem_of_mem_take (List.mem_of_getElem? hz))
      have hle := pr.le
      have hil : ((nearL d ((L.take a).take i)).map V.int).length < sizeLine := by
        unfold nearL
        rw [List.length_map, List.length_map, List.length_take, List.length_take]
        exact small1000 (by omega)
      refine ⟨rfl, _, rfl, _, rfl, z, d, rfl, z0, by omega, _, hL, hil, fun c o e => ?_, ?_⟩
      · rw [upd_ne (ne_of_none e hD)]
        exact S4 _ _ e
      · rw [upd_same, List.take_succ, hz]
        unfold nearL
        rw [List.map_append, List.map_append]
        rfl
    · rintro H4 ⟨S4, hL⟩
      rw [List.length_map, List.take_length] at hL
      refine ⟨D, _, rfl, .inl ⟨SqL.of hL, fun f hf => ?_⟩⟩
      have Sf := S4.trans (same_upd (o := .tup ((nearL d (L.take a)).map V.int)) hf)
      have hy5 := Sf _ _ hy
      refine ⟨_, rfl, y, rfl, ⟨_, SqL.of hy5⟩, fun D2 hD2 => ?_⟩
      have hf5 : upd H4 f (.tup ((nearL d (L.take a)).map V.int)) f = some (.tup ((nearL d (L.take a)).map V.int)) := upd_same
      generalize upd H4 f (.tup ((nearL d (L.take a)).map V.int)) = H5 at *
      refine lc_list (K := K) (a := y) (xs := (L.drop a).map V.int) (fun i H6 => Same H5 H6 ∧ H6 D2 = some (.lst ((nearL d ((L.drop a).take i)).map V.int))) ⟨same_upd hD2, upd_same⟩ (fun i H6 hi P => SqL.of (P.1 _ _ hy5)) ?_ ?_
      · rintro i v H6 hv ⟨S6, hL6⟩
        obtain ⟨z, hz, rfl⟩ : ∃ z, (L.drop a)[i]? = some z ∧ V.int z = v := by
          rw [List.getElem?_map] at hv
          obtain ⟨z, hz, e⟩ := Option.map_eq_some_iff.mp hv
          exact ⟨z, hz, e⟩
        obtain ⟨z0, z1⟩ := sb z (List.mem_of_mem_drop (List.mem_of_getElem? hz))
        have hle := pr.le
        have hil : ((nearL d ((L.drop a).take i)).map V.int).length < sizeLine := by
          unfold nearL
          rw [List.length_map, List.length_map, List.length_take, List.length_drop]
          exact small1000 (by omega)
        refine ⟨rfl, _, rfl, _, rfl, z, d, rfl, z0, by omega, _, hL6, hil, fun c o e => ?_, ?_⟩
        · rw [upd_ne (ne_of_none e hD2)]
          exact S6 _ _ e
        · rw [upd_same, List.take_succ, hz]
          unfold nearL
          rw [List.map_append, List.map_append]
          rfl
      · rintro H6 ⟨S6, hL6⟩
        rw [List.length_map, List.take_length] at hL6
        refine ⟨D2, _, rfl, .inl ⟨SqL.of hL6, fun l hl => ⟨by show 2 ≤ sizeLine; decide, fun q2 hq2 => ?_⟩⟩⟩
        exact k q2 f l _ pr sb ((S2.trans Sf).trans (S6.trans ((same_upd hl).trans (same_upd hq2)))) upd_same (same_upd hq2 _ _ (same_upd hl _ _ (S6 _ _ hf5))) (same_upd hq2 _ _ upd_same)

/-! ### the sum of all blocks -/
def tot (B : Nat) (u : Nat → Int) (k n : Nat) : Int := if h : n = 0 ∨ B < 2 then 0 else ((n % B : Nat) : Int) * u k + tot B u (k + 1) (n / B)
termination_by n
decreasing_by exact Nat.div_lt_self (Nat.pos_of_ne_zero fun z => h (.inl z)) (by omega)
theorem tot_zero (B : Nat) (u : Nat → Int) (k : Nat) : tot B u k 0 = 0 := by
  unfold tot
  simp
theorem tot_step {B : Nat} (u : Nat → Int) (k : Nat) {n : Nat} (hB : 2 ≤ B) (hn : n ≠ 0) : tot B u k n = ((n % B : Nat) : Int) * u k + tot B u (k + 1) (n / B) := by
  rw [tot, dif_neg (by omega)]
theorem fm_nat {n B : Nat} (h : 2 ≤ B) : (n : Int).fmod (B : Int) = ((n % B : Nat) : Int) := by
  rw [Int.fmod_eq_emod_of_nonneg _ (by omega)]
  rfl

/-! ### numbers whose rests come for the first time -/
theorem tot_add {B : Nat} (u : Nat → Int) (hB : 2 ≤ B) : ∀ (k j c x : Nat), c < B → x < B ^ k → tot B u j (c * B ^ k + x) = tot B u j x + (c : Int) * u (j + k)
  | 0, j, c, x, hc, hx => by
    have x0 : x = 0 := by simpa using hx
    subst x0
    rw [Nat.pow_zero, Nat.mul_one, Nat.add_zero, tot_zero, Int.zero_add, Nat.add_zero]
    rcases Nat.eq_zero_or_pos c with z | z
    · subst z
      rw [tot_zero]
      simp
    · rw [tot_step u j hB (by omega), Nat.mod_eq_of_lt hc, Nat.div_eq_of_lt hc, tot_zero, Int.add_zero]
  | k + 1, j, c, x, hc, hx => by
    have e1 : (c * B ^ (k + 1) + x) % B = x % B := by
      rw [Nat.pow_succ, ← Nat.mul_assoc, Nat.add_comm, Nat.add_mul_mod_self_right]
    have e2 : (c * B ^ (k + 1) + x) / B = c * B ^ k + x / B := by
      rw [Nat.pow_succ, ← Nat.mul_assoc, Nat.add_comm, Nat.add_mul_div_right _ _ (by omega), Nat.add_comm]
    have hx2 : x / B < B ^ k := by
      rw [Nat.div_lt_iff_lt_mul (by omega)]
      rwa [Nat.pow_succ] at hx
    have ih := tot_add u hB k (j + 1) c (x / B) hc hx2
    have ex : tot B u j x = ((x % B : Nat) : Int) * u j + tot B u (j + 1) (x / B) := by
      rcases Nat.eq_zero_or_pos x with z | z
      · subst z
        rw [Nat.zero_mod, Nat.zero_div, tot_zero, tot_zero]
        simp
      · exact tot_step u j hB (by omega)
    have en : tot B u j (c * B ^ (k + 1) + x) = (((c * B ^ (k + 1) + x) % B : Nat) : Int) * u j + tot B u (j + 1) ((c * B ^ (k + 1) + x) / B) := by
      rcases Nat.eq_zero_or_pos (c * B ^ (k + 1) + x) with z | z
      · rw [z, Nat.zero_mod, Nat.zero_div, tot_zero, tot_zero]
        simp
      · exact tot_step u j hB (by omega)
    rw [en, e1, e2, ih, ex, show j + 1 + k = j + (k + 1) by omega, Int.add_assoc]
/-- the rests of a number and of its sum -/
def rp (B : Nat) (u : Nat → Int) (d : Int) (n : Nat) : Int × Int := ((n : Int) % d, tot B u 0 n % d)
/-- what so many further of a block do to them -/
def shp (pw wt d : Int) (c : Int) (g : Int × Int) : Int × Int := ((g.1 + c * (pw % d)) % d, (g.2 + c * wt) % d)
theorem rp_shp {B : Nat} {u : Nat → Int} {d : Int} (hB : 2 ≤ B) {k c x : Nat} (hc : c < B) (hx : x < B ^ k) : rp B u d (c * B ^ k + x) = shp ((B : Int) ^ k) (u k) d c (rp B u d x) := by
  unfold rp shp
  rw [tot_add u hB k 0 c x hc hx, Nat.zero_add]
  refine Prod.ext ?_ ?_
  · show (((c * B ^ k + x : Nat) : Int)) % d = ((x : Int) % d + (c : Int) * ((B : Int) ^ k % d)) % d
    rw [Int.natCast_add, Int.natCast_mul, Int.natCast_pow, Int.emod_add_emod, Int.add_emod, Int.mul_emod, Int.add_comm]
    rw [Int.add_emod (x : Int), Int.mul_emod (c : Int) ((B : Int) ^ k % d), Int.emod_emod]
  · show (tot B u 0 x + (c : Int) * u k) % d = (tot B u 0 x % d + (c : Int) * u k) % d
    rw [Int.emod_add_emod]
theorem shp_shp {pw wt d : Int} (a b : Int) (g : Int × Int) : shp pw wt d a (shp pw wt d b g) = shp pw wt d (a + b) g := by
  unfold shp
  refine Prod.ext ?_ ?_
  · show ((g.1 + b * (pw % d)) % d + a * (pw % d)) % d = (g.1 + (a + b) * (pw % d)) % d
    rw [Int.emod_add_emod, Int.add_mul]
    congr 1
    omega
  · show ((g.2 + b * wt) % d + a * wt) % d = (g.2 + (a + b) * wt) % d
    rw [Int.emod_add_emod, Int.add_mul]
    congr 1
    omega
section
variable {α : Type} [DecidableEq α] (f : Nat → α)
def fo (n : Nat) : Bool := (List.range n).all fun j => decide (f j ≠ f n)
theorem fo_iff {n : Nat} : fo f n = true ↔ ∀ j, j < n → f j ≠ f n := by
  unfold fo
  rw [List.all_eq_true]
  exact ⟨fun h j hj => of_decide_eq_true (h j (List.mem_range.mpr hj)), fun h j hj => decide_eq_true (h j (List.mem_range.mp hj))⟩
theorem fo_not {n : Nat} (h : fo f n = false) : ∃ j, j < n ∧ f j = f n := by
  rcases Classical.em (∃ j, j < n ∧ f j = f n) with c | c
  · exact c
  · have : fo f n = true := (fo_iff f).mpr fun j hj e => c ⟨j, hj, e⟩
    rw [h] at this
    cases this
/-- each comes for the first time somewhere -/
theorem fo_rep : ∀ n : Nat, ∃ m, m ≤ n ∧ fo f m = true ∧ f m = f n := by
  intro n
  induction n using Nat.strongRecOn with
  | ind n ih =>
    cases e : fo f n with
    | true => exact ⟨n, Nat.le_refl _, e, rfl⟩
    | false =>
      obtain ⟨j, hj, ej⟩ := fo_not f e
      obtain ⟨m, h1, h2, h3⟩ := ih j hj
      exact ⟨m, by omega, h2, h3.trans ej⟩
def fl (a b : Nat) : List Nat := (List.range' a (b - a)).filter (fo f)
theorem fl_mem {a b n : Nat} : n ∈ fl f a b ↔ a ≤ n ∧ n < b ∧ fo f n = true := by
  unfold fl
  rw [List.mem_filter, List.mem_range'_1]
  constructor
  · rintro ⟨⟨h1, h2⟩, h3⟩
    exact ⟨h1, by omega, h3⟩
  · rintro ⟨h1, h2, h3⟩
    exact ⟨⟨h1, by omega⟩, h3⟩
theorem fl_nil {a b : Nat} (h : b ≤ a) : fl f a b = [] := by
  unfold fl
  rw [show b - a = 0 by omega]
  rfl
theorem fl_app {a b c : Nat} (h1 : a ≤ b) (h2 : b ≤ c) : fl f a c = fl f a b ++ fl f b c := by
  unfold fl
  have e : List.range' a (c - a) = List.range' a (b - a) ++ List.range' b (c - b) := by
    have := List.range'_append (s := a) (m := b - a) (n := c - b) (step := 1)
    rw [Nat.one_mul, show a + (b - a) = b by omega, show b - a + (c - b) = c - a by omega] at this
    exact this.symm
  rw [e, List.filter_append]
theorem fl_one {a : Nat} : fl f a (a + 1) = if fo f a = true then [a] else [] := by
  unfold fl
  rw [show a + 1 - a = 1 by omega]
  show (List.range' a 1).filter (fo f) = _
  rw [show List.range' a 1 = [a] from rfl, List.filter_cons, List.filter_nil]
theorem fl_skip {a b c : Nat} (h1 : a ≤ b) (h2 : b ≤ c) (h : ∀ n, b ≤ n → n < c → fo f n = false) : fl f a c = fl f a b := by
  rw [fl_app f h1 h2]
  have : fl f b c = [] := by
    rw [List.eq_nil_iff_forall_not_mem]
    intro n hn
    obtain ⟨q1, q2, q3⟩ := (fl_mem f).mp hn
    rw [h n q1 q2] at q3
    cases q3
  rw [this, List.append_nil]
theorem fl_empty {a b : Nat} (h : (fl f a b).length = 0) {n : Nat} (h1 : a ≤ n) (h2 : n < b) : fo f n = false := by
  cases e : fo f n with
  | false => rfl
  | true =>
    have := (fl_mem f).mpr ⟨h1, h2, e⟩
    rw [List.length_eq_zero_iff.mp h] at this
    cases this
theorem fl_sorted (a b : Nat) : (fl f a b).Pairwise (· < ·) := by
  unfold fl
  exact List.Pairwise.filter _ List.pairwise_lt_range'
theorem fl_nodup (a b : Nat) : ((fl f a b).map f).Nodup := by
  show List.Pairwise (· ≠ ·) _
  rw [List.pairwise_map]
  refine List.Pairwise.imp_of_mem (fun {x y} hx hy h => ?_) (fl_sorted f a b)
  exact (fo_iff f).mp ((fl_mem f).mp hy).2.2 x h
/-- it is new just if it is not among the earlier ones, each told by its first place -/
theorem fo_by {n a : Nat} (h : a ≤ n) : fo f n = true ↔ (∀ j ∈ fl f 0 a, f j ≠ f n) ∧ ∀ j ∈ fl f a n, f j ≠ f n := by
  rw [fo_iff]
  constructor
  · intro q
    exact ⟨fun j hj => q j (by have := (fl_mem f).mp hj; omega), fun j hj => q j (by have := (fl_mem f).mp hj; omega)⟩
  · rintro ⟨q1, q2⟩ j hj e
    obtain ⟨m, h1, h2, h3⟩ := fo_rep f j
    rcases Nat.lt_or_ge m a with z | z
    · exact q1 m ((fl_mem f).mpr ⟨Nat.zero_le _, z, h2⟩) (h3.trans e)
    · exact q2 m ((fl_mem f).mpr ⟨z, by omega, h2⟩) (h3.trans e)
end
section
variable {B : Nat} {u : Nat → Int} {d : Int}
/-- within a block, only first ones begin first ones -/
theorem fo_low (hB : 2 ≤ B) {k c x : Nat} (hc : c < B) (hx : x < B ^ k) (h : fo (rp B u d) x = false) : fo (rp B u d) (c * B ^ k + x) = false := by
  obtain ⟨j, hj, e⟩ := fo_not _ h
  cases q : fo (rp B u d) (c * B ^ k + x) with
  | false => rfl
  | true =>
    refine absurd ?_ ((fo_iff _).mp q (c * B ^ k + j) (by omega))
    rw [rp_shp hB hc (by omega), rp_shp hB hc hx, e]
/-- a block that brings nothing new: no further one does -/
theorem fo_high (hB : 2 ≤ B) {k c : Nat} (hc : c + 1 < B) (c0 : 1 ≤ c) (h : ∀ n, c * B ^ k ≤ n → n < (c + 1) * B ^ k → fo (rp B u d) n = false) {n : Nat} (h1 : (c + 1) * B ^ k ≤ n) (h2 : n < (c + 2) * B ^ k) : fo (rp B u d) n = false := by
  have pk : 0 < B ^ k := Nat.pow_pos (by omega)
  obtain ⟨x, hx, rfl⟩ : ∃ x, x < B ^ k ∧ n = (c + 1) * B ^ k + x := ⟨n - (c + 1) * B ^ k, by rw [show c + 2 = (c + 1) + 1 by omega, Nat.succ_mul] at h2; omega, by omega⟩
  have m := h (c * B ^ k + x) (by omega) (by rw [Nat.succ_mul]; omega)
  obtain ⟨y, hy, fy, ey⟩ := fo_rep (rp B u d) (c * B ^ k + x)
  have yl : y < c * B ^ k := by
    rcases Nat.lt_or_ge y (c * B ^ k) with z | z
    · exact z
    · rw [h y z (by rw [Nat.succ_mul]; omega)] at fy
      cases fy
  have yd := Nat.div_add_mod y (B ^ k)
  have ym := Nat.mod_lt y pk
  have yc : y / B ^ k < c := (Nat.div_lt_iff_lt_mul pk).mpr yl
  have e1 : rp B u d ((c + 1) * B ^ k + x) = rp B u d ((y / B ^ k + 1) * B ^ k + y % B ^ k) := by
    rw [rp_shp hB hc hx, rp_shp hB (by omega) ym]
    have e2 : rp B u d y = shp ((B : Int) ^ k) (u k) d ((y / B ^ k : Nat) : Int) (rp B u d (y % B ^ k)) := by
      rw [← rp_shp hB (by omega) ym, Nat.mul_comm, yd]
    rw [rp_shp hB (by omega) hx] at ey
    rw [show (((c + 1 : Nat) : Int)) = 1 + (c : Int) by omega, ← shp_shp, ← ey, e2, shp_shp, show (((y / B ^ k + 1 : Nat) : Int)) = 1 + ((y / B ^ k : Nat) : Int) by omega]
  cases q : fo (rp B u d) ((c + 1) * B ^ k + x) with
  | false => rfl
  | true =>
    refine absurd e1.symm ((fo_iff _).mp q _ ?_)
    have l1 : (y / B ^ k + 1) * B ^ k ≤ c * B ^ k := Nat.mul_le_mul_right _ yc
    have e3 : (c + 1) * B ^ k = c * B ^ k + B ^ k := Nat.succ_mul _ _
    omega
theorem fo_rest (hB : 2 ≤ B) {k c : Nat} (c0 : 1 ≤ c) (hc : c < B) (h : ∀ n, c * B ^ k ≤ n → n < (c + 1) * B ^ k → fo (rp B u d) n = false) : ∀ n, c * B ^ k ≤ n → n < B ^ (k + 1) → fo (rp B u d) n = false := by
  have pk : 0 < B ^ k := Nat.pow_pos (by omega)
  have step : ∀ e, c + e < B → ∀ n, (c + e) * B ^ k ≤ n → n < (c + e + 1) * B ^ k → fo (rp B u d) n = false := by
    intro e
    induction e with
    | zero => intro _; exact h
    | succ e ih =>
      intro he n h1 h2
      exact fo_high hB (c := c + e) (by omega) (by omega) (ih (by omega)) h1 h2
  intro n h1 h2
  have q1 : c ≤ n / B ^ k := (Nat.le_div_iff_mul_le pk).mpr h1
  have q2 : n / B ^ k < B := (Nat.div_lt_iff_lt_mul pk).mpr (by rw [Nat.mul_comm, ← Nat.pow_succ]; exact h2)
  have yd := Nat.div_add_mod n (B ^ k)
  have ym := Nat.mod_lt n pk
  have ce := Nat.mul_comm (B ^ k) (n / B ^ k)
  obtain ⟨e, he⟩ : ∃ e, n / B ^ k = c + e := ⟨n / B ^ k - c, by omega⟩
  rw [he] at yd ce q2
  rw [Nat.mul_comm] at yd
  have e3 : (c + e + 1) * B ^ k = (c + e) * B ^ k + B ^ k := Nat.succ_mul _ _
  generalize n % B ^ k = r at yd ym
  generalize ew : (c + e) * B ^ k = w at *
  refine step e q2 n (by rw [ew]; omega) ?_
  rw [e3]
  omega
end

/-! ### when no further rests come -/
section
variable {B : Nat} {u : Nat → Int} {d : Int}
def InR (B : Nat) (u : Nat → Int) (d : Int) (j : Nat) (g : Int × Int) : Prop := ∃ y, y < B ^ j ∧ rp B u d y = g
def Idle (B : Nat) (u : Nat → Int) (d : Int) (j : Nat) : Prop := ∀ n, B ^ j ≤ n → n < B ^ (j + 1) → fo (rp B u d) n = false
abbrev shk (B : Nat) (u : Nat → Int) (d : Int) (k : Nat) (c : Int) (g : Int × Int) : Int × Int := shp ((B : Int) ^ k) (u k) d c g
theorem split_at (hB : 2 ≤ B) {k n : Nat} (h : n < B ^ (k + 1)) : ∃ c x, c < B ∧ x < B ^ k ∧ n = c * B ^ k + x := by
  have pk : 0 < B ^ k := Nat.pow_pos (by omega)
  refine ⟨n / B ^ k, n % B ^ k, (Nat.div_lt_iff_lt_mul pk).mpr (by rw [Nat.mul_comm, ← Nat.pow_succ]; exact h), Nat.mod_lt _ pk, ?_⟩
  rw [Nat.mul_comm, Nat.div_add_mod]
theorem join_lt {k c x : Nat} (hc : c < B) (hx : x < B ^ k) : c * B ^ k + x < B ^ (k + 1) := by
  have h : (c + 1) * B ^ k ≤ B * B ^ k := Nat.mul_le_mul_right _ hc
  rw [Nat.succ_mul] at h
  rw [Nat.pow_succ, Nat.mul_comm (B ^ k) B]
  omega
theorem inR_succ (hB : 2 ≤ B) {k : Nat} {g : Int × Int} : InR B u d (k + 1) g ↔ ∃ (c : Nat) (h : Int × Int), c < B ∧ InR B u d k h ∧ shk B u d k c h = g := by
  constructor
  · rintro ⟨y, hy, rfl⟩
    obtain ⟨c, x, hc, hx, rfl⟩ := split_at hB hy
    exact ⟨c, _, hc, ⟨x, hx, rfl⟩, (rp_shp hB hc hx).symm⟩
  · rintro ⟨c, h, hc, ⟨x, hx, rfl⟩, rfl⟩
    exact ⟨c * B ^ k + x, join_lt hc hx, rp_shp hB hc hx⟩
theorem inR_le (hB : 2 ≤ B) {j k : Nat} {g : Int × Int} (h : j ≤ k) : InR B u d j g → InR B u d k g :=
  fun ⟨y, hy, e⟩ => ⟨y, Nat.lt_of_lt_of_le hy (Nat.pow_le_pow_right (by omega) h), e⟩
theorem inR_red {j : Nat} {g : Int × Int} (h : InR B u d j g) : shp a b d 0 g = g := by
  obtain ⟨y, _, rfl⟩ := h
  unfold shp rp
  simp
theorem idle_closed (hB : 2 ≤ B) {j c : Nat} (h : Idle B u d j) (hc : c < B) {g : Int × Int} (hg : InR B u d j g) : InR B u d j (shk B u d j c g) := by
  obtain ⟨x, hx, rfl⟩ := hg
  obtain ⟨m, h1, h2, h3⟩ := fo_rep (rp B u d) (c * B ^ j + x)
  refine ⟨m, ?_, h3.trans (rp_shp hB hc hx)⟩
  rcases Nat.lt_or_ge m (B ^ j) with z | z
  · exact z
  · have := join_lt hc hx
    rw [h m z (by omega)] at h2
    cases h2
theorem idle_back (hB : 2 ≤ B) {g : Int × Int} : ∀ (e : Nat) {j : Nat}, (∀ i, j ≤ i → i < j + e → Idle B u d i) → InR B u d (j + e) g → InR B u d j g
  | 0, j, _, h => h
  | e + 1, j, hi, h => by
    obtain ⟨c, x, hc, hx, rfl⟩ := (inR_succ hB).mp h
    exact idle_back hB e (fun i a b => hi i a (by omega)) (idle_closed hB (hi (j + e) (by omega) (by omega)) hc hx)
theorem closed_idle (hB : 2 ≤ B) {j : Nat} (h : ∀ g, InR B u d j g → InR B u d j (shk B u d j 1 g)) : Idle B u d j := by
  have hc : ∀ (c : Nat) g, InR B u d j g → InR B u d j (shk B u d j c g) := by
    intro c
    induction c with
    | zero => exact fun g hg => by rw [show shk B u d j ((0 : Nat) : Int) g = g from inR_red hg]; exact hg
    | succ c ih =>
      intro g hg
      have := h _ (ih g hg)
      rw [show shk B u d j (1 : Int) (shk B u d j (c : Int) g) = shk B u d j (((c + 1 : Nat) : Int)) g from by
        unfold shk
        rw [shp_shp, show (1 : Int) + (c : Int) = (((c + 1 : Nat) : Int)) by omega]] at this
      exact this
  intro n h1 h2
  obtain ⟨c, x, hcb, hx, rfl⟩ := split_at hB h2
  cases q : fo (rp B u d) (c * B ^ j + x) with
  | false => rfl
  | true =>
    obtain ⟨y, hy, e⟩ := hc c _ ⟨x, hx, rfl⟩
    exact absurd (e.trans (rp_shp hB hcb hx).symm) ((fo_iff _).mp q y (by omega))
theorem shp_com {p q r s d : Int} (a b : Int) (g : Int × Int) : shp p q d a (shp r s d b g) = shp r s d b (shp p q d a g) := by
  unfold shp
  refine Prod.ext ?_ ?_
  · show ((g.1 + b * (r % d)) % d + a * (p % d)) % d = ((g.1 + a * (p % d)) % d + b * (r % d)) % d
    rw [Int.emod_add_emod, Int.emod_add_emod]
    congr 1
    omega
  · show ((g.2 + b * s) % d + a * q) % d = ((g.2 + a * q) % d + b * s) % d
    rw [Int.emod_add_emod, Int.emod_add_emod]
    congr 1
    omega
/-- a whole divisor more of the same does nothing -/
theorem shp_wrap {p q d : Int} (a : Int) (g : Int × Int) : shp p q d (a + d) g = shp p q d a g := by
  unfold shp
  refine Prod.ext ?_ ?_
  · show (g.1 + (a + d) * (p % d)) % d = (g.1 + a * (p % d)) % d
    rw [Int.add_mul, ← Int.add_assoc, Int.add_mul_emod_self_left]
  · show (g.2 + (a + d) * q) % d = (g.2 + a * q) % d
    rw [Int.add_mul, ← Int.add_assoc, Int.add_mul_emod_self_left]
/-- so many times v can be laid aside -/
def Rep (B : Nat) (u : Nat → Int) (d : Int) (j t : Nat) (v : Int → Int × Int → Int × Int) : Prop := ∃ A : Int × Int → Prop, ∀ g, InR B u d j g ↔ ∃ (a : Int × Int) (e : Nat), A a ∧ e ≤ t ∧ v e a = g
theorem rep_zero {j : Nat} {p q : Int} : Rep B u d j 0 (shp p q d) := by
  refine ⟨InR B u d j, fun g => ⟨fun h => ⟨g, 0, h, Nat.le_refl _, inR_red h⟩, ?_⟩⟩
  rintro ⟨a, e, h, he, rfl⟩
  obtain rfl : e = 0 := by omega
  rw [show shp p q d ((0 : Nat) : Int) a = a from inR_red h]
  exact h
theorem rep_step (hB : 2 ≤ B) {j t : Nat} {p q : Int} (h : Rep B u d j t (shp p q d)) : Rep B u d (j + 1) t (shp p q d) := by
  obtain ⟨A, hA⟩ := h
  refine ⟨fun g => ∃ (c : Nat) (a : Int × Int), c < B ∧ A a ∧ shk B u d j c a = g, fun g => ?_⟩
  rw [inR_succ hB]
  constructor
  · rintro ⟨c, h, hc, hh, rfl⟩
    obtain ⟨a, e, ha, he, rfl⟩ := (hA h).mp hh
    exact ⟨_, e, ⟨c, a, hc, ha, rfl⟩, he, shp_com _ _ _⟩
  · rintro ⟨_, e, ⟨c, a, hc, ha, rfl⟩, he, rfl⟩
    exact ⟨c, _, hc, (hA _).mpr ⟨a, e, ha, he, rfl⟩, shp_com _ _ _⟩
theorem rep_more (hB : 2 ≤ B) {j t : Nat} (h : Rep B u d j t (shk B u d j)) : Rep B u d (j + 1) (t + 1) (shk B u d j) := by
  obtain ⟨A, hA⟩ := h
  refine ⟨fun g => ∃ (c : Nat) (a : Int × Int), c + 1 < B ∧ A a ∧ shk B u d j c a = g, fun g => ?_⟩
  rw [inR_succ hB]
  constructor
  · rintro ⟨c, h, hc, hh, rfl⟩
    obtain ⟨a, e, ha, he, rfl⟩ := (hA h).mp hh
    rcases Nat.lt_or_ge (c + 1) B with z | z
    · exact ⟨_, e, ⟨c, a, z, ha, rfl⟩, by omega, shp_com _ _ _⟩
    · refine ⟨_, e + 1, ⟨c - 1, a, by omega, ha, rfl⟩, by omega, ?_⟩
      unfold shk
      rw [shp_shp, shp_shp]
      congr 1
      omega
  · rintro ⟨_, e, ⟨c, a, hc, ha, rfl⟩, he, rfl⟩
    rcases Nat.lt_or_ge t e with z | z
    · refine ⟨c + 1, _, hc, (hA _).mpr ⟨a, t, ha, Nat.le_refl _, rfl⟩, ?_⟩
      unfold shk
      rw [shp_shp, shp_shp]
      congr 1
      omega
    · exact ⟨c, _, by omega, (hA _).mpr ⟨a, e, ha, z, rfl⟩, shp_com _ _ _⟩
theorem rep_closed {j t : Nat} {p q : Int} (h : Rep B u d j t (shp p q d)) (hd : 1 ≤ d) (ht : d ≤ t + 1) {g : Int × Int} (hg : InR B u d j g) : InR B u d j (shp p q d 1 g) := by
  obtain ⟨A, hA⟩ := h
  obtain ⟨a, e, ha, he, rfl⟩ := (hA g).mp hg
  rcases Nat.lt_or_ge e t with z | z
  · refine (hA _).mpr ⟨a, e + 1, ha, z, ?_⟩
    rw [shp_shp]
    congr 1
    omega
  · refine (hA _).mpr ⟨a, (e + 1 - d.toNat), ha, by omega, ?_⟩
    rw [shp_shp, show (1 : Int) + (e : Int) = ((e + 1 - d.toNat : Nat) : Int) + d by omega, shp_wrap]
variable {M L : Nat}
/-- from M on, all comes again after L places -/
def Per (B : Nat) (u : Nat → Int) (d : Int) (M L : Nat) : Prop := ∀ j, M ≤ j → shk B u d (j + L) = shk B u d j
theorem per_of (h1 : ∀ j, M ≤ j → (B : Int) ^ (j + L) % d = (B : Int) ^ j % d) (h2 : ∀ j, M ≤ j → u (j + L) = u j) : Per B u d M L := by
  intro j hj
  funext c g
  unfold shk shp
  rw [h1 j hj, h2 j hj]
theorem per_mul (h : Per B u d M L) {j : Nat} (hj : M ≤ j) : ∀ t : Nat, shk B u d (j + t * L) = shk B u d j
  | 0 => by rw [Nat.zero_mul, Nat.add_zero]
  | t + 1 => by rw [Nat.succ_mul, ← Nat.add_assoc, h (j + t * L) (by omega), per_mul h hj t]
theorem rep_many (hB : 2 ≤ B) {j t : Nat} {p q : Int} (h : Rep B u d j t (shp p q d)) : ∀ e, Rep B u d (j + e) t (shp p q d)
  | 0 => h
  | e + 1 => rep_step hB (rep_many hB h e)
theorem rep_per (hB : 2 ≤ B) (h : Per B u d M L) (hL : 1 ≤ L) {j : Nat} (hj : M ≤ j) : ∀ t : Nat, Rep B u d (j + t * L) t (shk B u d j)
  | 0 => by rw [Nat.zero_mul, Nat.add_zero]; exact rep_zero
  | t + 1 => by
    have r := rep_per hB h hL hj t
    rw [← per_mul h hj t] at r ⊢
    have r2 := rep_many hB (rep_more hB r) (L - 1)
    rw [show j + t * L + 1 + (L - 1) = j + (t + 1) * L by rw [Nat.succ_mul]; omega] at r2
    exact r2
/-- far enough, no place brings anything new -/
theorem idle_far (hB : 2 ≤ B) (h : Per B u d M L) (hL : 1 ≤ L) (hd : 1 ≤ d) {j : Nat} (hj : M + d.toNat * L ≤ j) : Idle B u d j := by
  obtain ⟨i, rfl⟩ : ∃ i, j = i + d.toNat * L := ⟨j - d.toNat * L, by omega⟩
  have r := rep_per hB h hL (j := i) (by omega) d.toNat
  refine closed_idle hB fun g hg => ?_
  rw [per_mul h (by omega)]
  exact rep_closed r hd (by omega) hg
/-- behind a whole turn without anything new, nothing new comes -/
theorem idle_all (hB : 2 ≤ B) (h : Per B u d M L) (hL : 1 ≤ L) {k : Nat} (hk : M + L ≤ k) (hi : ∀ j, j < k → k ≤ j + (M + L) → Idle B u d j) : ∀ n, ∃ y, y < B ^ k ∧ rp B u d y = rp B u d n := by
  have cl : ∀ i, k ≤ i → ∀ (c : Nat) g, c < B → InR B u d k g → InR B u d k (shk B u d i c g) := by
    intro i hik c g hc hg
    obtain ⟨j, t, hj1, hj2, rfl⟩ : ∃ j t, k ≤ j + L ∧ j < k ∧ i = j + t * L := by
      have dm := Nat.div_add_mod (i - (k - L)) L
      have ml := Nat.mod_lt (i - (k - L)) (show 0 < L by omega)
      rw [Nat.mul_comm] at dm
      generalize (i - (k - L)) % L = rr at *
      generalize (i - (k - L)) / L = tt at *
      exact ⟨k - L + rr, tt, by omega, by omega, by omega⟩
    rw [per_mul h (by omega)]
    have ek : j + (k - j) = k := by omega
    have hb : InR B u d j g := idle_back hB (k - j) (fun i a b => hi i (by omega) (by omega)) (by rw [ek]; exact hg)
    exact inR_le hB (by omega) (idle_closed hB (hi j hj2 (by omega)) hc hb)
  have all : ∀ e n, n < B ^ (k + e) → InR B u d k (rp B u d n) := by
    intro e
    induction e with
    | zero => exact fun n hn => ⟨n, hn, rfl⟩
    | succ e ih =>
      intro n hn
      obtain ⟨c, x, hc, hx, rfl⟩ := split_at hB (k := k + e) hn
      rw [rp_shp hB hc hx]
      exact cl (k + e) (by omega) c _ hc (ih x hx)
  intro n
  refine all n n (Nat.lt_of_lt_of_le (Nat.lt_pow_self (by omega) : n < B ^ n) (Nat.pow_le_pow_right (by omega) (by omega)))
/-- just one of both is a multiple -/
def mism (g : Int × Int) : Bool := !decide (decide (g.1 = 0) = decide (g.2 = 0))
/-- the least that fails -/
def LeastF (B : Nat) (u : Nat → Int) (d : Int) : Option Nat → Prop
  | some n => mism (rp B u d n) = true ∧ ∀ j, j < n → mism (rp B u d j) = false
  | none => ∀ n, mism (rp B u d n) = false
theorem leastF_none (hB : 2 ≤ B) (h : Per B u d M L) (hL : 1 ≤ L) {k : Nat} (hk : M + L ≤ k) (hi : ∀ j, j < k → k ≤ j + (M + L) → Idle B u d j) (hm : ∀ n, n < B ^ k → mism (rp B u d n) = false) : LeastF B u d none := by
  intro n
  obtain ⟨y, hy, e⟩ := idle_all hB h hL hk hi n
  rw [← e]
  exact hm y hy
end

/-! ### the pairs of rests that a place brings -/
/-- the entry of a number that comes first -/
def entF (B : Nat) (u : Nat → Int) (d : Int) (n : Nat) : List Key × V := (kp (rp B u d n), .int (n : Int))
theorem valV_app {κ : Type} [DecidableEq κ] (k : κ) (a b : List (κ × V)) : valV (a ++ b) k = (valV a k).or (valV b k) := by
  unfold valV
  rw [List.find?_append]
  cases a.find? _ <;> rfl
theorem valV_mem {B : Nat} {u : Nat → Int} {d : Int} (g : Int × Int) : ∀ L : List Nat, (valV (L.map (entF B u d)) (kp g)).isSome = L.any fun n => decide (rp B u d n = g)
  | [] => rfl
  | n :: L => by
    have ih := valV_mem (B := B) (u := u) (d := d) g L
    unfold valV at ih ⊢
    rw [List.map_cons, List.any_cons, List.find?_cons]
    by_cases e : rp B u d n = g
    · rw [show decide ((entF B u d n).1 = kp g) = true from decide_eq_true (by unfold entF; rw [e]), decide_eq_true e]
      rfl
    · rw [show decide ((entF B u d n).1 = kp g) = false from decide_eq_false fun z => e (kp_inj z), decide_eq_false e, Bool.false_or]
      exact ih
theorem valV_none {B : Nat} {u : Nat → Int} {d : Int} {g : Int × Int} {L : List Nat} (h : ∀ n ∈ L, rp B u d n ≠ g) : valV (L.map (entF B u d)) (kp g) = none := by
  have e := valV_mem (B := B) (u := u) (d := d) g L
  have a : (L.any fun n => decide (rp B u d n = g)) = false := by
    rw [List.any_eq_false]
    exact fun n hn => by simpa using h n hn
  rw [a] at e
  exact Option.not_isSome_iff_eq_none.mp (by rw [e]; exact Bool.false_ne_true)
theorem rp_bd {B : Nat} {u : Nat → Int} {d : Int} (hd : 1 ≤ d) (n : Nat) : 0 ≤ (rp B u d n).1 ∧ (rp B u d n).1 < d ∧ 0 ≤ (rp B u d n).2 ∧ (rp B u d n).2 < d :=
  ⟨Int.emod_nonneg _ (by omega), Int.emod_lt_of_pos _ (by omega), Int.emod_nonneg _ (by omega), Int.emod_lt_of_pos _ (by omega)⟩
def boxI (d : Int) : List Pr := (List.range (d.toNat * d.toNat)).map fun (k : Nat) => (((k / d.toNat : Nat) : Int), ((k % d.toNat : Nat) : Int))
theorem mem_boxI {d : Int} {q : Pr} (h : 0 ≤ q.1 ∧ q.1 < d ∧ 0 ≤ q.2 ∧ q.2 < d) : q ∈ boxI d := by
  obtain ⟨h1, h2, h3, h4⟩ := h
  unfold boxI
  generalize e : d.toNat = N
  have l1 : q.1.toNat < N := by omega
  have l2 : q.2.toNat < N := by omega
  have np : 0 < N := by omega
  refine List.mem_map.mpr ⟨N * q.1.toNat + q.2.toNat, List.mem_range.mpr ?_, ?_⟩
  · calc N * q.1.toNat + q.2.toNat < N * q.1.toNat + N := by omega
      _ = N * (q.1.toNat + 1) := by rw [Nat.mul_succ]
      _ ≤ N * N := Nat.mul_le_mul_left _ l1
  · rw [Nat.mul_add_div np, Nat.div_eq_of_lt l2, Nat.mul_add_mod, Nat.mod_eq_of_lt l2, Nat.add_zero, Int.toNat_of_nonneg h1, Int.toNat_of_nonneg h3]
theorem fl_len {B : Nat} {u : Nat → Int} {d : Int} (d1 : 1 ≤ d) (d2 : d ≤ 30) (a b : Nat) : (fl (rp B u d) a b).length ≤ 900 := by
  have h := pigL (boxI d) ((fl (rp B u d) a b).map (rp B u d)) (fl_nodup _ a b) fun q hq => by
    obtain ⟨n, _, rfl⟩ := List.mem_map.mp hq
    exact mem_boxI (rp_bd d1 n)
  rw [List.length_map] at h
  unfold boxI at h
  rw [List.length_map, List.length_range] at h
  have : d.toNat * d.toNat ≤ 30 * 30 := Nat.mul_le_mul (by omega) (by omega)
  omega
/-- where the j-th of those below P stands; P behind the last -/
def posF (L : List Nat) (P j : Nat) : Nat := (L[j]?).getD P
theorem fl_pos {α : Type} [DecidableEq α] (f : Nat → α) {P j n : Nat} (h : (fl f 0 P)[j]? = some n) : ∀ m, n < m → m < posF (fl f 0 P) P (j + 1) → fo f m = false := by
  intro m h1 h2
  cases e : fo f m with
  | false => rfl
  | true =>
    have hs := fl_sorted f 0 P
    have hm : m < P := by
      unfold posF at h2
      cases q : (fl f 0 P)[j + 1]? with
      | none => rw [q] at h2; exact h2
      | some z =>
        rw [q] at h2
        have := (fl_mem f).mp (List.mem_of_getElem? q)
        have h2 : m < z := h2
        omega
    obtain ⟨i, hi⟩ := List.mem_iff_getElem?.mp ((fl_mem f).mpr ⟨Nat.zero_le _, hm, e⟩)
    rw [List.pairwise_iff_getElem] at hs
    obtain ⟨li, ei⟩ := List.getElem?_eq_some_iff.mp hi
    obtain ⟨lj, ej⟩ := List.getElem?_eq_some_iff.mp h
    rcases Nat.lt_trichotomy i j with z | z | z
    · have := hs i j li lj z
      omega
    · subst z
      omega
    · rcases Nat.lt_or_ge (j + 1) i with y | y
      · have l3 : j + 1 < (fl f 0 P).length := by omega
        have := hs (j + 1) i l3 li y
        unfold posF at h2
        rw [List.getElem?_eq_getElem l3] at h2
        have h2 : m < (fl f 0 P)[j + 1] := h2
        omega
      · obtain rfl : i = j + 1 := by omega
        unfold posF at h2
        rw [hi] at h2
        have h2 : m < m := h2
        omega
theorem fo_zero {α : Type} [DecidableEq α] (f : Nat → α) : fo f 0 = true := (fo_iff f).mpr fun j hj => absurd hj (Nat.not_lt_zero _)
theorem fl_head {α : Type} [DecidableEq α] (f : Nat → α) {P : Nat} (hP : 0 < P) : posF (fl f 0 P) P 0 = 0 := by
  rw [fl_app f (Nat.zero_le 1) hP, fl_one, if_pos (fo_zero f)]
  rfl
theorem idx_lt {l : List Nat} {i : Nat} {n : Nat} (h : l[i]? = some n) : i < l.length := (List.getElem?_eq_some_iff.mp h).1
theorem fl_next {α : Type} [DecidableEq α] (f : Nat → α) {P c j n : Nat} (pk : 0 < P) (c1 : 1 ≤ c) (h : (fl f 0 P)[j]? = some n) (low : ∀ x, x < P → fo f x = false → fo f (c * P + x) = false) :
    fl f P (c * P + posF (fl f 0 P) P (j + 1)) = fl f P (c * P + n) ++ if fo f (c * P + n) = true then [c * P + n] else [] := by
  have le1 : P ≤ c * P := Nat.le_mul_of_pos_left P c1
  have hn := (fl_mem f).mp (List.mem_of_getElem? h)
  have ps := fl_pos f h
  have lt : n < posF (fl f 0 P) P (j + 1) ∧ posF (fl f 0 P) P (j + 1) ≤ P := by
    have hs := fl_sorted f 0 P
    rw [List.pairwise_iff_getElem] at hs
    obtain ⟨lj, ej⟩ := List.getElem?_eq_some_iff.mp h
    unfold posF
    rcases q : (fl f 0 P)[j + 1]? with _ | z
    · exact ⟨hn.2.1, Nat.le_refl _⟩
    · obtain ⟨li, ei⟩ := List.getElem?_eq_some_iff.mp q
      have := hs j (j + 1) lj li (by omega)
      have hz := (fl_mem f).mp (List.mem_of_getElem? q)
      show n < z ∧ z ≤ P
      omega
  rw [fl_skip f (b := c * P + n + 1) (by omega) (by omega) fun y h1 h2 => ?_, fl_app f (b := c * P + n) (by omega) (by omega), fl_one]
  obtain ⟨x, rfl⟩ : ∃ x, y = c * P + x := ⟨y - c * P, by omega⟩
  exact low x (by omega) (ps x (by omega) (by omega))
def spNew (K : PySem.W.Frag) : Sp := fun vs H Q _ => ∃ (e : Addr) (B k : Nat) (u : Nat → Int) (d : Int), vs = [.ref e, .int (B : Int), .int ((B : Int) ^ k), .int (u k), .int d] ∧ 2 ≤ B ∧ B ≤ 256 ∧ 1 ≤ d ∧ d ≤ 30 ∧ -(10 ^ 6) ≤ u k ∧ u k ≤ 10 ^ 6 ∧ H e = some (.dT ((fl (rp B u d) 0 (B ^ k)).map (entF B u d))) ∧
  ∀ (D : Addr) (H' : Hp), Same H H' → H D = none → H' D = some (.dT ((fl (rp B u d) (B ^ k) (B ^ (k + 1))).map (entF B u d))) → Q (.ref D) H'
theorem ok_new_rests (T : Tx P K mg) : FnOk P w K mg base CX0 lv_new_rests T.a_new_rests T.d_new_rests ["least", "block", "power", "weight", "d"] (spNew K) := by
  refine T.F_new_rests.ok sc_new_rests (fun vs H Q E h => ?_) (fun cdv A outer s H vs Q E hr h => ?_)
  · obtain ⟨e, B, k, u, d, rfl, _⟩ := h
    rfl
  · obtain ⟨e, B, k, u, d, rfl, hB2, B2, d1, d2, u1, u2, he, kk⟩ := h
    refine ⟨_, (pss_cons (ps_set (i := 5) sc_new_rests.nd rfl (Or.inl rfl) pe_dnewT)
      (pss_cons (ps_for PassesOwn.never rfl (pi_range2 (by rfl) T.n_range (pa_cons pe_int (pa_cons (pv 1) pa_nil))) (pg_name (i := 6) sc_new_rests.nd rfl (Or.inl rfl)) (pss_cons (ps_set (i := 7) sc_new_rests.nd rfl (Or.inl rfl) (pe_callB call_len_dT (by rfl) T.n_len (by decide +kernel) (pa_cons (pv 5) pa_nil)))
      (pss_cons (ps_lock (ps_for PassesOwn.never rfl (pi_itemsT (pv 0)) (pg_tup rfl (pgs_cons (pg_tup rfl (pgs_cons (pg_name (i := 8) sc_new_rests.nd rfl (Or.inl rfl)) (pgs_cons (pg_name (i := 9) sc_new_rests.nd rfl (Or.inl rfl)) pgs_nil))) (pgs_cons (pg_name (i := 10) sc_new_rests.nd rfl (Or.inl rfl)) pgs_nil))) (pss_cons (ps_set (i := 11) sc_new_rests.nd rfl (Or.inl rfl) (pe_tup (pa_cons (pe_op op_modN (pe_op op_add (pv 8) (pe_op op_mul (pv 6) (pe_op op_modN (pv 2) (pv 4)))) (pv 4)) (pa_cons (pe_op op_modN (pe_op op_add (pv 9) (pe_op op_mul (pv 6) (pv 3))) (pv 4)) pa_nil))))
      (pss_one (ps_if (PW.pt (pw_and (pt_cmp (pc_dnotin (hu_of hr) (pv 11) (pv 0))) (pw_and1 (pt_cmp (pc_dnotin (hu_of hr) (pv 11) (pv 5)))))) (pss_one (ps_dput (hu_of hr) (pv 5) (pv 11) (pe_op op_add (pe_op op_mul (pv 6) (pv 2)) (pv 10)) rfl)) pss_nil)))))
      (pss_one (ps_if (pt_cmpR op_eq (pe_callB call_len_dT (by rfl) T.n_len (by decide +kernel) (pa_cons (pv 5) pa_nil)) (pv 7) (nomark _)) (pss_one ps_break) pss_nil)))))
      (pss_one (ps_ret (pv 5))))), ?_⟩
    refine fun D hD => ⟨_, rfl, _, _, rfl, ⟨by decide, by decide, by omega, by omega⟩, ?_⟩
    have pk : 0 < B ^ k := Nat.pow_pos (by omega)
    have eP : (B : Int) ^ k = ((B ^ k : Nat) : Int) := (Int.natCast_pow B k).symm
    have fm : ∀ x : Int, x.fmod d = x % d := fun x => Int.fmod_eq_emod_of_nonneg x (by omega)
    have nd : d ≠ 0 := by omega
    have sh : ∀ c n : Nat, c < B → n < B ^ k → ((rp B u d n).1 + (c : Int) * ((B : Int) ^ k).fmod d).fmod d = (rp B u d (c * B ^ k + n)).1 ∧ ((rp B u d n).2 + (c : Int) * u k).fmod d = (rp B u d (c * B ^ k + n)).2 := fun c n hc hn => by
      rw [rp_shp hB2 hc hn, fm, fm, fm]
      exact ⟨rfl, rfl⟩
    generalize hf : rp B u d = f at *
    have entv : ∀ n : Nat, entF B u d n = (kp (f n), .int (n : Int)) := fun n => by unfold entF; rw [hf]
    have hfr : ∀ c : Nat, 1 ≤ c → c < B → (∀ n, c * B ^ k ≤ n → n < (c + 1) * B ^ k → fo f n = false) → ∀ n, c * B ^ k ≤ n → n < B ^ (k + 1) → fo f n = false := by
      rw [← hf]
      exact fun c => fo_rest hB2
    have hlow : ∀ c x : Nat, c < B → x < B ^ k → fo f x = false → fo f (c * B ^ k + x) = false := by
      rw [← hf]
      exact fun c x => fo_low hB2
    have hN : ∀ L : List Nat, ∀ g, (∀ n ∈ L, f n ≠ g) → valV (L.map (entF B u d)) (kp g) = none := by
      rw [← hf]
      exact fun L g => valV_none
    have hS : ∀ L : List Nat, ∀ g, (valV (L.map (entF B u d)) (kp g)).isSome = L.any fun n => decide (f n = g) := by
      rw [← hf]
      exact fun L g => valV_mem g L
    have hlen : ∀ a b, (fl f a b).length ≤ 900 := by
      rw [← hf]
      exact fl_len d1 d2
    have top : B ^ (k + 1) = B * B ^ k := by rw [Nat.pow_succ, Nat.mul_comm]
    generalize B ^ (k + 1) = P2 at *
    generalize B ^ k = P at *
    rw [eP] at *
    have neD : e ≠ D := ne_of_none he hD
    refine for_range (lo := 1) (n := ((B : Int) - 1).toNat) (fun i σ H1 => ∃ v6 v7 v8 v9 v10 v11 : Option V, Same H H1 ∧ H1 D = some (.dT ((fl f P ((1 + i) * P)).map (entF B u d))) ∧ σ = [some (.ref e), some (.int (B : Int)), some (.int (P : Int)), some (.int (u k)), some (.int d), some (.ref D), v6, v7, v8, v9, v10, v11]) ?_ ?_ ?_
    · exact ⟨none, none, none, none, none, none, same_upd hD, by rw [upd_same, Nat.add_zero, Nat.one_mul, fl_nil f (Nat.le_refl P)]; rfl, rfl⟩
    · rintro i σ H1 hi ⟨v6, v7, v8, v9, v10, v11, S1, hD1, rfl⟩
      have ec : (1 : Int) + (i : Int) = ((1 + i : Nat) : Int) := by omega
      have c1 : 1 ≤ 1 + i := by omega
      have cB : 1 + i < B := by omega
      rw [ec]
      obtain ⟨c, hc⟩ : ∃ c, c = 1 + i := ⟨_, rfl⟩
      have hc2 : 1 + (i + 1) = c + 1 := by omega
      rw [← hc] at hD1 ec c1 cB ⊢
      rw [hc2]
      clear hc2 hc
      have hk0 := hlen P (c * P)
      refine ⟨_, rfl, D, _, rfl, hD1, e, _, S1 _ _ he, trivial, fun od => ⟨_, rfl, e, od, _, rfl, upd_same, ?_⟩⟩
      rw [List.length_map]
      refine for_it walk_itemsT (fun j σ H2 => ∃ v8 v9 v10 v11 : Option V, H2 e = some (.frz od (.dT ((fl f 0 P).map (entF B u d)))) ∧ (∀ x o, H x = some o → x ≠ e → H2 x = some o) ∧ H2 D = some (.dT ((fl f P (c * P + posF (fl f 0 P) P j)).map (entF B u d))) ∧
        σ = [some (.ref e), some (.int (B : Int)), some (.int (P : Int)), some (.int (u k)), some (.int d), some (.ref D), some (.int (c : Int)), some (.int ((fl f P (c * P)).length : Int)), v8, v9, v10, v11]) ?_ (fun j σ H2 _ ⟨_, _, _, _, h, _⟩ => h) ?_ ?_
      · refine ⟨v8, v9, v10, v11, upd_same, fun x o hx n => by rw [upd_ne n]; exact S1 _ _ hx, ?_, rfl⟩
        rw [upd_ne neD.symm, fl_head f pk, Nat.add_zero]
        exact hD1
      · rintro j x σ H2 H3 hj ⟨v8, v9, v10, v11, he2, S2, hD2, rfl⟩ ⟨t, key, v, q, hkv, hq, rfl, ht, rfl⟩
        rw [List.getElem?_map] at hkv
        obtain ⟨n, hn, env⟩ := Option.map_eq_some_iff.mp hkv
        rw [entv] at env
        cases env
        have S3 := same_upd (o := HO.tup [.ref q, .int (n : Int)]) ht
        obtain ⟨hn1, hn2, hn3⟩ := (fl_mem f).mp (List.mem_of_getElem? hn)
        obtain ⟨sh1, sh2⟩ := sh c n cB hn2
        refine ⟨t, _, rfl, SqT.of upd_same, rfl, _, _, rfl, q, _, rfl, SqT.of (S3 _ _ hq), rfl, _, _, rfl, _, _, rfl, rfl, _, _, rfl, rfl, ?_⟩
        refine ⟨_, rfl, _, rfl, _, rfl, _, rfl, _, _, rfl, rfl, nd, _, _, rfl, rfl, .inl ⟨by omega, by omega⟩, _, _, rfl, rfl, _, rfl, _, _, rfl, rfl, nd, ?_⟩
        refine ⟨_, rfl, _, rfl, _, rfl, _, _, rfl, rfl, .inl ⟨by omega, by omega⟩, _, _, rfl, rfl, _, rfl, _, _, rfl, rfl, nd, by show 2 ≤ sizeLine; decide, fun p hp => ?_⟩
        have S4 := S3.trans (same_upd (o := HO.tup [.int (((f n).1 + (c : Int) * (P : Int).fmod d).fmod d), .int (((f n).2 + (c : Int) * u k).fmod d)]) hp)
        have hp4 : (upd (upd H2 t (.tup [.ref q, .int (n : Int)])) p (.tup [.int (((f n).1 + (c : Int) * (P : Int).fmod d).fmod d), .int (((f n).2 + (c : Int) * u k).fmod d)])) p = some (.tup ((kp (f (c * P + n))).map kV)) := by
          rw [upd_same, sh1, sh2]
          rfl
        refine ⟨_, rfl, _, rfl, e, _, rfl, .inr ⟨_, kp (f (c * P + n)), p, .inr ⟨od, S4 _ _ he2⟩, rfl, hp4, rfl⟩, _, rfl, ?_⟩
        have hD4 := S4 _ _ hD2
        have pj : posF (fl f 0 P) P j = n := by unfold posF; rw [hn]; rfl
        rw [pj] at hD4
        have e4 := S4 _ _ he2
        have S5 : ∀ x o, H x = some o → x ≠ e → (upd (upd H2 t (.tup [.ref q, .int (n : Int)])) p (.tup [.int (((f n).1 + (c : Int) * (P : Int).fmod d).fmod d), .int (((f n).2 + (c : Int) * u k).fmod d)])) x = some o := fun x o hx hxe => S4 _ _ (S2 x o hx hxe)
        generalize upd (upd H2 t (.tup [.ref q, .int (n : Int)])) p (.tup [.int (((f n).1 + (c : Int) * (P : Int).fmod d).fmod d), .int (((f n).2 + (c : Int) * u k).fmod d)]) = H5 at hp4 hD4 e4 S5 ⊢
        have nx := fl_next f pk c1 hn fun x hx h => hlow c x cB hx h
        have by_ := fo_by f (a := P) (n := c * P + n) (by have := Nat.mul_le_mul_right P c1; omega)
        have hs1 := hS (fl f 0 P) (f (c * P + n))
        have hs2 := hS (fl f P (c * P + n)) (f (c * P + n))
        have stay : fo f (c * P + n) = false → ∃ v8 v9 v10 v11 : Option V, H5 e = some (.frz od (.dT ((fl f 0 P).map (entF B u d)))) ∧ (∀ x o, H x = some o → x ≠ e → H5 x = some o) ∧ H5 D = some (.dT ((fl f P (c * P + posF (fl f 0 P) P (j + 1))).map (entF B u d))) ∧
            [some (V.ref e), some (.int (B : Int)), some (.int (P : Int)), some (.int (u k)), some (.int d), some (.ref D), some (.int (c : Int)), some (.int ((fl f P (c * P)).length : Int)), some (.int (f n).1), some (.int (f n).2), some (.int (n : Int)), some (.ref p)] = [some (V.ref e), some (.int (B : Int)), some (.int (P : Int)), some (.int (u k)), some (.int d), some (.ref D), some (.int (c : Int)), some (.int ((fl f P (c * P)).length : Int)), v8, v9, v10, v11] := fun q => by
          refine ⟨_, _, _, _, e4, S5, ?_, rfl⟩
          rw [nx, if_neg (by rw [q]; exact Bool.false_ne_true), List.append_nil]
          exact hD4
        refine ite2 (fun g1 => ?_) (fun g1 => iteF (stay ?_))
        · refine ⟨_, rfl, _, rfl, D, _, rfl, DGet.t hD4 hp4, _, rfl, ite2 (fun g2 => ?_) (fun g2 => stay ?_)⟩
          · have q1 : fo f (c * P + n) = true := by
              refine by_.mpr ⟨fun j hj z => ?_, fun j hj z => ?_⟩
              · rw [show (fl f 0 P).any (fun n_1 => decide (f n_1 = f (c * P + n))) = true from List.any_eq_true.mpr ⟨j, hj, decide_eq_true z⟩] at hs1
                rw [hs1] at g1
                cases g1
              · rw [show (fl f P (c * P + n)).any (fun n_1 => decide (f n_1 = f (c * P + n))) = true from List.any_eq_true.mpr ⟨j, hj, decide_eq_true z⟩] at hs2
                rw [hs2] at g2
                cases g2
            have hv := hN (fl f P (c * P + n)) (f (c * P + n)) (by_.mp q1).2
            refine ⟨_, rfl, _, rfl, _, _, rfl, rfl, .inl ⟨by omega, by omega⟩, _, rfl, _, _, rfl, rfl, _, rfl, _, rfl, D, _, rfl, DPut.t hD4 hp4 (by rw [List.length_map]; have := hlen P (c * P + n); unfold sizeLine; omega), ?_⟩
            refine ⟨_, _, _, _, by rw [upd_ne neD]; exact e4, fun x o hx hxe => by rw [upd_ne (ne_of_none hx hD)]; exact S5 x o hx hxe, ?_, rfl⟩
            rw [upd_same, putK_new _ hv, nx, if_pos q1, List.map_append, List.map_cons, List.map_nil, entv, Int.natCast_add, Int.natCast_mul]
          · cases q : fo f (c * P + n) with
            | false => rfl
            | true =>
              refine absurd ?_ g2
              rw [hN _ _ (by_.mp q).2]
              rfl
        · cases q : fo f (c * P + n) with
          | false => rfl
          | true =>
            refine absurd ?_ g1
            rw [hN _ _ (by_.mp q).1]
            rfl
      · rintro σ H2 ⟨v8, v9, v10, v11, he2, S2, hD2, rfl⟩
        have pj : posF (fl f 0 P) P (fl f 0 P).length = P := by unfold posF; rw [List.getElem?_eq_none (Nat.le_refl _)]; rfl
        rw [List.length_map, pj, ← Nat.succ_mul] at hD2
        have S5 : Same H (upd H2 e (.dT ((fl f 0 P).map (entF B u d)))) := fun x o hx => by
          by_cases z : x = e
          · subst z
            rw [upd_same, ← hx, he]
          · rw [upd_ne z]
            exact S2 x o hx z
        have hD5 : (upd H2 e (.dT ((fl f 0 P).map (entF B u d)))) D = some (.dT ((fl f P ((c + 1) * P)).map (entF B u d))) := by rw [upd_ne neD.symm]; exact hD2
        refine ⟨he2, _, rfl, D, _, rfl, hD5, _, rfl, rfl, _, rfl, ?_⟩
        have le1 : P ≤ c * P := Nat.le_mul_of_pos_left P c1
        have le2 : c * P ≤ (c + 1) * P := Nat.mul_le_mul_right _ (by omega)
        have sp := fl_app f le1 le2
        rw [dec_i, List.length_map]
        refine ite2 (fun g => ?_) (fun g => ?_)
        · have g := of_decide_eq_true g
          rw [sp, List.length_append] at g
          have e0 : (fl f (c * P) ((c + 1) * P)).length = 0 := by omega
          have all := hfr c c1 cB fun n h1 h2 => fl_empty f e0 h1 h2
          have le3 : (c + 1) * P ≤ P2 := by rw [top]; exact Nat.mul_le_mul_right _ cB
          have e1 : fl f P P2 = fl f P ((c + 1) * P) := fl_skip f (by omega) le3 fun n h1 h2 => all n (by omega) h2
          exact ⟨_, rfl, kk D _ S5 hD (by rw [e1]; exact hD5)⟩
        · exact ⟨_, _, _, _, _, _, S5, hD5, rfl⟩
    · rintro σ H1 ⟨v6, v7, v8, v9, v10, v11, S1, hD1, rfl⟩
      rw [show (1 + ((B : Int) - 1).toNat) * P = P2 by rw [top]; congr 1; omega] at hD1
      exact ⟨_, rfl, kk D _ S1 hD hD1⟩

/-! ### the least number that fails -/
abbrev valO : Option Nat → V := optV
theorem pow_back {B d : Int} {L : List Int} {a : Nat} (h : PowR B d L a) {j : Nat} (hj : a ≤ j) : ∀ t : Nat, B ^ (j + t * (L.length - a)) % d = B ^ j % d
  | 0 => by rw [Nat.zero_mul, Nat.add_zero]
  | t + 1 => by
    have ih := pow_back h hj t
    have hl := h.lt
    rw [← ih, Nat.succ_mul]
    generalize t * (L.length - a) = q
    rw [show j + (q + (L.length - a)) = (j + q - a) + L.length by omega, Int.pow_add, Int.mul_emod, h.per, ← Int.mul_emod, ← Int.pow_add, show j + q - a + a = j + q by omega]
theorem wAt_back {fs ls : List Int} (hl : 1 ≤ ls.length) {j : Nat} (hj : fs.length ≤ j) (t : Nat) : wAt fs ls (j + t * ls.length) = wAt fs ls j := by
  unfold wAt
  rw [if_neg (by omega), if_neg (by omega), show j + t * ls.length - fs.length = j - fs.length + t * ls.length by omega, Nat.add_mul_mod_self_right]
theorem per_sum {B : Nat} {d : Int} {L : List Int} {a : Nat} (h : PowR (B : Int) d L a) {fs ls : List Int} (hl : 1 ≤ ls.length) : Per B (wAt fs ls) d (max fs.length a) (ls.length * (L.length - a)) := by
  refine per_of (fun j hj => pow_back h (by omega) _) fun j hj => ?_
  rw [Nat.mul_comm]
  exact wAt_back hl (by omega) _
theorem least_hit {B : Nat} {u : Nat → Int} {d : Int} {P n : Nat} {NW : List Nat} {j : Nat} (hnw : NW = fl (rp B u d) P P2) (hn : NW[j]? = some n) (h0 : ∀ y, y < P → mism (rp B u d y) = false) (h1 : ∀ i m, i < j → NW[i]? = some m → mism (rp B u d m) = false) (h2 : mism (rp B u d n) = true) : LeastF B u d (some n) := by
  refine ⟨h2, fun y hy => ?_⟩
  obtain ⟨m, m1, m2, m3⟩ := fo_rep (rp B u d) y
  rw [← m3]
  rcases Nat.lt_or_ge m P with z | z
  · exact h0 m z
  · have mem := (fl_mem (rp B u d)).mp (List.mem_of_getElem? (hnw ▸ hn))
    have mm : m ∈ NW := by
      rw [hnw]
      exact (fl_mem _).mpr ⟨z, by omega, m2⟩
    obtain ⟨i, hi⟩ := List.mem_iff_getElem?.mp mm
    refine h1 i m ?_ hi
    rcases Nat.lt_or_ge i j with q | q
    · exact q
    · have hs := fl_sorted (rp B u d) P P2
      rw [← hnw, List.pairwise_iff_getElem] at hs
      obtain ⟨li, ei⟩ := List.getElem?_eq_some_iff.mp hi
      obtain ⟨lj, ej⟩ := List.getElem?_eq_some_iff.mp hn
      rcases Nat.lt_or_ge j i with y | y
      · have := hs j i lj li y
        omega
      · obtain rfl : i = j := by omega
        omega
theorem none_more {B : Nat} {u : Nat → Int} {d : Int} {P P2 : Nat} (h0 : ∀ y, y < P → mism (rp B u d y) = false) (h1 : ∀ m ∈ fl (rp B u d) P P2, mism (rp B u d m) = false) : ∀ y, y < P2 → mism (rp B u d y) = false := by
  intro y hy
  obtain ⟨m, m1, m2, m3⟩ := fo_rep (rp B u d) y
  rw [← m3]
  rcases Nat.lt_or_ge m P with z | z
  · exact h0 m z
  · exact h1 m ((fl_mem _).mpr ⟨z, by omega, m2⟩)
theorem wAt_bd {fs ls : List Int} (w1 : Wts 0 fs) (w2 : Wts 1 ls) (k : Nat) : -(10 ^ 6) ≤ wAt fs ls k ∧ wAt fs ls k ≤ 10 ^ 6 := by
  have g : ∀ {ns : List Int} {i : Nat}, (∀ z ∈ ns, -(10 ^ 6 : Int) ≤ z ∧ z ≤ 10 ^ 6) → -(10 ^ 6 : Int) ≤ ns.getD i 0 ∧ ns.getD i 0 ≤ 10 ^ 6 := fun {ns i} h => by
    rw [List.getD_eq_getElem?_getD]
    cases e : ns[i]? with
    | none => exact ⟨by decide, by decide⟩
    | some z => exact h z (List.mem_of_getElem? e)
  unfold wAt
  split
  · exact g w1.2.2
  · exact g w2.2.2
def spSumFails (T : Tx P K mg) : Sp := fun vs H Q _ => ∃ (p : Addr) (b t : Int) (fs ls : List Int) (d : Int), vs = [.ref p, .int d] ∧ SumAt T H p b t fs ls ∧ 1 ≤ d ∧ d ≤ 30 ∧
  ∀ (o : Option Nat) (H' : Hp), LeastF (blockOf b t).toNat (wAt fs ls) d o → Same H H' → Q (valO o) H'
theorem ok_sum_fails (T : Tx P K mg) : FnOk P w K mg base (L2.CX P w) lv_sum_fails T.a_sum_fails T.d_sum_fails ["told", "d"] (spSumFails T) := by
  refine T.F_sum_fails.okX sc_sum_fails (fun vs H Q E h => ?_) (fun cdv A outer s H vs Q E hr h => ?_)
  · obtain ⟨p, b, t, fs, ls, d, rfl, _⟩ := h
    rfl
  · obtain ⟨p, b, t, fs, ls, d, rfl, a, d1, d2, k⟩ := h
    obtain ⟨dx, f, l, e, hf, hl, b1, b2, t1, t2, w1, w2⟩ := id a
    obtain ⟨B1, B2⟩ := block_bd (t := t) b1 b2
    have nd : d ≠ 0 := by omega
    refine ⟨_, (pss_cons (ps_expr (pe_call (ok_check_sum T) (hr.mono (by decide)) rfl T.g_check_sum T.F_check_sum.kp T.b_check_sum .nil (passes_call (takes_of rfl rfl rfl rfl) fun _ _ _ _ h => h) (pa_cons (pv 0) pa_nil)))
      (pss_cons (ps_expr (pe_call (ok_check_divisor T) (hr.mono (by decide)) rfl T.g_check_divisor T.F_check_divisor.kp T.b_check_divisor .nil (passes_call (takes_of rfl rfl rfl rfl) fun _ _ _ _ h => h) (pa_cons (pv 1) (pa_cons (pe_glob (v := .int 30) rfl T.c_GREATEST_SUM_DIVISOR ⟨_, rfl⟩) pa_nil))))
      (pss_cons (ps_set (i := 2) sc_sum_fails.nd rfl (Or.inl rfl) (pe_call (ok_sum_block T) (hr.mono (by decide)) rfl T.g_sum_block T.F_sum_block.kp T.b_sum_block .nil pass0 (pa_cons (pv 0) pa_nil)))
      (pss_cons (ps_set (i := 3) sc_sum_fails.nd rfl (Or.inl rfl) (pe_disp1T (hu_of hr) (pe_tup (pa_cons pe_int (pa_cons pe_int pa_nil))) pe_int))
      (pss_cons (ps_set (i := 4) sc_sum_fails.nd rfl (Or.inl rfl) pe_int)
      (pss_cons (ps_set (i := 5) sc_sum_fails.nd rfl (Or.inl rfl) pe_int)
      (pss_cons (ps_set (i := 6) sc_sum_fails.nd rfl (Or.inl rfl) pe_int)
      (pss_cons (ps_set (i := 7) sc_sum_fails.nd rfl (Or.inl rfl) (pe_call (ok_turn T) (hr.mono (by decide)) rfl T.g_turn T.F_turn.kp T.b_turn .nil pass0 (pa_cons (pv 0) (pa_cons (pv 1) pa_nil))))
      (pss_cons (ps_while (passes_of rfl) (pt_cmpR op_lt (pv 6) (pv 7) (nomark _)) (pss_cons (ps_set (i := 8) sc_sum_fails.nd rfl (Or.inl rfl) (pe_call (ok_new_rests T) (hr.mono (by decide)) rfl T.g_new_rests T.F_new_rests.kp T.b_new_rests .nil pass0 (pa_cons (pv 3) (pa_cons (pv 2) (pa_cons (pv 5) (pa_cons (pe_call (ok_weight_at T) (hr.mono (by decide)) rfl T.g_weight_at T.F_weight_at.kp T.b_weight_at .nil pass0 (pa_cons (pv 0) (pa_cons (pv 4) pa_nil))) (pa_cons (pv 1) pa_nil)))))))
      (pss_cons (ps_lock (ps_for (passes_of rfl) rfl (pi_itemsT (pv 8)) (pg_tup rfl (pgs_cons (pg_tup rfl (pgs_cons (pg_name (i := 9) sc_sum_fails.nd rfl (Or.inl rfl)) (pgs_cons (pg_name (i := 10) sc_sum_fails.nd rfl (Or.inl rfl)) pgs_nil))) (pgs_cons (pg_name (i := 11) sc_sum_fails.nd rfl (Or.inl rfl)) pgs_nil))) (pss_cons (ps_if (pt_cmpR op_ne (pe_cmpR op_eq (pv 9) pe_int (nomark _)) (pe_cmpR op_eq (pv 10) pe_int (nomark _)) (nomark _)) (pss_one (ps_ret (pv 11))) pss_nil)
      (pss_one (ps_dput (hu_of hr) (pv 3) (pe_tup (pa_cons (pv 9) (pa_cons (pv 10) pa_nil))) (pv 11) rfl)))))
      (pss_cons (ps_set (i := 6) sc_sum_fails.nd rfl (Or.inl rfl) (pe_ifExp (pt_truthR (pv 8) tru_dT (by intro _; rfl)) pe_int (pe_op op_add (pv 6) pe_int)))
      (pss_cons (ps_aug (i := 4) sc_sum_fails.nd rfl (Or.inl rfl) pe_int ip_add)
      (pss_one (ps_aug (i := 5) sc_sum_fails.nd rfl (Or.inl rfl) (pv 2) (ip_op iop_mul))))))))
      (pss_one (ps_ret pe_non))))))))))), ?_⟩
    refine ⟨_, rfl, _, rfl, .inl ⟨p, dx, _, rfl, e, ?_⟩⟩
    refine ⟨_, rfl, .int d, 30, rfl, by decide, by decide, .int d, fun _ => ?_, fun z => Bool.noConfusion ((intIn_of d1 d2).symm.trans z)⟩
    refine ⟨_, rfl, p, b, t, fs, ls, rfl, a, ?_⟩
    refine fun es hes => ⟨by show 2 ≤ sizeLine; decide, fun ht hht => ⟨same_upd hht _ _ upd_same, ht, kp (0, 0), rfl, upd_same, ?_⟩⟩
    obtain ⟨B, hB⟩ : ∃ B : Nat, blockOf b t = (B : Int) := ⟨(blockOf b t).toNat, by omega⟩
    rw [hB, Int.toNat_natCast] at k
    rw [hB] at B1 B2 ⊢
    have hB2 : 2 ≤ B := by omega
    have Sn : Same H (upd (upd (upd H es (.dT [])) ht (.tup [.int 0, .int 0])) es (.dT [(kp (0, 0), .int 0)])) := fun c o g => by
      have nc := ne_of_none g hes
      rw [upd_ne nc]
      exact same_upd hht _ _ (same_upd hes _ _ g)
    have en : (upd (upd (upd H es (.dT [])) ht (.tup [.int 0, .int 0])) es (.dT [(kp (0, 0), .int 0)])) es = some (.dT [(kp (0, 0), .int 0)]) := upd_same
    generalize (upd (upd (upd H es (.dT [])) ht (.tup [.int 0, .int 0])) es (HO.dT [(kp (0, 0), V.int 0)])) = H1 at Sn en ⊢
    have a1 := a.same Sn
    refine ⟨_, rfl, _, rfl, p, b, t, fs, ls, d, rfl, a1, d1, d2, fun L a0 H2 pr S2 => ?_⟩
    rw [hB] at pr
    have S12 := Sn.trans S2
    have a2 := a.same S12
    have hlt := pr.lt
    have hle := pr.le
    have hM : max fs.length a0 ≤ 31 := by
      have := w1.2.1
      omega
    have hL1 : 1 ≤ ls.length * (L.length - a0) := Nat.mul_pos w2.1 (by omega)
    have hL2 : ls.length * (L.length - a0) ≤ 12 * 31 := Nat.mul_le_mul w2.2.1 (by omega)
    have per := per_sum (B := B) (d := d) pr (fs := fs) (ls := ls) w2.1
    have eN : turnN fs ls L a0 = max fs.length a0 + ls.length * (L.length - a0) := rfl
    rw [eN]
    generalize max fs.length a0 = M at *
    generalize ls.length * (L.length - a0) = Lp at *
    have hdL : d.toNat * Lp ≤ 30 * (12 * 31) := Nat.mul_le_mul (by omega) hL2
    have far : ∀ j, M + d.toNat * Lp ≤ j → Idle B (wAt fs ls) d j := fun j hj => idle_far hB2 per hL1 d1 hj
    have fin : ∀ q, M + Lp ≤ q → (∀ j, j < q → q ≤ j + (M + Lp) → Idle B (wAt fs ls) d j) → (∀ n, n < B ^ q → mism (rp B (wAt fs ls) d n) = false) → LeastF B (wAt fs ls) d none := fun q h1 h2 h3 => leastF_none hB2 per hL1 h1 h2 h3
    have wb : ∀ q, -(10 ^ 6) ≤ wAt fs ls q ∧ wAt fs ls q ≤ 10 ^ 6 := fun q => wAt_bd w1 w2 q
    clear per
    generalize hu : wAt fs ls = u at *
    have f0 : fl (rp B u d) 0 (B ^ 0) = [0] := by
      rw [Nat.pow_zero, show (1 : Nat) = 0 + 1 from rfl, fl_one, if_pos (fo_zero _)]
    have r0 : rp B u d 0 = (0, 0) := by
      unfold rp
      rw [tot_zero]
      simp
    generalize d.toNat * Lp = dL at *
    have hN2 : ∀ L : List Nat, ∀ g, (∀ n ∈ L, rp B u d n ≠ g) → valV (L.map (entF B u d)) (kp g) = none := fun L g => valV_none
    refine while_by (fun σ H3 => ∃ (q i : Nat) (x8 x9 x10 x11 : Option V), Same H H3 ∧ H3 es = some (.dT ((fl (rp B u d) 0 (B ^ q)).map (entF B u d))) ∧ (∀ n, n < B ^ q → mism (rp B u d n) = false) ∧ i ≤ q ∧ (∀ j, q ≤ j + i → j < q → Idle B u d j) ∧ (q ≤ M + dL + i) ∧
        σ = [some (.ref p), some (.int d), some (.int (B : Int)), some (.ref es), some (.int (q : Int)), some (.int ((B : Int) ^ q)), some (.int (i : Int)), some (.int ((M + Lp : Nat) : Int)), x8, x9, x10, x11])
      (fun σ _ => match σ with | [_, _, _, _, some (.int q), _, _, _, _, _, _, _] => (M + dL + (M + Lp) + 1) - q.toNat | _ => 0) ?_ ?_ ?_
    · refine ⟨0, 0, none, none, none, none, S12, ?_, ?_, Nat.le_refl _, fun j _ hj => absurd hj (Nat.not_lt_zero _), by omega, rfl⟩
      · rw [f0, S2 _ _ en, List.map_cons, List.map_nil]
        unfold entF
        rw [r0]
        rfl
      · intro n hn
        obtain rfl : n = 0 := by
          rw [Nat.pow_zero] at hn
          omega
        rw [r0]
        rfl
    · rintro σ H3 ⟨q, i, x8, x9, x10, x11, S3, he3, hm, iq, hid, hfar, rfl⟩
      refine ⟨_, rfl, _, rfl, _, _, rfl, rfl, _, rfl, ?_⟩
      refine ite2 (fun c => ?_) (fun c => ?_)
      · have c1 : i < M + Lp := by
          have := of_decide_eq_true c
          omega
        have wbq := wb q
        rw [← hu] at wbq
        refine ⟨_, rfl, _, rfl, _, rfl, _, rfl, _, rfl, p, b, t, fs, ls, q, rfl, a.same S3, _, rfl, es, B, q, wAt fs ls, d, rfl, hB2, by omega, d1, d2, wbq.1, wbq.2, by rw [hu]; exact he3, fun D H4 S4 nD hD => ?_⟩
        rw [hu] at hD
        have S34 := S3.trans S4
        have neD : es ≠ D := ne_of_none he3 nD
        have nD0 : H D = none := by
          cases z : H D with
          | none => rfl
          | some o => rw [S3 _ _ z] at nD; cases nD
        obtain ⟨NW, hNW⟩ : ∃ NW, NW = fl (rp B u d) (B ^ q) (B ^ (q + 1)) := ⟨_, rfl⟩
        rw [← hNW] at hD
        have le1 : B ^ q ≤ B ^ (q + 1) := Nat.pow_le_pow_right (by omega) (by omega)
        have app : fl (rp B u d) 0 (B ^ q) ++ NW = fl (rp B u d) 0 (B ^ (q + 1)) := by rw [hNW, ← fl_app _ (Nat.zero_le _) le1]
        have hl0 := fl_len (B := B) (u := u) d1 d2 0 (B ^ (q + 1))
        rw [← app, List.length_append] at hl0
        have nodup : ∀ j n, NW[j]? = some n → ∀ y ∈ fl (rp B u d) 0 (B ^ q) ++ NW.take j, rp B u d y ≠ rp B u d n := by
          intro j n hn y hy
          have mem := (fl_mem (rp B u d)).mp (List.mem_of_getElem? (hNW ▸ hn))
          refine (fo_iff _).mp mem.2.2 y ?_
          rcases List.mem_append.mp hy with hy | hy
          · have := (fl_mem (rp B u d)).mp hy
            omega
          · have hs := fl_sorted (rp B u d) (B ^ q) (B ^ (q + 1))
            rw [← hNW, List.pairwise_iff_getElem] at hs
            obtain ⟨i2, hi2⟩ := List.mem_iff_getElem?.mp hy
            rw [List.getElem?_take] at hi2
            split at hi2
            · rename_i z
              obtain ⟨li, ei⟩ := List.getElem?_eq_some_iff.mp hi2
              obtain ⟨lj, ej⟩ := List.getElem?_eq_some_iff.mp hn
              have := hs i2 j li lj z
              omega
            · cases hi2
        refine ⟨D, _, hD, trivial, fun od => ⟨_, rfl, D, od, _, rfl, upd_same, ?_⟩⟩
        refine for_it walk_itemsT (fun j σ H5 => ∃ x9 x10 x11 : Option V, H5 D = some (.frz od (.dT (NW.map (entF B u d)))) ∧ Same H H5 ∧ H5 es = some (.dT ((fl (rp B u d) 0 (B ^ q) ++ NW.take j).map (entF B u d))) ∧ (∀ i2 m, i2 < j → NW[i2]? = some m → mism (rp B u d m) = false) ∧
          σ = [some (.ref p), some (.int d), some (.int (B : Int)), some (.ref es), some (.int (q : Int)), some (.int ((B : Int) ^ q)), some (.int (i : Int)), some (.int ((M + Lp : Nat) : Int)), some (.ref D), x9, x10, x11]) ?_ (fun j σ H2 _ ⟨_, _, _, h, _⟩ => h) ?_ ?_
        · refine ⟨x9, x10, x11, upd_same, fun x o hx => ?_, ?_, fun i2 m h => absurd h (Nat.not_lt_zero _), rfl⟩
          · rw [upd_ne (ne_of_none (S3 _ _ hx) nD)]
            exact S34 _ _ hx
          · rw [upd_ne neD, List.take_zero, List.append_nil]
            exact S4 _ _ he3
        · clear hD S4 S34 he3 S3
          rintro j x σ H5 H6 hj ⟨x9, x10, x11, hD5, S5, he5, hmj, rfl⟩ ⟨tt, key, v, kq, hkv, hq, rfl, ht, rfl⟩
          rw [List.getElem?_map] at hkv
          obtain ⟨n, hn, env⟩ := Option.map_eq_some_iff.mp hkv
          cases env
          have S6 := same_upd (o := HO.tup [.ref kq, .int (n : Int)]) ht
          refine ⟨tt, _, rfl, SqT.of upd_same, rfl, _, _, rfl, kq, _, rfl, SqT.of (S6 _ _ hq), rfl, _, _, rfl, _, _, rfl, rfl, _, _, rfl, rfl, ?_⟩
          refine ⟨_, rfl, rfl, _, rfl, rfl, rfl, _, rfl, ?_⟩
          rw [show (!decide (V.bl (decide (kV (Sum.inl (rp B u d n).1) = V.int 0)) = V.bl (decide (kV (Sum.inl (rp B u d n).2) = V.int 0)))) = mism (rp B u d n) from by
            show (!decide (V.bl (decide (V.int (rp B u d n).1 = V.int 0)) = V.bl (decide (V.int (rp B u d n).2 = V.int 0)))) = _
            rw [dec_i, dec_i, dec_bl]
            rfl]
          refine ite2 (fun g => ?_) (fun g => ?_)
          · refine ⟨_, rfl, S6 _ _ hD5, k (some n) _ (least_hit hNW hn hm hmj g) fun x o hx => ?_⟩
            rw [upd_ne (ne_of_none hx nD0)]
            exact S6 _ _ (S5 _ _ hx)
          · refine ⟨_, rfl, _, rfl, _, rfl, _, rfl, by show 2 ≤ sizeLine; decide, fun kt hkt => ?_⟩
            have S7 := S6.trans (same_upd (o := HO.tup [.int (rp B u d n).1, .int (rp B u d n).2]) hkt)
            have he7 := S7 _ _ he5
            have hv := hN2 _ (rp B u d n) (nodup j n hn)
            refine ⟨es, _, rfl, DPut.t (k := kp (rp B u d n)) he7 upd_same (by rw [List.length_map, List.length_append, List.length_take]; unfold sizeLine; omega), ?_⟩
            refine ⟨_, _, _, by rw [upd_ne neD.symm]; exact S7 _ _ hD5, fun x o hx => by rw [upd_ne (ne_of_none hx hes)]; exact S7 _ _ (S5 _ _ hx), ?_, fun i2 m h1 h2 => ?_, rfl⟩
            · rw [upd_same, putK_new _ hv, List.take_succ, hn, ← List.append_assoc, List.map_append (l₂ := (some n).toList)]
              rfl
            · rcases Nat.lt_or_ge i2 j with z | z
              · exact hmj i2 m z h2
              · obtain rfl : i2 = j := by omega
                rw [hn] at h2
                cases h2
                simpa using g
        · rintro σ H5 ⟨x9, x10, x11, hD5, S5, he5, hmj, rfl⟩
          rw [List.length_map, List.take_length, app] at he5
          have hm2 := none_more hm (fun m hmem => by
            obtain ⟨i2, hi2⟩ := List.mem_iff_getElem?.mp (hNW.symm ▸ hmem)
            exact hmj i2 m (by rw [List.length_map]; exact (List.getElem?_eq_some_iff.mp hi2).1) hi2)
          refine ⟨hD5, ?_⟩
          have S6 : Same H (upd H5 D (.dT (NW.map (entF B u d)))) := fun x o hx => by
            rw [upd_ne (ne_of_none hx nD0)]
            exact S5 _ _ hx
          have he6 : (upd H5 D (.dT (NW.map (entF B u d)))) es = some (.dT ((fl (rp B u d) 0 (B ^ (q + 1))).map (entF B u d))) := by
            rw [upd_ne neD]
            exact he5
          have hD6 : (upd H5 D (.dT (NW.map (entF B u d)))) D = some (.dT (NW.map (entF B u d))) := upd_same
          generalize upd H5 D (HO.dT (NW.map (entF B u d))) = H7 at S6 he6 hD6 ⊢
          refine ⟨_, rfl, D, _, rfl, hD6, ?_⟩
          have mu : M + dL + (M + Lp) + 1 - (((q : Int) + 1).toNat) < M + dL + (M + Lp) + 1 - ((q : Int).toNat) := by omega
          have pw : V.int ((B : Int) ^ q * (B : Int)) = V.int ((B : Int) ^ (q + 1)) := by rw [Int.pow_succ]
          cases eNW : NW with
          | nil =>
            refine iteF ⟨_, rfl, _, _, rfl, rfl, ?_⟩
            refine ⟨_, rfl, _, _, rfl, rfl, ?_⟩
            refine ⟨_, rfl, _, rfl, _, _, rfl, rfl, .inr ⟨by omega, by omega⟩, ⟨q + 1, i + 1, some (.ref D), x9, x10, x11, S6, he6, hm2, by omega, fun j h1 h2 => ?_, by omega, ?_⟩, mu⟩
            · rcases Nat.lt_or_ge j q with z | z
              · exact hid j (by omega) z
              · obtain rfl : j = q := by omega
                intro n h3 h4
                exact fl_empty _ (by rw [← hNW, eNW]; rfl) h3 h4
            · rw [← pw]
              rfl
          | cons n0 rest =>
            refine iteT ⟨_, rfl, _, _, rfl, rfl, ?_⟩
            refine ⟨_, rfl, _, rfl, _, _, rfl, rfl, .inr ⟨by omega, by omega⟩, ⟨q + 1, 0, some (.ref D), x9, x10, x11, S6, he6, hm2, by omega, fun j h1 h2 => by omega, ?_, ?_⟩, mu⟩
            · rcases Nat.lt_or_ge q (M + dL) with z | z
              · omega
              · have mem := (fl_mem (rp B u d)).mp (hNW ▸ (eNW ▸ List.mem_cons_self : n0 ∈ NW))
                rw [far q z n0 mem.1 mem.2.1] at mem
                cases mem.2.2
            · rw [← pw]
              rfl
      · have c1 : M + Lp ≤ i := by
          have : ¬ ((i : Int) < ((M + Lp : Nat) : Int)) := fun z => c (decide_eq_true z)
          omega
        exact k none H3 (fin q (by omega) (fun j h1 h2 => hid j (by omega) h1) hm) S3
    · exact m_test (m_op m_rI0 m_var m_var)

/-! ### the least number whose rest is not kept, by its own words -/
def LeastR (B : Nat) (u : Nat → Int) (d : Int) : Option Nat → Prop
  | some n => (rp B u d n).1 ≠ (rp B u d n).2 ∧ ∀ y, y < n → (rp B u d y).1 = (rp B u d y).2
  | none => ∀ n, (rp B u d n).1 = (rp B u d n).2
section
variable {B : Nat} {u : Nat → Int} {d : Int}
theorem keep_low (hB : 2 ≤ B) : ∀ k, (∀ j, j < k → badP (B : Int) d u j = false) → ∀ y, y < B ^ k → (rp B u d y).1 = (rp B u d y).2
  | 0, _, y, hy => by
    obtain rfl : y = 0 := by
      rw [Nat.pow_zero] at hy
      omega
    unfold rp
    rw [tot_zero]
    rfl
  | k + 1, h, y, hy => by
    obtain ⟨c, x, hc, hx, rfl⟩ := split_at hB hy
    have ih := keep_low hB k (fun j hj => h j (by omega)) x hx
    have hb := h k (by omega)
    unfold badP at hb
    have hd : d ∣ (B : Int) ^ k - u k := by simpa using hb
    rw [rp_shp hB hc hx]
    show ((rp B u d x).1 + (c : Int) * ((B : Int) ^ k % d)) % d = ((rp B u d x).2 + (c : Int) * u k) % d
    rw [← ih]
    apply Int.emod_eq_emod_iff_emod_sub_eq_zero.mpr
    apply Int.emod_eq_zero_of_dvd
    obtain ⟨m, hm⟩ := hd
    have dm := Int.mul_ediv_add_emod ((B : Int) ^ k) d
    generalize (B : Int) ^ k = P at *
    generalize P % d = r at *
    generalize P / d = w at *
    refine ⟨(c : Int) * (m - w), ?_⟩
    have e1 : r - u k = d * (m - w) := by
      rw [Int.mul_sub, ← hm]
      omega
    rw [← Int.mul_assoc, Int.mul_comm d (c : Int), Int.mul_assoc, ← e1, Int.mul_sub]
    omega
theorem keep_bad (hB : 2 ≤ B) {k : Nat} (h : badP (B : Int) d u k = true) : (rp B u d (B ^ k)).1 ≠ (rp B u d (B ^ k)).2 := by
  have e := rp_shp (B := B) (u := u) (d := d) hB (k := k) (c := 1) (x := 0) (by omega) (Nat.pow_pos (by omega))
  rw [Nat.one_mul, Nat.add_zero] at e
  rw [e]
  unfold rp shp
  rw [tot_zero]
  show ((0 : Int) % d + (1 : Int) * ((B : Int) ^ k % d)) % d ≠ ((0 : Int) % d + (1 : Int) * u k) % d
  rw [Int.zero_emod, Int.zero_add, Int.zero_add, Int.one_mul, Int.one_mul, Int.emod_emod]
  intro z
  have := Int.emod_eq_emod_iff_emod_sub_eq_zero.mp z
  unfold badP at h
  have h : ¬ d ∣ (B : Int) ^ k - u k := by simpa using h
  exact h (Int.dvd_of_emod_eq_zero this)
end
theorem leastR_of {B : Nat} {d : Int} {L : List Int} {a : Nat} (pr : PowR (B : Int) d L a) {fs ls : List Int} (hl : 0 < ls.length) (hB : 2 ≤ B) :
    LeastR B (wAt fs ls) d (((List.range (turnN fs ls L a)).find? (badP (B : Int) d (wAt fs ls))).map fun k => B ^ k) := by
  cases e : (List.range (turnN fs ls L a)).find? (badP (B : Int) d (wAt fs ls)) with
  | none =>
    rw [List.find?_eq_none] at e
    have all := bad_turn pr (fs := fs) hl fun k hk => by
      have := e k (List.mem_range.mpr hk)
      simpa using this
    exact fun n => keep_low hB n (fun j _ => all j) n (Nat.lt_pow_self (by omega))
  | some k =>
    rw [List.find?_range_eq_some] at e
    exact ⟨keep_bad hB e.1, keep_low hB k fun j hj => by simpa using e.2.2 j hj⟩
theorem due_opt (B : Nat) (o : Option Nat) : dueV (B : Int) o = optV (o.map fun k => B ^ k) := by
  cases o with
  | none => rfl
  | some k =>
    show V.int ((B : Int) ^ k) = V.int ((B ^ k : Nat) : Int)
    rw [Int.natCast_pow]
theorem leastF_any (B : Nat) (u : Nat → Int) (d : Int) : ∃ o, LeastF B u d o := by
  rcases Classical.em (∃ n, mism (rp B u d n) = true) with ⟨n, h⟩ | h
  · induction n using Nat.strongRecOn with
    | ind n ih =>
      rcases Classical.em (∃ y, y < n ∧ mism (rp B u d y) = true) with ⟨y, h1, h2⟩ | z
      · exact ih y h1 h2
      · exact ⟨some n, h, fun y hy => by
          cases e : mism (rp B u d y) with
          | false => rfl
          | true => exact absurd ⟨y, hy, e⟩ z⟩
  · exact ⟨none, fun n => by
      cases e : mism (rp B u d n) with
      | false => rfl
      | true => exact absurd ⟨n, e⟩ h⟩
theorem leastR_uniq {B : Nat} {u : Nat → Int} {d : Int} : ∀ {o o2 : Option Nat}, LeastR B u d o → LeastR B u d o2 → o = o2
  | none, none, _, _ => rfl
  | none, some n, h, h2 => absurd (h n) h2.1
  | some n, none, h, h2 => absurd (h2 n) h.1
  | some n, some m, h, h2 => by
    rcases Nat.lt_trichotomy n m with z | z | z
    · exact absurd (h2.2 n z) h.1
    · rw [z]
    · exact absurd (h.2 m z) h2.1
theorem leastF_uniq {B : Nat} {u : Nat → Int} {d : Int} : ∀ {o o2 : Option Nat}, LeastF B u d o → LeastF B u d o2 → o = o2
  | none, none, _, _ => rfl
  | none, some n, h, h2 => by have := h2.1; rw [h n] at this; cases this
  | some n, none, h, h2 => by have := h.1; rw [h2 n] at this; cases this
  | some n, some m, h, h2 => by
    rcases Nat.lt_trichotomy n m with z | z | z
    · have := h.1; rw [h2.2 n z] at this; cases this
    · rw [z]
    · have := h2.1; rw [h.2 m z] at this; cases this
theorem leastR_hit {B : Nat} {u : Nat → Int} {d : Int} {o : Option Nat} (h : LeastR B u d o) (n : Nat) (g : (rp B u d n).1 ≠ (rp B u d n).2) : ∃ j, o = some j ∧ j ≤ n := by
  cases o with
  | none => exact absurd (h n) g
  | some j =>
    refine ⟨j, rfl, ?_⟩
    rcases Nat.lt_or_ge n j with z | z
    · exact absurd (h.2 n z) g
    · exact z
theorem leastF_hit {B : Nat} {u : Nat → Int} {d : Int} {o : Option Nat} (h : LeastF B u d o) (n : Nat) (g : mism (rp B u d n) = true) : ∃ j, o = some j ∧ j ≤ n := by
  cases o with
  | none =>
    have h : ∀ n, mism (rp B u d n) = false := h
    rw [h n] at g
    cases g
  | some j =>
    refine ⟨j, rfl, ?_⟩
    rcases Nat.lt_or_ge n j with z | z
    · rw [h.2 n z] at g
      cases g
    · exact z

/-! ### what a sum tells -/
def wordS (u f : Option Nat) : Str := if u = none then ("rest" : Str) else if f = none then ("multiples" : Str) else ("nothing" : Str)
def spSumTells2 (T : Tx P K mg) : Sp := fun vs H Q _ => ∃ (p : Addr) (b t : Int) (fs ls : List Int) (d : Int), vs = [.ref p, .int d] ∧ SumAt T H p b t fs ls ∧ 1 ≤ d ∧ d ≤ 30 ∧
  ∀ (oU oF : Option Nat) (H' : Hp), LeastR (blockOf b t).toNat (wAt fs ls) d oU → LeastF (blockOf b t).toNat (wAt fs ls) d oF → Same H H' → Q (.str (wordS oU oF)) H'
/-- whatever is least -/
theorem ok_sum_tells (T : Tx P K mg) : FnOk P w K mg base (L2.CX P w) lv_sum_tells T.a_sum_tells T.d_sum_tells ["told", "d"] (spSumTells2 T) := by
  refine T.F_sum_tells.okX sc_sum_tells (fun vs H Q E h => ?_) (fun cdv A outer s H vs Q E hr h => ?_)
  · obtain ⟨p, b, t, fs, ls, d, rfl, _⟩ := h
    rfl
  · obtain ⟨p, b, t, fs, ls, d, rfl, a, d1, d2, k⟩ := h
    obtain ⟨dx, f, l, e, hf, hl, b1, b2, t1, t2, w1, w2⟩ := id a
    obtain ⟨B1, B2⟩ := block_bd (t := t) b1 b2
    refine ⟨_, (pss_cons (ps_if (pt_cmpR op_isN (pe_call (ok_sum_rest_fails T) (hr.mono (by decide)) rfl T.g_sum_rest_fails T.F_sum_rest_fails.kp T.b_sum_rest_fails .nil (passes_call (takes_of rfl rfl rfl rfl) fun _ _ _ _ h => h) (pa_cons (pv 0) (pa_cons (pv 1) pa_nil))) pe_non (nomark _)) (pss_one (ps_ret pe_str)) pss_nil)
      (pss_cons (ps_if (pt_cmpR op_isN (pe_call (ok_sum_fails T) (hr.mono (by decide)) rfl T.g_sum_fails T.F_sum_fails.kp T.b_sum_fails .nil (passes_call (takes_of rfl rfl rfl rfl) fun _ _ _ _ h => h) (pa_cons (pv 0) (pa_cons (pv 1) pa_nil))) pe_non (nomark _)) (pss_one (ps_ret pe_str)) pss_nil)
      (pss_one (ps_ret pe_str)))), ?_⟩
    refine ⟨_, rfl, _, rfl, p, b, t, fs, ls, d, rfl, a, d1, d2, fun L a0 H2 pr S2 => ?_⟩
    obtain ⟨B, hB⟩ : ∃ B : Nat, blockOf b t = (B : Int) := ⟨(blockOf b t).toNat, by omega⟩
    rw [hB] at pr ⊢
    rw [hB, Int.toNat_natCast] at k
    have lr := leastR_of pr (fs := fs) (ls := ls) w2.1 (by omega)
    rw [due_opt]
    generalize ((List.range (turnN fs ls L a0)).find? (badP (B : Int) d (wAt fs ls))).map (fun k => B ^ k) = oU at lr ⊢
    cases oU with
    | none =>
      obtain ⟨oF, hoF⟩ := leastF_any B (wAt fs ls) d
      exact ⟨rfl, _, rfl, iteT (k none oF H2 lr hoF S2)⟩
    | some j =>
      refine ⟨rfl, _, rfl, iteF ⟨_, rfl, _, rfl, p, b, t, fs, ls, d, rfl, a.same S2, d1, d2, fun oF H3 hoF S3 => ?_⟩⟩
      rw [hB, Int.toNat_natCast] at hoF
      have kk := k (some j) oF H3 lr hoF (S2.trans S3)
      cases oF with
      | none => exact ⟨rfl, _, rfl, iteT kk⟩
      | some i => exact ⟨rfl, _, rfl, iteF kk⟩

/-! ### where it fails -/
def failAt (b t m d : Int) (n : Int) : Bool := decide (n.fmod d = 0) != decide ((made b t m n).fmod d = 0)
def unlikeAt (b t m d : Int) (n : Int) : Bool := !decide (n.fmod d = (made b t m n).fmod d)
def spFails (T : Tx P K mg) (f : Int → Int → Int → Int → Int → Bool) : Sp := fun vs H Q _ => ∃ (p : Addr) (b t m d : Int), vs = [.ref p, .int d] ∧ TrickAt T H p b t m ∧ 1 ≤ d ∧ d ≤ 100 ∧
  Q (optV ((List.range (blockOf b t * d).toNat).find? fun i => f b t m d (i : Int))) H

/-! ### all numbers, by those of one stretch -/
theorem made_shift {b t m d n q : Int} (h : 2 ≤ blockOf b t) : made b t m (n + blockOf b t * (d * q)) = made b t m n + d * q := by
  unfold made
  rw [Int.fmod_eq_emod_of_nonneg _ (by omega), Int.fmod_eq_emod_of_nonneg _ (by omega), Int.add_mul_emod_self_left, Int.add_mul_ediv_left _ _ (by omega)]
  omega
/-- what is so for all rests of the stretch is so for all numbers -/
theorem of_stretch {b t m d : Int} (f : Int → Int → Int → Int → Int → Bool) (hf : ∀ x y, x.fmod d = y.fmod d → (made b t m x).fmod d = (made b t m y).fmod d → f b t m d x = f b t m d y) (h : 2 ≤ blockOf b t) (hd : 1 ≤ d)
    (h0 : (List.range (blockOf b t * d).toNat).find? (fun (i : Nat) => f b t m d (i : Int)) = none) (n : Int) : f b t m d n = false := by
  have hp : 0 < blockOf b t * d := Int.mul_pos (by omega) (by omega)
  have e0 := Int.emod_nonneg n (b := blockOf b t * d) (by omega)
  have e1 := Int.emod_lt_of_pos n hp
  have e2 := Int.mul_ediv_add_emod n (blockOf b t * d)
  have e3 : n = n % (blockOf b t * d) + blockOf b t * (d * (n / (blockOf b t * d))) := by rw [← Int.mul_assoc]; omega
  generalize n / (blockOf b t * d) = q at e3
  generalize n % (blockOf b t * d) = i at e0 e1 e3
  have e4 : i.toNat < (blockOf b t * d).toNat := by omega
  have e5 : f b t m d i = false := by
    have := List.find?_eq_none.mp h0 i.toNat (List.mem_range.mpr e4)
    rw [Int.toNat_of_nonneg e0] at this
    simpa using this
  rw [← e5]
  refine hf n i ?_ ?_
  · rw [e3, Int.fmod_eq_emod_of_nonneg _ (by omega), Int.fmod_eq_emod_of_nonneg _ (by omega), ← Int.mul_assoc, Int.mul_comm (blockOf b t) d, Int.mul_assoc, Int.add_mul_emod_self_left]
  · rw [e3, made_shift h, Int.fmod_eq_emod_of_nonneg _ (by omega), Int.fmod_eq_emod_of_nonneg _ (by omega), Int.add_mul_emod_self_left]
theorem fail_of {b t m d : Int} : ∀ x y, x.fmod d = y.fmod d → (made b t m x).fmod d = (made b t m y).fmod d → failAt b t m d x = failAt b t m d y := fun x y e1 e2 => by
  unfold failAt
  rw [e1, e2]
theorem unlike_of {b t m d : Int} : ∀ x y, x.fmod d = y.fmod d → (made b t m x).fmod d = (made b t m y).fmod d → unlikeAt b t m d x = unlikeAt b t m d y := fun x y e1 e2 => by
  unfold unlikeAt
  rw [e1, e2]

/-! ### rests, by dividing -/
theorem fmod_iff {d x y : Int} (hd : 1 ≤ d) : x.fmod d = y.fmod d ↔ d ∣ x - y := by
  rw [Int.fmod_eq_emod_of_nonneg _ (by omega), Int.fmod_eq_emod_of_nonneg _ (by omega), Int.emod_eq_emod_iff_emod_sub_eq_zero, Int.dvd_iff_emod_eq_zero]
theorem fmod0_iff {d x : Int} (hd : 1 ≤ d) : x.fmod d = 0 ↔ d ∣ x := by
  rw [Int.fmod_eq_emod_of_nonneg _ (by omega), Int.dvd_iff_emod_eq_zero]
theorem made_split {b t m n : Int} (h : 2 ≤ blockOf b t) : ∃ q r : Int, 0 ≤ r ∧ r < blockOf b t ∧ n = blockOf b t * q + r ∧ made b t m n = q + m * r := by
  refine ⟨n / blockOf b t, n.fmod (blockOf b t), ?_, ?_, ?_, rfl⟩
  · exact (fmod_bd n (by omega)).1
  · exact (fmod_bd n (by omega)).2
  · rw [Int.fmod_eq_emod_of_nonneg _ (by omega)]
    exact (Int.mul_ediv_add_emod n (blockOf b t)).symm
theorem made_of_split {b t m q r : Int} (h0 : 0 ≤ r) (h1 : r < blockOf b t) : made b t m (blockOf b t * q + r) = q + m * r := by
  unfold made
  rw [Int.fmod_eq_emod_of_nonneg _ (by omega), Int.mul_add_emod_self_left, Int.emod_eq_of_lt h0 h1, Int.add_comm (blockOf b t * q) r, Int.add_mul_ediv_left _ _ (by omega), Int.ediv_eq_zero_of_lt h0 h1]
  omega
def goodB (b t m d : Int) : Bool := decide (d ∣ m * blockOf b t - 1)
def sameB (b t m d : Int) : Bool := decide (d ∣ blockOf b t - 1) && decide (d ∣ m - 1)
theorem dvd_of_sub {d x y : Int} (h : d ∣ x - y) (k : d ∣ y) : d ∣ x := by
  have := Int.dvd_add h k
  rwa [Int.sub_add_cancel] at this
theorem fail_good {b t m d : Int} (h : 2 ≤ blockOf b t) (hd : 1 ≤ d) : (∀ n, failAt b t m d n = false) ↔ d ∣ m * blockOf b t - 1 := by
  constructor
  · intro k
    have k1 := k (blockOf b t * (-m) + 1)
    unfold failAt at k1
    rw [made_of_split (by omega) (by omega)] at k1
    have e1 : decide ((-m + m * 1).fmod d = 0) = true := decide_eq_true ((fmod0_iff hd).mpr ⟨0, by omega⟩)
    rw [e1] at k1
    have e2 : (blockOf b t * -m + 1).fmod d = 0 := by
      by_cases z : (blockOf b t * -m + 1).fmod d = 0
      · exact z
      · rw [decide_eq_false z] at k1
        cases k1
    obtain ⟨c, hc⟩ := (fmod0_iff hd).mp e2
    refine ⟨-c, ?_⟩
    grind
  · intro k n
    obtain ⟨q, r, r0, r1, en, em⟩ := made_split (m := m) (n := n) h
    obtain ⟨c, hc⟩ := k
    have e : d ∣ n ↔ d ∣ made b t m n := by
      constructor
      · rintro ⟨u, hu⟩
        -- made = m * B * made - (m * B - 1) * made
        refine ⟨m * u + m * (c * r) - c * (q + m * r), ?_⟩
        rw [em]
        grind
      · rintro ⟨u, hu⟩
        refine ⟨blockOf b t * u - c * r, ?_⟩
        rw [em] at hu
        grind
    unfold failAt
    by_cases z : d ∣ n
    · rw [decide_eq_true ((fmod0_iff hd).mpr z), decide_eq_true ((fmod0_iff hd).mpr (e.mp z))]
      rfl
    · rw [decide_eq_false (fun w => z ((fmod0_iff hd).mp w)), decide_eq_false (fun w => z (e.mpr ((fmod0_iff hd).mp w)))]
      rfl
theorem unlike_same {b t m d : Int} (h : 2 ≤ blockOf b t) (hd : 1 ≤ d) : (∀ n, unlikeAt b t m d n = false) ↔ (d ∣ blockOf b t - 1 ∧ d ∣ m - 1) := by
  have un : ∀ n, unlikeAt b t m d n = false ↔ d ∣ n - made b t m n := fun n => by
    unfold unlikeAt
    rw [Bool.not_eq_false', decide_eq_true_iff, fmod_iff hd]
  constructor
  · intro k
    have k1 := (un _).mp (k (blockOf b t * 1 + 0))
    have k2 := (un _).mp (k (blockOf b t * 0 + 1))
    rw [made_of_split (by omega) (by omega)] at k1 k2
    obtain ⟨c1, h1⟩ := k1
    obtain ⟨c2, h2⟩ := k2
    exact ⟨⟨c1, by grind⟩, ⟨-c2, by grind⟩⟩
  · rintro ⟨⟨c1, h1⟩, ⟨c2, h2⟩⟩ n
    rw [un]
    obtain ⟨q, r, r0, r1, en, em⟩ := made_split (m := m) (n := n) h
    exact ⟨c1 * q - c2 * r, by grind⟩
theorem find_all {b t m d : Int} (f : Int → Int → Int → Int → Int → Bool) (hf : ∀ x y, x.fmod d = y.fmod d → (made b t m x).fmod d = (made b t m y).fmod d → f b t m d x = f b t m d y) (h : 2 ≤ blockOf b t) (hd : 1 ≤ d) :
    (List.range (blockOf b t * d).toNat).find? (fun (i : Nat) => f b t m d (i : Int)) = none ↔ ∀ n, f b t m d n = false := by
  constructor
  · exact fun k => of_stretch f hf h hd k
  · exact fun k => find_none fun j _ => k j
theorem fail_none {b t m d : Int} (h : 2 ≤ blockOf b t) (hd : 1 ≤ d) : ((List.range (blockOf b t * d).toNat).find? fun (i : Nat) => failAt b t m d (i : Int)).isNone = goodB b t m d := by
  unfold goodB
  rw [Bool.eq_iff_iff, Option.isNone_iff_eq_none, decide_eq_true_iff, find_all failAt fail_of h hd, fail_good h hd]
theorem unlike_none {b t m d : Int} (h : 2 ≤ blockOf b t) (hd : 1 ≤ d) : ((List.range (blockOf b t * d).toNat).find? fun (i : Nat) => unlikeAt b t m d (i : Int)).isNone = sameB b t m d := by
  unfold sameB
  rw [Bool.eq_iff_iff, Option.isNone_iff_eq_none, Bool.and_eq_true, decide_eq_true_iff, decide_eq_true_iff, find_all unlikeAt unlike_of h hd, unlike_same h hd]
/-- the two ways to say them -/
theorem good_is {b t m d : Int} (hd : 1 ≤ d) : decide ((m * blockOf b t).fmod d = (1 : Int).fmod d) = goodB b t m d := by
  unfold goodB
  rw [Bool.eq_iff_iff, decide_eq_true_iff, decide_eq_true_iff, fmod_iff hd]
theorem good_is0 {b t m d : Int} (hd : 1 ≤ d) : decide ((m * blockOf b t - 1).fmod d = 0) = goodB b t m d := by
  unfold goodB
  rw [Bool.eq_iff_iff, decide_eq_true_iff, decide_eq_true_iff, fmod0_iff hd]
theorem same_is {b t m d : Int} (hd : 1 ≤ d) : (goodB b t m d && decide ((blockOf b t).fmod d = (1 : Int).fmod d)) = sameB b t m d := by
  unfold goodB sameB
  rw [Bool.eq_iff_iff, Bool.and_eq_true, Bool.and_eq_true, decide_eq_true_iff, decide_eq_true_iff, decide_eq_true_iff, decide_eq_true_iff, fmod_iff hd]
  constructor
  · rintro ⟨⟨c1, h1⟩, ⟨c2, h2⟩⟩
    exact ⟨⟨c2, h2⟩, ⟨c1 - m * c2, by grind⟩⟩
  · rintro ⟨⟨c1, h1⟩, ⟨c2, h2⟩⟩
    exact ⟨⟨c2 + m * c1, by grind⟩, ⟨c1, h1⟩⟩
theorem factor_ok {b t m d n : Int} (h : 2 ≤ blockOf b t) (hd : 1 ≤ d) (g : goodB b t m d = true) : (made b t m n).fmod d = (m.fmod d * n).fmod d := by
  obtain ⟨c, hc⟩ := of_decide_eq_true g
  obtain ⟨q, r, r0, r1, en, em⟩ := made_split (m := m) (n := n) h
  obtain ⟨u, hu⟩ := (fmod_iff (d := d) (x := m) (y := m.fmod d) hd).mp (by rw [Int.fmod_fmod])
  rw [fmod_iff hd]
  exact ⟨u * n - c * q, by grind⟩

/-! ### what a trick tells -/
def spKeeps (T : Tx P K mg) : Sp := fun vs H Q _ => ∃ (p : Addr) (b t m d : Int), vs = [.ref p, .int d] ∧ TrickAt T H p b t m ∧ 1 ≤ d ∧ Q (.bl (sameB b t m d)) H
theorem ok_keeps_rest (T : Tx P K mg) : FnOk P w K mg base CX0 lv_keeps_rest T.a_keeps_rest T.d_keeps_rest ["trick", "d"] (spKeeps T) := by
  refine T.F_keeps_rest.ok sc_keeps_rest (fun vs H Q E h => ?_) (fun cdv A outer s H vs Q E hr h => ?_)
  · obtain ⟨p, b, t, m, d, rfl, _⟩ := h
    rfl
  · obtain ⟨p, b, t, m, d, rfl, a, d1, k⟩ := h
    obtain ⟨⟨dx, e⟩, _⟩ := id a
    refine ⟨_, (pss_one (ps_ret (pe_and (pe_cmpR op_eq (pe_op op_modN (pe_op op_sub (pe_call (ok_trick_block T) (hr.mono (by decide)) rfl T.g_trick_block T.F_trick_block.kp T.b_trick_block .nil pass0 (pa_cons (pv 0) pa_nil)) pe_int) (pv 1)) pe_int (nomark _)) (pe_one (pe_cmpR op_eq (pe_op op_modN (pe_op op_sub (pe_prop (pv 0) T.cl_Trick T.p_Trick_times (ok_Trick_times T) (hr.mono (by decide)) T.b_Trick_times .nil pass0 rfl) pe_int) (pv 1)) pe_int (nomark _)))))), ?_⟩
    refine ⟨_, rfl, p, b, t, m, rfl, a, _, _, rfl, rfl, _, rfl, _, _, rfl, rfl, (show d ≠ 0 by omega), rfl, _, rfl, ?_⟩
    have e1 : decide (V.int ((blockOf b t - 1).fmod d) = V.int 0) = decide (d ∣ blockOf b t - 1) := by
      rw [dec_i, Bool.eq_iff_iff, decide_eq_true_iff, decide_eq_true_iff, fmod0_iff d1]
    have e2 : decide (V.int ((m - 1).fmod d) = V.int 0) = decide (d ∣ m - 1) := by
      rw [dec_i, Bool.eq_iff_iff, decide_eq_true_iff, decide_eq_true_iff, fmod0_iff d1]
    unfold sameB at k
    refine ite2 (fun g => ?_) (fun g => ?_)
    · rw [← e1, g, Bool.true_and, ← e2] at k
      exact ⟨_, rfl, p, dx, _, rfl, e, p, b, t, m, rfl, a, _, _, rfl, rfl, _, rfl, _, _, rfl, rfl, (show d ≠ 0 by omega), rfl, k⟩
    · rw [← e1, Bool.eq_false_iff.mpr g, Bool.false_and] at k
      exact k

def spTellsM : Sp := fun vs H Q _ => ∃ B m d : Int, vs = [.int B, .int m, .int d] ∧ -100 ≤ m ∧ m ≤ 100 ∧ 1 ≤ d ∧ Q (.bl (decide (d ∣ m * B - 1))) H
theorem ok_tells_multiples (T : Tx P K mg) : FnOk P w K mg base CX0 lv_tells_multiples T.a_tells_multiples T.d_tells_multiples ["block", "times", "d"] spTellsM := by
  refine T.F_tells_multiples.ok sc_tells_multiples (fun vs H Q E h => ?_) (fun cdv A outer s H vs Q E hr h => ?_)
  · obtain ⟨B, m, d, rfl, _⟩ := h
    rfl
  · obtain ⟨B, m, d, rfl, m1, m2, d1, k⟩ := h
    refine ⟨_, (pss_one (ps_ret (pe_cmpR op_eq (pe_op op_modN (pe_op op_sub (pe_op op_mul (pv 1) (pv 0)) pe_int) (pv 2)) pe_int (nomark _)))), ?_⟩
    refine ⟨_, rfl, _, rfl, _, _, rfl, rfl, .inl ⟨by omega, by omega⟩, _, _, rfl, rfl, _, rfl, _, _, rfl, rfl, (show d ≠ 0 by omega), rfl, ?_⟩
    have e2 : decide (V.int ((m * B - 1).fmod d) = V.int 0) = decide (d ∣ m * B - 1) := by
      rw [dec_i, Bool.eq_iff_iff, decide_eq_true_iff, decide_eq_true_iff, fmod0_iff d1]
    rw [← e2] at k
    exact k

def wordOf (b t m d : Int) : Str := if sameB b t m d = true then ("rest" : Str) else if goodB b t m d = true then ("multiples" : Str) else ("nothing" : Str)
def spTells (T : Tx P K mg) : Sp := fun vs H Q _ => ∃ (p : Addr) (b t m d : Int), vs = [.ref p, .int d] ∧ TrickAt T H p b t m ∧ 1 ≤ d ∧ d ≤ 100 ∧ Q (.str (wordOf b t m d)) H
theorem ok_tells (T : Tx P K mg) : FnOk P w K mg base CX0 lv_tells T.a_tells T.d_tells ["trick", "d"] (spTells T) := by
  refine T.F_tells.ok sc_tells (fun vs H Q E h => ?_) (fun cdv A outer s H vs Q E hr h => ?_)
  · obtain ⟨p, b, t, m, d, rfl, _⟩ := h
    rfl
  · obtain ⟨p, b, t, m, d, rfl, a, d1, d2, k⟩ := h
    obtain ⟨⟨dx, e⟩, b1, b2, t1, t2, m1, m2⟩ := id a
    refine ⟨_, (pss_cons (ps_expr (pe_call (ok_check_trick T) (hr.mono (by decide)) rfl T.g_check_trick T.F_check_trick.kp T.b_check_trick .nil passL (pa_cons (pv 0) pa_nil)))
      (pss_cons (ps_expr (pe_call (ok_check_divisor T) (hr.mono (by decide)) rfl T.g_check_divisor T.F_check_divisor.kp T.bd_check_divisor T.rd_check_divisor passL (pa_cons (pv 1) pa_nil)))
      (pss_cons (ps_if (pt_val (pe_call (ok_keeps_rest T) (hr.mono (by decide)) rfl T.g_keeps_rest T.F_keeps_rest.kp T.b_keeps_rest .nil pass0 (pa_cons (pv 0) (pa_cons (pv 1) pa_nil)))) (pss_one (ps_ret pe_str)) pss_nil)
      (pss_cons (ps_if (pt_val (pe_call (ok_tells_multiples T) (hr.mono (by decide)) rfl T.g_tells_multiples T.F_tells_multiples.kp T.b_tells_multiples .nil pass0 (pa_cons (pe_call (ok_trick_block T) (hr.mono (by decide)) rfl T.g_trick_block T.F_trick_block.kp T.b_trick_block .nil pass0 (pa_cons (pv 0) pa_nil)) (pa_cons (pe_prop (pv 0) T.cl_Trick T.p_Trick_times (ok_Trick_times T) (hr.mono (by decide)) T.b_Trick_times .nil pass0 rfl) (pa_cons (pv 1) pa_nil))))) (pss_one (ps_ret pe_str)) pss_nil)
      (pss_one (ps_ret pe_str)))))), ?_⟩
    refine ⟨_, rfl, _, rfl, .inl ⟨p, dx, _, rfl, e, ?_⟩⟩
    refine ⟨_, rfl, _, 100, rfl, by decide, by decide, .int d, fun _ => ?_, fun z => Bool.noConfusion ((intIn_of d1 d2).symm.trans z)⟩
    refine ⟨_, rfl, _, rfl, p, b, t, m, d, rfl, a, d1, _, rfl, ?_⟩
    unfold wordOf at k
    refine ite2 (fun g => ?_) (fun g => ?_)
    · rw [if_pos g] at k
      exact k
    · rw [if_neg g] at k
      refine ⟨_, rfl, p, b, t, m, rfl, a, _, rfl, p, dx, _, rfl, e, p, b, t, m, rfl, a, _, rfl, _, m, d, rfl, m1, m2, d1, _, rfl, ?_⟩
      refine ite2 (fun g2 => ?_) (fun g2 => ?_)
      · rw [if_pos (show goodB b t m d = true from g2)] at k
        exact k
      · rw [if_neg (show ¬ goodB b t m d = true from g2)] at k
        exact k

/-! ### by what the rest is multiplied -/
def facV (b t m d : Int) : V := if goodB b t m d = true then .int (m.fmod d) else .non
def spFactor (T : Tx P K mg) : Sp := fun vs H Q _ => ∃ (p : Addr) (b t m d : Int), vs = [.ref p, .int d] ∧ TrickAt T H p b t m ∧ 1 ≤ d ∧ d ≤ 100 ∧ Q (facV b t m d) H
theorem ok_factor (T : Tx P K mg) : FnOk P w K mg base CX0 lv_factor T.a_factor T.d_factor ["trick", "d"] (spFactor T) := by
  refine T.F_factor.ok sc_factor (fun vs H Q E h => ?_) (fun cdv A outer s H vs Q E hr h => ?_)
  · obtain ⟨p, b, t, m, d, rfl, _⟩ := h
    rfl
  · obtain ⟨p, b, t, m, d, rfl, a, d1, d2, k⟩ := h
    obtain ⟨⟨dx, e⟩, b1, b2, t1, t2, m1, m2⟩ := id a
    refine ⟨_, (pss_cons (ps_expr (pe_call (ok_check_trick T) (hr.mono (by decide)) rfl T.g_check_trick T.F_check_trick.kp T.b_check_trick .nil passL (pa_cons (pv 0) pa_nil)))
      (pss_cons (ps_expr (pe_call (ok_check_divisor T) (hr.mono (by decide)) rfl T.g_check_divisor T.F_check_divisor.kp T.bd_check_divisor T.rd_check_divisor passL (pa_cons (pv 1) pa_nil)))
      (pss_cons (ps_if (pt_not (pt_val (pe_call (ok_tells_multiples T) (hr.mono (by decide)) rfl T.g_tells_multiples T.F_tells_multiples.kp T.b_tells_multiples .nil pass0 (pa_cons (pe_call (ok_trick_block T) (hr.mono (by decide)) rfl T.g_trick_block T.F_trick_block.kp T.b_trick_block .nil pass0 (pa_cons (pv 0) pa_nil)) (pa_cons (pe_prop (pv 0) T.cl_Trick T.p_Trick_times (ok_Trick_times T) (hr.mono (by decide)) T.b_Trick_times .nil pass0 rfl) (pa_cons (pv 1) pa_nil)))))) (pss_one (ps_ret pe_non)) pss_nil)
      (pss_one (ps_ret (pe_op op_modN (pe_prop (pv 0) T.cl_Trick T.p_Trick_times (ok_Trick_times T) (hr.mono (by decide)) T.b_Trick_times .nil pass0 rfl) (pv 1))))))), ?_⟩
    refine ⟨_, rfl, _, rfl, .inl ⟨p, dx, _, rfl, e, ?_⟩⟩
    refine ⟨_, rfl, _, 100, rfl, by decide, by decide, .int d, fun _ => ?_, fun z => Bool.noConfusion ((intIn_of d1 d2).symm.trans z)⟩
    refine ⟨_, rfl, p, b, t, m, rfl, a, _, rfl, p, dx, _, rfl, e, p, b, t, m, rfl, a, _, rfl, _, m, d, rfl, m1, m2, d1, _, rfl, ?_⟩
    unfold facV at k
    cases g : goodB b t m d with
    | true =>
      rw [if_pos g] at k
      rw [show decide (d ∣ m * blockOf b t - 1) = true from g]
      exact iteF ⟨_, rfl, p, dx, _, rfl, e, p, b, t, m, rfl, a, _, rfl, _, _, rfl, rfl, (show d ≠ 0 by omega), k⟩
    | false =>
      rw [if_neg (by rw [g]; exact Bool.false_ne_true)] at k
      rw [show decide (d ∣ m * blockOf b t - 1) = false from g]
      exact iteT k

/-! ### all multipliers -/
def mulL (b t d : Int) (k : Nat) : List Int := ((List.range k).map fun (i : Nat) => (i : Int)).filter fun r => goodB b t r d
theorem mulL_succ (b t d : Int) (k : Nat) : mulL b t d (k + 1) = mulL b t d k ++ (if goodB b t (k : Int) d = true then [(k : Int)] else []) := by
  unfold mulL
  rw [List.range_succ, List.map_append, List.filter_append]
  congr 1
  show List.filter _ [(k : Int)] = _
  by_cases h : goodB b t (k : Int) d = true
  · rw [if_pos h]; simp [h]
  · rw [if_neg h]; simp [h]
theorem mulL_len (b t d : Int) (k : Nat) : (mulL b t d k).length ≤ k := by
  unfold mulL
  refine Nat.le_trans (List.length_filter_le _ _) ?_
  simp
def sp_multipliers (T : Tx P K mg) : Sp := fun vs H Q E => ∃ x y z : V, vs = [x, y, z] ∧ AnyV (OwnT T) H x ∧ AnyV (OwnT T) H y ∧ AnyV (OwnT T) H z ∧
  (intIn x 2 16 = false → E (.ref T.C_BadBase) none H) ∧ (intIn x 2 16 = true → intIn y 1 2 = false → E (.ref T.C_BadTake) none H) ∧ (intIn x 2 16 = true → intIn y 1 2 = true → intIn z 1 100 = false → E (.ref T.C_BadDivisor) none H) ∧
  ∀ b t d : Int, x = .int b → y = .int t → z = .int d → 2 ≤ b → b ≤ 16 → 1 ≤ t → t ≤ 2 → 1 ≤ d → d ≤ 100 → ∀ p, H p = none → Q (.ref p) (upd H p (.lst ((mulL b t d d.toNat).map V.int)))
theorem ok_multipliers (T : Tx P K mg) : FnOk P w K mg base (L2.CX P w) lv_multipliers T.a_multipliers T.d_multipliers ["base", "take", "d"] (sp_multipliers T) := by
  refine T.F_multipliers.okX sc_multipliers (fun vs H Q E h => ?_) (fun cdv A outer s H vs Q E hr h => ?_)
  · obtain ⟨x, y, z, rfl, _⟩ := h
    rfl
  · obtain ⟨x, y, z, rfl, ax, ay, az, e1, e2, e3, k⟩ := h
    refine ⟨_, (pss_cons (ps_expr (pe_call (ok_check_base T) (hr.mono (by decide)) rfl T.g_check_base T.F_check_base.kp T.b_check_base .nil (passes_call (takes_of rfl rfl rfl rfl) fun _ _ _ _ h => h) (pa_cons (pv 0) pa_nil)))
      (pss_cons (ps_expr (pe_call (ok_check_take T) (hr.mono (by decide)) rfl T.g_check_take T.F_check_take.kp T.b_check_take .nil (passes_call (takes_of rfl rfl rfl rfl) fun _ _ _ _ h => h) (pa_cons (pv 1) pa_nil)))
      (pss_cons (ps_expr (pe_call (ok_check_divisor T) (hr.mono (by decide)) rfl T.g_check_divisor T.F_check_divisor.kp T.bd_check_divisor T.rd_check_divisor (passes_call (takes_of rfl rfl rfl rfl) fun _ _ _ _ h => h) (pa_cons (pv 2) pa_nil)))
      (pss_cons (ps_set (i := 3) sc_multipliers.nd rfl (Or.inr rfl) (pe_call (ok_block_of T) (hr.mono (by decide)) rfl T.g_block_of T.F_block_of.kp T.b_block_of .nil pass0 (pa_cons (pv 0) (pa_cons (pv 1) pa_nil))))
      (pss_one (ps_ret (pe_lc (own := [("rest", 4)]) (g := gName 4) rfl sc_multipliers.nd (pi_range1 (by rfl) T.n_range (pa_cons (pv 2) pa_nil)) (blkOk_by (own := [("rest", 4)]) (N := ["base", "take", "d", "block", "rest"]) (sc := defScope s_multipliers) (by decide +kernel)) (fun _ _ _ _ _ => pg_name (i := 4) sc_multipliers.nd rfl (Or.inl rfl)) (fun _ _ _ _ _ => pts_one (pt_val (pe_call (ok_tells_multiples T) (hr.mono (by decide)) rfl T.g_tells_multiples T.F_tells_multiples.kp T.b_tells_multiples .nil pass0 (pa_cons (pv 3) (pa_cons (pv 4) (pa_cons (pv 2) pa_nil)))))) (fun _ _ _ _ _ => (pv 4))))))))), ?_⟩
    refine ⟨_, rfl, x, rfl, ax, fun g1 => ?_, e1⟩
    refine ⟨_, rfl, y, rfl, ay, fun g2 => ?_, e2 g1⟩
    refine ⟨_, rfl, z, 100, rfl, by decide, by decide, az, fun g3 => ?_, e3 g1 g2⟩
    obtain ⟨b, rfl, b1, b2⟩ := intIn_int' g1
    obtain ⟨t, rfl, t1, t2⟩ := intIn_int' g2
    obtain ⟨d, rfl, d1, d2⟩ := intIn_int' g3
    refine ⟨_, rfl, _, rfl, b, t, rfl, b1, b2, ?_⟩
    refine ⟨_, rfl, d, rfl, by omega, by omega, fun D hD => ?_⟩
    refine lc_range (lo := 0) (n := d.toNat) (fun i H4 => H4 = upd H D (.lst ((mulL b t d i).map V.int))) rfl ?_ ?_
    · rintro i H4 hi rfl
      have ei : (0 : Int) + (i : Int) = (i : Int) := Int.zero_add _
      have hln := mulL_len b t d i
      refine ⟨rfl, _, rfl, _, rfl, _, rfl, _, _, _, rfl, by omega, by omega, d1, _, rfl, ?_⟩
      rw [ei]
      refine ite2 (fun g => ?_) (fun g => ?_)
      · have g1 : goodB b t (i : Int) d = true := g
        refine ⟨_, rfl, _, upd_same, by rw [List.length_map]; exact small1000 (by omega), ?_⟩
        rw [upd_upd, mulL_succ, if_pos g1, List.map_append]
        rfl
      · have g1 : ¬ goodB b t (i : Int) d = true := g
        rw [mulL_succ, if_neg g1, List.append_nil]
    · rintro H4 rfl
      exact k b t d rfl rfl rfl b1 b2 t1 t2 d1 d2 D hD

/-! ### labels of rests -/
abbrev lVerd (H : Hp) (x : V) : Option V := verdict 1 20 0 19 (tupOf H x)
def spLabels (T : Tx P K mg) : Sp := fun vs H Q E => ∃ x : V, vs = [x] ∧ AnyV (OwnT T) H x ∧ ItemsAny (OwnT T) H x ∧ (lVerd H x = none → ∀ H2, Same H H2 → Q .non H2) ∧
  ∀ v, lVerd H x = some v → ∀ H2 d, Same H H2 → H2 d = none → E (.ref T.C_BadRests) (some d) (upd H2 d (.xd [(("index" : Str), v)]))
theorem ok_check_labels (T : Tx P K mg) : FnOk P w K mg base (L2.CX P w) lv_check_labels T.a_check_labels T.d_check_labels ["labels"] (spLabels T) := by
  refine T.F_check_labels.okX sc_check_labels (fun vs H Q E h => ?_) (fun cdv A outer s H vs Q E hr h => ?_)
  · obtain ⟨x, rfl, _⟩ := h
    rfl
  · obtain ⟨x, rfl, a, ia, k1, k2⟩ := h
    refine ⟨_, (pss_cons (ps_if (pt_not (pt_val (pe_call (ok_is_tuple T) (hr.mono (by decide)) rfl T.g_is_tuple T.F_is_tuple.kp T.b_is_tuple .nil pass0 (pa_cons (pv 0) (pa_cons pe_int (pa_cons (pe_glob (v := .int 20) rfl T.c_MOST_LABELS ⟨_, rfl⟩) pa_nil)))))) (pss_one (ps_raiseF T.x_BadRests ar_BadRests rfl hr (takes_of rfl rfl rfl rfl) (pa_cons pe_non pa_nil))) pss_nil)
      (pss_cons (ps_set (i := 1) sc_check_labels.nd rfl (Or.inl rfl) (pe_call (ok_first_wrong T) (hr.mono (by decide)) rfl T.g_first_wrong T.F_first_wrong.kp T.b_first_wrong .nil pass0 (pa_cons (pv 0) (pa_cons pe_int (pa_cons (pe_glob (v := .int 19) rfl T.c_GREATEST_LABEL ⟨_, rfl⟩) pa_nil)))))
      (pss_one (ps_if (pt_cmpR op_notN (pv 1) pe_non (nomark _)) (pss_one (ps_raiseF T.x_BadRests ar_BadRests rfl hr (takes_of rfl rfl rfl rfl) (pa_cons (pv 1) pa_nil))) pss_nil)))), ?_⟩
    refine ⟨_, rfl, x, 1, 20, rfl, a, _, rfl, ?_⟩
    cases e : tupOf H x with
    | none =>
      have ev : lVerd H x = some .non := by unfold lVerd; rw [e]; rfl
      exact iteT ⟨_, rfl, .inl rfl, fun d hd => k2 _ ev H d (Same.refl H) hd⟩
    | some ys =>
      obtain ⟨c, rfl, hc⟩ := tupOf_some e
      show if (!(decide ((1 : Int) ≤ (ys.length : Int)) && decide ((ys.length : Int) ≤ 20))) = true then _ else _
      by_cases l : 1 ≤ ys.length ∧ ys.length ≤ 20
      · rw [show (decide ((1 : Int) ≤ (ys.length : Int)) && decide ((ys.length : Int) ≤ 20)) = true from by rw [Bool.and_eq_true, decide_eq_true_eq, decide_eq_true_eq]; omega]
        have ev : lVerd H (.ref c) = (firstW 0 19 ys).map fun i => .int (i : Nat) := by
          unfold lVerd
          rw [e, verdict_some]
          exact if_pos l
        rw [ev] at k1 k2
        refine iteF ⟨_, rfl, c, ys, 0, 19, rfl, hc, by omega, fun y hy => ia ys e y hy, fun H2 S2 => ?_⟩
        cases ef : firstW 0 19 ys with
        | none =>
          rw [ef] at k1
          refine ⟨_, rfl, rfl, _, rfl, ?_⟩
          rw [show decide (optN none = V.non) = true from decide_eq_true rfl]
          exact iteF (k1 rfl H2 S2)
        | some i =>
          have li : i < ys.length := firstW_lt ef
          rw [ef] at k2
          refine ⟨_, rfl, rfl, _, rfl, ?_⟩
          rw [show decide (optN (some i) = V.non) = false from decide_eq_false (fun z => nomatch z)]
          have sm : ((i : Int)).natAbs.log2 < 1920 := Nat.lt_of_le_of_lt (Nat.log2_le_self _) (by omega)
          exact iteT ⟨_, rfl, _, rfl, .inr ⟨_, rfl, sm⟩, fun d hd => k2 _ rfl H2 d S2 hd⟩
      · have ev : lVerd H (.ref c) = some .non := by
          unfold lVerd
          rw [e, verdict_some]
          exact if_neg l
        rw [show (decide ((1 : Int) ≤ (ys.length : Int)) && decide ((ys.length : Int) ≤ 20)) = false from by rw [Bool.and_eq_false_iff, decide_eq_false_iff_not, decide_eq_false_iff_not]; omega]
        exact iteT ⟨_, rfl, .inl rfl, fun d hd => k2 _ ev H d (Same.refl H) hd⟩
/-! ### a rest -/
/-! ### machines -/
/-- the machine at q: its labels, where each state goes by each figure -/
def MachAt (H : Hp) (q : Addr) (told : List Int) (steps : List (List Int)) : Prop := ∃ (x y : Addr) (rs : List Addr), H q = some (.tup [.ref x, .ref y]) ∧ H x = some (.lst (told.map V.int)) ∧ H y = some (.lst (rs.map V.ref)) ∧ rs.length = steps.length ∧
  ∀ (i : Nat) (r : Addr) (s : List Int), rs[i]? = some r → steps[i]? = some s → H r = some (.lst (s.map V.int))
/-- what is captured is still captured when a block's names are told anew -/
theorem rel_cf {env : Env} : ∀ {names : List (PySem.Str × NameKind)} {x : PySem.Str}, (names.lookup x = some .cell ∨ names.lookup x = some .free) →
    ((names.map fun (n, k) => if (k == NameKind.free && env.scope.kind == .function && env.kindOf n == some .cell) then (n, NameKind.cell) else (n, k)).lookup x = some .cell ∨
     (names.map fun (n, k) => if (k == NameKind.free && env.scope.kind == .function && env.kindOf n == some .cell) then (n, NameKind.cell) else (n, k)).lookup x = some .free)
  | [], x, h => by rcases h with h | h <;> cases h
  | (m, k) :: r, x, h => by
    rw [List.map_cons]
    cases hx : x == m with
    | true =>
      have hk : k = .cell ∨ k = .free := by
        simp only [List.lookup_cons, hx] at h
        rcases h with h | h
        · exact .inl (Option.some.inj h)
        · exact .inr (Option.some.inj h)
      by_cases g : (k == NameKind.free && env.scope.kind == .function && env.kindOf m == some .cell) = true
      · simp only [if_pos g, List.lookup_cons, hx]
        exact .inl trivial
      · simp only [if_neg g, List.lookup_cons, hx]
        rcases hk with e | e
        · exact .inl (by rw [e])
        · exact .inr (by rw [e])
    | false =>
      simp only [List.lookup_cons, hx] at h
      have ih := rel_cf (env := env) (x := x) h
      by_cases g : (k == NameKind.free && env.scope.kind == .function && env.kindOf m == some .cell) = true
      · simp only [if_pos g, List.lookup_cons, hx]
        exact ih
      · simp only [if_neg g, List.lookup_cons, hx]
        exact ih
/-- a comprehension within a comprehension -/
theorem blkIn {N : List PySem.Str} {X : Cx} {s : Shared} {H : Hp} {scope inner : Scope} {cl : List (PySem.Str × Addr)} {C : Addr} {fp : List Addr} {own : List (PySem.Str × Nat)} (h : blkC N scope inner own = true) : BlkOk N (X.blk s H scope (compEnvC scope cl C X.env) fp).env.scope inner own :=
  let b := blkOk_by h
  ⟨b.kind, b.uniq, b.ix, fun y hy e => rel_cf (b.free y hy e), b.own⟩
def frontRow (b : Int) (d r : Nat) : List Int := (List.range b.toNat).map fun (f : Nat) => ((r : Int) * b + (f : Int)) % (d : Int)
def frontS (b : Int) (d : Nat) : List (List Int) := (List.range d).map (frontRow b d)
def spFront (K : PySem.W.Frag) : Sp := fun vs H Q _ => ∃ (b : Int) (c : Addr) (ls : List Int), vs = [.int b, .ref c] ∧ H c = some (.tup (ls.map V.int)) ∧ 2 ≤ b ∧ b ≤ 16 ∧ 1 ≤ ls.length ∧ ls.length ≤ 20 ∧
  ∀ q H', Same H H' → MachAt H' q ls (frontS b ls.length) → Q (.ref q) H'
theorem ok_front_machine (T : Tx P K mg) : FnOk P w K mg base CX0 lv_front_machine T.a_front_machine T.d_front_machine ["base", "labels"] (spFront K) := by
  refine T.F_front_machine.ok sc_front_machine (fun vs H Q E h => ?_) (fun cdv A outer s H vs Q E hr h => ?_)
  · obtain ⟨b, c, ls, rfl, _⟩ := h
    rfl
  · obtain ⟨b, c, ls, rfl, hc, b1, b2, l1, l2, k⟩ := h
    refine ⟨_, (pss_cons (ps_set (i := 2) sc_front_machine.nd rfl (Or.inr rfl) (pe_callB call_len_seq (by rfl) T.n_len (by decide +kernel) (pa_cons (pv 1) pa_nil)))
      (pss_cons (ps_setLc (i := 3) (own := [("rest", 4)]) (g := gName 4) (tt := tYes) rfl sc_front_machine.nd rfl rfl (sw_true rfl rfl rfl (by decide +kernel)) (pi_range1 (by rfl) T.n_range (pa_cons (pv 2) pa_nil)) (blkOk_by (own := [("rest", 4)]) (N := ["base", "labels", "d", "steps", "rest", "figure"]) (sc := defScope s_front_machine) (by decide +kernel)) (fun _ _ _ _ _ => pg_name (i := 4) sc_front_machine.nd rfl (Or.inr rfl)) (fun _ _ _ _ _ => pts_nil) (fun _ _ _ _ _ => (pe_lc (own := [("figure", 5)]) (g := gName 5) (tt := tYes) rfl sc_front_machine.nd (pi_range1 (by rfl) T.n_range (pa_cons (pv 0) pa_nil)) (blkIn (own := [("figure", 5)]) (N := ["base", "labels", "d", "steps", "rest", "figure"]) (by decide +kernel)) (fun _ _ _ _ _ => pg_name (i := 5) sc_front_machine.nd rfl (Or.inl rfl)) (fun _ _ _ _ _ => pts_nil) (fun _ _ _ _ _ => (pe_op op_modN (pe_op op_add (pe_op op_mul (pv 4) (pv 0)) (pv 5)) (pv 2))))))
      (pss_one (ps_ret (pe_tup (pa_cons (pe_callTy call_list_of (by rfl) T.n_list (by decide +kernel) (pa_cons (pv 1) pa_nil)) (pa_cons (pv 3) pa_nil))))))), ?_⟩
    refine ⟨_, rfl, c, _, rfl, .inr (SqT.of hc), ?_⟩
    refine ⟨_, rfl, (ls.length : Int), by rw [List.length_map], by omega, by omega, fun D hD => ?_⟩
    refine lc_range (Pv := fun i H2 => ∃ rs : List Addr, H2 D = some (.lst (rs.map V.ref)) ∧ rs.length = i ∧ Same H H2 ∧ ∀ (j : Nat) (r : Addr), rs[j]? = some r → r ≠ D ∧ H2 r = some (.lst ((frontRow b ls.length j).map V.int))) ⟨[], upd_same, rfl, same_upd hD, fun j r h => nomatch h⟩ ?_ ?_
    · rintro i H2 hi ⟨rs, h1, h2, S, h3⟩
      refine ⟨rfl, ⟨_, rfl, b, rfl, by omega, by omega, fun D2 hD2 => ?_⟩⟩
      have n2 : D2 ≠ D := fun z => by rw [z, h1] at hD2; cases hD2
      refine lc_range (Pv := fun j H3 => H3 D2 = some (.lst (((List.range j).map fun (f : Nat) => ((i : Int) * b + (f : Int)) % (ls.length : Int)).map V.int)) ∧ Same H2 H3) ⟨upd_same, same_upd hD2⟩ ?_ ?_
      · rintro j H3 hj ⟨g1, S3⟩
        refine ⟨rfl, ⟨_, rfl, _, rfl, _, _, rfl, rfl, .inl ⟨by omega, by omega⟩, _, rfl, _, _, rfl, rfl, _, rfl, _, _, rfl, rfl, ?_, ?_⟩⟩
        · show ((ls.map V.int).length : Int) ≠ 0
          rw [List.length_map]
          omega
        · refine ⟨_, g1, ?_, ?_, fun c o e => ?_⟩
          · rw [List.length_map, List.length_map, List.length_range]
            exact Nat.lt_of_lt_of_le hj (by unfold sizeLine; omega)
          · rw [upd_same, List.range_succ, List.map_append, List.map_append]
            show some (HO.lst (_ ++ [V.int (((0 + (i : Int)) * b + (0 + (j : Int))).fmod ((ls.map V.int).length : Int))])) = _
            rw [List.length_map, Int.fmod_eq_emod_of_nonneg _ (by omega), Int.zero_add, Int.zero_add]
            rfl
          · rw [upd_ne (ne_of_none e hD2)]
            exact S3 _ _ e
      · rintro H3 ⟨g1, S3⟩
        refine ⟨_, S3 _ _ h1, ?_, rs ++ [D2], ?_, ?_, fun c o e => ?_, fun j r hr => ?_⟩
        · rw [List.length_map, h2]
          exact Nat.lt_of_lt_of_le hi (by unfold sizeLine; omega)
        · rw [upd_same, List.map_append]
          rfl
        · rw [List.length_append, h2]
          rfl
        · rw [upd_ne (ne_of_none e hD)]
          exact S3 _ _ (S _ _ e)
        · rcases Nat.lt_or_ge j rs.length with q | q
          · rw [List.getElem?_append_left q] at hr
            obtain ⟨n3, g3⟩ := h3 j r hr
            exact ⟨n3, by rw [upd_ne n3]; exact S3 _ _ g3⟩
          · have ej : j = i := by
              have := (List.getElem?_eq_some_iff.mp hr).1
              rw [List.length_append, List.length_singleton] at this
              omega
            rw [List.getElem?_append_right q, ej, h2, Nat.sub_self] at hr
            cases hr
            exact ⟨n2, by rw [upd_ne n2, ej]; exact g1⟩
    · rintro H2 ⟨rs, h1, h2, S, h3⟩
      refine ⟨_, rfl, c, _, rfl, .inr (SqT.of (S _ _ hc)), fun l hl => ⟨_, rfl, by show 2 ≤ sizeLine; decide, fun p hp => ?_⟩⟩
      refine k p _ (S.trans ((same_upd hl).trans (same_upd hp))) ⟨l, D, rs, upd_same, same_upd hp _ _ upd_same, same_upd hp _ _ (same_upd hl _ _ h1), ?_, fun i r s hr hs => ?_⟩
      · rw [h2]
        unfold frontS
        rw [List.length_map, List.length_range]
        rfl
      · have e := (h3 i r hr).2
        unfold frontS at hs
        rw [List.getElem?_map] at hs
        obtain ⟨j, hj, rfl⟩ := Option.map_eq_some_iff.mp hs
        have ej : j = i := by
          have hl2 := (List.getElem?_eq_some_iff.mp hj).1
          rw [List.getElem?_range (by simpa using hl2)] at hj
          exact (Option.some.inj hj).symm
        rw [ej]
        exact same_upd hp _ _ (same_upd hl _ _ e)

/-! ### what is reached from behind -/
def addR (R : List Pr) (x : Pr) : List Pr := if x ∈ R then R else R ++ [x]
def nextR (b d : Int) (p : Pr) (f : Nat) : Pr := ((p.1 + (f : Int) * p.2) % d, p.2 * b % d)
/-- so many figures read from the state p: what is reached, where they go -/
def rowR (b d : Int) (p : Pr) : Nat → List Pr → List Pr × List Int
  | 0, R => (R, [])
  | n + 1, R => (addR (rowR b d p n R).1 (nextR b d p n), (rowR b d p n R).2 ++ [((addR (rowR b d p n R).1 (nextR b d p n)).idxOf (nextR b d p n) : Int)])
inductive BRun (b d : Int) : List Pr → List (List Int) → Prop where
  | start : BRun b d [(0, 1 % d)] []
  | step {R : List Pr} {S : List (List Int)} {p : Pr} : BRun b d R S → R[S.length]? = some p → BRun b d (rowR b d p b.toNat R).1 (S ++ [(rowR b d p b.toNat R).2])
/-- rests below d, none twice -/
structure RestsR (d : Int) (R : List Pr) : Prop where
  dom : ∀ q ∈ R, 0 ≤ q.1 ∧ q.1 < d ∧ 0 ≤ q.2 ∧ q.2 < d
  nodup : R.Nodup
theorem mem_addR {R : List Pr} {x : Pr} : x ∈ addR R x := by
  unfold addR
  by_cases h : x ∈ R
  · rw [if_pos h]; exact h
  · rw [if_neg h]; exact List.mem_append_right _ List.mem_cons_self
theorem addR_pre {R : List Pr} {x : Pr} : ∃ more, addR R x = R ++ more := by
  unfold addR
  by_cases h : x ∈ R
  · exact ⟨[], by rw [if_pos h, List.append_nil]⟩
  · exact ⟨[x], by rw [if_neg h]⟩
theorem RestsR.add {d : Int} {R : List Pr} (h : RestsR d R) (d1 : 1 ≤ d) (b : Int) (p : Pr) (f : Nat) : RestsR d (addR R (nextR b d p f)) := by
  unfold addR
  by_cases m : nextR b d p f ∈ R
  · rw [if_pos m]; exact h
  · rw [if_neg m]
    refine ⟨fun q hq => ?_, List.nodup_append.mpr ⟨h.nodup, List.nodup_cons.mpr ⟨List.not_mem_nil, List.nodup_nil⟩, fun x hx y hy => ?_⟩⟩
    · rcases List.mem_append.mp hq with e | e
      · exact h.dom q e
      · rw [List.mem_singleton.mp e]
        exact ⟨Int.emod_nonneg _ (by omega), Int.emod_lt_of_pos _ (by omega), Int.emod_nonneg _ (by omega), Int.emod_lt_of_pos _ (by omega)⟩
    · rw [List.mem_singleton.mp hy]
      exact fun z => m (z ▸ hx)
theorem RestsR.row {d : Int} {R : List Pr} (h : RestsR d R) (d1 : 1 ≤ d) (b : Int) (p : Pr) : ∀ n, RestsR d (rowR b d p n R).1
  | 0 => h
  | n + 1 => (h.row d1 b p n).add d1 b p n
theorem rowR_pre {b d : Int} {p : Pr} {R : List Pr} : ∀ n, ∃ more, (rowR b d p n R).1 = R ++ more
  | 0 => ⟨[], (List.append_nil _).symm⟩
  | n + 1 => by
    obtain ⟨m1, e1⟩ := rowR_pre (b := b) (d := d) (p := p) (R := R) n
    obtain ⟨m2, e2⟩ := addR_pre (R := (rowR b d p n R).1) (x := nextR b d p n)
    exact ⟨m1 ++ m2, by rw [← List.append_assoc, ← e1, ← e2]; rfl⟩
theorem rowR_len {b d : Int} {p : Pr} {R : List Pr} : ∀ n, (rowR b d p n R).2.length = n
  | 0 => rfl
  | n + 1 => by
    show ((rowR b d p n R).2 ++ [_]).length = n + 1
    rw [List.length_append, rowR_len n]
    rfl
theorem BRun.rests {b d : Int} (d1 : 1 ≤ d) {R : List Pr} {S : List (List Int)} (h : BRun b d R S) : RestsR d R := by
  induction h with
  | start => exact ⟨fun q hq => by rw [List.mem_singleton.mp hq]; exact ⟨Int.le_refl 0, by show (0 : Int) < d; omega, Int.emod_nonneg _ (by omega), Int.emod_lt_of_pos _ (by omega)⟩, List.nodup_cons.mpr ⟨List.not_mem_nil, List.nodup_nil⟩⟩
  | step _ _ ih => exact ih.row d1 b _ _
theorem BRun.le {b d : Int} {R : List Pr} {S : List (List Int)} (h : BRun b d R S) : S.length ≤ R.length ∧ 1 ≤ R.length := by
  induction h with
  | start => exact ⟨Nat.zero_le _, Nat.le_refl 1⟩
  | @step R S p _ hp ih =>
    obtain ⟨m, e⟩ := rowR_pre (b := b) (d := d) (p := p) (R := R) b.toNat
    have l := (List.getElem?_eq_some_iff.mp hp).1
    rw [e, List.length_append, List.length_append, List.length_singleton]
    omega
def box20 : List Pr := (List.range 20).flatMap fun (x : Nat) => (List.range 20).map fun (y : Nat) => (((x : Nat) : Int), ((y : Nat) : Int))
theorem box20_len : box20.length = 400 := by decide +kernel
theorem RestsR.le {d : Int} {R : List Pr} (h : RestsR d R) (d2 : d ≤ 20) : R.length ≤ 400 := by
  rw [← box20_len]
  refine pigL box20 R h.nodup fun q hq => ?_
  obtain ⟨h1, h2, h3, h4⟩ := h.dom q hq
  unfold box20
  refine List.mem_flatMap.mpr ⟨q.1.toNat, List.mem_range.mpr (by omega), List.mem_map.mpr ⟨q.2.toNat, List.mem_range.mpr (by omega), ?_⟩⟩
  rw [Int.toNat_of_nonneg h1, Int.toNat_of_nonneg h3]
/-! the dict of their numbers -/
structure NumR (kvs : List (List Key × V)) (R : List Pr) : Prop where
  len : kvs.length = R.length
  at_ : ∀ q, valV kvs (kp q) = if q ∈ R then some (.int (R.idxOf q : Nat)) else none
theorem NumR.put {kvs : List (List Key × V)} {R : List Pr} (h : NumR kvs R) {x : Pr} (hx : ¬ x ∈ R) : NumR (putK kvs (kp x) (.int (R.length : Nat))) (R ++ [x]) := by
  have hn : valV kvs (kp x) = none := by rw [h.at_, if_neg hx]
  refine ⟨by rw [putK_new _ hn, List.length_append, List.length_append, h.len]; rfl, fun q => ?_⟩
  rw [valV_put]
  by_cases e : q = x
  · subst e
    rw [if_pos rfl, if_pos (List.mem_append_right _ List.mem_cons_self), List.idxOf_append, if_neg hx]
    simp
  · rw [if_neg (fun z => e (kp_inj z)), h.at_]
    by_cases m : q ∈ R
    · rw [if_pos m, if_pos (List.mem_append_left _ m), List.idxOf_append, if_pos m]
    · rw [if_neg m, if_neg fun z => by
        rcases List.mem_append.mp z with y | y
        · exact m y
        · exact e (List.mem_singleton.mp y)]

/-! ### the state behind a word -/
structure GoodS (b : Int) (S : List (List Int)) : Prop where
  pos : 0 < S.length
  len : ∀ row ∈ S, row.length = b.toNat
  dom : ∀ row ∈ S, ∀ j ∈ row, 0 ≤ j ∧ j < (S.length : Int)
theorem rowR_dom {b d : Int} {p : Pr} {R : List Pr} : ∀ n, ∀ j ∈ (rowR b d p n R).2, 0 ≤ j ∧ j < ((rowR b d p n R).1.length : Int)
  | 0, j, h => by cases h
  | n + 1, j, h => by
    obtain ⟨more, e⟩ := addR_pre (R := (rowR b d p n R).1) (x := nextR b d p n)
    have hl : (rowR b d p n R).1.length ≤ (rowR b d p (n + 1) R).1.length := by
      show _ ≤ (addR (rowR b d p n R).1 (nextR b d p n)).length
      rw [e, List.length_append]
      omega
    rcases List.mem_append.mp (show j ∈ (rowR b d p n R).2 ++ [((addR (rowR b d p n R).1 (nextR b d p n)).idxOf (nextR b d p n) : Int)] from h) with q | q
    · have := rowR_dom n j q
      omega
    · rw [List.mem_singleton.mp q]
      have := List.idxOf_lt_length_of_mem (mem_addR (R := (rowR b d p n R).1) (x := nextR b d p n))
      show 0 ≤ _ ∧ _ < ((addR (rowR b d p n R).1 (nextR b d p n)).length : Int)
      omega
theorem BRun.rows {b d : Int} {R : List Pr} {S : List (List Int)} (h : BRun b d R S) : ∀ row ∈ S, row.length = b.toNat ∧ ∀ j ∈ row, 0 ≤ j ∧ j < (R.length : Int) := by
  induction h with
  | start => exact fun row h => by cases h
  | @step R S p hr hp ih =>
    intro row hrow
    obtain ⟨m, e⟩ := rowR_pre (b := b) (d := d) (p := p) (R := R) b.toNat
    have hl : R.length ≤ (rowR b d p b.toNat R).1.length := by rw [e, List.length_append]; omega
    rcases List.mem_append.mp hrow with q | q
    · obtain ⟨h1, h2⟩ := ih row q
      exact ⟨h1, fun j hj => by have := h2 j hj; omega⟩
    · rw [List.mem_singleton.mp q]
      exact ⟨rowR_len _, rowR_dom _⟩
theorem BRun.good {b d : Int} {R : List Pr} {S : List (List Int)} (h : BRun b d R S) (e : S.length = R.length) : GoodS b S :=
  ⟨by have := h.le; omega, fun row hr => (h.rows row hr).1, fun row hr j hj => by rw [e]; exact (h.rows row hr).2 j hj⟩
/-- where the state s goes by the figure f -/
def goS (S : List (List Int)) (s : Nat) (f : Int) : Nat := ((S.getD s []).getD f.toNat 0).toNat
theorem GoodS.go {b : Int} {S : List (List Int)} (h : GoodS b S) {s : Nat} (hs : s < S.length) {f : Int} (f0 : 0 ≤ f) (f1 : f < b) : ∃ row, S[s]? = some row ∧ row[f.toNat]? = some (goS S s f : Int) ∧ goS S s f < S.length := by
  have hr : S[s]? = some S[s] := List.getElem?_eq_getElem hs
  have hm : S[s] ∈ S := List.getElem_mem hs
  have hl := h.len _ hm
  have lf : f.toNat < S[s].length := by omega
  have hj := h.dom _ hm _ (List.getElem_mem lf)
  have e : goS S s f = (S[s][f.toNat]).toNat := by
    have e1 : S.getD s [] = S[s] := by
      rw [List.getD_eq_getElem?_getD, hr]
      rfl
    unfold goS
    rw [e1, List.getD_eq_getElem?_getD, List.getElem?_eq_getElem lf]
    rfl
  refine ⟨_, hr, ?_, by omega⟩
  rw [e, Int.toNat_of_nonneg hj.1]
  exact List.getElem?_eq_getElem lf
theorem MachAt.row {H : Hp} {q : Addr} {told : List Int} {S : List (List Int)} (h : MachAt H q told S) : ∃ (x y : Addr) (rs : List Addr), H q = some (.tup [.ref x, .ref y]) ∧ H x = some (.lst (told.map V.int)) ∧ H y = some (.lst (rs.map V.ref)) ∧
    ∀ (i : Nat) (row : List Int), S[i]? = some row → ∃ r, (rs.map V.ref)[i]? = some (.ref r) ∧ H r = some (.lst (row.map V.int)) := by
  obtain ⟨x, y, rs, h1, h2, h3, h4, h5⟩ := h
  refine ⟨x, y, rs, h1, h2, h3, fun i row hi => ?_⟩
  have li : i < rs.length := by rw [h4]; exact (List.getElem?_eq_some_iff.mp hi).1
  exact ⟨rs[i], by rw [List.getElem?_map, List.getElem?_eq_getElem li]; rfl, h5 _ _ _ (List.getElem?_eq_getElem li) hi⟩
theorem MachAt.same {H H2 : Hp} {q : Addr} {told : List Int} {S : List (List Int)} (h : MachAt H q told S) (s : Same H H2) : MachAt H2 q told S := by
  obtain ⟨x, y, rs, h1, h2, h3, h4, h5⟩ := h
  exact ⟨x, y, rs, s _ _ h1, s _ _ h2, s _ _ h3, h4, fun i r w g1 g2 => s _ _ (h5 i r w g1 g2)⟩
def runS (S : List (List Int)) : Nat → List Int → Nat
  | s, [] => s
  | s, f :: fs => runS S (goS S s f) fs
theorem runS_snoc (S : List (List Int)) : ∀ (s : Nat) (fs : List Int) (f : Int), runS S s (fs ++ [f]) = goS S (runS S s fs) f
  | _, [], _ => rfl
  | s, g :: fs, f => runS_snoc S (goS S s g) fs f
theorem runS_lt {b : Int} {S : List (List Int)} (h : GoodS b S) : ∀ {fs : List Int} {s : Nat}, s < S.length → (∀ f ∈ fs, 0 ≤ f ∧ f < b) → runS S s fs < S.length
  | [], _, hs, _ => hs
  | f :: fs, s, hs, hf => by
    obtain ⟨_, _, _, l⟩ := h.go hs (hf f List.mem_cons_self).1 (hf f List.mem_cons_self).2
    show runS S (goS S s f) fs < S.length
    exact runS_lt h l fun g hg => hf g (List.mem_cons_of_mem _ hg)
def spStateB (K : PySem.W.Frag) : Sp := fun vs H Q _ => ∃ (q c : Addr) (told : List Int) (S : List (List Int)) (b : Int) (fs : List Int), vs = [.ref q, .ref c] ∧ MachAt H q told S ∧ GoodS b S ∧ H c = some (.tup (fs.map V.int)) ∧ (∀ f ∈ fs, 0 ≤ f ∧ f < b) ∧ Q (.int (runS S 0 fs : Nat)) H
/-! ### numbers of things, equal ones having equal numbers, by their first places -/
section
variable {α : Type} [DecidableEq α]
def ix (R : List α) (x : α) : Nat := R.idxOf x
theorem ix_old {R : List α} {x y : α} (h : x ∈ R) : ix (R ++ [y]) x = ix R x := by
  unfold ix
  rw [List.idxOf_append, if_pos h]
theorem ix_new {R : List α} {x : α} (h : x ∉ R) : ix (R ++ [x]) x = R.length := by
  unfold ix
  rw [List.idxOf_append, if_neg h]
  simp
def addD (R : List α) (x : α) : List α := if x ∈ R then R else R ++ [x]
def dist (l : List α) : List α := l.foldl addD []
theorem dist_snoc (l : List α) (x : α) : dist (l ++ [x]) = addD (dist l) x := by
  unfold dist
  rw [List.foldl_append]
  rfl
theorem mem_addD {R : List α} {x y : α} : y ∈ addD R x ↔ y ∈ R ∨ y = x := by
  unfold addD
  split
  · rename_i h
    exact ⟨.inl, fun q => q.elim id fun e => e ▸ h⟩
  · rw [List.mem_append, List.mem_singleton]
theorem addD_nodup {R : List α} (h : R.Nodup) (x : α) : (addD R x).Nodup := by
  unfold addD
  split
  · exact h
  · rename_i m
    exact List.nodup_append.mpr ⟨h, List.nodup_cons.mpr ⟨List.not_mem_nil, List.nodup_nil⟩, fun y hy z hz => by
      rw [List.mem_singleton.mp hz]
      rintro rfl
      exact m hy⟩
theorem addD_idx {R : List α} {x y : α} (h : y ∈ R) : (addD R x).idxOf y = R.idxOf y := by
  unfold addD
  split
  · rfl
  · rw [List.idxOf_append, if_pos h]
/-- so many are told: each by its place among the distinct ones so far -/
def numsL : List α → List α → List Int
  | _, [] => []
  | R, x :: l => ((addD R x).idxOf x : Int) :: numsL (addD R x) l
def numsOf (l : List α) : List Int := numsL [] l
theorem numsL_snoc (x : α) : ∀ (l R : List α), numsL R (l ++ [x]) = numsL R l ++ [((addD (l.foldl addD R) x).idxOf x : Int)]
  | [], _ => rfl
  | y :: l, R => by
    show _ :: numsL (addD R y) (l ++ [x]) = _ :: (numsL (addD R y) l ++ _)
    rw [numsL_snoc x l]
    rfl
theorem nums_snoc (l : List α) (x : α) : numsOf (l ++ [x]) = numsOf l ++ [(ix (dist (l ++ [x])) x : Int)] := by
  unfold numsOf
  rw [numsL_snoc, dist_snoc]
  rfl
theorem numsL_len : ∀ (l R : List α), (numsL R l).length = l.length
  | [], _ => rfl
  | _ :: l, R => congrArg Nat.succ (numsL_len l _)
theorem nums_len (l : List α) : (numsOf l).length = l.length := numsL_len l []
theorem dist_le (l : List α) : (dist l).length ≤ l.length := by
  have key : ∀ (l R : List α), (l.foldl addD R).length ≤ R.length + l.length := by
    intro l
    induction l with
    | nil => exact fun R => Nat.le_refl _
    | cons x l ih =>
      intro R
      have h := ih (addD R x)
      have : (addD R x).length ≤ R.length + 1 := by
        unfold addD
        split
        · omega
        · rw [List.length_append, List.length_singleton]
          exact Nat.le_refl _
      show (l.foldl addD (addD R x)).length ≤ R.length + (l.length + 1)
      omega
  have := key l []
  rw [List.length_nil] at this
  unfold dist
  omega
end
theorem dn_empty_keys {H : Hp} : KeysN H [] := fun _ h => by cases h
/-- the entries of the dict: the distinct keys, each with its place -/
structure DK (kvs : List (Key × V)) (R : List Int) : Prop where
  len : kvs.length = R.length
  at_ : ∀ k : Int, valV kvs (.inl k) = if k ∈ R then some (.int (R.idxOf k : Nat)) else none
theorem DK.put {kvs : List (Key × V)} {R : List Int} (h : DK kvs R) {x : Int} (hx : x ∉ R) : DK (putK kvs (.inl x) (.int (kvs.length : Nat))) (addD R x) := by
  have hn : valV kvs (.inl x) = none := by rw [h.at_, if_neg hx]
  have e : addD R x = R ++ [x] := by unfold addD; rw [if_neg hx]
  refine ⟨by rw [putK_new _ hn, e, List.length_append, List.length_append, h.len]; rfl, fun k => ?_⟩
  rw [valV_put, e]
  by_cases z : k = x
  · subst z
    rw [if_pos rfl, if_pos (List.mem_append_right _ List.mem_cons_self), List.idxOf_append, if_neg hx, h.len]
    simp
  · rw [if_neg (fun q => z (by injection q)), h.at_]
    by_cases m : k ∈ R
    · rw [if_pos m, if_pos (List.mem_append_left _ m), List.idxOf_append, if_pos m]
    · rw [if_neg m, if_neg fun q => (List.mem_append.mp q).elim m fun q => z (List.mem_singleton.mp q)]
structure DN (es : List NEnt) (R : List NKey) : Prop where
  len : es.length = R.length
  at_ : ∀ k : NKey, nVal es k = if k ∈ R then some (ix R k : Int) else none
theorem nVal_snoc (es : List NEnt) (x : NEnt) (k : NKey) : nVal (es ++ [x]) k = (nVal es k).or (if x.1 = k then some x.2.2 else none) := by
  unfold nVal
  rw [List.find?_append]
  cases es.find? _ with
  | some y => rfl
  | none =>
    rw [Option.none_or, Option.map_none, Option.none_or, List.find?_cons]
    by_cases e : x.1 = k
    · rw [decide_eq_true e, if_pos e]
      rfl
    · rw [decide_eq_false e, if_neg e]
      rfl
theorem DN.put {es : List NEnt} {R : List NKey} (h : DN es R) {x : NKey} (hx : x ∉ R) (b : Addr) : DN (es ++ [(x, b, (es.length : Int))]) (addD R x) := by
  have e : addD R x = R ++ [x] := by unfold addD; rw [if_neg hx]
  refine ⟨by rw [e, List.length_append, List.length_append, h.len]; rfl, fun k => ?_⟩
  rw [nVal_snoc, h.at_, e]
  by_cases z : k = x
  · subst z
    rw [if_neg hx, if_pos rfl, if_pos (List.mem_append_right _ List.mem_cons_self), h.len]
    rw [ix_new hx]
    rfl
  · by_cases m : k ∈ R
    · rw [if_pos m, if_pos (List.mem_append_left _ m)]
      rw [ix_old m]
      rfl
    · rw [if_neg m, if_neg (fun q => z q.symm), if_neg fun q => (List.mem_append.mp q).elim m fun q => z (List.mem_singleton.mp q)]
      rfl

/-! ### numbered -/
/-- such tuples -/
def KeyRefs (H : Hp) : List V → List NKey → Prop
  | [], [] => True
  | v :: vs, k :: ks => (∃ b, v = .ref b ∧ NkAt H b k) ∧ KeyRefs H vs ks
  | _, _ => False
theorem NkAt.of {H H2 : Hp} (S : ∀ c xs, H c = some (.tup xs) → H2 c = some (.tup xs)) {b : Addr} {k : NKey} (h : NkAt H b k) : NkAt H2 b k := h.imp fun _ q => ⟨S _ _ q.1, S _ _ q.2⟩
theorem KeyRefs.of {H H2 : Hp} (S : ∀ c xs, H c = some (.tup xs) → H2 c = some (.tup xs)) : ∀ {vs : List V} {ks : List NKey}, KeyRefs H vs ks → KeyRefs H2 vs ks
  | [], [], _ => trivial
  | _ :: _, _ :: _, ⟨⟨b, e, h⟩, r⟩ => ⟨⟨b, e, NkAt.of S h⟩, r.of S⟩
  | [], _ :: _, h => h.elim
  | _ :: _, [], h => h.elim
theorem KeyRefs.at {H : Hp} : ∀ {vs : List V} {ks : List NKey}, KeyRefs H vs ks → ∀ {i : Nat} {y : V}, vs[i]? = some y → ∃ b k, y = .ref b ∧ ks[i]? = some k ∧ NkAt H b k
  | [], [], _, i, y, h => by cases h
  | _ :: _, k :: _, ⟨⟨b, e, h1⟩, _⟩, 0, y, h => by
    cases h
    exact ⟨b, k, e, rfl, h1⟩
  | _ :: _, _ :: _, ⟨_, h3⟩, i + 1, y, h => h3.at (i := i) h
  | [], _ :: _, h, _, _, _ => h.elim
  | _ :: _, [], h, _, _, _ => h.elim
theorem KeyRefs.len {H : Hp} : ∀ {vs : List V} {ks : List NKey}, KeyRefs H vs ks → vs.length = ks.length
  | [], [], _ => rfl
  | _ :: _, _ :: _, ⟨_, r⟩ => congrArg Nat.succ r.len
  | [], _ :: _, h => h.elim
  | _ :: _, [], h => h.elim
theorem take_oneT {α : Type} {l : List α} {i : Nat} {z : α} (h : l[i]? = some z) : l.take (i + 1) = l.take i ++ [z] := by
  rw [List.take_succ, h]
  rfl
def spNumberedI (P : Program) (w : World) : Sp := fun vs H Q _ => ∃ (c : Addr), vs = [.ref c] ∧
  ((∃ ns : List Int, H c = some (.lst (ns.map V.int)) ∧ ns.length ≤ 1000 ∧ ∀ D H', H D = none → Same H H' → H' D = some (.lst ((numsOf ns).map V.int)) → Q (.ref D) H') ∨
   ∃ (us : List V) (ks : List NKey), H c = some (.lst us) ∧ KeyRefs H us ks ∧ us.length ≤ 1000 ∧ ∀ D H', H D = none → Same H H' → H' D = some (.lst ((numsOf ks).map V.int)) → Q (.ref D) H')
theorem ok_numbered (T : Tx P K mg) : FnOk P w K mg base CX0 lv_numbered T.a_numbered T.d_numbered ["things"] (spNumberedI P w) := by
  refine T.F_numbered.ok sc_numbered (fun vs H Q E h => ?_) (fun cdv A outer s H vs Q E hr h => ?_)
  · obtain ⟨c, rfl, _⟩ := h
    rfl
  · obtain ⟨c, rfl, h⟩ := h
    refine ⟨_, (pss_cons (ps_set (i := 1) sc_numbered.nd rfl (Or.inl rfl) pe_dnewX)
      (pss_cons (ps_set (i := 2) sc_numbered.nd rfl (Or.inl rfl) (pe_lst pa_nil))
      (pss_cons (ps_for PassesOwn.never rfl (pi_list (pv 0)) (pg_name (i := 3) sc_numbered.nd rfl (Or.inl rfl)) (pss_cons (ps_if (pt_cmp (pc_dnotinX hr.units (pv 3) (pv 1))) (pss_one (ps_dputX hr.units (pv 1) (pv 3) (pe_callB call_len_dX (by rfl) T.n_len (by decide +kernel) (pa_cons (pv 1) pa_nil)) rfl)) pss_nil)
      (pss_one (ps_expr (pe_bm PySem.F.plainAttrs_list PySem.F.slot_list_append PySem.F.type_list_append mt_append (pv 2) (pa_cons (pe_dgetX hr.units (pv 1) (pv 3) (fun _ _ => rfl)) pa_nil))))))
      (pss_one (ps_ret (pv 2)))))), ?_⟩
    rcases h with ⟨ns, hc, hl, k⟩ | ⟨us, ks, hc, hk, hl, k⟩
    · refine .inl fun d hd => ⟨by show 0 ≤ sizeLine; decide, fun D hD => ?_⟩
      have nD : H D = none := by
        cases e : H D with
        | none => rfl
        | some o => rw [same_upd hd _ _ e] at hD; cases hD
      have ndD : d ≠ D := ne_of_none upd_same hD
      refine ⟨_, rfl, c, rfl, ⟨_, SqL.of (same_upd hD _ _ (same_upd hd _ _ hc))⟩, ?_⟩
      refine for_list (xs := ns.map V.int) (fun i σ H2 => ∃ (kvs : List (Key × V)) (x3 : Option V), Same H H2 ∧ H2 d = some (.dK kvs) ∧ DK kvs (dist (ns.take i)) ∧ H2 D = some (.lst ((numsOf (ns.take i)).map V.int)) ∧ σ = [some (.ref c), some (.ref d), some (.ref D), x3]) ⟨[], none, (same_upd hd).trans (same_upd hD), same_upd hD _ _ upd_same, ⟨rfl, fun _ => rfl⟩, upd_same, rfl⟩ (fun i σ H2 _ ⟨_, _, S2, _⟩ => SqL.of (S2 _ _ hc)) ?_ ?_
      · rintro i y σ H2 hy ⟨kvs, x3, S2, hd2, dk, hD2, rfl⟩
        rw [List.getElem?_map] at hy
        obtain ⟨x, hx, rfl⟩ := Option.map_eq_some_iff.mp hy
        have tl := take_oneT hx
        have ed : dist (ns.take (i + 1)) = addD (dist (ns.take i)) x := by rw [tl, dist_snoc]
        have mem : x ∈ dist (ns.take (i + 1)) := by rw [ed]; exact mem_addD.mpr (.inr rfl)
        have ln := nums_len (ns.take i)
        have lt : (ns.take i).length ≤ 1000 := by rw [List.length_take]; omega
        have ld := dist_le (ns.take i)
        have bigs : (2000 : Nat) ≤ sizeLine := by decide
        have en : (numsOf (ns.take i)).map V.int ++ [V.int ((dist (ns.take (i + 1))).idxOf x : Nat)] = (numsOf (ns.take (i + 1))).map V.int := by
          rw [tl, nums_snoc, List.map_append]
          rfl
        refine ⟨_, rfl, _, rfl, d, _, rfl, .inl (DGet.k hd2 (k := .inl x)), _, rfl, ?_⟩
        rw [dk.at_]
        by_cases m : x ∈ dist (ns.take i)
        · rw [if_pos m]
          have dk2 : DK kvs (dist (ns.take (i + 1))) := by
            rw [ed]
            unfold addD
            rw [if_pos m]
            exact dk
          refine iteF ⟨_, rfl, .inl ⟨rfl, _, SqL.of hD2⟩, _, rfl, _, rfl, d, .int ((dist (ns.take (i + 1))).idxOf x : Nat), rfl, .inl (by have q := DGet.k hd2 (k := .inl x); rw [dk2.at_, if_pos mem] at q; exact q), D, _, _, rfl, rfl, hD2, by rw [List.length_map]; omega, kvs, some (.int x), fun e o q => ?_, ?_, dk2, ?_, rfl⟩
          · rw [upd_ne (ne_of_none q nD)]
            exact S2 _ _ q
          · rw [upd_ne ndD]
            exact hd2
          · rw [upd_same, en]
        · rw [if_neg m]
          have nd : H d = none := hd
          have dk2 : DK (putK kvs (.inl x) (.int (kvs.length : Nat))) (dist (ns.take (i + 1))) := by
            rw [ed]
            exact dk.put m
          have hd3 : (upd H2 d (.dK (putK kvs (.inl x) (.int (kvs.length : Nat))))) d = some (.dK (putK kvs (.inl x) (.int (kvs.length : Nat)))) := upd_same
          have hD3 : (upd H2 d (.dK (putK kvs (.inl x) (.int (kvs.length : Nat))))) D = some (.lst ((numsOf (ns.take i)).map V.int)) := by rw [upd_ne ndD.symm]; exact hD2
          refine iteT ⟨_, rfl, d, rfl, .inl ⟨kvs, hd2, _, rfl, _, rfl, d, _, rfl, .inl (DPut.k hd2 (k := .inl x) (by rw [dk.len]; omega)), ?_⟩⟩
          refine ⟨_, rfl, .inl ⟨rfl, _, SqL.of hD3⟩, _, rfl, _, rfl, d, .int ((dist (ns.take (i + 1))).idxOf x : Nat), rfl, .inl (by have q := DGet.k hd3 (k := .inl x); rw [dk2.at_, if_pos mem] at q; exact q), D, _, _, rfl, rfl, hD3, by rw [List.length_map]; omega, _, some (.int x), fun e o q => ?_, ?_, dk2, ?_, rfl⟩
          · rw [upd_ne (ne_of_none q nD), upd_ne (ne_of_none q nd)]
            exact S2 _ _ q
          · rw [upd_ne ndD]
            exact hd3
          · rw [upd_same, en]
      · rintro σ H2 ⟨kvs, x3, S2, hd2, dk, hD2, rfl⟩
        rw [List.length_map, List.take_length] at hD2
        exact ⟨_, rfl, k D H2 nD S2 hD2⟩
    · refine .inr fun d hd => ⟨by show 0 ≤ sizeLine; decide, fun D hD => ?_⟩
      have nD : H D = none := by
        cases e : H D with
        | none => rfl
        | some o => rw [same_upd hd _ _ e] at hD; cases hD
      have ndD : d ≠ D := ne_of_none upd_same hD
      have lk := hk.len
      refine ⟨_, rfl, c, rfl, ⟨_, SqL.of (same_upd hD _ _ (same_upd hd _ _ hc))⟩, ?_⟩
      refine for_list (xs := us) (fun i σ H2 => ∃ (es : List NEnt) (x3 : Option V), Same H H2 ∧ H2 d = some (nO P w d es) ∧ KeysN H2 es ∧ DN es (dist (ks.take i)) ∧ H2 D = some (.lst ((numsOf (ks.take i)).map V.int)) ∧ σ = [some (.ref c), some (.ref d), some (.ref D), x3]) ⟨[], none, (same_upd hd).trans (same_upd hD), same_upd hD _ _ upd_same, dn_empty_keys, ⟨rfl, fun _ => rfl⟩, upd_same, rfl⟩ (fun i σ H2 _ ⟨_, _, S2, _⟩ => SqL.of (S2 _ _ hc)) ?_ ?_
      · rintro i y σ H2 hy ⟨es, x3, S2, hd2, hkeys, dk, hD2, rfl⟩
        obtain ⟨b, x, rfl, hx, hnk⟩ := (hk.of fun _ _ e => S2 _ _ e).at hy
        have tl := take_oneT hx
        have ed : dist (ks.take (i + 1)) = addD (dist (ks.take i)) x := by rw [tl, dist_snoc]
        have mem : x ∈ dist (ks.take (i + 1)) := by rw [ed]; exact mem_addD.mpr (.inr rfl)
        have ln := nums_len (ks.take i)
        have lt : (ks.take i).length ≤ 1000 := by rw [List.length_take]; omega
        have ld := dist_le (ks.take i)
        have bigs : (2000 : Nat) ≤ sizeLine := by decide
        have en : (numsOf (ks.take i)).map V.int ++ [V.int (ix (dist (ks.take (i + 1))) x : Nat)] = (numsOf (ks.take (i + 1))).map V.int := by
          rw [tl, nums_snoc, List.map_append]
          rfl
        refine ⟨_, rfl, _, rfl, d, _, rfl, .inr ⟨es, x, b, hd2, hkeys, rfl, hnk, rfl⟩, _, rfl, ?_⟩
        rw [dk.at_]
        by_cases m : x ∈ dist (ks.take i)
        · rw [if_pos m]
          have dk2 : DN es (dist (ks.take (i + 1))) := by
            rw [ed]
            unfold addD
            rw [if_pos m]
            exact dk
          have kT : ∀ e xs, H2 e = some (.tup xs) → upd H2 D (.lst ((numsOf (ks.take i)).map V.int ++ [V.int (ix (dist (ks.take (i + 1))) x : Nat)])) e = some (.tup xs) := fun e xs q => by
            rw [upd_ne (ne_of q hD2 (by intro z; cases z))]
            exact q
          refine iteF ⟨_, rfl, .inl ⟨rfl, _, SqL.of hD2⟩, _, rfl, _, rfl, d, .int (ix (dist (ks.take (i + 1))) x : Nat), rfl, .inr ⟨es, x, b, hd2, hkeys, rfl, hnk, by rw [dk2.at_, if_pos mem]; rfl⟩, D, _, _, rfl, rfl, hD2, by rw [List.length_map]; omega, es, some (.ref b), fun e o q => ?_, ?_, fun z hz => NkAt.of kT (hkeys z hz), dk2, ?_, rfl⟩
          · rw [upd_ne (ne_of_none q nD)]
            exact S2 _ _ q
          · rw [upd_ne ndD]
            exact hd2
          · rw [upd_same, en]
        · rw [if_neg m]
          have nd : H d = none := hd
          have hn : nVal es x = none := by rw [dk.at_, if_neg m]
          have dk2 : DN (es ++ [(x, b, (es.length : Int))]) (dist (ks.take (i + 1))) := by
            rw [ed]
            exact dk.put m b
          have kT1 : ∀ e xs, H2 e = some (.tup xs) → upd H2 d (nO P w d (es ++ [(x, b, (es.length : Int))])) e = some (.tup xs) := fun e xs q => by
            rw [upd_ne (ne_of q hd2 (by intro z; cases z))]
            exact q
          have hd3 : (upd H2 d (nO P w d (es ++ [(x, b, (es.length : Int))]))) d = some (nO P w d (es ++ [(x, b, (es.length : Int))])) := upd_same
          have hD3 : (upd H2 d (nO P w d (es ++ [(x, b, (es.length : Int))]))) D = some (.lst ((numsOf (ks.take i)).map V.int)) := by rw [upd_ne ndD.symm]; exact hD2
          have hkeys3 : KeysN (upd H2 d (nO P w d (es ++ [(x, b, (es.length : Int))]))) (es ++ [(x, b, (es.length : Int))]) := fun z hz => by
            rcases List.mem_append.mp hz with q | q
            · exact NkAt.of kT1 (hkeys z q)
            · rw [List.mem_singleton.mp q]
              exact NkAt.of kT1 hnk
          have hnk3 := NkAt.of kT1 hnk
          refine iteT ⟨_, rfl, d, rfl, .inr ⟨es, hd2, hkeys, _, rfl, _, rfl, d, upd H2 d (nO P w d (es ++ [(x, b, (es.length : Int))])), rfl, .inr ⟨es, x, b, (es.length : Int), hd2, hkeys, rfl, hnk, hn, by rw [dk.len]; omega, rfl, rfl⟩, ?_⟩⟩
          have S3 : Same H (upd H2 d (nO P w d (es ++ [(x, b, (es.length : Int))]))) := fun e o q => by
            rw [upd_ne (ne_of_none q nd)]
            exact S2 _ _ q
          generalize upd H2 d (nO P w d (es ++ [(x, b, (es.length : Int))])) = H3 at *
          have kT : ∀ e xs, H3 e = some (.tup xs) → upd H3 D (.lst ((numsOf (ks.take i)).map V.int ++ [V.int (ix (dist (ks.take (i + 1))) x : Nat)])) e = some (.tup xs) := fun e xs q => by
            rw [upd_ne (ne_of q hD3 (by intro z; cases z))]
            exact q
          refine ⟨_, rfl, .inl ⟨rfl, _, SqL.of hD3⟩, _, rfl, _, rfl, d, .int (ix (dist (ks.take (i + 1))) x : Nat), rfl, .inr ⟨_, x, b, hd3, hkeys3, rfl, hnk3, by rw [dk2.at_, if_pos mem]; rfl⟩, D, _, _, rfl, rfl, hD3, by rw [List.length_map]; omega, _, some (.ref b), fun e o q => ?_, ?_, fun z hz => NkAt.of kT (hkeys3 z hz), dk2, ?_, rfl⟩
          · rw [upd_ne (ne_of_none q nD)]
            exact S3 _ _ q
          · rw [upd_ne ndD]
            exact hd3
          · rw [upd_same, en]
      · rintro σ H2 ⟨es, x3, S2, hd2, hkeys, dk, hD2, rfl⟩
        rw [hk.len, List.take_length] at hD2
        exact ⟨_, rfl, k D H2 nD S2 hD2⟩

/-! ### the numbers tell the things apart -/
section
variable {α : Type} [DecidableEq α]
theorem ix_at {R : List α} {x : α} (h : x ∈ R) : R[ix R x]? = some x := by
  unfold ix
  have l := List.idxOf_lt_length_of_mem h
  rw [List.getElem?_eq_getElem l, List.getElem_idxOf]
theorem ix_inj {R : List α} {x y : α} (hx : x ∈ R) (hy : y ∈ R) (e : ix R x = ix R y) : x = y := by
  have h := ix_at hx
  rw [e, ix_at hy] at h
  exact (Option.some.inj h).symm
theorem ix_addD {R : List α} {x y : α} (h : x ∈ R) : ix (addD R y) x = ix R x := addD_idx h
theorem ix_fold {x : α} : ∀ (l R : List α), x ∈ R → ix (l.foldl addD R) x = ix R x
  | [], _, _ => rfl
  | y :: l, R, h => by
    show ix (l.foldl addD (addD R y)) x = ix R x
    rw [ix_fold l _ (mem_addD.mpr (.inl h)), ix_addD h]
theorem mem_fold {x : α} : ∀ (l R : List α), x ∈ l.foldl addD R ↔ x ∈ R ∨ x ∈ l
  | [], _ => by simp
  | y :: l, R => by
    show x ∈ l.foldl addD (addD R y) ↔ _
    rw [mem_fold l, mem_addD, List.mem_cons, or_assoc]
theorem mem_dist {x : α} {l : List α} : x ∈ dist l ↔ x ∈ l := by
  unfold dist
  rw [mem_fold]
  simp
theorem numsL_at : ∀ (l R : List α) (i : Nat) (x : α), l[i]? = some x → (numsL R l)[i]? = some (ix (l.foldl addD R) x : Int)
  | [], _, i, x, h => by cases h
  | y :: l, R, 0, x, h => by
    cases h
    show some ((ix (addD R y) y : Nat) : Int) = some (ix (l.foldl addD (addD R y)) y : Int)
    rw [ix_fold l _ (mem_addD.mpr (.inr rfl))]
  | y :: l, R, i + 1, x, h => numsL_at l (addD R y) i x h
theorem nums_at {l : List α} {i : Nat} {x : α} (h : l[i]? = some x) : (numsOf l)[i]? = some (ix (dist l) x : Int) := numsL_at l [] i x h
/-- equal numbers, equal things -/
theorem nums_same {l : List α} {i j : Nat} {x y : α} (hx : l[i]? = some x) (hy : l[j]? = some y) : (numsOf l)[i]? = (numsOf l)[j]? ↔ x = y := by
  rw [nums_at hx, nums_at hy]
  constructor
  · intro e
    exact ix_inj (mem_dist.mpr (List.mem_of_getElem? hx)) (mem_dist.mpr (List.mem_of_getElem? hy)) (by have := Option.some.inj e; omega)
  · intro e
    rw [e]
end
section
variable {α β : Type} [DecidableEq α] [DecidableEq β]
theorem ix_map (f : α → β) {x : α} : ∀ R : List α, (∀ z ∈ R, f z = f x → z = x) → ix (R.map f) (f x) = ix R x
  | [], _ => rfl
  | y :: R, h => by
    have ih := ix_map f R fun z hz => h z (List.mem_cons_of_mem _ hz)
    unfold ix at *
    rw [List.map_cons, List.idxOf_cons, List.idxOf_cons, ih]
    by_cases e : y = x
    · rw [e]
      simp
    · have e2 : ¬ f y = f x := fun q => e (h y List.mem_cons_self q)
      rw [show (f y == f x) = false from beq_eq_false_iff_ne.mpr e2, show (y == x) = false from beq_eq_false_iff_ne.mpr e]
/-- what is alike in the same places is numbered alike -/
theorem numsL_alike (f : α → β) : ∀ (l R : List α), (∀ x ∈ R ++ l, ∀ y ∈ R ++ l, f x = f y → x = y) → numsL (R.map f) (l.map f) = numsL R l
  | [], _, _ => rfl
  | x :: l, R, h => by
    have hm : ∀ {z : α}, z ∈ R ++ x :: l → (f z ∈ R.map f ↔ z ∈ R) := fun {z} hz => by
      rw [List.mem_map]
      constructor
      · rintro ⟨w, hw, e⟩
        rw [← h w (List.mem_append_left _ hw) z hz e]
        exact hw
      · exact fun q => ⟨z, q, rfl⟩
    have hx : x ∈ R ++ x :: l := List.mem_append_right _ List.mem_cons_self
    have e1 : addD (R.map f) (f x) = (addD R x).map f := by
      unfold addD
      by_cases m : x ∈ R
      · rw [if_pos m, if_pos ((hm hx).mpr m)]
      · rw [if_neg m, if_neg (fun q => m ((hm hx).mp q)), List.map_append]
        rfl
    have sub : ∀ z ∈ addD R x ++ l, z ∈ R ++ x :: l := fun z hz => by
      rcases List.mem_append.mp hz with q | q
      · rcases mem_addD.mp q with q | q
        · exact List.mem_append_left _ q
        · rw [q]; exact hx
      · exact List.mem_append_right _ (List.mem_cons_of_mem _ q)
    have ih := numsL_alike f l (addD R x) fun z hz y hy => h z (sub z hz) y (sub y hy)
    have e2 : ix ((addD R x).map f) (f x) = ix (addD R x) x := by
      exact ix_map f _ fun z hz e => h z (sub z (List.mem_append_left _ hz)) x hx e
    show ((ix (addD (R.map f) (f x)) (f x) : Nat) : Int) :: numsL (addD (R.map f) (f x)) (l.map f) = ((ix (addD R x) x : Nat) : Int) :: numsL (addD R x) l
    rw [e1, e2, ih]
end
/-- things that are alike at the same places have the same numbers -/
theorem nums_alike {α β : Type} [DecidableEq α] [DecidableEq β] (f : α → β) {l : List α} (h : ∀ x ∈ l, ∀ y ∈ l, f x = f y → x = y) : numsOf (l.map f) = numsOf l :=
  numsL_alike f l [] fun x hx y hy => h x (by simpa using hx) y (by simpa using hy)

/-! ### classes of states, made finer -/
theorem dist_nodup {α : Type} [DecidableEq α] (l : List α) : (dist l).Nodup := by
  have key : ∀ (l R : List α), R.Nodup → (l.foldl addD R).Nodup := by
    intro l
    induction l with
    | nil => exact fun _ h => h
    | cons x l ih => exact fun R h => ih _ (addD_nodup h x)
  exact key l [] List.nodup_nil
def keyOf (S : List (List Int)) (found : List Int) (i : Nat) : NKey := (found.getD i 0, (S.getD i []).map fun j => found.getD j.toNat 0)
def keysOf (S : List (List Int)) (found : List Int) : List NKey := (List.range S.length).map (keyOf S found)
def partS (S : List (List Int)) (told : List Int) : Nat → List Int
  | 0 => numsOf told
  | t + 1 => numsOf (keysOf S (partS S told t))
theorem keys_len (S : List (List Int)) (found : List Int) : (keysOf S found).length = S.length := by
  unfold keysOf
  rw [List.length_map, List.length_range]
theorem part_len {S : List (List Int)} {told : List Int} (h : told.length = S.length) : ∀ t, (partS S told t).length = S.length
  | 0 => (nums_len told).trans h
  | t + 1 => (nums_len _).trans (keys_len S _)
theorem keys_fst {S : List (List Int)} {found : List Int} (h : found.length = S.length) : (keysOf S found).map (·.1) = found := by
  unfold keysOf
  rw [List.map_map]
  refine List.ext_getElem (by rw [List.length_map, List.length_range, h]) fun i h1 h2 => ?_
  rw [List.getElem_map, List.getElem_range]
  show found.getD i 0 = found[i]
  rw [List.getD_eq_getElem?_getD, List.getElem?_eq_getElem h2]
  rfl
/-- numbers of things: once more numbered they stay -/
theorem nums_map {α : Type} [DecidableEq α] (l : List α) : numsOf l = l.map fun x => (ix (dist l) x : Int) := by
  refine List.ext_getElem? fun i => ?_
  rw [List.getElem?_map]
  cases e : l[i]? with
  | none =>
    rw [List.getElem?_eq_none_iff] at e
    rw [List.getElem?_eq_none_iff.mpr (by rw [nums_len]; exact e)]
    rfl
  | some x => rw [nums_at e]; rfl
theorem nums_twice {α : Type} [DecidableEq α] (l : List α) : numsOf (numsOf l) = numsOf l := by
  have h := nums_alike (fun x => (ix (dist l) x : Int)) (l := l) fun x hx y hy e => ix_inj (mem_dist.mpr hx) (mem_dist.mpr hy) (by omega)
  rw [← nums_map] at h
  exact h
theorem part_twice (S : List (List Int)) (told : List Int) : ∀ t, numsOf (partS S told t) = partS S told t
  | 0 => nums_twice told
  | _ + 1 => nums_twice _
theorem nums_dist {α : Type} [DecidableEq α] (l : List α) : (dist (numsOf l)).length = (dist l).length := by
  refine Nat.le_antisymm ?_ ?_
  · have := pigL ((dist l).map fun x => (ix (dist l) x : Int)) (dist (numsOf l)) (dist_nodup _) fun q hq => by
      have hq := mem_dist.mp hq
      rw [nums_map] at hq
      obtain ⟨x, hx, rfl⟩ := List.mem_map.mp hq
      exact List.mem_map.mpr ⟨x, mem_dist.mpr hx, rfl⟩
    rwa [List.length_map] at this
  · have := pigL (dist (numsOf l)) ((dist l).map fun x => (ix (dist l) x : Int)) (List.pairwise_map.mpr (List.Pairwise.imp_of_mem (fun {x y} hx hy z q => z (ix_inj hx hy (by omega))) (dist_nodup l))) fun q hq => by
      obtain ⟨x, hx, rfl⟩ := List.mem_map.mp hq
      refine mem_dist.mpr ?_
      rw [nums_map]
      exact List.mem_map.mpr ⟨x, mem_dist.mp hx, rfl⟩
    rwa [List.length_map] at this
/-- a round makes more classes, or it changes nothing -/
theorem part_grows {S : List (List Int)} {told : List Int} (h : told.length = S.length) {t : Nat} (ne : partS S told (t + 1) ≠ partS S told t) : (dist (partS S told t)).length < (dist (partS S told (t + 1))).length := by
  have hl := part_len h t
  have hf := keys_fst (S := S) hl
  generalize hP : partS S told t = found at *
  have ep : partS S told (t + 1) = numsOf (keysOf S found) := by
    show numsOf (keysOf S (partS S told t)) = _
    rw [hP]
  have tw : numsOf found = found := by rw [← hP]; exact part_twice S told t
  rw [ep] at ne ⊢
  rw [nums_dist]
  have two : ∃ x ∈ keysOf S found, ∃ y ∈ keysOf S found, x.1 = y.1 ∧ x ≠ y := by
    refine Classical.byContradiction fun c => ne ?_
    have := nums_alike (fun k : NKey => k.1) (l := keysOf S found) fun x hx y hy e => Classical.byContradiction fun z => c ⟨x, hx, y, hy, e, z⟩
    rw [hf, tw] at this
    exact this.symm
  obtain ⟨x, hx, y, hy, e, z⟩ := two
  have b := pigL (((dist (keysOf S found)).erase y).map fun k : NKey => k.1) (dist found) (dist_nodup _) fun q hq => by
    have hq := mem_dist.mp hq
    rw [← hf] at hq
    obtain ⟨k, hk, rfl⟩ := List.mem_map.mp hq
    by_cases g : k = y
    · refine List.mem_map.mpr ⟨x, (List.mem_erase_of_ne z).mpr (mem_dist.mpr hx), ?_⟩
      rw [g]
      exact e
    · exact List.mem_map.mpr ⟨k, (List.mem_erase_of_ne g).mpr (mem_dist.mpr hk), rfl⟩
  rw [List.length_map, List.length_erase_of_mem (mem_dist.mpr hy)] at b
  have p : 0 < (dist (keysOf S found)).length := List.length_pos_of_mem (mem_dist.mpr hy)
  omega

end
end Rt
namespace L2
open PySem PySem.Spec PyProof.Rows
theorem call_tuple_ofK {X : Cx} {K : PySem.W.Frag} (e : X.K = K) : CallR X (.type "tuple") (fun xs H Q => ∃ p ys, xs = [.ref p] ∧ ((SqL K H p ys ∧ ∀ l, H l = none → Q (.ref l) (upd H l (.tup ys))) ∨ (SqT K H p ys ∧ Q (.ref p) H))) := by
  subst e
  exact call_tuple_of
theorem pi_listK {X : Cx} {K : PySem.W.Frag} {tg l : Expr} {tl : TE} (hK : X.K = K) (hl : PE X l tl) : PI X tg l (iList K tl) := by
  subst hK
  exact pi_list hl
end L2
namespace Rt
open PySem L2 PySem.Spec PyProof.Rows
section
variable {P : Program} {w : World} {K : PySem.W.Frag} {mg : Str → Option Value} {base : Heap}
/-! ### classes -/
theorem MachAt.rowC {H : Hp} {q : Addr} {told : List Int} {S : List (List Int)} (h : MachAt H q told S) : ∃ (x y : Addr) (rs : List Addr), H q = some (.tup [.ref x, .ref y]) ∧ H x = some (.lst (told.map V.int)) ∧ H y = some (.lst (rs.map V.ref)) ∧ rs.length = S.length ∧
    ∀ (i : Nat) (row : List Int), S[i]? = some row → ∃ r, (rs.map V.ref)[i]? = some (.ref r) ∧ H r = some (.lst (row.map V.int)) := by
  obtain ⟨x, y, rs, h1, h2, h3, h4, h5⟩ := h
  refine ⟨x, y, rs, h1, h2, h3, h4, fun i row hi => ?_⟩
  have li : i < rs.length := by rw [h4]; exact (List.getElem?_eq_some_iff.mp hi).1
  exact ⟨rs[i], by rw [List.getElem?_map, List.getElem?_eq_getElem li]; rfl, h5 _ _ _ (List.getElem?_eq_getElem li) hi⟩
theorem KeyRefs.snoc {H : Hp} {b : Addr} {k : NKey} (hb : NkAt H b k) : ∀ {vs : List V} {ks : List NKey}, KeyRefs H vs ks → KeyRefs H (vs ++ [.ref b]) (ks ++ [k])
  | [], [], _ => ⟨⟨b, rfl, hb⟩, trivial⟩
  | _ :: _, _ :: _, ⟨h1, h3⟩ => ⟨h1, h3.snoc hb⟩
  | [], _ :: _, h => h.elim
  | _ :: _, [], h => h.elim
theorem fold_map {α β : Type} [DecidableEq α] [DecidableEq β] {f : α → β} (hf : ∀ a b, f a = f b → a = b) : ∀ l R : List α, (l.map f).foldl addD (R.map f) = (l.foldl addD R).map f
  | [], _ => rfl
  | x :: l, R => by
    have e : addD (R.map f) (f x) = (addD R x).map f := by
      unfold addD
      by_cases m : x ∈ R
      · rw [if_pos m, if_pos (List.mem_map_of_mem m)]
      · rw [if_neg m, if_neg (fun q => by
          obtain ⟨z, hz, e⟩ := List.mem_map.mp q
          exact m (hf _ _ e ▸ hz)), List.map_append]
        rfl
    show (l.map f).foldl addD (addD (R.map f) (f x)) = _
    rw [e, fold_map hf l]
    rfl
theorem dist_int (l : List Int) : (dist (l.map V.int)).length = (dist l).length := by
  have := fold_map (f := V.int) (fun a b e => by injection e) l []
  show ((l.map V.int).foldl addD ([].map V.int)).length = _
  rw [this, List.length_map]
  rfl
def spClasses (K : PySem.W.Frag) : Sp := fun vs H Q _ => ∃ (q : Addr) (told : List Int) (S : List (List Int)), vs = [.ref q] ∧ MachAt H q told S ∧ (∀ row ∈ S, row.length ≤ 16 ∧ ∀ j ∈ row, 0 ≤ j ∧ j < (S.length : Int)) ∧ told.length = S.length ∧ S.length ≤ 400 ∧
  ∀ (t : Nat) (D : Addr) (H' : Hp), partS S told (t + 1) = partS S told t → Same H H' → H' D = some (.lst ((partS S told t).map V.int)) → Q (.ref D) H'
theorem ok_classes (T : Tx P K mg) : FnOk P w K mg base CX0 lv_classes T.a_classes T.d_classes ["machine"] (spClasses K) := by
  refine T.F_classes.ok sc_classes (fun vs H Q E h => ?_) (fun cdv A outer s H vs Q E hr h => ?_)
  · obtain ⟨q, told, S, rfl, _⟩ := h
    rfl
  · obtain ⟨q, told, S, rfl, m, g, tl, sl, k⟩ := h
    obtain ⟨x, y, rs, m1, m2, m3, rl, m4⟩ := m.rowC
    refine ⟨_, (pss_cons (ps_asg (pv 0) (pg_tup rfl (pgs_cons (pg_name (i := 1) sc_classes.nd rfl (Or.inl rfl)) (pgs_cons (pg_name (i := 2) sc_classes.nd rfl (Or.inl rfl)) pgs_nil))))
      (pss_cons (ps_set (i := 3) sc_classes.nd rfl (Or.inr rfl) (pe_call (ok_numbered T) (hr.mono (by decide)) rfl T.g_numbered T.F_numbered.kp T.b_numbered .nil pass0 (pa_cons (pv 1) pa_nil)))
      (pss_one (ps_while PassesOwn.never (pt_val pe_bl) (pss_cons (ps_set (i := 4) sc_classes.nd rfl (Or.inl rfl) (pe_call (ok_numbered T) (hr.mono (by decide)) rfl T.g_numbered T.F_numbered.kp T.b_numbered .nil pass0 (pa_cons (pe_lc (own := [("state", 5), ("row", 6)]) (tt := tYes) (g := gTup K 2 (gCons (gName 5) (gCons (gName 6) gNil))) rfl sc_classes.nd (pi_enum (by rfl) T.n_enumerate (pa_cons (pv 2) pa_nil)) (blkOk_by (own := [("state", 5), ("row", 6)]) (N := ["machine", "told", "steps", "found", "finer", "state", "row", "later"]) (sc := defScope s_classes) (by decide +kernel)) (fun _ _ _ _ _ => pg_tup rfl (pgs_cons (pg_name (i := 5) sc_classes.nd rfl (Or.inl rfl)) (pgs_cons (pg_name (i := 6) sc_classes.nd rfl (Or.inl rfl)) pgs_nil))) (fun _ _ _ _ _ => pts_nil) (fun _ _ _ _ _ => (pe_tup (pa_cons (pe_ix (ix_lK (K := K) rfl) (pv 3) (pv 5) (fun _ _ => rfl)) (pa_cons (pe_callTy (call_tuple_ofK (K := K) rfl) (by rfl) T.n_tuple (by decide +kernel) (pa_cons (pe_lc (own := [("later", 7)]) (g := gName 7) (tt := tYes) rfl sc_classes.nd (pi_listK (K := K) rfl (pv 6)) (blkIn (own := [("later", 7)]) (N := ["machine", "told", "steps", "found", "finer", "state", "row", "later"]) (by decide +kernel)) (fun _ _ _ _ _ => pg_name (i := 7) sc_classes.nd rfl (Or.inl rfl)) (fun _ _ _ _ _ => pts_nil) (fun _ _ _ _ _ => (pe_ix (ix_lK (K := K) rfl) (pv 3) (pv 7) (fun _ _ => rfl)))) pa_nil)) pa_nil))))) pa_nil)))
      (pss_cons (ps_if (pt_cmpR (op_eqD hr.units) (pv 4) (pv 3) (nomark _)) (pss_one (ps_ret (pv 3))) pss_nil)
      (pss_one (ps_set (i := 3) sc_classes.nd rfl (Or.inr rfl) (pv 4))))))))), ?_⟩
    refine ⟨_, rfl, q, _, rfl, SqT.of m1, rfl, _, _, rfl, _, _, rfl, rfl, ?_⟩
    refine ⟨_, rfl, x, rfl, .inl ⟨told, m2, by omega, fun F H1 nF S1 hF => ?_⟩⟩
    dsimp only [gName, tSeq]
    refine while_by (fun σ H2 => ∃ (t : Nat) (F : Addr) (x4 x5 x6 x7 : Option V), Same H H2 ∧ H2 F = some (.lst ((partS S told t).map V.int)) ∧ σ = [some (.ref q), some (.ref x), some (.ref y), some (.ref F), x4, x5, x6, x7])
      (fun (σ : L2.St) (H2 : Hp) => match (σ[3]? : Option (Option V)) with | some (some (V.ref a2)) => (match H2 a2 with | some (.lst xs) => 401 - (dist xs).length | _ => 0) | _ => 0) ?_ ?_ ?_
    · exact ⟨0, F, none, none, none, none, S1, hF, rfl⟩
    · rintro σ H2 ⟨t, F, x4, x5, x6, x7, S2, hF2, rfl⟩
      refine ⟨true, rfl, iteT ?_⟩
      refine ⟨_, rfl, y, _, rfl, SqL.of (S2 _ _ m3), fun L hL => ?_⟩
      refine lc_it walk_enum (fun i H3 => Same H2 H3 ∧ ∃ us, H3 L = some (.lst us) ∧ KeyRefs H3 us ((keysOf S (partS S told t)).take i)) ⟨same_upd hL, [], upd_same, trivial⟩ (fun i H3 _ ⟨S3, _⟩ => SqL.of (S3 _ _ (S2 _ _ m3))) ?_ ?_
      · rintro i xx H3 H4 hi ⟨S3, us, hL3, hk⟩ yy
        obtain ⟨Tt, x5', x6', rfl, nT, rfl, ex, ey⟩ := yy
        cases (show some (V.int (i : Nat)) = some x5' from ex)
        have ey : (rs.map V.ref)[i]? = some x6' := ey
        rw [List.length_map, rl] at hi
        have hrow : S[i]? = some S[i] := List.getElem?_eq_getElem hi
        obtain ⟨r, hr1, hr2⟩ := m4 i _ hrow
        rw [hr1] at ey
        cases ey
        have S4 := same_upd (o := .tup [.int (i : Nat), .ref r]) nT
        refine ⟨Tt, _, rfl, SqT.of upd_same, rfl, _, _, rfl, _, _, rfl, rfl, rfl, ?_⟩
        have hl := part_len tl t
        generalize hfd : partS S told t = found at *
        have at_ : ∀ n : Nat, n < S.length → atI (found.map V.int) (n : Int) = some (.int (found.getD n 0)) := fun n h => atI_nat (xs := found.map V.int) (j := n) (v := .int (found.getD n 0)) (by rw [List.getElem?_map, List.getD_eq_getElem?_getD, List.getElem?_eq_getElem (by omega)]; rfl)
        have hF4 := S4 _ _ (S3 _ _ hF2)
        have hr4 := S4 _ _ (S3 _ _ (S2 _ _ hr2))
        have hL4 := S4 _ _ hL3
        have dom := (g _ (List.getElem_mem hi)).2
        have rl16 := (g _ (List.getElem_mem hi)).1
        have ul := hk.len
        rw [List.length_take, keys_len] at ul
        have bigs : (2000 : Nat) ≤ sizeLine := by decide
        refine ⟨_, rfl, _, rfl, F, _, _, _, rfl, rfl, SqL.of hF4, at_ i hi, ?_⟩
        have hkk : (keysOf S found)[i]? = some (keyOf S found i) := by
          unfold keysOf
          rw [List.getElem?_map, List.getElem?_range hi]
          rfl
        have eS : S.getD i [] = S[i] := by rw [List.getD_eq_getElem?_getD, hrow]; rfl
        have hrow2 : keyOf S found i = (found.getD i 0, S[i].map fun z => found.getD z.toNat 0) := by unfold keyOf; rw [eS]
        generalize S[i] = row at *
        generalize upd H3 Tt (.tup [.int (i : Nat), .ref r]) = H5 at *
        refine ⟨_, rfl, r, rfl, ⟨_, SqL.of hr4⟩, fun D2 hD2 => ?_⟩
        refine lc_it walk_list (fun j H6 => Same H5 H6 ∧ H6 D2 = some (.lst (((row.take j).map fun z => found.getD z.toNat 0).map V.int))) ⟨same_upd hD2, upd_same⟩ (fun j H6 _ ⟨S6, _⟩ => SqL.of (S6 _ _ hr4)) ?_ ?_
        · rintro j z H6 H7 hj ⟨S6, hD6⟩ ⟨rfl, hz⟩
          rw [List.getElem?_map] at hz
          obtain ⟨v, hv, rfl⟩ := Option.map_eq_some_iff.mp hz
          obtain ⟨v0, v1⟩ := dom v (List.mem_of_getElem? hv)
          have av := at_ v.toNat (by omega)
          rw [Int.toNat_of_nonneg v0] at av
          refine ⟨rfl, _, rfl, _, rfl, F, _, _, _, rfl, rfl, SqL.of (S6 _ _ hF4), av, _, hD6, by rw [List.length_map, List.length_map, List.length_take]; omega, fun e o q => ?_, ?_⟩
          · rw [upd_ne (ne_of_none q hD2)]
            exact S6 _ _ q
          · rw [upd_same, take_oneT hv, List.map_append, List.map_append]
            rfl
        · rintro H6 ⟨S6, hD6⟩
          rw [List.length_map, List.take_length] at hD6
          refine ⟨D2, _, rfl, .inl ⟨SqL.of hD6, fun tp htp => ⟨by show 2 ≤ sizeLine; decide, fun kp hkp => ?_⟩⟩⟩
          have S7 := S6.trans (same_upd (o := .tup ((row.map fun z => found.getD z.toNat 0).map V.int)) htp)
          have S8 := S7.trans (same_upd (o := .tup [.int (found.getD i 0), .ref tp]) hkp)
          have hL8 := S8 _ _ hL4
          have nLn : H2 L = none := hL
          have h1 := same_upd (o := .tup [.int (found.getD i 0), .ref tp]) hkp _ _ (upd_same (H := H6) (a := tp) (o := .tup ((row.map fun z => found.getD z.toNat 0).map V.int)))
          have h2 := upd_same (H := upd H6 tp (.tup ((row.map fun z => found.getD z.toNat 0).map V.int))) (a := kp) (o := .tup [.int (found.getD i 0), .ref tp])
          generalize upd (upd H6 tp (.tup ((row.map fun z => found.getD z.toNat 0).map V.int))) kp (.tup [.int (found.getD i 0), .ref tp]) = H9 at *
          have kT : ∀ e xs, H9 e = some (.tup xs) → upd H9 L (.lst (us ++ [.ref kp])) e = some (.tup xs) := fun e xs q => by
            rw [upd_ne (ne_of q hL8 (by intro z; cases z))]
            exact q
          refine ⟨us, hL8, by omega, fun e o q => ?_, _, upd_same, ?_⟩
          · rw [upd_ne (ne_of_none q nLn)]
            exact S8 _ _ (S4 _ _ (S3 _ _ q))
          · rw [take_oneT hkk]
            refine (hk.of fun _ _ q => kT _ _ (S8 _ _ (S4 _ _ q))).snoc ?_
            rw [hrow2]
            exact ⟨tp, kT _ _ h2, kT _ _ h1⟩
      · rintro H3 ⟨S3, us, hL3, hk⟩
        have kl := keys_len S (partS S told t)
        rw [List.length_map, rl, ← kl, List.take_length] at hk
        have hul := hk.len
        refine ⟨L, rfl, .inr ⟨us, _, hL3, hk, by omega, fun G H4 nG S4 hG => ?_⟩⟩
        have hF4 := S4 _ _ (S3 _ _ hF2)
        refine ⟨_, rfl, _, rfl, _, _, dp_ints (SqL.of hG), dp_ints (SqL.of hF4), shaped_lints _, shaped_lints _, _, rfl, ?_⟩
        rw [eqv_ints]
        have St := (S2.trans S3).trans S4
        refine ite2 (fun e => ?_) (fun e => ?_)
        · exact ⟨_, rfl, k t F H4 (of_decide_eq_true e) St hF4⟩
        · have ne : partS S told (t + 1) ≠ partS S told t := fun z => e (decide_eq_true z)
          have gr := part_grows tl ne
          refine ⟨_, rfl, ⟨t + 1, G, _, _, _, _, St, hG, rfl⟩, ?_⟩
          show (match H4 G with | some (.lst xs) => 401 - (dist xs).length | _ => 0) < (match H2 F with | some (.lst xs) => 401 - (dist xs).length | _ => 0)
          have hG2 : H4 G = some (.lst ((partS S told (t + 1)).map V.int)) := hG
          rw [hG2, hF2]
          show 401 - (dist ((partS S told (t + 1)).map V.int)).length < 401 - (dist ((partS S told t).map V.int)).length
          rw [dist_int, dist_int]
          have b1 := dist_le (partS S told (t + 1))
          have b2 := part_len tl (t + 1)
          omega
    · exact fun σ H Q Q' h ⟨b, e, q⟩ => ⟨b, e, h _ _ q⟩

/-! ### max of a tuple of numbers -/
end
end Rt
namespace L2
open PySem PySem.Spec PyProof.Rows
section
variable {prog : Program} {w : World} {A : Around} {E : Value → Shared → Prop} {s : Shared} {l : Addr} {its : List Value} {ns : List Int} {Q : Value → Shared → Prop}
theorem max_rawT (hh : A.handled = none) (hl : s.heap.IsTuple l its.toArray) (hi : IntsAre its ns) (hne : 0 < ns.length)
    (h : ∀ h' tk M t', (∀ b o, s.heap.get? b = some o → h'.get? b = some o) → M ∈ ns → (∀ a, a ∈ ns → a ≤ M) → Q (.int M t') { s with heap := h', toks := tk }) : wpAny (model prog w) A (call (.builtin "max") [.ref l]) Q E s := by
  obtain ⟨xs, e⟩ := hi.allInts.items
  have hn : numsOf (intItems xs).toList = ns := by rw [← e]; exact hi.numsOf
  rw [nums_intItems] at hn
  subst hn
  rw [e] at hl
  have hsz : 0 < xs.size := by simpa using hne
  have hlt : l < s.heap.objs.size := by obtain ⟨_, e, _⟩ := hl; exact Heap.lt_size e
  refine call_max_walk (wpAny_pyIter_tuple hl ?_)
  refine ⟨_, _, _, _, _, _, _, rfl, Walks.tuple (A := A.in1) hh _ l (Nat.ne_of_lt hlt) (intItems xs), ⟨⟨_, Heap.get?_push_size _ rfl, rfl, rfl⟩, hl.push _⟩, (fun b hb => ?_), by simpa [intItems] using hsz, CmpOf.ints_gt (numAt xs) (fun _ _ => intItems_at), fun v h' tk hv hk => ?_⟩
  · show b < (s.heap.push _).objs.size
    rw [Heap.size_push]
    rcases List.mem_cons.mp hb with rfl | hb
    · exact Nat.lt_succ_self _
    · rcases List.mem_cons.mp hb with rfl | hb
      · exact Nat.lt_succ_of_lt hlt
      · cases hb
  · have hv : (intItems xs)[argBest (fun i j => decide (numAt xs i > numAt xs j)) (xs.size - 1)]? = some v := by simpa [intItems] using hv
    obtain ⟨t, rfl⟩ := intItems_at hv
    obtain ⟨h1, h2⟩ := argBest_gt (numAt xs) (xs.size - 1)
    refine h h' tk _ t (fun b o e => ?_) ?_ fun a ha => ?_
    · refine hk b o (fun hm => ?_) (Heap.get?_push_of_some _ e)
      rcases List.mem_cons.mp hm with e1 | hm
      · exact absurd (e1 ▸ Heap.lt_size e) (Nat.lt_irrefl _)
      · cases hm
    · rw [numAt_eq]; exact PySem.getD_mem (by rw [List.length_map, Array.length_toList]; omega)
    · obtain ⟨j, hj, rfl⟩ := mem_getD ha
      rw [List.length_map, Array.length_toList] at hj
      rw [← numAt_eq]; exact h2 j (by omega)
end
section
variable {X : Cx}
def rMaxT (K : PySem.W.Frag) : List V → Hp → VK → Prop := fun vs H Q => ∃ (a : Addr) (ns : List Int), vs = [V.ref a] ∧ SqT K H a (ns.map V.int) ∧ 0 < ns.length ∧ ∀ m, m ∈ ns → (∀ y, y ∈ ns → y ≤ m) → Q (.int m) H
theorem cr_maxT (hc : X.calm = true) : CallR X (.builtin "max") (rMaxT X.K) := by
  intro pins s σ H vs us Q I r h
  obtain ⟨a, ns, rfl, hs, hne, q⟩ := h
  obtain ⟨its, rv, hl, _⟩ := I.tuple hs
  rw [Vals.ref1 r]
  exact max_rawT (I.ok.hd hc) hl rv.ints hne fun h' tk m t' hk h1 h2 => ⟨.int _, H, I.kept hk, ⟨_, rfl⟩, q m h1 h2⟩
end
end L2
namespace Rt
open PySem L2 PySem.Spec PyProof.Rows
section
variable {P : Program} {w : World} {K : PySem.W.Frag} {mg : Str → Option Value} {base : Heap}

/-! ### tuples of numbers without a dict of their own: their methods can be called -/
end
end Rt
namespace L2
open PySem PySem.Spec PyProof.Rows
def tnO (a : Addr) (ns : List Int) : HO := .ext fun h => ns.length ≤ sizeLine ∧ ∃ its : List Value, Vals (ns.map V.int) its ∧ ∃ o n, h.get? a = some o ∧ o.cls = .type "tuple" ∧ o.dict = none ∧ o.data = .seq its.toArray n
section
variable {X : Cx}
theorem tn_new {P : Program} {w : World} {H : Hp} {h : Heap} {a : Addr} {ns : List Int} (hz : ns.length ≤ sizeLine) {its : List Value} (r : Vals (ns.map V.int) its) {o : Obj} {n : Nat} (e : h.get? a = some o) (hc : o.cls = .type "tuple") (hd : o.dict = none) (hs : o.data = .seq its.toArray n) : ObjOk P w H h a (tnO a ns) :=
  ⟨⟨hz, its, r, o, n, e, hc, hd, hs⟩, ⟨o, e⟩, fun _ _ ⟨hz, its, r, o, n, e, q⟩ k => ⟨hz, its, r, o, n, k _ e, q⟩⟩
theorem tn_get {pins : List (Addr × Obj)} {σ : St} {H : Hp} {s : Shared} {a : Addr} {ns : List Int} (I : Inv X pins σ H s) (ha : H a = some (tnO a ns)) : ns.length ≤ sizeLine ∧ ∃ its : List Value, Vals (ns.map V.int) its ∧ ∃ o n, s.heap.get? a = some o ∧ o.cls = .type "tuple" ∧ o.dict = none ∧ o.data = .seq its.toArray n := (I.hok a _ ha).1
def rTupN (K : PySem.W.Frag) : List V → Hp → VK → Prop := fun xs H Q => ∃ (p : Addr) (ns : List Int), xs = [.ref p] ∧ SqL K H p (ns.map V.int) ∧ ∀ l, H l = none → Q (.ref l) (upd H l (tnO l ns))
theorem call_tuple_ofN : CallR X (.type "tuple") (rTupN X.K) := by
  intro pins s σ H xs us Q I r h
  obtain ⟨p, ys, rfl, hq, q⟩ := h
  obtain ⟨u, rfl, rx⟩ := vals1 r
  cases rx
  obtain ⟨its, r', pl, hz⟩ := I.list hq
  have hlen := r'.length
  refine call_tuple_list pl.isList (fun h' kp => ?_) (by simp only [List.size_toArray] <;> omega)
  have I1 : Inv X pins σ H { s with heap := h' } := I.kept (t' := s.toks) kp
  have I2 : Inv X pins σ (upd H h'.objs.size (tnO h'.objs.size ys)) { s with heap := h'.push { cls := .type "tuple", data := .seq its.toArray } } :=
    I1.laid (t' := s.toks) (fun b o e => Heap.get?_push_of_some _ e) (Nat.le_refl _) (tn_new (by rw [List.length_map] at hz; exact hz) r' (Heap.get?_push_size _ rfl) rfl rfl rfl)
  exact ⟨.ref h'.objs.size, _, I2, rfl, q _ (I1.hok.fresh (Nat.le_refl _))⟩
def rMaxN : List V → Hp → VK → Prop := fun vs H Q => ∃ (a : Addr) (ns : List Int), vs = [V.ref a] ∧ H a = some (tnO a ns) ∧ 0 < ns.length ∧ ∀ m, m ∈ ns → (∀ y, y ∈ ns → y ≤ m) → Q (.int m) H
theorem cr_maxN (hc : X.calm = true) : CallR X (.builtin "max") rMaxN := by
  intro pins s σ H vs us Q I r h
  obtain ⟨a, ns, rfl, ha, hne, q⟩ := h
  obtain ⟨_, its, rv, o, n, e, c, _, d⟩ := tn_get I ha
  rw [Vals.ref1 r]
  exact max_rawT (I.ok.hd hc) ⟨o, e, c, n, d⟩ rv.ints hne fun h' tk m t' hk h1 h2 => ⟨.int _, H, I.kept hk, ⟨_, rfl⟩, q m h1 h2⟩
def tLenSetN (ta : TE) : TE := fun σ H Q => ta σ H fun x H1 => ∃ (l : Addr) (ns : List Int), x = .ref l ∧ H1 l = some (tnO l ns) ∧ ns.length ≤ 4000 ∧ ∀ ks : List Int, ks.Nodup → (∀ k, k ∈ ks ↔ k ∈ ns) → Q (.int (ks.length : Nat)) H1
theorem pe_lenSetN {X : Cx} {a : Expr} {ta : TE} {p p2 q pos : Pos} (hg : Gl X "len") (hm : X.mg "len" = none) (hg2 : Gl X "set") (hm2 : X.mg "set" = none) (ha : PE X a ta) (hc : X.calm = true := by rfl)
    (na : starEach [a] X.env = (false, eval a X.env) :: starEach [] X.env := by rfl) : PE X (.Call (.Name "len" p) [.Call (.Name "set" p2) [a] [] q] [] pos) (tLenSetN ta) := by
  refine ⟨fun pins s σ H Q I h => ?_⟩
  refine Call_ (ld_blt I hg hm PySem.boot_len ?_)
  refine PyProof.Rows.callWith_builtin1 (PyProof.Rows.args_cons ?_ rfl) rfl rfl
  refine Call_ (ld_blt I hg2 hm2 PyProof.Rows.boot_set ?_)
  refine PyProof.Rows.callWith_type1 (PyProof.Rows.args_cons (thn (ha.run pins s σ H _ I h) fun v s1 ⟨x, H1, I1, r1, q1⟩ => PyProof.Rows.args_nil ?_) na) na rfl
  obtain ⟨l, ns, rfl, hq, hl, q1⟩ := q1
  cases r1
  obtain ⟨_, its, r, o, n, e, c, _, d⟩ := tn_get I1 hq
  have few : ns.length + 1 < scanBound := by unfold scanBound; omega
  refine call_set_tupI ns (I1.ok.hd hc) ⟨o, e, c, n, d⟩ (by simpa using r.ints) few fun h' tk c R le hk => ?_
  refine PyProof.Rows.args_nil ?_
  obtain ⟨o, es, ep, t, ho, hex, hd, good, nd, mem, few2, hf, hn, _⟩ := R
  have I2 : Inv X pins σ H1 { s1 with heap := h', toks := tk } := I1.kept fun b o e => hk b o e
  exact call_len_set ho hex hd hf (by unfold scanBound at few2; omega) ⟨.int ((es.toList.map keyOf).length : Nat), H1, I2.tok _, ⟨_, by rw [List.length_map, Array.length_toList]⟩, q1 _ nd fun k => by rw [← mem k]; exact decide_eq_true_iff⟩
def rIxN : R2 := fun x y H Q => ∃ (p : Addr) (ns : List Int) (i : Int) (z : V), x = .ref p ∧ y = .int i ∧ H p = some (tnO p ns) ∧ atI (ns.map V.int) i = some z ∧ Q z H
theorem ix_tupN : IxR X rIxN := by
  intro value slice pins s σ H x y v u Q I rx ry h hs
  obtain ⟨p, ns, i, z, rfl, rfl, hq, he, q⟩ := h
  cases rx
  obtain ⟨t, rfl⟩ := ry
  obtain ⟨hz, its, r, o, n, e, c, _, d⟩ := tn_get I hq
  have pl : IsTup s.heap p its.toArray := ⟨o, e, c, n, d⟩
  rw [← List.length_map (f := V.int)] at hz
  obtain ⟨j, h1, h2, h3, h4, h5⟩ := atI_get he
  obtain ⟨w, ew, rw'⟩ := r.get h2
  have hl := r.length
  have hn := line63
  have fin : EP X pins σ Q w s := ⟨z, H, I, rw', q⟩
  exact subscriptTail_builtinR (x := w) pl.typeIs slot_tuple_getitem.lookup
    (getItem_tuple (j := j) (Q := fun r s' => r = w ∧ EP X pins σ Q r s') pl (by omega) (by omega) (by rw [List.size_toArray, ← hl]; exact h1) (by simpa using ew) ⟨rfl, fin⟩) hs
/-- t.index(n), the first place -/
def tIdxN (to te : TE) : TE := fun σ H Q => to σ H fun x H1 => ∃ (p : Addr) (ns : List Int), x = .ref p ∧ H1 p = some (tnO p ns) ∧ tCons te tNil σ H1 fun vs H2 => ∃ (z : Int) (j : Nat), vs = [.int z] ∧ H2 p = some (tnO p ns) ∧ ns[j]? = some z ∧ (∀ m, m < j → ns[m]? ≠ some z) ∧ Q (.int (j : Nat)) H2
theorem pe_idxN {X : Cx} {o e : Expr} {to te : TE} {apos cpos : Pos} (ho : PE X o to) (he : PE X e te)
    (hbase : attributeBase o "index" X.env (eval o X.env) = eval o X.env := by rfl)
    (hfew : ((backTo cpos (starEach (e :: []) X.env)).all (fun x => !x.1) && (backToKw cpos (keywordEach [] X.env)).all (fun x => x.1.isSome)
      && decide ((e :: []).length + ([] : List Keyword).length + (if ([] : List Keyword).isEmpty then 0 else 1) < 30)) = true := by rfl)
    (hline : (apos.endLine == cpos.line) = true := by rfl) (hs : starEach (e :: []) X.env = (false, eval e X.env) :: starEach [] X.env := by rfl) (hplain : (backTo cpos (starEach [] X.env)).any (·.1) = false := by rfl) :
    PE X (.Call (.Attribute o "index" apos) [e] [] cpos) (tIdxN to te) := by
  refine ⟨fun pins s σ H Q I h => ?_⟩
  refine wpAny_Call_method_late hbase hfew hline rfl (thn (ho.run pins s σ H _ I h) fun v s1 ⟨x, H1, I1, r1, p, ns, ex, ha, q1⟩ => ?_)
  subst ex
  cases r1
  obtain ⟨_, its0, r0, o0, n0, e0, c0, d0, dd0⟩ := tn_get I1 ha
  refine ⟨"tuple", "tuple.index", PySem.F.plainAttrs_tuple, PySem.F.slot_tuple_index, PySem.F.type_tuple_index, ⟨o0, e0, c0⟩, fun a ea => by cases ea; exact ⟨o0, e0, d0⟩, ?_⟩
  have hA := (pa_cons he pa_nil hs).run cpos pins s1 σ H1 _ I1 q1
  · rw [hs] at hA ⊢
    refine Calls.callWith_builtin (by show (false || (backTo cpos (starEach [] X.env)).any (·.1)) = false; rw [hplain] <;> rfl) (Calls.evalArgs_plain ?_)
    refine thn hA fun us s2 ⟨vs, H2, I2, r2, z, j, ev, hp, hy, hno, q2⟩ => ?_
    subst ev
    obtain ⟨u, rfl, t, rfl⟩ := vals1 r2
    obtain ⟨hz, its, r, ⟨cls, dd, dt, sl⟩, n, ho, hc, hdn, hd⟩ := tn_get I2 hp
    simp only at hc hd hdn
    subst hc
    subst hd
    have hl : its.toArray.size = ns.length := by rw [List.size_toArray, ← r.length, List.length_map]
    have hj : j < its.toArray.size := by rw [hl]; exact (List.getElem?_eq_some_iff.mp hy).1
    have at' : ∀ (m : Nat) (hm : m < its.toArray.size), ∃ y t', ns[m]? = some y ∧ its.toArray[m] = Value.int y t' := fun m hm => by
      have hm' : m < ns.length := by rw [← hl]; exact hm
      obtain ⟨w, hw, t', hw'⟩ := r.get (i := m) (x := .int ns[m]) (by simp [hm'])
      refine ⟨ns[m], t', List.getElem?_eq_getElem hm', ?_⟩
      have e := (List.getElem?_eq_some_iff.mp hw).2
      rw [← hw', ← e]
      simp
    refine call_meets PySem.F.slot_tuple_index ⟨_, ho, rfl⟩ PySem.F.entry_tuple_index (PySem.F.args_tuple_index_2 _ _) (TI.tuple_indexAt p its.toArray n dd sl (.int z t) (eqU (.int z)) j hj ?_ ?_)
      ⟨ho, fun w hw => mem_eqAt (x := .int z) ⟨t, rfl⟩ rfl r (Rt.flat_ints ns) w (by simpa using hw), ⟨.int (j : Nat), H2, I2.tok _, ⟨_, rfl⟩, q2⟩⟩
    · obtain ⟨y, t', h1, h2⟩ := at' j hj
      rw [hy] at h1
      cases h1
      rw [h2]
      show (z == z) = true
      exact beq_self_eq_true z
    · intro m hm hmj
      obtain ⟨y, t', h1, h2⟩ := at' m hm
      rw [h2]
      show (y == z) = false
      exact beq_eq_false_iff_ne.mpr fun e => hno m hmj (e ▸ h1)
end
end L2
namespace Rt
open PySem L2 PySem.Spec PyProof.Rows
section
variable {P : Program} {w : World} {K : PySem.W.Frag} {mg : Str → Option Value} {base : Heap}

/-! ### of the machine that reads from the front -/
theorem go_eq {S : List (List Int)} {s : Nat} {row : List Int} {i : Nat} {j : Int} (h : S[s]? = some row) (h2 : row[i]? = some j) (j0 : 0 ≤ j) : ((goS S s (i : Int) : Nat) : Int) = j := by
  have e : S.getD s [] = row := by
    rw [List.getD_eq_getElem?_getD, h]
    rfl
  unfold goS
  rw [e, Int.toNat_natCast, List.getD_eq_getElem?_getD, h2]
  exact Int.toNat_of_nonneg j0
theorem front_go {b d : Nat} : ∀ s f : Nat, s < d → f < b → 1 ≤ d → ((goS (frontS (b : Int) d) s (f : Int) : Nat) : Int) = ((s : Int) * b + f) % d := fun s f hs hf hd => by
  refine go_eq (row := frontRow b d s) ?_ ?_ (Int.emod_nonneg _ (by omega))
  · unfold frontS
    rw [List.getElem?_map, List.getElem?_range hs]
    rfl
  · unfold frontRow
    rw [List.getElem?_map, List.getElem?_range (by omega)]
    rfl
theorem front_len {b : Int} {d : Nat} : (frontS b d).length = d := by
  unfold frontS
  rw [List.length_map, List.length_range]
theorem front_good {b d : Nat} (hd : 1 ≤ d) : GoodS (b : Int) (frontS (b : Int) d) := by
  refine ⟨by rw [front_len]; omega, fun row hr => ?_, fun row hr j hj => ?_⟩
  · unfold frontS at hr
    obtain ⟨r, _, rfl⟩ := List.mem_map.mp hr
    unfold frontRow
    rw [List.length_map, List.length_range]
  · unfold frontS at hr
    obtain ⟨r, _, rfl⟩ := List.mem_map.mp hr
    unfold frontRow at hj
    obtain ⟨f, _, rfl⟩ := List.mem_map.mp hj
    rw [front_len]
    exact ⟨Int.emod_nonneg _ (by omega), Int.emod_lt_of_pos _ (by omega)⟩
theorem lab_ok {H : Hp} {c : Addr} {ls : List Int} (hc : H c = some (.tup (ls.map V.int))) (l1 : 1 ≤ ls.length) (l2 : ls.length ≤ 20) (wl : ∀ l ∈ ls, 0 ≤ l ∧ l ≤ 19) : lVerd H (.ref c) = none := by
  unfold lVerd
  rw [tupOf_ref hc]
  refine verdict_good (by rw [List.length_map]; exact l1) (by rw [List.length_map]; exact l2) fun y hy => ?_
  obtain ⟨z, hz, rfl⟩ := List.mem_map.mp hy
  exact intIn_of (wl z hz).1 (wl z hz).2

/-! ### where the classes come to rest -/
def FixP (S : List (List Int)) (told F : List Int) : Prop := ∃ t, partS S told (t + 1) = partS S told t ∧ F = partS S told t
section
variable {S : List (List Int)} {told F G : List Int}
theorem part_stay {t : Nat} (h : partS S told (t + 1) = partS S told t) : ∀ k, partS S told (t + k) = partS S told t
  | 0 => rfl
  | k + 1 => by
    show numsOf (keysOf S (partS S told (t + k))) = _
    rw [part_stay h k]
    exact h
theorem FixP.uniq (a : FixP S told F) (b : FixP S told G) : F = G := by
  obtain ⟨t, h1, rfl⟩ := a
  obtain ⟨u, h2, rfl⟩ := b
  rw [← part_stay h1 u, ← part_stay h2 t, Nat.add_comm]
theorem FixP.twice (a : FixP S told F) : numsOf F = F := by
  obtain ⟨t, _, rfl⟩ := a
  exact part_twice S told t
theorem FixP.len (tl : told.length = S.length) (a : FixP S told F) : F.length = S.length := by
  obtain ⟨t, _, rfl⟩ := a
  exact part_len tl t
theorem getD_iff {l : List Int} {i j : Nat} (hi : i < l.length) (hj : j < l.length) : l.getD i 0 = l.getD j 0 ↔ l[i]? = l[j]? := by
  rw [List.getD_eq_getElem?_getD, List.getD_eq_getElem?_getD, List.getElem?_eq_getElem hi, List.getElem?_eq_getElem hj]
  simp
theorem key_at {i : Nat} (h : i < S.length) (F : List Int) : (keysOf S F)[i]? = some (keyOf S F i) := by
  unfold keysOf
  rw [List.getElem?_map, List.getElem?_range h]
  rfl
/-- what is of one class has one label -/
theorem part_label (tl : told.length = S.length) : ∀ (t i j : Nat), i < S.length → j < S.length → (partS S told t).getD i 0 = (partS S told t).getD j 0 → told.getD i 0 = told.getD j 0
  | 0, i, j, hi, hj, h => by
    have pl := part_len tl 0
    rw [getD_iff (by omega) (by omega)] at h
    have e := (nums_same (List.getElem?_eq_getElem (show i < told.length by omega)) (List.getElem?_eq_getElem (show j < told.length by omega))).mp h
    rw [getD_iff (by omega) (by omega), List.getElem?_eq_getElem (show i < told.length by omega), List.getElem?_eq_getElem (show j < told.length by omega), e]
  | t + 1, i, j, hi, hj, h => by
    have pl := part_len tl (t + 1)
    rw [getD_iff (by omega) (by omega)] at h
    have e := (nums_same (key_at hi _) (key_at hj _)).mp h
    exact part_label tl t i j hi hj (congrArg Prod.fst e)
theorem FixP.label (tl : told.length = S.length) (a : FixP S told F) {i j : Nat} (hi : i < S.length) (hj : j < S.length) (h : F.getD i 0 = F.getD j 0) : told.getD i 0 = told.getD j 0 := by
  obtain ⟨t, _, rfl⟩ := a
  exact part_label tl t i j hi hj h
theorem nums_ix (h : numsOf F = F) {x : Int} (hx : x ∈ F) : x = (ix (dist F) x : Int) := by
  obtain ⟨i, hi⟩ := List.mem_iff_getElem?.mp hx
  have := nums_at hi
  rw [h, hi] at this
  exact Option.some.inj this
theorem nums_bd (h : numsOf F = F) {x : Int} (hx : x ∈ F) : 0 ≤ x ∧ x < ((dist F).length : Int) := by
  have e := nums_ix h hx
  have := List.idxOf_lt_length_of_mem (mem_dist.mpr hx)
  unfold ix at e
  omega
theorem nums_max (h : numsOf F = F) {M : Int} (hm : M ∈ F) (hM : ∀ y ∈ F, y ≤ M) : M + 1 = ((dist F).length : Int) := by
  have b := nums_bd h hm
  have p := pigL ((List.range (M + 1).toNat).map fun n : Nat => (n : Int)) (dist F) (dist_nodup F) fun q hq => by
    have hq := mem_dist.mp hq
    have b1 := nums_bd h hq
    have b2 := hM q hq
    exact List.mem_map.mpr ⟨q.toNat, List.mem_range.mpr (by omega), by omega⟩
  rw [List.length_map, List.length_range] at p
  omega
theorem dist_uniq {ks : List Int} (nd : ks.Nodup) (h : ∀ k, k ∈ ks ↔ k ∈ F) : ks.length = (dist F).length := by
  refine Nat.le_antisymm (pigL (dist F) ks nd fun q hq => mem_dist.mpr ((h q).mp hq)) (pigL ks (dist F) (dist_nodup F) fun q hq => (h q).mpr (mem_dist.mp hq))
end
theorem good_rows {b : Nat} {S : List (List Int)} (hb : b ≤ 16) (g : GoodS (b : Int) S) : ∀ row ∈ S, row.length ≤ 16 ∧ ∀ j ∈ row, 0 ≤ j ∧ j < (S.length : Int) := fun row hr => by
  have := g.len row hr
  exact ⟨by omega, g.dom row hr⟩

/-! ### front_classes, front_states -/
def spClassF (K : PySem.W.Frag) : Sp := fun vs H Q _ => ∃ (b : Nat) (c : Addr) (ls : List Int), vs = [.int (b : Nat), .ref c] ∧ H c = some (.tup (ls.map V.int)) ∧ (∀ l ∈ ls, 0 ≤ l ∧ l ≤ 19) ∧ 1 ≤ ls.length ∧ ls.length ≤ 20 ∧ 2 ≤ b ∧ b ≤ 16 ∧
  ∀ (F : List Int) (p : Addr) (H' : Hp), FixP (frontS (b : Int) ls.length) ls F → Same H H' → H' p = some (tnO p F) → Q (.ref p) H'
theorem ok_front_classes (T : Tx P K mg) : FnOk P w K mg base (L2.CX P w) lv_front_classes T.a_front_classes T.d_front_classes ["base", "labels"] (spClassF K) := by
  refine T.F_front_classes.okX sc_front_classes (fun vs H Q E h => ?_) (fun cdv A outer s H vs Q E hr h => ?_)
  · obtain ⟨b, c, ls, rfl, _⟩ := h
    rfl
  · obtain ⟨b, c, ls, rfl, hc, wl, l1, l2, b1, b2, k⟩ := h
    have gl := lab_ok hc l1 l2 wl
    have good := front_good (b := b) (d := ls.length) l1
    refine ⟨_, (pss_cons (ps_expr (pe_call (ok_check_base T) (hr.mono (by decide)) rfl T.g_check_base T.F_check_base.kp T.b_check_base .nil (passes_call (takes_of rfl rfl rfl rfl) fun _ _ _ _ h => h) (pa_cons (pv 0) pa_nil)))
      (pss_cons (ps_expr (pe_call (ok_check_labels T) (hr.mono (by decide)) rfl T.g_check_labels T.F_check_labels.kp T.b_check_labels .nil (passes_call (takes_of rfl rfl rfl rfl) fun _ _ _ _ h => h) (pa_cons (pv 1) pa_nil)))
      (pss_one (ps_ret (pe_callTy call_tuple_ofN (by rfl) T.n_tuple (by decide +kernel) (pa_cons (pe_call (ok_classes T) (hr.mono (by decide)) rfl T.g_classes T.F_classes.kp T.b_classes .nil pass0 (pa_cons (pe_call (ok_front_machine T) (hr.mono (by decide)) rfl T.g_front_machine T.F_front_machine.kp T.b_front_machine .nil pass0 (pa_cons (pv 0) (pa_cons (pv 1) pa_nil))) pa_nil)) pa_nil)))))), ?_⟩
    refine ⟨_, rfl, .int (b : Nat), rfl, .int _, fun _ => ?_, fun z => Bool.noConfusion ((intIn_of (show (2 : Int) ≤ (b : Nat) by omega) (show ((b : Nat) : Int) ≤ 16 by omega)).symm.trans z)⟩
    refine ⟨_, rfl, .ref c, rfl, .tup hc, ItemsAny.ints hc, fun _ H2 S2 => ?_, fun v hv => by rw [gl] at hv; cases hv⟩
    refine ⟨_, rfl, _, rfl, (b : Nat), c, ls, rfl, S2 _ _ hc, by omega, by omega, l1, l2, fun q H3 S3 mach => ?_⟩
    refine ⟨q, ls, _, rfl, mach, good_rows b2 good, front_len.symm, by rw [front_len]; omega, fun t D H4 fx S4 hD => ?_⟩
    refine ⟨D, _, rfl, SqL.of hD, fun p hp => k _ p _ ⟨t, fx, rfl⟩ ((S2.trans S3).trans (S4.trans (same_upd hp))) upd_same⟩
def spStatesF (K : PySem.W.Frag) : Sp := fun vs H Q _ => ∃ (b : Nat) (c : Addr) (ls : List Int), vs = [.int (b : Nat), .ref c] ∧ H c = some (.tup (ls.map V.int)) ∧ (∀ l ∈ ls, 0 ≤ l ∧ l ≤ 19) ∧ 1 ≤ ls.length ∧ ls.length ≤ 20 ∧ 2 ≤ b ∧ b ≤ 16 ∧
  ∀ (F : List Int) (H' : Hp), FixP (frontS (b : Int) ls.length) ls F → Same H H' → Q (.int ((dist F).length : Nat)) H'
theorem ok_front_states (T : Tx P K mg) : FnOk P w K mg base (L2.CX P w) lv_front_states T.a_front_states T.d_front_states ["base", "labels"] (spStatesF K) := by
  refine T.F_front_states.okX sc_front_states (fun vs H Q E h => ?_) (fun cdv A outer s H vs Q E hr h => ?_)
  · obtain ⟨b, c, ls, rfl, _⟩ := h
    rfl
  · obtain ⟨b, c, ls, rfl, hc, wl, l1, l2, b1, b2, k⟩ := h
    refine ⟨_, (pss_one (ps_ret (pe_op op_add (pe_callB (cr_maxN rfl) (by rfl) T.n_max (by decide +kernel) (pa_cons (pe_call (ok_front_classes T) (hr.mono (by decide)) rfl T.g_front_classes T.F_front_classes.kp T.b_front_classes .nil (passes_call (takes_of rfl rfl rfl rfl) fun _ _ _ _ h => h) (pa_cons (pv 0) (pa_cons (pv 1) pa_nil))) pa_nil)) pe_int))), ?_⟩
    refine ⟨_, rfl, _, rfl, b, c, ls, rfl, hc, wl, l1, l2, b1, b2, fun F p H2 fx S2 hp => ?_⟩
    have fl := fx.len front_len.symm
    rw [front_len] at fl
    refine ⟨p, F, rfl, hp, by omega, fun m hm hM => ?_⟩
    refine ⟨_, _, rfl, rfl, ?_⟩
    show Q (.int (m + 1)) H2
    rw [nums_max fx.twice hm hM]
    exact k F H2 fx S2

/-! ### tuple * int, none or one of it too -/
end
end Rt
namespace L2
open PySem PySem.Spec PyProof.Rows
theorem mul_one (l : Addr) (xs : Array Value) (n : Nat) (dd : Option Addr) (sl : Array (Option Value)) (u : Tok) :
    Meets (Builtin.«tuple.__mul__» ⟨[.ref l, .int 1 u], []⟩) (fun _ R s => s.heap.get? l = some ⟨.type "tuple", dd, .seq xs n, sl⟩ ∧ R (.ok (.ret (.ref l))) s) := by
  refine Meets.of_wp fun P w A R s hyp => ?_
  obtain ⟨hp, g, d, tk, os⟩ := s
  obtain ⟨at0, fin⟩ := hyp
  have ix := AutoSeq1.idx_int
  have b0 : (decide ((1 : Int) < -(2 ^ 63)) || decide ((1 : Int) ≥ 2 ^ 63)) = false := by decide
  have b1 : (xs.isEmpty || (1 : Int) == 1) = true := by rw [Bool.or_eq_true]; exact .inr (by decide)
  wp_walk using wpAny_loadPart' at0
  repeat (first
    | (refine wpAny_ite_false (decide_eq_false (by rw [b0]; decide)) ?_; wp_walk using wpAny_loadPart' at0)
    | (refine wpAny_ite_true (decide_eq_true b1) ?_; wp_walk using wpAny_loadPart' at0))
  exact ⟨_, rfl, fin⟩
theorem mul_none (l : Addr) (xs : Array Value) (n : Nat) (dd : Option Addr) (sl : Array (Option Value)) (u : Tok) (ne : xs.isEmpty = false) :
    Meets (Builtin.«tuple.__mul__» ⟨[.ref l, .int 0 u], []⟩) (fun _ R s => s.heap.get? l = some ⟨.type "tuple", dd, .seq xs n, sl⟩ ∧ R (.ok (.ret (.ref s.heap.objs.size))) { s with heap := s.heap.push ⟨.type "tuple", none, .seq #[], #[]⟩ }) := by
  refine Meets.of_wp fun P w A R s hyp => ?_
  obtain ⟨hp, g, d, tk, os⟩ := s
  obtain ⟨at0, fin⟩ := hyp
  have ix := AutoSeq1.idx_int
  have b0 : (decide ((0 : Int) < -(2 ^ 63)) || decide ((0 : Int) ≥ 2 ^ 63)) = false := by decide
  have b1 : (xs.isEmpty || (0 : Int) == 1) = false := by rw [ne]; decide
  have b2 : (decide ((0 : Int) ≤ 0) || xs.isEmpty) = true := by rw [Bool.or_eq_true]; exact .inl (by decide)
  wp_walk using wpAny_loadPart' at0
  repeat (first
    | (refine wpAny_ite_false (decide_eq_false (by rw [b0]; decide)) ?_; wp_walk using wpAny_loadPart' at0)
    | (refine wpAny_ite_false (decide_eq_false (by rw [b1]; decide)) ?_; wp_walk using wpAny_loadPart' at0)
    | (refine wpAny_ite_true (decide_eq_true b2) ?_; wp_walk using wpAny_loadPart' at0))
  exact ⟨_, rfl, fin⟩
def rRepA (K : PySem.W.Frag) : R2 := fun x y H Q => ∃ l k xs, x = .ref l ∧ y = .int k ∧ SqT K H l xs ∧ xs ≠ [] ∧ 0 ≤ k ∧ k ≤ 1000 ∧ xs.length ≤ 1000 ∧
  (k = 1 → Q (.ref l) H) ∧ (k ≠ 1 → ∀ p, H p = none → Q (.ref p) (upd H p (.tup (List.replicate k.toNat xs).flatten)))
theorem op_repA {X : Cx} : OpR X (binaryOp .Mult) (rRepA X.K) := by
  intro pins s σ H x y v u Q I rx ry wish
  obtain ⟨l, k, xs, rfl, rfl, sq, ne, k0, k1, hz, q1, q2⟩ := wish
  by_cases big : 2 ≤ k
  · exact op_repT pins s σ H _ _ v u Q I rx ry ⟨l, k, xs, rfl, rfl, sq, ne, big, k1, hz, q2 (by omega)⟩
  obtain rfl : v = Value.ref l := rx
  obtain ⟨tk, rfl⟩ := ry
  obtain ⟨its, vals, ⟨⟨c, dd, dt, sl⟩, at0, ec, n, ed⟩, _⟩ := I.tuple sq
  simp only at ec ed
  subst ec ed
  have ni : its.toArray.isEmpty = false := by
    cases its with
    | nil => cases vals; exact absurd rfl ne
    | cons a b => rfl
  by_cases one : k = 1
  · subst one
    refine wpAny_binaryOp_repeat_ref (T := "tuple") (U := "int") (by decide) ⟨_, at0, rfl⟩ (fun s2 => typeIs_int s2 _ tk) noFill_tuple_mul F.fills_int_mul F.slot_int_rmul repeat_tuple F.slot_int_index.lookup ?_
    refine call_meets F.slot_int_rmul (typeIs_int s _ tk) F.entry_int_rmul (F.args_int_rmul_2 _ _) (int_rmul_tuple _ tk l its.toArray n dd sl) ⟨at0, rfl, ⟨_, at0, rfl⟩, ?_⟩
    exact call_meets F.slot_tuple_mul ⟨_, at0, rfl⟩ F.entry_tuple_mul (F.args_tuple_mul_2 _ _) (mul_one l its.toArray n dd sl tk) ⟨at0, ⟨.ref l, H, I, rfl, q1 rfl⟩⟩
  · obtain rfl : k = 0 := by omega
    refine wpAny_binaryOp_repeat_ref (T := "tuple") (U := "int") (by decide) ⟨_, at0, rfl⟩ (fun s2 => typeIs_int s2 _ tk) noFill_tuple_mul F.fills_int_mul F.slot_int_rmul repeat_tuple F.slot_int_index.lookup ?_
    refine call_meets F.slot_int_rmul (typeIs_int s _ tk) F.entry_int_rmul (F.args_int_rmul_2 _ _) (int_rmul_tuple _ tk l its.toArray n dd sl) ⟨at0, rfl, ⟨_, at0, rfl⟩, ?_⟩
    refine call_meets F.slot_tuple_mul ⟨_, at0, rfl⟩ F.entry_tuple_mul (F.args_tuple_mul_2 _ _) (mul_none l its.toArray n dd sl tk ni) ⟨at0, ?_⟩
    refine ⟨.ref s.heap.objs.size, _, I.laid (t' := s.toks) (o := .tup []) (fun b ob q => Heap.get?_push_of_some _ q) (Nat.le_refl _) ?_, rfl, q2 (by decide) _ (I.hok.fresh (Nat.le_refl _))⟩
    exact ⟨Nat.zero_le _, [], .nil, IsTup.new _ _⟩
end L2
namespace Rt
open PySem L2 PySem.Spec PyProof.Rows
section
variable {P : Program} {w : World} {K : PySem.W.Frag} {mg : Str → Option Value} {base : Heap}

/-! ### the law's labels -/
def spLawLabels (K : PySem.W.Frag) : Sp := fun vs H Q _ => ∃ (r a : Addr) (ns : List Int), vs = [.ref r, .int 20] ∧ RowAt K H r a ns ∧ ∀ (c : Addr) (ls : List Int) (H' : Hp), RowAt K H' r a ns → But r H H' → H' c = some (.tup (ls.map V.int)) → 1 ≤ ls.length → ls.length ≤ 20 → (∀ l ∈ ls, 0 ≤ l ∧ l ≤ 19) → Q (.ref c) H'
theorem ok__law_labels (T : Tx P K mg) : FnOk P w K mg base CX0 lv__law_labels T.a__law_labels T.d__law_labels ["_law_row", "_law_most"] (spLawLabels K) := by
  refine T.F__law_labels.ok sc__law_labels (fun vs H Q E h => ?_) (fun cdv A outer s H vs Q E hr h => ?_)
  · obtain ⟨r, a, ns, rfl, _⟩ := h
    rfl
  · obtain ⟨r, a, ns, rfl, R0, k⟩ := h
    refine ⟨_, (Evl.pss_cut (ps_asg (pe_tup (pa_cons (pe_op op_add pe_int (pe_call (ok__law_taken T) (hr.mono (by decide)) rfl T.g__law_taken T.F__law_taken.kp T.b__law_taken .nil pass0 (pa_cons (pv 0) (pa_cons (pv 1) pa_nil)))) (pa_cons (pe_call (ok__law_taken T) (hr.mono (by decide)) rfl T.g__law_taken T.F__law_taken.kp T.b__law_taken .nil pass0 (pa_cons (pv 0) (pa_cons pe_int pa_nil))) pa_nil))) (pg_tup rfl (pgs_cons (pg_name (i := 2) sc__law_labels.nd rfl (Or.inl rfl)) (pgs_cons (pg_name (i := 3) sc__law_labels.nd rfl (Or.inr rfl)) pgs_nil))))
      (Evl.pss_cut (ps_if (pt_cmpR op_eq (pv 3) pe_int (nomark _)) (pss_one (ps_ret (pe_op op_catA (pe_tup (pa_cons pe_int pa_nil)) (pe_op op_repA (pe_tup (pa_cons pe_int pa_nil)) (pe_op op_sub (pv 2) pe_int))))) pss_nil)
      (pss_one (ps_ret (pe_callTy call_tuple_of (by rfl) T.n_tuple (by decide +kernel) (pa_cons (pe_lc (own := [("_law_rest", 4)]) (g := gName 4) (tt := tYes) rfl sc__law_labels.nd (pi_range1 (by rfl) T.n_range (pa_cons (pv 2) pa_nil)) (blkOk_by (own := [("_law_rest", 4)]) (N := ["_law_row", "_law_most", "_law_d", "_law_kind", "_law_rest"]) (sc := defScope s__law_labels) (by decide +kernel)) (fun _ _ _ _ _ => pg_name (i := 4) sc__law_labels.nd rfl (Or.inl rfl)) (fun _ _ _ _ _ => pts_nil) (fun _ _ _ _ _ => (pe_call (ok__law_taken T) (hr.mono (by decide)) rfl T.g__law_taken T.F__law_taken.kp T.b__law_taken .nil pass0 (pa_cons (pv 0) (pa_cons (pe_ix (ix_lK (K := K) rfl) (pe_lst (pa_cons pe_int (pa_cons pe_int (pa_cons pe_int pa_nil)))) (pe_op op_sub (pv 3) pe_int) (fun _ _ => rfl)) pa_nil))))) pa_nil)))))), ?_⟩
    refine ⟨fun σ H1 => ∃ d kd : Int, 1 ≤ d ∧ d ≤ 20 ∧ 0 ≤ kd ∧ kd ≤ 3 ∧ RowAt K H1 r a ns ∧ But r H H1 ∧ σ = [some (.ref r), some (.int 20), some (.int d), some (.int kd), none], ?_, ?_⟩
    · refine ⟨_, rfl, _, rfl, r, a, ns, _, rfl, by decide, by decide, R0, fun v H3 v0 v1 R3 B3 => ⟨_, _, rfl, rfl, _, rfl, r, a, ns, _, rfl, by decide, by decide, R3, fun u H4 u0 u1 R4 B4 => ?_⟩⟩
      refine ⟨by show 2 ≤ sizeLine; decide, fun t ht => ⟨t, _, rfl, SqT.of upd_same, rfl, _, _, rfl, _, _, rfl, rfl, 1 + v, u, by omega, by omega, by omega, by omega, R4.new ht, (B3.trans B4).new ht, rfl⟩⟩
    clear R0
    rintro σ H1 ⟨d, kd, d1, d2, k0, k3, R1, B1, rfl⟩
    refine ⟨fun σ H2 => 1 ≤ kd ∧ H2 = H1 ∧ σ = [some (.ref r), some (.int 20), some (.int d), some (.int kd), none], ⟨_, rfl, rfl, _, rfl, ?_⟩, ?_⟩
    · refine ite2 (fun g => ?_) (fun g => ⟨?_, rfl, rfl⟩)
      · have fin : ∀ (c : Addr) (H2 : Hp), Same H1 H2 → H2 c = some (.tup ((0 :: List.replicate (d - 1).toNat 1).map V.int)) → Q (.ref c) H2 := fun c H2 S2 hc => by
          refine k c (0 :: List.replicate (d - 1).toNat 1) H2 (R1.same S2) (B1.trans (Same.but S2)) hc (by simp) (by rw [List.length_cons, List.length_replicate]; omega) fun l hl => ?_
          rcases List.mem_cons.mp hl with e | e
          · rw [e]; exact ⟨by decide, by decide⟩
          · rw [List.eq_of_mem_replicate e]; exact ⟨by decide, by decide⟩
        have rep : ∀ n : Nat, (List.replicate n [V.int 1]).flatten = (List.replicate n 1).map V.int := fun n => by
          induction n with
          | zero => rfl
          | succ n ih => rw [List.replicate_succ, List.flatten_cons, ih, List.replicate_succ]; rfl
        refine ⟨by show 1 ≤ sizeLine; decide, fun t ht => ⟨by show 1 ≤ sizeLine; decide, fun u hu => ⟨_, rfl, _, _, rfl, rfl, u, d - 1, [.int 1], rfl, rfl, SqT.of upd_same, (fun z => nomatch z), by omega, by omega, by decide, fun e1 => ?_, fun e1 p hp => ?_⟩⟩⟩
        · refine ⟨t, u, [.int 0], [.int 1], rfl, rfl, SqT.of (same_upd hu _ _ upd_same), SqT.of upd_same, by show 2 ≤ sizeLine; decide, (fun z => nomatch z), (fun _ z => nomatch z), fun _ _ p hp => ?_⟩
          refine fin p _ ((same_upd ht).trans ((same_upd hu).trans (same_upd hp))) ?_
          rw [upd_same, e1]
          rfl
        · refine ⟨t, p, [.int 0], (List.replicate (d - 1).toNat [V.int 1]).flatten, rfl, rfl, SqT.of (same_upd hp _ _ (same_upd hu _ _ upd_same)), SqT.of upd_same, ?_, (fun z => nomatch z), fun _ z => ?_, fun _ _ c hc => ?_⟩
          · rw [rep, List.length_map, List.length_replicate]
            show 1 + _ ≤ sizeLine
            unfold sizeLine
            omega
          · refine fin t _ ((same_upd ht).trans ((same_upd hu).trans (same_upd hp))) (same_upd hp _ _ (same_upd hu _ _ ?_))
            rw [upd_same]
            rw [rep] at z
            rw [List.map_cons, z]
          · refine fin c _ (((same_upd ht).trans ((same_upd hu).trans (same_upd hp))).trans (same_upd hc)) ?_
            rw [upd_same, rep]
            rfl
      · have g2 : ¬ kd = 0 := by simpa using g
        omega
    · rintro σ H2 ⟨kd1, rfl, rfl⟩
      have hz : ∃ z : Int, atI [V.int 2, V.int 3, V.int 20] (kd - 1) = some (.int z) ∧ 1 ≤ z ∧ z ≤ 20 := by
        obtain rfl | rfl | rfl : kd = 1 ∨ kd = 2 ∨ kd = 3 := by omega
        · exact ⟨2, rfl, by decide, by decide⟩
        · exact ⟨3, rfl, by decide, by decide⟩
        · exact ⟨20, rfl, by decide, by decide⟩
      obtain ⟨z, hz, z1, z2⟩ := hz
      refine ⟨_, rfl, d, rfl, by omega, by omega, fun D hD => ?_⟩
      have nDr := R1.ne hD
      have hD0 : H D = none := B1.free nDr hD
      refine lc_range (lo := 0) (n := d.toNat) (fun i H4 => RowAt K H4 r a ns ∧ But r H H4 ∧ ∃ ls : List Int, ls.length = i ∧ (∀ l ∈ ls, 0 ≤ l ∧ l ≤ 19) ∧ H4 D = some (.lst (ls.map V.int))) ⟨R1.new hD, B1.new hD, [], rfl, fun _ z => (nomatch z), upd_same⟩ ?_ ?_
      · rintro i H4 hi ⟨R4, B4, ls, hls, wl, hL⟩
        refine ⟨rfl, _, rfl, by show 3 ≤ sizeLine; decide, fun p hp => ⟨_, rfl, _, _, rfl, rfl, p, _, _, .int z, rfl, rfl, SqL.of upd_same, hz, r, a, ns, z, rfl, by omega, by omega, R4.new hp, fun u H5 u0 u1 R5 B5 => ?_⟩⟩
        have hL5 := B5 _ _ (same_upd hp _ _ hL) nDr
        refine ⟨_, hL5, by rw [List.length_map]; exact small1000 (by omega), R5.put hL5 nDr, ((B4.new hp).trans B5).putN hD0, ls ++ [u], by simp; omega, fun l hl => ?_, by rw [upd_same, List.map_append]; rfl⟩
        rcases List.mem_append.mp hl with e | e
        · exact wl l e
        · rw [List.mem_singleton.mp e]
          omega
      · rintro H4 ⟨R4, B4, ls, hls, wl, hL⟩
        exact ⟨D, _, rfl, .inl ⟨SqL.of hL, fun c hc => k c ls _ (R4.new hc) (B4.new hc) upd_same (by omega) (by omega) wl⟩⟩

/-! ### the law's own weights and sums -/
/-- the law's parts of a sum stand at q -/
def ToldAt (H : Hp) (q : Addr) (b t : Int) (fs ls : List Int) : Prop := ∃ f l : Addr, H q = some (.lst [.int b, .int t, .ref f, .ref l]) ∧ H f = some (.tup (fs.map V.int)) ∧ H l = some (.tup (ls.map V.int))
theorem ToldAt.same {H H' : Hp} {q : Addr} {b t : Int} {fs ls : List Int} (h : ToldAt H q b t fs ls) (s : Same H H') : ToldAt H' q b t fs ls :=
  let ⟨f, l, e1, e2, e3⟩ := h
  ⟨f, l, s _ _ e1, s _ _ e2, s _ _ e3⟩
theorem ToldAt.but {H H' : Hp} {q r : Addr} {ys : List V} {b t : Int} {fs ls : List Int} (h : ToldAt H q b t fs ls) (n : q ≠ r) (hr : H r = some (.lst ys)) (s : But r H H') : ToldAt H' q b t fs ls :=
  let ⟨f, l, e1, e2, e3⟩ := h
  ⟨f, l, s _ _ e1 n, s _ _ e2 (ne_of e2 hr (by intro z; cases z)), s _ _ e3 (ne_of e3 hr (by intro z; cases z))⟩
def spLawWeight (K : PySem.W.Frag) : Sp := fun vs H Q _ => ∃ (q : Addr) (b t : Int) (fs ls : List Int) (k : Nat), vs = [.ref q, .int (k : Int)] ∧ ToldAt H q b t fs ls ∧ 1 ≤ ls.length ∧ Q (.int (wAt fs ls k)) H
/-! ### of rings, and of chains of one trick -/
theorem orb_le {b t m : Int} (hB : 2 ≤ blockOf b t) (hB2 : blockOf b t ≤ 256) (m1 : -100 ≤ m) (m2 : m ≤ 100) {n : Int} (hn : ab n ≤ 10 ^ 40) : ∀ j, ab (orb (made b t m) n j) ≤ 10 ^ 40
  | 0 => hn
  | j + 1 => by
    have h := made_half hB hB2 m1 m2 (n := orb (made b t m) n j)
    have ih := orb_le hB hB2 m1 m2 hn j
    show ab (made b t m (orb (made b t m) n j)) ≤ 10 ^ 40
    omega
theorem ab_bd {x c : Int} (h : ab x ≤ c) : -c ≤ x ∧ x ≤ c := by
  unfold ab at h
  split at h <;> omega
theorem ab_of {x c : Int} (h1 : -c ≤ x) (h2 : x ≤ c) : ab x ≤ c := by
  unfold ab
  split <;> omega
theorem canLay_ints : ∀ r : List Int, PyData.canLayAll0 (r.map PyData.int) = true
  | [] => by simp [PyData.canLayAll0]
  | x :: r => by simp [PyData.canLayAll0, PyData.canLay0, canLay_ints r]
theorem depth_ints : ∀ r : List Int, PyData.depthAll (r.map PyData.int) = 0
  | [] => by simp [PyData.depthAll]
  | x :: r => by simp [PyData.depthAll, PyData.depth, depth_ints r]
abbrev rpD (i : Int) (r : List Int) : PyData := .tuple [.int i, .tuple (r.map PyData.int)]
theorem dp_rp {H : Hp} {p q : Addr} {i : Int} {r : List Int} (hp : H p = some (.tup [.int i, .ref q])) (hq : H q = some (.tup (r.map V.int))) : Dp K H (.ref p) (rpD i r) :=
  (.tup (SqT.of hp) (.cons (.int _) (.cons (dp_tints (SqT.of hq)) .nil)))
theorem shaped_rp (i : Int) (r : List Int) : SeqAt.shaped (rpD i r) = true := by
  show ((rpD i r).canLay0 && decide ((rpD i r).depth ≤ 64)) = true
  rw [Bool.and_eq_true]
  exact ⟨by simp [PyData.canLay0, PyData.canLayAll0, canLay_ints], decide_eq_true (by simp [PyData.depth, PyData.depthAll, depth_ints])⟩
theorem eqv_rp (i : Int) (r : List Int) : PyData.eqv (rpD i r) (rpD i r) = true := by
  have e := eqv_tints r r
  rw [decide_eq_true rfl] at e
  simp only [rpD, PyData.eqv, PyData.eqvAll] at e ⊢
  simp [e]
section
variable {f : Int → Int}
theorem IsRing.on {r : List Int} (h : IsRing f r) {x : Int} (hx : x ∈ r) (j : Nat) : orb f x j ∈ r := by
  obtain ⟨y, L, b, l, rfl⟩ := h
  obtain ⟨s, hs, rfl⟩ := (orbL_mem f).mp hx
  rw [← orb_add]
  exact (orbL_mem f).mpr ⟨(s + j) % L, Nat.mod_lt _ b.pos, back_mod f b.back _⟩
theorem ring_small {b t m M : Int} (hM : BoundOf b t m M) {r : List Int} (h : IsRing (made b t m) r) : ∃ x ∈ r, ab x ≤ M := by
  have key : ∀ N : Nat, ∀ x ∈ r, (ab x).toNat ≤ N → ∃ y ∈ r, ab y ≤ M := by
    intro N
    induction N with
    | zero =>
      intro x hx hN
      have := ab_nonneg x
      have := hM.nn
      exact ⟨x, hx, by omega⟩
    | succ N ih =>
      intro x hx hN
      rcases Int.lt_or_le M (ab x) with z | z
      · have := hM.more x z
        have := ab_nonneg (made b t m x)
        exact ih _ (h.on hx 1) (by show (ab (made b t m x)).toNat ≤ N; omega)
      · exact ⟨x, hx, z⟩
  obtain ⟨y, L, b1, l, e⟩ := id h
  have my : y ∈ r := by
    rw [e]
    exact (orbL_mem _).mpr ⟨0, b1.pos, rfl⟩
  exact key _ y my (Nat.le_refl _)
end
theorem all_find {qs : List Prt} {d : Int} {N : Nat} (g : Int × Int → Bool) : (rpL qs d N).all g = ((List.range N).find? fun (k : Nat) => !g ((k : Int).fmod d, (mkAll qs (k : Int)).fmod d)).isNone := by
  rw [Bool.eq_iff_iff, Option.isNone_iff_eq_none, List.find?_eq_none, List.all_eq_true]
  unfold rpL
  constructor
  · intro h j hj
    have := h _ (List.mem_map.mpr ⟨j, hj, rfl⟩)
    rw [this]
    exact Bool.false_ne_true
  · intro h z hz
    obtain ⟨j, hj, rfl⟩ := List.mem_map.mp hz
    have := h j hj
    simpa using this
theorem wordC_one {b t m d : Int} (h : 2 ≤ blockOf b t) (hd : 1 ≤ d) : wordC (rpL [(b, t, m)] d (wide [(b, t, m)] * d).toNat) = wordOf b t m d := by
  unfold wordC wordOf
  rw [all_find, all_find, show wide [(b, t, m)] = blockOf b t from Int.one_mul _]
  have e1 := unlike_none (m := m) h hd
  have e2 := fail_none (m := m) h hd
  unfold unlikeAt at e1
  unfold failAt at e2
  have f1 : ((List.range (blockOf b t * d).toNat).find? fun (k : Nat) => !sameC ((k : Int).fmod d, (mkAll [(b, t, m)] (k : Int)).fmod d)).isNone = sameB b t m d := e1
  have f2 : ((List.range (blockOf b t * d).toNat).find? fun (k : Nat) => !multC ((k : Int).fmod d, (mkAll [(b, t, m)] (k : Int)).fmod d)).isNone = goodB b t m d := e2
  rw [f1, f2]

theorem SumOk.w1 {b t : Int} {fs ls : List Int} (h : SumOk b t fs ls) : Wts 0 fs := ⟨Nat.zero_le _, by have := h.lf; omega, fun z hz => ⟨by have := h.wf z hz; unfold WOk at this; omega, by have := h.wf z hz; unfold WOk at this; omega⟩⟩
theorem SumOk.w2 {b t : Int} {fs ls : List Int} (h : SumOk b t fs ls) : Wts 1 ls := ⟨h.l1, h.l2, fun z hz => ⟨by have := h.wl z hz; unfold WOk at this; omega, by have := h.wl z hz; unfold WOk at this; omega⟩⟩

/-! ### the law -/
theorem mul_elem {b t m d : Int} (d1 : 1 ≤ d) : (mulL b t d d.toNat).elem (m.fmod d) = goodB b t m d := by
  have f0 := fmod_bd m (m := d) (by omega)
  have e : goodB b t (m.fmod d) d = goodB b t m d := by
    rw [← good_is d1, ← good_is d1, Int.fmod_eq_emod_of_nonneg _ (by omega), Int.fmod_eq_emod_of_nonneg (m * _) (by omega), Int.fmod_eq_emod_of_nonneg m (by omega), Int.mul_emod, Int.emod_emod, ← Int.mul_emod]
  rw [← e, Bool.eq_iff_iff, List.elem_iff]
  unfold mulL
  rw [List.mem_filter]
  constructor
  · exact fun h => h.2
  · exact fun h => ⟨List.mem_map.mpr ⟨(m.fmod d).toNat, List.mem_range.mpr (by omega), by omega⟩, h⟩
def sp_law (K : PySem.W.Frag) : Sp := fun vs H Q _ => ∃ (a : Addr) (ns : List Int), vs = [.ref a] ∧ Scr K H a (ns.map V.int) ∧ ns.length ≤ 63 ∧ ∀ H', Q (.bl true) H'
theorem ok_law (T : Tx P K mg) : FnOk P w K mg base CX0 lv_law T.a_law T.d_law ["_law_script"] (sp_law K) := by
  refine T.F_law.ok sc_law (fun vs H Q E h => ?_) (fun cdv A outer s H vs Q E hr h => ?_)
  · obtain ⟨a, ns, rfl, _⟩ := h
    rfl
  · obtain ⟨a, ns, rfl, hS, hlen, kk⟩ := h
    refine ⟨_, (Evl.pss_cut (ps_set (i := 1) sc_law.nd rfl (Or.inl rfl) (pe_lst (pa_cons (pv 0) (pa_cons pe_int (pa_cons pe_int (pa_cons pe_int pa_nil))))))
      (Evl.pss_cut (ps_par (i := 2) (j := 3) rfl sc_law.nd rfl rfl (by decide) rfl rfl (pa_cons (pe_call (ok__law_trick T) (hr.mono (by decide)) rfl T.g__law_trick T.F__law_trick.kp T.b__law_trick .nil pass0 (pa_cons (pv 1) (pa_cons pe_bl pa_nil))) (pa_cons (pe_op op_add pe_int (pe_call (ok__law_taken T) (hr.mono (by decide)) rfl T.g__law_taken T.F__law_taken.kp T.b__law_taken .nil pass0 (pa_cons (pv 1) (pa_cons pe_int pa_nil)))) pa_nil)) (by rfl))
      (Evl.pss_cut (ps_par (i := 4) (j := 5) rfl sc_law.nd rfl rfl (by decide) rfl rfl (pa_cons (pe_make T.mk_Trick (ok_Trick___init__ T) (hr.mono (by decide)) rfl T.g_Trick T.b_Trick___init__ .nil pass0 (pa_cons (pe_ix ix_list (pv 2) pe_int (fun _ _ => rfl)) (pa_cons (pe_ix ix_list (pv 2) pe_int (fun _ _ => rfl)) (pa_cons (pe_ix ix_list (pv 2) pe_int (fun _ _ => rfl)) pa_nil)))) (pa_cons (pe_call (ok__law_power T) (hr.mono (by decide)) rfl T.g__law_power T.F__law_power.kp T.b__law_power .nil pass0 (pa_cons (pe_ix ix_list (pv 2) pe_int (fun _ _ => rfl)) (pa_cons (pe_ix ix_list (pv 2) pe_int (fun _ _ => rfl)) pa_nil))) pa_nil)) (by rfl))
      (Evl.pss_cut (ps_set (i := 6) sc_law.nd rfl (Or.inl rfl) (pe_call (ok_tells T) (hr.mono (by decide)) rfl T.g_tells T.F_tells.kp T.b_tells .nil pass0 (pa_cons (pv 4) (pa_cons (pv 3) pa_nil))))
      (Evl.pss_cut (ps_if (pt_cmpR op_ne (pe_cmpR op_ne (pv 6) pe_str (nomark _)) (pe_cmpR op_eq (pe_op op_modN (pe_op op_mul (pe_ix ix_list (pv 2) pe_int (fun _ _ => rfl)) (pv 5)) (pv 3)) (pe_op op_modN pe_int (pv 3)) (nomark _)) (nomark _)) (pss_one (ps_ret pe_bl)) pss_nil)
      (Evl.pss_cut (ps_if (pt_cmpR op_ne (pe_cmpR op_ne (pv 6) pe_str (nomark _)) (pe_cmpR op_in_seq (pe_op op_modN (pe_ix ix_list (pv 2) pe_int (fun _ _ => rfl)) (pv 3)) (pe_call (ok_multipliers T) (hr.mono (by decide)) rfl T.g_multipliers T.F_multipliers.kp T.b_multipliers .nil passL (pa_cons (pe_ix ix_list (pv 2) pe_int (fun _ _ => rfl)) (pa_cons (pe_ix ix_list (pv 2) pe_int (fun _ _ => rfl)) (pa_cons (pv 3) pa_nil)))) (by with_unfolding_all rfl)) (nomark _)) (pss_one (ps_ret pe_bl)) pss_nil)
      (Evl.pss_cut (ps_if (PW.pt (pw_and (pt_cmpR op_eq (pv 6) pe_str (nomark _)) (pw_and1 (pt_cmpR op_ne (pe_call (ok_factor T) (hr.mono (by decide)) rfl T.g_factor T.F_factor.kp T.b_factor .nil pass0 (pa_cons (pv 4) (pa_cons (pv 3) pa_nil))) (pe_op op_modN pe_int (pv 3)) (nomark _))))) (pss_one (ps_ret pe_bl)) pss_nil)
      (Evl.pss_cut (ps_par (i := 7) (j := 8) rfl sc_law.nd rfl rfl (by decide) rfl rfl (pa_cons (pe_call (ok__law_number T) (hr.mono (by decide)) rfl T.g__law_number T.F__law_number.kp T.b__law_number .nil pass0 (pa_cons (pv 1) pa_nil)) (pa_cons (pe_call (ok__law_taken T) (hr.mono (by decide)) rfl T.g__law_taken T.F__law_taken.kp T.b__law_taken .nil pass0 (pa_cons (pv 1) (pa_cons pe_int pa_nil))) pa_nil)) (by rfl))
      (Evl.pss_cut (ps_if (PW.pt (pw_and (pt_cmpR op_le (pe_callB call_abs (by rfl) T.n_abs (by decide +kernel) (pa_cons (pe_op op_add (pv 7) (pe_op op_mul (pv 5) (pv 8))) pa_nil)) (pe_op op_pow pe_int pe_int) (nomark _)) (pw_and1 (pt_cmpR op_ne (pe_call (ok_done T) (hr.mono (by decide)) rfl T.g_done T.F_done.kp T.b_done .nil pass0 (pa_cons (pv 4) (pa_cons (pe_op op_add (pv 7) (pe_op op_mul (pv 5) (pv 8))) pa_nil))) (pe_op op_add (pe_call (ok_done T) (hr.mono (by decide)) rfl T.g_done T.F_done.kp T.b_done .nil pass0 (pa_cons (pv 4) (pa_cons (pv 7) pa_nil))) (pv 8)) (nomark _))))) (pss_one (ps_ret pe_bl)) pss_nil)
      (Evl.pss_cut (ps_if (pt_cmpR op_ne (pe_call (ok_chain_tells T) (hr.mono (by decide)) rfl T.g_chain_tells T.F_chain_tells.kp T.b_chain_tells .nil passL (pa_cons (pe_lst (pa_cons (pv 4) pa_nil)) (pa_cons (pv 3) pa_nil))) (pv 6) (nomark _)) (pss_one (ps_ret pe_bl)) pss_nil)
      (Evl.pss_cut (ps_asg (pe_call (ok_ring_of T) (hr.mono (by decide)) rfl T.g_ring_of T.F_ring_of.kp T.b_ring_of .nil passL (pa_cons (pv 4) (pa_cons (pv 7) pa_nil))) (pg_tup rfl (pgs_cons (pg_name (i := 9) sc_law.nd rfl (Or.inl rfl)) (pgs_cons (pg_name (i := 10) sc_law.nd rfl (Or.inl rfl)) pgs_nil))))
      (Evl.pss_cut (ps_if (PW.pt (pw_or (pt_cmpR (op_neD hr.units) (pe_call (ok_ring_of T) (hr.mono (by decide)) rfl T.g_ring_of T.F_ring_of.kp T.b_ring_of .nil passL (pa_cons (pv 4) (pa_cons (pe_ix ix_tup (pv 10) (pe_un un_neg pe_int) (fun _ _ => rfl)) pa_nil))) (pe_tup (pa_cons pe_int (pa_cons (pv 10) pa_nil))) (nomark _)) (pw_or1 (pt_cmpR op_gt (pe_callB (cr_min rfl) (by rfl) T.n_min (by decide +kernel) (pa_cons (pe_lc (own := [("_law_one", 18)]) (g := gName 18) (tt := tYes) rfl sc_law.nd (pi_tup (pv 10)) (blkOk_by (own := [("_law_one", 18)]) (N := ["_law_script", "_law_line", "_law_told", "_law_d", "_law_trick_here", "_law_block", "_law_word", "_law_n", "_law_k", "_law_rounds_told", "_law_ring", "_law_some", "_law_made", "_law_labels_here", "_law_classes", "_law_rest", "_law_first", "_law_loop", "_law_one"]) (sc := defScope s_law) (by decide +kernel)) (fun _ _ _ _ _ => pg_name (i := 18) sc_law.nd rfl (Or.inl rfl)) (fun _ _ _ _ _ => pts_nil) (fun _ _ _ _ _ => (pe_callB call_abs (by rfl) T.n_abs (by decide +kernel) (pa_cons (pv 18) pa_nil)))) pa_nil)) (pe_call (ok_bound T) (hr.mono (by decide)) rfl T.g_bound T.F_bound.kp T.b_bound .nil passL (pa_cons (pv 4) pa_nil)) (nomark _))))) (pss_one (ps_ret pe_bl)) pss_nil)
      (Evl.pss_cut (ps_set (i := 11) sc_law.nd rfl (Or.inl rfl) (pe_call (ok__law_sum T) (hr.mono (by decide)) rfl T.g__law_sum T.F__law_sum.kp T.b__law_sum .nil pass0 (pa_cons (pv 1) (pa_cons (pv 3) pa_nil))))
      (Evl.pss_cut (ps_set (i := 12) sc_law.nd rfl (Or.inl rfl) (pe_make T.mk_Sum (ok_Sum___init__ T) (hr.mono (by decide)) rfl T.g_Sum T.b_Sum___init__ .nil passL (pa_cons (pe_ix ix_list (pv 11) pe_int (fun _ _ => rfl)) (pa_cons (pe_ix ix_list (pv 11) pe_int (fun _ _ => rfl)) (pa_cons (pe_ix ix_list (pv 11) pe_int (fun _ _ => rfl)) (pa_cons (pe_ix ix_list (pv 11) pe_int (fun _ _ => rfl)) pa_nil))))))
      (Evl.pss_cut (ps_if (PW.pt (pw_and (pt_cmpR op_eq (pe_call (ok_sum_tells T) (hr.mono (by decide)) rfl T.g_sum_tells T.F_sum_tells.kp T.b_sum_tells .nil passL (pa_cons (pv 12) (pa_cons (pv 3) pa_nil))) pe_str (nomark _)) (pw_and1 (pt_cmpR op_notN (pe_call (ok_sum_fails T) (hr.mono (by decide)) rfl T.g_sum_fails T.F_sum_fails.kp T.b_sum_fails .nil passL (pa_cons (pv 12) (pa_cons (pv 3) pa_nil))) pe_non (nomark _))))) (pss_one (ps_ret pe_bl)) pss_nil)
      (Evl.pss_cut (ps_set (i := 13) sc_law.nd rfl (Or.inl rfl) (pe_call (ok__law_labels T) (hr.mono (by decide)) rfl T.g__law_labels T.F__law_labels.kp T.b__law_labels .nil pass0 (pa_cons (pv 1) (pa_cons pe_int pa_nil))))
      (Evl.pss_cut (ps_set (i := 14) sc_law.nd rfl (Or.inl rfl) (pe_call (ok_front_classes T) (hr.mono (by decide)) rfl T.g_front_classes T.F_front_classes.kp T.b_front_classes .nil passL (pa_cons (pe_ix ix_list (pv 2) pe_int (fun _ _ => rfl)) (pa_cons (pv 13) pa_nil))))
      (Evl.pss_cut (ps_if (PW.pt (pw_or (pt_cmpR op_gt (pe_call (ok_front_states T) (hr.mono (by decide)) rfl T.g_front_states T.F_front_states.kp T.b_front_states .nil passL (pa_cons (pe_ix ix_list (pv 2) pe_int (fun _ _ => rfl)) (pa_cons (pv 13) pa_nil))) (pe_callB call_len_seq (by rfl) T.n_len (by decide +kernel) (pa_cons (pv 13) pa_nil)) (nomark _)) (pw_or1 (pt_cmpR op_ne (pe_lenSetN (by rfl) T.n_len (by rfl) T.n_set (pv 14)) (pe_call (ok_front_states T) (hr.mono (by decide)) rfl T.g_front_states T.F_front_states.kp T.b_front_states .nil passL (pa_cons (pe_ix ix_list (pv 2) pe_int (fun _ _ => rfl)) (pa_cons (pv 13) pa_nil))) (nomark _))))) (pss_one (ps_ret pe_bl)) pss_nil)
      (Evl.pss_cut (ps_for PassesOwn.never rfl (pi_range1 (by rfl) T.n_range (pa_cons (pe_callB call_len_seq (by rfl) T.n_len (by decide +kernel) (pa_cons (pv 13) pa_nil)) pa_nil)) (pg_name (i := 15) sc_law.nd rfl (Or.inl rfl)) (pss_one (ps_if (pt_cmpR op_ne (pe_ix ix_tup (pv 13) (pv 15) (fun _ _ => rfl)) (pe_ix ix_tup (pv 13) (pe_idxN (pv 14) (pe_ix ix_tupN (pv 14) (pv 15) (fun _ _ => rfl))) (fun _ _ => rfl)) (nomark _)) (pss_one (ps_ret pe_bl)) pss_nil)))
      (Evl.pss_cut (ps_asg (pe_call (ok_rest_weights T) (hr.mono (by decide)) rfl T.g_rest_weights T.F_rest_weights.kp T.b_rest_weights .nil passL (pa_cons (pe_ix ix_list (pv 2) pe_int (fun _ _ => rfl)) (pa_cons (pe_ix ix_list (pv 2) pe_int (fun _ _ => rfl)) (pa_cons (pv 3) pa_nil)))) (pg_tup rfl (pgs_cons (pg_name (i := 16) sc_law.nd rfl (Or.inl rfl)) (pgs_cons (pg_name (i := 17) sc_law.nd rfl (Or.inl rfl)) pgs_nil))))
      (pss_one (ps_ret (pe_cmpR op_le (pe_op op_add (pe_callB call_len_seq (by rfl) T.n_len (by decide +kernel) (pa_cons (pv 16) pa_nil)) (pe_callB call_len_seq (by rfl) T.n_len (by decide +kernel) (pa_cons (pv 17) pa_nil))) (pv 3) (nomark _)))))))))))))))))))))))), ?_⟩
    refine ⟨fun σ H1 => ∃ r, RowAt K H1 r a ns ∧ σ = [some (.ref a), some (.ref r), none, none, none, none, none, none, none, none, none, none, none, none, none, none, none, none, none], ?_, ?_⟩
    · exact ⟨_, rfl, by show 4 ≤ sizeLine; decide, fun r hr0 => ⟨r, RowAt.start hr0 hS hlen (by decide) (by decide), rfl⟩⟩
    clear hS
    rintro σ H1 ⟨r, R1, rfl⟩
    refine ⟨fun σ H2 => ∃ (q : Addr) (b t m d : Int), 2 ≤ b ∧ b ≤ 16 ∧ 1 ≤ t ∧ t ≤ 2 ∧ (b ≤ 5 ∨ t = 1) ∧ -100 ≤ m ∧ m ≤ 100 ∧ 1 ≤ d ∧ d ≤ 30 ∧ q ≠ r ∧ H2 q = some (.lst [.int b, .int t, .int m]) ∧ RowAt K H2 r a ns ∧ σ = [some (.ref a), some (.ref r), some (.ref q), some (.int d), none, none, none, none, none, none, none, none, none, none, none, none, none, none, none], ?_, ?_⟩
    · refine ⟨_, rfl, r, a, ns, _, rfl, R1, fun b t m q H3 b1 b2 t1 t2 hst m1 m2 R3 B3 hq0 hq nq => ?_⟩
      refine ⟨_, rfl, r, a, ns, _, rfl, by decide, by decide, R3, fun v H4 v0 v1 R4 B4 => ⟨_, _, rfl, rfl, _, _, rfl, q, b, t, m, 1 + v, b1, b2, t1, t2, hst rfl, m1, m2, by omega, by omega, nq, B4 _ _ hq nq, R4, rfl⟩⟩
    clear R1
    rintro σ H2 ⟨q, b, t, m, d, b1, b2, t1, t2, hst, m1, m2, d1, d2, nqr, hq, R2, rfl⟩
    obtain ⟨B1, B2⟩ := block_bd (t := t) b1 b2
    have eB := pow_block (b := b) t1 t2
    have nd : d ≠ 0 := by omega
    have mB : -(2 ^ 64) < m ∧ m < 2 ^ 64 := ⟨by omega, by omega⟩
    have B3 : blockOf b t ≤ 25 := by
      unfold blockOf
      rcases hst with h | h
      · split
        · omega
        · have := Int.mul_le_mul h h (by omega) (by omega)
          omega
      · rw [if_pos h]; omega
    -- the trick, the block
    refine ⟨fun σ H3 => ∃ p : Addr, TrickAt T H3 p b t m ∧ p ≠ r ∧ H3 q = some (.lst [.int b, .int t, .int m]) ∧ RowAt K H3 r a ns ∧ σ = [some (.ref a), some (.ref r), some (.ref q), some (.int d), some (.ref p), some (.int (blockOf b t)), none, none, none, none, none, none, none, none, none, none, none, none, none], ?_, ?_⟩
    · refine ⟨_, rfl, q, _, _, _, rfl, rfl, SqL.of hq, rfl, _, rfl, q, _, _, _, rfl, rfl, SqL.of hq, rfl, _, rfl, q, _, _, _, rfl, rfl, SqL.of hq, rfl, ?_⟩
      refine fun p dx np nx nn => mk_trick np nx b1 b2 t1 t2 m1 m2 fun H5 hT S5 => ?_
      have hq2 := S5 _ _ hq
      refine ⟨_, rfl, q, _, _, _, rfl, rfl, SqL.of hq2, rfl, _, rfl, q, _, _, _, rfl, rfl, SqL.of hq2, rfl, b, t, rfl, by omega, by omega, by omega, by omega, ?_⟩
      rw [eB]
      exact ⟨_, _, rfl, p, hT, R2.ne np, hq2, R2.same S5, rfl⟩
    clear R2 hq
    rintro σ H3 ⟨p, hT, npr, hq, R3, rfl⟩
    -- the word
    refine ⟨fun σ H4 => H4 = H3 ∧ σ = [some (.ref a), some (.ref r), some (.ref q), some (.int d), some (.ref p), some (.int (blockOf b t)), some (.str (wordOf b t m d)), none, none, none, none, none, none, none, none, none, none, none, none], ?_, ?_⟩
    · exact ⟨_, rfl, _, rfl, p, b, t, m, d, rfl, hT, d1, by omega, rfl, rfl⟩
    rintro σ H4 ⟨rfl, rfl⟩
    have wn : decide (V.str (wordOf b t m d) = V.str ("nothing" : Str)) = !goodB b t m d := by
      have es := same_is (b := b) (t := t) (m := m) d1
      unfold wordOf
      cases g : goodB b t m d with
      | true =>
        cases sameB b t m d with
        | true => exact decide_eq_false (fun z => by injection z with z; revert z; decide)
        | false => exact decide_eq_false (fun z => by injection z with z; revert z; decide)
      | false =>
        rw [g, Bool.false_and] at es
        rw [← es]
        exact decide_eq_true rfl
    have wr : decide (V.str (wordOf b t m d) = V.str ("rest" : Str)) = sameB b t m d := by
      unfold wordOf
      cases sameB b t m d with
      | true => exact decide_eq_true rfl
      | false =>
        cases goodB b t m d with
        | true => exact decide_eq_false (fun z => by injection z with z; revert z; decide)
        | false => exact decide_eq_false (fun z => by injection z with z; revert z; decide)
    -- just if it is a good multiplier
    refine ⟨fun σ H5 => H5 = H4 ∧ σ = [some (.ref a), some (.ref r), some (.ref q), some (.int d), some (.ref p), some (.int (blockOf b t)), some (.str (wordOf b t m d)), none, none, none, none, none, none, none, none, none, none, none, none], ?_, ?_⟩
    · refine ⟨_, rfl, rfl, _, rfl, q, _, _, _, rfl, rfl, SqL.of hq, rfl, _, rfl, _, _, rfl, rfl, .inl mB, _, rfl, _, _, rfl, rfl, nd, _, rfl, _, _, rfl, rfl, nd, rfl, rfl, _, rfl, ?_⟩
      rw [wn, dec_i, good_is d1, dec_bl, Bool.not_not, beq_self_eq_true]
      exact iteF ⟨rfl, rfl⟩
    rintro σ H5 ⟨rfl, rfl⟩
    -- just if it is among the multipliers
    refine ⟨fun σ H6 => Same H5 H6 ∧ σ = [some (.ref a), some (.ref r), some (.ref q), some (.int d), some (.ref p), some (.int (blockOf b t)), some (.str (wordOf b t m d)), none, none, none, none, none, none, none, none, none, none, none, none], ?_, ?_⟩
    · refine ⟨_, rfl, rfl, _, rfl, q, _, _, _, rfl, rfl, SqL.of hq, rfl, _, rfl, _, _, rfl, rfl, nd, _, rfl, q, _, _, _, rfl, rfl, SqL.of hq, rfl, _, rfl, q, _, _, _, rfl, rfl, SqL.of hq, rfl, _, rfl, .int b, .int t, .int d, rfl, .int b, .int t, .int d, (fun z => Bool.noConfusion ((intIn_of b1 b2).symm.trans z)), (fun _ z => Bool.noConfusion ((intIn_of t1 t2).symm.trans z)), (fun _ _ z => Bool.noConfusion ((intIn_of d1 (show d ≤ 100 by omega)).symm.trans z)), fun b' t' d' e1 e2 e3 _ _ _ _ _ _ z hz => ?_⟩
      cases e1
      cases e2
      cases e3
      refine ⟨z, _, rfl, .inl (SqL.of upd_same), rfl, flat_ints _, rfl, _, rfl, ?_⟩
      rw [wn]
      show (if (!decide (V.bl (!(!goodB b t m d)) = V.bl (inV (.int (m.fmod d)) ((mulL b t d d.toNat).map V.int)))) = true then _ else _)
      rw [inV_ints, mul_elem d1, dec_bl, Bool.not_not, beq_self_eq_true]
      exact iteF ⟨same_upd hz, rfl⟩
    rintro σ H6 ⟨S6, rfl⟩
    replace hT := hT.same S6
    replace hq := S6 _ _ hq
    replace R3 := R3.same S6
    clear S6
    -- the factor
    refine ⟨fun σ H7 => H7 = H6 ∧ σ = [some (.ref a), some (.ref r), some (.ref q), some (.int d), some (.ref p), some (.int (blockOf b t)), some (.str (wordOf b t m d)), none, none, none, none, none, none, none, none, none, none, none, none], ?_, ?_⟩
    · refine ⟨_, rfl, rfl, _, rfl, ?_⟩
      rw [wr]
      refine ite2 (fun g => ?_) (fun g => iteF ⟨rfl, rfl⟩)
      have es := same_is (b := b) (t := t) (m := m) d1
      rw [g, Bool.and_eq_true] at es
      have ef : facV b t m d = .int ((1 : Int).fmod d) := by
        unfold facV
        rw [if_pos es.1]
        have hm : d ∣ m - 1 := by
          unfold sameB at g
          rw [Bool.and_eq_true] at g
          exact of_decide_eq_true g.2
        rw [(fmod_iff d1).mpr hm]
      refine ⟨_, rfl, _, rfl, p, b, t, m, d, rfl, hT, d1, by omega, ?_⟩
      rw [ef]
      refine ⟨_, rfl, _, _, rfl, rfl, nd, rfl, _, rfl, ?_⟩
      rw [decide_eq_true rfl]
      exact iteF ⟨rfl, rfl⟩
    rintro σ H7 ⟨rfl, rfl⟩
    -- a number, and how often the block is put to it
    refine ⟨fun σ H8 => ∃ n c : Int, -(10 ^ 40) ≤ n ∧ n ≤ 10 ^ 40 ∧ 0 ≤ c ∧ c < 1000 ∧ TrickAt T H8 p b t m ∧ H8 q = some (.lst [.int b, .int t, .int m]) ∧ RowAt K H8 r a ns ∧ σ = [some (.ref a), some (.ref r), some (.ref q), some (.int d), some (.ref p), some (.int (blockOf b t)), some (.str (wordOf b t m d)), some (.int n), some (.int c), none, none, none, none, none, none, none, none, none, none], ?_, ?_⟩
    · refine ⟨_, rfl, r, a, ns, rfl, R3, fun n H5 n0 n1 R5 B5 => ⟨_, rfl, r, a, ns, _, rfl, by decide, by decide, R5, fun c H8 c0 c1 R6 B6 => ⟨_, _, rfl, n, c, n0, n1, c0, c1, ?_, B6 _ _ (B5 _ _ hq nqr) nqr, R6, rfl⟩⟩⟩
      obtain ⟨⟨dx, e⟩, h⟩ := hT
      exact ⟨⟨dx, B6 _ _ (B5 _ _ e npr) npr⟩, h⟩
    clear hT hq R3
    rintro σ H8 ⟨n, c, n0, n1, c0, c1, hT, hq, R3, rfl⟩
    refine ⟨fun σ H9 => H9 = H8 ∧ σ = [some (.ref a), some (.ref r), some (.ref q), some (.int d), some (.ref p), some (.int (blockOf b t)), some (.str (wordOf b t m d)), some (.int n), some (.int c), none, none, none, none, none, none, none, none, none, none], ?_, ?_⟩
    · have B0 : -(2 ^ 64) < blockOf b t ∧ blockOf b t < 2 ^ 64 := ⟨by omega, by omega⟩
      refine ⟨_, rfl, _, rfl, _, rfl, _, _, rfl, rfl, .inl B0, _, _, rfl, rfl, _, rfl, _, _, rfl, rfl, ⟨by decide, by decide, by decide⟩, _, _, rfl, rfl, _, rfl, ?_⟩
      refine ite2 (fun g => ?_) (fun g => iteF ⟨rfl, rfl⟩)
      have g0 : (if n + blockOf b t * c < 0 then -(n + blockOf b t * c) else n + blockOf b t * c) ≤ 10 ^ 40 := of_decide_eq_true g
      have g1 : -(10 ^ 40) ≤ n + blockOf b t * c ∧ n + blockOf b t * c ≤ 10 ^ 40 := by
        split at g0 <;> constructor <;> omega
      refine ⟨_, rfl, _, rfl, _, rfl, _, rfl, _, _, rfl, rfl, .inl B0, _, _, rfl, rfl, p, b, t, m, _, rfl, hT, g1.1, g1.2, _, rfl, _, rfl, p, b, t, m, n, rfl, hT, n0, n1, _, rfl, _, _, rfl, rfl, rfl, _, rfl, ?_⟩
      have e := made_shift (b := b) (t := t) (m := m) (d := 1) (n := n) (q := c) B1
      rw [Int.one_mul] at e
      rw [e, decide_eq_true rfl]
      exact iteF ⟨rfl, rfl⟩
    rintro σ H9 ⟨rfl, rfl⟩
    -- a chain of one
    refine ⟨fun σ H10 => Same H9 H10 ∧ σ = [some (.ref a), some (.ref r), some (.ref q), some (.int d), some (.ref p), some (.int (blockOf b t)), some (.str (wordOf b t m d)), some (.int n), some (.int c), none, none, none, none, none, none, none, none, none, none], ?_, ?_⟩
    · refine ⟨_, rfl, by show 1 ≤ sizeLine; decide, fun L hL => ⟨_, rfl, ?_⟩⟩
      have SL := same_upd (o := .lst [.ref p]) hL
      refine ⟨.ref L, .int d, rfl, .int d, .inr (.inr ⟨L, [.ref p], [(b, t, m)], rfl, .inl upd_same, (by show 1 ≤ 1; decide), (by show 1 ≤ 4; decide), ⟨⟨p, rfl, hT.same SL⟩, trivial⟩, fun z => Bool.noConfusion ((intIn_of d1 d2).symm.trans z), fun _ z => ?_, fun _ _ H2' S2 dd ed H3' S3 => ?_⟩)⟩
      · exfalso
        have : wide [(b, t, m)] = blockOf b t := Int.one_mul _
        omega
      · cases ed
        rw [wordC_one B1 d1]
        refine ⟨_, rfl, rfl, _, rfl, ?_⟩
        rw [decide_eq_true rfl]
        exact iteF ⟨SL.trans (S2.trans S3), rfl⟩
    rintro σ H10 ⟨S10, rfl⟩
    replace hT := hT.same S10
    replace hq := S10 _ _ hq
    replace R3 := R3.same S10
    clear S10
    -- the ring
    refine ⟨fun σ H11 => ∃ (k i : Nat) (rg : List Int) (g : Addr), Comes (made b t m) n k i ∧ RingOf (made b t m) n k i rg ∧ H11 g = some (.tup (rg.map V.int)) ∧ Same H10 H11 ∧ σ = [some (.ref a), some (.ref r), some (.ref q), some (.int d), some (.ref p), some (.int (blockOf b t)), some (.str (wordOf b t m d)), some (.int n), some (.int c), some (.int (i : Int)), some (.ref g), none, none, none, none, none, none, none, none], ?_, ?_⟩
    · refine ⟨_, rfl, _, rfl, p, b, t, m, n, rfl, hT, n0, n1, fun k i rg u g H3' hc hr S3 hu hg => ?_⟩
      exact ⟨u, _, rfl, SqT.of hu, rfl, _, _, rfl, _, _, rfl, rfl, k, i, rg, g, hc, hr, hg, S3, rfl⟩
    rintro σ H11 ⟨k, i, rg, g, hc, hr, hg, S11, rfl⟩
    replace hT := hT.same S11
    replace hq := S11 _ _ hq
    replace R3 := R3.same S11
    clear S11
    refine ⟨fun σ H12 => ∃ x18 : Option V, Same H11 H12 ∧ σ = [some (.ref a), some (.ref r), some (.ref q), some (.int d), some (.ref p), some (.int (blockOf b t)), some (.str (wordOf b t m d)), some (.int n), some (.int c), some (.int (i : Int)), some (.ref g), none, none, none, none, none, none, none, x18], ?_, ?_⟩
    · have an : ab n ≤ 10 ^ 40 := ab_of n0 n1
      have kl := hc.len B1 B2 m1 m2 an
      obtain ⟨ir, so, er⟩ := id hr
      have rl : rg.length = k - i := by rw [er, orbL_len]
      have il := hc.lt
      obtain ⟨rg0, xl, erg⟩ : ∃ rg0 xl, rg = rg0 ++ [xl] := by
        rcases List.eq_nil_or_concat rg with e | ⟨gs, f, e⟩
        · rw [e] at rl
          simp at rl
          omega
        · exact ⟨gs, f, by rw [e]; exact List.concat_eq_append⟩
      have mx : xl ∈ rg := by rw [erg]; exact List.mem_append_right _ List.mem_cons_self
      have axl : ab xl ≤ 10 ^ 40 := by
        have h := mx
        rw [er] at h
        obtain ⟨j, _, ej⟩ := (orbL_mem _).mp h
        rw [← ej, ← orb_add]
        exact orb_le B1 B2 m1 m2 an _
      obtain ⟨y1, y2⟩ := ab_bd axl
      obtain ⟨hc0, hr0⟩ := ring_self ir mx
      have atx : atI (rg.map V.int) (-1) = some (V.int xl) := by
        rw [erg, List.map_append]
        exact atI_last _ _
      refine ⟨_, rfl, _, rfl, _, rfl, g, _, _, _, rfl, rfl, SqT.of hg, atx, p, b, t, m, xl, rfl, hT, y1, y2, fun k2 i2 r2 u u2 H3' hc2 hr2 S3 hu hu2 => ?_⟩
      obtain ⟨rfl, rfl⟩ := hc0.uniq hc2
      rw [hr2.uniq hc2 hr0] at hu2
      refine ⟨_, rfl, by show 2 ≤ sizeLine; decide, fun v hv => ?_⟩
      have Sv := same_upd (o := .tup [.int 0, .ref g]) hv
      have hg2 := Sv _ _ (S3 _ _ hg)
      refine ⟨_, _, dp_rp (Sv _ _ hu) (Sv _ _ hu2), dp_rp upd_same hg2, shaped_rp _ _, shaped_rp _ _, _, rfl, ?_⟩
      rw [show ((0 : Nat) : Int) = 0 from rfl, eqv_rp]
      have hT2 := (hT.same S3).same Sv
      have S13 := S3.trans Sv
      generalize upd H3' v (.tup [.int 0, .ref g]) = H4' at *
      refine iteF ⟨_, rfl, g, rfl, ⟨_, SqT.of hg2⟩, fun D hD => ?_⟩
      refine lc_tup (K := K) (a := g) (xs := rg.map V.int) (fun j H5' => Same H4' H5' ∧ H5' D = some (.lst (((rg.take j).map ab).map V.int))) ⟨same_upd hD, upd_same⟩ (fun j H5' _ ⟨S5, _⟩ => SqT.of (S5 _ _ hg2)) ?_ ?_
      · rintro j x H5' hx ⟨S5, hD5⟩
        rw [List.getElem?_map] at hx
        obtain ⟨z, hz, rfl⟩ := Option.map_eq_some_iff.mp hx
        refine ⟨rfl, _, rfl, z, rfl, _, hD5, ?_, fun e o q => ?_, ?_⟩
        · have bigs : (200000 : Nat) ≤ sizeLine := by decide
          have lz := (List.getElem?_eq_some_iff.mp hz).1
          rw [List.length_map, List.length_map, List.length_take]
          omega
        · rw [upd_ne (ne_of_none q hD)]
          exact S5 _ _ q
        · rw [upd_same, List.take_add_one, hz, List.map_append, List.map_append]
          rfl
      · rintro H5' ⟨S5, hD5⟩
        rw [List.length_map, List.take_length] at hD5
        refine ⟨D, _, rfl, SqL.of hD5, by rw [List.length_map]; omega, fun mn hmn hle => ?_⟩
        refine ⟨_, rfl, p, b, t, m, rfl, hT2.same S5, fun M H6' hM S6 => ⟨_, _, rfl, rfl, _, rfl, ?_⟩⟩
        obtain ⟨x, hx, hxM⟩ := ring_small hM ir
        have := hle (ab x) (List.mem_map.mpr ⟨x, hx, rfl⟩)
        rw [show decide (M < mn) = false from decide_eq_false (by omega)]
        exact iteF ⟨_, S13.trans (S5.trans S6), rfl⟩
    rintro σ H12 ⟨x18, S12, rfl⟩
    replace hq := S12 _ _ hq
    replace R3 := R3.same S12
    clear S12 hg hT
    -- a sum
    refine ⟨fun σ H13 => ∃ (sq : Addr) (sb st : Int) (fs ls : List Int), sq ≠ r ∧ ToldAt H13 sq sb st fs ls ∧ SumOk sb st fs ls ∧ H13 q = some (.lst [.int b, .int t, .int m]) ∧ RowAt K H13 r a ns ∧ σ = [some (.ref a), some (.ref r), some (.ref q), some (.int d), some (.ref p), some (.int (blockOf b t)), some (.str (wordOf b t m d)), some (.int n), some (.int c), some (.int (i : Int)), some (.ref g), some (.ref sq), none, none, none, none, none, none, x18], ?_, ?_⟩
    · refine ⟨_, rfl, _, rfl, r, a, ns, d, rfl, d1, d2, R3, fun sb st fs ls sq f l H4' ok R4 B4 hq' hf hl nsr hq0 => ?_⟩
      exact ⟨sq, sb, st, fs, ls, nsr, ⟨f, l, hq', hf, hl⟩, ok, B4 _ _ hq nqr, R4, rfl⟩
    clear hq R3
    rintro σ H13 ⟨sq, sb, st, fs, ls, nsr, hs, ok, hq, R3, rfl⟩
    refine ⟨fun σ H14 => ∃ sp : Addr, SumAt T H14 sp sb st fs ls ∧ H14 q = some (.lst [.int b, .int t, .int m]) ∧ RowAt K H14 r a ns ∧ σ = [some (.ref a), some (.ref r), some (.ref q), some (.int d), some (.ref p), some (.int (blockOf b t)), some (.str (wordOf b t m d)), some (.int n), some (.int c), some (.int (i : Int)), some (.ref g), some (.ref sq), some (.ref sp), none, none, none, none, none, x18], ?_, ?_⟩
    · obtain ⟨f, l, e1, e2, e3⟩ := id hs
      refine ⟨_, rfl, sq, _, _, _, rfl, rfl, SqL.of e1, rfl, _, rfl, sq, _, _, _, rfl, rfl, SqL.of e1, rfl, _, rfl, sq, _, _, _, rfl, rfl, SqL.of e1, rfl, _, rfl, sq, _, _, _, rfl, rfl, SqL.of e1, rfl, fun p dx np nx nn => mk_sum np nx e2 e3 ok.b1 ok.b2 ok.t1 ok.t2 ok.w1 ok.w2 fun H5' hS S5 => ?_⟩
      exact ⟨p, hS, S5 _ _ hq, R3.same S5, rfl⟩
    clear hs hq R3
    rintro σ H14 ⟨sp, hs, hq, R3, rfl⟩
    refine ⟨fun σ H15 => Same H14 H15 ∧ σ = [some (.ref a), some (.ref r), some (.ref q), some (.int d), some (.ref p), some (.int (blockOf b t)), some (.str (wordOf b t m d)), some (.int n), some (.int c), some (.int (i : Int)), some (.ref g), some (.ref sq), some (.ref sp), none, none, none, none, none, x18], ?_, ?_⟩
    · refine ⟨_, rfl, _, rfl, sp, sb, st, fs, ls, d, rfl, hs, d1, d2, fun oU oF H2' hU hF S2 => ⟨rfl, _, rfl, ?_⟩⟩
      cases oU with
      | none =>
        refine iteT ⟨_, rfl, _, rfl, sp, sb, st, fs, ls, d, rfl, hs.same S2, d1, d2, fun oF2 H3' hF2 S3 => ?_⟩
        cases oF2 with
        | none => exact ⟨rfl, _, rfl, iteF ⟨S2.trans S3, rfl⟩⟩
        | some j =>
          exfalso
          have h1 := hF2.1
          have h2 := hU j
          unfold mism at h1
          rw [h2] at h1
          simp at h1
      | some j =>
        have e : decide (V.str (wordS (some j) oF) = V.str ("rest" : Str)) = false := by
          cases oF with
          | none =>
            show decide (V.str ("multiples" : Str) = V.str ("rest" : Str)) = false
            exact decide_eq_false (fun z => by injection z with z; revert z; decide)
          | some _ =>
            show decide (V.str ("nothing" : Str) = V.str ("rest" : Str)) = false
            exact decide_eq_false (fun z => by injection z with z; revert z; decide)
        rw [e]
        exact iteF (iteF ⟨S2, rfl⟩)
    rintro σ H15 ⟨S15, rfl⟩
    replace hq := S15 _ _ hq
    replace R3 := R3.same S15
    clear S15 hs
    -- labels
    refine ⟨fun σ H16 => ∃ (lc : Addr) (lb : List Int), H16 lc = some (.tup (lb.map V.int)) ∧ (∀ l ∈ lb, 0 ≤ l ∧ l ≤ 19) ∧ 1 ≤ lb.length ∧ lb.length ≤ 20 ∧ H16 q = some (.lst [.int b, .int t, .int m]) ∧ σ = [some (.ref a), some (.ref r), some (.ref q), some (.int d), some (.ref p), some (.int (blockOf b t)), some (.str (wordOf b t m d)), some (.int n), some (.int c), some (.int (i : Int)), some (.ref g), some (.ref sq), some (.ref sp), some (.ref lc), none, none, none, none, x18], ?_, ?_⟩
    · refine ⟨_, rfl, r, a, ns, rfl, R3, fun c ls H' R' B' hc l1 l2 wl => ⟨c, ls, hc, wl, l1, l2, B' _ _ hq nqr, rfl⟩⟩
    clear hq R3
    rintro σ H16 ⟨lc, lb, hl, wl, l1, l2, hq, rfl⟩
    obtain ⟨bn, rfl⟩ : ∃ bn : Nat, b = (bn : Int) := ⟨b.toNat, by omega⟩
    refine ⟨fun σ H17 => ∃ (F : List Int) (cc : Addr), FixP (frontS (bn : Int) lb.length) lb F ∧ H17 cc = some (tnO cc F) ∧ Same H16 H17 ∧ σ = [some (.ref a), some (.ref r), some (.ref q), some (.int d), some (.ref p), some (.int (blockOf (bn : Int) t)), some (.str (wordOf (bn : Int) t m d)), some (.int n), some (.int c), some (.int (i : Int)), some (.ref g), some (.ref sq), some (.ref sp), some (.ref lc), some (.ref cc), none, none, none, x18], ?_, ?_⟩
    · refine ⟨_, rfl, q, _, _, _, rfl, rfl, SqL.of hq, rfl, _, rfl, bn, lc, lb, rfl, hl, wl, l1, l2, by omega, by omega, fun F p H' fx hp S' => ⟨F, p, fx, S', hp, rfl⟩⟩
    rintro σ H17 ⟨F, cc, fx, hcc, S17, rfl⟩
    replace hl := S17 _ _ hl
    replace hq := S17 _ _ hq
    clear S17
    have fl := fx.len front_len.symm
    rw [front_len] at fl
    refine ⟨fun σ H18 => Same H17 H18 ∧ σ = [some (.ref a), some (.ref r), some (.ref q), some (.int d), some (.ref p), some (.int (blockOf (bn : Int) t)), some (.str (wordOf (bn : Int) t m d)), some (.int n), some (.int c), some (.int (i : Int)), some (.ref g), some (.ref sq), some (.ref sp), some (.ref lc), some (.ref cc), none, none, none, x18], ?_, ?_⟩
    · refine ⟨_, rfl, q, _, _, _, rfl, rfl, SqL.of hq, rfl, _, rfl, bn, lc, lb, rfl, hl, wl, l1, l2, by omega, by omega, fun F2 H2' fx2 S2 => ?_⟩
      obtain rfl := fx.uniq fx2
      have hl2 := S2 _ _ hl
      have hq2 := S2 _ _ hq
      have dl := dist_le F
      refine ⟨_, rfl, lc, _, rfl, .inr (SqT.of hl2), _, _, rfl, rfl, _, rfl, ?_⟩
      rw [List.length_map, show decide ((lb.length : Int) < ((dist F).length : Nat)) = false from decide_eq_false (by omega)]
      refine iteF ⟨_, rfl, cc, F, rfl, S2 _ _ hcc, by omega, fun ks nk mem => ?_⟩
      refine ⟨_, rfl, q, _, _, _, rfl, rfl, SqL.of hq2, rfl, _, rfl, bn, lc, lb, rfl, hl2, wl, l1, l2, by omega, by omega, fun F3 H3' fx3 S3 => ?_⟩
      obtain rfl := fx.uniq fx3
      refine ⟨rfl, _, rfl, ?_⟩
      rw [dist_uniq nk mem, decide_eq_true rfl]
      exact iteF ⟨S2.trans S3, rfl⟩
    rintro σ H18 ⟨S18, rfl⟩
    replace hl := S18 _ _ hl
    replace hq := S18 _ _ hq
    replace hcc := S18 _ _ hcc
    clear S18
    refine ⟨fun σ H19 => ∃ x15 : Option V, H19 = H18 ∧ σ = [some (.ref a), some (.ref r), some (.ref q), some (.int d), some (.ref p), some (.int (blockOf (bn : Int) t)), some (.str (wordOf (bn : Int) t m d)), some (.int n), some (.int c), some (.int (i : Int)), some (.ref g), some (.ref sq), some (.ref sp), some (.ref lc), some (.ref cc), x15, none, none, x18], ?_, ?_⟩
    · refine ⟨_, rfl, lc, _, rfl, .inr (SqT.of hl), (lb.length : Int), by rw [List.length_map], by omega, by omega, ?_⟩
      refine for_range (lo := 0) (n := (lb.length : Int).toNat) (fun j σ H20 => ∃ x15 : Option V, H20 = H18 ∧ σ = [some (.ref a), some (.ref r), some (.ref q), some (.int d), some (.ref p), some (.int (blockOf (bn : Int) t)), some (.str (wordOf (bn : Int) t m d)), some (.int n), some (.int c), some (.int (i : Int)), some (.ref g), some (.ref sq), some (.ref sp), some (.ref lc), some (.ref cc), x15, none, none, x18]) ⟨none, rfl, rfl⟩ ?_ ?_
      · rintro j σ H20 hj ⟨x15, rfl, rfl⟩
        have hjl : j < lb.length := by omega
        obtain ⟨z, hz⟩ : ∃ z, F[j]? = some z := ⟨_, List.getElem?_eq_getElem (by omega)⟩
        obtain ⟨f0, hf0⟩ : ∃ f0, (List.range F.length).find? (fun m => decide (F[m]? = some z)) = some f0 := by
          cases e : (List.range F.length).find? (fun m => decide (F[m]? = some z)) with
          | some f0 => exact ⟨f0, rfl⟩
          | none =>
            have := List.find?_eq_none.mp e j (List.mem_range.mpr (by omega))
            exact absurd (decide_eq_true hz) this
        rw [List.find?_range_eq_some] at hf0
        obtain ⟨g1, g2, g3⟩ := hf0
        have g1 : F[f0]? = some z := of_decide_eq_true g1
        have g2 := List.mem_range.mp g2
        have lf0 : f0 < lb.length := by omega
        have at1 : atI (lb.map V.int) (0 + (j : Int)) = some (.int (lb.getD j 0)) := by
          rw [Int.zero_add]
          exact atI_nat (by rw [List.getElem?_map, List.getD_eq_getElem?_getD, List.getElem?_eq_getElem hjl]; rfl)
        have at2 : atI (F.map V.int) (0 + (j : Int)) = some (.int z) := by
          rw [Int.zero_add]
          exact atI_nat (by rw [List.getElem?_map, hz]; rfl)
        have at3 : atI (lb.map V.int) (f0 : Int) = some (.int (lb.getD f0 0)) := atI_nat (by rw [List.getElem?_map, List.getD_eq_getElem?_getD, List.getElem?_eq_getElem lf0]; rfl)
        refine ⟨_, rfl, _, rfl, lc, _, _, _, rfl, rfl, SqT.of hl, at1, _, rfl, _, rfl, cc, F, rfl, hcc, _, rfl, _, rfl, cc, F, _, _, rfl, rfl, hcc, at2, z, f0, rfl, hcc, g1, (fun m hm e => absurd (decide_eq_true e) (by have := g3 m hm; simpa using this)), lc, _, _, _, rfl, rfl, SqT.of hl, at3, rfl, _, rfl, ?_⟩
        have e := fx.label front_len.symm (i := j) (j := f0) (by rw [front_len]; exact hjl) (by rw [front_len]; exact lf0) ((getD_iff (by omega) (by omega)).mpr (hz.trans g1.symm))
        rw [e, decide_eq_true rfl]
        exact iteF ⟨_, rfl, rfl⟩
      · rintro σ H20 ⟨x15, rfl, rfl⟩
        exact ⟨x15, rfl, rfl⟩
    rintro σ H19 ⟨x15, rfl, rfl⟩
    refine ⟨fun σ H20 => ∃ (f l : Addr) (L : List Int) (a0 : Nat), PowR (blockOf (bn : Int) t) d L a0 ∧ (∀ z ∈ L, 0 ≤ z ∧ z < d) ∧ H20 f = some (.tup ((nearL d (L.take a0)).map V.int)) ∧ H20 l = some (.tup ((nearL d (L.drop a0)).map V.int)) ∧ σ = [some (.ref a), some (.ref r), some (.ref q), some (.int d), some (.ref p), some (.int (blockOf (bn : Int) t)), some (.str (wordOf (bn : Int) t m d)), some (.int n), some (.int c), some (.int (i : Int)), some (.ref g), some (.ref sq), some (.ref sp), some (.ref lc), some (.ref cc), x15, some (.ref f), some (.ref l), x18], ?_, ?_⟩
    · refine ⟨_, rfl, q, _, _, _, rfl, rfl, SqL.of hq, rfl, _, rfl, q, _, _, _, rfl, rfl, SqL.of hq, rfl, _, rfl, .int (bn : Int), .int t, .int d, rfl, .int _, .int t, .int d, (fun z => Bool.noConfusion ((intIn_of b1 b2).symm.trans z)), (fun _ z => Bool.noConfusion ((intIn_of t1 t2).symm.trans z)), (fun _ _ z => Bool.noConfusion ((intIn_of d1 d2).symm.trans z)), fun b' t' d' e1 e2 e3 _ _ _ _ _ _ L a0 u f l H' pr sb S' hu hf hl => ?_⟩
      cases e1
      cases e2
      cases e3
      exact ⟨u, _, rfl, SqT.of hu, rfl, _, _, rfl, _, _, rfl, rfl, f, l, L, a0, pr, sb, hf, hl, rfl⟩
    rintro σ H20 ⟨f, l, L, a0, pr, sb, hf, hl2, rfl⟩
    refine ⟨_, rfl, f, _, rfl, .inr (SqT.of hf), _, rfl, l, _, rfl, .inr (SqT.of hl2), _, _, rfl, rfl, _, rfl, _, _, rfl, rfl, ?_⟩
    have ll : L.length ≤ d.toNat := by
      have := pigL ((List.range d.toNat).map fun n : Nat => (n : Int)) L pr.nodup fun x hx => by
        have := sb x hx
        exact List.mem_map.mpr ⟨x.toNat, List.mem_range.mpr (by omega), by omega⟩
      rwa [List.length_map, List.length_range] at this
    unfold nearL
    rw [List.length_map, List.length_map, List.length_map, List.length_map, List.length_take, List.length_drop]
    show Q (.bl (decide (((min a0 L.length : Nat) : Int) + ((L.length - a0 : Nat) : Int) ≤ d))) H20
    rw [show decide (((min a0 L.length : Nat) : Int) + ((L.length - a0 : Nat) : Int) ≤ d) = true from decide_eq_true (by omega)]
    exact kk _

end
/-! ### the end -/
theorem all_mk {l : PySem.W.OpenLaw} {w : World} {K : PySem.W.Frag} {h : Heap} {mg : Str → Option Value} {fa : Addr} (X : K.In h) (G : h.Ns mainGlobals mg) (hfa : mg "law" = some (.ref fa))
    {C_TrickError : Addr}
    {C_BadBase : Addr}
    {C_BadTake : Addr}
    {C_BadTimes : Addr}
    {C_BadTrick : Addr}
    {C_BadDivisor : Addr}
    {C_BadSum : Addr}
    {C_BadNumber : Addr}
    {C_BadWeights : Addr}
    {C_BadRests : Addr}
    {C_BadTricks : Addr}
    {C_TooWide : Addr}
    {tk_GREATEST_NUMBER : Tok}
    {tk_LEAST_BASE : Tok}
    {tk_GREATEST_BASE : Tok}
    {tk_GREATEST_TAKE : Tok}
    {tk_GREATEST_DIVISOR : Tok}
    {tk_GREATEST_TIMES : Tok}
    {tk_MOST_TRICKS : Tok}
    {tk_GREATEST_CHAIN_DIVISOR : Tok}
    {tk_GREATEST_PRODUCT : Tok}
    {tk_MOST_LABELS : Tok}
    {tk_GREATEST_LABEL : Tok}
    {tk_GREATEST_WEIGHT : Tok}
    {tk_MOST_WEIGHTS : Tok}
    {tk_GREATEST_SUM_DIVISOR : Tok}
    {a_check_divisor dT_check_divisor : Addr} {od_check_divisor an_check_divisor dod_check_divisor : Option Addr} {sl_check_divisor dsl_check_divisor : Array (Option Value)} {oc_check_divisor kV_check_divisor dc_check_divisor pm_check_divisor cd_check_divisor ct_check_divisor doc_check_divisor : Value} {dvs_check_divisor : Array Value} {dn_check_divisor : Nat} {dt0_check_divisor : Tok}
    {a_law : Addr} {od_law an_law : Option Addr} {sl_law : Array (Option Value)} {oc_law kV_law dc_law pm_law cd_law ct_law : Value}
    {C_Trick : Addr}
    {a_Trick___init__ : Addr} {od_Trick___init__ an_Trick___init__ : Option Addr} {sl_Trick___init__ : Array (Option Value)} {oc_Trick___init__ kV_Trick___init__ dc_Trick___init__ pm_Trick___init__ cd_Trick___init__ ct_Trick___init__ : Value}
    {pr_Trick_base : Addr} {rs_Trick_base : List Value}
    {a_Trick_base : Addr} {od_Trick_base an_Trick_base : Option Addr} {sl_Trick_base : Array (Option Value)} {oc_Trick_base kV_Trick_base dc_Trick_base pm_Trick_base cd_Trick_base ct_Trick_base : Value}
    {pr_Trick_take : Addr} {rs_Trick_take : List Value}
    {a_Trick_take : Addr} {od_Trick_take an_Trick_take : Option Addr} {sl_Trick_take : Array (Option Value)} {oc_Trick_take kV_Trick_take dc_Trick_take pm_Trick_take cd_Trick_take ct_Trick_take : Value}
    {pr_Trick_times : Addr} {rs_Trick_times : List Value}
    {a_Trick_times : Addr} {od_Trick_times an_Trick_times : Option Addr} {sl_Trick_times : Array (Option Value)} {oc_Trick_times kV_Trick_times dc_Trick_times pm_Trick_times cd_Trick_times ct_Trick_times : Value}
    {a_Trick___eq__ : Addr} {od_Trick___eq__ an_Trick___eq__ : Option Addr} {sl_Trick___eq__ : Array (Option Value)} {oc_Trick___eq__ kV_Trick___eq__ dc_Trick___eq__ pm_Trick___eq__ cd_Trick___eq__ ct_Trick___eq__ : Value}
    {C_Sum : Addr}
    {a_Sum___init__ : Addr} {od_Sum___init__ an_Sum___init__ : Option Addr} {sl_Sum___init__ : Array (Option Value)} {oc_Sum___init__ kV_Sum___init__ dc_Sum___init__ pm_Sum___init__ cd_Sum___init__ ct_Sum___init__ : Value}
    {pr_Sum_base : Addr} {rs_Sum_base : List Value}
    {a_Sum_base : Addr} {od_Sum_base an_Sum_base : Option Addr} {sl_Sum_base : Array (Option Value)} {oc_Sum_base kV_Sum_base dc_Sum_base pm_Sum_base cd_Sum_base ct_Sum_base : Value}
    {pr_Sum_take : Addr} {rs_Sum_take : List Value}
    {a_Sum_take : Addr} {od_Sum_take an_Sum_take : Option Addr} {sl_Sum_take : Array (Option Value)} {oc_Sum_take kV_Sum_take dc_Sum_take pm_Sum_take cd_Sum_take ct_Sum_take : Value}
    {pr_Sum_first : Addr} {rs_Sum_first : List Value}
    {a_Sum_first : Addr} {od_Sum_first an_Sum_first : Option Addr} {sl_Sum_first : Array (Option Value)} {oc_Sum_first kV_Sum_first dc_Sum_first pm_Sum_first cd_Sum_first ct_Sum_first : Value}
    {pr_Sum_loop : Addr} {rs_Sum_loop : List Value}
    {a_Sum_loop : Addr} {od_Sum_loop an_Sum_loop : Option Addr} {sl_Sum_loop : Array (Option Value)} {oc_Sum_loop kV_Sum_loop dc_Sum_loop pm_Sum_loop cd_Sum_loop ct_Sum_loop : Value}
    {a_Sum___eq__ : Addr} {od_Sum___eq__ an_Sum___eq__ : Option Addr} {sl_Sum___eq__ : Array (Option Value)} {oc_Sum___eq__ kV_Sum___eq__ dc_Sum___eq__ pm_Sum___eq__ cd_Sum___eq__ ct_Sum___eq__ : Value}
    {a_BadNumber___init__ cda_BadNumber___init__ cc_BadNumber___init__ N_BadNumber___init__ : Addr} {od_BadNumber___init__ an_BadNumber___init__ cdd_BadNumber___init__ cld_BadNumber___init__ dd_BadNumber___init__ : Option Addr} {sl_BadNumber___init__ ccs_BadNumber___init__ csl_BadNumber___init__ : Array (Option Value)} {oc_BadNumber___init__ dc_BadNumber___init__ pm_BadNumber___init__ ct_BadNumber___init__ ccl_BadNumber___init__ cl_BadNumber___init__ : Value} {vs_BadNumber___init__ : Array Value} {file_BadNumber___init__ nm_BadNumber___init__ qn_BadNumber___init__ : Str} {tf_BadNumber___init__ : Tok} {bs_BadNumber___init__ bm_BadNumber___init__ sub_BadNumber___init__ : List Value} {sn_BadNumber___init__ : List Str} {ab_BadNumber___init__ : Bool} {col_BadNumber___init__ : Option Bool} {k0_BadNumber___init__ k1_BadNumber___init__ k2_BadNumber___init__ k3_BadNumber___init__ k5_BadNumber___init__ : Option Value}
    {a_BadWeights___init__ cda_BadWeights___init__ cc_BadWeights___init__ N_BadWeights___init__ : Addr} {od_BadWeights___init__ an_BadWeights___init__ cdd_BadWeights___init__ cld_BadWeights___init__ dd_BadWeights___init__ : Option Addr} {sl_BadWeights___init__ ccs_BadWeights___init__ csl_BadWeights___init__ : Array (Option Value)} {oc_BadWeights___init__ dc_BadWeights___init__ pm_BadWeights___init__ ct_BadWeights___init__ ccl_BadWeights___init__ cl_BadWeights___init__ : Value} {vs_BadWeights___init__ : Array Value} {file_BadWeights___init__ nm_BadWeights___init__ qn_BadWeights___init__ : Str} {tf_BadWeights___init__ : Tok} {bs_BadWeights___init__ bm_BadWeights___init__ sub_BadWeights___init__ : List Value} {sn_BadWeights___init__ : List Str} {ab_BadWeights___init__ : Bool} {col_BadWeights___init__ : Option Bool} {k0_BadWeights___init__ k1_BadWeights___init__ k2_BadWeights___init__ k3_BadWeights___init__ k5_BadWeights___init__ : Option Value}
    {a_BadRests___init__ cda_BadRests___init__ cc_BadRests___init__ N_BadRests___init__ : Addr} {od_BadRests___init__ an_BadRests___init__ cdd_BadRests___init__ cld_BadRests___init__ dd_BadRests___init__ : Option Addr} {sl_BadRests___init__ ccs_BadRests___init__ csl_BadRests___init__ : Array (Option Value)} {oc_BadRests___init__ dc_BadRests___init__ pm_BadRests___init__ ct_BadRests___init__ ccl_BadRests___init__ cl_BadRests___init__ : Value} {vs_BadRests___init__ : Array Value} {file_BadRests___init__ nm_BadRests___init__ qn_BadRests___init__ : Str} {tf_BadRests___init__ : Tok} {bs_BadRests___init__ bm_BadRests___init__ sub_BadRests___init__ : List Value} {sn_BadRests___init__ : List Str} {ab_BadRests___init__ : Bool} {col_BadRests___init__ : Option Bool} {k0_BadRests___init__ k1_BadRests___init__ k2_BadRests___init__ k3_BadRests___init__ k5_BadRests___init__ : Option Value}
    {a_BadTricks___init__ cda_BadTricks___init__ cc_BadTricks___init__ N_BadTricks___init__ : Addr} {od_BadTricks___init__ an_BadTricks___init__ cdd_BadTricks___init__ cld_BadTricks___init__ dd_BadTricks___init__ : Option Addr} {sl_BadTricks___init__ ccs_BadTricks___init__ csl_BadTricks___init__ : Array (Option Value)} {oc_BadTricks___init__ dc_BadTricks___init__ pm_BadTricks___init__ ct_BadTricks___init__ ccl_BadTricks___init__ cl_BadTricks___init__ : Value} {vs_BadTricks___init__ : Array Value} {file_BadTricks___init__ nm_BadTricks___init__ qn_BadTricks___init__ : Str} {tf_BadTricks___init__ : Tok} {bs_BadTricks___init__ bm_BadTricks___init__ sub_BadTricks___init__ : List Value} {sn_BadTricks___init__ : List Str} {ab_BadTricks___init__ : Bool} {col_BadTricks___init__ : Option Bool} {k0_BadTricks___init__ k1_BadTricks___init__ k2_BadTricks___init__ k3_BadTricks___init__ k5_BadTricks___init__ : Option Value}
    {a_TooWide___init__ cda_TooWide___init__ cc_TooWide___init__ N_TooWide___init__ : Addr} {od_TooWide___init__ an_TooWide___init__ cdd_TooWide___init__ cld_TooWide___init__ dd_TooWide___init__ : Option Addr} {sl_TooWide___init__ ccs_TooWide___init__ csl_TooWide___init__ : Array (Option Value)} {oc_TooWide___init__ dc_TooWide___init__ pm_TooWide___init__ ct_TooWide___init__ ccl_TooWide___init__ cl_TooWide___init__ : Value} {vs_TooWide___init__ : Array Value} {file_TooWide___init__ nm_TooWide___init__ qn_TooWide___init__ : Str} {tf_TooWide___init__ : Tok} {bs_TooWide___init__ bm_TooWide___init__ sub_TooWide___init__ : List Value} {sn_TooWide___init__ : List Str} {ab_TooWide___init__ : Bool} {col_TooWide___init__ : Option Bool} {k0_TooWide___init__ k1_TooWide___init__ k2_TooWide___init__ k3_TooWide___init__ k5_TooWide___init__ : Option Value}
    (gx_TrickError : PySem.W.nsIn K mainGlobals "TrickError" = some (some (.ref C_TrickError)))
    (x_TrickError : PySem.W.excIn K C_TrickError [.type "ValueError", .type "Exception", .type "BaseException", .type "object"] "ValueError.__new__" = true)
    (k_TrickError : PySem.W.keepIn K (.ref C_TrickError) = true)
    (s_TrickError : PySem.W.subIn K (.ref C_TrickError) (.type "BaseException") = some true)
    (t_TrickError : PySem.W.typeIn K (.ref C_TrickError) = some (.type "type"))
    (gx_BadBase : PySem.W.nsIn K mainGlobals "BadBase" = some (some (.ref C_BadBase)))
    (x_BadBase : PySem.W.excIn K C_BadBase [.type "ValueError", .type "Exception", .type "BaseException", .type "object"] "ValueError.__new__" = true)
    (k_BadBase : PySem.W.keepIn K (.ref C_BadBase) = true)
    (s_BadBase : PySem.W.subIn K (.ref C_BadBase) (.type "BaseException") = some true)
    (t_BadBase : PySem.W.typeIn K (.ref C_BadBase) = some (.type "type"))
    (gx_BadTake : PySem.W.nsIn K mainGlobals "BadTake" = some (some (.ref C_BadTake)))
    (x_BadTake : PySem.W.excIn K C_BadTake [.type "ValueError", .type "Exception", .type "BaseException", .type "object"] "ValueError.__new__" = true)
    (k_BadTake : PySem.W.keepIn K (.ref C_BadTake) = true)
    (s_BadTake : PySem.W.subIn K (.ref C_BadTake) (.type "BaseException") = some true)
    (t_BadTake : PySem.W.typeIn K (.ref C_BadTake) = some (.type "type"))
    (gx_BadTimes : PySem.W.nsIn K mainGlobals "BadTimes" = some (some (.ref C_BadTimes)))
    (x_BadTimes : PySem.W.excIn K C_BadTimes [.type "ValueError", .type "Exception", .type "BaseException", .type "object"] "ValueError.__new__" = true)
    (k_BadTimes : PySem.W.keepIn K (.ref C_BadTimes) = true)
    (s_BadTimes : PySem.W.subIn K (.ref C_BadTimes) (.type "BaseException") = some true)
    (t_BadTimes : PySem.W.typeIn K (.ref C_BadTimes) = some (.type "type"))
    (gx_BadTrick : PySem.W.nsIn K mainGlobals "BadTrick" = some (some (.ref C_BadTrick)))
    (x_BadTrick : PySem.W.excIn K C_BadTrick [.type "ValueError", .type "Exception", .type "BaseException", .type "object"] "ValueError.__new__" = true)
    (k_BadTrick : PySem.W.keepIn K (.ref C_BadTrick) = true)
    (s_BadTrick : PySem.W.subIn K (.ref C_BadTrick) (.type "BaseException") = some true)
    (t_BadTrick : PySem.W.typeIn K (.ref C_BadTrick) = some (.type "type"))
    (gx_BadDivisor : PySem.W.nsIn K mainGlobals "BadDivisor" = some (some (.ref C_BadDivisor)))
    (x_BadDivisor : PySem.W.excIn K C_BadDivisor [.type "ValueError", .type "Exception", .type "BaseException", .type "object"] "ValueError.__new__" = true)
    (k_BadDivisor : PySem.W.keepIn K (.ref C_BadDivisor) = true)
    (s_BadDivisor : PySem.W.subIn K (.ref C_BadDivisor) (.type "BaseException") = some true)
    (t_BadDivisor : PySem.W.typeIn K (.ref C_BadDivisor) = some (.type "type"))
    (gx_BadSum : PySem.W.nsIn K mainGlobals "BadSum" = some (some (.ref C_BadSum)))
    (x_BadSum : PySem.W.excIn K C_BadSum [.type "ValueError", .type "Exception", .type "BaseException", .type "object"] "ValueError.__new__" = true)
    (k_BadSum : PySem.W.keepIn K (.ref C_BadSum) = true)
    (s_BadSum : PySem.W.subIn K (.ref C_BadSum) (.type "BaseException") = some true)
    (t_BadSum : PySem.W.typeIn K (.ref C_BadSum) = some (.type "type"))
    (gx_BadNumber : PySem.W.nsIn K mainGlobals "BadNumber" = some (some (.ref C_BadNumber)))
    (k_BadNumber : PySem.W.keepIn K (.ref C_BadNumber) = true)
    (s_BadNumber : PySem.W.subIn K (.ref C_BadNumber) (.type "BaseException") = some true)
    (t_BadNumber : PySem.W.typeIn K (.ref C_BadNumber) = some (.type "type"))
    (gx_BadWeights : PySem.W.nsIn K mainGlobals "BadWeights" = some (some (.ref C_BadWeights)))
    (k_BadWeights : PySem.W.keepIn K (.ref C_BadWeights) = true)
    (s_BadWeights : PySem.W.subIn K (.ref C_BadWeights) (.type "BaseException") = some true)
    (t_BadWeights : PySem.W.typeIn K (.ref C_BadWeights) = some (.type "type"))
    (gx_BadRests : PySem.W.nsIn K mainGlobals "BadRests" = some (some (.ref C_BadRests)))
    (k_BadRests : PySem.W.keepIn K (.ref C_BadRests) = true)
    (s_BadRests : PySem.W.subIn K (.ref C_BadRests) (.type "BaseException") = some true)
    (t_BadRests : PySem.W.typeIn K (.ref C_BadRests) = some (.type "type"))
    (gx_BadTricks : PySem.W.nsIn K mainGlobals "BadTricks" = some (some (.ref C_BadTricks)))
    (k_BadTricks : PySem.W.keepIn K (.ref C_BadTricks) = true)
    (s_BadTricks : PySem.W.subIn K (.ref C_BadTricks) (.type "BaseException") = some true)
    (t_BadTricks : PySem.W.typeIn K (.ref C_BadTricks) = some (.type "type"))
    (gx_TooWide : PySem.W.nsIn K mainGlobals "TooWide" = some (some (.ref C_TooWide)))
    (k_TooWide : PySem.W.keepIn K (.ref C_TooWide) = true)
    (s_TooWide : PySem.W.subIn K (.ref C_TooWide) (.type "BaseException") = some true)
    (t_TooWide : PySem.W.typeIn K (.ref C_TooWide) = some (.type "type"))
    (cx_GREATEST_NUMBER : PySem.W.nsIn K mainGlobals "GREATEST_NUMBER" = some (some (.int 10000000000000000000000000000000000000000 tk_GREATEST_NUMBER)))
    (cx_LEAST_BASE : PySem.W.nsIn K mainGlobals "LEAST_BASE" = some (some (.int 2 tk_LEAST_BASE)))
    (cx_GREATEST_BASE : PySem.W.nsIn K mainGlobals "GREATEST_BASE" = some (some (.int 16 tk_GREATEST_BASE)))
    (cx_GREATEST_TAKE : PySem.W.nsIn K mainGlobals "GREATEST_TAKE" = some (some (.int 2 tk_GREATEST_TAKE)))
    (cx_GREATEST_DIVISOR : PySem.W.nsIn K mainGlobals "GREATEST_DIVISOR" = some (some (.int 100 tk_GREATEST_DIVISOR)))
    (cx_GREATEST_TIMES : PySem.W.nsIn K mainGlobals "GREATEST_TIMES" = some (some (.int 100 tk_GREATEST_TIMES)))
    (cx_MOST_TRICKS : PySem.W.nsIn K mainGlobals "MOST_TRICKS" = some (some (.int 4 tk_MOST_TRICKS)))
    (cx_GREATEST_CHAIN_DIVISOR : PySem.W.nsIn K mainGlobals "GREATEST_CHAIN_DIVISOR" = some (some (.int 30 tk_GREATEST_CHAIN_DIVISOR)))
    (cx_GREATEST_PRODUCT : PySem.W.nsIn K mainGlobals "GREATEST_PRODUCT" = some (some (.int 300 tk_GREATEST_PRODUCT)))
    (cx_MOST_LABELS : PySem.W.nsIn K mainGlobals "MOST_LABELS" = some (some (.int 20 tk_MOST_LABELS)))
    (cx_GREATEST_LABEL : PySem.W.nsIn K mainGlobals "GREATEST_LABEL" = some (some (.int 19 tk_GREATEST_LABEL)))
    (cx_GREATEST_WEIGHT : PySem.W.nsIn K mainGlobals "GREATEST_WEIGHT" = some (some (.int 1000000 tk_GREATEST_WEIGHT)))
    (cx_MOST_WEIGHTS : PySem.W.nsIn K mainGlobals "MOST_WEIGHTS" = some (some (.int 12 tk_MOST_WEIGHTS)))
    (cx_GREATEST_SUM_DIVISOR : PySem.W.nsIn K mainGlobals "GREATEST_SUM_DIVISOR" = some (some (.int 30 tk_GREATEST_SUM_DIVISOR)))
    (df_is_integer : ∃ (a : Addr) (d : FuncData), PySem.W.nsIn K mainGlobals "is_integer" = some (some (.ref a)) ∧ Fun K "is_integer" "is_integer" s_is_integer a d)
    (df_is_tuple : ∃ (a : Addr) (d : FuncData), PySem.W.nsIn K mainGlobals "is_tuple" = some (some (.ref a)) ∧ Fun K "is_tuple" "is_tuple" s_is_tuple a d)
    (df_is_list_or_tuple : ∃ (a : Addr) (d : FuncData), PySem.W.nsIn K mainGlobals "is_list_or_tuple" = some (some (.ref a)) ∧ Fun K "is_list_or_tuple" "is_list_or_tuple" s_is_list_or_tuple a d)
    (df_is_number : ∃ (a : Addr) (d : FuncData), PySem.W.nsIn K mainGlobals "is_number" = some (some (.ref a)) ∧ Fun K "is_number" "is_number" s_is_number a d)
    (df_first_wrong : ∃ (a : Addr) (d : FuncData), PySem.W.nsIn K mainGlobals "first_wrong" = some (some (.ref a)) ∧ Fun K "first_wrong" "first_wrong" s_first_wrong a d)
    (df_check_base : ∃ (a : Addr) (d : FuncData), PySem.W.nsIn K mainGlobals "check_base" = some (some (.ref a)) ∧ Fun K "check_base" "check_base" s_check_base a d)
    (df_check_take : ∃ (a : Addr) (d : FuncData), PySem.W.nsIn K mainGlobals "check_take" = some (some (.ref a)) ∧ Fun K "check_take" "check_take" s_check_take a d)
    (gf_check_divisor : PySem.W.nsIn K mainGlobals "check_divisor" = some (some (.ref a_check_divisor)))
    (l_check_divisor : K.lookup a_check_divisor = some ⟨oc_check_divisor, od_check_divisor, .func (PySem.W.fnOf "check_divisor" "check_divisor" (defArgs s_check_divisor) (defBody s_check_divisor) (defScope s_check_divisor) (.ref dT_check_divisor) kV_check_divisor dc_check_divisor pm_check_divisor an_check_divisor cd_check_divisor ct_check_divisor), sl_check_divisor⟩)
    (c_check_divisor : PySem.W.codeIn K cd_check_divisor "check_divisor" = true)
    (kp_check_divisor : PySem.W.keepIn K (.ref a_check_divisor) = true)
    (ldT_check_divisor : K.lookup dT_check_divisor = some ⟨doc_check_divisor, dod_check_divisor, .seq dvs_check_divisor dn_check_divisor, dsl_check_divisor⟩)
    (rdv_check_divisor : dvs_check_divisor = #[.int 100 dt0_check_divisor])
    (df_check_number : ∃ (a : Addr) (d : FuncData), PySem.W.nsIn K mainGlobals "check_number" = some (some (.ref a)) ∧ Fun K "check_number" "check_number" s_check_number a d)
    (df_block_of : ∃ (a : Addr) (d : FuncData), PySem.W.nsIn K mainGlobals "block_of" = some (some (.ref a)) ∧ Fun K "block_of" "block_of" s_block_of a d)
    (df_done : ∃ (a : Addr) (d : FuncData), PySem.W.nsIn K mainGlobals "done" = some (some (.ref a)) ∧ Fun K "done" "done" s_done a d)
    (df_check_trick : ∃ (a : Addr) (d : FuncData), PySem.W.nsIn K mainGlobals "check_trick" = some (some (.ref a)) ∧ Fun K "check_trick" "check_trick" s_check_trick a d)
    (df_trick_block : ∃ (a : Addr) (d : FuncData), PySem.W.nsIn K mainGlobals "trick_block" = some (some (.ref a)) ∧ Fun K "trick_block" "trick_block" s_trick_block a d)
    (df_made_of : ∃ (a : Addr) (d : FuncData), PySem.W.nsIn K mainGlobals "made_of" = some (some (.ref a)) ∧ Fun K "made_of" "made_of" s_made_of a d)
    (df_made_with : ∃ (a : Addr) (d : FuncData), PySem.W.nsIn K mainGlobals "made_with" = some (some (.ref a)) ∧ Fun K "made_with" "made_with" s_made_with a d)
    (df_tells : ∃ (a : Addr) (d : FuncData), PySem.W.nsIn K mainGlobals "tells" = some (some (.ref a)) ∧ Fun K "tells" "tells" s_tells a d)
    (df_factor : ∃ (a : Addr) (d : FuncData), PySem.W.nsIn K mainGlobals "factor" = some (some (.ref a)) ∧ Fun K "factor" "factor" s_factor a d)
    (df_multipliers : ∃ (a : Addr) (d : FuncData), PySem.W.nsIn K mainGlobals "multipliers" = some (some (.ref a)) ∧ Fun K "multipliers" "multipliers" s_multipliers a d)
    (df_keeps_rest : ∃ (a : Addr) (d : FuncData), PySem.W.nsIn K mainGlobals "keeps_rest" = some (some (.ref a)) ∧ Fun K "keeps_rest" "keeps_rest" s_keeps_rest a d)
    (df_tells_multiples : ∃ (a : Addr) (d : FuncData), PySem.W.nsIn K mainGlobals "tells_multiples" = some (some (.ref a)) ∧ Fun K "tells_multiples" "tells_multiples" s_tells_multiples a d)
    (df_chain_tells : ∃ (a : Addr) (d : FuncData), PySem.W.nsIn K mainGlobals "chain_tells" = some (some (.ref a)) ∧ Fun K "chain_tells" "chain_tells" s_chain_tells a d)
    (df_check_tricks : ∃ (a : Addr) (d : FuncData), PySem.W.nsIn K mainGlobals "check_tricks" = some (some (.ref a)) ∧ Fun K "check_tricks" "check_tricks" s_check_tricks a d)
    (df_check_chain : ∃ (a : Addr) (d : FuncData), PySem.W.nsIn K mainGlobals "check_chain" = some (some (.ref a)) ∧ Fun K "check_chain" "check_chain" s_check_chain a d)
    (df_made_of_all : ∃ (a : Addr) (d : FuncData), PySem.W.nsIn K mainGlobals "made_of_all" = some (some (.ref a)) ∧ Fun K "made_of_all" "made_of_all" s_made_of_all a d)
    (df_blocks_product : ∃ (a : Addr) (d : FuncData), PySem.W.nsIn K mainGlobals "blocks_product" = some (some (.ref a)) ∧ Fun K "blocks_product" "blocks_product" s_blocks_product a d)
    (df_rest_pairs : ∃ (a : Addr) (d : FuncData), PySem.W.nsIn K mainGlobals "rest_pairs" = some (some (.ref a)) ∧ Fun K "rest_pairs" "rest_pairs" s_rest_pairs a d)
    (df_bound : ∃ (a : Addr) (d : FuncData), PySem.W.nsIn K mainGlobals "bound" = some (some (.ref a)) ∧ Fun K "bound" "bound" s_bound a d)
    (df_ring_of : ∃ (a : Addr) (d : FuncData), PySem.W.nsIn K mainGlobals "ring_of" = some (some (.ref a)) ∧ Fun K "ring_of" "ring_of" s_ring_of a d)
    (df_greatest_size : ∃ (a : Addr) (d : FuncData), PySem.W.nsIn K mainGlobals "greatest_size" = some (some (.ref a)) ∧ Fun K "greatest_size" "greatest_size" s_greatest_size a d)
    (df_rounded_up : ∃ (a : Addr) (d : FuncData), PySem.W.nsIn K mainGlobals "rounded_up" = some (some (.ref a)) ∧ Fun K "rounded_up" "rounded_up" s_rounded_up a d)
    (df_unseen_path : ∃ (a : Addr) (d : FuncData), PySem.W.nsIn K mainGlobals "unseen_path" = some (some (.ref a)) ∧ Fun K "unseen_path" "unseen_path" s_unseen_path a d)
    (df_ring_at_end : ∃ (a : Addr) (d : FuncData), PySem.W.nsIn K mainGlobals "ring_at_end" = some (some (.ref a)) ∧ Fun K "ring_at_end" "ring_at_end" s_ring_at_end a d)
    (df_front_states : ∃ (a : Addr) (d : FuncData), PySem.W.nsIn K mainGlobals "front_states" = some (some (.ref a)) ∧ Fun K "front_states" "front_states" s_front_states a d)
    (df_front_classes : ∃ (a : Addr) (d : FuncData), PySem.W.nsIn K mainGlobals "front_classes" = some (some (.ref a)) ∧ Fun K "front_classes" "front_classes" s_front_classes a d)
    (df_check_labels : ∃ (a : Addr) (d : FuncData), PySem.W.nsIn K mainGlobals "check_labels" = some (some (.ref a)) ∧ Fun K "check_labels" "check_labels" s_check_labels a d)
    (df_front_machine : ∃ (a : Addr) (d : FuncData), PySem.W.nsIn K mainGlobals "front_machine" = some (some (.ref a)) ∧ Fun K "front_machine" "front_machine" s_front_machine a d)
    (df_classes : ∃ (a : Addr) (d : FuncData), PySem.W.nsIn K mainGlobals "classes" = some (some (.ref a)) ∧ Fun K "classes" "classes" s_classes a d)
    (df_numbered : ∃ (a : Addr) (d : FuncData), PySem.W.nsIn K mainGlobals "numbered" = some (some (.ref a)) ∧ Fun K "numbered" "numbered" s_numbered a d)
    (df_sum_tells : ∃ (a : Addr) (d : FuncData), PySem.W.nsIn K mainGlobals "sum_tells" = some (some (.ref a)) ∧ Fun K "sum_tells" "sum_tells" s_sum_tells a d)
    (df_sum_rest_fails : ∃ (a : Addr) (d : FuncData), PySem.W.nsIn K mainGlobals "sum_rest_fails" = some (some (.ref a)) ∧ Fun K "sum_rest_fails" "sum_rest_fails" s_sum_rest_fails a d)
    (df_sum_fails : ∃ (a : Addr) (d : FuncData), PySem.W.nsIn K mainGlobals "sum_fails" = some (some (.ref a)) ∧ Fun K "sum_fails" "sum_fails" s_sum_fails a d)
    (df_rest_weights : ∃ (a : Addr) (d : FuncData), PySem.W.nsIn K mainGlobals "rest_weights" = some (some (.ref a)) ∧ Fun K "rest_weights" "rest_weights" s_rest_weights a d)
    (df_check_weights : ∃ (a : Addr) (d : FuncData), PySem.W.nsIn K mainGlobals "check_weights" = some (some (.ref a)) ∧ Fun K "check_weights" "check_weights" s_check_weights a d)
    (df_check_sum : ∃ (a : Addr) (d : FuncData), PySem.W.nsIn K mainGlobals "check_sum" = some (some (.ref a)) ∧ Fun K "check_sum" "check_sum" s_check_sum a d)
    (df_sum_block : ∃ (a : Addr) (d : FuncData), PySem.W.nsIn K mainGlobals "sum_block" = some (some (.ref a)) ∧ Fun K "sum_block" "sum_block" s_sum_block a d)
    (df_weight_at : ∃ (a : Addr) (d : FuncData), PySem.W.nsIn K mainGlobals "weight_at" = some (some (.ref a)) ∧ Fun K "weight_at" "weight_at" s_weight_at a d)
    (df_power_rests : ∃ (a : Addr) (d : FuncData), PySem.W.nsIn K mainGlobals "power_rests" = some (some (.ref a)) ∧ Fun K "power_rests" "power_rests" s_power_rests a d)
    (df_nearest : ∃ (a : Addr) (d : FuncData), PySem.W.nsIn K mainGlobals "nearest" = some (some (.ref a)) ∧ Fun K "nearest" "nearest" s_nearest a d)
    (df_turn : ∃ (a : Addr) (d : FuncData), PySem.W.nsIn K mainGlobals "turn" = some (some (.ref a)) ∧ Fun K "turn" "turn" s_turn a d)
    (df_new_rests : ∃ (a : Addr) (d : FuncData), PySem.W.nsIn K mainGlobals "new_rests" = some (some (.ref a)) ∧ Fun K "new_rests" "new_rests" s_new_rests a d)
    (df__law_taken : ∃ (a : Addr) (d : FuncData), PySem.W.nsIn K mainGlobals "_law_taken" = some (some (.ref a)) ∧ Fun K "_law_taken" "_law_taken" s__law_taken a d)
    (df__law_power : ∃ (a : Addr) (d : FuncData), PySem.W.nsIn K mainGlobals "_law_power" = some (some (.ref a)) ∧ Fun K "_law_power" "_law_power" s__law_power a d)
    (df__law_trick : ∃ (a : Addr) (d : FuncData), PySem.W.nsIn K mainGlobals "_law_trick" = some (some (.ref a)) ∧ Fun K "_law_trick" "_law_trick" s__law_trick a d)
    (df__law_number : ∃ (a : Addr) (d : FuncData), PySem.W.nsIn K mainGlobals "_law_number" = some (some (.ref a)) ∧ Fun K "_law_number" "_law_number" s__law_number a d)
    (df__law_sum : ∃ (a : Addr) (d : FuncData), PySem.W.nsIn K mainGlobals "_law_sum" = some (some (.ref a)) ∧ Fun K "_law_sum" "_law_sum" s__law_sum a d)
    (df__law_labels : ∃ (a : Addr) (d : FuncData), PySem.W.nsIn K mainGlobals "_law_labels" = some (some (.ref a)) ∧ Fun K "_law_labels" "_law_labels" s__law_labels a d)
    (gf_law : PySem.W.nsIn K mainGlobals "law" = some (some (.ref a_law)))
    (l_law : K.lookup a_law = some ⟨oc_law, od_law, .func (PySem.W.fnOf "law" "law" (defArgs s_law) (defBody s_law) (defScope s_law) .none kV_law dc_law pm_law an_law cd_law ct_law), sl_law⟩)
    (c_law : PySem.W.codeIn K cd_law "law" = true)
    (kp_law : PySem.W.keepIn K (.ref a_law) = true)
    (gx_Trick : PySem.W.nsIn K mainGlobals "Trick" = some (some (.ref C_Trick)))
    (pg_Trick : PySem.W.plainGet K C_Trick Str.empty = true)
    (hd_Trick : PySem.W.hasDictIn K C_Trick = true)
    (po_Trick : PySem.W.plainOver K C_Trick = true)
    (sa_Trick : PySem.W.findIn K (.ref C_Trick) "__setattr__" = some (some (.builtin "object.__setattr__")))
    (mk_Trick : PySem.W.makesIn K C_Trick = true)
    (kc_Trick : PySem.W.keepIn K (.ref C_Trick) = true)
    (cc_Trick : PySem.W.findIn K (.ref C_Trick) "__class__" = some (some (.builtin "object.__class__")))
    (mo_Trick : PySem.W.mroIn K C_Trick (.type "object") = some true)
    (sp_cls : PySem.W.specialIn K (.builtin "object.__class__") "__get__" = some (some (.builtin "getset_descriptor.__get__")))
    (tk_cls : PySem.W.takesIn K (.builtin "object.__class__") = some true)
    (ki_Trick_int : PySem.W.kitOne K (.ref C_Trick) (.type "int") = some false)
    (ki_Trick_bool : PySem.W.kitOne K (.ref C_Trick) (.type "bool") = some false)
    (ki_Trick_tuple : PySem.W.kitOne K (.ref C_Trick) (.type "tuple") = some false)
    (ki_Trick_list : PySem.W.kitOne K (.ref C_Trick) (.type "list") = some false)
    (nf_Trick_tuple : PySem.W.subIn K (.type "tuple") (.ref C_Trick) = some false)
    (kis_Trick : PySem.W.kitOne K (.ref C_Trick) (.ref C_Trick) = some true)
    (kin_Trick_int : PySem.W.kitOne K (.type "int") (.ref C_Trick) = some false)
    (kin_Trick_bool : PySem.W.kitOne K (.type "bool") (.ref C_Trick) = some false)
    (kin_Trick_tuple : PySem.W.kitOne K (.type "tuple") (.ref C_Trick) = some false)
    (kin_Trick_list : PySem.W.kitOne K (.type "list") (.ref C_Trick) = some false)
    (kin_Trick_NoneType : PySem.W.kitOne K (.type "NoneType") (.ref C_Trick) = some false)
    (kin_Trick_str : PySem.W.kitOne K (.type "str") (.ref C_Trick) = some false)
    (kin_Trick_dict : PySem.W.kitOne K (.type "dict") (.ref C_Trick) = some false)
    (na_Trick_base : PySem.W.findIn K (.ref C_Trick) "_base" = some none)
    (na_Trick_take : PySem.W.findIn K (.ref C_Trick) "_take" = some none)
    (na_Trick_times : PySem.W.findIn K (.ref C_Trick) "_times" = some none)
    (gf_Trick___init__ : PySem.W.findIn K (.ref C_Trick) "__init__" = some (some (.ref a_Trick___init__)))
    (l_Trick___init__ : K.lookup a_Trick___init__ = some ⟨oc_Trick___init__, od_Trick___init__, .func (PySem.W.fnOf "__init__" "Trick.__init__" (defArgs s_Trick___init__) (defBody s_Trick___init__) (defScope s_Trick___init__) .none kV_Trick___init__ dc_Trick___init__ pm_Trick___init__ an_Trick___init__ cd_Trick___init__ ct_Trick___init__), sl_Trick___init__⟩)
    (c_Trick___init__ : PySem.W.codeIn K cd_Trick___init__ "Trick.__init__" = true)
    (kp_Trick___init__ : PySem.W.keepIn K (.ref a_Trick___init__) = true)
    (isf_Trick___init__ : PySem.W.isFn K (.ref a_Trick___init__) = true)
    (pa_Trick_base : PySem.W.findIn K (.ref C_Trick) "base" = some (some (.ref pr_Trick_base)))
    (pg_Trick_base : PySem.W.specialIn K (.ref pr_Trick_base) "__get__" = some (some (.builtin "property.__get__")))
    (pt_Trick_base : PySem.W.takesIn K (.ref pr_Trick_base) = some true)
    (prr_Trick_base : PySem.W.recIn K pr_Trick_base "property" = some (.ref a_Trick_base :: rs_Trick_base))
    (l_Trick_base : K.lookup a_Trick_base = some ⟨oc_Trick_base, od_Trick_base, .func (PySem.W.fnOf "base" "Trick.base" (defArgs s_Trick_base) (defBody s_Trick_base) (defScope s_Trick_base) .none kV_Trick_base dc_Trick_base pm_Trick_base an_Trick_base cd_Trick_base ct_Trick_base), sl_Trick_base⟩)
    (c_Trick_base : PySem.W.codeIn K cd_Trick_base "Trick.base" = true)
    (kp_Trick_base : PySem.W.keepIn K (.ref a_Trick_base) = true)
    (pa_Trick_take : PySem.W.findIn K (.ref C_Trick) "take" = some (some (.ref pr_Trick_take)))
    (pg_Trick_take : PySem.W.specialIn K (.ref pr_Trick_take) "__get__" = some (some (.builtin "property.__get__")))
    (pt_Trick_take : PySem.W.takesIn K (.ref pr_Trick_take) = some true)
    (prr_Trick_take : PySem.W.recIn K pr_Trick_take "property" = some (.ref a_Trick_take :: rs_Trick_take))
    (l_Trick_take : K.lookup a_Trick_take = some ⟨oc_Trick_take, od_Trick_take, .func (PySem.W.fnOf "take" "Trick.take" (defArgs s_Trick_take) (defBody s_Trick_take) (defScope s_Trick_take) .none kV_Trick_take dc_Trick_take pm_Trick_take an_Trick_take cd_Trick_take ct_Trick_take), sl_Trick_take⟩)
    (c_Trick_take : PySem.W.codeIn K cd_Trick_take "Trick.take" = true)
    (kp_Trick_take : PySem.W.keepIn K (.ref a_Trick_take) = true)
    (pa_Trick_times : PySem.W.findIn K (.ref C_Trick) "times" = some (some (.ref pr_Trick_times)))
    (pg_Trick_times : PySem.W.specialIn K (.ref pr_Trick_times) "__get__" = some (some (.builtin "property.__get__")))
    (pt_Trick_times : PySem.W.takesIn K (.ref pr_Trick_times) = some true)
    (prr_Trick_times : PySem.W.recIn K pr_Trick_times "property" = some (.ref a_Trick_times :: rs_Trick_times))
    (l_Trick_times : K.lookup a_Trick_times = some ⟨oc_Trick_times, od_Trick_times, .func (PySem.W.fnOf "times" "Trick.times" (defArgs s_Trick_times) (defBody s_Trick_times) (defScope s_Trick_times) .none kV_Trick_times dc_Trick_times pm_Trick_times an_Trick_times cd_Trick_times ct_Trick_times), sl_Trick_times⟩)
    (c_Trick_times : PySem.W.codeIn K cd_Trick_times "Trick.times" = true)
    (kp_Trick_times : PySem.W.keepIn K (.ref a_Trick_times) = true)
    (gf_Trick___eq__ : PySem.W.findIn K (.ref C_Trick) "__eq__" = some (some (.ref a_Trick___eq__)))
    (l_Trick___eq__ : K.lookup a_Trick___eq__ = some ⟨oc_Trick___eq__, od_Trick___eq__, .func (PySem.W.fnOf "__eq__" "Trick.__eq__" (defArgs s_Trick___eq__) (defBody s_Trick___eq__) (defScope s_Trick___eq__) .none kV_Trick___eq__ dc_Trick___eq__ pm_Trick___eq__ an_Trick___eq__ cd_Trick___eq__ ct_Trick___eq__), sl_Trick___eq__⟩)
    (c_Trick___eq__ : PySem.W.codeIn K cd_Trick___eq__ "Trick.__eq__" = true)
    (kp_Trick___eq__ : PySem.W.keepIn K (.ref a_Trick___eq__) = true)
    (isf_Trick___eq__ : PySem.W.isFn K (.ref a_Trick___eq__) = true)
    (gx_Sum : PySem.W.nsIn K mainGlobals "Sum" = some (some (.ref C_Sum)))
    (pg_Sum : PySem.W.plainGet K C_Sum Str.empty = true)
    (hd_Sum : PySem.W.hasDictIn K C_Sum = true)
    (po_Sum : PySem.W.plainOver K C_Sum = true)
    (sa_Sum : PySem.W.findIn K (.ref C_Sum) "__setattr__" = some (some (.builtin "object.__setattr__")))
    (mk_Sum : PySem.W.makesIn K C_Sum = true)
    (kc_Sum : PySem.W.keepIn K (.ref C_Sum) = true)
    (cc_Sum : PySem.W.findIn K (.ref C_Sum) "__class__" = some (some (.builtin "object.__class__")))
    (mo_Sum : PySem.W.mroIn K C_Sum (.type "object") = some true)
    (ki_Sum_int : PySem.W.kitOne K (.ref C_Sum) (.type "int") = some false)
    (ki_Sum_bool : PySem.W.kitOne K (.ref C_Sum) (.type "bool") = some false)
    (ki_Sum_tuple : PySem.W.kitOne K (.ref C_Sum) (.type "tuple") = some false)
    (ki_Sum_list : PySem.W.kitOne K (.ref C_Sum) (.type "list") = some false)
    (nf_Sum_tuple : PySem.W.subIn K (.type "tuple") (.ref C_Sum) = some false)
    (kis_Sum : PySem.W.kitOne K (.ref C_Sum) (.ref C_Sum) = some true)
    (kin_Sum_int : PySem.W.kitOne K (.type "int") (.ref C_Sum) = some false)
    (kin_Sum_bool : PySem.W.kitOne K (.type "bool") (.ref C_Sum) = some false)
    (kin_Sum_tuple : PySem.W.kitOne K (.type "tuple") (.ref C_Sum) = some false)
    (kin_Sum_list : PySem.W.kitOne K (.type "list") (.ref C_Sum) = some false)
    (kin_Sum_NoneType : PySem.W.kitOne K (.type "NoneType") (.ref C_Sum) = some false)
    (kin_Sum_str : PySem.W.kitOne K (.type "str") (.ref C_Sum) = some false)
    (kin_Sum_dict : PySem.W.kitOne K (.type "dict") (.ref C_Sum) = some false)
    (na_Sum_base : PySem.W.findIn K (.ref C_Sum) "_base" = some none)
    (na_Sum_first : PySem.W.findIn K (.ref C_Sum) "_first" = some none)
    (na_Sum_loop : PySem.W.findIn K (.ref C_Sum) "_loop" = some none)
    (na_Sum_take : PySem.W.findIn K (.ref C_Sum) "_take" = some none)
    (gf_Sum___init__ : PySem.W.findIn K (.ref C_Sum) "__init__" = some (some (.ref a_Sum___init__)))
    (l_Sum___init__ : K.lookup a_Sum___init__ = some ⟨oc_Sum___init__, od_Sum___init__, .func (PySem.W.fnOf "__init__" "Sum.__init__" (defArgs s_Sum___init__) (defBody s_Sum___init__) (defScope s_Sum___init__) .none kV_Sum___init__ dc_Sum___init__ pm_Sum___init__ an_Sum___init__ cd_Sum___init__ ct_Sum___init__), sl_Sum___init__⟩)
    (c_Sum___init__ : PySem.W.codeIn K cd_Sum___init__ "Sum.__init__" = true)
    (kp_Sum___init__ : PySem.W.keepIn K (.ref a_Sum___init__) = true)
    (isf_Sum___init__ : PySem.W.isFn K (.ref a_Sum___init__) = true)
    (pa_Sum_base : PySem.W.findIn K (.ref C_Sum) "base" = some (some (.ref pr_Sum_base)))
    (pg_Sum_base : PySem.W.specialIn K (.ref pr_Sum_base) "__get__" = some (some (.builtin "property.__get__")))
    (pt_Sum_base : PySem.W.takesIn K (.ref pr_Sum_base) = some true)
    (prr_Sum_base : PySem.W.recIn K pr_Sum_base "property" = some (.ref a_Sum_base :: rs_Sum_base))
    (l_Sum_base : K.lookup a_Sum_base = some ⟨oc_Sum_base, od_Sum_base, .func (PySem.W.fnOf "base" "Sum.base" (defArgs s_Sum_base) (defBody s_Sum_base) (defScope s_Sum_base) .none kV_Sum_base dc_Sum_base pm_Sum_base an_Sum_base cd_Sum_base ct_Sum_base), sl_Sum_base⟩)
    (c_Sum_base : PySem.W.codeIn K cd_Sum_base "Sum.base" = true)
    (kp_Sum_base : PySem.W.keepIn K (.ref a_Sum_base) = true)
    (pa_Sum_take : PySem.W.findIn K (.ref C_Sum) "take" = some (some (.ref pr_Sum_take)))
    (pg_Sum_take : PySem.W.specialIn K (.ref pr_Sum_take) "__get__" = some (some (.builtin "property.__get__")))
    (pt_Sum_take : PySem.W.takesIn K (.ref pr_Sum_take) = some true)
    (prr_Sum_take : PySem.W.recIn K pr_Sum_take "property" = some (.ref a_Sum_take :: rs_Sum_take))
    (l_Sum_take : K.lookup a_Sum_take = some ⟨oc_Sum_take, od_Sum_take, .func (PySem.W.fnOf "take" "Sum.take" (defArgs s_Sum_take) (defBody s_Sum_take) (defScope s_Sum_take) .none kV_Sum_take dc_Sum_take pm_Sum_take an_Sum_take cd_Sum_take ct_Sum_take), sl_Sum_take⟩)
    (c_Sum_take : PySem.W.codeIn K cd_Sum_take "Sum.take" = true)
    (kp_Sum_take : PySem.W.keepIn K (.ref a_Sum_take) = true)
    (pa_Sum_first : PySem.W.findIn K (.ref C_Sum) "first" = some (some (.ref pr_Sum_first)))
    (pg_Sum_first : PySem.W.specialIn K (.ref pr_Sum_first) "__get__" = some (some (.builtin "property.__get__")))
    (pt_Sum_first : PySem.W.takesIn K (.ref pr_Sum_first) = some true)
    (prr_Sum_first : PySem.W.recIn K pr_Sum_first "property" = some (.ref a_Sum_first :: rs_Sum_first))
    (l_Sum_first : K.lookup a_Sum_first = some ⟨oc_Sum_first, od_Sum_first, .func (PySem.W.fnOf "first" "Sum.first" (defArgs s_Sum_first) (defBody s_Sum_first) (defScope s_Sum_first) .none kV_Sum_first dc_Sum_first pm_Sum_first an_Sum_first cd_Sum_first ct_Sum_first), sl_Sum_first⟩)
    (c_Sum_first : PySem.W.codeIn K cd_Sum_first "Sum.first" = true)
    (kp_Sum_first : PySem.W.keepIn K (.ref a_Sum_first) = true)
    (pa_Sum_loop : PySem.W.findIn K (.ref C_Sum) "loop" = some (some (.ref pr_Sum_loop)))
    (pg_Sum_loop : PySem.W.specialIn K (.ref pr_Sum_loop) "__get__" = some (some (.builtin "property.__get__")))
    (pt_Sum_loop : PySem.W.takesIn K (.ref pr_Sum_loop) = some true)
    (prr_Sum_loop : PySem.W.recIn K pr_Sum_loop "property" = some (.ref a_Sum_loop :: rs_Sum_loop))
    (l_Sum_loop : K.lookup a_Sum_loop = some ⟨oc_Sum_loop, od_Sum_loop, .func (PySem.W.fnOf "loop" "Sum.loop" (defArgs s_Sum_loop) (defBody s_Sum_loop) (defScope s_Sum_loop) .none kV_Sum_loop dc_Sum_loop pm_Sum_loop an_Sum_loop cd_Sum_loop ct_Sum_loop), sl_Sum_loop⟩)
    (c_Sum_loop : PySem.W.codeIn K cd_Sum_loop "Sum.loop" = true)
    (kp_Sum_loop : PySem.W.keepIn K (.ref a_Sum_loop) = true)
    (gf_Sum___eq__ : PySem.W.findIn K (.ref C_Sum) "__eq__" = some (some (.ref a_Sum___eq__)))
    (l_Sum___eq__ : K.lookup a_Sum___eq__ = some ⟨oc_Sum___eq__, od_Sum___eq__, .func (PySem.W.fnOf "__eq__" "Sum.__eq__" (defArgs s_Sum___eq__) (defBody s_Sum___eq__) (defScope s_Sum___eq__) .none kV_Sum___eq__ dc_Sum___eq__ pm_Sum___eq__ an_Sum___eq__ cd_Sum___eq__ ct_Sum___eq__), sl_Sum___eq__⟩)
    (c_Sum___eq__ : PySem.W.codeIn K cd_Sum___eq__ "Sum.__eq__" = true)
    (kp_Sum___eq__ : PySem.W.keepIn K (.ref a_Sum___eq__) = true)
    (isf_Sum___eq__ : PySem.W.isFn K (.ref a_Sum___eq__) = true)
    (z_int : PySem.W.nsIn K mainGlobals "int" = some none)
    (z_bool : PySem.W.nsIn K mainGlobals "bool" = some none)
    (z_len : PySem.W.nsIn K mainGlobals "len" = some none)
    (z_range : PySem.W.nsIn K mainGlobals "range" = some none)
    (z_isinstance : PySem.W.nsIn K mainGlobals "isinstance" = some none)
    (z_tuple : PySem.W.nsIn K mainGlobals "tuple" = some none)
    (z_list : PySem.W.nsIn K mainGlobals "list" = some none)
    (z_enumerate : PySem.W.nsIn K mainGlobals "enumerate" = some none)
    (z_abs : PySem.W.nsIn K mainGlobals "abs" = some none)
    (z_set : PySem.W.nsIn K mainGlobals "set" = some none)
    (z_all : PySem.W.nsIn K mainGlobals "all" = some none)
    (z_min : PySem.W.nsIn K mainGlobals "min" = some none)
    (z_max : PySem.W.nsIn K mainGlobals "max" = some none)
    (z_super : PySem.W.nsIn K mainGlobals "super" = some none)
    (z_ValueError : PySem.W.nsIn K mainGlobals "ValueError" = some none)
    (xl_BadNumber___init__ : K.lookup C_BadNumber = some (PySem.excClassObj nm_BadNumber___init__ qn_BadNumber___init__ C_BadNumber N_BadNumber___init__ bs_BadNumber___init__ bm_BadNumber___init__ true sn_BadNumber___init__ sub_BadNumber___init__ ab_BadNumber___init__ col_BadNumber___init__ dd_BadNumber___init__ k0_BadNumber___init__ k1_BadNumber___init__ k2_BadNumber___init__ k3_BadNumber___init__ k5_BadNumber___init__ "ValueError.__new__"))
    (xrb_BadNumber___init__ : PySem.HandSPX.refsVE bm_BadNumber___init__ = true)
    (xsa_BadNumber___init__ : PySem.W.findIn K (.ref C_BadNumber) "__setattr__" = some (some (.builtin "object.__setattr__")))
    (xga_BadNumber___init__ : PySem.W.findIn K (.ref C_BadNumber) "__getattribute__" = some (some (.builtin "BaseException.__getattribute__")))
    (xgg_BadNumber___init__ : PySem.W.findIn K (.ref C_BadNumber) "__getattr__" = some none)
    (xnf_BadNumber___init__ : PySem.W.findIn K (.ref C_BadNumber) "n" = some none)
    (xic_BadNumber___init__ : PySem.W.findIn K (.ref C_BadNumber) "__init__" = some (some (.ref a_BadNumber___init__)))
    (xtc_BadNumber___init__ : PySem.W.typeIn K (.ref a_BadNumber___init__) = some (.type "function"))
    (xhd_BadNumber___init__ : PySem.W.hasDictIn K C_BadNumber = true)
    (xup_BadNumber___init__ : PySem.W.ks_superIn K C_BadNumber C_BadNumber "__init__" = some (some (.builtin "ValueError.__init__")))
    (xan_BadNumber___init__ : PySem.W.nsIn K PySem.cStatics "thirdparty.any" = some none)
    (xve_BadNumber___init__ : PySem.W.subIn K (.ref C_BadNumber) (.type "ValueError") = some true)
    (xow_BadNumber___init__ : PySem.W.mroIn K C_BadNumber (.ref C_BadNumber) = some true)
    (rmn_BadNumber___init__ : (l.prog.main.scope.names.lookup ("super" : Str)).isSome = false)
    (xfn_BadNumber___init__ : K.lookup a_BadNumber___init__ = some ⟨oc_BadNumber___init__, od_BadNumber___init__, .func (PySem.W.ksFn "__init__" "BadNumber.__init__" (defArgs s_BadNumber___init__) (defBody s_BadNumber___init__) (defScope s_BadNumber___init__) .none .none dc_BadNumber___init__ pm_BadNumber___init__ an_BadNumber___init__ (.ref cda_BadNumber___init__) ct_BadNumber___init__ cc_BadNumber___init__), sl_BadNumber___init__⟩)
    (xco_BadNumber___init__ : PySem.W.codeIn K (.ref cda_BadNumber___init__) "BadNumber.__init__" = true)
    (xcd_BadNumber___init__ : K.lookup cda_BadNumber___init__ = some ⟨ccl_BadNumber___init__, cdd_BadNumber___init__, .fields vs_BadNumber___init__, ccs_BadNumber___init__⟩)
    (rvs_BadNumber___init__ : vs_BadNumber___init__[2]? = some (.str file_BadNumber___init__ tf_BadNumber___init__))
    (rfi_BadNumber___init__ : ((l.prog.main.file : Str) == file_BadNumber___init__) = true)
    (xcc_BadNumber___init__ : K.lookup cc_BadNumber___init__ = some ⟨cl_BadNumber___init__, cld_BadNumber___init__, .cell (some (.ref C_BadNumber)), csl_BadNumber___init__⟩)
    (xl_BadWeights___init__ : K.lookup C_BadWeights = some (PySem.excClassObj nm_BadWeights___init__ qn_BadWeights___init__ C_BadWeights N_BadWeights___init__ bs_BadWeights___init__ bm_BadWeights___init__ true sn_BadWeights___init__ sub_BadWeights___init__ ab_BadWeights___init__ col_BadWeights___init__ dd_BadWeights___init__ k0_BadWeights___init__ k1_BadWeights___init__ k2_BadWeights___init__ k3_BadWeights___init__ k5_BadWeights___init__ "ValueError.__new__"))
    (xrb_BadWeights___init__ : PySem.HandSPX.refsVE bm_BadWeights___init__ = true)
    (xsa_BadWeights___init__ : PySem.W.findIn K (.ref C_BadWeights) "__setattr__" = some (some (.builtin "object.__setattr__")))
    (xga_BadWeights___init__ : PySem.W.findIn K (.ref C_BadWeights) "__getattribute__" = some (some (.builtin "BaseException.__getattribute__")))
    (xgg_BadWeights___init__ : PySem.W.findIn K (.ref C_BadWeights) "__getattr__" = some none)
    (xnf_BadWeights___init__ : PySem.W.findIn K (.ref C_BadWeights) "index" = some none)
    (xic_BadWeights___init__ : PySem.W.findIn K (.ref C_BadWeights) "__init__" = some (some (.ref a_BadWeights___init__)))
    (xtc_BadWeights___init__ : PySem.W.typeIn K (.ref a_BadWeights___init__) = some (.type "function"))
    (xhd_BadWeights___init__ : PySem.W.hasDictIn K C_BadWeights = true)
    (xup_BadWeights___init__ : PySem.W.ks_superIn K C_BadWeights C_BadWeights "__init__" = some (some (.builtin "ValueError.__init__")))
    (xan_BadWeights___init__ : PySem.W.nsIn K PySem.cStatics "thirdparty.any" = some none)
    (xve_BadWeights___init__ : PySem.W.subIn K (.ref C_BadWeights) (.type "ValueError") = some true)
    (xow_BadWeights___init__ : PySem.W.mroIn K C_BadWeights (.ref C_BadWeights) = some true)
    (rmn_BadWeights___init__ : (l.prog.main.scope.names.lookup ("super" : Str)).isSome = false)
    (xfn_BadWeights___init__ : K.lookup a_BadWeights___init__ = some ⟨oc_BadWeights___init__, od_BadWeights___init__, .func (PySem.W.ksFn "__init__" "BadWeights.__init__" (defArgs s_BadWeights___init__) (defBody s_BadWeights___init__) (defScope s_BadWeights___init__) .none .none dc_BadWeights___init__ pm_BadWeights___init__ an_BadWeights___init__ (.ref cda_BadWeights___init__) ct_BadWeights___init__ cc_BadWeights___init__), sl_BadWeights___init__⟩)
    (xco_BadWeights___init__ : PySem.W.codeIn K (.ref cda_BadWeights___init__) "BadWeights.__init__" = true)
    (xcd_BadWeights___init__ : K.lookup cda_BadWeights___init__ = some ⟨ccl_BadWeights___init__, cdd_BadWeights___init__, .fields vs_BadWeights___init__, ccs_BadWeights___init__⟩)
    (rvs_BadWeights___init__ : vs_BadWeights___init__[2]? = some (.str file_BadWeights___init__ tf_BadWeights___init__))
    (rfi_BadWeights___init__ : ((l.prog.main.file : Str) == file_BadWeights___init__) = true)
    (xcc_BadWeights___init__ : K.lookup cc_BadWeights___init__ = some ⟨cl_BadWeights___init__, cld_BadWeights___init__, .cell (some (.ref C_BadWeights)), csl_BadWeights___init__⟩)
    (xl_BadRests___init__ : K.lookup C_BadRests = some (PySem.excClassObj nm_BadRests___init__ qn_BadRests___init__ C_BadRests N_BadRests___init__ bs_BadRests___init__ bm_BadRests___init__ true sn_BadRests___init__ sub_BadRests___init__ ab_BadRests___init__ col_BadRests___init__ dd_BadRests___init__ k0_BadRests___init__ k1_BadRests___init__ k2_BadRests___init__ k3_BadRests___init__ k5_BadRests___init__ "ValueError.__new__"))
    (xrb_BadRests___init__ : PySem.HandSPX.refsVE bm_BadRests___init__ = true)
    (xsa_BadRests___init__ : PySem.W.findIn K (.ref C_BadRests) "__setattr__" = some (some (.builtin "object.__setattr__")))
    (xga_BadRests___init__ : PySem.W.findIn K (.ref C_BadRests) "__getattribute__" = some (some (.builtin "BaseException.__getattribute__")))
    (xgg_BadRests___init__ : PySem.W.findIn K (.ref C_BadRests) "__getattr__" = some none)
    (xnf_BadRests___init__ : PySem.W.findIn K (.ref C_BadRests) "index" = some none)
    (xic_BadRests___init__ : PySem.W.findIn K (.ref C_BadRests) "__init__" = some (some (.ref a_BadRests___init__)))
    (xtc_BadRests___init__ : PySem.W.typeIn K (.ref a_BadRests___init__) = some (.type "function"))
    (xhd_BadRests___init__ : PySem.W.hasDictIn K C_BadRests = true)
    (xup_BadRests___init__ : PySem.W.ks_superIn K C_BadRests C_BadRests "__init__" = some (some (.builtin "ValueError.__init__")))
    (xan_BadRests___init__ : PySem.W.nsIn K PySem.cStatics "thirdparty.any" = some none)
    (xve_BadRests___init__ : PySem.W.subIn K (.ref C_BadRests) (.type "ValueError") = some true)
    (xow_BadRests___init__ : PySem.W.mroIn K C_BadRests (.ref C_BadRests) = some true)
    (rmn_BadRests___init__ : (l.prog.main.scope.names.lookup ("super" : Str)).isSome = false)
    (xfn_BadRests___init__ : K.lookup a_BadRests___init__ = some ⟨oc_BadRests___init__, od_BadRests___init__, .func (PySem.W.ksFn "__init__" "BadRests.__init__" (defArgs s_BadRests___init__) (defBody s_BadRests___init__) (defScope s_BadRests___init__) .none .none dc_BadRests___init__ pm_BadRests___init__ an_BadRests___init__ (.ref cda_BadRests___init__) ct_BadRests___init__ cc_BadRests___init__), sl_BadRests___init__⟩)
    (xco_BadRests___init__ : PySem.W.codeIn K (.ref cda_BadRests___init__) "BadRests.__init__" = true)
    (xcd_BadRests___init__ : K.lookup cda_BadRests___init__ = some ⟨ccl_BadRests___init__, cdd_BadRests___init__, .fields vs_BadRests___init__, ccs_BadRests___init__⟩)
    (rvs_BadRests___init__ : vs_BadRests___init__[2]? = some (.str file_BadRests___init__ tf_BadRests___init__))
    (rfi_BadRests___init__ : ((l.prog.main.file : Str) == file_BadRests___init__) = true)
    (xcc_BadRests___init__ : K.lookup cc_BadRests___init__ = some ⟨cl_BadRests___init__, cld_BadRests___init__, .cell (some (.ref C_BadRests)), csl_BadRests___init__⟩)
    (xl_BadTricks___init__ : K.lookup C_BadTricks = some (PySem.excClassObj nm_BadTricks___init__ qn_BadTricks___init__ C_BadTricks N_BadTricks___init__ bs_BadTricks___init__ bm_BadTricks___init__ true sn_BadTricks___init__ sub_BadTricks___init__ ab_BadTricks___init__ col_BadTricks___init__ dd_BadTricks___init__ k0_BadTricks___init__ k1_BadTricks___init__ k2_BadTricks___init__ k3_BadTricks___init__ k5_BadTricks___init__ "ValueError.__new__"))
    (xrb_BadTricks___init__ : PySem.HandSPX.refsVE bm_BadTricks___init__ = true)
    (xsa_BadTricks___init__ : PySem.W.findIn K (.ref C_BadTricks) "__setattr__" = some (some (.builtin "object.__setattr__")))
    (xga_BadTricks___init__ : PySem.W.findIn K (.ref C_BadTricks) "__getattribute__" = some (some (.builtin "BaseException.__getattribute__")))
    (xgg_BadTricks___init__ : PySem.W.findIn K (.ref C_BadTricks) "__getattr__" = some none)
    (xnf_BadTricks___init__ : PySem.W.findIn K (.ref C_BadTricks) "index" = some none)
    (xic_BadTricks___init__ : PySem.W.findIn K (.ref C_BadTricks) "__init__" = some (some (.ref a_BadTricks___init__)))
    (xtc_BadTricks___init__ : PySem.W.typeIn K (.ref a_BadTricks___init__) = some (.type "function"))
    (xhd_BadTricks___init__ : PySem.W.hasDictIn K C_BadTricks = true)
    (xup_BadTricks___init__ : PySem.W.ks_superIn K C_BadTricks C_BadTricks "__init__" = some (some (.builtin "ValueError.__init__")))
    (xan_BadTricks___init__ : PySem.W.nsIn K PySem.cStatics "thirdparty.any" = some none)
    (xve_BadTricks___init__ : PySem.W.subIn K (.ref C_BadTricks) (.type "ValueError") = some true)
    (xow_BadTricks___init__ : PySem.W.mroIn K C_BadTricks (.ref C_BadTricks) = some true)
    (rmn_BadTricks___init__ : (l.prog.main.scope.names.lookup ("super" : Str)).isSome = false)
    (xfn_BadTricks___init__ : K.lookup a_BadTricks___init__ = some ⟨oc_BadTricks___init__, od_BadTricks___init__, .func (PySem.W.ksFn "__init__" "BadTricks.__init__" (defArgs s_BadTricks___init__) (defBody s_BadTricks___init__) (defScope s_BadTricks___init__) .none .none dc_BadTricks___init__ pm_BadTricks___init__ an_BadTricks___init__ (.ref cda_BadTricks___init__) ct_BadTricks___init__ cc_BadTricks___init__), sl_BadTricks___init__⟩)
    (xco_BadTricks___init__ : PySem.W.codeIn K (.ref cda_BadTricks___init__) "BadTricks.__init__" = true)
    (xcd_BadTricks___init__ : K.lookup cda_BadTricks___init__ = some ⟨ccl_BadTricks___init__, cdd_BadTricks___init__, .fields vs_BadTricks___init__, ccs_BadTricks___init__⟩)
    (rvs_BadTricks___init__ : vs_BadTricks___init__[2]? = some (.str file_BadTricks___init__ tf_BadTricks___init__))
    (rfi_BadTricks___init__ : ((l.prog.main.file : Str) == file_BadTricks___init__) = true)
    (xcc_BadTricks___init__ : K.lookup cc_BadTricks___init__ = some ⟨cl_BadTricks___init__, cld_BadTricks___init__, .cell (some (.ref C_BadTricks)), csl_BadTricks___init__⟩)
    (xl_TooWide___init__ : K.lookup C_TooWide = some (PySem.excClassObj nm_TooWide___init__ qn_TooWide___init__ C_TooWide N_TooWide___init__ bs_TooWide___init__ bm_TooWide___init__ true sn_TooWide___init__ sub_TooWide___init__ ab_TooWide___init__ col_TooWide___init__ dd_TooWide___init__ k0_TooWide___init__ k1_TooWide___init__ k2_TooWide___init__ k3_TooWide___init__ k5_TooWide___init__ "ValueError.__new__"))
    (xrb_TooWide___init__ : PySem.HandSPX.refsVE bm_TooWide___init__ = true)
    (xsa_TooWide___init__ : PySem.W.findIn K (.ref C_TooWide) "__setattr__" = some (some (.builtin "object.__setattr__")))
    (xga_TooWide___init__ : PySem.W.findIn K (.ref C_TooWide) "__getattribute__" = some (some (.builtin "BaseException.__getattribute__")))
    (xgg_TooWide___init__ : PySem.W.findIn K (.ref C_TooWide) "__getattr__" = some none)
    (xnf_TooWide___init__ : PySem.W.findIn K (.ref C_TooWide) "most" = some none)
    (xic_TooWide___init__ : PySem.W.findIn K (.ref C_TooWide) "__init__" = some (some (.ref a_TooWide___init__)))
    (xtc_TooWide___init__ : PySem.W.typeIn K (.ref a_TooWide___init__) = some (.type "function"))
    (xhd_TooWide___init__ : PySem.W.hasDictIn K C_TooWide = true)
    (xup_TooWide___init__ : PySem.W.ks_superIn K C_TooWide C_TooWide "__init__" = some (some (.builtin "ValueError.__init__")))
    (xan_TooWide___init__ : PySem.W.nsIn K PySem.cStatics "thirdparty.any" = some none)
    (xve_TooWide___init__ : PySem.W.subIn K (.ref C_TooWide) (.type "ValueError") = some true)
    (xow_TooWide___init__ : PySem.W.mroIn K C_TooWide (.ref C_TooWide) = some true)
    (rmn_TooWide___init__ : (l.prog.main.scope.names.lookup ("super" : Str)).isSome = false)
    (xfn_TooWide___init__ : K.lookup a_TooWide___init__ = some ⟨oc_TooWide___init__, od_TooWide___init__, .func (PySem.W.ksFn "__init__" "TooWide.__init__" (defArgs s_TooWide___init__) (defBody s_TooWide___init__) (defScope s_TooWide___init__) .none .none dc_TooWide___init__ pm_TooWide___init__ an_TooWide___init__ (.ref cda_TooWide___init__) ct_TooWide___init__ cc_TooWide___init__), sl_TooWide___init__⟩)
    (xco_TooWide___init__ : PySem.W.codeIn K (.ref cda_TooWide___init__) "TooWide.__init__" = true)
    (xcd_TooWide___init__ : K.lookup cda_TooWide___init__ = some ⟨ccl_TooWide___init__, cdd_TooWide___init__, .fields vs_TooWide___init__, ccs_TooWide___init__⟩)
    (rvs_TooWide___init__ : vs_TooWide___init__[2]? = some (.str file_TooWide___init__ tf_TooWide___init__))
    (rfi_TooWide___init__ : ((l.prog.main.file : Str) == file_TooWide___init__) = true)
    (xcc_TooWide___init__ : K.lookup cc_TooWide___init__ = some ⟨cl_TooWide___init__, cld_TooWide___init__, .cell (some (.ref C_TooWide)), csl_TooWide___init__⟩)
    : ∃ fd : FuncData, (∀ (s : Shared) (v : Value), BindsTo s fd ⟨[v], []⟩ [("_law_script", v)]) ∧ ∀ base : Heap, K.In base → base.Ns mainGlobals mg → FnOk l.prog w K mg base CX0 lv_law fa fd ["_law_script"] (sp_law K) := by
  have e := hfa.symm.trans (PySem.W.mg_of X G gf_law)
  have e2 : a_law = fa := by cases e; rfl
  subst e2
  obtain ⟨a_is_integer, d_is_integer, gf_is_integer, F_is_integer⟩ := df_is_integer
  obtain ⟨a_is_tuple, d_is_tuple, gf_is_tuple, F_is_tuple⟩ := df_is_tuple
  obtain ⟨a_is_list_or_tuple, d_is_list_or_tuple, gf_is_list_or_tuple, F_is_list_or_tuple⟩ := df_is_list_or_tuple
  obtain ⟨a_is_number, d_is_number, gf_is_number, F_is_number⟩ := df_is_number
  obtain ⟨a_first_wrong, d_first_wrong, gf_first_wrong, F_first_wrong⟩ := df_first_wrong
  obtain ⟨a_check_base, d_check_base, gf_check_base, F_check_base⟩ := df_check_base
  obtain ⟨a_check_take, d_check_take, gf_check_take, F_check_take⟩ := df_check_take
  have F_check_divisor : FunD K "check_divisor" "check_divisor" (defArgs s_check_divisor) (defBody s_check_divisor) (defScope s_check_divisor) [.int 100] [] a_check_divisor _ := ⟨⟨_, _, _, _, _, _, _, _, _, _, rfl, l_check_divisor, c_check_divisor, .inr ⟨List.cons_ne_nil _ _, _, _, [.int 100 dt0_check_divisor], _, rfl, ldT_check_divisor, by rw [rdv_check_divisor], (.cons ⟨_, rfl⟩ .nil)⟩, .inl rfl⟩, kp_check_divisor⟩
  obtain ⟨dn0_check_divisor, ro_check_divisor, bo_check_divisor⟩ := F_check_divisor.binds1 (ps := ["d", "greatest"]) 2 1 (List.cons_ne_nil _ _) rfl fun _ _ _ _ _ _ _ us its h1 h2 => match us, its, h1, h2 with | [_, _], [_], _, _ => ⟨_, rfl, rfl⟩
  cases ro_check_divisor
  obtain ⟨ds_check_divisor, rd_check_divisor, bd_check_divisor⟩ := F_check_divisor.binds1 (ps := ["d", "greatest"]) 1 0 (List.cons_ne_nil _ _) rfl fun _ _ _ _ _ _ _ us its h1 h2 => match us, its, h1, h2 with | [_], [_], _, _ => ⟨_, rfl, rfl⟩
  obtain ⟨a_check_number, d_check_number, gf_check_number, F_check_number⟩ := df_check_number
  obtain ⟨a_block_of, d_block_of, gf_block_of, F_block_of⟩ := df_block_of
  obtain ⟨a_done, d_done, gf_done, F_done⟩ := df_done
  obtain ⟨a_check_trick, d_check_trick, gf_check_trick, F_check_trick⟩ := df_check_trick
  obtain ⟨a_trick_block, d_trick_block, gf_trick_block, F_trick_block⟩ := df_trick_block
  obtain ⟨a_made_of, d_made_of, gf_made_of, F_made_of⟩ := df_made_of
  obtain ⟨a_made_with, d_made_with, gf_made_with, F_made_with⟩ := df_made_with
  obtain ⟨a_tells, d_tells, gf_tells, F_tells⟩ := df_tells
  obtain ⟨a_factor, d_factor, gf_factor, F_factor⟩ := df_factor
  obtain ⟨a_multipliers, d_multipliers, gf_multipliers, F_multipliers⟩ := df_multipliers
  obtain ⟨a_keeps_rest, d_keeps_rest, gf_keeps_rest, F_keeps_rest⟩ := df_keeps_rest
  obtain ⟨a_tells_multiples, d_tells_multiples, gf_tells_multiples, F_tells_multiples⟩ := df_tells_multiples
  obtain ⟨a_chain_tells, d_chain_tells, gf_chain_tells, F_chain_tells⟩ := df_chain_tells
  obtain ⟨a_check_tricks, d_check_tricks, gf_check_tricks, F_check_tricks⟩ := df_check_tricks
  obtain ⟨a_check_chain, d_check_chain, gf_check_chain, F_check_chain⟩ := df_check_chain
  obtain ⟨a_made_of_all, d_made_of_all, gf_made_of_all, F_made_of_all⟩ := df_made_of_all
  obtain ⟨a_blocks_product, d_blocks_product, gf_blocks_product, F_blocks_product⟩ := df_blocks_product
  obtain ⟨a_rest_pairs, d_rest_pairs, gf_rest_pairs, F_rest_pairs⟩ := df_rest_pairs
  obtain ⟨a_bound, d_bound, gf_bound, F_bound⟩ := df_bound
  obtain ⟨a_ring_of, d_ring_of, gf_ring_of, F_ring_of⟩ := df_ring_of
  obtain ⟨a_greatest_size, d_greatest_size, gf_greatest_size, F_greatest_size⟩ := df_greatest_size
  obtain ⟨a_rounded_up, d_rounded_up, gf_rounded_up, F_rounded_up⟩ := df_rounded_up
  obtain ⟨a_unseen_path, d_unseen_path, gf_unseen_path, F_unseen_path⟩ := df_unseen_path
  obtain ⟨a_ring_at_end, d_ring_at_end, gf_ring_at_end, F_ring_at_end⟩ := df_ring_at_end
  obtain ⟨a_front_states, d_front_states, gf_front_states, F_front_states⟩ := df_front_states
  obtain ⟨a_front_classes, d_front_classes, gf_front_classes, F_front_classes⟩ := df_front_classes
  obtain ⟨a_check_labels, d_check_labels, gf_check_labels, F_check_labels⟩ := df_check_labels
  obtain ⟨a_front_machine, d_front_machine, gf_front_machine, F_front_machine⟩ := df_front_machine
  obtain ⟨a_classes, d_classes, gf_classes, F_classes⟩ := df_classes
  obtain ⟨a_numbered, d_numbered, gf_numbered, F_numbered⟩ := df_numbered
  obtain ⟨a_sum_tells, d_sum_tells, gf_sum_tells, F_sum_tells⟩ := df_sum_tells
  obtain ⟨a_sum_rest_fails, d_sum_rest_fails, gf_sum_rest_fails, F_sum_rest_fails⟩ := df_sum_rest_fails
  obtain ⟨a_sum_fails, d_sum_fails, gf_sum_fails, F_sum_fails⟩ := df_sum_fails
  obtain ⟨a_rest_weights, d_rest_weights, gf_rest_weights, F_rest_weights⟩ := df_rest_weights
  obtain ⟨a_check_weights, d_check_weights, gf_check_weights, F_check_weights⟩ := df_check_weights
  obtain ⟨a_check_sum, d_check_sum, gf_check_sum, F_check_sum⟩ := df_check_sum
  obtain ⟨a_sum_block, d_sum_block, gf_sum_block, F_sum_block⟩ := df_sum_block
  obtain ⟨a_weight_at, d_weight_at, gf_weight_at, F_weight_at⟩ := df_weight_at
  obtain ⟨a_power_rests, d_power_rests, gf_power_rests, F_power_rests⟩ := df_power_rests
  obtain ⟨a_nearest, d_nearest, gf_nearest, F_nearest⟩ := df_nearest
  obtain ⟨a_turn, d_turn, gf_turn, F_turn⟩ := df_turn
  obtain ⟨a_new_rests, d_new_rests, gf_new_rests, F_new_rests⟩ := df_new_rests
  obtain ⟨a__law_taken, d__law_taken, gf__law_taken, F__law_taken⟩ := df__law_taken
  obtain ⟨a__law_power, d__law_power, gf__law_power, F__law_power⟩ := df__law_power
  obtain ⟨a__law_trick, d__law_trick, gf__law_trick, F__law_trick⟩ := df__law_trick
  obtain ⟨a__law_number, d__law_number, gf__law_number, F__law_number⟩ := df__law_number
  obtain ⟨a__law_sum, d__law_sum, gf__law_sum, F__law_sum⟩ := df__law_sum
  obtain ⟨a__law_labels, d__law_labels, gf__law_labels, F__law_labels⟩ := df__law_labels
  refine ⟨PySem.W.fnOf "law" "law" (defArgs s_law) (defBody s_law) (defScope s_law) .none kV_law dc_law pm_law an_law cd_law ct_law, fun s v => .of_eq rfl, fun base _ _ => ?_⟩
  exact ok_law (T :=
    { C_TrickError := C_TrickError,
      g_TrickError := PySem.W.mg_of X G gx_TrickError,
      x_TrickError := x_TrickError,
      k_TrickError := k_TrickError,
      s_TrickError := s_TrickError,
      t_TrickError := t_TrickError,
      C_BadBase := C_BadBase,
      g_BadBase := PySem.W.mg_of X G gx_BadBase,
      x_BadBase := x_BadBase,
      k_BadBase := k_BadBase,
      s_BadBase := s_BadBase,
      t_BadBase := t_BadBase,
      C_BadTake := C_BadTake,
      g_BadTake := PySem.W.mg_of X G gx_BadTake,
      x_BadTake := x_BadTake,
      k_BadTake := k_BadTake,
      s_BadTake := s_BadTake,
      t_BadTake := t_BadTake,
      C_BadTimes := C_BadTimes,
      g_BadTimes := PySem.W.mg_of X G gx_BadTimes,
      x_BadTimes := x_BadTimes,
      k_BadTimes := k_BadTimes,
      s_BadTimes := s_BadTimes,
      t_BadTimes := t_BadTimes,
      C_BadTrick := C_BadTrick,
      g_BadTrick := PySem.W.mg_of X G gx_BadTrick,
      x_BadTrick := x_BadTrick,
      k_BadTrick := k_BadTrick,
      s_BadTrick := s_BadTrick,
      t_BadTrick := t_BadTrick,
      C_BadDivisor := C_BadDivisor,
      g_BadDivisor := PySem.W.mg_of X G gx_BadDivisor,
      x_BadDivisor := x_BadDivisor,
      k_BadDivisor := k_BadDivisor,
      s_BadDivisor := s_BadDivisor,
      t_BadDivisor := t_BadDivisor,
      C_BadSum := C_BadSum,
      g_BadSum := PySem.W.mg_of X G gx_BadSum,
      x_BadSum := x_BadSum,
      k_BadSum := k_BadSum,
      s_BadSum := s_BadSum,
      t_BadSum := t_BadSum,
      C_BadNumber := C_BadNumber,
      g_BadNumber := PySem.W.mg_of X G gx_BadNumber,
      k_BadNumber := k_BadNumber,
      s_BadNumber := s_BadNumber,
      t_BadNumber := t_BadNumber,
      C_BadWeights := C_BadWeights,
      g_BadWeights := PySem.W.mg_of X G gx_BadWeights,
      k_BadWeights := k_BadWeights,
      s_BadWeights := s_BadWeights,
      t_BadWeights := t_BadWeights,
      C_BadRests := C_BadRests,
      g_BadRests := PySem.W.mg_of X G gx_BadRests,
      k_BadRests := k_BadRests,
      s_BadRests := s_BadRests,
      t_BadRests := t_BadRests,
      C_BadTricks := C_BadTricks,
      g_BadTricks := PySem.W.mg_of X G gx_BadTricks,
      k_BadTricks := k_BadTricks,
      s_BadTricks := s_BadTricks,
      t_BadTricks := t_BadTricks,
      C_TooWide := C_TooWide,
      g_TooWide := PySem.W.mg_of X G gx_TooWide,
      k_TooWide := k_TooWide,
      s_TooWide := s_TooWide,
      t_TooWide := t_TooWide,
      t_c_GREATEST_NUMBER := tk_GREATEST_NUMBER,
      c_GREATEST_NUMBER := PySem.W.mg_of X G cx_GREATEST_NUMBER,
      t_c_LEAST_BASE := tk_LEAST_BASE,
      c_LEAST_BASE := PySem.W.mg_of X G cx_LEAST_BASE,
      t_c_GREATEST_BASE := tk_GREATEST_BASE,
      c_GREATEST_BASE := PySem.W.mg_of X G cx_GREATEST_BASE,
      t_c_GREATEST_TAKE := tk_GREATEST_TAKE,
      c_GREATEST_TAKE := PySem.W.mg_of X G cx_GREATEST_TAKE,
      t_c_GREATEST_DIVISOR := tk_GREATEST_DIVISOR,
      c_GREATEST_DIVISOR := PySem.W.mg_of X G cx_GREATEST_DIVISOR,
      t_c_GREATEST_TIMES := tk_GREATEST_TIMES,
      c_GREATEST_TIMES := PySem.W.mg_of X G cx_GREATEST_TIMES,
      t_c_MOST_TRICKS := tk_MOST_TRICKS,
      c_MOST_TRICKS := PySem.W.mg_of X G cx_MOST_TRICKS,
      t_c_GREATEST_CHAIN_DIVISOR := tk_GREATEST_CHAIN_DIVISOR,
      c_GREATEST_CHAIN_DIVISOR := PySem.W.mg_of X G cx_GREATEST_CHAIN_DIVISOR,
      t_c_GREATEST_PRODUCT := tk_GREATEST_PRODUCT,
      c_GREATEST_PRODUCT := PySem.W.mg_of X G cx_GREATEST_PRODUCT,
      t_c_MOST_LABELS := tk_MOST_LABELS,
      c_MOST_LABELS := PySem.W.mg_of X G cx_MOST_LABELS,
      t_c_GREATEST_LABEL := tk_GREATEST_LABEL,
      c_GREATEST_LABEL := PySem.W.mg_of X G cx_GREATEST_LABEL,
      t_c_GREATEST_WEIGHT := tk_GREATEST_WEIGHT,
      c_GREATEST_WEIGHT := PySem.W.mg_of X G cx_GREATEST_WEIGHT,
      t_c_MOST_WEIGHTS := tk_MOST_WEIGHTS,
      c_MOST_WEIGHTS := PySem.W.mg_of X G cx_MOST_WEIGHTS,
      t_c_GREATEST_SUM_DIVISOR := tk_GREATEST_SUM_DIVISOR,
      c_GREATEST_SUM_DIVISOR := PySem.W.mg_of X G cx_GREATEST_SUM_DIVISOR,
      a_is_integer := a_is_integer,
      d_is_integer := d_is_integer,
      F_is_integer := F_is_integer,
      b_is_integer := F_is_integer.binds (ps := ["told", "low", "high"]) fun _ _ _ _ _ _ us hl => match us, hl with | [_, _, _], _ => rfl,
      g_is_integer := PySem.W.mg_of X G gf_is_integer,
      a_is_tuple := a_is_tuple,
      d_is_tuple := d_is_tuple,
      F_is_tuple := F_is_tuple,
      b_is_tuple := F_is_tuple.binds (ps := ["told", "fewest", "most"]) fun _ _ _ _ _ _ us hl => match us, hl with | [_, _, _], _ => rfl,
      g_is_tuple := PySem.W.mg_of X G gf_is_tuple,
      a_is_list_or_tuple := a_is_list_or_tuple,
      d_is_list_or_tuple := d_is_list_or_tuple,
      F_is_list_or_tuple := F_is_list_or_tuple,
      b_is_list_or_tuple := F_is_list_or_tuple.binds (ps := ["told", "fewest", "most"]) fun _ _ _ _ _ _ us hl => match us, hl with | [_, _, _], _ => rfl,
      g_is_list_or_tuple := PySem.W.mg_of X G gf_is_list_or_tuple,
      a_is_number := a_is_number,
      d_is_number := d_is_number,
      F_is_number := F_is_number,
      b_is_number := F_is_number.binds (ps := ["told"]) fun _ _ _ _ _ _ us hl => match us, hl with | [_], _ => rfl,
      g_is_number := PySem.W.mg_of X G gf_is_number,
      a_first_wrong := a_first_wrong,
      d_first_wrong := d_first_wrong,
      F_first_wrong := F_first_wrong,
      b_first_wrong := F_first_wrong.binds (ps := ["told", "low", "high"]) fun _ _ _ _ _ _ us hl => match us, hl with | [_, _, _], _ => rfl,
      g_first_wrong := PySem.W.mg_of X G gf_first_wrong,
      a_check_base := a_check_base,
      d_check_base := d_check_base,
      F_check_base := F_check_base,
      b_check_base := F_check_base.binds (ps := ["base"]) fun _ _ _ _ _ _ us hl => match us, hl with | [_], _ => rfl,
      g_check_base := PySem.W.mg_of X G gf_check_base,
      a_check_take := a_check_take,
      d_check_take := d_check_take,
      F_check_take := F_check_take,
      b_check_take := F_check_take.binds (ps := ["take"]) fun _ _ _ _ _ _ us hl => match us, hl with | [_], _ => rfl,
      g_check_take := PySem.W.mg_of X G gf_check_take,
      a_check_divisor := a_check_divisor,
      d_check_divisor := _,
      F_check_divisor := F_check_divisor,
      b_check_divisor := bo_check_divisor,
      ds_check_divisor := ds_check_divisor,
      rd_check_divisor := rd_check_divisor,
      bd_check_divisor := bd_check_divisor,
      g_check_divisor := PySem.W.mg_of X G gf_check_divisor,
      a_check_number := a_check_number,
      d_check_number := d_check_number,
      F_check_number := F_check_number,
      b_check_number := F_check_number.binds (ps := ["n"]) fun _ _ _ _ _ _ us hl => match us, hl with | [_], _ => rfl,
      g_check_number := PySem.W.mg_of X G gf_check_number,
      a_block_of := a_block_of,
      d_block_of := d_block_of,
      F_block_of := F_block_of,
      b_block_of := F_block_of.binds (ps := ["base", "take"]) fun _ _ _ _ _ _ us hl => match us, hl with | [_, _], _ => rfl,
      g_block_of := PySem.W.mg_of X G gf_block_of,
      a_done := a_done,
      d_done := d_done,
      F_done := F_done,
      b_done := F_done.binds (ps := ["trick", "n"]) fun _ _ _ _ _ _ us hl => match us, hl with | [_, _], _ => rfl,
      g_done := PySem.W.mg_of X G gf_done,
      a_check_trick := a_check_trick,
      d_check_trick := d_check_trick,
      F_check_trick := F_check_trick,
      b_check_trick := F_check_trick.binds (ps := ["trick"]) fun _ _ _ _ _ _ us hl => match us, hl with | [_], _ => rfl,
      g_check_trick := PySem.W.mg_of X G gf_check_trick,
      a_trick_block := a_trick_block,
      d_trick_block := d_trick_block,
      F_trick_block := F_trick_block,
      b_trick_block := F_trick_block.binds (ps := ["trick"]) fun _ _ _ _ _ _ us hl => match us, hl with | [_], _ => rfl,
      g_trick_block := PySem.W.mg_of X G gf_trick_block,
      a_made_of := a_made_of,
      d_made_of := d_made_of,
      F_made_of := F_made_of,
      b_made_of := F_made_of.binds (ps := ["trick", "n"]) fun _ _ _ _ _ _ us hl => match us, hl with | [_, _], _ => rfl,
      g_made_of := PySem.W.mg_of X G gf_made_of,
      a_made_with := a_made_with,
      d_made_with := d_made_with,
      F_made_with := F_made_with,
      b_made_with := F_made_with.binds (ps := ["block", "times", "n"]) fun _ _ _ _ _ _ us hl => match us, hl with | [_, _, _], _ => rfl,
      g_made_with := PySem.W.mg_of X G gf_made_with,
      a_tells := a_tells,
      d_tells := d_tells,
      F_tells := F_tells,
      b_tells := F_tells.binds (ps := ["trick", "d"]) fun _ _ _ _ _ _ us hl => match us, hl with | [_, _], _ => rfl,
      g_tells := PySem.W.mg_of X G gf_tells,
      a_factor := a_factor,
      d_factor := d_factor,
      F_factor := F_factor,
      b_factor := F_factor.binds (ps := ["trick", "d"]) fun _ _ _ _ _ _ us hl => match us, hl with | [_, _], _ => rfl,
      g_factor := PySem.W.mg_of X G gf_factor,
      a_multipliers := a_multipliers,
      d_multipliers := d_multipliers,
      F_multipliers := F_multipliers,
      b_multipliers := F_multipliers.binds (ps := ["base", "take", "d"]) fun _ _ _ _ _ _ us hl => match us, hl with | [_, _, _], _ => rfl,
      g_multipliers := PySem.W.mg_of X G gf_multipliers,
      a_keeps_rest := a_keeps_rest,
      d_keeps_rest := d_keeps_rest,
      F_keeps_rest := F_keeps_rest,
      b_keeps_rest := F_keeps_rest.binds (ps := ["trick", "d"]) fun _ _ _ _ _ _ us hl => match us, hl with | [_, _], _ => rfl,
      g_keeps_rest := PySem.W.mg_of X G gf_keeps_rest,
      a_tells_multiples := a_tells_multiples,
      d_tells_multiples := d_tells_multiples,
      F_tells_multiples := F_tells_multiples,
      b_tells_multiples := F_tells_multiples.binds (ps := ["block", "times", "d"]) fun _ _ _ _ _ _ us hl => match us, hl with | [_, _, _], _ => rfl,
      g_tells_multiples := PySem.W.mg_of X G gf_tells_multiples,
      a_chain_tells := a_chain_tells,
      d_chain_tells := d_chain_tells,
      F_chain_tells := F_chain_tells,
      b_chain_tells := F_chain_tells.binds (ps := ["tricks", "d"]) fun _ _ _ _ _ _ us hl => match us, hl with | [_, _], _ => rfl,
      g_chain_tells := PySem.W.mg_of X G gf_chain_tells,
      a_check_tricks := a_check_tricks,
      d_check_tricks := d_check_tricks,
      F_check_tricks := F_check_tricks,
      b_check_tricks := F_check_tricks.binds (ps := ["tricks"]) fun _ _ _ _ _ _ us hl => match us, hl with | [_], _ => rfl,
      g_check_tricks := PySem.W.mg_of X G gf_check_tricks,
      a_check_chain := a_check_chain,
      d_check_chain := d_check_chain,
      F_check_chain := F_check_chain,
      b_check_chain := F_check_chain.binds (ps := ["tricks", "d"]) fun _ _ _ _ _ _ us hl => match us, hl with | [_, _], _ => rfl,
      g_check_chain := PySem.W.mg_of X G gf_check_chain,
      a_made_of_all := a_made_of_all,
      d_made_of_all := d_made_of_all,
      F_made_of_all := F_made_of_all,
      b_made_of_all := F_made_of_all.binds (ps := ["tricks", "n"]) fun _ _ _ _ _ _ us hl => match us, hl with | [_, _], _ => rfl,
      g_made_of_all := PySem.W.mg_of X G gf_made_of_all,
      a_blocks_product := a_blocks_product,
      d_blocks_product := d_blocks_product,
      F_blocks_product := F_blocks_product,
      b_blocks_product := F_blocks_product.binds (ps := ["tricks"]) fun _ _ _ _ _ _ us hl => match us, hl with | [_], _ => rfl,
      g_blocks_product := PySem.W.mg_of X G gf_blocks_product,
      a_rest_pairs := a_rest_pairs,
      d_rest_pairs := d_rest_pairs,
      F_rest_pairs := F_rest_pairs,
      b_rest_pairs := F_rest_pairs.binds (ps := ["tricks", "d"]) fun _ _ _ _ _ _ us hl => match us, hl with | [_, _], _ => rfl,
      g_rest_pairs := PySem.W.mg_of X G gf_rest_pairs,
      a_bound := a_bound,
      d_bound := d_bound,
      F_bound := F_bound,
      b_bound := F_bound.binds (ps := ["trick"]) fun _ _ _ _ _ _ us hl => match us, hl with | [_], _ => rfl,
      g_bound := PySem.W.mg_of X G gf_bound,
      a_ring_of := a_ring_of,
      d_ring_of := d_ring_of,
      F_ring_of := F_ring_of,
      b_ring_of := F_ring_of.binds (ps := ["trick", "n"]) fun _ _ _ _ _ _ us hl => match us, hl with | [_, _], _ => rfl,
      g_ring_of := PySem.W.mg_of X G gf_ring_of,
      a_greatest_size := a_greatest_size,
      d_greatest_size := d_greatest_size,
      F_greatest_size := F_greatest_size,
      b_greatest_size := F_greatest_size.binds (ps := ["block", "times", "rest"]) fun _ _ _ _ _ _ us hl => match us, hl with | [_, _, _], _ => rfl,
      g_greatest_size := PySem.W.mg_of X G gf_greatest_size,
      a_rounded_up := a_rounded_up,
      d_rounded_up := d_rounded_up,
      F_rounded_up := F_rounded_up,
      b_rounded_up := F_rounded_up.binds (ps := ["n", "d"]) fun _ _ _ _ _ _ us hl => match us, hl with | [_, _], _ => rfl,
      g_rounded_up := PySem.W.mg_of X G gf_rounded_up,
      a_unseen_path := a_unseen_path,
      d_unseen_path := d_unseen_path,
      F_unseen_path := F_unseen_path,
      b_unseen_path := F_unseen_path.binds (ps := ["trick", "n", "seen"]) fun _ _ _ _ _ _ us hl => match us, hl with | [_, _, _], _ => rfl,
      g_unseen_path := PySem.W.mg_of X G gf_unseen_path,
      a_ring_at_end := a_ring_at_end,
      d_ring_at_end := d_ring_at_end,
      F_ring_at_end := F_ring_at_end,
      b_ring_at_end := F_ring_at_end.binds (ps := ["trick", "path"]) fun _ _ _ _ _ _ us hl => match us, hl with | [_, _], _ => rfl,
      g_ring_at_end := PySem.W.mg_of X G gf_ring_at_end,
      a_front_states := a_front_states,
      d_front_states := d_front_states,
      F_front_states := F_front_states,
      b_front_states := F_front_states.binds (ps := ["base", "labels"]) fun _ _ _ _ _ _ us hl => match us, hl with | [_, _], _ => rfl,
      g_front_states := PySem.W.mg_of X G gf_front_states,
      a_front_classes := a_front_classes,
      d_front_classes := d_front_classes,
      F_front_classes := F_front_classes,
      b_front_classes := F_front_classes.binds (ps := ["base", "labels"]) fun _ _ _ _ _ _ us hl => match us, hl with | [_, _], _ => rfl,
      g_front_classes := PySem.W.mg_of X G gf_front_classes,
      a_check_labels := a_check_labels,
      d_check_labels := d_check_labels,
      F_check_labels := F_check_labels,
      b_check_labels := F_check_labels.binds (ps := ["labels"]) fun _ _ _ _ _ _ us hl => match us, hl with | [_], _ => rfl,
      g_check_labels := PySem.W.mg_of X G gf_check_labels,
      a_front_machine := a_front_machine,
      d_front_machine := d_front_machine,
      F_front_machine := F_front_machine,
      b_front_machine := F_front_machine.binds (ps := ["base", "labels"]) fun _ _ _ _ _ _ us hl => match us, hl with | [_, _], _ => rfl,
      g_front_machine := PySem.W.mg_of X G gf_front_machine,
      a_classes := a_classes,
      d_classes := d_classes,
      F_classes := F_classes,
      b_classes := F_classes.binds (ps := ["machine"]) fun _ _ _ _ _ _ us hl => match us, hl with | [_], _ => rfl,
      g_classes := PySem.W.mg_of X G gf_classes,
      a_numbered := a_numbered,
      d_numbered := d_numbered,
      F_numbered := F_numbered,
      b_numbered := F_numbered.binds (ps := ["things"]) fun _ _ _ _ _ _ us hl => match us, hl with | [_], _ => rfl,
      g_numbered := PySem.W.mg_of X G gf_numbered,
      a_sum_tells := a_sum_tells,
      d_sum_tells := d_sum_tells,
      F_sum_tells := F_sum_tells,
      b_sum_tells := F_sum_tells.binds (ps := ["told", "d"]) fun _ _ _ _ _ _ us hl => match us, hl with | [_, _], _ => rfl,
      g_sum_tells := PySem.W.mg_of X G gf_sum_tells,
      a_sum_rest_fails := a_sum_rest_fails,
      d_sum_rest_fails := d_sum_rest_fails,
      F_sum_rest_fails := F_sum_rest_fails,
      b_sum_rest_fails := F_sum_rest_fails.binds (ps := ["told", "d"]) fun _ _ _ _ _ _ us hl => match us, hl with | [_, _], _ => rfl,
      g_sum_rest_fails := PySem.W.mg_of X G gf_sum_rest_fails,
      a_sum_fails := a_sum_fails,
      d_sum_fails := d_sum_fails,
      F_sum_fails := F_sum_fails,
      b_sum_fails := F_sum_fails.binds (ps := ["told", "d"]) fun _ _ _ _ _ _ us hl => match us, hl with | [_, _], _ => rfl,
      g_sum_fails := PySem.W.mg_of X G gf_sum_fails,
      a_rest_weights := a_rest_weights,
      d_rest_weights := d_rest_weights,
      F_rest_weights := F_rest_weights,
      b_rest_weights := F_rest_weights.binds (ps := ["base", "take", "d"]) fun _ _ _ _ _ _ us hl => match us, hl with | [_, _, _], _ => rfl,
      g_rest_weights := PySem.W.mg_of X G gf_rest_weights,
      a_check_weights := a_check_weights,
      d_check_weights := d_check_weights,
      F_check_weights := F_check_weights,
      b_check_weights := F_check_weights.binds (ps := ["told", "fewest"]) fun _ _ _ _ _ _ us hl => match us, hl with | [_, _], _ => rfl,
      g_check_weights := PySem.W.mg_of X G gf_check_weights,
      a_check_sum := a_check_sum,
      d_check_sum := d_check_sum,
      F_check_sum := F_check_sum,
      b_check_sum := F_check_sum.binds (ps := ["told"]) fun _ _ _ _ _ _ us hl => match us, hl with | [_], _ => rfl,
      g_check_sum := PySem.W.mg_of X G gf_check_sum,
      a_sum_block := a_sum_block,
      d_sum_block := d_sum_block,
      F_sum_block := F_sum_block,
      b_sum_block := F_sum_block.binds (ps := ["told"]) fun _ _ _ _ _ _ us hl => match us, hl with | [_], _ => rfl,
      g_sum_block := PySem.W.mg_of X G gf_sum_block,
      a_weight_at := a_weight_at,
      d_weight_at := d_weight_at,
      F_weight_at := F_weight_at,
      b_weight_at := F_weight_at.binds (ps := ["told", "place"]) fun _ _ _ _ _ _ us hl => match us, hl with | [_, _], _ => rfl,
      g_weight_at := PySem.W.mg_of X G gf_weight_at,
      a_power_rests := a_power_rests,
      d_power_rests := d_power_rests,
      F_power_rests := F_power_rests,
      b_power_rests := F_power_rests.binds (ps := ["block", "d"]) fun _ _ _ _ _ _ us hl => match us, hl with | [_, _], _ => rfl,
      g_power_rests := PySem.W.mg_of X G gf_power_rests,
      a_nearest := a_nearest,
      d_nearest := d_nearest,
      F_nearest := F_nearest,
      b_nearest := F_nearest.binds (ps := ["rest", "d"]) fun _ _ _ _ _ _ us hl => match us, hl with | [_, _], _ => rfl,
      g_nearest := PySem.W.mg_of X G gf_nearest,
      a_turn := a_turn,
      d_turn := d_turn,
      F_turn := F_turn,
      b_turn := F_turn.binds (ps := ["told", "d"]) fun _ _ _ _ _ _ us hl => match us, hl with | [_, _], _ => rfl,
      g_turn := PySem.W.mg_of X G gf_turn,
      a_new_rests := a_new_rests,
      d_new_rests := d_new_rests,
      F_new_rests := F_new_rests,
      b_new_rests := F_new_rests.binds (ps := ["least", "block", "power", "weight", "d"]) fun _ _ _ _ _ _ us hl => match us, hl with | [_, _, _, _, _], _ => rfl,
      g_new_rests := PySem.W.mg_of X G gf_new_rests,
      a__law_taken := a__law_taken,
      d__law_taken := d__law_taken,
      F__law_taken := F__law_taken,
      b__law_taken := F__law_taken.binds (ps := ["_law_row", "_law_many"]) fun _ _ _ _ _ _ us hl => match us, hl with | [_, _], _ => rfl,
      g__law_taken := PySem.W.mg_of X G gf__law_taken,
      a__law_power := a__law_power,
      d__law_power := d__law_power,
      F__law_power := F__law_power,
      b__law_power := F__law_power.binds (ps := ["_law_base", "_law_many"]) fun _ _ _ _ _ _ us hl => match us, hl with | [_, _], _ => rfl,
      g__law_power := PySem.W.mg_of X G gf__law_power,
      a__law_trick := a__law_trick,
      d__law_trick := d__law_trick,
      F__law_trick := F__law_trick,
      b__law_trick := F__law_trick.binds (ps := ["_law_row", "_law_small"]) fun _ _ _ _ _ _ us hl => match us, hl with | [_, _], _ => rfl,
      g__law_trick := PySem.W.mg_of X G gf__law_trick,
      a__law_number := a__law_number,
      d__law_number := d__law_number,
      F__law_number := F__law_number,
      b__law_number := F__law_number.binds (ps := ["_law_row"]) fun _ _ _ _ _ _ us hl => match us, hl with | [_], _ => rfl,
      g__law_number := PySem.W.mg_of X G gf__law_number,
      a__law_sum := a__law_sum,
      d__law_sum := d__law_sum,
      F__law_sum := F__law_sum,
      b__law_sum := F__law_sum.binds (ps := ["_law_row", "_law_d"]) fun _ _ _ _ _ _ us hl => match us, hl with | [_, _], _ => rfl,
      g__law_sum := PySem.W.mg_of X G gf__law_sum,
      a__law_labels := a__law_labels,
      d__law_labels := d__law_labels,
      F__law_labels := F__law_labels,
      b__law_labels := F__law_labels.binds (ps := ["_law_row", "_law_most"]) fun _ _ _ _ _ _ us hl => match us, hl with | [_, _], _ => rfl,
      g__law_labels := PySem.W.mg_of X G gf__law_labels,
      a_law := a_law,
      d_law := _,
      F_law := fun_mk (st := s_law) l_law c_law kp_law,
      b_law := (fun_mk (st := s_law) l_law c_law kp_law).binds (ps := ["_law_script"]) fun _ _ _ _ _ _ us hl => match us, hl with | [_], _ => rfl,
      g_law := PySem.W.mg_of X G gf_law,
      C_Trick := C_Trick,
      cl_Trick := ⟨pg_Trick, hd_Trick, po_Trick, sa_Trick⟩,
      g_Trick := PySem.W.mg_of X G gx_Trick,
      kc_Trick := kc_Trick,
      ins_Trick := fun _ _ _ _ e => .ins e ⟨pg_Trick, hd_Trick, po_Trick, sa_Trick⟩ cc_Trick sp_cls tk_cls mo_Trick,
      ki_Trick_int := ki_Trick_int,
      ki_Trick_bool := ki_Trick_bool,
      ki_Trick_tuple := ki_Trick_tuple,
      ki_Trick_list := ki_Trick_list,
      nf_Trick_tuple := nf_Trick_tuple,
      kis_Trick := kis_Trick,
      kin_Trick_int := kin_Trick_int,
      kin_Trick_bool := kin_Trick_bool,
      kin_Trick_tuple := kin_Trick_tuple,
      kin_Trick_list := kin_Trick_list,
      kin_Trick_NoneType := kin_Trick_NoneType,
      kin_Trick_str := kin_Trick_str,
      kin_Trick_dict := kin_Trick_dict,
      na_Trick_base := na_Trick_base,
      na_Trick_take := na_Trick_take,
      na_Trick_times := na_Trick_times,
      a_Trick___init__ := a_Trick___init__,
      d_Trick___init__ := _,
      F_Trick___init__ := fun_mk (st := s_Trick___init__) l_Trick___init__ c_Trick___init__ kp_Trick___init__,
      b_Trick___init__ := (fun_mk (st := s_Trick___init__) l_Trick___init__ c_Trick___init__ kp_Trick___init__).binds (ps := ["self", "base", "take", "times"]) fun _ _ _ _ _ _ us hl => match us, hl with | [_, _, _, _], _ => rfl,
      mk_Trick := ⟨mk_Trick, gf_Trick___init__, isf_Trick___init__, kc_Trick⟩,
      a_Trick_base := a_Trick_base,
      d_Trick_base := _,
      F_Trick_base := fun_mk (st := s_Trick_base) l_Trick_base c_Trick_base kp_Trick_base,
      b_Trick_base := (fun_mk (st := s_Trick_base) l_Trick_base c_Trick_base kp_Trick_base).binds (ps := ["self"]) fun _ _ _ _ _ _ us hl => match us, hl with | [_], _ => rfl,
      q_Trick_base := pr_Trick_base,
      p_Trick_base := ⟨pa_Trick_base, pg_Trick_base, pt_Trick_base, ⟨_, prr_Trick_base⟩⟩,
      a_Trick_take := a_Trick_take,
      d_Trick_take := _,
      F_Trick_take := fun_mk (st := s_Trick_take) l_Trick_take c_Trick_take kp_Trick_take,
      b_Trick_take := (fun_mk (st := s_Trick_take) l_Trick_take c_Trick_take kp_Trick_take).binds (ps := ["self"]) fun _ _ _ _ _ _ us hl => match us, hl with | [_], _ => rfl,
      q_Trick_take := pr_Trick_take,
      p_Trick_take := ⟨pa_Trick_take, pg_Trick_take, pt_Trick_take, ⟨_, prr_Trick_take⟩⟩,
      a_Trick_times := a_Trick_times,
      d_Trick_times := _,
      F_Trick_times := fun_mk (st := s_Trick_times) l_Trick_times c_Trick_times kp_Trick_times,
      b_Trick_times := (fun_mk (st := s_Trick_times) l_Trick_times c_Trick_times kp_Trick_times).binds (ps := ["self"]) fun _ _ _ _ _ _ us hl => match us, hl with | [_], _ => rfl,
      q_Trick_times := pr_Trick_times,
      p_Trick_times := ⟨pa_Trick_times, pg_Trick_times, pt_Trick_times, ⟨_, prr_Trick_times⟩⟩,
      a_Trick___eq__ := a_Trick___eq__,
      d_Trick___eq__ := _,
      F_Trick___eq__ := fun_mk (st := s_Trick___eq__) l_Trick___eq__ c_Trick___eq__ kp_Trick___eq__,
      b_Trick___eq__ := (fun_mk (st := s_Trick___eq__) l_Trick___eq__ c_Trick___eq__ kp_Trick___eq__).binds (ps := ["self", "other"]) fun _ _ _ _ _ _ us hl => match us, hl with | [_, _], _ => rfl,
      m_Trick___eq__ := ⟨gf_Trick___eq__, isf_Trick___eq__, kp_Trick___eq__⟩,
      C_Sum := C_Sum,
      cl_Sum := ⟨pg_Sum, hd_Sum, po_Sum, sa_Sum⟩,
      g_Sum := PySem.W.mg_of X G gx_Sum,
      kc_Sum := kc_Sum,
      ins_Sum := fun _ _ _ _ e => .ins e ⟨pg_Sum, hd_Sum, po_Sum, sa_Sum⟩ cc_Sum sp_cls tk_cls mo_Sum,
      ki_Sum_int := ki_Sum_int,
      ki_Sum_bool := ki_Sum_bool,
      ki_Sum_tuple := ki_Sum_tuple,
      ki_Sum_list := ki_Sum_list,
      nf_Sum_tuple := nf_Sum_tuple,
      kis_Sum := kis_Sum,
      kin_Sum_int := kin_Sum_int,
      kin_Sum_bool := kin_Sum_bool,
      kin_Sum_tuple := kin_Sum_tuple,
      kin_Sum_list := kin_Sum_list,
      kin_Sum_NoneType := kin_Sum_NoneType,
      kin_Sum_str := kin_Sum_str,
      kin_Sum_dict := kin_Sum_dict,
      na_Sum_base := na_Sum_base,
      na_Sum_first := na_Sum_first,
      na_Sum_loop := na_Sum_loop,
      na_Sum_take := na_Sum_take,
      a_Sum___init__ := a_Sum___init__,
      d_Sum___init__ := _,
      F_Sum___init__ := fun_mk (st := s_Sum___init__) l_Sum___init__ c_Sum___init__ kp_Sum___init__,
      b_Sum___init__ := (fun_mk (st := s_Sum___init__) l_Sum___init__ c_Sum___init__ kp_Sum___init__).binds (ps := ["self", "base", "take", "first", "loop"]) fun _ _ _ _ _ _ us hl => match us, hl with | [_, _, _, _, _], _ => rfl,
      mk_Sum := ⟨mk_Sum, gf_Sum___init__, isf_Sum___init__, kc_Sum⟩,
      a_Sum_base := a_Sum_base,
      d_Sum_base := _,
      F_Sum_base := fun_mk (st := s_Sum_base) l_Sum_base c_Sum_base kp_Sum_base,
      b_Sum_base := (fun_mk (st := s_Sum_base) l_Sum_base c_Sum_base kp_Sum_base).binds (ps := ["self"]) fun _ _ _ _ _ _ us hl => match us, hl with | [_], _ => rfl,
      q_Sum_base := pr_Sum_base,
      p_Sum_base := ⟨pa_Sum_base, pg_Sum_base, pt_Sum_base, ⟨_, prr_Sum_base⟩⟩,
      a_Sum_take := a_Sum_take,
      d_Sum_take := _,
      F_Sum_take := fun_mk (st := s_Sum_take) l_Sum_take c_Sum_take kp_Sum_take,
      b_Sum_take := (fun_mk (st := s_Sum_take) l_Sum_take c_Sum_take kp_Sum_take).binds (ps := ["self"]) fun _ _ _ _ _ _ us hl => match us, hl with | [_], _ => rfl,
      q_Sum_take := pr_Sum_take,
      p_Sum_take := ⟨pa_Sum_take, pg_Sum_take, pt_Sum_take, ⟨_, prr_Sum_take⟩⟩,
      a_Sum_first := a_Sum_first,
      d_Sum_first := _,
      F_Sum_first := fun_mk (st := s_Sum_first) l_Sum_first c_Sum_first kp_Sum_first,
      b_Sum_first := (fun_mk (st := s_Sum_first) l_Sum_first c_Sum_first kp_Sum_first).binds (ps := ["self"]) fun _ _ _ _ _ _ us hl => match us, hl with | [_], _ => rfl,
      q_Sum_first := pr_Sum_first,
      p_Sum_first := ⟨pa_Sum_first, pg_Sum_first, pt_Sum_first, ⟨_, prr_Sum_first⟩⟩,
      a_Sum_loop := a_Sum_loop,
      d_Sum_loop := _,
      F_Sum_loop := fun_mk (st := s_Sum_loop) l_Sum_loop c_Sum_loop kp_Sum_loop,
      b_Sum_loop := (fun_mk (st := s_Sum_loop) l_Sum_loop c_Sum_loop kp_Sum_loop).binds (ps := ["self"]) fun _ _ _ _ _ _ us hl => match us, hl with | [_], _ => rfl,
      q_Sum_loop := pr_Sum_loop,
      p_Sum_loop := ⟨pa_Sum_loop, pg_Sum_loop, pt_Sum_loop, ⟨_, prr_Sum_loop⟩⟩,
      a_Sum___eq__ := a_Sum___eq__,
      d_Sum___eq__ := _,
      F_Sum___eq__ := fun_mk (st := s_Sum___eq__) l_Sum___eq__ c_Sum___eq__ kp_Sum___eq__,
      b_Sum___eq__ := (fun_mk (st := s_Sum___eq__) l_Sum___eq__ c_Sum___eq__ kp_Sum___eq__).binds (ps := ["self", "other"]) fun _ _ _ _ _ _ us hl => match us, hl with | [_, _], _ => rfl,
      m_Sum___eq__ := ⟨gf_Sum___eq__, isf_Sum___eq__, kp_Sum___eq__⟩,
      n_int := PySem.W.mg_none_of X G z_int,
      n_bool := PySem.W.mg_none_of X G z_bool,
      n_len := PySem.W.mg_none_of X G z_len,
      n_range := PySem.W.mg_none_of X G z_range,
      n_isinstance := PySem.W.mg_none_of X G z_isinstance,
      n_tuple := PySem.W.mg_none_of X G z_tuple,
      n_list := PySem.W.mg_none_of X G z_list,
      n_enumerate := PySem.W.mg_none_of X G z_enumerate,
      n_abs := PySem.W.mg_none_of X G z_abs,
      n_set := PySem.W.mg_none_of X G z_set,
      n_all := PySem.W.mg_none_of X G z_all,
      n_min := PySem.W.mg_none_of X G z_min,
      n_max := PySem.W.mg_none_of X G z_max,
      n_super := PySem.W.mg_none_of X G z_super,
      n_ValueError := PySem.W.mg_none_of X G z_ValueError,
      a_BadNumber___init__ := a_BadNumber___init__,
      x_BadNumber := { gC := PySem.W.mg_of X G gx_BadNumber, cls := ⟨_, _, _, _, _, _, _, _, _, _, _, _, _, _, _, xl_BadNumber___init__, xrb_BadNumber___init__⟩, sa := xsa_BadNumber___init__, ga := xga_BadNumber___init__, gg := xgg_BadNumber___init__, noF := xnf_BadNumber___init__, iC := xic_BadNumber___init__, tC := xtc_BadNumber___init__, kC := k_BadNumber, exC := s_BadNumber, tyC := t_BadNumber, hdC := xhd_BadNumber___init__, up := xup_BadNumber___init__, any := xan_BadNumber___init__, ve := xve_BadNumber___init__, own := xow_BadNumber___init__, sup := PySem.W.mg_none_of X G z_super, main := rmn_BadNumber___init__, fn := ⟨_, _, _, _, _, _, _, _, _, _, _, _, _, _, _, _, _, _, _, xfn_BadNumber___init__, xco_BadNumber___init__, xcd_BadNumber___init__, rvs_BadNumber___init__, rfi_BadNumber___init__, xcc_BadNumber___init__⟩, text := ⟨_, _, _, _, _, _, _, _, _, _, _, rfl, rfl, fun _ => rfl⟩, kS := rfl, kK := rfl, k0 := rfl, kF := rfl, nF := by decide, nD := by decide, noCell := by decide +kernel, bind := fun _ _ _ _ _ _ _ _ _ => rfl, plain := fun _ => rfl, knd := rfl, co := rfl, gen := rfl },
      a_BadWeights___init__ := a_BadWeights___init__,
      x_BadWeights := { gC := PySem.W.mg_of X G gx_BadWeights, cls := ⟨_, _, _, _, _, _, _, _, _, _, _, _, _, _, _, xl_BadWeights___init__, xrb_BadWeights___init__⟩, sa := xsa_BadWeights___init__, ga := xga_BadWeights___init__, gg := xgg_BadWeights___init__, noF := xnf_BadWeights___init__, iC := xic_BadWeights___init__, tC := xtc_BadWeights___init__, kC := k_BadWeights, exC := s_BadWeights, tyC := t_BadWeights, hdC := xhd_BadWeights___init__, up := xup_BadWeights___init__, any := xan_BadWeights___init__, ve := xve_BadWeights___init__, own := xow_BadWeights___init__, sup := PySem.W.mg_none_of X G z_super, main := rmn_BadWeights___init__, fn := ⟨_, _, _, _, _, _, _, _, _, _, _, _, _, _, _, _, _, _, _, xfn_BadWeights___init__, xco_BadWeights___init__, xcd_BadWeights___init__, rvs_BadWeights___init__, rfi_BadWeights___init__, xcc_BadWeights___init__⟩, text := ⟨_, _, _, _, _, _, _, _, _, _, _, rfl, rfl, fun _ => rfl⟩, kS := rfl, kK := rfl, k0 := rfl, kF := rfl, nF := by decide, nD := by decide, noCell := by decide +kernel, bind := fun _ _ _ _ _ _ _ _ _ => rfl, plain := fun _ => rfl, knd := rfl, co := rfl, gen := rfl },
      a_BadRests___init__ := a_BadRests___init__,
      x_BadRests := { gC := PySem.W.mg_of X G gx_BadRests, cls := ⟨_, _, _, _, _, _, _, _, _, _, _, _, _, _, _, xl_BadRests___init__, xrb_BadRests___init__⟩, sa := xsa_BadRests___init__, ga := xga_BadRests___init__, gg := xgg_BadRests___init__, noF := xnf_BadRests___init__, iC := xic_BadRests___init__, tC := xtc_BadRests___init__, kC := k_BadRests, exC := s_BadRests, tyC := t_BadRests, hdC := xhd_BadRests___init__, up := xup_BadRests___init__, any := xan_BadRests___init__, ve := xve_BadRests___init__, own := xow_BadRests___init__, sup := PySem.W.mg_none_of X G z_super, main := rmn_BadRests___init__, fn := ⟨_, _, _, _, _, _, _, _, _, _, _, _, _, _, _, _, _, _, _, xfn_BadRests___init__, xco_BadRests___init__, xcd_BadRests___init__, rvs_BadRests___init__, rfi_BadRests___init__, xcc_BadRests___init__⟩, text := ⟨_, _, _, _, _, _, _, _, _, _, _, rfl, rfl, fun _ => rfl⟩, kS := rfl, kK := rfl, k0 := rfl, kF := rfl, nF := by decide, nD := by decide, noCell := by decide +kernel, bind := fun _ _ _ _ _ _ _ _ _ => rfl, plain := fun _ => rfl, knd := rfl, co := rfl, gen := rfl },
      a_BadTricks___init__ := a_BadTricks___init__,
      x_BadTricks := { gC := PySem.W.mg_of X G gx_BadTricks, cls := ⟨_, _, _, _, _, _, _, _, _, _, _, _, _, _, _, xl_BadTricks___init__, xrb_BadTricks___init__⟩, sa := xsa_BadTricks___init__, ga := xga_BadTricks___init__, gg := xgg_BadTricks___init__, noF := xnf_BadTricks___init__, iC := xic_BadTricks___init__, tC := xtc_BadTricks___init__, kC := k_BadTricks, exC := s_BadTricks, tyC := t_BadTricks, hdC := xhd_BadTricks___init__, up := xup_BadTricks___init__, any := xan_BadTricks___init__, ve := xve_BadTricks___init__, own := xow_BadTricks___init__, sup := PySem.W.mg_none_of X G z_super, main := rmn_BadTricks___init__, fn := ⟨_, _, _, _, _, _, _, _, _, _, _, _, _, _, _, _, _, _, _, xfn_BadTricks___init__, xco_BadTricks___init__, xcd_BadTricks___init__, rvs_BadTricks___init__, rfi_BadTricks___init__, xcc_BadTricks___init__⟩, text := ⟨_, _, _, _, _, _, _, _, _, _, _, rfl, rfl, fun _ => rfl⟩, kS := rfl, kK := rfl, k0 := rfl, kF := rfl, nF := by decide, nD := by decide, noCell := by decide +kernel, bind := fun _ _ _ _ _ _ _ _ _ => rfl, plain := fun _ => rfl, knd := rfl, co := rfl, gen := rfl },
      a_TooWide___init__ := a_TooWide___init__,
      x_TooWide := { gC := PySem.W.mg_of X G gx_TooWide, cls := ⟨_, _, _, _, _, _, _, _, _, _, _, _, _, _, _, xl_TooWide___init__, xrb_TooWide___init__⟩, sa := xsa_TooWide___init__, ga := xga_TooWide___init__, gg := xgg_TooWide___init__, noF := xnf_TooWide___init__, iC := xic_TooWide___init__, tC := xtc_TooWide___init__, kC := k_TooWide, exC := s_TooWide, tyC := t_TooWide, hdC := xhd_TooWide___init__, up := xup_TooWide___init__, any := xan_TooWide___init__, ve := xve_TooWide___init__, own := xow_TooWide___init__, sup := PySem.W.mg_none_of X G z_super, main := rmn_TooWide___init__, fn := ⟨_, _, _, _, _, _, _, _, _, _, _, _, _, _, _, _, _, _, _, xfn_TooWide___init__, xco_TooWide___init__, xcd_TooWide___init__, rvs_TooWide___init__, rfi_TooWide___init__, xcc_TooWide___init__⟩, text := ⟨_, _, _, _, _, _, _, _, _, _, _, rfl, rfl, fun _ => rfl⟩, kS := rfl, kK := rfl, k0 := rfl, kF := rfl, nF := by decide, nD := by decide, noCell := by decide +kernel, bind := fun _ _ _ _ _ _ _ _ _ => rfl, plain := fun _ => rfl, knd := rfl, co := rfl, gen := rfl } })
theorem walk {l : PySem.W.OpenLaw} {q : Program} {loose : List Str} {XP : (Str → Option Value) → Heap → Prop} {YP : World → Heap → Prop} {d : DefRec} {K : Params → PySem.W.Frag} (hn : l.most = some 63) (hdn : d.name = "law") (hdf : d.params.defaults = [])
    (hY : ∀ (w : World) (h : Heap), YP w h → (K w.params).In h)
    (F : ∀ (w : World) (mg : Str → Option Value) (fa : Addr) (h : Heap), (K w.params).In h → h.Ns mainGlobals mg → mg "law" = some (.ref fa) →
      ∃ fd : FuncData, (∀ (s : Shared) (u : Value), BindsTo s fd ⟨[u], []⟩ [("_law_script", u)]) ∧ ∀ base : Heap, (K w.params).In base → base.Ns mainGlobals mg → FnOk l.prog w (K w.params) mg base CX0 lv_law fa fd ["_law_script"] (sp_law (K w.params))) :
    PySem.W.WalkO q loose XP YP l.row.toRowW d [] (fun f vs => PySem.call f vs) :=
  L2.walk_of (n := 63) (k := lv_law) (x := "_law_script") (CX := fun _ => CX0) (sp := fun w => sp_law (K w.params)) hn (by decide) hdf ⟨rfl, by decide, by decide⟩ hY (fun w mg fa h a b c => F w mg fa h a b (hdn ▸ c)) (fun _ _ a ns hl hO hS => ⟨a, ns, rfl, scr_of hO hS, hl, fun _ => rfl⟩) fun _ _ _ _ _ z => z
end Rt
open PySem PySem.W PyProof.Rows
set_option maxRecDepth 100000 in
set_option maxHeartbeats 0 in
theorem PySem.Challenge.cw_resttricks_k40_what_holds_holds : PySem.Challenge.rw_resttricks_k40_what_holds.Holds := by
  w_on; o_law
  refine HandSHeadRun.head_any (r := Rt.topRow) (q := view Rt.topRow.prog [94]) (H := Rt.topHook) (ob := Rt.topSeen) (M := 11866)
    (loose := Rt.topOthers) (d := HandSHeadRun.topDef Rt.topRow.prog 94) (kwd := []) Rt.topSeen_eq
    (by kernel_rfl) (fun s => by kernel_rfl) Rt.topRan (by kernel_rfl) (by kernel_rfl) (by kernel_rfl) (by rfl)
    (by first | assumption | decide +kernel) (by decide +kernel) ⟨rfl, rfl, rfl, rfl, rfl, by decide +kernel⟩ ?hw ?hc
  case hw => w_witness2
  refine Rt.walk (l := PySem.Challenge.rw_resttricks_k40_what_holds) (K := Rt.topPart.heap_1) rfl (by kernel_rfl) (by kernel_rfl) (fun w h Y => PySem.W.kIn_of Y) ?F
  k_fill
  case F => as_aux_lemma =>
    intro w mg fa h KX G hmg
    refine' Rt.all_mk KX G hmg ?gx_TrickError ?x_TrickError ?k_TrickError ?s_TrickError ?t_TrickError ?gx_BadBase ?x_BadBase ?k_BadBase ?s_BadBase ?t_BadBase ?gx_BadTake ?x_BadTake ?k_BadTake ?s_BadTake ?t_BadTake ?gx_BadTimes ?x_BadTimes ?k_BadTimes ?s_BadTimes ?t_BadTimes ?gx_BadTrick ?x_BadTrick ?k_BadTrick ?s_BadTrick ?t_BadTrick ?gx_BadDivisor ?x_BadDivisor ?k_BadDivisor ?s_BadDivisor ?t_BadDivisor ?gx_BadSum ?x_BadSum ?k_BadSum ?s_BadSum ?t_BadSum ?gx_BadNumber ?k_BadNumber ?s_BadNumber ?t_BadNumber ?gx_BadWeights ?k_BadWeights ?s_BadWeights ?t_BadWeights ?gx_BadRests ?k_BadRests ?s_BadRests ?t_BadRests ?gx_BadTricks ?k_BadTricks ?s_BadTricks ?t_BadTricks ?gx_TooWide ?k_TooWide ?s_TooWide ?t_TooWide ?cx_GREATEST_NUMBER ?cx_LEAST_BASE ?cx_GREATEST_BASE ?cx_GREATEST_TAKE ?cx_GREATEST_DIVISOR ?cx_GREATEST_TIMES ?cx_MOST_TRICKS ?cx_GREATEST_CHAIN_DIVISOR ?cx_GREATEST_PRODUCT ?cx_MOST_LABELS ?cx_GREATEST_LABEL ?cx_GREATEST_WEIGHT ?cx_MOST_WEIGHTS ?cx_GREATEST_SUM_DIVISOR ?df_is_integer ?df_is_tuple ?df_is_list_or_tuple ?df_is_number ?df_first_wrong ?df_check_base ?df_check_take ?gf_check_divisor ?l_check_divisor ?c_check_divisor ?kp_check_divisor ?ldT_check_divisor ?rdv_check_divisor ?df_check_number ?df_block_of ?df_done ?df_check_trick ?df_trick_block ?df_made_of ?df_made_with ?df_tells ?df_factor ?df_multipliers ?df_keeps_rest ?df_tells_multiples ?df_chain_tells ?df_check_tricks ?df_check_chain ?df_made_of_all ?df_blocks_product ?df_rest_pairs ?df_bound ?df_ring_of ?df_greatest_size ?df_rounded_up ?df_unseen_path ?df_ring_at_end ?df_front_states ?df_front_classes ?df_check_labels ?df_front_machine ?df_classes ?df_numbered ?df_sum_tells ?df_sum_rest_fails ?df_sum_fails ?df_rest_weights ?df_check_weights ?df_check_sum ?df_sum_block ?df_weight_at ?df_power_rests ?df_nearest ?df_turn ?df_new_rests ?df__law_taken ?df__law_power ?df__law_trick ?df__law_number ?df__law_sum ?df__law_labels ?gf_law ?l_law ?c_law ?kp_law ?gx_Trick ?pg_Trick ?hd_Trick ?po_Trick ?sa_Trick ?mk_Trick ?kc_Trick ?cc_Trick ?mo_Trick ?sp_cls ?tk_cls ?ki_Trick_int ?ki_Trick_bool ?ki_Trick_tuple ?ki_Trick_list ?nf_Trick_tuple ?kis_Trick ?kin_Trick_int ?kin_Trick_bool ?kin_Trick_tuple ?kin_Trick_list ?kin_Trick_NoneType ?kin_Trick_str ?kin_Trick_dict ?na_Trick_base ?na_Trick_take ?na_Trick_times ?gf_Trick___init__ ?l_Trick___init__ ?c_Trick___init__ ?kp_Trick___init__ ?isf_Trick___init__ ?pa_Trick_base ?pg_Trick_base ?pt_Trick_base ?prr_Trick_base ?l_Trick_base ?c_Trick_base ?kp_Trick_base ?pa_Trick_take ?pg_Trick_take ?pt_Trick_take ?prr_Trick_take ?l_Trick_take ?c_Trick_take ?kp_Trick_take ?pa_Trick_times ?pg_Trick_times ?pt_Trick_times ?prr_Trick_times ?l_Trick_times ?c_Trick_times ?kp_Trick_times ?gf_Trick___eq__ ?l_Trick___eq__ ?c_Trick___eq__ ?kp_Trick___eq__ ?isf_Trick___eq__ ?gx_Sum ?pg_Sum ?hd_Sum ?po_Sum ?sa_Sum ?mk_Sum ?kc_Sum ?cc_Sum ?mo_Sum ?ki_Sum_int ?ki_Sum_bool ?ki_Sum_tuple ?ki_Sum_list ?nf_Sum_tuple ?kis_Sum ?kin_Sum_int ?kin_Sum_bool ?kin_Sum_tuple ?kin_Sum_list ?kin_Sum_NoneType ?kin_Sum_str ?kin_Sum_dict ?na_Sum_base ?na_Sum_first ?na_Sum_loop ?na_Sum_take ?gf_Sum___init__ ?l_Sum___init__ ?c_Sum___init__ ?kp_Sum___init__ ?isf_Sum___init__ ?pa_Sum_base ?pg_Sum_base ?pt_Sum_base ?prr_Sum_base ?l_Sum_base ?c_Sum_base ?kp_Sum_base ?pa_Sum_take ?pg_Sum_take ?pt_Sum_take ?prr_Sum_take ?l_Sum_take ?c_Sum_take ?kp_Sum_take ?pa_Sum_first ?pg_Sum_first ?pt_Sum_first ?prr_Sum_first ?l_Sum_first ?c_Sum_first ?kp_Sum_first ?pa_Sum_loop ?pg_Sum_loop ?pt_Sum_loop ?prr_Sum_loop ?l_Sum_loop ?c_Sum_loop ?kp_Sum_loop ?gf_Sum___eq__ ?l_Sum___eq__ ?c_Sum___eq__ ?kp_Sum___eq__ ?isf_Sum___eq__ ?z_int ?z_bool ?z_len ?z_range ?z_isinstance ?z_tuple ?z_list ?z_enumerate ?z_abs ?z_set ?z_all ?z_min ?z_max ?z_super ?z_ValueError ?xl_BadNumber___init__ ?xrb_BadNumber___init__ ?xsa_BadNumber___init__ ?xga_BadNumber___init__ ?xgg_BadNumber___init__ ?xnf_BadNumber___init__ ?xic_BadNumber___init__ ?xtc_BadNumber___init__ ?xhd_BadNumber___init__ ?xup_BadNumber___init__ ?xan_BadNumber___init__ ?xve_BadNumber___init__ ?xow_BadNumber___init__ ?rmn_BadNumber___init__ ?xfn_BadNumber___init__ ?xco_BadNumber___init__ ?xcd_BadNumber___init__ ?rvs_BadNumber___init__ ?rfi_BadNumber___init__ ?xcc_BadNumber___init__ ?xl_BadWeights___init__ ?xrb_BadWeights___init__ ?xsa_BadWeights___init__ ?xga_BadWeights___init__ ?xgg_BadWeights___init__ ?xnf_BadWeights___init__ ?xic_BadWeights___init__ ?xtc_BadWeights___init__ ?xhd_BadWeights___init__ ?xup_BadWeights___init__ ?xan_BadWeights___init__ ?xve_BadWeights___init__ ?xow_BadWeights___init__ ?rmn_BadWeights___init__ ?xfn_BadWeights___init__ ?xco_BadWeights___init__ ?xcd_BadWeights___init__ ?rvs_BadWeights___init__ ?rfi_BadWeights___init__ ?xcc_BadWeights___init__ ?xl_BadRests___init__ ?xrb_BadRests___init__ ?xsa_BadRests___init__ ?xga_BadRests___init__ ?xgg_BadRests___init__ ?xnf_BadRests___init__ ?xic_BadRests___init__ ?xtc_BadRests___init__ ?xhd_BadRests___init__ ?xup_BadRests___init__ ?xan_BadRests___init__ ?xve_BadRests___init__ ?xow_BadRests___init__ ?rmn_BadRests___init__ ?xfn_BadRests___init__ ?xco_BadRests___init__ ?xcd_BadRests___init__ ?rvs_BadRests___init__ ?rfi_BadRests___init__ ?xcc_BadRests___init__ ?xl_BadTricks___init__ ?xrb_BadTricks___init__ ?xsa_BadTricks___init__ ?xga_BadTricks___init__ ?xgg_BadTricks___init__ ?xnf_BadTricks___init__ ?xic_BadTricks___init__ ?xtc_BadTricks___init__ ?xhd_BadTricks___init__ ?xup_BadTricks___init__ ?xan_BadTricks___init__ ?xve_BadTricks___init__ ?xow_BadTricks___init__ ?rmn_BadTricks___init__ ?xfn_BadTricks___init__ ?xco_BadTricks___init__ ?xcd_BadTricks___init__ ?rvs_BadTricks___init__ ?rfi_BadTricks___init__ ?xcc_BadTricks___init__ ?xl_TooWide___init__ ?xrb_TooWide___init__ ?xsa_TooWide___init__ ?xga_TooWide___init__ ?xgg_TooWide___init__ ?xnf_TooWide___init__ ?xic_TooWide___init__ ?xtc_TooWide___init__ ?xhd_TooWide___init__ ?xup_TooWide___init__ ?xan_TooWide___init__ ?xve_TooWide___init__ ?xow_TooWide___init__ ?rmn_TooWide___init__ ?xfn_TooWide___init__ ?xco_TooWide___init__ ?xcd_TooWide___init__ ?rvs_TooWide___init__ ?rfi_TooWide___init__ ?xcc_TooWide___init__
    (case gx_TrickError => k_is)
    (case x_TrickError => k_exc)
    (case k_TrickError => first | (as_aux_lemma => k_is) | k_is)
    (case s_TrickError => first | (as_aux_lemma => k_is) | k_is)
    (case t_TrickError => first | (as_aux_lemma => k_is) | k_is)
    (case gx_BadBase => k_is)
    (case x_BadBase => k_exc)
    (case k_BadBase => first | (as_aux_lemma => k_is) | k_is)
    (case s_BadBase => first | (as_aux_lemma => k_is) | k_is)
    (case t_BadBase => first | (as_aux_lemma => k_is) | k_is)
    (case gx_BadTake => k_is)
    (case x_BadTake => k_exc)
    (case k_BadTake => first | (as_aux_lemma => k_is) | k_is)
    (case s_BadTake => first | (as_aux_lemma => k_is) | k_is)
    (case t_BadTake => first | (as_aux_lemma => k_is) | k_is)
    (case gx_BadTimes => k_is)
    (case x_BadTimes => k_exc)
    (case k_BadTimes => first | (as_aux_lemma => k_is) | k_is)
    (case s_BadTimes => first | (as_aux_lemma => k_is) | k_is)
    (case t_BadTimes => first | (as_aux_lemma => k_is) | k_is)
    (case gx_BadTrick => k_is)
    (case x_BadTrick => k_exc)
    (case k_BadTrick => first | (as_aux_lemma => k_is) | k_is)
    (case s_BadTrick => first | (as_aux_lemma => k_is) | k_is)
    (case t_BadTrick => first | (as_aux_lemma => k_is) | k_is)
    (case gx_BadDivisor => k_is)
    (case x_BadDivisor => k_exc)
    (case k_BadDivisor => first | (as_aux_lemma => k_is) | k_is)
    (case s_BadDivisor => first | (as_aux_lemma => k_is) | k_is)
    (case t_BadDivisor => first | (as_aux_lemma => k_is) | k_is)
    (case gx_BadSum => k_is)
    (case x_BadSum => k_exc)
    (case k_BadSum => first | (as_aux_lemma => k_is) | k_is)
    (case s_BadSum => first | (as_aux_lemma => k_is) | k_is)
    (case t_BadSum => first | (as_aux_lemma => k_is) | k_is)
    (case gx_BadNumber => k_is)
    (case k_BadNumber => first | (as_aux_lemma => k_is) | k_is)
    (case s_BadNumber => first | (as_aux_lemma => k_is) | k_is)
    (case t_BadNumber => first | (as_aux_lemma => k_is) | k_is)
    (case gx_BadWeights => k_is)
    (case k_BadWeights => first | (as_aux_lemma => k_is) | k_is)
    (case s_BadWeights => first | (as_aux_lemma => k_is) | k_is)
    (case t_BadWeights => first | (as_aux_lemma => k_is) | k_is)
    (case gx_BadRests => k_is)
    (case k_BadRests => first | (as_aux_lemma => k_is) | k_is)
    (case s_BadRests => first | (as_aux_lemma => k_is) | k_is)
    (case t_BadRests => first | (as_aux_lemma => k_is) | k_is)
    (case gx_BadTricks => k_is)
    (case k_BadTricks => first | (as_aux_lemma => k_is) | k_is)
    (case s_BadTricks => first | (as_aux_lemma => k_is) | k_is)
    (case t_BadTricks => first | (as_aux_lemma => k_is) | k_is)
    (case gx_TooWide => k_is)
    (case k_TooWide => first | (as_aux_lemma => k_is) | k_is)
    (case s_TooWide => first | (as_aux_lemma => k_is) | k_is)
    (case t_TooWide => first | (as_aux_lemma => k_is) | k_is)
    (case cx_GREATEST_NUMBER => k_is)
    (case cx_LEAST_BASE => k_is)
    (case cx_GREATEST_BASE => k_is)
    (case cx_GREATEST_TAKE => k_is)
    (case cx_GREATEST_DIVISOR => k_is)
    (case cx_GREATEST_TIMES => k_is)
    (case cx_MOST_TRICKS => k_is)
    (case cx_GREATEST_CHAIN_DIVISOR => k_is)
    (case cx_GREATEST_PRODUCT => k_is)
    (case cx_MOST_LABELS => k_is)
    (case cx_GREATEST_LABEL => k_is)
    (case cx_GREATEST_WEIGHT => k_is)
    (case cx_MOST_WEIGHTS => k_is)
    (case cx_GREATEST_SUM_DIVISOR => k_is)
    (case df_is_integer => as_aux_lemma => (refine' ⟨_, _, ?gf, L2.fun_mk (st := Rt.s_is_integer) ?lk ?cd ?kp⟩; (case gf => k_is); (case lk => k_is); (case cd => k_is); (case kp => k_is)))
    (case df_is_tuple => as_aux_lemma => (refine' ⟨_, _, ?gf, L2.fun_mk (st := Rt.s_is_tuple) ?lk ?cd ?kp⟩; (case gf => k_is); (case lk => k_is); (case cd => k_is); (case kp => k_is)))
    (case df_is_list_or_tuple => as_aux_lemma => (refine' ⟨_, _, ?gf, L2.fun_mk (st := Rt.s_is_list_or_tuple) ?lk ?cd ?kp⟩; (case gf => k_is); (case lk => k_is); (case cd => k_is); (case kp => k_is)))
    (case df_is_number => as_aux_lemma => (refine' ⟨_, _, ?gf, L2.fun_mk (st := Rt.s_is_number) ?lk ?cd ?kp⟩; (case gf => k_is); (case lk => k_is); (case cd => k_is); (case kp => k_is)))
    (case df_first_wrong => as_aux_lemma => (refine' ⟨_, _, ?gf, L2.fun_mk (st := Rt.s_first_wrong) ?lk ?cd ?kp⟩; (case gf => k_is); (case lk => k_is); (case cd => k_is); (case kp => k_is)))
    (case df_check_base => as_aux_lemma => (refine' ⟨_, _, ?gf, L2.fun_mk (st := Rt.s_check_base) ?lk ?cd ?kp⟩; (case gf => k_is); (case lk => k_is); (case cd => k_is); (case kp => k_is)))
    (case df_check_take => as_aux_lemma => (refine' ⟨_, _, ?gf, L2.fun_mk (st := Rt.s_check_take) ?lk ?cd ?kp⟩; (case gf => k_is); (case lk => k_is); (case cd => k_is); (case kp => k_is)))
    (case gf_check_divisor => k_is)
    (case l_check_divisor => k_is)
    (case c_check_divisor => first | (as_aux_lemma => k_is) | k_is)
    (case kp_check_divisor => first | (as_aux_lemma => k_is) | k_is)
    (case ldT_check_divisor => k_is)
    (case rdv_check_divisor => first | rfl | decide +kernel)
    (case df_check_number => as_aux_lemma => (refine' ⟨_, _, ?gf, L2.fun_mk (st := Rt.s_check_number) ?lk ?cd ?kp⟩; (case gf => k_is); (case lk => k_is); (case cd => k_is); (case kp => k_is)))
    (case df_block_of => as_aux_lemma => (refine' ⟨_, _, ?gf, L2.fun_mk (st := Rt.s_block_of) ?lk ?cd ?kp⟩; (case gf => k_is); (case lk => k_is); (case cd => k_is); (case kp => k_is)))
    (case df_done => as_aux_lemma => (refine' ⟨_, _, ?gf, L2.fun_mk (st := Rt.s_done) ?lk ?cd ?kp⟩; (case gf => k_is); (case lk => k_is); (case cd => k_is); (case kp => k_is)))
    (case df_check_trick => as_aux_lemma => (refine' ⟨_, _, ?gf, L2.fun_mk (st := Rt.s_check_trick) ?lk ?cd ?kp⟩; (case gf => k_is); (case lk => k_is); (case cd => k_is); (case kp => k_is)))
    (case df_trick_block => as_aux_lemma => (refine' ⟨_, _, ?gf, L2.fun_mk (st := Rt.s_trick_block) ?lk ?cd ?kp⟩; (case gf => k_is); (case lk => k_is); (case cd => k_is); (case kp => k_is)))
    (case df_made_of => as_aux_lemma => (refine' ⟨_, _, ?gf, L2.fun_mk (st := Rt.s_made_of) ?lk ?cd ?kp⟩; (case gf => k_is); (case lk => k_is); (case cd => k_is); (case kp => k_is)))
    (case df_made_with => as_aux_lemma => (refine' ⟨_, _, ?gf, L2.fun_mk (st := Rt.s_made_with) ?lk ?cd ?kp⟩; (case gf => k_is); (case lk => k_is); (case cd => k_is); (case kp => k_is)))
    (case df_tells => as_aux_lemma => (refine' ⟨_, _, ?gf, L2.fun_mk (st := Rt.s_tells) ?lk ?cd ?kp⟩; (case gf => k_is); (case lk => k_is); (case cd => k_is); (case kp => k_is)))
    (case df_factor => as_aux_lemma => (refine' ⟨_, _, ?gf, L2.fun_mk (st := Rt.s_factor) ?lk ?cd ?kp⟩; (case gf => k_is); (case lk => k_is); (case cd => k_is); (case kp => k_is)))
    (case df_multipliers => as_aux_lemma => (refine' ⟨_, _, ?gf, L2.fun_mk (st := Rt.s_multipliers) ?lk ?cd ?kp⟩; (case gf => k_is); (case lk => k_is); (case cd => k_is); (case kp => k_is)))
    (case df_keeps_rest => as_aux_lemma => (refine' ⟨_, _, ?gf, L2.fun_mk (st := Rt.s_keeps_rest) ?lk ?cd ?kp⟩; (case gf => k_is); (case lk => k_is); (case cd => k_is); (case kp => k_is)))
    (case df_tells_multiples => as_aux_lemma => (refine' ⟨_, _, ?gf, L2.fun_mk (st := Rt.s_tells_multiples) ?lk ?cd ?kp⟩; (case gf => k_is); (case lk => k_is); (case cd => k_is); (case kp => k_is)))
    (case df_chain_tells => as_aux_lemma => (refine' ⟨_, _, ?gf, L2.fun_mk (st := Rt.s_chain_tells) ?lk ?cd ?kp⟩; (case gf => k_is); (case lk => k_is); (case cd => k_is); (case kp => k_is)))
    (case df_check_tricks => as_aux_lemma => (refine' ⟨_, _, ?gf, L2.fun_mk (st := Rt.s_check_tricks) ?lk ?cd ?kp⟩; (case gf => k_is); (case lk => k_is); (case cd => k_is); (case kp => k_is)))
    (case df_check_chain => as_aux_lemma => (refine' ⟨_, _, ?gf, L2.fun_mk (st := Rt.s_check_chain) ?lk ?cd ?kp⟩; (case gf => k_is); (case lk => k_is); (case cd => k_is); (case kp => k_is)))
    (case df_made_of_all => as_aux_lemma => (refine' ⟨_, _, ?gf, L2.fun_mk (st := Rt.s_made_of_all) ?lk ?cd ?kp⟩; (case gf => k_is); (case lk => k_is); (case cd => k_is); (case kp => k_is)))
    (case df_blocks_product => as_aux_lemma => (refine' ⟨_, _, ?gf, L2.fun_mk (st := Rt.s_blocks_product) ?lk ?cd ?kp⟩; (case gf => k_is); (case lk => k_is); (case cd => k_is); (case kp => k_is)))
    (case df_rest_pairs => as_aux_lemma => (refine' ⟨_, _, ?gf, L2.fun_mk (st := Rt.s_rest_pairs) ?lk ?cd ?kp⟩; (case gf => k_is); (case lk => k_is); (case cd => k_is); (case kp => k_is)))
    (case df_bound => as_aux_lemma => (refine' ⟨_, _, ?gf, L2.fun_mk (st := Rt.s_bound) ?lk ?cd ?kp⟩; (case gf => k_is); (case lk => k_is); (case cd => k_is); (case kp => k_is)))
    (case df_ring_of => as_aux_lemma => (refine' ⟨_, _, ?gf, L2.fun_mk (st := Rt.s_ring_of) ?lk ?cd ?kp⟩; (case gf => k_is); (case lk => k_is); (case cd => k_is); (case kp => k_is)))
    (case df_greatest_size => as_aux_lemma => (refine' ⟨_, _, ?gf, L2.fun_mk (st := Rt.s_greatest_size) ?lk ?cd ?kp⟩; (case gf => k_is); (case lk => k_is); (case cd => k_is); (case kp => k_is)))
    (case df_rounded_up => as_aux_lemma => (refine' ⟨_, _, ?gf, L2.fun_mk (st := Rt.s_rounded_up) ?lk ?cd ?kp⟩; (case gf => k_is); (case lk => k_is); (case cd => k_is); (case kp => k_is)))
    (case df_unseen_path => as_aux_lemma => (refine' ⟨_, _, ?gf, L2.fun_mk (st := Rt.s_unseen_path) ?lk ?cd ?kp⟩; (case gf => k_is); (case lk => k_is); (case cd => k_is); (case kp => k_is)))
    (case df_ring_at_end => as_aux_lemma => (refine' ⟨_, _, ?gf, L2.fun_mk (st := Rt.s_ring_at_end) ?lk ?cd ?kp⟩; (case gf => k_is); (case lk => k_is); (case cd => k_is); (case kp => k_is)))
    (case df_front_states => as_aux_lemma => (refine' ⟨_, _, ?gf, L2.fun_mk (st := Rt.s_front_states) ?lk ?cd ?kp⟩; (case gf => k_is); (case lk => k_is); (case cd => k_is); (case kp => k_is)))
    (case df_front_classes => as_aux_lemma => (refine' ⟨_, _, ?gf, L2.fun_mk (st := Rt.s_front_classes) ?lk ?cd ?kp⟩; (case gf => k_is); (case lk => k_is); (case cd => k_is); (case kp => k_is)))
    (case df_check_labels => as_aux_lemma => (refine' ⟨_, _, ?gf, L2.fun_mk (st := Rt.s_check_labels) ?lk ?cd ?kp⟩; (case gf => k_is); (case lk => k_is); (case cd => k_is); (case kp => k_is)))
    (case df_front_machine => as_aux_lemma => (refine' ⟨_, _, ?gf, L2.fun_mk (st := Rt.s_front_machine) ?lk ?cd ?kp⟩; (case gf => k_is); (case lk => k_is); (case cd => k_is); (case kp => k_is)))
    (case df_classes => as_aux_lemma => (refine' ⟨_, _, ?gf, L2.fun_mk (st := Rt.s_classes) ?lk ?cd ?kp⟩; (case gf => k_is); (case lk => k_is); (case cd => k_is); (case kp => k_is)))
    (case df_numbered => as_aux_lemma => (refine' ⟨_, _, ?gf, L2.fun_mk (st := Rt.s_numbered) ?lk ?cd ?kp⟩; (case gf => k_is); (case lk => k_is); (case cd => k_is); (case kp => k_is)))
    (case df_sum_tells => as_aux_lemma => (refine' ⟨_, _, ?gf, L2.fun_mk (st := Rt.s_sum_tells) ?lk ?cd ?kp⟩; (case gf => k_is); (case lk => k_is); (case cd => k_is); (case kp => k_is)))
    (case df_sum_rest_fails => as_aux_lemma => (refine' ⟨_, _, ?gf, L2.fun_mk (st := Rt.s_sum_rest_fails) ?lk ?cd ?kp⟩; (case gf => k_is); (case lk => k_is); (case cd => k_is); (case kp => k_is)))
    (case df_sum_fails => as_aux_lemma => (refine' ⟨_, _, ?gf, L2.fun_mk (st := Rt.s_sum_fails) ?lk ?cd ?kp⟩; (case gf => k_is); (case lk => k_is); (case cd => k_is); (case kp => k_is)))
    (case df_rest_weights => as_aux_lemma => (refine' ⟨_, _, ?gf, L2.fun_mk (st := Rt.s_rest_weights) ?lk ?cd ?kp⟩; (case gf => k_is); (case lk => k_is); (case cd => k_is); (case kp => k_is)))
    (case df_check_weights => as_aux_lemma => (refine' ⟨_, _, ?gf, L2.fun_mk (st := Rt.s_check_weights) ?lk ?cd ?kp⟩; (case gf => k_is); (case lk => k_is); (case cd => k_is); (case kp => k_is)))
    (case df_check_sum => as_aux_lemma => (refine' ⟨_, _, ?gf, L2.fun_mk (st := Rt.s_check_sum) ?lk ?cd ?kp⟩; (case gf => k_is); (case lk => k_is); (case cd => k_is); (case kp => k_is)))
    (case df_sum_block => as_aux_lemma => (refine' ⟨_, _, ?gf, L2.fun_mk (st := Rt.s_sum_block) ?lk ?cd ?kp⟩; (case gf => k_is); (case lk => k_is); (case cd => k_is); (case kp => k_is)))
    (case df_weight_at => as_aux_lemma => (refine' ⟨_, _, ?gf, L2.fun_mk (st := Rt.s_weight_at) ?lk ?cd ?kp⟩; (case gf => k_is); (case lk => k_is); (case cd => k_is); (case kp => k_is)))
    (case df_power_rests => as_aux_lemma => (refine' ⟨_, _, ?gf, L2.fun_mk (st := Rt.s_power_rests) ?lk ?cd ?kp⟩; (case gf => k_is); (case lk => k_is); (case cd => k_is); (case kp => k_is)))
    (case df_nearest => as_aux_lemma => (refine' ⟨_, _, ?gf, L2.fun_mk (st := Rt.s_nearest) ?lk ?cd ?kp⟩; (case gf => k_is); (case lk => k_is); (case cd => k_is); (case kp => k_is)))
    (case df_turn => as_aux_lemma => (refine' ⟨_, _, ?gf, L2.fun_mk (st := Rt.s_turn) ?lk ?cd ?kp⟩; (case gf => k_is); (case lk => k_is); (case cd => k_is); (case kp => k_is)))
    (case df_new_rests => as_aux_lemma => (refine' ⟨_, _, ?gf, L2.fun_mk (st := Rt.s_new_rests) ?lk ?cd ?kp⟩; (case gf => k_is); (case lk => k_is); (case cd => k_is); (case kp => k_is)))
    (case df__law_taken => as_aux_lemma => (refine' ⟨_, _, ?gf, L2.fun_mk (st := Rt.s__law_taken) ?lk ?cd ?kp⟩; (case gf => k_is); (case lk => k_is); (case cd => k_is); (case kp => k_is)))
    (case df__law_power => as_aux_lemma => (refine' ⟨_, _, ?gf, L2.fun_mk (st := Rt.s__law_power) ?lk ?cd ?kp⟩; (case gf => k_is); (case lk => k_is); (case cd => k_is); (case kp => k_is)))
    (case df__law_trick => as_aux_lemma => (refine' ⟨_, _, ?gf, L2.fun_mk (st := Rt.s__law_trick) ?lk ?cd ?kp⟩; (case gf => k_is); (case lk => k_is); (case cd => k_is); (case kp => k_is)))
    (case df__law_number => as_aux_lemma => (refine' ⟨_, _, ?gf, L2.fun_mk (st := Rt.s__law_number) ?lk ?cd ?kp⟩; (case gf => k_is); (case lk => k_is); (case cd => k_is); (case kp => k_is)))
    (case df__law_sum => as_aux_lemma => (refine' ⟨_, _, ?gf, L2.fun_mk (st := Rt.s__law_sum) ?lk ?cd ?kp⟩; (case gf => k_is); (case lk => k_is); (case cd => k_is); (case kp => k_is)))
    (case df__law_labels => as_aux_lemma => (refine' ⟨_, _, ?gf, L2.fun_mk (st := Rt.s__law_labels) ?lk ?cd ?kp⟩; (case gf => k_is); (case lk => k_is); (case cd => k_is); (case kp => k_is)))
    (case gf_law => k_is)
    (case l_law => k_is)
    (case c_law => first | (as_aux_lemma => k_is) | k_is)
    (case kp_law => first | (as_aux_lemma => k_is) | k_is)
    (case gx_Trick => k_is)
    (case pg_Trick => first | (as_aux_lemma => k_is) | k_is)
    (case hd_Trick => first | (as_aux_lemma => k_is) | k_is)
    (case po_Trick => first | (as_aux_lemma => k_is) | k_is)
    (case sa_Trick => first | (as_aux_lemma => k_is) | k_is)
    (case mk_Trick => first | (as_aux_lemma => k_is) | k_is)
    (case kc_Trick => first | (as_aux_lemma => k_is) | k_is)
    (case cc_Trick => first | (as_aux_lemma => k_is) | k_is)
    (case mo_Trick => first | (as_aux_lemma => k_is) | k_is)
    (case sp_cls => first | (as_aux_lemma => k_is) | k_is)
    (case tk_cls => first | (as_aux_lemma => k_is) | k_is)
    (case ki_Trick_int => first | k_is | rfl)
    (case ki_Trick_bool => first | k_is | rfl)
    (case ki_Trick_tuple => first | k_is | rfl)
    (case ki_Trick_list => first | k_is | rfl)
    (case nf_Trick_tuple => first | k_is | rfl)
    (case kis_Trick => first | k_is | rfl)
    (case kin_Trick_int => first | k_is | rfl)
    (case kin_Trick_bool => first | k_is | rfl)
    (case kin_Trick_tuple => first | k_is | rfl)
    (case kin_Trick_list => first | k_is | rfl)
    (case kin_Trick_NoneType => first | k_is | rfl)
    (case kin_Trick_str => first | k_is | rfl)
    (case kin_Trick_dict => first | k_is | rfl)
    (case na_Trick_base => first | (as_aux_lemma => k_is) | k_is)
    (case na_Trick_take => first | (as_aux_lemma => k_is) | k_is)
    (case na_Trick_times => first | (as_aux_lemma => k_is) | k_is)
    (case gf_Trick___init__ => k_is)
    (case l_Trick___init__ => k_is)
    (case c_Trick___init__ => first | (as_aux_lemma => k_is) | k_is)
    (case kp_Trick___init__ => first | (as_aux_lemma => k_is) | k_is)
    (case isf_Trick___init__ => first | (as_aux_lemma => k_is) | k_is)
    (case pa_Trick_base => k_is)
    (case pg_Trick_base => first | (as_aux_lemma => k_is) | k_is)
    (case pt_Trick_base => first | (as_aux_lemma => k_is) | k_is)
    (case prr_Trick_base => k_is)
    (case l_Trick_base => k_is)
    (case c_Trick_base => first | (as_aux_lemma => k_is) | k_is)
    (case kp_Trick_base => first | (as_aux_lemma => k_is) | k_is)
    (case pa_Trick_take => k_is)
    (case pg_Trick_take => first | (as_aux_lemma => k_is) | k_is)
    (case pt_Trick_take => first | (as_aux_lemma => k_is) | k_is)
    (case prr_Trick_take => k_is)
    (case l_Trick_take => k_is)
    (case c_Trick_take => first | (as_aux_lemma => k_is) | k_is)
    (case kp_Trick_take => first | (as_aux_lemma => k_is) | k_is)
    (case pa_Trick_times => k_is)
    (case pg_Trick_times => first | (as_aux_lemma => k_is) | k_is)
    (case pt_Trick_times => first | (as_aux_lemma => k_is) | k_is)
    (case prr_Trick_times => k_is)
    (case l_Trick_times => k_is)
    (case c_Trick_times => first | (as_aux_lemma => k_is) | k_is)
    (case kp_Trick_times => first | (as_aux_lemma => k_is) | k_is)
    (case gf_Trick___eq__ => k_is)
    (case l_Trick___eq__ => k_is)
    (case c_Trick___eq__ => first | (as_aux_lemma => k_is) | k_is)
    (case kp_Trick___eq__ => first | (as_aux_lemma => k_is) | k_is)
    (case isf_Trick___eq__ => first | (as_aux_lemma => k_is) | k_is)
    (case gx_Sum => k_is)
    (case pg_Sum => first | (as_aux_lemma => k_is) | k_is)
    (case hd_Sum => first | (as_aux_lemma => k_is) | k_is)
    (case po_Sum => first | (as_aux_lemma => k_is) | k_is)
    (case sa_Sum => first | (as_aux_lemma => k_is) | k_is)
    (case mk_Sum => first | (as_aux_lemma => k_is) | k_is)
    (case kc_Sum => first | (as_aux_lemma => k_is) | k_is)
    (case cc_Sum => first | (as_aux_lemma => k_is) | k_is)
    (case mo_Sum => first | (as_aux_lemma => k_is) | k_is)
    (case ki_Sum_int => first | k_is | rfl)
    (case ki_Sum_bool => first | k_is | rfl)
    (case ki_Sum_tuple => first | k_is | rfl)
    (case ki_Sum_list => first | k_is | rfl)
    (case nf_Sum_tuple => first | k_is | rfl)
    (case kis_Sum => first | k_is | rfl)
    (case kin_Sum_int => first | k_is | rfl)
    (case kin_Sum_bool => first | k_is | rfl)
    (case kin_Sum_tuple => first | k_is | rfl)
    (case kin_Sum_list => first | k_is | rfl)
    (case kin_Sum_NoneType => first | k_is | rfl)
    (case kin_Sum_str => first | k_is | rfl)
    (case kin_Sum_dict => first | k_is | rfl)
    (case na_Sum_base => first | (as_aux_lemma => k_is) | k_is)
    (case na_Sum_first => first | (as_aux_lemma => k_is) | k_is)
    (case na_Sum_loop => first | (as_aux_lemma => k_is) | k_is)
    (case na_Sum_take => first | (as_aux_lemma => k_is) | k_is)
    (case gf_Sum___init__ => k_is)
    (case l_Sum___init__ => k_is)
    (case c_Sum___init__ => first | (as_aux_lemma => k_is) | k_is)
    (case kp_Sum___init__ => first | (as_aux_lemma => k_is) | k_is)
    (case isf_Sum___init__ => first | (as_aux_lemma => k_is) | k_is)
    (case pa_Sum_base => k_is)
    (case pg_Sum_base => first | (as_aux_lemma => k_is) | k_is)
    (case pt_Sum_base => first | (as_aux_lemma => k_is) | k_is)
    (case prr_Sum_base => k_is)
    (case l_Sum_base => k_is)
    (case c_Sum_base => first | (as_aux_lemma => k_is) | k_is)
    (case kp_Sum_base => first | (as_aux_lemma => k_is) | k_is)
    (case pa_Sum_take => k_is)
    (case pg_Sum_take => first | (as_aux_lemma => k_is) | k_is)
    (case pt_Sum_take => first | (as_aux_lemma => k_is) | k_is)
    (case prr_Sum_take => k_is)
    (case l_Sum_take => k_is)
    (case c_Sum_take => first | (as_aux_lemma => k_is) | k_is)
    (case kp_Sum_take => first | (as_aux_lemma => k_is) | k_is)
    (case pa_Sum_first => k_is)
    (case pg_Sum_first => first | (as_aux_lemma => k_is) | k_is)
    (case pt_Sum_first => first | (as_aux_lemma => k_is) | k_is)
    (case prr_Sum_first => k_is)
    (case l_Sum_first => k_is)
    (case c_Sum_first => first | (as_aux_lemma => k_is) | k_is)
    (case kp_Sum_first => first | (as_aux_lemma => k_is) | k_is)
    (case pa_Sum_loop => k_is)
    (case pg_Sum_loop => first | (as_aux_lemma => k_is) | k_is)
    (case pt_Sum_loop => first | (as_aux_lemma => k_is) | k_is)
    (case prr_Sum_loop => k_is)
    (case l_Sum_loop => k_is)
    (case c_Sum_loop => first | (as_aux_lemma => k_is) | k_is)
    (case kp_Sum_loop => first | (as_aux_lemma => k_is) | k_is)
    (case gf_Sum___eq__ => k_is)
    (case l_Sum___eq__ => k_is)
    (case c_Sum___eq__ => first | (as_aux_lemma => k_is) | k_is)
    (case kp_Sum___eq__ => first | (as_aux_lemma => k_is) | k_is)
    (case isf_Sum___eq__ => first | (as_aux_lemma => k_is) | k_is)
    (case z_int => k_is)
    (case z_bool => k_is)
    (case z_len => k_is)
    (case z_range => k_is)
    (case z_isinstance => k_is)
    (case z_tuple => k_is)
    (case z_list => k_is)
    (case z_enumerate => k_is)
    (case z_abs => k_is)
    (case z_set => k_is)
    (case z_all => k_is)
    (case z_min => k_is)
    (case z_max => k_is)
    (case z_super => k_is)
    (case z_ValueError => k_is)
    (case xl_BadNumber___init__ => k_is)
    (case xrb_BadNumber___init__ => first | rfl | decide +kernel)
    (case xsa_BadNumber___init__ => first | (as_aux_lemma => k_is) | k_is)
    (case xga_BadNumber___init__ => first | (as_aux_lemma => k_is) | k_is)
    (case xgg_BadNumber___init__ => first | (as_aux_lemma => k_is) | k_is)
    (case xnf_BadNumber___init__ => first | (as_aux_lemma => k_is) | k_is)
    (case xic_BadNumber___init__ => k_is)
    (case xtc_BadNumber___init__ => first | (as_aux_lemma => k_is) | k_is)
    (case xhd_BadNumber___init__ => first | (as_aux_lemma => k_is) | k_is)
    (case xup_BadNumber___init__ => ks_is)
    (case xan_BadNumber___init__ => first | (as_aux_lemma => k_is) | k_is)
    (case xve_BadNumber___init__ => first | (as_aux_lemma => k_is) | k_is)
    (case xow_BadNumber___init__ => first | (as_aux_lemma => k_is) | k_is)
    (case rmn_BadNumber___init__ => first | rfl | decide +kernel)
    (case xfn_BadNumber___init__ => k_is)
    (case xco_BadNumber___init__ => first | (as_aux_lemma => k_is) | k_is)
    (case xcd_BadNumber___init__ => k_is)
    (case rvs_BadNumber___init__ => first | rfl | decide +kernel)
    (case rfi_BadNumber___init__ => first | rfl | decide +kernel)
    (case xcc_BadNumber___init__ => k_is)
    (case xl_BadWeights___init__ => k_is)
    (case xrb_BadWeights___init__ => first | rfl | decide +kernel)
    (case xsa_BadWeights___init__ => first | (as_aux_lemma => k_is) | k_is)
    (case xga_BadWeights___init__ => first | (as_aux_lemma => k_is) | k_is)
    (case xgg_BadWeights___init__ => first | (as_aux_lemma => k_is) | k_is)
    (case xnf_BadWeights___init__ => first | (as_aux_lemma => k_is) | k_is)
    (case xic_BadWeights___init__ => k_is)
    (case xtc_BadWeights___init__ => first | (as_aux_lemma => k_is) | k_is)
    (case xhd_BadWeights___init__ => first | (as_aux_lemma => k_is) | k_is)
    (case xup_BadWeights___init__ => ks_is)
    (case xan_BadWeights___init__ => first | (as_aux_lemma => k_is) | k_is)
    (case xve_BadWeights___init__ => first | (as_aux_lemma => k_is) | k_is)
    (case xow_BadWeights___init__ => first | (as_aux_lemma => k_is) | k_is)
    (case rmn_BadWeights___init__ => first | rfl | decide +kernel)
    (case xfn_BadWeights___init__ => k_is)
    (case xco_BadWeights___init__ => first | (as_aux_lemma => k_is) | k_is)
    (case xcd_BadWeights___init__ => k_is)
    (case rvs_BadWeights___init__ => first | rfl | decide +kernel)
    (case rfi_BadWeights___init__ => first | rfl | decide +kernel)
    (case xcc_BadWeights___init__ => k_is)
    (case xl_BadRests___init__ => k_is)
    (case xrb_BadRests___init__ => first | rfl | decide +kernel)
    (case xsa_BadRests___init__ => first | (as_aux_lemma => k_is) | k_is)
    (case xga_BadRests___init__ => first | (as_aux_lemma => k_is) | k_is)
    (case xgg_BadRests___init__ => first | (as_aux_lemma => k_is) | k_is)
    (case xnf_BadRests___init__ => first | (as_aux_lemma => k_is) | k_is)
    (case xic_BadRests___init__ => k_is)
    (case xtc_BadRests___init__ => first | (as_aux_lemma => k_is) | k_is)
    (case xhd_BadRests___init__ => first | (as_aux_lemma => k_is) | k_is)
    (case xup_BadRests___init__ => ks_is)
    (case xan_BadRests___init__ => first | (as_aux_lemma => k_is) | k_is)
    (case xve_BadRests___init__ => first | (as_aux_lemma => k_is) | k_is)
    (case xow_BadRests___init__ => first | (as_aux_lemma => k_is) | k_is)
    (case rmn_BadRests___init__ => first | rfl | decide +kernel)
    (case xfn_BadRests___init__ => k_is)
    (case xco_BadRests___init__ => first | (as_aux_lemma => k_is) | k_is)
    (case xcd_BadRests___init__ => k_is)
    (case rvs_BadRests___init__ => first | rfl | decide +kernel)
    (case rfi_BadRests___init__ => first | rfl | decide +kernel)
    (case xcc_BadRests___init__ => k_is)
    (case xl_BadTricks___init__ => k_is)
    (case xrb_BadTricks___init__ => first | rfl | decide +kernel)
    (case xsa_BadTricks___init__ => first | (as_aux_lemma => k_is) | k_is)
    (case xga_BadTricks___init__ => first | (as_aux_lemma => k_is) | k_is)
    (case xgg_BadTricks___init__ => first | (as_aux_lemma => k_is) | k_is)
    (case xnf_BadTricks___init__ => first | (as_aux_lemma => k_is) | k_is)
    (case xic_BadTricks___init__ => k_is)
    (case xtc_BadTricks___init__ => first | (as_aux_lemma => k_is) | k_is)
    (case xhd_BadTricks___init__ => first | (as_aux_lemma => k_is) | k_is)
    (case xup_BadTricks___init__ => ks_is)
    (case xan_BadTricks___init__ => first | (as_aux_lemma => k_is) | k_is)
    (case xve_BadTricks___init__ => first | (as_aux_lemma => k_is) | k_is)
    (case xow_BadTricks___init__ => first | (as_aux_lemma => k_is) | k_is)
    (case rmn_BadTricks___init__ => first | rfl | decide +kernel)
    (case xfn_BadTricks___init__ => k_is)
    (case xco_BadTricks___init__ => first | (as_aux_lemma => k_is) | k_is)
    (case xcd_BadTricks___init__ => k_is)
    (case rvs_BadTricks___init__ => first | rfl | decide +kernel)
    (case rfi_BadTricks___init__ => first | rfl | decide +kernel)
    (case xcc_BadTricks___init__ => k_is)
    (case xl_TooWide___init__ => k_is)
    (case xrb_TooWide___init__ => first | rfl | decide +kernel)
    (case xsa_TooWide___init__ => first | (as_aux_lemma => k_is) | k_is)
    (case xga_TooWide___init__ => first | (as_aux_lemma => k_is) | k_is)
    (case xgg_TooWide___init__ => first | (as_aux_lemma => k_is) | k_is)
    (case xnf_TooWide___init__ => first | (as_aux_lemma => k_is) | k_is)
    (case xic_TooWide___init__ => k_is)
    (case xtc_TooWide___init__ => first | (as_aux_lemma => k_is) | k_is)
    (case xhd_TooWide___init__ => first | (as_aux_lemma => k_is) | k_is)
    (case xup_TooWide___init__ => ks_is)
    (case xan_TooWide___init__ => first | (as_aux_lemma => k_is) | k_is)
    (case xve_TooWide___init__ => first | (as_aux_lemma => k_is) | k_is)
    (case xow_TooWide___init__ => first | (as_aux_lemma => k_is) | k_is)
    (case rmn_TooWide___init__ => first | rfl | decide +kernel)
    (case xfn_TooWide___init__ => k_is)
    (case xco_TooWide___init__ => first | (as_aux_lemma => k_is) | k_is)
    (case xcd_TooWide___init__ => k_is)
    (case rvs_TooWide___init__ => first | rfl | decide +kernel)
    (case rfi_TooWide___init__ => first | rfl | decide +kernel)
    (case xcc_TooWide___init__ => k_is)
#print axioms PySem.Challenge.cw_resttricks_k40_what_holds_holds
