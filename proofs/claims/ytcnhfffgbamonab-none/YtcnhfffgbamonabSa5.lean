/-
  The law, case by case. (Written by a small program of ours: wip/gen/sa5.py.)
-/
import Derived.Test.YtcnhfffgbamonabSa4
namespace Go.Proofs.Ytcnhfffgbamonab
open Go.RowKit

set_option maxRecDepth 100000 in
set_option maxHeartbeats 800000 in
theorem none_0 (a : Int) (w : World) (ha : -9223372036854775808 ≤ a) (hb : a ≤ 9223372036854775807) (hp : pickOf a 17 = 0) :
    Calls Try.prog 6 #[.int .i64 a] w fun e w' => e = .returned (.bool true) ∧ w.grownBy w' none := by
  have Hp := hide hp
  clear hp
  go_enter Try.func6, Try.ntmps6
  go_wp2_with fail
  refine (pick_c a 17 w ha hb (by decide) (by decide)).mono ?_
  rintro e w0 ⟨rfl, hw0⟩
  rw [hw0, Hp.out]
  clear hw0 ha hb Hp
  go_wp2_with fail
  refine (mplain_0 w).mono ?_
  rintro e w1 ⟨sa, sn, sc, rfl, hM1, hI1, hg1⟩
  go_wp2_with fail
  refine (mbytes_c w.heap.size (w.heap.size + 1) ts0 op0 4 1 sa sn sc [3] w1 hM1 hI1 (by decide) (by decide) (by decide)).mono ?_
  rintro e w2 ⟨rfl, hg2⟩
  have G2 := gr_trans hg1 hg2
  clear hg1 hg2 hM1 hI1
  go_wp2_with fail
  refine (compile_ok _ w2 (by decide) rd0).mono ?_
  rintro e w3 ⟨⟨q, rfl⟩, hg3⟩
  have G3 := gr_trans G2 hg3
  clear G2 hg3
  go_wp2
  go_ret
  exact ⟨rfl, G3⟩

set_option maxRecDepth 100000 in
set_option maxHeartbeats 800000 in
theorem none_1 (a : Int) (w : World) (ha : -9223372036854775808 ≤ a) (hb : a ≤ 9223372036854775807) (hp : pickOf a 17 = 1) :
    Calls Try.prog 6 #[.int .i64 a] w fun e w' => e = .returned (.bool true) ∧ w.grownBy w' none := by
  have Hp := hide hp
  clear hp
  go_enter Try.func6, Try.ntmps6
  go_wp2_with fail
  refine (pick_c a 17 w ha hb (by decide) (by decide)).mono ?_
  rintro e w0 ⟨rfl, hw0⟩
  rw [hw0, Hp.out]
  clear hw0 ha hb Hp
  go_wp2_with fail
  refine (mplain_1 w).mono ?_
  rintro e w1 ⟨sa, sn, sc, rfl, hM1, hI1, hg1⟩
  go_wp2_with fail
  refine (mbytes_c w.heap.size (w.heap.size + 1) ts1 op1 4 1 sa sn sc [3] w1 hM1 hI1 (by decide) (by decide) (by decide)).mono ?_
  rintro e w2 ⟨rfl, hg2⟩
  have G2 := gr_trans hg1 hg2
  clear hg1 hg2 hM1 hI1
  go_wp2_with fail
  refine (compile_no _ 6 w2 (by decide) rd1 (by decide)).mono ?_
  rintro e w3 ⟨rfl, hg3⟩
  have G3 := gr_trans G2 hg3
  clear G2 hg3
  go_wp2
  go_ret
  exact ⟨rfl, G3⟩

set_option maxRecDepth 100000 in
set_option maxHeartbeats 800000 in
theorem none_2 (a : Int) (w : World) (ha : -9223372036854775808 ≤ a) (hb : a ≤ 9223372036854775807) (hp : pickOf a 17 = 2) :
    Calls Try.prog 6 #[.int .i64 a] w fun e w' => e = .returned (.bool true) ∧ w.grownBy w' none := by
  have Hp := hide hp
  clear hp
  go_enter Try.func6, Try.ntmps6
  go_wp2_with fail
  refine (pick_c a 17 w ha hb (by decide) (by decide)).mono ?_
  rintro e w0 ⟨rfl, hw0⟩
  rw [hw0, Hp.out]
  clear hw0 ha hb Hp
  go_wp2_with fail
  refine (mplain_2 w).mono ?_
  rintro e w1 ⟨sa, sn, sc, rfl, hM1, hI1, hg1⟩
  go_wp2_with fail
  refine (mbytes_c w.heap.size (w.heap.size + 1) ts2 op2 4 1 sa sn sc [3] w1 hM1 hI1 (by decide) (by decide) (by decide)).mono ?_
  rintro e w2 ⟨rfl, hg2⟩
  have G2 := gr_trans hg1 hg2
  clear hg1 hg2 hM1 hI1
  go_wp2_with fail
  refine (compile_no _ 5 w2 (by decide) rd2 (by decide)).mono ?_
  rintro e w3 ⟨rfl, hg3⟩
  have G3 := gr_trans G2 hg3
  clear G2 hg3
  go_wp2
  go_ret
  exact ⟨rfl, G3⟩

set_option maxRecDepth 100000 in
set_option maxHeartbeats 800000 in
theorem none_3 (a : Int) (w : World) (ha : -9223372036854775808 ≤ a) (hb : a ≤ 9223372036854775807) (hp : pickOf a 17 = 3) :
    Calls Try.prog 6 #[.int .i64 a] w fun e w' => e = .returned (.bool true) ∧ w.grownBy w' none := by
  have Hp := hide hp
  clear hp
  go_enter Try.func6, Try.ntmps6
  go_wp2_with fail
  refine (pick_c a 17 w ha hb (by decide) (by decide)).mono ?_
  rintro e w0 ⟨rfl, hw0⟩
  rw [hw0, Hp.out]
  clear hw0 ha hb Hp
  go_wp2_with fail
  refine (mplain_3 w).mono ?_
  rintro e w1 ⟨sa, sn, sc, rfl, hM1, hI1, hg1⟩
  go_wp2_with fail
  refine (mbytes_c w.heap.size (w.heap.size + 1) ts3 op3 4 1 sa sn sc [3] w1 hM1 hI1 (by decide) (by decide) (by decide)).mono ?_
  rintro e w2 ⟨rfl, hg2⟩
  have G2 := gr_trans hg1 hg2
  clear hg1 hg2 hM1 hI1
  go_wp2_with fail
  refine (compile_no _ 6 w2 (by decide) rd3 (by decide)).mono ?_
  rintro e w3 ⟨rfl, hg3⟩
  have G3 := gr_trans G2 hg3
  clear G2 hg3
  go_wp2
  go_ret
  exact ⟨rfl, G3⟩

set_option maxRecDepth 100000 in
set_option maxHeartbeats 800000 in
theorem none_4 (a : Int) (w : World) (ha : -9223372036854775808 ≤ a) (hb : a ≤ 9223372036854775807) (hp : pickOf a 17 = 4) :
    Calls Try.prog 6 #[.int .i64 a] w fun e w' => e = .returned (.bool true) ∧ w.grownBy w' none := by
  have Hp := hide hp
  clear hp
  go_enter Try.func6, Try.ntmps6
  go_wp2_with fail
  refine (pick_c a 17 w ha hb (by decide) (by decide)).mono ?_
  rintro e w0 ⟨rfl, hw0⟩
  rw [hw0, Hp.out]
  clear hw0 ha hb Hp
  go_wp2_with fail
  refine (mplain_4 w).mono ?_
  rintro e w1 ⟨sa, sn, sc, rfl, hM1, hI1, hg1⟩
  go_wp2_with fail
  refine (mbytes_c w.heap.size (w.heap.size + 1) ts4 op4 4 1 sa sn sc [3] w1 hM1 hI1 (by decide) (by decide) (by decide)).mono ?_
  rintro e w2 ⟨rfl, hg2⟩
  have G2 := gr_trans hg1 hg2
  clear hg1 hg2 hM1 hI1
  go_wp2_with fail
  refine (compile_no _ 6 w2 (by decide) rd4 (by decide)).mono ?_
  rintro e w3 ⟨rfl, hg3⟩
  have G3 := gr_trans G2 hg3
  clear G2 hg3
  go_wp2
  go_ret
  exact ⟨rfl, G3⟩

set_option maxRecDepth 100000 in
set_option maxHeartbeats 800000 in
theorem none_5 (a : Int) (w : World) (ha : -9223372036854775808 ≤ a) (hb : a ≤ 9223372036854775807) (hp : pickOf a 17 = 5) :
    Calls Try.prog 6 #[.int .i64 a] w fun e w' => e = .returned (.bool true) ∧ w.grownBy w' none := by
  have Hp := hide hp
  clear hp
  go_enter Try.func6, Try.ntmps6
  go_wp2_with fail
  refine (pick_c a 17 w ha hb (by decide) (by decide)).mono ?_
  rintro e w0 ⟨rfl, hw0⟩
  rw [hw0, Hp.out]
  clear hw0 ha hb Hp
  go_wp2_with fail
  refine (mplain_5 w).mono ?_
  rintro e w1 ⟨sa, sn, sc, rfl, hM1, hI1, hg1⟩
  go_wp2_with fail
  refine (mbytes_c w.heap.size (w.heap.size + 1) ts5 op5 4 1 sa sn sc [3] w1 hM1 hI1 (by decide) (by decide) (by decide)).mono ?_
  rintro e w2 ⟨rfl, hg2⟩
  have G2 := gr_trans hg1 hg2
  clear hg1 hg2 hM1 hI1
  go_wp2_with fail
  refine (compile_no _ 6 w2 (by decide) rd5 (by decide)).mono ?_
  rintro e w3 ⟨rfl, hg3⟩
  have G3 := gr_trans G2 hg3
  clear G2 hg3
  go_wp2
  go_ret
  exact ⟨rfl, G3⟩

set_option maxRecDepth 100000 in
set_option maxHeartbeats 800000 in
theorem none_6 (a : Int) (w : World) (ha : -9223372036854775808 ≤ a) (hb : a ≤ 9223372036854775807) (hp : pickOf a 17 = 6) :
    Calls Try.prog 6 #[.int .i64 a] w fun e w' => e = .returned (.bool true) ∧ w.grownBy w' none := by
  have Hp := hide hp
  clear hp
  go_enter Try.func6, Try.ntmps6
  go_wp2_with fail
  refine (pick_c a 17 w ha hb (by decide) (by decide)).mono ?_
  rintro e w0 ⟨rfl, hw0⟩
  rw [hw0, Hp.out]
  clear hw0 ha hb Hp
  go_wp2_with fail
  refine (mplain_6 w).mono ?_
  rintro e w1 ⟨sa, sn, sc, rfl, hM1, hI1, hg1⟩
  go_wp2_with fail
  refine (mbytes_c w.heap.size (w.heap.size + 1) ts6 op6 4 1 sa sn sc [3] w1 hM1 hI1 (by decide) (by decide) (by decide)).mono ?_
  rintro e w2 ⟨rfl, hg2⟩
  have G2 := gr_trans hg1 hg2
  clear hg1 hg2 hM1 hI1
  go_wp2_with fail
  refine (compile_no _ 6 w2 (by decide) rd6 (by decide)).mono ?_
  rintro e w3 ⟨rfl, hg3⟩
  have G3 := gr_trans G2 hg3
  clear G2 hg3
  go_wp2
  go_ret
  exact ⟨rfl, G3⟩

set_option maxRecDepth 100000 in
set_option maxHeartbeats 800000 in
theorem none_7 (a : Int) (w : World) (ha : -9223372036854775808 ≤ a) (hb : a ≤ 9223372036854775807) (hp : pickOf a 17 = 7) :
    Calls Try.prog 6 #[.int .i64 a] w fun e w' => e = .returned (.bool true) ∧ w.grownBy w' none := by
  have Hp := hide hp
  clear hp
  go_enter Try.func6, Try.ntmps6
  go_wp2_with fail
  refine (pick_c a 17 w ha hb (by decide) (by decide)).mono ?_
  rintro e w0 ⟨rfl, hw0⟩
  rw [hw0, Hp.out]
  clear hw0 ha hb Hp
  go_wp2_with fail
  refine (mplain_7 w).mono ?_
  rintro e w1 ⟨sa, sn, sc, rfl, hM1, hI1, hg1⟩
  go_wp2_with fail
  refine (mbytes_c w.heap.size (w.heap.size + 1) ts7 op7 4 1 sa sn sc [3] w1 hM1 hI1 (by decide) (by decide) (by decide)).mono ?_
  rintro e w2 ⟨rfl, hg2⟩
  have G2 := gr_trans hg1 hg2
  clear hg1 hg2 hM1 hI1
  go_wp2_with fail
  refine (compile_no _ 4 w2 (by decide) rd7 (by decide)).mono ?_
  rintro e w3 ⟨rfl, hg3⟩
  have G3 := gr_trans G2 hg3
  clear G2 hg3
  go_wp2
  go_ret
  exact ⟨rfl, G3⟩

set_option maxRecDepth 100000 in
set_option maxHeartbeats 800000 in
theorem none_8 (a : Int) (w : World) (ha : -9223372036854775808 ≤ a) (hb : a ≤ 9223372036854775807) (hp : pickOf a 17 = 8) :
    Calls Try.prog 6 #[.int .i64 a] w fun e w' => e = .returned (.bool true) ∧ w.grownBy w' none := by
  have Hp := hide hp
  clear hp
  go_enter Try.func6, Try.ntmps6
  go_wp2_with fail
  refine (pick_c a 17 w ha hb (by decide) (by decide)).mono ?_
  rintro e w0 ⟨rfl, hw0⟩
  rw [hw0, Hp.out]
  clear hw0 ha hb Hp
  go_wp2_with fail
  refine (mplain_8 w).mono ?_
  rintro e w1 ⟨sa, sn, sc, rfl, hM1, hI1, hg1⟩
  go_wp2_with fail
  refine (mbytes_c w.heap.size (w.heap.size + 1) ts8 op8 4 1 sa sn sc [3] w1 hM1 hI1 (by decide) (by decide) (by decide)).mono ?_
  rintro e w2 ⟨rfl, hg2⟩
  have G2 := gr_trans hg1 hg2
  clear hg1 hg2 hM1 hI1
  go_wp2_with fail
  refine (compile_no _ 4 w2 (by decide) rd8 (by decide)).mono ?_
  rintro e w3 ⟨rfl, hg3⟩
  have G3 := gr_trans G2 hg3
  clear G2 hg3
  go_wp2
  go_ret
  exact ⟨rfl, G3⟩

set_option maxRecDepth 100000 in
set_option maxHeartbeats 800000 in
theorem none_9 (a : Int) (w : World) (ha : -9223372036854775808 ≤ a) (hb : a ≤ 9223372036854775807) (hp : pickOf a 17 = 9) :
    Calls Try.prog 6 #[.int .i64 a] w fun e w' => e = .returned (.bool true) ∧ w.grownBy w' none := by
  have Hp := hide hp
  clear hp
  go_enter Try.func6, Try.ntmps6
  go_wp2_with fail
  refine (pick_c a 17 w ha hb (by decide) (by decide)).mono ?_
  rintro e w0 ⟨rfl, hw0⟩
  rw [hw0, Hp.out]
  clear hw0 ha hb Hp
  go_wp2_with fail
  refine (mplain_9 w).mono ?_
  rintro e w1 ⟨sa, sn, sc, rfl, hM1, hI1, hg1⟩
  go_wp2_with fail
  refine (mbytes_c w.heap.size (w.heap.size + 1) ts9 op9 4 1 sa sn sc [9] w1 hM1 hI1 (by decide) (by decide) (by decide)).mono ?_
  rintro e w2 ⟨rfl, hg2⟩
  have G2 := gr_trans hg1 hg2
  clear hg1 hg2 hM1 hI1
  go_wp2_with fail
  refine (compile_no _ 4 w2 (by decide) rd9 (by decide)).mono ?_
  rintro e w3 ⟨rfl, hg3⟩
  have G3 := gr_trans G2 hg3
  clear G2 hg3
  go_wp2
  go_ret
  exact ⟨rfl, G3⟩

set_option maxRecDepth 100000 in
set_option maxHeartbeats 800000 in
theorem none_10 (a : Int) (w : World) (ha : -9223372036854775808 ≤ a) (hb : a ≤ 9223372036854775807) (hp : pickOf a 17 = 10) :
    Calls Try.prog 6 #[.int .i64 a] w fun e w' => e = .returned (.bool true) ∧ w.grownBy w' none := by
  have Hp := hide hp
  clear hp
  go_enter Try.func6, Try.ntmps6
  go_wp2_with fail
  refine (pick_c a 17 w ha hb (by decide) (by decide)).mono ?_
  rintro e w0 ⟨rfl, hw0⟩
  rw [hw0, Hp.out]
  clear hw0 ha hb Hp
  go_wp2_with fail
  refine (mplain_10 w).mono ?_
  rintro e w1 ⟨sa, sn, sc, rfl, hM1, hI1, hg1⟩
  go_wp2_with fail
  refine (mbytes_c w.heap.size (w.heap.size + 1) ts10 op10 4 1 sa sn sc [3] w1 hM1 hI1 (by decide) (by decide) (by decide)).mono ?_
  rintro e w2 ⟨rfl, hg2⟩
  have G2 := gr_trans hg1 hg2
  clear hg1 hg2 hM1 hI1
  go_wp2_with fail
  refine (compile_no _ 6 w2 (by decide) rd10 (by decide)).mono ?_
  rintro e w3 ⟨rfl, hg3⟩
  have G3 := gr_trans G2 hg3
  clear G2 hg3
  go_wp2
  go_ret
  exact ⟨rfl, G3⟩

set_option maxRecDepth 100000 in
set_option maxHeartbeats 800000 in
theorem none_11 (a : Int) (w : World) (ha : -9223372036854775808 ≤ a) (hb : a ≤ 9223372036854775807) (hp : pickOf a 17 = 11) :
    Calls Try.prog 6 #[.int .i64 a] w fun e w' => e = .returned (.bool true) ∧ w.grownBy w' none := by
  have Hp := hide hp
  clear hp
  go_enter Try.func6, Try.ntmps6
  go_wp2_with fail
  refine (pick_c a 17 w ha hb (by decide) (by decide)).mono ?_
  rintro e w0 ⟨rfl, hw0⟩
  rw [hw0, Hp.out]
  clear hw0 ha hb Hp
  go_wp2_with fail
  refine (mplain_11 w).mono ?_
  rintro e w1 ⟨sa, sn, sc, rfl, hM1, hI1, hg1⟩
  go_wp2_with fail
  refine (mbytes_c w.heap.size (w.heap.size + 1) ts11 op11 4 1 sa sn sc [] w1 hM1 hI1 (by decide) (by decide) (by decide)).mono ?_
  rintro e w2 ⟨rfl, hg2⟩
  have G2 := gr_trans hg1 hg2
  clear hg1 hg2 hM1 hI1
  go_wp2_with fail
  refine (compile_no _ 3 w2 (by decide) rd11 (by decide)).mono ?_
  rintro e w3 ⟨rfl, hg3⟩
  have G3 := gr_trans G2 hg3
  clear G2 hg3
  go_wp2
  go_ret
  exact ⟨rfl, G3⟩

end Go.Proofs.Ytcnhfffgbamonab
