/-
  The law's last five cases; None.
-/
import Derived.Test.YtcnhfffgbamonabSa5
namespace Go.Proofs.Ytcnhfffgbamonab
open Go.RowKit

theorem size0 : (S8 by0).size = 47 := by rw [s8_size, len0]

set_option maxRecDepth 100000 in
set_option maxHeartbeats 800000 in
theorem none_12 (a : Int) (w : World) (ha : -9223372036854775808 ≤ a) (hb : a ≤ 9223372036854775807) (hp : pickOf a 17 = 12) :
    Calls Try.prog 6 #[.int .i64 a] w fun e w' => e = .returned (.bool true) ∧ w.grownBy w' none := by
  have Hp := hide hp
  clear hp
  go_enter Try.func6, Try.ntmps6
  go_wp2_with fail
  refine (pick_c a 17 w ha hb (by decide) (by decide)).mono ?_
  rintro e w0 ⟨rfl, hw0⟩
  rw [hw0, Hp.out]
  clear hw0 ha hb Hp
  go_wp2_with fail
  refine (mplain_0 w).mono ?_
  rintro e w1 ⟨sa, sn, sc, rfl, hM1, hI1, hg1⟩
  go_wp2_with fail
  refine (mbytes_c w.heap.size (w.heap.size + 1) ts0 op0 4 1 sa sn sc [3] w1 hM1 hI1 (by decide) (by decide) (by decide)).mono ?_
  rintro e w2 ⟨rfl, hg2⟩
  have G2 := gr_trans hg1 hg2
  clear hg1 hg2 hM1 hI1
  have hz := size0
  have He := hide (s8_extract by0 0 46)
  rw [show mbytes ts0 op0 4 1 [3] = by0 from rfl]
  go_wp2_with fail
  rw [He.out]
  refine (compile_no _ 2 w2 (by decide) rd12 (by decide)).mono ?_
  rintro e w3 ⟨rfl, hg3⟩
  have G3 := gr_trans G2 hg3
  clear G2 hg3
  go_wp2
  go_ret
  exact ⟨rfl, G3⟩

set_option maxRecDepth 100000 in
set_option maxHeartbeats 800000 in
theorem none_13 (a : Int) (w : World) (ha : -9223372036854775808 ≤ a) (hb : a ≤ 9223372036854775807) (hp : pickOf a 17 = 13) :
    Calls Try.prog 6 #[.int .i64 a] w fun e w' => e = .returned (.bool true) ∧ w.grownBy w' none := by
  have Hp := hide hp
  clear hp
  go_enter Try.func6, Try.ntmps6
  go_wp2_with fail
  refine (pick_c a 17 w ha hb (by decide) (by decide)).mono ?_
  rintro e w0 ⟨rfl, hw0⟩
  rw [hw0, Hp.out]
  clear hw0 ha hb Hp
  go_wp2_with fail
  refine (mplain_0 w).mono ?_
  rintro e w1 ⟨sa, sn, sc, rfl, hM1, hI1, hg1⟩
  go_wp2_with fail
  refine (mbytes_c w.heap.size (w.heap.size + 1) ts0 op0 4 1 sa sn sc [3] w1 hM1 hI1 (by decide) (by decide) (by decide)).mono ?_
  rintro e w2 ⟨rfl, hg2⟩
  have G2 := gr_trans hg1 hg2
  clear hg1 hg2 hM1 hI1
  have hz := size0
  have He := hide (show S8 by0 ++ (⟨#[0]⟩ : ByteArray) = S8 (by0 ++ [0]) from s8_app by0 [0])
  rw [show mbytes ts0 op0 4 1 [3] = by0 from rfl]
  go_wp2_with fail
  rw [He.out]
  refine (compile_no _ 2 w2 (by decide) rd13 (by decide)).mono ?_
  rintro e w3 ⟨rfl, hg3⟩
  have G3 := gr_trans G2 hg3
  clear G2 hg3
  go_wp2
  go_ret
  exact ⟨rfl, G3⟩

set_option maxRecDepth 100000 in
set_option maxHeartbeats 800000 in
theorem none_14 (a : Int) (w : World) (ha : -9223372036854775808 ≤ a) (hb : a ≤ 9223372036854775807) (hp : pickOf a 17 = 14) :
    Calls Try.prog 6 #[.int .i64 a] w fun e w' => e = .returned (.bool true) ∧ w.grownBy w' none := by
  have Hp := hide hp
  clear hp
  go_enter Try.func6, Try.ntmps6
  go_wp2_with fail
  refine (pick_c a 17 w ha hb (by decide) (by decide)).mono ?_
  rintro e w0 ⟨rfl, hw0⟩
  rw [hw0, Hp.out]
  clear hw0 ha hb Hp
  go_wp2_with fail
  refine (mplain_0 w).mono ?_
  rintro e w1 ⟨sa, sn, sc, rfl, hM1, hI1, hg1⟩
  go_wp2_with fail
  refine (mbytes_c w.heap.size (w.heap.size + 1) ts0 op0 4 1 sa sn sc [3] w1 hM1 hI1 (by decide) (by decide) (by decide)).mono ?_
  rintro e w2 ⟨rfl, hg2⟩
  have G2 := gr_trans hg1 hg2
  clear hg1 hg2 hM1 hI1
  have hz := size0
  have He := hide (show (⟨#[116, 102, 108, 50]⟩ : ByteArray) ++ (S8 by0).extract 4 47 = S8 ([116, 102, 108, 50] ++ (by0.drop 4).take 43) by
    rw [s8_extract]; exact s8_app [116, 102, 108, 50] _)
  rw [show mbytes ts0 op0 4 1 [3] = by0 from rfl]
  go_wp2_with fail
  rw [He.out]
  refine (compile_no _ 2 w2 (by decide) rd14 (by decide)).mono ?_
  rintro e w3 ⟨rfl, hg3⟩
  have G3 := gr_trans G2 hg3
  clear G2 hg3
  go_wp2
  go_ret
  exact ⟨rfl, G3⟩

set_option maxRecDepth 100000 in
set_option maxHeartbeats 800000 in
theorem none_15 (a : Int) (w : World) (ha : -9223372036854775808 ≤ a) (hb : a ≤ 9223372036854775807) (hp : pickOf a 17 = 15) :
    Calls Try.prog 6 #[.int .i64 a] w fun e w' => e = .returned (.bool true) ∧ w.grownBy w' none := by
  have Hp := hide hp
  clear hp
  go_enter Try.func6, Try.ntmps6
  go_wp2_with fail
  refine (pick_c a 17 w ha hb (by decide) (by decide)).mono ?_
  rintro e w0 ⟨rfl, hw0⟩
  rw [hw0, Hp.out]
  clear hw0 ha hb Hp
  go_wp2_with fail
  refine (mplain_0 w).mono ?_
  rintro e w1 ⟨sa, sn, sc, rfl, hM1, hI1, hg1⟩
  go_wp2_with fail
  refine (mbytes_c w.heap.size (w.heap.size + 1) ts0 op0 4 1 sa sn sc [3] w1 hM1 hI1 (by decide) (by decide) (by decide)).mono ?_
  rintro e w2 ⟨rfl, hg2⟩
  have G2 := gr_trans hg1 hg2
  clear hg1 hg2 hM1 hI1
  have hz := size0
  have He := hide (show ((S8 by0).extract 0 5 ++ (⟨#[4]⟩ : ByteArray)) ++ (S8 by0).extract 6 47 = S8 (((by0.drop 0).take 5 ++ [4]) ++ (by0.drop 6).take 41) by
    rw [s8_extract, s8_extract, show (⟨#[4]⟩ : ByteArray) = S8 [4] from rfl, s8_app, s8_app])
  rw [show mbytes ts0 op0 4 1 [3] = by0 from rfl]
  go_wp2
  go_quiet (fail)
  go_wp2_with fail
  rw [He.out]
  refine (compile_no _ 2 _ (by decide) rd15 (by decide)).mono ?_
  rintro e w3 ⟨rfl, hg3⟩
  have G3 := gr_trans (gr_trans G2 (gr_drewN _ _ _)) hg3
  clear G2 hg3
  go_wp2
  go_ret
  exact ⟨rfl, G3⟩

set_option maxRecDepth 100000 in
set_option maxHeartbeats 800000 in
theorem none_16 (a : Int) (w : World) (ha : -9223372036854775808 ≤ a) (hb : a ≤ 9223372036854775807) (hp : pickOf a 17 = 16) :
    Calls Try.prog 6 #[.int .i64 a] w fun e w' => e = .returned (.bool true) ∧ w.grownBy w' none := by
  have Hp := hide hp
  clear hp
  go_enter Try.func6, Try.ntmps6
  go_wp2_with fail
  refine (pick_c a 17 w ha hb (by decide) (by decide)).mono ?_
  rintro e w0 ⟨rfl, hw0⟩
  rw [hw0, Hp.out]
  clear hw0 ha hb Hp
  go_wp2_with fail
  refine (mplain_0 w).mono ?_
  rintro e w1 ⟨sa, sn, sc, rfl, hM1, hI1, hg1⟩
  go_wp2_with fail
  refine (mbytes_c w.heap.size (w.heap.size + 1) ts0 op0 4 1 sa sn sc [3] w1 hM1 hI1 (by decide) (by decide) (by decide)).mono ?_
  rintro e w2 ⟨rfl, hg2⟩
  have G2 := gr_trans hg1 hg2
  clear hg1 hg2 hM1 hI1
  rw [show mbytes ts0 op0 4 1 [3] = by0 from rfl]
  go_wp2
  go_loop [10] (fun s => ∃ l : List UInt8, s = .string (S8 l) ∧ 1 ≤ l.length ∧ l.length ≤ 8192) (fun s => match s with | .string b => 8193 - b.size | _ => 0)
  case atStart => exact ⟨by0, rfl, by decide, by decide⟩
  case round =>
    obtain ⟨l, rfl, hl1, hl2⟩ := hrel
    have hz : (S8 l).size = l.length := s8_size l
    by_cases hlt : l.length ≤ 4096
    · go_wp2
      go_round
      case rel => exact ⟨l ++ l, by rw [s8_app], by rw [List.length_append]; omega, by rw [List.length_append]; omega⟩
      case measure => rw [s8_app]; show 8193 - (S8 (l ++ l)).size < 8193 - (S8 l).size; rw [s8_size, s8_size, List.length_append]; omega
    · have Hr := hide (rd_long (show 4096 < l.length by omega))
      go_wp2_with fail
      refine (compile_no _ 1 w2 (by omega) Hr.out (by decide)).mono ?_
      rintro e w3 ⟨rfl, hg3⟩
      have G3 := gr_trans G2 hg3
      clear G2 hg3
      go_wp2
      go_ret
      exact ⟨rfl, G3⟩

theorem pick_range (a : Int) : 0 ≤ pickOf a 17 ∧ pickOf a 17 < 17 := ⟨Int.emod_nonneg _ (by decide), Int.emod_lt_of_pos _ (by decide)⟩

theorem none_c (a : Int) (w : World) (ha : -9223372036854775808 ≤ a) (hb : a ≤ 9223372036854775807) :
    Calls Try.prog 6 #[.int .i64 a] w fun e w' => e = .returned (.bool true) ∧ w.grownBy w' none := by
  obtain ⟨h0, h1⟩ := pick_range a
  rcases (show pickOf a 17 = 0 ∨ pickOf a 17 = 1 ∨ pickOf a 17 = 2 ∨ pickOf a 17 = 3 ∨ pickOf a 17 = 4 ∨ pickOf a 17 = 5 ∨ pickOf a 17 = 6 ∨ pickOf a 17 = 7 ∨ pickOf a 17 = 8 ∨ pickOf a 17 = 9 ∨ pickOf a 17 = 10 ∨ pickOf a 17 = 11 ∨ pickOf a 17 = 12 ∨ pickOf a 17 = 13 ∨ pickOf a 17 = 14 ∨ pickOf a 17 = 15 ∨ pickOf a 17 = 16 from by omega) with h | h | h | h | h | h | h | h | h | h | h | h | h | h | h | h | h
  · exact none_0 a w ha hb h
  · exact none_1 a w ha hb h
  · exact none_2 a w ha hb h
  · exact none_3 a w ha hb h
  · exact none_4 a w ha hb h
  · exact none_5 a w ha hb h
  · exact none_6 a w ha hb h
  · exact none_7 a w ha hb h
  · exact none_8 a w ha hb h
  · exact none_9 a w ha hb h
  · exact none_10 a w ha hb h
  · exact none_11 a w ha hb h
  · exact none_12 a w ha hb h
  · exact none_13 a w ha hb h
  · exact none_14 a w ha hb h
  · exact none_15 a w ha hb h
  · exact none_16 a w ha hb h

set_option maxHeartbeats 400000 in
theorem law_c (a b c : Int) (w : World) (ha : -9223372036854775808 ≤ a) (hb : a ≤ 9223372036854775807) :
    Calls Try.prog 3 #[.int .i64 a, .int .i64 b, .int .i64 c] w fun e w' => e = .returned (.bool true) ∧ w.grownBy w' none := by
  go_enter Try.func3, Try.ntmps3
  go_wp2_with fail
  refine (none_c a w ha hb).mono ?_
  rintro e w1 ⟨rfl, hg⟩
  go_wp2
  go_ret
  exact ⟨rfl, hg⟩

end Go.Proofs.Ytcnhfffgbamonab
