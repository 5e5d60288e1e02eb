/-
  What stands behind an operator's tensors: kind by kind. (Written by a small program of ours: wip/gen/rd6.py.)
-/
import Derived.Test.YtcnhfffgbamonaaGreatRd6
namespace Go.Proofs.YtcnhfffgbamonaaGreat
open Go.RowKit

set_option maxHeartbeats 1600000 in
theorem own_4 (b L : Nat) (s : ByteArray) (r : M.RS) (a bb we bi to : Int) (w : World) (h : Rd w b s r) (hB : Blk w L 142 (o16 4 a bb we bi to 0 0 false (.slice none 0 0) 0 0 0 0 0 0)) (ne : b ≠ L) (hp : r.pos ≤ s.size) (hs : s.size ≤ 4096) :
    Calls Tryz.prog 185 #[.pointer (some ⟨b, 0, none⟩), .pointer (some ⟨L, 0, none⟩)] w fun e w' => ∃ size stride same ao m c xs lo hi above below left right r', Hid (M.ownNumbers s ⟨4, a, bb, we, bi, to, 0, 0, false, [], 0, 0, 0, 0, 0, 0⟩ r = (⟨4, a, bb, we, bi, to, size, stride, same, xs, lo, hi, above, below, left, right⟩, r')) ∧
      (0 ≤ size ∧ size ≤ 255) ∧ (0 ≤ stride ∧ stride ≤ 255) ∧ (-128 ≤ lo ∧ lo ≤ 127) ∧ (-128 ≤ hi ∧ hi ≤ 127) ∧ (0 ≤ above ∧ above ≤ 255) ∧ (0 ≤ below ∧ below ≤ 255) ∧ (0 ≤ left ∧ left ≤ 255) ∧ (0 ≤ right ∧ right ≤ 255) ∧ (∀ c ∈ xs, WfS c) ∧
      r'.pos ≤ s.size ∧ e = .returned (.tuple #[]) ∧ Blk w' L 142 (o16 4 a bb we bi to size stride same (.slice ao m c) lo hi above below left right) ∧ Scs w' w.heap.size (.slice ao m c) xs ∧ Rd w' b s r' ∧ Gr2 w w' b L := by
  have I0 : PInv w w b L s r (o16 4 a bb we bi to 0 0 false (.slice none 0 0) 0 0 0 0 0 0) := ⟨h, hB, Gr2.refl _ _ _, ne⟩
  have hLl := hB.lt
  have hbl := h.lt
  clear h hB
  obtain ⟨d0, d1, d2, d3, d4, d5, d6, d7, d8, d9, d10, d11, d12, d13, d14, d15⟩ := cells16 I0.B
  go_enter Tryz.func185, Tryz.ntmps185
  go_wp2_with fail
  refine (hasWeights_c 4 _ _ _ _ _ _ _ _ _ _ _ _ _ _ _ false _ rfl).mono ?_
  rintro e w1 ⟨rfl, hg1⟩
  have J1 := I0.call0 hg1
  clear hg1 I0 d0 d1 d2 d3 d4 d5 d6 d7 d8 d9 d10 d11 d12 d13 d14 d15
  obtain ⟨d0, d1, d2, d3, d4, d5, d6, d7, d8, d9, d10, d11, d12, d13, d14, d15⟩ := cells16 J1.B
  go_wp2_with fail
  have z2 := J1.g.size
  refine (scales_c b s r 3 _ J1.R hp hs (by omega)).mono ?_
  rintro e w2 ⟨ao, m, cp, xs, r2, hx2, hws, hp2, rfl, hS, hR2, hg2⟩
  have J2 : PInv w w2 b L s r2 (o16 4 a bb we bi to 0 0 false (.slice none 0 0) 0 0 0 0 0 0) := J1.call hR2 hg2
  have s2 := owns_mono (base' := w.heap.size) hS z2
  clear hg2 hR2 J1 hS d0 d1 d2 d3 d4 d5 d6 d7 d8 d9 d10 d11 d12 d13 d14 d15
  obtain ⟨d0, d1, d2, d3, d4, d5, d6, d7, d8, d9, d10, d11, d12, d13, d14, d15⟩ := cells16 J2.B
  have b2 := J2.B.free 9
  have K2 : PInv w (w2.setCell ⟨L, 9, none⟩ (.slice ao m cp)) b L s r2 (o16 4 a bb we bi to 0 0 false (.slice ao m cp) 0 0 0 0 0 0) := J2.put 9 (.slice ao m cp)
  have t2 := owns_kept0b s2 (gr_set w2 L 9 (.slice ao m cp)) (by omega)
  clear s2
  go_wp2_with fail
  refine (hasRange_c 4 _ _ _ _ _ _ _ _ _ _ _ _ _ _ _ true _ rfl).mono ?_
  rintro e w3 ⟨rfl, hg3⟩
  have J3 := K2.call0 hg3
  have s3 := owns_kept0 t2 hg3
  clear t2
  clear hg3 K2 d0 d1 d2 d3 d4 d5 d6 d7 d8 d9 d10 d11 d12 d13 d14 d15
  obtain ⟨d0, d1, d2, d3, d4, d5, d6, d7, d8, d9, d10, d11, d12, d13, d14, d15⟩ := cells16 J3.B
  go_wp2_with fail
  refine (signed_c b s r2 _ J3.R hp2 (by omega)).mono ?_
  rintro e w4 ⟨x4, r4, hx4, l4, u4, hp4, rfl, hR4, hg4⟩
  have I4 := J3.call hR4 hg4
  have J4 : PInv w w4 b L s r4 (o16 4 a bb we bi to 0 0 false (.slice ao m cp) 0 0 0 0 0 0) := I4
  have s4 := owns_kept0b s3 hg4 (by omega)
  clear s3
  clear hg4 hR4 J3 I4 d0 d1 d2 d3 d4 d5 d6 d7 d8 d9 d10 d11 d12 d13 d14 d15
  obtain ⟨d0, d1, d2, d3, d4, d5, d6, d7, d8, d9, d10, d11, d12, d13, d14, d15⟩ := cells16 J4.B
  have b4 := J4.B.free 10
  have K4 : PInv w (w4.setCell ⟨L, 10, none⟩ (.int .i64 x4)) b L s r4 (o16 4 a bb we bi to 0 0 false (.slice ao m cp) x4 0 0 0 0 0) := J4.put 10 (.int .i64 x4)
  have t4 := owns_kept0b s4 (gr_set w4 L 10 (.int .i64 x4)) (by omega)
  clear s4
  go_wp2_with fail
  refine (signed_c b s r4 _ K4.R hp4 (by omega)).mono ?_
  rintro e w5 ⟨x5, r5, hx5, l5, u5, hp5, rfl, hR5, hg5⟩
  have I5 := K4.call hR5 hg5
  have J5 : PInv w w5 b L s r5 (o16 4 a bb we bi to 0 0 false (.slice ao m cp) x4 0 0 0 0 0) := I5
  have s5 := owns_kept0b t4 hg5 (by omega)
  clear t4
  clear hg5 hR5 K4 I5 d0 d1 d2 d3 d4 d5 d6 d7 d8 d9 d10 d11 d12 d13 d14 d15
  obtain ⟨d0, d1, d2, d3, d4, d5, d6, d7, d8, d9, d10, d11, d12, d13, d14, d15⟩ := cells16 J5.B
  have b5 := J5.B.free 11
  have K5 : PInv w (w5.setCell ⟨L, 11, none⟩ (.int .i64 x5)) b L s r5 (o16 4 a bb we bi to 0 0 false (.slice ao m cp) x4 x5 0 0 0 0) := J5.put 11 (.int .i64 x5)
  have t5 := owns_kept0b s5 (gr_set w5 L 11 (.int .i64 x5)) (by omega)
  clear s5
  go_wp2
  go_end0
  refine ⟨0, 0, false, ao, m, cp, xs, x4, x5, 0, 0, 0, 0, r5, ?_, by omega, by omega, by omega, by omega, by omega, by omega, by omega, by omega, hws, hp5, rfl, K5.B, t5, K5.R, K5.g⟩
  simp [Hid, M.ownNumbers, M.hasWeights, hx2.out, hx4.out, hx5.out]

set_option maxHeartbeats 1600000 in
theorem own_5 (b L : Nat) (s : ByteArray) (r : M.RS) (a bb we bi to : Int) (w : World) (h : Rd w b s r) (hB : Blk w L 142 (o16 5 a bb we bi to 0 0 false (.slice none 0 0) 0 0 0 0 0 0)) (ne : b ≠ L) (hp : r.pos ≤ s.size) (_hs : s.size ≤ 4096) :
    Calls Tryz.prog 185 #[.pointer (some ⟨b, 0, none⟩), .pointer (some ⟨L, 0, none⟩)] w fun e w' => ∃ size stride same ao m c xs lo hi above below left right r', Hid (M.ownNumbers s ⟨5, a, bb, we, bi, to, 0, 0, false, [], 0, 0, 0, 0, 0, 0⟩ r = (⟨5, a, bb, we, bi, to, size, stride, same, xs, lo, hi, above, below, left, right⟩, r')) ∧
      (0 ≤ size ∧ size ≤ 255) ∧ (0 ≤ stride ∧ stride ≤ 255) ∧ (-128 ≤ lo ∧ lo ≤ 127) ∧ (-128 ≤ hi ∧ hi ≤ 127) ∧ (0 ≤ above ∧ above ≤ 255) ∧ (0 ≤ below ∧ below ≤ 255) ∧ (0 ≤ left ∧ left ≤ 255) ∧ (0 ≤ right ∧ right ≤ 255) ∧ (∀ c ∈ xs, WfS c) ∧
      r'.pos ≤ s.size ∧ e = .returned (.tuple #[]) ∧ Blk w' L 142 (o16 5 a bb we bi to size stride same (.slice ao m c) lo hi above below left right) ∧ Scs w' w.heap.size (.slice ao m c) xs ∧ Rd w' b s r' ∧ Gr2 w w' b L := by
  have I0 : PInv w w b L s r (o16 5 a bb we bi to 0 0 false (.slice none 0 0) 0 0 0 0 0 0) := ⟨h, hB, Gr2.refl _ _ _, ne⟩
  have hLl := hB.lt
  have hbl := h.lt
  clear h hB
  obtain ⟨d0, d1, d2, d3, d4, d5, d6, d7, d8, d9, d10, d11, d12, d13, d14, d15⟩ := cells16 I0.B
  go_enter Tryz.func185, Tryz.ntmps185
  go_wp2_with fail
  refine (plain_c b s r _ I0.R hp (by omega)).mono ?_
  rintro e w1 ⟨x1, r1, hx1, l1, u1, hp1, rfl, hR1, hg1⟩
  have I1 := I0.call hR1 hg1
  have J1 : PInv w w1 b L s r1 (o16 5 a bb we bi to 0 0 false (.slice none 0 0) 0 0 0 0 0 0) := I1
  clear hg1 hR1 I0 I1 d0 d1 d2 d3 d4 d5 d6 d7 d8 d9 d10 d11 d12 d13 d14 d15
  obtain ⟨d0, d1, d2, d3, d4, d5, d6, d7, d8, d9, d10, d11, d12, d13, d14, d15⟩ := cells16 J1.B
  have b1 := J1.B.free 6
  have K1 : PInv w (w1.setCell ⟨L, 6, none⟩ (.int .i64 x1)) b L s r1 (o16 5 a bb we bi to x1 0 false (.slice none 0 0) 0 0 0 0 0 0) := J1.put 6 (.int .i64 x1)
  go_wp2_with fail
  refine (plain_c b s r1 _ K1.R hp1 (by omega)).mono ?_
  rintro e w2 ⟨x2, r2, hx2, l2, u2, hp2, rfl, hR2, hg2⟩
  have I2 := K1.call hR2 hg2
  have J2 : PInv w w2 b L s r2 (o16 5 a bb we bi to x1 0 false (.slice none 0 0) 0 0 0 0 0 0) := I2
  clear hg2 hR2 K1 I2 d0 d1 d2 d3 d4 d5 d6 d7 d8 d9 d10 d11 d12 d13 d14 d15
  obtain ⟨d0, d1, d2, d3, d4, d5, d6, d7, d8, d9, d10, d11, d12, d13, d14, d15⟩ := cells16 J2.B
  have b2 := J2.B.free 7
  have K2 : PInv w (w2.setCell ⟨L, 7, none⟩ (.int .i64 x2)) b L s r2 (o16 5 a bb we bi to x1 x2 false (.slice none 0 0) 0 0 0 0 0 0) := J2.put 7 (.int .i64 x2)
  go_wp2_with fail
  refine (hasWeights_c 5 _ _ _ _ _ _ _ _ _ _ _ _ _ _ _ false _ rfl).mono ?_
  rintro e w3 ⟨rfl, hg3⟩
  have J3 := K2.call0 hg3
  clear hg3 K2 d0 d1 d2 d3 d4 d5 d6 d7 d8 d9 d10 d11 d12 d13 d14 d15
  obtain ⟨d0, d1, d2, d3, d4, d5, d6, d7, d8, d9, d10, d11, d12, d13, d14, d15⟩ := cells16 J3.B
  go_wp2_with fail
  refine (hasRange_c 5 _ _ _ _ _ _ _ _ _ _ _ _ _ _ _ true _ rfl).mono ?_
  rintro e w4 ⟨rfl, hg4⟩
  have J4 := J3.call0 hg4
  clear hg4 J3 d0 d1 d2 d3 d4 d5 d6 d7 d8 d9 d10 d11 d12 d13 d14 d15
  obtain ⟨d0, d1, d2, d3, d4, d5, d6, d7, d8, d9, d10, d11, d12, d13, d14, d15⟩ := cells16 J4.B
  go_wp2_with fail
  refine (signed_c b s r2 _ J4.R hp2 (by omega)).mono ?_
  rintro e w5 ⟨x5, r5, hx5, l5, u5, hp5, rfl, hR5, hg5⟩
  have I5 := J4.call hR5 hg5
  have J5 : PInv w w5 b L s r5 (o16 5 a bb we bi to x1 x2 false (.slice none 0 0) 0 0 0 0 0 0) := I5
  clear hg5 hR5 J4 I5 d0 d1 d2 d3 d4 d5 d6 d7 d8 d9 d10 d11 d12 d13 d14 d15
  obtain ⟨d0, d1, d2, d3, d4, d5, d6, d7, d8, d9, d10, d11, d12, d13, d14, d15⟩ := cells16 J5.B
  have b5 := J5.B.free 10
  have K5 : PInv w (w5.setCell ⟨L, 10, none⟩ (.int .i64 x5)) b L s r5 (o16 5 a bb we bi to x1 x2 false (.slice none 0 0) x5 0 0 0 0 0) := J5.put 10 (.int .i64 x5)
  go_wp2_with fail
  refine (signed_c b s r5 _ K5.R hp5 (by omega)).mono ?_
  rintro e w6 ⟨x6, r6, hx6, l6, u6, hp6, rfl, hR6, hg6⟩
  have I6 := K5.call hR6 hg6
  have J6 : PInv w w6 b L s r6 (o16 5 a bb we bi to x1 x2 false (.slice none 0 0) x5 0 0 0 0 0) := I6
  clear hg6 hR6 K5 I6 d0 d1 d2 d3 d4 d5 d6 d7 d8 d9 d10 d11 d12 d13 d14 d15
  obtain ⟨d0, d1, d2, d3, d4, d5, d6, d7, d8, d9, d10, d11, d12, d13, d14, d15⟩ := cells16 J6.B
  have b6 := J6.B.free 11
  have K6 : PInv w (w6.setCell ⟨L, 11, none⟩ (.int .i64 x6)) b L s r6 (o16 5 a bb we bi to x1 x2 false (.slice none 0 0) x5 x6 0 0 0 0) := J6.put 11 (.int .i64 x6)
  go_wp2
  go_end0
  refine ⟨x1, x2, false, none, 0, 0, [], x5, x6, 0, 0, 0, 0, r6, ?_, by omega, by omega, by omega, by omega, by omega, by omega, by omega, by omega, (by simp), hp6, rfl, K6.B, (World.ownsRow_nil _ _ _ _), K6.R, K6.g⟩
  simp [Hid, M.ownNumbers, M.hasWeights, hx1.out, hx2.out, hx5.out, hx6.out]

set_option maxHeartbeats 1600000 in
theorem own_6 (b L : Nat) (s : ByteArray) (r : M.RS) (a bb we bi to : Int) (w : World) (h : Rd w b s r) (hB : Blk w L 142 (o16 6 a bb we bi to 0 0 false (.slice none 0 0) 0 0 0 0 0 0)) (ne : b ≠ L) (hp : r.pos ≤ s.size) (_hs : s.size ≤ 4096) :
    Calls Tryz.prog 185 #[.pointer (some ⟨b, 0, none⟩), .pointer (some ⟨L, 0, none⟩)] w fun e w' => ∃ size stride same ao m c xs lo hi above below left right r', Hid (M.ownNumbers s ⟨6, a, bb, we, bi, to, 0, 0, false, [], 0, 0, 0, 0, 0, 0⟩ r = (⟨6, a, bb, we, bi, to, size, stride, same, xs, lo, hi, above, below, left, right⟩, r')) ∧
      (0 ≤ size ∧ size ≤ 255) ∧ (0 ≤ stride ∧ stride ≤ 255) ∧ (-128 ≤ lo ∧ lo ≤ 127) ∧ (-128 ≤ hi ∧ hi ≤ 127) ∧ (0 ≤ above ∧ above ≤ 255) ∧ (0 ≤ below ∧ below ≤ 255) ∧ (0 ≤ left ∧ left ≤ 255) ∧ (0 ≤ right ∧ right ≤ 255) ∧ (∀ c ∈ xs, WfS c) ∧
      r'.pos ≤ s.size ∧ e = .returned (.tuple #[]) ∧ Blk w' L 142 (o16 6 a bb we bi to size stride same (.slice ao m c) lo hi above below left right) ∧ Scs w' w.heap.size (.slice ao m c) xs ∧ Rd w' b s r' ∧ Gr2 w w' b L := by
  have I0 : PInv w w b L s r (o16 6 a bb we bi to 0 0 false (.slice none 0 0) 0 0 0 0 0 0) := ⟨h, hB, Gr2.refl _ _ _, ne⟩
  have hLl := hB.lt
  have hbl := h.lt
  clear h hB
  obtain ⟨d0, d1, d2, d3, d4, d5, d6, d7, d8, d9, d10, d11, d12, d13, d14, d15⟩ := cells16 I0.B
  go_enter Tryz.func185, Tryz.ntmps185
  go_wp2_with fail
  refine (plain_c b s r _ I0.R hp (by omega)).mono ?_
  rintro e w1 ⟨x1, r1, hx1, l1, u1, hp1, rfl, hR1, hg1⟩
  have I1 := I0.call hR1 hg1
  have J1 : PInv w w1 b L s r1 (o16 6 a bb we bi to 0 0 false (.slice none 0 0) 0 0 0 0 0 0) := I1
  clear hg1 hR1 I0 I1 d0 d1 d2 d3 d4 d5 d6 d7 d8 d9 d10 d11 d12 d13 d14 d15
  obtain ⟨d0, d1, d2, d3, d4, d5, d6, d7, d8, d9, d10, d11, d12, d13, d14, d15⟩ := cells16 J1.B
  have b1 := J1.B.free 6
  have K1 : PInv w (w1.setCell ⟨L, 6, none⟩ (.int .i64 x1)) b L s r1 (o16 6 a bb we bi to x1 0 false (.slice none 0 0) 0 0 0 0 0 0) := J1.put 6 (.int .i64 x1)
  go_wp2_with fail
  refine (plain_c b s r1 _ K1.R hp1 (by omega)).mono ?_
  rintro e w2 ⟨x2, r2, hx2, l2, u2, hp2, rfl, hR2, hg2⟩
  have I2 := K1.call hR2 hg2
  have J2 : PInv w w2 b L s r2 (o16 6 a bb we bi to x1 0 false (.slice none 0 0) 0 0 0 0 0 0) := I2
  clear hg2 hR2 K1 I2 d0 d1 d2 d3 d4 d5 d6 d7 d8 d9 d10 d11 d12 d13 d14 d15
  obtain ⟨d0, d1, d2, d3, d4, d5, d6, d7, d8, d9, d10, d11, d12, d13, d14, d15⟩ := cells16 J2.B
  have b2 := J2.B.free 7
  have K2 : PInv w (w2.setCell ⟨L, 7, none⟩ (.int .i64 x2)) b L s r2 (o16 6 a bb we bi to x1 x2 false (.slice none 0 0) 0 0 0 0 0 0) := J2.put 7 (.int .i64 x2)
  go_wp2_with fail
  refine (hasWeights_c 6 _ _ _ _ _ _ _ _ _ _ _ _ _ _ _ false _ rfl).mono ?_
  rintro e w3 ⟨rfl, hg3⟩
  have J3 := K2.call0 hg3
  clear hg3 K2 d0 d1 d2 d3 d4 d5 d6 d7 d8 d9 d10 d11 d12 d13 d14 d15
  obtain ⟨d0, d1, d2, d3, d4, d5, d6, d7, d8, d9, d10, d11, d12, d13, d14, d15⟩ := cells16 J3.B
  go_wp2_with fail
  refine (hasRange_c 6 _ _ _ _ _ _ _ _ _ _ _ _ _ _ _ true _ rfl).mono ?_
  rintro e w4 ⟨rfl, hg4⟩
  have J4 := J3.call0 hg4
  clear hg4 J3 d0 d1 d2 d3 d4 d5 d6 d7 d8 d9 d10 d11 d12 d13 d14 d15
  obtain ⟨d0, d1, d2, d3, d4, d5, d6, d7, d8, d9, d10, d11, d12, d13, d14, d15⟩ := cells16 J4.B
  go_wp2_with fail
  refine (signed_c b s r2 _ J4.R hp2 (by omega)).mono ?_
  rintro e w5 ⟨x5, r5, hx5, l5, u5, hp5, rfl, hR5, hg5⟩
  have I5 := J4.call hR5 hg5
  have J5 : PInv w w5 b L s r5 (o16 6 a bb we bi to x1 x2 false (.slice none 0 0) 0 0 0 0 0 0) := I5
  clear hg5 hR5 J4 I5 d0 d1 d2 d3 d4 d5 d6 d7 d8 d9 d10 d11 d12 d13 d14 d15
  obtain ⟨d0, d1, d2, d3, d4, d5, d6, d7, d8, d9, d10, d11, d12, d13, d14, d15⟩ := cells16 J5.B
  have b5 := J5.B.free 10
  have K5 : PInv w (w5.setCell ⟨L, 10, none⟩ (.int .i64 x5)) b L s r5 (o16 6 a bb we bi to x1 x2 false (.slice none 0 0) x5 0 0 0 0 0) := J5.put 10 (.int .i64 x5)
  go_wp2_with fail
  refine (signed_c b s r5 _ K5.R hp5 (by omega)).mono ?_
  rintro e w6 ⟨x6, r6, hx6, l6, u6, hp6, rfl, hR6, hg6⟩
  have I6 := K5.call hR6 hg6
  have J6 : PInv w w6 b L s r6 (o16 6 a bb we bi to x1 x2 false (.slice none 0 0) x5 0 0 0 0 0) := I6
  clear hg6 hR6 K5 I6 d0 d1 d2 d3 d4 d5 d6 d7 d8 d9 d10 d11 d12 d13 d14 d15
  obtain ⟨d0, d1, d2, d3, d4, d5, d6, d7, d8, d9, d10, d11, d12, d13, d14, d15⟩ := cells16 J6.B
  have b6 := J6.B.free 11
  have K6 : PInv w (w6.setCell ⟨L, 11, none⟩ (.int .i64 x6)) b L s r6 (o16 6 a bb we bi to x1 x2 false (.slice none 0 0) x5 x6 0 0 0 0) := J6.put 11 (.int .i64 x6)
  go_wp2
  go_end0
  refine ⟨x1, x2, false, none, 0, 0, [], x5, x6, 0, 0, 0, 0, r6, ?_, by omega, by omega, by omega, by omega, by omega, by omega, by omega, by omega, (by simp), hp6, rfl, K6.B, (World.ownsRow_nil _ _ _ _), K6.R, K6.g⟩
  simp [Hid, M.ownNumbers, M.hasWeights, hx1.out, hx2.out, hx5.out, hx6.out]

end Go.Proofs.YtcnhfffgbamonaaGreat
