/-
  What stands behind an operator's tensors: kind by kind. (Written by a small program of ours: wip/gen/rd6.py.)
-/
import Derived.Test.YtcnhfffgbamonaaGreatRd6
namespace Go.Proofs.YtcnhfffgbamonaaGreat
open Go.RowKit

set_option maxHeartbeats 1600000 in
theorem own_0 (b L : Nat) (s : ByteArray) (r : M.RS) (a bb we bi to : Int) (w : World) (h : Rd w b s r) (hB : Blk w L 142 (o16 0 a bb we bi to 0 0 false (.slice none 0 0) 0 0 0 0 0 0)) (ne : b ≠ L) (hp : r.pos ≤ s.size) (_hs : s.size ≤ 4096) :
    Calls Tryz.prog 185 #[.pointer (some ⟨b, 0, none⟩), .pointer (some ⟨L, 0, none⟩)] w fun e w' => ∃ size stride same ao m c xs lo hi above below left right r', Hid (M.ownNumbers s ⟨0, a, bb, we, bi, to, 0, 0, false, [], 0, 0, 0, 0, 0, 0⟩ r = (⟨0, a, bb, we, bi, to, size, stride, same, xs, lo, hi, above, below, left, right⟩, r')) ∧
      (0 ≤ size ∧ size ≤ 255) ∧ (0 ≤ stride ∧ stride ≤ 255) ∧ (-128 ≤ lo ∧ lo ≤ 127) ∧ (-128 ≤ hi ∧ hi ≤ 127) ∧ (0 ≤ above ∧ above ≤ 255) ∧ (0 ≤ below ∧ below ≤ 255) ∧ (0 ≤ left ∧ left ≤ 255) ∧ (0 ≤ right ∧ right ≤ 255) ∧ (∀ c ∈ xs, WfS c) ∧
      r'.pos ≤ s.size ∧ e = .returned (.tuple #[]) ∧ Blk w' L 142 (o16 0 a bb we bi to size stride same (.slice ao m c) lo hi above below left right) ∧ Scs w' w.heap.size (.slice ao m c) xs ∧ Rd w' b s r' ∧ Gr2 w w' b L := by
  have I0 : PInv w w b L s r (o16 0 a bb we bi to 0 0 false (.slice none 0 0) 0 0 0 0 0 0) := ⟨h, hB, Gr2.refl _ _ _, ne⟩
  have hLl := hB.lt
  have hbl := h.lt
  clear h hB
  obtain ⟨d0, d1, d2, d3, d4, d5, d6, d7, d8, d9, d10, d11, d12, d13, d14, d15⟩ := cells16 I0.B
  go_enter Tryz.func185, Tryz.ntmps185
  go_wp2_with fail
  refine (hasWeights_c 0 _ _ _ _ _ _ _ _ _ _ _ _ _ _ _ false _ rfl).mono ?_
  rintro e w1 ⟨rfl, hg1⟩
  have J1 := I0.call0 hg1
  clear hg1 I0 d0 d1 d2 d3 d4 d5 d6 d7 d8 d9 d10 d11 d12 d13 d14 d15
  obtain ⟨d0, d1, d2, d3, d4, d5, d6, d7, d8, d9, d10, d11, d12, d13, d14, d15⟩ := cells16 J1.B
  go_wp2_with fail
  refine (hasRange_c 0 _ _ _ _ _ _ _ _ _ _ _ _ _ _ _ false _ rfl).mono ?_
  rintro e w2 ⟨rfl, hg2⟩
  have J2 := J1.call0 hg2
  clear hg2 J1 d0 d1 d2 d3 d4 d5 d6 d7 d8 d9 d10 d11 d12 d13 d14 d15
  obtain ⟨d0, d1, d2, d3, d4, d5, d6, d7, d8, d9, d10, d11, d12, d13, d14, d15⟩ := cells16 J2.B
  go_wp2
  go_end0
  refine ⟨0, 0, false, none, 0, 0, [], 0, 0, 0, 0, 0, 0, r, ?_, by omega, by omega, by omega, by omega, by omega, by omega, by omega, by omega, (by simp), hp, rfl, J2.B, (World.ownsRow_nil _ _ _ _), J2.R, J2.g⟩
  simp [Hid, M.ownNumbers, M.hasWeights]

set_option maxHeartbeats 1600000 in
theorem own_7 (b L : Nat) (s : ByteArray) (r : M.RS) (a bb we bi to : Int) (w : World) (h : Rd w b s r) (hB : Blk w L 142 (o16 7 a bb we bi to 0 0 false (.slice none 0 0) 0 0 0 0 0 0)) (ne : b ≠ L) (hp : r.pos ≤ s.size) (_hs : s.size ≤ 4096) :
    Calls Tryz.prog 185 #[.pointer (some ⟨b, 0, none⟩), .pointer (some ⟨L, 0, none⟩)] w fun e w' => ∃ size stride same ao m c xs lo hi above below left right r', Hid (M.ownNumbers s ⟨7, a, bb, we, bi, to, 0, 0, false, [], 0, 0, 0, 0, 0, 0⟩ r = (⟨7, a, bb, we, bi, to, size, stride, same, xs, lo, hi, above, below, left, right⟩, r')) ∧
      (0 ≤ size ∧ size ≤ 255) ∧ (0 ≤ stride ∧ stride ≤ 255) ∧ (-128 ≤ lo ∧ lo ≤ 127) ∧ (-128 ≤ hi ∧ hi ≤ 127) ∧ (0 ≤ above ∧ above ≤ 255) ∧ (0 ≤ below ∧ below ≤ 255) ∧ (0 ≤ left ∧ left ≤ 255) ∧ (0 ≤ right ∧ right ≤ 255) ∧ (∀ c ∈ xs, WfS c) ∧
      r'.pos ≤ s.size ∧ e = .returned (.tuple #[]) ∧ Blk w' L 142 (o16 7 a bb we bi to size stride same (.slice ao m c) lo hi above below left right) ∧ Scs w' w.heap.size (.slice ao m c) xs ∧ Rd w' b s r' ∧ Gr2 w w' b L := by
  have I0 : PInv w w b L s r (o16 7 a bb we bi to 0 0 false (.slice none 0 0) 0 0 0 0 0 0) := ⟨h, hB, Gr2.refl _ _ _, ne⟩
  have hLl := hB.lt
  have hbl := h.lt
  clear h hB
  obtain ⟨d0, d1, d2, d3, d4, d5, d6, d7, d8, d9, d10, d11, d12, d13, d14, d15⟩ := cells16 I0.B
  go_enter Tryz.func185, Tryz.ntmps185
  go_wp2_with fail
  refine (hasWeights_c 7 _ _ _ _ _ _ _ _ _ _ _ _ _ _ _ false _ rfl).mono ?_
  rintro e w1 ⟨rfl, hg1⟩
  have J1 := I0.call0 hg1
  clear hg1 I0 d0 d1 d2 d3 d4 d5 d6 d7 d8 d9 d10 d11 d12 d13 d14 d15
  obtain ⟨d0, d1, d2, d3, d4, d5, d6, d7, d8, d9, d10, d11, d12, d13, d14, d15⟩ := cells16 J1.B
  go_wp2_with fail
  refine (hasRange_c 7 _ _ _ _ _ _ _ _ _ _ _ _ _ _ _ true _ rfl).mono ?_
  rintro e w2 ⟨rfl, hg2⟩
  have J2 := J1.call0 hg2
  clear hg2 J1 d0 d1 d2 d3 d4 d5 d6 d7 d8 d9 d10 d11 d12 d13 d14 d15
  obtain ⟨d0, d1, d2, d3, d4, d5, d6, d7, d8, d9, d10, d11, d12, d13, d14, d15⟩ := cells16 J2.B
  go_wp2_with fail
  refine (signed_c b s r _ J2.R hp (by omega)).mono ?_
  rintro e w3 ⟨x3, r3, hx3, l3, u3, hp3, rfl, hR3, hg3⟩
  have I3 := J2.call hR3 hg3
  have J3 : PInv w w3 b L s r3 (o16 7 a bb we bi to 0 0 false (.slice none 0 0) 0 0 0 0 0 0) := I3
  clear hg3 hR3 J2 I3 d0 d1 d2 d3 d4 d5 d6 d7 d8 d9 d10 d11 d12 d13 d14 d15
  obtain ⟨d0, d1, d2, d3, d4, d5, d6, d7, d8, d9, d10, d11, d12, d13, d14, d15⟩ := cells16 J3.B
  have b3 := J3.B.free 10
  have K3 : PInv w (w3.setCell ⟨L, 10, none⟩ (.int .i64 x3)) b L s r3 (o16 7 a bb we bi to 0 0 false (.slice none 0 0) x3 0 0 0 0 0) := J3.put 10 (.int .i64 x3)
  go_wp2_with fail
  refine (signed_c b s r3 _ K3.R hp3 (by omega)).mono ?_
  rintro e w4 ⟨x4, r4, hx4, l4, u4, hp4, rfl, hR4, hg4⟩
  have I4 := K3.call hR4 hg4
  have J4 : PInv w w4 b L s r4 (o16 7 a bb we bi to 0 0 false (.slice none 0 0) x3 0 0 0 0 0) := I4
  clear hg4 hR4 K3 I4 d0 d1 d2 d3 d4 d5 d6 d7 d8 d9 d10 d11 d12 d13 d14 d15
  obtain ⟨d0, d1, d2, d3, d4, d5, d6, d7, d8, d9, d10, d11, d12, d13, d14, d15⟩ := cells16 J4.B
  have b4 := J4.B.free 11
  have K4 : PInv w (w4.setCell ⟨L, 11, none⟩ (.int .i64 x4)) b L s r4 (o16 7 a bb we bi to 0 0 false (.slice none 0 0) x3 x4 0 0 0 0) := J4.put 11 (.int .i64 x4)
  go_wp2
  go_end0
  refine ⟨0, 0, false, none, 0, 0, [], x3, x4, 0, 0, 0, 0, r4, ?_, by omega, by omega, by omega, by omega, by omega, by omega, by omega, by omega, (by simp), hp4, rfl, K4.B, (World.ownsRow_nil _ _ _ _), K4.R, K4.g⟩
  simp [Hid, M.ownNumbers, M.hasWeights, hx3.out, hx4.out]

set_option maxHeartbeats 1600000 in
theorem own_8 (b L : Nat) (s : ByteArray) (r : M.RS) (a bb we bi to : Int) (w : World) (h : Rd w b s r) (hB : Blk w L 142 (o16 8 a bb we bi to 0 0 false (.slice none 0 0) 0 0 0 0 0 0)) (ne : b ≠ L) (hp : r.pos ≤ s.size) (_hs : s.size ≤ 4096) :
    Calls Tryz.prog 185 #[.pointer (some ⟨b, 0, none⟩), .pointer (some ⟨L, 0, none⟩)] w fun e w' => ∃ size stride same ao m c xs lo hi above below left right r', Hid (M.ownNumbers s ⟨8, a, bb, we, bi, to, 0, 0, false, [], 0, 0, 0, 0, 0, 0⟩ r = (⟨8, a, bb, we, bi, to, size, stride, same, xs, lo, hi, above, below, left, right⟩, r')) ∧
      (0 ≤ size ∧ size ≤ 255) ∧ (0 ≤ stride ∧ stride ≤ 255) ∧ (-128 ≤ lo ∧ lo ≤ 127) ∧ (-128 ≤ hi ∧ hi ≤ 127) ∧ (0 ≤ above ∧ above ≤ 255) ∧ (0 ≤ below ∧ below ≤ 255) ∧ (0 ≤ left ∧ left ≤ 255) ∧ (0 ≤ right ∧ right ≤ 255) ∧ (∀ c ∈ xs, WfS c) ∧
      r'.pos ≤ s.size ∧ e = .returned (.tuple #[]) ∧ Blk w' L 142 (o16 8 a bb we bi to size stride same (.slice ao m c) lo hi above below left right) ∧ Scs w' w.heap.size (.slice ao m c) xs ∧ Rd w' b s r' ∧ Gr2 w w' b L := by
  have I0 : PInv w w b L s r (o16 8 a bb we bi to 0 0 false (.slice none 0 0) 0 0 0 0 0 0) := ⟨h, hB, Gr2.refl _ _ _, ne⟩
  have hLl := hB.lt
  have hbl := h.lt
  clear h hB
  obtain ⟨d0, d1, d2, d3, d4, d5, d6, d7, d8, d9, d10, d11, d12, d13, d14, d15⟩ := cells16 I0.B
  go_enter Tryz.func185, Tryz.ntmps185
  go_wp2_with fail
  refine (plain_c b s r _ I0.R hp (by omega)).mono ?_
  rintro e w1 ⟨x1, r1, hx1, l1, u1, hp1, rfl, hR1, hg1⟩
  have I1 := I0.call hR1 hg1
  have J1 : PInv w w1 b L s r1 (o16 8 a bb we bi to 0 0 false (.slice none 0 0) 0 0 0 0 0 0) := I1
  clear hg1 hR1 I0 I1 d0 d1 d2 d3 d4 d5 d6 d7 d8 d9 d10 d11 d12 d13 d14 d15
  obtain ⟨d0, d1, d2, d3, d4, d5, d6, d7, d8, d9, d10, d11, d12, d13, d14, d15⟩ := cells16 J1.B
  have b1 := J1.B.free 12
  have K1 : PInv w (w1.setCell ⟨L, 12, none⟩ (.int .i64 x1)) b L s r1 (o16 8 a bb we bi to 0 0 false (.slice none 0 0) 0 0 x1 0 0 0) := J1.put 12 (.int .i64 x1)
  go_wp2_with fail
  refine (plain_c b s r1 _ K1.R hp1 (by omega)).mono ?_
  rintro e w2 ⟨x2, r2, hx2, l2, u2, hp2, rfl, hR2, hg2⟩
  have I2 := K1.call hR2 hg2
  have J2 : PInv w w2 b L s r2 (o16 8 a bb we bi to 0 0 false (.slice none 0 0) 0 0 x1 0 0 0) := I2
  clear hg2 hR2 K1 I2 d0 d1 d2 d3 d4 d5 d6 d7 d8 d9 d10 d11 d12 d13 d14 d15
  obtain ⟨d0, d1, d2, d3, d4, d5, d6, d7, d8, d9, d10, d11, d12, d13, d14, d15⟩ := cells16 J2.B
  have b2 := J2.B.free 13
  have K2 : PInv w (w2.setCell ⟨L, 13, none⟩ (.int .i64 x2)) b L s r2 (o16 8 a bb we bi to 0 0 false (.slice none 0 0) 0 0 x1 x2 0 0) := J2.put 13 (.int .i64 x2)
  go_wp2_with fail
  refine (plain_c b s r2 _ K2.R hp2 (by omega)).mono ?_
  rintro e w3 ⟨x3, r3, hx3, l3, u3, hp3, rfl, hR3, hg3⟩
  have I3 := K2.call hR3 hg3
  have J3 : PInv w w3 b L s r3 (o16 8 a bb we bi to 0 0 false (.slice none 0 0) 0 0 x1 x2 0 0) := I3
  clear hg3 hR3 K2 I3 d0 d1 d2 d3 d4 d5 d6 d7 d8 d9 d10 d11 d12 d13 d14 d15
  obtain ⟨d0, d1, d2, d3, d4, d5, d6, d7, d8, d9, d10, d11, d12, d13, d14, d15⟩ := cells16 J3.B
  have b3 := J3.B.free 14
  have K3 : PInv w (w3.setCell ⟨L, 14, none⟩ (.int .i64 x3)) b L s r3 (o16 8 a bb we bi to 0 0 false (.slice none 0 0) 0 0 x1 x2 x3 0) := J3.put 14 (.int .i64 x3)
  go_wp2_with fail
  refine (plain_c b s r3 _ K3.R hp3 (by omega)).mono ?_
  rintro e w4 ⟨x4, r4, hx4, l4, u4, hp4, rfl, hR4, hg4⟩
  have I4 := K3.call hR4 hg4
  have J4 : PInv w w4 b L s r4 (o16 8 a bb we bi to 0 0 false (.slice none 0 0) 0 0 x1 x2 x3 0) := I4
  clear hg4 hR4 K3 I4 d0 d1 d2 d3 d4 d5 d6 d7 d8 d9 d10 d11 d12 d13 d14 d15
  obtain ⟨d0, d1, d2, d3, d4, d5, d6, d7, d8, d9, d10, d11, d12, d13, d14, d15⟩ := cells16 J4.B
  have b4 := J4.B.free 15
  have K4 : PInv w (w4.setCell ⟨L, 15, none⟩ (.int .i64 x4)) b L s r4 (o16 8 a bb we bi to 0 0 false (.slice none 0 0) 0 0 x1 x2 x3 x4) := J4.put 15 (.int .i64 x4)
  go_wp2_with fail
  refine (hasWeights_c 8 _ _ _ _ _ _ _ _ _ _ _ _ _ _ _ false _ rfl).mono ?_
  rintro e w5 ⟨rfl, hg5⟩
  have J5 := K4.call0 hg5
  clear hg5 K4 d0 d1 d2 d3 d4 d5 d6 d7 d8 d9 d10 d11 d12 d13 d14 d15
  obtain ⟨d0, d1, d2, d3, d4, d5, d6, d7, d8, d9, d10, d11, d12, d13, d14, d15⟩ := cells16 J5.B
  go_wp2_with fail
  refine (hasRange_c 8 _ _ _ _ _ _ _ _ _ _ _ _ _ _ _ false _ rfl).mono ?_
  rintro e w6 ⟨rfl, hg6⟩
  have J6 := J5.call0 hg6
  clear hg6 J5 d0 d1 d2 d3 d4 d5 d6 d7 d8 d9 d10 d11 d12 d13 d14 d15
  obtain ⟨d0, d1, d2, d3, d4, d5, d6, d7, d8, d9, d10, d11, d12, d13, d14, d15⟩ := cells16 J6.B
  go_wp2
  go_end0
  refine ⟨0, 0, false, none, 0, 0, [], 0, 0, x1, x2, x3, x4, r4, ?_, by omega, by omega, by omega, by omega, by omega, by omega, by omega, by omega, (by simp), hp4, rfl, J6.B, (World.ownsRow_nil _ _ _ _), J6.R, J6.g⟩
  simp [Hid, M.ownNumbers, M.hasWeights, hx1.out, hx2.out, hx3.out, hx4.out]

set_option maxHeartbeats 1600000 in
theorem own_9 (b L : Nat) (s : ByteArray) (r : M.RS) (a bb we bi to : Int) (w : World) (h : Rd w b s r) (hB : Blk w L 142 (o16 9 a bb we bi to 0 0 false (.slice none 0 0) 0 0 0 0 0 0)) (ne : b ≠ L) (hp : r.pos ≤ s.size) (_hs : s.size ≤ 4096) :
    Calls Tryz.prog 185 #[.pointer (some ⟨b, 0, none⟩), .pointer (some ⟨L, 0, none⟩)] w fun e w' => ∃ size stride same ao m c xs lo hi above below left right r', Hid (M.ownNumbers s ⟨9, a, bb, we, bi, to, 0, 0, false, [], 0, 0, 0, 0, 0, 0⟩ r = (⟨9, a, bb, we, bi, to, size, stride, same, xs, lo, hi, above, below, left, right⟩, r')) ∧
      (0 ≤ size ∧ size ≤ 255) ∧ (0 ≤ stride ∧ stride ≤ 255) ∧ (-128 ≤ lo ∧ lo ≤ 127) ∧ (-128 ≤ hi ∧ hi ≤ 127) ∧ (0 ≤ above ∧ above ≤ 255) ∧ (0 ≤ below ∧ below ≤ 255) ∧ (0 ≤ left ∧ left ≤ 255) ∧ (0 ≤ right ∧ right ≤ 255) ∧ (∀ c ∈ xs, WfS c) ∧
      r'.pos ≤ s.size ∧ e = .returned (.tuple #[]) ∧ Blk w' L 142 (o16 9 a bb we bi to size stride same (.slice ao m c) lo hi above below left right) ∧ Scs w' w.heap.size (.slice ao m c) xs ∧ Rd w' b s r' ∧ Gr2 w w' b L := by
  have I0 : PInv w w b L s r (o16 9 a bb we bi to 0 0 false (.slice none 0 0) 0 0 0 0 0 0) := ⟨h, hB, Gr2.refl _ _ _, ne⟩
  have hLl := hB.lt
  have hbl := h.lt
  clear h hB
  obtain ⟨d0, d1, d2, d3, d4, d5, d6, d7, d8, d9, d10, d11, d12, d13, d14, d15⟩ := cells16 I0.B
  go_enter Tryz.func185, Tryz.ntmps185
  go_wp2_with fail
  refine (hasWeights_c 9 _ _ _ _ _ _ _ _ _ _ _ _ _ _ _ false _ rfl).mono ?_
  rintro e w1 ⟨rfl, hg1⟩
  have J1 := I0.call0 hg1
  clear hg1 I0 d0 d1 d2 d3 d4 d5 d6 d7 d8 d9 d10 d11 d12 d13 d14 d15
  obtain ⟨d0, d1, d2, d3, d4, d5, d6, d7, d8, d9, d10, d11, d12, d13, d14, d15⟩ := cells16 J1.B
  go_wp2_with fail
  refine (hasRange_c 9 _ _ _ _ _ _ _ _ _ _ _ _ _ _ _ false _ rfl).mono ?_
  rintro e w2 ⟨rfl, hg2⟩
  have J2 := J1.call0 hg2
  clear hg2 J1 d0 d1 d2 d3 d4 d5 d6 d7 d8 d9 d10 d11 d12 d13 d14 d15
  obtain ⟨d0, d1, d2, d3, d4, d5, d6, d7, d8, d9, d10, d11, d12, d13, d14, d15⟩ := cells16 J2.B
  go_wp2
  go_end0
  refine ⟨0, 0, false, none, 0, 0, [], 0, 0, 0, 0, 0, 0, r, ?_, by omega, by omega, by omega, by omega, by omega, by omega, by omega, by omega, (by simp), hp, rfl, J2.B, (World.ownsRow_nil _ _ _ _), J2.R, J2.g⟩
  simp [Hid, M.ownNumbers, M.hasWeights]

set_option maxHeartbeats 1600000 in
theorem own_10 (b L : Nat) (s : ByteArray) (r : M.RS) (a bb we bi to : Int) (w : World) (h : Rd w b s r) (hB : Blk w L 142 (o16 10 a bb we bi to 0 0 false (.slice none 0 0) 0 0 0 0 0 0)) (ne : b ≠ L) (hp : r.pos ≤ s.size) (_hs : s.size ≤ 4096) :
    Calls Tryz.prog 185 #[.pointer (some ⟨b, 0, none⟩), .pointer (some ⟨L, 0, none⟩)] w fun e w' => ∃ size stride same ao m c xs lo hi above below left right r', Hid (M.ownNumbers s ⟨10, a, bb, we, bi, to, 0, 0, false, [], 0, 0, 0, 0, 0, 0⟩ r = (⟨10, a, bb, we, bi, to, size, stride, same, xs, lo, hi, above, below, left, right⟩, r')) ∧
      (0 ≤ size ∧ size ≤ 255) ∧ (0 ≤ stride ∧ stride ≤ 255) ∧ (-128 ≤ lo ∧ lo ≤ 127) ∧ (-128 ≤ hi ∧ hi ≤ 127) ∧ (0 ≤ above ∧ above ≤ 255) ∧ (0 ≤ below ∧ below ≤ 255) ∧ (0 ≤ left ∧ left ≤ 255) ∧ (0 ≤ right ∧ right ≤ 255) ∧ (∀ c ∈ xs, WfS c) ∧
      r'.pos ≤ s.size ∧ e = .returned (.tuple #[]) ∧ Blk w' L 142 (o16 10 a bb we bi to size stride same (.slice ao m c) lo hi above below left right) ∧ Scs w' w.heap.size (.slice ao m c) xs ∧ Rd w' b s r' ∧ Gr2 w w' b L := by
  have I0 : PInv w w b L s r (o16 10 a bb we bi to 0 0 false (.slice none 0 0) 0 0 0 0 0 0) := ⟨h, hB, Gr2.refl _ _ _, ne⟩
  have hLl := hB.lt
  have hbl := h.lt
  clear h hB
  obtain ⟨d0, d1, d2, d3, d4, d5, d6, d7, d8, d9, d10, d11, d12, d13, d14, d15⟩ := cells16 I0.B
  go_enter Tryz.func185, Tryz.ntmps185
  go_wp2_with fail
  refine (hasWeights_c 10 _ _ _ _ _ _ _ _ _ _ _ _ _ _ _ false _ rfl).mono ?_
  rintro e w1 ⟨rfl, hg1⟩
  have J1 := I0.call0 hg1
  clear hg1 I0 d0 d1 d2 d3 d4 d5 d6 d7 d8 d9 d10 d11 d12 d13 d14 d15
  obtain ⟨d0, d1, d2, d3, d4, d5, d6, d7, d8, d9, d10, d11, d12, d13, d14, d15⟩ := cells16 J1.B
  go_wp2_with fail
  refine (hasRange_c 10 _ _ _ _ _ _ _ _ _ _ _ _ _ _ _ false _ rfl).mono ?_
  rintro e w2 ⟨rfl, hg2⟩
  have J2 := J1.call0 hg2
  clear hg2 J1 d0 d1 d2 d3 d4 d5 d6 d7 d8 d9 d10 d11 d12 d13 d14 d15
  obtain ⟨d0, d1, d2, d3, d4, d5, d6, d7, d8, d9, d10, d11, d12, d13, d14, d15⟩ := cells16 J2.B
  go_wp2
  go_end0
  refine ⟨0, 0, false, none, 0, 0, [], 0, 0, 0, 0, 0, 0, r, ?_, by omega, by omega, by omega, by omega, by omega, by omega, by omega, by omega, (by simp), hp, rfl, J2.B, (World.ownsRow_nil _ _ _ _), J2.R, J2.g⟩
  simp [Hid, M.ownNumbers, M.hasWeights]

end Go.Proofs.YtcnhfffgbamonaaGreat
