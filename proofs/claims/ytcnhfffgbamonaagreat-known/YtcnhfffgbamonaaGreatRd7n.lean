/-
  The reader's operators. (Written by a small program of ours: wip/gen/rd7.py.)
-/
import Derived.Test.YtcnhfffgbamonaaGreatRd7
namespace Go.Proofs.YtcnhfffgbamonaaGreat
open Go.RowKit

set_option maxHeartbeats 2000000 in
theorem op_n (b : Nat) (s : ByteArray) (r : M.RS) (w : World) (h : Rd w b s r) (hp : r.pos ≤ s.size) (hs : s.size ≤ 4096) (hc : M.hasWeights (M.within s 1 10 r).1 = false) (hd : M.readsTwo (M.within s 1 10 r).1 = false) :
    Calls Tryz.prog 163 #[.pointer (some ⟨b, 0, none⟩)] w fun e w' => ∃ o ao m c r', Hid (M.op s r = (o, r')) ∧ WfO o ∧ r'.pos ≤ s.size ∧ e = .returned (.agg (oval o (.slice ao m c))) ∧ Scs w' w.heap.size (.slice ao m c) o.scales ∧ Rd w' b s r' ∧ w.grownBy w' (some b) := by
  have I0 := LInv.start (T := 142) (z := (o16 0 0 0 0 0 0 0 0 false (.slice none 0 0) 0 0 0 0 0 0)) h
  have Hc := hide hc
  have Hd := hide hd
  clear hc hd
  go_enter Tryz.func163, Tryz.ntmps163
  go_wp2_with fail
  refine (within_c b s r 1 10 _ I0.R hp (by omega) (by omega) (by omega) (by omega)).mono ?_
  rintro e w1 ⟨x1, r1, hx1, l1, u1, hp1, rfl, hR1, hg1⟩
  have J1 : LInv 142 (o16 0 0 0 0 0 0 0 0 false (.slice none 0 0) 0 0 0 0 0 0) w w1 b s r1 (o16 0 0 0 0 0 0 0 0 false (.slice none 0 0) 0 0 0 0 0 0) := I0.call hR1 hg1
  clear hg1 hR1 I0
  have a1 : w1.cell? ⟨w.heap.size + 1, 0, none⟩ = some (.int .i64 0) := J1.L.cell 0
  have b1 := J1.L.free 0
  have K1 : LInv 142 (o16 0 0 0 0 0 0 0 0 false (.slice none 0 0) 0 0 0 0 0 0) w (w1.setCell ⟨w.heap.size + 1, 0, none⟩ (.int .i64 x1)) b s r1 (o16 x1 0 0 0 0 0 0 0 false (.slice none 0 0) 0 0 0 0 0 0) := J1.put 0 (.int .i64 x1)
  clear J1
  rw [hx1.out] at Hc Hd
  go_wp2_with fail
  refine (plain_c b s r1 _ K1.R hp1 (by omega)).mono ?_
  rintro e w2 ⟨x2, r2, hx2, l2, u2, hp2, rfl, hR2, hg2⟩
  have J2 : LInv 142 (o16 0 0 0 0 0 0 0 0 false (.slice none 0 0) 0 0 0 0 0 0) w w2 b s r2 (o16 x1 0 0 0 0 0 0 0 false (.slice none 0 0) 0 0 0 0 0 0) := K1.call hR2 hg2
  clear hg2 hR2 K1 a1 b1
  have a2 : w2.cell? ⟨w.heap.size + 1, 1, none⟩ = some (.int .i64 0) := J2.L.cell 1
  have b2 := J2.L.free 1
  have K2 : LInv 142 (o16 0 0 0 0 0 0 0 0 false (.slice none 0 0) 0 0 0 0 0 0) w (w2.setCell ⟨w.heap.size + 1, 1, none⟩ (.int .i64 x2)) b s r2 (o16 x1 x2 0 0 0 0 0 0 false (.slice none 0 0) 0 0 0 0 0 0) := J2.put 1 (.int .i64 x2)
  clear J2
  go_wp2_with (refine wpList_load_row rfl 142 _ rfl (w.heap.size + 1) rfl 142 (o16 x1 x2 0 0 0 0 0 0 false (.slice none 0 0) 0 0 0 0 0 0) (0, 0) _ K2.L Tryz.underlying142 rfl Tryz.size142 ?_)
  refine (hasWeights_c _ _ _ _ _ _ _ _ _ _ _ _ _ _ _ _ false _ Hc.out).mono ?_
  rintro e w3 ⟨rfl, hg3⟩
  have J3 := K2.call0 hg3
  clear hg3 K2 a2 b2
  go_wp2_with (refine wpList_load_row rfl 142 _ rfl (w.heap.size + 1) rfl 142 (o16 x1 x2 0 0 0 0 0 0 false (.slice none 0 0) 0 0 0 0 0 0) (0, 0) _ J3.L Tryz.underlying142 rfl Tryz.size142 ?_)
  refine (readsTwo_c _ _ _ _ _ _ _ _ _ _ _ _ _ _ _ _ false _ Hd.out).mono ?_
  rintro e w4 ⟨rfl, hg4⟩
  have J4 := J3.call0 hg4
  clear hg4 J3
  go_wp2_with fail
  refine (plain_c b s r2 _ J4.R hp2 (by omega)).mono ?_
  rintro e w5 ⟨x5, r5, hx5, l5, u5, hp5, rfl, hR5, hg5⟩
  have J5 : LInv 142 (o16 0 0 0 0 0 0 0 0 false (.slice none 0 0) 0 0 0 0 0 0) w w5 b s r5 (o16 x1 x2 0 0 0 0 0 0 false (.slice none 0 0) 0 0 0 0 0 0) := J4.call hR5 hg5
  clear hg5 hR5 J4
  have a5 : w5.cell? ⟨w.heap.size + 1, 5, none⟩ = some (.int .i64 0) := J5.L.cell 5
  have b5 := J5.L.free 5
  have K5 : LInv 142 (o16 0 0 0 0 0 0 0 0 false (.slice none 0 0) 0 0 0 0 0 0) w (w5.setCell ⟨w.heap.size + 1, 5, none⟩ (.int .i64 x5)) b s r5 (o16 x1 x2 0 0 0 x5 0 0 false (.slice none 0 0) 0 0 0 0 0 0) := J5.put 5 (.int .i64 x5)
  clear J5
  go_wp2_with fail
  have hbb := K5.hb
  have zz := K5.g.size
  have zl := K5.L.lt
  refine (own_c x1 ⟨l1, u1⟩ b (w.heap.size + 1) s r5 _ _ _ _ _ _ K5.R K5.L (by omega) hp5 hs).mono ?_
  rintro e wf ⟨size, stride, same, ao, m, cp, xs, lo, hi, above, below, left, right, rf, hxf, y1, y2, y3, y4, y5, y6, y7, y8, hws, hpf, rfl, hBf, hSf, hRf, hgf⟩
  have Jf : LInv 142 (o16 0 0 0 0 0 0 0 0 false (.slice none 0 0) 0 0 0 0 0 0) w wf b s rf (o16 x1 x2 0 0 0 x5 size stride same (.slice ao m cp) lo hi above below left right) := K5.own hRf hBf hgf
  clear hgf hRf hBf K5 a5 b5
  go_wp2_with (first | (refine wpList_load_row rfl 142 _ rfl (w.heap.size + 1) rfl 142 (o16 x1 x2 0 0 0 x5 size stride same (.slice ao m cp) lo hi above below left right) (0, 0) _ Jf.L Tryz.underlying142 rfl Tryz.size142 ?_) | (refine wpList_store_row rfl 142 _ _ rfl w.heap.size (o16 x1 x2 0 0 0 x5 size stride same (.slice ao m cp) lo hi above below left right) rfl rfl 142 (o16 0 0 0 0 0 0 0 0 false (.slice none 0 0) 0 0 0 0 0 0) Jf.G Tryz.size142 rfl (one16 ..) ?_))
  have hRz := (setRow16 Jf (o16 x1 x2 0 0 0 x5 size stride same (.slice ao m cp) lo hi above below left right)).1
  have hgz := (setRow16 Jf (o16 x1 x2 0 0 0 x5 size stride same (.slice ao m cp) lo hi above below left right)).2.1
  have hBz := (setRow16 Jf (o16 x1 x2 0 0 0 x5 size stride same (.slice ao m cp) lo hi above below left right)).2.2
  refine bodyPost_ret (v := .agg (o16 x1 x2 0 0 0 x5 size stride same (.slice ao m cp) lo hi above below left right)) ?hr rfl ?_
  case hr => exact results_cell_row Tryz.results163 _ _ w.heap.size 142 (o16 x1 x2 0 0 0 x5 size stride same (.slice ao m cp) lo hi above below left right) (0, 0) _ rfl hBz Tryz.underlying142 rfl Tryz.size142
  have he := op_eq hx1.out hx2.out (by rw [if_neg (by rw [Hc.out]; simp)]) (by rw [if_neg (by rw [Hd.out]; simp)]) hx5.out hxf.out
  refine ⟨⟨x1, x2, 0, 0, 0, x5, size, stride, same, xs, lo, hi, above, below, left, right⟩, ao, m, cp, rf, he, ?_, hpf, rfl, ?_, hRz, gr_new Jf.g hgz (Nat.le_refl _)⟩
  · exact ⟨⟨l1, u1⟩, ⟨l2, u2⟩, by simp only; omega, by simp only; omega, by simp only; omega, by simp only; omega, y1, y2, y3, y4, y5, y6, y7, y8, hws⟩
  · exact owns_mono (owns_kept hSf hgz (by simp at zl ⊢; omega)) (by simp at zz ⊢; omega)

end Go.Proofs.YtcnhfffgbamonaaGreat
