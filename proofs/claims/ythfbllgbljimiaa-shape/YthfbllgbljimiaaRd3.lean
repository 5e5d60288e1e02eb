/-
  The reader's tensors.
-/
import Derived.Test.YthfbllgbljimiaaRd2
namespace Go.Proofs.Ythfbllgbljimiaa
open Go.RowKit

/-- A tensor as a value: its numbers, and the slice of its cells. -/
def tval (t : M.Tn) (dv : Value) : Array Value := #[.int .i64 t.kind, .int .i64 t.h, .int .i64 t.w, .int .i64 t.c, .int .i64 t.zero, dv]

structure WfT (t : M.Tn) : Prop where
  k0 : 0 ≤ t.kind
  k1 : t.kind ≤ 3
  h0 : 0 ≤ t.h
  h1 : t.h ≤ 255
  w0 : 0 ≤ t.w
  w1 : t.w ≤ 255
  c0 : 0 ≤ t.c
  c1 : t.c ≤ 255
  z0 : -128 ≤ t.zero
  z1 : t.zero ≤ 127

theorem mul3 {h w c : Int} (h0 : 0 ≤ h) (h1 : h ≤ 255) (w0 : 0 ≤ w) (w1 : w ≤ 255) (c0 : 0 ≤ c) (c1 : c ≤ 255) : 0 ≤ h * w ∧ h * w ≤ 65025 ∧ 0 ≤ h * w * c ∧ h * w * c ≤ 16581375 := by
  have a0 : 0 ≤ h * w := Int.mul_nonneg h0 w0
  have a1 : h * w ≤ 255 * 255 := Int.mul_le_mul h1 w1 w0 (by omega)
  have b0 : 0 ≤ h * w * c := Int.mul_nonneg a0 c0
  have b1 : h * w * c ≤ 65025 * 255 := Int.mul_le_mul (by omega) c1 c0 (by omega)
  exact ⟨a0, by omega, b0, by omega⟩

set_option maxHeartbeats 400000 in
theorem cellsOf_c (k h w c z : Int) (dv : Value) (W : World) (h0 : 0 ≤ h) (h1 : h ≤ 255) (w0 : 0 ≤ w) (w1 : w ≤ 255) (c0 : 0 ≤ c) (c1 : c ≤ 255) :
    Calls Try.prog 45 #[.agg #[.int .i64 k, .int .i64 h, .int .i64 w, .int .i64 c, .int .i64 z, dv]] W fun e W' => e = .returned (.int .i64 (h * w * c)) ∧ W.grownBy W' none := by
  obtain ⟨a0, a1, b0, b1⟩ := mul3 h0 h1 w0 w1 c0 c1
  go_enter Try.func45, Try.ntmps45
  go_wp2
  go_ret
  exact ⟨rfl, World.grownBy_alloc _ _ _⟩


abbrev t6 (k h w c z : Int) (dv : Value) : Array Value := #[.int .i64 k, .int .i64 h, .int .i64 w, .int .i64 c, .int .i64 z, dv]

/-- Inside a call that has laid a result and a local of type T: the reader, both blocks, what has grown. -/
structure LInv (T : TypeId) (z : Array Value) (w0 w1 : World) (b : Nat) (s : ByteArray) (r : M.RS) (cs : Array Value) : Prop where
  R : Rd w1 b s r
  L : Blk w1 (w0.heap.size + 1) T cs
  G : Blk w1 w0.heap.size T z
  g : w0.grownBy w1 (some b)
  hb : b < w0.heap.size

theorem LInv.start {T : TypeId} {z : Array Value} {w : World} {b : Nat} {s : ByteArray} {r : M.RS} (h : Rd w b s r) : LInv T z w ((w.alloc (.cells z T)).alloc (.cells z T)) b s r z :=
  ⟨Blk.alloc (Blk.alloc h _) _, Blk.new1 w _ _ _, Blk.alloc (Blk.new w _ _) _, gr_alloc2 w _ _ _, h.lt⟩

theorem LInv.call {T : TypeId} {z : Array Value} {w0 w1 w2 : World} {b : Nat} {s : ByteArray} {r r' : M.RS} {cs : Array Value} (h : LInv T z w0 w1 b s r cs) (hR : Rd w2 b s r') (hg : w1.grownBy w2 (some b)) : LInv T z w0 w2 b s r' cs :=
  have hb := h.hb
  ⟨hR, h.L.kept hg (by simp; omega), h.G.kept hg (by simp; omega), gr_trans h.g hg, hb⟩

theorem LInv.call0 {T : TypeId} {z : Array Value} {w0 w1 w2 : World} {b : Nat} {s : ByteArray} {r : M.RS} {cs : Array Value} (h : LInv T z w0 w1 b s r cs) (hg : w1.grownBy w2 none) : LInv T z w0 w2 b s r cs :=
  ⟨Blk.kept h.R hg (by simp), h.L.kept hg (by simp), h.G.kept hg (by simp), gr_trans h.g (gr_none hg), h.hb⟩

theorem LInv.put {T : TypeId} {z : Array Value} {w0 w1 : World} {b : Nat} {s : ByteArray} {r : M.RS} {cs : Array Value} (h : LInv T z w0 w1 b s r cs) (i : Nat) (v : Value) : LInv T z w0 (w1.setCell ⟨w0.heap.size + 1, i, none⟩ v) b s r (cs.setIfInBounds i v) :=
  have hb := h.hb
  ⟨Blk.other h.R (by simp; omega) _, Blk.set h.L i v, h.G.other (by simp) _, gr_new h.g (gr_set _ _ _ _) (by omega), hb⟩

theorem cells6 {w : World} {L T : Nat} {k h v c z : Int} {dv : Value} (hL : Blk w L T (t6 k h v c z dv)) : w.cell? ⟨L, 0, none⟩ = some (.int .i64 k) ∧ w.cell? ⟨L, 1, none⟩ = some (.int .i64 h) ∧ w.cell? ⟨L, 2, none⟩ = some (.int .i64 v) ∧ w.cell? ⟨L, 3, none⟩ = some (.int .i64 c) ∧ w.cell? ⟨L, 4, none⟩ = some (.int .i64 z) ∧ w.cell? ⟨L, 5, none⟩ = some dv :=
  ⟨hL.cell 0, hL.cell 1, hL.cell 2, hL.cell 3, hL.cell 4, hL.cell 5⟩
theorem free6 {w : World} {L T : Nat} {cs : Array Value} (hL : Blk w L T cs) : w.frozen? ⟨L, 0, none⟩ = false ∧ w.frozen? ⟨L, 1, none⟩ = false ∧ w.frozen? ⟨L, 2, none⟩ = false ∧ w.frozen? ⟨L, 3, none⟩ = false ∧ w.frozen? ⟨L, 4, none⟩ = false ∧ w.frozen? ⟨L, 5, none⟩ = false :=
  ⟨hL.free 0, hL.free 1, hL.free 2, hL.free 3, hL.free 4, hL.free 5⟩

/-- The result's six cells, written. -/
theorem fin6 {w0 w1 : World} {b : Nat} {s : ByteArray} {r : M.RS} {k h v c z : Int} {dv : Value} {cs : Array Value} (h : LInv 72 (t6 k h v c z dv) w0 w1 b s r cs) (v0 v1 v2 v3 v4 v5 : Value) :
    Rd ((((((w1.setCell ⟨w0.heap.size, 0, none⟩ v0).setCell ⟨w0.heap.size, 1, none⟩ v1).setCell ⟨w0.heap.size, 2, none⟩ v2).setCell ⟨w0.heap.size, 3, none⟩ v3).setCell ⟨w0.heap.size, 4, none⟩ v4).setCell ⟨w0.heap.size, 5, none⟩ v5) b s r ∧
    w1.grownBy ((((((w1.setCell ⟨w0.heap.size, 0, none⟩ v0).setCell ⟨w0.heap.size, 1, none⟩ v1).setCell ⟨w0.heap.size, 2, none⟩ v2).setCell ⟨w0.heap.size, 3, none⟩ v3).setCell ⟨w0.heap.size, 4, none⟩ v4).setCell ⟨w0.heap.size, 5, none⟩ v5) (some w0.heap.size) ∧
    Blk ((((((w1.setCell ⟨w0.heap.size, 0, none⟩ v0).setCell ⟨w0.heap.size, 1, none⟩ v1).setCell ⟨w0.heap.size, 2, none⟩ v2).setCell ⟨w0.heap.size, 3, none⟩ v3).setCell ⟨w0.heap.size, 4, none⟩ v4).setCell ⟨w0.heap.size, 5, none⟩ v5) w0.heap.size 72 #[v0, v1, v2, v3, v4, v5] := by
  have hb := h.hb
  have hg := gr_trans (gr_set w1 w0.heap.size 0 v0) (gr_trans (gr_set _ w0.heap.size 1 v1) (gr_trans (gr_set _ w0.heap.size 2 v2) (gr_trans (gr_set _ w0.heap.size 3 v3) (gr_trans (gr_set _ w0.heap.size 4 v4) (gr_set _ w0.heap.size 5 v5)))))
  exact ⟨Blk.kept h.R hg (by simp; omega), hg, (((((h.G.set 0 v0).set 1 v1).set 2 v2).set 3 v3).set 4 v4).set 5 v5⟩

theorem ret6 {W : World} {G : Nat} {v0 v1 v2 v3 v4 v5 : Value} (hB : Blk W G 72 #[v0, v1, v2, v3, v4, v5]) (tmps : Array Value) (ht : tmps[2]?.getD undef = .pointer (some ⟨G, 0, none⟩)) : (results Try.f76 tmps).run Try.prog W = .ok (.agg #[v0, v1, v2, v3, v4, v5]) W := by
  have q0 : W.cell? ⟨G, 0, none⟩ = some v0 := hB.cell 0
  have q1 : W.cell? ⟨G, 1, none⟩ = some v1 := hB.cell 1
  have q2 : W.cell? ⟨G, 2, none⟩ = some v2 := hB.cell 2
  have q3 : W.cell? ⟨G, 3, none⟩ = some v3 := hB.cell 3
  have q4 : W.cell? ⟨G, 4, none⟩ = some v4 := hB.cell 4
  have q5 : W.cell? ⟨G, 5, none⟩ = some v5 := hB.cell 5
  simp [results, Try.results76, go_sem, ht, q0, q1, q2, q3, q4, q5]

theorem tensor_eq {s : ByteArray} {r r1 r2 r3 r4 r5 : M.RS} {x1 x2 x3 x4 x5 : Int} (h1 : M.within s 0 3 r = (x1, r1)) (h2 : M.plain s r1 = (x2, r2)) (h3 : M.plain s r2 = (x3, r3)) (h4 : M.plain s r3 = (x4, r4)) (h5 : M.signed s r4 = (x5, r5)) :
    M.tensor s r = (⟨x1, x2, x3, x4, x5, (if x1 = 1 then M.cells s (x2 * x3 * x4) r5 else if x1 = 2 then M.words s (x2 * x3 * x4) r5 else ([], r5)).1⟩, (if x1 = 1 then M.cells s (x2 * x3 * x4) r5 else if x1 = 2 then M.words s (x2 * x3 * x4) r5 else ([], r5)).2) := by
  simp only [M.tensor, h1, h2, h3, h4, h5]

set_option maxHeartbeats 1600000 in
theorem tensor_c (b : Nat) (s : ByteArray) (r : M.RS) (w : World) (h : Rd w b s r) (hp : r.pos ≤ s.size) (hs : s.size ≤ 4096) :
    Calls Try.prog 76 #[.pointer (some ⟨b, 0, none⟩)] w fun e w' => ∃ t dv r', Hid (M.tensor s r = (t, r')) ∧ WfT t ∧ r'.pos ≤ s.size ∧ e = .returned (.agg (tval t dv)) ∧ Ints w' w.heap.size dv t.data ∧ Rd w' b s r' ∧ w.grownBy w' (some b) := by
  have I0 := LInv.start (T := 72) (z := t6 0 0 0 0 0 (.slice none 0 0)) h
  go_enter Try.func76, Try.ntmps76
  go_wp2_with fail
  refine (within_c b s r 0 3 _ I0.R hp (by omega) (by omega) (by omega) (by omega)).mono ?_
  rintro e w1 ⟨x1, r1, hx1, l1, u1, hp1, rfl, hR1, hg1⟩
  have I1 := I0.call hR1 hg1
  have a1 : w1.cell? ⟨w.heap.size + 1, 0, none⟩ = some (.int .i64 0) := I1.L.cell 0
  have b1 := I1.L.free 0
  clear hg1 hR1 I0
  go_wp2_with fail
  refine (plain_c b s r1 _ (I1.put 0 (.int .i64 x1)).R hp1 (by omega)).mono ?_
  rintro e w2 ⟨x2, r2, hx2, l2, u2, hp2, rfl, hR2, hg2⟩
  have I2 := (I1.put 0 (.int .i64 x1)).call hR2 hg2
  clear hg2 hR2 I1 a1 b1
  have a2 : w2.cell? ⟨w.heap.size + 1, 1, none⟩ = some (.int .i64 0) := I2.L.cell 1
  have b2 := I2.L.free 1
  go_wp2_with fail
  refine (plain_c b s r2 _ (I2.put 1 (.int .i64 x2)).R hp2 (by omega)).mono ?_
  rintro e w3 ⟨x3, r3, hx3, l3, u3, hp3, rfl, hR3, hg3⟩
  have I3 := (I2.put 1 (.int .i64 x2)).call hR3 hg3
  clear hg3 hR3 I2 a2 b2
  have a3 : w3.cell? ⟨w.heap.size + 1, 2, none⟩ = some (.int .i64 0) := I3.L.cell 2
  have b3 := I3.L.free 2
  go_wp2_with fail
  refine (plain_c b s r3 _ (I3.put 2 (.int .i64 x3)).R hp3 (by omega)).mono ?_
  rintro e w4 ⟨x4, r4, hx4, l4, u4, hp4, rfl, hR4, hg4⟩
  have I4 := (I3.put 2 (.int .i64 x3)).call hR4 hg4
  clear hg4 hR4 I3 a3 b3
  have a4 : w4.cell? ⟨w.heap.size + 1, 3, none⟩ = some (.int .i64 0) := I4.L.cell 3
  have b4 := I4.L.free 3
  go_wp2_with fail
  refine (signed_c b s r4 _ (I4.put 3 (.int .i64 x4)).R hp4 (by omega)).mono ?_
  rintro e w5 ⟨x5, r5, hx5, l5, u5, hp5, rfl, hR5, hg5⟩
  have I5 := (I4.put 3 (.int .i64 x4)).call hR5 hg5
  clear hg5 hR5 I4 a4 b4
  have I5' : LInv 72 _ w (w5.setCell ⟨w.heap.size + 1, 4, none⟩ (.int .i64 x5)) b s r5 (t6 x1 x2 x3 x4 x5 (.slice none 0 0)) := I5.put 4 (.int .i64 x5)
  have a5 : w5.cell? ⟨w.heap.size + 1, 4, none⟩ = some (.int .i64 0) := I5.L.cell 4
  have b5 := I5.L.free 4
  have d0 : w5.cell? ⟨w.heap.size + 1, 0, none⟩ = some (.int .i64 x1) := I5.L.cell 0
  have d1 : w5.cell? ⟨w.heap.size + 1, 1, none⟩ = some (.int .i64 x2) := I5.L.cell 1
  have d2 : w5.cell? ⟨w.heap.size + 1, 2, none⟩ = some (.int .i64 x3) := I5.L.cell 2
  have d3 : w5.cell? ⟨w.heap.size + 1, 3, none⟩ = some (.int .i64 x4) := I5.L.cell 3
  have d5 : w5.cell? ⟨w.heap.size + 1, 5, none⟩ = some (.slice none 0 0) := I5.L.cell 5
  go_wp2_with fail
  refine (cellsOf_c x1 x2 x3 x4 x5 _ _ l2 u2 l3 u3 l4 u4).mono ?_
  rintro e w6 ⟨rfl, hg6⟩
  have I6 := I5'.call0 hg6
  clear hg6 I5 I5' a5 b5 d0 d1 d2 d3 d5
  obtain ⟨m0, m1, n0, n1⟩ := mul3 l2 u2 l3 u3 l4 u4
  have HT := hide (tensor_eq hx1.out hx2.out hx3.out hx4.out hx5.out)
  have wf : ∀ l, WfT ⟨x1, x2, x3, x4, x5, l⟩ := fun l => ⟨l1, u1, l2, u2, l3, u3, l4, u4, l5, u5⟩
  clear hx1 hx2 hx3 hx4 hx5
  generalize x2 * x3 * x4 = n at *
  obtain ⟨n, rfl⟩ := Int.eq_ofNat_of_zero_le n0
  have d0 : w6.cell? ⟨w.heap.size + 1, 0, none⟩ = some (.int .i64 x1) := I6.L.cell 0
  have d1 : w6.cell? ⟨w.heap.size + 1, 1, none⟩ = some (.int .i64 x2) := I6.L.cell 1
  have d2 : w6.cell? ⟨w.heap.size + 1, 2, none⟩ = some (.int .i64 x3) := I6.L.cell 2
  have d3 : w6.cell? ⟨w.heap.size + 1, 3, none⟩ = some (.int .i64 x4) := I6.L.cell 3
  have d4 : w6.cell? ⟨w.heap.size + 1, 4, none⟩ = some (.int .i64 x5) := I6.L.cell 4
  have d5 : w6.cell? ⟨w.heap.size + 1, 5, none⟩ = some (.slice none 0 0) := I6.L.cell 5
  by_cases k1 : x1 = 1
  · subst k1
    have hB6 := I6.L.lt
    go_wp2_with fail
    refine (cells_s b s r5 n w6 I6.R hp5 hs (by omega)).mono ?_
    rintro e w7 ⟨ao, m, cp, l, r7, hx7, hp7, rfl, hI7, hR7, hg7⟩
    have I7 := I6.call hR7 hg7
    have hsz := I6.g.size
    clear hg7 hR7 I6 d0 d1 d2 d3 d4 d5
    obtain ⟨d0, d1, d2, d3, d4, d5⟩ := cells6 I7.L
    obtain ⟨g0, g1, g2, g3, g4, g5⟩ := cells6 I7.G
    obtain ⟨f0, f1, f2, f3, f4, f5⟩ := free6 I7.G
    have fL := I7.L.free 5
    go_wp2
    have I8 := I7.put 5 (.slice ao m cp)
    obtain ⟨hRf, hgf, hBf⟩ := fin6 I8 (.int .i64 1) (.int .i64 x2) (.int .i64 x3) (.int .i64 x4) (.int .i64 x5) (.slice ao m cp)
    have hbb := I7.hb
    refine bodyPost_ret (ret6 hBf _ rfl) rfl ?_
    refine ⟨⟨1, x2, x3, x4, x5, l⟩, _, r7, ?_, wf l, hp7, rfl, ?_, hRf, gr_new I8.g hgf (Nat.le_refl _)⟩
    · have e := HT.out; rw [e]; simp [Hid, hx7.out]
    · have hs2 : w.heap.size + 1 < w6.heap.size := Nat.lt_of_succ_le (by have := hB6; omega)
      exact ((hI7.kept (gr_set _ _ _ _) hs2).kept hgf (by omega)).mono hsz
  · by_cases k2 : x1 = 2
    · subst k2
      have hB6 := I6.L.lt
      go_wp2_with fail
      refine (words_s b s r5 n w6 I6.R hp5 hs (by omega)).mono ?_
      rintro e w7 ⟨ao, m, cp, l, r7, hx7, hp7, rfl, hI7, hR7, hg7⟩
      have I7 := I6.call hR7 hg7
      have hsz := I6.g.size
      clear hg7 hR7 I6 d0 d1 d2 d3 d4 d5
      obtain ⟨d0, d1, d2, d3, d4, d5⟩ := cells6 I7.L
      obtain ⟨g0, g1, g2, g3, g4, g5⟩ := cells6 I7.G
      obtain ⟨f0, f1, f2, f3, f4, f5⟩ := free6 I7.G
      have fL := I7.L.free 5
      go_wp2
      have I8 := I7.put 5 (.slice ao m cp)
      obtain ⟨hRf, hgf, hBf⟩ := fin6 I8 (.int .i64 2) (.int .i64 x2) (.int .i64 x3) (.int .i64 x4) (.int .i64 x5) (.slice ao m cp)
      have hbb := I7.hb
      refine bodyPost_ret (ret6 hBf _ rfl) rfl ?_
      refine ⟨⟨2, x2, x3, x4, x5, l⟩, _, r7, ?_, wf l, hp7, rfl, ?_, hRf, gr_new I8.g hgf (Nat.le_refl _)⟩
      · have e := HT.out; rw [e]; simp [Hid, hx7.out]
      · have hs2 : w.heap.size + 1 < w6.heap.size := Nat.lt_of_succ_le (by have := hB6; omega)
        exact ((hI7.kept (gr_set _ _ _ _) hs2).kept hgf (by omega)).mono hsz
    · have hn1 : (x1 == 1) = false := by simp [k1]
      have hn2 : (x1 == 2) = false := by simp [k2]
      have k1' := hide k1
      have k2' := hide k2
      clear k1 k2
      obtain ⟨g0, g1, g2, g3, g4, g5⟩ := cells6 I6.G
      obtain ⟨f0, f1, f2, f3, f4, f5⟩ := free6 I6.G
      go_wp2
      obtain ⟨hRf, hgf, hBf⟩ := fin6 I6 (.int .i64 x1) (.int .i64 x2) (.int .i64 x3) (.int .i64 x4) (.int .i64 x5) (.slice none 0 0)
      refine bodyPost_ret (ret6 hBf _ rfl) rfl ?_
      refine ⟨⟨x1, x2, x3, x4, x5, []⟩, _, r5, ?_, wf _, hp5, rfl, Ints.nil _ _, hRf, gr_new I6.g hgf (Nat.le_refl _)⟩
      have e := HT.out; rw [e]; simp [Hid, k1'.out, k2'.out]

end Go.Proofs.Ythfbllgbljimiaa
