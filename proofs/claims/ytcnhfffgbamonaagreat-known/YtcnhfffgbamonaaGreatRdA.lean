import Derived.Test.YtcnhfffgbamonaaGreatBase
/-
  The reader's first calls: plain, within, signed, word, has, skipHead.
-/
namespace Go.Proofs.YtcnhfffgbamonaaGreat
open Go.RowKit

/-- Block b is the reader of s, in the state r. -/
def Rd (w : World) (b : Nat) (s : ByteArray) (r : M.RS) : Prop := Blk w b 187 #[.string s, .int .i64 r.pos, .bool r.bad]

theorem Rd.cells {w : World} {b : Nat} {s : ByteArray} {r : M.RS} (h : Rd w b s r) :
    w.cell? ⟨b, 0, none⟩ = some (.string s) ∧ w.cell? ⟨b, 1, none⟩ = some (.int .i64 r.pos) ∧ w.cell? ⟨b, 2, none⟩ = some (.bool r.bad) ∧ w.frozen? ⟨b, 1, none⟩ = false ∧ w.frozen? ⟨b, 2, none⟩ = false :=
  ⟨Blk.cell h 0, Blk.cell h 1, Blk.cell h 2, Blk.free h 1, Blk.free h 2⟩


theorem Rd.bad {w : World} {b : Nat} {s : ByteArray} {p : Nat} {q : Bool} (h : Rd w b s ⟨p, q⟩) (n : Nat) : Rd ((w.drewN n).setCell ⟨b, 2, none⟩ (.bool true)) b s ⟨p, true⟩ ∧ w.grownBy ((w.drewN n).setCell ⟨b, 2, none⟩ (.bool true)) (some b) :=
  ⟨Blk.set (Blk.drewN h n) 2 _, gr_trans (gr_drewN w n _) (gr_set _ _ _ _)⟩

theorem bt_get (s : ByteArray) (p : Nat) (hp : p < s.size) : M.bt s p = (s[p].toNat : Int) := by
  unfold M.bt
  have h : s.data.toList.getD p 0 = s[p] := by
    have h1 : s.data.toList[p]? = some s[p] := by
      rw [List.getElem?_eq_getElem (by simpa using hp)]; rfl
    rw [List.getD_eq_getElem?_getD, h1]; rfl
  rw [h]

theorem wrap_byte (c : UInt8) : wrap64 (c.toNat : Int) = (c.toNat : Int) := by
  have := c.toNat_lt
  unfold wrap64; omega

set_option maxHeartbeats 400000 in
theorem plain_bad (b : Nat) (s : ByteArray) (p : Nat) (w : World) (h : Rd w b s ⟨p, true⟩) :
    Calls Tryz.prog 161 #[.pointer (some ⟨b, 0, none⟩)] w fun e w' => e = .returned (.int .i64 0) ∧ Rd w' b s ⟨p, true⟩ ∧ w.grownBy w' (some b) := by
  have H : Hid (Rd w b s ⟨p, true⟩) := h
  obtain ⟨c0, c1, c2, f1, f2⟩ := h.cells
  clear h
  go_enter Tryz.func161, Tryz.ntmps161
  go_wp2
  go_quiet (fail)
  go_wp2
  go_ret
  exact ⟨rfl, H.out.bad _⟩

set_option maxHeartbeats 400000 in
theorem plain_end (b : Nat) (s : ByteArray) (p : Nat) (w : World) (h : Rd w b s ⟨p, false⟩) (hp : s.size ≤ p) (_hs : s.size ≤ 140737488351232) (_hq : p ≤ s.size) :
    Calls Tryz.prog 161 #[.pointer (some ⟨b, 0, none⟩)] w fun e w' => e = .returned (.int .i64 0) ∧ Rd w' b s ⟨p, true⟩ ∧ w.grownBy w' (some b) := by
  have H : Hid (Rd w b s ⟨p, false⟩) := h
  obtain ⟨c0, c1, c2, f1, f2⟩ := h.cells
  clear h
  have hd : decide ((s.size : Int) ≤ (p : Int)) = true := by simp; omega
  go_enter Tryz.func161, Tryz.ntmps161
  go_wp2
  go_quiet (fail)
  go_wp2
  go_ret
  exact ⟨rfl, H.out.bad _⟩

set_option maxHeartbeats 400000 in
theorem plain_go (b : Nat) (s : ByteArray) (p : Nat) (w : World) (h : Rd w b s ⟨p, false⟩) (hp : p < s.size) (hs : s.size ≤ 140737488351232) :
    Calls Tryz.prog 161 #[.pointer (some ⟨b, 0, none⟩)] w fun e w' => e = .returned (.int .i64 (M.bt s p)) ∧ Rd w' b s ⟨p + 1, false⟩ ∧ w.grownBy w' (some b) := by
  have H : Hid (Rd w b s ⟨p, false⟩) := h
  obtain ⟨c0, c1, c2, f1, f2⟩ := h.cells
  clear h
  have hd : decide ((s.size : Int) ≤ (p : Int)) = false := by simp; omega
  go_enter Tryz.func161, Tryz.ntmps161
  go_wp2
  go_quiet (fail)
  go_wp2
  go_quiet (fail)
  go_wp2
  go_ret
  exact ⟨ret_int (by rw [wrap_byte, bt_get s p hp]), (Blk.set (Blk.drewN H.out _) 1 _ : Blk _ _ _ _), gr_trans (gr_drewN w _ _) (gr_set _ _ _ _)⟩

theorem plain_le (s : ByteArray) (r : M.RS) (hp : r.pos ≤ s.size) : (M.plain s r).2.pos ≤ s.size ∧ 0 ≤ (M.plain s r).1 ∧ (M.plain s r).1 ≤ 255 := by
  unfold M.plain
  split
  · exact ⟨hp, by omega, by omega⟩
  · rename_i h
    simp only [Bool.or_eq_true, decide_eq_true_eq, not_or] at h
    refine ⟨by simp; omega, ?_, ?_⟩
    · simp [M.bt]
    · simp only [M.bt]; have := (s.data.toList.getD r.pos 0).toNat_lt; omega

/-- plain, by its contract. -/
theorem plain_c (b : Nat) (s : ByteArray) (r : M.RS) (w : World) (h : Rd w b s r) (hp : r.pos ≤ s.size) (hs : s.size ≤ 140737488351232) :
    Calls Tryz.prog 161 #[.pointer (some ⟨b, 0, none⟩)] w fun e w' => ∃ x r', Hid (M.plain s r = (x, r')) ∧ 0 ≤ x ∧ x ≤ 255 ∧ r'.pos ≤ s.size ∧ e = .returned (.int .i64 x) ∧ Rd w' b s r' ∧ w.grownBy w' (some b) := by
  have hl := plain_le s r hp
  suffices hx : Calls Tryz.prog 161 #[.pointer (some ⟨b, 0, none⟩)] w fun e w' => e = .returned (.int .i64 (M.plain s r).1) ∧ Rd w' b s (M.plain s r).2 ∧ w.grownBy w' (some b) from
    hx.mono fun e w' ⟨h1, h2, h3⟩ => ⟨_, _, rfl, hl.2.1, hl.2.2, hl.1, h1, h2, h3⟩
  obtain ⟨p, q⟩ := r
  cases q with
  | true =>
    have e : M.plain s ⟨p, true⟩ = (0, ⟨p, true⟩) := by simp [M.plain]
    rw [e]; exact plain_bad b s p w h
  | false =>
    by_cases hlt : p < s.size
    · have e : M.plain s ⟨p, false⟩ = (M.bt s p, ⟨p + 1, false⟩) := by simp [M.plain]; omega
      rw [e]; exact plain_go b s p w h hlt hs
    · have e : M.plain s ⟨p, false⟩ = (0, ⟨p, true⟩) := by simp [M.plain]; omega
      rw [e]; exact plain_end b s p w h (by omega) hs hp

set_option maxHeartbeats 400000 in
theorem signed_c (b : Nat) (s : ByteArray) (r : M.RS) (w : World) (h : Rd w b s r) (hp : r.pos ≤ s.size) (hs : s.size ≤ 140737488351232) :
    Calls Tryz.prog 182 #[.pointer (some ⟨b, 0, none⟩)] w fun e w' => ∃ x r', Hid (M.signed s r = (x, r')) ∧ -128 ≤ x ∧ x ≤ 127 ∧ r'.pos ≤ s.size ∧ e = .returned (.int .i64 x) ∧ Rd w' b s r' ∧ w.grownBy w' (some b) := by
  go_enter Tryz.func182, Tryz.ntmps182
  go_wp2_with fail
  refine (plain_c b s r _ h hp hs).mono ?_
  rintro e w1 ⟨x, r1, hx, h0, h1, hp1, rfl, hR, hg⟩
  by_cases hc : 127 < x
  · go_wp2
    go_ret
    exact ⟨_, _, by simp only [Hid, M.signed, hx.out, if_pos hc], by omega, by omega, hp1, rfl, hR, hg⟩
  · go_wp2
    go_ret
    exact ⟨_, _, by simp only [Hid, M.signed, hx.out, if_neg (Int.not_lt.2 hc)], by omega, by omega, hp1, rfl, hR, hg⟩

set_option maxHeartbeats 400000 in
theorem within_c (b : Nat) (s : ByteArray) (r : M.RS) (lo hi : Int) (w : World) (h : Rd w b s r) (hp : r.pos ≤ s.size) (hs : s.size ≤ 140737488351232) (_hl : 0 ≤ lo) (_hh : lo ≤ hi) (_h2 : hi ≤ 255):
    Calls Tryz.prog 181 #[.pointer (some ⟨b, 0, none⟩), .int .i64 lo, .int .i64 hi] w fun e w' => ∃ x r', Hid (M.within s lo hi r = (x, r')) ∧ 0 ≤ x ∧ x ≤ hi ∧ r'.pos ≤ s.size ∧ e = .returned (.int .i64 x) ∧ Rd w' b s r' ∧ w.grownBy w' (some b) := by
  go_enter Tryz.func181, Tryz.ntmps181
  go_wp2_with fail
  refine (plain_c b s r _ h hp hs).mono ?_
  rintro e w1 ⟨x, r1, hx, h0, h1, hp1, rfl, hR, hg⟩
  obtain ⟨c0, c1, c2, f1, f2⟩ := hR.cells
  by_cases hc : x < lo
  · go_wp2
    go_ret
    refine ⟨0, ⟨r1.pos, true⟩, by simp [Hid, M.within, hx.out, hc], by omega, by omega, hp1, rfl, ?_⟩
    exact ⟨Blk.set hR 2 _, gr_trans hg (gr_set _ _ _ _)⟩
  · by_cases hd : hi < x
    · go_wp2
      go_ret
      refine ⟨0, ⟨r1.pos, true⟩, by simp [Hid, M.within, hx.out, hd], by omega, by omega, hp1, rfl, ?_⟩
      exact ⟨Blk.set hR 2 _, gr_trans hg (gr_set _ _ _ _)⟩
    · go_wp2
      go_ret
      exact ⟨x, r1, by simp only [Hid, M.within, hx.out]; rw [if_neg (by simp; omega)], by omega, by omega, hp1, rfl, hR, hg⟩

set_option maxHeartbeats 400000 in
theorem word_c (b : Nat) (s : ByteArray) (r : M.RS) (w : World) (h : Rd w b s r) (hp : r.pos ≤ s.size) (hs : s.size ≤ 140737488351232) :
    Calls Tryz.prog 193 #[.pointer (some ⟨b, 0, none⟩)] w fun e w' => ∃ x r', Hid (M.word s r = (x, r')) ∧ -2147483648 ≤ x ∧ x ≤ 2147483647 ∧ r'.pos ≤ s.size ∧ e = .returned (.int .i64 x) ∧ Rd w' b s r' ∧ w.grownBy w' (some b) := by
  go_enter Tryz.func193, Tryz.ntmps193
  go_wp2_with fail
  refine (plain_c b s r _ h hp hs).mono ?_
  rintro e w1 ⟨x1, r1, hx1, l1, u1, hp1, rfl, hR1, hg1⟩
  go_wp2_with fail
  refine (plain_c b s r1 _ hR1 hp1 hs).mono ?_
  rintro e w2 ⟨x2, r2, hx2, l2, u2, hp2, rfl, hR2, hg2⟩
  go_wp2_with fail
  refine (plain_c b s r2 _ hR2 hp2 hs).mono ?_
  rintro e w3 ⟨x3, r3, hx3, l3, u3, hp3, rfl, hR3, hg3⟩
  go_wp2_with fail
  refine (signed_c b s r3 _ hR3 hp3 hs).mono ?_
  rintro e w4 ⟨x4, r4, hx4, l4, u4, hp4, rfl, hR4, hg4⟩
  go_wp2
  go_ret
  exact ⟨_, _, by simp only [Hid, M.word, hx1.out, hx2.out, hx3.out, hx4.out], by omega, by omega, hp4, rfl, hR4, gr_trans hg1 (gr_trans hg2 (gr_trans hg3 hg4))⟩

theorem has_yes {s : ByteArray} {n : Int} {r : M.RS} (h : (s.size : Int) - r.pos < n) : M.has s n r = (false, ⟨r.pos, true⟩) := by simp [M.has, h]
theorem has_no {s : ByteArray} {n : Int} {r : M.RS} (h : n ≤ (s.size : Int) - r.pos) : M.has s n r = (!r.bad, r) := by unfold M.has; rw [if_neg (by omega)]

set_option maxHeartbeats 400000 in
theorem has_c (b : Nat) (s : ByteArray) (r : M.RS) (n : Int) (w : World) (h : Rd w b s r) (hp : r.pos ≤ s.size) (_hs : s.size ≤ 140737488351232) (_h0 : 0 ≤ n) (_h1 : n ≤ 140737488351232) :
    Calls Tryz.prog 164 #[.pointer (some ⟨b, 0, none⟩), .int .i64 n] w fun e w' => ∃ x r', Hid (M.has s n r = (x, r')) ∧ r'.pos ≤ s.size ∧ e = .returned (.bool x) ∧ Rd w' b s r' ∧ w.grownBy w' (some b) := by
  obtain ⟨c0, c1, c2, f1, f2⟩ := h.cells
  have H : Hid (Rd w b s r) := h
  clear h
  by_cases hc : (s.size : Int) - r.pos < n
  · have hc' : decide ((s.size : Int) - (r.pos : Int) < n) = true := by simpa using hc
    go_enter Tryz.func164, Tryz.ntmps164
    go_wp2
    go_quiet (fail)
    go_wp2
    go_ret
    exact ⟨_, _, has_yes hc, hp, rfl, Blk.set (Blk.drewN H.out _) 2 _, gr_trans (gr_drewN w _ _) (gr_set _ _ _ _)⟩
  · have hc' : decide ((s.size : Int) - (r.pos : Int) < n) = false := by simpa using hc
    go_enter Tryz.func164, Tryz.ntmps164
    go_wp2
    go_quiet (fail)
    go_wp2
    go_ret
    exact ⟨_, _, has_no (by omega), hp, rfl, Blk.drewN H.out _, gr_drewN w _ _⟩

end Go.Proofs.YtcnhfffgbamonaaGreat

/-
  The reader's lists of numbers: cells, words, outs.
-/
namespace Go.Proofs.YtcnhfffgbamonaaGreat
open Go.RowKit

theorem Tryz.info3 : (Tryz.prog.info? 3).map (fun i => (i.zero, i.size, i.bytes)) = some (some (.int .i64 0), 1, 8) := by kernel_rfl

/-- v is a slice of the numbers xs, in a block from base on. -/
def Ints (w : World) (base : Nat) (v : Value) (xs : List Int) : Prop := w.ownsRow base 3 1 v xs.length (xs.map (Value.int .i64))

theorem Ints.mono {w : World} {base base' : Nat} {v : Value} {xs : List Int} (h : Ints w base v xs) (hb : base' ≤ base) : Ints w base' v xs := by
  refine ⟨h.1, ?_⟩
  rcases h.2 with h2 | ⟨g, cap, cur, h1, h2, h3⟩
  · exact .inl h2
  · exact .inr ⟨g, cap, cur, h1, Nat.le_trans hb h2, h3⟩

theorem Ints.nil (w : World) (base : Nat) : Ints w base (.slice none 0 0) [] := World.ownsRow_nil _ _ _ _

theorem Ints.kept {w w' : World} {base b : Nat} {v : Value} {xs : List Int} (h : Ints w base v xs) (hg : w.grownBy w' (some b)) (hb : b < base) : Ints w' base v xs := by
  refine World.ownsRow.kept h hg ?_
  cases hv : v.ownBlock with
  | none => exact .inl rfl
  | some g => exact .inr (by have := (World.ownsRow.lt h g hv).1; intro e; injection e with e; omega)

theorem Ints.kept0 {w w' : World} {base : Nat} {v : Value} {xs : List Int} (h : Ints w base v xs) (hg : w.grownBy w' none) : Ints w' base v xs := by
  refine World.ownsRow.kept h hg ?_
  cases hv : v.ownBlock with
  | none => exact .inl rfl
  | some g => exact .inr (by simp)

theorem Ints.of_blk {w : World} {base g n : Nat} {xs : List Int} (hb : base ≤ g) (hn : xs.length = n) (hm : n ≤ maxLen) (h : Blk w g 3 (xs.map (Value.int .i64)).toArray) : Ints w base (.slice (some ⟨g, 0, none⟩) n n) xs := by
  subst hn
  exact ⟨by simp, .inr ⟨g, _, _, rfl, hb, h, Nat.le_refl _, hm, by simp, List.take_of_length_le (by simp)⟩⟩

theorem has_true {s : ByteArray} {n : Int} {r r' : M.RS} (h : M.has s n r = (true, r')) : n ≤ (s.size : Int) - r.pos ∧ r' = r := by
  unfold M.has at h
  split at h
  · simp at h
  · simp only [Prod.mk.injEq] at h; exact ⟨by omega, h.2.symm⟩

/-- What stands in the row behind k rounds. -/
def half (f : M.RS → Int × M.RS) (n k : Nat) (r : M.RS) : Array Value := (((M.rep f k r).1 ++ List.replicate (n - k) 0).map (Value.int .i64)).toArray

theorem rep_len {α : Type} (f : M.RS → α × M.RS) (k : Nat) (r : M.RS) : (M.rep f k r).1.length = k := by
  induction k with
  | zero => rfl
  | succ k ih => simp [M.rep, ih]

theorem half_set (f : M.RS → Int × M.RS) (n k : Nat) (r : M.RS) (h : k < n) (x : Int) (hx : (f (M.rep f k r).2).1 = x) : (half f n k r).setIfInBounds k (.int .i64 x) = half f n (k + 1) r := by
  have hl := rep_len f k r
  have e : n - k = (n - (k + 1)) + 1 := by omega
  unfold half
  rw [e, List.replicate_succ]
  apply Array.toList_inj.1
  rw [Array.toList_setIfInBounds]
  simp only [M.rep, List.map_append, List.map_cons, List.map_nil, List.append_assoc, hx]
  rw [List.set_append_right _ _ (by simp [hl])]
  simp [hl]

theorem half_size (f : M.RS → Int × M.RS) (n k : Nat) (r : M.RS) (h : k ≤ n) : (half f n k r).size = n := by
  have hl := rep_len f k r
  simp [half, hl]; omega

theorem half_get (f : M.RS → Int × M.RS) (n k j : Nat) (r : M.RS) (h : k ≤ n) (hj : j < n) : ∃ x, (half f n k r)[j]? = some (.int .i64 x) := by
  have hl := rep_len f k r
  have hz := half_size f n k r h
  rw [Array.getElem?_eq_getElem (by omega)]
  unfold half
  rw [List.getElem_toArray, List.getElem_map]
  exact ⟨_, rfl⟩

theorem half_zero (f : M.RS → Int × M.RS) (n : Nat) (r : M.RS) : half f n 0 r = (List.replicate n (Value.int .i64 0)).toArray := by simp [half, M.rep]
theorem half_full (f : M.RS → Int × M.RS) (n : Nat) (r : M.RS) : half f n n r = ((M.rep f n r).1.map (Value.int .i64)).toArray := by simp [half]

/-- What a make of n numbers lays. -/
theorem made_blk {w : World} {base g n : Nat} (h : w.ownsRow base 3 1 (.slice (some ⟨g, 0, none⟩) n n) n (madeCells #[Value.int .i64 0] n).toList) : Blk w g 3 (List.replicate n (Value.int .i64 0)).toArray := by
  rcases h.2 with ⟨h', _⟩ | ⟨g', cap', cur, h', _, hg, _, _, hz, ht⟩
  · simp at h'
  · simp only [Value.slice.injEq, Option.some.injEq, Addr.mk.injEq, and_true, true_and] at h'
    obtain ⟨rfl, rfl⟩ := h'
    unfold Blk
    rw [hg]
    have e : cur.toList = List.replicate n (Value.int .i64 0) := by
      rw [List.take_of_length_le (by simp [hz])] at ht
      rw [ht]
      exact toList_madeCells_one _ _
    rw [← e]

theorem signed_pos (s : ByteArray) (r : M.RS) (h : r.pos ≤ s.size) : (M.signed s r).2.pos ≤ s.size := (plain_le s r h).1
theorem plain_pos (s : ByteArray) (r : M.RS) (h : r.pos ≤ s.size) : (M.plain s r).2.pos ≤ s.size := (plain_le s r h).1
theorem word_pos (s : ByteArray) (r : M.RS) (h : r.pos ≤ s.size) : (M.word s r).2.pos ≤ s.size :=
  signed_pos s _ (plain_le s _ (plain_le s _ (plain_le s r h).1).1).1

theorem rep_pos {α : Type} {f : M.RS → α × M.RS} {s : ByteArray} (hf : ∀ r, r.pos ≤ s.size → (f r).2.pos ≤ s.size) (k : Nat) (r : M.RS) (h : r.pos ≤ s.size) : (M.rep f k r).2.pos ≤ s.size := by
  induction k with
  | zero => exact h
  | succ k ih => exact hf _ ih

set_option maxHeartbeats 400000 in
theorem cells_c (b : Nat) (s : ByteArray) (r : M.RS) (n : Nat) (w : World) (h : Rd w b s r) (hp : r.pos ≤ s.size) (hs : s.size ≤ 4096) (hn : n ≤ 16777216) :
    Calls Tryz.prog 183 #[.pointer (some ⟨b, 0, none⟩), .int .i64 n] w fun e w' => ∃ v l r', Hid (M.cells s n r = (l, r')) ∧ r'.pos ≤ s.size ∧ e = .returned v ∧ Ints w' w.heap.size v l ∧ Rd w' b s r' ∧ w.grownBy w' (some b) := by
  obtain ⟨i0, hi, hz0, hz1, hz2⟩ := info_parts Tryz.info3
  have hbl := h.lt
  go_enter Tryz.func183, Tryz.ntmps183
  go_wp2_with fail
  refine (has_c b s r n _ h hp (by omega) (by omega) (by omega)).mono ?_
  rintro e w1 ⟨x, r1, hx, hp1, rfl, hR1, hg1⟩
  cases x with
  | false =>
    go_wp2
    go_ret
    exact ⟨_, [], r1, by simp [Hid, M.cells, hx.out], hp1, rfl, Ints.nil _ _, hR1, hg1⟩
  | true =>
    have hle := has_true hx.out
    obtain ⟨hle, rfl⟩ := hle
    go_wp2_with (at_make; refine wpList_make_full _ rfl _ _ 33 rfl w1.heap.size 3 i0 (.int .i64 0) 1 Tryz.underlying33 hi hz0 hz1 _ _ _ _ n rfl rfl rfl rfl ?c1 ?c2 ?c3 ?_)
    case c1 => rw [hz2]; omega
    case c2 => unfold maxLen; omega
    case c3 => exact Nat.le_refl _
    intro w2 hown hg2
    have hB := made_blk hown
    have hR2 : Rd w2 b s r1 := Blk.kept hR1 hg2 (by simp)
    have hgw : w.grownBy w2 (some b) := gr_trans hg1 (gr_none hg2)
    have hsz : w.heap.size ≤ w1.heap.size := hg1.size
    have hbl2 : b < w1.heap.size := Nat.lt_of_lt_of_le hbl hsz
    rw [← half_zero (M.signed s) n r1] at hB
    clear hown
    go_wp2
    go_loopw [15] (fun i wr => ∃ k : Nat, k ≤ n ∧ i = .int .i64 k ∧ Rd wr b s (M.rep (M.signed s) k r1).2 ∧ Blk wr w1.heap.size 3 (half (M.signed s) n k r1) ∧ w.grownBy wr (some b)) (fun i _ => n - (intOf i).toNat)
    case atStart => exact ⟨0, Nat.zero_le _, rfl, hR2, hB, hgw⟩
    case round =>
      obtain ⟨k, hk, rfl, hRk, hBk, hgk⟩ := hrel
      have hpk : (M.rep (M.signed s) k r1).2.pos ≤ s.size := rep_pos (fun r hr => (signed_pos s r hr)) k r1 hp1
      by_cases hlt : k < n
      · have hst := fun x hx => half_set (M.signed s) n k r1 hlt x hx
        generalize hrk : (M.rep (M.signed s) k r1).2 = rk at *
        have HST := hide hst
        have Hrk := hide hrk
        clear hst hrk
        go_wp2_with fail
        refine (signed_c b s rk _ hRk hpk (by omega)).mono ?_
        rintro e w3 ⟨x, r3, hx3, l3, u3, hp3, rfl, hR3, hg3⟩
        have hB3 : Blk w3 w1.heap.size 3 (half (M.signed s) n k r1) := hBk.kept hg3 (by simp; omega)
        obtain ⟨y, hy⟩ := half_get (M.signed s) n k k r1 hk hlt
        have hc := hB3.cell k
        rw [hy] at hc
        have hf := hB3.free k
        go_wp2
        go_roundw
        case rel =>
          refine ⟨k + 1, by omega, by go_num, ?_, ?_, ?_⟩
          · have e : (M.rep (M.signed s) (k + 1) r1).2 = r3 := by simp only [M.rep]; rw [unhide Hrk, hx3.out]
            rw [e]; exact Blk.other hR3 (by simp; omega) _
          · rw [← unhide HST x (by rw [hx3.out])]; exact Blk.set hB3 k _
          · exact gr_new (gr_trans hgk hg3) (gr_set _ _ _ _) hsz
        case measure => simp [intOf]; omega
      · obtain rfl : k = n := by omega
        go_wp2
        go_ret
        refine ⟨_, _, _, by simp only [Hid, M.cells, hx.out]; rfl, by simpa using hpk, rfl, ?_, by simpa using hRk, hgk⟩
        rw [half_full] at hBk
        exact Ints.of_blk hsz (by simp [rep_len]) (by unfold maxLen; omega) (by simpa using hBk)

set_option maxHeartbeats 400000 in
theorem words_c (b : Nat) (s : ByteArray) (r : M.RS) (n : Nat) (w : World) (h : Rd w b s r) (hp : r.pos ≤ s.size) (hs : s.size ≤ 4096) (hn : n ≤ 16777216) :
    Calls Tryz.prog 184 #[.pointer (some ⟨b, 0, none⟩), .int .i64 n] w fun e w' => ∃ v l r', Hid (M.words s n r = (l, r')) ∧ r'.pos ≤ s.size ∧ e = .returned v ∧ Ints w' w.heap.size v l ∧ Rd w' b s r' ∧ w.grownBy w' (some b) := by
  obtain ⟨i0, hi, hz0, hz1, hz2⟩ := info_parts Tryz.info3
  have hbl := h.lt
  go_enter Tryz.func184, Tryz.ntmps184
  go_wp2_with fail
  refine (has_c b s r (4 * n) _ h hp (by omega) (by omega) (by omega)).mono ?_
  rintro e w1 ⟨x, r1, hx, hp1, rfl, hR1, hg1⟩
  cases x with
  | false =>
    go_wp2
    go_ret
    exact ⟨_, [], r1, by simp [Hid, M.words, hx.out], hp1, rfl, Ints.nil _ _, hR1, hg1⟩
  | true =>
    have hle := has_true hx.out
    obtain ⟨hle, rfl⟩ := hle
    go_wp2_with (at_make; refine wpList_make_full _ rfl _ _ 33 rfl w1.heap.size 3 i0 (.int .i64 0) 1 Tryz.underlying33 hi hz0 hz1 _ _ _ _ n rfl rfl rfl rfl ?c1 ?c2 ?c3 ?_)
    case c1 => rw [hz2]; omega
    case c2 => unfold maxLen; omega
    case c3 => exact Nat.le_refl _
    intro w2 hown hg2
    have hB := made_blk hown
    have hR2 : Rd w2 b s r1 := Blk.kept hR1 hg2 (by simp)
    have hgw : w.grownBy w2 (some b) := gr_trans hg1 (gr_none hg2)
    have hsz : w.heap.size ≤ w1.heap.size := hg1.size
    have hbl2 : b < w1.heap.size := Nat.lt_of_lt_of_le hbl hsz
    rw [← half_zero (M.word s) n r1] at hB
    clear hown
    go_wp2
    go_loopw [16] (fun i wr => ∃ k : Nat, k ≤ n ∧ i = .int .i64 k ∧ Rd wr b s (M.rep (M.word s) k r1).2 ∧ Blk wr w1.heap.size 3 (half (M.word s) n k r1) ∧ w.grownBy wr (some b)) (fun i _ => n - (intOf i).toNat)
    case atStart => exact ⟨0, Nat.zero_le _, rfl, hR2, hB, hgw⟩
    case round =>
      obtain ⟨k, hk, rfl, hRk, hBk, hgk⟩ := hrel
      have hpk : (M.rep (M.word s) k r1).2.pos ≤ s.size := rep_pos (fun r hr => (word_pos s r hr)) k r1 hp1
      by_cases hlt : k < n
      · have hst := fun x hx => half_set (M.word s) n k r1 hlt x hx
        generalize hrk : (M.rep (M.word s) k r1).2 = rk at *
        have HST := hide hst
        have Hrk := hide hrk
        clear hst hrk
        go_wp2_with fail
        refine (word_c b s rk _ hRk hpk (by omega)).mono ?_
        rintro e w3 ⟨x, r3, hx3, l3, u3, hp3, rfl, hR3, hg3⟩
        have hB3 : Blk w3 w1.heap.size 3 (half (M.word s) n k r1) := hBk.kept hg3 (by simp; omega)
        obtain ⟨y, hy⟩ := half_get (M.word s) n k k r1 hk hlt
        have hc := hB3.cell k
        rw [hy] at hc
        have hf := hB3.free k
        go_wp2
        go_roundw
        case rel =>
          refine ⟨k + 1, by omega, by go_num, ?_, ?_, ?_⟩
          · have e : (M.rep (M.word s) (k + 1) r1).2 = r3 := by simp only [M.rep]; rw [unhide Hrk, hx3.out]
            rw [e]; exact Blk.other hR3 (by simp; omega) _
          · rw [← unhide HST x (by rw [hx3.out])]; exact Blk.set hB3 k _
          · exact gr_new (gr_trans hgk hg3) (gr_set _ _ _ _) hsz
        case measure => simp [intOf]; omega
      · obtain rfl : k = n := by omega
        go_wp2
        go_ret
        refine ⟨_, _, _, by simp only [Hid, M.words, hx.out]; rfl, by simpa using hpk, rfl, ?_, by simpa using hRk, hgk⟩
        rw [half_full] at hBk
        exact Ints.of_blk hsz (by simp [rep_len]) (by unfold maxLen; omega) (by simpa using hBk)

set_option maxHeartbeats 400000 in
theorem outs_c (b : Nat) (s : ByteArray) (r : M.RS) (w : World) (h : Rd w b s r) (hp : r.pos ≤ s.size) (hs : s.size ≤ 4096) :
    Calls Tryz.prog 138 #[.pointer (some ⟨b, 0, none⟩)] w fun e w' => ∃ v l r', Hid (M.outs s r = (l, r')) ∧ r'.pos ≤ s.size ∧ e = .returned v ∧ Ints w' w.heap.size v l ∧ Rd w' b s r' ∧ w.grownBy w' (some b) := by
  obtain ⟨i0, hi, hz0, hz1, hz2⟩ := info_parts Tryz.info3
  have hbl := h.lt
  go_enter Tryz.func138, Tryz.ntmps138
  go_wp2_with fail
  refine (plain_c b s r _ h hp (by omega)).mono ?_
  rintro e w0 ⟨x0, r0, hx0, l0, u0, hp0, rfl, hR0, hg0⟩
  obtain ⟨n, rfl⟩ := Int.eq_ofNat_of_zero_le l0
  have hn : n ≤ 255 := by omega
  go_wp2_with fail
  refine (has_c b s r0 n _ hR0 hp0 (by omega) (by omega) (by omega)).mono ?_
  rintro e w1 ⟨x, r1, hx, hp1, rfl, hR1, hg01⟩
  have hg1 : w.grownBy w1 (some b) := gr_trans hg0 hg01
  cases x with
  | false =>
    go_wp2
    go_ret
    exact ⟨_, [], r1, by simp [Hid, M.outs, hx0.out, hx.out], hp1, rfl, Ints.nil _ _, hR1, hg1⟩
  | true =>
    have hle := has_true hx.out
    obtain ⟨hle, rfl⟩ := hle
    go_wp2_with (at_make; refine wpList_make_full _ rfl _ _ 33 rfl w1.heap.size 3 i0 (.int .i64 0) 1 Tryz.underlying33 hi hz0 hz1 _ _ _ _ n rfl rfl rfl rfl ?c1 ?c2 ?c3 ?_)
    case c1 => rw [hz2]; omega
    case c2 => unfold maxLen; omega
    case c3 => exact Nat.le_refl _
    intro w2 hown hg2
    have hB := made_blk hown
    have hR2 : Rd w2 b s r1 := Blk.kept hR1 hg2 (by simp)
    have hgw : w.grownBy w2 (some b) := gr_trans hg1 (gr_none hg2)
    have hsz : w.heap.size ≤ w1.heap.size := hg1.size
    have hbl2 : b < w1.heap.size := Nat.lt_of_lt_of_le hbl hsz
    rw [← half_zero (M.plain s) n r1] at hB
    clear hown
    go_wp2
    go_loopw [16] (fun i wr => ∃ k : Nat, k ≤ n ∧ i = .int .i64 k ∧ Rd wr b s (M.rep (M.plain s) k r1).2 ∧ Blk wr w1.heap.size 3 (half (M.plain s) n k r1) ∧ w.grownBy wr (some b)) (fun i _ => n - (intOf i).toNat)
    case atStart => exact ⟨0, Nat.zero_le _, rfl, hR2, hB, hgw⟩
    case round =>
      obtain ⟨k, hk, rfl, hRk, hBk, hgk⟩ := hrel
      have hpk : (M.rep (M.plain s) k r1).2.pos ≤ s.size := rep_pos (fun r hr => (plain_pos s r hr)) k r1 hp1
      by_cases hlt : k < n
      · have hst := fun x hx => half_set (M.plain s) n k r1 hlt x hx
        generalize hrk : (M.rep (M.plain s) k r1).2 = rk at *
        have HST := hide hst
        have Hrk := hide hrk
        clear hst hrk
        go_wp2_with fail
        refine (plain_c b s rk _ hRk hpk (by omega)).mono ?_
        rintro e w3 ⟨x, r3, hx3, l3, u3, hp3, rfl, hR3, hg3⟩
        have hB3 : Blk w3 w1.heap.size 3 (half (M.plain s) n k r1) := hBk.kept hg3 (by simp; omega)
        obtain ⟨y, hy⟩ := half_get (M.plain s) n k k r1 hk hlt
        have hc := hB3.cell k
        rw [hy] at hc
        have hf := hB3.free k
        go_wp2
        go_roundw
        case rel =>
          refine ⟨k + 1, by omega, by go_num, ?_, ?_, ?_⟩
          · have e : (M.rep (M.plain s) (k + 1) r1).2 = r3 := by simp only [M.rep]; rw [unhide Hrk, hx3.out]
            rw [e]; exact Blk.other hR3 (by simp; omega) _
          · rw [← unhide HST x (by rw [hx3.out])]; exact Blk.set hB3 k _
          · exact gr_new (gr_trans hgk hg3) (gr_set _ _ _ _) hsz
        case measure => simp [intOf]; omega
      · obtain rfl : k = n := by omega
        go_wp2
        go_ret
        refine ⟨_, _, _, by simp only [Hid, M.outs, hx0.out, hx.out, Int.toNat_natCast]; rfl, by simpa using hpk, rfl, ?_, by simpa using hRk, hgk⟩
        rw [half_full] at hBk
        exact Ints.of_blk hsz (by simp [rep_len]) (by unfold maxLen; omega) (by simpa using hBk)

theorem Ints.shape {w : World} {base : Nat} {v : Value} {xs : List Int} (h : Ints w base v xs) : ∃ ao m c, v = .slice ao m c := by
  rcases h.2 with ⟨rfl, _⟩ | ⟨g, cap, cur, rfl, _⟩
  · exact ⟨_, _, _, rfl⟩
  · exact ⟨_, _, _, rfl⟩

theorem cells_s (b : Nat) (s : ByteArray) (r : M.RS) (n : Nat) (w : World) (h : Rd w b s r) (hp : r.pos ≤ s.size) (hs : s.size ≤ 4096) (hn : n ≤ 16777216) :
    Calls Tryz.prog 183 #[.pointer (some ⟨b, 0, none⟩), .int .i64 n] w fun e w' => ∃ ao m c l r', Hid (M.cells s n r = (l, r')) ∧ r'.pos ≤ s.size ∧ e = .returned (.slice ao m c) ∧ Ints w' w.heap.size (.slice ao m c) l ∧ Rd w' b s r' ∧ w.grownBy w' (some b) :=
  (cells_c b s r n w h hp hs hn).mono fun e w' ⟨v, l, r', h1, h2, h3, h4, h5, h6⟩ => by
    obtain ⟨ao, m, c, rfl⟩ := h4.shape
    exact ⟨ao, m, c, l, r', h1, h2, h3, h4, h5, h6⟩

theorem words_s (b : Nat) (s : ByteArray) (r : M.RS) (n : Nat) (w : World) (h : Rd w b s r) (hp : r.pos ≤ s.size) (hs : s.size ≤ 4096) (hn : n ≤ 16777216) :
    Calls Tryz.prog 184 #[.pointer (some ⟨b, 0, none⟩), .int .i64 n] w fun e w' => ∃ ao m c l r', Hid (M.words s n r = (l, r')) ∧ r'.pos ≤ s.size ∧ e = .returned (.slice ao m c) ∧ Ints w' w.heap.size (.slice ao m c) l ∧ Rd w' b s r' ∧ w.grownBy w' (some b) :=
  (words_c b s r n w h hp hs hn).mono fun e w' ⟨v, l, r', h1, h2, h3, h4, h5, h6⟩ => by
    obtain ⟨ao, m, c, rfl⟩ := h4.shape
    exact ⟨ao, m, c, l, r', h1, h2, h3, h4, h5, h6⟩

end Go.Proofs.YtcnhfffgbamonaaGreat

/-
  The reader's tensors.
-/
namespace Go.Proofs.YtcnhfffgbamonaaGreat
open Go.RowKit

/-- A tensor as a value: its numbers, and the slice of its cells. -/
def tval (t : M.Tn) (dv : Value) : Array Value := #[.int .i64 t.kind, .int .i64 t.h, .int .i64 t.w, .int .i64 t.c, .int .i64 t.zero, dv]

structure WfT (t : M.Tn) : Prop where
  k0 : 0 ≤ t.kind
  k1 : t.kind ≤ 3
  h0 : 0 ≤ t.h
  h1 : t.h ≤ 255
  w0 : 0 ≤ t.w
  w1 : t.w ≤ 255
  c0 : 0 ≤ t.c
  c1 : t.c ≤ 255
  z0 : -128 ≤ t.zero
  z1 : t.zero ≤ 127

theorem mul3 {h w c : Int} (h0 : 0 ≤ h) (h1 : h ≤ 255) (w0 : 0 ≤ w) (w1 : w ≤ 255) (c0 : 0 ≤ c) (c1 : c ≤ 255) : 0 ≤ h * w ∧ h * w ≤ 65025 ∧ 0 ≤ h * w * c ∧ h * w * c ≤ 16581375 := by
  have a0 : 0 ≤ h * w := Int.mul_nonneg h0 w0
  have a1 : h * w ≤ 255 * 255 := Int.mul_le_mul h1 w1 w0 (by omega)
  have b0 : 0 ≤ h * w * c := Int.mul_nonneg a0 c0
  have b1 : h * w * c ≤ 65025 * 255 := Int.mul_le_mul (by omega) c1 c0 (by omega)
  exact ⟨a0, by omega, b0, by omega⟩

set_option maxHeartbeats 400000 in
theorem cellsOf_c (k h w c z : Int) (dv : Value) (W : World) (h0 : 0 ≤ h) (h1 : h ≤ 255) (w0 : 0 ≤ w) (w1 : w ≤ 255) (c0 : 0 ≤ c) (c1 : c ≤ 255) :
    Calls Tryz.prog 123 #[.agg #[.int .i64 k, .int .i64 h, .int .i64 w, .int .i64 c, .int .i64 z, dv]] W fun e W' => e = .returned (.int .i64 (h * w * c)) ∧ W.grownBy W' none := by
  obtain ⟨a0, a1, b0, b1⟩ := mul3 h0 h1 w0 w1 c0 c1
  go_enter Tryz.func123, Tryz.ntmps123
  go_wp2
  go_ret
  exact ⟨rfl, World.grownBy_alloc _ _ _⟩


abbrev t6 (k h w c z : Int) (dv : Value) : Array Value := #[.int .i64 k, .int .i64 h, .int .i64 w, .int .i64 c, .int .i64 z, dv]

/-- Inside a call that has laid a result and a local of type T: the reader, both blocks, what has grown. -/
structure LInv (T : TypeId) (z : Array Value) (w0 w1 : World) (b : Nat) (s : ByteArray) (r : M.RS) (cs : Array Value) : Prop where
  R : Rd w1 b s r
  L : Blk w1 (w0.heap.size + 1) T cs
  G : Blk w1 w0.heap.size T z
  g : w0.grownBy w1 (some b)
  hb : b < w0.heap.size

theorem LInv.start {T : TypeId} {z : Array Value} {w : World} {b : Nat} {s : ByteArray} {r : M.RS} (h : Rd w b s r) : LInv T z w ((w.alloc (.cells z T)).alloc (.cells z T)) b s r z :=
  ⟨Blk.alloc (Blk.alloc h _) _, Blk.new1 w _ _ _, Blk.alloc (Blk.new w _ _) _, gr_alloc2 w _ _ _, h.lt⟩

theorem LInv.call {T : TypeId} {z : Array Value} {w0 w1 w2 : World} {b : Nat} {s : ByteArray} {r r' : M.RS} {cs : Array Value} (h : LInv T z w0 w1 b s r cs) (hR : Rd w2 b s r') (hg : w1.grownBy w2 (some b)) : LInv T z w0 w2 b s r' cs :=
  have hb := h.hb
  ⟨hR, h.L.kept hg (by simp; omega), h.G.kept hg (by simp; omega), gr_trans h.g hg, hb⟩

theorem LInv.call0 {T : TypeId} {z : Array Value} {w0 w1 w2 : World} {b : Nat} {s : ByteArray} {r : M.RS} {cs : Array Value} (h : LInv T z w0 w1 b s r cs) (hg : w1.grownBy w2 none) : LInv T z w0 w2 b s r cs :=
  ⟨Blk.kept h.R hg (by simp), h.L.kept hg (by simp), h.G.kept hg (by simp), gr_trans h.g (gr_none hg), h.hb⟩

theorem LInv.put {T : TypeId} {z : Array Value} {w0 w1 : World} {b : Nat} {s : ByteArray} {r : M.RS} {cs : Array Value} (h : LInv T z w0 w1 b s r cs) (i : Nat) (v : Value) : LInv T z w0 (w1.setCell ⟨w0.heap.size + 1, i, none⟩ v) b s r (cs.setIfInBounds i v) :=
  have hb := h.hb
  ⟨Blk.other h.R (by simp; omega) _, Blk.set h.L i v, h.G.other (by simp) _, gr_new h.g (gr_set _ _ _ _) (by omega), hb⟩

theorem cells6 {w : World} {L T : Nat} {k h v c z : Int} {dv : Value} (hL : Blk w L T (t6 k h v c z dv)) : w.cell? ⟨L, 0, none⟩ = some (.int .i64 k) ∧ w.cell? ⟨L, 1, none⟩ = some (.int .i64 h) ∧ w.cell? ⟨L, 2, none⟩ = some (.int .i64 v) ∧ w.cell? ⟨L, 3, none⟩ = some (.int .i64 c) ∧ w.cell? ⟨L, 4, none⟩ = some (.int .i64 z) ∧ w.cell? ⟨L, 5, none⟩ = some dv :=
  ⟨hL.cell 0, hL.cell 1, hL.cell 2, hL.cell 3, hL.cell 4, hL.cell 5⟩
theorem free6 {w : World} {L T : Nat} {cs : Array Value} (hL : Blk w L T cs) : w.frozen? ⟨L, 0, none⟩ = false ∧ w.frozen? ⟨L, 1, none⟩ = false ∧ w.frozen? ⟨L, 2, none⟩ = false ∧ w.frozen? ⟨L, 3, none⟩ = false ∧ w.frozen? ⟨L, 4, none⟩ = false ∧ w.frozen? ⟨L, 5, none⟩ = false :=
  ⟨hL.free 0, hL.free 1, hL.free 2, hL.free 3, hL.free 4, hL.free 5⟩

/-- The result's six cells, written. -/
theorem fin6 {w0 w1 : World} {b : Nat} {s : ByteArray} {r : M.RS} {k h v c z : Int} {dv : Value} {cs : Array Value} (h : LInv 158 (t6 k h v c z dv) w0 w1 b s r cs) (v0 v1 v2 v3 v4 v5 : Value) :
    Rd ((((((w1.setCell ⟨w0.heap.size, 0, none⟩ v0).setCell ⟨w0.heap.size, 1, none⟩ v1).setCell ⟨w0.heap.size, 2, none⟩ v2).setCell ⟨w0.heap.size, 3, none⟩ v3).setCell ⟨w0.heap.size, 4, none⟩ v4).setCell ⟨w0.heap.size, 5, none⟩ v5) b s r ∧
    w1.grownBy ((((((w1.setCell ⟨w0.heap.size, 0, none⟩ v0).setCell ⟨w0.heap.size, 1, none⟩ v1).setCell ⟨w0.heap.size, 2, none⟩ v2).setCell ⟨w0.heap.size, 3, none⟩ v3).setCell ⟨w0.heap.size, 4, none⟩ v4).setCell ⟨w0.heap.size, 5, none⟩ v5) (some w0.heap.size) ∧
    Blk ((((((w1.setCell ⟨w0.heap.size, 0, none⟩ v0).setCell ⟨w0.heap.size, 1, none⟩ v1).setCell ⟨w0.heap.size, 2, none⟩ v2).setCell ⟨w0.heap.size, 3, none⟩ v3).setCell ⟨w0.heap.size, 4, none⟩ v4).setCell ⟨w0.heap.size, 5, none⟩ v5) w0.heap.size 158 #[v0, v1, v2, v3, v4, v5] := by
  have hb := h.hb
  have hg := gr_trans (gr_set w1 w0.heap.size 0 v0) (gr_trans (gr_set _ w0.heap.size 1 v1) (gr_trans (gr_set _ w0.heap.size 2 v2) (gr_trans (gr_set _ w0.heap.size 3 v3) (gr_trans (gr_set _ w0.heap.size 4 v4) (gr_set _ w0.heap.size 5 v5)))))
  exact ⟨Blk.kept h.R hg (by simp; omega), hg, (((((h.G.set 0 v0).set 1 v1).set 2 v2).set 3 v3).set 4 v4).set 5 v5⟩

theorem ret6 {W : World} {G : Nat} {v0 v1 v2 v3 v4 v5 : Value} (hB : Blk W G 158 #[v0, v1, v2, v3, v4, v5]) (tmps : Array Value) (ht : tmps[2]?.getD undef = .pointer (some ⟨G, 0, none⟩)) : (results Tryz.f162 tmps).run Tryz.prog W = .ok (.agg #[v0, v1, v2, v3, v4, v5]) W := by
  have q0 : W.cell? ⟨G, 0, none⟩ = some v0 := hB.cell 0
  have q1 : W.cell? ⟨G, 1, none⟩ = some v1 := hB.cell 1
  have q2 : W.cell? ⟨G, 2, none⟩ = some v2 := hB.cell 2
  have q3 : W.cell? ⟨G, 3, none⟩ = some v3 := hB.cell 3
  have q4 : W.cell? ⟨G, 4, none⟩ = some v4 := hB.cell 4
  have q5 : W.cell? ⟨G, 5, none⟩ = some v5 := hB.cell 5
  simp [results, Tryz.results162, go_sem, ht, q0, q1, q2, q3, q4, q5]

theorem tensor_eq {s : ByteArray} {r r1 r2 r3 r4 r5 : M.RS} {x1 x2 x3 x4 x5 : Int} (h1 : M.within s 0 3 r = (x1, r1)) (h2 : M.plain s r1 = (x2, r2)) (h3 : M.plain s r2 = (x3, r3)) (h4 : M.plain s r3 = (x4, r4)) (h5 : M.signed s r4 = (x5, r5)) :
    M.tensor s r = (⟨x1, x2, x3, x4, x5, (if x1 = 1 then M.cells s (x2 * x3 * x4) r5 else if x1 = 2 then M.words s (x2 * x3 * x4) r5 else ([], r5)).1⟩, (if x1 = 1 then M.cells s (x2 * x3 * x4) r5 else if x1 = 2 then M.words s (x2 * x3 * x4) r5 else ([], r5)).2) := by
  simp only [M.tensor, h1, h2, h3, h4, h5]

set_option maxHeartbeats 1600000 in
theorem tensor_c (b : Nat) (s : ByteArray) (r : M.RS) (w : World) (h : Rd w b s r) (hp : r.pos ≤ s.size) (hs : s.size ≤ 4096) :
    Calls Tryz.prog 162 #[.pointer (some ⟨b, 0, none⟩)] w fun e w' => ∃ t dv r', Hid (M.tensor s r = (t, r')) ∧ WfT t ∧ r'.pos ≤ s.size ∧ e = .returned (.agg (tval t dv)) ∧ Ints w' w.heap.size dv t.data ∧ Rd w' b s r' ∧ w.grownBy w' (some b) := by
  have I0 := LInv.start (T := 158) (z := t6 0 0 0 0 0 (.slice none 0 0)) h
  go_enter Tryz.func162, Tryz.ntmps162
  go_wp2_with fail
  refine (within_c b s r 0 3 _ I0.R hp (by omega) (by omega) (by omega) (by omega)).mono ?_
  rintro e w1 ⟨x1, r1, hx1, l1, u1, hp1, rfl, hR1, hg1⟩
  have I1 := I0.call hR1 hg1
  have a1 : w1.cell? ⟨w.heap.size + 1, 0, none⟩ = some (.int .i64 0) := I1.L.cell 0
  have b1 := I1.L.free 0
  clear hg1 hR1 I0
  go_wp2_with fail
  refine (plain_c b s r1 _ (I1.put 0 (.int .i64 x1)).R hp1 (by omega)).mono ?_
  rintro e w2 ⟨x2, r2, hx2, l2, u2, hp2, rfl, hR2, hg2⟩
  have I2 := (I1.put 0 (.int .i64 x1)).call hR2 hg2
  clear hg2 hR2 I1 a1 b1
  have a2 : w2.cell? ⟨w.heap.size + 1, 1, none⟩ = some (.int .i64 0) := I2.L.cell 1
  have b2 := I2.L.free 1
  go_wp2_with fail
  refine (plain_c b s r2 _ (I2.put 1 (.int .i64 x2)).R hp2 (by omega)).mono ?_
  rintro e w3 ⟨x3, r3, hx3, l3, u3, hp3, rfl, hR3, hg3⟩
  have I3 := (I2.put 1 (.int .i64 x2)).call hR3 hg3
  clear hg3 hR3 I2 a2 b2
  have a3 : w3.cell? ⟨w.heap.size + 1, 2, none⟩ = some (.int .i64 0) := I3.L.cell 2
  have b3 := I3.L.free 2
  go_wp2_with fail
  refine (plain_c b s r3 _ (I3.put 2 (.int .i64 x3)).R hp3 (by omega)).mono ?_
  rintro e w4 ⟨x4, r4, hx4, l4, u4, hp4, rfl, hR4, hg4⟩
  have I4 := (I3.put 2 (.int .i64 x3)).call hR4 hg4
  clear hg4 hR4 I3 a3 b3
  have a4 : w4.cell? ⟨w.heap.size + 1, 3, none⟩ = some (.int .i64 0) := I4.L.cell 3
  have b4 := I4.L.free 3
  go_wp2_with fail
  refine (signed_c b s r4 _ (I4.put 3 (.int .i64 x4)).R hp4 (by omega)).mono ?_
  rintro e w5 ⟨x5, r5, hx5, l5, u5, hp5, rfl, hR5, hg5⟩
  have I5 := (I4.put 3 (.int .i64 x4)).call hR5 hg5
  clear hg5 hR5 I4 a4 b4
  have I5' : LInv 158 _ w (w5.setCell ⟨w.heap.size + 1, 4, none⟩ (.int .i64 x5)) b s r5 (t6 x1 x2 x3 x4 x5 (.slice none 0 0)) := I5.put 4 (.int .i64 x5)
  have a5 : w5.cell? ⟨w.heap.size + 1, 4, none⟩ = some (.int .i64 0) := I5.L.cell 4
  have b5 := I5.L.free 4
  have d0 : w5.cell? ⟨w.heap.size + 1, 0, none⟩ = some (.int .i64 x1) := I5.L.cell 0
  have d1 : w5.cell? ⟨w.heap.size + 1, 1, none⟩ = some (.int .i64 x2) := I5.L.cell 1
  have d2 : w5.cell? ⟨w.heap.size + 1, 2, none⟩ = some (.int .i64 x3) := I5.L.cell 2
  have d3 : w5.cell? ⟨w.heap.size + 1, 3, none⟩ = some (.int .i64 x4) := I5.L.cell 3
  have d5 : w5.cell? ⟨w.heap.size + 1, 5, none⟩ = some (.slice none 0 0) := I5.L.cell 5
  go_wp2_with fail
  refine (cellsOf_c x1 x2 x3 x4 x5 _ _ l2 u2 l3 u3 l4 u4).mono ?_
  rintro e w6 ⟨rfl, hg6⟩
  have I6 := I5'.call0 hg6
  clear hg6 I5 I5' a5 b5 d0 d1 d2 d3 d5
  obtain ⟨m0, m1, n0, n1⟩ := mul3 l2 u2 l3 u3 l4 u4
  have HT := hide (tensor_eq hx1.out hx2.out hx3.out hx4.out hx5.out)
  have wf : ∀ l, WfT ⟨x1, x2, x3, x4, x5, l⟩ := fun l => ⟨l1, u1, l2, u2, l3, u3, l4, u4, l5, u5⟩
  clear hx1 hx2 hx3 hx4 hx5
  generalize x2 * x3 * x4 = n at *
  obtain ⟨n, rfl⟩ := Int.eq_ofNat_of_zero_le n0
  have d0 : w6.cell? ⟨w.heap.size + 1, 0, none⟩ = some (.int .i64 x1) := I6.L.cell 0
  have d1 : w6.cell? ⟨w.heap.size + 1, 1, none⟩ = some (.int .i64 x2) := I6.L.cell 1
  have d2 : w6.cell? ⟨w.heap.size + 1, 2, none⟩ = some (.int .i64 x3) := I6.L.cell 2
  have d3 : w6.cell? ⟨w.heap.size + 1, 3, none⟩ = some (.int .i64 x4) := I6.L.cell 3
  have d4 : w6.cell? ⟨w.heap.size + 1, 4, none⟩ = some (.int .i64 x5) := I6.L.cell 4
  have d5 : w6.cell? ⟨w.heap.size + 1, 5, none⟩ = some (.slice none 0 0) := I6.L.cell 5
  by_cases k1 : x1 = 1
  · subst k1
    have hB6 := I6.L.lt
    go_wp2_with fail
    refine (cells_s b s r5 n w6 I6.R hp5 hs (by omega)).mono ?_
    rintro e w7 ⟨ao, m, cp, l, r7, hx7, hp7, rfl, hI7, hR7, hg7⟩
    have I7 := I6.call hR7 hg7
    have hsz := I6.g.size
    clear hg7 hR7 I6 d0 d1 d2 d3 d4 d5
    obtain ⟨d0, d1, d2, d3, d4, d5⟩ := cells6 I7.L
    obtain ⟨g0, g1, g2, g3, g4, g5⟩ := cells6 I7.G
    obtain ⟨f0, f1, f2, f3, f4, f5⟩ := free6 I7.G
    have fL := I7.L.free 5
    go_wp2
    have I8 := I7.put 5 (.slice ao m cp)
    obtain ⟨hRf, hgf, hBf⟩ := fin6 I8 (.int .i64 1) (.int .i64 x2) (.int .i64 x3) (.int .i64 x4) (.int .i64 x5) (.slice ao m cp)
    have hbb := I7.hb
    refine bodyPost_ret (ret6 hBf _ rfl) rfl ?_
    refine ⟨⟨1, x2, x3, x4, x5, l⟩, _, r7, ?_, wf l, hp7, rfl, ?_, hRf, gr_new I8.g hgf (Nat.le_refl _)⟩
    · have e := HT.out; rw [e]; simp [Hid, hx7.out]
    · have hs2 : w.heap.size + 1 < w6.heap.size := Nat.lt_of_succ_le (by have := hB6; omega)
      exact ((hI7.kept (gr_set _ _ _ _) hs2).kept hgf (by omega)).mono hsz
  · by_cases k2 : x1 = 2
    · subst k2
      have hB6 := I6.L.lt
      go_wp2_with fail
      refine (words_s b s r5 n w6 I6.R hp5 hs (by omega)).mono ?_
      rintro e w7 ⟨ao, m, cp, l, r7, hx7, hp7, rfl, hI7, hR7, hg7⟩
      have I7 := I6.call hR7 hg7
      have hsz := I6.g.size
      clear hg7 hR7 I6 d0 d1 d2 d3 d4 d5
      obtain ⟨d0, d1, d2, d3, d4, d5⟩ := cells6 I7.L
      obtain ⟨g0, g1, g2, g3, g4, g5⟩ := cells6 I7.G
      obtain ⟨f0, f1, f2, f3, f4, f5⟩ := free6 I7.G
      have fL := I7.L.free 5
      go_wp2
      have I8 := I7.put 5 (.slice ao m cp)
      obtain ⟨hRf, hgf, hBf⟩ := fin6 I8 (.int .i64 2) (.int .i64 x2) (.int .i64 x3) (.int .i64 x4) (.int .i64 x5) (.slice ao m cp)
      have hbb := I7.hb
      refine bodyPost_ret (ret6 hBf _ rfl) rfl ?_
      refine ⟨⟨2, x2, x3, x4, x5, l⟩, _, r7, ?_, wf l, hp7, rfl, ?_, hRf, gr_new I8.g hgf (Nat.le_refl _)⟩
      · have e := HT.out; rw [e]; simp [Hid, hx7.out]
      · have hs2 : w.heap.size + 1 < w6.heap.size := Nat.lt_of_succ_le (by have := hB6; omega)
        exact ((hI7.kept (gr_set _ _ _ _) hs2).kept hgf (by omega)).mono hsz
    · have hn1 : (x1 == 1) = false := by simp [k1]
      have hn2 : (x1 == 2) = false := by simp [k2]
      have k1' := hide k1
      have k2' := hide k2
      clear k1 k2
      obtain ⟨g0, g1, g2, g3, g4, g5⟩ := cells6 I6.G
      obtain ⟨f0, f1, f2, f3, f4, f5⟩ := free6 I6.G
      go_wp2
      obtain ⟨hRf, hgf, hBf⟩ := fin6 I6 (.int .i64 x1) (.int .i64 x2) (.int .i64 x3) (.int .i64 x4) (.int .i64 x5) (.slice none 0 0)
      refine bodyPost_ret (ret6 hBf _ rfl) rfl ?_
      refine ⟨⟨x1, x2, x3, x4, x5, []⟩, _, r5, ?_, wf _, hp5, rfl, Ints.nil _ _, hRf, gr_new I6.g hgf (Nat.le_refl _)⟩
      have e := HT.out; rw [e]; simp [Hid, k1'.out, k2'.out]

end Go.Proofs.YtcnhfffgbamonaaGreat

/-
  The reader's list of tensors.
-/
namespace Go.Proofs.YtcnhfffgbamonaaGreat
open Go.RowKit

theorem Tryz.info158 : (Tryz.prog.info? 158).map (fun i => (i.zero, i.size, i.bytes)) = some (some (.agg #[.int .i64 0, .int .i64 0, .int .i64 0, .int .i64 0, .int .i64 0, .slice none 0 0]), 6, 64) := by kernel_rfl

theorem tensor_s (b : Nat) (s : ByteArray) (r : M.RS) (w : World) (h : Rd w b s r) (hp : r.pos ≤ s.size) (hs : s.size ≤ 4096) :
    Calls Tryz.prog 162 #[.pointer (some ⟨b, 0, none⟩)] w fun e w' => ∃ t ao m c r', Hid (M.tensor s r = (t, r')) ∧ WfT t ∧ r'.pos ≤ s.size ∧
      e = .returned (.agg #[.int .i64 t.kind, .int .i64 t.h, .int .i64 t.w, .int .i64 t.c, .int .i64 t.zero, .slice ao m c]) ∧ Ints w' w.heap.size (.slice ao m c) t.data ∧ Rd w' b s r' ∧ w.grownBy w' (some b) :=
  (tensor_c b s r w h hp hs).mono fun e w' ⟨t, dv, r', h1, h2, h3, h4, h5, h6, h7⟩ => by
    obtain ⟨ao, m, c, rfl⟩ := h5.shape
    exact ⟨t, ao, m, c, r', h1, h2, h3, h4, h5, h6, h7⟩

/-- v is a slice of the tensors ts, in blocks from base on. -/
def Tns (w : World) (base : Nat) (v : Value) (ts : List M.Tn) : Prop :=
  ∃ ps : List (M.Tn × Value), ps.map (·.1) = ts ∧ w.ownsRow base 158 6 v ts.length (ps.flatMap fun p => (tval p.1 p.2).toList) ∧ ∀ p ∈ ps, Ints w base p.2 p.1.data

theorem Tns.nil (w : World) (base : Nat) : Tns w base (.slice none 0 0) [] := ⟨[], rfl, World.ownsRow_nil _ _ _ _, by simp⟩

theorem owns_mono {w : World} {base base' : Nat} {e : TypeId} {size n : Nat} {v : Value} {xs : List Value} (h : w.ownsRow base e size v n xs) (hb : base' ≤ base) : w.ownsRow base' e size v n xs := by
  refine ⟨h.1, ?_⟩
  rcases h.2 with h2 | ⟨g, cap, cur, h1, h2, h3⟩
  · exact .inl h2
  · exact .inr ⟨g, cap, cur, h1, Nat.le_trans hb h2, h3⟩

theorem owns_kept {w w' : World} {base b : Nat} {e : TypeId} {size n : Nat} {v : Value} {xs : List Value} (h : w.ownsRow base e size v n xs) (hg : w.grownBy w' (some b)) (hb : b < base) : w'.ownsRow base e size v n xs := by
  refine World.ownsRow.kept h hg ?_
  cases hv : v.ownBlock with
  | none => exact .inl rfl
  | some g => exact .inr (by have := (World.ownsRow.lt h g hv).1; intro e; injection e with e; omega)

theorem owns_kept0 {w w' : World} {base : Nat} {e : TypeId} {size n : Nat} {v : Value} {xs : List Value} (h : w.ownsRow base e size v n xs) (hg : w.grownBy w' none) : w'.ownsRow base e size v n xs := by
  refine World.ownsRow.kept h hg ?_
  cases hv : v.ownBlock with
  | none => exact .inl rfl
  | some g => exact .inr (by simp)

/-- What is owned in a row of another type stays owned. -/
theorem owns_apart {w w' : World} {base base2 : Nat} {e e2 : TypeId} {size size2 n n2 : Nat} {v v2 : Value} {xs xs2 : List Value} (h : w.ownsRow base e size v n xs) (h2 : w.ownsRow base2 e2 size2 v2 n2 xs2) (hne : e ≠ e2) (hg : w.grownBy w' v2.ownBlock) : w'.ownsRow base e size v n xs := by
  refine World.ownsRow.kept h hg ?_
  rcases h.2 with ⟨rfl, _⟩ | ⟨g, cap, cur, rfl, _, hh, _⟩
  · exact .inl rfl
  · refine .inr ?_
    rcases h2.2 with ⟨rfl, _⟩ | ⟨g2, cap2, cur2, rfl, _, hh2, _⟩
    · simp [Value.ownBlock]
    · simp only [Value.ownBlock, ne_eq, Option.some.injEq]
      intro e3
      subst e3
      rw [hh] at hh2
      simp at hh2
      exact hne hh2.2

theorem owns_row_lt {w : World} {base : Nat} {e : TypeId} {size n : Nat} {v : Value} {xs : List Value} (h : w.ownsRow base e size v n xs) : ∀ g, v.ownBlock = some g → base ≤ g := fun g hg => (World.ownsRow.lt h g hg).1

theorem Tns.kept {w w' : World} {base b : Nat} {v : Value} {ts : List M.Tn} (h : Tns w base v ts) (hg : w.grownBy w' (some b)) (hb : b < base) : Tns w' base v ts := by
  obtain ⟨ps, h1, h2, h3⟩ := h
  exact ⟨ps, h1, owns_kept h2 hg hb, fun p hp => (h3 p hp).kept hg hb⟩
theorem Tns.kept0 {w w' : World} {base : Nat} {v : Value} {ts : List M.Tn} (h : Tns w base v ts) (hg : w.grownBy w' none) : Tns w' base v ts := by
  obtain ⟨ps, h1, h2, h3⟩ := h
  exact ⟨ps, h1, owns_kept0 h2 hg, fun p hp => (h3 p hp).kept0 hg⟩
theorem Tns.mono {w : World} {base base' : Nat} {v : Value} {ts : List M.Tn} (h : Tns w base v ts) (hb : base' ≤ base) : Tns w base' v ts := by
  obtain ⟨ps, h1, h2, h3⟩ := h
  exact ⟨ps, h1, owns_mono h2 hb, fun p hp => (h3 p hp).mono hb⟩

theorem repOk_stop {α : Type} (f : M.RS → α × M.RS) (k j : Nat) (r : M.RS) (h : (M.repOk f k r).2.bad = true) : M.repOk f (k + j) r = M.repOk f k r := by
  induction j with
  | zero => rfl
  | succ j ih => rw [← Nat.add_assoc, M.repOk, ih, if_pos h]
theorem repOk_end {α : Type} (f : M.RS → α × M.RS) (k n : Nat) (r : M.RS) (hk : k ≤ n) (h : (M.repOk f k r).2.bad = true) : M.repOk f n r = M.repOk f k r := by
  obtain ⟨j, rfl⟩ := Nat.exists_eq_add_of_le hk
  exact repOk_stop f k j r h
theorem repOk_len {α : Type} (f : M.RS → α × M.RS) (k : Nat) (r : M.RS) : (M.repOk f k r).1.length ≤ k := by
  induction k with
  | zero => simp [M.repOk]
  | succ k ih =>
    rw [M.repOk]
    split
    · omega
    · simp; omega

theorem Tns.snoc {w w2 : World} {B : Nat} {v v' : Value} {ps : List (M.Tn × Value)} {ts : List M.Tn} {t : M.Tn} {dv : Value} (h1 : ps.map (·.1) = ts) (h2 : w.ownsRow B 158 6 v ts.length (ps.flatMap fun p => (tval p.1 p.2).toList)) (h3 : ∀ p ∈ ps, Ints w B p.2 p.1.data)
    (hd : Ints w B dv t.data) (hg2 : w.grownBy w2 v.ownBlock)
    (hown : w2.ownsRow B 158 6 v' (ts.length + 1) ((ps.flatMap fun p => (tval p.1 p.2).toList) ++ (tval t dv).toList)) : Tns w2 B v' (ts ++ [t]) := by
  refine ⟨ps ++ [(t, dv)], by simp [h1], by simpa using hown, ?_⟩
  intro p hp
  rcases List.mem_append.1 hp with hp | hp
  · exact owns_apart (h3 p hp) h2 (by decide) hg2
  · simp at hp
    subst hp
    exact owns_apart hd h2 (by decide) hg2

theorem repOk_pos {α : Type} {f : M.RS → α × M.RS} {s : ByteArray} (hf : ∀ r, r.pos ≤ s.size → (f r).2.pos ≤ s.size) (k : Nat) (r : M.RS) (h : r.pos ≤ s.size) : (M.repOk f k r).2.pos ≤ s.size := by
  induction k with
  | zero => exact h
  | succ k ih =>
    rw [M.repOk]
    split
    · exact ih
    · exact hf _ ih

set_option maxHeartbeats 800000 in
theorem tensors_c (b : Nat) (s : ByteArray) (r : M.RS) (w : World) (h : Rd w b s r) (hp : r.pos ≤ s.size) (hs : s.size ≤ 4096) :
    Calls Tryz.prog 136 #[.pointer (some ⟨b, 0, none⟩)] w fun e w' => ∃ v ts r', Hid (M.tensors s r = (ts, r')) ∧ (∀ t ∈ ts, WfT t) ∧ ts.length ≤ 255 ∧ r'.pos ≤ s.size ∧ e = .returned v ∧ Tns w' w.heap.size v ts ∧ Rd w' b s r' ∧ w.grownBy w' (some b) := by
  obtain ⟨i0, hi, hz0, hz1, hz2⟩ := info_parts Tryz.info158
  have hbl := h.lt
  go_enter Tryz.func136, Tryz.ntmps136
  go_wp2_with fail
  refine (plain_c b s r _ h hp (by omega)).mono ?_
  rintro e w1 ⟨x1, r1, hx1, l1, u1, hp1, rfl, hR1, hg1⟩
  obtain ⟨n, rfl⟩ := Int.eq_ofNat_of_zero_le l1
  go_wp2
  go_loopw [4, 5] (fun v i wr => ∃ k : Nat, k ≤ n ∧ i = .int .i64 k ∧ Rd wr b s (M.repOk (M.tensor s) k r1).2 ∧ (M.repOk (M.tensor s) k r1).2.pos ≤ s.size ∧ Tns wr w.heap.size v (M.repOk (M.tensor s) k r1).1 ∧ (∀ t ∈ (M.repOk (M.tensor s) k r1).1, WfT t) ∧ w.grownBy wr (some b)) (fun _ i _ => n - (intOf i).toNat)
  case atStart => exact ⟨0, Nat.zero_le _, rfl, hR1, hp1, Tns.nil _ _, by simp [M.repOk], hg1⟩
  case round =>
    obtain ⟨k, hk, rfl, hRk, hpk, hTk, hWk, hgk⟩ := hrel
    have hlk := repOk_len (M.tensor s) k r1
    obtain ⟨c0, c1, c2, f1, f2⟩ := hRk.cells
    clear c0 c1 f1 f2
    by_cases hlt : k < n
    · cases hbad : (M.repOk (M.tensor s) k r1).2.bad with
      | true =>
        rw [hbad] at c2
        have hend := repOk_end (M.tensor s) k n r1 hk hbad
        have He := hide hend
        have Hb := hide hbad
        clear hend hbad
        go_wp2
        go_ret
        exact ⟨_, _, _, by simp only [Hid, M.tensors, hx1.out, Int.toNat_natCast, He.out], hWk, by omega, hpk, rfl, hTk, hRk, hgk⟩
      | false =>
        rw [hbad] at c2
        have hsucc : M.repOk (M.tensor s) (k + 1) r1 = ((M.repOk (M.tensor s) k r1).1 ++ [(M.tensor s (M.repOk (M.tensor s) k r1).2).1], (M.tensor s (M.repOk (M.tensor s) k r1).2).2) := by rw [M.repOk, if_neg (by simp [hbad])]
        have Hs := hide hsucc
        clear hsucc hbad
        generalize (M.repOk (M.tensor s) k r1).1 = ts at *
        generalize (M.repOk (M.tensor s) k r1).2 = rk at *
        go_wp2_with fail
        refine (tensor_s b s rk _ hRk hpk hs).mono ?_
        rintro e w3 ⟨t, ao, m, c, r3, hx3, hwf, hp3, rfl, hI3, hR3, hg3⟩
        have gw3 : w.grownBy w3 (some b) := gr_trans hgk hg3
        obtain ⟨ps, q1, q2, q3⟩ := hTk.kept hg3 hbl
        have hI3' := hI3.mono hgk.size
        have hsz3 := gw3.size
        clear hTk hI3 hg3 hRk c2 hgk
        go_wp2_with (at_builtin; refine wpList_append_own _ rfl _ _ 136 rfl w.heap.size 158 i0 (.agg #[.int .i64 0, .int .i64 0, .int .i64 0, .int .i64 0, .int .i64 0, .slice none 0 0]) 6 64 Tryz.underlying136 hi hz0 hz1 hz2 rfl (by decide) _ _ _ rfl ((q2.alloc _).alloc _) ⟨w3.heap.size + 1, 0, none⟩ 1 1 (tval t (.slice ao m c)).toList rfl rfl ?c1 ?c2 ?c3 ?c4 ?c5 ?_)
        case c1 => exact news_at w3 _ 158 _
        case c2 => intro u hu; simp [tval] at hu; rcases hu with rfl | rfl | rfl | rfl | rfl | rfl <;> rfl
        case c3 => unfold maxLen; omega
        case c4 => omega
        case c5 => simp; omega
        intro v' w4 hown' hgrow _
        have hga : w3.grownBy w4 u4.ownBlock := by
          have := gr_trans (gr_alloc2 w3 _ _ _) hgrow
          exact this
        have hT4 := Tns.snoc q1 q2 q3 hI3' hga hown'
        have hlt4 := owns_row_lt q2
        have gw4 : w.grownBy w4 (some b) := gr_own gw3 hga hlt4
        have hR4 : Rd w4 b s r3 := Blk.kept hR3 hga (by intro e; have := hlt4 b e.symm; omega)
        clear hown' hgrow hga q2 q3 hI3' gw3 hR3 hlt4
        go_wp2
        go_roundw
        case rel =>
          have e1 := Hs.out
          rw [hx3.out] at e1
          refine ⟨k + 1, by omega, by go_num, ?_, ?_, ?_, ?_, gw4⟩
          · rw [e1]; exact hR4
          · rw [e1]; exact hp3
          · rw [e1]; exact hT4
          · rw [e1]; intro t' ht'
            rcases List.mem_append.1 ht' with h' | h'
            · exact hWk t' h'
            · simp at h'; subst h'; exact hwf
        case measure => simp [intOf]; omega
    · obtain rfl : k = n := by omega
      clear c2
      go_wp2
      go_ret
      exact ⟨_, _, _, by simp only [Hid, M.tensors, hx1.out, Int.toNat_natCast], hWk, by omega, hpk, rfl, hTk, hRk, hgk⟩

end Go.Proofs.YtcnhfffgbamonaaGreat

/-
  The reader's scales.
-/
namespace Go.Proofs.YtcnhfffgbamonaaGreat
open Go.RowKit

theorem Tryz.info224 : (Tryz.prog.info? 224).map (fun i => (i.zero, i.size, i.bytes)) = some (some (.agg #[.int .i64 0, .int .i64 0]), 2, 16) := by kernel_rfl

def scval (c : M.Sc) : List Value := [.int .i64 c.mult, .int .i64 c.shift]

/-- v is a slice of the scales xs, in a block from base on. -/
def Scs (w : World) (base : Nat) (v : Value) (xs : List M.Sc) : Prop := w.ownsRow base 224 2 v xs.length (xs.flatMap scval)

theorem Scs.shape {w : World} {base : Nat} {v : Value} {xs : List M.Sc} (h : Scs w base v xs) : ∃ ao m c, v = .slice ao m c := by
  rcases h.2 with ⟨rfl, _⟩ | ⟨g, cap, cur, rfl, _⟩
  · exact ⟨_, _, _, rfl⟩
  · exact ⟨_, _, _, rfl⟩

structure WfS (c : M.Sc) : Prop where
  m0 : -2147483648 ≤ c.mult
  m1 : c.mult ≤ 2147483647
  s0 : -128 ≤ c.shift
  s1 : c.shift ≤ 127

theorem scale_eq {s : ByteArray} {r r1 r2 : M.RS} {x y : Int} (h1 : M.word s r = (x, r1)) (h2 : M.signed s r1 = (y, r2)) : M.scale s r = (⟨x, y⟩, r2) := by simp only [M.scale, h1, h2]

theorem news_at1 (w : World) (T : TypeId) (cs : Array Value) : ∀ j u, cs.toList[j]? = some u → (w.alloc (.cells cs T)).cell? ((⟨w.heap.size, 0, none⟩ : Addr).add j) = some u := by
  intro j u hu
  rw [add_zero_addr, (Blk.new w T cs).cell j]
  simpa using hu

set_option maxHeartbeats 800000 in
theorem scales_c (b : Nat) (s : ByteArray) (r : M.RS) (n : Nat) (w : World) (h : Rd w b s r) (hp : r.pos ≤ s.size) (hs : s.size ≤ 4096) (hn : n ≤ 3) :
    Calls Tryz.prog 194 #[.pointer (some ⟨b, 0, none⟩), .int .i64 n] w fun e w' => ∃ ao m c xs r', Hid (M.rep (M.scale s) n r = (xs, r')) ∧ (∀ c ∈ xs, WfS c) ∧ r'.pos ≤ s.size ∧ e = .returned (.slice ao m c) ∧ Scs w' w.heap.size (.slice ao m c) xs ∧ Rd w' b s r' ∧ w.grownBy w' (some b) := by
  suffices hx : Calls Tryz.prog 194 #[.pointer (some ⟨b, 0, none⟩), .int .i64 n] w fun e w' => ∃ v xs r', Hid (M.rep (M.scale s) n r = (xs, r')) ∧ (∀ c ∈ xs, WfS c) ∧ r'.pos ≤ s.size ∧ e = .returned v ∧ Scs w' w.heap.size v xs ∧ Rd w' b s r' ∧ w.grownBy w' (some b) from
    hx.mono fun e w' ⟨v, xs, r', h1, h2, h3, h4, h5, h6⟩ => by
      obtain ⟨ao, m, c, rfl⟩ := h5.shape
      exact ⟨ao, m, c, xs, r', h1, h2, h3, h4, h5, h6⟩
  obtain ⟨i0, hi, hz0, hz1, hz2⟩ := info_parts Tryz.info224
  have hbl := h.lt
  go_enter Tryz.func194, Tryz.ntmps194
  go_wp2
  go_loopw [5, 6] (fun v i wr => ∃ k : Nat, k ≤ n ∧ i = .int .i64 k ∧ Rd wr b s (M.rep (M.scale s) k r).2 ∧ (M.rep (M.scale s) k r).2.pos ≤ s.size ∧ Scs wr w.heap.size v (M.rep (M.scale s) k r).1 ∧ (∀ c ∈ (M.rep (M.scale s) k r).1, WfS c) ∧ w.grownBy wr (some b)) (fun _ i _ => n - (intOf i).toNat)
  case atStart => exact ⟨0, Nat.zero_le _, rfl, h, hp, World.ownsRow_nil _ _ _ _, by simp [M.rep], World.grownBy.refl _ _⟩
  case round =>
    obtain ⟨k, hk, rfl, hRk, hpk, hTk, hWk, hgk⟩ := hrel
    have hlk := rep_len (M.scale s) k r
    by_cases hlt : k < n
    · have hsucc : M.rep (M.scale s) (k + 1) r = ((M.rep (M.scale s) k r).1 ++ [(M.scale s (M.rep (M.scale s) k r).2).1], (M.scale s (M.rep (M.scale s) k r).2).2) := rfl
      have Hs := hide hsucc
      clear hsucc
      generalize (M.rep (M.scale s) k r).1 = xs at *
      generalize (M.rep (M.scale s) k r).2 = rk at *
      have Hl := hide hlk
      clear hlk
      have hszk := hgk.size
      go_wp2_with fail
      refine (word_c b s rk _ (Blk.alloc hRk _) hpk (by omega)).mono ?_
      rintro e w3 ⟨x, r3, hx3, l3, u3, hp3, rfl, hR3, hg3⟩
      have hL3 : Blk w3 wr.heap.size 224 #[.int .i64 0, .int .i64 0] := (Blk.new wr 224 _).kept hg3 (by simp; omega)
      have gr3 : wr.grownBy w3 (some b) := gr_trans (World.grownBy_alloc _ _ _) hg3
      have a3 : w3.cell? ⟨wr.heap.size, 0, none⟩ = some (.int .i64 0) := hL3.cell 0
      have b3 := hL3.free 0
      clear hg3
      go_wp2_with fail
      refine (signed_c b s r3 _ (Blk.other hR3 (by simp; omega) _) hp3 (by omega)).mono ?_
      rintro e w4 ⟨y, r4, hx4, l4, u4, hp4, rfl, hR4, hg4⟩
      have hL4 : Blk w4 wr.heap.size 224 #[.int .i64 x, .int .i64 0] := (hL3.set 0 _).kept hg4 (by simp; omega)
      have gr4 : wr.grownBy w4 (some b) := gr_trans (gr_new gr3 (gr_set _ _ _ _) (Nat.le_refl _)) hg4
      clear hg4 hL3 a3 b3 gr3 hR3
      have a4 : w4.cell? ⟨wr.heap.size, 1, none⟩ = some (.int .i64 0) := hL4.cell 1
      have d4 : w4.cell? ⟨wr.heap.size, 0, none⟩ = some (.int .i64 x) := hL4.cell 0
      have b4 := hL4.free 1
      have hR5 : Rd (w4.setCell ⟨wr.heap.size, 1, none⟩ (.int .i64 y)) b s r4 := Blk.other hR4 (by simp; omega) _
      have gr5 : wr.grownBy (w4.setCell ⟨wr.heap.size, 1, none⟩ (.int .i64 y)) (some b) := gr_new gr4 (gr_set _ _ _ _) (Nat.le_refl _)
      have q5 := owns_kept (base := w.heap.size) hTk gr5 hbl
      have gw5 := gr_trans hgk gr5
      have hsz5 := gw5.size
      clear hTk hgk gr5 gr4 hL4 hR4 hRk
      go_wp2_with (at_builtin; refine wpList_append_own _ rfl _ _ 140 rfl w.heap.size 224 i0 (.agg #[.int .i64 0, .int .i64 0]) 2 16 Tryz.underlying140 hi hz0 hz1 hz2 rfl (by decide) _ _ _ rfl (q5.alloc _) ⟨w4.heap.size, 0, none⟩ 1 1 (scval ⟨x, y⟩) rfl rfl ?c1 ?c2 ?c3 ?c4 ?c5 ?_)
      case c1 => have e := news_at1 (w4.setCell ⟨wr.heap.size, 1, none⟩ (.int .i64 y)) 224 #[.int .i64 x, .int .i64 y]; rw [World.size_setCell] at e; exact e
      case c2 => intro u hu; simp [scval] at hu; rcases hu with rfl | rfl <;> rfl
      case c3 => have := Hl.out; unfold maxLen; omega
      case c4 => have := Hl.out; omega
      case c5 => simp at hsz5 ⊢; omega
      intro v' w6 hown' hgrow _
      have hga : (w4.setCell ⟨wr.heap.size, 1, none⟩ (.int .i64 y)).grownBy w6 u5.ownBlock := gr_trans (World.grownBy_alloc _ _ _) hgrow
      have hlt6 := owns_row_lt q5
      have gw6 : w.grownBy w6 (some b) := gr_own gw5 hga hlt6
      have hR6 : Rd w6 b s r4 := Blk.kept hR5 hga (by intro e; have := hlt6 b e.symm; omega)
      have hT6 : Scs w6 w.heap.size v' (xs ++ [⟨x, y⟩]) := by
        have := hown'
        unfold Scs
        simpa using this
      clear hown' hgrow hga q5 gw5 hR5 hlt6
      go_wp2
      go_roundw
      case rel =>
        have e1 := Hs.out
        rw [scale_eq hx3.out hx4.out] at e1
        refine ⟨k + 1, by omega, by go_num, ?_, ?_, ?_, ?_, gw6⟩
        · rw [e1]; exact hR6
        · rw [e1]; exact hp4
        · rw [e1]; exact hT6
        · rw [e1]; intro t' ht'
          rcases List.mem_append.1 ht' with h' | h'
          · exact hWk t' h'
          · simp at h'; subst h'; exact ⟨l3, u3, l4, u4⟩
      case measure => simp [intOf]; omega
    · obtain rfl : k = n := by omega
      clear hlk
      go_wp2
      go_ret
      exact ⟨_, _, _, rfl, hWk, hpk, rfl, hTk, hRk, hgk⟩

end Go.Proofs.YtcnhfffgbamonaaGreat
