/-
  The reader's first calls: plain, within, signed, word, has, skipHead.
-/
import Derived.Test.YthfbllgbljimiaaBase
namespace Go.Proofs.Ythfbllgbljimiaa
open Go.RowKit

/-- Block b is the reader of s, in the state r. -/
def Rd (w : World) (b : Nat) (s : ByteArray) (r : M.RS) : Prop := Blk w b 90 #[.string s, .int .i64 r.pos, .bool r.bad]

theorem Rd.cells {w : World} {b : Nat} {s : ByteArray} {r : M.RS} (h : Rd w b s r) :
    w.cell? ⟨b, 0, none⟩ = some (.string s) ∧ w.cell? ⟨b, 1, none⟩ = some (.int .i64 r.pos) ∧ w.cell? ⟨b, 2, none⟩ = some (.bool r.bad) ∧ w.frozen? ⟨b, 1, none⟩ = false ∧ w.frozen? ⟨b, 2, none⟩ = false :=
  ⟨Blk.cell h 0, Blk.cell h 1, Blk.cell h 2, Blk.free h 1, Blk.free h 2⟩


theorem Rd.bad {w : World} {b : Nat} {s : ByteArray} {p : Nat} {q : Bool} (h : Rd w b s ⟨p, q⟩) (n : Nat) : Rd ((w.drewN n).setCell ⟨b, 2, none⟩ (.bool true)) b s ⟨p, true⟩ ∧ w.grownBy ((w.drewN n).setCell ⟨b, 2, none⟩ (.bool true)) (some b) :=
  ⟨Blk.set (Blk.drewN h n) 2 _, gr_trans (gr_drewN w n _) (gr_set _ _ _ _)⟩

theorem bt_get (s : ByteArray) (p : Nat) (hp : p < s.size) : M.bt s p = (s[p].toNat : Int) := by
  unfold M.bt
  have h : s.data.toList.getD p 0 = s[p] := by
    have h1 : s.data.toList[p]? = some s[p] := by
      rw [List.getElem?_eq_getElem (by simpa using hp)]; rfl
    rw [List.getD_eq_getElem?_getD, h1]; rfl
  rw [h]

theorem wrap_byte (c : UInt8) : wrap64 (c.toNat : Int) = (c.toNat : Int) := by
  have := c.toNat_lt
  unfold wrap64; omega

set_option maxHeartbeats 400000 in
theorem plain_bad (b : Nat) (s : ByteArray) (p : Nat) (w : World) (h : Rd w b s ⟨p, true⟩) :
    Calls Try.prog 75 #[.pointer (some ⟨b, 0, none⟩)] w fun e w' => e = .returned (.int .i64 0) ∧ Rd w' b s ⟨p, true⟩ ∧ w.grownBy w' (some b) := by
  have H : Hid (Rd w b s ⟨p, true⟩) := h
  obtain ⟨c0, c1, c2, f1, f2⟩ := h.cells
  clear h
  go_enter Try.func75, Try.ntmps75
  go_wp2
  go_quiet (fail)
  go_wp2
  go_ret
  exact ⟨rfl, H.out.bad _⟩

set_option maxHeartbeats 400000 in
theorem plain_end (b : Nat) (s : ByteArray) (p : Nat) (w : World) (h : Rd w b s ⟨p, false⟩) (hp : s.size ≤ p) (_hs : s.size ≤ 140737488351232) (_hq : p ≤ s.size) :
    Calls Try.prog 75 #[.pointer (some ⟨b, 0, none⟩)] w fun e w' => e = .returned (.int .i64 0) ∧ Rd w' b s ⟨p, true⟩ ∧ w.grownBy w' (some b) := by
  have H : Hid (Rd w b s ⟨p, false⟩) := h
  obtain ⟨c0, c1, c2, f1, f2⟩ := h.cells
  clear h
  have hd : decide ((s.size : Int) ≤ (p : Int)) = true := by simp; omega
  go_enter Try.func75, Try.ntmps75
  go_wp2
  go_quiet (fail)
  go_wp2
  go_ret
  exact ⟨rfl, H.out.bad _⟩

set_option maxHeartbeats 400000 in
theorem plain_go (b : Nat) (s : ByteArray) (p : Nat) (w : World) (h : Rd w b s ⟨p, false⟩) (hp : p < s.size) (hs : s.size ≤ 140737488351232) :
    Calls Try.prog 75 #[.pointer (some ⟨b, 0, none⟩)] w fun e w' => e = .returned (.int .i64 (M.bt s p)) ∧ Rd w' b s ⟨p + 1, false⟩ ∧ w.grownBy w' (some b) := by
  have H : Hid (Rd w b s ⟨p, false⟩) := h
  obtain ⟨c0, c1, c2, f1, f2⟩ := h.cells
  clear h
  have hd : decide ((s.size : Int) ≤ (p : Int)) = false := by simp; omega
  go_enter Try.func75, Try.ntmps75
  go_wp2
  go_quiet (fail)
  go_wp2
  go_quiet (fail)
  go_wp2
  go_ret
  exact ⟨ret_int (by rw [wrap_byte, bt_get s p hp]), (Blk.set (Blk.drewN H.out _) 1 _ : Blk _ _ _ _), gr_trans (gr_drewN w _ _) (gr_set _ _ _ _)⟩

theorem plain_le (s : ByteArray) (r : M.RS) (hp : r.pos ≤ s.size) : (M.plain s r).2.pos ≤ s.size ∧ 0 ≤ (M.plain s r).1 ∧ (M.plain s r).1 ≤ 255 := by
  unfold M.plain
  split
  · exact ⟨hp, by omega, by omega⟩
  · rename_i h
    simp only [Bool.or_eq_true, decide_eq_true_eq, not_or] at h
    refine ⟨by simp; omega, ?_, ?_⟩
    · simp [M.bt]
    · simp only [M.bt]; have := (s.data.toList.getD r.pos 0).toNat_lt; omega

/-- plain, by its contract. -/
theorem plain_c (b : Nat) (s : ByteArray) (r : M.RS) (w : World) (h : Rd w b s r) (hp : r.pos ≤ s.size) (hs : s.size ≤ 140737488351232) :
    Calls Try.prog 75 #[.pointer (some ⟨b, 0, none⟩)] w fun e w' => ∃ x r', Hid (M.plain s r = (x, r')) ∧ 0 ≤ x ∧ x ≤ 255 ∧ r'.pos ≤ s.size ∧ e = .returned (.int .i64 x) ∧ Rd w' b s r' ∧ w.grownBy w' (some b) := by
  have hl := plain_le s r hp
  suffices hx : Calls Try.prog 75 #[.pointer (some ⟨b, 0, none⟩)] w fun e w' => e = .returned (.int .i64 (M.plain s r).1) ∧ Rd w' b s (M.plain s r).2 ∧ w.grownBy w' (some b) from
    hx.mono fun e w' ⟨h1, h2, h3⟩ => ⟨_, _, rfl, hl.2.1, hl.2.2, hl.1, h1, h2, h3⟩
  obtain ⟨p, q⟩ := r
  cases q with
  | true =>
    have e : M.plain s ⟨p, true⟩ = (0, ⟨p, true⟩) := by simp [M.plain]
    rw [e]; exact plain_bad b s p w h
  | false =>
    by_cases hlt : p < s.size
    · have e : M.plain s ⟨p, false⟩ = (M.bt s p, ⟨p + 1, false⟩) := by simp [M.plain]; omega
      rw [e]; exact plain_go b s p w h hlt hs
    · have e : M.plain s ⟨p, false⟩ = (0, ⟨p, true⟩) := by simp [M.plain]; omega
      rw [e]; exact plain_end b s p w h (by omega) hs hp

set_option maxHeartbeats 400000 in
theorem signed_c (b : Nat) (s : ByteArray) (r : M.RS) (w : World) (h : Rd w b s r) (hp : r.pos ≤ s.size) (hs : s.size ≤ 140737488351232) :
    Calls Try.prog 93 #[.pointer (some ⟨b, 0, none⟩)] w fun e w' => ∃ x r', Hid (M.signed s r = (x, r')) ∧ -128 ≤ x ∧ x ≤ 127 ∧ r'.pos ≤ s.size ∧ e = .returned (.int .i64 x) ∧ Rd w' b s r' ∧ w.grownBy w' (some b) := by
  go_enter Try.func93, Try.ntmps93
  go_wp2_with fail
  refine (plain_c b s r _ h hp hs).mono ?_
  rintro e w1 ⟨x, r1, hx, h0, h1, hp1, rfl, hR, hg⟩
  by_cases hc : 127 < x
  · go_wp2
    go_ret
    exact ⟨_, _, by simp only [Hid, M.signed, hx.out, if_pos hc], by omega, by omega, hp1, rfl, hR, hg⟩
  · go_wp2
    go_ret
    exact ⟨_, _, by simp only [Hid, M.signed, hx.out, if_neg (Int.not_lt.2 hc)], by omega, by omega, hp1, rfl, hR, hg⟩

set_option maxHeartbeats 400000 in
theorem within_c (b : Nat) (s : ByteArray) (r : M.RS) (lo hi : Int) (w : World) (h : Rd w b s r) (hp : r.pos ≤ s.size) (hs : s.size ≤ 140737488351232) (_hl : 0 ≤ lo) (_hh : lo ≤ hi) (_h2 : hi ≤ 255):
    Calls Try.prog 92 #[.pointer (some ⟨b, 0, none⟩), .int .i64 lo, .int .i64 hi] w fun e w' => ∃ x r', Hid (M.within s lo hi r = (x, r')) ∧ 0 ≤ x ∧ x ≤ hi ∧ r'.pos ≤ s.size ∧ e = .returned (.int .i64 x) ∧ Rd w' b s r' ∧ w.grownBy w' (some b) := by
  go_enter Try.func92, Try.ntmps92
  go_wp2_with fail
  refine (plain_c b s r _ h hp hs).mono ?_
  rintro e w1 ⟨x, r1, hx, h0, h1, hp1, rfl, hR, hg⟩
  obtain ⟨c0, c1, c2, f1, f2⟩ := hR.cells
  by_cases hc : x < lo
  · go_wp2
    go_ret
    refine ⟨0, ⟨r1.pos, true⟩, by simp [Hid, M.within, hx.out, hc], by omega, by omega, hp1, rfl, ?_⟩
    exact ⟨Blk.set hR 2 _, gr_trans hg (gr_set _ _ _ _)⟩
  · by_cases hd : hi < x
    · go_wp2
      go_ret
      refine ⟨0, ⟨r1.pos, true⟩, by simp [Hid, M.within, hx.out, hd], by omega, by omega, hp1, rfl, ?_⟩
      exact ⟨Blk.set hR 2 _, gr_trans hg (gr_set _ _ _ _)⟩
    · go_wp2
      go_ret
      exact ⟨x, r1, by simp only [Hid, M.within, hx.out]; rw [if_neg (by simp; omega)], by omega, by omega, hp1, rfl, hR, hg⟩

set_option maxHeartbeats 400000 in
theorem word_c (b : Nat) (s : ByteArray) (r : M.RS) (w : World) (h : Rd w b s r) (hp : r.pos ≤ s.size) (hs : s.size ≤ 140737488351232) :
    Calls Try.prog 104 #[.pointer (some ⟨b, 0, none⟩)] w fun e w' => ∃ x r', Hid (M.word s r = (x, r')) ∧ -2147483648 ≤ x ∧ x ≤ 2147483647 ∧ r'.pos ≤ s.size ∧ e = .returned (.int .i64 x) ∧ Rd w' b s r' ∧ w.grownBy w' (some b) := by
  go_enter Try.func104, Try.ntmps104
  go_wp2_with fail
  refine (plain_c b s r _ h hp hs).mono ?_
  rintro e w1 ⟨x1, r1, hx1, l1, u1, hp1, rfl, hR1, hg1⟩
  go_wp2_with fail
  refine (plain_c b s r1 _ hR1 hp1 hs).mono ?_
  rintro e w2 ⟨x2, r2, hx2, l2, u2, hp2, rfl, hR2, hg2⟩
  go_wp2_with fail
  refine (plain_c b s r2 _ hR2 hp2 hs).mono ?_
  rintro e w3 ⟨x3, r3, hx3, l3, u3, hp3, rfl, hR3, hg3⟩
  go_wp2_with fail
  refine (signed_c b s r3 _ hR3 hp3 hs).mono ?_
  rintro e w4 ⟨x4, r4, hx4, l4, u4, hp4, rfl, hR4, hg4⟩
  go_wp2
  go_ret
  exact ⟨_, _, by simp only [Hid, M.word, hx1.out, hx2.out, hx3.out, hx4.out], by omega, by omega, hp4, rfl, hR4, gr_trans hg1 (gr_trans hg2 (gr_trans hg3 hg4))⟩

theorem has_yes {s : ByteArray} {n : Int} {r : M.RS} (h : (s.size : Int) - r.pos < n) : M.has s n r = (false, ⟨r.pos, true⟩) := by simp [M.has, h]
theorem has_no {s : ByteArray} {n : Int} {r : M.RS} (h : n ≤ (s.size : Int) - r.pos) : M.has s n r = (!r.bad, r) := by unfold M.has; rw [if_neg (by omega)]

set_option maxHeartbeats 400000 in
theorem has_c (b : Nat) (s : ByteArray) (r : M.RS) (n : Int) (w : World) (h : Rd w b s r) (hp : r.pos ≤ s.size) (_hs : s.size ≤ 140737488351232) (_h0 : 0 ≤ n) (_h1 : n ≤ 140737488351232) :
    Calls Try.prog 78 #[.pointer (some ⟨b, 0, none⟩), .int .i64 n] w fun e w' => ∃ x r', Hid (M.has s n r = (x, r')) ∧ r'.pos ≤ s.size ∧ e = .returned (.bool x) ∧ Rd w' b s r' ∧ w.grownBy w' (some b) := by
  obtain ⟨c0, c1, c2, f1, f2⟩ := h.cells
  have H : Hid (Rd w b s r) := h
  clear h
  by_cases hc : (s.size : Int) - r.pos < n
  · have hc' : decide ((s.size : Int) - (r.pos : Int) < n) = true := by simpa using hc
    go_enter Try.func78, Try.ntmps78
    go_wp2
    go_quiet (fail)
    go_wp2
    go_ret
    exact ⟨_, _, has_yes hc, hp, rfl, Blk.set (Blk.drewN H.out _) 2 _, gr_trans (gr_drewN w _ _) (gr_set _ _ _ _)⟩
  · have hc' : decide ((s.size : Int) - (r.pos : Int) < n) = false := by simpa using hc
    go_enter Try.func78, Try.ntmps78
    go_wp2
    go_quiet (fail)
    go_wp2
    go_ret
    exact ⟨_, _, has_no (by omega), hp, rfl, Blk.drewN H.out _, gr_drewN w _ _⟩

end Go.Proofs.Ythfbllgbljimiaa
