/-
  The reader's lists of numbers: cells, words, outs.
-/
import Derived.Test.YthfbllgbljimiaaRd1
namespace Go.Proofs.Ythfbllgbljimiaa
open Go.RowKit

theorem Try.info3 : (Try.prog.info? 3).map (fun i => (i.zero, i.size, i.bytes)) = some (some (.int .i64 0), 1, 8) := by kernel_rfl

/-- v is a slice of the numbers xs, in a block from base on. -/
def Ints (w : World) (base : Nat) (v : Value) (xs : List Int) : Prop := w.ownsRow base 3 1 v xs.length (xs.map (Value.int .i64))

theorem Ints.mono {w : World} {base base' : Nat} {v : Value} {xs : List Int} (h : Ints w base v xs) (hb : base' ≤ base) : Ints w base' v xs := by
  refine ⟨h.1, ?_⟩
  rcases h.2 with h2 | ⟨g, cap, cur, h1, h2, h3⟩
  · exact .inl h2
  · exact .inr ⟨g, cap, cur, h1, Nat.le_trans hb h2, h3⟩

theorem Ints.nil (w : World) (base : Nat) : Ints w base (.slice none 0 0) [] := World.ownsRow_nil _ _ _ _

theorem Ints.kept {w w' : World} {base b : Nat} {v : Value} {xs : List Int} (h : Ints w base v xs) (hg : w.grownBy w' (some b)) (hb : b < base) : Ints w' base v xs := by
  refine World.ownsRow.kept h hg ?_
  cases hv : v.ownBlock with
  | none => exact .inl rfl
  | some g => exact .inr (by have := (World.ownsRow.lt h g hv).1; intro e; injection e with e; omega)

theorem Ints.kept0 {w w' : World} {base : Nat} {v : Value} {xs : List Int} (h : Ints w base v xs) (hg : w.grownBy w' none) : Ints w' base v xs := by
  refine World.ownsRow.kept h hg ?_
  cases hv : v.ownBlock with
  | none => exact .inl rfl
  | some g => exact .inr (by simp)

theorem Ints.of_blk {w : World} {base g n : Nat} {xs : List Int} (hb : base ≤ g) (hn : xs.length = n) (hm : n ≤ maxLen) (h : Blk w g 3 (xs.map (Value.int .i64)).toArray) : Ints w base (.slice (some ⟨g, 0, none⟩) n n) xs := by
  subst hn
  exact ⟨by simp, .inr ⟨g, _, _, rfl, hb, h, Nat.le_refl _, hm, by simp, List.take_of_length_le (by simp)⟩⟩

theorem has_true {s : ByteArray} {n : Int} {r r' : M.RS} (h : M.has s n r = (true, r')) : n ≤ (s.size : Int) - r.pos ∧ r' = r := by
  unfold M.has at h
  split at h
  · simp at h
  · simp only [Prod.mk.injEq] at h; exact ⟨by omega, h.2.symm⟩

/-- What stands in the row behind k rounds. -/
def half (f : M.RS → Int × M.RS) (n k : Nat) (r : M.RS) : Array Value := (((M.rep f k r).1 ++ List.replicate (n - k) 0).map (Value.int .i64)).toArray

theorem rep_len {α : Type} (f : M.RS → α × M.RS) (k : Nat) (r : M.RS) : (M.rep f k r).1.length = k := by
  induction k with
  | zero => rfl
  | succ k ih => simp [M.rep, ih]

theorem half_set (f : M.RS → Int × M.RS) (n k : Nat) (r : M.RS) (h : k < n) (x : Int) (hx : (f (M.rep f k r).2).1 = x) : (half f n k r).setIfInBounds k (.int .i64 x) = half f n (k + 1) r := by
  have hl := rep_len f k r
  have e : n - k = (n - (k + 1)) + 1 := by omega
  unfold half
  rw [e, List.replicate_succ]
  apply Array.toList_inj.1
  rw [Array.toList_setIfInBounds]
  simp only [M.rep, List.map_append, List.map_cons, List.map_nil, List.append_assoc, hx]
  rw [List.set_append_right _ _ (by simp [hl])]
  simp [hl]

theorem half_size (f : M.RS → Int × M.RS) (n k : Nat) (r : M.RS) (h : k ≤ n) : (half f n k r).size = n := by
  have hl := rep_len f k r
  simp [half, hl]; omega

theorem half_get (f : M.RS → Int × M.RS) (n k j : Nat) (r : M.RS) (h : k ≤ n) (hj : j < n) : ∃ x, (half f n k r)[j]? = some (.int .i64 x) := by
  have hl := rep_len f k r
  have hz := half_size f n k r h
  rw [Array.getElem?_eq_getElem (by omega)]
  unfold half
  rw [List.getElem_toArray, List.getElem_map]
  exact ⟨_, rfl⟩

theorem half_zero (f : M.RS → Int × M.RS) (n : Nat) (r : M.RS) : half f n 0 r = (List.replicate n (Value.int .i64 0)).toArray := by simp [half, M.rep]
theorem half_full (f : M.RS → Int × M.RS) (n : Nat) (r : M.RS) : half f n n r = ((M.rep f n r).1.map (Value.int .i64)).toArray := by simp [half]

/-- What a make of n numbers lays. -/
theorem made_blk {w : World} {base g n : Nat} (h : w.ownsRow base 3 1 (.slice (some ⟨g, 0, none⟩) n n) n (madeCells #[Value.int .i64 0] n).toList) : Blk w g 3 (List.replicate n (Value.int .i64 0)).toArray := by
  rcases h.2 with ⟨h', _⟩ | ⟨g', cap', cur, h', _, hg, _, _, hz, ht⟩
  · simp at h'
  · simp only [Value.slice.injEq, Option.some.injEq, Addr.mk.injEq, and_true, true_and] at h'
    obtain ⟨rfl, rfl⟩ := h'
    unfold Blk
    rw [hg]
    have e : cur.toList = List.replicate n (Value.int .i64 0) := by
      rw [List.take_of_length_le (by simp [hz])] at ht
      rw [ht]
      exact toList_madeCells_one _ _
    rw [← e]

theorem signed_pos (s : ByteArray) (r : M.RS) (h : r.pos ≤ s.size) : (M.signed s r).2.pos ≤ s.size := (plain_le s r h).1
theorem plain_pos (s : ByteArray) (r : M.RS) (h : r.pos ≤ s.size) : (M.plain s r).2.pos ≤ s.size := (plain_le s r h).1
theorem word_pos (s : ByteArray) (r : M.RS) (h : r.pos ≤ s.size) : (M.word s r).2.pos ≤ s.size :=
  signed_pos s _ (plain_le s _ (plain_le s _ (plain_le s r h).1).1).1

theorem rep_pos {α : Type} {f : M.RS → α × M.RS} {s : ByteArray} (hf : ∀ r, r.pos ≤ s.size → (f r).2.pos ≤ s.size) (k : Nat) (r : M.RS) (h : r.pos ≤ s.size) : (M.rep f k r).2.pos ≤ s.size := by
  induction k with
  | zero => exact h
  | succ k ih => exact hf _ ih

set_option maxHeartbeats 400000 in
theorem cells_c (b : Nat) (s : ByteArray) (r : M.RS) (n : Nat) (w : World) (h : Rd w b s r) (hp : r.pos ≤ s.size) (hs : s.size ≤ 4096) (hn : n ≤ 16777216) :
    Calls Try.prog 94 #[.pointer (some ⟨b, 0, none⟩), .int .i64 n] w fun e w' => ∃ v l r', Hid (M.cells s n r = (l, r')) ∧ r'.pos ≤ s.size ∧ e = .returned v ∧ Ints w' w.heap.size v l ∧ Rd w' b s r' ∧ w.grownBy w' (some b) := by
  obtain ⟨i0, hi, hz0, hz1, hz2⟩ := info_parts Try.info3
  have hbl := h.lt
  go_enter Try.func94, Try.ntmps94
  go_wp2_with fail
  refine (has_c b s r n _ h hp (by omega) (by omega) (by omega)).mono ?_
  rintro e w1 ⟨x, r1, hx, hp1, rfl, hR1, hg1⟩
  cases x with
  | false =>
    go_wp2
    go_ret
    exact ⟨_, [], r1, by simp [Hid, M.cells, hx.out], hp1, rfl, Ints.nil _ _, hR1, hg1⟩
  | true =>
    have hle := has_true hx.out
    obtain ⟨hle, rfl⟩ := hle
    go_wp2_with (at_make; refine wpList_make_full _ rfl _ _ 35 rfl w1.heap.size 3 i0 (.int .i64 0) 1 Try.underlying35 hi hz0 hz1 _ _ _ _ n rfl rfl rfl rfl ?c1 ?c2 ?c3 ?_)
    case c1 => rw [hz2]; omega
    case c2 => unfold maxLen; omega
    case c3 => exact Nat.le_refl _
    intro w2 hown hg2
    have hB := made_blk hown
    have hR2 : Rd w2 b s r1 := Blk.kept hR1 hg2 (by simp)
    have hgw : w.grownBy w2 (some b) := gr_trans hg1 (gr_none hg2)
    have hsz : w.heap.size ≤ w1.heap.size := hg1.size
    have hbl2 : b < w1.heap.size := Nat.lt_of_lt_of_le hbl hsz
    rw [← half_zero (M.signed s) n r1] at hB
    clear hown
    go_wp2
    go_loopw [15] (fun i wr => ∃ k : Nat, k ≤ n ∧ i = .int .i64 k ∧ Rd wr b s (M.rep (M.signed s) k r1).2 ∧ Blk wr w1.heap.size 3 (half (M.signed s) n k r1) ∧ w.grownBy wr (some b)) (fun i _ => n - (intOf i).toNat)
    case atStart => exact ⟨0, Nat.zero_le _, rfl, hR2, hB, hgw⟩
    case round =>
      obtain ⟨k, hk, rfl, hRk, hBk, hgk⟩ := hrel
      have hpk : (M.rep (M.signed s) k r1).2.pos ≤ s.size := rep_pos (fun r hr => (signed_pos s r hr)) k r1 hp1
      by_cases hlt : k < n
      · have hst := fun x hx => half_set (M.signed s) n k r1 hlt x hx
        generalize hrk : (M.rep (M.signed s) k r1).2 = rk at *
        have HST := hide hst
        have Hrk := hide hrk
        clear hst hrk
        go_wp2_with fail
        refine (signed_c b s rk _ hRk hpk (by omega)).mono ?_
        rintro e w3 ⟨x, r3, hx3, l3, u3, hp3, rfl, hR3, hg3⟩
        have hB3 : Blk w3 w1.heap.size 3 (half (M.signed s) n k r1) := hBk.kept hg3 (by simp; omega)
        obtain ⟨y, hy⟩ := half_get (M.signed s) n k k r1 hk hlt
        have hc := hB3.cell k
        rw [hy] at hc
        have hf := hB3.free k
        go_wp2
        go_roundw
        case rel =>
          refine ⟨k + 1, by omega, by go_num, ?_, ?_, ?_⟩
          · have e : (M.rep (M.signed s) (k + 1) r1).2 = r3 := by simp only [M.rep]; rw [unhide Hrk, hx3.out]
            rw [e]; exact Blk.other hR3 (by simp; omega) _
          · rw [← unhide HST x (by rw [hx3.out])]; exact Blk.set hB3 k _
          · exact gr_new (gr_trans hgk hg3) (gr_set _ _ _ _) hsz
        case measure => simp [intOf]; omega
      · obtain rfl : k = n := by omega
        go_wp2
        go_ret
        refine ⟨_, _, _, by simp only [Hid, M.cells, hx.out]; rfl, by simpa using hpk, rfl, ?_, by simpa using hRk, hgk⟩
        rw [half_full] at hBk
        exact Ints.of_blk hsz (by simp [rep_len]) (by unfold maxLen; omega) (by simpa using hBk)

set_option maxHeartbeats 400000 in
theorem words_c (b : Nat) (s : ByteArray) (r : M.RS) (n : Nat) (w : World) (h : Rd w b s r) (hp : r.pos ≤ s.size) (hs : s.size ≤ 4096) (hn : n ≤ 16777216) :
    Calls Try.prog 95 #[.pointer (some ⟨b, 0, none⟩), .int .i64 n] w fun e w' => ∃ v l r', Hid (M.words s n r = (l, r')) ∧ r'.pos ≤ s.size ∧ e = .returned v ∧ Ints w' w.heap.size v l ∧ Rd w' b s r' ∧ w.grownBy w' (some b) := by
  obtain ⟨i0, hi, hz0, hz1, hz2⟩ := info_parts Try.info3
  have hbl := h.lt
  go_enter Try.func95, Try.ntmps95
  go_wp2_with fail
  refine (has_c b s r (4 * n) _ h hp (by omega) (by omega) (by omega)).mono ?_
  rintro e w1 ⟨x, r1, hx, hp1, rfl, hR1, hg1⟩
  cases x with
  | false =>
    go_wp2
    go_ret
    exact ⟨_, [], r1, by simp [Hid, M.words, hx.out], hp1, rfl, Ints.nil _ _, hR1, hg1⟩
  | true =>
    have hle := has_true hx.out
    obtain ⟨hle, rfl⟩ := hle
    go_wp2_with (at_make; refine wpList_make_full _ rfl _ _ 35 rfl w1.heap.size 3 i0 (.int .i64 0) 1 Try.underlying35 hi hz0 hz1 _ _ _ _ n rfl rfl rfl rfl ?c1 ?c2 ?c3 ?_)
    case c1 => rw [hz2]; omega
    case c2 => unfold maxLen; omega
    case c3 => exact Nat.le_refl _
    intro w2 hown hg2
    have hB := made_blk hown
    have hR2 : Rd w2 b s r1 := Blk.kept hR1 hg2 (by simp)
    have hgw : w.grownBy w2 (some b) := gr_trans hg1 (gr_none hg2)
    have hsz : w.heap.size ≤ w1.heap.size := hg1.size
    have hbl2 : b < w1.heap.size := Nat.lt_of_lt_of_le hbl hsz
    rw [← half_zero (M.word s) n r1] at hB
    clear hown
    go_wp2
    go_loopw [16] (fun i wr => ∃ k : Nat, k ≤ n ∧ i = .int .i64 k ∧ Rd wr b s (M.rep (M.word s) k r1).2 ∧ Blk wr w1.heap.size 3 (half (M.word s) n k r1) ∧ w.grownBy wr (some b)) (fun i _ => n - (intOf i).toNat)
    case atStart => exact ⟨0, Nat.zero_le _, rfl, hR2, hB, hgw⟩
    case round =>
      obtain ⟨k, hk, rfl, hRk, hBk, hgk⟩ := hrel
      have hpk : (M.rep (M.word s) k r1).2.pos ≤ s.size := rep_pos (fun r hr => (word_pos s r hr)) k r1 hp1
      by_cases hlt : k < n
      · have hst := fun x hx => half_set (M.word s) n k r1 hlt x hx
        generalize hrk : (M.rep (M.word s) k r1).2 = rk at *
        have HST := hide hst
        have Hrk := hide hrk
        clear hst hrk
        go_wp2_with fail
        refine (word_c b s rk _ hRk hpk (by omega)).mono ?_
        rintro e w3 ⟨x, r3, hx3, l3, u3, hp3, rfl, hR3, hg3⟩
        have hB3 : Blk w3 w1.heap.size 3 (half (M.word s) n k r1) := hBk.kept hg3 (by simp; omega)
        obtain ⟨y, hy⟩ := half_get (M.word s) n k k r1 hk hlt
        have hc := hB3.cell k
        rw [hy] at hc
        have hf := hB3.free k
        go_wp2
        go_roundw
        case rel =>
          refine ⟨k + 1, by omega, by go_num, ?_, ?_, ?_⟩
          · have e : (M.rep (M.word s) (k + 1) r1).2 = r3 := by simp only [M.rep]; rw [unhide Hrk, hx3.out]
            rw [e]; exact Blk.other hR3 (by simp; omega) _
          · rw [← unhide HST x (by rw [hx3.out])]; exact Blk.set hB3 k _
          · exact gr_new (gr_trans hgk hg3) (gr_set _ _ _ _) hsz
        case measure => simp [intOf]; omega
      · obtain rfl : k = n := by omega
        go_wp2
        go_ret
        refine ⟨_, _, _, by simp only [Hid, M.words, hx.out]; rfl, by simpa using hpk, rfl, ?_, by simpa using hRk, hgk⟩
        rw [half_full] at hBk
        exact Ints.of_blk hsz (by simp [rep_len]) (by unfold maxLen; omega) (by simpa using hBk)

set_option maxHeartbeats 400000 in
theorem outs_c (b : Nat) (s : ByteArray) (r : M.RS) (w : World) (h : Rd w b s r) (hp : r.pos ≤ s.size) (hs : s.size ≤ 4096) :
    Calls Try.prog 59 #[.pointer (some ⟨b, 0, none⟩)] w fun e w' => ∃ v l r', Hid (M.outs s r = (l, r')) ∧ r'.pos ≤ s.size ∧ e = .returned v ∧ Ints w' w.heap.size v l ∧ Rd w' b s r' ∧ w.grownBy w' (some b) := by
  obtain ⟨i0, hi, hz0, hz1, hz2⟩ := info_parts Try.info3
  have hbl := h.lt
  go_enter Try.func59, Try.ntmps59
  go_wp2_with fail
  refine (plain_c b s r _ h hp (by omega)).mono ?_
  rintro e w0 ⟨x0, r0, hx0, l0, u0, hp0, rfl, hR0, hg0⟩
  obtain ⟨n, rfl⟩ := Int.eq_ofNat_of_zero_le l0
  have hn : n ≤ 255 := by omega
  go_wp2_with fail
  refine (has_c b s r0 n _ hR0 hp0 (by omega) (by omega) (by omega)).mono ?_
  rintro e w1 ⟨x, r1, hx, hp1, rfl, hR1, hg01⟩
  have hg1 : w.grownBy w1 (some b) := gr_trans hg0 hg01
  cases x with
  | false =>
    go_wp2
    go_ret
    exact ⟨_, [], r1, by simp [Hid, M.outs, hx0.out, hx.out], hp1, rfl, Ints.nil _ _, hR1, hg1⟩
  | true =>
    have hle := has_true hx.out
    obtain ⟨hle, rfl⟩ := hle
    go_wp2_with (at_make; refine wpList_make_full _ rfl _ _ 35 rfl w1.heap.size 3 i0 (.int .i64 0) 1 Try.underlying35 hi hz0 hz1 _ _ _ _ n rfl rfl rfl rfl ?c1 ?c2 ?c3 ?_)
    case c1 => rw [hz2]; omega
    case c2 => unfold maxLen; omega
    case c3 => exact Nat.le_refl _
    intro w2 hown hg2
    have hB := made_blk hown
    have hR2 : Rd w2 b s r1 := Blk.kept hR1 hg2 (by simp)
    have hgw : w.grownBy w2 (some b) := gr_trans hg1 (gr_none hg2)
    have hsz : w.heap.size ≤ w1.heap.size := hg1.size
    have hbl2 : b < w1.heap.size := Nat.lt_of_lt_of_le hbl hsz
    rw [← half_zero (M.plain s) n r1] at hB
    clear hown
    go_wp2
    go_loopw [16] (fun i wr => ∃ k : Nat, k ≤ n ∧ i = .int .i64 k ∧ Rd wr b s (M.rep (M.plain s) k r1).2 ∧ Blk wr w1.heap.size 3 (half (M.plain s) n k r1) ∧ w.grownBy wr (some b)) (fun i _ => n - (intOf i).toNat)
    case atStart => exact ⟨0, Nat.zero_le _, rfl, hR2, hB, hgw⟩
    case round =>
      obtain ⟨k, hk, rfl, hRk, hBk, hgk⟩ := hrel
      have hpk : (M.rep (M.plain s) k r1).2.pos ≤ s.size := rep_pos (fun r hr => (plain_pos s r hr)) k r1 hp1
      by_cases hlt : k < n
      · have hst := fun x hx => half_set (M.plain s) n k r1 hlt x hx
        generalize hrk : (M.rep (M.plain s) k r1).2 = rk at *
        have HST := hide hst
        have Hrk := hide hrk
        clear hst hrk
        go_wp2_with fail
        refine (plain_c b s rk _ hRk hpk (by omega)).mono ?_
        rintro e w3 ⟨x, r3, hx3, l3, u3, hp3, rfl, hR3, hg3⟩
        have hB3 : Blk w3 w1.heap.size 3 (half (M.plain s) n k r1) := hBk.kept hg3 (by simp; omega)
        obtain ⟨y, hy⟩ := half_get (M.plain s) n k k r1 hk hlt
        have hc := hB3.cell k
        rw [hy] at hc
        have hf := hB3.free k
        go_wp2
        go_roundw
        case rel =>
          refine ⟨k + 1, by omega, by go_num, ?_, ?_, ?_⟩
          · have e : (M.rep (M.plain s) (k + 1) r1).2 = r3 := by simp only [M.rep]; rw [unhide Hrk, hx3.out]
            rw [e]; exact Blk.other hR3 (by simp; omega) _
          · rw [← unhide HST x (by rw [hx3.out])]; exact Blk.set hB3 k _
          · exact gr_new (gr_trans hgk hg3) (gr_set _ _ _ _) hsz
        case measure => simp [intOf]; omega
      · obtain rfl : k = n := by omega
        go_wp2
        go_ret
        refine ⟨_, _, _, by simp only [Hid, M.outs, hx0.out, hx.out, Int.toNat_natCast]; rfl, by simpa using hpk, rfl, ?_, by simpa using hRk, hgk⟩
        rw [half_full] at hBk
        exact Ints.of_blk hsz (by simp [rep_len]) (by unfold maxLen; omega) (by simpa using hBk)

theorem Ints.shape {w : World} {base : Nat} {v : Value} {xs : List Int} (h : Ints w base v xs) : ∃ ao m c, v = .slice ao m c := by
  rcases h.2 with ⟨rfl, _⟩ | ⟨g, cap, cur, rfl, _⟩
  · exact ⟨_, _, _, rfl⟩
  · exact ⟨_, _, _, rfl⟩

theorem cells_s (b : Nat) (s : ByteArray) (r : M.RS) (n : Nat) (w : World) (h : Rd w b s r) (hp : r.pos ≤ s.size) (hs : s.size ≤ 4096) (hn : n ≤ 16777216) :
    Calls Try.prog 94 #[.pointer (some ⟨b, 0, none⟩), .int .i64 n] w fun e w' => ∃ ao m c l r', Hid (M.cells s n r = (l, r')) ∧ r'.pos ≤ s.size ∧ e = .returned (.slice ao m c) ∧ Ints w' w.heap.size (.slice ao m c) l ∧ Rd w' b s r' ∧ w.grownBy w' (some b) :=
  (cells_c b s r n w h hp hs hn).mono fun e w' ⟨v, l, r', h1, h2, h3, h4, h5, h6⟩ => by
    obtain ⟨ao, m, c, rfl⟩ := h4.shape
    exact ⟨ao, m, c, l, r', h1, h2, h3, h4, h5, h6⟩

theorem words_s (b : Nat) (s : ByteArray) (r : M.RS) (n : Nat) (w : World) (h : Rd w b s r) (hp : r.pos ≤ s.size) (hs : s.size ≤ 4096) (hn : n ≤ 16777216) :
    Calls Try.prog 95 #[.pointer (some ⟨b, 0, none⟩), .int .i64 n] w fun e w' => ∃ ao m c l r', Hid (M.words s n r = (l, r')) ∧ r'.pos ≤ s.size ∧ e = .returned (.slice ao m c) ∧ Ints w' w.heap.size (.slice ao m c) l ∧ Rd w' b s r' ∧ w.grownBy w' (some b) :=
  (words_c b s r n w h hp hs hn).mono fun e w' ⟨v, l, r', h1, h2, h3, h4, h5, h6⟩ => by
    obtain ⟨ao, m, c, rfl⟩ := h4.shape
    exact ⟨ao, m, c, l, r', h1, h2, h3, h4, h5, h6⟩

end Go.Proofs.Ythfbllgbljimiaa
