/-
  The reader's list of tensors.
-/
import Derived.Test.YthfbllgbljimiaaRd3
namespace Go.Proofs.Ythfbllgbljimiaa
open Go.RowKit

theorem Try.info72 : (Try.prog.info? 72).map (fun i => (i.zero, i.size, i.bytes)) = some (some (.agg #[.int .i64 0, .int .i64 0, .int .i64 0, .int .i64 0, .int .i64 0, .slice none 0 0]), 6, 64) := by kernel_rfl

theorem tensor_s (b : Nat) (s : ByteArray) (r : M.RS) (w : World) (h : Rd w b s r) (hp : r.pos ≤ s.size) (hs : s.size ≤ 4096) :
    Calls Try.prog 76 #[.pointer (some ⟨b, 0, none⟩)] w fun e w' => ∃ t ao m c r', Hid (M.tensor s r = (t, r')) ∧ WfT t ∧ r'.pos ≤ s.size ∧
      e = .returned (.agg #[.int .i64 t.kind, .int .i64 t.h, .int .i64 t.w, .int .i64 t.c, .int .i64 t.zero, .slice ao m c]) ∧ Ints w' w.heap.size (.slice ao m c) t.data ∧ Rd w' b s r' ∧ w.grownBy w' (some b) :=
  (tensor_c b s r w h hp hs).mono fun e w' ⟨t, dv, r', h1, h2, h3, h4, h5, h6, h7⟩ => by
    obtain ⟨ao, m, c, rfl⟩ := h5.shape
    exact ⟨t, ao, m, c, r', h1, h2, h3, h4, h5, h6, h7⟩

/-- v is a slice of the tensors ts, in blocks from base on. -/
def Tns (w : World) (base : Nat) (v : Value) (ts : List M.Tn) : Prop :=
  ∃ ps : List (M.Tn × Value), ps.map (·.1) = ts ∧ w.ownsRow base 72 6 v ts.length (ps.flatMap fun p => (tval p.1 p.2).toList) ∧ ∀ p ∈ ps, Ints w base p.2 p.1.data

theorem Tns.nil (w : World) (base : Nat) : Tns w base (.slice none 0 0) [] := ⟨[], rfl, World.ownsRow_nil _ _ _ _, by simp⟩

theorem owns_mono {w : World} {base base' : Nat} {e : TypeId} {size n : Nat} {v : Value} {xs : List Value} (h : w.ownsRow base e size v n xs) (hb : base' ≤ base) : w.ownsRow base' e size v n xs := by
  refine ⟨h.1, ?_⟩
  rcases h.2 with h2 | ⟨g, cap, cur, h1, h2, h3⟩
  · exact .inl h2
  · exact .inr ⟨g, cap, cur, h1, Nat.le_trans hb h2, h3⟩

theorem owns_kept {w w' : World} {base b : Nat} {e : TypeId} {size n : Nat} {v : Value} {xs : List Value} (h : w.ownsRow base e size v n xs) (hg : w.grownBy w' (some b)) (hb : b < base) : w'.ownsRow base e size v n xs := by
  refine World.ownsRow.kept h hg ?_
  cases hv : v.ownBlock with
  | none => exact .inl rfl
  | some g => exact .inr (by have := (World.ownsRow.lt h g hv).1; intro e; injection e with e; omega)

theorem owns_kept0 {w w' : World} {base : Nat} {e : TypeId} {size n : Nat} {v : Value} {xs : List Value} (h : w.ownsRow base e size v n xs) (hg : w.grownBy w' none) : w'.ownsRow base e size v n xs := by
  refine World.ownsRow.kept h hg ?_
  cases hv : v.ownBlock with
  | none => exact .inl rfl
  | some g => exact .inr (by simp)

/-- What is owned in a row of another type stays owned. -/
theorem owns_apart {w w' : World} {base base2 : Nat} {e e2 : TypeId} {size size2 n n2 : Nat} {v v2 : Value} {xs xs2 : List Value} (h : w.ownsRow base e size v n xs) (h2 : w.ownsRow base2 e2 size2 v2 n2 xs2) (hne : e ≠ e2) (hg : w.grownBy w' v2.ownBlock) : w'.ownsRow base e size v n xs := by
  refine World.ownsRow.kept h hg ?_
  rcases h.2 with ⟨rfl, _⟩ | ⟨g, cap, cur, rfl, _, hh, _⟩
  · exact .inl rfl
  · refine .inr ?_
    rcases h2.2 with ⟨rfl, _⟩ | ⟨g2, cap2, cur2, rfl, _, hh2, _⟩
    · simp [Value.ownBlock]
    · simp only [Value.ownBlock, ne_eq, Option.some.injEq]
      intro e3
      subst e3
      rw [hh] at hh2
      simp at hh2
      exact hne hh2.2

theorem owns_row_lt {w : World} {base : Nat} {e : TypeId} {size n : Nat} {v : Value} {xs : List Value} (h : w.ownsRow base e size v n xs) : ∀ g, v.ownBlock = some g → base ≤ g := fun g hg => (World.ownsRow.lt h g hg).1

theorem Tns.kept {w w' : World} {base b : Nat} {v : Value} {ts : List M.Tn} (h : Tns w base v ts) (hg : w.grownBy w' (some b)) (hb : b < base) : Tns w' base v ts := by
  obtain ⟨ps, h1, h2, h3⟩ := h
  exact ⟨ps, h1, owns_kept h2 hg hb, fun p hp => (h3 p hp).kept hg hb⟩
theorem Tns.kept0 {w w' : World} {base : Nat} {v : Value} {ts : List M.Tn} (h : Tns w base v ts) (hg : w.grownBy w' none) : Tns w' base v ts := by
  obtain ⟨ps, h1, h2, h3⟩ := h
  exact ⟨ps, h1, owns_kept0 h2 hg, fun p hp => (h3 p hp).kept0 hg⟩
theorem Tns.mono {w : World} {base base' : Nat} {v : Value} {ts : List M.Tn} (h : Tns w base v ts) (hb : base' ≤ base) : Tns w base' v ts := by
  obtain ⟨ps, h1, h2, h3⟩ := h
  exact ⟨ps, h1, owns_mono h2 hb, fun p hp => (h3 p hp).mono hb⟩

theorem repOk_stop {α : Type} (f : M.RS → α × M.RS) (k j : Nat) (r : M.RS) (h : (M.repOk f k r).2.bad = true) : M.repOk f (k + j) r = M.repOk f k r := by
  induction j with
  | zero => rfl
  | succ j ih => rw [← Nat.add_assoc, M.repOk, ih, if_pos h]
theorem repOk_end {α : Type} (f : M.RS → α × M.RS) (k n : Nat) (r : M.RS) (hk : k ≤ n) (h : (M.repOk f k r).2.bad = true) : M.repOk f n r = M.repOk f k r := by
  obtain ⟨j, rfl⟩ := Nat.exists_eq_add_of_le hk
  exact repOk_stop f k j r h
theorem repOk_len {α : Type} (f : M.RS → α × M.RS) (k : Nat) (r : M.RS) : (M.repOk f k r).1.length ≤ k := by
  induction k with
  | zero => simp [M.repOk]
  | succ k ih =>
    rw [M.repOk]
    split
    · omega
    · simp; omega

theorem Tns.snoc {w w2 : World} {B : Nat} {v v' : Value} {ps : List (M.Tn × Value)} {ts : List M.Tn} {t : M.Tn} {dv : Value} (h1 : ps.map (·.1) = ts) (h2 : w.ownsRow B 72 6 v ts.length (ps.flatMap fun p => (tval p.1 p.2).toList)) (h3 : ∀ p ∈ ps, Ints w B p.2 p.1.data)
    (hd : Ints w B dv t.data) (hg2 : w.grownBy w2 v.ownBlock)
    (hown : w2.ownsRow B 72 6 v' (ts.length + 1) ((ps.flatMap fun p => (tval p.1 p.2).toList) ++ (tval t dv).toList)) : Tns w2 B v' (ts ++ [t]) := by
  refine ⟨ps ++ [(t, dv)], by simp [h1], by simpa using hown, ?_⟩
  intro p hp
  rcases List.mem_append.1 hp with hp | hp
  · exact owns_apart (h3 p hp) h2 (by decide) hg2
  · simp at hp
    subst hp
    exact owns_apart hd h2 (by decide) hg2

theorem repOk_pos {α : Type} {f : M.RS → α × M.RS} {s : ByteArray} (hf : ∀ r, r.pos ≤ s.size → (f r).2.pos ≤ s.size) (k : Nat) (r : M.RS) (h : r.pos ≤ s.size) : (M.repOk f k r).2.pos ≤ s.size := by
  induction k with
  | zero => exact h
  | succ k ih =>
    rw [M.repOk]
    split
    · exact ih
    · exact hf _ ih

set_option maxHeartbeats 800000 in
theorem tensors_c (b : Nat) (s : ByteArray) (r : M.RS) (w : World) (h : Rd w b s r) (hp : r.pos ≤ s.size) (hs : s.size ≤ 4096) :
    Calls Try.prog 57 #[.pointer (some ⟨b, 0, none⟩)] w fun e w' => ∃ v ts r', Hid (M.tensors s r = (ts, r')) ∧ (∀ t ∈ ts, WfT t) ∧ ts.length ≤ 255 ∧ r'.pos ≤ s.size ∧ e = .returned v ∧ Tns w' w.heap.size v ts ∧ Rd w' b s r' ∧ w.grownBy w' (some b) := by
  obtain ⟨i0, hi, hz0, hz1, hz2⟩ := info_parts Try.info72
  have hbl := h.lt
  go_enter Try.func57, Try.ntmps57
  go_wp2_with fail
  refine (plain_c b s r _ h hp (by omega)).mono ?_
  rintro e w1 ⟨x1, r1, hx1, l1, u1, hp1, rfl, hR1, hg1⟩
  obtain ⟨n, rfl⟩ := Int.eq_ofNat_of_zero_le l1
  go_wp2
  go_loopw [4, 5] (fun v i wr => ∃ k : Nat, k ≤ n ∧ i = .int .i64 k ∧ Rd wr b s (M.repOk (M.tensor s) k r1).2 ∧ (M.repOk (M.tensor s) k r1).2.pos ≤ s.size ∧ Tns wr w.heap.size v (M.repOk (M.tensor s) k r1).1 ∧ (∀ t ∈ (M.repOk (M.tensor s) k r1).1, WfT t) ∧ w.grownBy wr (some b)) (fun _ i _ => n - (intOf i).toNat)
  case atStart => exact ⟨0, Nat.zero_le _, rfl, hR1, hp1, Tns.nil _ _, by simp [M.repOk], hg1⟩
  case round =>
    obtain ⟨k, hk, rfl, hRk, hpk, hTk, hWk, hgk⟩ := hrel
    have hlk := repOk_len (M.tensor s) k r1
    obtain ⟨c0, c1, c2, f1, f2⟩ := hRk.cells
    clear c0 c1 f1 f2
    by_cases hlt : k < n
    · cases hbad : (M.repOk (M.tensor s) k r1).2.bad with
      | true =>
        rw [hbad] at c2
        have hend := repOk_end (M.tensor s) k n r1 hk hbad
        have He := hide hend
        have Hb := hide hbad
        clear hend hbad
        go_wp2
        go_ret
        exact ⟨_, _, _, by simp only [Hid, M.tensors, hx1.out, Int.toNat_natCast, He.out], hWk, by omega, hpk, rfl, hTk, hRk, hgk⟩
      | false =>
        rw [hbad] at c2
        have hsucc : M.repOk (M.tensor s) (k + 1) r1 = ((M.repOk (M.tensor s) k r1).1 ++ [(M.tensor s (M.repOk (M.tensor s) k r1).2).1], (M.tensor s (M.repOk (M.tensor s) k r1).2).2) := by rw [M.repOk, if_neg (by simp [hbad])]
        have Hs := hide hsucc
        clear hsucc hbad
        generalize (M.repOk (M.tensor s) k r1).1 = ts at *
        generalize (M.repOk (M.tensor s) k r1).2 = rk at *
        go_wp2_with fail
        refine (tensor_s b s rk _ hRk hpk hs).mono ?_
        rintro e w3 ⟨t, ao, m, c, r3, hx3, hwf, hp3, rfl, hI3, hR3, hg3⟩
        have gw3 : w.grownBy w3 (some b) := gr_trans hgk hg3
        obtain ⟨ps, q1, q2, q3⟩ := hTk.kept hg3 hbl
        have hI3' := hI3.mono hgk.size
        have hsz3 := gw3.size
        clear hTk hI3 hg3 hRk c2 hgk
        go_wp2_with (at_builtin; refine wpList_append_own _ rfl _ _ 67 rfl w.heap.size 72 i0 (.agg #[.int .i64 0, .int .i64 0, .int .i64 0, .int .i64 0, .int .i64 0, .slice none 0 0]) 6 64 Try.underlying67 hi hz0 hz1 hz2 rfl (by decide) _ _ _ rfl ((q2.alloc _).alloc _) ⟨w3.heap.size + 1, 0, none⟩ 1 1 (tval t (.slice ao m c)).toList rfl rfl ?c1 ?c2 ?c3 ?c4 ?c5 ?_)
        case c1 => exact news_at w3 _ 72 _
        case c2 => intro u hu; simp [tval] at hu; rcases hu with rfl | rfl | rfl | rfl | rfl | rfl <;> rfl
        case c3 => unfold maxLen; omega
        case c4 => omega
        case c5 => simp; omega
        intro v' w4 hown' hgrow _
        have hga : w3.grownBy w4 u4.ownBlock := by
          have := gr_trans (gr_alloc2 w3 _ _ _) hgrow
          exact this
        have hT4 := Tns.snoc q1 q2 q3 hI3' hga hown'
        have hlt4 := owns_row_lt q2
        have gw4 : w.grownBy w4 (some b) := gr_own gw3 hga hlt4
        have hR4 : Rd w4 b s r3 := Blk.kept hR3 hga (by intro e; have := hlt4 b e.symm; omega)
        clear hown' hgrow hga q2 q3 hI3' gw3 hR3 hlt4
        go_wp2
        go_roundw
        case rel =>
          have e1 := Hs.out
          rw [hx3.out] at e1
          refine ⟨k + 1, by omega, by go_num, ?_, ?_, ?_, ?_, gw4⟩
          · rw [e1]; exact hR4
          · rw [e1]; exact hp3
          · rw [e1]; exact hT4
          · rw [e1]; intro t' ht'
            rcases List.mem_append.1 ht' with h' | h'
            · exact hWk t' h'
            · simp at h'; subst h'; exact hwf
        case measure => simp [intOf]; omega
    · obtain rfl : k = n := by omega
      clear c2
      go_wp2
      go_ret
      exact ⟨_, _, _, by simp only [Hid, M.tensors, hx1.out, Int.toNat_natCast], hWk, by omega, hpk, rfl, hTk, hRk, hgk⟩

end Go.Proofs.Ythfbllgbljimiaa
