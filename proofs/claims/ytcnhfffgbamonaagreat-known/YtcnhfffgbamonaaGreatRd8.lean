/-
  The reader's list of operators.
-/
import Derived.Test.YtcnhfffgbamonaaGreatRd7w
import Derived.Test.YtcnhfffgbamonaaGreatRd7t
import Derived.Test.YtcnhfffgbamonaaGreatRd7n
namespace Go.Proofs.YtcnhfffgbamonaaGreat
open Go.RowKit

theorem op_c (b : Nat) (s : ByteArray) (r : M.RS) (w : World) (h : Rd w b s r) (hp : r.pos ≤ s.size) (hs : s.size ≤ 4096) :
    Calls Tryz.prog 163 #[.pointer (some ⟨b, 0, none⟩)] w fun e w' => ∃ o ao m c r', Hid (M.op s r = (o, r')) ∧ WfO o ∧ r'.pos ≤ s.size ∧ e = .returned (.agg (oval o (.slice ao m c))) ∧ Scs w' w.heap.size (.slice ao m c) o.scales ∧ Rd w' b s r' ∧ w.grownBy w' (some b) := by
  cases hc : M.hasWeights (M.within s 1 10 r).1 with
  | true => exact op_w b s r w h hp hs hc (two_of_hw hc)
  | false =>
    cases hd : M.readsTwo (M.within s 1 10 r).1 with
    | true => exact op_t b s r w h hp hs hc hd
    | false => exact op_n b s r w h hp hs hc hd

/-- The same, the value written out. -/
theorem op_s (b : Nat) (s : ByteArray) (r : M.RS) (w : World) (h : Rd w b s r) (hp : r.pos ≤ s.size) (hs : s.size ≤ 4096) :
    Calls Tryz.prog 163 #[.pointer (some ⟨b, 0, none⟩)] w fun e w' => ∃ o ao m c r', Hid (M.op s r = (o, r')) ∧ WfO o ∧ r'.pos ≤ s.size ∧
      e = .returned (.agg #[.int .i64 o.kind, .int .i64 o.a, .int .i64 o.b, .int .i64 o.weights, .int .i64 o.biases, .int .i64 o.to, .int .i64 o.size, .int .i64 o.stride, .bool o.same, .slice ao m c, .int .i64 o.lo, .int .i64 o.hi, .int .i64 o.above, .int .i64 o.below, .int .i64 o.left, .int .i64 o.right]) ∧
      Scs w' w.heap.size (.slice ao m c) o.scales ∧ Rd w' b s r' ∧ w.grownBy w' (some b) := op_c b s r w h hp hs

theorem Tryz.info142 : (Tryz.prog.info? 142).map (fun i => (i.zero, i.size, i.bytes)) = some (some (.agg (o16 0 0 0 0 0 0 0 0 false (.slice none 0 0) 0 0 0 0 0 0)), 16, 144) := by kernel_rfl

/-- v is a slice of the operators os, in blocks from base on. -/
def Ops (w : World) (base : Nat) (v : Value) (os : List M.Op) : Prop :=
  ∃ ps : List (M.Op × Value), ps.map (·.1) = os ∧ w.ownsRow base 142 16 v os.length (ps.flatMap fun p => (oval p.1 p.2).toList) ∧ ∀ p ∈ ps, Scs w base p.2 p.1.scales

theorem Ops.nil (w : World) (base : Nat) : Ops w base (.slice none 0 0) [] := ⟨[], rfl, World.ownsRow_nil _ _ _ _, by simp⟩
theorem Ops.kept {w w' : World} {base b : Nat} {v : Value} {os : List M.Op} (h : Ops w base v os) (hg : w.grownBy w' (some b)) (hb : b < base) : Ops w' base v os := by
  obtain ⟨ps, h1, h2, h3⟩ := h
  exact ⟨ps, h1, owns_kept h2 hg hb, fun p hp => owns_kept (h3 p hp) hg hb⟩
theorem Ops.kept0 {w w' : World} {base : Nat} {v : Value} {os : List M.Op} (h : Ops w base v os) (hg : w.grownBy w' none) : Ops w' base v os := by
  obtain ⟨ps, h1, h2, h3⟩ := h
  exact ⟨ps, h1, owns_kept0 h2 hg, fun p hp => owns_kept0 (h3 p hp) hg⟩
theorem Ops.mono {w : World} {base base' : Nat} {v : Value} {os : List M.Op} (h : Ops w base v os) (hb : base' ≤ base) : Ops w base' v os := by
  obtain ⟨ps, h1, h2, h3⟩ := h
  exact ⟨ps, h1, owns_mono h2 hb, fun p hp => owns_mono (h3 p hp) hb⟩
theorem Ops.snoc {w w2 : World} {B : Nat} {v v' : Value} {ps : List (M.Op × Value)} {os : List M.Op} {o : M.Op} {sv : Value} (h1 : ps.map (·.1) = os) (h2 : w.ownsRow B 142 16 v os.length (ps.flatMap fun p => (oval p.1 p.2).toList)) (h3 : ∀ p ∈ ps, Scs w B p.2 p.1.scales)
    (hd : Scs w B sv o.scales) (hg2 : w.grownBy w2 v.ownBlock)
    (hown : w2.ownsRow B 142 16 v' (os.length + 1) ((ps.flatMap fun p => (oval p.1 p.2).toList) ++ (oval o sv).toList)) : Ops w2 B v' (os ++ [o]) := by
  refine ⟨ps ++ [(o, sv)], by simp [h1], by simpa using hown, ?_⟩
  intro p hp
  rcases List.mem_append.1 hp with hp | hp
  · exact owns_apart (h3 p hp) h2 (by decide) hg2
  · simp at hp
    subst hp
    exact owns_apart hd h2 (by decide) hg2

set_option maxHeartbeats 800000 in
theorem ops_c (b : Nat) (s : ByteArray) (r : M.RS) (w : World) (h : Rd w b s r) (hp : r.pos ≤ s.size) (hs : s.size ≤ 4096) :
    Calls Tryz.prog 137 #[.pointer (some ⟨b, 0, none⟩)] w fun e w' => ∃ v os r', Hid (M.ops s r = (os, r')) ∧ (∀ o ∈ os, WfO o) ∧ os.length ≤ 255 ∧ r'.pos ≤ s.size ∧ e = .returned v ∧ Ops w' w.heap.size v os ∧ Rd w' b s r' ∧ w.grownBy w' (some b) := by
  obtain ⟨i0, hi, hz0, hz1, hz2⟩ := info_parts Tryz.info142
  have hbl := h.lt
  go_enter Tryz.func137, Tryz.ntmps137
  go_wp2_with fail
  refine (plain_c b s r _ h hp (by omega)).mono ?_
  rintro e w1 ⟨x1, r1, hx1, l1, u1, hp1, rfl, hR1, hg1⟩
  obtain ⟨n, rfl⟩ := Int.eq_ofNat_of_zero_le l1
  have Hz0 := hide hz0
  clear hz0
  go_wp2
  go_loopw [4, 5] (fun v i wr => ∃ k : Nat, k ≤ n ∧ i = .int .i64 k ∧ Rd wr b s (M.repOk (M.op s) k r1).2 ∧ (M.repOk (M.op s) k r1).2.pos ≤ s.size ∧ Ops wr w.heap.size v (M.repOk (M.op s) k r1).1 ∧ (∀ t ∈ (M.repOk (M.op s) k r1).1, WfO t) ∧ w.grownBy wr (some b)) (fun _ i _ => n - (intOf i).toNat)
  case atStart => exact ⟨0, Nat.zero_le _, rfl, hR1, hp1, Ops.nil _ _, by simp [M.repOk], hg1⟩
  case round =>
    obtain ⟨k, hk, rfl, hRk, hpk, hTk, hWk, hgk⟩ := hrel
    have hlk := repOk_len (M.op s) k r1
    obtain ⟨c0, c1, c2, f1, f2⟩ := hRk.cells
    clear c0 c1 f1 f2
    by_cases hlt : k < n
    · cases hbad : (M.repOk (M.op s) k r1).2.bad with
      | true =>
        rw [hbad] at c2
        have hend := repOk_end (M.op s) k n r1 hk hbad
        have He := hide hend
        have Hb := hide hbad
        clear hend hbad
        go_wp2
        go_ret
        exact ⟨_, _, _, by simp only [Hid, M.ops, hx1.out, Int.toNat_natCast, He.out], hWk, by omega, hpk, rfl, hTk, hRk, hgk⟩
      | false =>
        rw [hbad] at c2
        have hsucc : M.repOk (M.op s) (k + 1) r1 = ((M.repOk (M.op s) k r1).1 ++ [(M.op s (M.repOk (M.op s) k r1).2).1], (M.op s (M.repOk (M.op s) k r1).2).2) := by rw [M.repOk, if_neg (by simp [hbad])]
        have Hs := hide hsucc
        clear hsucc hbad
        generalize (M.repOk (M.op s) k r1).1 = ts at *
        generalize (M.repOk (M.op s) k r1).2 = rk at *
        go_wp2_with fail
        refine (op_s b s rk _ hRk hpk hs).mono ?_
        rintro e w3 ⟨t, ao, m, c, r3, hx3, hwf, hp3, rfl, hI3, hR3, hg3⟩
        have gw3 : w.grownBy w3 (some b) := gr_trans hgk hg3
        obtain ⟨ps, q1, q2, q3⟩ := hTk.kept hg3 hbl
        have hI3' : Scs w3 w.heap.size (.slice ao m c) t.scales := owns_mono hI3 hgk.size
        have hsz3 := gw3.size
        clear hTk hI3 hg3 hRk c2 hgk
        go_wp2_with (at_builtin; refine wpList_append_own _ rfl _ _ 137 rfl w.heap.size 142 i0 (.agg (o16 0 0 0 0 0 0 0 0 false (.slice none 0 0) 0 0 0 0 0 0)) 16 144 Tryz.underlying137 hi Hz0.out hz1 hz2 rfl (by decide) _ _ _ rfl ((q2.alloc _).alloc _) ⟨w3.heap.size + 1, 0, none⟩ 1 1 (oval t (.slice ao m c)).toList rfl rfl ?c1 ?c2 ?c3 ?c4 ?c5 ?_)
        case c1 => exact news_at w3 _ 142 _
        case c2 => intro u hu; simp [oval] at hu; rcases hu with rfl | rfl | rfl | rfl | rfl | rfl | rfl | rfl | rfl | rfl | rfl | rfl | rfl | rfl | rfl | rfl <;> rfl
        case c3 => unfold maxLen; omega
        case c4 => omega
        case c5 => simp; omega
        intro v' w4 hown' hgrow _
        have hga : w3.grownBy w4 u4.ownBlock := by
          have := gr_trans (gr_alloc2 w3 _ _ _) hgrow
          exact this
        have hT4 := Ops.snoc q1 q2 q3 hI3' hga hown'
        have hlt4 := owns_row_lt q2
        have gw4 : w.grownBy w4 (some b) := gr_own gw3 hga hlt4
        have hR4 : Rd w4 b s r3 := Blk.kept hR3 hga (by intro e; have := hlt4 b e.symm; omega)
        clear hown' hgrow hga q2 q3 hI3' gw3 hR3 hlt4
        go_wp2
        go_roundw
        case rel =>
          have e1 := Hs.out
          rw [hx3.out] at e1
          refine ⟨k + 1, by omega, by go_num, ?_, ?_, ?_, ?_, gw4⟩
          · rw [e1]; exact hR4
          · rw [e1]; exact hp3
          · rw [e1]; exact hT4
          · rw [e1]; intro t' ht'
            rcases List.mem_append.1 ht' with h' | h'
            · exact hWk t' h'
            · simp at h'; subst h'; exact hwf
        case measure => simp [intOf]; omega
    · obtain rfl : k = n := by omega
      clear c2
      go_wp2
      go_ret
      exact ⟨_, _, _, by simp only [Hid, M.ops, hx1.out, Int.toNat_natCast], hWk, by omega, hpk, rfl, hTk, hRk, hgk⟩

end Go.Proofs.YtcnhfffgbamonaaGreat
