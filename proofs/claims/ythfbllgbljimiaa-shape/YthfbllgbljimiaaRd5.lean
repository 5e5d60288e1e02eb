/-
  The reader's scales.
-/
import Derived.Test.YthfbllgbljimiaaRd4
namespace Go.Proofs.Ythfbllgbljimiaa
open Go.RowKit

theorem Try.info122 : (Try.prog.info? 122).map (fun i => (i.zero, i.size, i.bytes)) = some (some (.agg #[.int .i64 0, .int .i64 0]), 2, 16) := by kernel_rfl

def scval (c : M.Sc) : List Value := [.int .i64 c.mult, .int .i64 c.shift]

/-- v is a slice of the scales xs, in a block from base on. -/
def Scs (w : World) (base : Nat) (v : Value) (xs : List M.Sc) : Prop := w.ownsRow base 122 2 v xs.length (xs.flatMap scval)

theorem Scs.shape {w : World} {base : Nat} {v : Value} {xs : List M.Sc} (h : Scs w base v xs) : ∃ ao m c, v = .slice ao m c := by
  rcases h.2 with ⟨rfl, _⟩ | ⟨g, cap, cur, rfl, _⟩
  · exact ⟨_, _, _, rfl⟩
  · exact ⟨_, _, _, rfl⟩

structure WfS (c : M.Sc) : Prop where
  m0 : -2147483648 ≤ c.mult
  m1 : c.mult ≤ 2147483647
  s0 : -128 ≤ c.shift
  s1 : c.shift ≤ 127

theorem scale_eq {s : ByteArray} {r r1 r2 : M.RS} {x y : Int} (h1 : M.word s r = (x, r1)) (h2 : M.signed s r1 = (y, r2)) : M.scale s r = (⟨x, y⟩, r2) := by simp only [M.scale, h1, h2]

theorem news_at1 (w : World) (T : TypeId) (cs : Array Value) : ∀ j u, cs.toList[j]? = some u → (w.alloc (.cells cs T)).cell? ((⟨w.heap.size, 0, none⟩ : Addr).add j) = some u := by
  intro j u hu
  rw [add_zero_addr, (Blk.new w T cs).cell j]
  simpa using hu

set_option maxHeartbeats 800000 in
theorem scales_c (b : Nat) (s : ByteArray) (r : M.RS) (n : Nat) (w : World) (h : Rd w b s r) (hp : r.pos ≤ s.size) (hs : s.size ≤ 4096) (hn : n ≤ 3) :
    Calls Try.prog 105 #[.pointer (some ⟨b, 0, none⟩), .int .i64 n] w fun e w' => ∃ ao m c xs r', Hid (M.rep (M.scale s) n r = (xs, r')) ∧ (∀ c ∈ xs, WfS c) ∧ r'.pos ≤ s.size ∧ e = .returned (.slice ao m c) ∧ Scs w' w.heap.size (.slice ao m c) xs ∧ Rd w' b s r' ∧ w.grownBy w' (some b) := by
  suffices hx : Calls Try.prog 105 #[.pointer (some ⟨b, 0, none⟩), .int .i64 n] w fun e w' => ∃ v xs r', Hid (M.rep (M.scale s) n r = (xs, r')) ∧ (∀ c ∈ xs, WfS c) ∧ r'.pos ≤ s.size ∧ e = .returned v ∧ Scs w' w.heap.size v xs ∧ Rd w' b s r' ∧ w.grownBy w' (some b) from
    hx.mono fun e w' ⟨v, xs, r', h1, h2, h3, h4, h5, h6⟩ => by
      obtain ⟨ao, m, c, rfl⟩ := h5.shape
      exact ⟨ao, m, c, xs, r', h1, h2, h3, h4, h5, h6⟩
  obtain ⟨i0, hi, hz0, hz1, hz2⟩ := info_parts Try.info122
  have hbl := h.lt
  go_enter Try.func105, Try.ntmps105
  go_wp2
  go_loopw [5, 6] (fun v i wr => ∃ k : Nat, k ≤ n ∧ i = .int .i64 k ∧ Rd wr b s (M.rep (M.scale s) k r).2 ∧ (M.rep (M.scale s) k r).2.pos ≤ s.size ∧ Scs wr w.heap.size v (M.rep (M.scale s) k r).1 ∧ (∀ c ∈ (M.rep (M.scale s) k r).1, WfS c) ∧ w.grownBy wr (some b)) (fun _ i _ => n - (intOf i).toNat)
  case atStart => exact ⟨0, Nat.zero_le _, rfl, h, hp, World.ownsRow_nil _ _ _ _, by simp [M.rep], World.grownBy.refl _ _⟩
  case round =>
    obtain ⟨k, hk, rfl, hRk, hpk, hTk, hWk, hgk⟩ := hrel
    have hlk := rep_len (M.scale s) k r
    by_cases hlt : k < n
    · have hsucc : M.rep (M.scale s) (k + 1) r = ((M.rep (M.scale s) k r).1 ++ [(M.scale s (M.rep (M.scale s) k r).2).1], (M.scale s (M.rep (M.scale s) k r).2).2) := rfl
      have Hs := hide hsucc
      clear hsucc
      generalize (M.rep (M.scale s) k r).1 = xs at *
      generalize (M.rep (M.scale s) k r).2 = rk at *
      have Hl := hide hlk
      clear hlk
      have hszk := hgk.size
      go_wp2_with fail
      refine (word_c b s rk _ (Blk.alloc hRk _) hpk (by omega)).mono ?_
      rintro e w3 ⟨x, r3, hx3, l3, u3, hp3, rfl, hR3, hg3⟩
      have hL3 : Blk w3 wr.heap.size 122 #[.int .i64 0, .int .i64 0] := (Blk.new wr 122 _).kept hg3 (by simp; omega)
      have gr3 : wr.grownBy w3 (some b) := gr_trans (World.grownBy_alloc _ _ _) hg3
      have a3 : w3.cell? ⟨wr.heap.size, 0, none⟩ = some (.int .i64 0) := hL3.cell 0
      have b3 := hL3.free 0
      clear hg3
      go_wp2_with fail
      refine (signed_c b s r3 _ (Blk.other hR3 (by simp; omega) _) hp3 (by omega)).mono ?_
      rintro e w4 ⟨y, r4, hx4, l4, u4, hp4, rfl, hR4, hg4⟩
      have hL4 : Blk w4 wr.heap.size 122 #[.int .i64 x, .int .i64 0] := (hL3.set 0 _).kept hg4 (by simp; omega)
      have gr4 : wr.grownBy w4 (some b) := gr_trans (gr_new gr3 (gr_set _ _ _ _) (Nat.le_refl _)) hg4
      clear hg4 hL3 a3 b3 gr3 hR3
      have a4 : w4.cell? ⟨wr.heap.size, 1, none⟩ = some (.int .i64 0) := hL4.cell 1
      have d4 : w4.cell? ⟨wr.heap.size, 0, none⟩ = some (.int .i64 x) := hL4.cell 0
      have b4 := hL4.free 1
      have hR5 : Rd (w4.setCell ⟨wr.heap.size, 1, none⟩ (.int .i64 y)) b s r4 := Blk.other hR4 (by simp; omega) _
      have gr5 : wr.grownBy (w4.setCell ⟨wr.heap.size, 1, none⟩ (.int .i64 y)) (some b) := gr_new gr4 (gr_set _ _ _ _) (Nat.le_refl _)
      have q5 := owns_kept (base := w.heap.size) hTk gr5 hbl
      have gw5 := gr_trans hgk gr5
      have hsz5 := gw5.size
      clear hTk hgk gr5 gr4 hL4 hR4 hRk
      go_wp2_with (at_builtin; refine wpList_append_own _ rfl _ _ 75 rfl w.heap.size 122 i0 (.agg #[.int .i64 0, .int .i64 0]) 2 16 Try.underlying75 hi hz0 hz1 hz2 rfl (by decide) _ _ _ rfl (q5.alloc _) ⟨w4.heap.size, 0, none⟩ 1 1 (scval ⟨x, y⟩) rfl rfl ?c1 ?c2 ?c3 ?c4 ?c5 ?_)
      case c1 => have e := news_at1 (w4.setCell ⟨wr.heap.size, 1, none⟩ (.int .i64 y)) 122 #[.int .i64 x, .int .i64 y]; rw [World.size_setCell] at e; exact e
      case c2 => intro u hu; simp [scval] at hu; rcases hu with rfl | rfl <;> rfl
      case c3 => have := Hl.out; unfold maxLen; omega
      case c4 => have := Hl.out; omega
      case c5 => simp at hsz5 ⊢; omega
      intro v' w6 hown' hgrow _
      have hga : (w4.setCell ⟨wr.heap.size, 1, none⟩ (.int .i64 y)).grownBy w6 u5.ownBlock := gr_trans (World.grownBy_alloc _ _ _) hgrow
      have hlt6 := owns_row_lt q5
      have gw6 : w.grownBy w6 (some b) := gr_own gw5 hga hlt6
      have hR6 : Rd w6 b s r4 := Blk.kept hR5 hga (by intro e; have := hlt6 b e.symm; omega)
      have hT6 : Scs w6 w.heap.size v' (xs ++ [⟨x, y⟩]) := by
        have := hown'
        unfold Scs
        simpa using this
      clear hown' hgrow hga q5 gw5 hR5 hlt6
      go_wp2
      go_roundw
      case rel =>
        have e1 := Hs.out
        rw [scale_eq hx3.out hx4.out] at e1
        refine ⟨k + 1, by omega, by go_num, ?_, ?_, ?_, ?_, gw6⟩
        · rw [e1]; exact hR6
        · rw [e1]; exact hp4
        · rw [e1]; exact hT6
        · rw [e1]; intro t' ht'
          rcases List.mem_append.1 ht' with h' | h'
          · exact hWk t' h'
          · simp at h'; subst h'; exact ⟨l3, u3, l4, u4⟩
      case measure => simp [intOf]; omega
    · obtain rfl : k = n := by omega
      clear hlk
      go_wp2
      go_ret
      exact ⟨_, _, _, rfl, hWk, hpk, rfl, hTk, hRk, hgk⟩

end Go.Proofs.Ythfbllgbljimiaa
