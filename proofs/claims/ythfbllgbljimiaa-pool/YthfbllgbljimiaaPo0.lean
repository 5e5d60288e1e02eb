/-
  The law Pool: a model of windows, as it is written.
-/
import Derived.Test.YthfbllgbljimiaaLa6
import Derived.StillTailTactics
namespace Go.Proofs.Ythfbllgbljimiaa
open Go.RowKit

def PSz (h v n s : Int) : Prop := (h = 4 ∧ v = 5 ∧ (n = 1 ∨ n = 2 ∨ n = 3) ∧ (s = 1 ∨ s = 2 ∨ s = 3)) ∨ (h = 2 ∧ v = 2 ∧ n = 2 ∧ s = 1)
theorem psz_facts {h v n s : Int} (hz : PSz h v n s) : (1 ≤ n ∧ n ≤ 3 ∧ 1 ≤ s ∧ s ≤ 3) ∧ (0 ≤ h - n ∧ h - n ≤ 4 ∧ 0 ≤ v - n ∧ v - n ≤ 4) ∧ (0 ≤ (h - n) / s ∧ (h - n) / s ≤ 4) ∧ (0 ≤ (v - n) / s ∧ (v - n) / s ≤ 4) ∧ Int.tdiv (h - n) s = (h - n) / s ∧ Int.tdiv (v - n) s = (v - n) / s := by
  rcases hz with ⟨rfl, rfl, rfl | rfl | rfl, rfl | rfl | rfl⟩ | ⟨rfl, rfl, rfl, rfl⟩ <;> decide

set_option maxRecDepth 100000 in
set_option maxHeartbeats 1000000 in
theorem pooled_c (k h v n s : Int) (hk : k = 5 ∨ k = 6) (hz : PSz h v n s) (w : World) :
    Calls Try.prog 36 #[.int .i64 k, .int .i64 h, .int .i64 v, .int .i64 n, .int .i64 s] w fun e w' => e = .returned (.pointer (some ⟨w.heap.size, 0, none⟩)) ∧ Mm w' w.heap.size (D.mPool k h v n s) ∧ w.grownBy w' none := by
  have HIS := hide (D.is_pool k h v n s hk hz)
  obtain ⟨⟨n1, n2, s1, s2⟩, ⟨h1, h2, v1, v2⟩, ⟨a1, a2⟩, ⟨b1, b2⟩, hd1, hd2⟩ := psz_facts hz
  have P0 := hide (MP.new w)
  have G0 := hide (World.grownBy_alloc w (.cells #[.string ⟨#[]⟩, .string ⟨#[]⟩, .int .i64 0, .int .i64 0, .slice none 0 0] 37) none)
  have hs0 : (s == 0) = false := by simp; omega
  have hw1 := hide (show IntKind.i64.wrap (h - n) = h - n by rw [IntKind.wrap_i64]; omega)
  have hw2 := hide (show IntKind.i64.wrap (v - n) = v - n by rw [IntKind.wrap_i64]; omega)
  have hw3 := hide (show IntKind.i64.wrap ((h - n) / s) = (h - n) / s by rw [IntKind.wrap_i64]; omega)
  have hw4 := hide (show IntKind.i64.wrap ((v - n) / s) = (v - n) / s by rw [IntKind.wrap_i64]; omega)
  have hw5 := hide (show IntKind.i64.wrap ((h - n) / s + 1) = (h - n) / s + 1 by rw [IntKind.wrap_i64]; omega)
  have hw6 := hide (show IntKind.i64.wrap ((v - n) / s + 1) = (v - n) / s + 1 by rw [IntKind.wrap_i64]; omega)
  have hsn := hide (show ¬ s = 0 by omega)
  have Hsn := hide (show S8 [b8 n, b8 s] ++ S8 [b8 (-128), b8 127] = S8 (ownBytes (D.oPool k 0 1 n s (-128) 127)) by
    rw [s8_app]; rcases hk with rfl | rfl <;> rfl)
  have Hins := hide (show insOf (D.oPool k 0 1 n s (-128) 127) = [0] by rcases hk with rfl | rfl <;> rfl)
  have Hol := hide (show (ownBytes (D.oPool k 0 1 n s (-128) 127)).length ≤ 1000 by rcases hk with rfl | rfl <;> (show 4 ≤ 1000; decide))
  clear hk hz
  go_enter Try.func36, Try.ntmps36
  go_wp2_with fail
  refine (mten w.heap.size [] [] _ (D.tIn h v 2 5) none 0 0 _ P0.out (Ints.nil _ _) (by decide) (show 0 ≤ 1000 by decide) (show 0 ≤ 1000 by decide)).mono ?_
  rintro e q1 ⟨rfl, hP, hg⟩
  have G1 := hide (gr_new G0.out hg (Nat.le_refl _))
  have P1 := hide hP
  clear hP hg P0 G0
  go_wp2_with fail
  go_still_tail 13, (by kernel_rfl)
  rw [hw1.out]
  refine wpStill_step (fun K hK => ?_)
  go_simp
  rw [if_neg hsn.out, hw3.out]
  refine ⟨rfl, hK _ ?_⟩
  clear hK K
  repeat still_step
  rw [hw5.out, hw2.out]
  refine wpStill_step (fun K hK => ?_)
  go_simp
  rw [if_neg hsn.out, hw4.out]
  refine ⟨rfl, hK _ ?_⟩
  clear hK K
  repeat still_step
  refine wpStill_nil ?_
  rw [hw6.out]
  go_wp2_with fail
  refine (mten w.heap.size [D.tIn h v 2 5] [] _ (D.tMid ((h - n) / s + 1) ((v - n) / s + 1) 2 5) none 0 0 _ (P1.out.kept (gr_drew _ none) (by simp)) (Ints.nil _ _) (show 5 ≤ 100000 by decide) (show 0 ≤ 1000 by decide) (show 1 ≤ 1000 by decide)).mono ?_
  rintro e q2 ⟨rfl, hP, hg⟩
  have G2 := hide (gr_new (gr_trans G1.out (gr_drew _ none)) hg (Nat.le_refl _))
  have P2 := hide hP
  clear hP hg P1 G1
  go_wp2_with fail
  refine (span_c (-128) 127 _).mono ?_
  rintro e q3 ⟨rfl, hg⟩
  have G3 := hide (gr_trans G2.out hg)
  have P3 := hide (P2.out.kept hg (by simp))
  clear hg P2 G2
  have hcv : (convert 46 9 (.slice (some ⟨q3.heap.size + 1, 0, none⟩) 2 2)).run Try.prog ((q3.alloc (.cells #[.int .i64 0] 3)).alloc (.cells #[.int .u8 n, .int .u8 s] 5)) = .ok (.string (S8 [b8 n, b8 s])) ((q3.alloc (.cells #[.int .i64 0] 3)).alloc (.cells #[.int .u8 n, .int .u8 s] 5)) := by
    have e : (convert 46 9 (.slice (some ⟨(q3.alloc (.cells #[.int .i64 0] 3)).heap.size, 0, none⟩) 2 2)).run Try.prog ((q3.alloc (.cells #[.int .i64 0] 3)).alloc (.cells #[.int .u8 (n % 256), .int .u8 (s % 256)] 5)) = .ok (.string (S8 [b8 n, b8 s])) ((q3.alloc (.cells #[.int .i64 0] 3)).alloc (.cells #[.int .u8 (n % 256), .int .u8 (s % 256)] 5)) := conv_list (q3.alloc (.cells #[.int .i64 0] 3)) [n, s]
    rw [World.size_alloc, show n % 256 = n by omega, show s % 256 = s by omega] at e
    exact e
  have T3 := hide ((P3.out.kept (World.grownBy_alloc q3 (.cells #[.int .i64 0] 3) none) (by simp)).kept (World.grownBy_alloc _ (.cells #[.int .u8 n, .int .u8 s] 5) none) (by simp))
  have J3 := hide (Ints.of_blk (base := 0) (xs := [0]) (n := 1) (Nat.zero_le _) rfl (by decide) ((Blk.new q3 3 #[.int .i64 0]).alloc (.cells #[.int .u8 n, .int .u8 s] 5)))
  have G4 := hide (gr_trans G3.out (gr_alloc2 q3 (.cells #[.int .i64 0] 3) (.cells #[.int .u8 n, .int .u8 s] 5) none))
  have hs1 : (S8 [b8 n, b8 s]).size = 2 := by rw [s8_size]; rfl
  have hs2 : (S8 [b8 (-128), b8 127]).size = 2 := by rw [s8_size]; rfl
  clear P3 G3
  go_wp2_with fail
  rw [Hsn.out]
  refine (mopr w.heap.size _ [] _ (D.oPool k 0 1 n s (-128) 127) _ (some ⟨q3.heap.size, 0, none⟩) 1 1 _ T3.out (fun o ho => absurd ho (by simp)) (by rw [Hins.out]; exact J3.out) rfl Hol.out (by decide)).mono ?_
  rintro e q5 ⟨rfl, hP, hg⟩
  have G5 := hide (gr_new G4.out hg (Nat.le_refl _))
  have e4 : q5.cell? ⟨w.heap.size, 4, none⟩ = some (.slice none 0 0) := Blk.cell hP 4
  have f4 := Blk.free hP 4
  have hlq : w.heap.size < q5.heap.size := hP.lt
  have MN := hide (outs_set (v := 1) (m := D.mPool k h v n s) hP rfl rfl rfl HIS.out (show 10 ≤ 100000 by decide) (show 1 ≤ 100 by decide))
  have GG := hide (gr_trans (gr_new G5.out (gr_set q5 w.heap.size 4 (.slice (some ⟨q5.heap.size, 0, none⟩) 1 1)) (Nat.le_refl _)) (World.grownBy_alloc _ (.cells #[.int .i64 1] 3) none))
  clear hP hg T3 J3 hs1 hs2 Hsn G4 G5 hcv
  go_wp2
  go_ret
  exact ⟨rfl, MN.out, GG.out⟩

end Go.Proofs.Ythfbllgbljimiaa
