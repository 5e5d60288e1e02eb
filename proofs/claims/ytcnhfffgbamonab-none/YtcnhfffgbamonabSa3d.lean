/-
  The law's models, one by one. (Written by a small program of ours: wip/gen/sa3.py.)
-/
import Derived.Test.YtcnhfffgbamonabSa2
namespace Go.Proofs.Ytcnhfffgbamonab
open Go.RowKit

def ts10 : List UInt8 := (([] ++ tbytes 0 3 3 1 4 []) ++ tbytes 1 1 1 1 0 [3]) ++ tbytes 2 1 1 1 0 [100] ++ tbytes 3 3 3 1 1 []
def ns10 : List UInt8 := ([1, 0] ++ (w4 2147483648 ++ [b8 (-2)])) ++ [b8 (-50), b8 50]
def op10 : List UInt8 := [] ++ obytes 1 [0, 1, 2] 3 ns10

set_option maxRecDepth 100000 in
set_option maxHeartbeats 2000000 in
theorem mplain_10 (w : World) : Calls Try.prog 10 #[.int .i64 10] w fun e w' => ∃ a n c, e = .returned (.tuple #[.pointer (some ⟨w.heap.size, 0, none⟩), .int .i64 6]) ∧ MB w' w.heap.size ts10 op10 4 1 (.slice a n c) ∧ Ints w' (w.heap.size + 1) (.slice a n c) [3] ∧ w.grownBy w' none := by
  have M0 : MB (w.alloc (.cells #[.string ⟨#[]⟩, .string ⟨#[]⟩, .int .i64 0, .int .i64 0, .slice none 0 0] 37)) w.heap.size [] [] 0 0 (.slice none 0 0) := Blk.new w 37 _
  have G0 : w.grownBy (w.alloc (.cells #[.string ⟨#[]⟩, .string ⟨#[]⟩, .int .i64 0, .int .i64 0, .slice none 0 0] 37)) none := World.grownBy_alloc _ _ _
  go_enter Try.func10, Try.ntmps10
  go_wp2_with fail
  refine (mtensor_c w.heap.size 0 [] [] 0 0 _ 0 3 3 1 4 none 0 0 [] _ M0 (Ints.nil _ _) (by decide) (by decide) (by decide)).mono ?_
  rintro e q1 ⟨rfl, M1, hg1⟩
  have G1 := gr_new G0 hg1 (Nat.le_refl _)
  clear hg1 M0 G0
  go_wp2_with fail
  refine (mtensor_c w.heap.size 0 _ [] 1 0 _ 1 1 1 1 0 (some ⟨q1.heap.size, 0, none⟩) 1 1 [3] _ (Blk.alloc M1 _) (Ints.of_blk (Nat.zero_le _) rfl (by decide) (Blk.new q1 3 _)) (by decide) (by decide) (by decide)).mono ?_
  rintro e q2 ⟨rfl, M2, hg2⟩
  have G2 := gr_new (gr_trans G1 (World.grownBy_alloc _ _ _)) hg2 (Nat.le_refl _)
  clear hg2 M1 G1
  go_wp2_with fail
  refine (mtensor_c w.heap.size 0 _ [] 2 0 _ 2 1 1 1 0 (some ⟨q2.heap.size, 0, none⟩) 1 1 [100] _ (Blk.alloc M2 _) (Ints.of_blk (Nat.zero_le _) rfl (by decide) (Blk.new q2 3 _)) (by decide) (by decide) (by decide)).mono ?_
  rintro e q3 ⟨rfl, M3, hg3⟩
  have G3 := gr_new (gr_trans G2 (World.grownBy_alloc _ _ _)) hg3 (Nat.le_refl _)
  clear hg3 M2 G2
  go_wp2_with fail
  refine (mtensor_c w.heap.size 0 _ [] 3 0 _ 3 3 3 1 1 none 0 0 [] _ M3 (Ints.nil _ _) (by decide) (by decide) (by decide)).mono ?_
  rintro e q4 ⟨rfl, M4, hg4⟩
  have G4 := gr_new G3 hg4 (Nat.le_refl _)
  clear hg4 M3 G3
  have N4 : MB q4 w.heap.size ts10 [] 4 0 (.slice none 0 0) := M4
  clear M4
  go_wp2_with fail
  refine (scale2_c 2147483648 (-2) q4).mono ?_
  rintro e q5 ⟨rfl, hg5⟩
  have N5 := Blk.kept N4 hg5 (by simp)
  have G5 := gr_trans G4 hg5
  clear hg5 N4 G4
  go_wp2_with fail
  refine (span_c (-50) 50 q5).mono ?_
  rintro e q6 ⟨rfl, hg6⟩
  have N6 := Blk.kept N5 hg6 (by simp)
  have G6 := gr_trans G5 hg6
  clear hg6 N5 G5
  have hs1 : (S8 (w4 2147483648 ++ [b8 (-2)])).size = 5 := by rw [s8_size]; rfl
  have hs2 : (S8 [b8 (-50), b8 50]).size = 2 := by rw [s8_size]; rfl
  have hsn : ((⟨#[1, 0]⟩ : ByteArray) ++ S8 (w4 2147483648 ++ [b8 (-2)])) ++ S8 [b8 (-50), b8 50] = S8 ns10 := by
    have e0 : (⟨#[1, 0]⟩ : ByteArray) = S8 [1, 0] := rfl
    rw [e0, s8_app, s8_app]; rfl
  have Hsn := hide hsn
  clear hsn
  go_wp2_with fail
  rw [Hsn.out]
  refine (mop_c w.heap.size 0 _ [] 4 0 _ 1 3 ns10 (some ⟨q6.heap.size, 0, none⟩) 3 3 [0, 1, 2] _ (Blk.alloc N6 _) (Ints.of_blk (Nat.zero_le _) rfl (by decide) (Blk.new q6 3 _)) (by decide) (by decide) (by decide) (by decide)).mono ?_
  rintro e q7 ⟨rfl, M7, hg7⟩
  have G7 := gr_new (gr_trans G6 (World.grownBy_alloc _ _ _)) hg7 (Nat.le_refl _)
  clear hg7 N6 G6 hs1 hs2
  have e4 : q7.cell? ⟨w.heap.size, 4, none⟩ = some (.slice none 0 0) := Blk.cell M7 4
  have f4 := Blk.free M7 4
  have hl7 : w.heap.size < q7.heap.size := Blk.lt M7
  have N7 : MB q7 w.heap.size ts10 op10 4 1 (.slice none 0 0) := M7
  clear M7
  have HN := hide N7
  clear N7
  go_wp2
  go_ret2
  refine ⟨some ⟨q7.heap.size, 0, none⟩, 1, 1, rfl, ?_, ?_, ?_⟩
  · exact Blk.alloc (Blk.set HN.out 4 (.slice (some ⟨q7.heap.size, 0, none⟩) 1 1)) _
  · exact Ints.of_blk (by omega) rfl (by decide) (by have e := Blk.new (q7.setCell ⟨w.heap.size, 4, none⟩ (.slice (some ⟨q7.heap.size, 0, none⟩) 1 1)) 3 #[.int .i64 3]; rw [World.size_setCell] at e; exact e)
  · exact gr_trans (gr_new G7 (gr_set _ _ _ _) (Nat.le_refl _)) (World.grownBy_alloc _ _ _)

end Go.Proofs.Ytcnhfffgbamonab
