/-
  windowed of the laws, at (3, 3, 2, 2, 2, 0). (Written by a small program of ours: wip/gen/la4.py.)
-/
import Derived.Test.YtcnhfffgbamonaaGreatLa4
namespace Go.Proofs.YtcnhfffgbamonaaGreat
open Go.RowKit

set_option maxRecDepth 100000 in
set_option maxHeartbeats 2000000 in
theorem windowed_332220 (db : Nat) (x lo hi : Int) (w : World) (hD : Die w db x) (h0 : 0 ≤ x) (h1 : x < 2147483648) (hl : Cell lo) (hh : Cell hi) (hlh : lo ≤ hi) :
    Calls Tryz.prog 44 #[.pointer (some ⟨db, 0, none⟩), .int .i64 3, .int .i64 3, .int .i64 2, .int .i64 2, .int .i64 2, .int .i64 0, .int .i64 lo, .int .i64 hi] w fun e w' =>
      e = .returned (.tuple #[.pointer (some ⟨w.heap.size, 0, none⟩), .int .i64 (wzo 16 2 x)]) ∧ Mm w' w.heap.size (mW 3 3 2 2 2 16 2 false lo hi x) ∧ Die w' db (wend 16 2 x) ∧ w.grownBy w' (some db) := by
  have hdb : db < w.heap.size := Blk.lt hD
  have M0 := MP.new w
  have G0 : w.grownBy (w.alloc (.cells #[.string ⟨#[]⟩, .string ⟨#[]⟩, .int .i64 0, .int .i64 0, .slice none 0 0] 81)) (some db) := World.grownBy_alloc _ _ _
  have W0 : WS w _ db x w.heap.size [] [] (.slice none 0 0) := ⟨Blk.alloc hD _, M0, G0, hdb⟩
  have HZ := dzero_rg x
  have R1 := dnext_range x
  have R2 := dcells_range 16 (dnext x) R1.1 R1.2
  have R3 := dbias_range 2 (dcells 16 (dnext x)).2 R2.1 R2.2
  have R4 := dnext_range (dbias 2 (dcells 16 (dnext x)).2).2
  have R5 := dnext_range (dnext (dbias 2 (dcells 16 (dnext x)).2).2)
  have L1 := dcells_len 16 (dnext x)
  have L2 := dbias_len 2 (dcells 16 (dnext x)).2
  have K1 := dcells_ok 16 (dnext x)
  have K2 := dbias_ok 2 (dcells 16 (dnext x)).2
  clear M0 G0 hD
  go_enter Tryz.func44, Tryz.ntmps44
  go_wp2_with fail
  refine (dzero_c db x _ W0.D h0 h1).mono ?_
  rintro e q1 ⟨rfl, D1, hg1⟩
  have W1 := W0.die D1 hg1
  clear W0 D1 hg1
  go_wp2_with fail
  refine (mten w.heap.size [] [] _ (D.tIn 3 3 2 (dzero x)) none 0 0 _ W1.P (Ints.nil _ _) (by decide) (show 0 ≤ 1000 by decide) (by decide)).mono ?_
  rintro e q2 ⟨rfl, P2, hg2⟩
  have W2 := W1.mod P2 hg2
  clear W1 P2 hg2
  go_wp2_with fail
  refine (dcells_c db (dnext x) 16 _ W2.D R1.1 R1.2 (by decide)).mono ?_
  rintro e q3 ⟨rfl, I3, D3, hg3⟩
  have W3 := W2.die D3 hg3
  clear W2 D3 hg3
  go_wp2_with fail
  refine (mten w.heap.size [D.tIn 3 3 2 (dzero x)] [] _ (D.tConst 2 2 4 (dcells 16 (dnext x)).1) (some ⟨q2.heap.size, 0, none⟩) 16 16 _ W3.P (I3.mono (Nat.zero_le _)) (show 5 ≤ 100000 by decide) (by show (dcells 16 (dnext x)).1.length ≤ 1000; omega) (show 1 ≤ 1000 by decide)).mono ?_
  rintro e q4 ⟨rfl, P4, hg4⟩
  have W4 := W3.mod P4 hg4
  clear W3 P4 hg4 I3
  go_wp2_with fail
  refine (dbias_c db (dcells 16 (dnext x)).2 2 _ W4.D R2.1 R2.2 (by decide)).mono ?_
  rintro e q5 ⟨rfl, I5, D5, hg5⟩
  have W5 := W4.die D5 hg5
  clear W4 D5 hg5
  have sz2 : sizeT ([D.tIn 3 3 2 (dzero x)] ++ [D.tConst 2 2 4 (dcells 16 (dnext x)).1]) ≤ 100000 := by
    rw [sizeT_snoc]; show 5 + (5 + 4 * (dcells 16 (dnext x)).1.length) ≤ 100000; omega
  go_wp2_with fail
  refine (mten w.heap.size _ [] _ (D.tBias 2 (dbias 2 (dcells 16 (dnext x)).2).1) (some ⟨q4.heap.size, 0, none⟩) 2 2 _ W5.P (I5.mono (Nat.zero_le _)) sz2 (by show (dbias 2 (dcells 16 (dnext x)).2).1.length ≤ 1000; omega) (by show 2 ≤ 1000; decide)).mono ?_
  rintro e q6 ⟨rfl, P6, hg6⟩
  have W6 := W5.mod P6 hg6
  clear W5 P6 hg6 I5
  have sz3 : sizeT ([D.tIn 3 3 2 (dzero x)] ++ [D.tConst 2 2 4 (dcells 16 (dnext x)).1] ++ [D.tBias 2 (dbias 2 (dcells 16 (dnext x)).2).1]) ≤ 100000 := by
    rw [sizeT_snoc, sizeT_snoc]; show 5 + (5 + 4 * (dcells 16 (dnext x)).1.length) + (5 + 4 * (dbias 2 (dcells 16 (dnext x)).2).1.length) ≤ 100000; omega
  have HMM := hide (show D.Is (mW 3 3 2 2 2 16 2 false lo hi x) from D.is_win 3 3 2 2 2 false lo hi (dzero x) _ _ _ _ (by simp) hl hh hlh (by unfold D.ZOk; omega) (by have := dzero_rg (dbias 2 (dcells 16 (dnext x)).2).2; unfold D.ZOk wzo wx3; omega) K1 (by rw [show wcells 16 x = (dcells 16 (dnext x)).1 from rfl, L1]; decide) K2 (by rw [show wbias 16 2 x = (dbias 2 (dcells 16 (dnext x)).2).1 from rfl, L2]; decide) (wsc_ok 16 2 x))
  have L4 : 5 + (5 + 4 * (dcells 16 (dnext x)).1.length) + (5 + 4 * (dbias 2 (dcells 16 (dnext x)).2).1.length) + (5 + 4 * 0) ≤ 100000 := by omega
  have HZO := hide (show wzo 16 2 x = dzero (dbias 2 (dcells 16 (dnext x)).2).2 from rfl)
  have HMU := hide (show (wsc 16 2 x).mult = dmult (dnext (dbias 2 (dcells 16 (dnext x)).2).2) from rfl)
  have HSH := hide (show (wsc 16 2 x).shift = dshift (dnext (dnext (dbias 2 (dcells 16 (dnext x)).2).2)) from rfl)
  have HEND := hide (show wend 16 2 x = dnext (dnext (dnext (dbias 2 (dcells 16 (dnext x)).2).2)) from rfl)
  have HWC := hide (show wcells 16 x = (dcells 16 (dnext x)).1 from rfl)
  have HWB := hide (show wbias 16 2 x = (dbias 2 (dcells 16 (dnext x)).2).1 from rfl)
  have Lw := hide (And.intro L1 L2)
  have HRR := hide (And.intro hl hh)
  clear L1 L2 K1 K2 hl hh
  obtain ⟨ce, Hce⟩ : ∃ ce, Hid ((dcells 16 (dnext x)).1 = ce) := ⟨_, rfl⟩
  obtain ⟨bi, Hbi⟩ : ∃ bi, Hid ((dbias 2 (dcells 16 (dnext x)).2).1 = bi) := ⟨_, rfl⟩
  obtain ⟨x3, Hx3⟩ : ∃ x3, Hid ((dbias 2 (dcells 16 (dnext x)).2).2 = x3) := ⟨_, rfl⟩
  rw [Hce.out, Hbi.out] at sz3 L4
  rw [Hce.out] at W6 HWC
  rw [Hbi.out] at W6 HWB
  rw [Hx3.out] at W6 HZO HMU HSH HEND R3 R4 R5
  have HZ2 := dzero_rg x3
  go_wp2_with fail
  refine (dzero_c db x3 _ W6.D R3.1 R3.2).mono ?_
  rintro e q7 ⟨rfl, D7, hg7⟩
  have W7 := W6.die D7 hg7
  clear W6 D7 hg7
  go_wp2_with fail
  refine (mten w.heap.size _ [] _ (D.tMid 2 2 2 (dzero x3)) none 0 0 _ W7.P (Ints.nil _ _) sz3 (show 0 ≤ 1000 by decide) (by show 3 ≤ 1000; decide)).mono ?_
  rintro e q8 ⟨rfl, P8, hg8⟩
  have W8 := W7.mod P8 hg8
  clear W7 P8 hg8
  have HMu := dmult_rg (dnext x3)
  have HSh := dshift_rg (dnext (dnext x3))
  go_wp2_with fail
  refine (dmult_c db (dnext x3) _ W8.D R4.1 R4.2).mono ?_
  rintro e q9 ⟨rfl, D9, hg9⟩
  have W9 := W8.die D9 hg9
  clear W8 D9 hg9
  go_wp2_with fail
  refine (dshift_c db (dnext (dnext x3)) _ W9.D R5.1 R5.2).mono ?_
  rintro e q10 ⟨rfl, D10, hg10⟩
  have W10 := W9.die D10 hg10
  clear W9 D10 hg10
  go_wp2_with fail
  refine (scale2_c (dmult (dnext x3)) (dshift (dnext (dnext x3))) q10).mono ?_
  rintro e q11 ⟨rfl, hg11⟩
  have W11 := W10.none hg11
  clear W10 hg11
  go_wp2_with fail
  refine (span_c lo hi q11).mono ?_
  rintro e q12 ⟨rfl, hg12⟩
  have W12 := W11.none hg12
  clear W11 hg12
  have W13 := (W12.none (World.grownBy_alloc q12 (.cells #[.int .i64 0, .int .i64 1, .int .i64 2] 3) none)).none (World.grownBy_alloc _ (.cells #[.int .u8 1, .int .u8 0] 5) none)
  have hcv : (convert 41 9 (.slice (some ⟨q12.heap.size + 1, 0, none⟩) 2 2)).run Tryz.prog ((q12.alloc (.cells #[.int .i64 0, .int .i64 1, .int .i64 2] 3)).alloc (.cells #[.int .u8 1, .int .u8 0] 5)) = .ok (.string (S8 [1, 0])) ((q12.alloc (.cells #[.int .i64 0, .int .i64 1, .int .i64 2] 3)).alloc (.cells #[.int .u8 1, .int .u8 0] 5)) := by
    have e := conv_list (q12.alloc (.cells #[.int .i64 0, .int .i64 1, .int .i64 2] 3)) [1, 0]
    rw [World.size_alloc] at e
    exact e
  have hs0 : (S8 [1, 0]).size = 2 := by rw [s8_size]; rfl
  have hs1 : (S8 (w4 (dmult (dnext x3)) ++ [b8 (dshift (dnext (dnext x3)))])).size = 5 := by rw [s8_size]; rfl
  have hs2 : (S8 [b8 lo, b8 hi]).size = 2 := by rw [s8_size]; rfl
  have Hsn := hide (show S8 [1, 0] ++ S8 (w4 (dmult (dnext x3)) ++ [b8 (dshift (dnext (dnext x3)))]) ++ S8 [b8 lo, b8 hi] = S8 (ownBytes (D.oConv 1 0 1 2 3 1 false ⟨dmult (dnext x3), dshift (dnext (dnext x3))⟩ lo hi)) by
    rw [s8_app, s8_app]; rfl)
  have I13 := Ints.of_blk (base := 0) (xs := [0, 1, 2]) (n := 3) (Nat.zero_le _) rfl (by decide) ((Blk.new q12 3 #[.int .i64 0, .int .i64 1, .int .i64 2]).alloc (.cells #[.int .u8 1, .int .u8 0] 5))
  have HW13 := hide W13
  have HI13 := hide I13
  clear W12 W13 I13
  go_wp2_with fail
  rw [Hsn.out]
  refine (mopr w.heap.size _ [] _ (D.oConv 1 0 1 2 3 1 false ⟨dmult (dnext x3), dshift (dnext (dnext x3))⟩ lo hi) _ (some ⟨q12.heap.size, 0, none⟩) 3 3 _ HW13.out.P (fun o ho => absurd ho (by simp)) HI13.out rfl (show 9 ≤ 1000 by decide) (by decide)).mono ?_
  rintro e q14 ⟨rfl, P14, hg14⟩
  have W14 := HW13.out.mod P14 hg14
  clear HW13 HI13 P14 hg14 hcv hs0 hs1 hs2
  have e4 : q14.cell? ⟨w.heap.size, 4, none⟩ = some (.slice none 0 0) := Blk.cell W14.P 4
  have f4 := Blk.free W14.P 4
  have hl14 : w.heap.size < q14.heap.size := W14.P.lt
  have HW := hide W14
  clear W14
  go_wp2
  go_ret2
  have PF : MP ((q14.setCell ⟨w.heap.size, 4, none⟩ (.slice (some ⟨q14.heap.size, 0, none⟩) 1 1)).alloc (.cells #[.int .i64 3] 3)) w.heap.size (mW 3 3 2 2 2 16 2 false lo hi x).tensors (mW 3 3 2 2 2 16 2 false lo hi x).ops (.slice (some ⟨q14.heap.size, 0, none⟩) 1 1) := by
    have e := Blk.alloc (Blk.set HW.out.P 4 (.slice (some ⟨q14.heap.size, 0, none⟩) 1 1)) (.cells #[.int .i64 3] 3)
    have t1 : (mW 3 3 2 2 2 16 2 false lo hi x).tensors = [D.tIn 3 3 2 (dzero x)] ++ [D.tConst 2 2 4 ce] ++ [D.tBias 2 bi] ++ [D.tMid 2 2 2 (dzero x3)] := by
      rw [← HWC.out, ← HWB.out, ← HZO.out]; rfl
    have t2 : (mW 3 3 2 2 2 16 2 false lo hi x).ops = [] ++ [D.oConv 1 0 1 2 3 1 false ⟨dmult (dnext x3), dshift (dnext (dnext x3))⟩ lo hi] := by
      rw [← HMU.out, ← HSH.out]; rfl
    unfold MP MB
    rw [t1, t2]
    exact e
  have IF : Ints ((q14.setCell ⟨w.heap.size, 4, none⟩ (.slice (some ⟨q14.heap.size, 0, none⟩) 1 1)).alloc (.cells #[.int .i64 3] 3)) 0 (.slice (some ⟨q14.heap.size, 0, none⟩) 1 1) (mW 3 3 2 2 2 16 2 false lo hi x).outs :=
    Ints.of_blk (xs := [3]) (Nat.zero_le _) rfl (by decide) (by have e := Blk.new (q14.setCell ⟨w.heap.size, 4, none⟩ (.slice (some ⟨q14.heap.size, 0, none⟩) 1 1)) 3 #[.int .i64 3]; rw [World.size_setCell] at e; exact e)
  have GF := gr_trans (gr_new HW.out.g (gr_set q14 w.heap.size 4 (.slice (some ⟨q14.heap.size, 0, none⟩) 1 1)) (Nat.le_refl _)) (World.grownBy_alloc _ (.cells #[.int .i64 3] 3) (some db))
  refine ⟨by rw [HZO.out]; rfl, MP.done PF IF HMM.out ?_ (show 1 ≤ 100 by decide) (show 1 ≤ 1000 by decide), ?_, GF⟩
  · show 5 + 4 * 0 + (5 + 4 * (wcells 16 x).length + (5 + 4 * (wbias 16 2 x).length + (5 + 4 * 0 + 0))) ≤ 100000
    rw [HWC.out, HWB.out]; omega
  · rw [HEND.out]
    exact Blk.alloc (Blk.other HW.out.D (by simp; omega) _) _

end Go.Proofs.YtcnhfffgbamonaaGreat
