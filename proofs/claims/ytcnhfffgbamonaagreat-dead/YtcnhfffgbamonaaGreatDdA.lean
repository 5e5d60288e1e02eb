import Derived.Test.YtcnhfffgbamonaaGreatMw1
import Derived.Test.YtcnhfffgbamonaaGreatLa4e
/-
  windowed of the laws, at (3, 3, 2, 2, 2, 0). (Written by a small program of ours: wip/gen/la4.py.)
-/
namespace Go.Proofs.YtcnhfffgbamonaaGreat
open Go.RowKit

set_option maxRecDepth 100000 in
set_option maxHeartbeats 2000000 in
theorem windowedP_332220 (db : Nat) (x lo hi : Int) (w : World) (hD : Die w db x) (h0 : 0 ≤ x) (h1 : x < 2147483648) (hl : Cell lo) (hh : Cell hi) (hlh : lo ≤ hi) :
    Calls Tryz.prog 44 #[.pointer (some ⟨db, 0, none⟩), .int .i64 3, .int .i64 3, .int .i64 2, .int .i64 2, .int .i64 2, .int .i64 0, .int .i64 lo, .int .i64 hi] w fun e w' =>
      e = .returned (.tuple #[.pointer (some ⟨w.heap.size, 0, none⟩), .int .i64 (wzo 16 2 x)]) ∧ (∃ G, Mw w' w.heap.size G (mW 3 3 2 2 2 16 2 false lo hi x) 3) ∧ Die w' db (wend 16 2 x) ∧ w.grownBy w' (some db) := by
  have hdb : db < w.heap.size := Blk.lt hD
  have M0 := MP.new w
  have G0 : w.grownBy (w.alloc (.cells #[.string ⟨#[]⟩, .string ⟨#[]⟩, .int .i64 0, .int .i64 0, .slice none 0 0] 81)) (some db) := World.grownBy_alloc _ _ _
  have W0 : WS w _ db x w.heap.size [] [] (.slice none 0 0) := ⟨Blk.alloc hD _, M0, G0, hdb⟩
  have HZ := dzero_rg x
  have R1 := dnext_range x
  have R2 := dcells_range 16 (dnext x) R1.1 R1.2
  have R3 := dbias_range 2 (dcells 16 (dnext x)).2 R2.1 R2.2
  have R4 := dnext_range (dbias 2 (dcells 16 (dnext x)).2).2
  have R5 := dnext_range (dnext (dbias 2 (dcells 16 (dnext x)).2).2)
  have L1 := dcells_len 16 (dnext x)
  have L2 := dbias_len 2 (dcells 16 (dnext x)).2
  have K1 := dcells_ok 16 (dnext x)
  have K2 := dbias_ok 2 (dcells 16 (dnext x)).2
  clear M0 G0 hD
  go_enter Tryz.func44, Tryz.ntmps44
  go_wp2_with fail
  refine (dzero_c db x _ W0.D h0 h1).mono ?_
  rintro e q1 ⟨rfl, D1, hg1⟩
  have W1 := W0.die D1 hg1
  clear W0 D1 hg1
  go_wp2_with fail
  refine (mten w.heap.size [] [] _ (D.tIn 3 3 2 (dzero x)) none 0 0 _ W1.P (Ints.nil _ _) (by decide) (show 0 ≤ 1000 by decide) (by decide)).mono ?_
  rintro e q2 ⟨rfl, P2, hg2⟩
  have W2 := W1.mod P2 hg2
  clear W1 P2 hg2
  go_wp2_with fail
  refine (dcells_c db (dnext x) 16 _ W2.D R1.1 R1.2 (by decide)).mono ?_
  rintro e q3 ⟨rfl, I3, D3, hg3⟩
  have W3 := W2.die D3 hg3
  clear W2 D3 hg3
  go_wp2_with fail
  refine (mten w.heap.size [D.tIn 3 3 2 (dzero x)] [] _ (D.tConst 2 2 4 (dcells 16 (dnext x)).1) (some ⟨q2.heap.size, 0, none⟩) 16 16 _ W3.P (I3.mono (Nat.zero_le _)) (show 5 ≤ 100000 by decide) (by show (dcells 16 (dnext x)).1.length ≤ 1000; omega) (show 1 ≤ 1000 by decide)).mono ?_
  rintro e q4 ⟨rfl, P4, hg4⟩
  have W4 := W3.mod P4 hg4
  clear W3 P4 hg4 I3
  go_wp2_with fail
  refine (dbias_c db (dcells 16 (dnext x)).2 2 _ W4.D R2.1 R2.2 (by decide)).mono ?_
  rintro e q5 ⟨rfl, I5, D5, hg5⟩
  have W5 := W4.die D5 hg5
  clear W4 D5 hg5
  have sz2 : sizeT ([D.tIn 3 3 2 (dzero x)] ++ [D.tConst 2 2 4 (dcells 16 (dnext x)).1]) ≤ 100000 := by
    rw [sizeT_snoc]; show 5 + (5 + 4 * (dcells 16 (dnext x)).1.length) ≤ 100000; omega
  go_wp2_with fail
  refine (mten w.heap.size _ [] _ (D.tBias 2 (dbias 2 (dcells 16 (dnext x)).2).1) (some ⟨q4.heap.size, 0, none⟩) 2 2 _ W5.P (I5.mono (Nat.zero_le _)) sz2 (by show (dbias 2 (dcells 16 (dnext x)).2).1.length ≤ 1000; omega) (by show 2 ≤ 1000; decide)).mono ?_
  rintro e q6 ⟨rfl, P6, hg6⟩
  have W6 := W5.mod P6 hg6
  clear W5 P6 hg6 I5
  have sz3 : sizeT ([D.tIn 3 3 2 (dzero x)] ++ [D.tConst 2 2 4 (dcells 16 (dnext x)).1] ++ [D.tBias 2 (dbias 2 (dcells 16 (dnext x)).2).1]) ≤ 100000 := by
    rw [sizeT_snoc, sizeT_snoc]; show 5 + (5 + 4 * (dcells 16 (dnext x)).1.length) + (5 + 4 * (dbias 2 (dcells 16 (dnext x)).2).1.length) ≤ 100000; omega
  have HMM := hide (show D.Is (mW 3 3 2 2 2 16 2 false lo hi x) from D.is_win 3 3 2 2 2 false lo hi (dzero x) _ _ _ _ (by simp) hl hh hlh (by unfold D.ZOk; omega) (by have := dzero_rg (dbias 2 (dcells 16 (dnext x)).2).2; unfold D.ZOk wzo wx3; omega) K1 (by rw [show wcells 16 x = (dcells 16 (dnext x)).1 from rfl, L1]; decide) K2 (by rw [show wbias 16 2 x = (dbias 2 (dcells 16 (dnext x)).2).1 from rfl, L2]; decide) (wsc_ok 16 2 x))
  have L4 : 5 + (5 + 4 * (dcells 16 (dnext x)).1.length) + (5 + 4 * (dbias 2 (dcells 16 (dnext x)).2).1.length) + (5 + 4 * 0) ≤ 100000 := by omega
  have HZO := hide (show wzo 16 2 x = dzero (dbias 2 (dcells 16 (dnext x)).2).2 from rfl)
  have HMU := hide (show (wsc 16 2 x).mult = dmult (dnext (dbias 2 (dcells 16 (dnext x)).2).2) from rfl)
  have HSH := hide (show (wsc 16 2 x).shift = dshift (dnext (dnext (dbias 2 (dcells 16 (dnext x)).2).2)) from rfl)
  have HEND := hide (show wend 16 2 x = dnext (dnext (dnext (dbias 2 (dcells 16 (dnext x)).2).2)) from rfl)
  have HWC := hide (show wcells 16 x = (dcells 16 (dnext x)).1 from rfl)
  have HWB := hide (show wbias 16 2 x = (dbias 2 (dcells 16 (dnext x)).2).1 from rfl)
  have Lw := hide (And.intro L1 L2)
  have HRR := hide (And.intro hl hh)
  clear L1 L2 K1 K2 hl hh
  obtain ⟨ce, Hce⟩ : ∃ ce, Hid ((dcells 16 (dnext x)).1 = ce) := ⟨_, rfl⟩
  obtain ⟨bi, Hbi⟩ : ∃ bi, Hid ((dbias 2 (dcells 16 (dnext x)).2).1 = bi) := ⟨_, rfl⟩
  obtain ⟨x3, Hx3⟩ : ∃ x3, Hid ((dbias 2 (dcells 16 (dnext x)).2).2 = x3) := ⟨_, rfl⟩
  rw [Hce.out, Hbi.out] at sz3 L4
  rw [Hce.out] at W6 HWC
  rw [Hbi.out] at W6 HWB
  rw [Hx3.out] at W6 HZO HMU HSH HEND R3 R4 R5
  have HZ2 := dzero_rg x3
  go_wp2_with fail
  refine (dzero_c db x3 _ W6.D R3.1 R3.2).mono ?_
  rintro e q7 ⟨rfl, D7, hg7⟩
  have W7 := W6.die D7 hg7
  clear W6 D7 hg7
  go_wp2_with fail
  refine (mten w.heap.size _ [] _ (D.tMid 2 2 2 (dzero x3)) none 0 0 _ W7.P (Ints.nil _ _) sz3 (show 0 ≤ 1000 by decide) (by show 3 ≤ 1000; decide)).mono ?_
  rintro e q8 ⟨rfl, P8, hg8⟩
  have W8 := W7.mod P8 hg8
  clear W7 P8 hg8
  have HMu := dmult_rg (dnext x3)
  have HSh := dshift_rg (dnext (dnext x3))
  go_wp2_with fail
  refine (dmult_c db (dnext x3) _ W8.D R4.1 R4.2).mono ?_
  rintro e q9 ⟨rfl, D9, hg9⟩
  have W9 := W8.die D9 hg9
  clear W8 D9 hg9
  go_wp2_with fail
  refine (dshift_c db (dnext (dnext x3)) _ W9.D R5.1 R5.2).mono ?_
  rintro e q10 ⟨rfl, D10, hg10⟩
  have W10 := W9.die D10 hg10
  clear W9 D10 hg10
  go_wp2_with fail
  refine (scale2_c (dmult (dnext x3)) (dshift (dnext (dnext x3))) q10).mono ?_
  rintro e q11 ⟨rfl, hg11⟩
  have W11 := W10.none hg11
  clear W10 hg11
  go_wp2_with fail
  refine (span_c lo hi q11).mono ?_
  rintro e q12 ⟨rfl, hg12⟩
  have W12 := W11.none hg12
  clear W11 hg12
  have W13 := (W12.none (World.grownBy_alloc q12 (.cells #[.int .i64 0, .int .i64 1, .int .i64 2] 3) none)).none (World.grownBy_alloc _ (.cells #[.int .u8 1, .int .u8 0] 5) none)
  have hcv : (convert 41 9 (.slice (some ⟨q12.heap.size + 1, 0, none⟩) 2 2)).run Tryz.prog ((q12.alloc (.cells #[.int .i64 0, .int .i64 1, .int .i64 2] 3)).alloc (.cells #[.int .u8 1, .int .u8 0] 5)) = .ok (.string (S8 [1, 0])) ((q12.alloc (.cells #[.int .i64 0, .int .i64 1, .int .i64 2] 3)).alloc (.cells #[.int .u8 1, .int .u8 0] 5)) := by
    have e := conv_list (q12.alloc (.cells #[.int .i64 0, .int .i64 1, .int .i64 2] 3)) [1, 0]
    rw [World.size_alloc] at e
    exact e
  have hs0 : (S8 [1, 0]).size = 2 := by rw [s8_size]; rfl
  have hs1 : (S8 (w4 (dmult (dnext x3)) ++ [b8 (dshift (dnext (dnext x3)))])).size = 5 := by rw [s8_size]; rfl
  have hs2 : (S8 [b8 lo, b8 hi]).size = 2 := by rw [s8_size]; rfl
  have Hsn := hide (show S8 [1, 0] ++ S8 (w4 (dmult (dnext x3)) ++ [b8 (dshift (dnext (dnext x3)))]) ++ S8 [b8 lo, b8 hi] = S8 (ownBytes (D.oConv 1 0 1 2 3 1 false ⟨dmult (dnext x3), dshift (dnext (dnext x3))⟩ lo hi)) by
    rw [s8_app, s8_app]; rfl)
  have I13 := Ints.of_blk (base := 0) (xs := [0, 1, 2]) (n := 3) (Nat.zero_le _) rfl (by decide) ((Blk.new q12 3 #[.int .i64 0, .int .i64 1, .int .i64 2]).alloc (.cells #[.int .u8 1, .int .u8 0] 5))
  have HW13 := hide W13
  have HI13 := hide I13
  clear W12 W13 I13
  go_wp2_with fail
  rw [Hsn.out]
  refine (mopr w.heap.size _ [] _ (D.oConv 1 0 1 2 3 1 false ⟨dmult (dnext x3), dshift (dnext (dnext x3))⟩ lo hi) _ (some ⟨q12.heap.size, 0, none⟩) 3 3 _ HW13.out.P (fun o ho => absurd ho (by simp)) HI13.out rfl (show 9 ≤ 1000 by decide) (by decide)).mono ?_
  rintro e q14 ⟨rfl, P14, hg14⟩
  have W14 := HW13.out.mod P14 hg14
  clear HW13 HI13 P14 hg14 hcv hs0 hs1 hs2
  have e4 : q14.cell? ⟨w.heap.size, 4, none⟩ = some (.slice none 0 0) := Blk.cell W14.P 4
  have f4 := Blk.free W14.P 4
  have hl14 : w.heap.size < q14.heap.size := W14.P.lt
  have HW := hide W14
  clear W14
  go_wp2
  go_ret2
  have PF : MP ((q14.setCell ⟨w.heap.size, 4, none⟩ (.slice (some ⟨q14.heap.size, 0, none⟩) 1 1)).alloc (.cells #[.int .i64 3] 3)) w.heap.size (mW 3 3 2 2 2 16 2 false lo hi x).tensors (mW 3 3 2 2 2 16 2 false lo hi x).ops (.slice (some ⟨q14.heap.size, 0, none⟩) 1 1) := by
    have e := Blk.alloc (Blk.set HW.out.P 4 (.slice (some ⟨q14.heap.size, 0, none⟩) 1 1)) (.cells #[.int .i64 3] 3)
    have t1 : (mW 3 3 2 2 2 16 2 false lo hi x).tensors = [D.tIn 3 3 2 (dzero x)] ++ [D.tConst 2 2 4 ce] ++ [D.tBias 2 bi] ++ [D.tMid 2 2 2 (dzero x3)] := by
      rw [← HWC.out, ← HWB.out, ← HZO.out]; rfl
    have t2 : (mW 3 3 2 2 2 16 2 false lo hi x).ops = [] ++ [D.oConv 1 0 1 2 3 1 false ⟨dmult (dnext x3), dshift (dnext (dnext x3))⟩ lo hi] := by
      rw [← HMU.out, ← HSH.out]; rfl
    unfold MP MB
    rw [t1, t2]
    exact e
  have OF : Blk ((q14.setCell ⟨w.heap.size, 4, none⟩ (.slice (some ⟨q14.heap.size, 0, none⟩) 1 1)).alloc (.cells #[.int .i64 3] 3)) q14.heap.size 3 #[.int .i64 3] := by have e := Blk.new (q14.setCell ⟨w.heap.size, 4, none⟩ (.slice (some ⟨q14.heap.size, 0, none⟩) 1 1)) 3 #[.int .i64 3]; rw [World.size_setCell] at e; exact e
  have GF := gr_trans (gr_new HW.out.g (gr_set q14 w.heap.size 4 (.slice (some ⟨q14.heap.size, 0, none⟩) 1 1)) (Nat.le_refl _)) (World.grownBy_alloc _ (.cells #[.int .i64 3] 3) (some db))
  refine ⟨by rw [HZO.out]; rfl, ⟨_, HMM.out, ?_, PF, OF⟩, ?_, GF⟩
  · show 5 + 4 * 0 + (5 + 4 * (wcells 16 x).length + (5 + 4 * (wbias 16 2 x).length + (5 + 4 * 0 + 0))) ≤ 100000
    rw [HWC.out, HWB.out]; omega
  · rw [HEND.out]
    exact Blk.alloc (Blk.other HW.out.D (by simp; omega) _) _

end Go.Proofs.YtcnhfffgbamonaaGreat

/-
  The law Dead: something that nobody reads.
-/
namespace Go.Proofs.YtcnhfffgbamonaaGreat
open Go.RowKit

set_option maxRecDepth 100000 in
set_option maxHeartbeats 4000000 in
theorem deadl_c (a : Int) (w : World) (ha : -9223372036854775808 ≤ a) (hb : a ≤ 9223372036854775807) :
    Calls Tryz.prog 25 #[.int .i64 a] w fun e w' => e = .returned (.bool true) ∧ w.grownBy w' none := by
  obtain ⟨x, Hx⟩ : ∃ x, Hid (pickOf a 2147483648 = x) := ⟨_, rfl⟩
  have R0 : 0 ≤ x ∧ x < 2147483648 := by rw [← Hx.out]; exact ⟨Int.emod_nonneg _ (by decide), Int.emod_lt_of_pos _ (by decide)⟩
  obtain ⟨xe, Hxe⟩ : ∃ xe, Hid (wend 16 2 x = xe) := ⟨_, rfl⟩
  have RE : 0 ≤ xe ∧ xe < 2147483648 := by rw [← Hxe.out]; exact dnext_range _
  obtain ⟨m, Hm⟩ : ∃ m, Hid (mW 3 3 2 2 2 16 2 false (-128) 127 x = m) := ⟨_, rfl⟩
  obtain ⟨nm, Hnm⟩ : ∃ nm, Hid (D.mDead (dzero x) (wcells 16 x) (wbias 16 2 x) (wzo 16 2 x) (wsc 16 2 x) = nm) := ⟨_, rfl⟩
  have HIS : Hid (D.Is nm) := by
    rw [← Hnm.out]
    exact D.is_dead _ _ _ _ _ (by have := dzero_rg x; unfold D.ZOk; omega) (by have := dzero_rg (wx3 16 2 x); unfold D.ZOk wzo; omega) (dcells_ok _ _) (dcells_len _ _) (dbias_ok _ _) (dbias_len _ _) (wsc_ok 16 2 x)
  have HAL : Hid (∀ l, D.run m [l] = D.run nm [l]) := by rw [← Hm.out, ← Hnm.out]; exact fun l => D.dead_alike _ _ _ _ _ l
  have HLm : Hid (D.lengths m = [((18 : Nat) : Int)]) := by rw [← Hm.out]; rfl
  have HLn : Hid (D.lengths nm = [((18 : Nat) : Int)]) := by rw [← Hnm.out]; rfl
  have HS1 : Hid ((H.shrink m).ops.length = 1) := by rw [← Hm.out]; exact D.steps_win _ _ _ _ _ _ _ _ _ _ _ _ _
  have HS2 : Hid ((H.shrink nm).ops.length = 1) := by rw [← Hnm.out]; exact D.steps_dead _ _ _ _ _
  have HTM : Hid (nm.tensors = m.tensors ++ [D.tMid 2 2 2 (wzo 16 2 x)] ++ [D.tMid 4 2 1 (wzo 16 2 x)]) := by rw [← Hm.out, ← Hnm.out]; rfl
  have HOM : Hid (nm.ops = m.ops ++ [D.oClamp 3 4 (-3) 3] ++ [D.oShape 4 5]) := by rw [← Hm.out, ← Hnm.out]; rfl
  have HOU : Hid (nm.outs = [3]) := by rw [← Hnm.out]; rfl
  have HSZ : Hid (sizeT m.tensors ≤ 1000) := by
    rw [← Hm.out]
    show 5 + 4 * 0 + (5 + 4 * (wcells 16 x).length + (5 + 4 * (wbias 16 2 x).length + (5 + 4 * 0 + 0))) ≤ 1000
    have h1 : (wcells 16 x).length = 16 := dcells_len _ _
    have h2 : (wbias 16 2 x).length = 2 := dbias_len _ _
    omega
  have HTL : Hid (m.tensors.length = 4) := by rw [← Hm.out]; rfl
  have HOL : Hid (m.ops.length = 1) := by rw [← Hm.out]; rfl
  obtain ⟨zo, Hzo⟩ : ∃ zo, Hid (wzo 16 2 x = zo) := ⟨_, rfl⟩
  rw [Hzo.out] at HTM
  go_enter Tryz.func25, Tryz.ntmps25
  go_wp2_with fail
  refine (seeded_c a w ha hb).mono ?_
  rintro e q0 ⟨rfl, D0, g0⟩
  rw [Hx.out] at D0
  have l0 := Blk.lt D0
  go_wp2_with fail
  refine (windowed_332220 w.heap.size x (-128) 127 q0 D0 R0.1 R0.2 (by unfold Cell; decide) (by unfold Cell; decide) (by decide)).mono ?_
  rintro e p1 ⟨rfl, M1, D1, g1⟩
  rw [Hxe.out] at D1
  rw [Hm.out] at M1
  rw [Hzo.out]
  have G1 := gr_new g0 g1 (Nat.le_refl _)
  have HM1 := hide M1
  have l1 : q0.heap.size < p1.heap.size := by obtain ⟨ts, ops, nt, no, aa, nn, cc, h, -⟩ := M1.at_; exact Blk.lt h
  clear g0 g1 D0 M1
  go_wp2_with fail
  refine (seeded_c a p1 ha hb).mono ?_
  rintro e p2 ⟨rfl, E2, g2⟩
  rw [Hx.out] at E2
  have l2 := Blk.lt E2
  have HG2 := hide (gr_trans G1 g2)
  have HD2 := hide (Blk.kept D1 g2 (by simp))
  have HM2 := hide (HM1.out.kept0 g2)
  have HE2 := hide E2
  clear D1 E2 g2 G1 HM1
  go_wp2_with fail
  refine (windowedP_332220 p1.heap.size x (-128) 127 p2 HE2.out R0.1 R0.2 (by unfold Cell; decide) (by unfold Cell; decide) (by decide)).mono ?_
  rintro e q1 ⟨rfl, ⟨G, W1⟩, E1, g1⟩
  rw [Hm.out] at W1
  have S0 : Hid (S4 w q1 w.heap.size xe q0.heap.size m p1.heap.size (wend 16 2 x) p2.heap.size m.tensors m.ops (.slice (some ⟨G, 0, none⟩) 1 1)) :=
    ⟨gr_new HG2.out g1 (by omega), Blk.kept HD2.out g1 (by simp; omega), HM2.out.apart HE2.out (by decide) (by omega) g1, E1, W1.P, Nat.le_refl _, l0, l1, l2⟩
  have O0 := hide W1.O
  have HF0 := hide W1.is.fit.os
  clear W1 E1 g1 HG2 HD2 HM2 HE2
  go_wp2_with fail
  refine (mten p2.heap.size m.tensors m.ops _ (D.tMid 2 2 2 zo) none 0 0 _ S0.out.P (Ints.nil _ _) (by have := HSZ.out; omega) (show 0 ≤ 1000 by decide) (by rw [HTL.out]; decide)).mono ?_
  rintro e q2 ⟨rfl, hP, hg⟩
  rw [HTL.out]
  have S1 := hide (S0.out.mod hP hg)
  have O1 := hide (O0.out.unlike2 S0.out.P (by decide) hg)
  clear hP hg S0 O0
  go_wp2_with fail
  refine (span_c (-3) 3 q2).mono ?_
  rintro e q3 ⟨rfl, hg⟩
  have S2 := S1.out.none hg
  have O2 := O1.out.kept hg (by simp)
  have k4 : q3.cell? ⟨p2.heap.size, 4, none⟩ = some (.slice (some ⟨G, 0, none⟩) 1 1) := Blk.cell S2.P 4
  have kG : q3.cell? ⟨G, 0, none⟩ = some (.int .i64 3) := O2.cell 0
  have lg := O2.lt
  have T2 := hide (S2.none (World.grownBy_alloc q3 (.cells #[.int .i64 3] 3) none))
  have U2 := hide (O2.alloc (.cells #[.int .i64 3] 3))
  have J2 := hide (Ints.of_blk (base := 0) (xs := [3]) (n := 1) (Nat.zero_le _) rfl (by decide) (Blk.new q3 3 #[.int .i64 3]))
  have Hsn := hide (show S8 [b8 (-3), b8 3] = S8 (ownBytes (D.oClamp 3 4 (-3) 3)) from rfl)
  have HS2' := hide S2
  clear hg S1 O1 S2 O2
  go_wp2_with fail
  rw [Hsn.out]
  refine (mopr p2.heap.size (m.tensors ++ [D.tMid 2 2 2 zo]) m.ops _ (D.oClamp 3 4 (-3) 3) _ (some ⟨q3.heap.size, 0, none⟩) 1 1 _ T2.out.P HF0.out J2.out rfl (show 2 ≤ 1000 by decide) (by rw [HOL.out]; decide)).mono ?_
  rintro e q4 ⟨rfl, hP, hg⟩
  have S3 := hide (T2.out.mod hP hg)
  have O3 := hide (U2.out.unlike2 T2.out.P (by decide) hg)
  clear hP hg T2 U2 J2 Hsn k4 kG lg HS2'
  have HF1 : Hid (∀ o ∈ m.ops ++ [D.oClamp 3 4 (-3) 3], FitO o) := fun o ho => HIS.out.fit.os o (by rw [HOM.out]; exact List.mem_append_left _ ho)
  go_wp2_with fail
  refine (mten p2.heap.size (m.tensors ++ [D.tMid 2 2 2 zo]) _ _ (D.tMid 4 2 1 zo) none 0 0 _ S3.out.P (Ints.nil _ _) (by rw [sizeT_snoc]; have := HSZ.out; show sizeT m.tensors + (5 + 4 * 0) ≤ 100000; omega) (show 0 ≤ 1000 by decide) (by rw [List.length_append, HTL.out]; show 5 ≤ 1000; decide)).mono ?_
  rintro e q5 ⟨rfl, hP, hg⟩
  rw [List.length_append, HTL.out, show 4 + [D.tMid 2 2 2 zo].length = 5 from rfl]
  have S5 := hide (S3.out.mod hP hg)
  have O5 := hide (O3.out.unlike2 S3.out.P (by decide) hg)
  have T5 := hide (S5.out.none (World.grownBy_alloc q5 (.cells #[.int .i64 4] 3) none))
  have U5 := hide (O5.out.alloc (.cells #[.int .i64 4] 3))
  have J5 := hide (Ints.of_blk (base := 0) (xs := [4]) (n := 1) (Nat.zero_le _) rfl (by decide) (Blk.new q5 3 #[.int .i64 4]))
  clear hP hg S3 O3 S5 O5
  go_wp2_with fail
  refine (mopr p2.heap.size (m.tensors ++ [D.tMid 2 2 2 zo] ++ [D.tMid 4 2 1 zo]) (m.ops ++ [D.oClamp 3 4 (-3) 3]) _ (D.oShape 4 5) [] (some ⟨q5.heap.size, 0, none⟩) 1 1 _ T5.out.P HF1.out J5.out rfl (show 0 ≤ 1000 by decide) (by rw [List.length_append, HOL.out]; decide)).mono ?_
  rintro e q6 ⟨rfl, hP, hg⟩
  have S6 := hide (T5.out.mod hP hg)
  have O6 := hide (U5.out.unlike2 T5.out.P (by decide) hg)
  clear hP hg T5 U5 J5
  have MN : Hid (Mm q6 p2.heap.size nm) := Mw.mm (G := G) (v := 3) ⟨HIS.out, by rw [HTM.out, sizeT_snoc, sizeT_snoc]; have := HSZ.out; show sizeT m.tensors + (5 + 4 * 0) + (5 + 4 * 0) ≤ 100000; omega, by rw [HTM.out, HOM.out]; exact S6.out.P, O6.out⟩ HOU.out (by rw [HOM.out, List.length_append, List.length_append, HOL.out]; decide)
  have ndb : w.heap.size ≠ q0.heap.size ∧ w.heap.size ≠ p2.heap.size := by have h2 := S6.out.db; have h3 := S6.out.be; have h4 := S6.out.en; omega
  go_wp2_with fail
  refine (dcells_c w.heap.size xe 18 q6 S6.out.D RE.1 RE.2 (by decide)).mono ?_
  rintro e qb ⟨rfl, hI, hD, hg⟩
  have LI := hide (one_list (hI.mono (Nat.zero_le _)))
  have MMb := hide ((S6.out.M.apart S6.out.D (by decide) (by omega) hg).kept0 (World.grownBy_alloc _ (.cells #[.slice (some ⟨q6.heap.size, 0, none⟩) 18 18] 33) none))
  have MNb := hide ((MN.out.apart S6.out.D (by decide) (by omega) hg).kept0 (World.grownBy_alloc _ (.cells #[.slice (some ⟨q6.heap.size, 0, none⟩) 18 18] 33) none))
  have GGb := hide (gr_trans (gr_new S6.out.g hg (Nat.le_refl _)) (World.grownBy_alloc _ (.cells #[.slice (some ⟨q6.heap.size, 0, none⟩) 18 18] 33) none))
  have Hcl := hide (dcells_ok 18 xe)
  have Hll := hide (dcells_len 18 xe)
  clear hI hD hg S6 O6 MN
  obtain ⟨xs, Hxs⟩ : ∃ xs, Hid ((dcells 18 xe).1 = xs) := ⟨_, rfl⟩
  rw [Hxs.out] at LI Hcl Hll
  go_wp2_with fail
  refine (alike_m q0.heap.size p2.heap.size m nm (some ⟨qb.heap.size, 0, none⟩) 1 1 [xs] _ MMb.out MNb.out LI.out (by intro l hl; simp at hl; subst hl; rw [Hll.out]; decide) (show 1 ≤ 9223372036854775807 by decide) (in_hold _ xs 18 HLm.out Hll.out Hcl.out) (in_hold _ xs 18 HLn.out Hll.out Hcl.out) (HAL.out xs)).mono ?_
  rintro e qc ⟨rfl, hg⟩
  have GC := hide (gr_trans GGb.out hg)
  have MC := hide (MMb.out.kept0 hg)
  have NC := hide (MNb.out.kept0 hg)
  clear hg GGb MMb MNb LI
  go_wp2_with fail
  refine (lsteps_c q0.heap.size m qc MC.out).mono ?_
  rintro e qd ⟨rfl, hg⟩
  rw [HS1.out]
  have GD := hide (gr_trans GC.out hg)
  have ND := hide (NC.out.kept0 hg)
  clear hg GC MC NC
  go_wp2_with fail
  refine (lsteps_c p2.heap.size nm qd ND.out).mono ?_
  rintro e qe ⟨rfl, hg⟩
  rw [HS2.out]
  have GE := hide (gr_trans GD.out hg)
  clear hg GD ND
  go_wp2
  go_ret
  exact ⟨rfl, GE.out⟩

theorem dead_c (a0 a1 a2 : Int) (w : World) (ha : -9223372036854775808 ≤ a0) (hb : a0 ≤ 9223372036854775807) :
    Calls Tryz.prog 9 #[.int .i64 a0, .int .i64 a1, .int .i64 a2] w fun e w' => e = .returned (.bool true) ∧ w.grownBy w' none := by
  go_enter Tryz.func9, Tryz.ntmps9
  go_wp2_with fail
  refine (deadl_c a0 w ha hb).mono ?_
  rintro e w1 ⟨rfl, hg1⟩
  go_wp2
  go_ret
  exact ⟨rfl, hg1⟩

end Go.Proofs.YtcnhfffgbamonaaGreat
