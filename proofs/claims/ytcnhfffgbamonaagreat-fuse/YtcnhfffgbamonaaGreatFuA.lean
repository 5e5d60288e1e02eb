import Derived.Test.YtcnhfffgbamonaaGreatMw1
import Derived.Test.YtcnhfffgbamonaaGreatLa4d
import Derived.Test.YtcnhfffgbamonaaGreatLaB
/-
  windowed of the laws, at (4, 3, 2, 2, 2, 1). (Written by a small program of ours: wip/gen/la4.py.)
-/
namespace Go.Proofs.YtcnhfffgbamonaaGreat
open Go.RowKit

set_option maxRecDepth 100000 in
set_option maxHeartbeats 2000000 in
theorem windowedP_432221 (db : Nat) (x lo hi : Int) (w : World) (hD : Die w db x) (h0 : 0 ≤ x) (h1 : x < 2147483648) (hl : Cell lo) (hh : Cell hi) (hlh : lo ≤ hi) :
    Calls Tryz.prog 44 #[.pointer (some ⟨db, 0, none⟩), .int .i64 4, .int .i64 3, .int .i64 2, .int .i64 2, .int .i64 2, .int .i64 1, .int .i64 lo, .int .i64 hi] w fun e w' =>
      e = .returned (.tuple #[.pointer (some ⟨w.heap.size, 0, none⟩), .int .i64 (wzo 16 2 x)]) ∧ (∃ G, Mw w' w.heap.size G (mW 4 3 2 2 2 16 2 true lo hi x) 3) ∧ Die w' db (wend 16 2 x) ∧ w.grownBy w' (some db) := by
  have hdb : db < w.heap.size := Blk.lt hD
  have M0 := MP.new w
  have G0 : w.grownBy (w.alloc (.cells #[.string ⟨#[]⟩, .string ⟨#[]⟩, .int .i64 0, .int .i64 0, .slice none 0 0] 81)) (some db) := World.grownBy_alloc _ _ _
  have W0 : WS w _ db x w.heap.size [] [] (.slice none 0 0) := ⟨Blk.alloc hD _, M0, G0, hdb⟩
  have HZ := dzero_rg x
  have R1 := dnext_range x
  have R2 := dcells_range 16 (dnext x) R1.1 R1.2
  have R3 := dbias_range 2 (dcells 16 (dnext x)).2 R2.1 R2.2
  have R4 := dnext_range (dbias 2 (dcells 16 (dnext x)).2).2
  have R5 := dnext_range (dnext (dbias 2 (dcells 16 (dnext x)).2).2)
  have L1 := dcells_len 16 (dnext x)
  have L2 := dbias_len 2 (dcells 16 (dnext x)).2
  have K1 := dcells_ok 16 (dnext x)
  have K2 := dbias_ok 2 (dcells 16 (dnext x)).2
  clear M0 G0 hD
  go_enter Tryz.func44, Tryz.ntmps44
  go_wp2_with fail
  refine (dzero_c db x _ W0.D h0 h1).mono ?_
  rintro e q1 ⟨rfl, D1, hg1⟩
  have W1 := W0.die D1 hg1
  clear W0 D1 hg1
  go_wp2_with fail
  refine (mten w.heap.size [] [] _ (D.tIn 4 3 2 (dzero x)) none 0 0 _ W1.P (Ints.nil _ _) (by decide) (show 0 ≤ 1000 by decide) (by decide)).mono ?_
  rintro e q2 ⟨rfl, P2, hg2⟩
  have W2 := W1.mod P2 hg2
  clear W1 P2 hg2
  go_wp2_with fail
  refine (dcells_c db (dnext x) 16 _ W2.D R1.1 R1.2 (by decide)).mono ?_
  rintro e q3 ⟨rfl, I3, D3, hg3⟩
  have W3 := W2.die D3 hg3
  clear W2 D3 hg3
  go_wp2_with fail
  refine (mten w.heap.size [D.tIn 4 3 2 (dzero x)] [] _ (D.tConst 2 2 4 (dcells 16 (dnext x)).1) (some ⟨q2.heap.size, 0, none⟩) 16 16 _ W3.P (I3.mono (Nat.zero_le _)) (show 5 ≤ 100000 by decide) (by show (dcells 16 (dnext x)).1.length ≤ 1000; omega) (show 1 ≤ 1000 by decide)).mono ?_
  rintro e q4 ⟨rfl, P4, hg4⟩
  have W4 := W3.mod P4 hg4
  clear W3 P4 hg4 I3
  go_wp2_with fail
  refine (dbias_c db (dcells 16 (dnext x)).2 2 _ W4.D R2.1 R2.2 (by decide)).mono ?_
  rintro e q5 ⟨rfl, I5, D5, hg5⟩
  have W5 := W4.die D5 hg5
  clear W4 D5 hg5
  have sz2 : sizeT ([D.tIn 4 3 2 (dzero x)] ++ [D.tConst 2 2 4 (dcells 16 (dnext x)).1]) ≤ 100000 := by
    rw [sizeT_snoc]; show 5 + (5 + 4 * (dcells 16 (dnext x)).1.length) ≤ 100000; omega
  go_wp2_with fail
  refine (mten w.heap.size _ [] _ (D.tBias 2 (dbias 2 (dcells 16 (dnext x)).2).1) (some ⟨q4.heap.size, 0, none⟩) 2 2 _ W5.P (I5.mono (Nat.zero_le _)) sz2 (by show (dbias 2 (dcells 16 (dnext x)).2).1.length ≤ 1000; omega) (by show 2 ≤ 1000; decide)).mono ?_
  rintro e q6 ⟨rfl, P6, hg6⟩
  have W6 := W5.mod P6 hg6
  clear W5 P6 hg6 I5
  have sz3 : sizeT ([D.tIn 4 3 2 (dzero x)] ++ [D.tConst 2 2 4 (dcells 16 (dnext x)).1] ++ [D.tBias 2 (dbias 2 (dcells 16 (dnext x)).2).1]) ≤ 100000 := by
    rw [sizeT_snoc, sizeT_snoc]; show 5 + (5 + 4 * (dcells 16 (dnext x)).1.length) + (5 + 4 * (dbias 2 (dcells 16 (dnext x)).2).1.length) ≤ 100000; omega
  have HMM := hide (show D.Is (mW 4 3 2 2 2 16 2 true lo hi x) from D.is_win 4 3 2 2 2 true lo hi (dzero x) _ _ _ _ (by simp) hl hh hlh (by unfold D.ZOk; omega) (by have := dzero_rg (dbias 2 (dcells 16 (dnext x)).2).2; unfold D.ZOk wzo wx3; omega) K1 (by rw [show wcells 16 x = (dcells 16 (dnext x)).1 from rfl, L1]; decide) K2 (by rw [show wbias 16 2 x = (dbias 2 (dcells 16 (dnext x)).2).1 from rfl, L2]; decide) (wsc_ok 16 2 x))
  have L4 : 5 + (5 + 4 * (dcells 16 (dnext x)).1.length) + (5 + 4 * (dbias 2 (dcells 16 (dnext x)).2).1.length) + (5 + 4 * 0) ≤ 100000 := by omega
  have HZO := hide (show wzo 16 2 x = dzero (dbias 2 (dcells 16 (dnext x)).2).2 from rfl)
  have HMU := hide (show (wsc 16 2 x).mult = dmult (dnext (dbias 2 (dcells 16 (dnext x)).2).2) from rfl)
  have HSH := hide (show (wsc 16 2 x).shift = dshift (dnext (dnext (dbias 2 (dcells 16 (dnext x)).2).2)) from rfl)
  have HEND := hide (show wend 16 2 x = dnext (dnext (dnext (dbias 2 (dcells 16 (dnext x)).2).2)) from rfl)
  have HWC := hide (show wcells 16 x = (dcells 16 (dnext x)).1 from rfl)
  have HWB := hide (show wbias 16 2 x = (dbias 2 (dcells 16 (dnext x)).2).1 from rfl)
  have Lw := hide (And.intro L1 L2)
  have HRR := hide (And.intro hl hh)
  clear L1 L2 K1 K2 hl hh
  obtain ⟨ce, Hce⟩ : ∃ ce, Hid ((dcells 16 (dnext x)).1 = ce) := ⟨_, rfl⟩
  obtain ⟨bi, Hbi⟩ : ∃ bi, Hid ((dbias 2 (dcells 16 (dnext x)).2).1 = bi) := ⟨_, rfl⟩
  obtain ⟨x3, Hx3⟩ : ∃ x3, Hid ((dbias 2 (dcells 16 (dnext x)).2).2 = x3) := ⟨_, rfl⟩
  rw [Hce.out, Hbi.out] at sz3 L4
  rw [Hce.out] at W6 HWC
  rw [Hbi.out] at W6 HWB
  rw [Hx3.out] at W6 HZO HMU HSH HEND R3 R4 R5
  have HZ2 := dzero_rg x3
  go_wp2_with fail
  refine (dzero_c db x3 _ W6.D R3.1 R3.2).mono ?_
  rintro e q7 ⟨rfl, D7, hg7⟩
  have W7 := W6.die D7 hg7
  clear W6 D7 hg7
  go_wp2_with fail
  refine (mten w.heap.size _ [] _ (D.tMid 4 3 2 (dzero x3)) none 0 0 _ W7.P (Ints.nil _ _) sz3 (show 0 ≤ 1000 by decide) (by show 3 ≤ 1000; decide)).mono ?_
  rintro e q8 ⟨rfl, P8, hg8⟩
  have W8 := W7.mod P8 hg8
  clear W7 P8 hg8
  have HMu := dmult_rg (dnext x3)
  have HSh := dshift_rg (dnext (dnext x3))
  go_wp2_with fail
  refine (dmult_c db (dnext x3) _ W8.D R4.1 R4.2).mono ?_
  rintro e q9 ⟨rfl, D9, hg9⟩
  have W9 := W8.die D9 hg9
  clear W8 D9 hg9
  go_wp2_with fail
  refine (dshift_c db (dnext (dnext x3)) _ W9.D R5.1 R5.2).mono ?_
  rintro e q10 ⟨rfl, D10, hg10⟩
  have W10 := W9.die D10 hg10
  clear W9 D10 hg10
  go_wp2_with fail
  refine (scale2_c (dmult (dnext x3)) (dshift (dnext (dnext x3))) q10).mono ?_
  rintro e q11 ⟨rfl, hg11⟩
  have W11 := W10.none hg11
  clear W10 hg11
  go_wp2_with fail
  refine (span_c lo hi q11).mono ?_
  rintro e q12 ⟨rfl, hg12⟩
  have W12 := W11.none hg12
  clear W11 hg12
  have W13 := (W12.none (World.grownBy_alloc q12 (.cells #[.int .i64 0, .int .i64 1, .int .i64 2] 3) none)).none (World.grownBy_alloc _ (.cells #[.int .u8 1, .int .u8 1] 5) none)
  have hcv : (convert 41 9 (.slice (some ⟨q12.heap.size + 1, 0, none⟩) 2 2)).run Tryz.prog ((q12.alloc (.cells #[.int .i64 0, .int .i64 1, .int .i64 2] 3)).alloc (.cells #[.int .u8 1, .int .u8 1] 5)) = .ok (.string (S8 [1, 1])) ((q12.alloc (.cells #[.int .i64 0, .int .i64 1, .int .i64 2] 3)).alloc (.cells #[.int .u8 1, .int .u8 1] 5)) := by
    have e := conv_list (q12.alloc (.cells #[.int .i64 0, .int .i64 1, .int .i64 2] 3)) [1, 1]
    rw [World.size_alloc] at e
    exact e
  have hs0 : (S8 [1, 1]).size = 2 := by rw [s8_size]; rfl
  have hs1 : (S8 (w4 (dmult (dnext x3)) ++ [b8 (dshift (dnext (dnext x3)))])).size = 5 := by rw [s8_size]; rfl
  have hs2 : (S8 [b8 lo, b8 hi]).size = 2 := by rw [s8_size]; rfl
  have Hsn := hide (show S8 [1, 1] ++ S8 (w4 (dmult (dnext x3)) ++ [b8 (dshift (dnext (dnext x3)))]) ++ S8 [b8 lo, b8 hi] = S8 (ownBytes (D.oConv 1 0 1 2 3 1 true ⟨dmult (dnext x3), dshift (dnext (dnext x3))⟩ lo hi)) by
    rw [s8_app, s8_app]; rfl)
  have I13 := Ints.of_blk (base := 0) (xs := [0, 1, 2]) (n := 3) (Nat.zero_le _) rfl (by decide) ((Blk.new q12 3 #[.int .i64 0, .int .i64 1, .int .i64 2]).alloc (.cells #[.int .u8 1, .int .u8 1] 5))
  have HW13 := hide W13
  have HI13 := hide I13
  clear W12 W13 I13
  go_wp2_with fail
  rw [Hsn.out]
  refine (mopr w.heap.size _ [] _ (D.oConv 1 0 1 2 3 1 true ⟨dmult (dnext x3), dshift (dnext (dnext x3))⟩ lo hi) _ (some ⟨q12.heap.size, 0, none⟩) 3 3 _ HW13.out.P (fun o ho => absurd ho (by simp)) HI13.out rfl (show 9 ≤ 1000 by decide) (by decide)).mono ?_
  rintro e q14 ⟨rfl, P14, hg14⟩
  have W14 := HW13.out.mod P14 hg14
  clear HW13 HI13 P14 hg14 hcv hs0 hs1 hs2
  have e4 : q14.cell? ⟨w.heap.size, 4, none⟩ = some (.slice none 0 0) := Blk.cell W14.P 4
  have f4 := Blk.free W14.P 4
  have hl14 : w.heap.size < q14.heap.size := W14.P.lt
  have HW := hide W14
  clear W14
  go_wp2
  go_ret2
  have PF : MP ((q14.setCell ⟨w.heap.size, 4, none⟩ (.slice (some ⟨q14.heap.size, 0, none⟩) 1 1)).alloc (.cells #[.int .i64 3] 3)) w.heap.size (mW 4 3 2 2 2 16 2 true lo hi x).tensors (mW 4 3 2 2 2 16 2 true lo hi x).ops (.slice (some ⟨q14.heap.size, 0, none⟩) 1 1) := by
    have e := Blk.alloc (Blk.set HW.out.P 4 (.slice (some ⟨q14.heap.size, 0, none⟩) 1 1)) (.cells #[.int .i64 3] 3)
    have t1 : (mW 4 3 2 2 2 16 2 true lo hi x).tensors = [D.tIn 4 3 2 (dzero x)] ++ [D.tConst 2 2 4 ce] ++ [D.tBias 2 bi] ++ [D.tMid 4 3 2 (dzero x3)] := by
      rw [← HWC.out, ← HWB.out, ← HZO.out]; rfl
    have t2 : (mW 4 3 2 2 2 16 2 true lo hi x).ops = [] ++ [D.oConv 1 0 1 2 3 1 true ⟨dmult (dnext x3), dshift (dnext (dnext x3))⟩ lo hi] := by
      rw [← HMU.out, ← HSH.out]; rfl
    unfold MP MB
    rw [t1, t2]
    exact e
  have OF : Blk ((q14.setCell ⟨w.heap.size, 4, none⟩ (.slice (some ⟨q14.heap.size, 0, none⟩) 1 1)).alloc (.cells #[.int .i64 3] 3)) q14.heap.size 3 #[.int .i64 3] := by have e := Blk.new (q14.setCell ⟨w.heap.size, 4, none⟩ (.slice (some ⟨q14.heap.size, 0, none⟩) 1 1)) 3 #[.int .i64 3]; rw [World.size_setCell] at e; exact e
  have GF := gr_trans (gr_new HW.out.g (gr_set q14 w.heap.size 4 (.slice (some ⟨q14.heap.size, 0, none⟩) 1 1)) (Nat.le_refl _)) (World.grownBy_alloc _ (.cells #[.int .i64 3] 3) (some db))
  refine ⟨by rw [HZO.out]; rfl, ⟨_, HMM.out, ?_, PF, OF⟩, ?_, GF⟩
  · show 5 + 4 * 0 + (5 + 4 * (wcells 16 x).length + (5 + 4 * (wbias 16 2 x).length + (5 + 4 * 0 + 0))) ≤ 100000
    rw [HWC.out, HWB.out]; omega
  · rw [HEND.out]
    exact Blk.alloc (Blk.other HW.out.D (by simp; omega) _) _

end Go.Proofs.YtcnhfffgbamonaaGreat

/-
  The law Fuse: two ranges.
-/
namespace Go.Proofs.YtcnhfffgbamonaaGreat
open Go.RowKit

theorem hwithin_c (x lo hi : Int) (w : World) :
    Calls Tryz.prog 48 #[.int .i64 x, .int .i64 lo, .int .i64 hi] w fun e w' => e = .returned (.int .i64 (R.between x lo hi)) ∧ w' = w := by
  by_cases h1 : x < lo
  · have He := hide (show R.between x lo hi = lo by unfold R.between; rw [if_pos h1])
    go_enter Tryz.func48, Tryz.ntmps48
    go_wp2
    go_ret
    exact ⟨by rw [He.out]; rfl, rfl⟩
  · by_cases h2 : hi < x
    · have He := hide (show R.between x lo hi = hi by unfold R.between; rw [if_neg h1, if_pos h2])
      go_enter Tryz.func48, Tryz.ntmps48
      go_wp2
      go_ret
      exact ⟨by rw [He.out]; rfl, rfl⟩
    · have He := hide (show R.between x lo hi = x by unfold R.between; rw [if_neg h1, if_neg h2])
      go_enter Tryz.func48, Tryz.ntmps48
      go_wp2
      go_ret
      exact ⟨by rw [He.out]; rfl, rfl⟩

theorem DP.dieE {w0 w1 w2 : World} {d n e : Nat} {x : Int} {ts : List M.Tn} {os : List M.Op} {ov : Value} (h : DP w0 w1 d x n ts os ov) (h1 : n < e) (hg : w1.grownBy w2 (some e)) : DP w0 w2 d x n ts os ov :=
  have h2 := h.ld; have h3 := h.dn
  ⟨gr_new h.g hg (by omega), Blk.kept h.D hg (by simp; omega), h.P.kept hg (by simp; omega), h.ld, h.dn⟩

set_option maxRecDepth 100000 in
set_option maxHeartbeats 4000000 in
theorem fusel_c (a l1 h1 l2 h2 : Int) (b c p1 p2 p3 p4 : Int) (w : World) (ha : -9223372036854775808 ≤ a) (hb : a ≤ 9223372036854775807) (hb0 : -9223372036854775808 ≤ b) (hb1 : b ≤ 9223372036854775807) (hc0 : -9223372036854775808 ≤ c) (hc1 : c ≤ 9223372036854775807)
    (e1 : pickOf b 256 = p1) (e2 : pickOf (b / 256) (128 - l1) = p2) (e3 : pickOf c 256 = p3) (e4 : pickOf (c / 256) (128 - l2) = p4) (f1 : p1 - 128 = l1) (f2 : l1 + p2 = h1) (f3 : p3 - 128 = l2) (f4 : l2 + p4 = h2) :
    Calls Tryz.prog 22 #[.int .i64 a, .int .i64 b, .int .i64 c] w fun e w' => e = .returned (.bool true) ∧ w.grownBy w' none := by
  have r1 : 0 ≤ p1 ∧ p1 < 256 := by rw [← e1]; exact ⟨Int.emod_nonneg _ (by decide), Int.emod_lt_of_pos _ (by decide)⟩
  have r3 : 0 ≤ p3 ∧ p3 < 256 := by rw [← e3]; exact ⟨Int.emod_nonneg _ (by decide), Int.emod_lt_of_pos _ (by decide)⟩
  have r2 : 0 ≤ p2 ∧ p2 < 128 - l1 := by rw [← e2]; exact ⟨Int.emod_nonneg _ (by omega), Int.emod_lt_of_pos _ (by omega)⟩
  have r4 : 0 ≤ p4 ∧ p4 < 128 - l2 := by rw [← e4]; exact ⟨Int.emod_nonneg _ (by omega), Int.emod_lt_of_pos _ (by omega)⟩
  have E1 := hide e1
  have E2 := hide e2
  have E3 := hide e3
  have E4 := hide e4
  have F1 := hide f1
  have F2 := hide f2
  have F3 := hide f3
  have F4 := hide f4
  have C : -128 ≤ l1 ∧ l1 ≤ h1 ∧ h1 ≤ 127 ∧ -128 ≤ l2 ∧ l2 ≤ h2 ∧ h2 ≤ 127 := by omega
  clear e1 e2 e3 e4
  obtain ⟨x, Hx⟩ : ∃ x, Hid (pickOf a 2147483648 = x) := ⟨_, rfl⟩
  have R0 : 0 ≤ x ∧ x < 2147483648 := by rw [← Hx.out]; exact ⟨Int.emod_nonneg _ (by decide), Int.emod_lt_of_pos _ (by decide)⟩
  obtain ⟨xe, Hxe⟩ : ∃ xe, Hid (wend 16 2 x = xe) := ⟨_, rfl⟩
  have RE : 0 ≤ xe ∧ xe < 2147483648 := by rw [← Hxe.out]; exact dnext_range _
  obtain ⟨lo, Hlo⟩ : ∃ lo, Hid (R.between l1 l2 h2 = lo) := ⟨_, rfl⟩
  obtain ⟨hi, Hhi⟩ : ∃ hi, Hid (R.between h1 l2 h2 = hi) := ⟨_, rfl⟩
  have CB : Hid (Cell lo ∧ Cell hi ∧ lo ≤ hi) := by
    rw [← Hlo.out, ← Hhi.out]
    unfold Hid Cell R.between
    refine ⟨?_, ?_, ?_⟩
    · split <;> (try split) <;> omega
    · split <;> (try split) <;> omega
    · (repeat' split) <;> omega
  obtain ⟨m, Hm⟩ : ∃ m, Hid (mW 4 3 2 2 2 16 2 true l1 h1 x = m) := ⟨_, rfl⟩
  obtain ⟨mf, Hmf⟩ : ∃ mf, Hid (D.mFuse l1 h1 l2 h2 (dzero x) (wcells 16 x) (wbias 16 2 x) (wzo 16 2 x) (wsc 16 2 x) [4] = mf) := ⟨_, rfl⟩
  obtain ⟨mg, Hmg⟩ : ∃ mg, Hid (D.mFuse l1 h1 l2 h2 (dzero x) (wcells 16 x) (wbias 16 2 x) (wzo 16 2 x) (wsc 16 2 x) [4, 3] = mg) := ⟨_, rfl⟩
  obtain ⟨nw, Hnw⟩ : ∃ nw, Hid (mW 4 3 2 2 2 16 2 true lo hi x = nw) := ⟨_, rfl⟩
  have IS : ∀ outs, outs = [4] ∨ outs = [4, 3] → D.Is (D.mFuse l1 h1 l2 h2 (dzero x) (wcells 16 x) (wbias 16 2 x) (wzo 16 2 x) (wsc 16 2 x) outs) := fun outs ho =>
    D.is_fuse _ _ _ _ _ _ _ _ _ outs ho (by unfold Cell; omega) (by unfold Cell; omega) (by omega) (by unfold Cell; omega) (by unfold Cell; omega) (by omega) (by have := dzero_rg x; unfold D.ZOk; omega) (by have := dzero_rg (wx3 16 2 x); unfold D.ZOk wzo; omega) (dcells_ok _ _) (dcells_len _ _) (dbias_ok _ _) (dbias_len _ _) (wsc_ok 16 2 x)
  have IF : Hid (D.Is mf) := by rw [← Hmf.out]; exact IS [4] (.inl rfl)
  have IG : Hid (D.Is mg) := by rw [← Hmg.out]; exact IS [4, 3] (.inr rfl)
  have HAL : Hid (∀ l, D.run mf [l] = D.run nw [l]) := by
    rw [← Hmf.out, ← Hnw.out, ← Hlo.out, ← Hhi.out]
    exact fun l => D.fuse_alike _ _ _ _ _ _ _ _ _ l (by omega) (by omega)
  have HLm : Hid (D.lengths mf = [((24 : Nat) : Int)]) := by rw [← Hmf.out]; rfl
  have HLn : Hid (D.lengths nw = [((24 : Nat) : Int)]) := by rw [← Hnw.out]; rfl
  have HS1 : Hid ((H.shrink mf).ops.length = 1) := by rw [← Hmf.out]; exact D.steps_fuse _ _ _ _ _ _ _ _ _
  have HS2 : Hid ((H.shrink mg).ops.length = 2) := by rw [← Hmg.out]; exact D.steps_fuse2 _ _ _ _ _ _ _ _ _
  have HTM : Hid (mf.tensors = m.tensors ++ [D.tMid 4 3 2 (wzo 16 2 x)]) := by rw [← Hm.out, ← Hmf.out]; rfl
  have HOM : Hid (mf.ops = m.ops ++ [D.oClamp 3 4 l2 h2]) := by rw [← Hm.out, ← Hmf.out]; rfl
  have HTG : Hid (mg.tensors = mf.tensors ∧ mg.ops = mf.ops ∧ mg.outs = [4, 3] ∧ mf.outs = [4]) := by rw [← Hmg.out, ← Hmf.out]; exact ⟨rfl, rfl, rfl, rfl⟩
  have HSZ : Hid (sizeT m.tensors ≤ 1000) := by
    rw [← Hm.out]
    show 5 + 4 * 0 + (5 + 4 * (wcells 16 x).length + (5 + 4 * (wbias 16 2 x).length + (5 + 4 * 0 + 0))) ≤ 1000
    have h1 : (wcells 16 x).length = 16 := dcells_len _ _
    have h2 : (wbias 16 2 x).length = 2 := dbias_len _ _
    omega
  have HTL : Hid (m.tensors.length = 4) := by rw [← Hm.out]; rfl
  have HOL : Hid (m.ops.length = 1) := by rw [← Hm.out]; rfl
  clear IS
  obtain ⟨zo, Hzo⟩ : ∃ zo, Hid (wzo 16 2 x = zo) := ⟨_, rfl⟩
  rw [Hzo.out] at HTM
  clear f1 f2 f3 f4
  go_enter Tryz.func22, Tryz.ntmps22
  go_wp2_with fail
  refine (pick_c b 256 w hb0 hb1 (by decide) (by decide)).mono ?_
  rintro e w1 ⟨rfl, rfl⟩
  rw [E1.out]
  go_wp2_with fail
  rw [F1.out]
  refine (pick_c (b / 256) (128 - l1) w1 (by omega) (by omega) (by omega) (by omega)).mono ?_
  rintro e w2 ⟨rfl, rfl⟩
  rw [E2.out]
  go_wp2_with fail
  rw [F2.out]
  refine (pick_c c 256 w2 hc0 hc1 (by decide) (by decide)).mono ?_
  rintro e w3 ⟨rfl, rfl⟩
  rw [E3.out]
  go_wp2_with fail
  rw [F3.out]
  refine (pick_c (c / 256) (128 - l2) w3 (by omega) (by omega) (by omega) (by omega)).mono ?_
  rintro e w4 ⟨rfl, rfl⟩
  rw [E4.out]
  go_wp2_with fail
  rw [F4.out]
  refine (seeded_c a w4 ha hb).mono ?_
  rintro e q0 ⟨rfl, D0, g0⟩
  rw [Hx.out] at D0
  have l0 := Blk.lt D0
  go_wp2_with fail
  refine (windowedP_432221 w4.heap.size x l1 h1 q0 D0 R0.1 R0.2 (by unfold Cell; omega) (by unfold Cell; omega) (by omega)).mono ?_
  rintro e q1 ⟨rfl, ⟨G, W1⟩, D1, g1⟩
  rw [Hxe.out] at D1
  rw [Hm.out] at W1
  rw [Hzo.out]
  have S0 : Hid (DP w4 q1 w4.heap.size xe q0.heap.size m.tensors m.ops (.slice (some ⟨G, 0, none⟩) 1 1)) := ⟨gr_new g0 g1 (Nat.le_refl _), D1, W1.P, Nat.le_refl _, l0⟩
  have O0 := hide W1.O
  have HF0 := hide W1.is.fit.os
  clear W1 D1 g1 g0 D0
  go_wp2_with fail
  refine (mten q0.heap.size m.tensors m.ops _ (D.tMid 4 3 2 zo) none 0 0 _ S0.out.P (Ints.nil _ _) (by have := HSZ.out; omega) (show 0 ≤ 1000 by decide) (by rw [HTL.out]; decide)).mono ?_
  rintro e q2 ⟨rfl, hP, hg⟩
  rw [HTL.out]
  have S1 := hide (S0.out.mod hP hg)
  have O1 := hide (O0.out.unlike2 S0.out.P (by decide) hg)
  clear hP hg S0 O0
  go_wp2_with fail
  refine (span_c l2 h2 q2).mono ?_
  rintro e q3 ⟨rfl, hg⟩
  have S2 := S1.out.none hg
  have O2 := O1.out.kept hg (by simp)
  have k4 : q3.cell? ⟨q0.heap.size, 4, none⟩ = some (.slice (some ⟨G, 0, none⟩) 1 1) := Blk.cell S2.P 4
  have kG : q3.cell? ⟨G, 0, none⟩ = some (.int .i64 3) := O2.cell 0
  have lg := O2.lt
  have T2 := hide (S2.none (World.grownBy_alloc q3 (.cells #[.int .i64 3] 3) none))
  have J2 := hide (Ints.of_blk (base := 0) (xs := [3]) (n := 1) (Nat.zero_le _) rfl (by decide) (Blk.new q3 3 #[.int .i64 3]))
  have Hsn := hide (show S8 [b8 l2, b8 h2] = S8 (ownBytes (D.oClamp 3 4 l2 h2)) from rfl)
  clear hg S1 O1 S2 O2
  go_wp2_with fail
  rw [Hsn.out]
  refine (mopr q0.heap.size (m.tensors ++ [D.tMid 4 3 2 zo]) m.ops _ (D.oClamp 3 4 l2 h2) _ (some ⟨q3.heap.size, 0, none⟩) 1 1 _ T2.out.P HF0.out J2.out rfl (show 2 ≤ 1000 by decide) (by rw [HOL.out]; decide)).mono ?_
  rintro e q4 ⟨rfl, hP, hg⟩
  have S3 := hide (T2.out.mod hP hg)
  clear hP hg T2 J2 Hsn k4 kG lg
  have e4 : q4.cell? ⟨q0.heap.size, 4, none⟩ = some (.slice (some ⟨G, 0, none⟩) 1 1) := Blk.cell S3.out.P 4
  have f4 := Blk.free S3.out.P 4
  have hlq : q0.heap.size < q4.heap.size := S3.out.P.lt
  have GS := gr_trans (gr_set q4 q0.heap.size 4 (.slice (some ⟨q4.heap.size, 0, none⟩) 1 1)) (World.grownBy_alloc _ (.cells #[.int .i64 4] 3) (some q0.heap.size))
  have PA : MP ((q4.setCell ⟨q0.heap.size, 4, none⟩ (.slice (some ⟨q4.heap.size, 0, none⟩) 1 1)).alloc (.cells #[.int .i64 4] 3)) q0.heap.size (m.tensors ++ [D.tMid 4 3 2 zo]) (m.ops ++ [D.oClamp 3 4 l2 h2]) (.slice (some ⟨q4.heap.size, 0, none⟩) 1 1) :=
    Blk.alloc (Blk.set S3.out.P 4 (.slice (some ⟨q4.heap.size, 0, none⟩) 1 1)) (.cells #[.int .i64 4] 3)
  have SA := hide (S3.out.mod PA GS)
  have OA : Hid (Blk ((q4.setCell ⟨q0.heap.size, 4, none⟩ (.slice (some ⟨q4.heap.size, 0, none⟩) 1 1)).alloc (.cells #[.int .i64 4] 3)) q4.heap.size 3 #[.int .i64 4]) := by
    have e := Blk.new (q4.setCell ⟨q0.heap.size, 4, none⟩ (.slice (some ⟨q4.heap.size, 0, none⟩) 1 1)) 3 #[.int .i64 4]; rw [World.size_setCell] at e; exact e
  obtain ⟨qa, Hqa⟩ : ∃ qa, Hid (((q4.setCell ⟨q0.heap.size, 4, none⟩ (.slice (some ⟨q4.heap.size, 0, none⟩) 1 1)).alloc (.cells #[.int .i64 4] 3)) = qa) := ⟨_, rfl⟩
  rw [Hqa.out] at SA OA
  rw [← HTM.out, ← HOM.out] at SA
  clear GS PA S3
  go_wp2_with fail
  rw [Hqa.out]
  refine (hwithin_c l1 l2 h2 qa).mono ?_
  rintro e v1 ⟨rfl, rfl⟩
  rw [Hlo.out]
  clear e4 f4 hlq
  go_wp2_with fail
  refine (hwithin_c h1 l2 h2 v1).mono ?_
  rintro e v2 ⟨rfl, rfl⟩
  rw [Hhi.out]
  go_wp2_with fail
  refine (seeded_c a v2 ha hb).mono ?_
  rintro e p2 ⟨rfl, E2, g2⟩
  rw [Hx.out] at E2
  have l2' := Blk.lt E2
  have hnl : q0.heap.size < v2.heap.size := SA.out.P.lt
  have SB := hide (SA.out.none g2)
  have OB := hide (OA.out.kept g2 (by simp))
  have HE2 := hide E2
  clear E2 g2 SA OA
  go_wp2_with fail
  refine (windowed_432221 v2.heap.size x lo hi p2 HE2.out R0.1 R0.2 CB.out.1 CB.out.2.1 CB.out.2.2).mono ?_
  rintro e p3 ⟨rfl, N3, E3', g3⟩
  rw [Hnw.out] at N3
  have SC := hide (SB.out.dieE hnl g3)
  have OC := hide (OB.out.unlike2 HE2.out (by decide) g3)
  have NC := hide N3
  have hdn := SC.out.dn
  have lp2 : p2.heap.size < p3.heap.size := by obtain ⟨ts, ops, nt, no, aa, nn, cc, h, -⟩ := N3.at_; exact Blk.lt h
  clear SB OB HE2 N3 E3' g3
  go_wp2_with fail
  refine (dcells_c w4.heap.size xe 24 p3 SC.out.D RE.1 RE.2 (by decide)).mono ?_
  rintro e qb ⟨rfl, hI, hD, hg⟩
  have LI := hide (one_list (hI.mono (Nat.zero_le _)))
  have SD := (SC.out.dieD hD hg).none (World.grownBy_alloc qb (.cells #[.slice (some ⟨p3.heap.size, 0, none⟩) 24 24] 33) none)
  have OD := (OC.out.unlike2 SC.out.D (by decide) hg).alloc (.cells #[.slice (some ⟨p3.heap.size, 0, none⟩) 24 24] 33)
  have ND := hide ((NC.out.apart SC.out.D (by decide) (by omega) hg).kept0 (World.grownBy_alloc _ (.cells #[.slice (some ⟨p3.heap.size, 0, none⟩) 24 24] 33) none))
  have SZF : Hid (sizeT mf.tensors ≤ 100000) := by rw [HTM.out, sizeT_snoc]; have := HSZ.out; show sizeT m.tensors + (5 + 4 * 0) ≤ 100000; omega
  have OLF : Hid (mf.ops.length ≤ 100) := by rw [HOM.out, List.length_append, HOL.out]; exact (by decide : 1 + 1 ≤ 100)
  have MD := hide (Mw.mm (G := q4.heap.size) (v := 4) ⟨IF.out, SZF.out, SD.P, OD⟩ HTG.out.2.2.2 OLF.out)
  have HSD := hide SD
  have HOD := hide OD
  have Hcl := hide (dcells_ok 24 xe)
  have Hll := hide (dcells_len 24 xe)
  clear hI hD hg SC OC NC SD OD
  obtain ⟨xs, Hxs⟩ : ∃ xs, Hid ((dcells 24 xe).1 = xs) := ⟨_, rfl⟩
  rw [Hxs.out] at LI Hcl Hll
  go_wp2_with fail
  refine (alike_m q0.heap.size p2.heap.size mf nw (some ⟨qb.heap.size, 0, none⟩) 1 1 [xs] _ MD.out ND.out LI.out (by intro l hl; simp at hl; subst hl; rw [Hll.out]; decide) (show 1 ≤ 9223372036854775807 by decide) (in_hold _ xs 24 HLm.out Hll.out Hcl.out) (in_hold _ xs 24 HLn.out Hll.out Hcl.out) (HAL.out xs)).mono ?_
  rintro e qc ⟨rfl, hg⟩
  have SE := hide (HSD.out.none hg)
  have ME := hide (MD.out.kept0 hg)
  clear hg HSD HOD MD ND LI
  go_wp2_with fail
  refine (lsteps_c q0.heap.size mf qc ME.out).mono ?_
  rintro e qd ⟨rfl, hg⟩
  rw [HS1.out]
  have SF := hide (SE.out.none hg)
  clear hg SE ME
  have e4 : qd.cell? ⟨q0.heap.size, 4, none⟩ = some (.slice (some ⟨q4.heap.size, 0, none⟩) 1 1) := Blk.cell SF.out.P 4
  have f4 := Blk.free SF.out.P 4
  have hlq : q0.heap.size < qd.heap.size := SF.out.P.lt
  have MG : Hid (Mm ((qd.setCell ⟨q0.heap.size, 4, none⟩ (.slice (some ⟨qd.heap.size, 0, none⟩) 2 2)).alloc (.cells #[.int .i64 4, .int .i64 3] 3)) q0.heap.size mg) := by
    refine MP.done (m := mg) (a := some ⟨qd.heap.size, 0, none⟩) (n := 2) (c := 2) ?_ ?_ IG.out (by rw [HTG.out.1]; exact SZF.out) (by rw [HTG.out.2.1]; exact OLF.out) (by rw [HTG.out.2.2.1]; show 2 ≤ 1000; decide)
    · rw [HTG.out.1, HTG.out.2.1]
      exact Blk.alloc (Blk.set SF.out.P 4 (.slice (some ⟨qd.heap.size, 0, none⟩) 2 2)) (.cells #[.int .i64 4, .int .i64 3] 3)
    · rw [HTG.out.2.2.1]
      exact Ints.of_blk (xs := [4, 3]) (Nat.zero_le _) rfl (by decide) (by have e := Blk.new (qd.setCell ⟨q0.heap.size, 4, none⟩ (.slice (some ⟨qd.heap.size, 0, none⟩) 2 2)) 3 #[.int .i64 4, .int .i64 3]; rw [World.size_setCell] at e; exact e)
  have GG := hide (gr_trans (gr_new SF.out.g (gr_set qd q0.heap.size 4 (.slice (some ⟨qd.heap.size, 0, none⟩) 2 2)) (by omega)) (World.grownBy_alloc _ (.cells #[.int .i64 4, .int .i64 3] 3) none))
  obtain ⟨qe, Hqe⟩ : ∃ qe, Hid (((qd.setCell ⟨q0.heap.size, 4, none⟩ (.slice (some ⟨qd.heap.size, 0, none⟩) 2 2)).alloc (.cells #[.int .i64 4, .int .i64 3] 3)) = qe) := ⟨_, rfl⟩
  rw [Hqe.out] at MG GG
  clear SF
  go_wp2_with fail
  rw [Hqe.out]
  refine (lsteps_c q0.heap.size mg qe MG.out).mono ?_
  rintro e qf ⟨rfl, hg⟩
  rw [HS2.out]
  have GF := hide (gr_trans GG.out hg)
  clear hg GG MG e4 f4 hlq
  go_wp2
  go_ret
  exact ⟨rfl, GF.out⟩

theorem fuse_c (a0 a1 a2 : Int) (w : World) (ha : -9223372036854775808 ≤ a0) (hb : a0 ≤ 9223372036854775807) (hb0 : -9223372036854775808 ≤ a1) (hb1 : a1 ≤ 9223372036854775807) (hc0 : -9223372036854775808 ≤ a2) (hc1 : a2 ≤ 9223372036854775807) :
    Calls Tryz.prog 7 #[.int .i64 a0, .int .i64 a1, .int .i64 a2] w fun e w' => e = .returned (.bool true) ∧ w.grownBy w' none := by
  go_enter Tryz.func7, Tryz.ntmps7
  go_wp2_with fail
  refine (fusel_c a0 _ _ _ _ a1 a2 _ _ _ _ w ha hb hb0 hb1 hc0 hc1 rfl rfl rfl rfl rfl rfl rfl rfl).mono ?_
  rintro e w1 ⟨rfl, hg1⟩
  go_wp2
  go_ret
  exact ⟨rfl, hg1⟩

end Go.Proofs.YtcnhfffgbamonaaGreat
