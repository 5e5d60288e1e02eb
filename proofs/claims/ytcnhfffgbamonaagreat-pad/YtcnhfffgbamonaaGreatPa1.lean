/-
  The law Pad. (Written by a small program of ours: wip/gen/pad.py.)
-/
import Derived.Test.YtcnhfffgbamonaaGreatLa6
import Derived.Test.YtcnhfffgbamonaaGreatLa4a
namespace Go.Proofs.YtcnhfffgbamonaaGreat
open Go.RowKit

set_option maxRecDepth 100000 in
set_option maxHeartbeats 4000000 in
theorem padded_c (a : Int) (w : World) (ha : -9223372036854775808 ≤ a) (hb : a ≤ 9223372036854775807) :
    Calls Tryz.prog 26 #[.int .i64 a] w fun e w' => e = .returned (.bool true) ∧ w.grownBy w' none := by
  obtain ⟨x, Hx⟩ : ∃ x, Hid (pickOf a 2147483648 = x) := ⟨_, rfl⟩
  have R0 : 0 ≤ x ∧ x < 2147483648 := by rw [← Hx.out]; exact ⟨Int.emod_nonneg _ (by decide), Int.emod_lt_of_pos _ (by decide)⟩
  have R1 := dnext_range x
  have R2 := dcells_range 36 (dnext x) R1.1 R1.2
  have R3 := dbias_range 2 (dcells 36 (dnext x)).2 R2.1 R2.2
  have R4 := dnext_range (dbias 2 (dcells 36 (dnext x)).2).2
  have R5 := dnext_range (dnext (dbias 2 (dcells 36 (dnext x)).2).2)
  have L1 := dcells_len 36 (dnext x)
  have L2 := dbias_len 2 (dcells 36 (dnext x)).2
  have K1 := dcells_ok 36 (dnext x)
  have K2 := dbias_ok 2 (dcells 36 (dnext x)).2
  have Z1 := dzero_rg x
  have Z2 := dzero_rg (dbias 2 (dcells 36 (dnext x)).2).2
  have HSO := hide (show D.SOk ⟨dmult (dnext (dbias 2 (dcells 36 (dnext x)).2).2), dshift (dnext (dnext (dbias 2 (dcells 36 (dnext x)).2).2))⟩ from wsc_ok 36 2 x)
  have HIS := hide (D.is_pad (dzero x) (dcells 36 (dnext x)).1 (dbias 2 (dcells 36 (dnext x)).2).1 (dzero (dbias 2 (dcells 36 (dnext x)).2).2) ⟨dmult (dnext (dbias 2 (dcells 36 (dnext x)).2).2), dshift (dnext (dnext (dbias 2 (dcells 36 (dnext x)).2).2))⟩ (by unfold D.ZOk; omega) (by unfold D.ZOk; omega) K1 L1 K2 L2 HSO.out)
  have HAL := hide (fun l => D.pad_alike (dzero x) (dcells 36 (dnext x)).1 (dbias 2 (dcells 36 (dnext x)).2).1 (dzero (dbias 2 (dcells 36 (dnext x)).2).2) ⟨dmult (dnext (dbias 2 (dcells 36 (dnext x)).2).2), dshift (dnext (dnext (dbias 2 (dcells 36 (dnext x)).2).2))⟩ l)
  have HMW := hide (show mW 4 5 2 3 2 36 2 true (-128) 127 x = D.mWin 4 5 2 3 2 true (-128) 127 (dzero x) (dcells 36 (dnext x)).1 (dbias 2 (dcells 36 (dnext x)).2).1 (dzero (dbias 2 (dcells 36 (dnext x)).2).2) ⟨dmult (dnext (dbias 2 (dcells 36 (dnext x)).2).2), dshift (dnext (dnext (dbias 2 (dcells 36 (dnext x)).2).2))⟩ from rfl)
  have RW := dnext_range (dnext (dnext (dbias 2 (dcells 36 (dnext x)).2).2))
  have HWE := hide (show wend 36 2 x = dnext (dnext (dnext (dbias 2 (dcells 36 (dnext x)).2).2)) from rfl)
  have REnd := dnext_range (dnext (dnext (dbias 2 (dcells 36 (dnext x)).2).2))
  obtain ⟨xe, Hxe⟩ : ∃ xe, Hid (wend 36 2 x = xe) := ⟨_, rfl⟩
  have RE : 0 ≤ xe ∧ xe < 2147483648 := by rw [← Hxe.out, HWE.out]; exact REnd
  clear K1 K2 HWE REnd RW
  obtain ⟨z, Hz⟩ : ∃ z, Hid (dzero x = z) := ⟨_, rfl⟩
  obtain ⟨ce, Hce⟩ : ∃ ce, Hid ((dcells 36 (dnext x)).1 = ce) := ⟨_, rfl⟩
  obtain ⟨bi, Hbi⟩ : ∃ bi, Hid ((dbias 2 (dcells 36 (dnext x)).2).1 = bi) := ⟨_, rfl⟩
  obtain ⟨x3, Hx3⟩ : ∃ x3, Hid ((dbias 2 (dcells 36 (dnext x)).2).2 = x3) := ⟨_, rfl⟩
  rw [Hx3.out] at HIS HAL HMW R3 R4 R5 Z2 HSO
  rw [Hce.out] at HIS HAL HMW L1
  rw [Hbi.out] at HIS HAL HMW L2
  rw [Hz.out] at HIS HAL HMW Z1
  go_enter Tryz.func26, Tryz.ntmps26
  go_wp2_with fail
  refine (seeded_c a w ha hb).mono ?_
  rintro e q0 ⟨rfl, D0, g0⟩
  rw [Hx.out] at D0
  have l0 := Blk.lt D0
  go_wp2_with fail
  refine (windowed_452321 w.heap.size x (-128) 127 q0 D0 R0.1 R0.2 (by unfold Cell; decide) (by unfold Cell; decide) (by decide)).mono ?_
  rintro e p1 ⟨rfl, M1, D1, g1⟩
  rw [Hxe.out] at D1
  have G1 := gr_new g0 g1 (Nat.le_refl _)
  have HM1 := hide M1
  have l1 : q0.heap.size < p1.heap.size := by obtain ⟨ts, ops, nt, no, aa, nn, cc, h, -⟩ := M1.at_; exact Blk.lt h
  clear g0 g1 D0 M1
  go_wp2_with fail
  refine (seeded_c a p1 ha hb).mono ?_
  rintro e p2 ⟨rfl, E2, g2⟩
  rw [Hx.out] at E2
  have l2 := Blk.lt E2
  have S0 : Hid (S4 w (p2.alloc (.cells #[.string ⟨#[]⟩, .string ⟨#[]⟩, .int .i64 0, .int .i64 0, .slice none 0 0] 81)) w.heap.size xe q0.heap.size (mW 4 5 2 3 2 36 2 true (-128) 127 x) p1.heap.size x p2.heap.size [] [] (.slice none 0 0)) :=
    ⟨gr_trans (gr_trans G1 g2) (World.grownBy_alloc _ _ _), (Blk.kept D1 g2 (by simp)).alloc _, (HM1.out.kept0 g2).kept0 (World.grownBy_alloc _ _ _), Blk.alloc E2 _, MP.new p2, Nat.le_refl _, l0, l1, l2⟩
  clear D1 E2 g2 G1 HM1
  go_wp2_with fail
  refine (dzero_c p1.heap.size (x) _ S0.out.E R0.1 R0.2).mono ?_
  rintro e q1 ⟨rfl, hD, hg⟩
  have S1 := hide (S0.out.dieE hD hg)
  clear hD hg S0
  rw [Hz.out]
  go_wp2_with fail
  refine (mten p2.heap.size ([]) ([]) _ (D.tIn 4 5 2 z) none 0 0 _ S1.out.P (Ints.nil _ _) (by decide) (show 0 ≤ 1000 by decide) (show 0 ≤ 1000 by decide)).mono ?_
  rintro e q2 ⟨rfl, hP, hg⟩
  have S2 := hide (S1.out.mod hP hg)
  clear hP hg S1
  go_wp2_with fail
  refine (mten p2.heap.size ([D.tIn 4 5 2 z]) ([]) _ (D.tMid 6 7 2 z) none 0 0 _ S2.out.P (Ints.nil _ _) (show 5 ≤ 100000 by decide) (show 0 ≤ 1000 by decide) (show 1 ≤ 1000 by decide)).mono ?_
  rintro e q3 ⟨rfl, hP, hg⟩
  have S3 := hide (S2.out.mod hP hg)
  clear hP hg S2
  have T1 := hide (S3.out.none (World.grownBy_alloc q3 (.cells #[.int .i64 0] 3) none))
  have J1 := hide (Ints.of_blk (base := 0) (xs := [0]) (n := 1) (Nat.zero_le _) rfl (by decide) (Blk.new q3 3 #[.int .i64 0]))
  have Hp := hide (show (⟨#[1, 1, 1, 1]⟩ : ByteArray) = S8 (ownBytes (D.oPad 0 1 1 1 1 1)) from rfl)
  clear S3
  go_wp2_with fail
  rw [Hp.out]
  refine (mopr p2.heap.size ([D.tIn 4 5 2 z] ++ [D.tMid 6 7 2 z]) [] _ (D.oPad 0 1 1 1 1 1) _ (some ⟨q3.heap.size, 0, none⟩) 1 1 _ T1.out.P (fun o ho => absurd ho (by simp)) J1.out rfl (show 4 ≤ 1000 by decide) (by decide)).mono ?_
  rintro e q4 ⟨rfl, hP, hg⟩
  have S4 := hide (T1.out.mod hP hg)
  clear hP hg T1 J1
  go_wp2_with fail
  refine (dcells_c p1.heap.size (dnext x) 36 _ S4.out.E R1.1 R1.2 (by decide)).mono ?_
  rintro e q5 ⟨rfl, hI, hD, hg⟩
  have S5 := hide (S4.out.dieE hD hg)
  have I5 := hide (hI.mono (Nat.zero_le _))
  clear hI hD hg S4
  rw [Hce.out] at I5
  go_wp2_with fail
  refine (mten p2.heap.size ([D.tIn 4 5 2 z] ++ [D.tMid 6 7 2 z]) ([D.oPad 0 1 1 1 1 1]) _ (D.tConst 3 3 4 ce) (some ⟨q4.heap.size, 0, none⟩) 36 36 _ S5.out.P I5.out (show 10 ≤ 100000 by decide) (by show ce.length ≤ 1000; omega) (show 2 ≤ 1000 by decide)).mono ?_
  rintro e q6 ⟨rfl, hP, hg⟩
  have S6 := hide (S5.out.mod hP hg)
  clear hP hg S5
  go_wp2_with fail
  refine (dbias_c p1.heap.size ((dcells 36 (dnext x)).2) 2 _ S6.out.E R2.1 R2.2 (by decide)).mono ?_
  rintro e q7 ⟨rfl, hI, hD, hg⟩
  have S7 := hide (S6.out.dieE hD hg)
  have I7 := hide (hI.mono (Nat.zero_le _))
  clear hI hD hg S6
  rw [Hbi.out] at I7
  rw [Hx3.out] at S7
  go_wp2_with fail
  refine (mten p2.heap.size ([D.tIn 4 5 2 z] ++ [D.tMid 6 7 2 z] ++ [D.tConst 3 3 4 ce]) ([D.oPad 0 1 1 1 1 1]) _ (D.tBias 2 bi) (some ⟨q6.heap.size, 0, none⟩) 2 2 _ S7.out.P I7.out (by rw [sizeT_snoc]; show 10 + (5 + 4 * ce.length) ≤ 100000; omega) (by show bi.length ≤ 1000; omega) (show 3 ≤ 1000 by decide)).mono ?_
  rintro e q8 ⟨rfl, hP, hg⟩
  have S8 := hide (S7.out.mod hP hg)
  clear hP hg S7
  go_wp2_with fail
  refine (dzero_c p1.heap.size (x3) _ S8.out.E R3.1 R3.2).mono ?_
  rintro e q9 ⟨rfl, hD, hg⟩
  have S9 := hide (S8.out.dieE hD hg)
  clear hD hg S8
  go_wp2_with fail
  refine (mten p2.heap.size ([D.tIn 4 5 2 z] ++ [D.tMid 6 7 2 z] ++ [D.tConst 3 3 4 ce] ++ [D.tBias 2 bi]) ([D.oPad 0 1 1 1 1 1]) _ (D.tMid 4 5 2 (dzero x3)) none 0 0 _ S9.out.P (Ints.nil _ _) (by rw [sizeT_snoc, sizeT_snoc]; show 10 + (5 + 4 * ce.length) + (5 + 4 * bi.length) ≤ 100000; omega) (show 0 ≤ 1000 by decide) (show 4 ≤ 1000 by decide)).mono ?_
  rintro e q10 ⟨rfl, hP, hg⟩
  have S10 := hide (S9.out.mod hP hg)
  clear hP hg S9
  have Mu := dmult_rg (dnext x3)
  have Sh := dshift_rg (dnext (dnext x3))
  go_wp2_with fail
  refine (dmult_c p1.heap.size (dnext x3) _ S10.out.E R4.1 R4.2).mono ?_
  rintro e q11 ⟨rfl, hD, hg⟩
  have S11 := hide (S10.out.dieE hD hg)
  clear hD hg S10
  go_wp2_with fail
  refine (dshift_c p1.heap.size (dnext (dnext x3)) _ S11.out.E R5.1 R5.2).mono ?_
  rintro e q12 ⟨rfl, hD, hg⟩
  have S12 := hide (S11.out.dieE hD hg)
  clear hD hg S11
  go_wp2_with fail
  refine (scale2_c (dmult (dnext x3)) (dshift (dnext (dnext x3))) _).mono ?_
  rintro e q13 ⟨rfl, hg⟩
  have S13 := hide (S12.out.none hg)
  clear hg S12
  go_wp2_with fail
  refine (span_c (-128) 127 _).mono ?_
  rintro e q14 ⟨rfl, hg⟩
  have S14 := hide (S13.out.none hg)
  clear hg S13
  have T1 := hide (S14.out.none (World.grownBy_alloc q14 (.cells #[.int .i64 1, .int .i64 2, .int .i64 3] 3) none))
  have J1 := hide (Ints.of_blk (base := 0) (xs := [1, 2, 3]) (n := 3) (Nat.zero_le _) rfl (by decide) (Blk.new q14 3 #[.int .i64 1, .int .i64 2, .int .i64 3]))
  have hs1 : (S8 (w4 (dmult (dnext x3)) ++ [b8 (dshift (dnext (dnext x3)))])).size = 5 := by rw [s8_size]; rfl
  have hs2 : (S8 [b8 (-128), b8 127]).size = 2 := by rw [s8_size]; rfl
  have Hsn := hide (show (⟨#[1, 0]⟩ : ByteArray) ++ S8 (w4 (dmult (dnext x3)) ++ [b8 (dshift (dnext (dnext x3)))]) ++ S8 [b8 (-128), b8 127] = S8 (ownBytes (D.oConv 1 1 2 3 4 1 false ⟨dmult (dnext x3), dshift (dnext (dnext x3))⟩ (-128) 127)) by
    rw [show (⟨#[1, 0]⟩ : ByteArray) = S8 [1, 0] from rfl, s8_app, s8_app]; rfl)
  clear S14
  go_wp2_with fail
  rw [Hsn.out]
  refine (mopr p2.heap.size _ ([D.oPad 0 1 1 1 1 1]) _ (D.oConv 1 1 2 3 4 1 false ⟨dmult (dnext x3), dshift (dnext (dnext x3))⟩ (-128) 127) _ (some ⟨q14.heap.size, 0, none⟩) 3 3 _ T1.out.P (D.mem1 (HIS.out.fit.os _ (by simp [D.mPad]))) J1.out rfl (show 9 ≤ 1000 by decide) (show 1 ≤ 100 by decide)).mono ?_
  rintro e q15 ⟨rfl, hP, hg⟩
  have S15 := hide (T1.out.mod hP hg)
  clear hP hg T1 J1 hs1 hs2 Hsn
  have e4 : q15.cell? ⟨p2.heap.size, 4, none⟩ = some (.slice none 0 0) := Blk.cell S15.out.P 4
  have f4 := Blk.free S15.out.P 4
  have hlq : p2.heap.size < q15.heap.size := S15.out.P.lt
  have MN := hide (outs_set (v := 4) (m := D.mPad z ce bi (dzero x3) ⟨dmult (dnext x3), dshift (dnext (dnext x3))⟩) S15.out.P rfl rfl rfl HIS.out (by rw [sizeT_snoc, sizeT_snoc, sizeT_snoc]; show 10 + (5 + 4 * ce.length) + (5 + 4 * bi.length) + 5 ≤ 100000; omega) (show 2 ≤ 100 by decide))
  have GG := gr_trans (gr_new S15.out.g (gr_set q15 p2.heap.size 4 (.slice (some ⟨q15.heap.size, 0, none⟩) 1 1)) (by have h1 := S15.out.ld; have h2 := S15.out.db; have h3 := S15.out.be; have h4 := S15.out.en; omega)) (World.grownBy_alloc _ (.cells #[.int .i64 4] 3) none)
  have GS := gr_trans (gr_set q15 p2.heap.size 4 (.slice (some ⟨q15.heap.size, 0, none⟩) 1 1)) (World.grownBy_alloc _ (.cells #[.int .i64 4] 3) (some p2.heap.size))
  have MM := hide (S15.out.M.apart S15.out.P (by decide) (by have h3 := S15.out.be; have h4 := S15.out.en; omega) GS)
  have DD := Blk.kept S15.out.D GS (by have h2 := S15.out.db; have h3 := S15.out.be; have h4 := S15.out.en; simp; omega)
  have ndb : w.heap.size ≠ q0.heap.size ∧ w.heap.size ≠ p2.heap.size := by have h2 := S15.out.db; have h3 := S15.out.be; have h4 := S15.out.en; omega
  have HGG := hide GG
  clear S15 GS GG
  obtain ⟨qa, Hqa⟩ : ∃ qa, Hid (((q15.setCell ⟨p2.heap.size, 4, none⟩ (.slice (some ⟨q15.heap.size, 0, none⟩) 1 1)).alloc (.cells #[.int .i64 4] 3)) = qa) := ⟨_, rfl⟩
  rw [Hqa.out] at MN MM HGG
  have DD2 : Die qa w.heap.size xe := by rw [← Hqa.out]; exact DD
  clear DD
  have HDD := hide DD2
  clear DD2
  go_wp2_with fail
  rw [Hqa.out]
  refine (dcells_c w.heap.size xe 40 qa HDD.out RE.1 RE.2 (by decide)).mono ?_
  rintro e qb ⟨rfl, hI, hD, hg⟩
  have LI := hide (one_list (hI.mono (Nat.zero_le _)))
  have MMb := hide ((MM.out.apart HDD.out (by decide) (by omega) hg).kept0 (World.grownBy_alloc _ (.cells #[.slice (some ⟨qa.heap.size, 0, none⟩) 40 40] 33) none))
  have MNb := hide ((MN.out.apart HDD.out (by decide) (by omega) hg).kept0 (World.grownBy_alloc _ (.cells #[.slice (some ⟨qa.heap.size, 0, none⟩) 40 40] 33) none))
  have GGb := hide (gr_trans (gr_new HGG.out hg (Nat.le_refl _)) (World.grownBy_alloc _ (.cells #[.slice (some ⟨qa.heap.size, 0, none⟩) 40 40] 33) none))
  have Hcl := hide (dcells_ok 40 xe)
  have Hll := hide (dcells_len 40 xe)
  clear hI hD hg MM MN HGG
  obtain ⟨xs, Hxs⟩ : ∃ xs, Hid ((dcells 40 xe).1 = xs) := ⟨_, rfl⟩
  rw [Hxs.out] at LI Hcl Hll
  rw [HMW.out] at MMb
  go_wp2_with fail
  refine (alike_m q0.heap.size p2.heap.size _ _ (some ⟨qb.heap.size, 0, none⟩) 1 1 [xs] _ MMb.out MNb.out LI.out (by intro l hl; simp at hl; subst hl; rw [Hll.out]; decide) (show 1 ≤ 9223372036854775807 by decide) (in_hold _ xs 40 rfl Hll.out Hcl.out) (in_hold _ xs 40 rfl Hll.out Hcl.out) (HAL.out xs)).mono ?_
  rintro e qc ⟨rfl, hg⟩
  have GF := hide (gr_trans GGb.out hg)
  clear hg
  go_wp2
  go_ret
  exact ⟨rfl, GF.out⟩

theorem pad_c (a0 a1 a2 : Int) (w : World) (ha : -9223372036854775808 ≤ a0) (hb : a0 ≤ 9223372036854775807) :
    Calls Tryz.prog 10 #[.int .i64 a0, .int .i64 a1, .int .i64 a2] w fun e w' => e = .returned (.bool true) ∧ w.grownBy w' none := by
  go_enter Tryz.func10, Tryz.ntmps10
  go_wp2_with fail
  refine (padded_c a0 w ha hb).mono ?_
  rintro e w1 ⟨rfl, hg1⟩
  go_wp2
  go_ret
  exact ⟨rfl, hg1⟩

end Go.Proofs.YtcnhfffgbamonaaGreat
