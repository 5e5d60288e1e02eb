/-
  The law Dense. (Written by a small program of ours: wip/gen/dense.py.)
-/
import Derived.Test.YtcnhfffgbamonaaGreatLa6
import Derived.Test.YtcnhfffgbamonaaGreatLa4b
import Derived.Test.YtcnhfffgbamonaaGreatDe0
namespace Go.Proofs.YtcnhfffgbamonaaGreat
open Go.RowKit

set_option maxRecDepth 100000 in
set_option maxHeartbeats 4000000 in
theorem densely_c (a : Int) (w : World) (ha : -9223372036854775808 ≤ a) (hb : a ≤ 9223372036854775807) :
    Calls Tryz.prog 27 #[.int .i64 a] w fun e w' => e = .returned (.bool true) ∧ w.grownBy w' none := by
  obtain ⟨x, Hx⟩ : ∃ x, Hid (pickOf a 2147483648 = x) := ⟨_, rfl⟩
  have R0 : 0 ≤ x ∧ x < 2147483648 := by rw [← Hx.out]; exact ⟨Int.emod_nonneg _ (by decide), Int.emod_lt_of_pos _ (by decide)⟩
  have R1 := dnext_range x
  have R2 := dcells_range 24 (dnext x) R1.1 R1.2
  have R3 := dbias_range 2 (dcells 24 (dnext x)).2 R2.1 R2.2
  have R4 := dnext_range (dbias 2 (dcells 24 (dnext x)).2).2
  have R5 := dnext_range (dnext (dbias 2 (dcells 24 (dnext x)).2).2)
  have L1 := dcells_len 24 (dnext x)
  have L2 := dbias_len 2 (dcells 24 (dnext x)).2
  have K1 := dcells_ok 24 (dnext x)
  have K2 := dbias_ok 2 (dcells 24 (dnext x)).2
  have Z1 := dzero_rg x
  have Z2 := dzero_rg (dbias 2 (dcells 24 (dnext x)).2).2
  have HSO := hide (show D.SOk ⟨dmult (dnext (dbias 2 (dcells 24 (dnext x)).2).2), dshift (dnext (dnext (dbias 2 (dcells 24 (dnext x)).2).2))⟩ from wsc_ok 24 2 x)
  have HIS := hide (D.is_dense (dzero x) (dcells 24 (dnext x)).1 (dbias 2 (dcells 24 (dnext x)).2).1 (dzero (dbias 2 (dcells 24 (dnext x)).2).2) ⟨dmult (dnext (dbias 2 (dcells 24 (dnext x)).2).2), dshift (dnext (dnext (dbias 2 (dcells 24 (dnext x)).2).2))⟩ (by unfold D.ZOk; omega) (by unfold D.ZOk; omega) K1 K2 L2 HSO.out)
  have HAL := hide (fun l => D.dense_alike (dzero x) (dcells 24 (dnext x)).1 (dbias 2 (dcells 24 (dnext x)).2).1 (dzero (dbias 2 (dcells 24 (dnext x)).2).2) ⟨dmult (dnext (dbias 2 (dcells 24 (dnext x)).2).2), dshift (dnext (dnext (dbias 2 (dcells 24 (dnext x)).2).2))⟩ l)
  have HMW := hide (show mW 2 2 3 2 2 24 2 false (-128) 127 x = D.mWin 2 2 3 2 2 false (-128) 127 (dzero x) (dcells 24 (dnext x)).1 (dbias 2 (dcells 24 (dnext x)).2).1 (dzero (dbias 2 (dcells 24 (dnext x)).2).2) ⟨dmult (dnext (dbias 2 (dcells 24 (dnext x)).2).2), dshift (dnext (dnext (dbias 2 (dcells 24 (dnext x)).2).2))⟩ from rfl)
  have RW := dnext_range (dnext (dnext (dbias 2 (dcells 24 (dnext x)).2).2))
  have HWE := hide (show wend 24 2 x = dnext (dnext (dnext (dbias 2 (dcells 24 (dnext x)).2).2)) from rfl)
  have REnd := dnext_range (dnext (dnext (dbias 2 (dcells 24 (dnext x)).2).2))
  obtain ⟨xe, Hxe⟩ : ∃ xe, Hid (wend 24 2 x = xe) := ⟨_, rfl⟩
  have RE : 0 ≤ xe ∧ xe < 2147483648 := by rw [← Hxe.out, HWE.out]; exact REnd
  clear K1 K2 HWE REnd RW
  obtain ⟨z, Hz⟩ : ∃ z, Hid (dzero x = z) := ⟨_, rfl⟩
  obtain ⟨ce, Hce⟩ : ∃ ce, Hid ((dcells 24 (dnext x)).1 = ce) := ⟨_, rfl⟩
  obtain ⟨bi, Hbi⟩ : ∃ bi, Hid ((dbias 2 (dcells 24 (dnext x)).2).1 = bi) := ⟨_, rfl⟩
  obtain ⟨x3, Hx3⟩ : ∃ x3, Hid ((dbias 2 (dcells 24 (dnext x)).2).2 = x3) := ⟨_, rfl⟩
  rw [Hx3.out] at HIS HAL HMW R3 R4 R5 Z2 HSO
  rw [Hce.out] at HIS HAL HMW L1
  rw [Hbi.out] at HIS HAL HMW L2
  rw [Hz.out] at HIS HAL HMW Z1
  go_enter Tryz.func27, Tryz.ntmps27
  go_wp2_with fail
  refine (seeded_c a w ha hb).mono ?_
  rintro e q0 ⟨rfl, D0, g0⟩
  rw [Hx.out] at D0
  have l0 := Blk.lt D0
  go_wp2_with fail
  refine (windowed_223220 w.heap.size x (-128) 127 q0 D0 R0.1 R0.2 (by unfold Cell; decide) (by unfold Cell; decide) (by decide)).mono ?_
  rintro e p1 ⟨rfl, M1, D1, g1⟩
  rw [Hxe.out] at D1
  have G1 := gr_new g0 g1 (Nat.le_refl _)
  have HM1 := hide M1
  have l1 : q0.heap.size < p1.heap.size := by obtain ⟨ts, ops, nt, no, aa, nn, cc, h, -⟩ := M1.at_; exact Blk.lt h
  clear g0 g1 D0 M1
  go_wp2_with fail
  refine (seeded_c a p1 ha hb).mono ?_
  rintro e p2 ⟨rfl, E2, g2⟩
  rw [Hx.out] at E2
  have l2 := Blk.lt E2
  have S0 : Hid (S4 w (p2.alloc (.cells #[.string ⟨#[]⟩, .string ⟨#[]⟩, .int .i64 0, .int .i64 0, .slice none 0 0] 81)) w.heap.size xe q0.heap.size (mW 2 2 3 2 2 24 2 false (-128) 127 x) p1.heap.size x p2.heap.size [] [] (.slice none 0 0)) :=
    ⟨gr_trans (gr_trans G1 g2) (World.grownBy_alloc _ _ _), (Blk.kept D1 g2 (by simp)).alloc _, (HM1.out.kept0 g2).kept0 (World.grownBy_alloc _ _ _), Blk.alloc E2 _, MP.new p2, Nat.le_refl _, l0, l1, l2⟩
  clear D1 E2 g2 G1 HM1
  go_wp2_with fail
  refine (dzero_c p1.heap.size (x) _ S0.out.E R0.1 R0.2).mono ?_
  rintro e q1 ⟨rfl, hD, hg⟩
  have S1 := hide (S0.out.dieE hD hg)
  clear hD hg S0
  rw [Hz.out]
  go_wp2_with fail
  refine (mten p2.heap.size ([]) ([]) _ (D.tIn 2 2 3 z) none 0 0 _ S1.out.P (Ints.nil _ _) (by decide) (show 0 ≤ 1000 by decide) (show 0 ≤ 1000 by decide)).mono ?_
  rintro e q2 ⟨rfl, hP, hg⟩
  have S2 := hide (S1.out.mod hP hg)
  clear hP hg S1
  go_wp2_with fail
  refine (dcells_c p1.heap.size (dnext x) 24 _ S2.out.E R1.1 R1.2 (by decide)).mono ?_
  rintro e q3 ⟨rfl, hI, hD, hg⟩
  have S3 := hide (S2.out.dieE hD hg)
  have I3 := hide (hI.mono (Nat.zero_le _))
  clear hI hD hg S2
  rw [Hce.out] at I3
  obtain ⟨i0, hi, hz0, hz1, hz2⟩ := info_parts Tryz.info3
  go_wp2_with (at_make; refine wpList_make_full _ rfl _ _ 33 rfl q3.heap.size 3 i0 (.int .i64 0) 1 Tryz.underlying33 hi hz0 hz1 _ _ _ _ 24 rfl rfl rfl rfl ?c1 ?c2 ?c3 ?_)
  case c1 => rw [hz2]; decide
  case c2 => decide
  case c3 => exact Nat.le_refl _
  intro qm hown hgm
  have BW := made_blk hown
  have BW0 : Blk qm q3.heap.size 3 (dArr ce 0) := by rw [dArr_zero]; exact BW
  have hqm := BW.lt
  clear hown BW hi hz0 hz1 hz2
  go_wp2
  go_loopw [12] (fun v wr => ∃ i s : Nat, i ≤ 4 ∧ Hid (s = 6 * i) ∧ v = .int .i64 i ∧ Blk wr q3.heap.size 3 (dArr ce s) ∧ q3.grownBy wr none) (fun v _ => 4 - (intOf v).toNat)
  case atStart => exact ⟨0, 0, by decide, rfl, rfl, BW0, hgm⟩
  case round =>
    obtain ⟨i, s, hi4, Hs, rfl, hB, hg⟩ := hrel
    have Hi4 := hide hi4
    clear hi4
    by_cases hlt : i < 4
    · have Hlt := hide hlt
      have hd : decide ((i : Int) < 4) = true := decide_eq_true (by omega)
      clear hlt
      go_wp2
      clear hd
      go_loopw [13] (fun v wr => ∃ o s : Nat, o ≤ 2 ∧ Hid (s = 6 * i + 3 * o) ∧ v = .int .i64 o ∧ Blk wr q3.heap.size 3 (dArr ce s) ∧ q3.grownBy wr none) (fun v _ => 2 - (intOf v).toNat)
      case atStart => exact ⟨0, s, by decide, Hs.out, rfl, hB, hg⟩
      case round =>
        clear hB hg Hs
        obtain ⟨o, s, ho2, Hs, rfl, hB, hg⟩ := hrel
        have Ho2 := hide ho2
        clear ho2
        by_cases hlt2 : o < 2
        · have Hlt2 := hide hlt2
          have hd : decide ((o : Int) < 2) = true := decide_eq_true (by omega)
          clear hlt2
          go_wp2
          clear hd
          go_loopw [14] (fun v wr => ∃ c s : Nat, c ≤ 3 ∧ Hid (s = 6 * i + 3 * o + c) ∧ v = .int .i64 c ∧ Blk wr q3.heap.size 3 (dArr ce s) ∧ q3.grownBy wr none) (fun v _ => 3 - (intOf v).toNat)
          case atStart => exact ⟨0, s, by decide, Hs.out, rfl, hB, hg⟩
          case round =>
            clear hB hg Hs
            obtain ⟨c, s, hc3, Hs, rfl, hB, hg⟩ := hrel
            have Hc3 := hide hc3
            clear hc3
            by_cases hlt3 : c < 3
            · have hi3 : i < 4 := Hlt.out
              have ho1 : o < 2 := Hlt2.out
              have Hs24 := hide (show s < 24 by rw [Hs.out]; omega)
              have hs24 := Hs24.out
              obtain ⟨v, hv⟩ : ∃ v, ce[s]? = some v := ⟨_, List.getElem?_eq_getElem (by omega)⟩
              obtain ⟨gc, eg, hgcl, -, dc⟩ := (I3.out.kept0 hg).get s v hv
              injection eg with eg
              injection eg with eg _ _
              subst eg
              have es : s = i * 6 + o * 3 + c := by rw [Hs.out]; omega
              have ed : dDst s = o * 12 + i * 3 + c := by rw [Hs.out]; unfold dDst; omega
              obtain ⟨u, hu⟩ := dArr_get ce s (o * 12 + i * 3 + c) (by omega)
              have cw := hB.cell (o * 12 + i * 3 + c)
              rw [hu] at cw
              have fw := hB.free (o * 12 + i * 3 + c)
              have hneq : q2.heap.size ≠ q3.heap.size := by have := I3.out.get s v hv; obtain ⟨g1, e1, l1, -, -⟩ := this; injection e1 with e1; injection e1 with e1 _ _; subst e1; omega
              have HB2 := hide (hB.set (o * 12 + i * 3 + c) (.int .i64 v))
              rw [← ed, dArr_set hs24 hv, ed] at HB2
              have HG2 := hide (gr_new hg (gr_set wr q3.heap.size (o * 12 + i * 3 + c) (.int .i64 v)) (Nat.le_refl _))
              rw [es] at dc
              have hqw := hB.lt
              have hd : decide ((c : Int) < 3) = true := decide_eq_true (by omega)
              have x1 : (o : Int) * 12 ≤ 12 ∧ (i : Int) * 3 ≤ 9 ∧ (i : Int) * 6 ≤ 18 ∧ (o : Int) * 3 ≤ 3 ∧ (c : Int) ≤ 2 := by omega
              obtain ⟨x1, x2, x3_, x4, x5⟩ := x1
              have Hlt3 := hide hlt3
              clear hB hg hu hv es ed hs24 hlt3 hi3 ho1
              go_wp2
              go_roundw
              case rel => exact ⟨c + 1, s + 1, (by have := Hlt3.out; omega), (by have := Hs.out; unfold Hid; omega), by go_num, HB2.out, HG2.out⟩
              case measure => have := Hlt3.out; simp [intOf]; omega
            · have ec : c = 3 := by have := Hc3.out; omega
              have hd : decide ((c : Int) < 3) = false := decide_eq_false (by omega)
              have Hec := hide ec
              have ob : (o : Int) ≤ 1 := by have := Hlt2.out; omega
              clear ec hlt3
              go_wp2
              go_roundw
              case rel => exact ⟨o + 1, s, (by have := Hlt2.out; omega), (by have := Hs.out; have := Hec.out; unfold Hid; omega), by go_num, hB, hg⟩
              case measure => have := Hlt2.out; simp [intOf]; omega
        · have eo : o = 2 := by have := Ho2.out; omega
          have hd : decide ((o : Int) < 2) = false := decide_eq_false (by omega)
          have Heo := hide eo
          have ib : (i : Int) ≤ 3 := by have := Hlt.out; omega
          clear eo hlt2
          go_wp2
          go_roundw
          case rel => exact ⟨i + 1, s, (by have := Hlt.out; omega), (by have := Hs.out; have := Heo.out; unfold Hid; omega), by go_num, hB, hg⟩
          case measure => have := Hlt.out; simp [intOf]; omega
    · have ei : i = 4 := by have := Hi4.out; omega
      have hd : decide ((i : Int) < 4) = false := decide_eq_false (by omega)
      have es : s = 24 := by rw [Hs.out]; omega
      subst es
      clear ei hlt Hs
      have S90 := hide (S3.out.none hg)
      have I90 : Hid (Ints wr 0 (.slice (some ⟨q3.heap.size, 0, none⟩) 24 24) (D.denseW ce)) := by rw [← dList_full]; exact Ints.of_blk (Nat.zero_le _) (dList_len ce 24) (by decide) hB
      have L90 : (D.denseW ce).length = 24 := by rw [← dList_full]; exact dList_len ce 24
      clear hB hg BW0 hgm S3 I3
      go_wp2_with fail
      refine (mten p2.heap.size ([D.tIn 2 2 3 z]) ([]) _ (D.tConst 2 1 12 (D.denseW ce)) (some ⟨q3.heap.size, 0, none⟩) 24 24 _ S90.out.P I90.out (show 5 ≤ 100000 by decide) (by show (D.denseW ce).length ≤ 1000; omega) (show 1 ≤ 1000 by decide)).mono ?_
      rintro e q4 ⟨rfl, hP, hg⟩
      have S4 := hide (S90.out.mod hP hg)
      clear hP hg S90
      go_wp2_with fail
      refine (dbias_c p1.heap.size ((dcells 24 (dnext x)).2) 2 _ S4.out.E R2.1 R2.2 (by decide)).mono ?_
      rintro e q5 ⟨rfl, hI, hD, hg⟩
      have S5 := hide (S4.out.dieE hD hg)
      have I5 := hide (hI.mono (Nat.zero_le _))
      clear hI hD hg S4
      rw [Hbi.out] at I5
      rw [Hx3.out] at S5
      go_wp2_with fail
      refine (mten p2.heap.size ([D.tIn 2 2 3 z] ++ [D.tConst 2 1 12 (D.denseW ce)]) ([]) _ (D.tBias 2 bi) (some ⟨q4.heap.size, 0, none⟩) 2 2 _ S5.out.P I5.out (by rw [sizeT_snoc]; show 5 + (5 + 4 * (D.denseW ce).length) ≤ 100000; omega) (by show bi.length ≤ 1000; omega) (show 2 ≤ 1000 by decide)).mono ?_
      rintro e q6 ⟨rfl, hP, hg⟩
      have S6 := hide (S5.out.mod hP hg)
      clear hP hg S5
      go_wp2_with fail
      refine (dzero_c p1.heap.size (x3) _ S6.out.E R3.1 R3.2).mono ?_
      rintro e q7 ⟨rfl, hD, hg⟩
      have S7 := hide (S6.out.dieE hD hg)
      clear hD hg S6
      go_wp2_with fail
      refine (mten p2.heap.size ([D.tIn 2 2 3 z] ++ [D.tConst 2 1 12 (D.denseW ce)] ++ [D.tBias 2 bi]) ([]) _ (D.tMid 1 1 2 (dzero x3)) none 0 0 _ S7.out.P (Ints.nil _ _) (by rw [sizeT_snoc, sizeT_snoc]; show 5 + (5 + 4 * (D.denseW ce).length) + (5 + 4 * bi.length) ≤ 100000; omega) (show 0 ≤ 1000 by decide) (show 3 ≤ 1000 by decide)).mono ?_
      rintro e q8 ⟨rfl, hP, hg⟩
      have S8 := hide (S7.out.mod hP hg)
      clear hP hg S7
      have Mu := dmult_rg (dnext x3)
      have Sh := dshift_rg (dnext (dnext x3))
      go_wp2_with fail
      refine (dmult_c p1.heap.size (dnext x3) _ S8.out.E R4.1 R4.2).mono ?_
      rintro e q9 ⟨rfl, hD, hg⟩
      have S9 := hide (S8.out.dieE hD hg)
      clear hD hg S8
      go_wp2_with fail
      refine (dshift_c p1.heap.size (dnext (dnext x3)) _ S9.out.E R5.1 R5.2).mono ?_
      rintro e q10 ⟨rfl, hD, hg⟩
      have S10 := hide (S9.out.dieE hD hg)
      clear hD hg S9
      go_wp2_with fail
      refine (scale2_c (dmult (dnext x3)) (dshift (dnext (dnext x3))) _).mono ?_
      rintro e q11 ⟨rfl, hg⟩
      have S11 := hide (S10.out.none hg)
      clear hg S10
      go_wp2_with fail
      refine (span_c (-128) 127 _).mono ?_
      rintro e q12 ⟨rfl, hg⟩
      have S12 := hide (S11.out.none hg)
      clear hg S11
      have T1 := hide (S12.out.none (World.grownBy_alloc q12 (.cells #[.int .i64 0, .int .i64 1, .int .i64 2] 3) none))
      have J1 := hide (Ints.of_blk (base := 0) (xs := [0, 1, 2]) (n := 3) (Nat.zero_le _) rfl (by decide) (Blk.new q12 3 #[.int .i64 0, .int .i64 1, .int .i64 2]))
      have hs1 : (S8 (w4 (dmult (dnext x3)) ++ [b8 (dshift (dnext (dnext x3)))])).size = 5 := by rw [s8_size]; rfl
      have hs2 : (S8 [b8 (-128), b8 127]).size = 2 := by rw [s8_size]; rfl
      have Hsn := hide (show S8 (w4 (dmult (dnext x3)) ++ [b8 (dshift (dnext (dnext x3)))]) ++ S8 [b8 (-128), b8 127] = S8 (ownBytes (D.oConv 3 0 1 2 3 0 false ⟨dmult (dnext x3), dshift (dnext (dnext x3))⟩ (-128) 127)) by
        rw [s8_app]; rfl)
      clear S12
      go_wp2_with fail
      rw [Hsn.out]
      refine (mopr p2.heap.size _ [] _ (D.oConv 3 0 1 2 3 0 false ⟨dmult (dnext x3), dshift (dnext (dnext x3))⟩ (-128) 127) _ (some ⟨q12.heap.size, 0, none⟩) 3 3 _ T1.out.P (fun o ho => absurd ho (by simp)) J1.out rfl (show 7 ≤ 1000 by decide) (show 0 ≤ 100 by decide)).mono ?_
      rintro e q13 ⟨rfl, hP, hg⟩
      have S13 := hide (T1.out.mod hP hg)
      clear hP hg T1 J1 hs1 hs2 Hsn
      have e4 : q13.cell? ⟨p2.heap.size, 4, none⟩ = some (.slice none 0 0) := Blk.cell S13.out.P 4
      have f4 := Blk.free S13.out.P 4
      have hlq : p2.heap.size < q13.heap.size := S13.out.P.lt
      have MN := hide (outs_set (v := 3) (m := D.mDense z ce bi (dzero x3) ⟨dmult (dnext x3), dshift (dnext (dnext x3))⟩) S13.out.P rfl rfl rfl HIS.out (by rw [sizeT_snoc, sizeT_snoc, sizeT_snoc]; show 5 + (5 + 4 * (D.denseW ce).length) + (5 + 4 * bi.length) + 5 ≤ 100000; omega) (show 1 ≤ 100 by decide))
      have GG := gr_trans (gr_new S13.out.g (gr_set q13 p2.heap.size 4 (.slice (some ⟨q13.heap.size, 0, none⟩) 1 1)) (by have h1 := S13.out.ld; have h2 := S13.out.db; have h3 := S13.out.be; have h4 := S13.out.en; omega)) (World.grownBy_alloc _ (.cells #[.int .i64 3] 3) none)
      have GS := gr_trans (gr_set q13 p2.heap.size 4 (.slice (some ⟨q13.heap.size, 0, none⟩) 1 1)) (World.grownBy_alloc _ (.cells #[.int .i64 3] 3) (some p2.heap.size))
      have MM := hide (S13.out.M.apart S13.out.P (by decide) (by have h3 := S13.out.be; have h4 := S13.out.en; omega) GS)
      have DD := Blk.kept S13.out.D GS (by have h2 := S13.out.db; have h3 := S13.out.be; have h4 := S13.out.en; simp; omega)
      have ndb : w.heap.size ≠ q0.heap.size ∧ w.heap.size ≠ p2.heap.size := by have h2 := S13.out.db; have h3 := S13.out.be; have h4 := S13.out.en; omega
      have HGG := hide GG
      clear S13 GS GG
      obtain ⟨qa, Hqa⟩ : ∃ qa, Hid (((q13.setCell ⟨p2.heap.size, 4, none⟩ (.slice (some ⟨q13.heap.size, 0, none⟩) 1 1)).alloc (.cells #[.int .i64 3] 3)) = qa) := ⟨_, rfl⟩
      rw [Hqa.out] at MN MM HGG
      have DD2 : Die qa w.heap.size xe := by rw [← Hqa.out]; exact DD
      clear DD
      have HDD := hide DD2
      clear DD2
      go_wp2_with fail
      rw [Hqa.out]
      refine (dcells_c w.heap.size xe 12 qa HDD.out RE.1 RE.2 (by decide)).mono ?_
      rintro e qb ⟨rfl, hI, hD, hg⟩
      have LI := hide (one_list (hI.mono (Nat.zero_le _)))
      have MMb := hide ((MM.out.apart HDD.out (by decide) (by omega) hg).kept0 (World.grownBy_alloc _ (.cells #[.slice (some ⟨qa.heap.size, 0, none⟩) 12 12] 33) none))
      have MNb := hide ((MN.out.apart HDD.out (by decide) (by omega) hg).kept0 (World.grownBy_alloc _ (.cells #[.slice (some ⟨qa.heap.size, 0, none⟩) 12 12] 33) none))
      have GGb := hide (gr_trans (gr_new HGG.out hg (Nat.le_refl _)) (World.grownBy_alloc _ (.cells #[.slice (some ⟨qa.heap.size, 0, none⟩) 12 12] 33) none))
      have Hcl := hide (dcells_ok 12 xe)
      have Hll := hide (dcells_len 12 xe)
      clear hI hD hg MM MN HGG
      obtain ⟨xs, Hxs⟩ : ∃ xs, Hid ((dcells 12 xe).1 = xs) := ⟨_, rfl⟩
      rw [Hxs.out] at LI Hcl Hll
      rw [HMW.out] at MMb
      go_wp2_with fail
      refine (alike_m q0.heap.size p2.heap.size _ _ (some ⟨qb.heap.size, 0, none⟩) 1 1 [xs] _ MMb.out MNb.out LI.out (by intro l hl; simp at hl; subst hl; rw [Hll.out]; decide) (show 1 ≤ 9223372036854775807 by decide) (in_hold _ xs 12 rfl Hll.out Hcl.out) (in_hold _ xs 12 rfl Hll.out Hcl.out) (HAL.out xs)).mono ?_
      rintro e qc ⟨rfl, hg⟩
      have GF := hide (gr_trans GGb.out hg)
      clear hg
      go_wp2
      go_ret
      exact ⟨rfl, GF.out⟩

theorem denseL_c (a0 a1 a2 : Int) (w : World) (ha : -9223372036854775808 ≤ a0) (hb : a0 ≤ 9223372036854775807) :
    Calls Tryz.prog 11 #[.int .i64 a0, .int .i64 a1, .int .i64 a2] w fun e w' => e = .returned (.bool true) ∧ w.grownBy w' none := by
  go_enter Tryz.func11, Tryz.ntmps11
  go_wp2_with fail
  refine (densely_c a0 w ha hb).mono ?_
  rintro e w1 ⟨rfl, hg1⟩
  go_wp2
  go_ret
  exact ⟨rfl, hg1⟩

end Go.Proofs.YtcnhfffgbamonaaGreat
