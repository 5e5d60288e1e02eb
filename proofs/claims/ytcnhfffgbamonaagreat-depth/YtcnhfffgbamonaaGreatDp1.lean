/-
  The law Depth. (Written by a small program of ours: wip/gen/depth.py.)
-/
import Derived.Test.YtcnhfffgbamonaaGreatDp0
namespace Go.Proofs.YtcnhfffgbamonaaGreat
open Go.RowKit

set_option maxRecDepth 100000 in
set_option maxHeartbeats 4000000 in
theorem deeply0_c (a b : Int) (w : World) (ha : -9223372036854775808 ≤ a) (hb : a ≤ 9223372036854775807) (hc : -9223372036854775808 ≤ b) (he : b ≤ 9223372036854775807) (hp : pickOf b 3 = 0) :
    Calls Tryz.prog 28 #[.int .i64 a, .int .i64 b] w fun e w' => e = .returned (.bool true) ∧ w.grownBy w' none := by
  obtain ⟨x, Hx⟩ : ∃ x, Hid (pickOf a 2147483648 = x) := ⟨_, rfl⟩
  have R0 : 0 ≤ x ∧ x < 2147483648 := by rw [← Hx.out]; exact ⟨Int.emod_nonneg _ (by decide), Int.emod_lt_of_pos _ (by decide)⟩
  have R1 := dnext_range x
  have R2 := dnext_range (dnext x)
  have R3 := dcells_range 12 (dnext (dnext x)) R2.1 R2.2
  have R4 := dbias_range 2 (dcells 12 (dnext (dnext x))).2 R3.1 R3.2
  have R5 := dnext_range (dbias 2 (dcells 12 (dnext (dnext x))).2).2
  have R6 := dnext_range (dnext (dbias 2 (dcells 12 (dnext (dnext x))).2).2)
  have L1 := dcells_len 12 (dnext (dnext x))
  have L2 := dbias_len 2 (dcells 12 (dnext (dnext x))).2
  have K1 := dcells_ok 12 (dnext (dnext x))
  have K2 := dbias_ok 2 (dcells 12 (dnext (dnext x))).2
  have Z1 := dzero_rg x
  have Z2 := dzero_rg (dnext x)
  obtain ⟨ce, Hce⟩ : ∃ ce, Hid ((dcells 12 (dnext (dnext x))).1 = ce) := ⟨_, rfl⟩
  obtain ⟨bi, Hbi⟩ : ∃ bi, Hid ((dbias 2 (dcells 12 (dnext (dnext x))).2).1 = bi) := ⟨_, rfl⟩
  obtain ⟨x3, Hx3⟩ : ∃ x3, Hid ((dbias 2 (dcells 12 (dnext (dnext x))).2).2 = x3) := ⟨_, rfl⟩
  obtain ⟨z, Hz⟩ : ∃ z, Hid (dzero x = z) := ⟨_, rfl⟩
  obtain ⟨zo, Hzo⟩ : ∃ zo, Hid (dzero (dnext x) = zo) := ⟨_, rfl⟩
  rw [Hx3.out] at R4 R5 R6
  rw [Hce.out] at L1 K1
  rw [Hbi.out] at L2 K2
  rw [Hz.out] at Z1
  rw [Hzo.out] at Z2
  have Mu := dmult_rg x3
  have Sh := dshift_rg (dnext x3)
  have HSO := hide (show D.SOk ⟨dmult x3, dshift (dnext x3)⟩ from ⟨Mu.1, Mu.2, by show -31 ≤ dshift (dnext x3); omega, by show dshift (dnext x3) ≤ 30; omega⟩)
  have HI1 := hide (D.is_depth 1 z ce bi zo ⟨dmult x3, dshift (dnext x3)⟩ (by decide) (by unfold D.ZOk; omega) (by unfold D.ZOk; omega) K1 L1 K2 L2 HSO.out)
  have HI2 := hide (D.is_deep 1 z ce bi zo ⟨dmult x3, dshift (dnext x3)⟩ (by decide) (by unfold D.ZOk; omega) (by unfold D.ZOk; omega) K1 K2 L2 HSO.out)
  have HAL := hide (fun l => D.depth_alike 1 z ce bi zo ⟨dmult x3, dshift (dnext x3)⟩ l (by decide))
  clear K1 K2
  go_enter Tryz.func28, Tryz.ntmps28
  go_wp2_with fail
  refine (pick_c b 3 w hc he (by decide) (by decide)).mono ?_
  rintro e w0 ⟨rfl, hw0⟩
  rw [hp, hw0]
  clear hw0 hp hc he
  go_wp2_with fail
  refine (seeded_c a w ha hb).mono ?_
  rintro e q0 ⟨rfl, D0, g0⟩
  rw [Hx.out] at D0
  have l0 := Blk.lt D0
  go_wp2_with fail
  refine (dzero_c w.heap.size (x) q0 D0 R0.1 R0.2).mono ?_
  rintro e q1 ⟨rfl, D1, hg⟩
  have g1 := gr_new g0 hg (Nat.le_refl _)
  have l1 := Blk.lt D1
  clear hg g0 D0 l0
  rw [Hz.out]
  go_wp2_with fail
  refine (dzero_c w.heap.size (dnext x) q1 D1 R1.1 R1.2).mono ?_
  rintro e q2 ⟨rfl, D2, hg⟩
  have g2 := gr_new g1 hg (Nat.le_refl _)
  have l2 := Blk.lt D2
  clear hg g1 D1 l1
  rw [Hzo.out]
  go_wp2_with fail
  refine (dcells_c w.heap.size (dnext (dnext x)) 12 q2 D2 R2.1 R2.2 (by decide)).mono ?_
  rintro e q3 ⟨rfl, I3, D3, hg⟩
  replace I3 := hide (I3.mono (Nat.zero_le _))
  have g3 := gr_new g2 hg (Nat.le_refl _)
  have l3 := Blk.lt D3
  clear hg g2 D2 l2
  rw [Hce.out] at I3
  go_wp2_with fail
  refine (dbias_c w.heap.size ((dcells 12 (dnext (dnext x))).2) 2 q3 D3 R3.1 R3.2 (by decide)).mono ?_
  rintro e q4 ⟨rfl, I4, D4, hg⟩
  replace I4 := hide (I4.mono (Nat.zero_le _))
  replace I3 := hide (I3.out.apart D3 (by decide) hg)
  have g4 := gr_new g3 hg (Nat.le_refl _)
  have l4 := Blk.lt D4
  clear hg g3 D3 l3
  rw [Hbi.out] at I4
  rw [Hx3.out] at D4
  go_wp2_with fail
  refine (dmult_c w.heap.size (x3) q4 D4 R4.1 R4.2).mono ?_
  rintro e q5 ⟨rfl, D5, hg⟩
  replace I3 := hide (I3.out.apart D4 (by decide) hg)
  replace I4 := hide (I4.out.apart D4 (by decide) hg)
  have g5 := gr_new g4 hg (Nat.le_refl _)
  have l5 := Blk.lt D5
  clear hg g4 D4 l4
  go_wp2_with fail
  refine (dshift_c w.heap.size (dnext x3) q5 D5 R5.1 R5.2).mono ?_
  rintro e q6 ⟨rfl, D6, hg⟩
  replace I3 := hide (I3.out.apart D5 (by decide) hg)
  replace I4 := hide (I4.out.apart D5 (by decide) hg)
  have g6 := gr_new g5 hg (Nat.le_refl _)
  have l6 := Blk.lt D6
  clear hg g5 D5 l5
  go_wp2_with fail
  refine (scale2_c (dmult x3) (dshift (dnext x3)) q6).mono ?_
  rintro e q7 ⟨rfl, hg⟩
  have D7 := Blk.kept D6 hg (by simp)
  replace I3 := hide (I3.out.kept0 hg)
  replace I4 := hide (I4.out.kept0 hg)
  have g7 := gr_trans g6 hg
  clear hg g6 D6 l6
  have hs0 : (S8 [1, 1]).size = 2 := by rw [s8_size]; rfl
  have hs1 : (S8 (w4 (dmult x3) ++ [b8 (dshift (dnext x3))])).size = 5 := by rw [s8_size]; rfl
  have hs2 : (S8 [b8 (-120), b8 120]).size = 2 := by rw [s8_size]; rfl
  have HU : ∀ (W : World) (bk : Nat), Blk W bk 5 #[.int .u8 (IntKind.u8.wrap 1), .int .u8 1] → (convert 41 9 (.slice (some ⟨bk, 0, none⟩) 2 2)).run Tryz.prog W = .ok (.string (S8 [1, 1])) W := fun W bk hW => conv_at W bk [1, 1] (by rw [show IntKind.u8.wrap 1 = 1 from by decide] at hW; exact hW)
  have HUU := hide HU
  have hcv := HU (q7.alloc (.cells #[.int .u8 (IntKind.u8.wrap 1), .int .u8 1] 5)).drew q7.heap.size (Blk.drew (Blk.new q7 5 _))
  clear HU
  go_wp2_with fail
  go_region_with (go_at_call 46; refine (span_c (-120) 120 _).mono ?_; rintro e w7 ⟨rfl, hg7⟩; have HG7 := hide hg7; (try have hcv2 := HUU.out w7 q7.heap.size (Blk.kept (Blk.drew (Blk.new q7 5 _)) hg7 (by simp))); have hcv3 := HUU.out (w7.alloc (.cells #[.int .u8 (IntKind.u8.wrap 1), .int .u8 1] 5)) w7.heap.size (Blk.new w7 5 _); clear hg7)
  all_goals
    first
      | (obtain ⟨q8, Hq8⟩ : ∃ q8, Hid (w7.alloc (.cells #[.int .u8 (IntKind.u8.wrap 1), .int .u8 1] 5) = q8) := ⟨_, rfl⟩; have G8 : q7.grownBy q8 none := (by rw [← Hq8.out]; exact gr_trans (gr_trans (gr_drew _ _) HG7.out) (World.grownBy_alloc _ _ _)))
      | (obtain ⟨q8, Hq8⟩ : ∃ q8, Hid (w7 = q8) := ⟨_, rfl⟩; have G8 : q7.grownBy q8 none := (by rw [← Hq8.out]; exact gr_trans (gr_trans (World.grownBy_alloc _ _ _) (gr_drew _ _)) HG7.out))
    rw [Hq8.out]
    have D8 := Blk.kept D7 G8 (by simp)
    replace I3 := hide (I3.out.kept0 G8)
    replace I4 := hide (I4.out.kept0 G8)
    have g8 := gr_trans g7 G8
    have l8 := Blk.lt D8
    clear G8 HG7 g7 D7 hcv hcv3
    try clear hcv2
    obtain ⟨ns, Hns⟩ : ∃ ns, Hid (S8 [1, 1] ++ S8 (w4 (dmult x3) ++ [b8 (dshift (dnext x3))]) ++ S8 [b8 (-120), b8 120] = ns) := ⟨_, rfl⟩
    have Hn1 := hide (show ns = S8 (ownBytes (D.oConv 2 0 1 2 3 1 true ⟨dmult x3, dshift (dnext x3)⟩ (-120) 120)) by rw [← Hns.out, s8_app, s8_app]; rfl)
    have Hn2 := hide (show ns = S8 (ownBytes (D.oConv 1 0 1 2 3 1 true ⟨dmult x3, dshift (dnext x3)⟩ (-120) 120)) by rw [← Hns.out, s8_app, s8_app]; rfl)
    have S0 : Hid (DP w (q8.alloc (.cells #[.string ⟨#[]⟩, .string ⟨#[]⟩, .int .i64 0, .int .i64 0, .slice none 0 0] 81)) w.heap.size (dnext (dnext x3)) q8.heap.size [] [] (.slice none 0 0)) := ⟨gr_trans g8 (World.grownBy_alloc _ _ _), Blk.alloc D8 _, MP.new q8, Nat.le_refl _, l8⟩
    replace I3 := hide (I3.out.kept0 (World.grownBy_alloc q8 (.cells #[.string ⟨#[]⟩, .string ⟨#[]⟩, .int .i64 0, .int .i64 0, .slice none 0 0] 81) none))
    replace I4 := hide (I4.out.kept0 (World.grownBy_alloc q8 (.cells #[.string ⟨#[]⟩, .string ⟨#[]⟩, .int .i64 0, .int .i64 0, .slice none 0 0] 81) none))
    clear g8 D8
    go_wp2_with fail
    refine (mten q8.heap.size ([]) ([]) _ (D.tIn 4 5 2 z) none 0 0 _ S0.out.P (Ints.nil _ _) (by decide) (show 0 ≤ 1000 by decide) (show 0 ≤ 1000 by decide)).mono ?_
    rintro e q21 ⟨rfl, hP, hg⟩
    replace I3 := hide (I3.out.apart S0.out.P (by decide) hg)
    replace I4 := hide (I4.out.apart S0.out.P (by decide) hg)
    have S21 := hide (S0.out.mod hP hg)
    clear hP hg S0
    go_wp2_with fail
    refine (mten q8.heap.size ([D.tIn 4 5 2 z]) ([]) _ (D.tConst 2 3 2 ce) (some ⟨q2.heap.size, 0, none⟩) 12 12 _ S21.out.P I3.out (show 5 ≤ 100000 by decide) (by show ce.length ≤ 1000; omega) (show 1 ≤ 1000 by decide)).mono ?_
    rintro e q22 ⟨rfl, hP, hg⟩
    replace I3 := hide (I3.out.apart S21.out.P (by decide) hg)
    replace I4 := hide (I4.out.apart S21.out.P (by decide) hg)
    have S22 := hide (S21.out.mod hP hg)
    clear hP hg S21
    go_wp2_with fail
    refine (mten q8.heap.size ([D.tIn 4 5 2 z] ++ [D.tConst 2 3 2 ce]) ([]) _ (D.tBias 2 bi) (some ⟨q3.heap.size, 0, none⟩) 2 2 _ S22.out.P I4.out (by rw [sizeT_snoc]; show 5 + (5 + 4 * ce.length) ≤ 100000; omega) (by show bi.length ≤ 1000; omega) (show 2 ≤ 1000 by decide)).mono ?_
    rintro e q23 ⟨rfl, hP, hg⟩
    replace I3 := hide (I3.out.apart S22.out.P (by decide) hg)
    replace I4 := hide (I4.out.apart S22.out.P (by decide) hg)
    have S23 := hide (S22.out.mod hP hg)
    clear hP hg S22
    go_wp2_with fail
    refine (mten q8.heap.size ([D.tIn 4 5 2 z] ++ [D.tConst 2 3 2 ce] ++ [D.tBias 2 bi]) ([]) _ (D.tMid 4 5 2 zo) none 0 0 _ S23.out.P (Ints.nil _ _) (by rw [sizeT_snoc, sizeT_snoc]; show 5 + (5 + 4 * ce.length) + (5 + 4 * bi.length) ≤ 100000; omega) (show 0 ≤ 1000 by decide) (show 3 ≤ 1000 by decide)).mono ?_
    rintro e q24 ⟨rfl, hP, hg⟩
    replace I3 := hide (I3.out.apart S23.out.P (by decide) hg)
    replace I4 := hide (I4.out.apart S23.out.P (by decide) hg)
    have S24 := hide (S23.out.mod hP hg)
    clear hP hg S23
    have T1 := hide (S24.out.none (World.grownBy_alloc q24 (.cells #[.int .i64 0, .int .i64 1, .int .i64 2] 3) none))
    replace I3 := hide (I3.out.kept0 (World.grownBy_alloc q24 (.cells #[.int .i64 0, .int .i64 1, .int .i64 2] 3) none))
    replace I4 := hide (I4.out.kept0 (World.grownBy_alloc q24 (.cells #[.int .i64 0, .int .i64 1, .int .i64 2] 3) none))
    have J1 := hide (Ints.of_blk (base := 0) (xs := [0, 1, 2]) (n := 3) (Nat.zero_le _) rfl (by decide) (Blk.new q24 3 #[.int .i64 0, .int .i64 1, .int .i64 2]))
    clear S24
    go_wp2_with fail
    rw [Hns.out]
    rw [Hn1.out]
    refine (mopr q8.heap.size _ [] _ (D.oConv 2 0 1 2 3 1 true ⟨dmult x3, dshift (dnext x3)⟩ (-120) 120) _ (some ⟨q24.heap.size, 0, none⟩) 3 3 _ T1.out.P (fun o ho => absurd ho (by simp)) J1.out rfl (show 9 ≤ 1000 by decide) (show 0 ≤ 100 by decide)).mono ?_
    rintro e q25 ⟨rfl, hP, hg⟩
    replace I3 := hide (I3.out.apart T1.out.P (by decide) hg)
    replace I4 := hide (I4.out.apart T1.out.P (by decide) hg)
    have S25 := hide (T1.out.mod hP hg)
    clear hP hg T1 J1
    have e4 : q25.cell? ⟨q8.heap.size, 4, none⟩ = some (.slice none 0 0) := Blk.cell S25.out.P 4
    have f4 := Blk.free S25.out.P 4
    have hlq : q8.heap.size < q25.heap.size := S25.out.P.lt
    have GS := gr_trans (gr_set q25 q8.heap.size 4 (.slice (some ⟨q25.heap.size, 0, none⟩) 1 1)) (World.grownBy_alloc _ (.cells #[.int .i64 3] 3) (some q8.heap.size))
    have MM : Hid (Mm ((q25.setCell ⟨q8.heap.size, 4, none⟩ (.slice (some ⟨q25.heap.size, 0, none⟩) 1 1)).alloc (.cells #[.int .i64 3] 3)) q8.heap.size (D.mDepth 1 z ce bi zo ⟨dmult x3, dshift (dnext x3)⟩)) := outs_set (v := 3) (m := D.mDepth 1 z ce bi zo ⟨dmult x3, dshift (dnext x3)⟩) S25.out.P rfl rfl rfl HI1.out (by rw [sizeT_snoc, sizeT_snoc, sizeT_snoc]; show 5 + (5 + 4 * ce.length) + (5 + 4 * bi.length) + 5 ≤ 100000; omega) (show 1 ≤ 100 by decide)
    have DD := Blk.kept S25.out.D GS (by have h2 := S25.out.dn; simp; omega)
    have GG := hide (gr_new S25.out.g GS (by have h1 := S25.out.ld; have h2 := S25.out.dn; omega))
    have hdn := S25.out.dn
    replace I3 := hide (I3.out.apart S25.out.P (by decide) GS)
    replace I4 := hide (I4.out.apart S25.out.P (by decide) GS)
    obtain ⟨qa, Hqa⟩ : ∃ qa, Hid (((q25.setCell ⟨q8.heap.size, 4, none⟩ (.slice (some ⟨q25.heap.size, 0, none⟩) 1 1)).alloc (.cells #[.int .i64 3] 3)) = qa) := ⟨_, rfl⟩
    have hqa : q8.heap.size < qa.heap.size := by rw [← Hqa.out]; simp; omega
    rw [Hqa.out] at MM GG I3 I4
    have HDD : Hid (Die qa w.heap.size (dnext (dnext x3))) := by rw [← Hqa.out]; exact DD
    clear S25 GS DD
    obtain ⟨i0, hi, hz0, hz1, hz2⟩ := info_parts Tryz.info3
    go_wp2_with (at_make; rw [Hqa.out]; refine wpList_make_full _ rfl _ _ 33 rfl qa.heap.size 3 i0 (.int .i64 0) 1 Tryz.underlying33 hi hz0 hz1 _ _ _ _ 24 rfl rfl rfl rfl ?c1 ?c2 ?c3 ?_)
    case c1 => rw [hz2]; decide
    case c2 => decide
    case c3 => exact Nat.le_refl _
    intro qm hown hgm
    have BW := made_blk hown
    have BW0 : Blk qm qa.heap.size 3 (pArr ce 0) := by rw [pArr_zero]; exact BW
    have hqm := BW.lt
    clear hown BW hi hz0 hz1 hz2
    go_wp2
    go_loopw [23] (fun v wr => ∃ t : Nat, Hid (t ≤ 6) ∧ v = .int .i64 t ∧ Blk wr qa.heap.size 3 (pArr ce t) ∧ qa.grownBy wr none) (fun v _ => 6 - (intOf v).toNat)
    case atStart => exact ⟨0, (show 0 ≤ 6 by decide), rfl, BW0, hgm⟩
    case round =>
      obtain ⟨t, Ht, rfl, hB, hg⟩ := hrel
      by_cases hlt : t < 6
      · obtain ⟨u, hu⟩ : ∃ u, ce[2 * t]? = some u := ⟨_, List.getElem?_eq_getElem (by omega)⟩
        obtain ⟨v, hv⟩ : ∃ v, ce[2 * t + 1]? = some v := ⟨_, List.getElem?_eq_getElem (by omega)⟩
        obtain ⟨g1, eg, hgcl, -, dc1⟩ := (I3.out.kept0 hg).get (2 * t) u hu
        injection eg with eg
        injection eg with eg _ _
        subst eg
        obtain ⟨g2, eg, -, -, dc2⟩ := (I3.out.kept0 hg).get (2 * t + 1) v hv
        injection eg with eg
        injection eg with eg _ _
        subst eg
        obtain ⟨a0, h0⟩ := pArr_get ce t (4 * t) (by omega)
        obtain ⟨a3, h3⟩ := pArr_get ce t (4 * t + 3) (by omega)
        have cw := hB.cell (4 * t)
        rw [h0] at cw
        have fw := hB.free (4 * t)
        have cw3 := hB.cell (4 * t + 3)
        rw [h3] at cw3
        have fw3 := hB.free (4 * t + 3)
        have hneq : q2.heap.size ≠ qa.heap.size := by have := I3.out.get (2 * t) u hu; obtain ⟨g1, e1, l1, -, -⟩ := this; injection e1 with e1; injection e1 with e1 _ _; subst e1; omega
        have HB2 := hide ((hB.set (4 * t) (.int .i64 u)).set (4 * t + 3) (.int .i64 v))
        rw [pArr_set hlt hu hv] at HB2
        have HG2 := hide (gr_new (gr_new hg (gr_set wr qa.heap.size (4 * t) (.int .i64 u)) (Nat.le_refl _)) (gr_set _ qa.heap.size (4 * t + 3) (.int .i64 v)) (Nat.le_refl _))
        have hqw := hB.lt
        have hd : decide ((t : Int) < 6) = true := decide_eq_true (by omega)
        have x1 : (4 : Int) * t ≤ 20 ∧ (2 : Int) * t ≤ 10 ∧ (t : Int) ≤ 5 := by omega
        obtain ⟨x1, x2, x5⟩ := x1
        have Hlt := hide hlt
        clear hB hg hu hv h0 h3 hlt
        go_wp2
        go_roundw
        case rel => exact ⟨t + 1, (by have := Hlt.out; unfold Hid; omega), by go_num, HB2.out, HG2.out⟩
        case measure => have := Hlt.out; simp [intOf]; omega
      · have et : t = 6 := by have := Ht.out; omega
        have hd : decide ((t : Int) < 6) = false := decide_eq_false (by omega)
        subst et
        clear hlt Ht
        have G90 := hide hg
        have I90 := hide (show Ints wr 0 (.slice (some ⟨qa.heap.size, 0, none⟩) 24 24) (D.deepW ce) by rw [← pList_full]; exact Ints.of_blk (Nat.zero_le _) (pList_len ce 6) (by decide) hB)
        have L90 : (D.deepW ce).length = 24 := by rw [← pList_full]; exact pList_len ce 6
        have hwr : qa.heap.size < wr.heap.size := hB.lt
        have S50 : Hid (S3 w (wr.alloc (.cells #[.string ⟨#[]⟩, .string ⟨#[]⟩, .int .i64 0, .int .i64 0, .slice none 0 0] 81)) w.heap.size (dnext (dnext x3)) q8.heap.size (D.mDepth 1 z ce bi zo ⟨dmult x3, dshift (dnext x3)⟩) wr.heap.size [] [] (.slice none 0 0)) := ⟨gr_trans (gr_trans GG.out hg) (World.grownBy_alloc _ _ _), Blk.alloc (Blk.kept HDD.out hg (by simp)) _, (MM.out.kept0 hg).kept0 (World.grownBy_alloc _ _ _), MP.new wr, Nat.le_refl _, hdn, by omega⟩
        replace I4 := hide ((I4.out.kept0 hg).kept0 (World.grownBy_alloc wr (.cells #[.string ⟨#[]⟩, .string ⟨#[]⟩, .int .i64 0, .int .i64 0, .slice none 0 0] 81) none))
        replace I90 := hide (I90.out.kept0 (World.grownBy_alloc wr (.cells #[.string ⟨#[]⟩, .string ⟨#[]⟩, .int .i64 0, .int .i64 0, .slice none 0 0] 81) none))
        clear hB hg BW0 hgm I3 MM GG HDD
        go_wp2_with fail
        refine (mten wr.heap.size ([]) ([]) _ (D.tIn 4 5 2 z) none 0 0 _ S50.out.P (Ints.nil _ _) (by decide) (show 0 ≤ 1000 by decide) (show 0 ≤ 1000 by decide)).mono ?_
        rintro e q51 ⟨rfl, hP, hg⟩
        replace I4 := hide (I4.out.apart S50.out.P (by decide) hg)
        replace I90 := hide (I90.out.apart S50.out.P (by decide) hg)
        have S51 := hide (S50.out.mod hP hg)
        clear hP hg S50
        go_wp2_with fail
        refine (mten wr.heap.size ([D.tIn 4 5 2 z]) ([]) _ (D.tConst 2 3 4 (D.deepW ce)) (some ⟨qa.heap.size, 0, none⟩) 24 24 _ S51.out.P I90.out (show 5 ≤ 100000 by decide) (by show (D.deepW ce).length ≤ 1000; omega) (show 1 ≤ 1000 by decide)).mono ?_
        rintro e q52 ⟨rfl, hP, hg⟩
        replace I4 := hide (I4.out.apart S51.out.P (by decide) hg)
        replace I90 := hide (I90.out.apart S51.out.P (by decide) hg)
        have S52 := hide (S51.out.mod hP hg)
        clear hP hg S51
        go_wp2_with fail
        refine (mten wr.heap.size ([D.tIn 4 5 2 z] ++ [D.tConst 2 3 4 (D.deepW ce)]) ([]) _ (D.tBias 2 bi) (some ⟨q3.heap.size, 0, none⟩) 2 2 _ S52.out.P I4.out (by rw [sizeT_snoc]; show 5 + (5 + 4 * (D.deepW ce).length) ≤ 100000; omega) (by show bi.length ≤ 1000; omega) (show 2 ≤ 1000 by decide)).mono ?_
        rintro e q53 ⟨rfl, hP, hg⟩
        replace I4 := hide (I4.out.apart S52.out.P (by decide) hg)
        replace I90 := hide (I90.out.apart S52.out.P (by decide) hg)
        have S53 := hide (S52.out.mod hP hg)
        clear hP hg S52
        go_wp2_with fail
        refine (mten wr.heap.size ([D.tIn 4 5 2 z] ++ [D.tConst 2 3 4 (D.deepW ce)] ++ [D.tBias 2 bi]) ([]) _ (D.tMid 4 5 2 zo) none 0 0 _ S53.out.P (Ints.nil _ _) (by rw [sizeT_snoc, sizeT_snoc]; show 5 + (5 + 4 * (D.deepW ce).length) + (5 + 4 * bi.length) ≤ 100000; omega) (show 0 ≤ 1000 by decide) (show 3 ≤ 1000 by decide)).mono ?_
        rintro e q54 ⟨rfl, hP, hg⟩
        replace I4 := hide (I4.out.apart S53.out.P (by decide) hg)
        replace I90 := hide (I90.out.apart S53.out.P (by decide) hg)
        have S54 := hide (S53.out.mod hP hg)
        clear hP hg S53
        have T1 := hide (S54.out.none (World.grownBy_alloc q54 (.cells #[.int .i64 0, .int .i64 1, .int .i64 2] 3) none))
        replace I4 := hide (I4.out.kept0 (World.grownBy_alloc q54 (.cells #[.int .i64 0, .int .i64 1, .int .i64 2] 3) none))
        replace I90 := hide (I90.out.kept0 (World.grownBy_alloc q54 (.cells #[.int .i64 0, .int .i64 1, .int .i64 2] 3) none))
        have J1 := hide (Ints.of_blk (base := 0) (xs := [0, 1, 2]) (n := 3) (Nat.zero_le _) rfl (by decide) (Blk.new q54 3 #[.int .i64 0, .int .i64 1, .int .i64 2]))
        clear S54
        go_wp2_with fail
        rw [← Hn1.out, Hn2.out]
        refine (mopr wr.heap.size _ [] _ (D.oConv 1 0 1 2 3 1 true ⟨dmult x3, dshift (dnext x3)⟩ (-120) 120) _ (some ⟨q54.heap.size, 0, none⟩) 3 3 _ T1.out.P (fun o ho => absurd ho (by simp)) J1.out rfl (show 9 ≤ 1000 by decide) (show 0 ≤ 100 by decide)).mono ?_
        rintro e q55 ⟨rfl, hP, hg⟩
        replace I4 := hide (I4.out.apart T1.out.P (by decide) hg)
        replace I90 := hide (I90.out.apart T1.out.P (by decide) hg)
        have S55 := hide (T1.out.mod hP hg)
        clear hP hg T1 J1
        have e4 : q55.cell? ⟨wr.heap.size, 4, none⟩ = some (.slice none 0 0) := Blk.cell S55.out.P 4
        have f4 := Blk.free S55.out.P 4
        have hlq2 : wr.heap.size < q55.heap.size := S55.out.P.lt
        have GS := gr_trans (gr_set q55 wr.heap.size 4 (.slice (some ⟨q55.heap.size, 0, none⟩) 1 1)) (World.grownBy_alloc _ (.cells #[.int .i64 3] 3) (some wr.heap.size))
        have MN : Hid (Mm ((q55.setCell ⟨wr.heap.size, 4, none⟩ (.slice (some ⟨q55.heap.size, 0, none⟩) 1 1)).alloc (.cells #[.int .i64 3] 3)) wr.heap.size (D.mDeep 1 z ce bi zo ⟨dmult x3, dshift (dnext x3)⟩)) := outs_set (v := 3) (m := D.mDeep 1 z ce bi zo ⟨dmult x3, dshift (dnext x3)⟩) S55.out.P rfl rfl rfl HI2.out (by rw [sizeT_snoc, sizeT_snoc, sizeT_snoc]; show 5 + (5 + 4 * (D.deepW ce).length) + (5 + 4 * bi.length) + 5 ≤ 100000; omega) (show 1 ≤ 100 by decide)
        have MM := hide (S55.out.M.apart S55.out.P (by decide) (by have h4 := S55.out.bn; omega) GS)
        have DD := Blk.kept S55.out.D GS (by have h2 := S55.out.db; have h3 := S55.out.bn; simp; omega)
        have ndb : w.heap.size ≠ q8.heap.size ∧ w.heap.size ≠ wr.heap.size := by have h2 := S55.out.db; have h3 := S55.out.bn; omega
        have HGG := hide (gr_new S55.out.g GS (by have h1 := S55.out.ld; have h2 := S55.out.db; have h3 := S55.out.bn; omega))
        obtain ⟨qz, Hqz⟩ : ∃ qz, Hid (((q55.setCell ⟨wr.heap.size, 4, none⟩ (.slice (some ⟨q55.heap.size, 0, none⟩) 1 1)).alloc (.cells #[.int .i64 3] 3)) = qz) := ⟨_, rfl⟩
        rw [Hqz.out] at MN MM HGG
        have HDD : Hid (Die qz w.heap.size (dnext (dnext x3))) := by rw [← Hqz.out]; exact DD
        clear S55 GS DD
        go_wp2_with fail
        rw [Hqz.out]
        refine (dcells_c w.heap.size (dnext (dnext x3)) 40 qz HDD.out R6.1 R6.2 (by decide)).mono ?_
        rintro e qb ⟨rfl, hI, hD, hg⟩
        have LI := hide (one_list (hI.mono (Nat.zero_le _)))
        have MMb := hide ((MM.out.apart HDD.out (by decide) (by omega) hg).kept0 (World.grownBy_alloc _ (.cells #[.slice (some ⟨qz.heap.size, 0, none⟩) 40 40] 33) none))
        have MNb := hide ((MN.out.apart HDD.out (by decide) (by omega) hg).kept0 (World.grownBy_alloc _ (.cells #[.slice (some ⟨qz.heap.size, 0, none⟩) 40 40] 33) none))
        have GGb := hide (gr_trans (gr_new HGG.out hg (Nat.le_refl _)) (World.grownBy_alloc _ (.cells #[.slice (some ⟨qz.heap.size, 0, none⟩) 40 40] 33) none))
        have Hcl := hide (dcells_ok 40 (dnext (dnext x3)))
        have Hll := hide (dcells_len 40 (dnext (dnext x3)))
        clear hI hD hg MM MN HGG
        obtain ⟨xs, Hxs⟩ : ∃ xs, Hid ((dcells 40 (dnext (dnext x3))).1 = xs) := ⟨_, rfl⟩
        rw [Hxs.out] at LI Hcl Hll
        go_wp2_with fail
        refine (alike_m q8.heap.size wr.heap.size _ _ (some ⟨qb.heap.size, 0, none⟩) 1 1 [xs] _ MMb.out MNb.out LI.out (by intro l hl; simp at hl; subst hl; rw [Hll.out]; decide) (show 1 ≤ 9223372036854775807 by decide) (in_hold _ xs 40 rfl Hll.out Hcl.out) (in_hold _ xs 40 rfl Hll.out Hcl.out) (HAL.out xs)).mono ?_
        rintro e qc ⟨rfl, hg⟩
        have GF := hide (gr_trans GGb.out hg)
        clear hg
        go_wp2
        go_ret
        exact ⟨rfl, GF.out⟩

set_option maxRecDepth 100000 in
set_option maxHeartbeats 4000000 in
theorem deeply1_c (a b : Int) (w : World) (ha : -9223372036854775808 ≤ a) (hb : a ≤ 9223372036854775807) (hc : -9223372036854775808 ≤ b) (he : b ≤ 9223372036854775807) (hp : pickOf b 3 = 1) :
    Calls Tryz.prog 28 #[.int .i64 a, .int .i64 b] w fun e w' => e = .returned (.bool true) ∧ w.grownBy w' none := by
  obtain ⟨x, Hx⟩ : ∃ x, Hid (pickOf a 2147483648 = x) := ⟨_, rfl⟩
  have R0 : 0 ≤ x ∧ x < 2147483648 := by rw [← Hx.out]; exact ⟨Int.emod_nonneg _ (by decide), Int.emod_lt_of_pos _ (by decide)⟩
  have R1 := dnext_range x
  have R2 := dnext_range (dnext x)
  have R3 := dcells_range 12 (dnext (dnext x)) R2.1 R2.2
  have R4 := dbias_range 2 (dcells 12 (dnext (dnext x))).2 R3.1 R3.2
  have R5 := dnext_range (dbias 2 (dcells 12 (dnext (dnext x))).2).2
  have R6 := dnext_range (dnext (dbias 2 (dcells 12 (dnext (dnext x))).2).2)
  have L1 := dcells_len 12 (dnext (dnext x))
  have L2 := dbias_len 2 (dcells 12 (dnext (dnext x))).2
  have K1 := dcells_ok 12 (dnext (dnext x))
  have K2 := dbias_ok 2 (dcells 12 (dnext (dnext x))).2
  have Z1 := dzero_rg x
  have Z2 := dzero_rg (dnext x)
  obtain ⟨ce, Hce⟩ : ∃ ce, Hid ((dcells 12 (dnext (dnext x))).1 = ce) := ⟨_, rfl⟩
  obtain ⟨bi, Hbi⟩ : ∃ bi, Hid ((dbias 2 (dcells 12 (dnext (dnext x))).2).1 = bi) := ⟨_, rfl⟩
  obtain ⟨x3, Hx3⟩ : ∃ x3, Hid ((dbias 2 (dcells 12 (dnext (dnext x))).2).2 = x3) := ⟨_, rfl⟩
  obtain ⟨z, Hz⟩ : ∃ z, Hid (dzero x = z) := ⟨_, rfl⟩
  obtain ⟨zo, Hzo⟩ : ∃ zo, Hid (dzero (dnext x) = zo) := ⟨_, rfl⟩
  rw [Hx3.out] at R4 R5 R6
  rw [Hce.out] at L1 K1
  rw [Hbi.out] at L2 K2
  rw [Hz.out] at Z1
  rw [Hzo.out] at Z2
  have Mu := dmult_rg x3
  have Sh := dshift_rg (dnext x3)
  have HSO := hide (show D.SOk ⟨dmult x3, dshift (dnext x3)⟩ from ⟨Mu.1, Mu.2, by show -31 ≤ dshift (dnext x3); omega, by show dshift (dnext x3) ≤ 30; omega⟩)
  have HI1 := hide (D.is_depth 2 z ce bi zo ⟨dmult x3, dshift (dnext x3)⟩ (by decide) (by unfold D.ZOk; omega) (by unfold D.ZOk; omega) K1 L1 K2 L2 HSO.out)
  have HI2 := hide (D.is_deep 2 z ce bi zo ⟨dmult x3, dshift (dnext x3)⟩ (by decide) (by unfold D.ZOk; omega) (by unfold D.ZOk; omega) K1 K2 L2 HSO.out)
  have HAL := hide (fun l => D.depth_alike 2 z ce bi zo ⟨dmult x3, dshift (dnext x3)⟩ l (by decide))
  clear K1 K2
  go_enter Tryz.func28, Tryz.ntmps28
  go_wp2_with fail
  refine (pick_c b 3 w hc he (by decide) (by decide)).mono ?_
  rintro e w0 ⟨rfl, hw0⟩
  rw [hp, hw0]
  clear hw0 hp hc he
  go_wp2_with fail
  refine (seeded_c a w ha hb).mono ?_
  rintro e q0 ⟨rfl, D0, g0⟩
  rw [Hx.out] at D0
  have l0 := Blk.lt D0
  go_wp2_with fail
  refine (dzero_c w.heap.size (x) q0 D0 R0.1 R0.2).mono ?_
  rintro e q1 ⟨rfl, D1, hg⟩
  have g1 := gr_new g0 hg (Nat.le_refl _)
  have l1 := Blk.lt D1
  clear hg g0 D0 l0
  rw [Hz.out]
  go_wp2_with fail
  refine (dzero_c w.heap.size (dnext x) q1 D1 R1.1 R1.2).mono ?_
  rintro e q2 ⟨rfl, D2, hg⟩
  have g2 := gr_new g1 hg (Nat.le_refl _)
  have l2 := Blk.lt D2
  clear hg g1 D1 l1
  rw [Hzo.out]
  go_wp2_with fail
  refine (dcells_c w.heap.size (dnext (dnext x)) 12 q2 D2 R2.1 R2.2 (by decide)).mono ?_
  rintro e q3 ⟨rfl, I3, D3, hg⟩
  replace I3 := hide (I3.mono (Nat.zero_le _))
  have g3 := gr_new g2 hg (Nat.le_refl _)
  have l3 := Blk.lt D3
  clear hg g2 D2 l2
  rw [Hce.out] at I3
  go_wp2_with fail
  refine (dbias_c w.heap.size ((dcells 12 (dnext (dnext x))).2) 2 q3 D3 R3.1 R3.2 (by decide)).mono ?_
  rintro e q4 ⟨rfl, I4, D4, hg⟩
  replace I4 := hide (I4.mono (Nat.zero_le _))
  replace I3 := hide (I3.out.apart D3 (by decide) hg)
  have g4 := gr_new g3 hg (Nat.le_refl _)
  have l4 := Blk.lt D4
  clear hg g3 D3 l3
  rw [Hbi.out] at I4
  rw [Hx3.out] at D4
  go_wp2_with fail
  refine (dmult_c w.heap.size (x3) q4 D4 R4.1 R4.2).mono ?_
  rintro e q5 ⟨rfl, D5, hg⟩
  replace I3 := hide (I3.out.apart D4 (by decide) hg)
  replace I4 := hide (I4.out.apart D4 (by decide) hg)
  have g5 := gr_new g4 hg (Nat.le_refl _)
  have l5 := Blk.lt D5
  clear hg g4 D4 l4
  go_wp2_with fail
  refine (dshift_c w.heap.size (dnext x3) q5 D5 R5.1 R5.2).mono ?_
  rintro e q6 ⟨rfl, D6, hg⟩
  replace I3 := hide (I3.out.apart D5 (by decide) hg)
  replace I4 := hide (I4.out.apart D5 (by decide) hg)
  have g6 := gr_new g5 hg (Nat.le_refl _)
  have l6 := Blk.lt D6
  clear hg g5 D5 l5
  go_wp2_with fail
  refine (scale2_c (dmult x3) (dshift (dnext x3)) q6).mono ?_
  rintro e q7 ⟨rfl, hg⟩
  have D7 := Blk.kept D6 hg (by simp)
  replace I3 := hide (I3.out.kept0 hg)
  replace I4 := hide (I4.out.kept0 hg)
  have g7 := gr_trans g6 hg
  clear hg g6 D6 l6
  have hs0 : (S8 [2, 1]).size = 2 := by rw [s8_size]; rfl
  have hs1 : (S8 (w4 (dmult x3) ++ [b8 (dshift (dnext x3))])).size = 5 := by rw [s8_size]; rfl
  have hs2 : (S8 [b8 (-120), b8 120]).size = 2 := by rw [s8_size]; rfl
  have HU : ∀ (W : World) (bk : Nat), Blk W bk 5 #[.int .u8 (IntKind.u8.wrap 2), .int .u8 1] → (convert 41 9 (.slice (some ⟨bk, 0, none⟩) 2 2)).run Tryz.prog W = .ok (.string (S8 [2, 1])) W := fun W bk hW => conv_at W bk [2, 1] (by rw [show IntKind.u8.wrap 2 = 2 from by decide] at hW; exact hW)
  have HUU := hide HU
  have hcv := HU (q7.alloc (.cells #[.int .u8 (IntKind.u8.wrap 2), .int .u8 1] 5)).drew q7.heap.size (Blk.drew (Blk.new q7 5 _))
  clear HU
  go_wp2_with fail
  go_region_with (go_at_call 46; refine (span_c (-120) 120 _).mono ?_; rintro e w7 ⟨rfl, hg7⟩; have HG7 := hide hg7; (try have hcv2 := HUU.out w7 q7.heap.size (Blk.kept (Blk.drew (Blk.new q7 5 _)) hg7 (by simp))); have hcv3 := HUU.out (w7.alloc (.cells #[.int .u8 (IntKind.u8.wrap 2), .int .u8 1] 5)) w7.heap.size (Blk.new w7 5 _); clear hg7)
  all_goals
    first
      | (obtain ⟨q8, Hq8⟩ : ∃ q8, Hid (w7.alloc (.cells #[.int .u8 (IntKind.u8.wrap 2), .int .u8 1] 5) = q8) := ⟨_, rfl⟩; have G8 : q7.grownBy q8 none := (by rw [← Hq8.out]; exact gr_trans (gr_trans (gr_drew _ _) HG7.out) (World.grownBy_alloc _ _ _)))
      | (obtain ⟨q8, Hq8⟩ : ∃ q8, Hid (w7 = q8) := ⟨_, rfl⟩; have G8 : q7.grownBy q8 none := (by rw [← Hq8.out]; exact gr_trans (gr_trans (World.grownBy_alloc _ _ _) (gr_drew _ _)) HG7.out))
    rw [Hq8.out]
    have D8 := Blk.kept D7 G8 (by simp)
    replace I3 := hide (I3.out.kept0 G8)
    replace I4 := hide (I4.out.kept0 G8)
    have g8 := gr_trans g7 G8
    have l8 := Blk.lt D8
    clear G8 HG7 g7 D7 hcv hcv3
    try clear hcv2
    obtain ⟨ns, Hns⟩ : ∃ ns, Hid (S8 [2, 1] ++ S8 (w4 (dmult x3) ++ [b8 (dshift (dnext x3))]) ++ S8 [b8 (-120), b8 120] = ns) := ⟨_, rfl⟩
    have Hn1 := hide (show ns = S8 (ownBytes (D.oConv 2 0 1 2 3 2 true ⟨dmult x3, dshift (dnext x3)⟩ (-120) 120)) by rw [← Hns.out, s8_app, s8_app]; rfl)
    have Hn2 := hide (show ns = S8 (ownBytes (D.oConv 1 0 1 2 3 2 true ⟨dmult x3, dshift (dnext x3)⟩ (-120) 120)) by rw [← Hns.out, s8_app, s8_app]; rfl)
    have S0 : Hid (DP w (q8.alloc (.cells #[.string ⟨#[]⟩, .string ⟨#[]⟩, .int .i64 0, .int .i64 0, .slice none 0 0] 81)) w.heap.size (dnext (dnext x3)) q8.heap.size [] [] (.slice none 0 0)) := ⟨gr_trans g8 (World.grownBy_alloc _ _ _), Blk.alloc D8 _, MP.new q8, Nat.le_refl _, l8⟩
    replace I3 := hide (I3.out.kept0 (World.grownBy_alloc q8 (.cells #[.string ⟨#[]⟩, .string ⟨#[]⟩, .int .i64 0, .int .i64 0, .slice none 0 0] 81) none))
    replace I4 := hide (I4.out.kept0 (World.grownBy_alloc q8 (.cells #[.string ⟨#[]⟩, .string ⟨#[]⟩, .int .i64 0, .int .i64 0, .slice none 0 0] 81) none))
    clear g8 D8
    go_wp2_with fail
    refine (mten q8.heap.size ([]) ([]) _ (D.tIn 4 5 2 z) none 0 0 _ S0.out.P (Ints.nil _ _) (by decide) (show 0 ≤ 1000 by decide) (show 0 ≤ 1000 by decide)).mono ?_
    rintro e q21 ⟨rfl, hP, hg⟩
    replace I3 := hide (I3.out.apart S0.out.P (by decide) hg)
    replace I4 := hide (I4.out.apart S0.out.P (by decide) hg)
    have S21 := hide (S0.out.mod hP hg)
    clear hP hg S0
    go_wp2_with fail
    refine (mten q8.heap.size ([D.tIn 4 5 2 z]) ([]) _ (D.tConst 2 3 2 ce) (some ⟨q2.heap.size, 0, none⟩) 12 12 _ S21.out.P I3.out (show 5 ≤ 100000 by decide) (by show ce.length ≤ 1000; omega) (show 1 ≤ 1000 by decide)).mono ?_
    rintro e q22 ⟨rfl, hP, hg⟩
    replace I3 := hide (I3.out.apart S21.out.P (by decide) hg)
    replace I4 := hide (I4.out.apart S21.out.P (by decide) hg)
    have S22 := hide (S21.out.mod hP hg)
    clear hP hg S21
    go_wp2_with fail
    refine (mten q8.heap.size ([D.tIn 4 5 2 z] ++ [D.tConst 2 3 2 ce]) ([]) _ (D.tBias 2 bi) (some ⟨q3.heap.size, 0, none⟩) 2 2 _ S22.out.P I4.out (by rw [sizeT_snoc]; show 5 + (5 + 4 * ce.length) ≤ 100000; omega) (by show bi.length ≤ 1000; omega) (show 2 ≤ 1000 by decide)).mono ?_
    rintro e q23 ⟨rfl, hP, hg⟩
    replace I3 := hide (I3.out.apart S22.out.P (by decide) hg)
    replace I4 := hide (I4.out.apart S22.out.P (by decide) hg)
    have S23 := hide (S22.out.mod hP hg)
    clear hP hg S22
    go_wp2_with fail
    refine (mten q8.heap.size ([D.tIn 4 5 2 z] ++ [D.tConst 2 3 2 ce] ++ [D.tBias 2 bi]) ([]) _ (D.tMid 2 3 2 zo) none 0 0 _ S23.out.P (Ints.nil _ _) (by rw [sizeT_snoc, sizeT_snoc]; show 5 + (5 + 4 * ce.length) + (5 + 4 * bi.length) ≤ 100000; omega) (show 0 ≤ 1000 by decide) (show 3 ≤ 1000 by decide)).mono ?_
    rintro e q24 ⟨rfl, hP, hg⟩
    replace I3 := hide (I3.out.apart S23.out.P (by decide) hg)
    replace I4 := hide (I4.out.apart S23.out.P (by decide) hg)
    have S24 := hide (S23.out.mod hP hg)
    clear hP hg S23
    have T1 := hide (S24.out.none (World.grownBy_alloc q24 (.cells #[.int .i64 0, .int .i64 1, .int .i64 2] 3) none))
    replace I3 := hide (I3.out.kept0 (World.grownBy_alloc q24 (.cells #[.int .i64 0, .int .i64 1, .int .i64 2] 3) none))
    replace I4 := hide (I4.out.kept0 (World.grownBy_alloc q24 (.cells #[.int .i64 0, .int .i64 1, .int .i64 2] 3) none))
    have J1 := hide (Ints.of_blk (base := 0) (xs := [0, 1, 2]) (n := 3) (Nat.zero_le _) rfl (by decide) (Blk.new q24 3 #[.int .i64 0, .int .i64 1, .int .i64 2]))
    clear S24
    go_wp2_with fail
    rw [Hns.out]
    rw [Hn1.out]
    refine (mopr q8.heap.size _ [] _ (D.oConv 2 0 1 2 3 2 true ⟨dmult x3, dshift (dnext x3)⟩ (-120) 120) _ (some ⟨q24.heap.size, 0, none⟩) 3 3 _ T1.out.P (fun o ho => absurd ho (by simp)) J1.out rfl (show 9 ≤ 1000 by decide) (show 0 ≤ 100 by decide)).mono ?_
    rintro e q25 ⟨rfl, hP, hg⟩
    replace I3 := hide (I3.out.apart T1.out.P (by decide) hg)
    replace I4 := hide (I4.out.apart T1.out.P (by decide) hg)
    have S25 := hide (T1.out.mod hP hg)
    clear hP hg T1 J1
    have e4 : q25.cell? ⟨q8.heap.size, 4, none⟩ = some (.slice none 0 0) := Blk.cell S25.out.P 4
    have f4 := Blk.free S25.out.P 4
    have hlq : q8.heap.size < q25.heap.size := S25.out.P.lt
    have GS := gr_trans (gr_set q25 q8.heap.size 4 (.slice (some ⟨q25.heap.size, 0, none⟩) 1 1)) (World.grownBy_alloc _ (.cells #[.int .i64 3] 3) (some q8.heap.size))
    have MM : Hid (Mm ((q25.setCell ⟨q8.heap.size, 4, none⟩ (.slice (some ⟨q25.heap.size, 0, none⟩) 1 1)).alloc (.cells #[.int .i64 3] 3)) q8.heap.size (D.mDepth 2 z ce bi zo ⟨dmult x3, dshift (dnext x3)⟩)) := outs_set (v := 3) (m := D.mDepth 2 z ce bi zo ⟨dmult x3, dshift (dnext x3)⟩) S25.out.P rfl rfl rfl HI1.out (by rw [sizeT_snoc, sizeT_snoc, sizeT_snoc]; show 5 + (5 + 4 * ce.length) + (5 + 4 * bi.length) + 5 ≤ 100000; omega) (show 1 ≤ 100 by decide)
    have DD := Blk.kept S25.out.D GS (by have h2 := S25.out.dn; simp; omega)
    have GG := hide (gr_new S25.out.g GS (by have h1 := S25.out.ld; have h2 := S25.out.dn; omega))
    have hdn := S25.out.dn
    replace I3 := hide (I3.out.apart S25.out.P (by decide) GS)
    replace I4 := hide (I4.out.apart S25.out.P (by decide) GS)
    obtain ⟨qa, Hqa⟩ : ∃ qa, Hid (((q25.setCell ⟨q8.heap.size, 4, none⟩ (.slice (some ⟨q25.heap.size, 0, none⟩) 1 1)).alloc (.cells #[.int .i64 3] 3)) = qa) := ⟨_, rfl⟩
    have hqa : q8.heap.size < qa.heap.size := by rw [← Hqa.out]; simp; omega
    rw [Hqa.out] at MM GG I3 I4
    have HDD : Hid (Die qa w.heap.size (dnext (dnext x3))) := by rw [← Hqa.out]; exact DD
    clear S25 GS DD
    obtain ⟨i0, hi, hz0, hz1, hz2⟩ := info_parts Tryz.info3
    go_wp2_with (at_make; rw [Hqa.out]; refine wpList_make_full _ rfl _ _ 33 rfl qa.heap.size 3 i0 (.int .i64 0) 1 Tryz.underlying33 hi hz0 hz1 _ _ _ _ 24 rfl rfl rfl rfl ?c1 ?c2 ?c3 ?_)
    case c1 => rw [hz2]; decide
    case c2 => decide
    case c3 => exact Nat.le_refl _
    intro qm hown hgm
    have BW := made_blk hown
    have BW0 : Blk qm qa.heap.size 3 (pArr ce 0) := by rw [pArr_zero]; exact BW
    have hqm := BW.lt
    clear hown BW hi hz0 hz1 hz2
    go_wp2
    go_loopw [23] (fun v wr => ∃ t : Nat, Hid (t ≤ 6) ∧ v = .int .i64 t ∧ Blk wr qa.heap.size 3 (pArr ce t) ∧ qa.grownBy wr none) (fun v _ => 6 - (intOf v).toNat)
    case atStart => exact ⟨0, (show 0 ≤ 6 by decide), rfl, BW0, hgm⟩
    case round =>
      obtain ⟨t, Ht, rfl, hB, hg⟩ := hrel
      by_cases hlt : t < 6
      · obtain ⟨u, hu⟩ : ∃ u, ce[2 * t]? = some u := ⟨_, List.getElem?_eq_getElem (by omega)⟩
        obtain ⟨v, hv⟩ : ∃ v, ce[2 * t + 1]? = some v := ⟨_, List.getElem?_eq_getElem (by omega)⟩
        obtain ⟨g1, eg, hgcl, -, dc1⟩ := (I3.out.kept0 hg).get (2 * t) u hu
        injection eg with eg
        injection eg with eg _ _
        subst eg
        obtain ⟨g2, eg, -, -, dc2⟩ := (I3.out.kept0 hg).get (2 * t + 1) v hv
        injection eg with eg
        injection eg with eg _ _
        subst eg
        obtain ⟨a0, h0⟩ := pArr_get ce t (4 * t) (by omega)
        obtain ⟨a3, h3⟩ := pArr_get ce t (4 * t + 3) (by omega)
        have cw := hB.cell (4 * t)
        rw [h0] at cw
        have fw := hB.free (4 * t)
        have cw3 := hB.cell (4 * t + 3)
        rw [h3] at cw3
        have fw3 := hB.free (4 * t + 3)
        have hneq : q2.heap.size ≠ qa.heap.size := by have := I3.out.get (2 * t) u hu; obtain ⟨g1, e1, l1, -, -⟩ := this; injection e1 with e1; injection e1 with e1 _ _; subst e1; omega
        have HB2 := hide ((hB.set (4 * t) (.int .i64 u)).set (4 * t + 3) (.int .i64 v))
        rw [pArr_set hlt hu hv] at HB2
        have HG2 := hide (gr_new (gr_new hg (gr_set wr qa.heap.size (4 * t) (.int .i64 u)) (Nat.le_refl _)) (gr_set _ qa.heap.size (4 * t + 3) (.int .i64 v)) (Nat.le_refl _))
        have hqw := hB.lt
        have hd : decide ((t : Int) < 6) = true := decide_eq_true (by omega)
        have x1 : (4 : Int) * t ≤ 20 ∧ (2 : Int) * t ≤ 10 ∧ (t : Int) ≤ 5 := by omega
        obtain ⟨x1, x2, x5⟩ := x1
        have Hlt := hide hlt
        clear hB hg hu hv h0 h3 hlt
        go_wp2
        go_roundw
        case rel => exact ⟨t + 1, (by have := Hlt.out; unfold Hid; omega), by go_num, HB2.out, HG2.out⟩
        case measure => have := Hlt.out; simp [intOf]; omega
      · have et : t = 6 := by have := Ht.out; omega
        have hd : decide ((t : Int) < 6) = false := decide_eq_false (by omega)
        subst et
        clear hlt Ht
        have G90 := hide hg
        have I90 := hide (show Ints wr 0 (.slice (some ⟨qa.heap.size, 0, none⟩) 24 24) (D.deepW ce) by rw [← pList_full]; exact Ints.of_blk (Nat.zero_le _) (pList_len ce 6) (by decide) hB)
        have L90 : (D.deepW ce).length = 24 := by rw [← pList_full]; exact pList_len ce 6
        have hwr : qa.heap.size < wr.heap.size := hB.lt
        have S50 : Hid (S3 w (wr.alloc (.cells #[.string ⟨#[]⟩, .string ⟨#[]⟩, .int .i64 0, .int .i64 0, .slice none 0 0] 81)) w.heap.size (dnext (dnext x3)) q8.heap.size (D.mDepth 2 z ce bi zo ⟨dmult x3, dshift (dnext x3)⟩) wr.heap.size [] [] (.slice none 0 0)) := ⟨gr_trans (gr_trans GG.out hg) (World.grownBy_alloc _ _ _), Blk.alloc (Blk.kept HDD.out hg (by simp)) _, (MM.out.kept0 hg).kept0 (World.grownBy_alloc _ _ _), MP.new wr, Nat.le_refl _, hdn, by omega⟩
        replace I4 := hide ((I4.out.kept0 hg).kept0 (World.grownBy_alloc wr (.cells #[.string ⟨#[]⟩, .string ⟨#[]⟩, .int .i64 0, .int .i64 0, .slice none 0 0] 81) none))
        replace I90 := hide (I90.out.kept0 (World.grownBy_alloc wr (.cells #[.string ⟨#[]⟩, .string ⟨#[]⟩, .int .i64 0, .int .i64 0, .slice none 0 0] 81) none))
        clear hB hg BW0 hgm I3 MM GG HDD
        go_wp2_with fail
        refine (mten wr.heap.size ([]) ([]) _ (D.tIn 4 5 2 z) none 0 0 _ S50.out.P (Ints.nil _ _) (by decide) (show 0 ≤ 1000 by decide) (show 0 ≤ 1000 by decide)).mono ?_
        rintro e q51 ⟨rfl, hP, hg⟩
        replace I4 := hide (I4.out.apart S50.out.P (by decide) hg)
        replace I90 := hide (I90.out.apart S50.out.P (by decide) hg)
        have S51 := hide (S50.out.mod hP hg)
        clear hP hg S50
        go_wp2_with fail
        refine (mten wr.heap.size ([D.tIn 4 5 2 z]) ([]) _ (D.tConst 2 3 4 (D.deepW ce)) (some ⟨qa.heap.size, 0, none⟩) 24 24 _ S51.out.P I90.out (show 5 ≤ 100000 by decide) (by show (D.deepW ce).length ≤ 1000; omega) (show 1 ≤ 1000 by decide)).mono ?_
        rintro e q52 ⟨rfl, hP, hg⟩
        replace I4 := hide (I4.out.apart S51.out.P (by decide) hg)
        replace I90 := hide (I90.out.apart S51.out.P (by decide) hg)
        have S52 := hide (S51.out.mod hP hg)
        clear hP hg S51
        go_wp2_with fail
        refine (mten wr.heap.size ([D.tIn 4 5 2 z] ++ [D.tConst 2 3 4 (D.deepW ce)]) ([]) _ (D.tBias 2 bi) (some ⟨q3.heap.size, 0, none⟩) 2 2 _ S52.out.P I4.out (by rw [sizeT_snoc]; show 5 + (5 + 4 * (D.deepW ce).length) ≤ 100000; omega) (by show bi.length ≤ 1000; omega) (show 2 ≤ 1000 by decide)).mono ?_
        rintro e q53 ⟨rfl, hP, hg⟩
        replace I4 := hide (I4.out.apart S52.out.P (by decide) hg)
        replace I90 := hide (I90.out.apart S52.out.P (by decide) hg)
        have S53 := hide (S52.out.mod hP hg)
        clear hP hg S52
        go_wp2_with fail
        refine (mten wr.heap.size ([D.tIn 4 5 2 z] ++ [D.tConst 2 3 4 (D.deepW ce)] ++ [D.tBias 2 bi]) ([]) _ (D.tMid 2 3 2 zo) none 0 0 _ S53.out.P (Ints.nil _ _) (by rw [sizeT_snoc, sizeT_snoc]; show 5 + (5 + 4 * (D.deepW ce).length) + (5 + 4 * bi.length) ≤ 100000; omega) (show 0 ≤ 1000 by decide) (show 3 ≤ 1000 by decide)).mono ?_
        rintro e q54 ⟨rfl, hP, hg⟩
        replace I4 := hide (I4.out.apart S53.out.P (by decide) hg)
        replace I90 := hide (I90.out.apart S53.out.P (by decide) hg)
        have S54 := hide (S53.out.mod hP hg)
        clear hP hg S53
        have T1 := hide (S54.out.none (World.grownBy_alloc q54 (.cells #[.int .i64 0, .int .i64 1, .int .i64 2] 3) none))
        replace I4 := hide (I4.out.kept0 (World.grownBy_alloc q54 (.cells #[.int .i64 0, .int .i64 1, .int .i64 2] 3) none))
        replace I90 := hide (I90.out.kept0 (World.grownBy_alloc q54 (.cells #[.int .i64 0, .int .i64 1, .int .i64 2] 3) none))
        have J1 := hide (Ints.of_blk (base := 0) (xs := [0, 1, 2]) (n := 3) (Nat.zero_le _) rfl (by decide) (Blk.new q54 3 #[.int .i64 0, .int .i64 1, .int .i64 2]))
        clear S54
        go_wp2_with fail
        rw [← Hn1.out, Hn2.out]
        refine (mopr wr.heap.size _ [] _ (D.oConv 1 0 1 2 3 2 true ⟨dmult x3, dshift (dnext x3)⟩ (-120) 120) _ (some ⟨q54.heap.size, 0, none⟩) 3 3 _ T1.out.P (fun o ho => absurd ho (by simp)) J1.out rfl (show 9 ≤ 1000 by decide) (show 0 ≤ 100 by decide)).mono ?_
        rintro e q55 ⟨rfl, hP, hg⟩
        replace I4 := hide (I4.out.apart T1.out.P (by decide) hg)
        replace I90 := hide (I90.out.apart T1.out.P (by decide) hg)
        have S55 := hide (T1.out.mod hP hg)
        clear hP hg T1 J1
        have e4 : q55.cell? ⟨wr.heap.size, 4, none⟩ = some (.slice none 0 0) := Blk.cell S55.out.P 4
        have f4 := Blk.free S55.out.P 4
        have hlq2 : wr.heap.size < q55.heap.size := S55.out.P.lt
        have GS := gr_trans (gr_set q55 wr.heap.size 4 (.slice (some ⟨q55.heap.size, 0, none⟩) 1 1)) (World.grownBy_alloc _ (.cells #[.int .i64 3] 3) (some wr.heap.size))
        have MN : Hid (Mm ((q55.setCell ⟨wr.heap.size, 4, none⟩ (.slice (some ⟨q55.heap.size, 0, none⟩) 1 1)).alloc (.cells #[.int .i64 3] 3)) wr.heap.size (D.mDeep 2 z ce bi zo ⟨dmult x3, dshift (dnext x3)⟩)) := outs_set (v := 3) (m := D.mDeep 2 z ce bi zo ⟨dmult x3, dshift (dnext x3)⟩) S55.out.P rfl rfl rfl HI2.out (by rw [sizeT_snoc, sizeT_snoc, sizeT_snoc]; show 5 + (5 + 4 * (D.deepW ce).length) + (5 + 4 * bi.length) + 5 ≤ 100000; omega) (show 1 ≤ 100 by decide)
        have MM := hide (S55.out.M.apart S55.out.P (by decide) (by have h4 := S55.out.bn; omega) GS)
        have DD := Blk.kept S55.out.D GS (by have h2 := S55.out.db; have h3 := S55.out.bn; simp; omega)
        have ndb : w.heap.size ≠ q8.heap.size ∧ w.heap.size ≠ wr.heap.size := by have h2 := S55.out.db; have h3 := S55.out.bn; omega
        have HGG := hide (gr_new S55.out.g GS (by have h1 := S55.out.ld; have h2 := S55.out.db; have h3 := S55.out.bn; omega))
        obtain ⟨qz, Hqz⟩ : ∃ qz, Hid (((q55.setCell ⟨wr.heap.size, 4, none⟩ (.slice (some ⟨q55.heap.size, 0, none⟩) 1 1)).alloc (.cells #[.int .i64 3] 3)) = qz) := ⟨_, rfl⟩
        rw [Hqz.out] at MN MM HGG
        have HDD : Hid (Die qz w.heap.size (dnext (dnext x3))) := by rw [← Hqz.out]; exact DD
        clear S55 GS DD
        go_wp2_with fail
        rw [Hqz.out]
        refine (dcells_c w.heap.size (dnext (dnext x3)) 40 qz HDD.out R6.1 R6.2 (by decide)).mono ?_
        rintro e qb ⟨rfl, hI, hD, hg⟩
        have LI := hide (one_list (hI.mono (Nat.zero_le _)))
        have MMb := hide ((MM.out.apart HDD.out (by decide) (by omega) hg).kept0 (World.grownBy_alloc _ (.cells #[.slice (some ⟨qz.heap.size, 0, none⟩) 40 40] 33) none))
        have MNb := hide ((MN.out.apart HDD.out (by decide) (by omega) hg).kept0 (World.grownBy_alloc _ (.cells #[.slice (some ⟨qz.heap.size, 0, none⟩) 40 40] 33) none))
        have GGb := hide (gr_trans (gr_new HGG.out hg (Nat.le_refl _)) (World.grownBy_alloc _ (.cells #[.slice (some ⟨qz.heap.size, 0, none⟩) 40 40] 33) none))
        have Hcl := hide (dcells_ok 40 (dnext (dnext x3)))
        have Hll := hide (dcells_len 40 (dnext (dnext x3)))
        clear hI hD hg MM MN HGG
        obtain ⟨xs, Hxs⟩ : ∃ xs, Hid ((dcells 40 (dnext (dnext x3))).1 = xs) := ⟨_, rfl⟩
        rw [Hxs.out] at LI Hcl Hll
        go_wp2_with fail
        refine (alike_m q8.heap.size wr.heap.size _ _ (some ⟨qb.heap.size, 0, none⟩) 1 1 [xs] _ MMb.out MNb.out LI.out (by intro l hl; simp at hl; subst hl; rw [Hll.out]; decide) (show 1 ≤ 9223372036854775807 by decide) (in_hold _ xs 40 rfl Hll.out Hcl.out) (in_hold _ xs 40 rfl Hll.out Hcl.out) (HAL.out xs)).mono ?_
        rintro e qc ⟨rfl, hg⟩
        have GF := hide (gr_trans GGb.out hg)
        clear hg
        go_wp2
        go_ret
        exact ⟨rfl, GF.out⟩

set_option maxRecDepth 100000 in
set_option maxHeartbeats 4000000 in
theorem deeply2_c (a b : Int) (w : World) (ha : -9223372036854775808 ≤ a) (hb : a ≤ 9223372036854775807) (hc : -9223372036854775808 ≤ b) (he : b ≤ 9223372036854775807) (hp : pickOf b 3 = 2) :
    Calls Tryz.prog 28 #[.int .i64 a, .int .i64 b] w fun e w' => e = .returned (.bool true) ∧ w.grownBy w' none := by
  obtain ⟨x, Hx⟩ : ∃ x, Hid (pickOf a 2147483648 = x) := ⟨_, rfl⟩
  have R0 : 0 ≤ x ∧ x < 2147483648 := by rw [← Hx.out]; exact ⟨Int.emod_nonneg _ (by decide), Int.emod_lt_of_pos _ (by decide)⟩
  have R1 := dnext_range x
  have R2 := dnext_range (dnext x)
  have R3 := dcells_range 12 (dnext (dnext x)) R2.1 R2.2
  have R4 := dbias_range 2 (dcells 12 (dnext (dnext x))).2 R3.1 R3.2
  have R5 := dnext_range (dbias 2 (dcells 12 (dnext (dnext x))).2).2
  have R6 := dnext_range (dnext (dbias 2 (dcells 12 (dnext (dnext x))).2).2)
  have L1 := dcells_len 12 (dnext (dnext x))
  have L2 := dbias_len 2 (dcells 12 (dnext (dnext x))).2
  have K1 := dcells_ok 12 (dnext (dnext x))
  have K2 := dbias_ok 2 (dcells 12 (dnext (dnext x))).2
  have Z1 := dzero_rg x
  have Z2 := dzero_rg (dnext x)
  obtain ⟨ce, Hce⟩ : ∃ ce, Hid ((dcells 12 (dnext (dnext x))).1 = ce) := ⟨_, rfl⟩
  obtain ⟨bi, Hbi⟩ : ∃ bi, Hid ((dbias 2 (dcells 12 (dnext (dnext x))).2).1 = bi) := ⟨_, rfl⟩
  obtain ⟨x3, Hx3⟩ : ∃ x3, Hid ((dbias 2 (dcells 12 (dnext (dnext x))).2).2 = x3) := ⟨_, rfl⟩
  obtain ⟨z, Hz⟩ : ∃ z, Hid (dzero x = z) := ⟨_, rfl⟩
  obtain ⟨zo, Hzo⟩ : ∃ zo, Hid (dzero (dnext x) = zo) := ⟨_, rfl⟩
  rw [Hx3.out] at R4 R5 R6
  rw [Hce.out] at L1 K1
  rw [Hbi.out] at L2 K2
  rw [Hz.out] at Z1
  rw [Hzo.out] at Z2
  have Mu := dmult_rg x3
  have Sh := dshift_rg (dnext x3)
  have HSO := hide (show D.SOk ⟨dmult x3, dshift (dnext x3)⟩ from ⟨Mu.1, Mu.2, by show -31 ≤ dshift (dnext x3); omega, by show dshift (dnext x3) ≤ 30; omega⟩)
  have HI1 := hide (D.is_depth 3 z ce bi zo ⟨dmult x3, dshift (dnext x3)⟩ (by decide) (by unfold D.ZOk; omega) (by unfold D.ZOk; omega) K1 L1 K2 L2 HSO.out)
  have HI2 := hide (D.is_deep 3 z ce bi zo ⟨dmult x3, dshift (dnext x3)⟩ (by decide) (by unfold D.ZOk; omega) (by unfold D.ZOk; omega) K1 K2 L2 HSO.out)
  have HAL := hide (fun l => D.depth_alike 3 z ce bi zo ⟨dmult x3, dshift (dnext x3)⟩ l (by decide))
  clear K1 K2
  go_enter Tryz.func28, Tryz.ntmps28
  go_wp2_with fail
  refine (pick_c b 3 w hc he (by decide) (by decide)).mono ?_
  rintro e w0 ⟨rfl, hw0⟩
  rw [hp, hw0]
  clear hw0 hp hc he
  go_wp2_with fail
  refine (seeded_c a w ha hb).mono ?_
  rintro e q0 ⟨rfl, D0, g0⟩
  rw [Hx.out] at D0
  have l0 := Blk.lt D0
  go_wp2_with fail
  refine (dzero_c w.heap.size (x) q0 D0 R0.1 R0.2).mono ?_
  rintro e q1 ⟨rfl, D1, hg⟩
  have g1 := gr_new g0 hg (Nat.le_refl _)
  have l1 := Blk.lt D1
  clear hg g0 D0 l0
  rw [Hz.out]
  go_wp2_with fail
  refine (dzero_c w.heap.size (dnext x) q1 D1 R1.1 R1.2).mono ?_
  rintro e q2 ⟨rfl, D2, hg⟩
  have g2 := gr_new g1 hg (Nat.le_refl _)
  have l2 := Blk.lt D2
  clear hg g1 D1 l1
  rw [Hzo.out]
  go_wp2_with fail
  refine (dcells_c w.heap.size (dnext (dnext x)) 12 q2 D2 R2.1 R2.2 (by decide)).mono ?_
  rintro e q3 ⟨rfl, I3, D3, hg⟩
  replace I3 := hide (I3.mono (Nat.zero_le _))
  have g3 := gr_new g2 hg (Nat.le_refl _)
  have l3 := Blk.lt D3
  clear hg g2 D2 l2
  rw [Hce.out] at I3
  go_wp2_with fail
  refine (dbias_c w.heap.size ((dcells 12 (dnext (dnext x))).2) 2 q3 D3 R3.1 R3.2 (by decide)).mono ?_
  rintro e q4 ⟨rfl, I4, D4, hg⟩
  replace I4 := hide (I4.mono (Nat.zero_le _))
  replace I3 := hide (I3.out.apart D3 (by decide) hg)
  have g4 := gr_new g3 hg (Nat.le_refl _)
  have l4 := Blk.lt D4
  clear hg g3 D3 l3
  rw [Hbi.out] at I4
  rw [Hx3.out] at D4
  go_wp2_with fail
  refine (dmult_c w.heap.size (x3) q4 D4 R4.1 R4.2).mono ?_
  rintro e q5 ⟨rfl, D5, hg⟩
  replace I3 := hide (I3.out.apart D4 (by decide) hg)
  replace I4 := hide (I4.out.apart D4 (by decide) hg)
  have g5 := gr_new g4 hg (Nat.le_refl _)
  have l5 := Blk.lt D5
  clear hg g4 D4 l4
  go_wp2_with fail
  refine (dshift_c w.heap.size (dnext x3) q5 D5 R5.1 R5.2).mono ?_
  rintro e q6 ⟨rfl, D6, hg⟩
  replace I3 := hide (I3.out.apart D5 (by decide) hg)
  replace I4 := hide (I4.out.apart D5 (by decide) hg)
  have g6 := gr_new g5 hg (Nat.le_refl _)
  have l6 := Blk.lt D6
  clear hg g5 D5 l5
  go_wp2_with fail
  refine (scale2_c (dmult x3) (dshift (dnext x3)) q6).mono ?_
  rintro e q7 ⟨rfl, hg⟩
  have D7 := Blk.kept D6 hg (by simp)
  replace I3 := hide (I3.out.kept0 hg)
  replace I4 := hide (I4.out.kept0 hg)
  have g7 := gr_trans g6 hg
  clear hg g6 D6 l6
  have hs0 : (S8 [3, 1]).size = 2 := by rw [s8_size]; rfl
  have hs1 : (S8 (w4 (dmult x3) ++ [b8 (dshift (dnext x3))])).size = 5 := by rw [s8_size]; rfl
  have hs2 : (S8 [b8 (-120), b8 120]).size = 2 := by rw [s8_size]; rfl
  have HU : ∀ (W : World) (bk : Nat), Blk W bk 5 #[.int .u8 (IntKind.u8.wrap 3), .int .u8 1] → (convert 41 9 (.slice (some ⟨bk, 0, none⟩) 2 2)).run Tryz.prog W = .ok (.string (S8 [3, 1])) W := fun W bk hW => conv_at W bk [3, 1] (by rw [show IntKind.u8.wrap 3 = 3 from by decide] at hW; exact hW)
  have HUU := hide HU
  have hcv := HU (q7.alloc (.cells #[.int .u8 (IntKind.u8.wrap 3), .int .u8 1] 5)).drew q7.heap.size (Blk.drew (Blk.new q7 5 _))
  clear HU
  go_wp2_with fail
  go_region_with (go_at_call 46; refine (span_c (-120) 120 _).mono ?_; rintro e w7 ⟨rfl, hg7⟩; have HG7 := hide hg7; (try have hcv2 := HUU.out w7 q7.heap.size (Blk.kept (Blk.drew (Blk.new q7 5 _)) hg7 (by simp))); have hcv3 := HUU.out (w7.alloc (.cells #[.int .u8 (IntKind.u8.wrap 3), .int .u8 1] 5)) w7.heap.size (Blk.new w7 5 _); clear hg7)
  all_goals
    first
      | (obtain ⟨q8, Hq8⟩ : ∃ q8, Hid (w7.alloc (.cells #[.int .u8 (IntKind.u8.wrap 3), .int .u8 1] 5) = q8) := ⟨_, rfl⟩; have G8 : q7.grownBy q8 none := (by rw [← Hq8.out]; exact gr_trans (gr_trans (gr_drew _ _) HG7.out) (World.grownBy_alloc _ _ _)))
      | (obtain ⟨q8, Hq8⟩ : ∃ q8, Hid (w7 = q8) := ⟨_, rfl⟩; have G8 : q7.grownBy q8 none := (by rw [← Hq8.out]; exact gr_trans (gr_trans (World.grownBy_alloc _ _ _) (gr_drew _ _)) HG7.out))
    rw [Hq8.out]
    have D8 := Blk.kept D7 G8 (by simp)
    replace I3 := hide (I3.out.kept0 G8)
    replace I4 := hide (I4.out.kept0 G8)
    have g8 := gr_trans g7 G8
    have l8 := Blk.lt D8
    clear G8 HG7 g7 D7 hcv hcv3
    try clear hcv2
    obtain ⟨ns, Hns⟩ : ∃ ns, Hid (S8 [3, 1] ++ S8 (w4 (dmult x3) ++ [b8 (dshift (dnext x3))]) ++ S8 [b8 (-120), b8 120] = ns) := ⟨_, rfl⟩
    have Hn1 := hide (show ns = S8 (ownBytes (D.oConv 2 0 1 2 3 3 true ⟨dmult x3, dshift (dnext x3)⟩ (-120) 120)) by rw [← Hns.out, s8_app, s8_app]; rfl)
    have Hn2 := hide (show ns = S8 (ownBytes (D.oConv 1 0 1 2 3 3 true ⟨dmult x3, dshift (dnext x3)⟩ (-120) 120)) by rw [← Hns.out, s8_app, s8_app]; rfl)
    have S0 : Hid (DP w (q8.alloc (.cells #[.string ⟨#[]⟩, .string ⟨#[]⟩, .int .i64 0, .int .i64 0, .slice none 0 0] 81)) w.heap.size (dnext (dnext x3)) q8.heap.size [] [] (.slice none 0 0)) := ⟨gr_trans g8 (World.grownBy_alloc _ _ _), Blk.alloc D8 _, MP.new q8, Nat.le_refl _, l8⟩
    replace I3 := hide (I3.out.kept0 (World.grownBy_alloc q8 (.cells #[.string ⟨#[]⟩, .string ⟨#[]⟩, .int .i64 0, .int .i64 0, .slice none 0 0] 81) none))
    replace I4 := hide (I4.out.kept0 (World.grownBy_alloc q8 (.cells #[.string ⟨#[]⟩, .string ⟨#[]⟩, .int .i64 0, .int .i64 0, .slice none 0 0] 81) none))
    clear g8 D8
    go_wp2_with fail
    refine (mten q8.heap.size ([]) ([]) _ (D.tIn 4 5 2 z) none 0 0 _ S0.out.P (Ints.nil _ _) (by decide) (show 0 ≤ 1000 by decide) (show 0 ≤ 1000 by decide)).mono ?_
    rintro e q21 ⟨rfl, hP, hg⟩
    replace I3 := hide (I3.out.apart S0.out.P (by decide) hg)
    replace I4 := hide (I4.out.apart S0.out.P (by decide) hg)
    have S21 := hide (S0.out.mod hP hg)
    clear hP hg S0
    go_wp2_with fail
    refine (mten q8.heap.size ([D.tIn 4 5 2 z]) ([]) _ (D.tConst 2 3 2 ce) (some ⟨q2.heap.size, 0, none⟩) 12 12 _ S21.out.P I3.out (show 5 ≤ 100000 by decide) (by show ce.length ≤ 1000; omega) (show 1 ≤ 1000 by decide)).mono ?_
    rintro e q22 ⟨rfl, hP, hg⟩
    replace I3 := hide (I3.out.apart S21.out.P (by decide) hg)
    replace I4 := hide (I4.out.apart S21.out.P (by decide) hg)
    have S22 := hide (S21.out.mod hP hg)
    clear hP hg S21
    go_wp2_with fail
    refine (mten q8.heap.size ([D.tIn 4 5 2 z] ++ [D.tConst 2 3 2 ce]) ([]) _ (D.tBias 2 bi) (some ⟨q3.heap.size, 0, none⟩) 2 2 _ S22.out.P I4.out (by rw [sizeT_snoc]; show 5 + (5 + 4 * ce.length) ≤ 100000; omega) (by show bi.length ≤ 1000; omega) (show 2 ≤ 1000 by decide)).mono ?_
    rintro e q23 ⟨rfl, hP, hg⟩
    replace I3 := hide (I3.out.apart S22.out.P (by decide) hg)
    replace I4 := hide (I4.out.apart S22.out.P (by decide) hg)
    have S23 := hide (S22.out.mod hP hg)
    clear hP hg S22
    go_wp2_with fail
    refine (mten q8.heap.size ([D.tIn 4 5 2 z] ++ [D.tConst 2 3 2 ce] ++ [D.tBias 2 bi]) ([]) _ (D.tMid 2 2 2 zo) none 0 0 _ S23.out.P (Ints.nil _ _) (by rw [sizeT_snoc, sizeT_snoc]; show 5 + (5 + 4 * ce.length) + (5 + 4 * bi.length) ≤ 100000; omega) (show 0 ≤ 1000 by decide) (show 3 ≤ 1000 by decide)).mono ?_
    rintro e q24 ⟨rfl, hP, hg⟩
    replace I3 := hide (I3.out.apart S23.out.P (by decide) hg)
    replace I4 := hide (I4.out.apart S23.out.P (by decide) hg)
    have S24 := hide (S23.out.mod hP hg)
    clear hP hg S23
    have T1 := hide (S24.out.none (World.grownBy_alloc q24 (.cells #[.int .i64 0, .int .i64 1, .int .i64 2] 3) none))
    replace I3 := hide (I3.out.kept0 (World.grownBy_alloc q24 (.cells #[.int .i64 0, .int .i64 1, .int .i64 2] 3) none))
    replace I4 := hide (I4.out.kept0 (World.grownBy_alloc q24 (.cells #[.int .i64 0, .int .i64 1, .int .i64 2] 3) none))
    have J1 := hide (Ints.of_blk (base := 0) (xs := [0, 1, 2]) (n := 3) (Nat.zero_le _) rfl (by decide) (Blk.new q24 3 #[.int .i64 0, .int .i64 1, .int .i64 2]))
    clear S24
    go_wp2_with fail
    rw [Hns.out]
    rw [Hn1.out]
    refine (mopr q8.heap.size _ [] _ (D.oConv 2 0 1 2 3 3 true ⟨dmult x3, dshift (dnext x3)⟩ (-120) 120) _ (some ⟨q24.heap.size, 0, none⟩) 3 3 _ T1.out.P (fun o ho => absurd ho (by simp)) J1.out rfl (show 9 ≤ 1000 by decide) (show 0 ≤ 100 by decide)).mono ?_
    rintro e q25 ⟨rfl, hP, hg⟩
    replace I3 := hide (I3.out.apart T1.out.P (by decide) hg)
    replace I4 := hide (I4.out.apart T1.out.P (by decide) hg)
    have S25 := hide (T1.out.mod hP hg)
    clear hP hg T1 J1
    have e4 : q25.cell? ⟨q8.heap.size, 4, none⟩ = some (.slice none 0 0) := Blk.cell S25.out.P 4
    have f4 := Blk.free S25.out.P 4
    have hlq : q8.heap.size < q25.heap.size := S25.out.P.lt
    have GS := gr_trans (gr_set q25 q8.heap.size 4 (.slice (some ⟨q25.heap.size, 0, none⟩) 1 1)) (World.grownBy_alloc _ (.cells #[.int .i64 3] 3) (some q8.heap.size))
    have MM : Hid (Mm ((q25.setCell ⟨q8.heap.size, 4, none⟩ (.slice (some ⟨q25.heap.size, 0, none⟩) 1 1)).alloc (.cells #[.int .i64 3] 3)) q8.heap.size (D.mDepth 3 z ce bi zo ⟨dmult x3, dshift (dnext x3)⟩)) := outs_set (v := 3) (m := D.mDepth 3 z ce bi zo ⟨dmult x3, dshift (dnext x3)⟩) S25.out.P rfl rfl rfl HI1.out (by rw [sizeT_snoc, sizeT_snoc, sizeT_snoc]; show 5 + (5 + 4 * ce.length) + (5 + 4 * bi.length) + 5 ≤ 100000; omega) (show 1 ≤ 100 by decide)
    have DD := Blk.kept S25.out.D GS (by have h2 := S25.out.dn; simp; omega)
    have GG := hide (gr_new S25.out.g GS (by have h1 := S25.out.ld; have h2 := S25.out.dn; omega))
    have hdn := S25.out.dn
    replace I3 := hide (I3.out.apart S25.out.P (by decide) GS)
    replace I4 := hide (I4.out.apart S25.out.P (by decide) GS)
    obtain ⟨qa, Hqa⟩ : ∃ qa, Hid (((q25.setCell ⟨q8.heap.size, 4, none⟩ (.slice (some ⟨q25.heap.size, 0, none⟩) 1 1)).alloc (.cells #[.int .i64 3] 3)) = qa) := ⟨_, rfl⟩
    have hqa : q8.heap.size < qa.heap.size := by rw [← Hqa.out]; simp; omega
    rw [Hqa.out] at MM GG I3 I4
    have HDD : Hid (Die qa w.heap.size (dnext (dnext x3))) := by rw [← Hqa.out]; exact DD
    clear S25 GS DD
    obtain ⟨i0, hi, hz0, hz1, hz2⟩ := info_parts Tryz.info3
    go_wp2_with (at_make; rw [Hqa.out]; refine wpList_make_full _ rfl _ _ 33 rfl qa.heap.size 3 i0 (.int .i64 0) 1 Tryz.underlying33 hi hz0 hz1 _ _ _ _ 24 rfl rfl rfl rfl ?c1 ?c2 ?c3 ?_)
    case c1 => rw [hz2]; decide
    case c2 => decide
    case c3 => exact Nat.le_refl _
    intro qm hown hgm
    have BW := made_blk hown
    have BW0 : Blk qm qa.heap.size 3 (pArr ce 0) := by rw [pArr_zero]; exact BW
    have hqm := BW.lt
    clear hown BW hi hz0 hz1 hz2
    go_wp2
    go_loopw [23] (fun v wr => ∃ t : Nat, Hid (t ≤ 6) ∧ v = .int .i64 t ∧ Blk wr qa.heap.size 3 (pArr ce t) ∧ qa.grownBy wr none) (fun v _ => 6 - (intOf v).toNat)
    case atStart => exact ⟨0, (show 0 ≤ 6 by decide), rfl, BW0, hgm⟩
    case round =>
      obtain ⟨t, Ht, rfl, hB, hg⟩ := hrel
      by_cases hlt : t < 6
      · obtain ⟨u, hu⟩ : ∃ u, ce[2 * t]? = some u := ⟨_, List.getElem?_eq_getElem (by omega)⟩
        obtain ⟨v, hv⟩ : ∃ v, ce[2 * t + 1]? = some v := ⟨_, List.getElem?_eq_getElem (by omega)⟩
        obtain ⟨g1, eg, hgcl, -, dc1⟩ := (I3.out.kept0 hg).get (2 * t) u hu
        injection eg with eg
        injection eg with eg _ _
        subst eg
        obtain ⟨g2, eg, -, -, dc2⟩ := (I3.out.kept0 hg).get (2 * t + 1) v hv
        injection eg with eg
        injection eg with eg _ _
        subst eg
        obtain ⟨a0, h0⟩ := pArr_get ce t (4 * t) (by omega)
        obtain ⟨a3, h3⟩ := pArr_get ce t (4 * t + 3) (by omega)
        have cw := hB.cell (4 * t)
        rw [h0] at cw
        have fw := hB.free (4 * t)
        have cw3 := hB.cell (4 * t + 3)
        rw [h3] at cw3
        have fw3 := hB.free (4 * t + 3)
        have hneq : q2.heap.size ≠ qa.heap.size := by have := I3.out.get (2 * t) u hu; obtain ⟨g1, e1, l1, -, -⟩ := this; injection e1 with e1; injection e1 with e1 _ _; subst e1; omega
        have HB2 := hide ((hB.set (4 * t) (.int .i64 u)).set (4 * t + 3) (.int .i64 v))
        rw [pArr_set hlt hu hv] at HB2
        have HG2 := hide (gr_new (gr_new hg (gr_set wr qa.heap.size (4 * t) (.int .i64 u)) (Nat.le_refl _)) (gr_set _ qa.heap.size (4 * t + 3) (.int .i64 v)) (Nat.le_refl _))
        have hqw := hB.lt
        have hd : decide ((t : Int) < 6) = true := decide_eq_true (by omega)
        have x1 : (4 : Int) * t ≤ 20 ∧ (2 : Int) * t ≤ 10 ∧ (t : Int) ≤ 5 := by omega
        obtain ⟨x1, x2, x5⟩ := x1
        have Hlt := hide hlt
        clear hB hg hu hv h0 h3 hlt
        go_wp2
        go_roundw
        case rel => exact ⟨t + 1, (by have := Hlt.out; unfold Hid; omega), by go_num, HB2.out, HG2.out⟩
        case measure => have := Hlt.out; simp [intOf]; omega
      · have et : t = 6 := by have := Ht.out; omega
        have hd : decide ((t : Int) < 6) = false := decide_eq_false (by omega)
        subst et
        clear hlt Ht
        have G90 := hide hg
        have I90 := hide (show Ints wr 0 (.slice (some ⟨qa.heap.size, 0, none⟩) 24 24) (D.deepW ce) by rw [← pList_full]; exact Ints.of_blk (Nat.zero_le _) (pList_len ce 6) (by decide) hB)
        have L90 : (D.deepW ce).length = 24 := by rw [← pList_full]; exact pList_len ce 6
        have hwr : qa.heap.size < wr.heap.size := hB.lt
        have S50 : Hid (S3 w (wr.alloc (.cells #[.string ⟨#[]⟩, .string ⟨#[]⟩, .int .i64 0, .int .i64 0, .slice none 0 0] 81)) w.heap.size (dnext (dnext x3)) q8.heap.size (D.mDepth 3 z ce bi zo ⟨dmult x3, dshift (dnext x3)⟩) wr.heap.size [] [] (.slice none 0 0)) := ⟨gr_trans (gr_trans GG.out hg) (World.grownBy_alloc _ _ _), Blk.alloc (Blk.kept HDD.out hg (by simp)) _, (MM.out.kept0 hg).kept0 (World.grownBy_alloc _ _ _), MP.new wr, Nat.le_refl _, hdn, by omega⟩
        replace I4 := hide ((I4.out.kept0 hg).kept0 (World.grownBy_alloc wr (.cells #[.string ⟨#[]⟩, .string ⟨#[]⟩, .int .i64 0, .int .i64 0, .slice none 0 0] 81) none))
        replace I90 := hide (I90.out.kept0 (World.grownBy_alloc wr (.cells #[.string ⟨#[]⟩, .string ⟨#[]⟩, .int .i64 0, .int .i64 0, .slice none 0 0] 81) none))
        clear hB hg BW0 hgm I3 MM GG HDD
        go_wp2_with fail
        refine (mten wr.heap.size ([]) ([]) _ (D.tIn 4 5 2 z) none 0 0 _ S50.out.P (Ints.nil _ _) (by decide) (show 0 ≤ 1000 by decide) (show 0 ≤ 1000 by decide)).mono ?_
        rintro e q51 ⟨rfl, hP, hg⟩
        replace I4 := hide (I4.out.apart S50.out.P (by decide) hg)
        replace I90 := hide (I90.out.apart S50.out.P (by decide) hg)
        have S51 := hide (S50.out.mod hP hg)
        clear hP hg S50
        go_wp2_with fail
        refine (mten wr.heap.size ([D.tIn 4 5 2 z]) ([]) _ (D.tConst 2 3 4 (D.deepW ce)) (some ⟨qa.heap.size, 0, none⟩) 24 24 _ S51.out.P I90.out (show 5 ≤ 100000 by decide) (by show (D.deepW ce).length ≤ 1000; omega) (show 1 ≤ 1000 by decide)).mono ?_
        rintro e q52 ⟨rfl, hP, hg⟩
        replace I4 := hide (I4.out.apart S51.out.P (by decide) hg)
        replace I90 := hide (I90.out.apart S51.out.P (by decide) hg)
        have S52 := hide (S51.out.mod hP hg)
        clear hP hg S51
        go_wp2_with fail
        refine (mten wr.heap.size ([D.tIn 4 5 2 z] ++ [D.tConst 2 3 4 (D.deepW ce)]) ([]) _ (D.tBias 2 bi) (some ⟨q3.heap.size, 0, none⟩) 2 2 _ S52.out.P I4.out (by rw [sizeT_snoc]; show 5 + (5 + 4 * (D.deepW ce).length) ≤ 100000; omega) (by show bi.length ≤ 1000; omega) (show 2 ≤ 1000 by decide)).mono ?_
        rintro e q53 ⟨rfl, hP, hg⟩
        replace I4 := hide (I4.out.apart S52.out.P (by decide) hg)
        replace I90 := hide (I90.out.apart S52.out.P (by decide) hg)
        have S53 := hide (S52.out.mod hP hg)
        clear hP hg S52
        go_wp2_with fail
        refine (mten wr.heap.size ([D.tIn 4 5 2 z] ++ [D.tConst 2 3 4 (D.deepW ce)] ++ [D.tBias 2 bi]) ([]) _ (D.tMid 2 2 2 zo) none 0 0 _ S53.out.P (Ints.nil _ _) (by rw [sizeT_snoc, sizeT_snoc]; show 5 + (5 + 4 * (D.deepW ce).length) + (5 + 4 * bi.length) ≤ 100000; omega) (show 0 ≤ 1000 by decide) (show 3 ≤ 1000 by decide)).mono ?_
        rintro e q54 ⟨rfl, hP, hg⟩
        replace I4 := hide (I4.out.apart S53.out.P (by decide) hg)
        replace I90 := hide (I90.out.apart S53.out.P (by decide) hg)
        have S54 := hide (S53.out.mod hP hg)
        clear hP hg S53
        have T1 := hide (S54.out.none (World.grownBy_alloc q54 (.cells #[.int .i64 0, .int .i64 1, .int .i64 2] 3) none))
        replace I4 := hide (I4.out.kept0 (World.grownBy_alloc q54 (.cells #[.int .i64 0, .int .i64 1, .int .i64 2] 3) none))
        replace I90 := hide (I90.out.kept0 (World.grownBy_alloc q54 (.cells #[.int .i64 0, .int .i64 1, .int .i64 2] 3) none))
        have J1 := hide (Ints.of_blk (base := 0) (xs := [0, 1, 2]) (n := 3) (Nat.zero_le _) rfl (by decide) (Blk.new q54 3 #[.int .i64 0, .int .i64 1, .int .i64 2]))
        clear S54
        go_wp2_with fail
        rw [← Hn1.out, Hn2.out]
        refine (mopr wr.heap.size _ [] _ (D.oConv 1 0 1 2 3 3 true ⟨dmult x3, dshift (dnext x3)⟩ (-120) 120) _ (some ⟨q54.heap.size, 0, none⟩) 3 3 _ T1.out.P (fun o ho => absurd ho (by simp)) J1.out rfl (show 9 ≤ 1000 by decide) (show 0 ≤ 100 by decide)).mono ?_
        rintro e q55 ⟨rfl, hP, hg⟩
        replace I4 := hide (I4.out.apart T1.out.P (by decide) hg)
        replace I90 := hide (I90.out.apart T1.out.P (by decide) hg)
        have S55 := hide (T1.out.mod hP hg)
        clear hP hg T1 J1
        have e4 : q55.cell? ⟨wr.heap.size, 4, none⟩ = some (.slice none 0 0) := Blk.cell S55.out.P 4
        have f4 := Blk.free S55.out.P 4
        have hlq2 : wr.heap.size < q55.heap.size := S55.out.P.lt
        have GS := gr_trans (gr_set q55 wr.heap.size 4 (.slice (some ⟨q55.heap.size, 0, none⟩) 1 1)) (World.grownBy_alloc _ (.cells #[.int .i64 3] 3) (some wr.heap.size))
        have MN : Hid (Mm ((q55.setCell ⟨wr.heap.size, 4, none⟩ (.slice (some ⟨q55.heap.size, 0, none⟩) 1 1)).alloc (.cells #[.int .i64 3] 3)) wr.heap.size (D.mDeep 3 z ce bi zo ⟨dmult x3, dshift (dnext x3)⟩)) := outs_set (v := 3) (m := D.mDeep 3 z ce bi zo ⟨dmult x3, dshift (dnext x3)⟩) S55.out.P rfl rfl rfl HI2.out (by rw [sizeT_snoc, sizeT_snoc, sizeT_snoc]; show 5 + (5 + 4 * (D.deepW ce).length) + (5 + 4 * bi.length) + 5 ≤ 100000; omega) (show 1 ≤ 100 by decide)
        have MM := hide (S55.out.M.apart S55.out.P (by decide) (by have h4 := S55.out.bn; omega) GS)
        have DD := Blk.kept S55.out.D GS (by have h2 := S55.out.db; have h3 := S55.out.bn; simp; omega)
        have ndb : w.heap.size ≠ q8.heap.size ∧ w.heap.size ≠ wr.heap.size := by have h2 := S55.out.db; have h3 := S55.out.bn; omega
        have HGG := hide (gr_new S55.out.g GS (by have h1 := S55.out.ld; have h2 := S55.out.db; have h3 := S55.out.bn; omega))
        obtain ⟨qz, Hqz⟩ : ∃ qz, Hid (((q55.setCell ⟨wr.heap.size, 4, none⟩ (.slice (some ⟨q55.heap.size, 0, none⟩) 1 1)).alloc (.cells #[.int .i64 3] 3)) = qz) := ⟨_, rfl⟩
        rw [Hqz.out] at MN MM HGG
        have HDD : Hid (Die qz w.heap.size (dnext (dnext x3))) := by rw [← Hqz.out]; exact DD
        clear S55 GS DD
        go_wp2_with fail
        rw [Hqz.out]
        refine (dcells_c w.heap.size (dnext (dnext x3)) 40 qz HDD.out R6.1 R6.2 (by decide)).mono ?_
        rintro e qb ⟨rfl, hI, hD, hg⟩
        have LI := hide (one_list (hI.mono (Nat.zero_le _)))
        have MMb := hide ((MM.out.apart HDD.out (by decide) (by omega) hg).kept0 (World.grownBy_alloc _ (.cells #[.slice (some ⟨qz.heap.size, 0, none⟩) 40 40] 33) none))
        have MNb := hide ((MN.out.apart HDD.out (by decide) (by omega) hg).kept0 (World.grownBy_alloc _ (.cells #[.slice (some ⟨qz.heap.size, 0, none⟩) 40 40] 33) none))
        have GGb := hide (gr_trans (gr_new HGG.out hg (Nat.le_refl _)) (World.grownBy_alloc _ (.cells #[.slice (some ⟨qz.heap.size, 0, none⟩) 40 40] 33) none))
        have Hcl := hide (dcells_ok 40 (dnext (dnext x3)))
        have Hll := hide (dcells_len 40 (dnext (dnext x3)))
        clear hI hD hg MM MN HGG
        obtain ⟨xs, Hxs⟩ : ∃ xs, Hid ((dcells 40 (dnext (dnext x3))).1 = xs) := ⟨_, rfl⟩
        rw [Hxs.out] at LI Hcl Hll
        go_wp2_with fail
        refine (alike_m q8.heap.size wr.heap.size _ _ (some ⟨qb.heap.size, 0, none⟩) 1 1 [xs] _ MMb.out MNb.out LI.out (by intro l hl; simp at hl; subst hl; rw [Hll.out]; decide) (show 1 ≤ 9223372036854775807 by decide) (in_hold _ xs 40 rfl Hll.out Hcl.out) (in_hold _ xs 40 rfl Hll.out Hcl.out) (HAL.out xs)).mono ?_
        rintro e qc ⟨rfl, hg⟩
        have GF := hide (gr_trans GGb.out hg)
        clear hg
        go_wp2
        go_ret
        exact ⟨rfl, GF.out⟩

theorem depthL_c (a0 a1 a2 : Int) (w : World) (ha : -9223372036854775808 ≤ a0) (hb : a0 ≤ 9223372036854775807) (hc : -9223372036854775808 ≤ a1) (he : a1 ≤ 9223372036854775807) :
    Calls Tryz.prog 12 #[.int .i64 a0, .int .i64 a1, .int .i64 a2] w fun e w' => e = .returned (.bool true) ∧ w.grownBy w' none := by
  have h0 : 0 ≤ pickOf a1 3 := Int.emod_nonneg _ (by decide)
  have h3 : pickOf a1 3 < 3 := Int.emod_lt_of_pos _ (by decide)
  have HC : Hid (Calls Tryz.prog 28 #[.int .i64 a0, .int .i64 a1] w fun e w' => e = .returned (.bool true) ∧ w.grownBy w' none) := by
    rcases (show pickOf a1 3 = 0 ∨ pickOf a1 3 = 1 ∨ pickOf a1 3 = 2 by omega) with h | h | h
    · exact deeply0_c a0 a1 w ha hb hc he h
    · exact deeply1_c a0 a1 w ha hb hc he h
    · exact deeply2_c a0 a1 w ha hb hc he h
  clear h0 h3
  go_enter Tryz.func12, Tryz.ntmps12
  go_wp2_with fail
  refine HC.out.mono ?_
  rintro e w1 ⟨rfl, hg1⟩
  go_wp2
  go_ret
  exact ⟨rfl, hg1⟩

end Go.Proofs.YtcnhfffgbamonaaGreat
