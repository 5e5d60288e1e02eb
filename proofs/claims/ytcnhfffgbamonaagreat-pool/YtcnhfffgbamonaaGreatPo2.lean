/-
  The law Pool: the greatest, and the mean.
-/
import Derived.Test.YtcnhfffgbamonaaGreatPoA
namespace Go.Proofs.YtcnhfffgbamonaaGreat
open Go.RowKit Go.Sort

set_option maxRecDepth 100000 in
set_option maxHeartbeats 1600000 in
theorem pools_c (a b c : Int) (w : World) (ha : -9223372036854775808 ≤ a) (hb : a ≤ 9223372036854775807) (ka : -9223372036854775808 ≤ b) (kb : b ≤ 9223372036854775807) (la : -9223372036854775808 ≤ c) (lb : c ≤ 9223372036854775807) :
    Calls Tryz.prog 30 #[.int .i64 a, .int .i64 b, .int .i64 c] w fun e w' => e = .returned (.bool true) ∧ w.grownBy w' none := by
  obtain ⟨x0, Hx⟩ : ∃ x, Hid (pickOf a 2147483648 = x) := ⟨_, rfl⟩
  have R0 : 0 ≤ x0 ∧ x0 < 2147483648 := by rw [← Hx.out]; exact ⟨Int.emod_nonneg _ (by decide), Int.emod_lt_of_pos _ (by decide)⟩
  have HR0 := hide R0
  clear R0
  go_enter Tryz.func30, Tryz.ntmps30
  go_wp2_with fail
  refine (seeded_c a w ha hb).mono ?_
  rintro e q0 ⟨rfl, D0, g0⟩
  rw [Hx.out] at D0
  have l0 := Blk.lt D0
  have HD0 := hide D0
  have HG0 := hide g0
  clear D0 g0
  have hp := hide (show 0 ≤ pickOf b 3 ∧ pickOf b 3 < 3 from ⟨Int.emod_nonneg _ (by decide), Int.emod_lt_of_pos _ (by decide)⟩)
  have ht := hide (show 0 ≤ pickOf c 3 ∧ pickOf c 3 < 3 from ⟨Int.emod_nonneg _ (by decide), Int.emod_lt_of_pos _ (by decide)⟩)
  go_wp2_with fail
  refine (pick_c b 3 _ ka kb (by decide) (by decide)).mono ?_
  rintro e q1 ⟨rfl, rfl⟩
  generalize pickOf b 3 = p at *
  have hp0 := hp.out.1
  have hp1 := hp.out.2
  go_wp2_with fail
  refine (pick_c c 3 _ la lb (by decide) (by decide)).mono ?_
  rintro e q1 ⟨rfl, rfl⟩
  generalize pickOf c 3 = t at *
  have ht0 := ht.out.1
  have ht1 := ht.out.2
  have HZ : Hid (PSz 4 5 (1 + p) (1 + t)) := .inl ⟨rfl, rfl, by omega, by omega⟩
  go_wp2_with fail
  obtain ⟨n, Hn⟩ : ∃ n, Hid (1 + p = n) := ⟨_, rfl⟩
  obtain ⟨s, Hs⟩ : ∃ s, Hid (1 + t = s) := ⟨_, rfl⟩
  rw [Hn.out, Hs.out] at HZ ⊢
  clear hp0 hp1 ht0 ht1 Hn Hs hp ht
  refine (pooled_c 5 4 5 n s (.inl rfl) HZ.out _).mono ?_
  rintro e q2 ⟨rfl, M2, g2⟩
  have HM2 := hide M2
  have HD2 := hide (Blk.kept HD0.out g2 (by simp))
  have HG2 := hide (gr_trans HG0.out g2)
  have l2 : q1.heap.size < q2.heap.size := by obtain ⟨ts, ops, nt, no, aa, nn, cc, h, -⟩ := M2.at_; exact Blk.lt h
  clear M2 g2 HG0 HD0
  go_wp2_with fail
  refine (pooled_c 6 4 5 n s (.inr rfl) HZ.out _).mono ?_
  rintro e q3 ⟨rfl, M3, g3⟩
  have HM3 := hide M3
  have HN3 := hide (HM2.out.kept0 g3)
  have HD3 := hide (Blk.kept HD2.out g3 (by simp))
  have HG3 := hide (gr_trans HG2.out g3)
  have l3 : q2.heap.size < q3.heap.size := by obtain ⟨ts, ops, nt, no, aa, nn, cc, h, -⟩ := M3.at_; exact Blk.lt h
  clear M3 g3 HG2 HD2 HM2
  go_wp2_with fail
  refine (dcells_c w.heap.size x0 40 q3 HD3.out HR0.out.1 HR0.out.2 (by decide)).mono ?_
  rintro e q4 ⟨rfl, hI, hD, hg⟩
  have HX4 := hide (pints_blk hI)
  have HI4 := hide hI
  have HD4 := hide hD
  have HG4 := hide hg
  have Hcl := hide (dcells_ok 40 x0)
  have Hll := hide (dcells_len 40 x0)
  have HR4 := hide (dcells_range 40 x0 HR0.out.1 HR0.out.2)
  clear hI hD hg
  obtain ⟨xs, Hxs⟩ : ∃ xs, Hid ((dcells 40 x0).1 = xs) := ⟨_, rfl⟩
  obtain ⟨x4, Hx4⟩ : ∃ x, Hid ((dcells 40 x0).2 = x) := ⟨_, rfl⟩
  rw [Hxs.out] at HX4 HI4 Hcl Hll
  rw [Hx4.out] at HD4 HR4
  go_wp2_with fail
  have HA4 := hide (gr_trans HG4.out (World.grownBy_alloc q4 (.cells #[.slice (some ⟨q3.heap.size, 0, none⟩) 40 40] 33) (some w.heap.size)))
  obtain ⟨u, v, hu, hv, hvl, hul, hall⟩ := D.pool_run2 n s HZ.out xs
  have HU := hide hu
  have HV := hide hv
  have HVL := hide hvl
  have HALL := hide hall
  have HIH5 := hide (in_hold (D.mPool 5 4 5 n s) xs 40 rfl Hll.out Hcl.out)
  have HIH6 := hide (in_hold (D.mPool 6 4 5 n s) xs 40 rfl Hll.out Hcl.out)
  clear hu hv hvl hall
  refine (outputs_c q1.heap.size (D.mPool 5 4 5 n s) (some ⟨q4.heap.size, 0, none⟩) 1 1 [xs] _ (HN3.out.apart HD3.out (by decide) (by omega) HA4.out) (one_list (HI4.out.mono (Nat.zero_le _))) (by intro l hl; simp at hl; subst hl; rw [Hll.out]; decide) (show 1 ≤ 9223372036854775807 by decide) HIH5.out).mono ?_
  rintro e q5 ⟨⟨gu, rfl, hL⟩, hg⟩
  rw [HU.out] at hL
  have HA5 := hide (gr_trans HA4.out (gr_none hg))
  have HL5 := hide (show Lists q5 _ (.slice (some ⟨gu, 0, none⟩) 1 1) [u] from hL)
  have HI5 := hide ((HI4.out.kept0 (World.grownBy_alloc q4 (.cells #[.slice (some ⟨q3.heap.size, 0, none⟩) 40 40] 33) none)).kept0 hg)
  have HD5 := hide (Blk.kept (Blk.alloc HD4.out (.cells #[.slice (some ⟨q3.heap.size, 0, none⟩) 40 40] 33)) hg (by simp))
  have hol : (D.mPool 5 4 5 n s).outs.length = 1 := rfl
  rw [hol]
  clear hol hL hg HI4 HD4 HG4 HA4
  go_wp2_with fail
  have HA6 := hide (gr_trans HA5.out (World.grownBy_alloc q5 (.cells #[.slice (some ⟨q3.heap.size, 0, none⟩) 40 40] 33) (some w.heap.size)))
  refine (outputs_c q2.heap.size (D.mPool 6 4 5 n s) (some ⟨q5.heap.size, 0, none⟩) 1 1 [xs] _ (HM3.out.apart HD3.out (by decide) (by omega) HA6.out) (one_list (HI5.out.mono (Nat.zero_le _))) (by intro l hl; simp at hl; subst hl; rw [Hll.out]; decide) (show 1 ≤ 9223372036854775807 by decide) HIH6.out).mono ?_
  rintro e q6 ⟨⟨gv, rfl, hL⟩, hg⟩
  rw [HV.out] at hL
  have g56 := gr_trans (World.grownBy_alloc q5 (.cells #[.slice (some ⟨q3.heap.size, 0, none⟩) 40 40] 33) none) hg
  have HA7 := hide (gr_trans HA6.out (gr_none hg))
  have HLv := hide (show Lists q6 _ (.slice (some ⟨gv, 0, none⟩) 1 1) [v] from hL)
  have HLu := hide (HL5.out.kept0 g56)
  have HI6 := hide (HI5.out.kept0 g56)
  have HD6 := hide (Blk.kept HD5.out g56 (by simp))
  have hol : (D.mPool 6 4 5 n s).outs.length = 1 := rfl
  rw [hol]
  clear hol hL hg g56 HI5 HD5 HA5 HA6 HL5
  obtain ⟨g1, au, cu, e1, -, du, Iu⟩ := HLu.out.get 0 u rfl
  injection e1 with e1
  injection e1 with e1 _ _
  subst e1
  obtain ⟨g1, av, cv, e1, -, dv, Iv⟩ := HLv.out.get 0 v rfl
  injection e1 with e1
  injection e1 with e1 _ _
  subst e1
  obtain ⟨L, HL⟩ : ∃ L, Hid (u.length = L) := ⟨_, rfl⟩
  rw [HVL.out] at dv Iv
  rw [HL.out] at du dv Iu Iv hul
  have HIu := hide Iu
  have HIv := hide Iv
  have HDu := hide du
  have HDv := hide dv
  have hLL : ((L : Int) == L) = true := by simp
  clear Iu Iv
  go_wp2
  go_quiet (fail)
  have g67 := gr_drewN q6 nq none
  generalize q6.drewN nq = q7 at *
  have HA8 := hide (gr_trans HA7.out (gr_none g67))
  have HD7 := hide (Blk.kept HD6.out g67 (by simp))
  have HX7 := hide (pints_blk (HI6.out.kept0 g67))
  have Hu7 := hide (cell_kept g67 HDu.out)
  have Hv7 := hide (cell_kept g67 HDv.out)
  have HIu7 := hide (HIu.out.kept0 g67)
  have HIv7 := hide (HIv.out.kept0 g67)
  clear g67 du dv HA7 HD6 HI6 HDu HDv HIu HIv HLu HLv HX4
  go_wp2
  go_loopw [15] (fun i wr => ∃ k : Nat, k ≤ L ∧ i = .int .i64 k ∧ q7.grownBy wr none) (fun i _ => L - (intOf i).toNat)
  case atStart => exact ⟨0, Nat.zero_le _, rfl, World.grownBy.refl _ _⟩
  case round =>
    obtain ⟨k, hk, rfl, hgk⟩ := hrel
    have du := cell_kept hgk Hu7.out
    have dv := cell_kept hgk Hv7.out
    by_cases hlt : k < L
    · have hku : u[k]? = some (D.get u k) := D.some_get (by rw [HL.out]; exact hlt)
      have hkv : v[k]? = some (D.get v k) := D.some_get (by rw [HVL.out, HL.out]; exact hlt)
      obtain ⟨g1, e1, -, -, d1⟩ := (HIu7.out.kept0 hgk).get k _ hku
      obtain ⟨g2, e2, -, -, d2⟩ := (HIv7.out.kept0 hgk).get k _ hkv
      have hal := HALL.out k (by rw [HL.out]; exact hlt)
      generalize D.get u k = fu at *
      generalize D.get v k = fv at *
      subst e1 e2
      have hf1 : decide (fu < fv) = false := decide_eq_false (by omega)
      have HGk := hide hgk
      clear hku hkv hgk
      by_cases hn : n = 1
      · have hf2 : (n == 1) = true := by rw [hn]; rfl
        have hf3 : (fu != fv) = false := by rw [hal.2 hn]; simp
        clear hal hn
        go_wp2
        go_quiet (fail)
        have HG2 := hide (gr_trans HGk.out (gr_drewN _ nq none))
        clear du dv d1 d2 hf1 hf2 HGk
        generalize wr.drewN nq = wq at *
        go_wp2
        go_roundw
        case rel => exact ⟨k + 1, by omega, by go_num, HG2.out⟩
        case measure => simp [intOf]; omega
      · have hf2 : (n == 1) = false := by simp; exact hn
        clear hal hn
        go_wp2
        go_quiet (fail)
        have HG2 := hide (gr_trans HGk.out (gr_drewN _ nq none))
        clear du dv d1 d2 hf1 hf2 HGk
        generalize wr.drewN nq = wq at *
        go_wp2
        go_roundw
        case rel => exact ⟨k + 1, by omega, by go_num, HG2.out⟩
        case measure => simp [intOf]; omega
    · obtain rfl : k = L := by omega
      have HA9 := hide (gr_trans HA8.out (gr_none hgk))
      have HD9 := hide (Blk.kept HD7.out hgk (by simp))
      have HX9 := hide (HX7.out.kept hgk (by simp))
      clear hlt hgk HA8 HD7 HX7 Hu7 Hv7 HIu7 HIv7
      go_wp2_with fail
      refine (under_c w.heap.size x4 256 wr HD9.out HR4.out.1 HR4.out.2 (by decide) (by decide)).mono ?_
      rintro e qa ⟨rfl, hD, hg⟩
      have HAa := hide (gr_trans HA9.out hg)
      have HDa := hide hD
      have HXa := hide (HX9.out.kept hg (by simp; omega))
      have hkr : 0 ≤ dunder x4 256 ∧ dunder x4 256 < 256 := ⟨Int.emod_nonneg _ (by decide), Int.emod_lt_of_pos _ (by decide)⟩
      have HRa := hide (dnext_range x4)
      generalize dunder x4 256 = kk at *
      generalize dnext x4 = xa at *
      obtain ⟨kk0, kk1⟩ := hkr
      clear hD hg HA9 HD9 HX9 HR4 du dv
      go_wp2
      go_loopw [17] (fun i wr => ∃ j : Nat, Hid (j ≤ 40) ∧ i = .int .i64 j ∧ Hid (Blk wr q3.heap.size 3 ((List.replicate j (kk - 128) ++ xs.drop j).map (Value.int .i64)).toArray) ∧ qa.grownBy wr (some q3.heap.size)) (fun i _ => 40 - (intOf i).toNat)
      case atStart => exact ⟨0, (show 0 ≤ 40 by decide), rfl, HXa.out, World.grownBy.refl _ _⟩
      case round =>
        obtain ⟨j, Hj, rfl, HB, hgj⟩ := hrel
        by_cases hlt : j < 40
        · have hd : decide ((j : Int) < 40) = true := decide_eq_true (by omega)
          have hj7 : (j : Int) ≤ 39 := by omega
          obtain ⟨y, hy⟩ : ∃ y, (List.replicate j (kk - 128) ++ xs.drop j)[j]? = some y := ⟨_, List.getElem?_eq_getElem (by have := Hll.out; simp; omega)⟩
          have cG : wr.cell? ⟨q3.heap.size, j, none⟩ = some (.int .i64 y) := by rw [HB.out.cell j, List.getElem?_toArray, List.getElem?_map, hy]; rfl
          have fG := HB.out.free j
          have hbl := HB.out.lt
          have HB2 : Hid (Blk (wr.setCell ⟨q3.heap.size, j, none⟩ (.int .i64 (kk - 128))) q3.heap.size 3 ((List.replicate (j + 1) (kk - 128) ++ xs.drop (j + 1)).map (Value.int .i64)).toArray) := by
            have e := HB.out.set j (.int .i64 (kk - 128))
            rw [fill_step _ _ _ (by rw [Hll.out]; exact hlt)] at e
            exact e
          have HG2 := hide (gr_trans hgj (gr_set wr q3.heap.size j (.int .i64 (kk - 128))))
          have Hlt := hide hlt
          clear hgj hlt hy
          go_wp2
          go_roundw
          case rel => exact ⟨j + 1, (by have := Hlt.out; unfold Hid; omega), by go_num, HB2.out, HG2.out⟩
          case measure => have := Hlt.out; simp [intOf]; omega
        · have hd : decide ((j : Int) < 40) = false := decide_eq_false (by omega)
          obtain rfl : j = 40 := by have := Hj.out; omega
          obtain ⟨ys, Hys⟩ : ∃ ys, Hid (List.replicate 40 (kk - 128) = ys) := ⟨_, rfl⟩
          have HXb : Hid (Blk wr q3.heap.size 3 (ys.map (Value.int .i64)).toArray) := by
            have e := HB.out
            rw [List.drop_eq_nil_of_le (by rw [Hll.out]; exact Nat.le_refl _), List.append_nil, Hys.out] at e
            exact e
          have Hyl : Hid (ys.length = 40) := by rw [← Hys.out]; simp [Hid]
          have Hyc : Hid (D.Cells ys) := by
            rw [← Hys.out]
            intro v hv
            have := List.eq_of_mem_replicate hv
            omega
          have HIb := hide (Ints.of_blk (base := 0) (xs := ys) (n := 40) (Nat.zero_le _) Hyl.out (by decide) HXb.out)
          have HAb := hide (gr_new HAa.out hgj (Nat.le_refl _))
          have HDb := hide (Blk.kept HDa.out hgj (by simp; omega))
          obtain ⟨u2, v2, hu, hv, hvl, hul2, hall⟩ := D.pool_like2 n s (kk - 128) HZ.out (by omega)
          rw [Hys.out] at hu hv
          have HU2 := hide hu
          have HV2 := hide hv
          have HVL2 := hide hvl
          have HALL2 := hide hall
          have HIH52 := hide (in_hold (D.mPool 5 4 5 n s) ys 40 rfl Hyl.out Hyc.out)
          have HIH62 := hide (in_hold (D.mPool 6 4 5 n s) ys 40 rfl Hyl.out Hyc.out)
          clear hu hv hvl hall hlt HB hgj HAa HDa HXa HXb HU HV HALL HIH5 HIH6
          have HA4 := hide (gr_trans HAb.out (World.grownBy_alloc wr (.cells #[.slice (some ⟨q3.heap.size, 0, none⟩) 40 40] 33) (some w.heap.size)))
          go_wp2_with fail
          refine (outputs_c q1.heap.size (D.mPool 5 4 5 n s) (some ⟨wr.heap.size, 0, none⟩) 1 1 [ys] _ (HN3.out.apart HD3.out (by decide) (by omega) HA4.out) (one_list HIb.out) (by intro l hl; simp at hl; subst hl; rw [Hyl.out]; decide) (show 1 ≤ 9223372036854775807 by decide) HIH52.out).mono ?_
          rintro e qc ⟨⟨gu2, rfl, hL⟩, hg⟩
          rw [HU2.out] at hL
          have g45 := gr_trans (World.grownBy_alloc wr (.cells #[.slice (some ⟨q3.heap.size, 0, none⟩) 40 40] 33) none) hg
          have HA5 := hide (gr_trans HA4.out (gr_none hg))
          have HL5 := hide (show Lists qc _ (.slice (some ⟨gu2, 0, none⟩) 1 1) [u2] from hL)
          have HI5 := hide (HIb.out.kept0 g45)
          have HD5 := hide (Blk.kept HDb.out g45 (by simp))
          have hol : (D.mPool 5 4 5 n s).outs.length = 1 := rfl
          rw [hol]
          clear hol hL hg g45 HIb HDb HAb HA4
          go_wp2_with fail
          have HA6 := hide (gr_trans HA5.out (World.grownBy_alloc qc (.cells #[.slice (some ⟨q3.heap.size, 0, none⟩) 40 40] 33) (some w.heap.size)))
          refine (outputs_c q2.heap.size (D.mPool 6 4 5 n s) (some ⟨qc.heap.size, 0, none⟩) 1 1 [ys] _ (HM3.out.apart HD3.out (by decide) (by omega) HA6.out) (one_list HI5.out) (by intro l hl; simp at hl; subst hl; rw [Hyl.out]; decide) (show 1 ≤ 9223372036854775807 by decide) HIH62.out).mono ?_
          rintro e qd ⟨⟨gv2, rfl, hL⟩, hg⟩
          rw [HV2.out] at hL
          have g56 := gr_trans (World.grownBy_alloc qc (.cells #[.slice (some ⟨q3.heap.size, 0, none⟩) 40 40] 33) none) hg
          have HA7 := hide (gr_trans HA6.out (gr_none hg))
          have HLv := hide (show Lists qd _ (.slice (some ⟨gv2, 0, none⟩) 1 1) [v2] from hL)
          have HLu := hide (HL5.out.kept0 g56)
          have HD6 := hide (Blk.kept HD5.out g56 (by simp))
          have hol : (D.mPool 6 4 5 n s).outs.length = 1 := rfl
          rw [hol]
          clear hol hL hg g56 HI5 HD5 HA5 HA6 HL5
          obtain ⟨g1, au, cu, e1, -, du, Iu⟩ := HLu.out.get 0 u2 rfl
          injection e1 with e1
          injection e1 with e1 _ _
          subst e1
          obtain ⟨g1, av, cv, e1, -, dv, Iv⟩ := HLv.out.get 0 v2 rfl
          injection e1 with e1
          injection e1 with e1 _ _
          subst e1
          obtain ⟨N, HN⟩ : ∃ N, Hid (u2.length = N) := ⟨_, rfl⟩
          rw [HVL2.out] at dv Iv
          rw [HN.out] at du dv Iu Iv hul2
          have HIu := hide Iu
          have HIv := hide Iv
          have HDu := hide du
          have HDv := hide dv
          have hNN : ((N : Int) == N) = true := by simp
          clear Iu Iv
          go_wp2
          go_quiet (fail)
          have g67 := gr_drewN qd nq none
          generalize qd.drewN nq = qe at *
          have HA8 := hide (gr_trans HA7.out (gr_none g67))
          have HD7 := hide (Blk.kept HD6.out g67 (by simp))
          have Hu7 := hide (cell_kept g67 HDu.out)
          have Hv7 := hide (cell_kept g67 HDv.out)
          have HIu7 := hide (HIu.out.kept0 g67)
          have HIv7 := hide (HIv.out.kept0 g67)
          clear g67 du dv HA7 HD6 HDu HDv HIu HIv HLu HLv
          go_wp2
          go_loopw [18] (fun i wr => ∃ k : Nat, k ≤ N ∧ i = .int .i64 k ∧ qe.grownBy wr none) (fun i _ => N - (intOf i).toNat)
          case atStart => exact ⟨0, Nat.zero_le _, rfl, World.grownBy.refl _ _⟩
          case round =>
            obtain ⟨k, hk, rfl, hgk⟩ := hrel
            have du := cell_kept hgk Hu7.out
            have dv := cell_kept hgk Hv7.out
            by_cases hlt : k < N
            · have hku : u2[k]? = some (D.get u2 k) := D.some_get (by rw [HN.out]; exact hlt)
              have hkv : v2[k]? = some (D.get v2 k) := D.some_get (by rw [HVL2.out, HN.out]; exact hlt)
              have hal := HALL2.out k (by rw [HN.out]; exact hlt)
              rw [hal.1] at hku
              rw [hal.2] at hkv
              obtain ⟨g1, e1, -, -, d1⟩ := (HIu7.out.kept0 hgk).get k _ hku
              obtain ⟨g2, e2, -, -, d2⟩ := (HIv7.out.kept0 hgk).get k _ hkv
              subst e1 e2
              have hf1 : (kk - 128 != kk - 128) = false := by simp
              have HGk := hide hgk
              clear hku hkv hgk hal
              go_wp2
              go_roundw
              case rel => exact ⟨k + 1, by omega, by go_num, HGk.out⟩
              case measure => simp [intOf]; omega
            · obtain rfl : k = N := by omega
              have HA9 := hide (gr_trans HA8.out (gr_none hgk))
              have HD9 := hide (Blk.kept HD7.out hgk (by simp))
              clear hlt hgk HA8 HD7 Hu7 Hv7 HIu7 HIv7
              go_wp2_with fail
              have HW := hide (gr_new HG3.out HA9.out (Nat.le_refl _))
              clear HA9 HG3 HD3 HN3 HM3 du dv HU2 HV2 HALL2 HIH52 HIH62
              refine (pooled_c 6 2 2 2 1 (.inr rfl) (.inr ⟨rfl, rfl, rfl, rfl⟩) wr).mono ?_
              rintro e r1 ⟨rfl, M1, g1⟩
              have hr1 : wr.heap.size < r1.heap.size := by obtain ⟨ts, ops, nt, no, aa, nn, cc, h, -⟩ := M1.at_; exact Blk.lt h
              have HM1 := hide M1
              have HD1 := hide (Blk.kept HD9.out g1 (by simp))
              have HW1 := hide (gr_trans HW.out g1)
              have hol : (D.mPool 6 2 2 2 1).outs.length = 1 := rfl
              have Hol := hide hol
              clear M1 g1 HD9 HW hol
              go_wp2_with fail
              have Gp := gr_alloc2 r1 (.cells #[.int .i64 1, .int .i64 (-1), .int .i64 2, .int .i64 (-2), .int .i64 2, .int .i64 (-2), .int .i64 2, .int .i64 (-2)] 3) (.cells #[.slice (some ⟨r1.heap.size, 0, none⟩) 8 8] 33) none
              refine (outputs_c wr.heap.size (D.mPool 6 2 2 2 1) (some ⟨r1.heap.size + 1, 0, none⟩) 1 1 [[1, -1, 2, -2, 2, -2, 2, -2]] _ (HM1.out.kept0 Gp) (lit_list r1 [1, -1, 2, -2, 2, -2, 2, -2] 8 rfl (by decide)) (by intro l hl; simp at hl; subst hl; decide) (show 1 ≤ 9223372036854775807 by decide) (by decide)).mono ?_
              rintro e r2 ⟨⟨gp, rfl, hL⟩, hg⟩
              rw [D.pool_known.1] at hL
              have gg := gr_trans Gp hg
              have HM2 := hide (HM1.out.kept0 gg)
              have HD2 := hide (Blk.kept HD1.out gg (by simp))
              have HW2 := hide (gr_trans HW1.out gg)
              rw [Hol.out]
              have HLp2 := hide (show Lists r2 0 (.slice (some ⟨gp, 0, none⟩) 1 1) [[2, -2]] from (by rw [Hol.out] at hL; exact hL.mono (Nat.zero_le _)))
              clear hL hg gg Gp HM1 HD1 HW1
              go_wp2_with fail
              have Gq := gr_alloc2 r2 (.cells #[.int .i64 0, .int .i64 0, .int .i64 1, .int .i64 (-1), .int .i64 0, .int .i64 0, .int .i64 1, .int .i64 (-1)] 3) (.cells #[.slice (some ⟨r2.heap.size, 0, none⟩) 8 8] 33) none
              refine (outputs_c wr.heap.size (D.mPool 6 2 2 2 1) (some ⟨r2.heap.size + 1, 0, none⟩) 1 1 [[0, 0, 1, -1, 0, 0, 1, -1]] _ (HM2.out.kept0 Gq) (lit_list r2 [0, 0, 1, -1, 0, 0, 1, -1] 8 rfl (by decide)) (by intro l hl; simp at hl; subst hl; decide) (show 1 ≤ 9223372036854775807 by decide) (by decide)).mono ?_
              rintro e r3 ⟨⟨gq, rfl, hL⟩, hg⟩
              rw [D.pool_known.2.1] at hL
              have gg := gr_trans Gq hg
              have HM3 := hide (HM2.out.kept0 gg)
              have HD3 := hide (Blk.kept HD2.out gg (by simp))
              have HW3 := hide (gr_trans HW2.out gg)
              rw [Hol.out]
              have HLq3 := hide (show Lists r3 0 (.slice (some ⟨gq, 0, none⟩) 1 1) [[1, -1]] from (by rw [Hol.out] at hL; exact hL.mono (Nat.zero_le _)))
              have HLp3 := hide (HLp2.out.kept0 gg)
              clear hL hg gg Gq HM2 HD2 HW2 HLp2
              go_wp2_with fail
              have Gr := gr_alloc2 r3 (.cells #[.int .i64 1, .int .i64 (-1), .int .i64 0, .int .i64 0, .int .i64 0, .int .i64 0, .int .i64 0, .int .i64 0] 3) (.cells #[.slice (some ⟨r3.heap.size, 0, none⟩) 8 8] 33) none
              refine (outputs_c wr.heap.size (D.mPool 6 2 2 2 1) (some ⟨r3.heap.size + 1, 0, none⟩) 1 1 [[1, -1, 0, 0, 0, 0, 0, 0]] _ (HM3.out.kept0 Gr) (lit_list r3 [1, -1, 0, 0, 0, 0, 0, 0] 8 rfl (by decide)) (by intro l hl; simp at hl; subst hl; decide) (show 1 ≤ 9223372036854775807 by decide) (by decide)).mono ?_
              rintro e r4 ⟨⟨gr, rfl, hL⟩, hg⟩
              rw [D.pool_known.2.2] at hL
              have gg := gr_trans Gr hg
              have HM4 := hide (HM3.out.kept0 gg)
              have HD4 := hide (Blk.kept HD3.out gg (by simp))
              have HW4 := hide (gr_trans HW3.out gg)
              rw [Hol.out]
              have HLr4 := hide (show Lists r4 0 (.slice (some ⟨gr, 0, none⟩) 1 1) [[0, 0]] from (by rw [Hol.out] at hL; exact hL.mono (Nat.zero_le _)))
              have HLp4 := hide (HLp3.out.kept0 gg)
              have HLq4 := hide (HLq3.out.kept0 gg)
              clear hL hg gg Gr HM3 HD3 HW3 HLp3 HLq3
              clear HM4
              obtain ⟨g1, ap, cp, e1, -, dp, Ip⟩ := HLp4.out.get 0 [2, -2] rfl
              injection e1 with e1
              injection e1 with e1 _ _
              subst e1
              have HpI := hide Ip
              have HpD := hide dp
              clear Ip
              obtain ⟨g1, aq, cq, e1, -, dq, Iq⟩ := HLq4.out.get 0 [1, -1] rfl
              injection e1 with e1
              injection e1 with e1 _ _
              subst e1
              have HqI := hide Iq
              have HqD := hide dq
              clear Iq
              obtain ⟨g1, ar, cr, e1, -, dr, Ir⟩ := HLr4.out.get 0 [0, 0] rfl
              injection e1 with e1
              injection e1 with e1 _ _
              subst e1
              have HrI := hide Ir
              have HrD := hide dr
              clear Ir
              clear HLp4 HLq4 HLr4
              go_wp2_with fail
              have Gs := World.grownBy_alloc r4 (.cells #[.int .i64 2, .int .i64 (-2)] 3) none
              refine (same_c 0 0 ap (some ⟨r4.heap.size, 0, none⟩) 2 cp 2 2 [2, -2] [2, -2] _ (HpI.out.kept0 Gs) (Ints.of_blk (xs := [2, -2]) (Nat.zero_le _) rfl (by decide) (Blk.new r4 3 _)) (by decide) (by decide)).mono ?_
              rintro e r5 ⟨rfl, hg⟩
              have gg := gr_trans Gs hg
              have HD5 := hide (Blk.kept HD4.out gg (by simp))
              have HW5 := hide (gr_trans HW4.out gg)
              have dq5 := cell_kept gg HqD.out
              have HqI5 := hide (HqI.out.kept0 gg)
              have HrD5 := hide (cell_kept gg HrD.out)
              have HrI5 := hide (HrI.out.kept0 gg)
              clear hg gg Gs HD4 HW4 HqD HqI HrD HrI HpI HpD dp dq dr
              rw [show decide (([2, -2] : List Int) = [2, -2]) = true from rfl]
              go_wp2_with fail
              have Gs := World.grownBy_alloc r5 (.cells #[.int .i64 1, .int .i64 (-1)] 3) none
              refine (same_c 0 0 aq (some ⟨r5.heap.size, 0, none⟩) 2 cq 2 2 [1, -1] [1, -1] _ (HqI5.out.kept0 Gs) (Ints.of_blk (xs := [1, -1]) (Nat.zero_le _) rfl (by decide) (Blk.new r5 3 _)) (by decide) (by decide)).mono ?_
              rintro e r6 ⟨rfl, hg⟩
              have gg := gr_trans Gs hg
              have HD6 := hide (Blk.kept HD5.out gg (by simp))
              have HW6 := hide (gr_trans HW5.out gg)
              have dr6 := cell_kept gg HrD5.out
              have HrI6 := hide (HrI5.out.kept0 gg)
              clear hg gg Gs HD5 HW5 HqI5 HrD5 HrI5 dq5
              rw [show decide (([1, -1] : List Int) = [1, -1]) = true from rfl]
              go_wp2_with fail
              have Gs := World.grownBy_alloc r6 (.cells #[.int .i64 0, .int .i64 0] 3) none
              refine (same_c 0 0 ar (some ⟨r6.heap.size, 0, none⟩) 2 cr 2 2 [0, 0] [0, 0] _ (HrI6.out.kept0 Gs) (Ints.of_blk (xs := [0, 0]) (Nat.zero_le _) rfl (by decide) (Blk.new r6 3 _)) (by decide) (by decide)).mono ?_
              rintro e r7 ⟨rfl, hg⟩
              have gg := gr_trans Gs hg
              have HD7 := hide (Blk.kept HD6.out gg (by simp))
              have HW7 := hide (gr_trans HW6.out gg)
              clear hg gg Gs HD6 HW6 HrI6 dr6
              rw [show decide (([0, 0] : List Int) = [0, 0]) = true from rfl]
              go_wp2_with fail
              refine (pooled_c 5 4 5 1 1 (.inl rfl) (.inl ⟨rfl, rfl, .inl rfl, .inl rfl⟩) r7).mono ?_
              rintro e r8 ⟨rfl, M8, g8⟩
              have HM8 := hide M8
              have HD8 := hide (Blk.kept HD7.out g8 (by simp))
              have HW8 := hide (gr_trans HW7.out g8)
              have hwr := HW7.out.size
              have hdl := Blk.lt HD7.out
              clear M8 g8 HD7 HW7
              go_wp2_with fail
              refine (dcells_c w.heap.size xa 40 r8 HD8.out HRa.out.1 HRa.out.2 (by decide)).mono ?_
              rintro e r9 ⟨rfl, hI, hD, hg⟩
              have HI9 := hide (hI.mono (Nat.zero_le _))
              have HM9 := hide (HM8.out.apart HD8.out (by decide) (by omega) hg)
              have HW9 := hide (gr_new HW8.out hg (Nat.le_refl _))
              have Hc9 := hide (dcells_ok 40 xa)
              have Hl9 := hide (dcells_len 40 xa)
              clear hI hD hg HM8 HD8 HW8
              generalize (dcells 40 xa).1 = zs at *
              go_wp2_with fail
              have Gz := World.grownBy_alloc r9 (.cells #[.slice (some ⟨r8.heap.size, 0, none⟩) 40 40] 33) none
              refine (outputs_c r7.heap.size (D.mPool 5 4 5 1 1) (some ⟨r9.heap.size, 0, none⟩) 1 1 [zs] _ (HM9.out.kept0 Gz) (one_list HI9.out) (by intro l hl; simp at hl; subst hl; rw [Hl9.out]; decide) (show 1 ≤ 9223372036854775807 by decide) (in_hold (D.mPool 5 4 5 1 1) zs 40 rfl Hl9.out Hc9.out)).mono ?_
              rintro e ra ⟨⟨gw, rfl, hL⟩, hg⟩
              rw [D.pool_one zs Hl9.out Hc9.out] at hL
              have gg := gr_trans Gz hg
              have HIa := hide (HI9.out.kept0 gg)
              have HWa := hide (gr_trans HW9.out gg)
              have hol : (D.mPool 5 4 5 1 1).outs.length = 1 := rfl
              rw [hol] at hL ⊢
              obtain ⟨g1, aw, cw, e1, -, dw, Iw⟩ := hL.get 0 zs rfl
              injection e1 with e1
              injection e1 with e1 _ _
              subst e1
              rw [Hl9.out] at dw Iw
              have HIw := hide Iw
              clear hL hg gg Gz HM9 HI9 HW9 hol Iw
              go_wp2_with fail
              refine (same_c 0 0 aw (some ⟨r8.heap.size, 0, none⟩) 40 cw 40 40 zs zs _ HIw.out HIa.out (by rw [Hl9.out]; decide) (by rw [Hl9.out]; decide)).mono ?_
              rintro e rb ⟨rfl, hg⟩
              have HWb := hide (gr_trans HWa.out hg)
              rw [show decide (zs = zs) = true from decide_eq_true rfl]
              clear hg dw
              go_wp2
              go_ret
              exact ⟨rfl, HWb.out⟩

theorem poolL_c (a0 a1 a2 : Int) (w : World) (ha : -9223372036854775808 ≤ a0) (hb : a0 ≤ 9223372036854775807) (ka : -9223372036854775808 ≤ a1) (kb : a1 ≤ 9223372036854775807) (la : -9223372036854775808 ≤ a2) (lb : a2 ≤ 9223372036854775807) :
    Calls Tryz.prog 14 #[.int .i64 a0, .int .i64 a1, .int .i64 a2] w fun e w' => e = .returned (.bool true) ∧ w.grownBy w' none := by
  go_enter Tryz.func14, Tryz.ntmps14
  go_wp2_with fail
  refine (pools_c a0 a1 a2 w ha hb ka kb la lb).mono ?_
  rintro e w1 ⟨rfl, hg1⟩
  go_wp2
  go_ret
  exact ⟨rfl, hg1⟩

end Go.Proofs.YtcnhfffgbamonaaGreat
