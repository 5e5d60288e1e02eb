/-
  The law Inputs: inputs that are none.
-/
import Derived.Test.YtcnhfffgbamonabGreatLa4c
import Derived.Test.YtcnhfffgbamonabGreatIn0
namespace Go.Proofs.YtcnhfffgbamonabGreat
open Go.RowKit Go.Sort

/-- A die and a plan, both new. -/
structure IP (w0 w1 : World) (d : Nat) (x : Int) (p : Nat) (m : M.Md) : Prop where
  g : w0.grownBy w1 none
  D : Die w1 d x
  P : Pl w1 p m
  ld : w0.heap.size ≤ d

set_option maxRecDepth 100000 in
set_option maxHeartbeats 4000000 in
theorem inputsl_c (a : Int) (w : World) (ha : -9223372036854775808 ≤ a) (hb : a ≤ 9223372036854775807) :
    Calls Tryz.prog 7 #[.int .i64 a] w fun e w' => e = .returned (.bool true) ∧ w.grownBy w' none := by
  obtain ⟨x, Hx⟩ : ∃ x, Hid (pickOf a 2147483648 = x) := ⟨_, rfl⟩
  have R0 : 0 ≤ x ∧ x < 2147483648 := by rw [← Hx.out]; exact ⟨Int.emod_nonneg _ (by decide), Int.emod_lt_of_pos _ (by decide)⟩
  obtain ⟨m, Hm⟩ : ∃ m, Hid (mW 3 3 1 2 1 4 1 false (-128) 127 x = m) := ⟨_, rfl⟩
  have RE : 0 ≤ wend 4 1 x ∧ wend 4 1 x < 2147483648 := dnext_range _
  obtain ⟨y, Hy⟩ : ∃ y, Hid (wend 4 1 x = y) := ⟨_, rfl⟩
  have HL : Hid (D.lengths m = [9]) := by rw [← Hm.out]; rfl
  have HO : Hid (m.outs.length = 1) := by rw [← Hm.out]; rfl
  have HRUN : Hid (∀ l, ∃ lo, D.run m [l] = [lo] ∧ lo.length = 4) := by rw [← Hm.out]; intro l; exact ⟨_, D.run_win 3 3 1 2 1 false (-128) 127 _ _ _ _ _ l, by rw [D.grid_length]; rfl⟩
  rw [Hy.out] at RE
  go_enter Tryz.func7, Tryz.ntmps7
  go_wp2_with fail
  refine (seeded_c a w ha hb).mono ?_
  rintro e q0 ⟨rfl, D0, g0⟩
  rw [Hx.out] at D0
  have l0 := Blk.lt D0
  go_wp2_with fail
  refine (windowed_331210 w.heap.size x (-128) 127 q0 D0 R0.1 R0.2 (by unfold Cell; decide) (by unfold Cell; decide) (by decide)).mono ?_
  rintro e q1 ⟨rfl, M1, D1, g1⟩
  rw [Hm.out] at M1
  rw [Hy.out] at D1
  have G1 := gr_new g0 g1 (Nat.le_refl _)
  obtain ⟨his, ts, ops, nt, no, oa, on, oc, hB, hO, hE, b1, b2, b3⟩ := M1
  have HC := hide (mbytes_c q0.heap.size 0 ts ops nt no oa on oc m.outs q1 hB hO b1 b2 b3)
  rw [hE] at HC
  have HR := hide his.read
  have HA := hide his.all
  have H1 := hide (is_one his)
  have HLg := hide his.long
  clear g0 g1 D0 hB hO hE b1 b2 b3 his
  go_wp2_with fail
  refine HC.out.mono ?_
  rintro e q2 ⟨rfl, g2⟩
  have D2 := Blk.kept D1 g2 (by simp)
  have G2 := gr_trans G1 g2
  clear HC g2 D1 G1
  go_wp2_with fail
  refine (compile_c (S8 (encM m)) q2 (by rw [s8_size]; have := HLg.out; omega)).mono ?_
  rintro e q3 ⟨g3, ⟨hr, -⟩ | ⟨-, p, hp, rfl, hP⟩⟩
  · exact absurd HR.out hr
  · rw [HA.out] at hP
    have D3 := Blk.kept D2 g3 (by simp)
    have G3 := gr_trans G2 g3
    have HP3 := hide hP
    have HG3 := hide G3
    clear g3 D2 G2 hP G3
    go_wp2_with fail
    have Dq3 : Die q3 w.heap.size y := D3
    have hw3 : w.heap.size < q3.heap.size := Blk.lt D3
    clear D3
    refine (dcells_c w.heap.size y 9 q3 Dq3 RE.1 RE.2 (by decide)).mono ?_
    rintro e q4 ⟨rfl, hI, Dq4, hg⟩
    have bx_q4 := ints_blk hI
    have ltx : q3.heap.size < q4.heap.size := bx_q4.lt
    have Relq4 := hg
    have Lx := hide (dcells_len 9 y)
    have Kx := hide (dcells_ok 9 y)
    have Rq4 := dcells_range 9 y RE.1 RE.2
    obtain ⟨lx, Hlx⟩ : ∃ l, Hid ((dcells 9 y).1 = l) := ⟨_, rfl⟩
    obtain ⟨y1, Hy1⟩ : ∃ l, Hid ((dcells 9 y).2 = l) := ⟨_, rfl⟩
    rw [Hlx.out] at bx_q4 Lx Kx
    rw [Hy1.out] at Dq4 Rq4
    clear hI hg
    go_wp2_with fail
    refine (dcells_c w.heap.size y1 8 q4 Dq4 Rq4.1 Rq4.2 (by decide)).mono ?_
    rintro e q5 ⟨rfl, hI, Dq5, hg⟩
    have by_q5 := ints_blk hI
    have lty : q4.heap.size < q5.heap.size := by_q5.lt
    have bx_q5 := bx_q4.unlike Dq4 (by decide) hg
    clear bx_q4
    have Relq5 := gr_trans Relq4 hg
    have Ly := hide (dcells_len 8 y1)
    have Ky := hide (dcells_ok 8 y1)
    have Rq5 := dcells_range 8 y1 Rq4.1 Rq4.2
    obtain ⟨ly, Hly⟩ : ∃ l, Hid ((dcells 8 y1).1 = l) := ⟨_, rfl⟩
    obtain ⟨y2, Hy2⟩ : ∃ l, Hid ((dcells 8 y1).2 = l) := ⟨_, rfl⟩
    rw [Hly.out] at by_q5 Ly Ky
    rw [Hy2.out] at Dq5 Rq5
    clear hI hg Relq4 Dq4
    go_wp2_with fail
    refine (dcells_c w.heap.size y2 10 q5 Dq5 Rq5.1 Rq5.2 (by decide)).mono ?_
    rintro e q6 ⟨rfl, hI, Dq6, hg⟩
    have bz_q6 := ints_blk hI
    have ltz : q5.heap.size < q6.heap.size := bz_q6.lt
    have bx_q6 := bx_q5.unlike Dq5 (by decide) hg
    clear bx_q5
    have by_q6 := by_q5.unlike Dq5 (by decide) hg
    clear by_q5
    have Relq6 := gr_trans Relq5 hg
    have Lz := hide (dcells_len 10 y2)
    have Kz := hide (dcells_ok 10 y2)
    have Rq6 := dcells_range 10 y2 Rq5.1 Rq5.2
    obtain ⟨lz, Hlz⟩ : ∃ l, Hid ((dcells 10 y2).1 = l) := ⟨_, rfl⟩
    obtain ⟨y3, Hy3⟩ : ∃ l, Hid ((dcells 10 y2).2 = l) := ⟨_, rfl⟩
    rw [Hlz.out] at bz_q6 Lz Kz
    rw [Hy3.out] at Dq6 Rq6
    clear hI hg Relq5 Dq5
    go_wp2_with fail
    refine (dcells_c w.heap.size y3 9 q6 Dq6 Rq6.1 Rq6.2 (by decide)).mono ?_
    rintro e q7 ⟨rfl, hI, Dq7, hg⟩
    have bw_q7 := ints_blk hI
    have ltw : q6.heap.size < q7.heap.size := bw_q7.lt
    have bx_q7 := bx_q6.unlike Dq6 (by decide) hg
    clear bx_q6
    have by_q7 := by_q6.unlike Dq6 (by decide) hg
    clear by_q6
    have bz_q7 := bz_q6.unlike Dq6 (by decide) hg
    clear bz_q6
    have Relq7 := gr_trans Relq6 hg
    have Lw := hide (dcells_len 9 y3)
    have Kw := hide (dcells_ok 9 y3)
    have Rq7 := dcells_range 9 y3 Rq6.1 Rq6.2
    obtain ⟨lw, Hlw⟩ : ∃ l, Hid ((dcells 9 y3).1 = l) := ⟨_, rfl⟩
    obtain ⟨y4, Hy4⟩ : ∃ l, Hid ((dcells 9 y3).2 = l) := ⟨_, rfl⟩
    rw [Hlw.out] at bw_q7 Lw Kw
    rw [Hy4.out] at Dq7 Rq7
    clear hI hg Relq6 Dq6
    have hu := dunder_rg y4 9 (by decide)
    go_wp2_with fail
    refine (under_c w.heap.size y4 9 q7 Dq7 Rq7.1 Rq7.2 (by decide) (by decide)).mono ?_
    rintro e q8 ⟨rfl, Dq8, hg⟩
    have bx_q8 := bx_q7.unlike Dq7 (by decide) hg
    clear bx_q7
    have by_q8 := by_q7.unlike Dq7 (by decide) hg
    clear by_q7
    have bz_q8 := bz_q7.unlike Dq7 (by decide) hg
    clear bz_q7
    have bw_q8 := bw_q7.unlike Dq7 (by decide) hg
    clear bw_q7
    have Relq8 := gr_trans Relq7 hg
    have Rq8 := dnext_range y4
    obtain ⟨y5, Hy5⟩ : ∃ l, Hid (dnext y4 = l) := ⟨_, rfl⟩
    rw [Hy5.out] at Dq8 Rq8
    obtain ⟨iw, hiw⟩ := Int.eq_ofNat_of_zero_le hu.1
    have hi9w : iw < 9 := by omega
    rw [hiw]
    have cu := bw_q8.cell iw
    obtain ⟨u, hu2⟩ : ∃ u, lw[iw]? = some u := ⟨_, List.getElem?_eq_getElem (by rw [Lw.out]; exact hi9w)⟩
    rw [ints_get hu2] at cu
    have fu := bw_q8.free iw
    have szAw : q7.heap.size ≤ q8.heap.size := hg.size
    clear hg hu hiw Relq7 Dq7
    have hblw := bw_q8.lt
    have Sq9 := bw_q8.set iw (.int .i64 (128))
    rw [ints_set] at Sq9
    have Tx := bx_q8.other (a := ⟨q6.heap.size, iw, none⟩) (by simp; omega) (.int .i64 (128))
    have Ty := by_q8.other (a := ⟨q6.heap.size, iw, none⟩) (by simp; omega) (.int .i64 (128))
    have Tz := bz_q8.other (a := ⟨q6.heap.size, iw, none⟩) (by simp; omega) (.int .i64 (128))
    have TD := Blk.other Dq8 (a := ⟨q6.heap.size, iw, none⟩) (by simp; omega) (.int .i64 (128))
    have TR := gr_new Relq8 (gr_set q8 q6.heap.size iw (.int .i64 (128))) (by omega)
    have Hbw := hide (show (lw.set iw (128))[iw]? = some (128) by rw [List.getElem?_set, if_pos rfl, if_pos (by rw [Lw.out]; exact hi9w)])
    have HSq9 := hide Sq9
    have HTx := hide Tx
    have HTy := hide Ty
    have HTz := hide Tz
    have HTD := hide TD
    have HTR := hide TR
    clear Sq9 Tx Ty Tz TD TR bx_q8 by_q8 bz_q8 bw_q8 Dq8 Relq8 hu2
    obtain ⟨q9, HQq9⟩ : ∃ q, Hid (q8.setCell ⟨q6.heap.size, iw, none⟩ (.int .i64 (128)) = q) := ⟨_, rfl⟩
    rw [HQq9.out] at HSq9
    rw [HQq9.out] at HTx
    rw [HQq9.out] at HTy
    rw [HQq9.out] at HTz
    rw [HQq9.out] at HTD
    rw [HQq9.out] at HTR
    have szBw : q9.heap.size = q8.heap.size := by rw [← HQq9.out]; simp
    have HszBw := hide szBw
    have szCw : q8.heap.size ≤ q9.heap.size := by omega
    clear szBw
    have bx_q9 := HTx.out
    have by_q9 := HTy.out
    have bz_q9 := HTz.out
    have bw_q9 := HSq9.out
    have Dq9 : Die q9 w.heap.size y5 := HTD.out
    have Relq9 := HTR.out
    clear HTD HTR HSq9 HTx HTy HTz
    go_wp2_with fail
    rw [HQq9.out]
    clear cu fu
    refine (dcells_c w.heap.size y5 9 q9 Dq9 Rq8.1 Rq8.2 (by decide)).mono ?_
    rintro e q10 ⟨rfl, hI, Dq10, hg⟩
    have bv_q10 := ints_blk hI
    have ltv : q9.heap.size < q10.heap.size := bv_q10.lt
    have bx_q10 := bx_q9.unlike Dq9 (by decide) hg
    clear bx_q9
    have by_q10 := by_q9.unlike Dq9 (by decide) hg
    clear by_q9
    have bz_q10 := bz_q9.unlike Dq9 (by decide) hg
    clear bz_q9
    have bw_q10 := bw_q9.unlike Dq9 (by decide) hg
    clear bw_q9
    have Relq10 := gr_trans Relq9 hg
    have Lv := hide (dcells_len 9 y5)
    have Kv := hide (dcells_ok 9 y5)
    have Rq10 := dcells_range 9 y5 Rq8.1 Rq8.2
    obtain ⟨lv, Hlv⟩ : ∃ l, Hid ((dcells 9 y5).1 = l) := ⟨_, rfl⟩
    obtain ⟨y6, Hy6⟩ : ∃ l, Hid ((dcells 9 y5).2 = l) := ⟨_, rfl⟩
    rw [Hlv.out] at bv_q10 Lv Kv
    rw [Hy6.out] at Dq10 Rq10
    clear hI hg Relq9 Dq9
    have hu := dunder_rg y6 9 (by decide)
    go_wp2_with fail
    refine (under_c w.heap.size y6 9 q10 Dq10 Rq10.1 Rq10.2 (by decide) (by decide)).mono ?_
    rintro e q11 ⟨rfl, Dq11, hg⟩
    have bx_q11 := bx_q10.unlike Dq10 (by decide) hg
    clear bx_q10
    have by_q11 := by_q10.unlike Dq10 (by decide) hg
    clear by_q10
    have bz_q11 := bz_q10.unlike Dq10 (by decide) hg
    clear bz_q10
    have bw_q11 := bw_q10.unlike Dq10 (by decide) hg
    clear bw_q10
    have bv_q11 := bv_q10.unlike Dq10 (by decide) hg
    clear bv_q10
    have Relq11 := gr_trans Relq10 hg
    have Rq11 := dnext_range y6
    obtain ⟨y7, Hy7⟩ : ∃ l, Hid (dnext y6 = l) := ⟨_, rfl⟩
    rw [Hy7.out] at Dq11 Rq11
    obtain ⟨iv, hiv⟩ := Int.eq_ofNat_of_zero_le hu.1
    have hi9v : iv < 9 := by omega
    rw [hiv]
    have cu := bv_q11.cell iv
    obtain ⟨u, hu2⟩ : ∃ u, lv[iv]? = some u := ⟨_, List.getElem?_eq_getElem (by rw [Lv.out]; exact hi9v)⟩
    rw [ints_get hu2] at cu
    have fu := bv_q11.free iv
    have szAv : q10.heap.size ≤ q11.heap.size := hg.size
    clear hg hu hiv Relq10 Dq10
    have hblv := bv_q11.lt
    have Sq12 := bv_q11.set iv (.int .i64 (-129))
    rw [ints_set] at Sq12
    have Tx := bx_q11.other (a := ⟨q9.heap.size, iv, none⟩) (by simp; omega) (.int .i64 (-129))
    have Ty := by_q11.other (a := ⟨q9.heap.size, iv, none⟩) (by simp; omega) (.int .i64 (-129))
    have Tz := bz_q11.other (a := ⟨q9.heap.size, iv, none⟩) (by simp; omega) (.int .i64 (-129))
    have Tw := bw_q11.other (a := ⟨q9.heap.size, iv, none⟩) (by simp; omega) (.int .i64 (-129))
    have TD := Blk.other Dq11 (a := ⟨q9.heap.size, iv, none⟩) (by simp; omega) (.int .i64 (-129))
    have TR := gr_new Relq11 (gr_set q11 q9.heap.size iv (.int .i64 (-129))) (by omega)
    have Hbv := hide (show (lv.set iv (-129))[iv]? = some (-129) by rw [List.getElem?_set, if_pos rfl, if_pos (by rw [Lv.out]; exact hi9v)])
    have HSq12 := hide Sq12
    have HTx := hide Tx
    have HTy := hide Ty
    have HTz := hide Tz
    have HTw := hide Tw
    have HTD := hide TD
    have HTR := hide TR
    clear Sq12 Tx Ty Tz Tw TD TR bx_q11 by_q11 bz_q11 bw_q11 bv_q11 Dq11 Relq11 hu2
    obtain ⟨q12, HQq12⟩ : ∃ q, Hid (q11.setCell ⟨q9.heap.size, iv, none⟩ (.int .i64 (-129)) = q) := ⟨_, rfl⟩
    rw [HQq12.out] at HSq12
    rw [HQq12.out] at HTx
    rw [HQq12.out] at HTy
    rw [HQq12.out] at HTz
    rw [HQq12.out] at HTw
    rw [HQq12.out] at HTD
    rw [HQq12.out] at HTR
    have szBv : q12.heap.size = q11.heap.size := by rw [← HQq12.out]; simp
    have HszBv := hide szBv
    have szCv : q11.heap.size ≤ q12.heap.size := by omega
    clear szBv
    have bx_q12 := HTx.out
    have by_q12 := HTy.out
    have bz_q12 := HTz.out
    have bw_q12 := HTw.out
    have bv_q12 := HSq12.out
    have Dq12 : Die q12 w.heap.size y7 := HTD.out
    have Relq12 := HTR.out
    clear HTD HTR HSq12 HTx HTy HTz HTw
    go_wp2_with fail
    rw [HQq12.out, ← HszBv.out]
    have HP := hide (HP3.out.unlike Dq3 Relq12)
    have HGq := hide (gr_new HG3.out Relq12 (Nat.le_refl _))
    have Ix := hide (Ints.of_blk (base := 0) (xs := lx) (n := 9) (Nat.zero_le _) Lx.out (by decide) bx_q12)
    have Iy := hide (Ints.of_blk (base := 0) (xs := ly) (n := 8) (Nat.zero_le _) Ly.out (by decide) by_q12)
    have Iz := hide (Ints.of_blk (base := 0) (xs := lz) (n := 10) (Nat.zero_le _) Lz.out (by decide) bz_q12)
    have Iw := hide (Ints.of_blk (base := 0) (xs := lw.set iw 128) (n := 9) (Nat.zero_le _) (by rw [List.length_set]; exact Lw.out) (by decide) bw_q12)
    have Iv := hide (Ints.of_blk (base := 0) (xs := lv.set iv (-129)) (n := 9) (Nat.zero_le _) (by rw [List.length_set]; exact Lv.out) (by decide) bv_q12)
    have Lw2 := hide (show (lw.set iw 128).length = 9 by rw [List.length_set]; exact Lw.out)
    have Lv2 := hide (show (lv.set iv (-129)).length = 9 by rw [List.length_set]; exact Lv.out)
    have HX9 := hide (in_hold1 m lx HL.out Lx.out Kx.out)
    clear bx_q12 by_q12 bz_q12 bw_q12 bv_q12 Relq12 Dq12 cu fu
    generalize lw.set iw 128 = lw2 at *
    generalize lv.set iv (-129) = lv2 at *
    obtain ⟨F, HF⟩ : ∃ F, Hid (bad8 q12 (.slice (some ⟨q3.heap.size, 0, none⟩) 9 9) (.slice (some ⟨q4.heap.size, 0, none⟩) 8 8) (.slice (some ⟨q5.heap.size, 0, none⟩) 10 10) (.slice (some ⟨q6.heap.size, 0, none⟩) 9 9) (.slice (some ⟨q9.heap.size, 0, none⟩) 9 9) = F) := ⟨_, rfl⟩
    have key := hide (bad_key q12 m lx ly lz lw2 lv2 9 8 10 9 9 (some ⟨q3.heap.size, 0, none⟩) (some ⟨q4.heap.size, 0, none⟩) (some ⟨q5.heap.size, 0, none⟩) (some ⟨q6.heap.size, 0, none⟩) (some ⟨q9.heap.size, 0, none⟩) 9 8 10 9 9 HL.out Ix.out Iy.out Iz.out Iw.out Iv.out Lx.out Ly.out Lz.out Lw2.out Lv2.out Hbw.out Hbv.out)
    have GF := hide (bad_gr q12 (.slice (some ⟨q3.heap.size, 0, none⟩) 9 9) (.slice (some ⟨q4.heap.size, 0, none⟩) 8 8) (.slice (some ⟨q5.heap.size, 0, none⟩) 10 10) (.slice (some ⟨q6.heap.size, 0, none⟩) 9 9) (.slice (some ⟨q9.heap.size, 0, none⟩) 9 9))
    rw [HF.out] at key GF
    show Code.wp Tryz.prog _ _ _ (bad8 q12 (.slice (some ⟨q3.heap.size, 0, none⟩) 9 9) (.slice (some ⟨q4.heap.size, 0, none⟩) 8 8) (.slice (some ⟨q5.heap.size, 0, none⟩) 10 10) (.slice (some ⟨q6.heap.size, 0, none⟩) 9 9) (.slice (some ⟨q9.heap.size, 0, none⟩) 9 9))
    rw [HF.out]
    have hneq : ∀ (W : World), (binOp .neq 38 (.slice none 0 0) (.slice none 0 0)).run Tryz.prog W = .ok (.bool false) W := fun W => run_neq_slice_nil_any W 38 32 none 0 0 0 0 Tryz.underlying38
    go_loopw [15] (fun i wr => ∃ k : Nat, Hid (k ≤ 8) ∧ i = .int .i64 k ∧ F.grownBy wr none) (fun i _ => 8 - (intOf i).toNat)
    case atStart => exact ⟨0, (show 0 ≤ 8 by decide), rfl, World.grownBy.refl _ _⟩
    case round =>
      obtain ⟨k, Hk, rfl, hgk⟩ := hrel
      by_cases hlt : k < 8
      · obtain ⟨va, vn, vc, ins, d0, hL, hH, h10, h2⟩ := key.out k hlt
        have d1 := cell_kept hgk d0
        have HLk := hide (hL.kept0 hgk)
        have HPk := hide ((HP.out.kept0 GF.out).kept0 hgk)
        have hd : decide ((k : Int) < 8) = true := decide_eq_true (by omega)
        have hk7 : (k : Int) ≤ 7 := by omega
        have Hlt := hide hlt
        have HH := hide hH
        have H10 := hide h10
        have H2 := hide h2
        have HGk := hide hgk
        clear d0 hL hH hlt h10 h2 hgk
        go_wp2_with fail
        refine (run_c p m va vn vc ins wr HPk.out H1.out HLk.out (fun l hl => by have := H10.out l hl; omega) (by have := H2.out; omega)).mono ?_
        rintro e wr2 ⟨hg2, ⟨-, rfl⟩ | ⟨ht, -⟩⟩
        · have HG2 := hide (gr_trans HGk.out hg2)
          clear hg2 d1
          go_wp2
          go_roundw
          case rel => exact ⟨k + 1, (by have := Hlt.out; unfold Hid; omega), by go_num, HG2.out⟩
          case measure => have := Hlt.out; simp [intOf]; omega
        · rw [HH.out] at ht; exact Bool.noConfusion ht
      · have hd : decide ((k : Int) < 8) = false := decide_eq_false (by omega)
        clear hlt
        have HPk := hide ((HP.out.kept0 GF.out).kept0 hgk)
        have HLx := hide (one_list0 ((Ix.out.kept0 GF.out).kept0 hgk))
        have HGk := hide (gr_trans (gr_trans HGq.out GF.out) hgk)
        clear hgk
        go_wp2_with fail
        refine (run_c p m _ 1 1 [lx] _ (HPk.out.kept0 (World.grownBy_alloc _ _ _)) H1.out HLx.out (fun l hl => by simp at hl; subst hl; rw [Lx.out]; decide) (show 1 ≤ 9223372036854775807 by decide)).mono ?_
        rintro e wz ⟨hgz, ⟨ht, -⟩ | ⟨-, g, rfl, hL⟩⟩
        · rw [HX9.out] at ht; exact Bool.noConfusion ht
        · rw [HO.out] at hL ⊢
          obtain ⟨lo, hlo, hlo4⟩ := HRUN.out lx
          rw [hlo] at hL
          obtain ⟨g1, a1, c1, e1, -, d0, I0⟩ := hL.get 0 lo rfl
          injection e1 with e1
          injection e1 with e1 _ _
          subst e1
          rw [hlo4] at d0
          have HGz := hide (gr_trans (gr_trans HGk.out (World.grownBy_alloc _ _ _)) hgz)
          clear hL I0 hgz hlo hlo4 hneq
          go_wp2
          go_ret
          exact ⟨rfl, HGz.out⟩

theorem inputs_c (a0 a1 a2 : Int) (w : World) (ha : -9223372036854775808 ≤ a0) (hb : a0 ≤ 9223372036854775807) :
    Calls Tryz.prog 4 #[.int .i64 a0, .int .i64 a1, .int .i64 a2] w fun e w' => e = .returned (.bool true) ∧ w.grownBy w' none := by
  go_enter Tryz.func4, Tryz.ntmps4
  go_wp2_with fail
  refine (inputsl_c a0 w ha hb).mono ?_
  rintro e w1 ⟨rfl, hg1⟩
  go_wp2
  go_ret
  exact ⟨rfl, hg1⟩

end Go.Proofs.YtcnhfffgbamonabGreat
