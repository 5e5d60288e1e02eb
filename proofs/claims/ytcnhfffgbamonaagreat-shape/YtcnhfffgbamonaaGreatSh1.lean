/-
  The law Shape: apart and together; a sum either way round.
-/
import Derived.Test.YtcnhfffgbamonaaGreatShA
namespace Go.Proofs.YtcnhfffgbamonaaGreat
open Go.RowKit Go.Sort

set_option maxRecDepth 100000 in
set_option maxHeartbeats 1600000 in
theorem shaped_c (a : Int) (w : World) (ha : -9223372036854775808 ≤ a) (hb : a ≤ 9223372036854775807) :
    Calls Tryz.prog 29 #[.int .i64 a] w fun e w' => e = .returned (.bool true) ∧ w.grownBy w' none := by
  obtain ⟨x0, Hx⟩ : ∃ x, Hid (pickOf a 2147483648 = x) := ⟨_, rfl⟩
  have R0 : 0 ≤ x0 ∧ x0 < 2147483648 := by rw [← Hx.out]; exact ⟨Int.emod_nonneg _ (by decide), Int.emod_lt_of_pos _ (by decide)⟩
  have HR0 := hide R0
  clear R0
  go_enter Tryz.func29, Tryz.ntmps29
  go_wp2_with fail
  refine (seeded_c a w ha hb).mono ?_
  rintro e q0 ⟨rfl, D0, g0⟩
  rw [Hx.out] at D0
  go_wp2_with fail
  refine (dzero_c w.heap.size x0 q0 D0 HR0.out.1 HR0.out.2).mono ?_
  rintro e q1 ⟨rfl, D1, g1⟩
  have zr := dzero_rg x0
  have HR1 := hide (dnext_range x0)
  have HG1 := hide (gr_new g0 g1 (Nat.le_refl _))
  have HD1 := hide D1
  have l1 : w.heap.size < q1.heap.size := Blk.lt D1
  clear D0 g0 g1 D1 HR0
  generalize dzero x0 = z at *
  generalize dnext x0 = x1 at *
  have HZ := hide zr
  clear Hx
  go_wp2_with fail
  refine (dcells_c w.heap.size x1 12 q1 HD1.out HR1.out.1 HR1.out.2 (by decide)).mono ?_
  rintro e q2 ⟨rfl, hI, hD, hg⟩
  have HX2 := hide hI
  have Hcx := hide (dcells_ok 12 x1)
  have Hlx := hide (dcells_len 12 x1)
  have HR2 := hide (dcells_range 12 x1 HR1.out.1 HR1.out.2)
  have HG2 := hide (gr_new HG1.out hg (Nat.le_refl _))
  have HD2 := hide hD
  have l2 : q1.heap.size < q2.heap.size := Blk.lt (pints_blk hI)
  clear hI hD hg HG1 HD1 HR1
  generalize (dcells 12 x1).1 = xs at *
  generalize (dcells 12 x1).2 = x2 at *
  go_wp2_with fail
  refine (dcells_c w.heap.size x2 12 q2 HD2.out HR2.out.1 HR2.out.2 (by decide)).mono ?_
  rintro e q3 ⟨rfl, hI, hD, hg⟩
  have HX3 := hide (HX2.out.kept hg l1)
  have HY3 := hide hI
  have Hcy := hide (dcells_ok 12 x2)
  have Hly := hide (dcells_len 12 x2)
  have HR3 := hide (dcells_range 12 x2 HR2.out.1 HR2.out.2)
  have HG3 := hide (gr_new HG2.out hg (Nat.le_refl _))
  have HD3 := hide hD
  have l3 : q2.heap.size < q3.heap.size := Blk.lt (pints_blk hI)
  clear hI hD hg HG2 HD2 HR2 HX2
  generalize (dcells 12 x2).1 = ys at *
  generalize (dcells 12 x2).2 = x3 at *
  have P0 := hide (MP.new q3)
  have G0 := hide (World.grownBy_alloc q3 (.cells #[.string ⟨#[]⟩, .string ⟨#[]⟩, .int .i64 0, .int .i64 0, .slice none 0 0] 81) none)
  go_wp2_with fail
  refine (mten q3.heap.size [] [] _ (D.tIn 2 3 2 z) none 0 0 _ P0.out (Ints.nil _ _) (by decide) (show 0 ≤ 1000 by decide) (show 0 ≤ 1000 by decide)).mono ?_
  rintro e p1 ⟨rfl, hP, hg⟩
  have G1 := hide (gr_new G0.out hg (Nat.le_refl _))
  have P1 := hide hP
  clear hP hg P0 G0
  go_wp2_with fail
  refine (mten q3.heap.size [D.tIn 2 3 2 z] [] _ (D.tMid 3 1 4 z) none 0 0 _ P1.out (Ints.nil _ _) (show 5 ≤ 100000 by decide) (show 0 ≤ 1000 by decide) (show 1 ≤ 1000 by decide)).mono ?_
  rintro e p2 ⟨rfl, hP, hg⟩
  have G2 := hide (gr_new G1.out hg (Nat.le_refl _))
  have P2 := hide hP
  clear hP hg P1 G1
  have T2 := hide (P2.out.kept (World.grownBy_alloc p2 (.cells #[.int .i64 0] 3) none) (by simp))
  have J2 := hide (Ints.of_blk (base := 0) (xs := [0]) (n := 1) (Nat.zero_le _) rfl (by decide) (Blk.new p2 3 #[.int .i64 0]))
  have K2 := hide (gr_trans G2.out (World.grownBy_alloc p2 (.cells #[.int .i64 0] 3) none))
  have Hp := hide (show (⟨#[]⟩ : ByteArray) = S8 (ownBytes (D.oShape 0 1)) from rfl)
  clear P2 G2
  go_wp2_with fail
  rw [Hp.out]
  refine (mopr q3.heap.size ([D.tIn 2 3 2 z] ++ [D.tMid 3 1 4 z]) [] _ (D.oShape 0 1) _ (some ⟨p2.heap.size, 0, none⟩) 1 1 _ T2.out (fun o ho => absurd ho (by simp)) J2.out rfl (show 0 ≤ 1000 by decide) (by decide)).mono ?_
  rintro e p3 ⟨rfl, hP, hg⟩
  have G3 := hide (gr_new K2.out hg (Nat.le_refl _))
  have P3 := hide hP
  clear hP hg T2 J2 K2 Hp
  go_wp2_with fail
  refine (mten q3.heap.size ([D.tIn 2 3 2 z] ++ [D.tMid 3 1 4 z]) [D.oShape 0 1] _ (D.tMid 1 12 1 z) none 0 0 _ P3.out (Ints.nil _ _) (show 10 ≤ 100000 by decide) (show 0 ≤ 1000 by decide) (show 2 ≤ 1000 by decide)).mono ?_
  rintro e p4 ⟨rfl, hP, hg⟩
  have G4 := hide (gr_new G3.out hg (Nat.le_refl _))
  have P4 := hide hP
  clear hP hg P3 G3
  have T4 := hide (P4.out.kept (World.grownBy_alloc p4 (.cells #[.int .i64 1] 3) none) (by simp))
  have J4 := hide (Ints.of_blk (base := 0) (xs := [1]) (n := 1) (Nat.zero_le _) rfl (by decide) (Blk.new p4 3 #[.int .i64 1]))
  have K4 := hide (gr_trans G4.out (World.grownBy_alloc p4 (.cells #[.int .i64 1] 3) none))
  have Hp := hide (show (⟨#[]⟩ : ByteArray) = S8 (ownBytes (D.oShape 1 2)) from rfl)
  clear P4 G4
  go_wp2_with fail
  rw [Hp.out]
  refine (mopr q3.heap.size ([D.tIn 2 3 2 z] ++ [D.tMid 3 1 4 z] ++ [D.tMid 1 12 1 z]) [D.oShape 0 1] _ (D.oShape 1 2) _ (some ⟨p4.heap.size, 0, none⟩) 1 1 _ T4.out (D.mem1 (D.fit_shape (D.B (by decide) (by decide)) (D.B (by decide) (by decide)))) J4.out rfl (show 0 ≤ 1000 by decide) (show 1 ≤ 100 by decide)).mono ?_
  rintro e p5 ⟨rfl, hP, hg⟩
  have G5 := hide (gr_new K4.out hg (Nat.le_refl _))
  have P5 := hide hP
  clear hP hg T4 J4 K4 Hp
  go_wp2_with fail
  refine (mten q3.heap.size ([D.tIn 2 3 2 z] ++ [D.tMid 3 1 4 z] ++ [D.tMid 1 12 1 z]) ([D.oShape 0 1] ++ [D.oShape 1 2]) _ (D.tMid 1 12 2 z) none 0 0 _ P5.out (Ints.nil _ _) (show 15 ≤ 100000 by decide) (show 0 ≤ 1000 by decide) (show 3 ≤ 1000 by decide)).mono ?_
  rintro e p6 ⟨rfl, hP, hg⟩
  have G6 := hide (gr_new G5.out hg (Nat.le_refl _))
  have P6 := hide hP
  clear hP hg P5 G5
  have T6 := hide (P6.out.kept (World.grownBy_alloc p6 (.cells #[.int .i64 2, .int .i64 2] 3) none) (by simp))
  have J6 := hide (Ints.of_blk (base := 0) (xs := [2, 2]) (n := 2) (Nat.zero_le _) rfl (by decide) (Blk.new p6 3 #[.int .i64 2, .int .i64 2]))
  have K6 := hide (gr_trans G6.out (World.grownBy_alloc p6 (.cells #[.int .i64 2, .int .i64 2] 3) none))
  have Hp := hide (show (⟨#[]⟩ : ByteArray) = S8 (ownBytes (D.oCat 2 2 3)) from rfl)
  clear P6 G6
  go_wp2_with fail
  rw [Hp.out]
  refine (mopr q3.heap.size ([D.tIn 2 3 2 z] ++ [D.tMid 3 1 4 z] ++ [D.tMid 1 12 1 z] ++ [D.tMid 1 12 2 z]) ([D.oShape 0 1] ++ [D.oShape 1 2]) _ (D.oCat 2 2 3) _ (some ⟨p6.heap.size, 0, none⟩) 2 2 _ T6.out (D.mem2 (D.fit_shape (D.B (by decide) (by decide)) (D.B (by decide) (by decide))) (D.fit_shape (D.B (by decide) (by decide)) (D.B (by decide) (by decide)))) J6.out rfl (show 0 ≤ 1000 by decide) (show 2 ≤ 100 by decide)).mono ?_
  rintro e p7 ⟨rfl, hP, hg⟩
  have G7 := hide (gr_new K6.out hg (Nat.le_refl _))
  have e4 : p7.cell? ⟨q3.heap.size, 4, none⟩ = some (.slice none 0 0) := Blk.cell hP 4
  have f4 := Blk.free hP 4
  have hlq : q3.heap.size < p7.heap.size := hP.lt
  have MN := hide (show Mm ((p7.setCell ⟨q3.heap.size, 4, none⟩ (.slice (some ⟨p7.heap.size, 0, none⟩) 3 3)).alloc (.cells #[.int .i64 2, .int .i64 3, .int .i64 0] 3)) q3.heap.size (D.mShape z) from outs_sets (m := D.mShape z) hP rfl rfl rfl (by decide) (D.is_shape z (by have := HZ.out; unfold D.ZOk; omega)) (show 20 ≤ 100000 by decide) (show 3 ≤ 100 by decide))
  have GG := hide (gr_trans (gr_new G7.out (gr_set p7 q3.heap.size 4 (.slice (some ⟨p7.heap.size, 0, none⟩) 3 3)) (Nat.le_refl _)) (World.grownBy_alloc _ (.cells #[.int .i64 2, .int .i64 3, .int .i64 0] 3) none))
  clear hP hg T6 J6 K6 Hp G7
  obtain ⟨qa, Hqa⟩ : ∃ qa, Hid (((p7.setCell ⟨q3.heap.size, 4, none⟩ (.slice (some ⟨p7.heap.size, 0, none⟩) 3 3)).alloc (.cells #[.int .i64 2, .int .i64 3, .int .i64 0] 3)) = qa) := ⟨_, rfl⟩
  rw [Hqa.out] at MN GG
  have HXa := hide (HX3.out.kept0 GG.out)
  have HYa := hide (HY3.out.kept0 GG.out)
  have HDa := hide (Blk.kept HD3.out GG.out (by simp))
  have HGa := hide (gr_trans HG3.out GG.out)
  clear HX3 HY3 HD3 HG3 GG
  go_wp2_with fail
  have Hqs : Hid (p7.heap.size + 1 = qa.heap.size) := by rw [← Hqa.out, World.size_alloc, World.size_setCell]; rfl
  rw [Hqa.out, Hqs.out]
  have Gx := World.grownBy_alloc qa (.cells #[.slice (some ⟨q1.heap.size, 0, none⟩) 12 12] 33) none
  obtain ⟨t, ht, htl, hte⟩ := D.run_shape z xs Hlx.out
  refine (outputs_c q3.heap.size (D.mShape z) (some ⟨qa.heap.size, 0, none⟩) 1 1 [xs] _ (MN.out.kept0 Gx) (one_list (HXa.out.mono (Nat.zero_le _))) (by intro l hl; simp at hl; subst hl; rw [Hlx.out]; decide) (show 1 ≤ 9223372036854775807 by decide) (in_hold (D.mShape z) xs 12 rfl Hlx.out Hcx.out)).mono ?_
  rintro e qb ⟨⟨go, rfl, hL⟩, hg⟩
  rw [ht] at hL
  have hol : (D.mShape z).outs.length = 3 := rfl
  rw [hol] at hL ⊢
  have gg := gr_trans Gx hg
  have HXb := hide (HXa.out.kept0 gg)
  have HYb := hide (HYa.out.kept0 gg)
  have HDb := hide (Blk.kept HDa.out gg (by simp))
  have HGb := hide (gr_trans HGa.out gg)
  have HTL := hide htl
  have HTE := hide hte
  clear Gx hg gg HXa HYa HDa HGa MN ht hol htl hte e4 f4 hlq
  obtain ⟨g1, a0, c0, e1, -, d0, I0⟩ := hL.get 0 xs rfl
  injection e1 with e1
  injection e1 with e1 _ _
  subst e1
  obtain ⟨g1, a1, c1, e1, -, d1, I1⟩ := hL.get 1 t rfl
  injection e1 with e1
  injection e1 with e1 _ _
  subst e1
  obtain ⟨g1, a2, c2, e1, -, d2, I2⟩ := hL.get 2 xs rfl
  injection e1 with e1
  injection e1 with e1 _ _
  subst e1
  rw [Hlx.out] at d0 I0 d2 I2
  rw [HTL.out] at d1 I1
  have HI0 := hide I0
  have HI1 := hide I1
  have HI2 := hide I2
  have Hd1 := hide d1
  have Hd2 := hide d2
  clear I0 I1 I2 hL
  go_wp2_with fail
  refine (same_c 0 q1.heap.size a0 (some ⟨q1.heap.size, 0, none⟩) 12 c0 12 12 xs xs _ HI0.out HXb.out (by rw [Hlx.out]; decide) (by rw [Hlx.out]; decide)).mono ?_
  rintro e qc ⟨rfl, hg⟩
  rw [show decide (xs = xs) = true from decide_eq_true rfl]
  have HXc := hide (HXb.out.kept0 hg)
  have HYc := hide (HYb.out.kept0 hg)
  have HDc := hide (Blk.kept HDb.out hg (by simp))
  have HGc := hide (gr_trans HGb.out hg)
  have HI1c := hide (HI1.out.kept0 hg)
  have HI2c := hide (HI2.out.kept0 hg)
  have Hd1c := hide (cell_kept hg Hd1.out)
  have d2c := cell_kept hg Hd2.out
  clear hg HXb HYb HDb HGb HI0 HI1 HI2 Hd1 Hd2 d0 d1 d2
  go_wp2_with fail
  refine (same_c 0 q1.heap.size a2 (some ⟨q1.heap.size, 0, none⟩) 12 c2 12 12 xs xs _ HI2c.out HXc.out (by rw [Hlx.out]; decide) (by rw [Hlx.out]; decide)).mono ?_
  rintro e qd ⟨rfl, hg⟩
  rw [show decide (xs = xs) = true from decide_eq_true rfl]
  have HXd := hide (HXc.out.kept0 hg)
  have HYd := hide (HYc.out.kept0 hg)
  have HDd := hide (Blk.kept HDc.out hg (by simp))
  have HGd := hide (gr_trans HGc.out hg)
  have HI1d := hide (HI1c.out.kept0 hg)
  have d1d := cell_kept hg Hd1c.out
  have Hd1d := hide d1d
  clear hg HXc HYc HDc HGc HI1c HI2c Hd1c d2c
  go_wp2
  clear d1d
  go_loopw [15] (fun i wr => ∃ k : Nat, Hid (k ≤ 24) ∧ i = .int .i64 k ∧ qd.grownBy wr none) (fun i _ => 24 - (intOf i).toNat)
  case atStart => exact ⟨0, (show 0 ≤ 24 by decide), rfl, World.grownBy.refl _ _⟩
  case round =>
    obtain ⟨k, Hk, rfl, hgk⟩ := hrel
    by_cases hlt : k < 24
    · have dk := cell_kept hgk Hd1d.out
      have hku : t[k]? = some (D.get t k) := D.some_get (by rw [HTL.out]; exact hlt)
      obtain ⟨m, Hm⟩ : ∃ m, Hid (k / 2 = m) := ⟨_, rfl⟩
      have hkv : xs[m]? = some (D.get xs (m : Int)) := D.some_get (by rw [Hlx.out]; have := Hm.out; omega)
      rw [HTE.out k hlt, Hm.out] at hku
      obtain ⟨g1, e1, -, -, d1⟩ := (HI1d.out.kept0 hgk).get k _ hku
      obtain ⟨g2, e2, -, -, d2⟩ := (HXd.out.kept0 hgk).get m _ hkv
      generalize D.get xs (m : Int) = f at *
      have hf : (f != f) = false := by simp
      have hq : Int.tdiv (k : Int) 2 = (m : Int) := by rw [Int.tdiv_eq_ediv_of_nonneg (by omega)]; have := Hm.out; omega
      have hq2 : (k : Int) / 2 = (m : Int) := by have := Hm.out; omega
      have HGk := hide hgk
      have Hlt := hide hlt
      subst e1
      injection e2 with e2
      injection e2 with e2 _ _
      subst e2
      have hk7 : (k : Int) < 24 := by omega
      have hk8 : (m : Int) < 12 := by have := Hm.out; omega
      clear hku hkv hgk hlt
      have hwm : IntKind.i64.wrap (m : Int) = (m : Int) := by rw [IntKind.wrap_i64]; omega
      go_wp2
      go_quiet (fail)
      have HG2 := hide (gr_trans HGk.out (gr_drewN _ nq none))
      clear dk d1 d2 hf hq hq2 hk8 hwm HGk
      generalize wr.drewN nq = wq at *
      go_wp2
      go_roundw
      case rel => exact ⟨k + 1, (by have := Hlt.out; unfold Hid; omega), by go_num, HG2.out⟩
      case measure => have := Hlt.out; simp [intOf]; omega
    · have hd : decide ((k : Int) < 24) = false := decide_eq_false (by omega)
      have HXe := hide (HXd.out.kept0 hgk)
      have HYe := hide (HYd.out.kept0 hgk)
      have HDe := hide (Blk.kept HDd.out hgk (by simp))
      have HGe := hide (gr_trans HGd.out hgk)
      clear hlt hgk HXd HYd HDd HGd HI1d Hd1d HTL HTE Hk
      obtain ⟨i0, hi, hz0, hz1, hz2⟩ := info_parts Tryz.info9
      go_wp2
      clear hd
      obtain ⟨qe, rfl⟩ : ∃ q, q = wr := ⟨_, rfl⟩
      go_loopw [16, 17] (fun v i wp => ∃ j : Nat, Hid (j ≤ 3) ∧ i = .int .i64 j ∧ Hid (wp.ownsRow qe.heap.size 9 1 v j ((List.range j).map (fun j => sval (ssc x3 j)))) ∧ Hid (Die wp w.heap.size (sdie x3 j)) ∧ qe.grownBy wp (some w.heap.size)) (fun _ i _ => 3 - (intOf i).toNat)
      case atStart => exact ⟨0, (show 0 ≤ 3 by decide), rfl, World.ownsRow_nil _ _ _ _, HDe.out, World.grownBy.refl _ _⟩
      case round =>
        obtain ⟨j, Hj, rfl, HS, HD, hgj⟩ := hrel
        have hdl : w.heap.size < qe.heap.size := Blk.lt HDe.out
        by_cases hlt : j < 3
        · have hd : decide ((j : Int) < 3) = true := decide_eq_true (by omega)
          have Hlt := hide hlt
          have HRj := hide (sdie_range HR3.out.1 HR3.out.2 j)
          have HSU := hide (svals_succ x3 j)
          have HSS := hide (show sdie x3 (j + 1) = dnext (dnext (sdie x3 j)) from rfl)
          have Hsv := hide (show sval (ssc x3 j) = .string (S8 (w4 (dmult (sdie x3 j)) ++ [b8 (dshift (dnext (sdie x3 j)) + 7)])) from rfl)
          have HGj := hide hgj
          clear hlt hgj
          go_wp2_with fail
          refine (dmult_c w.heap.size (sdie x3 j) wr HD.out HRj.out.1 HRj.out.2).mono ?_
          rintro e s1 ⟨rfl, hD, hg⟩
          have HD1 := hide hD
          have HS1 := hide (owns_kept HS.out hg hdl)
          have HG1 := hide (gr_trans HGj.out hg)
          clear hD hg HD HS HGj
          have HRn := hide (dnext_range (sdie x3 j))
          go_wp2_with fail
          refine (dshift_c w.heap.size (dnext (sdie x3 j)) s1 HD1.out HRn.out.1 HRn.out.2).mono ?_
          rintro e s2 ⟨rfl, hD, hg⟩
          have HD2 := hide hD
          have HS2 := hide (owns_kept HS1.out hg hdl)
          have HG2 := hide (gr_trans HG1.out hg)
          clear hD hg HD1 HS1 HG1
          rw [← HSS.out] at HD2
          have hsr := dshift_rg (dnext (sdie x3 j))
          generalize dmult (sdie x3 j) = mu at *
          generalize dshift (dnext (sdie x3 j)) = sh at *
          obtain ⟨hsr1, hsr2⟩ := hsr
          go_wp2_with fail
          refine (scale2_c mu (sh + 7) s2).mono ?_
          rintro e s3 ⟨rfl, hg⟩
          obtain ⟨bs, Hbs⟩ : ∃ bs, Hid (S8 (w4 mu ++ [b8 (sh + 7)]) = bs) := ⟨_, rfl⟩
          rw [Hbs.out] at Hsv ⊢
          have HD3 := hide (Blk.kept HD2.out hg (by simp))
          have HS3 := hide (owns_kept0 HS2.out hg)
          have HG3 := hide (gr_trans HG2.out (gr_none hg))
          clear hg HD2 HS2 HG2 hsr1 hsr2
          have hj3 := Hlt.out
          have hsz3 := HG3.out.size
          go_wp2_with (at_builtin; refine wpList_append_own _ rfl _ _ 88 rfl qe.heap.size 9 i0 (.string ⟨#[]⟩) 1 16 Tryz.underlying88 hi hz0 hz1 hz2 rfl (by decide) _ _ _ rfl (World.ownsRow.alloc HS3.out _) ⟨s3.heap.size, 0, none⟩ 1 1 [.string bs] rfl rfl ?c1 ?c2 ?c3 ?c4 ?c5 ?_)
          case c1 => exact news_at1 s3 9 #[.string bs]
          case c2 => intro u hu; simp at hu; subst hu; rfl
          case c3 => unfold maxLen; omega
          case c4 => omega
          case c5 => simp; omega
          intro v' s4 hown' hgrow _
          have hga : s3.grownBy s4 u16.ownBlock := gr_trans (World.grownBy_alloc _ _ _) hgrow
          have hlt4 := owns_row_lt HS3.out
          have HD4 := hide (Blk.kept HD3.out hga (by intro e; have := hlt4 _ e.symm; omega))
          have HG4 := hide (gr_own HG3.out hga hlt4)
          rw [← Hsv.out, ← HSU.out] at hown'
          have HS4 := hide hown'
          clear hown' hgrow hga hlt4 HD3 HG3 HS3 Hsv HSU hsz3
          go_wp2
          go_roundw
          case rel => exact ⟨j + 1, (by have := Hlt.out; unfold Hid; omega), by go_num, HS4.out, HD4.out, HG4.out⟩
          case measure => have := Hlt.out; simp [intOf]; omega
        · have hd : decide ((j : Int) < 3) = false := decide_eq_false (by omega)
          obtain rfl : j = 3 := by have := Hj.out; omega
          obtain ⟨asl, csl, hv⟩ := owns_shape HS.out
          subst hv
          have HXf := hide (HXe.out.kept hgj l1)
          have HYf := hide (HYe.out.kept hgj (by omega))
          have HGf := hide (gr_new HGe.out hgj (Nat.le_refl _))
          have HRf := hide (sdie_range HR3.out.1 HR3.out.2 3)
          have hqe := hgj.size
          clear hlt hgj HXe HYe HGe HDe Hj hi hz0 hz1 hz2
          go_wp2_with fail
          refine (dzero_c w.heap.size (sdie x3 3) wr HD.out HRf.out.1 HRf.out.2).mono ?_
          rintro e qf ⟨rfl, hD, hg⟩
          have HSf := hide (owns_kept HS.out hg hdl)
          have HXg := hide (HXf.out.kept hg l1)
          have HYg := hide (HYf.out.kept hg (by omega))
          have HGg := hide (gr_new HGf.out hg (Nat.le_refl _))
          have HZO := hide (dzero_rg (sdie x3 3))
          clear hD hg HS HD HXf HYf HGf hd HRf
          generalize dzero (sdie x3 3) = zo at *
          obtain ⟨qw, Hqw⟩ : ∃ qw, Hid ((((qf.alloc (.cells #[.int .i64 0, .int .i64 1] 3)).alloc (.cells #[.int .i64 1, .int .i64 0] 3)).alloc (.cells #[.slice (some ⟨qf.heap.size, 0, none⟩) 2 2, .slice (some ⟨qf.heap.size + 1, 0, none⟩) 2 2] 33)) = qw) := ⟨_, rfl⟩
          have gw : qf.grownBy qw none := by rw [← Hqw.out]; exact gr_trans (gr_alloc2 _ _ _ _) (World.grownBy_alloc _ _ _)
          have B0 : Blk qw qf.heap.size 3 #[.int .i64 0, .int .i64 1] := by rw [← Hqw.out]; exact ((Blk.new qf 3 #[.int .i64 0, .int .i64 1]).alloc _).alloc _
          have B1 : Blk qw (qf.heap.size + 1) 3 #[.int .i64 1, .int .i64 0] := by rw [← Hqw.out]; exact (Blk.new1 qf _ 3 #[.int .i64 1, .int .i64 0]).alloc _
          have B2 : Blk qw (qf.heap.size + 2) 33 #[.slice (some ⟨qf.heap.size, 0, none⟩) 2 2, .slice (some ⟨qf.heap.size + 1, 0, none⟩) 2 2] := by
            rw [← Hqw.out]
            have e := Blk.new1 (qf.alloc (.cells #[.int .i64 0, .int .i64 1] 3)) (.cells #[.int .i64 1, .int .i64 0] 3) 33 #[.slice (some ⟨qf.heap.size, 0, none⟩) 2 2, .slice (some ⟨qf.heap.size + 1, 0, none⟩) 2 2]
            rw [World.size_alloc] at e
            exact e
          have HB0 := hide B0
          have HB1 := hide B1
          have HB2 := hide B2
          have HSw := hide (owns_kept0 HSf.out gw)
          have HXw := hide (HXg.out.kept0 gw)
          have HYw := hide (HYg.out.kept0 gw)
          have HGw := hide (gr_trans HGg.out gw)
          clear gw B0 B1 B2 HSf HXg HYg HGg
          obtain ⟨i0, hi, hz0, hz1, hz2⟩ := info_parts Tryz.info74
          have hz' := HZ.out
          obtain ⟨z0, z1⟩ := hz'
          go_wp2
          rw [Hqw.out]
          go_loopw [23, 24] (fun v i wp => ∃ (j : Nat) (ms : List Nat), Hid (j ≤ 2) ∧ i = .int .i64 j ∧ Hid (ms.length = j) ∧ Hid (wp.ownsRow qw.heap.size 74 1 v j (ms.map fun b => Value.pointer (some ⟨b, 0, none⟩))) ∧ Hid (∀ (i : Nat) b, ms[i]? = some b → Mm wp b (sadd z zo x3 i)) ∧ qw.grownBy wp none) (fun _ i _ => 2 - (intOf i).toNat)
          case atStart => exact ⟨0, [], (show 0 ≤ 2 by decide), rfl, rfl, World.ownsRow_nil _ _ _ _, (fun i b h => by simp at h), World.grownBy.refl _ _⟩
          case round =>
            obtain ⟨j, ms, Hj, rfl, Hml, HO, HM, hgj⟩ := hrel
            by_cases hlt : j < 2
            · have hj2 : (j : Int) < 2 := by omega
              have Hlt := hide hlt
              have P0 := hide (MP.new wr)
              have G0 := hide (World.grownBy_alloc wr (.cells #[.string ⟨#[]⟩, .string ⟨#[]⟩, .int .i64 0, .int .i64 0, .slice none 0 0] 81) none)
              have HGj := hide hgj
              clear hlt hgj
              go_wp2_with fail
              refine (mten wr.heap.size [] [] _ (D.tIn 2 3 2 z) none 0 0 _ P0.out (Ints.nil _ _) (by decide) (show 0 ≤ 1000 by decide) (show 0 ≤ 1000 by decide)).mono ?_
              rintro e p1 ⟨rfl, hP, hg⟩
              have G1 := hide (gr_new G0.out hg (Nat.le_refl _))
              have P1 := hide hP
              clear hP hg P0 G0
              go_wp2_with fail
              refine (mten wr.heap.size [D.tIn 2 3 2 z] [] _ (D.tIn 2 3 2 (z + 3)) none 0 0 _ P1.out (Ints.nil _ _) (show 5 ≤ 100000 by decide) (show 0 ≤ 1000 by decide) (show 1 ≤ 1000 by decide)).mono ?_
              rintro e p2 ⟨rfl, hP, hg⟩
              have G2 := hide (gr_new G1.out hg (Nat.le_refl _))
              have P2 := hide hP
              clear hP hg P1 G1
              go_wp2_with fail
              refine (mten wr.heap.size ([D.tIn 2 3 2 z] ++ [D.tIn 2 3 2 (z + 3)]) [] _ (D.tMid 2 3 2 zo) none 0 0 _ P2.out (Ints.nil _ _) (show 10 ≤ 100000 by decide) (show 0 ≤ 1000 by decide) (show 2 ≤ 1000 by decide)).mono ?_
              rintro e p3 ⟨rfl, hP, hg⟩
              have G3 := hide (gr_new G2.out hg (Nat.le_refl _))
              have P3 := hide hP
              clear hP hg P2 G2
              have BI := hide (Blk.new p3 3 #[.int .i64 0, .int .i64 1])
              have P4 := hide (P3.out.kept (World.grownBy_alloc p3 (.cells #[.int .i64 0, .int .i64 1] 3) none) (by simp))
              have G4 := hide (gr_trans G3.out (World.grownBy_alloc p3 (.cells #[.int .i64 0, .int .i64 1] 3) none))
              clear P3 G3
              go_wp2_with fail
              refine (span_c (-128) 127 _).mono ?_
              rintro e p5 ⟨rfl, hg⟩
              have G5 := hide (gr_trans G4.out hg)
              have P5 := hide (P4.out.kept hg (by simp))
              have BI5 := hide (Blk.kept BI.out hg (by simp))
              clear hg P4 G4 BI
              have GW5 := hide (gr_trans HGj.out G5.out)
              obtain ⟨p, q, hpq, hsa⟩ := sadd_way z zo x3 j Hlt.out
              have Hsa := hide hsa
              have hp2 : (p : Int) < 2 := by omega
              have hq2 : (q : Int) < 2 := by omega
              have hp3 : (p : Int) < 3 := by omega
              have hq3 : (q : Int) < 3 := by omega
              have c1 : p5.cell? ⟨qf.heap.size + 2, j, none⟩ = some (.slice (some ⟨qf.heap.size + j, 0, none⟩) 2 2) := by
                rw [(Blk.kept HB2.out GW5.out (by simp)).cell j]
                rcases hpq with ⟨rfl, -, -⟩ | ⟨rfl, -, -⟩ <;> rfl
              have c2 : p5.cell? ⟨qf.heap.size + j, 0, none⟩ = some (.int .i64 p) := by
                rcases hpq with ⟨rfl, rfl, rfl⟩ | ⟨rfl, rfl, rfl⟩
                · exact (Blk.kept HB0.out GW5.out (by simp)).cell 0
                · exact (Blk.kept HB1.out GW5.out (by simp)).cell 0
              have c3 : p5.cell? ⟨qf.heap.size + j, 1, none⟩ = some (.int .i64 q) := by
                rcases hpq with ⟨rfl, rfl, rfl⟩ | ⟨rfl, rfl, rfl⟩
                · exact (Blk.kept HB0.out GW5.out (by simp)).cell 1
                · exact (Blk.kept HB1.out GW5.out (by simp)).cell 1
              have c4 : p5.cell? ⟨p3.heap.size, p, none⟩ = some (.int .i64 p) := by
                rcases hpq with ⟨rfl, rfl, rfl⟩ | ⟨rfl, rfl, rfl⟩
                · exact BI5.out.cell 0
                · exact BI5.out.cell 1
              have c5 : p5.cell? ⟨p3.heap.size, q, none⟩ = some (.int .i64 q) := by
                rcases hpq with ⟨rfl, rfl, rfl⟩ | ⟨rfl, rfl, rfl⟩
                · exact BI5.out.cell 1
                · exact BI5.out.cell 0
              obtain ⟨gs, has, hgs, -, hcs⟩ := owns_some (owns_kept0 HSw.out GW5.out) (by decide)
              subst has
              have c6 : p5.cell? ⟨gs, p, none⟩ = some (.string (S8 (sbytes (ssc x3 p)))) := by
                rcases hpq with ⟨rfl, rfl, rfl⟩ | ⟨rfl, rfl, rfl⟩
                · exact hcs 0 (by decide)
                · exact hcs 1 (by decide)
              have c7 : p5.cell? ⟨gs, q, none⟩ = some (.string (S8 (sbytes (ssc x3 q)))) := by
                rcases hpq with ⟨rfl, rfl, rfl⟩ | ⟨rfl, rfl, rfl⟩
                · exact hcs 1 (by decide)
                · exact hcs 0 (by decide)
              have c8 : p5.cell? ⟨gs, 2, none⟩ = some (.string (S8 (sbytes (ssc x3 2)))) := hcs 2 (by decide)
              have Hpq := hide hpq
              clear hcs hpq hsa
              have Hsn := hide (own_add p q (ssc x3 p) (ssc x3 q) (ssc x3 2))
              have hs1 : (S8 (sbytes (ssc x3 p))).size = 5 := by rw [s8_size]; rfl
              have hs2 : (S8 (sbytes (ssc x3 q))).size = 5 := by rw [s8_size]; rfl
              have hs3 : (S8 (sbytes (ssc x3 2))).size = 5 := by rw [s8_size]; rfl
              have hs4 : (S8 [b8 (-128), b8 127]).size = 2 := by rw [s8_size]; rfl
              generalize S8 (sbytes (ssc x3 p)) = tp at *
              generalize S8 (sbytes (ssc x3 q)) = tq at *
              generalize S8 (sbytes (ssc x3 2)) = tu at *
              generalize S8 [b8 (-128), b8 127] = ts at *
              have r1 := cell_regrown c1
              have r2 := cell_regrown c2
              have r3 := cell_regrown c3
              have r4 := cell_regrown c4
              have r5 := cell_regrown c5
              have r6 := cell_regrown c6
              have r7 := cell_regrown c7
              have r8 := cell_regrown c8
              clear c1 c2 c3 c4 c5 c6 c7 c8
              go_wp2_with fail
              refine wp_region_build_tail 19 46 (fun w' => ∃ p : Regrown, w' = Go.Sort.grow (redrawn p5 p.d) p.os) (p5.drew.alloc (.cells #[.int .i64 p, .int .i64 q] 3)) (by kernel_rfl) (by kernel_rfl) (by decide) ⟨⟨p5.drawn + 1, #[]⟩, by rw [Go.Sort.grow_empty]; rfl⟩ ⟨⟨p5.drawn + 1, #[.cells #[.int .i64 p, .int .i64 q] 3]⟩, rfl⟩ ?_
              simp only [List.take_succ_cons, List.take_zero, List.drop_succ_cons, List.drop_zero]
              repeat (refine wpT_step (by decide) (fun K hK => ?_); go_simp; refine hK _ ?_; clear hK K)
              refine wpT_build (.slice (some ⟨p5.heap.size, 0, none⟩) 2 2) ?hw ?hr ?_
              case hw => rfl
              case hr => go_simp
              repeat (refine wpT_step (by decide) (fun K hK => ?_); go_simp; refine hK _ ?_; clear hK K)
              refine wpT_nil ?_
              clear r1 r2 r3 r4 r5 r6 r7 r8
              have ga := gr_trans (gr_drew p5 none) (World.grownBy_alloc p5.drew (.cells #[.int .i64 p, .int .i64 q] 3) none)
              have P6 := hide (P5.out.kept ga (by simp))
              have G6 := hide (gr_trans G5.out ga)
              have J6 := hide (Ints.of_blk (base := 0) (xs := [(p : Int), (q : Int)]) (n := 2) (Nat.zero_le _) rfl (by decide) (Blk.new p5.drew 3 #[.int .i64 p, .int .i64 q]))
              clear ga P5 G5 BI5 GW5
              go_wp2_with fail
              rw [Hsn.out]
              refine (mopr wr.heap.size ([D.tIn 2 3 2 z] ++ [D.tIn 2 3 2 (z + 3)] ++ [D.tMid 2 3 2 zo]) [] _ (D.oAdd p q 2 (ssc x3 p) (ssc x3 q) (ssc x3 2) (-128) 127) _ (some ⟨p5.heap.size, 0, none⟩) 2 2 _ P6.out (fun o ho => absurd ho (by simp)) J6.out rfl (show 17 ≤ 1000 by decide) (by decide)).mono ?_
              rintro e p7 ⟨rfl, hP, hg⟩
              have G7 := hide (gr_new G6.out hg (Nat.le_refl _))
              have e4 : p7.cell? ⟨wr.heap.size, 4, none⟩ = some (.slice none 0 0) := Blk.cell hP 4
              have f4 := Blk.free hP 4
              have hlq : wr.heap.size < p7.heap.size := hP.lt
              have HIS := hide (sadd_is z zo x3 HZ.out HZO.out j)
              rw [Hsa.out] at HIS
              have MN := hide (outs_set (v := 2) (m := D.mAdd z zo p q (ssc x3 p) (ssc x3 q) (ssc x3 2)) hP rfl rfl rfl HIS.out (show 15 ≤ 100000 by decide) (show 1 ≤ 100 by decide))
              have GG := hide (gr_trans (gr_new G7.out (gr_set p7 wr.heap.size 4 (.slice (some ⟨p7.heap.size, 0, none⟩) 1 1)) (Nat.le_refl _)) (World.grownBy_alloc _ (.cells #[.int .i64 2] 3) none))
              rw [← Hsa.out] at MN
              clear hP hg P6 J6 G6 G7 HIS Hsn hs1 hs2 hs3 hs4
              have HO8 := hide (owns_kept0 HO.out GG.out)
              have HM8 : Hid (∀ (i : Nat) b, ms[i]? = some b → Mm ((p7.setCell ⟨wr.heap.size, 4, none⟩ (.slice (some ⟨p7.heap.size, 0, none⟩) 1 1)).alloc (.cells #[.int .i64 2] 3)) b (sadd z zo x3 i)) := fun i b h => (HM.out i b h).kept0 GG.out
              have HG8 := hide (gr_trans HGj.out GG.out)
              have hE : ((p7.setCell ⟨wr.heap.size, 4, none⟩ (.slice (some ⟨p7.heap.size, 0, none⟩) 1 1)).alloc (.cells #[.int .i64 2] 3)).heap.size = p7.heap.size + 1 := by rw [World.size_alloc, World.size_setCell]
              have HE := hide hE
              have hsz8 : qw.heap.size ≤ p7.heap.size + 1 := by rw [← hE]; exact HG8.out.size
              have hj3 := Hlt.out
              clear HO HM HGj GG hE
              go_wp2_with (at_builtin; refine wpList_append_own _ rfl _ _ 86 rfl qw.heap.size 74 i0 (.pointer none) 1 8 Tryz.underlying86 hi hz0 hz1 hz2 rfl (by decide) _ _ _ rfl (World.ownsRow.alloc HO8.out _) ⟨p7.heap.size + 1, 0, none⟩ 1 1 [.pointer (some ⟨wr.heap.size, 0, none⟩)] rfl rfl ?c1 ?c2 ?c3 ?c4 ?c5 ?_)
              case c1 =>
                have e := news_at1 ((p7.setCell ⟨wr.heap.size, 4, none⟩ (.slice (some ⟨p7.heap.size, 0, none⟩) 1 1)).alloc (.cells #[.int .i64 2] 3)) 74 #[.pointer (some ⟨wr.heap.size, 0, none⟩)]
                rw [HE.out] at e
                exact e
              case c2 => intro u hu; simp at hu; subst hu; rfl
              case c3 => unfold maxLen; omega
              case c4 => omega
              case c5 => simp; omega
              intro v' s4 hown' hgrow _
              have hga : ((p7.setCell ⟨wr.heap.size, 4, none⟩ (.slice (some ⟨p7.heap.size, 0, none⟩) 1 1)).alloc (.cells #[.int .i64 2] 3)).grownBy s4 u23.ownBlock := gr_trans (World.grownBy_alloc _ _ _) hgrow
              have hlt4 := owns_row_lt HO8.out
              have HG9 := hide (gr_own HG8.out hga hlt4)
              have HM9 : Hid (∀ (i : Nat) b, (ms ++ [wr.heap.size])[i]? = some b → Mm s4 b (sadd z zo x3 i)) := fun i b h => by
                have hl := Hml.out
                rcases Nat.lt_or_ge i ms.length with h' | h'
                · rw [List.getElem?_append_left h'] at h
                  exact (HM8.out i b h).aside HO8.out hga
                · rw [List.getElem?_append_right h'] at h
                  have hij : i = j := by
                    rcases Nat.lt_or_ge (i - ms.length) 1 with h2 | h2
                    · omega
                    · rw [List.getElem?_eq_none (by simp; omega)] at h; exact absurd h (by simp)
                  subst hij
                  rw [hl, Nat.sub_self] at h
                  injection h with h
                  subst h
                  exact MN.out.aside HO8.out hga
              have HO9 : Hid (s4.ownsRow qw.heap.size 74 1 v' (j + 1) ((ms ++ [wr.heap.size]).map fun b => Value.pointer (some ⟨b, 0, none⟩))) := by
                rw [List.map_append]; exact hown'
              have Hml2 : Hid ((ms ++ [wr.heap.size]).length = j + 1) := by have := Hml.out; unfold Hid; simp; omega
              clear hown' hgrow hga hlt4 HG8 HM8 HO8 MN HE hsz8 e4 f4 hlq
              go_wp2
              go_roundw
              case rel => exact ⟨j + 1, ms ++ [wr.heap.size], (by have := Hlt.out; unfold Hid; omega), by go_num, Hml2.out, HO9.out, HM9.out, HG9.out⟩
              case measure => have := Hlt.out; simp [intOf]; omega
            · have hd : decide ((j : Int) < 2) = false := decide_eq_false (by omega)
              obtain rfl : j = 2 := by have := Hj.out; omega
              obtain ⟨apv, cpv, hv⟩ := owns_shape HO.out
              subst hv
              obtain ⟨m0, m1, hms⟩ : ∃ m0 m1, ms = [m0, m1] := by
                have hl := Hml.out
                match ms, hl with
                | [m0, m1], _ => exact ⟨m0, m1, rfl⟩
              subst hms
              obtain ⟨gp, hap, -, -, hcs⟩ := owns_some HO.out (by decide)
              subst hap
              have c1 : wr.cell? ⟨gp, 0, none⟩ = some (.pointer (some ⟨m0, 0, none⟩)) := hcs 0 (by decide)
              have c2 : wr.cell? ⟨gp, 1, none⟩ = some (.pointer (some ⟨m1, 0, none⟩)) := hcs 1 (by decide)
              have HM0 := hide (HM.out 0 m0 rfl)
              have HM1 := hide (HM.out 1 m1 rfl)
              have HXz := hide ((HXw.out.kept0 hgj).mono (Nat.zero_le _))
              have HYz := hide ((HYw.out.kept0 hgj).mono (Nat.zero_le _))
              have HGz := hide (gr_trans HGw.out hgj)
              have r1 := cell_regrown c1
              have r2 := cell_regrown c2
              clear hlt hgj HXw HYw HGw HO HM hcs c1 c2 HSw HB0 HB1 HB2 Hj Hml
              go_wp2_with fail
              refine wp_region_build_tail 8 9 (fun w' => ∃ p : Regrown, w' = Go.Sort.grow (redrawn wr p.d) p.os) (wr.drew.alloc (.cells #[.slice (some ⟨q1.heap.size, 0, none⟩) 12 12, .slice (some ⟨q2.heap.size, 0, none⟩) 12 12] 33)) (by kernel_rfl) (by kernel_rfl) (by decide) ⟨⟨wr.drawn + 1, #[]⟩, by rw [Go.Sort.grow_empty]; rfl⟩ ⟨⟨wr.drawn + 1, #[.cells #[.slice (some ⟨q1.heap.size, 0, none⟩) 12 12, .slice (some ⟨q2.heap.size, 0, none⟩) 12 12] 33]⟩, rfl⟩ ?_
              simp only [List.take_succ_cons, List.take_zero, List.drop_succ_cons, List.drop_zero]
              repeat (refine wpT_step (by decide) (fun K hK => ?_); go_simp; refine hK _ ?_; clear hK K)
              refine wpT_build (.slice (some ⟨wr.heap.size, 0, none⟩) 2 2) ?hw ?hr ?_
              case hw => rfl
              case hr => go_simp
              refine wpT_nil ?_
              clear r1 r2
              have ga := gr_trans (gr_drew wr none) (World.grownBy_alloc wr.drew (.cells #[.slice (some ⟨q1.heap.size, 0, none⟩) 12 12, .slice (some ⟨q2.heap.size, 0, none⟩) 12 12] 33) none)
              have HL := hide (two_list (HXz.out.kept0 (gr_drew wr none)) (HYz.out.kept0 (gr_drew wr none)))
              have HM0a := hide (HM0.out.kept0 ga)
              have HM1a := hide (HM1.out.kept0 ga)
              have HGa := hide (gr_trans HGz.out ga)
              clear ga HM0 HM1 HGz HXz HYz
              go_wp2_with fail
              refine (alike_m m0 m1 _ _ (some ⟨wr.heap.size, 0, none⟩) 2 2 [xs, ys] _ HM0a.out HM1a.out HL.out (by intro l hl; simp at hl; rcases hl with rfl | rfl; (rw [Hlx.out]; decide); (rw [Hly.out]; decide)) (show 2 ≤ 9223372036854775807 by decide) (in_hold2 _ xs ys 12 12 rfl Hlx.out Hly.out Hcx.out Hcy.out) (in_hold2 _ xs ys 12 12 rfl Hlx.out Hly.out Hcx.out Hcy.out) (run_same xs ys)).mono ?_
              rintro e wz ⟨rfl, hg⟩
              have HF := hide (gr_trans HGa.out hg)
              clear hg
              go_wp2
              go_ret
              exact ⟨rfl, HF.out⟩

theorem shapeL_c (a0 a1 a2 : Int) (w : World) (ha : -9223372036854775808 ≤ a0) (hb : a0 ≤ 9223372036854775807) :
    Calls Tryz.prog 13 #[.int .i64 a0, .int .i64 a1, .int .i64 a2] w fun e w' => e = .returned (.bool true) ∧ w.grownBy w' none := by
  go_enter Tryz.func13, Tryz.ntmps13
  go_wp2_with fail
  refine (shaped_c a0 w ha hb).mono ?_
  rintro e w1 ⟨rfl, hg1⟩
  go_wp2
  go_ret
  exact ⟨rfl, hg1⟩

end Go.Proofs.YtcnhfffgbamonaaGreat
