/-
  The law Known: constants for inputs. (Written by a small program of ours: wip/gen/kn.py.)
-/
import Derived.Test.YtcnhfffgbamonaaGreatMw1
import Derived.Test.YtcnhfffgbamonaaGreatLaB
import Derived.Test.YtcnhfffgbamonaaGreatPsA
namespace Go.Proofs.YtcnhfffgbamonaaGreat
open Go.RowKit Go.Sort

def ksc (x : Int) (k : Nat) : M.Sc := ⟨dmult (sdie x k), dshift (dnext (sdie x k)) + 8⟩
theorem ksc_ok (x : Int) (k : Nat) : D.SOk (ksc x k) := by
  have h1 := dmult_rg (sdie x k)
  have h2 := dshift_rg (dnext (sdie x k))
  exact ⟨h1.1, h1.2, by show -31 ≤ dshift _ + 8; omega, by show dshift _ + 8 ≤ 30; omega⟩
def kb (x : Int) : Nat → List UInt8
  | 0 => []
  | k + 1 => kb x k ++ sbytes (ksc x k)
theorem kb_len (x : Int) (k : Nat) : (kb x k).length = 5 * k := by
  induction k with
  | zero => rfl
  | succ k ih =>
    show (kb x k ++ sbytes (ksc x k)).length = _
    rw [List.length_append, ih]
    show 5 * k + 5 = _
    omega
theorem kb_cat (x : Int) (k : Nat) : S8 (kb x k) ++ S8 (w4 (dmult (sdie x k)) ++ [b8 (dshift (dnext (sdie x k)) + 8)]) = S8 (kb x (k + 1)) := by rw [s8_app]; rfl
theorem own_known (x : Int) : S8 (kb x 3) ++ S8 [b8 (-100), b8 100] = S8 (ownBytes (D.oAdd 0 1 3 (ksc x 0) (ksc x 1) (ksc x 2) (-100) 100)) := by rw [s8_app]; rfl

def kmod (z zo y : Int) (xs ys : List Int) : Nat → M.Md
  | 0 => D.mKnown 0 z [] [] zo (ksc y 0) (ksc y 1) (ksc y 2)
  | _ + 1 => D.mKnown 1 z xs ys zo (ksc y 0) (ksc y 1) (ksc y 2)
theorem kmod_is (z zo y : Int) (xs ys : List Int) (hz : -20 ≤ z ∧ z ≤ 20) (hzo : -20 ≤ zo ∧ zo ≤ 20) (hx : xs.length = 12 ∧ D.Cells xs) (hy : ys.length = 12 ∧ D.Cells ys) (k : Nat) : D.Is (kmod z zo y xs ys k) := by
  cases k with
  | zero => exact D.is_known 0 z [] [] zo _ _ _ (.inl ⟨rfl, rfl, rfl⟩) (by unfold D.ZOk; omega) (by unfold D.ZOk; omega) (ksc_ok _ _) (ksc_ok _ _) (ksc_ok _ _)
  | succ k => exact D.is_known 1 z xs ys zo _ _ _ (.inr ⟨rfl, hx, hy⟩) (by unfold D.ZOk; omega) (by unfold D.ZOk; omega) (ksc_ok _ _) (ksc_ok _ _) (ksc_ok _ _)
theorem kmod_alike (z zo y : Int) (xs ys : List Int) : D.run (kmod z zo y xs ys 0) [xs, ys] = D.run (kmod z zo y xs ys 1) [] := D.known_alike _ _ _ _ _ _ _
theorem kmod_steps (z zo y : Int) (xs ys : List Int) : (H.shrink (kmod z zo y xs ys 1)).ops.length = 0 := D.steps_known _ _ _ _ _ _ _

set_option linter.unusedSimpArgs false in
set_option maxRecDepth 100000 in
set_option maxHeartbeats 8000000 in
theorem knownl_c (a b : Int) (w : World) (ha0 : 0 ≤ a) (ha1 : a < 1073741824) (hb0 : 0 ≤ b) (_hb1 : b < 1000) :
    Calls Tryz.prog 24 #[.int .i64 a, .int .i64 b] w fun e w' => e = .returned (.bool true) ∧ w.grownBy w' none := by
  obtain ⟨x, Hx⟩ : ∃ x, Hid (pickOf a 2147483648 = x) := ⟨_, rfl⟩
  have R0 : 0 ≤ x ∧ x < 2147483648 := by rw [← Hx.out]; exact ⟨Int.emod_nonneg _ (by decide), Int.emod_lt_of_pos _ (by decide)⟩
  obtain ⟨r, hr⟩ : ∃ r, b % 7 = r := ⟨_, rfl⟩
  have hr1 : 0 ≤ r ∧ r < 7 := by omega
  have hrt : Int.tmod b 7 = r := by rw [Int.tmod_eq_emod_of_nonneg hb0]; exact hr
  obtain ⟨y0, Hy⟩ : ∃ y0, Hid (pickOf (a + r) 2147483648 = y0) := ⟨_, rfl⟩
  have RY : 0 ≤ y0 ∧ y0 < 2147483648 := by rw [← Hy.out]; exact ⟨Int.emod_nonneg _ (by decide), Int.emod_lt_of_pos _ (by decide)⟩
  have R1 := dnext_range x
  have R2 := dcells_range 12 (dnext x) R1.1 R1.2
  obtain ⟨z, Hz⟩ : ∃ z, Hid (dzero x = z) := ⟨_, rfl⟩
  have HZ : Hid (-20 ≤ z ∧ z ≤ 20) := by rw [← Hz.out]; exact dzero_rg x
  obtain ⟨zo, Hzo⟩ : ∃ zo, Hid (dzero y0 = zo) := ⟨_, rfl⟩
  have HZO : Hid (-20 ≤ zo ∧ zo ≤ 20) := by rw [← Hzo.out]; exact dzero_rg y0
  have RY1 := dnext_range y0
  obtain ⟨y1, Hy1⟩ : ∃ y1, Hid (dnext y0 = y1) := ⟨_, rfl⟩
  rw [Hy1.out] at RY1
  have Hcx := hide (dcells_ok 12 (dnext x))
  have Hlx := hide (dcells_len 12 (dnext x))
  obtain ⟨xs, Hxs⟩ : ∃ xs, Hid ((dcells 12 (dnext x)).1 = xs) := ⟨_, rfl⟩
  obtain ⟨x2, Hx2⟩ : ∃ x2, Hid ((dcells 12 (dnext x)).2 = x2) := ⟨_, rfl⟩
  rw [Hxs.out] at Hcx Hlx
  rw [Hx2.out] at R2
  have Hcy := hide (dcells_ok 12 x2)
  have Hly := hide (dcells_len 12 x2)
  obtain ⟨ys, Hys⟩ : ∃ ys, Hid ((dcells 12 x2).1 = ys) := ⟨_, rfl⟩
  rw [Hys.out] at Hcy Hly
  go_enter Tryz.func24, Tryz.ntmps24
  go_wp2_with fail
  refine (seeded_c a w (by omega) (by omega)).mono ?_
  rintro e q0 ⟨rfl, D0, g0⟩
  rw [Hx.out] at D0
  have HD0 := hide D0
  have HG0 := hide g0
  clear D0 g0
  go_wp2_with fail
  refine (dzero_c w.heap.size x q0 HD0.out R0.1 R0.2).mono ?_
  rintro e q1 ⟨rfl, D1, g1⟩
  rw [Hz.out]
  have HD1 := hide D1
  have HG1 := hide (gr_new HG0.out g1 (Nat.le_refl _))
  clear D1 g1 HD0 HG0
  go_wp2_with fail
  refine (dcells_c w.heap.size (dnext x) 12 q1 HD1.out R1.1 R1.2 (by decide)).mono ?_
  rintro e q2 ⟨rfl, hI, D2, g2⟩
  rw [Hx2.out] at D2
  rw [Hxs.out] at hI
  have HX2 := hide (hI.mono (Nat.zero_le _))
  have HD2 := hide D2
  have HG2 := hide (gr_new HG1.out g2 (Nat.le_refl _))
  clear hI D2 g2 HD1 HG1
  go_wp2_with fail
  refine (dcells_c w.heap.size x2 12 q2 HD2.out R2.1 R2.2 (by decide)).mono ?_
  rintro e q3 ⟨rfl, hI, D3, g3⟩
  rw [Hys.out] at hI
  have HY3 := hide (hI.mono (Nat.zero_le _))
  have HX3 := hide (HX2.out.apart HD2.out (by decide) g3)
  have HG3 := hide (gr_new HG2.out g3 (Nat.le_refl _))
  clear hI D3 g3 HD2 HG2 HX2
  obtain ⟨qw, Hqw⟩ : ∃ qw, Hid (q3.alloc (.cells #[.int .i64 0, .int .i64 1] 3) = qw) := ⟨_, rfl⟩
  have gw : q3.grownBy qw none := by rw [← Hqw.out]; exact World.grownBy_alloc _ _ _
  have HBK : Hid (Blk qw q3.heap.size 3 #[.int .i64 0, .int .i64 1]) := by rw [← Hqw.out]; exact Blk.new q3 3 _
  have HXw := hide (HX3.out.kept0 gw)
  have HYw := hide (HY3.out.kept0 gw)
  have HGw := hide (gr_trans HG3.out gw)
  clear gw HX3 HY3 HG3
  obtain ⟨i0, hi, hz0, hz1, hz2⟩ := info_parts Tryz.info74
  have hz' := HZ.out
  go_wp2
  rw [Hqw.out]
  go_loopw [10, 11] (fun v i wp => ∃ (j : Nat) (ms : List Nat), Hid (j ≤ 2) ∧ i = .int .i64 j ∧ Hid (ms.length = j) ∧ Hid (wp.ownsRow qw.heap.size 74 1 v j (ms.map fun b => Value.pointer (some ⟨b, 0, none⟩))) ∧ Hid (∀ (i : Nat) b, ms[i]? = some b → Mm wp b (kmod z zo y1 xs ys i)) ∧ qw.grownBy wp none) (fun _ i _ => 2 - (intOf i).toNat)
  case atStart => exact ⟨0, [], (show 0 ≤ 2 by decide), rfl, rfl, World.ownsRow_nil _ _ _ _, (fun i b h => by simp at h), World.grownBy.refl _ _⟩
  case round =>
    obtain ⟨j, ms, Hj, rfl, Hml, HO, HM, hgj⟩ := hrel
    rcases (show j = 0 ∨ j = 1 ∨ j = 2 by have := Hj.out; omega) with rfl | rfl | rfl
    · have HGj := hide hgj
      obtain ⟨v0, rfl⟩ : ∃ q, q = wr := ⟨_, rfl⟩
      clear hgj
      go_wp2_with fail
      refine (seeded_c (a + r) v0 (by omega) (by omega)).mono ?_
      rintro e s0 ⟨rfl, E0, ge⟩
      rw [Hy.out] at E0
      have le := Blk.lt E0
      have X0 : Hid (DP v0 (s0.alloc (.cells #[.string ⟨#[]⟩, .string ⟨#[]⟩, .int .i64 0, .int .i64 0, .slice none 0 0] 81)) v0.heap.size y0 s0.heap.size [] [] (.slice none 0 0)) := ⟨gr_trans ge (World.grownBy_alloc _ _ _), Blk.alloc E0 _, MP.new s0, Nat.le_refl _, le⟩
      have ck := (HBK.out.kept (gr_trans HGj.out X0.out.g) (by simp)).cell 0
      clear ge E0
      go_wp2_with fail
      refine (mten s0.heap.size [] [] _ (D.tKn 0 z []) _ _ _ _ X0.out.P (Ints.nil _ _) (by decide) (by have h1 := Hlx.out; have h2 := Hly.out; simp [D.tKn]; try omega) (by decide)).mono ?_
      rintro e p1 ⟨rfl, hP, hg⟩
      have X1 := hide (X0.out.mod hP hg)
      clear hP hg X0 ck
      have ck := (HBK.out.kept (gr_trans HGj.out X1.out.g) (by simp)).cell 0
      go_wp2_with fail
      refine (mten s0.heap.size ([D.tKn 0 z []]) [] _ (D.tKn 0 z []) _ _ _ _ X1.out.P (Ints.nil _ _) (by have h1 := Hlx.out; have h2 := Hly.out; unfold sizeT; simp [D.tKn, D.tMid]; try omega) (by have h1 := Hlx.out; have h2 := Hly.out; simp [D.tKn]; try omega) (show 1 ≤ 1000 by decide)).mono ?_
      rintro e p2 ⟨rfl, hP, hg⟩
      have X2 := hide (X1.out.mod hP hg)
      clear hP hg X1 ck
      go_wp2_with fail
      refine (mten s0.heap.size ([D.tKn 0 z []] ++ [D.tKn 0 z []]) [] _ (D.tMid 2 3 4 z) none 0 0 _ X2.out.P (Ints.nil _ _) (by have h1 := Hlx.out; have h2 := Hly.out; unfold sizeT; simp [D.tKn, D.tMid]; try omega) (show 0 ≤ 1000 by decide) (show 2 ≤ 1000 by decide)).mono ?_
      rintro e p3 ⟨rfl, hP, hg⟩
      have X3 := hide ((X2.out.mod hP hg).none (World.grownBy_alloc p3 (.cells #[.int .i64 0, .int .i64 1] 3) none))
      have J3 := hide (Ints.of_blk (base := 0) (xs := [0, 1]) (n := 2) (Nat.zero_le _) rfl (by decide) (Blk.new p3 3 #[.int .i64 0, .int .i64 1]))
      clear hP hg X2
      go_wp2_with fail
      refine (mopr s0.heap.size ([D.tKn 0 z []] ++ [D.tKn 0 z []] ++ [D.tMid 2 3 4 z]) [] _ (D.oCat 0 1 2) [] (some ⟨p3.heap.size, 0, none⟩) 2 2 _ X3.out.P (fun o ho => absurd ho (by simp)) J3.out rfl (show 0 ≤ 1000 by decide) (by decide)).mono ?_
      rintro e p4 ⟨rfl, hP, hg⟩
      have X4 := hide (X3.out.mod hP hg)
      clear hP hg X3 J3
      go_wp2_with fail
      refine (dzero_c v0.heap.size y0 _ X4.out.D RY.1 RY.2).mono ?_
      rintro e p5 ⟨rfl, hD, hg⟩
      have X5 := hide (X4.out.dieD hD hg)
      rw [Hzo.out]
      rw [Hy1.out] at X5
      clear hD hg X4
      go_wp2_with fail
      refine (mten s0.heap.size ([D.tKn 0 z []] ++ [D.tKn 0 z []] ++ [D.tMid 2 3 4 z]) ([D.oCat 0 1 2]) _ (D.tMid 2 3 2 zo) none 0 0 _ X5.out.P (Ints.nil _ _) (by have h1 := Hlx.out; have h2 := Hly.out; unfold sizeT; simp [D.tKn, D.tMid]; try omega) (show 0 ≤ 1000 by decide) (show 3 ≤ 1000 by decide)).mono ?_
      rintro e p6 ⟨rfl, hP, hg⟩
      have X6 := hide (X5.out.mod hP hg)
      clear hP hg X5
      go_wp2
      go_loopw [21, 22] (fun s i wp => ∃ t : Nat, Hid (t ≤ 3) ∧ i = .int .i64 t ∧ s = .string (S8 (kb y1 t)) ∧ Hid (DP v0 wp v0.heap.size (sdie y1 t) s0.heap.size ([D.tKn 0 z []] ++ [D.tKn 0 z []] ++ [D.tMid 2 3 4 z] ++ [D.tMid 2 3 2 zo]) ([D.oCat 0 1 2]) (.slice none 0 0))) (fun _ i _ => 3 - (intOf i).toNat)
      case atStart => exact ⟨0, (show 0 ≤ 3 by decide), rfl, rfl, X6.out⟩
      case round =>
        clear X6
        obtain ⟨t, Ht, rfl, rfl, HS⟩ := hrel
        by_cases hlt : t < 3
        · have hd : decide ((t : Int) < 3) = true := decide_eq_true (by omega)
          have Hlt := hide hlt
          have HRj := hide (sdie_range RY1.1 RY1.2 t)
          have HRn := hide (dnext_range (sdie y1 t))
          have HSS := hide (show sdie y1 (t + 1) = dnext (dnext (sdie y1 t)) from rfl)
          have Hcat := hide (kb_cat y1 t)
          have hz1 : (S8 (kb y1 t)).size = 5 * t := by rw [s8_size, kb_len]
          have hz2 : (S8 (w4 (dmult (sdie y1 t)) ++ [b8 (dshift (dnext (sdie y1 t)) + 8)])).size = 5 := by rw [s8_size]; rfl
          clear hlt
          go_wp2_with fail
          refine (dmult_c v0.heap.size (sdie y1 t) wr HS.out.D HRj.out.1 HRj.out.2).mono ?_
          rintro e s1 ⟨rfl, hD, hg⟩
          have S1 := hide (HS.out.dieD hD hg)
          clear hD hg HS
          go_wp2_with fail
          refine (dshift_c v0.heap.size (dnext (sdie y1 t)) s1 S1.out.D HRn.out.1 HRn.out.2).mono ?_
          rintro e s2 ⟨rfl, hD, hg⟩
          have S2 := hide (S1.out.dieD hD hg)
          rw [← HSS.out] at S2
          clear hD hg S1
          have hsr := dshift_rg (dnext (sdie y1 t))
          generalize dmult (sdie y1 t) = mu at *
          generalize dshift (dnext (sdie y1 t)) = sh at *
          obtain ⟨hsr1, hsr2⟩ := hsr
          go_wp2_with fail
          refine (scale2_c mu (sh + 8) s2).mono ?_
          rintro e s3 ⟨rfl, hg⟩
          have S3 := hide (S2.out.none hg)
          clear hg S2
          generalize S8 (w4 mu ++ [b8 (sh + 8)]) = tb at *
          generalize S8 (kb y1 t) = ta at *
          have hs3 := Hlt.out
          go_wp2
          go_roundw
          case rel => exact ⟨t + 1, (by have := Hlt.out; unfold Hid; omega), by go_num, by rw [← Hcat.out], S3.out⟩
          case measure => have := Hlt.out; simp [intOf]; omega
        · have hd : decide ((t : Int) < 3) = false := decide_eq_false (by omega)
          obtain rfl : t = 3 := by have := Ht.out; omega
          clear hlt Ht
          have Hsn := hide (own_known y1)
          have hz1 : (S8 (kb y1 3)).size = 15 := by rw [s8_size, kb_len]
          have hz2 : (S8 [b8 (-100), b8 100]).size = 2 := by rw [s8_size]; rfl
          go_wp2_with fail
          refine (span_c (-100) 100 wr).mono ?_
          rintro e p7 ⟨rfl, hg⟩
          have X7 := hide ((HS.out.none hg).none (World.grownBy_alloc p7 (.cells #[.int .i64 0, .int .i64 1] 3) none))
          have J7 := hide (Ints.of_blk (base := 0) (xs := [0, 1]) (n := 2) (Nat.zero_le _) rfl (by decide) (Blk.new p7 3 #[.int .i64 0, .int .i64 1]))
          have HISJ := hide (kmod_is z zo y1 xs ys HZ.out HZO.out ⟨Hlx.out, Hcx.out⟩ ⟨Hly.out, Hcy.out⟩ 0)
          have HF1 : Hid (∀ o ∈ [D.oCat 0 1 2], FitO o) := fun o ho => HISJ.out.fit.os o (List.mem_append_left ([D.oAdd 0 1 3 (ksc y1 0) (ksc y1 1) (ksc y1 2) (-100) 100, D.oPool 5 2 4 2 1 (-128) 90]) ho)
          have HF2 : Hid (∀ o ∈ [D.oCat 0 1 2] ++ [D.oAdd 0 1 3 (ksc y1 0) (ksc y1 1) (ksc y1 2) (-100) 100], FitO o) := fun o ho => HISJ.out.fit.os o (List.mem_append_left ([D.oPool 5 2 4 2 1 (-128) 90]) ho)
          clear hg HS hd
          go_wp2_with fail
          rw [Hsn.out]
          refine (mopr s0.heap.size ([D.tKn 0 z []] ++ [D.tKn 0 z []] ++ [D.tMid 2 3 4 z] ++ [D.tMid 2 3 2 zo]) ([D.oCat 0 1 2]) _ (D.oAdd 0 1 3 (ksc y1 0) (ksc y1 1) (ksc y1 2) (-100) 100) _ (some ⟨p7.heap.size, 0, none⟩) 2 2 _ X7.out.P HF1.out J7.out rfl (show 17 ≤ 1000 by decide) (by decide)).mono ?_
          rintro e p8 ⟨rfl, hP, hg⟩
          have X8 := hide (X7.out.mod hP hg)
          clear hP hg X7 J7 hz1 hz2 Hsn
          go_wp2_with fail
          refine (mten s0.heap.size ([D.tKn 0 z []] ++ [D.tKn 0 z []] ++ [D.tMid 2 3 4 z] ++ [D.tMid 2 3 2 zo]) ([D.oCat 0 1 2] ++ [D.oAdd 0 1 3 (ksc y1 0) (ksc y1 1) (ksc y1 2) (-100) 100]) _ (D.tMid 1 2 4 z) none 0 0 _ X8.out.P (Ints.nil _ _) (by have h1 := Hlx.out; have h2 := Hly.out; unfold sizeT; simp [D.tKn, D.tMid]; try omega) (show 0 ≤ 1000 by decide) (show 4 ≤ 1000 by decide)).mono ?_
          rintro e p9 ⟨rfl, hP, hg⟩
          have X9 := hide (X8.out.mod hP hg)
          clear hP hg X8
          go_wp2_with fail
          refine (span_c (-128) 90 p9).mono ?_
          rintro e pa ⟨rfl, hg⟩
          have XA := hide ((X9.out.none hg).none (World.grownBy_alloc pa (.cells #[.int .i64 2] 3) none))
          have JA := hide (Ints.of_blk (base := 0) (xs := [2]) (n := 1) (Nat.zero_le _) rfl (by decide) (Blk.new pa 3 #[.int .i64 2]))
          have hz1 : (⟨#[2, 1]⟩ : ByteArray).size = 2 := rfl
          have hz2 : (S8 [b8 (-128), b8 90]).size = 2 := by rw [s8_size]; rfl
          have Hsp := hide (show (⟨#[2, 1]⟩ : ByteArray) ++ S8 [b8 (-128), b8 90] = S8 (ownBytes (D.oPool 5 2 4 2 1 (-128) 90)) by
            show S8 [2, 1] ++ S8 [b8 (-128), b8 90] = _
            rw [s8_app]; rfl)
          clear hg X9
          go_wp2_with fail
          rw [Hsp.out]
          refine (mopr s0.heap.size ([D.tKn 0 z []] ++ [D.tKn 0 z []] ++ [D.tMid 2 3 4 z] ++ [D.tMid 2 3 2 zo] ++ [D.tMid 1 2 4 z]) ([D.oCat 0 1 2] ++ [D.oAdd 0 1 3 (ksc y1 0) (ksc y1 1) (ksc y1 2) (-100) 100]) _ (D.oPool 5 2 4 2 1 (-128) 90) _ (some ⟨pa.heap.size, 0, none⟩) 1 1 _ XA.out.P HF2.out JA.out rfl (show 4 ≤ 1000 by decide) (show 2 ≤ 100 by decide)).mono ?_
          rintro e p7' ⟨rfl, hP, hg⟩
          have XB := hide (XA.out.mod hP hg)
          have e4 : p7'.cell? ⟨s0.heap.size, 4, none⟩ = some (.slice none 0 0) := Blk.cell hP 4
          have f4 := Blk.free hP 4
          have hlq : s0.heap.size < p7'.heap.size := hP.lt
          have MN : Hid (Mm ((p7'.setCell ⟨s0.heap.size, 4, none⟩ (.slice (some ⟨p7'.heap.size, 0, none⟩) 3 3)).alloc (.cells #[.int .i64 3, .int .i64 4, .int .i64 2] 3)) s0.heap.size (kmod z zo y1 xs ys 0)) :=
            outs_sets (n := 3) (m := kmod z zo y1 xs ys 0) hP rfl rfl rfl (by decide) HISJ.out (by have h1 := Hlx.out; have h2 := Hly.out; unfold sizeT; simp [D.tKn, D.tMid]; try omega) (show 3 ≤ 100 by decide)
          have GG := hide (gr_trans (gr_new XB.out.g (gr_set p7' s0.heap.size 4 (.slice (some ⟨p7'.heap.size, 0, none⟩) 3 3)) (by omega)) (World.grownBy_alloc _ (.cells #[.int .i64 3, .int .i64 4, .int .i64 2] 3) none))
          clear hP hg XA JA XB hz1 hz2 Hsp HF1 HF2 HISJ
          have HO8 := hide (owns_kept0 HO.out GG.out)
          have HM8 : Hid (∀ (i : Nat) b, ms[i]? = some b → Mm ((p7'.setCell ⟨s0.heap.size, 4, none⟩ (.slice (some ⟨p7'.heap.size, 0, none⟩) 3 3)).alloc (.cells #[.int .i64 3, .int .i64 4, .int .i64 2] 3)) b (kmod z zo y1 xs ys i)) := fun i b h => (HM.out i b h).kept0 GG.out
          have HG8 := hide (gr_trans HGj.out GG.out)
          have hE : ((p7'.setCell ⟨s0.heap.size, 4, none⟩ (.slice (some ⟨p7'.heap.size, 0, none⟩) 3 3)).alloc (.cells #[.int .i64 3, .int .i64 4, .int .i64 2] 3)).heap.size = p7'.heap.size + 1 := by rw [World.size_alloc, World.size_setCell]
          have HE := hide hE
          have hsz8 : qw.heap.size ≤ p7'.heap.size + 1 := by rw [← hE]; exact HG8.out.size
          clear GG hE
          go_wp2_with (at_builtin; refine wpList_append_own _ rfl _ _ 86 rfl qw.heap.size 74 i0 (.pointer none) 1 8 Tryz.underlying86 hi hz0 hz1 hz2 rfl (by decide) _ _ _ rfl (World.ownsRow.alloc HO8.out _) ⟨p7'.heap.size + 1, 0, none⟩ 1 1 [.pointer (some ⟨s0.heap.size, 0, none⟩)] rfl rfl ?c1 ?c2 ?c3 ?c4 ?c5 ?_)
          case c1 =>
            have e := news_at1 ((p7'.setCell ⟨s0.heap.size, 4, none⟩ (.slice (some ⟨p7'.heap.size, 0, none⟩) 3 3)).alloc (.cells #[.int .i64 3, .int .i64 4, .int .i64 2] 3)) 74 #[.pointer (some ⟨s0.heap.size, 0, none⟩)]
            rw [HE.out] at e
            exact e
          case c2 => intro u hu; simp at hu; subst hu; rfl
          case c3 => unfold maxLen; omega
          case c4 => omega
          case c5 => simp; omega
          intro v' s4 hown' hgrow _
          have hga : ((p7'.setCell ⟨s0.heap.size, 4, none⟩ (.slice (some ⟨p7'.heap.size, 0, none⟩) 3 3)).alloc (.cells #[.int .i64 3, .int .i64 4, .int .i64 2] 3)).grownBy s4 u10.ownBlock := gr_trans (World.grownBy_alloc _ _ _) hgrow
          have hlt4 := owns_row_lt HO8.out
          have HG9 := hide (gr_own HG8.out hga hlt4)
          have HM9 : Hid (∀ (i : Nat) b, (ms ++ [s0.heap.size])[i]? = some b → Mm s4 b (kmod z zo y1 xs ys i)) := fun i b h => by
            have hl := Hml.out
            rcases Nat.lt_or_ge i ms.length with h' | h'
            · rw [List.getElem?_append_left h'] at h
              exact (HM8.out i b h).aside HO8.out hga
            · rw [List.getElem?_append_right h'] at h
              have hij : i = 0 := by
                rcases Nat.lt_or_ge (i - ms.length) 1 with h2 | h2
                · omega
                · rw [List.getElem?_eq_none (by simp; omega)] at h; exact absurd h (by simp)
              subst hij
              rw [hl, Nat.sub_self] at h
              injection h with h
              subst h
              exact MN.out.aside HO8.out hga
          have HO9 : Hid (s4.ownsRow qw.heap.size 74 1 v' (0 + 1) ((ms ++ [s0.heap.size]).map fun b => Value.pointer (some ⟨b, 0, none⟩))) := by
            rw [List.map_append]; exact hown'
          have Hml2 : Hid ((ms ++ [s0.heap.size]).length = 0 + 1) := by have := Hml.out; unfold Hid; rw [List.length_append]; show ms.length + 1 = 0 + 1; omega
          clear hown' hgrow hga hlt4 HG8 HM8 HO8 MN HE hsz8 e4 f4 hlq
          go_wp2
          go_roundw
          case rel => exact ⟨0 + 1, ms ++ [s0.heap.size], (by decide : 0 + 1 ≤ 2), by go_num, Hml2.out, HO9.out, HM9.out, HG9.out⟩
          case measure => simp [intOf]
    · have HGj := hide hgj
      obtain ⟨v0, rfl⟩ : ∃ q, q = wr := ⟨_, rfl⟩
      clear hgj
      go_wp2_with fail
      refine (seeded_c (a + r) v0 (by omega) (by omega)).mono ?_
      rintro e s0 ⟨rfl, E0, ge⟩
      rw [Hy.out] at E0
      have le := Blk.lt E0
      have X0 : Hid (DP v0 (s0.alloc (.cells #[.string ⟨#[]⟩, .string ⟨#[]⟩, .int .i64 0, .int .i64 0, .slice none 0 0] 81)) v0.heap.size y0 s0.heap.size [] [] (.slice none 0 0)) := ⟨gr_trans ge (World.grownBy_alloc _ _ _), Blk.alloc E0 _, MP.new s0, Nat.le_refl _, le⟩
      have ck := (HBK.out.kept (gr_trans HGj.out X0.out.g) (by simp)).cell 1
      clear ge E0
      go_wp2_with fail
      refine (mten s0.heap.size [] [] _ (D.tKn 1 z xs) _ _ _ _ X0.out.P (HXw.out.kept0 (gr_trans HGj.out X0.out.g)) (by decide) (by have h1 := Hlx.out; have h2 := Hly.out; simp [D.tKn]; try omega) (by decide)).mono ?_
      rintro e p1 ⟨rfl, hP, hg⟩
      have X1 := hide (X0.out.mod hP hg)
      clear hP hg X0 ck
      have ck := (HBK.out.kept (gr_trans HGj.out X1.out.g) (by simp)).cell 1
      go_wp2_with fail
      refine (mten s0.heap.size ([D.tKn 1 z xs]) [] _ (D.tKn 1 z ys) _ _ _ _ X1.out.P (HYw.out.kept0 (gr_trans HGj.out X1.out.g)) (by have h1 := Hlx.out; have h2 := Hly.out; unfold sizeT; simp [D.tKn, D.tMid]; try omega) (by have h1 := Hlx.out; have h2 := Hly.out; simp [D.tKn]; try omega) (show 1 ≤ 1000 by decide)).mono ?_
      rintro e p2 ⟨rfl, hP, hg⟩
      have X2 := hide (X1.out.mod hP hg)
      clear hP hg X1 ck
      go_wp2_with fail
      refine (mten s0.heap.size ([D.tKn 1 z xs] ++ [D.tKn 1 z ys]) [] _ (D.tMid 2 3 4 z) none 0 0 _ X2.out.P (Ints.nil _ _) (by have h1 := Hlx.out; have h2 := Hly.out; unfold sizeT; simp [D.tKn, D.tMid]; try omega) (show 0 ≤ 1000 by decide) (show 2 ≤ 1000 by decide)).mono ?_
      rintro e p3 ⟨rfl, hP, hg⟩
      have X3 := hide ((X2.out.mod hP hg).none (World.grownBy_alloc p3 (.cells #[.int .i64 0, .int .i64 1] 3) none))
      have J3 := hide (Ints.of_blk (base := 0) (xs := [0, 1]) (n := 2) (Nat.zero_le _) rfl (by decide) (Blk.new p3 3 #[.int .i64 0, .int .i64 1]))
      clear hP hg X2
      go_wp2_with fail
      refine (mopr s0.heap.size ([D.tKn 1 z xs] ++ [D.tKn 1 z ys] ++ [D.tMid 2 3 4 z]) [] _ (D.oCat 0 1 2) [] (some ⟨p3.heap.size, 0, none⟩) 2 2 _ X3.out.P (fun o ho => absurd ho (by simp)) J3.out rfl (show 0 ≤ 1000 by decide) (by decide)).mono ?_
      rintro e p4 ⟨rfl, hP, hg⟩
      have X4 := hide (X3.out.mod hP hg)
      clear hP hg X3 J3
      go_wp2_with fail
      refine (dzero_c v0.heap.size y0 _ X4.out.D RY.1 RY.2).mono ?_
      rintro e p5 ⟨rfl, hD, hg⟩
      have X5 := hide (X4.out.dieD hD hg)
      rw [Hzo.out]
      rw [Hy1.out] at X5
      clear hD hg X4
      go_wp2_with fail
      refine (mten s0.heap.size ([D.tKn 1 z xs] ++ [D.tKn 1 z ys] ++ [D.tMid 2 3 4 z]) ([D.oCat 0 1 2]) _ (D.tMid 2 3 2 zo) none 0 0 _ X5.out.P (Ints.nil _ _) (by have h1 := Hlx.out; have h2 := Hly.out; unfold sizeT; simp [D.tKn, D.tMid]; try omega) (show 0 ≤ 1000 by decide) (show 3 ≤ 1000 by decide)).mono ?_
      rintro e p6 ⟨rfl, hP, hg⟩
      have X6 := hide (X5.out.mod hP hg)
      clear hP hg X5
      go_wp2
      go_loopw [21, 22] (fun s i wp => ∃ t : Nat, Hid (t ≤ 3) ∧ i = .int .i64 t ∧ s = .string (S8 (kb y1 t)) ∧ Hid (DP v0 wp v0.heap.size (sdie y1 t) s0.heap.size ([D.tKn 1 z xs] ++ [D.tKn 1 z ys] ++ [D.tMid 2 3 4 z] ++ [D.tMid 2 3 2 zo]) ([D.oCat 0 1 2]) (.slice none 0 0))) (fun _ i _ => 3 - (intOf i).toNat)
      case atStart => exact ⟨0, (show 0 ≤ 3 by decide), rfl, rfl, X6.out⟩
      case round =>
        clear X6
        obtain ⟨t, Ht, rfl, rfl, HS⟩ := hrel
        by_cases hlt : t < 3
        · have hd : decide ((t : Int) < 3) = true := decide_eq_true (by omega)
          have Hlt := hide hlt
          have HRj := hide (sdie_range RY1.1 RY1.2 t)
          have HRn := hide (dnext_range (sdie y1 t))
          have HSS := hide (show sdie y1 (t + 1) = dnext (dnext (sdie y1 t)) from rfl)
          have Hcat := hide (kb_cat y1 t)
          have hz1 : (S8 (kb y1 t)).size = 5 * t := by rw [s8_size, kb_len]
          have hz2 : (S8 (w4 (dmult (sdie y1 t)) ++ [b8 (dshift (dnext (sdie y1 t)) + 8)])).size = 5 := by rw [s8_size]; rfl
          clear hlt
          go_wp2_with fail
          refine (dmult_c v0.heap.size (sdie y1 t) wr HS.out.D HRj.out.1 HRj.out.2).mono ?_
          rintro e s1 ⟨rfl, hD, hg⟩
          have S1 := hide (HS.out.dieD hD hg)
          clear hD hg HS
          go_wp2_with fail
          refine (dshift_c v0.heap.size (dnext (sdie y1 t)) s1 S1.out.D HRn.out.1 HRn.out.2).mono ?_
          rintro e s2 ⟨rfl, hD, hg⟩
          have S2 := hide (S1.out.dieD hD hg)
          rw [← HSS.out] at S2
          clear hD hg S1
          have hsr := dshift_rg (dnext (sdie y1 t))
          generalize dmult (sdie y1 t) = mu at *
          generalize dshift (dnext (sdie y1 t)) = sh at *
          obtain ⟨hsr1, hsr2⟩ := hsr
          go_wp2_with fail
          refine (scale2_c mu (sh + 8) s2).mono ?_
          rintro e s3 ⟨rfl, hg⟩
          have S3 := hide (S2.out.none hg)
          clear hg S2
          generalize S8 (w4 mu ++ [b8 (sh + 8)]) = tb at *
          generalize S8 (kb y1 t) = ta at *
          have hs3 := Hlt.out
          go_wp2
          go_roundw
          case rel => exact ⟨t + 1, (by have := Hlt.out; unfold Hid; omega), by go_num, by rw [← Hcat.out], S3.out⟩
          case measure => have := Hlt.out; simp [intOf]; omega
        · have hd : decide ((t : Int) < 3) = false := decide_eq_false (by omega)
          obtain rfl : t = 3 := by have := Ht.out; omega
          clear hlt Ht
          have Hsn := hide (own_known y1)
          have hz1 : (S8 (kb y1 3)).size = 15 := by rw [s8_size, kb_len]
          have hz2 : (S8 [b8 (-100), b8 100]).size = 2 := by rw [s8_size]; rfl
          go_wp2_with fail
          refine (span_c (-100) 100 wr).mono ?_
          rintro e p7 ⟨rfl, hg⟩
          have X7 := hide ((HS.out.none hg).none (World.grownBy_alloc p7 (.cells #[.int .i64 0, .int .i64 1] 3) none))
          have J7 := hide (Ints.of_blk (base := 0) (xs := [0, 1]) (n := 2) (Nat.zero_le _) rfl (by decide) (Blk.new p7 3 #[.int .i64 0, .int .i64 1]))
          have HISJ := hide (kmod_is z zo y1 xs ys HZ.out HZO.out ⟨Hlx.out, Hcx.out⟩ ⟨Hly.out, Hcy.out⟩ 1)
          have HF1 : Hid (∀ o ∈ [D.oCat 0 1 2], FitO o) := fun o ho => HISJ.out.fit.os o (List.mem_append_left ([D.oAdd 0 1 3 (ksc y1 0) (ksc y1 1) (ksc y1 2) (-100) 100, D.oPool 5 2 4 2 1 (-128) 90]) ho)
          have HF2 : Hid (∀ o ∈ [D.oCat 0 1 2] ++ [D.oAdd 0 1 3 (ksc y1 0) (ksc y1 1) (ksc y1 2) (-100) 100], FitO o) := fun o ho => HISJ.out.fit.os o (List.mem_append_left ([D.oPool 5 2 4 2 1 (-128) 90]) ho)
          clear hg HS hd
          go_wp2_with fail
          rw [Hsn.out]
          refine (mopr s0.heap.size ([D.tKn 1 z xs] ++ [D.tKn 1 z ys] ++ [D.tMid 2 3 4 z] ++ [D.tMid 2 3 2 zo]) ([D.oCat 0 1 2]) _ (D.oAdd 0 1 3 (ksc y1 0) (ksc y1 1) (ksc y1 2) (-100) 100) _ (some ⟨p7.heap.size, 0, none⟩) 2 2 _ X7.out.P HF1.out J7.out rfl (show 17 ≤ 1000 by decide) (by decide)).mono ?_
          rintro e p8 ⟨rfl, hP, hg⟩
          have X8 := hide (X7.out.mod hP hg)
          clear hP hg X7 J7 hz1 hz2 Hsn
          go_wp2_with fail
          refine (mten s0.heap.size ([D.tKn 1 z xs] ++ [D.tKn 1 z ys] ++ [D.tMid 2 3 4 z] ++ [D.tMid 2 3 2 zo]) ([D.oCat 0 1 2] ++ [D.oAdd 0 1 3 (ksc y1 0) (ksc y1 1) (ksc y1 2) (-100) 100]) _ (D.tMid 1 2 4 z) none 0 0 _ X8.out.P (Ints.nil _ _) (by have h1 := Hlx.out; have h2 := Hly.out; unfold sizeT; simp [D.tKn, D.tMid]; try omega) (show 0 ≤ 1000 by decide) (show 4 ≤ 1000 by decide)).mono ?_
          rintro e p9 ⟨rfl, hP, hg⟩
          have X9 := hide (X8.out.mod hP hg)
          clear hP hg X8
          go_wp2_with fail
          refine (span_c (-128) 90 p9).mono ?_
          rintro e pa ⟨rfl, hg⟩
          have XA := hide ((X9.out.none hg).none (World.grownBy_alloc pa (.cells #[.int .i64 2] 3) none))
          have JA := hide (Ints.of_blk (base := 0) (xs := [2]) (n := 1) (Nat.zero_le _) rfl (by decide) (Blk.new pa 3 #[.int .i64 2]))
          have hz1 : (⟨#[2, 1]⟩ : ByteArray).size = 2 := rfl
          have hz2 : (S8 [b8 (-128), b8 90]).size = 2 := by rw [s8_size]; rfl
          have Hsp := hide (show (⟨#[2, 1]⟩ : ByteArray) ++ S8 [b8 (-128), b8 90] = S8 (ownBytes (D.oPool 5 2 4 2 1 (-128) 90)) by
            show S8 [2, 1] ++ S8 [b8 (-128), b8 90] = _
            rw [s8_app]; rfl)
          clear hg X9
          go_wp2_with fail
          rw [Hsp.out]
          refine (mopr s0.heap.size ([D.tKn 1 z xs] ++ [D.tKn 1 z ys] ++ [D.tMid 2 3 4 z] ++ [D.tMid 2 3 2 zo] ++ [D.tMid 1 2 4 z]) ([D.oCat 0 1 2] ++ [D.oAdd 0 1 3 (ksc y1 0) (ksc y1 1) (ksc y1 2) (-100) 100]) _ (D.oPool 5 2 4 2 1 (-128) 90) _ (some ⟨pa.heap.size, 0, none⟩) 1 1 _ XA.out.P HF2.out JA.out rfl (show 4 ≤ 1000 by decide) (show 2 ≤ 100 by decide)).mono ?_
          rintro e p7' ⟨rfl, hP, hg⟩
          have XB := hide (XA.out.mod hP hg)
          have e4 : p7'.cell? ⟨s0.heap.size, 4, none⟩ = some (.slice none 0 0) := Blk.cell hP 4
          have f4 := Blk.free hP 4
          have hlq : s0.heap.size < p7'.heap.size := hP.lt
          have MN : Hid (Mm ((p7'.setCell ⟨s0.heap.size, 4, none⟩ (.slice (some ⟨p7'.heap.size, 0, none⟩) 3 3)).alloc (.cells #[.int .i64 3, .int .i64 4, .int .i64 2] 3)) s0.heap.size (kmod z zo y1 xs ys 1)) :=
            outs_sets (n := 3) (m := kmod z zo y1 xs ys 1) hP rfl rfl rfl (by decide) HISJ.out (by have h1 := Hlx.out; have h2 := Hly.out; unfold sizeT; simp [D.tKn, D.tMid]; try omega) (show 3 ≤ 100 by decide)
          have GG := hide (gr_trans (gr_new XB.out.g (gr_set p7' s0.heap.size 4 (.slice (some ⟨p7'.heap.size, 0, none⟩) 3 3)) (by omega)) (World.grownBy_alloc _ (.cells #[.int .i64 3, .int .i64 4, .int .i64 2] 3) none))
          clear hP hg XA JA XB hz1 hz2 Hsp HF1 HF2 HISJ
          have HO8 := hide (owns_kept0 HO.out GG.out)
          have HM8 : Hid (∀ (i : Nat) b, ms[i]? = some b → Mm ((p7'.setCell ⟨s0.heap.size, 4, none⟩ (.slice (some ⟨p7'.heap.size, 0, none⟩) 3 3)).alloc (.cells #[.int .i64 3, .int .i64 4, .int .i64 2] 3)) b (kmod z zo y1 xs ys i)) := fun i b h => (HM.out i b h).kept0 GG.out
          have HG8 := hide (gr_trans HGj.out GG.out)
          have hE : ((p7'.setCell ⟨s0.heap.size, 4, none⟩ (.slice (some ⟨p7'.heap.size, 0, none⟩) 3 3)).alloc (.cells #[.int .i64 3, .int .i64 4, .int .i64 2] 3)).heap.size = p7'.heap.size + 1 := by rw [World.size_alloc, World.size_setCell]
          have HE := hide hE
          have hsz8 : qw.heap.size ≤ p7'.heap.size + 1 := by rw [← hE]; exact HG8.out.size
          clear GG hE
          go_wp2_with (at_builtin; refine wpList_append_own _ rfl _ _ 86 rfl qw.heap.size 74 i0 (.pointer none) 1 8 Tryz.underlying86 hi hz0 hz1 hz2 rfl (by decide) _ _ _ rfl (World.ownsRow.alloc HO8.out _) ⟨p7'.heap.size + 1, 0, none⟩ 1 1 [.pointer (some ⟨s0.heap.size, 0, none⟩)] rfl rfl ?c1 ?c2 ?c3 ?c4 ?c5 ?_)
          case c1 =>
            have e := news_at1 ((p7'.setCell ⟨s0.heap.size, 4, none⟩ (.slice (some ⟨p7'.heap.size, 0, none⟩) 3 3)).alloc (.cells #[.int .i64 3, .int .i64 4, .int .i64 2] 3)) 74 #[.pointer (some ⟨s0.heap.size, 0, none⟩)]
            rw [HE.out] at e
            exact e
          case c2 => intro u hu; simp at hu; subst hu; rfl
          case c3 => unfold maxLen; omega
          case c4 => omega
          case c5 => simp; omega
          intro v' s4 hown' hgrow _
          have hga : ((p7'.setCell ⟨s0.heap.size, 4, none⟩ (.slice (some ⟨p7'.heap.size, 0, none⟩) 3 3)).alloc (.cells #[.int .i64 3, .int .i64 4, .int .i64 2] 3)).grownBy s4 u10.ownBlock := gr_trans (World.grownBy_alloc _ _ _) hgrow
          have hlt4 := owns_row_lt HO8.out
          have HG9 := hide (gr_own HG8.out hga hlt4)
          have HM9 : Hid (∀ (i : Nat) b, (ms ++ [s0.heap.size])[i]? = some b → Mm s4 b (kmod z zo y1 xs ys i)) := fun i b h => by
            have hl := Hml.out
            rcases Nat.lt_or_ge i ms.length with h' | h'
            · rw [List.getElem?_append_left h'] at h
              exact (HM8.out i b h).aside HO8.out hga
            · rw [List.getElem?_append_right h'] at h
              have hij : i = 1 := by
                rcases Nat.lt_or_ge (i - ms.length) 1 with h2 | h2
                · omega
                · rw [List.getElem?_eq_none (by simp; omega)] at h; exact absurd h (by simp)
              subst hij
              rw [hl, Nat.sub_self] at h
              injection h with h
              subst h
              exact MN.out.aside HO8.out hga
          have HO9 : Hid (s4.ownsRow qw.heap.size 74 1 v' (1 + 1) ((ms ++ [s0.heap.size]).map fun b => Value.pointer (some ⟨b, 0, none⟩))) := by
            rw [List.map_append]; exact hown'
          have Hml2 : Hid ((ms ++ [s0.heap.size]).length = 1 + 1) := by have := Hml.out; unfold Hid; rw [List.length_append]; show ms.length + 1 = 1 + 1; omega
          clear hown' hgrow hga hlt4 HG8 HM8 HO8 MN HE hsz8 e4 f4 hlq
          go_wp2
          go_roundw
          case rel => exact ⟨1 + 1, ms ++ [s0.heap.size], (by decide : 1 + 1 ≤ 2), by go_num, Hml2.out, HO9.out, HM9.out, HG9.out⟩
          case measure => simp [intOf]
    · obtain ⟨apv, cpv, hv⟩ := owns_shape HO.out
      subst hv
      obtain ⟨m0, m1, hms⟩ : ∃ m0 m1, ms = [m0, m1] := by
        have hl := Hml.out
        match ms, hl with
        | [m0, m1], _ => exact ⟨m0, m1, rfl⟩
      subst hms
      obtain ⟨gp, hap, -, -, hcs⟩ := owns_some HO.out (by decide)
      subst hap
      have c1 : wr.cell? ⟨gp, 0, none⟩ = some (.pointer (some ⟨m0, 0, none⟩)) := hcs 0 (by decide)
      have c2 : wr.cell? ⟨gp, 1, none⟩ = some (.pointer (some ⟨m1, 0, none⟩)) := hcs 1 (by decide)
      have HC2 := hide c2
      have HM0 := hide (HM.out 0 m0 rfl)
      have HM1 := hide (HM.out 1 m1 rfl)
      have ga := World.grownBy_alloc wr (.cells #[.slice (some ⟨q1.heap.size, 0, none⟩) 12 12, .slice (some ⟨q2.heap.size, 0, none⟩) 12 12] 33) none
      have HL := hide (two_list (HXw.out.kept0 hgj) (HYw.out.kept0 hgj))
      have HM0a := hide (HM0.out.kept0 ga)
      have HM1a := hide (HM1.out.kept0 ga)
      have HC2a := hide (cell_kept ga HC2.out)
      have HGa := hide (gr_trans (gr_trans HGw.out hgj) ga)
      have HAL := hide (kmod_alike z zo y1 xs ys)
      have HST := hide (kmod_steps z zo y1 xs ys)
      have Hc := hide (cells_le HM0.out.is (in_hold2 (kmod z zo y1 xs ys 0) xs ys 12 12 rfl Hlx.out Hly.out Hcx.out Hcy.out))
      have HRl := hide (run_len (kmod z zo y1 xs ys 0) [xs, ys])
      clear ga hgj HM0 HM1 HC2 HXw HYw HGw HO HM hcs Hj Hml c2 HBK hi hz0 hz1 hz2 hz'
      go_wp2_with fail
      refine (outputs_c m0 (kmod z zo y1 xs ys 0) (some ⟨wr.heap.size, 0, none⟩) 2 2 [xs, ys] _ HM0a.out HL.out (by intro l hl; simp at hl; rcases hl with rfl | rfl; (rw [Hlx.out]; decide); (rw [Hly.out]; decide)) (show 2 ≤ 9223372036854775807 by decide) (in_hold2 _ xs ys 12 12 rfl Hlx.out Hly.out Hcx.out Hcy.out)).mono ?_
      rintro e w1 ⟨⟨gx, rfl, hX⟩, hg1⟩
      have HXL := hide hX
      have HM1b := hide (HM1a.out.kept0 hg1)
      have HC2b := cell_kept hg1 HC2a.out
      have HG1 := hide (gr_trans HGa.out hg1)
      clear hX hg1 HM0a HM1a HC2a HL HGa c1
      go_wp2_with fail
      refine (outputs_c m1 (kmod z zo y1 xs ys 1) none 0 0 [] w1 HM1b.out ⟨[], rfl, World.ownsRow_nil _ _ _ _, by intro i u l h; simp at h⟩ (by intro l hl; simp at hl) (by decide) rfl).mono ?_
      rintro e w2 ⟨⟨gy, rfl, hY⟩, hg2⟩
      rw [← HAL.out] at hY
      have HX2' := hide (HXL.out.kept0 hg2)
      have HY2' := hide hY
      have HM1c := hide (HM1b.out.kept0 hg2)
      have HC2c := hide (cell_kept hg2 HC2b)
      have HG2' := hide (gr_trans HG1.out hg2)
      have o0 : (kmod z zo y1 xs ys 0).outs.length = 3 := rfl
      have o1 : (kmod z zo y1 xs ys 1).outs.length = 3 := rfl
      rw [o0] at HX2' HRl
      rw [o1] at HY2'
      rw [o0, o1]
      obtain ⟨R, HR⟩ : ∃ R, Hid (D.run (kmod z zo y1 xs ys 0) [xs, ys] = R) := ⟨_, rfl⟩
      rw [HR.out] at HX2' HY2' HRl Hc
      clear hY hg2 HXL HM1b HC2b HG1 o0 o1 HAL
      go_wp2
      go_loopw [31] (fun i wr => ∃ k : Nat, Hid (k ≤ 3) ∧ i = .int .i64 k ∧ w2.grownBy wr none) (fun i _ => 3 - (intOf i).toNat)
      case atStart => exact ⟨0, (show 0 ≤ 3 by decide), rfl, World.grownBy.refl _ _⟩
      case round =>
        obtain ⟨k, Hk, rfl, hgk⟩ := hrel
        by_cases hlt : k < 3
        · have hk3 : (k : Int) < 3 := by omega
          obtain ⟨l, hl⟩ : ∃ l, R[k]? = some l := ⟨_, List.getElem?_eq_getElem (by rw [HRl.out]; exact hlt)⟩
          obtain ⟨g1, a1, c1, e1, -, d1, I1⟩ := (HX2'.out.kept0 hgk).get k l hl
          obtain ⟨g2, a2, c2, e2, -, d2, I2⟩ := (HY2'.out.kept0 hgk).get k l hl
          injection e1 with e1
          injection e1 with e1 _ _
          subst e1
          injection e2 with e2
          injection e2 with e2 _ _
          subst e2
          have hll := Hc.out l (List.mem_of_getElem? hl)
          have r1 := cell_regrown d1
          have r2 := cell_regrown d2
          have HC := hide (regrown_call (w := wr) fun W hW => (same_c 0 0 a1 a2 l.length c1 l.length c2 l l W (I1.kept0 hW) (I2.kept0 hW) (by omega) (by omega)))
          have HGk := hide hgk
          have Hlt := hide hlt
          rw [show decide (l = l) = true from decide_eq_true rfl] at HC
          clear I1 I2 hl hgk d1 d2 hlt
          go_wp2
          refine wp_region_quiet_below (by kernel_rfl) (by kernel_rfl) ?_
          repeat (quiet_step (exact HC.out _ _))
          refine wpQuiet_nil ?_
          intro _ hw'
          obtain ⟨⟨dq, osq⟩, hw''⟩ := hw'
          subst hw''
          have HG3 := hide (gr_trans HGk.out (below_gr (below_regrown wr dq osq)))
          go_wp2
          go_roundw
          case rel => exact ⟨k + 1, (by have := Hlt.out; unfold Hid; omega), by go_num, HG3.out⟩
          case measure => have := Hlt.out; simp [intOf]; omega
        · obtain rfl : k = 3 := by have := Hk.out; omega
          have c2 := cell_kept hgk HC2c.out
          have HM1d := hide (HM1c.out.kept0 hgk)
          have HG3 := hide (gr_trans HG2'.out hgk)
          clear hgk HX2' HY2' HM1c HC2c HG2' hlt Hk
          go_wp2_with fail
          refine (lsteps_c m1 (kmod z zo y1 xs ys 1) wr HM1d.out).mono ?_
          rintro e w3 ⟨rfl, hg3⟩
          rw [HST.out]
          have HG4 := hide (gr_trans HG3.out hg3)
          clear hg3 HG3 HM1d
          go_wp2
          go_ret
          exact ⟨rfl, HG4.out⟩

theorem known_c (a0 a1 a2 : Int) (w : World) (ha : -9223372036854775808 ≤ a0) (hb : a0 ≤ 9223372036854775807) (hb0 : -9223372036854775808 ≤ a1) (hb1 : a1 ≤ 9223372036854775807) :
    Calls Tryz.prog 8 #[.int .i64 a0, .int .i64 a1, .int .i64 a2] w fun e w' => e = .returned (.bool true) ∧ w.grownBy w' none := by
  have r0 : 0 ≤ pickOf a0 1073741824 ∧ pickOf a0 1073741824 < 1073741824 := ⟨Int.emod_nonneg _ (by decide), Int.emod_lt_of_pos _ (by decide)⟩
  have r1 : 0 ≤ pickOf a1 1000 ∧ pickOf a1 1000 < 1000 := ⟨Int.emod_nonneg _ (by decide), Int.emod_lt_of_pos _ (by decide)⟩
  go_enter Tryz.func8, Tryz.ntmps8
  go_wp2_with fail
  refine (pick_c a0 1073741824 w ha hb (by decide) (by decide)).mono ?_
  rintro e w1 ⟨rfl, rfl⟩
  go_wp2_with fail
  refine (pick_c a1 1000 w1 hb0 hb1 (by decide) (by decide)).mono ?_
  rintro e w2 ⟨rfl, rfl⟩
  go_wp2_with fail
  refine (knownl_c (pickOf a0 1073741824) (pickOf a1 1000) w2 r0.1 r0.2 r1.1 r1.2).mono ?_
  rintro e w3 ⟨rfl, hg⟩
  go_wp2
  go_ret
  exact ⟨rfl, hg⟩

end Go.Proofs.YtcnhfffgbamonaaGreat
