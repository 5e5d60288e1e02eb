/-
  Sums: weighAll, weigh.
-/
import Derived.Test.YtcnhfffgbamonaaGreatOpA
namespace Go.Proofs.YtcnhfffgbamonaaGreat
open Go.RowKit

theorem all_zero (j : O.J) (o : Int) : O.allTo j o 0 = O.nth j.biases o := by unfold O.allTo D.S; omega
theorem all_step {j : O.J} {o : Int} {k : Nat} {v : Int} (h : j.a.cells[k]? = some v) : O.allTo j o (k + 1) = O.allTo j o k + (v - j.a.zero) * O.at_ j.weights o 0 k := by
  unfold O.allTo
  rw [D.S, List.getD, h]
  simp only [Option.getD_some]
  omega

set_option maxHeartbeats 800000 in
theorem oweighAll_c (b : Nat) (j : O.J) (A : JA) (o : Int) (w : World) (hJ : Jm w b j A) (hj : O.Jok j) (hl : j.op.scales.length = 1) :
    Calls Tryz.prog 153 #[.pointer (some ⟨b, 0, none⟩), .int .i64 o] w fun e w' => e = .returned (.int .i64 (O.weighAll j o)) ∧ w.grownBy w' none := by
  have HJ := hide hJ
  have Hj := hide hj
  have He := hide (show O.weighAll j o = O.out j (O.allTo j o j.a.cells.length) 0 from rfl)
  have hlen := hj.a.len
  have H0 := hide (all_zero j o)
  clear hJ hj
  go_enter Tryz.func153, Tryz.ntmps153
  go_wp2_with fail
  refine (onth_c b 31 j.biases A.ia A.ic o _ HJ.out.bi Hj.out.bi.len).mono ?_
  rintro e w1 ⟨rfl, rfl⟩
  have d0 := HJ.out.a.gv
  go_wp2
  go_loopw [5, 20] (fun s i wr => ∃ k : Nat, k ≤ j.a.cells.length ∧ i = .int .i64 k ∧ s = .int .i64 (O.allTo j o k) ∧ ∃ n, wr = w1.drewN n) (fun _ i _ => j.a.cells.length - (intOf i).toNat)
  case atStart => exact ⟨0, Nat.zero_le _, rfl, by rw [H0.out], 0, rfl⟩
  case round =>
    obtain ⟨k, hk, rfl, rfl, n, rfl⟩ := hrel
    have hs := Hj.out.all o (n := k) (by omega) hk
    by_cases hlt : k < j.a.cells.length
    · obtain ⟨v, hv⟩ : ∃ v, j.a.cells[k]? = some v := ⟨_, List.getElem?_eq_getElem hlt⟩
      obtain ⟨g, off, eg, hgl, d1⟩ := HJ.out.a.gl.get k v hv
      have hs2 := Hj.out.all o (n := k + 1) (by omega) (by omega)
      have Hst := hide (all_step (o := o) hv)
      have hv1 := Hj.out.a.cells v (List.mem_of_getElem? hv)
      obtain ⟨z0, z1⟩ := And.intro Hj.out.a.z0 Hj.out.a.z1
      have hw := Hj.out.w.at o 0 k
      have hp := O.prod_range hv1 ⟨z0, z1⟩ hw
      have d2 := HJ.out.a.gz
      rw [eg]
      clear hv
      generalize O.allTo j o k = s at *
      obtain ⟨u, U⟩ : ∃ u, Hid (O.at_ j.weights o 0 k = u) := ⟨_, rfl⟩
      rw [U.out] at hw hp Hst
      obtain ⟨p0, p1⟩ := hp
      obtain ⟨q0, q1⟩ := hs
      obtain ⟨v0, v1⟩ := hv1
      go_wp2_with fail
      refine (oat_c b 26 j.weights A.wa A.wc o 0 k _ (HJ.out.ws.drewN _) Hj.out.w.len Hj.out.w.h1 Hj.out.w.w1 Hj.out.w.c1).mono ?_
      rintro e w2 ⟨rfl, n2, rfl⟩
      rw [U.out]
      go_wp2
      go_roundw
      case rel => exact ⟨k + 1, by omega, by go_num, by rw [Hst.out], _, rfl⟩
      case measure => simp [intOf]; omega
    · obtain rfl : k = j.a.cells.length := by omega
      clear H0
      generalize O.allTo j o j.a.cells.length = s at *
      go_wp2_with fail
      refine (oout_c b j A s 0 _ (HJ.out.drewN _) Hj.out (by omega) (by omega) (by omega)).mono ?_
      rintro e w2 ⟨rfl, hg2⟩
      have HG := hide (gr_trans (gr_drewN w1 n none) hg2)
      clear hg2
      go_wp2
      go_ret
      exact ⟨ret_int He.out.symm, HG.out⟩

theorem begin_range {window windows n length stride : Int} (a0 : 0 ≤ window) (a1 : window ≤ 255) (b0 : 0 ≤ windows) (b1 : windows ≤ 255) (n0 : 0 ≤ n) (n1 : n ≤ 255) (l0 : 0 ≤ length) (l1 : length ≤ 255) (s0 : 0 ≤ stride) (s1 : stride ≤ 255) :
    -100000 ≤ O.begin_ window windows n length stride ∧ O.begin_ window windows n length stride ≤ 100000 := by
  have m1 := O.mul_abs (a := windows - 1) (b := stride) (A := 255) (B := 255) (by omega) (by omega)
  have m2 := O.mul_abs (a := window) (b := stride) (A := 255) (B := 255) (by omega) (by omega)
  unfold O.begin_
  split <;> omega

theorem part_start (j : O.J) (u v o shift first : Int) (n : Nat) : O.part j u v o shift first n 0 0 0 = O.nth j.biases o := by
  unfold O.part; simp only [D.S]; omega
theorem weigh_part (j : O.J) (y x o first shift : Int) (n : Nat) : O.weigh j y x o first (first + n) shift = O.out j (O.part j (O.top j y) (O.left j x) o shift first n j.weights.h.toNat 0 0) 0 := by
  unfold O.weigh O.weighSum
  rw [show (first + (n : Int) - first).toNat = n by omega]

set_option maxRecDepth 100000 in
set_option maxHeartbeats 1600000 in
theorem oweigh_c (b : Nat) (j : O.J) (A : JA) (y x o first shift : Int) (n : Nat) (w : World) (hJ : Jm w b j A) (hj : O.Jok j) (hl : j.op.scales.length = 1) (y0 : 0 ≤ y) (y1 : y ≤ 255) (x0 : 0 ≤ x) (x1 : x ≤ 255)
    (f0 : 0 ≤ first) (f1 : first ≤ 255) (n1 : n ≤ 255) (h0 : 0 ≤ shift) (h1 : shift ≤ 65025) (hs : j.weights.h * j.weights.w * n ≤ 512) :
    Calls Tryz.prog 152 #[.pointer (some ⟨b, 0, none⟩), .int .i64 y, .int .i64 x, .int .i64 o, .int .i64 first, .int .i64 (first + n), .int .i64 shift] w fun e w' => e = .returned (.int .i64 (O.weigh j y x o first (first + n) shift)) ∧ w.grownBy w' none := by
  have hsum := hj.weigh y x o first (first + n) shift (by rw [show first + (n : Int) - first = n by omega]; exact hs) (by omega)
  have d0 := hJ.mh
  have d1 := hJ.ws.gh
  have d2 := hJ.a.gh
  have d3 := hJ.stride
  have HJ := hide hJ
  have Hj := hide hj
  have B1 := hide (fun (W : World) => obegin_c y j.made.h j.weights.h j.a.h j.op.stride W y0 y1 (by have := hj.z.h0; omega) hj.z.h1 hj.w.h0 hj.w.h1 hj.a.h0 hj.a.h1 hj.fit.stride.1 hj.fit.stride.2)
  have B2 := hide (fun (W : World) => obegin_c x j.made.w j.weights.w j.a.w j.op.stride W x0 x1 (by have := hj.z.w0; omega) hj.z.w1 hj.w.w0 hj.w.w1 hj.a.w0 hj.a.w1 hj.fit.stride.1 hj.fit.stride.2)
  have R1 := begin_range y0 y1 (show 0 ≤ j.made.h by have := hj.z.h0; omega) hj.z.h1 hj.w.h0 hj.w.h1 hj.a.h0 hj.a.h1 hj.fit.stride.1 hj.fit.stride.2
  have R2 := begin_range x0 x1 (show 0 ≤ j.made.w by have := hj.z.w0; omega) hj.z.w1 hj.w.w0 hj.w.w1 hj.a.w0 hj.a.w1 hj.fit.stride.1 hj.fit.stride.2
  have He := hide (weigh_part j y x o first shift n)
  have HS := hide (show O.weighSum j y x o first (first + n) shift = O.part j (O.top j y) (O.left j x) o shift first n j.weights.h.toNat 0 0 by unfold O.weighSum; rw [show (first + (n : Int) - first).toNat = n by omega])
  have eT : O.top j y = O.begin_ y j.made.h j.weights.h j.a.h j.op.stride := rfl
  have eL : O.left j x = O.begin_ x j.made.w j.weights.w j.a.w j.op.stride := rfl
  rw [eT, eL] at He HS
  clear hJ hj hs eT eL y0 y1 x0 x1
  go_enter Tryz.func152, Tryz.ntmps152
  go_wp2
  go_quiet (first | (go_at_call 175; refine Calls.quiet_of_same (B1.out _)))
  have HJ2 := hide (HJ.out.drewN nq)
  have HG2 := hide (gr_drewN w nq none)
  clear d0 d1 d2 d3 HJ B1
  generalize O.begin_ y j.made.h j.weights.h j.a.h j.op.stride = u at *
  generalize w.drewN nq = w2 at *
  have d3 := HJ2.out.stride
  have d4 := HJ2.out.mw
  have d5 := HJ2.out.ws.gw
  have d6 := HJ2.out.a.gw
  go_wp2
  go_quiet (first | (go_at_call 175; refine Calls.quiet_of_same (B2.out _)))
  have HJ3 := hide (HJ2.out.drewN nq)
  have HG3 := hide (gr_trans HG2.out (gr_drewN w2 nq none))
  clear d3 d4 d5 d6 HJ2 HG2 B2
  generalize O.begin_ x j.made.w j.weights.w j.a.w j.op.stride = v at *
  generalize w2.drewN nq = w3 at *
  go_wp2_with fail
  refine (onth_c b 31 j.biases A.ia A.ic o _ HJ3.out.bi Hj.out.bi.len).mono ?_
  rintro e w1 ⟨rfl, rfl⟩
  obtain ⟨u0, u1⟩ := R1
  obtain ⟨v0, v1⟩ := R2
  obtain ⟨H, hH⟩ : ∃ H : Nat, j.weights.h = H := ⟨j.weights.h.toNat, (Int.toNat_of_nonneg Hj.out.w.h0).symm⟩
  obtain ⟨W, hW⟩ : ∃ W : Nat, j.weights.w = W := ⟨j.weights.w.toNat, (Int.toNat_of_nonneg Hj.out.w.w0).symm⟩
  have H1 : H ≤ 255 := by have := Hj.out.w.h1; omega
  have W1 : W ≤ 255 := by have := Hj.out.w.w1; omega
  have d1 := HJ3.out.ws.gh
  have d5 := HJ3.out.ws.gw
  have d7 := HJ3.out.a.gz
  rw [hH] at d1 He HS
  rw [hW] at d5
  rw [Int.toNat_natCast] at He HS
  have HWt := hide (show j.weights.w.toNat = W by omega)
  rw [HS.out] at hsum
  clear hH hW HS
  obtain ⟨z0, z1⟩ := And.intro Hj.out.a.z0 Hj.out.a.z1
  have P0 := hide (part_start j u v o shift first n)
  go_wp2
  go_loopw [17, 18] (fun s i wr => ∃ k : Nat, k ≤ H ∧ i = .int .i64 k ∧ s = .int .i64 (O.part j u v o shift first n k 0 0) ∧ ∃ m, wr = w1.drewN m) (fun _ i _ => H - (intOf i).toNat)
  case atStart => exact ⟨0, Nat.zero_le _, rfl, by rw [P0.out], 0, rfl⟩
  case round =>
    obtain ⟨i, hi, rfl, rfl, m, rfl⟩ := hrel
    by_cases hlt : i < H
    · clear hsum
      go_wp2
      go_loopw [17, 19] (fun s q wr => ∃ p : Nat, p ≤ W ∧ q = .int .i64 p ∧ s = .int .i64 (O.part j u v o shift first n i p 0) ∧ ∃ m, wr = w1.drewN m) (fun _ q _ => W - (intOf q).toNat)
      case atStart => exact ⟨0, Nat.zero_le _, rfl, rfl, m, rfl⟩
      case round =>
        obtain ⟨p, hp, rfl, rfl, m, rfl⟩ := hrel
        by_cases hlt2 : p < W
        · go_wp2
          go_loopw [17, 20] (fun s q wr => ∃ k : Nat, k ≤ n ∧ q = .int .i64 (first + k) ∧ s = .int .i64 (O.part j u v o shift first n i p k) ∧ ∃ m, wr = w1.drewN m) (fun _ q _ => n - (intOf q - first).toNat)
          case atStart => exact ⟨0, Nat.zero_le _, by go_num, rfl, m, rfl⟩
          case round =>
            obtain ⟨k, hk, rfl, rfl, m, rfl⟩ := hrel
            by_cases hlt3 : k < n
            · have Hst := hide (O.part_k j u v o shift first n i p k)
              have hb := Hj.out.part u v o shift first n1 (i := i) (p := p) (k := k) (by omega) (by omega) (by omega)
              have hv := Hj.out.a.at (u + i) (v + p) (first + k)
              have hw := Hj.out.w.at i p (shift + (first + k))
              have hpr := O.prod_range hv ⟨z0, z1⟩ hw
              have HT := hide (show O.term j u v shift first i p k = (O.at_ j.a (u + i) (v + p) (first + k) - j.a.zero) * O.at_ j.weights i p (shift + (first + k)) from rfl)
              rw [HT.out] at Hst
              clear HT
              go_wp2_with fail
              refine (oat_c b 16 j.a A.aa A.ac (u + i) (v + p) (first + k) _ (HJ3.out.a.drewN _) Hj.out.a.len Hj.out.a.h1 Hj.out.a.w1 Hj.out.a.c1).mono ?_
              rintro e w4 ⟨rfl, m4, rfl⟩
              generalize O.at_ j.a (u + i) (v + p) (first + k) = c at *
              go_wp2_with fail
              refine (oat_c b 26 j.weights A.wa A.wc i p (shift + (first + k)) _ (HJ3.out.ws.drewN _) Hj.out.w.len Hj.out.w.h1 Hj.out.w.w1 Hj.out.w.c1).mono ?_
              rintro e w5 ⟨rfl, m5, rfl⟩
              generalize O.at_ j.weights i p (shift + (first + k)) = d at *
              generalize O.part j u v o shift first n i p k = s at *
              obtain ⟨c0, c1⟩ := hv
              obtain ⟨e0, e1⟩ := hpr
              obtain ⟨g0, g1⟩ := hb
              go_wp2
              go_roundw
              case rel => exact ⟨k + 1, by omega, by go_num, by rw [Hst.out], _, rfl⟩
              case measure => simp [intOf]; omega
            · obtain rfl : k = n := by omega
              have Hst := hide (O.part_p j u v o shift first k i p)
              rw [← Hst.out]
              go_wp2
              go_roundw
              case rel => exact ⟨p + 1, by omega, by go_num, rfl, _, rfl⟩
              case measure => simp [intOf]; omega
        · obtain rfl : p = W := by omega
          have Hst := hide (O.part_i j u v o shift first n i)
          rw [HWt.out] at Hst
          rw [← Hst.out]
          go_wp2
          go_roundw
          case rel => exact ⟨i + 1, by omega, by go_num, rfl, _, rfl⟩
          case measure => simp [intOf]; omega
    · obtain rfl : i = H := by omega
      generalize O.part j u v o shift first n i 0 0 = s at *
      go_wp2_with fail
      refine (oout_c b j A s 0 _ (HJ3.out.drewN _) Hj.out (by omega) (by omega) (by omega)).mono ?_
      rintro e w4 ⟨rfl, hg4⟩
      have HG4 := hide (gr_trans (gr_trans HG3.out (gr_drewN w1 m none)) hg4)
      clear hg4
      go_wp2
      go_ret
      exact ⟨ret_int He.out.symm, HG4.out⟩

end Go.Proofs.YtcnhfffgbamonaaGreat
