/-
  Pools; an operator's cell.
-/
import Derived.Test.YtcnhfffgbamonaaGreatOp3
namespace Go.Proofs.YtcnhfffgbamonaaGreat
open Go.RowKit

theorem pool_place {j : O.J} {y x k : Int} {N i p : Nat} (hN : j.op.size = N) (hp : p < N) : O.poolAt j y x k (i * N + p) = O.at_ j.a (y * j.op.stride + i) (x * j.op.stride + p) k := by
  unfold O.poolAt
  rw [hN]
  have e1 : (((i * N + p : Nat) : Int)) / (N : Int) = i := by
    rw [← Int.natCast_ediv, Nat.add_comm, Nat.add_mul_div_right _ _ (by omega), Nat.div_eq_of_lt hp]; simp
  have e2 : (((i * N + p : Nat) : Int)) % (N : Int) = p := by
    rw [← Int.natCast_emod, Nat.add_comm, Nat.add_mul_mod_self_right, Nat.mod_eq_of_lt hp]
  rw [e1, e2]

theorem best_range {f : Nat → Int} (h : ∀ i, -128 ≤ f i ∧ f i ≤ 127) (n : Nat) : -128 ≤ O.best f n ∧ O.best f n ≤ 127 := by
  induction n with
  | zero => unfold O.best; omega
  | succ n ih => unfold O.best; have := h n; split <;> omega

theorem pool_max {j : O.J} {y x k : Int} {N : Nat} (hN : j.op.size = N) (hk : j.op.kind = 5) : O.pool j y x k = O.ranged j (O.best (O.poolAt j y x k) (N * N)) := by
  unfold O.pool; rw [if_pos hk, hN, ← Int.natCast_mul, Int.toNat_natCast]
theorem pool_avg {j : O.J} {y x k : Int} {N : Nat} (hN : j.op.size = N) (hk : ¬ j.op.kind = 5) : O.pool j y x k = O.ranged j (O.nearest (D.S (O.poolAt j y x k) (N * N)) ((N : Int) * N)) := by
  unfold O.pool; rw [if_neg hk, hN, ← Int.natCast_mul, Int.toNat_natCast]

set_option maxRecDepth 100000 in
set_option maxHeartbeats 1600000 in
theorem opool_c (b : Nat) (j : O.J) (A : JA) (y x k : Int) (w : World) (hJ : Jm w b j A) (hj : O.Jok j) (y0 : 0 ≤ y) (y1 : y ≤ 255) (x0 : 0 ≤ x) (x1 : x ≤ 255) :
    Calls Tryz.prog 155 #[.pointer (some ⟨b, 0, none⟩), .int .i64 y, .int .i64 x, .int .i64 k] w fun e w' => e = .returned (.int .i64 (O.pool j y x k)) ∧ w.grownBy w' none := by
  have d0 := hJ.stride
  have d1 := hJ.size
  have d2 := hJ.kind
  have HJ := hide hJ
  have Hj := hide hj
  obtain ⟨t0, t1⟩ := hj.fit.stride
  have m1 := O.mul_abs (a := y) (b := j.op.stride) (A := 255) (B := 255) (by omega) (by omega)
  have m2 := O.mul_abs (a := x) (b := j.op.stride) (A := 255) (B := 255) (by omega) (by omega)
  obtain ⟨N, hN⟩ : ∃ N : Nat, j.op.size = N := ⟨j.op.size.toNat, (Int.toNat_of_nonneg hj.fit.size.1).symm⟩
  have N1 : N ≤ 255 := by have := hj.fit.size.2; omega
  rw [hN] at d1
  have HN := hide hN
  have HP := hide (fun (i p : Nat) (hp : p < N) => pool_place (j := j) (y := y) (x := x) (k := k) (i := i) hN hp)
  have HR := hide (fun q => hj.a.at (y * j.op.stride + (q : Nat) / j.op.size) (x * j.op.stride + (q : Nat) % j.op.size) k)
  have HF := hide (show ∀ q, -128 ≤ O.poolAt j y x k q ∧ O.poolAt j y x k q ≤ 127 from HR.out)
  have HK := hide d2
  clear hJ hj hN HR d2
  go_enter Tryz.func155, Tryz.ntmps155
  go_wp2
  generalize y * j.op.stride = u at *
  generalize x * j.op.stride = v at *
  obtain ⟨f, Hf⟩ : ∃ f, Hid (O.poolAt j y x k = f) := ⟨_, rfl⟩
  rw [Hf.out] at HP HF
  go_loopw [11, 12, 13] (fun e s i wr => ∃ q : Nat, q ≤ N ∧ i = .int .i64 q ∧ e = .int .i64 (O.best f (q * N)) ∧ s = .int .i64 (D.S f (q * N)) ∧ ∃ m, wr = w.drewN m) (fun _ _ i _ => N - (intOf i).toNat)
  case atStart => exact ⟨0, Nat.zero_le _, rfl, by rw [Nat.zero_mul]; rfl, by rw [Nat.zero_mul]; rfl, 0, rfl⟩
  case round =>
    obtain ⟨i, hi, rfl, rfl, rfl, m, rfl⟩ := hrel
    by_cases hlt : i < N
    · go_wp2
      go_loopw [11, 12, 14] (fun e s i' wr => ∃ p : Nat, p ≤ N ∧ i' = .int .i64 p ∧ e = .int .i64 (O.best f (i * N + p)) ∧ s = .int .i64 (D.S f (i * N + p)) ∧ ∃ m, wr = w.drewN m) (fun _ _ i _ => N - (intOf i).toNat)
      case atStart => exact ⟨0, Nat.zero_le _, rfl, rfl, rfl, m, rfl⟩
      case round =>
        obtain ⟨p, hp, rfl, rfl, rfl, m, rfl⟩ := hrel
        by_cases hlt2 : p < N
        · have hB := best_range HF.out (i * N + p)
          have hS := O.S_abs' (f := f) (n := i * N + p) (N := 65280) (B := 128) (by
            have : i * N ≤ 255 * 255 := Nat.mul_le_mul (by omega) (by omega)
            omega) (by decide) fun q _ => by have := HF.out q; omega
          have hv := HF.out (i * N + p)
          have H1 := hide (show O.best f (i * N + (p + 1)) = if O.best f (i * N + p) < f (i * N + p) then f (i * N + p) else O.best f (i * N + p) from rfl)
          have H2 := hide (show D.S f (i * N + (p + 1)) = D.S f (i * N + p) + f (i * N + p) from rfl)
          have H3 := hide (HP.out i p hlt2)
          go_wp2_with fail
          refine (oat_c b 16 j.a A.aa A.ac (u + i) (v + p) k _ (HJ.out.a.drewN _) Hj.out.a.len Hj.out.a.h1 Hj.out.a.w1 Hj.out.a.c1).mono ?_
          rintro e w4 ⟨rfl, m4, rfl⟩
          rw [← H3.out]
          generalize O.best f (i * N + p) = B at *
          generalize D.S f (i * N + p) = S at *
          generalize f (i * N + p) = c at *
          obtain ⟨b0, b1⟩ := hB
          obtain ⟨s0, s1⟩ := hS
          obtain ⟨c0, c1⟩ := hv
          by_cases hc : B < c
          · rw [if_pos hc] at H1
            go_wp2
            go_roundw
            case rel => exact ⟨p + 1, by omega, by go_num, by rw [H1.out], by rw [H2.out], _, rfl⟩
            case measure => simp [intOf]; omega
          · rw [if_neg hc] at H1
            go_wp2
            go_roundw
            case rel => exact ⟨p + 1, by omega, by go_num, by rw [H1.out], by rw [H2.out], _, rfl⟩
            case measure => simp [intOf]; omega
        · obtain rfl : p = N := by omega
          have H1 := hide (show O.best f (i * p + p) = O.best f ((i + 1) * p) by rw [Nat.succ_mul])
          have H2 := hide (show D.S f (i * p + p) = D.S f ((i + 1) * p) by rw [Nat.succ_mul])
          rw [H1.out, H2.out]
          go_wp2
          go_roundw
          case rel => exact ⟨i + 1, by omega, by go_num, rfl, rfl, _, rfl⟩
          case measure => simp [intOf]; omega
    · obtain rfl : i = N := by omega
      have d2 := HK.out
      have hB := best_range HF.out (i * i)
      have hS := O.S_abs' (f := f) (n := i * i) (N := 65280) (B := 128) (by
        have : i * i ≤ 255 * 255 := Nat.mul_le_mul (by omega) (by omega)
        omega) (by decide) fun q _ => by have := HF.out q; omega
      have hii := O.mul_abs (a := (i : Int)) (b := (i : Int)) (A := 255) (B := 255) (by omega) (by omega)
      by_cases h5 : j.op.kind = 5
      · have h5' : (j.op.kind == 5) = true := by simp [h5]
        have He := hide (pool_max (y := y) (x := x) (k := k) HN.out h5)
        rw [Hf.out] at He
        clear h5
        go_wp2_with fail
        refine (oranged_c b j A (O.best f (i * i)) _ (HJ.out.drewN _)).mono ?_
        rintro e w4 ⟨rfl, m4, rfl⟩
        go_wp2
        go_ret
        exact ⟨ret_int He.out.symm, gr_drewN _ _ _⟩
      · have h5' : (j.op.kind == 5) = false := by simp [h5]
        have He := hide (pool_avg (y := y) (x := x) (k := k) HN.out h5)
        rw [Hf.out] at He
        clear h5
        generalize D.S f (i * i) = S at *
        obtain ⟨s0, s1⟩ := hS
        obtain ⟨i0, i1⟩ := hii
        go_wp2_with fail
        have HJ5 := hide (HJ.out.drewN m)
        have HG5 := hide (gr_drewN w m none)
        clear d0 d1 d2 HK HJ
        generalize w.drewN m = w5 at *
        have d1 := HJ5.out.size
        rw [HN.out] at d1
        go_quiet (first | (go_at_call 179; refine Calls.quiet_of_same (onearest_c S ((i : Int) * i) _ (by omega) (by omega) (by omega))))
        have HJ6 := hide (HJ5.out.drewN nq)
        have HG6 := hide (gr_trans HG5.out (gr_drewN w5 nq none))
        clear HJ5 HG5 d1
        generalize w5.drewN nq = w6 at *
        generalize O.nearest S ((i : Int) * i) = q at *
        go_wp2_with fail
        refine (oranged_c b j A q _ HJ6.out).mono ?_
        rintro e w4 ⟨rfl, m4, rfl⟩
        have HG7 := hide (gr_trans HG6.out (gr_drewN w6 m4 none))
        go_wp2
        go_ret
        exact ⟨ret_int He.out.symm, HG7.out⟩

theorem oweigh_l (b : Nat) (j : O.J) (A : JA) (y x o first last shift : Int) (w : World) (hJ : Jm w b j A) (hj : O.Jok j) (hl : j.op.scales.length = 1) (y0 : 0 ≤ y) (y1 : y ≤ 255) (x0 : 0 ≤ x) (x1 : x ≤ 255)
    (f0 : 0 ≤ first) (f1 : first ≤ 255) (l0 : first ≤ last) (l1 : last - first ≤ 255) (h0 : 0 ≤ shift) (h1 : shift ≤ 65025) (hs : j.weights.h * j.weights.w * (last - first) ≤ 512) :
    Calls Tryz.prog 152 #[.pointer (some ⟨b, 0, none⟩), .int .i64 y, .int .i64 x, .int .i64 o, .int .i64 first, .int .i64 last, .int .i64 shift] w fun e w' => e = .returned (.int .i64 (O.weigh j y x o first last shift)) ∧ w.grownBy w' none := by
  obtain ⟨n, hn⟩ := Int.eq_ofNat_of_zero_le (show 0 ≤ last - first by omega)
  obtain rfl : last = first + n := by omega
  exact oweigh_c b j A y x o first shift n w hJ hj hl y0 y1 x0 x1 f0 f1 (by omega) h0 h1 (by rw [← hn]; exact hs)

/-- What an operator's kind asks of a job. -/
structure Jkind (j : O.J) : Prop where
  s1 : j.op.kind = 1 ∨ j.op.kind = 2 ∨ j.op.kind = 3 → j.op.scales.length = 1
  s3 : j.op.kind = 4 → j.op.scales.length = 3
  w1 : j.op.kind = 1 → j.weights.h * j.weights.w * j.a.c ≤ 512
  w2 : j.op.kind = 2 → j.weights.h * j.weights.w ≤ 512

theorem jkind {m : M.Md} {o : M.Op} {la lb : List Int} (F : O.Finds m o la lb) : Jkind (O.start m o la lb) := by
  have ew : M.hasWeights o.kind = true → (O.start m o la lb).weights = O.lay (M.tensorAt m o.weights) (M.tensorAt m o.weights).data := fun hW => if_pos hW
  refine ⟨fun h => ?_, fun h => ?_, fun h => ?_, fun h => ?_⟩
  · have h : o.kind = 1 ∨ o.kind = 2 ∨ o.kind = 3 := h
    have := F.fit.scales
    rw [if_pos (by rw [hw_iff]; exact h)] at this
    exact this
  · have h : o.kind = 4 := h
    have := F.fit.scales
    rw [if_neg (by rw [hw_iff]; omega), if_pos h] at this
    exact this
  · have h : o.kind = 1 := h
    have := F.window (.inl h)
    rw [if_pos h] at this
    rw [ew (by rw [hw_iff]; omega)]
    exact this
  · have h : o.kind = 2 := h
    have := F.window (.inr h)
    rw [if_neg (by omega), Int.mul_one] at this
    rw [ew (by rw [hw_iff]; omega)]
    exact this

end Go.Proofs.YtcnhfffgbamonaaGreat
