/-
  An operator's cell, kind by kind.
-/
import Derived.Test.YtcnhfffgbamonaaGreatOp4
import Derived.Lib.QuietBelow
namespace Go.Proofs.YtcnhfffgbamonaaGreat
open Go.RowKit Go.Sort

/-- A callee's contract in every world that has only grown. -/
theorem regrown_call {f : FuncId} {args : Array Value} {w : World} {v : Value} (h : ∀ W, w.grownBy W none → Calls Tryz.prog f args W fun e w' => e = .returned v ∧ W.grownBy w' none) (d : Nat) (os : Array Obj) :
    Calls Tryz.prog f args (grow (redrawn w d) os) fun e w'' => e = .returned v ∧ ∃ p : Regrown, w'' = grow (redrawn w p.d) p.os :=
  Calls.regrown_of ((h _ (below_gr (below_regrown w d os))).mono fun _ _ ⟨he, hg⟩ => ⟨he, gr_below hg⟩)

set_option maxRecDepth 100000 in
set_option maxHeartbeats 1600000 in
theorem ocell1_c (b : Nat) (j : O.J) (A : JA) (y x k : Int) (w : World) (hJ : Jm w b j A) (hj : O.Jok j) (hk : Jkind j) (y0 : 0 ≤ y) (y1 : y ≤ 255) (x0 : 0 ≤ x) (x1 : x ≤ 255) (k0 : 0 ≤ k) (k1 : k ≤ 255) (h : j.op.kind = 1) :
    Calls Tryz.prog 124 #[.pointer (some ⟨b, 0, none⟩), .int .i64 y, .int .i64 x, .int .i64 k] w fun e w' => e = .returned (.int .i64 (O.cell j y x k)) ∧ w.grownBy w' none := by
  have d0 := hJ.kind
  have d1 := cell_regrown hJ.a.gc
  rw [h] at d0
  obtain ⟨c0, c1⟩ := And.intro hj.a.c0 hj.a.c1
  have m1 := O.mul_abs (a := k) (b := j.a.c) (A := 255) (B := 255) (by omega) (by omega)
  have m0 : 0 ≤ k * j.a.c := Int.mul_nonneg k0 c0
  have hwr := hide (show IntKind.i64.wrap (k * j.a.c) = k * j.a.c by rw [IntKind.wrap_i64]; omega)
  have He := hide (show O.cell j y x k = O.weigh j y x k 0 j.a.c (k * j.a.c) by unfold O.cell; rw [if_pos h])
  have HC := hide (regrown_call (w := w) fun W hW => oweigh_l b j A y x k 0 j.a.c (k * j.a.c) W (hJ.kept hW) hj (hk.s1 (.inl h)) y0 y1 x0 x1 (by decide) (by decide) c0 (by omega) m0 (by omega) (by rw [Int.sub_zero]; exact hk.w1 h))
  clear hJ hj hk h
  go_enter Tryz.func124, Tryz.ntmps124
  go_wp2_with fail
  refine wp_region_quiet_below (by kernel_rfl) (by kernel_rfl) ?_
  repeat (quiet_step ((rw [hwr.out]; exact HC.out _ _)))
  refine wpQuiet_nil ?_
  intro _ hw'
  obtain ⟨⟨dq, osq⟩, hw''⟩ := hw'
  subst hw''
  go_wp2
  go_ret
  exact ⟨ret_int He.out.symm, below_gr (below_regrown w dq osq)⟩

set_option maxRecDepth 100000 in
set_option maxHeartbeats 1600000 in
theorem ocell2_c (b : Nat) (j : O.J) (A : JA) (y x k : Int) (w : World) (hJ : Jm w b j A) (hj : O.Jok j) (hk : Jkind j) (y0 : 0 ≤ y) (y1 : y ≤ 255) (x0 : 0 ≤ x) (x1 : x ≤ 255) (k0 : 0 ≤ k) (k1 : k ≤ 255) (h : j.op.kind = 2) :
    Calls Tryz.prog 124 #[.pointer (some ⟨b, 0, none⟩), .int .i64 y, .int .i64 x, .int .i64 k] w fun e w' => e = .returned (.int .i64 (O.cell j y x k)) ∧ w.grownBy w' none := by
  have d0 := hJ.kind
  rw [h] at d0
  have He := hide (show O.cell j y x k = O.weigh j y x k k (k + 1) 0 by unfold O.cell; rw [if_neg (by omega), if_pos h])
  have HC := hide (fun (W : World) (hW : w.grownBy W none) => oweigh_l b j A y x k k (k + 1) 0 W (hJ.kept hW) hj (hk.s1 (.inr (.inl h))) y0 y1 x0 x1 k0 k1 (by omega) (by omega) (by omega) (by omega) (by rw [show k + 1 - k = 1 by omega, Int.mul_one]; exact hk.w2 h))
  clear hJ hj hk h
  go_enter Tryz.func124, Tryz.ntmps124
  go_wp2_with fail
  refine (HC.out _ (World.grownBy.refl _ _)).mono ?_
  rintro e w2 ⟨rfl, hg2⟩
  go_wp2
  go_ret
  exact ⟨ret_int He.out.symm, hg2⟩

set_option maxRecDepth 100000 in
set_option maxHeartbeats 1600000 in
theorem ocell3_c (b : Nat) (j : O.J) (A : JA) (y x k : Int) (w : World) (hJ : Jm w b j A) (hj : O.Jok j) (hk : Jkind j) (h : j.op.kind = 3) :
    Calls Tryz.prog 124 #[.pointer (some ⟨b, 0, none⟩), .int .i64 y, .int .i64 x, .int .i64 k] w fun e w' => e = .returned (.int .i64 (O.cell j y x k)) ∧ w.grownBy w' none := by
  have d0 := hJ.kind
  rw [h] at d0
  have He := hide (show O.cell j y x k = O.weighAll j k by unfold O.cell; rw [if_neg (by omega), if_neg (by omega), if_pos h])
  have HC := hide (oweighAll_c b j A k w hJ hj (hk.s1 (.inr (.inr h))))
  clear hJ hj hk h
  go_enter Tryz.func124, Tryz.ntmps124
  go_wp2_with fail
  refine HC.out.mono ?_
  rintro e w2 ⟨rfl, hg2⟩
  go_wp2
  go_ret
  exact ⟨ret_int He.out.symm, hg2⟩

set_option maxRecDepth 100000 in
set_option maxHeartbeats 1600000 in
theorem ocell4_c (b : Nat) (j : O.J) (A : JA) (y x k : Int) (w : World) (hJ : Jm w b j A) (hj : O.Jok j) (hk : Jkind j) (h : j.op.kind = 4) :
    Calls Tryz.prog 124 #[.pointer (some ⟨b, 0, none⟩), .int .i64 y, .int .i64 x, .int .i64 k] w fun e w' => e = .returned (.int .i64 (O.cell j y x k)) ∧ w.grownBy w' none := by
  have d0 := hJ.kind
  rw [h] at d0
  have He := hide (show O.cell j y x k = O.add j y x k by unfold O.cell; rw [if_neg (by omega), if_neg (by omega), if_neg (by omega), if_pos h])
  have HC := hide (oadd_c b j A y x k w hJ hj (hk.s3 h))
  clear hJ hj hk h
  go_enter Tryz.func124, Tryz.ntmps124
  go_wp2_with fail
  refine HC.out.mono ?_
  rintro e w2 ⟨rfl, hg2⟩
  go_wp2
  go_ret
  exact ⟨ret_int He.out.symm, hg2⟩

set_option maxRecDepth 100000 in
set_option maxHeartbeats 1600000 in
theorem ocell5_c (b : Nat) (j : O.J) (A : JA) (y x k : Int) (w : World) (hJ : Jm w b j A) (hj : O.Jok j) (y0 : 0 ≤ y) (y1 : y ≤ 255) (x0 : 0 ≤ x) (x1 : x ≤ 255) (h : j.op.kind = 5 ∨ j.op.kind = 6) :
    Calls Tryz.prog 124 #[.pointer (some ⟨b, 0, none⟩), .int .i64 y, .int .i64 x, .int .i64 k] w fun e w' => e = .returned (.int .i64 (O.cell j y x k)) ∧ w.grownBy w' none := by
  have d0 := hJ.kind
  have He := hide (show O.cell j y x k = O.pool j y x k by unfold O.cell; rw [if_neg (by omega), if_neg (by omega), if_neg (by omega), if_neg (by omega), if_pos h])
  have HC := hide (opool_c b j A y x k w hJ hj y0 y1 x0 x1)
  clear hJ hj
  rcases h with h | h
  · rw [h] at d0
    clear h
    go_enter Tryz.func124, Tryz.ntmps124
    go_wp2_with fail
    refine HC.out.mono ?_
    rintro e w2 ⟨rfl, hg2⟩
    go_wp2
    go_ret
    exact ⟨ret_int He.out.symm, hg2⟩
  · rw [h] at d0
    clear h
    go_enter Tryz.func124, Tryz.ntmps124
    go_wp2_with fail
    refine HC.out.mono ?_
    rintro e w2 ⟨rfl, hg2⟩
    go_wp2
    go_ret
    exact ⟨ret_int He.out.symm, hg2⟩

set_option maxRecDepth 100000 in
set_option maxHeartbeats 1600000 in
theorem ocell7_c (b : Nat) (j : O.J) (A : JA) (y x k : Int) (w : World) (hJ : Jm w b j A) (hj : O.Jok j) (h : j.op.kind = 7) :
    Calls Tryz.prog 124 #[.pointer (some ⟨b, 0, none⟩), .int .i64 y, .int .i64 x, .int .i64 k] w fun e w' => e = .returned (.int .i64 (O.cell j y x k)) ∧ w.grownBy w' none := by
  have d0 := hJ.kind
  rw [h] at d0
  have He := hide (show O.cell j y x k = O.ranged j (O.at_ j.a y x k) by unfold O.cell; rw [if_neg (by omega), if_neg (by omega), if_neg (by omega), if_neg (by omega), if_neg (by omega), if_pos h])
  have HJ := hide hJ
  have Hj := hide hj
  clear hJ hj h
  go_enter Tryz.func124, Tryz.ntmps124
  go_wp2_with fail
  refine (oat_c b 16 j.a A.aa A.ac y x k _ HJ.out.a Hj.out.a.len Hj.out.a.h1 Hj.out.a.w1 Hj.out.a.c1).mono ?_
  rintro e w4 ⟨rfl, m4, rfl⟩
  generalize O.at_ j.a y x k = v at *
  go_wp2_with fail
  refine (oranged_c b j A v _ (HJ.out.drewN _)).mono ?_
  rintro e w5 ⟨rfl, m5, rfl⟩
  go_wp2
  go_ret
  exact ⟨ret_int He.out.symm, gr_drewN _ _ _⟩

set_option maxRecDepth 100000 in
set_option maxHeartbeats 1600000 in
theorem ocell8_c (b : Nat) (j : O.J) (A : JA) (y x k : Int) (w : World) (hJ : Jm w b j A) (hj : O.Jok j) (y0 : 0 ≤ y) (y1 : y ≤ 255) (x0 : 0 ≤ x) (x1 : x ≤ 255) (h : j.op.kind = 8) :
    Calls Tryz.prog 124 #[.pointer (some ⟨b, 0, none⟩), .int .i64 y, .int .i64 x, .int .i64 k] w fun e w' => e = .returned (.int .i64 (O.cell j y x k)) ∧ w.grownBy w' none := by
  have d0 := hJ.kind
  have d1 := hJ.above
  have d2 := hJ.left
  rw [h] at d0
  obtain ⟨a0, a1⟩ := hj.fit.above
  obtain ⟨l0, l1⟩ := hj.fit.left
  have He := hide (show O.cell j y x k = O.at_ j.a (y - j.op.above) (x - j.op.left) k by unfold O.cell; rw [if_neg (by omega), if_neg (by omega), if_neg (by omega), if_neg (by omega), if_neg (by omega), if_neg (by omega), if_pos h])
  have HJ := hide hJ
  have Hj := hide hj
  clear hJ hj h
  go_enter Tryz.func124, Tryz.ntmps124
  go_wp2_with fail
  go_quiet (first | (go_at_call 156; refine Calls.quiet_of (oat_c b 16 j.a A.aa A.ac (y - j.op.above) (x - j.op.left) k _ (HJ.out.a.drewN _) Hj.out.a.len Hj.out.a.h1 Hj.out.a.w1 Hj.out.a.c1)))
  go_wp2
  go_ret
  exact ⟨ret_int He.out.symm, gr_drewN _ _ _⟩

set_option maxRecDepth 100000 in
set_option maxHeartbeats 1600000 in
theorem ocell9_c (b : Nat) (j : O.J) (A : JA) (y x k : Int) (w : World) (hJ : Jm w b j A) (hj : O.Jok j) (y0 : 0 ≤ y) (y1 : y ≤ 255) (x0 : 0 ≤ x) (x1 : x ≤ 255) (k0 : 0 ≤ k) (k1 : k ≤ 255) (h : j.op.kind = 9) :
    Calls Tryz.prog 124 #[.pointer (some ⟨b, 0, none⟩), .int .i64 y, .int .i64 x, .int .i64 k] w fun e w' => e = .returned (.int .i64 (O.cell j y x k)) ∧ w.grownBy w' none := by
  have d0 := hJ.kind
  have d1 := hJ.mw
  have d2 := hJ.mc
  rw [h] at d0
  obtain ⟨a0, a1⟩ := And.intro hj.z.w0 hj.z.w1
  obtain ⟨l0, l1⟩ := And.intro hj.z.c0 hj.z.c1
  have m1 := O.mul_abs (a := y) (b := j.made.w) (A := 255) (B := 255) (by omega) (by omega)
  have m2 := O.mul_abs (a := y * j.made.w + x) (b := j.made.c) (A := 65280) (B := 255) (by omega) (by omega)
  have He := hide (show O.cell j y x k = O.nth j.a ((y * j.made.w + x) * j.made.c + k) by unfold O.cell; rw [if_neg (by omega), if_neg (by omega), if_neg (by omega), if_neg (by omega), if_neg (by omega), if_neg (by omega), if_neg (by omega), if_pos h])
  have HJ := hide hJ
  have Hj := hide hj
  clear hJ hj h
  go_enter Tryz.func124, Tryz.ntmps124
  go_wp2_with fail
  go_quiet (first | (go_at_call 158; refine Calls.quiet_of_same (onth_c b 16 j.a A.aa A.ac ((y * j.made.w + x) * j.made.c + k) _ (HJ.out.a.drewN _) Hj.out.a.len)))
  go_wp2
  go_ret
  exact ⟨ret_int He.out.symm, gr_drewN _ _ _⟩

set_option maxRecDepth 100000 in
set_option maxHeartbeats 1600000 in
theorem ocell10_c (b : Nat) (j : O.J) (A : JA) (y x k : Int) (w : World) (hJ : Jm w b j A) (hj : O.Jok j) (k0 : 0 ≤ k) (k1 : k ≤ 255) (h : j.op.kind = 10) :
    Calls Tryz.prog 124 #[.pointer (some ⟨b, 0, none⟩), .int .i64 y, .int .i64 x, .int .i64 k] w fun e w' => e = .returned (.int .i64 (O.cell j y x k)) ∧ w.grownBy w' none := by
  have d0 := hJ.kind
  have d1 := hJ.a.gc
  rw [h] at d0
  obtain ⟨l0, l1⟩ := And.intro hj.a.c0 hj.a.c1
  have He := hide (show O.cell j y x k = if k < j.a.c then O.at_ j.a y x k else O.at_ j.b y x (k - j.a.c) by unfold O.cell; rw [if_neg (by omega), if_neg (by omega), if_neg (by omega), if_neg (by omega), if_neg (by omega), if_neg (by omega), if_neg (by omega), if_neg (by omega), if_pos h])
  have HJ := hide hJ
  have Hj := hide hj
  clear hJ hj h
  by_cases hc : k < j.a.c
  · rw [if_pos hc] at He
    go_enter Tryz.func124, Tryz.ntmps124
    go_wp2_with fail
    refine (oat_c b 16 j.a A.aa A.ac y x k _ HJ.out.a Hj.out.a.len Hj.out.a.h1 Hj.out.a.w1 Hj.out.a.c1).mono ?_
    rintro e w4 ⟨rfl, m4, rfl⟩
    go_wp2
    go_ret
    exact ⟨ret_int He.out.symm, gr_drewN _ _ _⟩
  · rw [if_neg hc] at He
    go_enter Tryz.func124, Tryz.ntmps124
    go_wp2_with fail
    go_quiet (first | (go_at_call 156; refine Calls.quiet_of (oat_c b 21 j.b A.ba A.bc y x (k - j.a.c) _ (HJ.out.bb.drewN _) Hj.out.b.len Hj.out.b.h1 Hj.out.b.w1 Hj.out.b.c1)))
    go_wp2
    go_ret
    exact ⟨ret_int He.out.symm, gr_drewN _ _ _⟩

theorem ocell_c (b : Nat) (j : O.J) (A : JA) (y x k : Int) (w : World) (hJ : Jm w b j A) (hj : O.Jok j) (hk : Jkind j) (y0 : 0 ≤ y) (y1 : y ≤ 255) (x0 : 0 ≤ x) (x1 : x ≤ 255) (k0 : 0 ≤ k) (k1 : k ≤ 255) :
    Calls Tryz.prog 124 #[.pointer (some ⟨b, 0, none⟩), .int .i64 y, .int .i64 x, .int .i64 k] w fun e w' => e = .returned (.int .i64 (O.cell j y x k)) ∧ w.grownBy w' none := by
  have f0 := hj.fit.k0
  have f1 := hj.fit.k1
  by_cases h1 : j.op.kind = 1
  · exact ocell1_c b j A y x k w hJ hj hk y0 y1 x0 x1 k0 k1 h1
  by_cases h2 : j.op.kind = 2
  · exact ocell2_c b j A y x k w hJ hj hk y0 y1 x0 x1 k0 k1 h2
  by_cases h3 : j.op.kind = 3
  · exact ocell3_c b j A y x k w hJ hj hk h3
  by_cases h4 : j.op.kind = 4
  · exact ocell4_c b j A y x k w hJ hj hk h4
  by_cases h5 : j.op.kind = 5 ∨ j.op.kind = 6
  · exact ocell5_c b j A y x k w hJ hj y0 y1 x0 x1 h5
  by_cases h7 : j.op.kind = 7
  · exact ocell7_c b j A y x k w hJ hj h7
  by_cases h8 : j.op.kind = 8
  · exact ocell8_c b j A y x k w hJ hj y0 y1 x0 x1 h8
  by_cases h9 : j.op.kind = 9
  · exact ocell9_c b j A y x k w hJ hj y0 y1 x0 x1 k0 k1 h9
  exact ocell10_c b j A y x k w hJ hj k0 k1 (by omega)

end Go.Proofs.YtcnhfffgbamonaaGreat
