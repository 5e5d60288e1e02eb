/-
  P6: small shapes: alike, isRow, windows.
-/
import Derived.Test.YtcnhfffgbamonaaGreatCkA
namespace Go.Proofs.YtcnhfffgbamonaaGreat
open Go.RowKit

theorem tv0 (t : M.Tn) (dv : Value) : (tval t dv)[0]? = some (.int .i64 t.kind) := rfl
theorem tv1 (t : M.Tn) (dv : Value) : (tval t dv)[1]? = some (.int .i64 t.h) := rfl
theorem tv2 (t : M.Tn) (dv : Value) : (tval t dv)[2]? = some (.int .i64 t.w) := rfl
theorem tv3 (t : M.Tn) (dv : Value) : (tval t dv)[3]? = some (.int .i64 t.c) := rfl
theorem tv4 (t : M.Tn) (dv : Value) : (tval t dv)[4]? = some (.int .i64 t.zero) := rfl

set_option maxHeartbeats 400000 in
theorem alike_c (a z : M.Tn) (da dz : Value) (w : World) :
    Calls Tryz.prog 190 #[.agg (tval a da), .agg (tval z dz)] w fun e w' => e = .returned (.bool (M.alike a z)) ∧ w.grownBy w' none := by
  have a1 := tv1 a da
  have a2 := tv2 a da
  have a3 := tv3 a da
  have z1 := tv1 z dz
  have z2 := tv2 z dz
  have z3 := tv3 z dz
  cases h1 : (a.h == z.h) with
  | false =>
    have He := hide (show M.alike a z = false by simp only [M.alike, h1]; rfl)
    go_enter Tryz.func190, Tryz.ntmps190
    go_wp2
    go_ret
    exact ⟨ret_bool He.out.symm, gr_alloc2 _ _ _ _⟩
  | true =>
    cases h2 : (a.w == z.w) with
    | false =>
      have He := hide (show M.alike a z = false by simp only [M.alike, h1, h2]; rfl)
      go_enter Tryz.func190, Tryz.ntmps190
      go_wp2
      go_ret
      exact ⟨ret_bool He.out.symm, gr_alloc2 _ _ _ _⟩
    | true =>
      have He := hide (show M.alike a z = (a.c == z.c) by simp only [M.alike, h1, h2]; rfl)
      go_enter Tryz.func190, Tryz.ntmps190
      go_wp2
      go_ret
      exact ⟨ret_bool He.out.symm, gr_alloc2 _ _ _ _⟩

set_option maxHeartbeats 400000 in
theorem isRow_c (a : M.Tn) (da : Value) (n : Int) (w : World) :
    Calls Tryz.prog 196 #[.agg (tval a da), .int .i64 n] w fun e w' => e = .returned (.bool (M.isRow a n)) ∧ w.grownBy w' none := by
  have a1 := tv1 a da
  have a2 := tv2 a da
  have a3 := tv3 a da
  cases h1 : (a.h == 1) with
  | false =>
    have He := hide (show M.isRow a n = false by simp only [M.isRow, h1]; rfl)
    go_enter Tryz.func196, Tryz.ntmps196
    go_wp2
    go_ret
    exact ⟨ret_bool He.out.symm, World.grownBy_alloc _ _ _⟩
  | true =>
    cases h2 : (a.w == 1) with
    | false =>
      have He := hide (show M.isRow a n = false by simp only [M.isRow, h1, h2]; rfl)
      go_enter Tryz.func196, Tryz.ntmps196
      go_wp2
      go_ret
      exact ⟨ret_bool He.out.symm, World.grownBy_alloc _ _ _⟩
    | true =>
      have He := hide (show M.isRow a n = (a.c == n) by simp only [M.isRow, h1, h2]; rfl)
      go_enter Tryz.func196, Tryz.ntmps196
      go_wp2
      go_ret
      exact ⟨ret_bool He.out.symm, World.grownBy_alloc _ _ _⟩

set_option maxHeartbeats 400000 in
theorem windows_c (n l s : Int) (same : Bool) (w : World) (_n0 : 0 ≤ n) (_n1 : n ≤ 255) (_l0 : 0 ≤ l) (_l1 : l ≤ 255) (_s0 : 0 ≤ s) (_s1 : s ≤ 255) :
    Calls Tryz.prog 195 #[.int .i64 n, .int .i64 l, .int .i64 s, .bool same] w fun e w' => e = .returned (.int .i64 (M.windows n l s same)) ∧ w' = w := by
  by_cases h1 : s < 1
  · have He := hide (show M.windows n l s same = 0 by unfold M.windows; rw [if_pos (.inl h1)])
    go_enter Tryz.func195, Tryz.ntmps195
    go_wp2
    go_ret
    exact ⟨ret_int He.out.symm, rfl⟩
  · by_cases h2 : n < 1
    · have He := hide (show M.windows n l s same = 0 by unfold M.windows; rw [if_pos (.inr h2)])
      go_enter Tryz.func195, Tryz.ntmps195
      go_wp2
      go_ret
      exact ⟨ret_int He.out.symm, rfl⟩
    · cases same with
      | true =>
        have He := hide (show M.windows n l s true = (l + s - 1) / s by unfold M.windows; rw [if_neg (by omega), if_pos rfl])
        go_enter Tryz.func195, Tryz.ntmps195
        go_wp2
        go_ret
        exact ⟨ret_int He.out.symm, rfl⟩
      | false =>
        by_cases h3 : l < n
        · have He := hide (show M.windows n l s false = 0 by unfold M.windows; rw [if_neg (by omega), if_neg (by simp), if_pos h3])
          go_enter Tryz.func195, Tryz.ntmps195
          go_wp2
          go_ret
          exact ⟨ret_int He.out.symm, rfl⟩
        · have He := hide (show M.windows n l s false = (l - n) / s + 1 by unfold M.windows; rw [if_neg (by omega), if_neg (by simp), if_neg h3])
          have hq : 0 ≤ (l - n) / s ∧ (l - n) / s ≤ 255 := by
            have h0 : 0 ≤ (l - n) / s := Int.ediv_nonneg (by omega) (by omega)
            have h1 : (l - n) / s ≤ l - n := Int.ediv_le_self _ (by omega)
            exact ⟨h0, by omega⟩
          obtain ⟨hq0, hq1⟩ := hq
          go_enter Tryz.func195, Tryz.ntmps195
          go_wp2
          go_ret
          exact ⟨ret_int He.out.symm, rfl⟩

end Go.Proofs.YtcnhfffgbamonaaGreat
