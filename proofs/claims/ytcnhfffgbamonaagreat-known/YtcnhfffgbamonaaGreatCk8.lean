/-
  P6: shapes of Dense.
-/
import Derived.Test.YtcnhfffgbamonaaGreatCk7
import Derived.Deep.RegionWith
namespace Go.Proofs.YtcnhfffgbamonaaGreat
open Go.RowKit

theorem blks4 (w : World) (T1 T2 T3 T4 : TypeId) (A B C D : Array Value) : Blk ((((w.alloc (.cells A T1)).alloc (.cells B T2)).alloc (.cells C T3)).alloc (.cells D T4)) w.heap.size T1 A ∧
    Blk ((((w.alloc (.cells A T1)).alloc (.cells B T2)).alloc (.cells C T3)).alloc (.cells D T4)) (w.heap.size + 1) T2 B ∧
    Blk ((((w.alloc (.cells A T1)).alloc (.cells B T2)).alloc (.cells C T3)).alloc (.cells D T4)) (w.heap.size + 1 + 1) T3 C ∧
    Blk ((((w.alloc (.cells A T1)).alloc (.cells B T2)).alloc (.cells C T3)).alloc (.cells D T4)) (w.heap.size + 1 + 1 + 1) T4 D := by
  have h1 := Blk.new w T1 A
  have h2 := Blk.new (w.alloc (.cells A T1)) T2 B
  have h3 := Blk.new ((w.alloc (.cells A T1)).alloc (.cells B T2)) T3 C
  have h4 := Blk.new (((w.alloc (.cells A T1)).alloc (.cells B T2)).alloc (.cells C T3)) T4 D
  simp only [World.size_alloc] at h2 h3 h4
  exact ⟨((h1.alloc _).alloc _).alloc _, (h2.alloc _).alloc _, h3.alloc _, h4⟩
theorem gr_alloc4 (w : World) (o1 o2 o3 o4 : Obj) (row : Option Nat) : w.grownBy ((((w.alloc o1).alloc o2).alloc o3).alloc o4) row := gr_trans (gr_alloc2 w o1 o2 row) (gr_alloc2 _ _ _ _)

theorem cellsOf_t (t : M.Tn) (dv : Value) (W : World) (h : WfT t) : Calls Tryz.prog 123 #[.agg (tval t dv)] W fun e W' => e = .returned (.int .i64 (M.cellsOf t)) ∧ W.grownBy W' none :=
  cellsOf_c t.kind t.h t.w t.c t.zero dv W h.h0 h.h1 h.w0 h.w1 h.c0 h.c1

set_option maxHeartbeats 1600000 in
theorem dense_c (a we b z : M.Tn) (aa : Option Addr) (na ca : Nat) (dw dz : Value) (ab : Option Addr) (nb cb : Nat) (w : World) (ha : WfT a) :
    Calls Tryz.prog 189 #[.agg (tval a (.slice aa na ca)), .agg (tval we dw), .agg (tval b (.slice ab nb cb)), .agg (tval z dz)] w fun e w' => e = .returned (.bool (M.denseHolds a we b z)) ∧ w.grownBy w' none := by
  have Hbs := hide (blks4 w 158 158 158 158 (tval a (.slice aa na ca)) (tval we dw) (tval b (.slice ab nb cb)) (tval z dz))
  have g0 := gr_alloc4 w (.cells (tval a (.slice aa na ca)) 158) (.cells (tval we dw) 158) (.cells (tval b (.slice ab nb cb)) 158) (.cells (tval z dz) 158) none
  have w1 := tv1 we dw
  go_enter Tryz.func189, Tryz.ntmps189
  go_wp2_with (refine wpList_load_row rfl 158 _ rfl (w.heap.size + 1 + 1 + 1) rfl 158 (tval z dz) (0, 0) _ Hbs.out.2.2.2 Tryz.underlying158 rfl Tryz.size158 ?_)
  refine (isRow_c z dz we.h _).mono ?_
  rintro e w5 ⟨rfl, hg5⟩
  have gw5 := gr_trans g0 hg5
  obtain ⟨k1, k2, k3, k4⟩ := Hbs.out
  have j1 := k1.kept hg5 (by simp)
  have j2 := k2.kept hg5 (by simp)
  have j3 := k3.kept hg5 (by simp)
  have HJ := hide (And.intro j1 j2)
  obtain ⟨d0, d1, d2, d3, d4, d5⟩ := cells6 (k := b.kind) (h := b.h) (v := b.w) (c := b.c) (z := b.zero) (dv := .slice ab nb cb) j3
  have e1 : w5.cell? ⟨w.heap.size + 1, 1, none⟩ = some (.int .i64 we.h) := j2.cell 1
  clear k1 k2 k3 k4 hg5 g0 w1 j1 j2 j3 Hbs
  cases h1 : M.isRow z we.h with
  | false =>
    have He := hide (show M.denseHolds a we b z = false by simp only [M.denseHolds, h1]; rfl)
    clear h1
    go_wp2
    go_ret
    exact ⟨ret_bool He.out.symm, gw5⟩
  | true =>
    have H1 := hide h1
    clear h1
    go_wp2_with fail
    refine (isRow_c b (.slice ab nb cb) we.h _).mono ?_
    rintro e w6 ⟨rfl, hg6⟩
    have gw6 := gr_trans gw5 hg6
    obtain ⟨j1, j2⟩ := HJ.out
    have l1 := j1.kept hg6 (by simp)
    have l2 := j2.kept hg6 (by simp)
    have HL := hide (And.intro l1 l2)
    clear d0 d1 d2 d3 d4 d5 e1 j1 j2 HJ hg6 gw5
    cases h2 : M.isRow b we.h with
    | false =>
      have He := hide (show M.denseHolds a we b z = false by simp only [M.denseHolds, H1.out, h2]; rfl)
      clear h2 l1 l2
      go_wp2
      go_ret
      exact ⟨ret_bool He.out.symm, gw6⟩
    | true =>
      have H2 := hide h2
      clear h2
      have e2 : w6.cell? ⟨w.heap.size + 1, 2, none⟩ = some (.int .i64 we.w) := l2.cell 2
      have e3 : w6.cell? ⟨w.heap.size + 1, 3, none⟩ = some (.int .i64 we.c) := l2.cell 3
      obtain ⟨d0, d1, d2, d3, d4, d5⟩ := cells6 (k := a.kind) (h := a.h) (v := a.w) (c := a.c) (z := a.zero) (dv := .slice aa na ca) l1
      clear l1 l2
      cases h3 : (we.w == 1) with
      | false =>
        have He := hide (show M.denseHolds a we b z = false by simp only [M.denseHolds, H1.out, H2.out, h3]; rfl)
        go_wp2
        go_quiet (fail)
        go_wp2
        go_ret
        exact ⟨ret_bool He.out.symm, gr_trans gw6 (gr_drewN _ _ _)⟩
      | true =>
        have He := hide (show M.denseHolds a we b z = (we.c == M.cellsOf a) by simp only [M.denseHolds, H1.out, H2.out, h3]; rfl)
        go_wp2
        go_region_with (go_at_call 123; refine (cellsOf_t a (.slice aa na ca) _ ha).mono ?_; rintro e w7 ⟨rfl, hg7⟩; have f3 : w7.cell? ⟨w.heap.size + 1, 3, none⟩ = some (.int .i64 we.c) := (Blk.kept (Blk.drew HL.out.2) hg7 (by simp)).cell 3)
        all_goals (go_wp2; go_ret; exact ⟨ret_bool He.out.symm, gr_trans (gr_trans gw6 (gr_drew _ _)) (by assumption)⟩)

end Go.Proofs.YtcnhfffgbamonaaGreat
