/-
  P6: an operator's shapes, kind by kind. (Written by a small program of ours: wip/gen/ck9.py.)
-/
import Derived.Test.YtcnhfffgbamonaaGreatCk9
namespace Go.Proofs.YtcnhfffgbamonaaGreat
open Go.RowKit

set_option maxRecDepth 100000 in
set_option maxHeartbeats 2000000 in
theorem shape_1 (m : Nat) (md : M.Md) (o : M.Op) (ao : Option Addr) (p c : Nat) (w : World) (h : Mod w m md) (hw : WfM md) (ho : WfO o) (hk : o.kind = 1) :
    Calls Tryz.prog 168 #[.pointer (some ⟨m, 0, none⟩), .agg (oval o (.slice ao p c))] w fun e w' => e = .returned (.bool (M.shape md o)) ∧ w.grownBy w' none := by
  have v0 := ov0 o (.slice ao p c)
  have v1 := ov1 o (.slice ao p c)
  rw [hk] at v0
  have Hk := hide hk
  clear hk
  have N0 : Blk (w.alloc (.cells (oval o (.slice ao p c)) 142)) w.heap.size 142 (oval o (.slice ao p c)) := Blk.new _ _ _
  have G00 : w.grownBy (w.alloc (.cells (oval o (.slice ao p c)) 142)) none := World.grownBy_alloc _ _ _
  have M00 := h.kept0 G00
  go_enter Tryz.func168, Tryz.ntmps168
  go_wp2_with fail
  refine (tensorAt_c m md o.a _ M00 hw.nt).mono ?_
  rintro e w1 ⟨t1, hx1, ⟨ao1, p1, c1, rfl⟩, hg1⟩
  have Fo1 : Blk w1 w.heap.size 142 (oval o (.slice ao p c)) := Blk.kept N0 hg1 (by simp)
  have M1 := Mod.kept0 M00 hg1
  have G1 := gr_trans G00 hg1
  have wf1 : WfT t1 := by rw [← hx1.out]; exact tensorAt_wf hw _
  clear hg1 N0 G00 M00 v1 v0
  have N1 : Blk (w1.alloc (.cells (tval t1 (.slice ao1 p1 c1)) 158)) w1.heap.size 158 (tval t1 (.slice ao1 p1 c1)) := Blk.new _ _ _
  have co_5 : w1.cell? ⟨w.heap.size, 5, none⟩ = some (.int .i64 o.to) := Fo1.cell 5
  have lt_o : w.heap.size < w1.heap.size := Fo1.lt
  go_wp2_with fail
  refine (tensorAt_c m md o.to _ (M1.kept0 (World.grownBy_alloc _ _ _)) hw.nt).mono ?_
  rintro e w2 ⟨t2, hx2, ⟨ao2, p2, c2, rfl⟩, hg2⟩
  clear co_5 lt_o
  have Fo2 : Blk w2 (w.heap.size) 142 (oval o (.slice ao p c)) := Blk.kept (Fo1.alloc _) hg2 (by simp)
  have Ft12 : Blk w2 (w1.heap.size) 158 (tval t1 (.slice ao1 p1 c1)) := Blk.kept N1 hg2 (by simp)
  have M2 := Mod.kept0 (M1.kept0 (World.grownBy_alloc _ _ _)) hg2
  have G2 := gr_trans (gr_trans G1 (World.grownBy_alloc _ _ _)) hg2
  have wf2 : WfT t2 := by rw [← hx2.out]; exact tensorAt_wf hw _
  clear hg2
  have N2 : Blk (w2.alloc (.cells (tval t2 (.slice ao2 p2 c2)) 158)) w2.heap.size 158 (tval t2 (.slice ao2 p2 c2)) := Blk.new _ _ _
  have co_0 : w2.cell? ⟨w.heap.size, 0, none⟩ = some (.int .i64 1) := by have q := Fo2.cell 0; rw [ov0, Hk.out] at q; exact q
  have lt_o : w.heap.size < w2.heap.size := Fo2.lt
  have co_3 : w2.cell? ⟨w.heap.size, 3, none⟩ = some (.int .i64 o.weights) := Fo2.cell 3
  go_wp2_with fail
  refine (tensorAt_c m md o.weights _ (M2.kept0 (World.grownBy_alloc _ _ _)) hw.nt).mono ?_
  rintro e w3 ⟨t3, hx3, ⟨ao3, p3, c3, rfl⟩, hg3⟩
  clear co_0 lt_o co_3
  have Fo3 : Blk w3 (w.heap.size) 142 (oval o (.slice ao p c)) := Blk.kept (Fo2.alloc _) hg3 (by simp)
  have Ft13 : Blk w3 (w1.heap.size) 158 (tval t1 (.slice ao1 p1 c1)) := Blk.kept (Ft12.alloc _) hg3 (by simp)
  have Ft23 : Blk w3 (w2.heap.size) 158 (tval t2 (.slice ao2 p2 c2)) := Blk.kept N2 hg3 (by simp)
  have M3 := Mod.kept0 (M2.kept0 (World.grownBy_alloc _ _ _)) hg3
  have G3 := gr_trans (gr_trans G2 (World.grownBy_alloc _ _ _)) hg3
  have wf3 : WfT t3 := by rw [← hx3.out]; exact tensorAt_wf hw _
  clear hg3
  have N3 : Blk (w3.alloc (.cells (tval t3 (.slice ao3 p3 c3)) 158)) w3.heap.size 158 (tval t3 (.slice ao3 p3 c3)) := Blk.new _ _ _
  have co_4 : w3.cell? ⟨w.heap.size, 4, none⟩ = some (.int .i64 o.biases) := Fo3.cell 4
  have lt_o : w.heap.size < w3.heap.size := Fo3.lt
  go_wp2_with fail
  refine (tensorAt_c m md o.biases _ (M3.kept0 (World.grownBy_alloc _ _ _)) hw.nt).mono ?_
  rintro e w4 ⟨t4, hx4, ⟨ao4, p4, c4, rfl⟩, hg4⟩
  clear co_4 lt_o
  have Fo4 : Blk w4 (w.heap.size) 142 (oval o (.slice ao p c)) := Blk.kept (Fo3.alloc _) hg4 (by simp)
  have Ft14 : Blk w4 (w1.heap.size) 158 (tval t1 (.slice ao1 p1 c1)) := Blk.kept (Ft13.alloc _) hg4 (by simp)
  have Ft24 : Blk w4 (w2.heap.size) 158 (tval t2 (.slice ao2 p2 c2)) := Blk.kept (Ft23.alloc _) hg4 (by simp)
  have Ft34 : Blk w4 (w3.heap.size) 158 (tval t3 (.slice ao3 p3 c3)) := Blk.kept N3 hg4 (by simp)
  have M4 := Mod.kept0 (M3.kept0 (World.grownBy_alloc _ _ _)) hg4
  have G4 := gr_trans (gr_trans G3 (World.grownBy_alloc _ _ _)) hg4
  have wf4 : WfT t4 := by rw [← hx4.out]; exact tensorAt_wf hw _
  clear hg4
  have N4 : Blk (w4.alloc (.cells (tval t4 (.slice ao4 p4 c4)) 158)) w4.heap.size 158 (tval t4 (.slice ao4 p4 c4)) := Blk.new _ _ _
  have He := hide (show M.shape md o = M.convHolds o t1 t3 t4 t2 by unfold M.shape; simp only [Hk.out, hx1.out, hx2.out, hx3.out, hx4.out]; rfl)
  go_wp2_with (first | (refine wpList_load_row rfl 142 _ rfl (w.heap.size) rfl 142 (oval o (.slice ao p c)) (0, 0) _ (Fo4.alloc _) Tryz.underlying142 rfl Tryz.size142 ?_) | (refine wpList_load_row rfl 158 _ rfl (w1.heap.size) rfl 158 (tval t1 (.slice ao1 p1 c1)) (0, 0) _ (Ft14.alloc _) Tryz.underlying158 rfl Tryz.size158 ?_) | (refine wpList_load_row rfl 158 _ rfl (w3.heap.size) rfl 158 (tval t3 (.slice ao3 p3 c3)) (0, 0) _ (Ft34.alloc _) Tryz.underlying158 rfl Tryz.size158 ?_) | (refine wpList_load_row rfl 158 _ rfl (w4.heap.size) rfl 158 (tval t4 (.slice ao4 p4 c4)) (0, 0) _ N4 Tryz.underlying158 rfl Tryz.size158 ?_) | (refine wpList_load_row rfl 158 _ rfl (w2.heap.size) rfl 158 (tval t2 (.slice ao2 p2 c2)) (0, 0) _ (Ft24.alloc _) Tryz.underlying158 rfl Tryz.size158 ?_))
  refine (conv_c o t1 t3 t4 t2 _ _ _ _ ao4 p4 c4 _ ho wf1 wf3 wf2).mono ?_
  rintro e w9 ⟨rfl, hg9⟩
  have G9 := gr_trans (gr_trans G4 (World.grownBy_alloc _ _ _)) hg9
  go_wp2
  go_ret
  exact ⟨ret_bool He.out.symm, G9⟩

set_option maxRecDepth 100000 in
set_option maxHeartbeats 2000000 in
theorem shape_2 (m : Nat) (md : M.Md) (o : M.Op) (ao : Option Addr) (p c : Nat) (w : World) (h : Mod w m md) (hw : WfM md) (ho : WfO o) (hk : o.kind = 2) :
    Calls Tryz.prog 168 #[.pointer (some ⟨m, 0, none⟩), .agg (oval o (.slice ao p c))] w fun e w' => e = .returned (.bool (M.shape md o)) ∧ w.grownBy w' none := by
  have v0 := ov0 o (.slice ao p c)
  have v1 := ov1 o (.slice ao p c)
  rw [hk] at v0
  have Hk := hide hk
  clear hk
  have N0 : Blk (w.alloc (.cells (oval o (.slice ao p c)) 142)) w.heap.size 142 (oval o (.slice ao p c)) := Blk.new _ _ _
  have G00 : w.grownBy (w.alloc (.cells (oval o (.slice ao p c)) 142)) none := World.grownBy_alloc _ _ _
  have M00 := h.kept0 G00
  go_enter Tryz.func168, Tryz.ntmps168
  go_wp2_with fail
  refine (tensorAt_c m md o.a _ M00 hw.nt).mono ?_
  rintro e w1 ⟨t1, hx1, ⟨ao1, p1, c1, rfl⟩, hg1⟩
  have Fo1 : Blk w1 w.heap.size 142 (oval o (.slice ao p c)) := Blk.kept N0 hg1 (by simp)
  have M1 := Mod.kept0 M00 hg1
  have G1 := gr_trans G00 hg1
  have wf1 : WfT t1 := by rw [← hx1.out]; exact tensorAt_wf hw _
  clear hg1 N0 G00 M00 v1 v0
  have N1 : Blk (w1.alloc (.cells (tval t1 (.slice ao1 p1 c1)) 158)) w1.heap.size 158 (tval t1 (.slice ao1 p1 c1)) := Blk.new _ _ _
  have co_5 : w1.cell? ⟨w.heap.size, 5, none⟩ = some (.int .i64 o.to) := Fo1.cell 5
  have lt_o : w.heap.size < w1.heap.size := Fo1.lt
  go_wp2_with fail
  refine (tensorAt_c m md o.to _ (M1.kept0 (World.grownBy_alloc _ _ _)) hw.nt).mono ?_
  rintro e w2 ⟨t2, hx2, ⟨ao2, p2, c2, rfl⟩, hg2⟩
  clear co_5 lt_o
  have Fo2 : Blk w2 (w.heap.size) 142 (oval o (.slice ao p c)) := Blk.kept (Fo1.alloc _) hg2 (by simp)
  have Ft12 : Blk w2 (w1.heap.size) 158 (tval t1 (.slice ao1 p1 c1)) := Blk.kept N1 hg2 (by simp)
  have M2 := Mod.kept0 (M1.kept0 (World.grownBy_alloc _ _ _)) hg2
  have G2 := gr_trans (gr_trans G1 (World.grownBy_alloc _ _ _)) hg2
  have wf2 : WfT t2 := by rw [← hx2.out]; exact tensorAt_wf hw _
  clear hg2
  have N2 : Blk (w2.alloc (.cells (tval t2 (.slice ao2 p2 c2)) 158)) w2.heap.size 158 (tval t2 (.slice ao2 p2 c2)) := Blk.new _ _ _
  have co_0 : w2.cell? ⟨w.heap.size, 0, none⟩ = some (.int .i64 2) := by have q := Fo2.cell 0; rw [ov0, Hk.out] at q; exact q
  have lt_o : w.heap.size < w2.heap.size := Fo2.lt
  have co_3 : w2.cell? ⟨w.heap.size, 3, none⟩ = some (.int .i64 o.weights) := Fo2.cell 3
  go_wp2_with fail
  refine (tensorAt_c m md o.weights _ (M2.kept0 (World.grownBy_alloc _ _ _)) hw.nt).mono ?_
  rintro e w3 ⟨t3, hx3, ⟨ao3, p3, c3, rfl⟩, hg3⟩
  clear co_0 lt_o co_3
  have Fo3 : Blk w3 (w.heap.size) 142 (oval o (.slice ao p c)) := Blk.kept (Fo2.alloc _) hg3 (by simp)
  have Ft13 : Blk w3 (w1.heap.size) 158 (tval t1 (.slice ao1 p1 c1)) := Blk.kept (Ft12.alloc _) hg3 (by simp)
  have Ft23 : Blk w3 (w2.heap.size) 158 (tval t2 (.slice ao2 p2 c2)) := Blk.kept N2 hg3 (by simp)
  have M3 := Mod.kept0 (M2.kept0 (World.grownBy_alloc _ _ _)) hg3
  have G3 := gr_trans (gr_trans G2 (World.grownBy_alloc _ _ _)) hg3
  have wf3 : WfT t3 := by rw [← hx3.out]; exact tensorAt_wf hw _
  clear hg3
  have N3 : Blk (w3.alloc (.cells (tval t3 (.slice ao3 p3 c3)) 158)) w3.heap.size 158 (tval t3 (.slice ao3 p3 c3)) := Blk.new _ _ _
  have co_4 : w3.cell? ⟨w.heap.size, 4, none⟩ = some (.int .i64 o.biases) := Fo3.cell 4
  have lt_o : w.heap.size < w3.heap.size := Fo3.lt
  go_wp2_with fail
  refine (tensorAt_c m md o.biases _ (M3.kept0 (World.grownBy_alloc _ _ _)) hw.nt).mono ?_
  rintro e w4 ⟨t4, hx4, ⟨ao4, p4, c4, rfl⟩, hg4⟩
  clear co_4 lt_o
  have Fo4 : Blk w4 (w.heap.size) 142 (oval o (.slice ao p c)) := Blk.kept (Fo3.alloc _) hg4 (by simp)
  have Ft14 : Blk w4 (w1.heap.size) 158 (tval t1 (.slice ao1 p1 c1)) := Blk.kept (Ft13.alloc _) hg4 (by simp)
  have Ft24 : Blk w4 (w2.heap.size) 158 (tval t2 (.slice ao2 p2 c2)) := Blk.kept (Ft23.alloc _) hg4 (by simp)
  have Ft34 : Blk w4 (w3.heap.size) 158 (tval t3 (.slice ao3 p3 c3)) := Blk.kept N3 hg4 (by simp)
  have M4 := Mod.kept0 (M3.kept0 (World.grownBy_alloc _ _ _)) hg4
  have G4 := gr_trans (gr_trans G3 (World.grownBy_alloc _ _ _)) hg4
  have wf4 : WfT t4 := by rw [← hx4.out]; exact tensorAt_wf hw _
  clear hg4
  have N4 : Blk (w4.alloc (.cells (tval t4 (.slice ao4 p4 c4)) 158)) w4.heap.size 158 (tval t4 (.slice ao4 p4 c4)) := Blk.new _ _ _
  have He := hide (show M.shape md o = M.convHolds o t1 t3 t4 t2 by unfold M.shape; simp only [Hk.out, hx1.out, hx2.out, hx3.out, hx4.out]; rfl)
  go_wp2_with (first | (refine wpList_load_row rfl 142 _ rfl (w.heap.size) rfl 142 (oval o (.slice ao p c)) (0, 0) _ (Fo4.alloc _) Tryz.underlying142 rfl Tryz.size142 ?_) | (refine wpList_load_row rfl 158 _ rfl (w1.heap.size) rfl 158 (tval t1 (.slice ao1 p1 c1)) (0, 0) _ (Ft14.alloc _) Tryz.underlying158 rfl Tryz.size158 ?_) | (refine wpList_load_row rfl 158 _ rfl (w3.heap.size) rfl 158 (tval t3 (.slice ao3 p3 c3)) (0, 0) _ (Ft34.alloc _) Tryz.underlying158 rfl Tryz.size158 ?_) | (refine wpList_load_row rfl 158 _ rfl (w4.heap.size) rfl 158 (tval t4 (.slice ao4 p4 c4)) (0, 0) _ N4 Tryz.underlying158 rfl Tryz.size158 ?_) | (refine wpList_load_row rfl 158 _ rfl (w2.heap.size) rfl 158 (tval t2 (.slice ao2 p2 c2)) (0, 0) _ (Ft24.alloc _) Tryz.underlying158 rfl Tryz.size158 ?_))
  refine (conv_c o t1 t3 t4 t2 _ _ _ _ ao4 p4 c4 _ ho wf1 wf3 wf2).mono ?_
  rintro e w9 ⟨rfl, hg9⟩
  have G9 := gr_trans (gr_trans G4 (World.grownBy_alloc _ _ _)) hg9
  go_wp2
  go_ret
  exact ⟨ret_bool He.out.symm, G9⟩

set_option maxRecDepth 100000 in
set_option maxHeartbeats 2000000 in
theorem shape_3 (m : Nat) (md : M.Md) (o : M.Op) (ao : Option Addr) (p c : Nat) (w : World) (h : Mod w m md) (hw : WfM md) (_ho : WfO o) (hk : o.kind = 3) :
    Calls Tryz.prog 168 #[.pointer (some ⟨m, 0, none⟩), .agg (oval o (.slice ao p c))] w fun e w' => e = .returned (.bool (M.shape md o)) ∧ w.grownBy w' none := by
  have v0 := ov0 o (.slice ao p c)
  have v1 := ov1 o (.slice ao p c)
  rw [hk] at v0
  have Hk := hide hk
  clear hk
  have N0 : Blk (w.alloc (.cells (oval o (.slice ao p c)) 142)) w.heap.size 142 (oval o (.slice ao p c)) := Blk.new _ _ _
  have G00 : w.grownBy (w.alloc (.cells (oval o (.slice ao p c)) 142)) none := World.grownBy_alloc _ _ _
  have M00 := h.kept0 G00
  go_enter Tryz.func168, Tryz.ntmps168
  go_wp2_with fail
  refine (tensorAt_c m md o.a _ M00 hw.nt).mono ?_
  rintro e w1 ⟨t1, hx1, ⟨ao1, p1, c1, rfl⟩, hg1⟩
  have Fo1 : Blk w1 w.heap.size 142 (oval o (.slice ao p c)) := Blk.kept N0 hg1 (by simp)
  have M1 := Mod.kept0 M00 hg1
  have G1 := gr_trans G00 hg1
  have wf1 : WfT t1 := by rw [← hx1.out]; exact tensorAt_wf hw _
  clear hg1 N0 G00 M00 v1 v0
  have N1 : Blk (w1.alloc (.cells (tval t1 (.slice ao1 p1 c1)) 158)) w1.heap.size 158 (tval t1 (.slice ao1 p1 c1)) := Blk.new _ _ _
  have co_5 : w1.cell? ⟨w.heap.size, 5, none⟩ = some (.int .i64 o.to) := Fo1.cell 5
  have lt_o : w.heap.size < w1.heap.size := Fo1.lt
  go_wp2_with fail
  refine (tensorAt_c m md o.to _ (M1.kept0 (World.grownBy_alloc _ _ _)) hw.nt).mono ?_
  rintro e w2 ⟨t2, hx2, ⟨ao2, p2, c2, rfl⟩, hg2⟩
  clear co_5 lt_o
  have Fo2 : Blk w2 (w.heap.size) 142 (oval o (.slice ao p c)) := Blk.kept (Fo1.alloc _) hg2 (by simp)
  have Ft12 : Blk w2 (w1.heap.size) 158 (tval t1 (.slice ao1 p1 c1)) := Blk.kept N1 hg2 (by simp)
  have M2 := Mod.kept0 (M1.kept0 (World.grownBy_alloc _ _ _)) hg2
  have G2 := gr_trans (gr_trans G1 (World.grownBy_alloc _ _ _)) hg2
  have wf2 : WfT t2 := by rw [← hx2.out]; exact tensorAt_wf hw _
  clear hg2
  have N2 : Blk (w2.alloc (.cells (tval t2 (.slice ao2 p2 c2)) 158)) w2.heap.size 158 (tval t2 (.slice ao2 p2 c2)) := Blk.new _ _ _
  have co_0 : w2.cell? ⟨w.heap.size, 0, none⟩ = some (.int .i64 3) := by have q := Fo2.cell 0; rw [ov0, Hk.out] at q; exact q
  have lt_o : w.heap.size < w2.heap.size := Fo2.lt
  have co_3 : w2.cell? ⟨w.heap.size, 3, none⟩ = some (.int .i64 o.weights) := Fo2.cell 3
  go_wp2_with fail
  refine (tensorAt_c m md o.weights _ (M2.kept0 (World.grownBy_alloc _ _ _)) hw.nt).mono ?_
  rintro e w3 ⟨t3, hx3, ⟨ao3, p3, c3, rfl⟩, hg3⟩
  clear co_0 lt_o co_3
  have Fo3 : Blk w3 (w.heap.size) 142 (oval o (.slice ao p c)) := Blk.kept (Fo2.alloc _) hg3 (by simp)
  have Ft13 : Blk w3 (w1.heap.size) 158 (tval t1 (.slice ao1 p1 c1)) := Blk.kept (Ft12.alloc _) hg3 (by simp)
  have Ft23 : Blk w3 (w2.heap.size) 158 (tval t2 (.slice ao2 p2 c2)) := Blk.kept N2 hg3 (by simp)
  have M3 := Mod.kept0 (M2.kept0 (World.grownBy_alloc _ _ _)) hg3
  have G3 := gr_trans (gr_trans G2 (World.grownBy_alloc _ _ _)) hg3
  have wf3 : WfT t3 := by rw [← hx3.out]; exact tensorAt_wf hw _
  clear hg3
  have N3 : Blk (w3.alloc (.cells (tval t3 (.slice ao3 p3 c3)) 158)) w3.heap.size 158 (tval t3 (.slice ao3 p3 c3)) := Blk.new _ _ _
  have co_4 : w3.cell? ⟨w.heap.size, 4, none⟩ = some (.int .i64 o.biases) := Fo3.cell 4
  have lt_o : w.heap.size < w3.heap.size := Fo3.lt
  go_wp2_with fail
  refine (tensorAt_c m md o.biases _ (M3.kept0 (World.grownBy_alloc _ _ _)) hw.nt).mono ?_
  rintro e w4 ⟨t4, hx4, ⟨ao4, p4, c4, rfl⟩, hg4⟩
  clear co_4 lt_o
  have Fo4 : Blk w4 (w.heap.size) 142 (oval o (.slice ao p c)) := Blk.kept (Fo3.alloc _) hg4 (by simp)
  have Ft14 : Blk w4 (w1.heap.size) 158 (tval t1 (.slice ao1 p1 c1)) := Blk.kept (Ft13.alloc _) hg4 (by simp)
  have Ft24 : Blk w4 (w2.heap.size) 158 (tval t2 (.slice ao2 p2 c2)) := Blk.kept (Ft23.alloc _) hg4 (by simp)
  have Ft34 : Blk w4 (w3.heap.size) 158 (tval t3 (.slice ao3 p3 c3)) := Blk.kept N3 hg4 (by simp)
  have M4 := Mod.kept0 (M3.kept0 (World.grownBy_alloc _ _ _)) hg4
  have G4 := gr_trans (gr_trans G3 (World.grownBy_alloc _ _ _)) hg4
  have wf4 : WfT t4 := by rw [← hx4.out]; exact tensorAt_wf hw _
  clear hg4
  have N4 : Blk (w4.alloc (.cells (tval t4 (.slice ao4 p4 c4)) 158)) w4.heap.size 158 (tval t4 (.slice ao4 p4 c4)) := Blk.new _ _ _
  have He := hide (show M.shape md o = M.denseHolds t1 t3 t4 t2 by unfold M.shape; simp only [Hk.out, hx1.out, hx2.out, hx3.out, hx4.out]; rfl)
  go_wp2_with (first | (refine wpList_load_row rfl 158 _ rfl (w1.heap.size) rfl 158 (tval t1 (.slice ao1 p1 c1)) (0, 0) _ (Ft14.alloc _) Tryz.underlying158 rfl Tryz.size158 ?_) | (refine wpList_load_row rfl 158 _ rfl (w3.heap.size) rfl 158 (tval t3 (.slice ao3 p3 c3)) (0, 0) _ (Ft34.alloc _) Tryz.underlying158 rfl Tryz.size158 ?_) | (refine wpList_load_row rfl 158 _ rfl (w4.heap.size) rfl 158 (tval t4 (.slice ao4 p4 c4)) (0, 0) _ N4 Tryz.underlying158 rfl Tryz.size158 ?_) | (refine wpList_load_row rfl 158 _ rfl (w2.heap.size) rfl 158 (tval t2 (.slice ao2 p2 c2)) (0, 0) _ (Ft24.alloc _) Tryz.underlying158 rfl Tryz.size158 ?_))
  refine (dense_c t1 t3 t4 t2 _ _ _ _ _ ao4 p4 c4 _ wf1).mono ?_
  rintro e w9 ⟨rfl, hg9⟩
  have G9 := gr_trans (gr_trans G4 (World.grownBy_alloc _ _ _)) hg9
  go_wp2
  go_ret
  exact ⟨ret_bool He.out.symm, G9⟩

end Go.Proofs.YtcnhfffgbamonaaGreat
