/-
  P6: an operator's shapes, kind by kind. (Written by a small program of ours: wip/gen/ck9.py.)
-/
import Derived.Test.YtcnhfffgbamonaaGreatCk9
namespace Go.Proofs.YtcnhfffgbamonaaGreat
open Go.RowKit

set_option maxRecDepth 100000 in
set_option maxHeartbeats 2000000 in
theorem shape_0 (m : Nat) (md : M.Md) (o : M.Op) (ao : Option Addr) (p c : Nat) (w : World) (h : Mod w m md) (hw : WfM md) (_ho : WfO o) (hk : o.kind = 0) :
    Calls Tryz.prog 168 #[.pointer (some ⟨m, 0, none⟩), .agg (oval o (.slice ao p c))] w fun e w' => e = .returned (.bool (M.shape md o)) ∧ w.grownBy w' none := by
  have v0 := ov0 o (.slice ao p c)
  have v1 := ov1 o (.slice ao p c)
  rw [hk] at v0
  have Hk := hide hk
  clear hk
  have N0 : Blk (w.alloc (.cells (oval o (.slice ao p c)) 142)) w.heap.size 142 (oval o (.slice ao p c)) := Blk.new _ _ _
  have G00 : w.grownBy (w.alloc (.cells (oval o (.slice ao p c)) 142)) none := World.grownBy_alloc _ _ _
  have M00 := h.kept0 G00
  go_enter Tryz.func168, Tryz.ntmps168
  go_wp2_with fail
  refine (tensorAt_c m md o.a _ M00 hw.nt).mono ?_
  rintro e w1 ⟨t1, hx1, ⟨ao1, p1, c1, rfl⟩, hg1⟩
  have Fo1 : Blk w1 w.heap.size 142 (oval o (.slice ao p c)) := Blk.kept N0 hg1 (by simp)
  have M1 := Mod.kept0 M00 hg1
  have G1 := gr_trans G00 hg1
  have wf1 : WfT t1 := by rw [← hx1.out]; exact tensorAt_wf hw _
  clear hg1 N0 G00 M00 v1 v0
  have N1 : Blk (w1.alloc (.cells (tval t1 (.slice ao1 p1 c1)) 158)) w1.heap.size 158 (tval t1 (.slice ao1 p1 c1)) := Blk.new _ _ _
  have co_5 : w1.cell? ⟨w.heap.size, 5, none⟩ = some (.int .i64 o.to) := Fo1.cell 5
  have lt_o : w.heap.size < w1.heap.size := Fo1.lt
  go_wp2_with fail
  refine (tensorAt_c m md o.to _ (M1.kept0 (World.grownBy_alloc _ _ _)) hw.nt).mono ?_
  rintro e w2 ⟨t2, hx2, ⟨ao2, p2, c2, rfl⟩, hg2⟩
  clear co_5 lt_o
  have Fo2 : Blk w2 (w.heap.size) 142 (oval o (.slice ao p c)) := Blk.kept (Fo1.alloc _) hg2 (by simp)
  have Ft12 : Blk w2 (w1.heap.size) 158 (tval t1 (.slice ao1 p1 c1)) := Blk.kept N1 hg2 (by simp)
  have M2 := Mod.kept0 (M1.kept0 (World.grownBy_alloc _ _ _)) hg2
  have G2 := gr_trans (gr_trans G1 (World.grownBy_alloc _ _ _)) hg2
  have wf2 : WfT t2 := by rw [← hx2.out]; exact tensorAt_wf hw _
  clear hg2
  have N2 : Blk (w2.alloc (.cells (tval t2 (.slice ao2 p2 c2)) 158)) w2.heap.size 158 (tval t2 (.slice ao2 p2 c2)) := Blk.new _ _ _
  have co_0 : w2.cell? ⟨w.heap.size, 0, none⟩ = some (.int .i64 0) := by have q := Fo2.cell 0; rw [ov0, Hk.out] at q; exact q
  have lt_o : w.heap.size < w2.heap.size := Fo2.lt
  have He := hide (show M.shape md o = false by unfold M.shape; simp only [Hk.out, hx1.out, hx2.out]; rfl)
  go_wp2
  go_ret
  exact ⟨ret_bool He.out.symm, (gr_trans G2 (World.grownBy_alloc _ _ _))⟩

set_option maxRecDepth 100000 in
set_option maxHeartbeats 2000000 in
theorem shape_7 (m : Nat) (md : M.Md) (o : M.Op) (ao : Option Addr) (p c : Nat) (w : World) (h : Mod w m md) (hw : WfM md) (_ho : WfO o) (hk : o.kind = 7) :
    Calls Tryz.prog 168 #[.pointer (some ⟨m, 0, none⟩), .agg (oval o (.slice ao p c))] w fun e w' => e = .returned (.bool (M.shape md o)) ∧ w.grownBy w' none := by
  have v0 := ov0 o (.slice ao p c)
  have v1 := ov1 o (.slice ao p c)
  rw [hk] at v0
  have Hk := hide hk
  clear hk
  have N0 : Blk (w.alloc (.cells (oval o (.slice ao p c)) 142)) w.heap.size 142 (oval o (.slice ao p c)) := Blk.new _ _ _
  have G00 : w.grownBy (w.alloc (.cells (oval o (.slice ao p c)) 142)) none := World.grownBy_alloc _ _ _
  have M00 := h.kept0 G00
  go_enter Tryz.func168, Tryz.ntmps168
  go_wp2_with fail
  refine (tensorAt_c m md o.a _ M00 hw.nt).mono ?_
  rintro e w1 ⟨t1, hx1, ⟨ao1, p1, c1, rfl⟩, hg1⟩
  have Fo1 : Blk w1 w.heap.size 142 (oval o (.slice ao p c)) := Blk.kept N0 hg1 (by simp)
  have M1 := Mod.kept0 M00 hg1
  have G1 := gr_trans G00 hg1
  have wf1 : WfT t1 := by rw [← hx1.out]; exact tensorAt_wf hw _
  clear hg1 N0 G00 M00 v1 v0
  have N1 : Blk (w1.alloc (.cells (tval t1 (.slice ao1 p1 c1)) 158)) w1.heap.size 158 (tval t1 (.slice ao1 p1 c1)) := Blk.new _ _ _
  have co_5 : w1.cell? ⟨w.heap.size, 5, none⟩ = some (.int .i64 o.to) := Fo1.cell 5
  have lt_o : w.heap.size < w1.heap.size := Fo1.lt
  go_wp2_with fail
  refine (tensorAt_c m md o.to _ (M1.kept0 (World.grownBy_alloc _ _ _)) hw.nt).mono ?_
  rintro e w2 ⟨t2, hx2, ⟨ao2, p2, c2, rfl⟩, hg2⟩
  clear co_5 lt_o
  have Fo2 : Blk w2 (w.heap.size) 142 (oval o (.slice ao p c)) := Blk.kept (Fo1.alloc _) hg2 (by simp)
  have Ft12 : Blk w2 (w1.heap.size) 158 (tval t1 (.slice ao1 p1 c1)) := Blk.kept N1 hg2 (by simp)
  have M2 := Mod.kept0 (M1.kept0 (World.grownBy_alloc _ _ _)) hg2
  have G2 := gr_trans (gr_trans G1 (World.grownBy_alloc _ _ _)) hg2
  have wf2 : WfT t2 := by rw [← hx2.out]; exact tensorAt_wf hw _
  clear hg2
  have N2 : Blk (w2.alloc (.cells (tval t2 (.slice ao2 p2 c2)) 158)) w2.heap.size 158 (tval t2 (.slice ao2 p2 c2)) := Blk.new _ _ _
  have co_0 : w2.cell? ⟨w.heap.size, 0, none⟩ = some (.int .i64 7) := by have q := Fo2.cell 0; rw [ov0, Hk.out] at q; exact q
  have lt_o : w.heap.size < w2.heap.size := Fo2.lt
  have He := hide (show M.shape md o = M.alike t1 t2 by unfold M.shape; simp only [Hk.out, hx1.out, hx2.out]; rfl)
  go_wp2_with (first | (refine wpList_load_row rfl 158 _ rfl (w1.heap.size) rfl 158 (tval t1 (.slice ao1 p1 c1)) (0, 0) _ (Ft12.alloc _) Tryz.underlying158 rfl Tryz.size158 ?_) | (refine wpList_load_row rfl 158 _ rfl (w2.heap.size) rfl 158 (tval t2 (.slice ao2 p2 c2)) (0, 0) _ N2 Tryz.underlying158 rfl Tryz.size158 ?_))
  refine (alike_c t1 t2 _ _ _).mono ?_
  rintro e w9 ⟨rfl, hg9⟩
  clear co_0 lt_o
  have G9 := gr_trans (gr_trans G2 (World.grownBy_alloc _ _ _)) hg9
  go_wp2
  go_ret
  exact ⟨ret_bool He.out.symm, G9⟩

end Go.Proofs.YtcnhfffgbamonaaGreat
