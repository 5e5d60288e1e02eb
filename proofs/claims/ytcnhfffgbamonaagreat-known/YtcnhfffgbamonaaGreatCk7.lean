/-
  P6: shapes of Conv, Depth, Dense, pools.
-/
import Derived.Test.YtcnhfffgbamonaaGreatCk6
namespace Go.Proofs.YtcnhfffgbamonaaGreat
open Go.RowKit

theorem ov0 (o : M.Op) (sv : Value) : (oval o sv)[0]? = some (.int .i64 o.kind) := rfl
theorem ov1 (o : M.Op) (sv : Value) : (oval o sv)[1]? = some (.int .i64 o.a) := rfl
theorem ov2 (o : M.Op) (sv : Value) : (oval o sv)[2]? = some (.int .i64 o.b) := rfl
theorem ov3 (o : M.Op) (sv : Value) : (oval o sv)[3]? = some (.int .i64 o.weights) := rfl
theorem ov4 (o : M.Op) (sv : Value) : (oval o sv)[4]? = some (.int .i64 o.biases) := rfl
theorem ov5 (o : M.Op) (sv : Value) : (oval o sv)[5]? = some (.int .i64 o.to) := rfl
theorem ov6 (o : M.Op) (sv : Value) : (oval o sv)[6]? = some (.int .i64 o.size) := rfl
theorem ov7 (o : M.Op) (sv : Value) : (oval o sv)[7]? = some (.int .i64 o.stride) := rfl
theorem ov8 (o : M.Op) (sv : Value) : (oval o sv)[8]? = some (.bool o.same) := rfl
theorem ov9 (o : M.Op) (sv : Value) : (oval o sv)[9]? = some sv := rfl
theorem ov10 (o : M.Op) (sv : Value) : (oval o sv)[10]? = some (.int .i64 o.lo) := rfl
theorem ov11 (o : M.Op) (sv : Value) : (oval o sv)[11]? = some (.int .i64 o.hi) := rfl
theorem ov12 (o : M.Op) (sv : Value) : (oval o sv)[12]? = some (.int .i64 o.above) := rfl
theorem ov13 (o : M.Op) (sv : Value) : (oval o sv)[13]? = some (.int .i64 o.below) := rfl
theorem ov14 (o : M.Op) (sv : Value) : (oval o sv)[14]? = some (.int .i64 o.left) := rfl
theorem ov15 (o : M.Op) (sv : Value) : (oval o sv)[15]? = some (.int .i64 o.right) := rfl

theorem gr_alloc3 (w : World) (o o' o2 : Obj) (row : Option Nat) : w.grownBy (((w.alloc o).alloc o').alloc o2) row := gr_trans (gr_alloc2 w o o' row) (World.grownBy_alloc _ _ _)

set_option maxHeartbeats 800000 in
theorem pool_c (o : M.Op) (a z : M.Tn) (sv da dz : Value) (w : World) (ho : WfO o) (ha : WfT a) :
    Calls Tryz.prog 191 #[.agg (oval o sv), .agg (tval a da), .agg (tval z dz)] w fun e w' => e = .returned (.bool (M.poolHolds o a z)) ∧ w.grownBy w' none := by
  have o6 := ov6 o sv
  have o7 := ov7 o sv
  have a1 := tv1 a da
  have a2 := tv2 a da
  have a3 := tv3 a da
  have z1 := tv1 z dz
  have z2 := tv2 z dz
  have z3 := tv3 z dz
  go_enter Tryz.func191, Tryz.ntmps191
  go_wp2_with fail
  refine (windows_c o.size a.h o.stride false _ ho.size.1 ho.size.2 ha.h0 ha.h1 ho.stride.1 ho.stride.2).mono ?_
  rintro e w1 ⟨rfl, hw1⟩
  rw [hw1]
  clear hw1
  go_wp2_with fail
  refine (windows_c o.size a.w o.stride false _ ho.size.1 ho.size.2 ha.w0 ha.w1 ho.stride.1 ho.stride.2).mono ?_
  rintro e w1 ⟨rfl, hw1⟩
  rw [hw1]
  clear hw1
  cases h1 : (z.h == M.windows o.size a.h o.stride false) with
  | false =>
    have He := hide (show M.poolHolds o a z = false by simp only [M.poolHolds, h1]; rfl)
    go_wp2
    go_ret
    exact ⟨ret_bool He.out.symm, gr_alloc3 _ _ _ _ _⟩
  | true =>
    cases h2 : (z.w == M.windows o.size a.w o.stride false) with
    | false =>
      have He := hide (show M.poolHolds o a z = false by simp only [M.poolHolds, h1, h2]; rfl)
      go_wp2
      go_ret
      exact ⟨ret_bool He.out.symm, gr_alloc3 _ _ _ _ _⟩
    | true =>
      have He := hide (show M.poolHolds o a z = (z.c == a.c) by simp only [M.poolHolds, h1, h2]; rfl)
      go_wp2
      go_ret
      exact ⟨ret_bool He.out.symm, gr_alloc3 _ _ _ _ _⟩

theorem tv5 (t : M.Tn) (dv : Value) : (tval t dv)[5]? = some dv := rfl
theorem gr_alloc5 (w : World) (o1 o2 o3 o4 o5 : Obj) (row : Option Nat) : w.grownBy (((((w.alloc o1).alloc o2).alloc o3).alloc o4).alloc o5) row := gr_trans (gr_alloc3 w o1 o2 o3 row) (gr_alloc2 _ _ _ _)

theorem blks5 (w : World) (T1 T2 T3 T4 T5 : TypeId) (A B C D E : Array Value) : Blk (((((w.alloc (.cells A T1)).alloc (.cells B T2)).alloc (.cells C T3)).alloc (.cells D T4)).alloc (.cells E T5)) w.heap.size T1 A ∧
    Blk (((((w.alloc (.cells A T1)).alloc (.cells B T2)).alloc (.cells C T3)).alloc (.cells D T4)).alloc (.cells E T5)) (w.heap.size + 1) T2 B ∧
    Blk (((((w.alloc (.cells A T1)).alloc (.cells B T2)).alloc (.cells C T3)).alloc (.cells D T4)).alloc (.cells E T5)) (w.heap.size + 1 + 1) T3 C ∧
    Blk (((((w.alloc (.cells A T1)).alloc (.cells B T2)).alloc (.cells C T3)).alloc (.cells D T4)).alloc (.cells E T5)) (w.heap.size + 1 + 1 + 1) T4 D ∧
    Blk (((((w.alloc (.cells A T1)).alloc (.cells B T2)).alloc (.cells C T3)).alloc (.cells D T4)).alloc (.cells E T5)) (w.heap.size + 1 + 1 + 1 + 1) T5 E := by
  have h1 := Blk.new w T1 A
  have h2 := Blk.new (w.alloc (.cells A T1)) T2 B
  have h3 := Blk.new ((w.alloc (.cells A T1)).alloc (.cells B T2)) T3 C
  have h4 := Blk.new (((w.alloc (.cells A T1)).alloc (.cells B T2)).alloc (.cells C T3)) T4 D
  have h5 := Blk.new ((((w.alloc (.cells A T1)).alloc (.cells B T2)).alloc (.cells C T3)).alloc (.cells D T4)) T5 E
  simp only [World.size_alloc] at h2 h3 h4 h5
  exact ⟨(((h1.alloc _).alloc _).alloc _).alloc _, ((h2.alloc _).alloc _).alloc _, (h3.alloc _).alloc _, h4.alloc _, h5⟩

theorem conv_no1 {o : M.Op} {a w b z : M.Tn} (h : (z.h != M.windows w.h a.h o.stride o.same) = true) : M.convHolds o a w b z = false := by
  unfold M.convHolds; rw [if_pos (.inl (by simpa using h))]
theorem conv_no2 {o : M.Op} {a w b z : M.Tn} (h : (z.w != M.windows w.w a.w o.stride o.same) = true) : M.convHolds o a w b z = false := by
  unfold M.convHolds; rw [if_pos (.inr (.inl (by simpa using h)))]
theorem conv_no3 {o : M.Op} {a w b z : M.Tn} (h : M.isRow b z.c = false) : M.convHolds o a w b z = false := by
  unfold M.convHolds; rw [if_pos (.inr (.inr h))]
theorem conv_yes {o : M.Op} {a w b z : M.Tn} (h1 : (z.h != M.windows w.h a.h o.stride o.same) = false) (h2 : (z.w != M.windows w.w a.w o.stride o.same) = false) (h3 : M.isRow b z.c = true) : M.convHolds o a w b z = if o.kind = 2 then w.c == a.c && z.c == a.c else w.c == a.c * z.c := by
  unfold M.convHolds; rw [if_neg]
  simp at h1 h2
  simp [h1, h2, h3]

set_option maxHeartbeats 1600000 in
theorem conv_c (o : M.Op) (a we b z : M.Tn) (sv da dw dz : Value) (ab : Option Addr) (nb cb : Nat) (w : World) (ho : WfO o) (ha : WfT a) (hw : WfT we) (hz : WfT z) :
    Calls Tryz.prog 188 #[.agg (oval o sv), .agg (tval a da), .agg (tval we dw), .agg (tval b (.slice ab nb cb)), .agg (tval z dz)] w fun e w' => e = .returned (.bool (M.convHolds o a we b z)) ∧ w.grownBy w' none := by
  have o0 := ov0 o sv
  have o7 := ov7 o sv
  have o8 := ov8 o sv
  have a1 := tv1 a da
  have a2 := tv2 a da
  have a3 := tv3 a da
  have w1 := tv1 we dw
  have w2 := tv2 we dw
  have w3 := tv3 we dw
  have z1 := tv1 z dz
  have z2 := tv2 z dz
  have z3 := tv3 z dz
  have b0 := tv0 b (.slice ab nb cb)
  have b1 := tv1 b (.slice ab nb cb)
  have b2 := tv2 b (.slice ab nb cb)
  have b3 := tv3 b (.slice ab nb cb)
  have b4 := tv4 b (.slice ab nb cb)
  have b5 := tv5 b (.slice ab nb cb)
  go_enter Tryz.func188, Tryz.ntmps188
  go_wp2_with fail
  refine (windows_c we.h a.h o.stride o.same _ hw.h0 hw.h1 ha.h0 ha.h1 ho.stride.1 ho.stride.2).mono ?_
  rintro e w1 ⟨rfl, hw1⟩
  rw [hw1]
  clear hw1
  go_wp2_with fail
  refine (windows_c we.w a.w o.stride o.same _ hw.w0 hw.w1 ha.w0 ha.w1 ho.stride.1 ho.stride.2).mono ?_
  rintro e w1 ⟨rfl, hw1⟩
  rw [hw1]
  clear hw1
  cases h1 : (z.h != M.windows we.h a.h o.stride o.same) with
  | true =>
    have He := hide (conv_no1 (b := b) h1)
    go_wp2
    go_ret
    exact ⟨ret_bool He.out.symm, gr_alloc5 _ _ _ _ _ _ _⟩
  | false =>
    cases h2 : (z.w != M.windows we.w a.w o.stride o.same) with
    | true =>
      have He := hide (conv_no2 (b := b) h2)
      go_wp2
      go_ret
      exact ⟨ret_bool He.out.symm, gr_alloc5 _ _ _ _ _ _ _⟩
    | false =>
      have hbs := blks5 w 142 158 158 158 158 (oval o sv) (tval a da) (tval we dw) (tval b (.slice ab nb cb)) (tval z dz)
      have Hbs := hide hbs
      clear hbs
      go_wp2_with fail
      refine (isRow_c b (.slice ab nb cb) z.c _).mono ?_
      rintro e w6 ⟨rfl, hg6⟩
      have gw6 := gr_trans (gr_alloc5 w _ _ _ _ _ _) hg6
      obtain ⟨k1, k2, k3, -, k5⟩ := Hbs.out
      have c0 : w6.cell? ⟨w.heap.size, 0, none⟩ = some (.int .i64 o.kind) := (k1.kept hg6 (by simp)).cell 0
      have c1 : w6.cell? ⟨w.heap.size + 1, 3, none⟩ = some (.int .i64 a.c) := (k2.kept hg6 (by simp)).cell 3
      have c2 : w6.cell? ⟨w.heap.size + 1 + 1, 3, none⟩ = some (.int .i64 we.c) := (k3.kept hg6 (by simp)).cell 3
      have c4 : w6.cell? ⟨w.heap.size + 1 + 1 + 1 + 1, 3, none⟩ = some (.int .i64 z.c) := (k5.kept hg6 (by simp)).cell 3
      clear k1 k2 k3 k5 hg6 o0 o7 o8 a1 a2 a3 w2 w3 z1 z2 z3 b0 b1 b2 b3 b4 b5
      cases h3 : M.isRow b z.c with
      | false =>
        have He := hide (conv_no3 (o := o) (a := a) (w := we) h3)
        clear h3 h1 h2 c0 c1 c2 c4
        go_wp2
        go_ret
        exact ⟨ret_bool He.out.symm, gw6⟩
      | true =>
        have He := hide (conv_yes h1 h2 h3)
        clear h3 h1 h2
        by_cases hk : o.kind = 2
        · have hk' : (o.kind == 2) = true := by simp [hk]
          have He2 := He.out
          rw [if_pos hk] at He2
          have He3 := hide He2
          clear He2 He hk
          cases h4 : (we.c == a.c) with
          | false =>
            go_wp2
            go_ret
            exact ⟨ret_bool (by rw [He3.out, h4]; rfl), gw6⟩
          | true =>
            go_wp2
            go_ret
            exact ⟨ret_bool (by rw [He3.out, h4]; rfl), gw6⟩
        · have hk' : (o.kind == 2) = false := by simp [hk]
          have He2 := He.out
          rw [if_neg hk] at He2
          have He3 := hide He2
          clear He2 He hk
          have p0 : 0 ≤ a.c * z.c := Int.mul_nonneg ha.c0 hz.c0
          have p1 : a.c * z.c ≤ 255 * 255 := Int.mul_le_mul ha.c1 hz.c1 hz.c0 (by omega)
          go_wp2
          go_ret
          exact ⟨ret_bool He3.out.symm, gw6⟩

end Go.Proofs.YtcnhfffgbamonaaGreat
