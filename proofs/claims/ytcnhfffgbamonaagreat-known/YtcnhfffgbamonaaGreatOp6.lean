/-
  Tensors with their data; lay; start.
-/
import Derived.Test.YtcnhfffgbamonaaGreatOp5
namespace Go.Proofs.YtcnhfffgbamonaaGreat
open Go.RowKit

set_option maxHeartbeats 800000 in
theorem tensorD_c (m : Nat) (md : M.Md) (n : Int) (w0 w : World) (h : Mod w0 m md) (hg : w0.grownBy w none) (_hw : md.tensors.length ≤ 255) :
    Calls Tryz.prog 108 #[.pointer (some ⟨m, 0, none⟩), .int .i64 n] w fun e w' => ∃ t, Hid (M.tensorAt md n = t) ∧ (∃ ao c, e = .returned (.agg #[.int .i64 t.kind, .int .i64 t.h, .int .i64 t.w, .int .i64 t.c, .int .i64 t.zero, .slice ao t.data.length c]) ∧ Ints w0 0 (.slice ao t.data.length c) t.data) ∧ w.grownBy w' none := by
  obtain ⟨a1, c1, a2, c2, a3, c3, hB, hT, hO, hU⟩ := h
  have hml := (hB.kept hg (by simp)).lt
  have q0 : w.cell? ⟨m, 0, none⟩ = some (.slice a1 md.tensors.length c1) := (hB.kept hg (by simp)).cell 0
  have HG := hide hg
  clear hB hO hU hg
  by_cases hc : n < 0 ∨ (md.tensors.length : Int) ≤ n
  · have He := hide (tensorAt_no hc)
    clear hT
    rcases hc with hc | hc
    · go_enter Tryz.func108, Tryz.ntmps108
      go_wp2
      refine bodyPost_ret (v := .agg (t6 0 0 0 0 0 (.slice none 0 0))) ?hr rfl ?_
      case hr => exact results_cell_row Tryz.results108 _ _ w.heap.size 158 _ (0, 0) _ rfl (Blk.new w 158 _) Tryz.underlying158 rfl Tryz.size158
      exact ⟨M.noTn, He, ⟨none, 0, rfl, Ints.nil _ _⟩, World.grownBy_alloc _ _ _⟩
    · by_cases hc0 : n < 0
      · omega
      · go_enter Tryz.func108, Tryz.ntmps108
        go_wp2
        refine bodyPost_ret (v := .agg (t6 0 0 0 0 0 (.slice none 0 0))) ?hr rfl ?_
        case hr => exact results_cell_row Tryz.results108 _ _ w.heap.size 158 _ (0, 0) _ rfl (Blk.new w 158 _) Tryz.underlying158 rfl Tryz.size158
        exact ⟨M.noTn, He, ⟨none, 0, rfl, Ints.nil _ _⟩, World.grownBy_alloc _ _ _⟩
  · obtain ⟨k, rfl⟩ := Int.eq_ofNat_of_zero_le (show 0 ≤ n by omega)
    have hk : k < md.tensors.length := by omega
    obtain ⟨t, ht⟩ : ∃ t, md.tensors[k]? = some t := ⟨_, List.getElem?_eq_getElem hk⟩
    obtain ⟨g, ao, m', cp, rfl, -, -, hI, f0, f1, f2, f3, f4, f5⟩ := hT.get k t ht
    have d0 := cell_kept HG.out f0
    have d1 := cell_kept HG.out f1
    have d2 := cell_kept HG.out f2
    have d3 := cell_kept HG.out f3
    have d4 := cell_kept HG.out f4
    have d5 := cell_kept HG.out f5
    clear f0 f1 f2 f3 f4 f5
    have hm' := hI.len
    subst hm'
    have He := hide (tensorAt_yes ht)
    have HI := hide (hI.mono (Nat.zero_le _))
    have hgl : g < w.heap.size := World.block_lt_of_cell? w _ d0
    clear hT ht hc hI
    go_enter Tryz.func108, Tryz.ntmps108
    go_wp2
    refine bodyPost_ret (v := .agg (t6 t.kind t.h t.w t.c t.zero (.slice ao t.data.length cp))) ?hr rfl ?_
    case hr => exact results_cell_row Tryz.results108 _ _ w.heap.size 158 _ (0, 0) _ rfl (Blk.new w 158 _) Tryz.underlying158 rfl Tryz.size158
    exact ⟨t, He, ⟨ao, cp, rfl, HI.out⟩, World.grownBy_alloc _ _ _⟩

theorem Tryz.size180 : (Tryz.prog.info? 180).map (·.size) = some 5 := by kernel_rfl
theorem Tryz.size182 : (Tryz.prog.info? 182).map (·.size) = some 42 := by kernel_rfl
abbrev g5 (h v c z : Int) (dv : Value) : Array Value := #[.int .i64 h, .int .i64 v, .int .i64 c, .int .i64 z, dv]

set_option maxHeartbeats 800000 in
theorem lay_c (k h v c z : Int) (dv : Value) (ao : Option Addr) (n cp : Nat) (w : World) :
    Calls Tryz.prog 151 #[.agg (t6 k h v c z dv), .slice ao n cp] w fun e w' => e = .returned (.agg (g5 h v c z (.slice ao n cp))) ∧ w.grownBy w' none := by
  go_enter Tryz.func151, Tryz.ntmps151
  go_wp2
  refine bodyPost_ret (v := .agg (g5 h v c z (.slice ao n cp))) ?hr rfl ?_
  case hr => exact results_cell_row Tryz.results151 _ _ (w.heap.size + 1) 180 _ (0, 0) _ rfl (Blk.new1 w _ 180 _) Tryz.underlying180 rfl Tryz.size180
  exact ⟨rfl, gr_alloc2 _ _ _ _⟩

/-- Cells of a row, from o on, one after the other. -/
def setMany (cs : Array Value) : Nat → List Value → Array Value
  | _, [] => cs
  | o, v :: r => setMany (cs.setIfInBounds o v) (o + 1) r
theorem setMany_size : ∀ (vs : List Value) (cs : Array Value) (o : Nat), (setMany cs o vs).size = cs.size
  | [], _, _ => rfl
  | v :: r, cs, o => by rw [setMany, setMany_size r]; simp
theorem Blk.many {b : Nat} {t : TypeId} : ∀ (vs : List Value) {w : World} {cs : Array Value} (o : Nat), Blk w b t cs → Blk (w.setCells b o vs) b t (setMany cs o vs)
  | [], _, _, _, h => h
  | v :: r, w, cs, o, h => by rw [World.setCells, setMany]; exact Blk.many r (o + 1) (h.set o v)
theorem gr_many (b : Nat) : ∀ (vs : List Value) (w : World) (o : Nat), w.grownBy (w.setCells b o vs) (some b)
  | [], w, _ => World.grownBy.refl _ _
  | v :: r, w, o => by rw [World.setCells]; exact gr_trans (gr_set w b o v) (gr_many b r _ _)
theorem Blk.there {w : World} {b : Nat} {t : TypeId} {cs : Array Value} (h : Blk w b t cs) (o n : Nat) (hn : o + n ≤ cs.size) : w.there b o n := fun j hj => by
  rw [h.cell, h.free]
  exact ⟨by rw [Array.getElem?_eq_getElem (by omega)]; rfl, rfl⟩

abbrev oo (o : M.Op) (sv : Value) : Array Value := o16 o.kind o.a o.b o.weights o.biases o.to o.size o.stride o.same sv o.lo o.hi o.above o.below o.left o.right

abbrev j42 (o : M.Op) (sv : Value) (a0 a1 a2 a3 a4 b0 b1 b2 b3 b4 w0 w1 w2 w3 w4 i0 i1 i2 i3 i4 m0 m1 m2 m3 m4 m5 : Value) : Array Value :=
  #[.int .i64 o.kind, .int .i64 o.a, .int .i64 o.b, .int .i64 o.weights, .int .i64 o.biases, .int .i64 o.to, .int .i64 o.size, .int .i64 o.stride, .bool o.same, sv, .int .i64 o.lo, .int .i64 o.hi, .int .i64 o.above, .int .i64 o.below, .int .i64 o.left, .int .i64 o.right,
    a0, a1, a2, a3, a4, b0, b1, b2, b3, b4, w0, w1, w2, w3, w4, i0, i1, i2, i3, i4, m0, m1, m2, m3, m4, m5]
abbrev zi : Value := .int .i64 0
abbrev zs : Value := .slice none 0 0

/-- Inside start. -/
structure SI (w0 w1 : World) (o : M.Op) (sv : Value) (cs : Array Value) : Prop where
  g : w0.grownBy w1 none
  B : Blk w1 w0.heap.size 142 (oo o sv)
  J : Blk w1 (w0.heap.size + 1) 182 cs
  z : cs.size = 42

theorem SI.call {w0 w1 w2 : World} {o : M.Op} {sv : Value} {cs : Array Value} (h : SI w0 w1 o sv cs) (hg : w1.grownBy w2 none) : SI w0 w2 o sv cs :=
  ⟨gr_trans h.g hg, h.B.kept hg (by simp), h.J.kept hg (by simp), h.z⟩
theorem SI.put {w0 w1 : World} {o : M.Op} {sv : Value} {cs : Array Value} (h : SI w0 w1 o sv cs) (q : Nat) (vs : List Value) : SI w0 (w1.setCells (w0.heap.size + 1) q vs) o sv (setMany cs q vs) :=
  ⟨gr_new h.g (gr_many _ vs w1 q) (by omega), h.B.kept (gr_many _ vs w1 q) (by simp), h.J.many vs q, by rw [setMany_size]; exact h.z⟩
theorem SI.there {w0 w1 : World} {o : M.Op} {sv : Value} {cs : Array Value} (h : SI w0 w1 o sv cs) (q n : Nat) (hn : q + n ≤ 42) : w1.there (w0.heap.size + 1) q n := h.J.there q n (by rw [h.z]; exact hn)

/-- Inside start, behind the variable t. -/
structure SJ (w0 w1 : World) (o : M.Op) (sv : Value) (cs : Array Value) (tb : Nat) (ts : Array Value) : Prop where
  I : SI w0 w1 o sv cs
  T : Blk w1 tb 158 ts
  lt : w0.heap.size + 1 < tb

theorem SJ.call {w0 w1 w2 : World} {o : M.Op} {sv : Value} {cs : Array Value} {tb : Nat} {ts : Array Value} (h : SJ w0 w1 o sv cs tb ts) (hg : w1.grownBy w2 none) : SJ w0 w2 o sv cs tb ts :=
  ⟨h.I.call hg, h.T.kept hg (by simp), h.lt⟩

theorem wpList_put {ops : Array Oper} {rest : List Oper} {op : Oper} {a : Act} {w0 w1 : World} {Q : Exit → Act → World → Prop} {o : M.Op} {sv : Value} {cs : Array Value} (I : SI w0 w1 o sv cs) (hgd : op.guard = none) (ty : TypeId) (x y : Operand) (ho : op.op = .store ty x y)
    (q : Nat) (cells : Array Value) (hx : a.eval x = .pointer (some ⟨w0.heap.size + 1, q, none⟩)) (hy : a.eval y = .agg cells) (hq : q + cells.size ≤ 42)
    (hi : (Tryz.prog.info? ty).map (·.size) = some cells.size) (h1 : cells.all (·.oneCell') = true)
    (h : ∀ w2, SI w0 w2 o sv (setMany cs q cells.toList) → wpList Tryz.prog ops Q rest (a.put op.dst undef) w2) : wpList Tryz.prog ops Q (op :: rest) a w1 :=
  wpList_store_mid hgd ty x y ho (w0.heap.size + 1) q cells hx hy (I.there q cells.size hq) hi h1 (h _ (I.put q cells.toList))

theorem wpList_putJ {ops : Array Oper} {rest : List Oper} {op : Oper} {a : Act} {w0 w1 : World} {Q : Exit → Act → World → Prop} {o : M.Op} {sv : Value} {cs : Array Value} {tb : Nat} {ts : Array Value} (I : SJ w0 w1 o sv cs tb ts) (hgd : op.guard = none) (ty : TypeId) (x y : Operand) (ho : op.op = .store ty x y)
    (q : Nat) (cells : Array Value) (hx : a.eval x = .pointer (some ⟨w0.heap.size + 1, q, none⟩)) (hy : a.eval y = .agg cells) (hq : q + cells.size ≤ 42)
    (hi : (Tryz.prog.info? ty).map (·.size) = some cells.size) (h1 : cells.all (·.oneCell') = true)
    (h : ∀ w2, SJ w0 w2 o sv (setMany cs q cells.toList) tb ts → wpList Tryz.prog ops Q rest (a.put op.dst undef) w2) : wpList Tryz.prog ops Q (op :: rest) a w1 :=
  wpList_store_mid hgd ty x y ho (w0.heap.size + 1) q cells hx hy (I.I.there q cells.size hq) hi h1 (h _ ⟨I.I.put q cells.toList, I.T.kept (gr_many _ cells.toList w1 q) (by have := I.lt; simp; omega), I.lt⟩)

theorem setRow_blk {w : World} {b : Nat} {t : TypeId} {cs : Array Value} (h : Blk w b t cs) (vs : Array Value) : Blk (w.setRow b vs) b t vs := by
  exact setRow_heap _ _ _ _ _ _ h

theorem wpList_putT {ops : Array Oper} {rest : List Oper} {op : Oper} {a : Act} {w0 w1 : World} {Q : Exit → Act → World → Prop} {o : M.Op} {sv : Value} {cs : Array Value} {tb : Nat} {ts : Array Value} (I : SJ w0 w1 o sv cs tb ts) (hgd : op.guard = none) (x y : Operand) (ho : op.op = .store 158 x y)
    (cells : Array Value) (hx : a.eval x = .pointer (some ⟨tb, 0, none⟩)) (hy : a.eval y = .agg cells) (hz : ts.size = cells.size)
    (hi : (Tryz.prog.info? 158).map (·.size) = some cells.size) (h1 : cells.all (·.oneCell') = true)
    (h : ∀ w2, SJ w0 w2 o sv cs tb cells → wpList Tryz.prog ops Q rest (a.put op.dst undef) w2) : wpList Tryz.prog ops Q (op :: rest) a w1 :=
  wpList_store_row hgd 158 x y ho tb cells hx hy 158 ts I.T hi hz h1 (h _ ⟨⟨gr_new I.I.g (gr_setRow w1 tb cells) (by have := I.lt; omega), I.I.B.kept (gr_setRow w1 tb cells) (by have := I.lt; simp; omega), I.I.J.kept (gr_setRow w1 tb cells) (by have := I.lt; simp; omega), I.I.z⟩, setRow_blk I.T cells, I.lt⟩)

theorem one5 (h v c z : Int) (ao : Option Addr) (m cp : Nat) : (g5 h v c z (.slice ao m cp)).all (·.oneCell') = true := by
  simp [Value.oneCell']
theorem j42_m (o : M.Op) (sv a0 a1 a2 a3 a4 b0 b1 b2 b3 b4 w0 w1 w2 w3 w4 i0 i1 i2 i3 i4 m0 m1 m2 m3 m4 m5 x0 x1 x2 x3 x4 x5 : Value) :
    setMany (j42 o sv a0 a1 a2 a3 a4 b0 b1 b2 b3 b4 w0 w1 w2 w3 w4 i0 i1 i2 i3 i4 m0 m1 m2 m3 m4 m5) 36 #[x0, x1, x2, x3, x4, x5].toList = j42 o sv a0 a1 a2 a3 a4 b0 b1 b2 b3 b4 w0 w1 w2 w3 w4 i0 i1 i2 i3 i4 x0 x1 x2 x3 x4 x5 := by kernel_rfl
theorem j42_a (o : M.Op) (sv a0 a1 a2 a3 a4 b0 b1 b2 b3 b4 w0 w1 w2 w3 w4 i0 i1 i2 i3 i4 m0 m1 m2 m3 m4 m5 x0 x1 x2 x3 x4 : Value) :
    setMany (j42 o sv a0 a1 a2 a3 a4 b0 b1 b2 b3 b4 w0 w1 w2 w3 w4 i0 i1 i2 i3 i4 m0 m1 m2 m3 m4 m5) 16 #[x0, x1, x2, x3, x4].toList = j42 o sv x0 x1 x2 x3 x4 b0 b1 b2 b3 b4 w0 w1 w2 w3 w4 i0 i1 i2 i3 i4 m0 m1 m2 m3 m4 m5 := by kernel_rfl
theorem j42_b (o : M.Op) (sv a0 a1 a2 a3 a4 b0 b1 b2 b3 b4 w0 w1 w2 w3 w4 i0 i1 i2 i3 i4 m0 m1 m2 m3 m4 m5 x0 x1 x2 x3 x4 : Value) :
    setMany (j42 o sv a0 a1 a2 a3 a4 b0 b1 b2 b3 b4 w0 w1 w2 w3 w4 i0 i1 i2 i3 i4 m0 m1 m2 m3 m4 m5) 21 #[x0, x1, x2, x3, x4].toList = j42 o sv a0 a1 a2 a3 a4 x0 x1 x2 x3 x4 w0 w1 w2 w3 w4 i0 i1 i2 i3 i4 m0 m1 m2 m3 m4 m5 := by kernel_rfl
theorem j42_w (o : M.Op) (sv a0 a1 a2 a3 a4 b0 b1 b2 b3 b4 w0 w1 w2 w3 w4 i0 i1 i2 i3 i4 m0 m1 m2 m3 m4 m5 x0 x1 x2 x3 x4 : Value) :
    setMany (j42 o sv a0 a1 a2 a3 a4 b0 b1 b2 b3 b4 w0 w1 w2 w3 w4 i0 i1 i2 i3 i4 m0 m1 m2 m3 m4 m5) 26 #[x0, x1, x2, x3, x4].toList = j42 o sv a0 a1 a2 a3 a4 b0 b1 b2 b3 b4 x0 x1 x2 x3 x4 i0 i1 i2 i3 i4 m0 m1 m2 m3 m4 m5 := by kernel_rfl
theorem j42_i (o : M.Op) (sv a0 a1 a2 a3 a4 b0 b1 b2 b3 b4 w0 w1 w2 w3 w4 i0 i1 i2 i3 i4 m0 m1 m2 m3 m4 m5 x0 x1 x2 x3 x4 : Value) :
    setMany (j42 o sv a0 a1 a2 a3 a4 b0 b1 b2 b3 b4 w0 w1 w2 w3 w4 i0 i1 i2 i3 i4 m0 m1 m2 m3 m4 m5) 31 #[x0, x1, x2, x3, x4].toList = j42 o sv a0 a1 a2 a3 a4 b0 b1 b2 b3 b4 w0 w1 w2 w3 w4 x0 x1 x2 x3 x4 m0 m1 m2 m3 m4 m5 := by kernel_rfl

/-- A job's row, grid by grid. -/
abbrev jrow (o : M.Op) (sv : Value) (a : O.G) (av : Value) (b : O.G) (bv : Value) (u : O.G) (uv : Value) (i : O.G) (iv : Value) (z : M.Tn) (zv : Value) : Array Value :=
  j42 o sv (.int .i64 a.h) (.int .i64 a.w) (.int .i64 a.c) (.int .i64 a.zero) av (.int .i64 b.h) (.int .i64 b.w) (.int .i64 b.c) (.int .i64 b.zero) bv (.int .i64 u.h) (.int .i64 u.w) (.int .i64 u.c) (.int .i64 u.zero) uv (.int .i64 i.h) (.int .i64 i.w) (.int .i64 i.c) (.int .i64 i.zero) iv
    (.int .i64 z.kind) (.int .i64 z.h) (.int .i64 z.w) (.int .i64 z.c) (.int .i64 z.zero) zv

theorem jm_of {w : World} {g : Nat} {j : O.J} {A : JA} {az : Option Addr} {nz cz : Nat}
    (hJ : Blk w g 182 (jrow j.op (.slice A.sa j.op.scales.length A.sc) j.a (.slice A.aa j.a.cells.length A.ac) j.b (.slice A.ba j.b.cells.length A.bc) j.weights (.slice A.wa j.weights.cells.length A.wc) j.biases (.slice A.ia j.biases.cells.length A.ic) j.made (.slice az nz cz)))
    (hs : Scs w 0 (.slice A.sa j.op.scales.length A.sc) j.op.scales) (ha : Row w (.slice A.aa j.a.cells.length A.ac) j.a.cells) (hb : Row w (.slice A.ba j.b.cells.length A.bc) j.b.cells)
    (hw : Row w (.slice A.wa j.weights.cells.length A.wc) j.weights.cells) (hi : Row w (.slice A.ia j.biases.cells.length A.ic) j.biases.cells) : Jm w g j A :=
  ⟨hJ.cell 0, hJ.cell 6, hJ.cell 7, hJ.cell 9, hJ.cell 10, hJ.cell 11, hJ.cell 12, hJ.cell 14, ⟨hJ.cell 16, hJ.cell 17, hJ.cell 18, hJ.cell 19, hJ.cell 20, ha⟩, ⟨hJ.cell 21, hJ.cell 22, hJ.cell 23, hJ.cell 24, hJ.cell 25, hb⟩,
   ⟨hJ.cell 26, hJ.cell 27, hJ.cell 28, hJ.cell 29, hJ.cell 30, hw⟩, ⟨hJ.cell 31, hJ.cell 32, hJ.cell 33, hJ.cell 34, hJ.cell 35, hi⟩, hJ.cell 36, ⟨az, nz, cz, hJ.cell 41⟩, hJ.cell 37, hJ.cell 38, hJ.cell 39, hJ.cell 40, hs⟩

set_option maxRecDepth 100000 in
set_option maxHeartbeats 4000000 in
theorem start_c (m : Nat) (md : M.Md) (o : M.Op) (so : Option Addr) (sn sc : Nat) (a : Option Addr) (an ac : Nat) (la : List Int) (b : Option Addr) (bn bc : Nat) (lb : List Int) (w : World) (hM : Mod w m md) (hn : md.tensors.length ≤ 255)
    (hS : Scs w 0 (.slice so sn sc) o.scales) (hA : Row w (.slice a an ac) la) (hB : Row w (.slice b bn bc) lb) :
    Calls Tryz.prog 122 #[.pointer (some ⟨m, 0, none⟩), .agg (oo o (.slice so sn sc)), .slice a an ac, .slice b bn bc] w fun e w' => ∃ g A, e = .returned (.pointer (some ⟨g, 0, none⟩)) ∧ w.heap.size ≤ g ∧ Jm w' g (O.start md o la lb) A ∧ w.grownBy w' none := by
  obtain rfl := hS.len
  obtain rfl := hA.len
  obtain rfl := hB.len
  have N0 := hide (Blk.new w 142 (oo o (.slice so o.scales.length sc)))
  have HM := hide hM
  have HS := hide hS
  have HA := hide hA
  have HB := hide hB
  clear hM hS hA hB
  have I0 : SI w ((w.alloc (.cells (oo o (.slice so o.scales.length sc)) 142)).alloc (.cells (j42 o (.slice so o.scales.length sc) zi zi zi zi zs zi zi zi zi zs zi zi zi zi zs zi zi zi zi zs zi zi zi zi zi zs) 182)) o (.slice so o.scales.length sc) _ :=
    ⟨gr_alloc2 _ _ _ _, (Blk.new w _ _).alloc _, Blk.new1 _ _ _ _, rfl⟩
  go_enter Tryz.func122, Tryz.ntmps122
  go_wp2_with (refine wpList_load_row rfl 142 _ rfl w.heap.size rfl 142 (oo o (.slice so o.scales.length sc)) (0, 0) _ N0.out Tryz.underlying142 rfl Tryz.size142 ?_)
  refine (tensorD_c m md o.to w _ HM.out I0.g hn).mono ?_
  rintro e w1 ⟨tz, Htz, ⟨az, cz, rfl, hIz⟩, hg1⟩
  have HI1 := hide (I0.call hg1)
  clear I0 hg1 N0 hIz
  go_wp2_with (refine wpList_put HI1.out rfl 158 _ _ rfl 36 (t6 tz.kind tz.h tz.w tz.c tz.zero (.slice az tz.data.length cz)) rfl rfl (show 36 + 6 ≤ 42 by decide) Tryz.size158 (one6 _ _ _ _ _ _ _ _) ?_; intro w2 I2; rw [j42_m] at I2; have HI2 := hide I2; have c1 : w2.cell? ⟨w.heap.size, 1, none⟩ = some (.int .i64 o.a) := I2.B.cell 1; have hsz := I2.J.lt; clear I2)
  refine (tensorD_c m md o.a w _ HM.out HI2.out.g hn).mono ?_
  rintro e w3 ⟨ta, Hta, ⟨aa, ca, rfl, hIa⟩, hg3⟩
  have hsz3 := (HI2.out.call hg3).J.lt
  have HI3 := hide (HI2.out.call hg3)
  clear HI1 HI2 hg3 hIa c1 hsz
  go_wp2_with (first
    | (refine wpList_putT (SJ.mk (HI3.out.call (World.grownBy_alloc _ _ _)) (Blk.new _ _ _) (by omega)) rfl _ _ rfl (t6 ta.kind ta.h ta.w ta.c ta.zero (.slice aa ta.data.length ca)) rfl rfl rfl Tryz.size158 (one6 _ _ _ _ _ _ _ _) ?_; intro w4 I4; have HI4 := hide I4; have hsz4 := I4.T.lt; clear I4 HI3)
    | (refine wpList_load_row rfl 158 _ rfl w3.heap.size rfl 158 (t6 ta.kind ta.h ta.w ta.c ta.zero (.slice aa ta.data.length ca)) (0, 0) _ HI4.out.T Tryz.underlying158 rfl Tryz.size158 ?_))
  refine (lay_c ta.kind ta.h ta.w ta.c ta.zero (.slice aa ta.data.length ca) a la.length ac _).mono ?_
  rintro e w5 ⟨rfl, hg5⟩
  have H5 := hide (HI4.out.call hg5)
  clear hg5 HI4 hsz3 hsz4
  go_wp2_with (first
    | (refine wpList_putJ H5.out rfl 180 _ _ rfl 16 (g5 ta.h ta.w ta.c ta.zero (.slice a la.length ac)) rfl rfl (show 16 + 5 ≤ 42 by decide) Tryz.size180 (one5 _ _ _ _ _ _ _) ?_; intro w6 I6; rw [j42_a] at I6; have H6 := hide I6; clear I6 H5)
    | (refine wpList_load_row rfl 142 _ rfl w.heap.size rfl 142 (oo o (.slice so o.scales.length sc)) (0, 0) _ H6.out.I.B Tryz.underlying142 rfl Tryz.size142 ?_))
  cases h2 : M.readsTwo o.kind with
  | true =>
    have Hw : M.hasWeights o.kind = false := by
      cases h : M.hasWeights o.kind with
      | true => rw [two_of_hw h] at h2; exact Bool.noConfusion h2
      | false => rfl
    have HE := hide (show O.start md o la lb = ⟨o, O.lay ta la, O.lay (M.tensorAt md o.b) lb, O.noG, O.noG, tz⟩ by
      unfold O.start; rw [if_pos h2, if_neg (by rw [Hw]; decide), if_neg (by rw [Hw]; decide), Htz.out, Hta.out])
    have HW := hide Hw
    refine (readsTwo_o o (.slice so o.scales.length sc) true _ h2).mono ?_
    rintro e w7 ⟨rfl, hg7⟩
    have H7 := hide (H6.out.call hg7)
    have c2 : w7.cell? ⟨w.heap.size, 2, none⟩ = some (.int .i64 o.b) := H7.out.I.B.cell 2
    clear hg7 H6 h2 Hw
    go_wp2_with fail
    refine (tensorD_c m md o.b w _ HM.out H7.out.I.g hn).mono ?_
    rintro e w8 ⟨tb, Htb, ⟨ab, cb, rfl, hIb⟩, hg8⟩
    have H8 := hide (H7.out.call hg8)
    clear hg8 H7 hIb c2
    go_wp2_with (first
    | (refine wpList_putT H8.out rfl _ _ rfl (t6 tb.kind tb.h tb.w tb.c tb.zero (.slice ab tb.data.length cb)) rfl rfl rfl Tryz.size158 (one6 _ _ _ _ _ _ _ _) ?_; intro w9 Iw9; have Hw9 := hide Iw9; have hsw9 := Iw9.T.lt; clear Iw9 H8)
    | (refine wpList_load_row rfl 158 _ rfl w3.heap.size rfl 158 (t6 tb.kind tb.h tb.w tb.c tb.zero (.slice ab tb.data.length cb)) (0, 0) _ Hw9.out.T Tryz.underlying158 rfl Tryz.size158 ?_))
    refine (lay_c tb.kind tb.h tb.w tb.c tb.zero (.slice ab tb.data.length cb) b lb.length bc _).mono ?_
    rintro e w10 ⟨rfl, hg10⟩
    have H10 := hide (Hw9.out.call hg10)
    clear hg10 Hw9 hsw9
    go_wp2_with (first
      | (refine wpList_putJ H10.out rfl 180 _ _ rfl 21 (g5 tb.h tb.w tb.c tb.zero (.slice b lb.length bc)) rfl rfl (show 21 + 5 ≤ 42 by decide) Tryz.size180 (one5 _ _ _ _ _ _ _) ?_; intro w11 I11; rw [j42_b] at I11; have H11 := hide I11; clear I11 H10)
      | (refine wpList_load_row rfl 142 _ rfl w.heap.size rfl 142 (oo o (.slice so o.scales.length sc)) (0, 0) _ H11.out.I.B Tryz.underlying142 rfl Tryz.size142 ?_))
    refine (hasWeights_o o (.slice so o.scales.length sc) false _ HW.out).mono ?_
    rintro e w12 ⟨rfl, hg12⟩
    have H12 := hide (H11.out.call hg12)
    clear hg12 H11
    go_wp2
    go_ret
    refine ⟨_, ⟨so, sc, a, ac, b, bc, none, 0, none, 0⟩, rfl, by omega, ?_, H12.out.I.g⟩
    rw [HE.out, Htb.out]
    exact jm_of H12.out.I.J (owns_kept0 HS.out H12.out.I.g) (HA.out.kept0 H12.out.I.g) (HB.out.kept0 H12.out.I.g) (Row.nil _) (Row.nil _)
  | false =>
    refine (readsTwo_o o (.slice so o.scales.length sc) false _ h2).mono ?_
    rintro e w7 ⟨rfl, hg7⟩
    have H7 := hide (H6.out.call hg7)
    clear hg7 H6
    have H2 := hide h2
    clear h2
    go_wp2_with (refine wpList_load_row rfl 142 _ rfl w.heap.size rfl 142 (oo o (.slice so o.scales.length sc)) (0, 0) _ H7.out.I.B Tryz.underlying142 rfl Tryz.size142 ?_)
    cases hw : M.hasWeights o.kind with
    | false =>
      have HE := hide (show O.start md o la lb = ⟨o, O.lay ta la, O.noG, O.noG, O.noG, tz⟩ by
        unfold O.start; rw [if_neg (by rw [H2.out]; decide), if_neg (by rw [hw]; decide), if_neg (by rw [hw]; decide), Htz.out, Hta.out])
      refine (hasWeights_o o (.slice so o.scales.length sc) false _ hw).mono ?_
      rintro e w12 ⟨rfl, hg12⟩
      have H12 := hide (H7.out.call hg12)
      clear hg12 H7 hw
      go_wp2
      go_ret
      refine ⟨_, ⟨so, sc, a, ac, none, 0, none, 0, none, 0⟩, rfl, by omega, ?_, H12.out.I.g⟩
      rw [HE.out]
      exact jm_of H12.out.I.J (owns_kept0 HS.out H12.out.I.g) (HA.out.kept0 H12.out.I.g) (Row.nil _) (Row.nil _) (Row.nil _)
    | true =>
      have HE := hide (show O.start md o la lb = ⟨o, O.lay ta la, O.noG, O.lay (M.tensorAt md o.weights) (M.tensorAt md o.weights).data, O.lay (M.tensorAt md o.biases) (M.tensorAt md o.biases).data, tz⟩ by
        unfold O.start; rw [if_neg (by rw [H2.out]; decide), if_pos hw, if_pos hw, Htz.out, Hta.out])
      refine (hasWeights_o o (.slice so o.scales.length sc) true _ hw).mono ?_
      rintro e w12 ⟨rfl, hg12⟩
      have H12 := hide (H7.out.call hg12)
      have c3 : w12.cell? ⟨w.heap.size, 3, none⟩ = some (.int .i64 o.weights) := H12.out.I.B.cell 3
      clear hg12 H7 hw
      go_wp2_with fail
      refine (tensorD_c m md o.weights w _ HM.out H12.out.I.g hn).mono ?_
      rintro e w8 ⟨tw, Htw, ⟨aw, cw, rfl, hIw⟩, hg8⟩
      have H8 := hide (H12.out.call hg8)
      have HIw := hide hIw
      clear hg8 H12 hIw c3
      go_wp2_with (first
        | (refine wpList_putT H8.out rfl _ _ rfl (t6 tw.kind tw.h tw.w tw.c tw.zero (.slice aw tw.data.length cw)) rfl rfl rfl Tryz.size158 (one6 _ _ _ _ _ _ _ _) ?_; intro w9 Iw9; have Hw9 := hide Iw9; have hsw9 := Iw9.T.lt; have cd : w9.cell? ⟨w3.heap.size, 5, none⟩ = some (.slice aw tw.data.length cw) := Iw9.T.cell 5; clear Iw9 H8)
        | (refine wpList_load_row rfl 158 _ rfl w3.heap.size rfl 158 (t6 tw.kind tw.h tw.w tw.c tw.zero (.slice aw tw.data.length cw)) (0, 0) _ Hw9.out.T Tryz.underlying158 rfl Tryz.size158 ?_))
      refine (lay_c tw.kind tw.h tw.w tw.c tw.zero (.slice aw tw.data.length cw) aw tw.data.length cw _).mono ?_
      rintro e w10 ⟨rfl, hg10⟩
      have H10 := hide (Hw9.out.call hg10)
      clear hg10 Hw9 hsw9 cd
      go_wp2_with (first
        | (refine wpList_putJ H10.out rfl 180 _ _ rfl 26 (g5 tw.h tw.w tw.c tw.zero (.slice aw tw.data.length cw)) rfl rfl (show 26 + 5 ≤ 42 by decide) Tryz.size180 (one5 _ _ _ _ _ _ _) ?_; intro w11 I11; rw [j42_w] at I11; have H11 := hide I11; have c4 : w11.cell? ⟨w.heap.size, 4, none⟩ = some (.int .i64 o.biases) := I11.I.B.cell 4; clear I11 H10))
      refine (tensorD_c m md o.biases w _ HM.out H11.out.I.g hn).mono ?_
      rintro e w13 ⟨ti, Hti, ⟨ai, ci, rfl, hIi⟩, hg13⟩
      have H13 := hide (H11.out.call hg13)
      have HIi := hide hIi
      clear hg13 H11 hIi c4
      go_wp2_with (first
        | (refine wpList_putT H13.out rfl _ _ rfl (t6 ti.kind ti.h ti.w ti.c ti.zero (.slice ai ti.data.length ci)) rfl rfl rfl Tryz.size158 (one6 _ _ _ _ _ _ _ _) ?_; intro w14 Iw14; have Hw14 := hide Iw14; have hsw14 := Iw14.T.lt; have cd : w14.cell? ⟨w3.heap.size, 5, none⟩ = some (.slice ai ti.data.length ci) := Iw14.T.cell 5; clear Iw14 H13)
        | (refine wpList_load_row rfl 158 _ rfl w3.heap.size rfl 158 (t6 ti.kind ti.h ti.w ti.c ti.zero (.slice ai ti.data.length ci)) (0, 0) _ Hw14.out.T Tryz.underlying158 rfl Tryz.size158 ?_))
      refine (lay_c ti.kind ti.h ti.w ti.c ti.zero (.slice ai ti.data.length ci) ai ti.data.length ci _).mono ?_
      rintro e w15 ⟨rfl, hg15⟩
      have H15 := hide (Hw14.out.call hg15)
      clear hg15 Hw14 hsw14 cd
      go_wp2_with (first
        | (refine wpList_putJ H15.out rfl 180 _ _ rfl 31 (g5 ti.h ti.w ti.c ti.zero (.slice ai ti.data.length ci)) rfl rfl (show 31 + 5 ≤ 42 by decide) Tryz.size180 (one5 _ _ _ _ _ _ _) ?_; intro w16 I16; rw [j42_i] at I16; have H16 := hide I16; clear I16 H15))
      go_ret
      refine ⟨_, ⟨so, sc, a, ac, none, 0, aw, cw, ai, ci⟩, rfl, by omega, ?_, H16.out.I.g⟩
      rw [HE.out, Htw.out, Hti.out]
      exact jm_of H16.out.I.J (owns_kept0 HS.out H16.out.I.g) (HA.out.kept0 H16.out.I.g) (Row.nil _) (HIw.out.kept0 H16.out.I.g).row (HIi.out.kept0 H16.out.I.g).row

end Go.Proofs.YtcnhfffgbamonaaGreat
