/-
  What stands behind an operator's tensors: kind by kind. (Written by a small program of ours: wip/gen/rd6.py.)
-/
import Derived.Test.YtcnhfffgbamonaaGreatRdA
namespace Go.Proofs.YtcnhfffgbamonaaGreat
open Go.RowKit

abbrev o16 (kind a b we bi to size stride : Int) (same : Bool) (sv : Value) (lo hi above below left right : Int) : Array Value :=
  #[.int .i64 kind, .int .i64 a, .int .i64 b, .int .i64 we, .int .i64 bi, .int .i64 to, .int .i64 size, .int .i64 stride, .bool same, sv, .int .i64 lo, .int .i64 hi, .int .i64 above, .int .i64 below, .int .i64 left, .int .i64 right]

/-- An operator as a value: its numbers, and the slice of its scales. -/
def oval (o : M.Op) (sv : Value) : Array Value := o16 o.kind o.a o.b o.weights o.biases o.to o.size o.stride o.same sv o.lo o.hi o.above o.below o.left o.right

structure Gr2 (w w' : World) (b L : Nat) : Prop where
  os : w'.os = w.os
  tape : w'.tape = w.tape
  output : w'.output = w.output
  size : w.heap.size ≤ w'.heap.size
  block : ∀ k, k < w.heap.size → k ≠ b → k ≠ L → w'.heap[k]? = w.heap[k]?

theorem Gr2.refl (w : World) (b L : Nat) : Gr2 w w b L := ⟨rfl, rfl, rfl, Nat.le_refl _, fun _ _ _ _ => rfl⟩
theorem Gr2.trans {w0 w1 w2 : World} {b L : Nat} (h : Gr2 w0 w1 b L) (k : Gr2 w1 w2 b L) : Gr2 w0 w2 b L :=
  ⟨k.os.trans h.os, k.tape.trans h.tape, k.output.trans h.output, Nat.le_trans h.size k.size, fun i hi h1 h2 => (k.block i (Nat.lt_of_lt_of_le hi h.size) h1 h2).trans (h.block i hi h1 h2)⟩
theorem Gr2.of {w0 w1 : World} {b L : Nat} (h : w0.grownBy w1 (some b)) : Gr2 w0 w1 b L := ⟨h.os, h.tape, h.output, h.size, fun i hi h1 _ => h.block i hi (by simp [h1])⟩
theorem Gr2.of0 {w0 w1 : World} {b L : Nat} (h : w0.grownBy w1 none) : Gr2 w0 w1 b L := ⟨h.os, h.tape, h.output, h.size, fun i hi _ _ => h.block i hi (by simp)⟩
theorem Gr2.set (w : World) (b L i : Nat) (v : Value) : Gr2 w (w.setCell ⟨L, i, none⟩ v) b L := ⟨rfl, rfl, rfl, by simp, fun k _ _ h2 => Below.heap_setCell _ _ _ _ (by simpa using h2)⟩
/-- Where L was not there yet. -/
theorem Gr2.grown {a w w' : World} {b L : Nat} (h : a.grownBy w (some b)) (k : Gr2 w w' b L) (hL : a.heap.size ≤ L) : a.grownBy w' (some b) :=
  ⟨k.os.trans h.os, k.tape.trans h.tape, k.output.trans h.output, Nat.le_trans h.size k.size, fun i hi h1 => (k.block i (Nat.lt_of_lt_of_le hi h.size) (by intro e; exact h1 (by simp [e])) (by omega)).trans (h.block i hi h1)⟩

/-- Inside a call over the operator at block L. -/
structure PInv (w0 w1 : World) (b L : Nat) (s : ByteArray) (r : M.RS) (cs : Array Value) : Prop where
  R : Rd w1 b s r
  B : Blk w1 L 142 cs
  g : Gr2 w0 w1 b L
  ne : b ≠ L

theorem PInv.call {w0 w1 w2 : World} {b L : Nat} {s : ByteArray} {r r' : M.RS} {cs : Array Value} (h : PInv w0 w1 b L s r cs) (hR : Rd w2 b s r') (hg : w1.grownBy w2 (some b)) : PInv w0 w2 b L s r' cs :=
  ⟨hR, h.B.kept hg (by intro e; injection e with e; exact h.ne e.symm), h.g.trans (Gr2.of hg), h.ne⟩
theorem PInv.call0 {w0 w1 w2 : World} {b L : Nat} {s : ByteArray} {r : M.RS} {cs : Array Value} (h : PInv w0 w1 b L s r cs) (hg : w1.grownBy w2 none) : PInv w0 w2 b L s r cs :=
  ⟨Blk.kept h.R hg (by simp), h.B.kept hg (by simp), h.g.trans (Gr2.of0 hg), h.ne⟩
theorem PInv.put {w0 w1 : World} {b L : Nat} {s : ByteArray} {r : M.RS} {cs : Array Value} (h : PInv w0 w1 b L s r cs) (i : Nat) (v : Value) : PInv w0 (w1.setCell ⟨L, i, none⟩ v) b L s r (cs.setIfInBounds i v) :=
  ⟨Blk.other h.R (by simpa using h.ne) _, h.B.set i v, h.g.trans (Gr2.set _ _ _ _ _), h.ne⟩

theorem cells16 {w : World} {L T : Nat} {kind a b we bi to size stride : Int} {same : Bool} {sv : Value} {lo hi above below left right : Int} (h : Blk w L T (o16 kind a b we bi to size stride same sv lo hi above below left right)) :
    w.cell? ⟨L, 0, none⟩ = some (.int .i64 kind) ∧ w.cell? ⟨L, 1, none⟩ = some (.int .i64 a) ∧ w.cell? ⟨L, 2, none⟩ = some (.int .i64 b) ∧ w.cell? ⟨L, 3, none⟩ = some (.int .i64 we) ∧ w.cell? ⟨L, 4, none⟩ = some (.int .i64 bi) ∧ w.cell? ⟨L, 5, none⟩ = some (.int .i64 to) ∧
    w.cell? ⟨L, 6, none⟩ = some (.int .i64 size) ∧ w.cell? ⟨L, 7, none⟩ = some (.int .i64 stride) ∧ w.cell? ⟨L, 8, none⟩ = some (.bool same) ∧ w.cell? ⟨L, 9, none⟩ = some sv ∧ w.cell? ⟨L, 10, none⟩ = some (.int .i64 lo) ∧ w.cell? ⟨L, 11, none⟩ = some (.int .i64 hi) ∧
    w.cell? ⟨L, 12, none⟩ = some (.int .i64 above) ∧ w.cell? ⟨L, 13, none⟩ = some (.int .i64 below) ∧ w.cell? ⟨L, 14, none⟩ = some (.int .i64 left) ∧ w.cell? ⟨L, 15, none⟩ = some (.int .i64 right) :=
  ⟨h.cell 0, h.cell 1, h.cell 2, h.cell 3, h.cell 4, h.cell 5, h.cell 6, h.cell 7, h.cell 8, h.cell 9, h.cell 10, h.cell 11, h.cell 12, h.cell 13, h.cell 14, h.cell 15⟩

structure WfO (o : M.Op) : Prop where
  kind : 0 ≤ o.kind ∧ o.kind ≤ 10
  a : 0 ≤ o.a ∧ o.a ≤ 255
  b : 0 ≤ o.b ∧ o.b ≤ 255
  weights : 0 ≤ o.weights ∧ o.weights ≤ 255
  biases : 0 ≤ o.biases ∧ o.biases ≤ 255
  to : 0 ≤ o.to ∧ o.to ≤ 255
  size : 0 ≤ o.size ∧ o.size ≤ 255
  stride : 0 ≤ o.stride ∧ o.stride ≤ 255
  lo : -128 ≤ o.lo ∧ o.lo ≤ 127
  hi : -128 ≤ o.hi ∧ o.hi ≤ 127
  above : 0 ≤ o.above ∧ o.above ≤ 255
  below : 0 ≤ o.below ∧ o.below ≤ 255
  left : 0 ≤ o.left ∧ o.left ≤ 255
  right : 0 ≤ o.right ∧ o.right ≤ 255
  scales : ∀ c ∈ o.scales, WfS c

set_option maxHeartbeats 400000 in
theorem hasWeights_c (k : Int) (v1 v2 v3 v4 v5 v6 v7 v8 v9 v10 v11 v12 v13 v14 v15 : Value) (x : Bool) (w : World) (hx : M.hasWeights k = x) :
    Calls Tryz.prog 148 #[.agg #[.int .i64 k, v1, v2, v3, v4, v5, v6, v7, v8, v9, v10, v11, v12, v13, v14, v15]] w fun e w' => e = .returned (.bool x) ∧ w.grownBy w' none := by
  subst hx
  unfold M.hasWeights
  by_cases h1 : k = 1
  · subst h1
    go_enter Tryz.func148, Tryz.ntmps148
    go_wp2
    go_ret
    exact ⟨rfl, World.grownBy_alloc _ _ _⟩
  · have n1 : (k == 1) = false := by simp [h1]
    clear h1
    by_cases h2 : k = 2
    · subst h2
      go_enter Tryz.func148, Tryz.ntmps148
      go_wp2
      go_ret
      exact ⟨rfl, World.grownBy_alloc _ _ _⟩
    · have n2 : (k == 2) = false := by simp [h2]
      clear h2
      go_enter Tryz.func148, Tryz.ntmps148
      go_wp2
      go_ret
      exact ⟨ret_bool (by simp [n1, n2]), World.grownBy_alloc _ _ _⟩

set_option maxHeartbeats 400000 in
theorem readsTwo_c (k : Int) (v1 v2 v3 v4 v5 v6 v7 v8 v9 v10 v11 v12 v13 v14 v15 : Value) (x : Bool) (w : World) (hx : M.readsTwo k = x) :
    Calls Tryz.prog 149 #[.agg #[.int .i64 k, v1, v2, v3, v4, v5, v6, v7, v8, v9, v10, v11, v12, v13, v14, v15]] w fun e w' => e = .returned (.bool x) ∧ w.grownBy w' none := by
  subst hx
  unfold M.readsTwo
  by_cases h1 : k = 4
  · subst h1
    go_enter Tryz.func149, Tryz.ntmps149
    go_wp2
    go_ret
    exact ⟨rfl, World.grownBy_alloc _ _ _⟩
  · have n1 : (k == 4) = false := by simp [h1]
    clear h1
    go_enter Tryz.func149, Tryz.ntmps149
    go_wp2
    go_ret
    exact ⟨ret_bool (by simp [n1]), World.grownBy_alloc _ _ _⟩

set_option maxHeartbeats 400000 in
theorem hasRange_c (k : Int) (v1 v2 v3 v4 v5 v6 v7 v8 v9 v10 v11 v12 v13 v14 v15 : Value) (x : Bool) (w : World) (hx : (decide (1 ≤ k) && decide (k ≤ 7)) = x) :
    Calls Tryz.prog 172 #[.agg #[.int .i64 k, v1, v2, v3, v4, v5, v6, v7, v8, v9, v10, v11, v12, v13, v14, v15]] w fun e w' => e = .returned (.bool x) ∧ w.grownBy w' none := by
  by_cases h1 : k < 1
  · have He := hide (show x = false by rw [← hx]; simp; omega)
    clear hx
    go_enter Tryz.func172, Tryz.ntmps172
    go_wp2
    go_ret
    exact ⟨ret_bool (by rw [He.out]), World.grownBy_alloc _ _ _⟩
  · by_cases h2 : 7 < k
    · have He := hide (show x = false by rw [← hx]; simp; omega)
      clear hx
      go_enter Tryz.func172, Tryz.ntmps172
      go_wp2
      go_ret
      exact ⟨ret_bool (by rw [He.out]; simp; omega), World.grownBy_alloc _ _ _⟩
    · have He := hide (show x = true by rw [← hx]; simp; omega)
      clear hx
      go_enter Tryz.func172, Tryz.ntmps172
      go_wp2
      go_ret
      exact ⟨ret_bool (by rw [He.out]), World.grownBy_alloc _ _ _⟩

theorem owns_kept0b {w w' : World} {base b : Nat} {v : Value} {xs : List M.Sc} (h : w.ownsRow base 224 2 v xs.length (xs.flatMap scval)) (hg : w.grownBy w' (some b)) (hb : b < base) : w'.ownsRow base 224 2 v xs.length (xs.flatMap scval) := owns_kept h hg hb

end Go.Proofs.YtcnhfffgbamonaaGreat
