import Derived.Test.YtcnhfffgbamonabOp11
import Derived.Test.YtcnhfffgbamonabPlB
import Derived.Test.YtcnhfffgbamonabDi1
import Derived.Test.YtcnhfffgbamonabSa2
/-
  The laws' own: what a model makes of inputs.
-/
namespace Go.Proofs.Ytcnhfffgbamonab
open Go.RowKit

/-- A law's model in block b: it writes the bytes of m. -/
structure Mm (w : World) (b : Nat) (m : M.Md) : Prop where
  is : D.Is m
  at_ : ∃ ts ops nt no a n c, MB w b ts ops nt no (.slice a n c) ∧ Ints w 0 (.slice a n c) m.outs ∧ mbytes ts ops nt no m.outs = encM m ∧ ts.length ≤ 100000 ∧ ops.length ≤ 100000 ∧ m.outs.length ≤ 1000

theorem Mm.kept0 {w w' : World} {b : Nat} {m : M.Md} (h : Mm w b m) (hg : w.grownBy w' none) : Mm w' b m := by
  obtain ⟨i, ts, ops, nt, no, a, n, c, h1, h2, h3⟩ := h
  exact ⟨i, ts, ops, nt, no, a, n, c, Blk.kept h1 hg (by simp), h2.kept0 hg, h3⟩

theorem is_one {m : M.Md} (h : D.Is m) : O.One m := O.one_of h.fit h.check

end Go.Proofs.Ytcnhfffgbamonab

/-
  The laws' dice: zero, biases, mult, shift.
-/
namespace Go.Proofs.Ytcnhfffgbamonab
open Go.RowKit

theorem dunder_rg (x n : Int) (hn : 1 ≤ n) : 0 ≤ dunder x n ∧ dunder x n ≤ n - 1 := by
  unfold dunder
  have h1 := Int.emod_nonneg (dnext x / 256) (show n ≠ 0 by omega)
  have h2 := Int.emod_lt_of_pos (dnext x / 256) (show 0 < n by omega)
  omega

def dzero (x : Int) : Int := dunder x 41 - 20
def dmult (x : Int) : Int := 1073741824 + dunder x 4194304 * 256
def dshift (x : Int) : Int := -10 + dunder x 6
theorem dzero_rg (x : Int) : -20 ≤ dzero x ∧ dzero x ≤ 20 := by have := dunder_rg x 41 (by decide); unfold dzero; omega
theorem dmult_rg (x : Int) : 1073741824 ≤ dmult x ∧ dmult x ≤ 2147483647 := by have := dunder_rg x 4194304 (by decide); unfold dmult; omega
theorem dshift_rg (x : Int) : -10 ≤ dshift x ∧ dshift x ≤ -5 := by have := dunder_rg x 6 (by decide); unfold dshift; omega

/-- n biases of a die; where it stands behind them. -/
def dbias : Nat → Int → List Int × Int
  | 0, x => ([], x)
  | k + 1, x => ((dbias k x).1 ++ [dunder (dbias k x).2 4000 - 2000], dnext (dbias k x).2)
theorem dbias_len (k : Nat) (x : Int) : (dbias k x).1.length = k := by
  induction k with
  | zero => rfl
  | succ k ih => simp [dbias, ih]
theorem dbias_range (k : Nat) (x : Int) (h0 : 0 ≤ x) (h1 : x < 2147483648) : 0 ≤ (dbias k x).2 ∧ (dbias k x).2 < 2147483648 := by
  cases k with
  | zero => exact ⟨h0, h1⟩
  | succ k => exact dnext_range _
theorem dbias_ok (k : Nat) (x : Int) : D.BOk (dbias k x).1 := by
  induction k with
  | zero => intro v hv; exact absurd hv (by simp [dbias])
  | succ k ih =>
    intro v hv
    rcases List.mem_append.mp hv with h | h
    · exact ih v h
    · have := dunder_rg (dbias k x).2 4000 (by decide)
      simp at h; omega
theorem dcells_ok (k : Nat) (x : Int) : D.Cells (dcells k x).1 := by
  induction k with
  | zero => intro v hv; exact absurd hv (by simp [dcells])
  | succ k ih =>
    intro v hv
    rcases List.mem_append.mp hv with h | h
    · exact ih v h
    · have := dunder_rg (dcells k x).2 256 (by decide)
      simp at h; omega

end Go.Proofs.Ytcnhfffgbamonab

/-
  A law's model, tensor by tensor and operator by operator.
-/
namespace Go.Proofs.Ytcnhfffgbamonab
open Go.RowKit

/-- A law's model that is being written, in block b. -/
def MP (w : World) (b : Nat) (ts : List M.Tn) (os : List M.Op) (ov : Value) : Prop := MB w b (ts.flatMap encT) (os.flatMap encO) ts.length os.length ov
theorem MP.kept {w w' : World} {b : Nat} {ts : List M.Tn} {os : List M.Op} {ov : Value} {row : Option Nat} (h : MP w b ts os ov) (hg : w.grownBy w' row) (hne : some b ≠ row) : MP w' b ts os ov := Blk.kept h hg hne
theorem MP.lt {w : World} {b : Nat} {ts : List M.Tn} {os : List M.Op} {ov : Value} (h : MP w b ts os ov) : b < w.heap.size := Blk.lt h
theorem MP.new (w : World) : MP (w.alloc (.cells #[.string ⟨#[]⟩, .string ⟨#[]⟩, .int .i64 0, .int .i64 0, .slice none 0 0] 37)) w.heap.size [] [] (.slice none 0 0) := Blk.new w 37 _

def sizeT (ts : List M.Tn) : Nat := (ts.map fun t => 5 + 4 * t.data.length).sum
theorem sizeT_le (ts : List M.Tn) : (ts.flatMap encT).length ≤ sizeT ts := D.enc_ts_len ts
theorem sizeT_nil : sizeT [] = 0 := rfl
theorem sizeT_snoc (ts : List M.Tn) (t : M.Tn) : sizeT (ts ++ [t]) = sizeT ts + (5 + 4 * t.data.length) := by unfold sizeT; simp

theorem mten (b : Nat) (ts : List M.Tn) (os : List M.Op) (ov : Value) (t : M.Tn) (a : Option Addr) (n cp : Nat) (w : World) (hM : MP w b ts os ov) (hI : Ints w 0 (.slice a n cp) t.data) (hs : sizeT ts ≤ 100000) (hx : t.data.length ≤ 1000) (hn : ts.length ≤ 1000) :
    Calls Try.prog 13 #[.pointer (some ⟨b, 0, none⟩), .int .i64 t.kind, .int .i64 t.h, .int .i64 t.w, .int .i64 t.c, .int .i64 t.zero, .slice a n cp] w fun e w' =>
      e = .returned (.int .i64 ts.length) ∧ MP w' b (ts ++ [t]) os ov ∧ w.grownBy w' (some b) :=
  (mtensor_c b 0 _ _ _ _ ov t.kind t.h t.w t.c t.zero a n cp t.data w hM hI (Nat.le_trans (sizeT_le ts) hs) hx hn).mono fun e w' ⟨he, hM', hg⟩ => ⟨he, by
    unfold MP
    rw [List.flatMap_append, List.flatMap_singleton, List.length_append]
    exact hM', hg⟩

theorem mopr (b : Nat) (ts : List M.Tn) (os : List M.Op) (ov : Value) (o : M.Op) (ns : List UInt8) (a : Option Addr) (n cp : Nat) (w : World) (hM : MP w b ts os ov) (hF : ∀ o ∈ os, FitO o) (hI : Ints w 0 (.slice a n cp) (insOf o)) (hns : ns = ownBytes o) (hl : ns.length ≤ 1000) (hn : os.length ≤ 100) :
    Calls Try.prog 15 #[.pointer (some ⟨b, 0, none⟩), .int .i64 o.kind, .slice a n cp, .int .i64 o.to, .string (S8 ns)] w fun e w' =>
      e = .returned (.tuple #[]) ∧ MP w' b ts (os ++ [o]) ov ∧ w.grownBy w' (some b) :=
  (mop_c b 0 _ _ _ _ ov o.kind o.to ns a n cp (insOf o) w hM hI (by have := D.enc_os_len os hF; omega) (by unfold insOf; split <;> split <;> simp) hl (by omega)).mono fun e w' ⟨he, hM', hg⟩ => ⟨he, by
    unfold MP
    rw [List.flatMap_append, List.flatMap_singleton, List.length_append]
    subst hns
    exact hM', hg⟩

/-- A model whose outputs are set. -/
theorem MP.done {w : World} {b : Nat} {m : M.Md} {a : Option Addr} {n c : Nat} (h : MP w b m.tensors m.ops (.slice a n c)) (hI : Ints w 0 (.slice a n c) m.outs) (hi : D.Is m) (hs : sizeT m.tensors ≤ 100000) (ho : m.ops.length ≤ 100) (hu : m.outs.length ≤ 1000) : Mm w b m :=
  ⟨hi, _, _, _, _, a, n, c, h, hI, rfl, Nat.le_trans (sizeT_le _) hs, by have := D.enc_os_len m.ops hi.fit.os; omega, hu⟩

end Go.Proofs.Ytcnhfffgbamonab
