import Derived.Test.YtcnhfffgbamonaaGreatOp11
import Derived.Test.YtcnhfffgbamonaaGreatPlB
import Derived.Test.YtcnhfffgbamonaaGreatDi1
import Derived.Test.YtcnhfffgbamonaaGreatSa2
/-
  The laws' own: what a model makes of inputs.
-/
namespace Go.Proofs.YtcnhfffgbamonaaGreat
open Go.RowKit

/-- A law's model in block b: it writes the bytes of m. -/
structure Mm (w : World) (b : Nat) (m : M.Md) : Prop where
  is : D.Is m
  at_ : ∃ ts ops nt no a n c, MB w b ts ops nt no (.slice a n c) ∧ Ints w 0 (.slice a n c) m.outs ∧ mbytes ts ops nt no m.outs = encM m ∧ ts.length ≤ 100000 ∧ ops.length ≤ 100000 ∧ m.outs.length ≤ 1000

theorem Mm.kept0 {w w' : World} {b : Nat} {m : M.Md} (h : Mm w b m) (hg : w.grownBy w' none) : Mm w' b m := by
  obtain ⟨i, ts, ops, nt, no, a, n, c, h1, h2, h3⟩ := h
  exact ⟨i, ts, ops, nt, no, a, n, c, Blk.kept h1 hg (by simp), h2.kept0 hg, h3⟩

theorem is_one {m : M.Md} (h : D.Is m) : O.One m := O.one_of h.fit h.check

set_option maxHeartbeats 800000 in
theorem outputs_c (b : Nat) (m : M.Md) (a : Option Addr) (n c : Nat) (ins : List (List Int)) (w : World) (hM : Mm w b m) (hI : Lists w 0 (.slice a n c) ins) (hl : ∀ l ∈ ins, l.length ≤ 9223372036854775807) (hn : ins.length ≤ 9223372036854775807) (hh : D.inputsHold m ins = true) :
    Calls Tryz.prog 56 #[.pointer (some ⟨b, 0, none⟩), .slice a n c] w fun e w' => (∃ g, e = .returned (.slice (some ⟨g, 0, none⟩) m.outs.length m.outs.length) ∧ Lists w' w.heap.size (.slice (some ⟨g, 0, none⟩) m.outs.length m.outs.length) (D.run m ins)) ∧ w.grownBy w' none := by
  obtain ⟨his, ts, ops, nt, no, oa, on, oc, hB, hO, hE, l1, l2, l3⟩ := hM
  have HR := hide his.read
  have HA := hide his.all
  have H1 := hide (is_one his)
  have HL := hide his.long
  have HC := hide (mbytes_c b 0 ts ops nt no oa on oc m.outs w hB hO l1 l2 l3)
  rw [hE] at HC
  have HI := hide hI
  have Hh := hide hh
  clear his hB hO hE l1 l2 l3 hI hh
  go_enter Tryz.func56, Tryz.ntmps56
  go_wp2_with fail
  refine HC.out.mono ?_
  rintro e w1 ⟨rfl, hg1⟩
  clear HC
  go_wp2_with fail
  refine (compile_c (S8 (encM m)) w1 (by rw [s8_size]; have := HL.out; omega)).mono ?_
  rintro e w2 ⟨hg2, ⟨hr, -⟩ | ⟨-, q, hq, rfl, hP⟩⟩
  · exact absurd HR.out hr
  · rw [HA.out] at hP
    have hg12 := gr_trans hg1 hg2
    have HI2 := hide (HI.out.kept0 hg12)
    have HG2 := hide hg12
    have HP := hide hP
    clear hg1 hg2 hg12 hP HI
    go_wp2_with fail
    refine (run_c q m a n c ins w2 HP.out H1.out HI2.out hl hn).mono ?_
    rintro e w3 ⟨hg3, ⟨hf, -⟩ | ⟨-, g, rfl, hL⟩⟩
    · rw [Hh.out] at hf; exact Bool.noConfusion hf
    · have HL3 := hide (hL.mono HG2.out.size)
      have HG3 := hide (gr_trans HG2.out hg3)
      clear hL hg3
      go_wp2
      go_ret
      exact ⟨⟨g, rfl, HL3.out⟩, HG3.out⟩

end Go.Proofs.YtcnhfffgbamonaaGreat

/-
  The laws' dice: zero, biases, mult, shift.
-/
namespace Go.Proofs.YtcnhfffgbamonaaGreat
open Go.RowKit

theorem dunder_rg (x n : Int) (hn : 1 ≤ n) : 0 ≤ dunder x n ∧ dunder x n ≤ n - 1 := by
  unfold dunder
  have h1 := Int.emod_nonneg (dnext x / 256) (show n ≠ 0 by omega)
  have h2 := Int.emod_lt_of_pos (dnext x / 256) (show 0 < n by omega)
  omega

def dzero (x : Int) : Int := dunder x 41 - 20
def dmult (x : Int) : Int := 1073741824 + dunder x 4194304 * 256
def dshift (x : Int) : Int := -10 + dunder x 6
theorem dzero_rg (x : Int) : -20 ≤ dzero x ∧ dzero x ≤ 20 := by have := dunder_rg x 41 (by decide); unfold dzero; omega
theorem dmult_rg (x : Int) : 1073741824 ≤ dmult x ∧ dmult x ≤ 2147483647 := by have := dunder_rg x 4194304 (by decide); unfold dmult; omega
theorem dshift_rg (x : Int) : -10 ≤ dshift x ∧ dshift x ≤ -5 := by have := dunder_rg x 6 (by decide); unfold dshift; omega

set_option maxHeartbeats 400000 in
theorem dzero_c (b : Nat) (x : Int) (w : World) (hD : Die w b x) (h0 : 0 ≤ x) (h1 : x < 2147483648) :
    Calls Tryz.prog 52 #[.pointer (some ⟨b, 0, none⟩)] w fun e w' => e = .returned (.int .i64 (dzero x)) ∧ Die w' b (dnext x) ∧ w.grownBy w' (some b) := by
  have hr := dunder_rg x 41 (by decide)
  have He := hide (show dzero x = dunder x 41 - 20 from rfl)
  go_enter Tryz.func52, Tryz.ntmps52
  go_wp2_with fail
  refine (under_c b x 41 _ hD h0 h1 (by decide) (by decide)).mono ?_
  rintro e w3 ⟨rfl, hD3, hg3⟩
  have HD := hide hD3
  have HG := hide hg3
  clear hD hD3 hg3
  generalize dunder x 41 = q at *
  obtain ⟨q0, q1⟩ := hr
  go_wp2
  go_ret
  exact ⟨ret_int He.out.symm, HD.out, HG.out⟩

set_option maxHeartbeats 400000 in
theorem dmult_c (b : Nat) (x : Int) (w : World) (hD : Die w b x) (h0 : 0 ≤ x) (h1 : x < 2147483648) :
    Calls Tryz.prog 53 #[.pointer (some ⟨b, 0, none⟩)] w fun e w' => e = .returned (.int .i64 (dmult x)) ∧ Die w' b (dnext x) ∧ w.grownBy w' (some b) := by
  have hr := dunder_rg x 4194304 (by decide)
  have He := hide (show dmult x = 1073741824 + dunder x 4194304 * 256 from rfl)
  go_enter Tryz.func53, Tryz.ntmps53
  go_wp2_with fail
  refine (under_c b x 4194304 _ hD h0 h1 (by decide) (by decide)).mono ?_
  rintro e w3 ⟨rfl, hD3, hg3⟩
  have HD := hide hD3
  have HG := hide hg3
  clear hD hD3 hg3
  generalize dunder x 4194304 = q at *
  obtain ⟨q0, q1⟩ := hr
  go_wp2
  go_ret
  exact ⟨ret_int He.out.symm, HD.out, HG.out⟩

set_option maxHeartbeats 400000 in
theorem dshift_c (b : Nat) (x : Int) (w : World) (hD : Die w b x) (h0 : 0 ≤ x) (h1 : x < 2147483648) :
    Calls Tryz.prog 54 #[.pointer (some ⟨b, 0, none⟩)] w fun e w' => e = .returned (.int .i64 (dshift x)) ∧ Die w' b (dnext x) ∧ w.grownBy w' (some b) := by
  have hr := dunder_rg x 6 (by decide)
  have He := hide (show dshift x = -10 + dunder x 6 from rfl)
  go_enter Tryz.func54, Tryz.ntmps54
  go_wp2_with fail
  refine (under_c b x 6 _ hD h0 h1 (by decide) (by decide)).mono ?_
  rintro e w3 ⟨rfl, hD3, hg3⟩
  have HD := hide hD3
  have HG := hide hg3
  clear hD hD3 hg3
  generalize dunder x 6 = q at *
  obtain ⟨q0, q1⟩ := hr
  go_wp2
  go_ret
  exact ⟨ret_int He.out.symm, HD.out, HG.out⟩

/-- n biases of a die; where it stands behind them. -/
def dbias : Nat → Int → List Int × Int
  | 0, x => ([], x)
  | k + 1, x => ((dbias k x).1 ++ [dunder (dbias k x).2 4000 - 2000], dnext (dbias k x).2)
theorem dbias_len (k : Nat) (x : Int) : (dbias k x).1.length = k := by
  induction k with
  | zero => rfl
  | succ k ih => simp [dbias, ih]
theorem dbias_range (k : Nat) (x : Int) (h0 : 0 ≤ x) (h1 : x < 2147483648) : 0 ≤ (dbias k x).2 ∧ (dbias k x).2 < 2147483648 := by
  cases k with
  | zero => exact ⟨h0, h1⟩
  | succ k => exact dnext_range _
theorem dbias_ok (k : Nat) (x : Int) : D.BOk (dbias k x).1 := by
  induction k with
  | zero => intro v hv; exact absurd hv (by simp [dbias])
  | succ k ih =>
    intro v hv
    rcases List.mem_append.mp hv with h | h
    · exact ih v h
    · have := dunder_rg (dbias k x).2 4000 (by decide)
      simp at h; omega
theorem dcells_ok (k : Nat) (x : Int) : D.Cells (dcells k x).1 := by
  induction k with
  | zero => intro v hv; exact absurd hv (by simp [dcells])
  | succ k ih =>
    intro v hv
    rcases List.mem_append.mp hv with h | h
    · exact ih v h
    · have := dunder_rg (dcells k x).2 256 (by decide)
      simp at h; omega

set_option maxHeartbeats 800000 in
theorem dbias_c (b : Nat) (x : Int) (n : Nat) (w : World) (hD : Die w b x) (h0 : 0 ≤ x) (h1 : x < 2147483648) (hn : n ≤ 16777216) :
    Calls Tryz.prog 58 #[.pointer (some ⟨b, 0, none⟩), .int .i64 n] w fun e w' => e = .returned (.slice (some ⟨w.heap.size, 0, none⟩) n n) ∧ Ints w' w.heap.size (.slice (some ⟨w.heap.size, 0, none⟩) n n) (dbias n x).1 ∧ Die w' b (dbias n x).2 ∧ w.grownBy w' (some b) := by
  obtain ⟨i0, hi, hz0, hz1, hz2⟩ := info_parts Tryz.info3
  have hbl : b < w.heap.size := Blk.lt hD
  go_enter Tryz.func58, Tryz.ntmps58
  go_wp2_with (at_make; refine wpList_make_full _ rfl _ _ 33 rfl w.heap.size 3 i0 (.int .i64 0) 1 Tryz.underlying33 hi hz0 hz1 _ _ _ _ n rfl rfl rfl rfl ?c1 ?c2 ?c3 ?_)
  case c1 => rw [hz2]; omega
  case c2 => unfold maxLen; omega
  case c3 => exact Nat.le_refl _
  intro w2 hown hg2
  have hB2 := made_blk hown
  have e0 : (List.replicate n (Value.int .i64 0)).toArray = fillA n [] := by simp [fillA]
  rw [e0] at hB2
  have hD2 : Die w2 b x := Blk.kept hD hg2 (by simp)
  clear hown e0
  go_wp2
  go_loopw [6] (fun i wr => ∃ k : Nat, k ≤ n ∧ i = .int .i64 k ∧ Die wr b (dbias k x).2 ∧ Blk wr w.heap.size 3 (fillA n (dbias k x).1) ∧ w.grownBy wr (some b)) (fun i _ => n - (intOf i).toNat)
  case atStart => exact ⟨0, Nat.zero_le _, rfl, hD2, hB2, gr_none hg2⟩
  case round =>
    obtain ⟨k, hk, rfl, hDk, hBk, hgk⟩ := hrel
    have hr := dbias_range k x h0 h1
    have hl := dbias_len k x
    by_cases hlt : k < n
    · have hu := dunder_rg (dbias k x).2 4000 (by decide)
      have hs : dbias (k + 1) x = ((dbias k x).1 ++ [dunder (dbias k x).2 4000 - 2000], dnext (dbias k x).2) := rfl
      have Hs := hide hs
      clear hs
      generalize (dbias k x).1 = l at *
      generalize (dbias k x).2 = y at *
      obtain ⟨y0, y1⟩ := hr
      obtain ⟨u0, u1⟩ := hu
      subst hl
      go_wp2_with fail
      refine (under_c b y 4000 _ hDk y0 y1 (by decide) (by decide)).mono ?_
      rintro e w3 ⟨rfl, hD3, hg3⟩
      have hB3 : Blk w3 w.heap.size 3 (fillA n l) := hBk.kept hg3 (by simp; omega)
      obtain ⟨z, hz⟩ := fill_get hk l.length hlt
      have hc := hB3.cell l.length
      rw [hz] at hc
      have hf := hB3.free l.length
      have HB := hide (hB3.set l.length (.int .i64 (dunder y 4000 - 2000)))
      rw [fill_set hlt] at HB
      have HD := hide (Blk.other hD3 (show b ≠ (⟨w.heap.size, l.length, none⟩ : Addr).block by simp; omega) (.int .i64 (dunder y 4000 - 2000)))
      have HG := hide (gr_new (gr_trans hgk hg3) (gr_set w3 w.heap.size l.length (.int .i64 (dunder y 4000 - 2000))) (Nat.le_refl _))
      clear hB3 hD3 hg3 hgk hBk hDk hz
      generalize dunder y 4000 = q at *
      go_wp2
      go_roundw
      case rel =>
        refine ⟨l.length + 1, by omega, by go_num, ?_, ?_, HG.out⟩
        · rw [Hs.out]; exact HD.out
        · rw [Hs.out]; exact HB.out
      case measure => simp [intOf]; omega
    · obtain rfl : k = n := by omega
      have HI := hide (show Ints wr w.heap.size (.slice (some ⟨w.heap.size, 0, none⟩) k k) (dbias k x).1 from Ints.of_blk (Nat.le_refl _) hl (by unfold maxLen; omega) (by have e := hBk; unfold fillA at e; rw [hl, Nat.sub_self, List.replicate_zero, List.append_nil] at e; exact e))
      clear hBk hl hr
      go_wp2
      go_ret
      exact ⟨rfl, HI.out, hDk, hgk⟩

end Go.Proofs.YtcnhfffgbamonaaGreat

/-
  A law's model, tensor by tensor and operator by operator.
-/
namespace Go.Proofs.YtcnhfffgbamonaaGreat
open Go.RowKit

/-- A law's model that is being written, in block b. -/
def MP (w : World) (b : Nat) (ts : List M.Tn) (os : List M.Op) (ov : Value) : Prop := MB w b (ts.flatMap encT) (os.flatMap encO) ts.length os.length ov
theorem MP.kept {w w' : World} {b : Nat} {ts : List M.Tn} {os : List M.Op} {ov : Value} {row : Option Nat} (h : MP w b ts os ov) (hg : w.grownBy w' row) (hne : some b ≠ row) : MP w' b ts os ov := Blk.kept h hg hne
theorem MP.lt {w : World} {b : Nat} {ts : List M.Tn} {os : List M.Op} {ov : Value} (h : MP w b ts os ov) : b < w.heap.size := Blk.lt h
theorem MP.new (w : World) : MP (w.alloc (.cells #[.string ⟨#[]⟩, .string ⟨#[]⟩, .int .i64 0, .int .i64 0, .slice none 0 0] 81)) w.heap.size [] [] (.slice none 0 0) := Blk.new w 81 _

def sizeT (ts : List M.Tn) : Nat := (ts.map fun t => 5 + 4 * t.data.length).sum
theorem sizeT_le (ts : List M.Tn) : (ts.flatMap encT).length ≤ sizeT ts := D.enc_ts_len ts
theorem sizeT_nil : sizeT [] = 0 := rfl
theorem sizeT_snoc (ts : List M.Tn) (t : M.Tn) : sizeT (ts ++ [t]) = sizeT ts + (5 + 4 * t.data.length) := by unfold sizeT; simp

theorem mten (b : Nat) (ts : List M.Tn) (os : List M.Op) (ov : Value) (t : M.Tn) (a : Option Addr) (n cp : Nat) (w : World) (hM : MP w b ts os ov) (hI : Ints w 0 (.slice a n cp) t.data) (hs : sizeT ts ≤ 100000) (hx : t.data.length ≤ 1000) (hn : ts.length ≤ 1000) :
    Calls Tryz.prog 45 #[.pointer (some ⟨b, 0, none⟩), .int .i64 t.kind, .int .i64 t.h, .int .i64 t.w, .int .i64 t.c, .int .i64 t.zero, .slice a n cp] w fun e w' =>
      e = .returned (.int .i64 ts.length) ∧ MP w' b (ts ++ [t]) os ov ∧ w.grownBy w' (some b) :=
  (mtensor_c b 0 _ _ _ _ ov t.kind t.h t.w t.c t.zero a n cp t.data w hM hI (Nat.le_trans (sizeT_le ts) hs) hx hn).mono fun e w' ⟨he, hM', hg⟩ => ⟨he, by
    unfold MP
    rw [List.flatMap_append, List.flatMap_singleton, List.length_append]
    exact hM', hg⟩

theorem mopr (b : Nat) (ts : List M.Tn) (os : List M.Op) (ov : Value) (o : M.Op) (ns : List UInt8) (a : Option Addr) (n cp : Nat) (w : World) (hM : MP w b ts os ov) (hF : ∀ o ∈ os, FitO o) (hI : Ints w 0 (.slice a n cp) (insOf o)) (hns : ns = ownBytes o) (hl : ns.length ≤ 1000) (hn : os.length ≤ 100) :
    Calls Tryz.prog 47 #[.pointer (some ⟨b, 0, none⟩), .int .i64 o.kind, .slice a n cp, .int .i64 o.to, .string (S8 ns)] w fun e w' =>
      e = .returned (.tuple #[]) ∧ MP w' b ts (os ++ [o]) ov ∧ w.grownBy w' (some b) :=
  (mop_c b 0 _ _ _ _ ov o.kind o.to ns a n cp (insOf o) w hM hI (by have := D.enc_os_len os hF; omega) (by unfold insOf; split <;> split <;> simp) hl (by omega)).mono fun e w' ⟨he, hM', hg⟩ => ⟨he, by
    unfold MP
    rw [List.flatMap_append, List.flatMap_singleton, List.length_append]
    subst hns
    exact hM', hg⟩

/-- A model whose outputs are set. -/
theorem MP.done {w : World} {b : Nat} {m : M.Md} {a : Option Addr} {n c : Nat} (h : MP w b m.tensors m.ops (.slice a n c)) (hI : Ints w 0 (.slice a n c) m.outs) (hi : D.Is m) (hs : sizeT m.tensors ≤ 100000) (ho : m.ops.length ≤ 100) (hu : m.outs.length ≤ 1000) : Mm w b m :=
  ⟨hi, _, _, _, _, a, n, c, h, hI, rfl, Nat.le_trans (sizeT_le _) hs, by have := D.enc_os_len m.ops hi.fit.os; omega, hu⟩

end Go.Proofs.YtcnhfffgbamonaaGreat
