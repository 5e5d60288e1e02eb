import Derived.Test.YtcnhfffgbamonaaGreatLaB
import Derived.StillTailTactics
import Derived.Test.YtcnhfffgbamonaaGreatBase
import Derived.Lib.QuietBelow
/-
  The law Pool: a model of windows, as it is written.
-/
namespace Go.Proofs.YtcnhfffgbamonaaGreat
open Go.RowKit

def PSz (h v n s : Int) : Prop := (h = 4 ∧ v = 5 ∧ (n = 1 ∨ n = 2 ∨ n = 3) ∧ (s = 1 ∨ s = 2 ∨ s = 3)) ∨ (h = 2 ∧ v = 2 ∧ n = 2 ∧ s = 1)
theorem psz_facts {h v n s : Int} (hz : PSz h v n s) : (1 ≤ n ∧ n ≤ 3 ∧ 1 ≤ s ∧ s ≤ 3) ∧ (0 ≤ h - n ∧ h - n ≤ 4 ∧ 0 ≤ v - n ∧ v - n ≤ 4) ∧ (0 ≤ (h - n) / s ∧ (h - n) / s ≤ 4) ∧ (0 ≤ (v - n) / s ∧ (v - n) / s ≤ 4) ∧ Int.tdiv (h - n) s = (h - n) / s ∧ Int.tdiv (v - n) s = (v - n) / s := by
  rcases hz with ⟨rfl, rfl, rfl | rfl | rfl, rfl | rfl | rfl⟩ | ⟨rfl, rfl, rfl, rfl⟩ <;> decide

set_option maxRecDepth 100000 in
set_option maxHeartbeats 1000000 in
theorem pooled_c (k h v n s : Int) (hk : k = 5 ∨ k = 6) (hz : PSz h v n s) (w : World) :
    Calls Tryz.prog 59 #[.int .i64 k, .int .i64 h, .int .i64 v, .int .i64 n, .int .i64 s] w fun e w' => e = .returned (.pointer (some ⟨w.heap.size, 0, none⟩)) ∧ Mm w' w.heap.size (D.mPool k h v n s) ∧ w.grownBy w' none := by
  have HIS := hide (D.is_pool k h v n s hk hz)
  obtain ⟨⟨n1, n2, s1, s2⟩, ⟨h1, h2, v1, v2⟩, ⟨a1, a2⟩, ⟨b1, b2⟩, hd1, hd2⟩ := psz_facts hz
  have P0 := hide (MP.new w)
  have G0 := hide (World.grownBy_alloc w (.cells #[.string ⟨#[]⟩, .string ⟨#[]⟩, .int .i64 0, .int .i64 0, .slice none 0 0] 81) none)
  have hs0 : (s == 0) = false := by simp; omega
  have hw1 := hide (show IntKind.i64.wrap (h - n) = h - n by rw [IntKind.wrap_i64]; omega)
  have hw2 := hide (show IntKind.i64.wrap (v - n) = v - n by rw [IntKind.wrap_i64]; omega)
  have hw3 := hide (show IntKind.i64.wrap ((h - n) / s) = (h - n) / s by rw [IntKind.wrap_i64]; omega)
  have hw4 := hide (show IntKind.i64.wrap ((v - n) / s) = (v - n) / s by rw [IntKind.wrap_i64]; omega)
  have hw5 := hide (show IntKind.i64.wrap ((h - n) / s + 1) = (h - n) / s + 1 by rw [IntKind.wrap_i64]; omega)
  have hw6 := hide (show IntKind.i64.wrap ((v - n) / s + 1) = (v - n) / s + 1 by rw [IntKind.wrap_i64]; omega)
  have hsn := hide (show ¬ s = 0 by omega)
  have Hsn := hide (show S8 [b8 n, b8 s] ++ S8 [b8 (-128), b8 127] = S8 (ownBytes (D.oPool k 0 1 n s (-128) 127)) by
    rw [s8_app]; rcases hk with rfl | rfl <;> rfl)
  have Hins := hide (show insOf (D.oPool k 0 1 n s (-128) 127) = [0] by rcases hk with rfl | rfl <;> rfl)
  have Hol := hide (show (ownBytes (D.oPool k 0 1 n s (-128) 127)).length ≤ 1000 by rcases hk with rfl | rfl <;> (show 4 ≤ 1000; decide))
  clear hk hz
  go_enter Tryz.func59, Tryz.ntmps59
  go_wp2_with fail
  refine (mten w.heap.size [] [] _ (D.tIn h v 2 5) none 0 0 _ P0.out (Ints.nil _ _) (by decide) (show 0 ≤ 1000 by decide) (show 0 ≤ 1000 by decide)).mono ?_
  rintro e q1 ⟨rfl, hP, hg⟩
  have G1 := hide (gr_new G0.out hg (Nat.le_refl _))
  have P1 := hide hP
  clear hP hg P0 G0
  go_wp2_with fail
  go_still_tail 13, (by kernel_rfl)
  rw [hw1.out]
  refine wpStill_step (fun K hK => ?_)
  go_simp
  rw [if_neg hsn.out, hw3.out]
  refine ⟨rfl, hK _ ?_⟩
  clear hK K
  repeat still_step
  rw [hw5.out, hw2.out]
  refine wpStill_step (fun K hK => ?_)
  go_simp
  rw [if_neg hsn.out, hw4.out]
  refine ⟨rfl, hK _ ?_⟩
  clear hK K
  repeat still_step
  refine wpStill_nil ?_
  rw [hw6.out]
  go_wp2_with fail
  refine (mten w.heap.size [D.tIn h v 2 5] [] _ (D.tMid ((h - n) / s + 1) ((v - n) / s + 1) 2 5) none 0 0 _ (P1.out.kept (gr_drew _ none) (by simp)) (Ints.nil _ _) (show 5 ≤ 100000 by decide) (show 0 ≤ 1000 by decide) (show 1 ≤ 1000 by decide)).mono ?_
  rintro e q2 ⟨rfl, hP, hg⟩
  have G2 := hide (gr_new (gr_trans G1.out (gr_drew _ none)) hg (Nat.le_refl _))
  have P2 := hide hP
  clear hP hg P1 G1
  go_wp2_with fail
  refine (span_c (-128) 127 _).mono ?_
  rintro e q3 ⟨rfl, hg⟩
  have G3 := hide (gr_trans G2.out hg)
  have P3 := hide (P2.out.kept hg (by simp))
  clear hg P2 G2
  have hcv : (convert 41 9 (.slice (some ⟨q3.heap.size + 1, 0, none⟩) 2 2)).run Tryz.prog ((q3.alloc (.cells #[.int .i64 0] 3)).alloc (.cells #[.int .u8 n, .int .u8 s] 5)) = .ok (.string (S8 [b8 n, b8 s])) ((q3.alloc (.cells #[.int .i64 0] 3)).alloc (.cells #[.int .u8 n, .int .u8 s] 5)) := by
    have e : (convert 41 9 (.slice (some ⟨(q3.alloc (.cells #[.int .i64 0] 3)).heap.size, 0, none⟩) 2 2)).run Tryz.prog ((q3.alloc (.cells #[.int .i64 0] 3)).alloc (.cells #[.int .u8 (n % 256), .int .u8 (s % 256)] 5)) = .ok (.string (S8 [b8 n, b8 s])) ((q3.alloc (.cells #[.int .i64 0] 3)).alloc (.cells #[.int .u8 (n % 256), .int .u8 (s % 256)] 5)) := conv_list (q3.alloc (.cells #[.int .i64 0] 3)) [n, s]
    rw [World.size_alloc, show n % 256 = n by omega, show s % 256 = s by omega] at e
    exact e
  have T3 := hide ((P3.out.kept (World.grownBy_alloc q3 (.cells #[.int .i64 0] 3) none) (by simp)).kept (World.grownBy_alloc _ (.cells #[.int .u8 n, .int .u8 s] 5) none) (by simp))
  have J3 := hide (Ints.of_blk (base := 0) (xs := [0]) (n := 1) (Nat.zero_le _) rfl (by decide) ((Blk.new q3 3 #[.int .i64 0]).alloc (.cells #[.int .u8 n, .int .u8 s] 5)))
  have G4 := hide (gr_trans G3.out (gr_alloc2 q3 (.cells #[.int .i64 0] 3) (.cells #[.int .u8 n, .int .u8 s] 5) none))
  have hs1 : (S8 [b8 n, b8 s]).size = 2 := by rw [s8_size]; rfl
  have hs2 : (S8 [b8 (-128), b8 127]).size = 2 := by rw [s8_size]; rfl
  clear P3 G3
  go_wp2_with fail
  rw [Hsn.out]
  refine (mopr w.heap.size _ [] _ (D.oPool k 0 1 n s (-128) 127) _ (some ⟨q3.heap.size, 0, none⟩) 1 1 _ T3.out (fun o ho => absurd ho (by simp)) (by rw [Hins.out]; exact J3.out) rfl Hol.out (by decide)).mono ?_
  rintro e q5 ⟨rfl, hP, hg⟩
  have G5 := hide (gr_new G4.out hg (Nat.le_refl _))
  have e4 : q5.cell? ⟨w.heap.size, 4, none⟩ = some (.slice none 0 0) := Blk.cell hP 4
  have f4 := Blk.free hP 4
  have hlq : w.heap.size < q5.heap.size := hP.lt
  have MN := hide (outs_set (v := 1) (m := D.mPool k h v n s) hP rfl rfl rfl HIS.out (show 10 ≤ 100000 by decide) (show 1 ≤ 100 by decide))
  have GG := hide (gr_trans (gr_new G5.out (gr_set q5 w.heap.size 4 (.slice (some ⟨q5.heap.size, 0, none⟩) 1 1)) (Nat.le_refl _)) (World.grownBy_alloc _ (.cells #[.int .i64 1] 3) none))
  clear hP hg T3 J3 hs1 hs2 Hsn G4 G5 hcv
  go_wp2
  go_ret
  exact ⟨rfl, MN.out, GG.out⟩

end Go.Proofs.YtcnhfffgbamonaaGreat

/-
  The law Pool, in plain words: the greatest and the mean of windows.
-/
namespace Go.Proofs.YtcnhfffgbamonaaGreat
/-- A whole row, as a block. -/
theorem pints_blk {w : World} {B g n : Nat} {l : List Int} (h : Ints w B (.slice (some ⟨g, 0, none⟩) n n) l) : Blk w g 3 (l.map (Value.int .i64)).toArray := by
  have hn := h.len
  subst hn
  rcases h.2 with ⟨h', _⟩ | ⟨g', cap', cur, h', _, hg, _, _, hz, ht⟩
  · simp at h'
  · simp only [Value.slice.injEq, Option.some.injEq, Addr.mk.injEq, and_true, true_and] at h'
    obtain ⟨rfl, rfl⟩ := h'
    unfold Blk
    rw [hg]
    have e : cur.toList = l.map (Value.int .i64) := by
      rw [List.take_of_length_le (by simp [hz])] at ht
      exact ht
    rw [← e]

/-- One list of cells that are written out, as a list of lists. -/
theorem lit_list (q : World) (l : List Int) (n : Nat) (hn : l.length = n) (hm : n ≤ maxLen) : Lists ((q.alloc (.cells (l.map (Value.int .i64)).toArray 3)).alloc (.cells #[.slice (some ⟨q.heap.size, 0, none⟩) n n] 33)) 0 (.slice (some ⟨q.heap.size + 1, 0, none⟩) 1 1) [l] :=
  lists_of (Blk.new1 _ _ _ _) rfl rfl (by decide) fun j u v hu hv => by
    match j with
    | 0 =>
      injection hu with hu
      injection hv with hv
      subst hu
      subst hv
      exact ⟨_, _, _, rfl, (Ints.of_blk (xs := l) (Nat.zero_le _) hn hm ((Blk.new q 3 _).alloc _))⟩
    | j + 1 => simp at hu

theorem fill_step (xs : List Int) (v : Int) (k : Nat) (h : k < xs.length) : (((List.replicate k v ++ xs.drop k).map (Value.int .i64)).toArray).setIfInBounds k (.int .i64 v) = ((List.replicate (k + 1) v ++ xs.drop (k + 1)).map (Value.int .i64)).toArray := by
  apply Array.ext'
  rw [Array.toList_setIfInBounds]
  show ((List.replicate k v ++ xs.drop k).map (Value.int .i64)).set k (.int .i64 v) = (List.replicate (k + 1) v ++ xs.drop (k + 1)).map (Value.int .i64)
  rw [← List.map_set]
  refine congrArg (List.map (Value.int .i64)) ?_
  rw [List.set_append_right _ _ (by simp), List.length_replicate, Nat.sub_self, List.drop_eq_getElem_cons h, List.set_cons_zero, List.replicate_succ']
  simp

namespace D

theorem get_some {l : List Int} {i : Nat} {v : Int} (h : l[i]? = some v) : get l i = v := by
  unfold get
  rw [if_neg (by omega), Int.toNat_natCast, List.getD, h]
  rfl
theorem some_get {l : List Int} {i : Nat} (h : i < l.length) : l[i]? = some (get l i) := by
  rw [List.getElem?_eq_getElem h, get_some (List.getElem?_eq_getElem h)]
theorem get_rep (n : Nat) (v j : Int) (h0 : 0 ≤ j) (h1 : j < n) : get (List.replicate n v) j = v := by
  obtain ⟨i, rfl⟩ := Int.eq_ofNat_of_zero_le h0
  exact get_some (by rw [List.getElem?_replicate, if_pos (by omega)])

theorem mean_one (f : Int) : mean (0 + f) (1 * 1) = f := by
  unfold mean
  split <;> omega

theorem pool_run2 (n s : Int) (hz : PSz 4 5 n s) (x : List Int) : ∃ u v : List Int, run (mPool 5 4 5 n s) [x] = [u] ∧ run (mPool 6 4 5 n s) [x] = [v] ∧ v.length = u.length ∧ u.length ≤ 40 ∧ ∀ i : Nat, i < u.length → get v i ≤ get u i ∧ (n = 1 → get u i = get v i) := by
  obtain ⟨⟨n1, -, -, -⟩, -⟩ := psz_facts hz
  refine ⟨_, _, run_pool 5 4 5 n s x, run_pool 6 4 5 n s x, by rw [grid_length, grid_length], ?_, fun i hi => ?_⟩
  · rw [grid_length]
    rcases hz with ⟨-, -, rfl | rfl | rfl, rfl | rfl | rfl⟩ | ⟨h, -⟩
    all_goals first | decide | exact absurd h (by decide)
  · rw [grid_length] at hi
    rw [grid_get i (by omega), grid_get i (by omega)]
    refine ⟨pool_le n s _ _ _ _ n1, fun h1 => ?_⟩
    subst h1
    rw [cell_max (o := oPool 5 0 1 1 s (-128) 127) _ _ _ _ rfl, cell_avg (o := oPool 6 0 1 1 s (-128) 127) _ _ _ _ rfl]
    refine congrArg (fun q => R.between q (-128) 127) ?_
    exact (mean_one _).symm

theorem pool_like2 (n s k : Int) (hz : PSz 4 5 n s) (hk : -128 ≤ k ∧ k ≤ 127) : ∃ u v : List Int, run (mPool 5 4 5 n s) [List.replicate 40 k] = [u] ∧ run (mPool 6 4 5 n s) [List.replicate 40 k] = [v] ∧ v.length = u.length ∧ u.length ≤ 40 ∧ ∀ i : Nat, i < u.length → get u i = k ∧ get v i = k := by
  obtain ⟨⟨n1, -, -, -⟩, -⟩ := psz_facts hz
  refine ⟨_, _, run_pool 5 4 5 n s _, run_pool 6 4 5 n s _, by rw [grid_length, grid_length], ?_, fun i hi => ?_⟩
  · rw [grid_length]
    rcases hz with ⟨-, -, rfl | rfl | rfl, rfl | rfl | rfl⟩ | ⟨h, -⟩
    all_goals first | decide | exact absurd h (by decide)
  · rw [grid_length] at hi
    rw [grid_get i (by omega), grid_get i (by omega)]
    have key : ∀ kind, kind = 5 ∨ kind = 6 → ∀ j : Nat, (j : Int) < n * n → poolAt (oPool kind 0 1 n s (-128) 127) (rPool 4 5 n s (List.replicate 40 k)) ((i : Int) / ((tMid ((4 - n) / s + 1) ((5 - n) / s + 1) 2 5).w * (tMid ((4 - n) / s + 1) ((5 - n) / s + 1) 2 5).c)) ((i : Int) / (tMid ((4 - n) / s + 1) ((5 - n) / s + 1) 2 5).c % (tMid ((4 - n) / s + 1) ((5 - n) / s + 1) 2 5).w) ((i : Int) % (tMid ((4 - n) / s + 1) ((5 - n) / s + 1) 2 5).c) j = k := by
      intro kind _ j hj
      show get (List.replicate 40 k) ((((i : Int) / (((5 - n) / s + 1) * 2) * s + (j : Int) / n) * 5 + ((i : Int) / 2 % ((5 - n) / s + 1) * s + (j : Int) % n)) * 2 + (i : Int) % 2) = k
      have hi2 : (i : Int) < ((4 - n) / s + 1) * ((5 - n) / s + 1) * 2 := by
        have : M.cellsOf (tMid ((4 - n) / s + 1) ((5 - n) / s + 1) 2 5) = ((4 - n) / s + 1) * ((5 - n) / s + 1) * 2 := rfl
        omega
      clear hi
      rcases hz with ⟨-, -, rfl | rfl | rfl, rfl | rfl | rfl⟩ | ⟨h, -⟩
      all_goals first
        | exact absurd h (by decide)
        | (simp only [Int.reduceSub, Int.reduceDiv, Int.reduceAdd, Int.reduceMul] at hi2 hj ⊢
           exact get_rep 40 k _ (by omega) (by omega))
    exact ⟨pool_like 5 n s k _ _ _ _ (.inl rfl) n1 hk (key 5 (.inl rfl)), pool_like 6 n s k _ _ _ _ (.inr rfl) n1 hk (key 6 (.inr rfl))⟩

theorem pool_one (y : List Int) (hl : y.length = 40) (hc : Cells y) : run (mPool 5 4 5 1 1) [y] = [y] := by
  rw [run_pool]
  refine congrArg (fun l => [l]) (get_ext (by rw [grid_length, hl]; decide) fun q hq => ?_)
  rw [grid_length] at hq
  rw [grid_get q (by omega), cell_max _ _ _ _ rfl]
  show R.between (get y ((((q : Int) / (5 * 2) * 1 + ((0 : Nat) : Int) / 1) * 5 + ((q : Int) / 2 % 5 * 1 + ((0 : Nat) : Int) % 1)) * 2 + (q : Int) % 2)) (-128) 127 = get y q
  rw [show ((((q : Int) / (5 * 2) * 1 + ((0 : Nat) : Int) / 1) * 5 + ((q : Int) / 2 % 5 * 1 + ((0 : Nat) : Int) % 1)) * 2 + (q : Int) % 2) = q by omega]
  exact between_id (get_cell hc _).1 (get_cell hc _).2

theorem pool_known : run (mPool 6 2 2 2 1) [[1, -1, 2, -2, 2, -2, 2, -2]] = [[2, -2]] ∧ run (mPool 6 2 2 2 1) [[0, 0, 1, -1, 0, 0, 1, -1]] = [[1, -1]] ∧ run (mPool 6 2 2 2 1) [[1, -1, 0, 0, 0, 0, 0, 0]] = [[0, 0]] := by decide +kernel

end D
end Go.Proofs.YtcnhfffgbamonaaGreat

/-
  The law Shape: what its walk needs.
-/
namespace Go.Proofs.YtcnhfffgbamonaaGreat
open Go.RowKit

theorem Tryz.info9 : (Tryz.prog.info? 9).map (fun i => (i.zero, i.size, i.bytes)) = some (some (.string ⟨#[]⟩), 1, 16) := by kernel_rfl
theorem Tryz.info74 : (Tryz.prog.info? 74).map (fun i => (i.zero, i.size, i.bytes)) = some (some (.pointer none), 1, 8) := by kernel_rfl

/-- The dice at the k-th scale; the scale; its bytes. -/
def sdie (x : Int) : Nat → Int
  | 0 => x
  | k + 1 => dnext (dnext (sdie x k))
theorem sdie_range {x : Int} (h0 : 0 ≤ x) (h1 : x < 2147483648) (k : Nat) : 0 ≤ sdie x k ∧ sdie x k < 2147483648 := by
  cases k with
  | zero => exact ⟨h0, h1⟩
  | succ k => exact dnext_range _
def ssc (x : Int) (k : Nat) : M.Sc := ⟨dmult (sdie x k), dshift (dnext (sdie x k)) + 7⟩
theorem ssc_ok (x : Int) (k : Nat) : D.SOk (ssc x k) := by
  have h1 := dmult_rg (sdie x k)
  have h2 := dshift_rg (dnext (sdie x k))
  exact ⟨h1.1, h1.2, by show -31 ≤ dshift _ + 7; omega, by show dshift _ + 7 ≤ 30; omega⟩
def sbytes (s : M.Sc) : List UInt8 := w4 s.mult ++ [b8 s.shift]
def sval (s : M.Sc) : Value := .string (S8 (sbytes s))
theorem svals_succ (x : Int) (k : Nat) : (List.range (k + 1)).map (fun j => sval (ssc x j)) = (List.range k).map (fun j => sval (ssc x j)) ++ [sval (ssc x k)] := by
  rw [List.range_succ, List.map_append]; rfl

theorem owns_get1 {w : World} {base : Nat} {e : TypeId} {n m c : Nat} {a : Option Addr} {xs : List Value} (h : w.ownsRow base e 1 (.slice a m c) n xs) (i : Nat) (hi : i < n) : ∃ g, a = some ⟨g, 0, none⟩ ∧ base ≤ g ∧ w.cell? ⟨g, i, none⟩ = xs[i]? := by
  obtain ⟨g, ha, hb, hn, hc⟩ := owns_some h (by omega)
  exact ⟨g, ha, hb, hc i (by omega)⟩

/-- A model stays where pointers are appended. -/
theorem Mm.aside {w w' : World} {b base n : Nat} {v : Value} {xs : List Value} {m : M.Md} (h : Mm w b m) (h2 : w.ownsRow base 74 1 v n xs) (hg : w.grownBy w' v.ownBlock) : Mm w' b m := by
  obtain ⟨i, ts, ops, nt, no, a, k, c, h1, h3, h4⟩ := h
  refine ⟨i, ts, ops, nt, no, a, k, c, ?_, owns_apart h3 h2 (by decide) hg, h4⟩
  rcases h2.2 with ⟨rfl, _⟩ | ⟨g, cap, cur, rfl, _, hh, _⟩
  · exact Blk.kept h1 hg (by simp [Value.ownBlock])
  · refine Blk.kept h1 hg ?_
    simp only [Value.ownBlock, ne_eq, Option.some.injEq]
    intro e
    subst e
    have h5 : w.heap[b]? = some (.cells _ 81 (0, 0)) := h1
    rw [h5] at hh
    simp at hh

/-- The outputs of a model, set: a list of them. -/
theorem outs_sets {q : World} {b n : Nat} {ts : List M.Tn} {os : List M.Op} {ov : Value} {m : M.Md} (h : MP q b ts os ov) (ht : m.tensors = ts) (ho : m.ops = os) (hn : m.outs.length = n) (hm : n ≤ 1000) (hi : D.Is m) (hs : sizeT ts ≤ 100000) (hl : os.length ≤ 100) :
    Mm ((q.setCell ⟨b, 4, none⟩ (.slice (some ⟨q.heap.size, 0, none⟩) n n)).alloc (.cells (m.outs.map (Value.int .i64)).toArray 3)) b m := by
  subst ht ho
  refine MP.done (Blk.alloc (Blk.set h 4 (.slice (some ⟨q.heap.size, 0, none⟩) n n)) (.cells (m.outs.map (Value.int .i64)).toArray 3)) ?_ hi hs hl (by omega)
  exact Ints.of_blk (Nat.zero_le _) hn (by unfold maxLen; omega) (by have e := Blk.new (q.setCell ⟨b, 4, none⟩ (.slice (some ⟨q.heap.size, 0, none⟩) n n)) 3 (m.outs.map (Value.int .i64)).toArray; rw [World.size_setCell] at e; exact e)

/-- Two lists, as a list of lists. -/
theorem two_list {q : World} {a a' : Option Addr} {n c n' c' : Nat} {l l' : List Int} (h : Ints q 0 (.slice a n c) l) (h' : Ints q 0 (.slice a' n' c') l') : Lists (q.alloc (.cells #[.slice a n c, .slice a' n' c'] 33)) 0 (.slice (some ⟨q.heap.size, 0, none⟩) 2 2) [l, l'] :=
  lists_of (Blk.new _ _ _) rfl rfl (by decide) fun j u v hu hv => by
    match j with
    | 0 =>
      injection hu with hu
      injection hv with hv
      subst hu
      subst hv
      exact ⟨_, _, _, rfl, h.kept0 (World.grownBy_alloc _ _ _)⟩
    | 1 =>
      injection hu with hu
      injection hv with hv
      subst hu
      subst hv
      exact ⟨_, _, _, rfl, h'.kept0 (World.grownBy_alloc _ _ _)⟩
    | j + 2 => simp at hu

/-- Two inputs. -/
theorem in_hold2 (m : M.Md) (l l' : List Int) (n n' : Nat) (h : D.lengths m = [(n : Int), (n' : Int)]) (hl : l.length = n) (hl' : l'.length = n') (hc : D.Cells l) (hc' : D.Cells l') : D.inputsHold m [l, l'] = true := by
  unfold D.inputsHold
  rw [h]
  simp only [List.map_cons, List.map_nil, List.all_cons, List.all_nil, Bool.and_true, Bool.and_eq_true, beq_iff_eq, List.all_eq_true]
  refine ⟨by rw [hl, hl'], fun v hv => ?_, fun v hv => ?_⟩
  · have := hc v hv
    unfold D.isCell
    simp; omega
  · have := hc' v hv
    unfold D.isCell
    simp; omega

/-- The two sums. -/
def sadd (z zo x : Int) : Nat → M.Md
  | 0 => D.mAdd z zo 0 1 (ssc x 0) (ssc x 1) (ssc x 2)
  | _ + 1 => D.mAdd z zo 1 0 (ssc x 1) (ssc x 0) (ssc x 2)
theorem sadd_is (z zo x : Int) (hz : -20 ≤ z ∧ z ≤ 20) (hzo : -20 ≤ zo ∧ zo ≤ 20) (k : Nat) : D.Is (sadd z zo x k) := by
  cases k with
  | zero => exact D.is_add z zo 0 1 _ _ _ (.inl ⟨rfl, rfl⟩) (by unfold D.ZOk; omega) (by unfold D.ZOk; omega) (by unfold D.ZOk; omega) (ssc_ok _ _) (ssc_ok _ _) (ssc_ok _ _)
  | succ k => exact D.is_add z zo 1 0 _ _ _ (.inr ⟨rfl, rfl⟩) (by unfold D.ZOk; omega) (by unfold D.ZOk; omega) (by unfold D.ZOk; omega) (ssc_ok _ _) (ssc_ok _ _) (ssc_ok _ _)

theorem sadd_way (z zo x : Int) (j : Nat) (hj : j < 2) : ∃ p q : Nat, (j = 0 ∧ p = 0 ∧ q = 1 ∨ j = 1 ∧ p = 1 ∧ q = 0) ∧ sadd z zo x j = D.mAdd z zo p q (ssc x p) (ssc x q) (ssc x 2) := by
  rcases (show j = 0 ∨ j = 1 by omega) with rfl | rfl
  · exact ⟨0, 1, .inl ⟨rfl, rfl, rfl⟩, rfl⟩
  · exact ⟨1, 0, .inr ⟨rfl, rfl, rfl⟩, rfl⟩

theorem own_add (a b : Int) (s t u : M.Sc) : ((S8 (sbytes s) ++ S8 (sbytes t)) ++ S8 (sbytes u)) ++ S8 [b8 (-128), b8 127] = S8 (ownBytes (D.oAdd a b 2 s t u (-128) 127)) := by
  rw [s8_app, s8_app, s8_app]; rfl

theorem run_same {z zo x : Int} (xs ys : List Int) : D.run (sadd z zo x 0) [xs, ys] = D.run (sadd z zo x 1) [xs, ys] := D.add_alike _ _ _ _ _ _ _

end Go.Proofs.YtcnhfffgbamonaaGreat

/-
  A region that draws its order: operations that only read, among them one that makes a block; a chain behind them (a call that writes). Walked once, in the order of the text.
-/
namespace Go.Proofs.YtcnhfffgbamonaaGreat
open Go

section
variable {P : Program} {ops : Array Oper} {md : Region.Mode} {C : World → Prop} {w0 w1 : World} {B : Nat}

/-- Operation i leaves v: number B in w0, leaving w1; any other in every world of the class, leaving it as it is. -/
def Y2 (P : Program) (ops : Array Oper) (C : World → Prop) (w0 w1 : World) (B i : Nat) (o : Oper) (v : Value) (a : Act) : Prop :=
  (i = B ∧ Region.wanted o (yielded ops a.tmps) = true ∧ (execOp a.eval o).run P w0 = .ok (.value v) w1) ∨
  (i ≠ B ∧ ((Region.wanted o (yielded ops a.tmps) = true ∧ ∀ w, C w → o.quietAt P a (fun _ => False) w v) ∨ (Region.wanted o (yielded ops a.tmps) = false ∧ v = undef)))

theorem Y2.of_same {i : Nat} {o : Oper} {v : Value} {a a' : Act} (hy : Y2 P ops C w0 w1 B i o v a) (he : execOp a'.eval o = execOp a.eval o)
    (hw : Region.wanted o (yielded ops a'.tmps) = Region.wanted o (yielded ops a.tmps)) : Y2 P ops C w0 w1 B i o v a' := by
  unfold Y2 Oper.quietAt at *
  rw [he, hw]
  exact hy

def tOp (P : Program) (ops : Array Oper) (C : World → Prop) (w0 w1 : World) (B i : Nat) (K : Act → Prop) (a : Act) : Prop :=
  ∃ o v, ops[i]? = some o ∧ Y2 P ops C w0 w1 B i o v a ∧ K (a.put o.dst v)

theorem tOp_mono {i : Nat} {a : Act} {K K' : Act → Prop} (h : ∀ a, K a → K' a) (hh : tOp P ops C w0 w1 B i K a) : tOp P ops C w0 w1 B i K' a := by
  obtain ⟨o, v, h1, h2, h3⟩ := hh
  exact ⟨o, v, h1, h2, h _ h3⟩

theorem tOp_put {i j : Nat} {oi oj : Oper} {v : Value} (hj : ops[j]? = some oj) (hap : oi.apart ops oj = true)
    (hsi : ∀ cs b, oi.op ≠ .select cs b) (hsj : ∀ cs b, oj.op ≠ .select cs b) {K : Act → Prop} {a : Act}
    (hy : Y2 P ops C w0 w1 B i oi v a) (h : tOp P ops C w0 w1 B j K (a.put oi.dst v)) :
    tOp P ops C w0 w1 B j (fun a' => Y2 P ops C w0 w1 B i oi v a' ∧ K (a'.put oi.dst v)) a := by
  obtain ⟨h1, h2, h3⟩ := Oper.apart_spec hap
  obtain ⟨o, u, ho, hu, hK⟩ := h
  have : o = oj := Option.some.inj (ho.symm.trans hj)
  subst this
  refine ⟨o, u, ho, hu.of_same (execOp_put o hsj a oi.dst v h1).symm (wanted_put o a oi.dst v h1).symm, hy.of_same (execOp_put oi hsi a o.dst u h3) (wanted_put oi a o.dst u h3), ?_⟩
  rw [← Act.put_comm a v u h2]
  exact hK

def wpAnyT (P : Program) (md : Region.Mode) (ops : Array Oper) (C : World → Prop) (w0 w1 : World) (B n : Nat) (L : Array Bool → Act → Prop) : Nat → Array Bool → Act → Prop
  | 0, listed, a => L listed a
  | f + 1, listed, a =>
    Region.ready md ops listed ≠ [] ∧ ∀ i ∈ Region.ready md ops listed, i < n ∧ tOp P ops C w0 w1 B i (wpAnyT P md ops C w0 w1 B n L f (listed.setIfInBounds i true)) a

theorem wpAnyT_first {n i : Nat} {oi : Oper} {v : Value} {L : Array Bool → Act → Prop} (hi : ops[i]? = some oi) (hsel : ∀ (j : Nat) (o : Oper) cs b, ops[j]? = some o → o.op ≠ .select cs b)
    (hs : Region.sinkB md ops n = true) (hc : Region.chainB md ops n = true) (hn : n < ops.size) (hin : i < n)
    (hdone : ∀ listed a, L listed a → ∀ j ∈ Region.ready md ops listed, n ≤ j) :
    ∀ (f : Nat) (listed : Array Bool) (a : Act), HeadInv md ops n listed →
      (∀ j oj, ops[j]? = some oj → j ≠ i → listed.getD j true = false → (∀ e ∈ oj.after, Region.binds md e = true → e.on ≠ i) → oi.apart ops oj = true) →
      i ∈ Region.ready md ops listed → Y2 P ops C w0 w1 B i oi v a →
      wpAnyT P md ops C w0 w1 B n L f (listed.setIfInBounds i true) (a.put oi.dst v) → wpAnyT P md ops C w0 w1 B n L (f + 1) listed a := by
  intro f
  induction f with
  | zero =>
    intro listed a inv _ hr hy H
    have hun := (mem_ready.1 hr).1
    refine ⟨fun h => (by rw [h] at hr; cases hr), fun j hj => ?_⟩
    have hjn : j < n := by
      rcases Nat.lt_or_ge j n with h | h
      · exact h
      · exact absurd hj (tail_waits hs hc hn inv _ i rfl hin hun j h)
    refine ⟨hjn, ?_⟩
    by_cases hji : j = i
    · subst hji; exact ⟨oi, v, hi, hy, H⟩
    · have := hdone _ _ H j (ready_mono hj hji)
      omega
  | succ f ih =>
    intro listed a inv hfree hr hy H
    have hun := (mem_ready.1 hr).1
    refine ⟨fun h => (by rw [h] at hr; cases hr), fun j hj => ?_⟩
    have hjn : j < n := by
      rcases Nat.lt_or_ge j n with h | h
      · exact h
      · exact absurd hj (tail_waits hs hc hn inv _ i rfl hin hun j h)
    refine ⟨hjn, ?_⟩
    by_cases hji : j = i
    · subst hji; exact ⟨oi, v, hi, hy, H⟩
    · have h1 := (H.2 j (ready_mono hj hji)).2
      obtain ⟨hjun, oj, hoj, hall⟩ := mem_ready.1 hj
      have hnot : ∀ e ∈ oj.after, Region.binds md e = true → e.on ≠ i := fun e he hb heq => by
        have h1 := hall e he hb
        rw [heq, getD_both hun] at h1
        cases h1
      have h2 := tOp_put hoj (hfree j oj hoj hji hjun hnot) (fun cs b => hsel i oi cs b hi) (fun cs b => hsel j oj cs b hoj) hy h1
      have hfree' : ∀ k ok, ops[k]? = some ok → k ≠ i → (listed.setIfInBounds j true).getD k true = false →
          (∀ e ∈ ok.after, Region.binds md e = true → e.on ≠ i) → oi.apart ops ok = true := fun k ok hk hki hun hno => by
        refine hfree k ok hk hki ?_ hno
        by_cases hjk : j = k
        · subst hjk; exact hjun
        · rw [getD_set_ne true hjk] at hun; exact hun
      refine tOp_mono (fun a' h3 => ih (listed.setIfInBounds j true) a' (inv.set hj hjn) hfree' (ready_mono hr (Ne.symm hji)) h3.1 ?_) h2
      rw [Array.setIfInBounds_comm _ _ hji]
      exact h3.2

/-- The walk in the order of the text. -/
def wpT (P : Program) (ops : Array Oper) (C : World → Prop) (w0 w1 : World) (B : Nat) (Q : Act → Prop) : List Oper → Nat → Act → Prop
  | [], _, a => Q a
  | o :: l, k, a => ∃ v, Y2 P ops C w0 w1 B k o v a ∧ wpT P ops C w0 w1 B Q l (k + 1) (a.put o.dst v)

theorem getD_set_self {listed : Array Bool} {i : Nat} (h : i < listed.size) : (listed.setIfInBounds i true).getD i false = true := by
  simp [h]

theorem wpAnyT_lex {n g : Nat} {Lq : Act → Prop} (hsel : Region.noSelect ops = true) (hs : Region.sinkB md ops n = true) (hc : Region.chainB md ops n = true) (hn : n < ops.size) (hBn : B < n) :
    ∀ (l : List Oper) (k : Nat) (listed : Array Bool) (a : Act), (∀ j, j < l.length → l[j]? = ops[k + j]?) → k + l.length = n → HeadInv md ops n listed → (B < k → listed.getD B false = true) →
    Region.lexHead md ops g l.length k listed = true → wpT P ops C w0 w1 B Lq l k a →
    wpAnyT P md ops C w0 w1 B n (fun listed' a' => Region.seqB md ops g n listed' = true ∧ listed'.getD B false = true ∧ Lq a') l.length listed a
  | [], k, listed, a, _, hk, _, hBk, hB, h => by
    have : k = n := by simpa using hk
    subst this
    exact ⟨by simpa [Region.lexHead] using hB, hBk hBn, h⟩
  | o :: l, k, listed, a, hl, hk, inv, hBk, hB, h => by
    have h0 : ops[k]? = some o := by simpa using (hl 0 (by simp)).symm
    simp only [List.length_cons, Region.lexHead, Bool.and_eq_true] at hB
    obtain ⟨⟨hr, hf⟩, hB'⟩ := hB
    have hkn : k < n := by simp only [List.length_cons] at hk; omega
    have hr' : k ∈ Region.ready md ops listed := by simpa using hr
    obtain ⟨v, hy, hK⟩ := h
    refine wpAnyT_first h0 (Region.noSelect_spec hsel) hs hc hn hkn (fun listed' a' hL => seqB_ready hL.1) l.length listed a inv (Region.free_spec h0 hf) hr' hy
      (wpAnyT_lex hsel hs hc hn hBn l (k + 1) _ _ (fun j hj => by have := hl (j + 1) (by simp; omega); simpa [Nat.add_assoc, Nat.add_comm 1 j] using this) (by simp only [List.length_cons] at hk; omega) (inv.set hr' hkn) (fun hb => ?_) hB' hK)
    by_cases e : k = B
    · subst e
      exact getD_set_self (by rw [inv.size]; omega)
    · exact getD_set_true (hBk (by omega))

theorem wpOp_of_tOp {i : Nat} {a : Act} {K : Act → Prop} {Q' : Exit → Act → World → Prop} {K' : Act → World → Prop} {w : World} (hC : C w) (hi : i ≠ B) (h : ∀ a, K a → K' a w) (hh : tOp P ops C w0 w1 B i K a) : wpOp P ops Q' i K' a w := by
  obtain ⟨o, v, ho, hy, hK⟩ := hh
  unfold wpOp
  simp only [ho]
  rcases hy with ⟨e, -⟩ | ⟨-, ⟨hw, hq⟩ | ⟨hw, rfl⟩⟩
  · exact absurd e hi
  · simp only [hw, if_true]
    have h3 := hq w hC
    unfold Oper.quietAt at h3
    refine .inl ?_
    unfold Oper.wp
    generalize (execOp a.eval o).run P w = r at *
    cases r with
    | ok m w' =>
      cases m <;> simp only [Oper.quietUpon] at h3 <;> simp only [Oper.upon]
      case value u =>
        obtain ⟨e1, e2⟩ := h3
        rw [e1, e2]
        exact h _ hK
      case skip =>
        obtain ⟨e1, e2⟩ := h3
        rw [e1, ← e2]
        exact h _ hK
      case enter f args =>
        obtain ⟨e1, hc⟩ := h3
        rw [e1]
        exact hc.mono fun e w'' ⟨_, hf⟩ => hf.elim
    | halt x w' => simp only [Oper.quietUpon] at h3
  · simp only [hw, Bool.false_eq_true, if_false]
    exact h _ hK

theorem wpAny_of_T {n g : Nat} {L : Array Bool → Act → Prop} {Q' : Exit → Act → World → Prop} (hBs : B < ops.size) (hC0 : C w0) (hC1 : C w1) (hL : ∀ listed a, L listed a → listed.getD B false = true ∧ wpAny P md ops Q' g listed a w1) :
    ∀ (f : Nat) (listed : Array Bool) (a : Act), listed.size = ops.size → wpAnyT P md ops C w0 w1 B n L f listed a → wpAny P md ops Q' (f + g) listed a (if listed.getD B false = true then w1 else w0)
  | 0, listed, a, _, h => by
    obtain ⟨h1, h2⟩ := hL _ _ h
    rw [Nat.zero_add, if_pos h1]
    exact h2
  | f + 1, listed, a, hz, h => by
    rw [show f + 1 + g = (f + g) + 1 by omega]
    refine ⟨fun h0 => absurd h0 h.1, fun i hi => ?_⟩
    have hun := (mem_ready.1 hi).1
    by_cases e : i = B
    · have e' := e.symm
      clear e
      subst e'
      rw [if_neg (by rw [getD_both hun]; simp)]
      obtain ⟨o, v, ho, hy, hK⟩ := (h.2 B hi).2
      rcases hy with ⟨-, hw, hr⟩ | ⟨e, -⟩
      · unfold wpOp
        simp only [ho, hw, if_true]
        refine .inl ?_
        unfold Oper.wp
        rw [hr]
        show wpAny P md ops Q' (f + g) (listed.setIfInBounds B true) (a.put o.dst v) w1
        have := wpAny_of_T hBs hC0 hC1 hL f _ _ (by simp [hz]) hK
        rw [if_pos (getD_set_self (by omega))] at this
        exact this
      · exact absurd rfl e
    · refine wpOp_of_tOp (C := C) ?_ e (fun a' h' => ?_) (h.2 i hi).2
      · split
        · exact hC1
        · exact hC0
      · have := wpAny_of_T hBs hC0 hC1 hL f _ a' (by simp [hz]) h'
        rw [getD_set_ne false e] at this
        exact this

/-- THE REGION. -/
theorem wp_region_build_tail {id : Nat} {Q : Exit → Act → World → Prop} {a : Act} {w : World} {l : List Oper} (B n : Nat) (C : World → Prop) (w1 : World) (hm : P.follows .mixedOrders = true) (hB : Region.lexTailB .any l.toArray n = true) (hBn : B < n) (hC0 : C { w with drawn := w.drawn + 1 }) (hC1 : C w1)
    (h : wpT P l.toArray C { w with drawn := w.drawn + 1 } w1 B (fun a' => wpList P l.toArray Q (l.drop n) a' w1) (l.take n) 0 a) : (Code.region id l.toArray true).wp P Q a w := by
  simp only [Region.lexTailB, Bool.and_eq_true, decide_eq_true_eq] at hB
  obtain ⟨⟨⟨⟨hsel, hn⟩, hs⟩, hc⟩, hlex⟩ := hB
  have hn' : n < l.length := by simpa using hn
  have htl : (l.take n).length = n := by simp; omega
  have hdl : (l.drop n).length = l.toArray.size - n := by simp
  have inv0 : HeadInv .any l.toArray n (Array.replicate l.toArray.size false) :=
    ⟨by simp, fun j oj _ hl => (by rw [getD_replicate_false] at hl; cases hl), fun t _ ht => getD_in (by simpa using ht) (getD_replicate_false _ _)⟩
  have H := wpAnyT_lex (md := .any) (g := l.toArray.size - n) hsel hs hc hn hBn (l.take n) 0 _ a (fun j hj => by
    have hj' : j < n := by rw [htl] at hj; exact hj
    simp [hj']) (by simpa using htl) inv0 (fun hb => by omega) (by rw [htl]; exact hlex) h
  refine wp_region_any hm ?_
  have := wpAny_of_T (Q' := Q) (g := l.toArray.size - n) (C := C) (by omega) hC0 hC1 (fun listed a' hL => ⟨hL.2.1, by
    have := wpAny_of_seq (md := .any) (Q' := Q) (l.drop n) n listed a' w1 (fun j => by simp [List.getElem?_drop]) (by rw [hdl]; exact hL.1) hL.2.2
    rwa [hdl] at this⟩) _ _ _ (by simp) H
  rw [htl, show n + (l.toArray.size - n) = l.toArray.size by omega, getD_replicate_false, if_neg (by simp)] at this
  exact this

/-- One operation of the walk, what follows behind a variable. -/
theorem wpT_step {Q : Act → Prop} {a : Act} {o : Oper} {rest : List Oper} {k : Nat} (hk : k ≠ B)
    (h : ∀ K : Act → Prop, (∀ a, wpT P ops C w0 w1 B Q rest (k + 1) a → K a) → if Region.wanted o (yielded ops a.tmps) then (∃ v, (∀ w, C w → o.quietAt P a (fun _ => False) w v) ∧ K (a.put o.dst v)) else K (a.put o.dst undef)) : wpT P ops C w0 w1 B Q (o :: rest) k a := by
  have h' := h _ (fun _ h => h)
  split at h'
  · rename_i hw
    obtain ⟨v, h1, h2⟩ := h'
    exact ⟨v, .inr ⟨hk, .inl ⟨hw, h1⟩⟩, h2⟩
  · rename_i hw
    exact ⟨undef, .inr ⟨hk, .inr ⟨by simpa using hw, rfl⟩⟩, h'⟩

/-- The one that makes a block. -/
theorem wpT_build {Q : Act → Prop} {a : Act} {o : Oper} {rest : List Oper} (v : Value) (hw : Region.wanted o (yielded ops a.tmps) = true) (hr : (execOp a.eval o).run P w0 = .ok (.value v) w1)
    (h : wpT P ops C w0 w1 B Q rest (B + 1) (a.put o.dst v)) : wpT P ops C w0 w1 B Q (o :: rest) B a :=
  ⟨v, .inl ⟨rfl, hw, hr⟩, h⟩

theorem wpT_nil {Q : Act → Prop} {a : Act} {k : Nat} (h : Q a) : wpT P ops C w0 w1 B Q [] k a := h
end

end Go.Proofs.YtcnhfffgbamonaaGreat
