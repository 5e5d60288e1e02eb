/-
  The law Pool, in plain words: the greatest and the mean of windows.
-/
import Derived.Test.YthfbllgbljimiaaPo0
namespace Go.Proofs.Ythfbllgbljimiaa
/-- A whole row, as a block. -/
theorem pints_blk {w : World} {B g n : Nat} {l : List Int} (h : Ints w B (.slice (some ⟨g, 0, none⟩) n n) l) : Blk w g 3 (l.map (Value.int .i64)).toArray := by
  have hn := h.len
  subst hn
  rcases h.2 with ⟨h', _⟩ | ⟨g', cap', cur, h', _, hg, _, _, hz, ht⟩
  · simp at h'
  · simp only [Value.slice.injEq, Option.some.injEq, Addr.mk.injEq, and_true, true_and] at h'
    obtain ⟨rfl, rfl⟩ := h'
    unfold Blk
    rw [hg]
    have e : cur.toList = l.map (Value.int .i64) := by
      rw [List.take_of_length_le (by simp [hz])] at ht
      exact ht
    rw [← e]

/-- One list of cells that are written out, as a list of lists. -/
theorem lit_list (q : World) (l : List Int) (n : Nat) (hn : l.length = n) (hm : n ≤ maxLen) : Lists ((q.alloc (.cells (l.map (Value.int .i64)).toArray 3)).alloc (.cells #[.slice (some ⟨q.heap.size, 0, none⟩) n n] 35)) 0 (.slice (some ⟨q.heap.size + 1, 0, none⟩) 1 1) [l] :=
  lists_of (Blk.new1 _ _ _ _) rfl rfl (by decide) fun j u v hu hv => by
    match j with
    | 0 =>
      injection hu with hu
      injection hv with hv
      subst hu
      subst hv
      exact ⟨_, _, _, rfl, (Ints.of_blk (xs := l) (Nat.zero_le _) hn hm ((Blk.new q 3 _).alloc _))⟩
    | j + 1 => simp at hu

theorem fill_step (xs : List Int) (v : Int) (k : Nat) (h : k < xs.length) : (((List.replicate k v ++ xs.drop k).map (Value.int .i64)).toArray).setIfInBounds k (.int .i64 v) = ((List.replicate (k + 1) v ++ xs.drop (k + 1)).map (Value.int .i64)).toArray := by
  apply Array.ext'
  rw [Array.toList_setIfInBounds]
  show ((List.replicate k v ++ xs.drop k).map (Value.int .i64)).set k (.int .i64 v) = (List.replicate (k + 1) v ++ xs.drop (k + 1)).map (Value.int .i64)
  rw [← List.map_set]
  refine congrArg (List.map (Value.int .i64)) ?_
  rw [List.set_append_right _ _ (by simp), List.length_replicate, Nat.sub_self, List.drop_eq_getElem_cons h, List.set_cons_zero, List.replicate_succ']
  simp

namespace D

theorem get_some {l : List Int} {i : Nat} {v : Int} (h : l[i]? = some v) : get l i = v := by
  unfold get
  rw [if_neg (by omega), Int.toNat_natCast, List.getD, h]
  rfl
theorem some_get {l : List Int} {i : Nat} (h : i < l.length) : l[i]? = some (get l i) := by
  rw [List.getElem?_eq_getElem h, get_some (List.getElem?_eq_getElem h)]
theorem get_rep (n : Nat) (v j : Int) (h0 : 0 ≤ j) (h1 : j < n) : get (List.replicate n v) j = v := by
  obtain ⟨i, rfl⟩ := Int.eq_ofNat_of_zero_le h0
  exact get_some (by rw [List.getElem?_replicate, if_pos (by omega)])

theorem mean_one (f : Int) : mean (0 + f) (1 * 1) = f := by
  unfold mean
  split <;> omega

theorem pool_run2 (n s : Int) (hz : PSz 4 5 n s) (x : List Int) : ∃ u v : List Int, run (mPool 5 4 5 n s) [x] = [u] ∧ run (mPool 6 4 5 n s) [x] = [v] ∧ v.length = u.length ∧ u.length ≤ 40 ∧ ∀ i : Nat, i < u.length → get v i ≤ get u i ∧ (n = 1 → get u i = get v i) := by
  obtain ⟨⟨n1, -, -, -⟩, -⟩ := psz_facts hz
  refine ⟨_, _, run_pool 5 4 5 n s x, run_pool 6 4 5 n s x, by rw [grid_length, grid_length], ?_, fun i hi => ?_⟩
  · rw [grid_length]
    rcases hz with ⟨-, -, rfl | rfl | rfl, rfl | rfl | rfl⟩ | ⟨h, -⟩
    all_goals first | decide | exact absurd h (by decide)
  · rw [grid_length] at hi
    rw [grid_get i (by omega), grid_get i (by omega)]
    refine ⟨pool_le n s _ _ _ _ n1, fun h1 => ?_⟩
    subst h1
    rw [cell_max (o := oPool 5 0 1 1 s (-128) 127) _ _ _ _ rfl, cell_avg (o := oPool 6 0 1 1 s (-128) 127) _ _ _ _ rfl]
    refine congrArg (fun q => R.between q (-128) 127) ?_
    exact (mean_one _).symm

theorem pool_like2 (n s k : Int) (hz : PSz 4 5 n s) (hk : -128 ≤ k ∧ k ≤ 127) : ∃ u v : List Int, run (mPool 5 4 5 n s) [List.replicate 40 k] = [u] ∧ run (mPool 6 4 5 n s) [List.replicate 40 k] = [v] ∧ v.length = u.length ∧ u.length ≤ 40 ∧ ∀ i : Nat, i < u.length → get u i = k ∧ get v i = k := by
  obtain ⟨⟨n1, -, -, -⟩, -⟩ := psz_facts hz
  refine ⟨_, _, run_pool 5 4 5 n s _, run_pool 6 4 5 n s _, by rw [grid_length, grid_length], ?_, fun i hi => ?_⟩
  · rw [grid_length]
    rcases hz with ⟨-, -, rfl | rfl | rfl, rfl | rfl | rfl⟩ | ⟨h, -⟩
    all_goals first | decide | exact absurd h (by decide)
  · rw [grid_length] at hi
    rw [grid_get i (by omega), grid_get i (by omega)]
    have key : ∀ kind, kind = 5 ∨ kind = 6 → ∀ j : Nat, (j : Int) < n * n → poolAt (oPool kind 0 1 n s (-128) 127) (rPool 4 5 n s (List.replicate 40 k)) ((i : Int) / ((tMid ((4 - n) / s + 1) ((5 - n) / s + 1) 2 5).w * (tMid ((4 - n) / s + 1) ((5 - n) / s + 1) 2 5).c)) ((i : Int) / (tMid ((4 - n) / s + 1) ((5 - n) / s + 1) 2 5).c % (tMid ((4 - n) / s + 1) ((5 - n) / s + 1) 2 5).w) ((i : Int) % (tMid ((4 - n) / s + 1) ((5 - n) / s + 1) 2 5).c) j = k := by
      intro kind _ j hj
      show get (List.replicate 40 k) ((((i : Int) / (((5 - n) / s + 1) * 2) * s + (j : Int) / n) * 5 + ((i : Int) / 2 % ((5 - n) / s + 1) * s + (j : Int) % n)) * 2 + (i : Int) % 2) = k
      have hi2 : (i : Int) < ((4 - n) / s + 1) * ((5 - n) / s + 1) * 2 := by
        have : M.cellsOf (tMid ((4 - n) / s + 1) ((5 - n) / s + 1) 2 5) = ((4 - n) / s + 1) * ((5 - n) / s + 1) * 2 := rfl
        omega
      clear hi
      rcases hz with ⟨-, -, rfl | rfl | rfl, rfl | rfl | rfl⟩ | ⟨h, -⟩
      all_goals first
        | exact absurd h (by decide)
        | (simp only [Int.reduceSub, Int.reduceDiv, Int.reduceAdd, Int.reduceMul] at hi2 hj ⊢
           exact get_rep 40 k _ (by omega) (by omega))
    exact ⟨pool_like 5 n s k _ _ _ _ (.inl rfl) n1 hk (key 5 (.inl rfl)), pool_like 6 n s k _ _ _ _ (.inr rfl) n1 hk (key 6 (.inr rfl))⟩

theorem pool_one (y : List Int) (hl : y.length = 40) (hc : Cells y) : run (mPool 5 4 5 1 1) [y] = [y] := by
  rw [run_pool]
  refine congrArg (fun l => [l]) (get_ext (by rw [grid_length, hl]; decide) fun q hq => ?_)
  rw [grid_length] at hq
  rw [grid_get q (by omega), cell_max _ _ _ _ rfl]
  show R.between (get y ((((q : Int) / (5 * 2) * 1 + ((0 : Nat) : Int) / 1) * 5 + ((q : Int) / 2 % 5 * 1 + ((0 : Nat) : Int) % 1)) * 2 + (q : Int) % 2)) (-128) 127 = get y q
  rw [show ((((q : Int) / (5 * 2) * 1 + ((0 : Nat) : Int) / 1) * 5 + ((q : Int) / 2 % 5 * 1 + ((0 : Nat) : Int) % 1)) * 2 + (q : Int) % 2) = q by omega]
  exact between_id (get_cell hc _).1 (get_cell hc _).2

theorem pool_known : run (mPool 6 2 2 2 1) [[1, -1, 2, -2, 2, -2, 2, -2]] = [[2, -2]] ∧ run (mPool 6 2 2 2 1) [[0, 0, 1, -1, 0, 0, 1, -1]] = [[1, -1]] ∧ run (mPool 6 2 2 2 1) [[1, -1, 0, 0, 0, 0, 0, 0]] = [[0, 0]] := by decide +kernel

end D
end Go.Proofs.Ythfbllgbljimiaa
