import Derived.Test.YtcnhfffgbamonaaGreatLa6
import Derived.StillTailTactics
/-
  The law Pool: a model of windows, as it is written.
-/
namespace Go.Proofs.YtcnhfffgbamonaaGreat
open Go.RowKit

def PSz (h v n s : Int) : Prop := (h = 4 ∧ v = 5 ∧ (n = 1 ∨ n = 2 ∨ n = 3) ∧ (s = 1 ∨ s = 2 ∨ s = 3)) ∨ (h = 2 ∧ v = 2 ∧ n = 2 ∧ s = 1)
theorem psz_facts {h v n s : Int} (hz : PSz h v n s) : (1 ≤ n ∧ n ≤ 3 ∧ 1 ≤ s ∧ s ≤ 3) ∧ (0 ≤ h - n ∧ h - n ≤ 4 ∧ 0 ≤ v - n ∧ v - n ≤ 4) ∧ (0 ≤ (h - n) / s ∧ (h - n) / s ≤ 4) ∧ (0 ≤ (v - n) / s ∧ (v - n) / s ≤ 4) ∧ Int.tdiv (h - n) s = (h - n) / s ∧ Int.tdiv (v - n) s = (v - n) / s := by
  rcases hz with ⟨rfl, rfl, rfl | rfl | rfl, rfl | rfl | rfl⟩ | ⟨rfl, rfl, rfl, rfl⟩ <;> decide

set_option maxRecDepth 100000 in
set_option maxHeartbeats 1000000 in
theorem pooled_c (k h v n s : Int) (hk : k = 5 ∨ k = 6) (hz : PSz h v n s) (w : World) :
    Calls Tryz.prog 59 #[.int .i64 k, .int .i64 h, .int .i64 v, .int .i64 n, .int .i64 s] w fun e w' => e = .returned (.pointer (some ⟨w.heap.size, 0, none⟩)) ∧ Mm w' w.heap.size (D.mPool k h v n s) ∧ w.grownBy w' none := by
  have HIS := hide (D.is_pool k h v n s hk hz)
  obtain ⟨⟨n1, n2, s1, s2⟩, ⟨h1, h2, v1, v2⟩, ⟨a1, a2⟩, ⟨b1, b2⟩, hd1, hd2⟩ := psz_facts hz
  have P0 := hide (MP.new w)
  have G0 := hide (World.grownBy_alloc w (.cells #[.string ⟨#[]⟩, .string ⟨#[]⟩, .int .i64 0, .int .i64 0, .slice none 0 0] 81) none)
  have hs0 : (s == 0) = false := by simp; omega
  have hw1 := hide (show IntKind.i64.wrap (h - n) = h - n by rw [IntKind.wrap_i64]; omega)
  have hw2 := hide (show IntKind.i64.wrap (v - n) = v - n by rw [IntKind.wrap_i64]; omega)
  have hw3 := hide (show IntKind.i64.wrap ((h - n) / s) = (h - n) / s by rw [IntKind.wrap_i64]; omega)
  have hw4 := hide (show IntKind.i64.wrap ((v - n) / s) = (v - n) / s by rw [IntKind.wrap_i64]; omega)
  have hw5 := hide (show IntKind.i64.wrap ((h - n) / s + 1) = (h - n) / s + 1 by rw [IntKind.wrap_i64]; omega)
  have hw6 := hide (show IntKind.i64.wrap ((v - n) / s + 1) = (v - n) / s + 1 by rw [IntKind.wrap_i64]; omega)
  have hsn := hide (show ¬ s = 0 by omega)
  have Hsn := hide (show S8 [b8 n, b8 s] ++ S8 [b8 (-128), b8 127] = S8 (ownBytes (D.oPool k 0 1 n s (-128) 127)) by
    rw [s8_app]; rcases hk with rfl | rfl <;> rfl)
  have Hins := hide (show insOf (D.oPool k 0 1 n s (-128) 127) = [0] by rcases hk with rfl | rfl <;> rfl)
  have Hol := hide (show (ownBytes (D.oPool k 0 1 n s (-128) 127)).length ≤ 1000 by rcases hk with rfl | rfl <;> (show 4 ≤ 1000; decide))
  clear hk hz
  go_enter Tryz.func59, Tryz.ntmps59
  go_wp2_with fail
  refine (mten w.heap.size [] [] _ (D.tIn h v 2 5) none 0 0 _ P0.out (Ints.nil _ _) (by decide) (show 0 ≤ 1000 by decide) (show 0 ≤ 1000 by decide)).mono ?_
  rintro e q1 ⟨rfl, hP, hg⟩
  have G1 := hide (gr_new G0.out hg (Nat.le_refl _))
  have P1 := hide hP
  clear hP hg P0 G0
  go_wp2_with fail
  go_still_tail 13, (by kernel_rfl)
  rw [hw1.out]
  refine wpStill_step (fun K hK => ?_)
  go_simp
  rw [if_neg hsn.out, hw3.out]
  refine ⟨rfl, hK _ ?_⟩
  clear hK K
  repeat still_step
  rw [hw5.out, hw2.out]
  refine wpStill_step (fun K hK => ?_)
  go_simp
  rw [if_neg hsn.out, hw4.out]
  refine ⟨rfl, hK _ ?_⟩
  clear hK K
  repeat still_step
  refine wpStill_nil ?_
  rw [hw6.out]
  go_wp2_with fail
  refine (mten w.heap.size [D.tIn h v 2 5] [] _ (D.tMid ((h - n) / s + 1) ((v - n) / s + 1) 2 5) none 0 0 _ (P1.out.kept (gr_drew _ none) (by simp)) (Ints.nil _ _) (show 5 ≤ 100000 by decide) (show 0 ≤ 1000 by decide) (show 1 ≤ 1000 by decide)).mono ?_
  rintro e q2 ⟨rfl, hP, hg⟩
  have G2 := hide (gr_new (gr_trans G1.out (gr_drew _ none)) hg (Nat.le_refl _))
  have P2 := hide hP
  clear hP hg P1 G1
  go_wp2_with fail
  refine (span_c (-128) 127 _).mono ?_
  rintro e q3 ⟨rfl, hg⟩
  have G3 := hide (gr_trans G2.out hg)
  have P3 := hide (P2.out.kept hg (by simp))
  clear hg P2 G2
  have hcv : (convert 41 9 (.slice (some ⟨q3.heap.size + 1, 0, none⟩) 2 2)).run Tryz.prog ((q3.alloc (.cells #[.int .i64 0] 3)).alloc (.cells #[.int .u8 n, .int .u8 s] 5)) = .ok (.string (S8 [b8 n, b8 s])) ((q3.alloc (.cells #[.int .i64 0] 3)).alloc (.cells #[.int .u8 n, .int .u8 s] 5)) := by
    have e : (convert 41 9 (.slice (some ⟨(q3.alloc (.cells #[.int .i64 0] 3)).heap.size, 0, none⟩) 2 2)).run Tryz.prog ((q3.alloc (.cells #[.int .i64 0] 3)).alloc (.cells #[.int .u8 (n % 256), .int .u8 (s % 256)] 5)) = .ok (.string (S8 [b8 n, b8 s])) ((q3.alloc (.cells #[.int .i64 0] 3)).alloc (.cells #[.int .u8 (n % 256), .int .u8 (s % 256)] 5)) := conv_list (q3.alloc (.cells #[.int .i64 0] 3)) [n, s]
    rw [World.size_alloc, show n % 256 = n by omega, show s % 256 = s by omega] at e
    exact e
  have T3 := hide ((P3.out.kept (World.grownBy_alloc q3 (.cells #[.int .i64 0] 3) none) (by simp)).kept (World.grownBy_alloc _ (.cells #[.int .u8 n, .int .u8 s] 5) none) (by simp))
  have J3 := hide (Ints.of_blk (base := 0) (xs := [0]) (n := 1) (Nat.zero_le _) rfl (by decide) ((Blk.new q3 3 #[.int .i64 0]).alloc (.cells #[.int .u8 n, .int .u8 s] 5)))
  have G4 := hide (gr_trans G3.out (gr_alloc2 q3 (.cells #[.int .i64 0] 3) (.cells #[.int .u8 n, .int .u8 s] 5) none))
  have hs1 : (S8 [b8 n, b8 s]).size = 2 := by rw [s8_size]; rfl
  have hs2 : (S8 [b8 (-128), b8 127]).size = 2 := by rw [s8_size]; rfl
  clear P3 G3
  go_wp2_with fail
  rw [Hsn.out]
  refine (mopr w.heap.size _ [] _ (D.oPool k 0 1 n s (-128) 127) _ (some ⟨q3.heap.size, 0, none⟩) 1 1 _ T3.out (fun o ho => absurd ho (by simp)) (by rw [Hins.out]; exact J3.out) rfl Hol.out (by decide)).mono ?_
  rintro e q5 ⟨rfl, hP, hg⟩
  have G5 := hide (gr_new G4.out hg (Nat.le_refl _))
  have e4 : q5.cell? ⟨w.heap.size, 4, none⟩ = some (.slice none 0 0) := Blk.cell hP 4
  have f4 := Blk.free hP 4
  have hlq : w.heap.size < q5.heap.size := hP.lt
  have MN := hide (outs_set (v := 1) (m := D.mPool k h v n s) hP rfl rfl rfl HIS.out (show 10 ≤ 100000 by decide) (show 1 ≤ 100 by decide))
  have GG := hide (gr_trans (gr_new G5.out (gr_set q5 w.heap.size 4 (.slice (some ⟨q5.heap.size, 0, none⟩) 1 1)) (Nat.le_refl _)) (World.grownBy_alloc _ (.cells #[.int .i64 1] 3) none))
  clear hP hg T3 J3 hs1 hs2 Hsn G4 G5 hcv
  go_wp2
  go_ret
  exact ⟨rfl, MN.out, GG.out⟩

end Go.Proofs.YtcnhfffgbamonaaGreat

/-
  The law Pool, in plain words: the greatest and the mean of windows.
-/
namespace Go.Proofs.YtcnhfffgbamonaaGreat
/-- A whole row, as a block. -/
theorem pints_blk {w : World} {B g n : Nat} {l : List Int} (h : Ints w B (.slice (some ⟨g, 0, none⟩) n n) l) : Blk w g 3 (l.map (Value.int .i64)).toArray := by
  have hn := h.len
  subst hn
  rcases h.2 with ⟨h', _⟩ | ⟨g', cap', cur, h', _, hg, _, _, hz, ht⟩
  · simp at h'
  · simp only [Value.slice.injEq, Option.some.injEq, Addr.mk.injEq, and_true, true_and] at h'
    obtain ⟨rfl, rfl⟩ := h'
    unfold Blk
    rw [hg]
    have e : cur.toList = l.map (Value.int .i64) := by
      rw [List.take_of_length_le (by simp [hz])] at ht
      exact ht
    rw [← e]

/-- One list of cells that are written out, as a list of lists. -/
theorem lit_list (q : World) (l : List Int) (n : Nat) (hn : l.length = n) (hm : n ≤ maxLen) : Lists ((q.alloc (.cells (l.map (Value.int .i64)).toArray 3)).alloc (.cells #[.slice (some ⟨q.heap.size, 0, none⟩) n n] 33)) 0 (.slice (some ⟨q.heap.size + 1, 0, none⟩) 1 1) [l] :=
  lists_of (Blk.new1 _ _ _ _) rfl rfl (by decide) fun j u v hu hv => by
    match j with
    | 0 =>
      injection hu with hu
      injection hv with hv
      subst hu
      subst hv
      exact ⟨_, _, _, rfl, (Ints.of_blk (xs := l) (Nat.zero_le _) hn hm ((Blk.new q 3 _).alloc _))⟩
    | j + 1 => simp at hu

theorem fill_step (xs : List Int) (v : Int) (k : Nat) (h : k < xs.length) : (((List.replicate k v ++ xs.drop k).map (Value.int .i64)).toArray).setIfInBounds k (.int .i64 v) = ((List.replicate (k + 1) v ++ xs.drop (k + 1)).map (Value.int .i64)).toArray := by
  apply Array.ext'
  rw [Array.toList_setIfInBounds]
  show ((List.replicate k v ++ xs.drop k).map (Value.int .i64)).set k (.int .i64 v) = (List.replicate (k + 1) v ++ xs.drop (k + 1)).map (Value.int .i64)
  rw [← List.map_set]
  refine congrArg (List.map (Value.int .i64)) ?_
  rw [List.set_append_right _ _ (by simp), List.length_replicate, Nat.sub_self, List.drop_eq_getElem_cons h, List.set_cons_zero, List.replicate_succ']
  simp

namespace D

theorem get_some {l : List Int} {i : Nat} {v : Int} (h : l[i]? = some v) : get l i = v := by
  unfold get
  rw [if_neg (by omega), Int.toNat_natCast, List.getD, h]
  rfl
theorem some_get {l : List Int} {i : Nat} (h : i < l.length) : l[i]? = some (get l i) := by
  rw [List.getElem?_eq_getElem h, get_some (List.getElem?_eq_getElem h)]
theorem get_rep (n : Nat) (v j : Int) (h0 : 0 ≤ j) (h1 : j < n) : get (List.replicate n v) j = v := by
  obtain ⟨i, rfl⟩ := Int.eq_ofNat_of_zero_le h0
  exact get_some (by rw [List.getElem?_replicate, if_pos (by omega)])

theorem mean_one (f : Int) : mean (0 + f) (1 * 1) = f := by
  unfold mean
  split <;> omega

theorem pool_run2 (n s : Int) (hz : PSz 4 5 n s) (x : List Int) : ∃ u v : List Int, run (mPool 5 4 5 n s) [x] = [u] ∧ run (mPool 6 4 5 n s) [x] = [v] ∧ v.length = u.length ∧ u.length ≤ 40 ∧ ∀ i : Nat, i < u.length → get v i ≤ get u i ∧ (n = 1 → get u i = get v i) := by
  obtain ⟨⟨n1, -, -, -⟩, -⟩ := psz_facts hz
  refine ⟨_, _, run_pool 5 4 5 n s x, run_pool 6 4 5 n s x, by rw [grid_length, grid_length], ?_, fun i hi => ?_⟩
  · rw [grid_length]
    rcases hz with ⟨-, -, rfl | rfl | rfl, rfl | rfl | rfl⟩ | ⟨h, -⟩
    all_goals first | decide | exact absurd h (by decide)
  · rw [grid_length] at hi
    rw [grid_get i (by omega), grid_get i (by omega)]
    refine ⟨pool_le n s _ _ _ _ n1, fun h1 => ?_⟩
    subst h1
    rw [cell_max (o := oPool 5 0 1 1 s (-128) 127) _ _ _ _ rfl, cell_avg (o := oPool 6 0 1 1 s (-128) 127) _ _ _ _ rfl]
    refine congrArg (fun q => R.between q (-128) 127) ?_
    exact (mean_one _).symm

theorem pool_like2 (n s k : Int) (hz : PSz 4 5 n s) (hk : -128 ≤ k ∧ k ≤ 127) : ∃ u v : List Int, run (mPool 5 4 5 n s) [List.replicate 40 k] = [u] ∧ run (mPool 6 4 5 n s) [List.replicate 40 k] = [v] ∧ v.length = u.length ∧ u.length ≤ 40 ∧ ∀ i : Nat, i < u.length → get u i = k ∧ get v i = k := by
  obtain ⟨⟨n1, -, -, -⟩, -⟩ := psz_facts hz
  refine ⟨_, _, run_pool 5 4 5 n s _, run_pool 6 4 5 n s _, by rw [grid_length, grid_length], ?_, fun i hi => ?_⟩
  · rw [grid_length]
    rcases hz with ⟨-, -, rfl | rfl | rfl, rfl | rfl | rfl⟩ | ⟨h, -⟩
    all_goals first | decide | exact absurd h (by decide)
  · rw [grid_length] at hi
    rw [grid_get i (by omega), grid_get i (by omega)]
    have key : ∀ kind, kind = 5 ∨ kind = 6 → ∀ j : Nat, (j : Int) < n * n → poolAt (oPool kind 0 1 n s (-128) 127) (rPool 4 5 n s (List.replicate 40 k)) ((i : Int) / ((tMid ((4 - n) / s + 1) ((5 - n) / s + 1) 2 5).w * (tMid ((4 - n) / s + 1) ((5 - n) / s + 1) 2 5).c)) ((i : Int) / (tMid ((4 - n) / s + 1) ((5 - n) / s + 1) 2 5).c % (tMid ((4 - n) / s + 1) ((5 - n) / s + 1) 2 5).w) ((i : Int) % (tMid ((4 - n) / s + 1) ((5 - n) / s + 1) 2 5).c) j = k := by
      intro kind _ j hj
      show get (List.replicate 40 k) ((((i : Int) / (((5 - n) / s + 1) * 2) * s + (j : Int) / n) * 5 + ((i : Int) / 2 % ((5 - n) / s + 1) * s + (j : Int) % n)) * 2 + (i : Int) % 2) = k
      have hi2 : (i : Int) < ((4 - n) / s + 1) * ((5 - n) / s + 1) * 2 := by
        have : M.cellsOf (tMid ((4 - n) / s + 1) ((5 - n) / s + 1) 2 5) = ((4 - n) / s + 1) * ((5 - n) / s + 1) * 2 := rfl
        omega
      clear hi
      rcases hz with ⟨-, -, rfl | rfl | rfl, rfl | rfl | rfl⟩ | ⟨h, -⟩
      all_goals first
        | exact absurd h (by decide)
        | (simp only [Int.reduceSub, Int.reduceDiv, Int.reduceAdd, Int.reduceMul] at hi2 hj ⊢
           exact get_rep 40 k _ (by omega) (by omega))
    exact ⟨pool_like 5 n s k _ _ _ _ (.inl rfl) n1 hk (key 5 (.inl rfl)), pool_like 6 n s k _ _ _ _ (.inr rfl) n1 hk (key 6 (.inr rfl))⟩

theorem pool_one (y : List Int) (hl : y.length = 40) (hc : Cells y) : run (mPool 5 4 5 1 1) [y] = [y] := by
  rw [run_pool]
  refine congrArg (fun l => [l]) (get_ext (by rw [grid_length, hl]; decide) fun q hq => ?_)
  rw [grid_length] at hq
  rw [grid_get q (by omega), cell_max _ _ _ _ rfl]
  show R.between (get y ((((q : Int) / (5 * 2) * 1 + ((0 : Nat) : Int) / 1) * 5 + ((q : Int) / 2 % 5 * 1 + ((0 : Nat) : Int) % 1)) * 2 + (q : Int) % 2)) (-128) 127 = get y q
  rw [show ((((q : Int) / (5 * 2) * 1 + ((0 : Nat) : Int) / 1) * 5 + ((q : Int) / 2 % 5 * 1 + ((0 : Nat) : Int) % 1)) * 2 + (q : Int) % 2) = q by omega]
  exact between_id (get_cell hc _).1 (get_cell hc _).2

theorem pool_known : run (mPool 6 2 2 2 1) [[1, -1, 2, -2, 2, -2, 2, -2]] = [[2, -2]] ∧ run (mPool 6 2 2 2 1) [[0, 0, 1, -1, 0, 0, 1, -1]] = [[1, -1]] ∧ run (mPool 6 2 2 2 1) [[1, -1, 0, 0, 0, 0, 0, 0]] = [[0, 0]] := by decide +kernel

end D
end Go.Proofs.YtcnhfffgbamonaaGreat
