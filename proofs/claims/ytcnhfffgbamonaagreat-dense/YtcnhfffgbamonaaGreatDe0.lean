/-
  The weights of Dense, laid one by one.
-/
import Derived.Test.YtcnhfffgbamonaaGreatLa6
namespace Go.Proofs.YtcnhfffgbamonaaGreat
open Go.RowKit

/-- From where cell q of the new weights comes. -/
def dSrc (q : Nat) : Nat := q % 12 / 3 * 6 + q / 12 * 3 + q % 3
/-- Whereto the s-th of the old goes. -/
def dDst (s : Nat) : Nat := s / 3 % 2 * 12 + s / 6 * 3 + s % 3
theorem dSrc_dst : ∀ s, s < 24 → dDst s < 24 ∧ ∀ q, q < 24 → (dSrc q = s ↔ q = dDst s) := by decide +kernel
def dList (ce : List Int) (t : Nat) : List Int := (List.range 24).map fun q => if dSrc q < t then D.get ce (dSrc q : Nat) else 0
def dArr (ce : List Int) (t : Nat) : Array Value := ((dList ce t).map (Value.int .i64)).toArray
theorem dList_len (ce : List Int) (t : Nat) : (dList ce t).length = 24 := by unfold dList; simp
theorem dArr_size (ce : List Int) (t : Nat) : (dArr ce t).size = 24 := by unfold dArr; simp [dList_len]
theorem dList_get (ce : List Int) (t q : Nat) (hq : q < 24) : (dList ce t)[q]? = some (if dSrc q < t then D.get ce (dSrc q : Nat) else 0) := by
  unfold dList; rw [List.getElem?_map, List.getElem?_range hq]; rfl
theorem dArr_zero (ce : List Int) : dArr ce 0 = (List.replicate 24 (Value.int .i64 0)).toArray := by
  unfold dArr dList
  simp only [Nat.not_lt_zero, if_false]
  rfl
theorem dArr_get (ce : List Int) (t j : Nat) (hj : j < 24) : ∃ v, (dArr ce t)[j]? = some (.int .i64 v) := by
  unfold dArr
  rw [List.getElem?_toArray, List.getElem?_map, dList_get ce t j hj]
  exact ⟨_, rfl⟩
theorem dArr_set {ce : List Int} {s : Nat} {v : Int} (hs : s < 24) (hv : ce[s]? = some v) : (dArr ce s).setIfInBounds (dDst s) (.int .i64 v) = dArr ce (s + 1) := by
  obtain ⟨h1, h2⟩ := dSrc_dst s hs
  have hg : D.get ce (s : Nat) = v := by unfold D.get; rw [if_neg (by omega), Int.toNat_natCast, List.getD, hv]; rfl
  apply Array.ext_getElem?
  intro q
  rw [Array.getElem?_setIfInBounds]
  by_cases hq : q < 24
  · unfold dArr
    rw [List.getElem?_toArray, List.getElem?_toArray, List.getElem?_map, List.getElem?_map, dList_get ce s q hq, dList_get ce (s + 1) q hq]
    by_cases e : dDst s = q
    · rw [if_pos e, if_pos (by simp [dList_len]; omega)]
      have es : dSrc q = s := (h2 q hq).mpr e.symm
      rw [if_pos (show dSrc q < s + 1 by omega), es, hg]; rfl
    · rw [if_neg e]
      have es : dSrc q ≠ s := fun h => e ((h2 q hq).mp h).symm
      by_cases c : dSrc q < s
      · rw [if_pos c, if_pos (by omega)]
      · rw [if_neg c, if_neg (by omega)]
  · rw [if_neg (by omega), Array.getElem?_eq_none (by rw [dArr_size]; omega), Array.getElem?_eq_none (by rw [dArr_size]; omega)]
theorem dList_full (ce : List Int) : dList ce 24 = D.denseW ce := by
  unfold dList D.denseW
  apply List.map_congr_left
  intro q hq
  have hq := List.mem_range.mp hq
  have : dSrc q < 24 := by unfold dSrc; omega
  rw [if_pos this]
  rfl

end Go.Proofs.YtcnhfffgbamonaaGreat
