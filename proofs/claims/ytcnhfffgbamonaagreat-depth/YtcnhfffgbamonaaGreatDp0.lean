/-
  The weights of Depth's other model, laid two by two.
-/
import Derived.Test.YtcnhfffgbamonaaGreatLa7
namespace Go.Proofs.YtcnhfffgbamonaaGreat
open Go.RowKit

theorem conv_at (W : World) (bk : Nat) (vs : List Int) (h : Blk W bk 5 (vs.map (fun v => Value.int .u8 (v % 256))).toArray) : (convert 41 9 (.slice (some ⟨bk, 0, none⟩) vs.length vs.length)).run Tryz.prog W = .ok (.string ⟨(vs.map b8).toArray⟩) W := by
  have e := run_convert_bytes_back (P := Tryz.prog) W 41 9 5 ⟨bk, 0, none⟩ vs.length (vs.map b8) Tryz.underlying41 Tryz.underlying5 Tryz.underlying9 (by
    intro j hj
    rw [add_zero_addr, h.cell j]
    simp at hj
    simp [hj, b8_toNat])
  simpa using e

def pList (ce : List Int) (t : Nat) : List Int := (List.range 24).map fun q => if q / 4 < t then (if q % 4 = 0 then D.get ce ((q / 4 * 2 : Nat) : Int) else if q % 4 = 3 then D.get ce ((q / 4 * 2 + 1 : Nat) : Int) else 0) else 0
def pArr (ce : List Int) (t : Nat) : Array Value := ((pList ce t).map (Value.int .i64)).toArray
theorem pList_len (ce : List Int) (t : Nat) : (pList ce t).length = 24 := by unfold pList; simp
theorem pArr_size (ce : List Int) (t : Nat) : (pArr ce t).size = 24 := by unfold pArr; simp [pList_len]
theorem pList_get (ce : List Int) (t q : Nat) (hq : q < 24) : (pList ce t)[q]? = some (if q / 4 < t then (if q % 4 = 0 then D.get ce ((q / 4 * 2 : Nat) : Int) else if q % 4 = 3 then D.get ce ((q / 4 * 2 + 1 : Nat) : Int) else 0) else 0) := by
  unfold pList; rw [List.getElem?_map, List.getElem?_range hq]; rfl
theorem pArr_zero (ce : List Int) : pArr ce 0 = (List.replicate 24 (Value.int .i64 0)).toArray := by
  unfold pArr pList
  simp only [Nat.not_lt_zero, if_false]
  rfl
theorem pArr_get (ce : List Int) (t j : Nat) (hj : j < 24) : ∃ v, (pArr ce t)[j]? = some (.int .i64 v) := by
  unfold pArr
  rw [List.getElem?_toArray, List.getElem?_map, pList_get ce t j hj]
  exact ⟨_, rfl⟩
theorem pArr_set {ce : List Int} {t : Nat} {u v : Int} (ht : t < 6) (hu : ce[2 * t]? = some u) (hv : ce[2 * t + 1]? = some v) : ((pArr ce t).setIfInBounds (4 * t) (.int .i64 u)).setIfInBounds (4 * t + 3) (.int .i64 v) = pArr ce (t + 1) := by
  have hg : D.get ce ((t * 2 : Nat) : Int) = u := by unfold D.get; rw [if_neg (by omega), Int.toNat_natCast, List.getD, Nat.mul_comm, hu]; rfl
  have hg2 : D.get ce ((t * 2 + 1 : Nat) : Int) = v := by unfold D.get; rw [if_neg (by omega), Int.toNat_natCast, List.getD, Nat.mul_comm, hv]; rfl
  apply Array.ext_getElem?
  intro q
  rw [Array.getElem?_setIfInBounds, Array.getElem?_setIfInBounds, Array.size_setIfInBounds, pArr_size]
  by_cases hq : q < 24
  · unfold pArr
    rw [List.getElem?_toArray, List.getElem?_toArray, List.getElem?_map, List.getElem?_map, pList_get ce t q hq, pList_get ce (t + 1) q hq]
    by_cases e3 : 4 * t + 3 = q
    · rw [if_pos e3, if_pos (by omega)]
      have h1 : q / 4 = t := by omega
      have h2 : q % 4 = 3 := by omega
      rw [h1, h2, if_pos (by omega), if_neg (by decide), if_pos rfl, hg2]; rfl
    · rw [if_neg e3]
      by_cases e0 : 4 * t = q
      · rw [if_pos e0, if_pos (by first | omega | (simp [pList_len]; omega))]
        have h1 : q / 4 = t := by omega
        have h2 : q % 4 = 0 := by omega
        rw [h1, h2, if_pos (by omega), if_pos rfl, hg]; rfl
      · rw [if_neg e0]
        by_cases c : q / 4 < t
        · rw [if_pos c, if_pos (show q / 4 < t + 1 by omega)]
        · rw [if_neg c]
          by_cases c2 : q / 4 < t + 1
          · have h1 : q / 4 = t := by omega
            have h2 : q % 4 ≠ 0 := by omega
            have h3 : q % 4 ≠ 3 := by omega
            rw [if_pos c2, if_neg h2, if_neg h3]
          · rw [if_neg c2]
  · rw [if_neg (by omega), if_neg (by omega), Array.getElem?_eq_none (by rw [pArr_size]; omega), Array.getElem?_eq_none (by rw [pArr_size]; omega)]
theorem pList_full (ce : List Int) : pList ce 6 = D.deepW ce := by
  unfold pList D.deepW
  apply List.map_congr_left
  intro q hq
  have hq := List.mem_range.mp hq
  rw [if_pos (show q / 4 < 6 by omega)]

end Go.Proofs.YtcnhfffgbamonaaGreat
