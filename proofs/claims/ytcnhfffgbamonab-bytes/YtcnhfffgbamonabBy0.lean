/-
  What stands ahead of bytes.
-/
import Derived.Test.YtcnhfffgbamonabIn0
namespace Go.Proofs.Ytcnhfffgbamonab
open Go.RowKit

theorem pre_less (s : ByteArray) : M.Pre (s.extract 0 (s.size - 1)) s := by
  have hd : (s.extract 0 (s.size - 1)).data.toList = s.data.toList.take (s.size - 1) := by rw [Lib.extract_data]; simp
  have hl : s.data.toList.length = s.size := Array.length_toList
  obtain ⟨p, hp⟩ : ∃ p, s.extract 0 (s.size - 1) = p := ⟨_, rfl⟩
  rw [hp] at hd ⊢
  have hz : p.size = s.size - 1 := by
    have h1 : p.data.toList.length = p.size := Array.length_toList
    rw [← h1, hd, List.length_take]
    omega
  refine ⟨by omega, fun i hi => ?_, fun h4 => ?_⟩
  · unfold M.bt
    rw [hd, List.getD, List.getD, List.getElem?_take, if_pos (by omega)]
  · rw [hd, List.take_take, Nat.min_eq_left (by omega)]
theorem pre_more (s t : ByteArray) : M.Pre s (s ++ t) := by
  have hd : (s ++ t).data.toList = s.data.toList ++ t.data.toList := by rw [ByteArray.data_append]; simp
  have hz : (s ++ t).size = s.size + t.size := by simp
  have hl : s.data.toList.length = s.size := Array.length_toList
  refine ⟨by omega, fun i hi => ?_, fun h4 => ?_⟩
  · unfold M.bt
    rw [hd, List.getD, List.getD, List.getElem?_append_left (by omega)]
  · rw [hd, List.take_append_of_le_length (by omega)]

end Go.Proofs.Ytcnhfffgbamonab
