/-
  What a plan tells of its inputs: Inputs, Length. What stands ahead of bytes.
-/
import Derived.Test.YthfbllgbljimiabIn0
namespace Go.Proofs.Ythfbllgbljimiab
open Go.RowKit

set_option maxHeartbeats 400000 in
theorem pinputs_c (p : Nat) (md : M.Md) (w : World) (hP : Pl w p md) :
    Calls Try.prog 25 #[.pointer (some ⟨p, 0, none⟩)] w fun e w' => e = .returned (.int .i64 (lensOf md.tensors).length) ∧ w' = w := by
  obtain ⟨m, av, cv, hB, hL, -, hW⟩ := hP
  have d0 : w.cell? ⟨p, 1, none⟩ = some (.slice av (lensOf md.tensors).length cv) := hB.cell 1
  clear hB hL hW
  go_enter Try.func25, Try.ntmps25
  go_wp2
  go_ret
  exact ⟨rfl, rfl⟩

set_option maxHeartbeats 400000 in
theorem plength_c (p i : Nat) (x : Int) (md : M.Md) (w : World) (hP : Pl w p md) (hx : (lensOf md.tensors)[i]? = some x) :
    Calls Try.prog 26 #[.pointer (some ⟨p, 0, none⟩), .int .i64 i] w fun e w' => e = .returned (.int .i64 x) ∧ ∃ n, w' = w.drewN n := by
  obtain ⟨m, av, cv, hB, hL, -, hW⟩ := hP
  have hlt : i < (lensOf md.tensors).length := by
    rcases Nat.lt_or_ge i (lensOf md.tensors).length with h' | h'
    · exact h'
    · rw [List.getElem?_eq_none h'] at hx; exact absurd hx (by simp)
  have hn := lens_le md.tensors
  have hnt := hW.nt
  have d0 : w.cell? ⟨p, 1, none⟩ = some (.slice av (lensOf md.tensors).length cv) := hB.cell 1
  obtain ⟨g, rfl, -, -, d1⟩ := hL.get i x hx
  clear hB hL hW hx
  go_enter Try.func26, Try.ntmps26
  go_wp2
  go_ret
  exact ⟨rfl, 0, rfl⟩

theorem pre_less (s : ByteArray) : M.Pre (s.extract 0 (s.size - 1)) s := by
  have hd : (s.extract 0 (s.size - 1)).data.toList = s.data.toList.take (s.size - 1) := by rw [Lib.extract_data]; simp
  have hl : s.data.toList.length = s.size := Array.length_toList
  obtain ⟨p, hp⟩ : ∃ p, s.extract 0 (s.size - 1) = p := ⟨_, rfl⟩
  rw [hp] at hd ⊢
  have hz : p.size = s.size - 1 := by
    have h1 : p.data.toList.length = p.size := Array.length_toList
    rw [← h1, hd, List.length_take]
    omega
  refine ⟨by omega, fun i hi => ?_, fun h4 => ?_⟩
  · unfold M.bt
    rw [hd, List.getD, List.getD, List.getElem?_take, if_pos (by omega)]
  · rw [hd, List.take_take, Nat.min_eq_left (by omega)]
theorem pre_more (s t : ByteArray) : M.Pre s (s ++ t) := by
  have hd : (s ++ t).data.toList = s.data.toList ++ t.data.toList := by rw [ByteArray.data_append]; simp
  have hz : (s ++ t).size = s.size + t.size := by simp
  have hl : s.data.toList.length = s.size := Array.length_toList
  refine ⟨by omega, fun i hi => ?_, fun h4 => ?_⟩
  · unfold M.bt
    rw [hd, List.getD, List.getD, List.getElem?_append_left (by omega)]
  · rw [hd, List.take_append_of_le_length (by omega)]

end Go.Proofs.Ythfbllgbljimiab
