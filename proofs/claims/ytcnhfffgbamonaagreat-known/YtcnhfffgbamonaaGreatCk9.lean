/-
  P6: an operator's shapes, kind by kind. (Written by a small program of ours: wip/gen/ck9.py.)
-/
import Derived.Test.YtcnhfffgbamonaaGreatCk8
namespace Go.Proofs.YtcnhfffgbamonaaGreat
open Go.RowKit

theorem tensorAt_wf {md : M.Md} (h : WfM md) (n : Int) : WfT (M.tensorAt md n) := by
  unfold M.tensorAt
  split
  · exact ⟨by decide, by decide, by decide, by decide, by decide, by decide, by decide, by decide, by decide, by decide⟩
  · rename_i hn
    have hl : n.toNat < md.tensors.length := by omega
    have e : md.tensors.getD n.toNat M.noTn = md.tensors[n.toNat] := by
      rw [List.getD_eq_getElem?_getD, List.getElem?_eq_getElem hl]; rfl
    rw [e]
    exact h.ts _ (List.getElem_mem hl)

end Go.Proofs.YtcnhfffgbamonaaGreat
