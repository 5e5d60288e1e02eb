/-
  P5: the whole of it.
-/
import Derived.Test.YthfbllgbljimiaaCk4
namespace Go.Proofs.Ythfbllgbljimiaa
open Go.RowKit

theorem graph_none {md : M.Md} (h : M.makers md = none) : M.graph md = false := by simp [M.graph, h]

/-- The first k operators read what they may. -/
def ReadTo (md : M.Md) (by_ : List Int) (k : Nat) : Prop := ∀ j o, j < k → md.ops[j]? = some o → M.readsHold md by_ j o = true
def OutTo (md : M.Md) (k : Nat) : Prop := ∀ j x, j < k → md.outs[j]? = some x → M.isCells md x = true

theorem graph_no1 {md : M.Md} {by_ : List Int} {k : Nat} {o : M.Op} (hm : M.makers md = some by_) (ho : md.ops[k]? = some o) (h : M.readsHold md by_ k o = false) : M.graph md = false := by
  have hk : k < md.ops.length := by
    rcases Nat.lt_or_ge k md.ops.length with h' | h'
    · exact h'
    · simp [List.getElem?_eq_none h'] at ho
  simp only [M.graph, hm]
  rw [Bool.and_eq_false_iff]
  left
  rw [List.all_eq_false]
  exact ⟨k, List.mem_range.2 hk, by simp only [ho, h]; simp⟩
theorem graph_no2 {md : M.Md} {by_ : List Int} {k : Nat} {x : Int} (hm : M.makers md = some by_) (ho : md.outs[k]? = some x) (h : M.isCells md x = false) : M.graph md = false := by
  simp only [M.graph, hm]
  rw [Bool.and_eq_false_iff]
  right
  rw [List.all_eq_false]
  exact ⟨x, List.mem_of_getElem? ho, by simp [h]⟩
theorem graph_yes {md : M.Md} {by_ : List Int} (hm : M.makers md = some by_) (h1 : ReadTo md by_ md.ops.length) (h2 : OutTo md md.outs.length) : M.graph md = true := by
  simp only [M.graph, hm]
  rw [Bool.and_eq_true]
  constructor
  · rw [List.all_eq_true]
    intro j hj
    have hj' := List.mem_range.1 hj
    have ho : md.ops[j]? = some md.ops[j] := List.getElem?_eq_getElem hj'
    simp only [ho]
    exact h1 j _ hj' ho
  · rw [List.all_eq_true]
    intro x hx
    obtain ⟨j, hj, e⟩ := List.mem_iff_getElem.1 hx
    exact h2 j x hj (by rw [List.getElem?_eq_getElem hj, e])

set_option maxRecDepth 100000 in
set_option maxHeartbeats 2000000 in
theorem graph_c (m : Nat) (md : M.Md) (w : World) (h : Mod w m md) (hw : WfM md) :
    Calls Try.prog 61 #[.pointer (some ⟨m, 0, none⟩)] w fun e w' => e = .returned (.bool (M.graph md)) ∧ w.grownBy w' none := by
  have hn1 := hw.nt
  have hn2 := hw.no
  have hn3 := hw.nu
  have hM := h
  have hW := hide hw
  clear hw
  go_enter Try.func61, Try.ntmps61
  go_wp2_with fail
  refine (makers_c m md w h hW.out).mono ?_
  rintro e w1 ⟨hg1, ⟨hno, rfl⟩ | ⟨by_, gb, hmk, hbl, rfl, hI1⟩⟩
  · have He := hide (graph_none hno)
    clear hno
    go_wp2
    go_ret
    exact ⟨ret_bool He.out.symm, hg1⟩
  · obtain ⟨a1, c1, a2, c2, a3, c3, hB, hT, hO, hU⟩ := h
    have q1 : w1.cell? ⟨m, 1, none⟩ = some (.slice a2 md.ops.length c2) := (hB.kept hg1 (by simp)).cell 1
    have HM := hide hM
    clear hT hM
    go_wp2
    clear q1
    go_loopw [21] (fun i wr => ∃ k : Nat, k ≤ md.ops.length ∧ i = .int .i64 k ∧ ReadTo md by_ k ∧ Ints wr w.heap.size (.slice (some ⟨gb, 0, none⟩) by_.length by_.length) by_ ∧ w.grownBy wr none) (fun i _ => md.ops.length - (intOf i).toNat)
    case atStart => exact ⟨0, Nat.zero_le _, rfl, fun j o hj => by omega, hI1, hg1⟩
    case round =>
      clear hI1 hg1
      obtain ⟨k, hk, rfl, hrd, hIk, hgk⟩ := hrel
      by_cases hlt : k < md.ops.length
      · obtain ⟨o, ho⟩ : ∃ o, md.ops[k]? = some o := ⟨_, List.getElem?_eq_getElem hlt⟩
        obtain ⟨g, ao, p, cp, rfl, hgl, -, -, hR⟩ := (hO.kept0 hgk).get k o ho
        have Ho := hide ho
        have hM1 : Mod (wr.alloc (.cells (oval o (.slice ao p cp)) 77)) m md := (HM.out.kept0 hgk).kept0 (World.grownBy_alloc _ _ _)
        have hg1 : w.grownBy (wr.alloc (.cells (oval o (.slice ao p cp)) 77)) none := gr_trans hgk (World.grownBy_alloc _ _ _)
        have hIn := hIk.kept0 (World.grownBy_alloc wr (.cells (oval o (.slice ao p cp)) 77) none)
        have HB := hide (Blk.new wr 77 (oval o (.slice ao p cp)))
        have Hrd := hide hrd
        clear ho hO hB hU hIk hrd
        go_wp2_with (first | (refine wpList_load_mid rfl 77 _ rfl g (k * 16) rfl (oval o (.slice ao p cp)).toList _ hR Try.underlying77 rfl Try.size77 ?_) | (refine wpList_store_row rfl 77 _ _ rfl wr.heap.size (oval o (.slice ao p cp)) rfl rfl 77 (o16 0 0 0 0 0 0 0 0 false (.slice none 0 0) 0 0 0 0 0 0) (Blk.new wr 77 _) Try.size77 rfl (one16 ..) ?_; rw [World.setRow_alloc_new]) | (refine wpList_load_row rfl 77 _ rfl wr.heap.size rfl 77 (oval o (.slice ao p cp)) (0, 0) _ HB.out Try.underlying77 rfl Try.size77 ?_))
        refine (readsHold_c m w.heap.size md _ _ _ by_ k o ao p cp _ hM1 hn1 hIn hbl).mono ?_
        rintro e w3 ⟨rfl, hg3⟩
        have gw3 := gr_trans hg1 hg3
        have hI3 := hIn.kept0 hg3
        clear hIn hg3 hg1 hM1 hR
        cases hr : M.readsHold md by_ k o with
        | false =>
          have He := hide (graph_no1 hmk.out Ho.out hr)
          clear hr
          go_wp2
          go_ret
          exact ⟨ret_bool He.out.symm, gw3⟩
        | true =>
          have Hst := hide (show ReadTo md by_ (k + 1) from fun j o' hj ho' => by
            rcases Nat.lt_or_ge j k with h' | h'
            · exact Hrd.out j o' h' ho'
            · obtain rfl : j = k := by omega
              rw [Ho.out] at ho'
              injection ho' with e'
              rw [← e']; exact hr)
          clear hr
          go_wp2
          go_roundw
          case rel => exact ⟨k + 1, by omega, by go_num, Hst.out, hI3, gw3⟩
          case measure => simp [intOf]; omega
      · obtain rfl : k = md.ops.length := by omega
        have q2 : wr.cell? ⟨m, 2, none⟩ = some (.slice a3 md.outs.length c3) := (hB.kept hgk (by simp)).cell 2
        have Hrd := hide hrd
        clear hB hO hrd hIk
        go_wp2
        clear q2
        go_loopw [38] (fun i wr => ∃ k : Nat, k ≤ md.outs.length ∧ i = .int .i64 k ∧ OutTo md k ∧ w.grownBy wr none) (fun i _ => md.outs.length - (intOf i).toNat)
        case atStart => exact ⟨0, Nat.zero_le _, rfl, fun j o hj => by omega, hgk⟩
        case round =>
          clear hgk
          obtain ⟨k, hk3, rfl, hou, hgk⟩ := hrel
          have Hou := hide hou
          clear hou
          by_cases hlt3 : k < md.outs.length
          · obtain ⟨x, hx⟩ : ∃ x, md.outs[k]? = some x := ⟨_, List.getElem?_eq_getElem hlt3⟩
            obtain ⟨g, rfl, hgl, -, d0⟩ := (hU.kept0 hgk).get k x hx
            have hMr := HM.out.kept0 hgk
            have Hx := hide hx
            clear hU hx
            go_wp2_with fail
            refine (isCells_c m md x wr hMr hn1).mono ?_
            rintro e w5 ⟨rfl, hw5⟩
            rw [hw5]
            clear hw5
            cases hr : M.isCells md x with
            | false =>
              have He := hide (graph_no2 hmk.out Hx.out hr)
              clear hr
              go_wp2
              go_ret
              exact ⟨ret_bool He.out.symm, hgk⟩
            | true =>
              have Hst := hide (show OutTo md (k + 1) from fun j o' hj ho' => by
                rcases Nat.lt_or_ge j k with h' | h'
                · exact Hou.out j o' h' ho'
                · obtain rfl : j = k := by omega
                  rw [Hx.out] at ho'
                  injection ho' with e'
                  rw [← e']; exact hr)
              clear hr
              go_wp2
              go_roundw
              case rel => exact ⟨k + 1, by omega, by go_num, Hst.out, hgk⟩
              case measure => simp [intOf]; omega
          · obtain rfl : k = md.outs.length := by omega
            have He := hide (graph_yes hmk.out Hrd.out Hou.out)
            clear hU
            go_wp2
            go_ret
            exact ⟨ret_bool He.out.symm, hgk⟩

end Go.Proofs.Ythfbllgbljimiaa
