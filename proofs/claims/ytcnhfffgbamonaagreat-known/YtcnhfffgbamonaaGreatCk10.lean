/-
  P6: all shapes. P7: biases, scales.
-/
import Derived.Test.YtcnhfffgbamonaaGreatCk9a
import Derived.Test.YtcnhfffgbamonaaGreatCk9b
import Derived.Test.YtcnhfffgbamonaaGreatCk9c
import Derived.Test.YtcnhfffgbamonaaGreatCk9d
namespace Go.Proofs.YtcnhfffgbamonaaGreat
open Go.RowKit

theorem shape_c (m : Nat) (md : M.Md) (o : M.Op) (ao : Option Addr) (p c : Nat) (w : World) (h : Mod w m md) (hw : WfM md) (ho : WfO o) :
    Calls Tryz.prog 168 #[.pointer (some ⟨m, 0, none⟩), .agg (oval o (.slice ao p c))] w fun e w' => e = .returned (.bool (M.shape md o)) ∧ w.grownBy w' none := by
  have hk := ho.kind
  rcases (show o.kind = 0 ∨ o.kind = 1 ∨ o.kind = 2 ∨ o.kind = 3 ∨ o.kind = 4 ∨ o.kind = 5 ∨ o.kind = 6 ∨ o.kind = 7 ∨ o.kind = 8 ∨ o.kind = 9 ∨ o.kind = 10 from by omega) with e | e | e | e | e | e | e | e | e | e | e
  · exact shape_0 m md o ao p c w h hw ho e
  · exact shape_1 m md o ao p c w h hw ho e
  · exact shape_2 m md o ao p c w h hw ho e
  · exact shape_3 m md o ao p c w h hw ho e
  · exact shape_4 m md o ao p c w h hw ho e
  · exact shape_5 m md o ao p c w h hw ho e
  · exact shape_6 m md o ao p c w h hw ho e
  · exact shape_7 m md o ao p c w h hw ho e
  · exact shape_8 m md o ao p c w h hw ho e
  · exact shape_9 m md o ao p c w h hw ho e
  · exact shape_10 m md o ao p c w h hw ho e

/-- The first k hold. -/
def AllTo {α : Type} (f : α → Bool) (l : List α) (k : Nat) : Prop := ∀ j x, j < k → l[j]? = some x → f x = true
theorem AllTo.step {α : Type} {f : α → Bool} {l : List α} {k : Nat} {x : α} (h : AllTo f l k) (hx : l[k]? = some x) (hf : f x = true) : AllTo f l (k + 1) := by
  intro j y hj hy
  rcases Nat.lt_or_ge j k with h' | h'
  · exact h j y h' hy
  · obtain rfl : j = k := by omega
    rw [hx] at hy
    injection hy with e
    rw [← e]; exact hf
theorem AllTo.all {α : Type} {f : α → Bool} {l : List α} (h : AllTo f l l.length) : l.all f = true := by
  rw [List.all_eq_true]
  intro x hx
  obtain ⟨j, hj, e⟩ := List.mem_iff_getElem.1 hx
  exact h j x hj (by rw [List.getElem?_eq_getElem hj, e])
theorem all_no {α : Type} {f : α → Bool} {l : List α} {k : Nat} {x : α} (hx : l[k]? = some x) (hf : f x = false) : l.all f = false := by
  rw [List.all_eq_false]
  exact ⟨x, List.mem_of_getElem? hx, by simp [hf]⟩

set_option maxRecDepth 100000 in
set_option maxHeartbeats 1000000 in
theorem shapes_c (m : Nat) (md : M.Md) (w : World) (h : Mod w m md) (hw : WfM md) :
    Calls Tryz.prog 141 #[.pointer (some ⟨m, 0, none⟩)] w fun e w' => e = .returned (.bool (M.shapes md)) ∧ w.grownBy w' none := by
  have hn2 := hw.no
  have HM := hide h
  have hW := hide hw
  obtain ⟨a1, c1, a2, c2, a3, c3, hB, hT, hO, hU⟩ := h
  have q1 : w.cell? ⟨m, 1, none⟩ = some (.slice a2 md.ops.length c2) := hB.cell 1
  clear hT hU hw hB
  go_enter Tryz.func141, Tryz.ntmps141
  go_wp2
  clear q1
  go_loopw [10] (fun i wr => ∃ k : Nat, k ≤ md.ops.length ∧ i = .int .i64 k ∧ AllTo (M.shape md) md.ops k ∧ w.grownBy wr none) (fun i _ => md.ops.length - (intOf i).toNat)
  case atStart => exact ⟨0, Nat.zero_le _, rfl, fun j x hj => by omega, World.grownBy.refl _ _⟩
  case round =>
    obtain ⟨k, hk, rfl, hal, hgk⟩ := hrel
    have Hal := hide hal
    clear hal
    by_cases hlt : k < md.ops.length
    · obtain ⟨o, ho⟩ : ∃ o, md.ops[k]? = some o := ⟨_, List.getElem?_eq_getElem hlt⟩
      obtain ⟨g, ao, p, cp, rfl, hgl, -, -, hR⟩ := (hO.kept0 hgk).get k o ho
      have Ho := hide ho
      have wo := hide (hW.out.os o (List.mem_of_getElem? ho))
      have hM1 : Mod (wr.alloc (.cells (oval o (.slice ao p cp)) 142)) m md := (HM.out.kept0 hgk).kept0 (World.grownBy_alloc _ _ _)
      have hg1 : w.grownBy (wr.alloc (.cells (oval o (.slice ao p cp)) 142)) none := gr_trans hgk (World.grownBy_alloc _ _ _)
      have HB := hide (Blk.new wr 142 (oval o (.slice ao p cp)))
      clear ho hO
      go_wp2_with (first | (refine wpList_load_mid rfl 142 _ rfl g (k * 16) rfl (oval o (.slice ao p cp)).toList _ hR Tryz.underlying142 rfl Tryz.size142 ?_) | (refine wpList_store_row rfl 142 _ _ rfl wr.heap.size (oval o (.slice ao p cp)) rfl rfl 142 (o16 0 0 0 0 0 0 0 0 false (.slice none 0 0) 0 0 0 0 0 0) (Blk.new wr 142 _) Tryz.size142 rfl (one16 ..) ?_; rw [World.setRow_alloc_new]) | (refine wpList_load_row rfl 142 _ rfl wr.heap.size rfl 142 (oval o (.slice ao p cp)) (0, 0) _ HB.out Tryz.underlying142 rfl Tryz.size142 ?_))
      refine (shape_c m md o ao p cp _ hM1 hW.out wo.out).mono ?_
      rintro e w3 ⟨rfl, hg3⟩
      have gw3 := gr_trans hg1 hg3
      clear hg3 hg1 hM1 hR hgk
      cases hr : M.shape md o with
      | false =>
        have He := hide (show M.shapes md = false from all_no Ho.out hr)
        clear hr
        go_wp2
        go_ret
        exact ⟨ret_bool He.out.symm, gw3⟩
      | true =>
        have Hst := hide (Hal.out.step Ho.out hr)
        clear hr
        go_wp2
        go_roundw
        case rel => exact ⟨k + 1, by omega, by go_num, Hst.out, gw3⟩
        case measure => simp [intOf]; omega
    · obtain rfl : k = md.ops.length := by omega
      have He := hide (show M.shapes md = true from Hal.out.all)
      clear hO
      go_wp2
      go_ret
      exact ⟨ret_bool He.out.symm, hgk⟩

def biasOk (v : Int) : Bool := !(decide (1073741824 < v) || decide (v < -1073741824))

set_option maxHeartbeats 800000 in
theorem biases_c (t : M.Tn) (ad : Option Addr) (n c B : Nat) (w : World) (hI : Ints w B (.slice ad n c) t.data) (hl : n ≤ 9223372036854775807) :
    Calls Tryz.prog 169 #[.agg (tval t (.slice ad n c))] w fun e w' => e = .returned (.bool (M.biasesHold t)) ∧ w.grownBy w' none := by
  have hn := hI.len
  have v0 := tv0 t (.slice ad n c)
  have v4 := tv4 t (.slice ad n c)
  have v5 := tv5 t (.slice ad n c)
  have hg1 : w.grownBy (w.alloc (.cells (tval t (.slice ad n c)) 158)) none := World.grownBy_alloc _ _ _
  have hI1 := hI.kept0 hg1
  by_cases hk : t.kind = 2
  · have hk' : (t.kind != 2) = false := by simp [hk]
    have He := hide (show M.biasesHold t = (t.data.all biasOk && t.zero == 0) by unfold M.biasesHold biasOk; rw [if_neg (by simp [hk])])
    clear hk hI
    subst hn
    go_enter Tryz.func169, Tryz.ntmps169
    go_wp2
    go_loop [11] (fun i => ∃ k : Nat, k ≤ t.data.length ∧ i = .int .i64 k ∧ AllTo biasOk t.data k) (fun i => t.data.length - (intOf i).toNat)
    case atStart => exact ⟨0, Nat.zero_le _, rfl, fun j x hj => by omega⟩
    case round =>
      obtain ⟨k, hk, rfl, hal⟩ := hrel
      have Hal := hide hal
      clear hal
      by_cases hlt : k < t.data.length
      · obtain ⟨x, hx⟩ : ∃ x, t.data[k]? = some x := ⟨_, List.getElem?_eq_getElem hlt⟩
        obtain ⟨g, rfl, hgl, -, d0⟩ := hI1.get k x hx
        have Hx := hide hx
        clear hx hI1
        by_cases h1 : 1073741824 < x
        · have Hb := hide (show biasOk x = false by unfold biasOk; rw [decide_eq_true h1]; rfl)
          go_wp2
          go_ret
          exact ⟨ret_bool (by rw [He.out, all_no Hx.out Hb.out]; rfl), hg1⟩
        · by_cases h2 : x < -1073741824
          · have Hb := hide (show biasOk x = false by unfold biasOk; rw [decide_eq_true h2, Bool.or_true]; rfl)
            go_wp2
            go_ret
            exact ⟨ret_bool (by rw [He.out, all_no Hx.out Hb.out]; rfl), hg1⟩
          · have Hst := hide (Hal.out.step Hx.out (show biasOk x = true by unfold biasOk; rw [decide_eq_false h1, decide_eq_false h2]; rfl))
            go_wp2
            go_round
            case rel => exact ⟨k + 1, by omega, by go_num, Hst.out⟩
            case measure => simp [intOf]; omega
      · obtain rfl : k = t.data.length := by omega
        have Hall := hide Hal.out.all
        clear hI1
        go_wp2
        go_ret
        exact ⟨ret_bool (by rw [He.out, Hall.out]; rfl), hg1⟩
  · have hk' : (t.kind != 2) = true := by simp [hk]
    have He := hide (show M.biasesHold t = true by unfold M.biasesHold; rw [if_pos hk])
    clear hk hI hn hI1 v4 v5
    go_enter Tryz.func169, Tryz.ntmps169
    go_wp2
    go_ret
    exact ⟨ret_bool He.out.symm, hg1⟩

end Go.Proofs.YtcnhfffgbamonaaGreat
