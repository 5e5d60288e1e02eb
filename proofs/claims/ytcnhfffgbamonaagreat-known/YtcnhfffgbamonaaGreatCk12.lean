/-
  P7: the whole of it; check; Read.
-/
import Derived.Test.YtcnhfffgbamonaaGreatCk11
namespace Go.Proofs.YtcnhfffgbamonaaGreat
open Go.RowKit

theorem owns_max {w : World} {base : Nat} {e : TypeId} {size n : Nat} {a : Option Addr} {m c : Nat} {xs : List Value} (h : w.ownsRow base e size (.slice a m c) n xs) : m ≤ 9223372036854775807 := by
  rcases h.2 with ⟨hv, _⟩ | ⟨g, cap, cur, hv, hb, hh, hr, hm, _⟩
  · injection hv with h1 h2 h3; omega
  · injection hv with h1 h2 h3
    unfold maxLen at hm
    omega

theorem quants_no1 {md : M.Md} {k : Nat} {t : M.Tn} (ht : md.tensors[k]? = some t) (h : M.biasesHold t = false) : M.quants md = false := by
  unfold M.quants; rw [all_no ht h]; rfl
theorem quants_no2 {md : M.Md} {k : Nat} {o : M.Op} (ho : md.ops[k]? = some o) (h : M.quantOp md o = false) : M.quants md = false := by
  unfold M.quants; rw [all_no ho h, Bool.and_false]
theorem quants_yes {md : M.Md} (h1 : AllTo M.biasesHold md.tensors md.tensors.length) (h2 : AllTo (M.quantOp md) md.ops md.ops.length) : M.quants md = true := by
  unfold M.quants; rw [h1.all, h2.all]; rfl
theorem qop_no1 {md : M.Md} {o : M.Op} (h : o.hi < o.lo) : M.quantOp md o = false := by unfold M.quantOp; rw [decide_eq_true h]; rfl
theorem qop_no2 {md : M.Md} {o : M.Op} (h : o.scales.all M.scaleHolds = false) : M.quantOp md o = false := by unfold M.quantOp; rw [h, Bool.and_false, Bool.false_and]
theorem qop_eq {md : M.Md} {o : M.Op} (h : ¬ o.hi < o.lo) (h2 : o.scales.all M.scaleHolds = true) : M.quantOp md o = M.zerosHold md o := by unfold M.quantOp; rw [decide_eq_false h, h2]; rfl

set_option maxRecDepth 100000 in
set_option maxHeartbeats 2000000 in
theorem quants_c (m : Nat) (md : M.Md) (w : World) (h : Mod w m md) (hw : WfM md) :
    Calls Tryz.prog 142 #[.pointer (some ⟨m, 0, none⟩)] w fun e w' => e = .returned (.bool (M.quants md)) ∧ w.grownBy w' none := by
  have hn1 := hw.nt
  have hn2 := hw.no
  have HM := hide h
  have hW := hide hw
  obtain ⟨a1, c1, a2, c2, a3, c3, hB, hT, hO, hU⟩ := h
  have q0 : w.cell? ⟨m, 0, none⟩ = some (.slice a1 md.tensors.length c1) := hB.cell 0
  clear hU hw
  go_enter Tryz.func142, Tryz.ntmps142
  go_wp2
  clear q0
  go_loopw [12] (fun i wr => ∃ k : Nat, k ≤ md.tensors.length ∧ i = .int .i64 k ∧ AllTo M.biasesHold md.tensors k ∧ w.grownBy wr none) (fun i _ => md.tensors.length - (intOf i).toNat)
  case atStart => exact ⟨0, Nat.zero_le _, rfl, fun j x hj => by omega, World.grownBy.refl _ _⟩
  case round =>
    obtain ⟨k, hk, rfl, hal, hgk⟩ := hrel
    have Hal := hide hal
    clear hal
    by_cases hlt : k < md.tensors.length
    · obtain ⟨t, ht⟩ : ∃ t, md.tensors[k]? = some t := ⟨_, List.getElem?_eq_getElem hlt⟩
      obtain ⟨g, ao, n', cp, rfl, -, -, hI, d0, d1, d2, d3, d4, d5⟩ := (hT.kept0 hgk).get k t ht
      have hgl : g < wr.heap.size := World.block_lt_of_cell? wr _ d0
      have hI1 := hI.kept0 (World.grownBy_alloc wr (.cells (tval t (.slice ao n' cp)) 158) none)
      have hg1 : w.grownBy (wr.alloc (.cells (tval t (.slice ao n' cp)) 158)) none := gr_trans hgk (World.grownBy_alloc _ _ _)
      have Ht := hide ht
      clear ht hT hO hB hI
      go_wp2_with fail
      refine (biases_c t ao n' cp _ _ hI1 (owns_max hI1)).mono ?_
      rintro e w3 ⟨rfl, hg3⟩
      have gw3 := gr_trans hg1 hg3
      clear hg3 hg1 hI1 hgk d0 d1 d2 d3 d4 d5
      cases hr : M.biasesHold t with
      | false =>
        have He := hide (quants_no1 Ht.out hr)
        clear hr
        go_wp2
        go_ret
        exact ⟨ret_bool He.out.symm, gw3⟩
      | true =>
        have Hst := hide (Hal.out.step Ht.out hr)
        clear hr
        go_wp2
        go_roundw
        case rel => exact ⟨k + 1, by omega, by go_num, Hst.out, gw3⟩
        case measure => simp [intOf]; omega
    · obtain rfl : k = md.tensors.length := by omega
      have q1 : wr.cell? ⟨m, 1, none⟩ = some (.slice a2 md.ops.length c2) := (hB.kept hgk (by simp)).cell 1
      clear hT hB
      go_wp2
      clear q1
      go_loopw [25] (fun i wr => ∃ k : Nat, k ≤ md.ops.length ∧ i = .int .i64 k ∧ AllTo (M.quantOp md) md.ops k ∧ w.grownBy wr none) (fun i _ => md.ops.length - (intOf i).toNat)
      case atStart => exact ⟨0, Nat.zero_le _, rfl, fun j x hj => by omega, hgk⟩
      case round =>
        clear hgk
        obtain ⟨k, hk2, rfl, hal, hgk⟩ := hrel
        have Hal2 := hide hal
        clear hal
        by_cases hlt2 : k < md.ops.length
        · obtain ⟨o, ho⟩ : ∃ o, md.ops[k]? = some o := ⟨_, List.getElem?_eq_getElem hlt2⟩
          obtain ⟨g, ao, p, cp, rfl, hgl, -, hS, hR⟩ := (hO.kept0 hgk).get k o ho
          have Ho := hide ho
          have hM1 : Mod (wr.alloc (.cells (oval o (.slice ao p cp)) 142)) m md := (HM.out.kept0 hgk).kept0 (World.grownBy_alloc _ _ _)
          have hg1 : w.grownBy (wr.alloc (.cells (oval o (.slice ao p cp)) 142)) none := gr_trans hgk (World.grownBy_alloc _ _ _)
          have hS1 : Scs (wr.alloc (.cells (oval o (.slice ao p cp)) 142)) (m + 1) (.slice ao p cp) o.scales := owns_kept0 hS (World.grownBy_alloc _ _ _)
          have HB := hide (Blk.new wr 142 (oval o (.slice ao p cp)))
          have v9 := ov9 o (.slice ao p cp)
          have v10 := ov10 o (.slice ao p cp)
          have v11 := ov11 o (.slice ao p cp)
          clear ho hO hS
          by_cases h1 : o.hi < o.lo
          · have He := hide (quants_no2 Ho.out (qop_no1 h1))
            go_wp2_with (first | (refine wpList_load_mid rfl 142 _ rfl g (k * 16) rfl (oval o (.slice ao p cp)).toList _ hR Tryz.underlying142 rfl Tryz.size142 ?_) | (refine wpList_store_row rfl 142 _ _ rfl wr.heap.size (oval o (.slice ao p cp)) rfl rfl 142 (o16 0 0 0 0 0 0 0 0 false (.slice none 0 0) 0 0 0 0 0 0) (Blk.new wr 142 _) Tryz.size142 rfl (one16 ..) ?_; rw [World.setRow_alloc_new]))
            go_ret
            exact ⟨ret_bool He.out.symm, hg1⟩
          · go_wp2_with (first | (refine wpList_load_mid rfl 142 _ rfl g (k * 16) rfl (oval o (.slice ao p cp)).toList _ hR Tryz.underlying142 rfl Tryz.size142 ?_) | (refine wpList_store_row rfl 142 _ _ rfl wr.heap.size (oval o (.slice ao p cp)) rfl rfl 142 (o16 0 0 0 0 0 0 0 0 false (.slice none 0 0) 0 0 0 0 0 0) (Blk.new wr 142 _) Tryz.size142 rfl (one16 ..) ?_; rw [World.setRow_alloc_new]))
            refine (scalesHold_c ao p cp (m + 1) o.scales _ hS1 (owns_max hS1)).mono ?_
            rintro e w3 ⟨rfl, hg3⟩
            have gw3 := gr_trans hg1 hg3
            have hM3 := hM1.kept0 hg3
            have hB3 := HB.out.kept hg3 (by simp)
            have h1' : ¬ o.hi < o.lo := by omega
            clear hg3 hg1 hM1 hR hgk hS1 v9 v10 v11
            cases hr : o.scales.all M.scaleHolds with
            | false =>
              have He := hide (quants_no2 Ho.out (qop_no2 hr))
              clear hr hM3 hB3
              go_wp2
              go_ret
              exact ⟨ret_bool He.out.symm, gw3⟩
            | true =>
              have Hq := hide (qop_eq (md := md) h1' hr)
              clear hr h1'
              go_wp2_with (refine wpList_load_row rfl 142 _ rfl wr.heap.size rfl 142 (oval o (.slice ao p cp)) (0, 0) _ hB3 Tryz.underlying142 rfl Tryz.size142 ?_)
              refine (zerosHold_c m md o ao p cp _ hM3 hW.out).mono ?_
              rintro e w4 ⟨rfl, hg4⟩
              have gw4 := gr_trans gw3 hg4
              clear hg4 gw3 hM3 hB3
              cases hz : M.zerosHold md o with
              | false =>
                have He := hide (quants_no2 Ho.out (by rw [Hq.out]; exact hz))
                clear hz
                go_wp2
                go_ret
                exact ⟨ret_bool He.out.symm, gw4⟩
              | true =>
                have Hst := hide (Hal2.out.step Ho.out (by rw [Hq.out]; exact hz))
                clear hz
                go_wp2
                go_roundw
                case rel => exact ⟨k + 1, by omega, by go_num, Hst.out, gw4⟩
                case measure => simp [intOf]; omega
        · obtain rfl : k = md.ops.length := by omega
          have He := hide (quants_yes Hal.out Hal2.out)
          clear hO
          go_wp2
          go_ret
          exact ⟨ret_bool He.out.symm, hgk⟩

set_option maxHeartbeats 800000 in
theorem check_c (m : Nat) (md : M.Md) (w : World) (h : Mod w m md) (hw : WfM md) :
    Calls Tryz.prog 100 #[.pointer (some ⟨m, 0, none⟩)] w fun e w' => e = .returned (.int .i64 (M.check md)) ∧ w.grownBy w' none := by
  go_enter Tryz.func100, Tryz.ntmps100
  go_wp2_with fail
  refine (limits_c m md w h hw).mono ?_
  rintro e w1 ⟨rfl, hg1⟩
  have M1 := h.kept0 hg1
  cases h1 : M.limits md with
  | false =>
    have He := hide (show M.check md = 3 by unfold M.check; rw [if_pos h1])
    clear h1
    go_wp2
    go_ret
    exact ⟨ret_int He.out.symm, hg1⟩
  | true =>
    have H1 := hide h1
    clear h1
    go_wp2_with fail
    refine (graph_c m md w1 M1 hw).mono ?_
    rintro e w2 ⟨rfl, hg2⟩
    have M2 := M1.kept0 hg2
    have G2 := gr_trans hg1 hg2
    clear hg1 hg2 M1
    cases h2 : M.graph md with
    | false =>
      have He := hide (show M.check md = 4 by unfold M.check; rw [if_neg (by simp [H1.out]), if_pos h2])
      clear h2
      go_wp2
      go_ret
      exact ⟨ret_int He.out.symm, G2⟩
    | true =>
      have H2 := hide h2
      clear h2
      go_wp2_with fail
      refine (shapes_c m md w2 M2 hw).mono ?_
      rintro e w3 ⟨rfl, hg3⟩
      have M3 := M2.kept0 hg3
      have G3 := gr_trans G2 hg3
      clear hg3 G2 M2
      cases h3 : M.shapes md with
      | false =>
        have He := hide (show M.check md = 5 by unfold M.check; rw [if_neg (by simp [H1.out]), if_neg (by simp [H2.out]), if_pos h3])
        clear h3
        go_wp2
        go_ret
        exact ⟨ret_int He.out.symm, G3⟩
      | true =>
        have H3 := hide h3
        clear h3
        go_wp2_with fail
        refine (quants_c m md w3 M3 hw).mono ?_
        rintro e w4 ⟨rfl, hg4⟩
        have G4 := gr_trans G3 hg4
        clear hg4 G3 M3
        cases h4 : M.quants md with
        | false =>
          have He := hide (show M.check md = 6 by unfold M.check; rw [if_neg (by simp [H1.out]), if_neg (by simp [H2.out]), if_neg (by simp [H3.out]), if_pos h4])
          clear h4
          go_wp2
          go_ret
          exact ⟨ret_int He.out.symm, G4⟩
        | true =>
          have He := hide (show M.check md = 0 by unfold M.check; rw [if_neg (by simp [H1.out]), if_neg (by simp [H2.out]), if_neg (by simp [H3.out]), if_neg (by simp [h4])])
          clear h4
          go_wp2
          go_ret
          exact ⟨ret_int He.out.symm, G4⟩

end Go.Proofs.YtcnhfffgbamonaaGreat
