/-
  P5: who makes what.
-/
import Derived.Test.YthfbllgbljimiaaCk3
namespace Go.Proofs.Ythfbllgbljimiaa
open Go.RowKit

theorem mk_no1 {md : M.Md} {k : Nat} {by_ : List Int} {o : M.Op} (h : M.makersTo md k = some by_) (ho : md.ops[k]? = some o) (hk : M.isKind md o.to 3 = false) : M.makersTo md (k + 1) = none := by
  simp [M.makersTo, h, ho, hk]
theorem mk_no2 {md : M.Md} {k : Nat} {by_ : List Int} {o : M.Op} (h : M.makersTo md k = some by_) (ho : md.ops[k]? = some o) (hk : 0 ≤ by_.getD o.to.toNat 0) : M.makersTo md (k + 1) = none := by
  simp only [M.makersTo, h, ho]
  rw [if_pos]
  rw [decide_eq_true hk, Bool.or_true]
theorem mk_yes {md : M.Md} {k : Nat} {by_ : List Int} {o : M.Op} (h : M.makersTo md k = some by_) (ho : md.ops[k]? = some o) (hk : M.isKind md o.to 3 = true) (h2 : by_.getD o.to.toNat 0 < 0) : M.makersTo md (k + 1) = some (by_.set o.to.toNat k) := by
  simp only [M.makersTo, h, ho]
  rw [if_neg]
  rw [hk, decide_eq_false (by omega)]
  simp
theorem mk_none {md : M.Md} {k : Nat} (h : M.makersTo md k = none) (j : Nat) : M.makersTo md (k + j) = none := by
  induction j with
  | zero => exact h
  | succ j ih => rw [← Nat.add_assoc, M.makersTo, ih]
theorem makers_none {md : M.Md} {k : Nat} (hk : k + 1 ≤ md.ops.length) (h : M.makersTo md (k + 1) = none) : M.makers md = none := by
  obtain ⟨j, hj⟩ := Nat.exists_eq_add_of_le hk
  have e := mk_none h j
  rw [← hj] at e
  simp [M.makers, e]
theorem kind_range {md : M.Md} {n q : Int} (h : M.isKind md n q = true) : ∃ k : Nat, n = k ∧ k < md.tensors.length := by
  rcases (show n < 0 ∨ 0 ≤ n from by omega) with h' | h'
  · rw [isKind_no (.inl h')] at h; simp at h
  · obtain ⟨k, rfl⟩ := Int.eq_ofNat_of_zero_le h'
    refine ⟨k, rfl, ?_⟩
    rcases Nat.lt_or_ge k md.tensors.length with h2 | h2
    · exact h2
    · rw [isKind_no (.inr (by omega))] at h; simp at h

/-- The first k cells are -1. -/
def minus (n k : Nat) : Array Value := ((List.replicate k (-1 : Int) ++ List.replicate (n - k) 0).map (Value.int .i64)).toArray

theorem minus_set (n k : Nat) (h : k < n) : (minus n k).setIfInBounds k (.int .i64 (-1)) = minus n (k + 1) := by
  have e : n - k = (n - (k + 1)) + 1 := by omega
  unfold minus
  rw [e, List.replicate_succ]
  apply Array.toList_inj.1
  rw [Array.toList_setIfInBounds]
  simp only [List.map_append, List.map_cons]
  rw [List.set_append_right _ _ (by simp)]
  simp [List.replicate_succ']
theorem minus_get (n k j : Nat) (h : k ≤ n) (hj : j < n) : ∃ x, (minus n k)[j]? = some (.int .i64 x) := by
  have hz : (minus n k).size = n := by simp [minus]; omega
  rw [Array.getElem?_eq_getElem (by omega)]
  unfold minus
  rw [List.getElem_toArray, List.getElem_map]
  exact ⟨_, rfl⟩

theorem ints_set (l : List Int) (k : Nat) (x : Int) : ((l.map (Value.int .i64)).toArray).setIfInBounds k (.int .i64 x) = ((l.set k x).map (Value.int .i64)).toArray := by
  apply Array.toList_inj.1
  rw [Array.toList_setIfInBounds]
  simp [List.map_set]
theorem ints_get {l : List Int} {k : Nat} {x : Int} (h : l[k]? = some x) : ((l.map (Value.int .i64)).toArray)[k]? = some (.int .i64 x) := by simp [h]

/-- Of the first k tensors each that is Inner is made. -/
def MadeTo (ts : List M.Tn) (by_ : List Int) (k : Nat) : Prop := ∀ j, j < k → ((ts.map (·.kind)).getD j 0 == 3 && decide (by_.getD j 0 < 0)) = false

theorem made_end {ts : List M.Tn} {by_ : List Int} (h : MadeTo ts by_ ts.length) : M.madeAll ts by_ = true := by
  unfold M.madeAll
  rw [List.all_eq_true]
  intro j hj
  rw [h j (List.mem_range.1 hj)]; rfl
theorem made_not {ts : List M.Tn} {by_ : List Int} {j : Nat} (hj : j < ts.length) (h : ((ts.map (·.kind)).getD j 0 == 3 && decide (by_.getD j 0 < 0)) = true) : M.madeAll ts by_ = false := by
  unfold M.madeAll
  rw [List.all_eq_false]
  exact ⟨j, List.mem_range.2 hj, by simp only [h]; simp⟩
theorem made_step {ts : List M.Tn} {by_ : List Int} {k : Nat} (h : MadeTo ts by_ k) (hk : ((ts.map (·.kind)).getD k 0 == 3 && decide (by_.getD k 0 < 0)) = false) : MadeTo ts by_ (k + 1) := by
  intro j hj
  rcases Nat.lt_or_ge j k with h' | h'
  · exact h j h'
  · obtain rfl : j = k := by omega
    exact hk

set_option maxRecDepth 100000 in
set_option maxHeartbeats 2000000 in
theorem makers_c (m : Nat) (md : M.Md) (w : World) (h : Mod w m md) (hw : WfM md) :
    Calls Try.prog 79 #[.pointer (some ⟨m, 0, none⟩)] w fun e w' => w.grownBy w' none ∧ ((M.makers md = none ∧ e = .returned (.tuple #[.slice none 0 0, .bool false])) ∨
      ∃ by_ g, Hid (M.makers md = some by_) ∧ by_.length ≤ 255 ∧ e = .returned (.tuple #[.slice (some ⟨g, 0, none⟩) by_.length by_.length, .bool true]) ∧ Ints w' w.heap.size (.slice (some ⟨g, 0, none⟩) by_.length by_.length) by_) := by
  obtain ⟨i0, hi, hz0, hz1, hz2⟩ := info_parts Try.info3
  have hn1 := hw.nt
  have hn2 := hw.no
  have hM := h
  obtain ⟨a1, c1, a2, c2, a3, c3, hB, hT, hO, hU⟩ := h
  have q0 : w.cell? ⟨m, 0, none⟩ = some (.slice a1 md.tensors.length c1) := hB.cell 0
  have q1 : w.cell? ⟨m, 1, none⟩ = some (.slice a2 md.ops.length c2) := hB.cell 1
  have hml := hB.lt
  clear hU
  go_enter Try.func79, Try.ntmps79
  go_wp2_with (at_make; refine wpList_make_full _ rfl _ _ 35 rfl w.heap.size 3 i0 (.int .i64 0) 1 Try.underlying35 hi hz0 hz1 _ _ _ _ md.tensors.length rfl rfl rfl rfl ?c1 ?c2 ?c3 ?_)
  case c1 => rw [hz2]; omega
  case c2 => unfold maxLen; omega
  case c3 => exact Nat.le_refl _
  intro w2 hown hg2
  have hB2 := made_blk hown
  have e0 : (List.replicate md.tensors.length (Value.int .i64 0)).toArray = minus md.tensors.length 0 := by simp [minus]
  rw [e0] at hB2
  clear hown e0
  go_wp2
  go_loopw [18] (fun i wr => ∃ k : Nat, k ≤ md.tensors.length ∧ i = .int .i64 k ∧ Blk wr w.heap.size 3 (minus md.tensors.length k) ∧ w.grownBy wr none) (fun i _ => md.tensors.length - (intOf i).toNat)
  case atStart => exact ⟨0, Nat.zero_le _, rfl, hB2, hg2⟩
  case round =>
    obtain ⟨k, hk, rfl, hBk, hgk⟩ := hrel
    by_cases hlt : k < md.tensors.length
    · obtain ⟨y, hy⟩ := minus_get md.tensors.length k k hk hlt
      have hc := hBk.cell k
      rw [hy] at hc
      have hf := hBk.free k
      have HB := hide (hBk.set k (.int .i64 (-1)))
      rw [minus_set _ _ hlt] at HB
      have hgn := gr_new hgk (gr_set wr w.heap.size k (.int .i64 (-1))) (Nat.le_refl _)
      clear hBk hy
      go_wp2
      go_roundw
      case rel => exact ⟨k + 1, by omega, by go_num, HB.out, hgn⟩
      case measure => simp [intOf]; omega
    · obtain rfl : k = md.tensors.length := by omega
      have ez : minus md.tensors.length md.tensors.length = ((List.replicate md.tensors.length (-1 : Int)).map (Value.int .i64)).toArray := by simp [minus]
      rw [ez] at hBk
      obtain ⟨wo, rfl⟩ : ∃ wo : World, wo = wr := ⟨_, rfl⟩
      have q1o : wo.cell? ⟨m, 1, none⟩ = some (.slice a2 md.ops.length c2) := (hB.kept hgk (by simp)).cell 1
      clear ez hB2 hg2
      go_wp2
      have hM0 := hide hM
      clear hM q0 q1 q1o
      go_loopw [30] (fun i wr => ∃ (k : Nat) (by_ : List Int), k ≤ md.ops.length ∧ i = .int .i64 k ∧ M.makersTo md k = some by_ ∧ by_.length = md.tensors.length ∧ Blk wr w.heap.size 3 (by_.map (Value.int .i64)).toArray ∧ w.grownBy wr none) (fun i _ => md.ops.length - (intOf i).toNat)
      case atStart => exact ⟨0, _, Nat.zero_le _, rfl, rfl, by simp, hBk, hgk⟩
      case round =>
        clear hBk hgk
        obtain ⟨k, by_, hk, rfl, hmk, hbl, hBk, hgk⟩ := hrel
        have Hmk := hide hmk
        have Hbl := hide hbl
        clear hmk hbl
        by_cases hlt : k < md.ops.length
        · obtain ⟨o, ho⟩ : ∃ o, md.ops[k]? = some o := ⟨_, List.getElem?_eq_getElem hlt⟩
          obtain ⟨g, ao, p, cp, rfl, hgl, -, -, hR⟩ := (hO.kept0 hgk).get k o ho
          have Ho := hide ho
          have hM1 : Mod (wr.alloc (.cells (oval o (.slice ao p cp)) 77)) m md := (hM0.out.kept0 hgk).kept0 (World.grownBy_alloc _ _ _)
          have hg1 : w.grownBy (wr.alloc (.cells (oval o (.slice ao p cp)) 77)) none := gr_trans hgk (World.grownBy_alloc _ _ _)
          have v5 : (oval o (.slice ao p cp))[5]? = some (.int .i64 o.to) := rfl
          have hGl := hBk.lt
          clear ho hT hO hB
          cases hkd : M.isKind md o.to 3 with
          | false =>
            have Hn := hide (makers_none (by omega) (mk_no1 Hmk.out Ho.out hkd))
            have Hkd := hide hkd
            clear hkd
            go_wp2_with (first | (refine wpList_load_mid rfl 77 _ rfl g (k * 16) rfl (oval o (.slice ao p cp)).toList _ hR Try.underlying77 rfl Try.size77 ?_) | (refine wpList_store_row rfl 77 _ _ rfl wr.heap.size (oval o (.slice ao p cp)) rfl rfl 77 (o16 0 0 0 0 0 0 0 0 false (.slice none 0 0) 0 0 0 0 0 0) (Blk.new wr 77 _) Try.size77 rfl (one16 ..) ?_; rw [World.setRow_alloc_new]))
            refine (isKind_c m md o.to 3 _ hM1 hn1).mono ?_
            rintro e w5 ⟨rfl, hw5⟩
            rw [hw5, Hkd.out]
            clear hw5
            go_wp2
            go_ret2
            exact ⟨hg1, .inl ⟨Hn.out, rfl⟩⟩
          | true =>
            obtain ⟨j, hj, hjl⟩ := kind_range hkd
            have hjl' : j < by_.length := by rw [Hbl.out]; exact hjl
            obtain ⟨x, hx⟩ : ∃ x, by_[j]? = some x := ⟨_, List.getElem?_eq_getElem hjl'⟩
            have hxd : by_.getD o.to.toNat 0 = x := by rw [hj, Int.toNat_natCast, List.getD_eq_getElem?_getD, hx]; rfl
            have hB1 : Blk (wr.alloc (.cells (oval o (.slice ao p cp)) 77)) w.heap.size 3 (by_.map (Value.int .i64)).toArray := hBk.alloc _
            have hcj : (wr.alloc (.cells (oval o (.slice ao p cp)) 77)).cell? ⟨w.heap.size, j, none⟩ = some (.int .i64 x) := by rw [hB1.cell j]; exact ints_get hx
            have hcw : wr.cell? ⟨w.heap.size, j, none⟩ = some (.int .i64 x) := by rw [hBk.cell j]; exact ints_get hx
            have hfw := hBk.free j
            have Hkd := hide hkd
            have Hxd := hide hxd
            have Hcj := hide hcj
            have HB1 := hide hB1
            have HBk := hide hBk
            have Hj := hide hj
            rw [hj] at v5 Hkd
            clear hkd hxd hcj hB1 hBk hj hx
            by_cases hx0 : 0 ≤ x
            · have Hn := hide (makers_none (by omega) (mk_no2 Hmk.out Ho.out (by rw [Hxd.out]; exact hx0)))
              go_wp2_with (first | (refine wpList_load_mid rfl 77 _ rfl g (k * 16) rfl (oval o (.slice ao p cp)).toList _ hR Try.underlying77 rfl Try.size77 ?_) | (refine wpList_store_row rfl 77 _ _ rfl wr.heap.size (oval o (.slice ao p cp)) rfl rfl 77 (o16 0 0 0 0 0 0 0 0 false (.slice none 0 0) 0 0 0 0 0 0) (Blk.new wr 77 _) Try.size77 rfl (one16 ..) ?_; rw [World.setRow_alloc_new]))
              refine (isKind_c m md j 3 _ hM1 hn1).mono ?_
              rintro e w5 ⟨rfl, hw5⟩
              rw [hw5, Hkd.out]
              clear hw5
              go_wp2
              go_ret2
              exact ⟨hg1, .inl ⟨Hn.out, rfl⟩⟩
            · have hy := mk_yes Hmk.out Ho.out (by rw [Hj.out]; exact Hkd.out) (by rw [Hxd.out]; omega)
              rw [Hj.out, Int.toNat_natCast] at hy
              have Hy := hide hy
              clear hy
              have HS := hide (HBk.out.set j (.int .i64 k))
              rw [ints_set] at HS
              have hgs : w.grownBy ((wr.setCell ⟨w.heap.size, j, none⟩ (.int .i64 k)).alloc (.cells (oval o (.slice ao p cp)) 77)) none := gr_trans (gr_new hgk (gr_set wr w.heap.size j (.int .i64 k)) (Nat.le_refl _)) (World.grownBy_alloc _ _ _)
              go_wp2_with (first | (refine wpList_load_mid rfl 77 _ rfl g (k * 16) rfl (oval o (.slice ao p cp)).toList _ hR Try.underlying77 rfl Try.size77 ?_) | (refine wpList_store_row rfl 77 _ _ rfl wr.heap.size (oval o (.slice ao p cp)) rfl rfl 77 (o16 0 0 0 0 0 0 0 0 false (.slice none 0 0) 0 0 0 0 0 0) (Blk.new wr 77 _) Try.size77 rfl (one16 ..) ?_; rw [World.setRow_alloc_new]))
              refine (isKind_c m md j 3 _ hM1 hn1).mono ?_
              rintro e w5 ⟨rfl, hw5⟩
              rw [hw5, Hkd.out]
              clear hw5
              have Hgs := hide hgs
              clear hgs
              go_wp2
              go_roundw
              case rel =>
                refine ⟨k + 1, by_.set j k, by omega, by go_num, Hy.out, by rw [List.length_set]; exact Hbl.out, ?_, Hgs.out⟩
                exact HS.out.alloc _
              case measure => simp [intOf]; omega
        · obtain rfl : k = md.ops.length := by omega
          have hc0 : wr.cell? ⟨m, 0, none⟩ = some (.slice a1 md.tensors.length c1) := (hB.kept hgk (by simp)).cell 0
          clear hB hO
          go_wp2
          clear hc0
          have hlen : by_.length ≤ 255 := by rw [Hbl.out]; exact hn1
          go_loopw [59] (fun i wr => ∃ k : Nat, k ≤ md.tensors.length ∧ i = .int .i64 k ∧ MadeTo md.tensors by_ k ∧ Blk wr w.heap.size 3 (by_.map (Value.int .i64)).toArray ∧ w.grownBy wr none) (fun i _ => md.tensors.length - (intOf i).toNat)
          case atStart => exact ⟨0, Nat.zero_le _, rfl, fun j hj => by omega, hBk, hgk⟩
          case round =>
            clear hBk hgk
            obtain ⟨k, hk3, rfl, hmd, hBk, hgk⟩ := hrel
            by_cases hlt3 : k < md.tensors.length
            · obtain ⟨t, ht⟩ : ∃ t, md.tensors[k]? = some t := ⟨_, List.getElem?_eq_getElem hlt3⟩
              obtain ⟨g, ao, m', cp, rfl, -, -, -, d0, d1, d2, d3, d4, d5⟩ := (hT.kept0 hgk).get k t ht
              have hgl : g < wr.heap.size := World.block_lt_of_cell? wr _ d0
              have hGl := hBk.lt
              have hkl : k < by_.length := by rw [Hbl.out]; exact hlt3
              obtain ⟨x, hx⟩ : ∃ x, by_[k]? = some x := ⟨_, List.getElem?_eq_getElem hkl⟩
              have hcw : wr.cell? ⟨w.heap.size, k, none⟩ = some (.int .i64 x) := by rw [hBk.cell k]; exact ints_get hx
              have ek : ((md.tensors.map (·.kind)).getD k 0 == 3 && decide (by_.getD k 0 < 0)) = (t.kind == 3 && decide (x < 0)) := by
                rw [kind_get ht, List.getD_eq_getElem?_getD, hx]; rfl
              have Hek := hide ek
              have Hmd := hide hmd
              have gn : w.grownBy (wr.alloc (.cells (t6 t.kind t.h t.w t.c t.zero (.slice ao m' cp)) 72)) none := gr_trans hgk (World.grownBy_alloc _ _ _)
              have HBn := hide (hBk.alloc (.cells (t6 t.kind t.h t.w t.c t.zero (.slice ao m' cp)) 72))
              have Hgn := hide gn
              clear ek hmd hT ht hx hBk gn
              by_cases k3 : t.kind = 3
              · have k3' : (t.kind == 3) = true := by simp [k3]
                clear k3
                by_cases hx0 : x < 0
                · have Hn := hide (show M.makers md = none by
                    have e1 := made_not hlt3 (by rw [Hek.out, k3', decide_eq_true hx0]; rfl)
                    simp only [M.makers, Hmk.out, e1]; rfl)
                  go_wp2
                  go_ret2
                  exact ⟨Hgn.out, .inl ⟨Hn.out, rfl⟩⟩
                · have Hst := hide (made_step Hmd.out (by rw [Hek.out, k3', decide_eq_false hx0]; rfl))
                  go_wp2
                  go_roundw
                  case rel => exact ⟨k + 1, by omega, by go_num, Hst.out, HBn.out, Hgn.out⟩
                  case measure => simp [intOf]; omega
              · have k3' : (t.kind == 3) = false := by simp [k3]
                have Hst := hide (made_step Hmd.out (by rw [Hek.out, k3']; rfl))
                clear k3
                go_wp2
                go_roundw
                case rel => exact ⟨k + 1, by omega, by go_num, Hst.out, HBn.out, Hgn.out⟩
                case measure => simp [intOf]; omega
            · obtain rfl : k = md.tensors.length := by omega
              have Hy := hide (show M.makers md = some by_ by simp only [M.makers, Hmk.out, made_end hmd]; rfl)
              have HI := hide (Ints.of_blk (Nat.le_refl _) rfl (by unfold maxLen; omega) hBk : Ints wr w.heap.size (.slice (some ⟨w.heap.size, 0, none⟩) by_.length by_.length) by_)
              clear hmd hT hBk
              go_wp2
              go_ret2
              refine ⟨hgk, .inr ⟨by_, w.heap.size, Hy, hlen, ?_, HI.out⟩⟩
              rw [Hbl.out]
              rfl

end Go.Proofs.Ythfbllgbljimiaa
