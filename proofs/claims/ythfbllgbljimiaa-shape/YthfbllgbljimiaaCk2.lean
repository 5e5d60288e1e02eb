/-
  P4: the limits.
-/
import Derived.Test.YthfbllgbljimiaaCk1
namespace Go.Proofs.Ythfbllgbljimiaa
open Go.RowKit

def part (t : M.Tn) : Int := if t.kind = 0 ∨ t.kind = 3 then M.cellsOf t else 0

theorem sumTo_snoc (l : List M.Tn) (t : M.Tn) : M.sumTo (l ++ [t]) = M.sumTo l + part t := by
  induction l with
  | nil => simp [M.sumTo, part]
  | cons a l ih => simp only [List.cons_append, M.sumTo, ih]; omega

theorem take_snoc_get {α : Type} {l : List α} {k : Nat} {t : α} (h : l[k]? = some t) : l.take (k + 1) = l.take k ++ [t] := by
  have hk : k < l.length := by
    rcases Nat.lt_or_ge k l.length with h' | h'
    · exact h'
    · simp [List.getElem?_eq_none h'] at h
  rw [List.take_succ_eq_append_getElem hk]
  rw [List.getElem?_eq_getElem hk] at h
  injection h with h
  rw [h]

/-- What holds of the first k tensors. -/
structure LimTo (ts : List M.Tn) (k : Nat) (sum : Int) : Prop where
  eq : M.sumTo (ts.take k) = sum
  lo : 0 ≤ sum
  hi : sum ≤ 512 * (k : Int)
  all : (ts.take k).all M.cellsHold = true

theorem LimTo.step {ts : List M.Tn} {k : Nat} {sum : Int} {t : M.Tn} (h : LimTo ts k sum) (ht : ts[k]? = some t) (h1 : 1 ≤ M.cellsOf t) (h2 : M.cellsOf t ≤ 512) : LimTo ts (k + 1) (sum + part t) := by
  have hp : 0 ≤ part t ∧ part t ≤ 512 := by unfold part; split <;> omega
  have e := take_snoc_get ht
  have h3 := h.lo
  have h4 := h.hi
  refine ⟨by rw [e, sumTo_snoc, h.eq], by omega, by simp only [Int.natCast_add, Int.cast_ofNat_Int]; omega, ?_⟩
  rw [e, List.all_append, h.all]
  simp [M.cellsHold]
  omega

theorem lim_bad {md : M.Md} {k : Nat} {t : M.Tn} (ht : md.tensors[k]? = some t) (h : M.cellsOf t < 1 ∨ 512 < M.cellsOf t) : M.limits md = false := by
  have h1 : M.cellsHold t = false := by unfold M.cellsHold; rcases h with h | h <;> simp [h]
  have h2 : md.tensors.all M.cellsHold = false := by
    rw [List.all_eq_false]
    exact ⟨t, List.mem_of_getElem? ht, by simp [h1]⟩
  simp [M.limits, h2]

theorem lim_end {md : M.Md} {sum : Int} (h : LimTo md.tensors md.tensors.length sum) (h1 : md.tensors.length ≤ 24) (h2 : md.ops.length ≤ 16) (h3 : (md.outs.length : Int) ≠ 0) : M.limits md = decide (sum ≤ 2048) := by
  have ha := h.all
  have he := h.eq
  rw [List.take_length] at ha he
  have h4 : md.outs ≠ [] := by intro e; rw [e] at h3; simp at h3
  unfold M.limits
  rw [ha, he]
  have h5 : md.outs.isEmpty = false := by simp [h4]
  rw [h5, show decide (24 < md.tensors.length) = false from by simp; omega, show decide (16 < md.ops.length) = false from by simp; omega]
  simp

theorem lim_head {md : M.Md} (h : 24 < md.tensors.length ∨ 16 < md.ops.length ∨ md.outs.length = 0) : M.limits md = false := by
  have : (decide (24 < md.tensors.length) || decide (16 < md.ops.length) || md.outs.isEmpty) = true := by
    rcases h with h | h | h
    · simp [h]
    · simp [h]
    · have : md.outs = [] := List.eq_nil_of_length_eq_zero h
      simp [this]
  simp only [M.limits, this]
  rfl

set_option maxHeartbeats 1000000 in
theorem limits_c (m : Nat) (md : M.Md) (w : World) (h : Mod w m md) (hw : WfM md) :
    Calls Try.prog 60 #[.pointer (some ⟨m, 0, none⟩)] w fun e w' => e = .returned (.bool (M.limits md)) ∧ w.grownBy w' none := by
  have hn1 := hw.nt
  have hn2 := hw.no
  have hn3 := hw.nu
  have hM := h
  obtain ⟨a1, c1, a2, c2, a3, c3, hB, hT, hO, hU⟩ := h
  have q0 : w.cell? ⟨m, 0, none⟩ = some (.slice a1 md.tensors.length c1) := hB.cell 0
  have q1 : w.cell? ⟨m, 1, none⟩ = some (.slice a2 md.ops.length c2) := hB.cell 1
  have q2 : w.cell? ⟨m, 2, none⟩ = some (.slice a3 md.outs.length c3) := hB.cell 2
  have hml := hB.lt
  clear hB hO hU
  by_cases g1 : 24 < md.tensors.length
  · have He := hide (lim_head (.inl g1))
    clear hT
    go_enter Try.func60, Try.ntmps60
    go_wp2
    go_ret
    exact ⟨ret_bool He.out.symm, World.grownBy.refl _ _⟩
  · by_cases g2 : 16 < md.ops.length
    · have He := hide (lim_head (.inr (.inl g2)))
      clear hT
      go_enter Try.func60, Try.ntmps60
      go_wp2
      go_ret
      exact ⟨ret_bool He.out.symm, World.grownBy.refl _ _⟩
    · by_cases g3 : md.outs.length = 0
      · have He := hide (lim_head (.inr (.inr g3)))
        clear hT
        have g3' : ((md.outs.length : Int) == 0) = true := by simp [g3]
        clear g3
        go_enter Try.func60, Try.ntmps60
        go_wp2
        go_ret
        exact ⟨ret_bool He.out.symm, World.grownBy.refl _ _⟩
      · have g3' : ((md.outs.length : Int) == 0) = false := by simp [g3]
        have g3n : (md.outs.length : Int) ≠ 0 := by omega
        have G3n := hide g3n
        clear g3 g3n
        have g1' : md.tensors.length ≤ 24 := by omega
        have g2' : md.ops.length ≤ 16 := by omega
        clear g1 g2
        go_enter Try.func60, Try.ntmps60
        go_wp2
        go_loopw [34, 3] (fun i v wr => ∃ (k : Nat) (sum : Int), k ≤ md.tensors.length ∧ i = .int .i64 k ∧ v = .int .i64 sum ∧ LimTo md.tensors k sum ∧ w.grownBy wr none) (fun i _ _ => md.tensors.length - (intOf i).toNat)
        case atStart => exact ⟨0, 0, Nat.zero_le _, rfl, rfl, ⟨by simp [M.sumTo], by omega, by simp, by simp⟩, World.grownBy.refl _ _⟩
        case round =>
          obtain ⟨k, sum, hk, rfl, rfl, hL, hgk⟩ := hrel
          by_cases hlt : k < md.tensors.length
          · obtain ⟨t, ht⟩ : ∃ t, md.tensors[k]? = some t := ⟨_, List.getElem?_eq_getElem hlt⟩
            obtain ⟨g, ao, m', cp, rfl, -, -, -, d0, d1, d2, d3, d4, d5⟩ := (hT.kept0 hgk).get k t ht
            have hgl : g < wr.heap.size := World.block_lt_of_cell? wr _ d0
            have wt := hw.ts t (List.mem_of_getElem? ht)
            obtain ⟨m0, m1, n0, n1⟩ := mul3 wt.h0 wt.h1 wt.w0 wt.w1 wt.c0 wt.c1
            have l0 := hL.lo
            have l1 := hL.hi
            have Ht := hide ht
            have HL := hide hL
            clear ht hL hT q0 q1 q2
            go_wp2_with fail
            refine (cellsOf_c t.kind t.h t.w t.c t.zero _ _ wt.h0 wt.h1 wt.w0 wt.w1 wt.c0 wt.c1).mono ?_
            rintro e w3 ⟨rfl, hg3⟩
            have hB3 : Blk w3 wr.heap.size 72 (t6 t.kind t.h t.w t.c t.zero (.slice ao m' cp)) := (Blk.new wr 72 _).kept hg3 (by simp)
            have e0 : w3.cell? ⟨wr.heap.size, 0, none⟩ = some (.int .i64 t.kind) := hB3.cell 0
            have gw3 : w.grownBy w3 none := gr_trans hgk (gr_trans (World.grownBy_alloc _ _ _) hg3)
            clear hB3 hg3 hgk d0 d1 d2 d3 d4 d5
            have hce : t.h * t.w * t.c = M.cellsOf t := rfl
            have hpt : part t = if t.kind = 0 ∨ t.kind = 3 then M.cellsOf t else 0 := rfl
            rw [hce] at n0 n1 ⊢
            clear hce
            have Hpt := hide hpt
            clear hpt
            generalize hcc : M.cellsOf t = c at *
            have Hcc := hide hcc
            clear hcc
            by_cases j1 : c < 1
            · go_wp2
              go_ret
              exact ⟨ret_bool (lim_bad Ht.out (.inl (by rw [Hcc.out]; exact j1))).symm, gw3⟩
            · by_cases j2 : 512 < c
              · go_wp2
                go_ret
                exact ⟨ret_bool (lim_bad Ht.out (.inr (by rw [Hcc.out]; exact j2))).symm, gw3⟩
              · have hstep := LimTo.step HL.out Ht.out (by rw [Hcc.out]; omega) (by rw [Hcc.out]; omega)
                have Hstep := hide hstep
                clear hstep
                by_cases k0 : t.kind = 0
                · have k0' : (t.kind == 0) = true := by simp [k0]
                  have Hk := hide (show part t = c by rw [Hpt.out, if_pos (.inl k0)])
                  clear k0
                  go_wp2
                  go_roundw
                  case rel => exact ⟨k + 1, sum + c, by omega, by go_num, rfl, by have := Hstep.out; rw [Hk.out] at this; exact this, gw3⟩
                  case measure => simp [intOf]; omega
                · have k0' : (t.kind == 0) = false := by simp [k0]
                  by_cases k3 : t.kind = 3
                  · have k3' : (t.kind == 3) = true := by simp [k3]
                    have Hk := hide (show part t = c by rw [Hpt.out, if_pos (.inr k3)])
                    clear k0 k3
                    go_wp2
                    go_roundw
                    case rel => exact ⟨k + 1, sum + c, by omega, by go_num, rfl, by have := Hstep.out; rw [Hk.out] at this; exact this, gw3⟩
                    case measure => simp [intOf]; omega
                  · have k3' : (t.kind == 3) = false := by simp [k3]
                    have Hk := hide (show part t = 0 by rw [Hpt.out, if_neg (by omega)])
                    clear k0 k3
                    go_wp2
                    go_roundw
                    case rel => exact ⟨k + 1, sum, by omega, by go_num, rfl, by have := Hstep.out; rw [Hk.out, Int.add_zero] at this; exact this, gw3⟩
                    case measure => simp [intOf]; omega
          · obtain rfl : k = md.tensors.length := by omega
            have hfin := lim_end hL g1' g2' G3n.out
            have Hfin := hide hfin
            clear hfin hL hT
            go_wp2
            go_ret
            exact ⟨ret_bool Hfin.out.symm, hgk⟩

end Go.Proofs.Ythfbllgbljimiaa
