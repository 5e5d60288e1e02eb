/-
  Read; Compile.
-/
import Derived.Test.YthfbllgbljimiaaCk12
namespace Go.Proofs.Ythfbllgbljimiaa
open Go.RowKit

set_option maxHeartbeats 800000 in
theorem read_c (s : ByteArray) (w : World) (hs : s.size ≤ 9223372036854775807) :
    Calls Try.prog 44 #[.string s] w fun e w' => w.grownBy w' none ∧ ((M.read s ≠ 0 ∧ e = .returned (.tuple #[.pointer none, .int .i64 (M.read s)])) ∨
      (M.read s = 0 ∧ ∃ m, w.heap.size ≤ m ∧ e = .returned (.tuple #[.pointer (some ⟨m, 0, none⟩), .int .i64 0]) ∧ Mod w' m (M.readAll s).1 ∧ WfM (M.readAll s).1)) := by
  by_cases hl : 4096 < s.size
  · have He := hide (show M.read s = 1 by unfold M.read M.parse; rw [if_pos (by rw [if_pos hl]; decide), if_pos hl])
    go_enter Try.func44, Try.ntmps44
    go_wp2_with fail
    refine (parse_long s w hl hs).mono ?_
    rintro e w1 ⟨rfl, hg1⟩
    go_wp2
    go_ret2
    exact ⟨hg1, .inl ⟨by rw [He.out]; decide, by rw [He.out]; rfl⟩⟩
  · go_enter Try.func44, Try.ntmps44
    go_wp2_with fail
    refine (parse_c s w (by omega)).mono ?_
    rintro e w1 ⟨hg1, ⟨hp, rfl⟩ | ⟨hp, m, hm, rfl, hM, hW⟩⟩
    · have He := hide (show M.read s = 2 by unfold M.read; rw [if_pos (by rw [hp]; decide), hp])
      clear hp
      go_wp2
      go_ret2
      exact ⟨hg1, .inl ⟨by rw [He.out]; decide, by rw [He.out]; rfl⟩⟩
    · have He := hide (show M.read s = M.check (M.readAll s).1 by unfold M.read; rw [if_neg (by rw [hp]; decide)])
      clear hp
      obtain ⟨md, hmd⟩ : ∃ md, md = (M.readAll s).1 := ⟨_, rfl⟩
      rw [← hmd] at He hM hW
      have Hmd := hide hmd
      clear hmd
      go_wp2_with fail
      refine (check_c m md w1 hM hW).mono ?_
      rintro e w2 ⟨rfl, hg2⟩
      have G2 := gr_trans hg1 hg2
      have M2 := hM.kept0 hg2
      clear hg1 hg2 hM
      cases hc : (M.check md != 0) with
      | true =>
        have hc' : M.check md ≠ 0 := by simpa using hc
        have Hc := hide hc'
        clear hc'
        go_wp2
        go_ret2
        exact ⟨G2, .inl ⟨by rw [He.out]; exact Hc.out, by rw [He.out]; rfl⟩⟩
      | false =>
        have hc' : M.check md = 0 := by simpa using hc
        have Hc := hide hc'
        clear hc'
        go_wp2
        go_ret2
        exact ⟨G2, .inr ⟨by rw [He.out]; exact Hc.out, m, hm, rfl, by rw [← Hmd.out]; exact M2, by rw [← Hmd.out]; exact hW⟩⟩

/-- How long the inputs of tensors are. -/
def lensOf (ts : List M.Tn) : List Int := (ts.filter fun t => t.kind == 0).map M.cellsOf
theorem lens_in {ts : List M.Tn} {k : Nat} {t : M.Tn} (h : ts[k]? = some t) (hk : t.kind = 0) : lensOf (ts.take (k + 1)) = lensOf (ts.take k) ++ [M.cellsOf t] := by
  rw [take_snoc_get h]; unfold lensOf; simp [hk]
theorem lens_no {ts : List M.Tn} {k : Nat} {t : M.Tn} (h : ts[k]? = some t) (hk : ¬ t.kind = 0) : lensOf (ts.take (k + 1)) = lensOf (ts.take k) := by
  rw [take_snoc_get h]; unfold lensOf; simp [hk]
theorem lens_le (ts : List M.Tn) : (lensOf ts).length ≤ ts.length := by
  unfold lensOf; rw [List.length_map]; exact List.length_filter_le _ _

/-- A plan in block p: of the model md. -/
def Pl (w : World) (p : Nat) (md : M.Md) : Prop :=
  ∃ m av cv, Blk w p 66 #[.pointer (some ⟨m, 0, none⟩), .slice av (lensOf md.tensors).length cv] ∧ Ints w 0 (.slice av (lensOf md.tensors).length cv) (lensOf md.tensors) ∧ Mod w m md ∧ WfM md

theorem Pl.kept0 {w w' : World} {p : Nat} {md : M.Md} (h : Pl w p md) (hg : w.grownBy w' none) : Pl w' p md := by
  obtain ⟨m, av, cv, h1, h2, h3, h4⟩ := h
  exact ⟨m, av, cv, h1.kept hg (by simp), h2.kept0 hg, h3.kept0 hg, h4⟩

set_option maxRecDepth 100000 in
set_option maxHeartbeats 2000000 in
theorem compile_c (s : ByteArray) (w : World) (hs : s.size ≤ 9223372036854775807) :
    Calls Try.prog 41 #[.string s] w fun e w' => w.grownBy w' none ∧ ((M.read s ≠ 0 ∧ e = .returned (.tuple #[.pointer none, .int .i64 (M.read s)])) ∨
      (M.read s = 0 ∧ ∃ q, w.heap.size ≤ q ∧ e = .returned (.tuple #[.pointer (some ⟨q, 0, none⟩), .int .i64 0]) ∧ Pl w' q (M.readAll s).1)) := by
  obtain ⟨i0, hi, hz0, hz1, hz2⟩ := info_parts Try.info3
  go_enter Try.func41, Try.ntmps41
  go_wp2_with fail
  refine (read_c s w hs).mono ?_
  rintro e w1 ⟨hg1, ⟨hr, rfl⟩ | ⟨hr, m, hm, rfl, hM, hW⟩⟩
  · have hr' : (M.read s != 0) = true := by simpa using hr
    have Hr := hide hr
    clear hr
    go_wp2
    go_ret2
    exact ⟨hg1, .inl ⟨Hr.out, rfl⟩⟩
  · have Hr := hide hr
    clear hr
    obtain ⟨md, Hmd⟩ : ∃ md, Hid ((M.readAll s).1 = md) := ⟨_, rfl⟩
    rw [Hmd.out] at hM hW
    have hn1 := hW.nt
    have HW := hide hW
    have HM := hide hM
    clear hW
    obtain ⟨a1, c1, a2, c2, a3, c3, hB, hT, hO, hU⟩ := hM
    have q0 : w1.cell? ⟨m, 0, none⟩ = some (.slice a1 md.tensors.length c1) := hB.cell 0
    have hml := hB.lt
    clear hO hU
    go_wp2
    clear q0
    have hsz := hg1.size
    go_loopw [26] (fun i wr => ∃ (k : Nat) (ls : List Int) (av : Option Addr) (cv : Nat), k ≤ md.tensors.length ∧ i = .int .i64 k ∧ ls.length ≤ k ∧ Hid (ls = lensOf (md.tensors.take k)) ∧ Blk wr w1.heap.size 66 #[.pointer (some ⟨m, 0, none⟩), .slice av ls.length cv] ∧ Ints wr (w1.heap.size + 1) (.slice av ls.length cv) ls ∧ w1.grownBy wr none) (fun i _ => md.tensors.length - (intOf i).toNat)
    case atStart => exact ⟨0, [], none, 0, Nat.zero_le _, rfl, Nat.zero_le _, rfl, Blk.new _ _ _, Ints.nil _ _, World.grownBy_alloc _ _ _⟩
    case round =>
      obtain ⟨k, ls, av, cv, hk, rfl, hll, HL, hBk, hIk, hgk⟩ := hrel
      have hgw := gr_trans hg1 hgk
      by_cases hlt : k < md.tensors.length
      · obtain ⟨t, ht⟩ : ∃ t, md.tensors[k]? = some t := ⟨_, List.getElem?_eq_getElem hlt⟩
        obtain ⟨g, ao, m', cp, rfl, -, -, -, d0, d1, d2, d3, d4, d5⟩ := (hT.kept0 hgk).get k t ht
        have hgl : g < wr.heap.size := World.block_lt_of_cell? wr _ d0
        have hPl := hBk.lt
        have wt := hide (HW.out.ts t (List.mem_of_getElem? ht))
        have Ht := hide ht
        clear ht hT hB
        by_cases hk0 : t.kind = 0
        · have HL2 := hide (lens_in Ht.out hk0)
          rw [← HL.out] at HL2
          have hk0' : (t.kind == 0) = true := by simp [hk0]
          clear hk0
          go_wp2_with fail
          refine (cellsOf_t t (.slice ao m' cp) _ wt.out).mono ?_
          rintro e w3 ⟨rfl, hg3⟩
          have gr3 : wr.grownBy w3 none := gr_trans (World.grownBy_alloc _ _ _) hg3
          have hB3 := hBk.kept gr3 (by simp)
          have hI3 := hIk.kept0 gr3
          have g13 := gr_trans hgk gr3
          have e3 : w3.cell? ⟨w1.heap.size, 1, none⟩ = some (.slice av ls.length cv) := hB3.cell 1
          have f3 := hB3.free 1
          have hsz3 := hB3.lt
          have hcells : -9223372036854775808 ≤ M.cellsOf t ∧ M.cellsOf t ≤ 9223372036854775807 := by
            have := mul3 wt.out.h0 wt.out.h1 wt.out.w0 wt.out.w1 wt.out.c0 wt.out.c1
            unfold M.cellsOf; omega
          clear d0 d1 d2 d3 d4 d5 hg3 gr3 hBk hIk hgk hgw hcells
          generalize M.cellsOf t = q at *
          clear HL
          go_wp2_with (at_builtin; refine wpList_append_own _ rfl _ _ 35 rfl (w1.heap.size + 1) 3 i0 (.int .i64 0) 1 8 Try.underlying35 hi hz0 hz1 hz2 rfl (by decide) _ _ _ rfl (World.ownsRow.alloc hI3 _) ⟨w3.heap.size, 0, none⟩ 1 1 [.int .i64 q] rfl rfl ?c1 ?c2 ?c3 ?c4 ?c5 ?_)
          case c1 => exact news_at1 w3 3 #[.int .i64 q]
          case c2 => intro u hu; simp at hu; subst hu; rfl
          case c3 => unfold maxLen; omega
          case c4 => omega
          case c5 => simp; omega
          intro v' w4 hown' hgrow _
          have hga : w3.grownBy w4 (Value.slice av ls.length cv).ownBlock := gr_trans (World.grownBy_alloc _ _ _) hgrow
          have hlt4 := owns_row_lt hI3
          have hB4 := hB3.kept hga (by intro e; have := hlt4 _ e.symm; omega)
          have g14 : w1.grownBy w4 none := gr_own g13 hga (fun g hg => by have := hlt4 g hg; omega)
          have e4 : w4.cell? ⟨w1.heap.size, 1, none⟩ = some (.slice av ls.length cv) := hB4.cell 1
          have f4 := hB4.free 1
          obtain ⟨av', cv', hv⟩ := owns_shape hown'
          rw [hv] at hown' ⊢
          have hI4 : Ints w4 (w1.heap.size + 1) (.slice av' (ls ++ [q]).length cv') (ls ++ [q]) := by
            unfold Ints; simpa using hown'
          have HI := hide (hI4.kept (gr_set w4 w1.heap.size 1 (.slice av' (ls.length + 1) cv')) (by omega))
          have HB := hide (hB4.set 1 (.slice av' (ls.length + 1) cv'))
          have HG := hide (gr_new g14 (gr_set w4 w1.heap.size 1 (.slice av' (ls.length + 1) cv')) (Nat.le_refl _))
          clear hv hown' hgrow hga hlt4 hI3 g13 hB3 e3 f3 hI4 g14 hB4
          go_wp2
          go_roundw
          case rel =>
            refine ⟨k + 1, ls ++ [q], av', cv', by omega, by go_num, by simp; omega, HL2.out.symm, ?_, ?_, HG.out⟩
            · have e := HB.out; simpa using e
            · have e := HI.out; simpa using e
          case measure => simp [intOf]; omega
        · have hk0' : (t.kind == 0) = false := by simp [hk0]
          have HL2 := hide (lens_no Ht.out hk0)
          rw [← HL.out] at HL2
          have HB := hide (hBk.alloc (.cells (tval t (.slice ao m' cp)) 72))
          have HI := hide (hIk.kept0 (World.grownBy_alloc wr (.cells (tval t (.slice ao m' cp)) 72) none))
          have HG := hide (gr_trans hgk (World.grownBy_alloc wr (.cells (tval t (.slice ao m' cp)) 72) none))
          clear hk0 hBk hIk
          go_wp2
          go_roundw
          case rel => exact ⟨k + 1, ls, av, cv, by omega, by go_num, by omega, HL2.out.symm, HB.out, HI.out, HG.out⟩
          case measure => simp [intOf]; omega
      · obtain rfl : k = md.tensors.length := by omega
        have HP : Hid (Pl wr w1.heap.size md) := by
          have e : ls = lensOf md.tensors := by have := HL.out; rwa [List.take_length] at this
          refine ⟨m, av, cv, ?_, ?_, HM.out.kept0 hgk, HW.out⟩
          · rw [← e]; exact hBk
          · rw [← e]; exact hIk.mono (Nat.zero_le _)
        clear hT hB HM HL hBk hIk
        go_wp2
        go_ret2
        exact ⟨hgw, .inr ⟨Hr.out, _, hsz, rfl, by rw [Hmd.out]; exact HP.out⟩⟩

end Go.Proofs.Ythfbllgbljimiaa
