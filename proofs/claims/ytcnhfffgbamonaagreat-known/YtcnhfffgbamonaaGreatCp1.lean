/-
  Read; Compile: a plan in memory.
-/
import Derived.Test.YtcnhfffgbamonaaGreatCk12
import Derived.Test.YtcnhfffgbamonaaGreatDrA
import Derived.Test.YtcnhfffgbamonaaGreatLyA
import Derived.Test.YtcnhfffgbamonaaGreatSkC
import Derived.Deep.RegionLaw
namespace Go.Proofs.YtcnhfffgbamonaaGreat
open Go.RowKit

set_option maxHeartbeats 800000 in
theorem read_c (s : ByteArray) (w : World) (hs : s.size ≤ 9223372036854775807) :
    Calls Tryz.prog 62 #[.string s] w fun e w' => w.grownBy w' none ∧ ((M.read s ≠ 0 ∧ e = .returned (.tuple #[.pointer none, .int .i64 (M.read s)])) ∨
      (M.read s = 0 ∧ ∃ m, w.heap.size ≤ m ∧ e = .returned (.tuple #[.pointer (some ⟨m, 0, none⟩), .int .i64 0]) ∧ Mod w' m (M.readAll s).1 ∧ WfM (M.readAll s).1)) := by
  by_cases hl : 4096 < s.size
  · have He := hide (show M.read s = 1 by unfold M.read M.parse; rw [if_pos (by rw [if_pos hl]; decide), if_pos hl])
    go_enter Tryz.func62, Tryz.ntmps62
    go_wp2_with fail
    refine (parse_long s w hl hs).mono ?_
    rintro e w1 ⟨rfl, hg1⟩
    go_wp2
    go_ret2
    exact ⟨hg1, .inl ⟨by rw [He.out]; decide, by rw [He.out]; rfl⟩⟩
  · go_enter Tryz.func62, Tryz.ntmps62
    go_wp2_with fail
    refine (parse_c s w (by omega)).mono ?_
    rintro e w1 ⟨hg1, ⟨hp, rfl⟩ | ⟨hp, m, hm, rfl, hM, hW⟩⟩
    · have He := hide (show M.read s = 2 by unfold M.read; rw [if_pos (by rw [hp]; decide), hp])
      clear hp
      go_wp2
      go_ret2
      exact ⟨hg1, .inl ⟨by rw [He.out]; decide, by rw [He.out]; rfl⟩⟩
    · have He := hide (show M.read s = M.check (M.readAll s).1 by unfold M.read; rw [if_neg (by rw [hp]; decide)])
      clear hp
      obtain ⟨md, hmd⟩ : ∃ md, md = (M.readAll s).1 := ⟨_, rfl⟩
      rw [← hmd] at He hM hW
      have Hmd := hide hmd
      clear hmd
      go_wp2_with fail
      refine (check_c m md w1 hM hW).mono ?_
      rintro e w2 ⟨rfl, hg2⟩
      have G2 := gr_trans hg1 hg2
      have M2 := hM.kept0 hg2
      clear hg1 hg2 hM
      cases hc : (M.check md != 0) with
      | true =>
        have hc' : M.check md ≠ 0 := by simpa using hc
        have Hc := hide hc'
        clear hc'
        go_wp2
        go_ret2
        exact ⟨G2, .inl ⟨by rw [He.out]; exact Hc.out, by rw [He.out]; rfl⟩⟩
      | false =>
        have hc' : M.check md = 0 := by simpa using hc
        have Hc := hide hc'
        clear hc'
        go_wp2
        go_ret2
        exact ⟨G2, .inr ⟨by rw [He.out]; exact Hc.out, m, hm, rfl, by rw [← Hmd.out]; exact M2, by rw [← Hmd.out]; exact hW⟩⟩

/-- How long the inputs of tensors are. -/
def lensOf (ts : List M.Tn) : List Int := (ts.filter fun t => t.kind == 0).map M.cellsOf
theorem lens_le (ts : List M.Tn) : (lensOf ts).length ≤ ts.length := by
  unfold lensOf; rw [List.length_map]; exact List.length_filter_le _ _

-- what a plan of a model holds
def pM (md : M.Md) : M.Md := H.shrink md
def pD (md : M.Md) : H.Dr := H.draft (pM md)
def pB (md : M.Md) : List H.Bf := H.lay (pD md).lv

/-- A plan in block p: of the model md; all of it from B on. -/
def PlB (w : World) (B p : Nat) (md : M.Md) : Prop :=
  ∃ m an cn ab cb, B ≤ p ∧ B ≤ m ∧ Blk w p 104 #[.pointer (some ⟨m, 0, none⟩), .int .i64 (H.ins_ (pM md)), .slice an (pD md).nums.length cn, .slice ab (pB md).length cb] ∧
    Mod w m (pM md) ∧ Ints w B (.slice an (pD md).nums.length cn) (pD md).nums ∧ Bfs w B (.slice ab (pB md).length cb) (pB md) ∧ WfM md ∧ O.One md
def Pl (w : World) (p : Nat) (md : M.Md) : Prop := PlB w 0 p md

theorem PlB.kept0 {w w' : World} {B p : Nat} {md : M.Md} (h : PlB w B p md) (hg : w.grownBy w' none) : PlB w' B p md := by
  obtain ⟨m, an, cn, ab, cb, b1, b2, h1, h2, h3, h4, h5, h6⟩ := h
  exact ⟨m, an, cn, ab, cb, b1, b2, h1.kept hg (by simp), h2.kept0 hg, h3.kept0 hg, owns_kept0 h4 hg, h5, h6⟩
theorem Pl.kept0 {w w' : World} {p : Nat} {md : M.Md} (h : Pl w p md) (hg : w.grownBy w' none) : Pl w' p md := PlB.kept0 h hg
theorem PlB.pl {w : World} {B p : Nat} {md : M.Md} (h : PlB w B p md) : Pl w p md := by
  obtain ⟨m, an, cn, ab, cb, b1, b2, h1, h2, h3, h4, h5, h6⟩ := h
  exact ⟨m, an, cn, ab, cb, Nat.zero_le _, Nat.zero_le _, h1, h2, h3.mono (Nat.zero_le _), owns_mono h4 (Nat.zero_le _), h5, h6⟩
theorem Pl.wf {w : World} {p : Nat} {md : M.Md} (h : Pl w p md) : WfM md := by
  obtain ⟨m, an, cn, ab, cb, b1, b2, h1, h2, h3, h4, h5, h6⟩ := h; exact h5

theorem sol_pM {md : M.Md} (h : O.One md) : ∃ C, H.Sol (pM md) C := by
  obtain ⟨C, S⟩ := H.sol_one h
  exact ⟨C, S.shrink⟩
theorem one_read {s : ByteArray} (h : M.read s = 0) : O.One (M.readAll s).1 := by
  have hp : M.parse s = 0 := by
    have h' := h
    unfold M.read at h'
    by_cases c : M.parse s ≠ 0
    · rw [if_pos c] at h'; exact h'
    · simpa using c
  have hc : M.check (M.readAll s).1 = 0 := by have h' := h; unfold M.read at h'; rw [if_neg (by rw [hp]; decide)] at h'; exact h'
  exact O.one_of (M.fit_read s h) hc

set_option maxRecDepth 100000 in
set_option maxHeartbeats 2000000 in
theorem compile_b (s : ByteArray) (w : World) (hs : s.size ≤ 9223372036854775807) :
    Calls Tryz.prog 32 #[.string s] w fun e w' => w.grownBy w' none ∧ ((M.read s ≠ 0 ∧ e = .returned (.tuple #[.pointer none, .int .i64 (M.read s)])) ∨
      (M.read s = 0 ∧ ∃ q, w.heap.size ≤ q ∧ e = .returned (.tuple #[.pointer (some ⟨q, 0, none⟩), .int .i64 0]) ∧ PlB w' w.heap.size q (M.readAll s).1)) := by
  go_enter Tryz.func32, Tryz.ntmps32
  go_wp2_with fail
  refine (read_c s w hs).mono ?_
  rintro e w1 ⟨hg1, ⟨hr, rfl⟩ | ⟨hr, m, hm, rfl, hM, hW⟩⟩
  · have hr' : (M.read s != 0) = true := by simpa using hr
    have Hr := hide hr
    clear hr
    go_wp2
    go_ret2
    exact ⟨hg1, .inl ⟨Hr.out, rfl⟩⟩
  · have Hr := hide hr
    have H1 := hide (one_read hr)
    clear hr
    obtain ⟨md, Hmd⟩ : ∃ md, Hid ((M.readAll s).1 = md) := ⟨_, rfl⟩
    rw [Hmd.out] at hM hW H1
    obtain ⟨C, S⟩ := H.sol_one H1.out
    have HS := hide S.shrink
    have HC := hide (shrink_c m md C w1 hM S)
    have HW := hide hW
    have hm' : w.heap.size ≤ m := hm
    have hmw : m < w1.heap.size := by obtain ⟨_, _, _, _, _, _, hB, -⟩ := hM; exact hB.lt
    have HG1 := hide hg1
    clear hM hW S hg1
    go_wp2_with fail
    refine HC.out.mono ?_
    rintro e w2 ⟨rfl, hM2, hB2⟩
    have hM2' : Mod w2 m (pM md) := hM2
    have HM2 := hide hM2'
    have HS' : Hid (H.Sol (pM md) C) := HS.out
    have HG2 := hide (gr_below_new HG1.out hB2 hm)
    have hs2 := hB2.size
    clear HC hM2 hM2' hB2
    go_wp2_with fail
    refine (drafted_c m (pM md) C w2 HM2.out HS'.out).mono ?_
    rintro e w3 ⟨⟨d, rfl, hd, hD3⟩, hg3⟩
    have hD3' : Drm w3 w2.heap.size d (H.ins_ (pM md)) (pD md) := hD3
    obtain ⟨an, cn, al, cl, hBd, hN, hL⟩ := hD3'
    have p2 : w3.cell? ⟨d, 2, none⟩ = some (.slice al (pD md).lv.length cl) := hBd.cell 2
    have HBd := hide hBd
    have HN := hide hN
    have HL := hide hL
    have HG3 := hide (gr_trans HG2.out hg3)
    have HM3 := hide (HM2.out.kept0 hg3)
    have Pn := H.draft_ok HS'.out
    have hlv : (pD md).lv.length ≤ 100 := by
      have e1 : (pD md).lv.length = H.ins_ (pM md) + (pM md).ops.length := Pn.ll
      have e2 := H.ins_eq (pM md)
      have e3 : H.cnt (pM md).tensors (pM md).tensors.length ≤ (pM md).tensors.length := by unfold H.cnt; exact Nat.le_trans (List.length_filter_le _ _) (by simp)
      have := HS'.out.nt
      have := HS'.out.no
      omega
    have HOne := hide (Pn.one HS'.out)
    have hs3 := HG3.out.size
    have hs23 := hg3.size
    clear hBd hN hL hD3 hg3 Pn
    go_wp2_with fail
    refine (lay_c2 w2.heap.size al (pD md).lv.length cl (pD md).lv w3 HL.out HOne.out hlv).mono ?_
    rintro e w4 ⟨⟨g4, rfl, hB4⟩, hg4⟩
    have HB4 : Hid (Bfs w4 w3.heap.size (.slice (some ⟨g4, 0, none⟩) (pB md).length (pB md).length) (pB md)) := hB4
    have hBd4 := HBd.out.kept hg4 (by simp)
    have p0' : w4.cell? ⟨d, 0, none⟩ = some (.int .i64 (H.ins_ (pM md))) := hBd4.cell 0
    have p1' : w4.cell? ⟨d, 1, none⟩ = some (.slice an (pD md).nums.length cn) := hBd4.cell 1
    have hd4 := hBd4.lt
    have HN4 := hide (HN.out.kept0 hg4)
    have HG4 := hide (gr_trans HG3.out hg4)
    have HM4 := hide (HM3.out.kept0 hg4)
    have hs4 := hg4.size
    have Heb : Hid ((H.lay (pD md).lv).length = (pB md).length) := rfl
    rw [Heb.out]
    clear hB4 hBd4 hg4 p2 HBd HN HL HM3 HG3
    have hga := gr_trans (World.grownBy_alloc w4 (.cells #[.pointer (some ⟨m, 0, none⟩), .int .i64 (H.ins_ (pM md)), .slice an (pD md).nums.length cn, .slice (some ⟨g4, 0, none⟩) (pB md).length (pB md).length] 104) none) (gr_drew _ none)
    have HPl : Hid (PlB (w4.alloc (.cells #[.pointer (some ⟨m, 0, none⟩), .int .i64 (H.ins_ (pM md)), .slice an (pD md).nums.length cn, .slice (some ⟨g4, 0, none⟩) (pB md).length (pB md).length] 104)).drew w.heap.size w4.heap.size md) :=
      ⟨m, an, cn, some ⟨g4, 0, none⟩, (pB md).length, by omega, hm', (Blk.new w4 104 _).drew, HM4.out.kept0 hga, (HN4.out.mono (by have := HG2.out.size; omega)).kept0 hga, owns_kept0 (owns_mono HB4.out (by omega)) hga, HW.out, H1.out⟩
    have HGa := hide (gr_trans HG4.out hga)
    have hw4 : w.heap.size ≤ w4.heap.size := by omega
    clear hga HM4 HN4 HB4 HG4
    go_wp2
    go_region
    all_goals
      go_wp2
      go_ret2
      exact ⟨HGa.out, .inr ⟨Hr.out, w4.heap.size, hw4, rfl, by rw [Hmd.out]; exact HPl.out⟩⟩

theorem compile_c (s : ByteArray) (w : World) (hs : s.size ≤ 9223372036854775807) :
    Calls Tryz.prog 32 #[.string s] w fun e w' => w.grownBy w' none ∧ ((M.read s ≠ 0 ∧ e = .returned (.tuple #[.pointer none, .int .i64 (M.read s)])) ∨
      (M.read s = 0 ∧ ∃ q, w.heap.size ≤ q ∧ e = .returned (.tuple #[.pointer (some ⟨q, 0, none⟩), .int .i64 0]) ∧ Pl w' q (M.readAll s).1)) :=
  (compile_b s w hs).mono fun _ _ ⟨h1, h2⟩ => ⟨h1, h2.imp id fun ⟨h3, q, h4, h5, h6⟩ => ⟨h3, q, h4, h5, h6.pl⟩⟩

end Go.Proofs.YtcnhfffgbamonaaGreat
