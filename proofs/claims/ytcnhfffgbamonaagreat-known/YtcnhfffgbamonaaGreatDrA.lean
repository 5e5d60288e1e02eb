import Derived.Test.YtcnhfffgbamonaaGreatLyA
import Derived.Test.YtcnhfffgbamonaaGreatSkA
import Derived.Test.YtcnhfffgbamonaaGreatSkB
import Derived.StillTailTactics
import Derived.Deep.RegionLaw
import Derived.Deep.AppendLies
import Derived.Test.YtcnhfffgbamonaaGreatSkC
/-
  plan: reach.
-/
namespace Go.Proofs.YtcnhfffgbamonaaGreat
open Go.RowKit

/-- A draft in block d, what it holds from B on. -/
def Drm (w : World) (B d : Nat) (I : Int) (x : H.Dr) : Prop :=
  ∃ an cn al cl, Blk w d 102 #[.int .i64 I, .slice an x.nums.length cn, .slice al x.lv.length cl] ∧ Ints w B (.slice an x.nums.length cn) x.nums ∧ Lvs w B (.slice al x.lv.length cl) x.lv

theorem Drm.kept0 {w w' : World} {B d : Nat} {I : Int} {x : H.Dr} (h : Drm w B d I x) (hg : w.grownBy w' none) : Drm w' B d I x := by
  obtain ⟨an, cn, al, cl, h1, h2, h3⟩ := h
  exact ⟨an, cn, al, cl, h1.kept hg (by simp), h2.kept0 hg, owns_kept0 h3 hg⟩

theorem lf_set (xs : List H.Life) (i : Nat) (x : H.Life) (time : Int) (h : xs[i]? = some x) : (xs.flatMap lfval).set (i * 3 + 1) (.int .i64 time) = (xs.set i ⟨x.f, time, x.c⟩).flatMap lfval :=
  flat_set lfval 3 (fun _ => rfl) xs i 1 x ⟨x.f, time, x.c⟩ (.int .i64 time) h (by decide) rfl

theorem reach_no1 {d : H.Dr} {n time : Int} (h : n < 0 ∨ (d.nums.length : Int) ≤ n) : H.reach time d n = d := by unfold H.reach; rw [if_pos h]
theorem reach_no2 {d : H.Dr} {q : Nat} {time b : Int} (hn : d.nums[q]? = some b) (hb : b < 0 ∨ (d.lv.length : Int) ≤ b) : H.reach time d q = d := by
  have := M.lt_of_some hn
  unfold H.reach H.reachAt
  rw [if_neg (by omega), Int.toNat_natCast, getD_some hn, if_neg (by omega)]
theorem reach_yes {d : H.Dr} {q i : Nat} {time : Int} {x : H.Life} (hn : d.nums[q]? = some (i : Int)) (hx : d.lv[i]? = some x) : H.reach time d q = ⟨d.nums, d.lv.set i ⟨x.f, time, x.c⟩⟩ := by
  have := M.lt_of_some hn
  have := M.lt_of_some hx
  unfold H.reach H.reachAt
  rw [if_neg (by omega), Int.toNat_natCast, getD_some hn, if_pos (by omega), Int.toNat_natCast, getD_some hx]

/-- Nothing was written, or a row of lives. -/
def LvGr (B : Nat) (w w' : World) : Prop := w' = w ∨ ∃ G cs, Blk w G 165 cs ∧ B ≤ G ∧ w.grownBy w' (some G)
theorem LvGr.ints {B B' : Nat} {w w' : World} {v : Value} {l : List Int} (h : LvGr B w w') (hI : Ints w B' v l) : Ints w' B' v l := by
  rcases h with rfl | ⟨G, cs, hB, -, hg⟩
  · exact hI
  · exact owns_apartT hI hB (by decide) hg
theorem LvGr.blk {B g : Nat} {T : TypeId} {cs : Array Value} {w w' : World} (h : LvGr B w w') (hI : Blk w g T cs) (hT : T ≠ 165) : Blk w' g T cs := by
  rcases h with rfl | ⟨G, cs', hB, -, hg⟩
  · exact hI
  · refine hI.kept hg ?_
    intro e
    injection e with e
    subst e
    unfold Blk at hB hI
    rw [hI] at hB
    injection hB with hB
    injection hB with _ hB _
    exact hT hB
theorem LvGr.gr {B : Nat} {a w w' : World} {row : Option Nat} (h : LvGr B w w') (hg : a.grownBy w row) (hB : a.heap.size ≤ B) : a.grownBy w' row := by
  rcases h with rfl | ⟨G, cs', -, hb, hg'⟩
  · exact hg
  · exact gr_new hg hg' (by omega)

set_option maxHeartbeats 1000000 in
theorem reach_c (B d : Nat) (I : Int) (x : H.Dr) (n time : Int) (w : World) (h : Drm w B d I x) (_hn1 : x.nums.length ≤ 1000) (_hn2 : x.lv.length ≤ 1000) :
    Calls Tryz.prog 107 #[.pointer (some ⟨d, 0, none⟩), .int .i64 n, .int .i64 time] w fun e w' => e = .returned (.tuple #[]) ∧ Drm w' B d I (H.reach time x n) ∧ LvGr B w w' := by
  have HD := hide h
  obtain ⟨an, cn, al, cl, hB, hN, hL⟩ := h
  have q1 : w.cell? ⟨d, 1, none⟩ = some (.slice an x.nums.length cn) := hB.cell 1
  have q2 : w.cell? ⟨d, 2, none⟩ = some (.slice al x.lv.length cl) := hB.cell 2
  have HB := hide hB
  clear hB
  by_cases h0 : n < 0
  · have He := hide (reach_no1 (d := x) (time := time) (.inl h0))
    go_enter Tryz.func107, Tryz.ntmps107
    go_wp2
    refine bodyPost_ret (v := .tuple #[]) (by simp [results, Tryz.results107, go_sem]) rfl ?_
    exact ⟨rfl, by rw [He.out]; exact HD.out, .inl rfl⟩
  · by_cases h1 : (x.nums.length : Int) ≤ n
    · have He := hide (reach_no1 (d := x) (time := time) (.inr h1))
      go_enter Tryz.func107, Tryz.ntmps107
      go_wp2
      refine bodyPost_ret (v := .tuple #[]) (by simp [results, Tryz.results107, go_sem]) rfl ?_
      exact ⟨rfl, by rw [He.out]; exact HD.out, .inl rfl⟩
    · obtain ⟨q, rfl⟩ := Int.eq_ofNat_of_zero_le (show 0 ≤ n by omega)
      have hq : q < x.nums.length := by omega
      obtain ⟨b, hb⟩ : ∃ b, x.nums[q]? = some b := ⟨_, List.getElem?_eq_getElem hq⟩
      obtain ⟨g1, rfl, -, -, d1⟩ := hN.get q b hb
      have HN := hide hN
      by_cases h2 : b < 0
      · have He := hide (reach_no2 (time := time) hb (.inl h2))
        clear hb hL hN
        go_enter Tryz.func107, Tryz.ntmps107
        go_wp2
        go_end0
        exact ⟨rfl, by rw [He.out]; exact HD.out, .inl rfl⟩
      · by_cases h3 : (x.lv.length : Int) ≤ b
        · have He := hide (reach_no2 (time := time) hb (.inr h3))
          clear hb hL hN
          go_enter Tryz.func107, Tryz.ntmps107
          go_wp2
          go_end0
          exact ⟨rfl, by rw [He.out]; exact HD.out, .inl rfl⟩
        · obtain ⟨i, rfl⟩ := Int.eq_ofNat_of_zero_le (show 0 ≤ b by omega)
          have hil : i < x.lv.length := by omega
          obtain ⟨y, hy⟩ : ∃ y, x.lv[i]? = some y := ⟨_, List.getElem?_eq_getElem hil⟩
          have He := hide (reach_yes (time := time) hb hy)
          obtain ⟨g2, cur, rfl, -, hBg, hB2, -⟩ := owns_blk hL (by omega)
          obtain ⟨g2', e2, -, -, d2, -⟩ := Lvs.get hL i y hy
          simp only [Option.some.injEq, Addr.mk.injEq, and_true] at e2
          subst e2
          have f2 := hB2.free (i * 3 + 1)
          have HL := hide (show Lvs (w.setCell ⟨g2, i * 3 + 1, none⟩ (.int .i64 time)) B (.slice (some ⟨g2, 0, none⟩) x.lv.length cl) (x.lv.set i ⟨y.f, time, y.c⟩) by
            have := owns_set hL (i * 3 + 1) (.int .i64 time)
            rw [lf_set _ _ _ _ hy] at this
            unfold Lvs; rw [List.length_set]; exact this)
          have HG : Hid (LvGr B w (w.setCell ⟨g2, i * 3 + 1, none⟩ (.int .i64 time))) := .inr ⟨g2, cur, hB2, hBg, gr_set _ _ _ _⟩
          have HB' := hide (HG.out.blk HB.out (by decide))
          have HN' := hide (HG.out.ints HN.out)
          clear hb hy hL hN hB2
          go_enter Tryz.func107, Tryz.ntmps107
          go_wp2
          go_end0
          refine ⟨rfl, ?_, HG.out⟩
          rw [He.out]
          exact ⟨_, _, _, _, by simpa using HB'.out, HN'.out, by simpa using HL.out⟩

end Go.Proofs.YtcnhfffgbamonaaGreat

/-
  plan: begin.
-/
namespace Go.Proofs.YtcnhfffgbamonaaGreat
open Go.RowKit

theorem begin_no {d : H.Dr} {n c time : Int} (h : n < 0 ∨ (d.nums.length : Int) ≤ n) : H.begin_ d n c time = d := by unfold H.begin_; rw [if_pos h]
theorem begin_yes {d : H.Dr} {q : Nat} {c time : Int} (h : q < d.nums.length) : H.begin_ d q c time = ⟨d.nums.set q d.lv.length, d.lv ++ [⟨time, time, c⟩]⟩ := by
  unfold H.begin_; rw [if_neg (by omega), Int.toNat_natCast]
theorem Tryz.info165 : (Tryz.prog.info? 165).map (fun i => (i.zero, i.size, i.bytes)) = some (some (.agg #[.int .i64 0, .int .i64 0, .int .i64 0]), 3, 24) := by kernel_rfl

theorem blk_ne {w : World} {g d : Nat} {T T' : TypeId} {cs cs' : Array Value} (h : Blk w g T cs) (h' : Blk w d T' cs') (hT : T ≠ T') : g ≠ d := by
  rintro rfl
  unfold Blk at h h'
  rw [h] at h'
  injection h' with h'
  injection h' with _ h' _
  exact hT h'

set_option maxRecDepth 100000 in
set_option maxHeartbeats 4000000 in
theorem begin_c (B d : Nat) (I : Int) (x : H.Dr) (n time : Int) (t : M.Tn) (ao : Option Addr) (p cp : Nat) (w : World) (h : Drm w B d I x) (hn1 : x.nums.length ≤ 1000) (hn2 : x.lv.length ≤ 1000) (hB : B ≤ w.heap.size) (wt : WfT t) :
    Calls Tryz.prog 105 #[.pointer (some ⟨d, 0, none⟩), .int .i64 n, .agg #[.int .i64 t.kind, .int .i64 t.h, .int .i64 t.w, .int .i64 t.c, .int .i64 t.zero, .slice ao p cp], .int .i64 time] w fun e w' => e = .returned (.tuple #[]) ∧ Drm w' B d I (H.begin_ x n (M.cellsOf t) time) ∧ Below (min B d) w w' := by
  have HD := hide h
  obtain ⟨an, cn, al, cl, hBd, hN, hL⟩ := h
  have q1 : w.cell? ⟨d, 1, none⟩ = some (.slice an x.nums.length cn) := hBd.cell 1
  have q2 : w.cell? ⟨d, 2, none⟩ = some (.slice al x.lv.length cl) := hBd.cell 2
  have hdl := hBd.lt
  have G0 := hide (World.grownBy_alloc w (.cells #[.int .i64 t.kind, .int .i64 t.h, .int .i64 t.w, .int .i64 t.c, .int .i64 t.zero, .slice ao p cp] 158) none)
  by_cases h0 : n < 0
  · have He := hide (begin_no (d := x) (c := M.cellsOf t) (time := time) (.inl h0))
    go_enter Tryz.func105, Tryz.ntmps105
    go_wp2
    refine bodyPost_ret (v := .tuple #[]) (by simp [results, Tryz.results105, go_sem]) rfl ?_
    exact ⟨rfl, by rw [He.out]; exact HD.out.kept0 G0.out, below_of0 G0.out (by omega)⟩
  · by_cases h1 : (x.nums.length : Int) ≤ n
    · have He := hide (begin_no (d := x) (c := M.cellsOf t) (time := time) (.inr h1))
      go_enter Tryz.func105, Tryz.ntmps105
      go_wp2
      refine bodyPost_ret (v := .tuple #[]) (by simp [results, Tryz.results105, go_sem]) rfl ?_
      exact ⟨rfl, by rw [He.out]; exact HD.out.kept0 G0.out, below_of0 G0.out (by omega)⟩
    · obtain ⟨q, rfl⟩ := Int.eq_ofNat_of_zero_le (show 0 ≤ n by omega)
      have hq : q < x.nums.length := by omega
      obtain ⟨b, hb⟩ : ∃ b, x.nums[q]? = some b := ⟨_, List.getElem?_eq_getElem hq⟩
      obtain ⟨g1, rfl, -, hg1l, d1⟩ := hN.get q b hb
      have He := hide (begin_yes (d := x) (c := M.cellsOf t) (time := time) hq)
      obtain ⟨g1', cur1, e1, -, hBg1, hB1, -⟩ := owns_blk hN (by omega)
      simp only [Option.some.injEq, Addr.mk.injEq, and_true] at e1
      subst e1
      have hne := blk_ne hB1 hBd (by decide)
      have hgl := hB1.lt
      have HN := hide (hN.kept0 G0.out)
      have HL := hide (owns_kept0 hL G0.out)
      have HB1 := hide (hB1.kept G0.out (by simp))
      have HBd := hide (hBd.kept G0.out (by simp))
      have HBt := hide (Blk.new w 158 #[.int .i64 t.kind, .int .i64 t.h, .int .i64 t.w, .int .i64 t.c, .int .i64 t.zero, .slice ao p cp])
      clear hN hL hB1 hBd hb
      go_enter Tryz.func105, Tryz.ntmps105
      go_wp2
      have y1 := cell_kept G0.out q1
      have y2 := cell_kept G0.out q2
      have y3 := cell_kept G0.out d1
      clear q1 q2 d1
      generalize w.alloc (.cells #[.int .i64 t.kind, .int .i64 t.h, .int .i64 t.w, .int .i64 t.c, .int .i64 t.zero, .slice ao p cp] 158) = w1 at *
      go_still_tail 10, (by kernel_rfl)
      show wpList _ _ _ _ _ w1.drew
      have G1 := hide (gr_trans G0.out (gr_drew w1 none))
      have z1 := cell_kept (gr_drew w1 none) y3
      have HN1 := hide (HN.out.kept0 (gr_drew w1 none))
      have HL1 := hide (owns_kept0 HL.out (gr_drew w1 none))
      have HB2 := hide (HB1.out.kept (gr_drew w1 none) (by simp))
      have HBd1 := hide (HBd.out.kept (gr_drew w1 none) (by simp))
      have HBt1 := hide (HBt.out.kept (gr_drew w1 none) (by simp))
      clear y1 y2 y3 G0 HN HL HB1 HBd HBt
      generalize w1.drew = wd at *
      have f1 := HB2.out.free q
      have hgs := gr_set wd g1 q (.int .i64 x.lv.length)
      have HN2 := hide (show Ints (wd.setCell ⟨g1, q, none⟩ (.int .i64 x.lv.length)) B (.slice (some ⟨g1, 0, none⟩) x.nums.length cn) (x.nums.set q x.lv.length) by
        have e := owns_set HN1.out q (.int .i64 x.lv.length)
        unfold Ints
        rw [List.map_set, List.length_set]; exact e)
      have HL2 := hide (owns_apartT HL1.out HB2.out (by decide) hgs)
      have HBd2 := hide (HBd1.out.kept hgs (by simp; omega))
      have HBt2 := hide (HBt1.out.kept hgs (by simp; omega))
      have HG2 := hide (below_trans (below_of0 (B := min B d) G1.out (by omega)) (below_of (B := min B d) hgs (by omega) (by have := G1.out.size; omega)))
      have hsz2 : w.heap.size < (wd.setCell ⟨g1, q, none⟩ (.int .i64 x.lv.length)).heap.size := HBt2.out.lt
      have u0 : wd.cell? ⟨w.heap.size, 0, none⟩ = some (.int .i64 t.kind) := HBt1.out.cell 0
      have u1 : wd.cell? ⟨w.heap.size, 1, none⟩ = some (.int .i64 t.h) := HBt1.out.cell 1
      have u2 : wd.cell? ⟨w.heap.size, 2, none⟩ = some (.int .i64 t.w) := HBt1.out.cell 2
      have u3 : wd.cell? ⟨w.heap.size, 3, none⟩ = some (.int .i64 t.c) := HBt1.out.cell 3
      have u4 : wd.cell? ⟨w.heap.size, 4, none⟩ = some (.int .i64 t.zero) := HBt1.out.cell 4
      have u5 : wd.cell? ⟨w.heap.size, 5, none⟩ = some (.slice ao p cp) := HBt1.out.cell 5
      have hne2 : w.heap.size ≠ g1 := by omega
      have hne3 : ¬ w.heap.size = g1 := hne2
      have hsz3 : w.heap.size < wd.heap.size := HBt1.out.lt
      have hgw := hide hgs
      clear hgs HN1 HL1 HBd1 HBt1 G1
      go_wp2_with fail
      refine (cellsOf_t t (.slice ao p cp) _ wt).mono ?_
      rintro e w3 ⟨rfl, hg3⟩
      have hg3' : (wd.setCell ⟨g1, q, none⟩ (.int .i64 x.lv.length)).grownBy w3 none := gr_trans (World.grownBy_alloc _ _ _) hg3
      have HN3 := hide (HN2.out.kept0 hg3')
      have HL3 := hide (owns_kept0 HL2.out hg3')
      have HBd3 := hide (HBd2.out.kept hg3' (by simp))
      have HBl : Hid (Blk w3 wd.heap.size 165 #[.int .i64 time, .int .i64 time, .int .i64 0]) := by
        have e := (Blk.new (wd.setCell ⟨g1, q, none⟩ (.int .i64 x.lv.length)) 165 #[.int .i64 time, .int .i64 time, .int .i64 0]).kept hg3 (by simp)
        exact (show Blk w3 wd.heap.size 165 _ by simpa using e)
      have hlal : ∀ g, (Value.slice al x.lv.length cl).ownBlock = some g → B ≤ g ∧ g < wd.heap.size := fun g hg => by
        have e := World.ownsRow.lt HL2.out g hg
        exact ⟨e.1, by simpa using e.2⟩
      have Hlal := hide hlal
      clear hlal
      have HG3 := hide (below_trans HG2.out (below_of0 (B := min B d) hg3' (by omega)))
      have l2 : w3.cell? ⟨wd.heap.size, 2, none⟩ = some (.int .i64 0) := HBl.out.cell 2
      have f2 := HBl.out.free 2
      generalize hcq : M.cellsOf t = cq at *
      have Hcq := hide hcq
      clear hcq hg3 hg3' u0 u1 u2 u3 u4 u5 z1 f1 HN2 HL2 HBd2 HBt2 HG2
      have hs4 := gr_set w3 wd.heap.size 2 (.int .i64 cq)
      have hdw : d < wd.heap.size := by omega
      have HN4 := hide (owns_apartT HN3.out HBl.out (by decide) hs4)
      have HL4 : Hid (Lvs (w3.setCell ⟨wd.heap.size, 2, none⟩ (.int .i64 cq)) B (.slice al x.lv.length cl) x.lv) := by
        refine World.ownsRow.kept HL3.out hs4 ?_
        cases hv : (Value.slice al x.lv.length cl).ownBlock with
        | none => exact .inl rfl
        | some g => exact .inr (by intro e; injection e with e; have := (Hlal.out g hv).2; omega)
      have HBd4 := hide (HBd3.out.kept hs4 (by simp; omega))
      have HBl4 : Hid (Blk (w3.setCell ⟨wd.heap.size, 2, none⟩ (.int .i64 cq)) wd.heap.size 165 #[.int .i64 time, .int .i64 time, .int .i64 cq]) := HBl.out.set 2 (.int .i64 cq)
      have HG4 := hide (below_trans HG3.out (below_of (B := min B d) hs4 (by omega) (by have := HBl.out.lt; omega)))
      have hsz4 : wd.heap.size < (w3.setCell ⟨wd.heap.size, 2, none⟩ (.int .i64 cq)).heap.size := HBl4.out.lt
      clear HBl HBd3 HL3 HN3 hs4 HG3
      obtain ⟨i0, hi, hz0, hz1, hz2⟩ := info_parts Tryz.info165
      have Hz0 := hide hz0
      clear hz0
      go_wp2
      clear l2 f2
      generalize w3.setCell ⟨wd.heap.size, 2, none⟩ (.int .i64 cq) = w4 at *
      have c2 : w4.cell? ⟨d, 2, none⟩ = some (.slice al x.lv.length cl) := HBd4.out.cell 2
      have l0 : w4.cell? ⟨wd.heap.size, 0, none⟩ = some (.int .i64 time) := HBl4.out.cell 0
      have l1 : w4.cell? ⟨wd.heap.size, 1, none⟩ = some (.int .i64 time) := HBl4.out.cell 1
      have l2 : w4.cell? ⟨wd.heap.size, 2, none⟩ = some (.int .i64 cq) := HBl4.out.cell 2
      have hd4 : d < w4.heap.size := by omega
      have Hdal : Hid (some d ≠ (Value.slice al x.lv.length cl).ownBlock) := by
        intro e
        rcases own_row HL4.out with h' | ⟨g, cs, h', -, hBg⟩
        · rw [h'] at e; exact absurd e (by simp)
        · rw [h'] at e; injection e with e; subst e; exact blk_ne hBg HBd4.out (by decide) rfl
      go_region_law ((refine step_append_lies _ (by rfl) _ _ _ (by rfl) B 165 i0 (.agg #[.int .i64 0, .int .i64 0, .int .i64 0]) 3 24 Tryz.underlying100 hi Hz0.out hz1 hz2 rfl (by omega) (.slice al x.lv.length cl) x.lv.length (x.lv.flatMap lfval) (by rfl) ((HL4.out.alloc _).drew) ⟨w4.heap.size, 0, none⟩ 1 1 [.int .i64 time, .int .i64 time, .int .i64 cq] (by rfl) rfl (World.news_of_block (cs := #[.int .i64 time, .int .i64 time, .int .i64 cq]) (heap_alloc_new w4 _)) (by intro u hu; simp at hu; rcases hu with rfl | rfl | rfl <;> rfl) (by omega) (by unfold maxLen; omega) (by omega) (by simp; omega) (w4.heap.size + 1) (by simp) ?_; intro g5 c5 w5 hown5 hgrow5 hat5 hlt5; have hga := gr_trans (gr_trans (World.grownBy_alloc w4 _ _) (gr_drew _ _)) hgrow5; have hBd5 := HBd4.out.kept hga Hdal.out; have cd5 : w5.cell? ⟨d, 2, none⟩ = some (.slice al x.lv.length cl) := hBd5.cell 2; have fd5 := hBd5.free 2))
      all_goals
        have HN5 := hide (owns_apart HN4.out HL4.out (by decide) hga)
        have hs5 := gr_set w5 d 2 (.slice (some ⟨g5, 0, none⟩) (x.lv.length + 1) c5)
        have HBd6 := hide (hBd5.set 2 (.slice (some ⟨g5, 0, none⟩) (x.lv.length + 1) c5))
        have HN6 := hide (owns_apartT HN5.out hBd5 (by decide) hs5)
        have HL6 := hide (owns_apartT hown5 hBd5 (by decide) hs5)
        have HG5 : Hid (Below (min B d) w4 w5) := by
          rcases hv : (Value.slice al x.lv.length cl).ownBlock with _ | g
          · rw [hv] at hga; exact below_of0 hga (by omega)
          · rw [hv] at hga; exact below_of hga (by have := (Hlal.out g hv).1; omega) (by omega)
        have HG6 := hide (below_trans (below_trans HG4.out HG5.out) (below_of (B := min B d) hs5 (by omega) (by have := hga.size; omega)))
        clear hs5 hga hown5 hgrow5 hat5 c2 l0 l1 l2
        go_wp2
        go_end0
        refine ⟨rfl, ?_, HG6.out⟩
        rw [Hcq.out, He.out]
        exact ⟨_, _, _, _, by have e := HBd6.out; simpa using e, by have e := HN6.out; unfold Ints; simpa using e, by unfold Lvs; have e := HL6.out; simpa [lfval] using e⟩

end Go.Proofs.YtcnhfffgbamonaaGreat

/-
  plan: drafted.
-/
namespace Go.Proofs.YtcnhfffgbamonaaGreat
open Go.RowKit

theorem wf_sol {md : M.Md} {C : List (List Int)} (S : H.Sol md C) {n : Nat} {t : M.Tn} (h : md.tensors[n]? = some t) : WfT t := by
  have hl := M.lt_of_some h
  have e := tensorAt_yes h
  have d := S.dim n (by omega) (by omega)
  have k := S.kinds n (by omega) (by omega)
  rw [e] at d k
  exact ⟨k.1, k.2, by have := d.h0; omega, d.h1, by have := d.w0; omega, d.w1, by have := d.c0; omega, d.c1, d.z0, d.z1⟩
/-- A number of the draft is written. -/
theorem Drm.num {w : World} {B d g1 cn al_n : Nat} {al : Option Addr} {I : Int} {x : H.Dr} {cl : Nat} (hBd : Blk w d 102 #[.int .i64 I, .slice (some ⟨g1, 0, none⟩) x.nums.length cn, .slice al al_n cl]) (hn : al_n = x.lv.length) (hN : Ints w B (.slice (some ⟨g1, 0, none⟩) x.nums.length cn) x.nums) (hL : Lvs w B (.slice al al_n cl) x.lv)
    (q : Nat) (v : Int) (h0 : 0 < x.nums.length) : Drm (w.setCell ⟨g1, q, none⟩ (.int .i64 v)) B d I ⟨x.nums.set q v, x.lv⟩ ∧ B ≤ g1 := by
  subst hn
  obtain ⟨g1', cur1, e1, -, hBg1, hB1, -⟩ := owns_blk hN h0
  simp only [Option.some.injEq, Addr.mk.injEq, and_true] at e1
  subst e1
  have hne := blk_ne hB1 hBd (by decide)
  have hgs := gr_set w g1 q (.int .i64 v)
  refine ⟨⟨some ⟨g1, 0, none⟩, cn, al, cl, ?_, ?_, owns_apartT hL hB1 (by decide) hgs⟩, hBg1⟩
  · rw [List.length_set]; exact hBd.kept hgs (by intro e; injection e with e; exact hne e.symm)
  · have e := owns_set hN q (.int .i64 v)
    unfold Ints
    rw [List.map_set, List.length_set]; exact e
theorem draftT_in {ts : List M.Tn} {k : Nat} {t : M.Tn} (h : ts[k]? = some t) (h0 : t.kind = 0) : H.draftT ts (k + 1) = H.begin_ ⟨(H.draftT ts k).nums.set k (-1), (H.draftT ts k).lv⟩ k (M.cellsOf t) 0 := by
  rw [H.draftT, h]; simp only; rw [if_pos h0]
theorem draftT_no {ts : List M.Tn} {k : Nat} {t : M.Tn} (h : ts[k]? = some t) (h0 : t.kind ≠ 0) : H.draftT ts (k + 1) = ⟨(H.draftT ts k).nums.set k (-1), (H.draftT ts k).lv⟩ := by
  rw [H.draftT, h]; simp only; rw [if_neg h0]
theorem draftO_step {m : M.Md} {d : H.Dr} {k : Nat} {o : M.Op} (h : m.ops[k]? = some o) : H.draftO m d (k + 1) = H.begin_ ((H.readsL o).foldl (H.reach ((k : Int) + 1)) (H.draftO m d k)) o.to (M.cellsOf (M.tensorAt m o.to)) ((k : Int) + 1) := by
  rw [H.draftO, h]
theorem reach_snoc {l : List Int} {j : Nat} {n time : Int} {d : H.Dr} (h : l[j]? = some n) : (l.take (j + 1)).foldl (H.reach time) d = H.reach time ((l.take j).foldl (H.reach time) d) n := by
  rw [H.take_snoc h, List.foldl_append]; rfl
theorem made_ints (n : Nat) : (madeCells #[Value.int .i64 0] n).toList = (List.replicate n (0 : Int)).map (Value.int .i64) := by
  apply List.ext_getElem?
  intro i
  by_cases h : i < n
  · rw [List.getElem?_map, List.getElem?_replicate, if_pos h]; simp [madeCells, h, Nat.mod_one]
  · rw [List.getElem?_eq_none, List.getElem?_eq_none]
    · simp; omega
    · simp [madeCells]; omega

set_option maxRecDepth 100000 in
set_option maxHeartbeats 8000000 in
theorem drafted_c (m : Nat) (md : M.Md) (C : List (List Int)) (w : World) (h : Mod w m md) (S : H.Sol md C) :
    Calls Tryz.prog 64 #[.pointer (some ⟨m, 0, none⟩)] w fun e w' => (∃ d, e = .returned (.pointer (some ⟨d, 0, none⟩)) ∧ w.heap.size ≤ d ∧ Drm w' w.heap.size d (H.ins_ md) (H.draft md)) ∧ w.grownBy w' none := by
  obtain ⟨j0, hj, hy0, hy1, hy2⟩ := info_parts Tryz.info3
  have hn1 := S.nt
  have hn2 := S.no
  have hn3 := S.nu
  have HS := hide S
  have HM := hide h
  have HTk := hide (fun k hk => H.draftT_ok md.tensors k hk)
  have HOk := hide (fun k hk => H.draftO_ok S (H.draftT_ok md.tensors md.tensors.length (Nat.le_refl _)).ops k hk)
  obtain ⟨a1, c1, a2, c2, a3, c3, hB, hT, hO, hU⟩ := h
  have q0 : w.cell? ⟨m, 0, none⟩ = some (.slice a1 md.tensors.length c1) := hB.cell 0
  have q1 : w.cell? ⟨m, 1, none⟩ = some (.slice a2 md.ops.length c2) := hB.cell 1
  have q2 : w.cell? ⟨m, 2, none⟩ = some (.slice a3 md.outs.length c3) := hB.cell 2
  have Q0 := hide q0
  have Q1 := hide q1
  have Q2 := hide q2
  have hml := hB.lt
  have HT := hide hT
  have HO := hide hO
  have HU := hide hU
  clear hB hT hO hU S q1 q2
  go_enter Tryz.func64, Tryz.ntmps64
  go_wp2_with (at_make; refine wpList_make_full _ rfl _ _ 33 rfl w.heap.size 3 j0 (.int .i64 0) 1 Tryz.underlying33 hj hy0 hy1 _ _ _ _ md.tensors.length rfl rfl rfl rfl ?c1 ?c2 ?c3 ?_)
  case c1 => rw [hy2]; omega
  case c2 => unfold maxLen; omega
  case c3 => exact Nat.le_refl _
  intro w2 hown hg2
  have hown' : Ints w2 w.heap.size (.slice (some ⟨w.heap.size, 0, none⟩) md.tensors.length md.tensors.length) (List.replicate md.tensors.length 0) := by
    unfold Ints
    rw [← made_ints, List.length_replicate]; exact hown
  have hsz2 : w.heap.size ≤ w2.heap.size := hg2.size
  have hgb := World.grownBy_alloc w2 (.cells #[.int .i64 0, .slice (some ⟨w.heap.size, 0, none⟩) md.tensors.length md.tensors.length, .slice none 0 0] 102) none
  have HD0 : Hid (Drm (w2.alloc (.cells #[.int .i64 0, .slice (some ⟨w.heap.size, 0, none⟩) md.tensors.length md.tensors.length, .slice none 0 0] 102)) w.heap.size w2.heap.size 0 (H.draftT md.tensors 0)) :=
    ⟨some ⟨w.heap.size, 0, none⟩, md.tensors.length, none, 0, by
      have e := Blk.new w2 102 #[.int .i64 0, .slice (some ⟨w.heap.size, 0, none⟩) md.tensors.length md.tensors.length, .slice none 0 0]
      show Blk _ _ _ #[.int .i64 0, .slice _ (List.replicate md.tensors.length (0 : Int)).length _, .slice none 0 0]
      rw [List.length_replicate]; exact e, by
      show Ints _ _ (.slice _ (List.replicate md.tensors.length (0 : Int)).length _) (List.replicate md.tensors.length 0)
      rw [List.length_replicate]; exact hown'.kept0 hgb, World.ownsRow_nil _ _ _ _⟩
  have HG0 := hide (gr_trans hg2 hgb)
  have q0' : (w2.alloc (.cells #[.int .i64 0, .slice (some ⟨w.heap.size, 0, none⟩) md.tensors.length md.tensors.length, .slice none 0 0] 102)).cell? ⟨m, 0, none⟩ = some (.slice a1 md.tensors.length c1) := cell_kept HG0.out q0
  have q0'' : w2.cell? ⟨m, 0, none⟩ = some (.slice a1 md.tensors.length c1) := cell_kept hg2 q0
  have hm2 : m < w2.heap.size := by omega
  clear hown hown' hgb hg2 q0
  go_wp2
  clear q0' q0''
  go_loopw [26] (fun i wr => ∃ k : Nat, k ≤ md.tensors.length ∧ i = .int .i64 k ∧ Drm wr w.heap.size w2.heap.size 0 (H.draftT md.tensors k) ∧ w.grownBy wr none) (fun i _ => md.tensors.length - (intOf i).toNat)
  case atStart => exact ⟨0, Nat.zero_le _, rfl, HD0.out, HG0.out⟩
  case round =>
    obtain ⟨k, hk, rfl, hDk, hgk⟩ := hrel
    have HGk := hide hgk
    have D := HTk.out k hk
    have hcn : H.cnt md.tensors k ≤ k := by unfold H.cnt; exact Nat.le_trans (List.length_filter_le _ _) (by simp; omega)
    have hl1 : (H.draftT md.tensors k).nums.length ≤ 24 := by rw [D.ln]; exact hn1
    have hl2 : (H.draftT md.tensors k).lv.length ≤ 24 := by rw [D.ll]; omega
    have HLn := hide D.ln
    clear D
    by_cases hlt : k < md.tensors.length
    · obtain ⟨t, ht⟩ : ∃ t, md.tensors[k]? = some t := ⟨_, List.getElem?_eq_getElem hlt⟩
      obtain ⟨g, ao, m', cp, rfl, -, -, -, d0, d1, d2, d3, d4, d5⟩ := (HT.out.kept0 hgk).get k t ht
      have hgl : g < wr.heap.size := World.block_lt_of_cell? wr _ d0
      have wt := HS.out |> fun S => wf_sol S ht
      have Hwt := hide wt
      have HIn := hide (fun h0 => draftT_in ht h0)
      have HNo := hide (fun h0 => draftT_no ht h0)
      obtain ⟨x, Hx⟩ : ∃ x, Hid (H.draftT md.tensors k = x) := ⟨_, rfl⟩
      rw [Hx.out] at hDk HIn HNo hl1 hl2 HLn
      obtain ⟨an, cn, al, cl, hBd, hN, hL⟩ := hDk
      obtain ⟨b, hb⟩ : ∃ b, x.nums[k]? = some b := ⟨_, List.getElem?_eq_getElem (by rw [HLn.out]; exact hlt)⟩
      obtain ⟨g1, rfl, hg1l, hg1, e1⟩ := hN.get k b hb
      have hkl : k < x.nums.length := by rw [HLn.out]; exact hlt
      have p1 : wr.cell? ⟨w2.heap.size, 1, none⟩ = some (.slice (some ⟨g1, 0, none⟩) x.nums.length cn) := hBd.cell 1
      have hdl := hBd.lt
      have HP := hide (Drm.num hBd rfl hN hL k (-1) (by omega)).1
      have hf1 : wr.frozen? ⟨g1, k, none⟩ = false := by
        obtain ⟨g1', cur1, e1', -, -, hB1, -⟩ := owns_blk hN (by omega)
        simp only [Option.some.injEq, Addr.mk.injEq, and_true] at e1'
        subst e1'
        exact hB1.free k
      have hgs := gr_new hgk (gr_set wr g1 k (.int .i64 (-1))) hg1
      have hga := World.grownBy_alloc (wr.setCell ⟨g1, k, none⟩ (.int .i64 (-1))) (.cells (tval t (.slice ao m' cp)) 158) none
      have HPa := hide (HP.out.kept0 hga)
      have HGa := hide (gr_trans hgs hga)
      have hszs : w.heap.size ≤ (wr.setCell ⟨g1, k, none⟩ (.int .i64 (-1))).heap.size := hgs.size
      clear hBd hN hL hb hgs hga hgk
      cases hk0 : (t.kind == 0) with
      | true =>
        have HI := hide (HIn.out (by simpa using hk0))
        have HC := hide (begin_c w.heap.size w2.heap.size 0 ⟨x.nums.set k (-1), x.lv⟩ k 0 t ao m' cp _ HPa.out (by simp; omega) (by show x.lv.length ≤ 1000; omega) (by simp at hszs ⊢; omega) Hwt.out)
        clear ht
        go_wp2_with fail
        refine HC.out.mono ?_
        rintro e w4 ⟨rfl, hD4, hB4⟩
        have HD4 := hide hD4
        have HG4 := hide (gr_below_new HGa.out hB4 (by omega))
        clear hD4 hB4 HC e1 p1 d0 d1 d2 d3 d4 d5 hf1
        go_wp2
        go_roundw
        case rel => exact ⟨k + 1, by omega, by go_num, by rw [HI.out]; exact HD4.out, HG4.out⟩
        case measure => simp [intOf]; omega
      | false =>
        have HI := hide (HNo.out (by simpa using hk0))
        clear ht
        go_wp2
        go_roundw
        case rel => exact ⟨k + 1, by omega, by go_num, by rw [HI.out]; exact HPa.out, HGa.out⟩
        case measure => simp [intOf]; omega
    · obtain rfl : k = md.tensors.length := by omega
      have HI : Hid (H.ins_ md = (H.draftT md.tensors md.tensors.length).lv.length) := rfl
      have HDf : Hid (H.draft md = md.outs.foldl (H.reach ((md.ops.length : Int) + 1)) (H.draftO md (H.draftT md.tensors md.tensors.length) md.ops.length)) := rfl
      obtain ⟨x, Hx⟩ : ∃ x, Hid (H.draftT md.tensors md.tensors.length = x) := ⟨_, rfl⟩
      rw [Hx.out] at hDk HI HDf HOk hl1 hl2
      obtain ⟨an, cn, al, cl, hBd, hN, hL⟩ := hDk
      have p2 : wr.cell? ⟨w2.heap.size, 2, none⟩ = some (.slice al x.lv.length cl) := hBd.cell 2
      have p0 : wr.cell? ⟨w2.heap.size, 0, none⟩ = some (.int .i64 0) := hBd.cell 0
      have fp := hBd.free 0
      have hgs := gr_set wr w2.heap.size 0 (.int .i64 x.lv.length)
      have HDi : Hid (Drm (wr.setCell ⟨w2.heap.size, 0, none⟩ (.int .i64 x.lv.length)) w.heap.size w2.heap.size x.lv.length x) := ⟨an, cn, al, cl, hBd.set 0 _, owns_apartT hN hBd (by decide) hgs, owns_apartT hL hBd (by decide) hgs⟩
      have HGi := hide (gr_new hgk hgs hsz2)
      have r1 := cell_kept hgk Q1.out
      have hmw : ¬ m = w2.heap.size := by omega
      clear hBd hN hL hgs HTk HT HG0 HD0 HLn hcn hgk HGk
      go_wp2
      clear p0 p2 fp r1
      go_loopw [58] (fun i wq => ∃ k : Nat, k ≤ md.ops.length ∧ i = .int .i64 k ∧ Drm wq w.heap.size w2.heap.size x.lv.length (H.draftO md x k) ∧ w.grownBy wq none) (fun i _ => md.ops.length - (intOf i).toNat)
      case atStart => exact ⟨0, Nat.zero_le _, rfl, HDi.out, HGi.out⟩
      case round =>
        clear HDi HGi
        obtain ⟨k, hk, rfl, hDk, hgk⟩ := hrel
        have D := HOk.out k hk
        have b1 : (H.draftO md x k).nums.length ≤ 24 := by rw [D.ln]; exact hn1
        have b2 : (H.draftO md x k).lv.length ≤ 40 := by rw [D.ll]; omega
        clear D
        by_cases hlt : k < md.ops.length
        · obtain ⟨o, ho⟩ : ∃ o, md.ops[k]? = some o := ⟨_, List.getElem?_eq_getElem hlt⟩
          obtain ⟨g, ao, p, cp, rfl, hgl, -, -, hR⟩ := (HO.out.kept0 hgk).get k o ho
          have HSt := hide (draftO_step (d := x) ho)
          have HL := hide (readsL_len o)
          have Hwt := hide (show WfT (M.tensorAt md o.to) from by
            obtain ⟨t0, t1, -⟩ := HS.out.to o (List.mem_of_getElem? ho)
            exact wf_sol HS.out (O.tensorAt_get t0 t1).1)
          obtain ⟨y, Hy⟩ : ∃ y, Hid (H.draftO md x k = y) := ⟨_, rfl⟩
          rw [Hy.out] at hDk HSt b1 b2
          have HBo := hide (Blk.new wr 142 (oval o (.slice ao p cp)))
          have HG1 := hide (World.grownBy_alloc wr (.cells (oval o (.slice ao p cp)) 142) none)
          have HDk := hide hDk
          have HGk := hide hgk
          clear hDk hgk ho
          go_wp2_with (first | (refine wpList_load_mid rfl 142 _ rfl g (k * 16) rfl (oval o (.slice ao p cp)).toList _ hR Tryz.underlying142 rfl Tryz.size142 ?_) | (refine wpList_store_row rfl 142 _ _ rfl wr.heap.size (oval o (.slice ao p cp)) rfl rfl 142 (o16 0 0 0 0 0 0 0 0 false (.slice none 0 0) 0 0 0 0 0 0) (Blk.new wr 142 _) Tryz.size142 rfl (one16 ..) ?_; rw [World.setRow_alloc_new]; generalize wr.alloc (.cells (oval o (.slice ao p cp)) 142) = w3 at *) | (refine wpList_load_row rfl 142 _ rfl wr.heap.size rfl 142 (oval o (.slice ao p cp)) (0, 0) _ HBo.out Tryz.underlying142 rfl Tryz.size142 ?_))
          refine (reads_o o ao p cp _).mono ?_
          rintro e w4 ⟨⟨g4, rfl, hI4⟩, hg4⟩
          have hg4' := gr_trans HG1.out hg4
          have HD4 := hide (HDk.out.kept0 hg4')
          have HG4 := hide (gr_trans HGk.out hg4')
          have HB4 := hide (HBo.out.kept hg4 (by simp))
          have HI4 := hide hI4
          obtain ⟨ob, Hob⟩ : ∃ ob, Hid (wr.heap.size = ob) := ⟨_, rfl⟩
          rw [Hob.out] at HB4 ⊢
          obtain ⟨L, HLe⟩ : ∃ L, Hid (H.readsL o = L) := ⟨_, rfl⟩
          rw [HLe.out] at HI4 HL HSt ⊢
          have hL := HL.out
          clear hg4 hg4' hI4 hR HBo HG1 HDk
          go_wp2
          go_loopw [66] (fun i wq => ∃ j : Nat, j ≤ L.length ∧ i = .int .i64 j ∧ Drm wq w.heap.size w2.heap.size x.lv.length ((L.take j).foldl (H.reach ((k : Int) + 1)) y) ∧ Ints wq w3.heap.size (.slice (some ⟨g4, 0, none⟩) L.length L.length) L ∧ Blk wq ob 142 (oval o (.slice ao p cp)) ∧ w.grownBy wq none) (fun i _ => L.length - (intOf i).toNat)
          case atStart => exact ⟨0, Nat.zero_le _, rfl, HD4.out, HI4.out, HB4.out, HG4.out⟩
          case round =>
            clear HD4 HI4 HB4 HG4
            obtain ⟨j, hj', rfl, hDj, hIj, hBj, hgj⟩ := hrel
            have Ex := H.reaches_ext ((k : Int) + 1) (L.take j) y
            have e1 : ((L.take j).foldl (H.reach ((k : Int) + 1)) y).nums.length ≤ 24 := by rw [Ex.nums]; exact b1
            have e2 : ((L.take j).foldl (H.reach ((k : Int) + 1)) y).lv.length ≤ 40 := by rw [Ex.len]; exact b2
            clear Ex
            by_cases hjt : j < L.length
            · obtain ⟨n, hn⟩ : ∃ n, L[j]? = some n := ⟨_, List.getElem?_eq_getElem hjt⟩
              obtain ⟨g', hg', -, -, d0⟩ := hIj.get j n hn
              simp only [Option.some.injEq, Addr.mk.injEq, and_true] at hg'
              subst hg'
              have HSn := hide (reach_snoc (time := (k : Int) + 1) (d := y) hn)
              obtain ⟨z, Hz⟩ : ∃ z, Hid ((L.take j).foldl (H.reach ((k : Int) + 1)) y = z) := ⟨_, rfl⟩
              rw [Hz.out] at hDj HSn e1 e2
              have HC := hide (reach_c w.heap.size w2.heap.size x.lv.length z n ((k : Int) + 1) wr hDj (by omega) (by omega))
              have HIj := hide hIj
              have HBj := hide hBj
              have HGj := hide hgj
              clear hn hIj hBj hgj hDj
              go_wp2_with fail
              refine HC.out.mono ?_
              rintro e w6 ⟨rfl, hD6, hl6⟩
              have HD6 := hide hD6
              have HI6 := hide (hl6.ints HIj.out)
              have HB6 := hide (hl6.blk HBj.out (by decide))
              have HG6 := hide (hl6.gr HGj.out (Nat.le_refl _))
              clear hD6 hl6 HC d0
              go_wp2
              go_roundw
              case rel => exact ⟨j + 1, by omega, by go_num, by rw [HSn.out]; exact HD6.out, HI6.out, HB6.out, HG6.out⟩
              case measure => simp [intOf]; omega
            · obtain rfl : j = L.length := by omega
              rw [List.take_length] at hDj e1 e2
              obtain ⟨z, Hz⟩ : ∃ z, Hid (L.foldl (H.reach ((k : Int) + 1)) y = z) := ⟨_, rfl⟩
              rw [Hz.out] at hDj e1 e2 HSt
              have HDj := hide hDj
              have HBj := hide hBj
              have HGj := hide hgj
              have k5 : wr.cell? ⟨ob, 5, none⟩ = some (.int .i64 o.to) := hBj.cell 5
              clear hIj hDj hBj hgj
              go_wp2_with fail
              refine (tensorAt_c m md o.to wr (HM.out.kept0 HGj.out) (by omega)).mono ?_
              rintro e w7 ⟨t, ht, ⟨ta, tp, tc, rfl⟩, hg7⟩
              have hg7' := gr_trans hg7 (World.grownBy_alloc w7 (.cells #[.int .i64 t.kind, .int .i64 t.h, .int .i64 t.w, .int .i64 t.c, .int .i64 t.zero, .slice ta tp tc] 158) none)
              have HD7 := hide (HDj.out.kept0 hg7')
              have HG7 := hide (gr_trans HGj.out hg7')
              have k5' : w7.cell? ⟨ob, 5, none⟩ = some (.int .i64 o.to) := cell_kept hg7 k5
              have ho7 := World.block_lt_of_cell? w7 _ k5'
              have ho7' : ob < w7.heap.size := ho7
              have hw7 : w.heap.size ≤ w7.heap.size := (gr_trans HGj.out hg7).size
              rw [ht.out] at HSt Hwt
              have HC := hide (begin_c w.heap.size w2.heap.size x.lv.length z o.to ((k : Int) + 1) t ta tp tc _ HD7.out (by omega) (by omega) (by simp; omega) Hwt.out)
              clear hg7 hg7' k5 ho7 HDj HBj
              go_wp2_with fail
              refine HC.out.mono ?_
              rintro e w8 ⟨rfl, hD8, hB8⟩
              have HD8 := hide hD8
              have HG8 := hide (gr_below_new HG7.out hB8 (by omega))
              clear hD8 hB8 HC k5'
              go_wp2
              go_roundw
              case rel => exact ⟨k + 1, by omega, by go_num, by rw [HSt.out]; exact HD8.out, HG8.out⟩
              case measure => simp [intOf]; omega
        · obtain rfl : k = md.ops.length := by omega
          have r2 := cell_kept hgk Q2.out
          obtain ⟨y, Hy⟩ : ∃ y, Hid (H.draftO md x md.ops.length = y) := ⟨_, rfl⟩
          rw [Hy.out] at hDk HDf b1 b2
          have HDk := hide hDk
          have HGk := hide hgk
          clear hDk hgk
          go_wp2
          clear r2
          go_loopw [93] (fun i wq => ∃ j : Nat, j ≤ md.outs.length ∧ i = .int .i64 j ∧ Drm wq w.heap.size w2.heap.size x.lv.length ((md.outs.take j).foldl (H.reach ((md.ops.length : Int) + 1)) y) ∧ w.grownBy wq none) (fun i _ => md.outs.length - (intOf i).toNat)
          case atStart => exact ⟨0, Nat.zero_le _, rfl, HDk.out, HGk.out⟩
          case round =>
            clear HDk HGk
            obtain ⟨j, hj', rfl, hDj, hgj⟩ := hrel
            have Ex := H.reaches_ext ((md.ops.length : Int) + 1) (md.outs.take j) y
            have e1 : ((md.outs.take j).foldl (H.reach ((md.ops.length : Int) + 1)) y).nums.length ≤ 24 := by rw [Ex.nums]; exact b1
            have e2 : ((md.outs.take j).foldl (H.reach ((md.ops.length : Int) + 1)) y).lv.length ≤ 40 := by rw [Ex.len]; exact b2
            clear Ex
            by_cases hjt : j < md.outs.length
            · obtain ⟨n, hn⟩ : ∃ n, md.outs[j]? = some n := ⟨_, List.getElem?_eq_getElem hjt⟩
              obtain ⟨g', rfl, -, -, d0⟩ := (HU.out.kept0 hgj).get j n hn
              have HSn := hide (reach_snoc (time := (md.ops.length : Int) + 1) (d := y) hn)
              obtain ⟨z, Hz⟩ : ∃ z, Hid ((md.outs.take j).foldl (H.reach ((md.ops.length : Int) + 1)) y = z) := ⟨_, rfl⟩
              rw [Hz.out] at hDj HSn e1 e2
              have HC := hide (reach_c w.heap.size w2.heap.size x.lv.length z n ((md.ops.length : Int) + 1) wr hDj (by omega) (by omega))
              have r1 := cell_kept hgj Q1.out
              have HGj := hide hgj
              clear hn hgj hDj
              go_wp2_with fail
              refine HC.out.mono ?_
              rintro e w6 ⟨rfl, hD6, hl6⟩
              have HD6 := hide hD6
              have HG6 := hide (hl6.gr HGj.out (Nat.le_refl _))
              clear hD6 hl6 HC d0 r1
              go_wp2
              go_roundw
              case rel => exact ⟨j + 1, by omega, by go_num, by rw [HSn.out]; exact HD6.out, HG6.out⟩
              case measure => simp [intOf]; omega
            · obtain rfl : j = md.outs.length := by omega
              rw [List.take_length] at hDj
              rw [← HDf.out] at hDj
              have HDj := hide hDj
              have HGj := hide hgj
              clear hDj hgj e1 e2
              go_wp2
              go_ret
              exact ⟨⟨w2.heap.size, rfl, hsz2, by rw [HI.out]; exact HDj.out⟩, HGj.out⟩

end Go.Proofs.YtcnhfffgbamonaaGreat
