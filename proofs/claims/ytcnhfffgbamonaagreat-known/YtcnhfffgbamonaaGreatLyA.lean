import Derived.Test.YtcnhfffgbamonaaGreatCk11
import Derived.Test.YtcnhfffgbamonaaGreatHsA
import Derived.Test.YtcnhfffgbamonaaGreatOp5
import Derived.Test.YtcnhfffgbamonaaGreatSkA
/-
  layout: meet, End, isFree.
-/
namespace Go.Proofs.YtcnhfffgbamonaaGreat
open Go.RowKit

def lfval (l : H.Life) : List Value := [.int .i64 l.f, .int .i64 l.t, .int .i64 l.c]
def bfval (b : H.Bf) : List Value := [.int .i64 b.a, .int .i64 b.c]
def Lvs (w : World) (base : Nat) (v : Value) (xs : List H.Life) : Prop := w.ownsRow base 165 3 v xs.length (xs.flatMap lfval)
def Bfs (w : World) (base : Nat) (v : Value) (xs : List H.Bf) : Prop := w.ownsRow base 125 2 v xs.length (xs.flatMap bfval)

theorem Lvs.get {w : World} {base : Nat} {a : Option Addr} {n c : Nat} {xs : List H.Life} (h : Lvs w base (.slice a n c) xs) (i : Nat) (x : H.Life) (hi : xs[i]? = some x) :
    ∃ g, a = some ⟨g, 0, none⟩ ∧ g < w.heap.size ∧ w.cell? ⟨g, i * 3, none⟩ = some (.int .i64 x.f) ∧ w.cell? ⟨g, i * 3 + 1, none⟩ = some (.int .i64 x.t) ∧ w.cell? ⟨g, i * 3 + 2, none⟩ = some (.int .i64 x.c) := by
  have hlt := M.lt_of_some hi
  obtain ⟨g, ha, hb, hn, hc⟩ := owns_some h (by omega)
  have key : ∀ j, j < 3 → w.cell? ⟨g, i * 3 + j, none⟩ = (lfval x)[j]? := by
    intro j hj
    rw [hc _ (by omega)]
    exact flat_get lfval 3 (fun a => rfl) xs i j x hi hj
  have k0 : w.cell? ⟨g, i * 3 + 0, none⟩ = some (.int .i64 x.f) := key 0 (by omega)
  exact ⟨g, ha, World.block_lt_of_cell? w _ k0, k0, key 1 (by omega), key 2 (by omega)⟩
theorem Lvs.len {w : World} {base : Nat} {a : Option Addr} {n c : Nat} {xs : List H.Life} (h : Lvs w base (.slice a n c) xs) : n = xs.length := by
  obtain ⟨ao, c', e⟩ := owns_shape h
  injection e
theorem Bfs.get {w : World} {base : Nat} {a : Option Addr} {n c : Nat} {xs : List H.Bf} (h : Bfs w base (.slice a n c) xs) (i : Nat) (x : H.Bf) (hi : xs[i]? = some x) :
    ∃ g, a = some ⟨g, 0, none⟩ ∧ g < w.heap.size ∧ w.cell? ⟨g, i * 2, none⟩ = some (.int .i64 x.a) ∧ w.cell? ⟨g, i * 2 + 1, none⟩ = some (.int .i64 x.c) := by
  have hlt := M.lt_of_some hi
  obtain ⟨g, ha, hb, hn, hc⟩ := owns_some h (by omega)
  have key : ∀ j, j < 2 → w.cell? ⟨g, i * 2 + j, none⟩ = (bfval x)[j]? := by
    intro j hj
    rw [hc _ (by omega)]
    exact flat_get bfval 2 (fun a => rfl) xs i j x hi hj
  have k0 : w.cell? ⟨g, i * 2 + 0, none⟩ = some (.int .i64 x.a) := key 0 (by omega)
  exact ⟨g, ha, World.block_lt_of_cell? w _ k0, k0, key 1 (by omega)⟩
theorem Bfs.len {w : World} {base : Nat} {a : Option Addr} {n c : Nat} {xs : List H.Bf} (h : Bfs w base (.slice a n c) xs) : n = xs.length := by
  obtain ⟨ao, c', e⟩ := owns_shape h
  injection e
theorem getD_some {α : Type} {l : List α} {i : Nat} {x d : α} (h : l[i]? = some x) : l.getD i d = x := by rw [List.getD, h]; rfl

set_option maxHeartbeats 400000 in
theorem meet_c (x y : H.Life) (w : World) : Calls Tryz.prog 174 #[.agg #[.int .i64 x.f, .int .i64 x.t, .int .i64 x.c], .agg #[.int .i64 y.f, .int .i64 y.t, .int .i64 y.c]] w fun e w' => e = .returned (.bool (H.meet x y)) ∧ w.grownBy w' none := by
  by_cases h1 : x.f ≤ y.t
  · by_cases h2 : y.f ≤ x.t
    · have He := hide (show H.meet x y = true by unfold H.meet; rw [decide_eq_true h1, decide_eq_true h2]; rfl)
      go_enter Tryz.func174, Tryz.ntmps174
      go_wp2
      go_ret
      exact ⟨ret_bool He.out.symm, gr_alloc2 _ _ _ _⟩
    · have He := hide (show H.meet x y = false by unfold H.meet; rw [decide_eq_false h2, Bool.and_false])
      go_enter Tryz.func174, Tryz.ntmps174
      go_wp2
      go_ret
      exact ⟨ret_bool He.out.symm, gr_alloc2 _ _ _ _⟩
  · have He := hide (show H.meet x y = false by unfold H.meet; rw [decide_eq_false h1, Bool.false_and])
    go_enter Tryz.func174, Tryz.ntmps174
    go_wp2
    go_ret
    exact ⟨ret_bool He.out.symm, gr_alloc2 _ _ _ _⟩

/-- Numbers that lie far within 64 bits. -/
def BfOk (ld : List H.Bf) : Prop := ∀ (i : Nat) b, ld[i]? = some b → 0 ≤ b.a ∧ b.a ≤ 1000000 ∧ 0 ≤ b.c ∧ b.c ≤ 1000000

theorem end_bound {ld : List H.Bf} (h : BfOk ld) (k : Nat) : 0 ≤ H.endTo ld k ∧ H.endTo ld k ≤ 2000000 := by
  refine ⟨H.end_nonneg _ _, H.end_le (by decide) _ fun i _ => ?_⟩
  rw [List.getD]
  cases e : ld[i]? with
  | none => decide
  | some b =>
    have := h i b e
    show b.a + b.c ≤ _
    omega
theorem end_step {ld : List H.Bf} {k : Nat} {b : H.Bf} (h : ld[k]? = some b) : H.endTo ld (k + 1) = if H.endTo ld k < b.a + b.c then b.a + b.c else H.endTo ld k := by
  rw [H.endTo, getD_some h]; rfl

set_option maxHeartbeats 1000000 in
theorem end_c (B : Nat) (a : Option Addr) (n c : Nat) (ld : List H.Bf) (w : World) (hI : Bfs w B (.slice a n c) ld) (hl : ld.length ≤ 1000) (hb : BfOk ld) :
    Calls Tryz.prog 118 #[.slice a n c] w fun e w' => e = .returned (.int .i64 (H.endOf ld)) ∧ w.grownBy w' none := by
  obtain rfl := hI.len
  have Hb := hide hb
  clear hb
  go_enter Tryz.func118, Tryz.ntmps118
  go_wp2
  go_loopw [3, 8] (fun s i wr => ∃ k : Nat, k ≤ ld.length ∧ i = .int .i64 k ∧ s = .int .i64 (H.endTo ld k) ∧ w.grownBy wr none) (fun _ i _ => ld.length - (intOf i).toNat)
  case atStart => exact ⟨0, Nat.zero_le _, rfl, rfl, World.grownBy.refl _ _⟩
  case round =>
    obtain ⟨k, hk, rfl, rfl, hgk⟩ := hrel
    have hs := end_bound Hb.out k
    by_cases hlt : k < ld.length
    · obtain ⟨b, hx⟩ : ∃ b, ld[k]? = some b := ⟨_, List.getElem?_eq_getElem hlt⟩
      obtain ⟨g, rfl, hgl, d0, d1⟩ := Bfs.get (owns_kept0 hI hgk) k b hx
      have hbb := Hb.out k b hx
      have HE := hide (end_step hx)
      have HG := hide (gr_trans hgk (World.grownBy_alloc wr (.cells (bfval b).toArray 125) none))
      clear hx hI
      generalize H.endTo ld k = s at *
      obtain ⟨ba, bc⟩ := b
      simp only at *
      by_cases hc : s < ba + bc
      · rw [if_pos hc] at HE
        go_wp2
        go_roundw
        case rel => exact ⟨k + 1, by omega, by go_num, by rw [HE.out], HG.out⟩
        case measure => simp [intOf]; omega
      · rw [if_neg hc] at HE
        go_wp2
        go_roundw
        case rel => exact ⟨k + 1, by omega, by go_num, by rw [HE.out], HG.out⟩
        case measure => simp [intOf]; omega
    · obtain rfl : k = ld.length := by omega
      have He := hide (show H.endTo ld ld.length = H.endOf ld from rfl)
      clear hI
      go_wp2
      go_ret
      exact ⟨ret_int He.out, hgk⟩

end Go.Proofs.YtcnhfffgbamonaaGreat

/-
  layout: isFree, largest, lowest.
-/
namespace Go.Proofs.YtcnhfffgbamonaaGreat
open Go.RowKit

theorem meet_b (x y : H.Life) (b : Bool) (w : World) (h : H.meet x y = b) : Calls Tryz.prog 174 #[.agg #[.int .i64 x.f, .int .i64 x.t, .int .i64 x.c], .agg #[.int .i64 y.f, .int .i64 y.t, .int .i64 y.c]] w fun e w' => e = .returned (.bool b) ∧ w.grownBy w' none := by
  subst h; exact meet_c x y w

theorem free_step {lv : List H.Life} {ld : List H.Bf} {l : H.Life} {p : Int} {k : Nat} {x : H.Life} {b : H.Bf} (hx : lv[k]? = some x) (hb : ld[k]? = some b) (h : H.freeTo lv ld l p k = true) (hc : H.clash x b l p = false) : H.freeTo lv ld l p (k + 1) = true := by
  refine H.free_iff.mpr fun i hi => ?_
  rcases (show i < k ∨ i = k by omega) with h' | rfl
  · exact H.free_iff.mp h i h'
  · rw [getD_some hx, getD_some hb]; exact hc
theorem free_no {lv : List H.Life} {ld : List H.Bf} {l : H.Life} {p : Int} {k n : Nat} {x : H.Life} {b : H.Bf} (hx : lv[k]? = some x) (hb : ld[k]? = some b) (hk : k < n) (hc : H.clash x b l p = true) : H.freeTo lv ld l p n = false := by
  cases e : H.freeTo lv ld l p n with
  | false => rfl
  | true =>
    have := H.free_iff.mp e k hk
    rw [getD_some hx, getD_some hb, hc] at this
    exact absurd this (by decide)

set_option maxRecDepth 100000 in
set_option maxHeartbeats 2000000 in
theorem isFree_c (B1 B2 : Nat) (a1 a2 : Option Addr) (n1 c1 n2 c2 : Nat) (lv : List H.Life) (ld : List H.Bf) (l : H.Life) (p : Int) (w : World) (h1 : Lvs w B1 (.slice a1 n1 c1) lv) (h2 : Bfs w B2 (.slice a2 n2 c2) ld) (hl : lv.length = ld.length) (hn : ld.length ≤ 1000) (hb : BfOk ld)
    (hp0 : 0 ≤ p) (hp1 : p ≤ 2000000) (hc0 : 0 ≤ l.c) (hc1 : l.c ≤ 1000000) :
    Calls Tryz.prog 150 #[.slice a1 n1 c1, .slice a2 n2 c2, .agg #[.int .i64 l.f, .int .i64 l.t, .int .i64 l.c], .int .i64 p] w fun e w' => e = .returned (.bool (H.isFree lv ld l p)) ∧ w.grownBy w' none := by
  obtain rfl := h1.len
  obtain rfl := h2.len
  have Hb := hide hb
  have HF : Hid (H.isFree lv ld l p = H.freeTo lv ld l p ld.length) := by unfold Hid H.isFree; rw [hl, Nat.min_self]
  have hl1 : lv.length ≤ ld.length := by omega
  have hl2 : ld.length ≤ lv.length := by omega
  clear hl
  have H1 := hide h1
  have H2 := hide h2
  have N0 := hide (Blk.new w 165 #[.int .i64 l.f, .int .i64 l.t, .int .i64 l.c])
  have G0 := hide (World.grownBy_alloc w (.cells #[.int .i64 l.f, .int .i64 l.t, .int .i64 l.c] 165) none)
  clear hb h1 h2
  go_enter Tryz.func150, Tryz.ntmps150
  go_wp2
  go_loopw [9] (fun i wr => ∃ k : Nat, k ≤ ld.length ∧ i = .int .i64 k ∧ H.freeTo lv ld l p k = true ∧ Blk wr w.heap.size 165 #[.int .i64 l.f, .int .i64 l.t, .int .i64 l.c] ∧ w.grownBy wr none) (fun i _ => ld.length - (intOf i).toNat)
  case atStart => exact ⟨0, Nat.zero_le _, rfl, rfl, N0.out, G0.out⟩
  case round =>
    obtain ⟨k, hk, rfl, hfr, hBk, hgk⟩ := hrel
    have Hfr := hide hfr
    clear hfr
    by_cases hlt : k < ld.length
    · obtain ⟨x, hx⟩ : ∃ x, lv[k]? = some x := ⟨_, List.getElem?_eq_getElem (by omega)⟩
      obtain ⟨b, hb⟩ : ∃ b, ld[k]? = some b := ⟨_, List.getElem?_eq_getElem hlt⟩
      obtain ⟨g1, rfl, -, d0, d1, d2⟩ := Lvs.get (owns_kept0 H1.out hgk) k x hx
      obtain ⟨g2, rfl, -, e0, e1⟩ := Bfs.get (owns_kept0 H2.out hgk) k b hb
      obtain ⟨b0, b1, b2, b3⟩ := Hb.out k b hb
      have Hno := hide fun hc => free_no (n := ld.length) (l := l) (p := p) hx hb hlt hc
      have Hst := hide fun hc => free_step (l := l) (p := p) hx hb Hfr.out hc
      have f0 : wr.cell? ⟨w.heap.size, 0, none⟩ = some (.int .i64 l.f) := hBk.cell 0
      have f1 : wr.cell? ⟨w.heap.size, 1, none⟩ = some (.int .i64 l.t) := hBk.cell 1
      have f2 : wr.cell? ⟨w.heap.size, 2, none⟩ = some (.int .i64 l.c) := hBk.cell 2
      have HBk := hide hBk
      have HGk := hide hgk
      clear hx hb hBk hgk
      go_wp2
      go_quiet (fail)
      obtain ⟨wq, hwq⟩ : ∃ wq, wq = wr.drewN nq := ⟨_, rfl⟩
      rw [← hwq]
      have HGq := hide (show wr.grownBy wq none by rw [hwq]; exact gr_drewN _ _ _)
      clear hwq
      have r0 := cell_regrown (cell_kept HGq.out d0)
      have r1 := cell_regrown (cell_kept HGq.out d1)
      have r2 := cell_regrown (cell_kept HGq.out d2)
      have r3 := cell_regrown (cell_kept HGq.out f0)
      have r4 := cell_regrown (cell_kept HGq.out f1)
      have r5 := cell_regrown (cell_kept HGq.out f2)
      have r6 := cell_regrown (cell_kept HGq.out e0)
      clear d0 d1 d2 e0 e1 f0 f1 f2
      cases hm : H.meet x l with
      | false =>
        have Hc := hide (show H.clash x b l p = false by unfold H.clash; rw [hm]; rfl)
        have Hm := hide hm
        clear hm
        have HC := hide (regrown_call (w := wq) fun W _ => (meet_b x l false W Hm.out))
        go_wp2
        refine wp_region_quiet_below (by kernel_rfl) (by kernel_rfl) ?_
        quiet_step (fail)
        quiet_step (fail)
        quiet_step (fail)
        quiet_step (fail)
        quiet_step (fail)
        quiet_step (exact HC.out _ _)
        go_big_quiet_step (fail)
        go_big_quiet_step (fail)
        go_big_quiet_step (fail)
        go_big_quiet_step (fail)
        go_big_quiet_step (fail)
        go_big_quiet_step (fail)
        go_big_quiet_step (fail)
        go_big_quiet_step (fail)
        go_big_quiet_step (fail)
        go_big_quiet_step (fail)
        go_big_quiet_step (fail)
        go_big_quiet_step (fail)
        go_big_quiet_step (fail)
        go_big_quiet_step (fail)
        go_big_quiet_step (fail)
        go_big_quiet_step (fail)
        go_big_quiet_step (fail)
        refine wpQuiet_nil ?_
        intro _ hw'
        obtain ⟨⟨dq, osq⟩, hw''⟩ := hw'
        subst hw''
        have g7 := gr_trans HGq.out (below_gr (below_regrown wq dq osq))
        have HB7 := hide (HBk.out.kept g7 (by simp))
        have HG7 := hide (gr_trans HGk.out g7)
        clear g7 r0 r1 r2 r3 r4 r5 r6 HC
        generalize Go.Sort.grow (redrawn wq dq) osq = w7 at *
        go_wp2
        go_roundw
        case rel => exact ⟨k + 1, by omega, by go_num, Hst.out Hc.out, HB7.out, HG7.out⟩
        case measure => simp [intOf]; omega
      | true =>
        have Hm := hide hm
        by_cases h1 : p < b.a + b.c
        · have hd1 : decide (p < b.a + b.c) = true := by simpa using h1
          by_cases h2 : b.a < p + l.c
          · have hd2 : decide (b.a < p + l.c) = true := by simpa using h2
            have Hc := hide (show H.clash x b l p = true by unfold H.clash; rw [hm, decide_eq_true (show p < b.e from h1), decide_eq_true h2]; rfl)
            clear hm
            have HC := hide (regrown_call (w := wq) fun W _ => (meet_b x l true W Hm.out))
            go_wp2
            refine wp_region_quiet_below (by kernel_rfl) (by kernel_rfl) ?_
            quiet_step (fail)
            quiet_step (fail)
            quiet_step (fail)
            quiet_step (fail)
            quiet_step (fail)
            quiet_step (exact HC.out _ _)
            go_big_quiet_step (fail)
            go_big_quiet_step (fail)
            go_big_quiet_step (fail)
            go_big_quiet_step (fail)
            go_big_quiet_step (fail)
            go_big_quiet_step (fail)
            go_big_quiet_step (fail)
            go_big_quiet_step (fail)
            go_big_quiet_step (fail)
            go_big_quiet_step (fail)
            go_big_quiet_step (fail)
            go_big_quiet_step (fail)
            go_big_quiet_step (fail)
            go_big_quiet_step (fail)
            go_big_quiet_step (fail)
            go_big_quiet_step (fail)
            go_big_quiet_step (fail)
            refine wpQuiet_nil ?_
            intro _ hw'
            obtain ⟨⟨dq, osq⟩, hw''⟩ := hw'
            subst hw''
            have g7 := gr_trans HGq.out (below_gr (below_regrown wq dq osq))
            have HB7 := hide (HBk.out.kept g7 (by simp))
            have HG7 := hide (gr_trans HGk.out g7)
            clear g7 r0 r1 r2 r3 r4 r5 r6 HC
            generalize Go.Sort.grow (redrawn wq dq) osq = w7 at *
            go_wp2
            go_ret
            exact ⟨ret_bool (by rw [HF.out, Hno.out Hc.out]), HG7.out⟩
          · have hd2 : decide (b.a < p + l.c) = false := by simpa using h2
            have Hc := hide (show H.clash x b l p = false by unfold H.clash; rw [decide_eq_false h2, Bool.and_false])
            clear hm
            have HC := hide (regrown_call (w := wq) fun W _ => (meet_b x l true W Hm.out))
            go_wp2
            refine wp_region_quiet_below (by kernel_rfl) (by kernel_rfl) ?_
            quiet_step (fail)
            quiet_step (fail)
            quiet_step (fail)
            quiet_step (fail)
            quiet_step (fail)
            quiet_step (exact HC.out _ _)
            go_big_quiet_step (fail)
            go_big_quiet_step (fail)
            go_big_quiet_step (fail)
            go_big_quiet_step (fail)
            go_big_quiet_step (fail)
            go_big_quiet_step (fail)
            go_big_quiet_step (fail)
            go_big_quiet_step (fail)
            go_big_quiet_step (fail)
            go_big_quiet_step (fail)
            go_big_quiet_step (fail)
            go_big_quiet_step (fail)
            go_big_quiet_step (fail)
            go_big_quiet_step (fail)
            go_big_quiet_step (fail)
            go_big_quiet_step (fail)
            go_big_quiet_step (fail)
            refine wpQuiet_nil ?_
            intro _ hw'
            obtain ⟨⟨dq, osq⟩, hw''⟩ := hw'
            subst hw''
            have g7 := gr_trans HGq.out (below_gr (below_regrown wq dq osq))
            have HB7 := hide (HBk.out.kept g7 (by simp))
            have HG7 := hide (gr_trans HGk.out g7)
            clear g7 r0 r1 r2 r3 r4 r5 r6 HC
            generalize Go.Sort.grow (redrawn wq dq) osq = w7 at *
            go_wp2
            go_roundw
            case rel => exact ⟨k + 1, by omega, by go_num, Hst.out Hc.out, HB7.out, HG7.out⟩
            case measure => simp [intOf]; omega
        · have hd1 : decide (p < b.a + b.c) = false := by simpa using h1
          have Hc := hide (show H.clash x b l p = false by unfold H.clash; rw [decide_eq_false (show ¬ p < b.e from h1), Bool.and_false, Bool.false_and])
          clear hm
          have HC := hide (regrown_call (w := wq) fun W _ => (meet_b x l true W Hm.out))
          go_wp2
          refine wp_region_quiet_below (by kernel_rfl) (by kernel_rfl) ?_
          quiet_step (fail)
          quiet_step (fail)
          quiet_step (fail)
          quiet_step (fail)
          quiet_step (fail)
          quiet_step (exact HC.out _ _)
          go_big_quiet_step (fail)
          go_big_quiet_step (fail)
          go_big_quiet_step (fail)
          go_big_quiet_step (fail)
          go_big_quiet_step (fail)
          go_big_quiet_step (fail)
          go_big_quiet_step (fail)
          go_big_quiet_step (fail)
          go_big_quiet_step (fail)
          go_big_quiet_step (fail)
          go_big_quiet_step (fail)
          go_big_quiet_step (fail)
          go_big_quiet_step (fail)
          go_big_quiet_step (fail)
          go_big_quiet_step (fail)
          go_big_quiet_step (fail)
          go_big_quiet_step (fail)
          refine wpQuiet_nil ?_
          intro _ hw'
          obtain ⟨⟨dq, osq⟩, hw''⟩ := hw'
          subst hw''
          have g7 := gr_trans HGq.out (below_gr (below_regrown wq dq osq))
          have HB7 := hide (HBk.out.kept g7 (by simp))
          have HG7 := hide (gr_trans HGk.out g7)
          clear g7 r0 r1 r2 r3 r4 r5 r6 HC
          generalize Go.Sort.grow (redrawn wq dq) osq = w7 at *
          go_wp2
          go_roundw
          case rel => exact ⟨k + 1, by omega, by go_num, Hst.out Hc.out, HB7.out, HG7.out⟩
          case measure => simp [intOf]; omega
    · obtain rfl : k = ld.length := by omega
      go_wp2
      go_ret
      exact ⟨ret_bool (by rw [HF.out, Hfr.out]), hgk⟩

set_option maxHeartbeats 1000000 in
theorem largest_c (B1 B2 : Nat) (a1 a2 : Option Addr) (n1 c1 n2 c2 : Nat) (lv : List H.Life) (ld : List H.Bf) (w : World) (h1 : Lvs w B1 (.slice a1 n1 c1) lv) (h2 : Bfs w B2 (.slice a2 n2 c2) ld) (hl : lv.length = ld.length) (hn : ld.length ≤ 1000) :
    Calls Tryz.prog 109 #[.slice a1 n1 c1, .slice a2 n2 c2] w fun e w' => e = .returned (.int .i64 (H.largest lv ld)) ∧ w' = w := by
  obtain rfl := h1.len
  obtain rfl := h2.len
  have HF : Hid (H.largest lv ld = (H.bestTo lv ld ld.length).1) := by unfold Hid H.largest; rw [hl, Nat.min_self]
  have hl1 : lv.length ≤ ld.length := by omega
  have hl2 : ld.length ≤ lv.length := by omega
  clear hl
  go_enter Tryz.func109, Tryz.ntmps109
  go_wp2
  go_loopw [5, 6, 7] (fun b m i wr => ∃ k : Nat, k ≤ ld.length ∧ i = .int .i64 k ∧ b = .int .i64 (H.bestTo lv ld k).1 ∧ m = .int .i64 (H.bestTo lv ld k).2 ∧ wr = w) (fun _ _ i _ => ld.length - (intOf i).toNat)
  case atStart => exact ⟨0, Nat.zero_le _, rfl, rfl, rfl, rfl⟩
  case round =>
    obtain ⟨k, hk, rfl, rfl, rfl, rfl⟩ := hrel
    by_cases hlt : k < ld.length
    · obtain ⟨x, hx⟩ : ∃ x, lv[k]? = some x := ⟨_, List.getElem?_eq_getElem (by omega)⟩
      obtain ⟨b, hb⟩ : ∃ b, ld[k]? = some b := ⟨_, List.getElem?_eq_getElem hlt⟩
      obtain ⟨g1, rfl, -, d0, d1, d2⟩ := Lvs.get h1 k x hx
      obtain ⟨g2, rfl, -, e0, e1⟩ := Bfs.get h2 k b hb
      have HS : Hid (H.bestTo lv ld (k + 1) = if b.c = 0 ∧ (H.bestTo lv ld k).2 < x.c then ((k : Int), x.c) else H.bestTo lv ld k) := by
        unfold Hid; rw [H.bestTo, getD_some hx, getD_some hb]
      clear hx hb h1 h2 d0 d1
      generalize H.bestTo lv ld k = s at *
      obtain ⟨s1, s2⟩ := s
      simp only at *
      cases hz : (b.c == 0) with
      | false =>
        have hz' : ¬ (b.c = 0 ∧ s2 < x.c) := fun h => by simp [h.1] at hz
        rw [if_neg hz'] at HS
        clear hz'
        go_wp2
        go_roundw
        case rel => exact ⟨k + 1, by omega, by go_num, by rw [HS.out], by rw [HS.out], by trivial⟩
        case measure => simp [intOf]; omega
      | true =>
        have hz1 : b.c = 0 := by simpa using hz
        by_cases hs : s2 < x.c
        · rw [if_pos ⟨hz1, hs⟩] at HS
          clear hz1
          go_wp2
          go_roundw
          case rel => exact ⟨k + 1, by omega, by go_num, by rw [HS.out], by rw [HS.out], by trivial⟩
          case measure => simp [intOf]; omega
        · rw [if_neg (fun h => hs h.2)] at HS
          clear hz1
          go_wp2
          go_roundw
          case rel => exact ⟨k + 1, by omega, by go_num, by rw [HS.out], by rw [HS.out], by trivial⟩
          case measure => simp [intOf]; omega
    · obtain rfl : k = ld.length := by omega
      clear h1 h2
      go_wp2
      go_ret
      exact ⟨ret_int (by rw [HF.out]), rfl⟩

end Go.Proofs.YtcnhfffgbamonaaGreat

/-
  layout: lowest, Lay.
-/
namespace Go.Proofs.YtcnhfffgbamonaaGreat
open Go.RowKit

theorem low_step {lv : List H.Life} {ld : List H.Bf} {l : H.Life} {k : Nat} {b : H.Bf} (h : ld[k]? = some b) : H.lowTo lv ld l (k + 1) = if b.a + b.c < H.lowTo lv ld l k ∧ H.isFree lv ld l (b.a + b.c) = true then b.a + b.c else H.lowTo lv ld l k := by
  rw [H.lowTo, getD_some h]; rfl
theorem low_bound {lv : List H.Life} {ld : List H.Bf} {l : H.Life} (h : BfOk ld) : ∀ k, 0 ≤ H.lowTo lv ld l k ∧ H.lowTo lv ld l k ≤ 2000000
  | 0 => end_bound h _
  | k + 1 => by
    have ih := low_bound (lv := lv) (l := l) h k
    cases e : ld[k]? with
    | none =>
      have : H.lowTo lv ld l (k + 1) = if (ld.getD k H.noB).e < H.lowTo lv ld l k ∧ H.isFree lv ld l (ld.getD k H.noB).e = true then (ld.getD k H.noB).e else H.lowTo lv ld l k := rfl
      rw [this, List.getD, e]
      have e0 : ((none : Option H.Bf).getD H.noB).e = 0 := rfl
      rw [e0]
      split <;> omega
    | some b =>
      have hb := h k b e
      rw [low_step e]
      split <;> omega

set_option maxRecDepth 100000 in
set_option maxHeartbeats 2000000 in
theorem lowest_c (B1 B2 : Nat) (a1 a2 : Option Addr) (n1 c1 n2 c2 : Nat) (lv : List H.Life) (ld : List H.Bf) (l : H.Life) (w : World) (h1 : Lvs w B1 (.slice a1 n1 c1) lv) (h2 : Bfs w B2 (.slice a2 n2 c2) ld) (hl : lv.length = ld.length) (hn : ld.length ≤ 1000) (hb : BfOk ld)
    (hc0 : 0 ≤ l.c) (hc1 : l.c ≤ 1000000) :
    Calls Tryz.prog 110 #[.slice a1 n1 c1, .slice a2 n2 c2, .agg #[.int .i64 l.f, .int .i64 l.t, .int .i64 l.c]] w fun e w' => e = .returned (.int .i64 (H.lowest lv ld l)) ∧ w.grownBy w' none := by
  obtain rfl := h2.len
  have Hb := hide hb
  have H1 := hide h1
  have H2 := hide h2
  have N0 := hide (Blk.new w 165 #[.int .i64 l.f, .int .i64 l.t, .int .i64 l.c])
  have G0 := hide (World.grownBy_alloc w (.cells #[.int .i64 l.f, .int .i64 l.t, .int .i64 l.c] 165) none)
  have HC := hide (isFree_c B1 B2 a1 a2 n1 c1 ld.length c2 lv ld l 0 _ (owns_kept0 h1 G0.out) (owns_kept0 h2 G0.out) hl hn hb (by decide) (by decide) hc0 hc1)
  have Hl := hide hl
  clear hb h1 h2 hl
  go_enter Tryz.func110, Tryz.ntmps110
  go_wp2_with fail
  refine HC.out.mono ?_
  rintro e w1 ⟨rfl, hg1⟩
  have HG1 := hide (gr_trans G0.out hg1)
  have N1 := hide (N0.out.kept hg1 (by simp))
  clear HC hg1
  cases hf : H.isFree lv ld l 0 with
  | true =>
    have He := hide (show H.lowest lv ld l = 0 by unfold H.lowest; rw [if_pos hf])
    clear hf
    go_wp2
    go_ret
    exact ⟨ret_int He.out.symm, HG1.out⟩
  | false =>
    have He := hide (show H.lowest lv ld l = H.lowTo lv ld l ld.length by unfold H.lowest; rw [if_neg (by rw [hf]; decide)])
    clear hf
    go_wp2_with fail
    refine (end_c B2 a2 ld.length c2 ld w1 (owns_kept0 H2.out HG1.out) hn Hb.out).mono ?_
    rintro e w2 ⟨rfl, hg2⟩
    have HG2 := hide (gr_trans HG1.out hg2)
    have N2 := hide (N1.out.kept hg2 (by simp))
    clear hg2 N0 N1 G0 HG1
    go_wp2
    go_loopw [7, 19] (fun b i wr => ∃ k : Nat, k ≤ ld.length ∧ i = .int .i64 k ∧ b = .int .i64 (H.lowTo lv ld l k) ∧ Blk wr w.heap.size 165 #[.int .i64 l.f, .int .i64 l.t, .int .i64 l.c] ∧ w.grownBy wr none) (fun _ i _ => ld.length - (intOf i).toNat)
    case atStart => exact ⟨0, Nat.zero_le _, rfl, rfl, N2.out, HG2.out⟩
    case round =>
      obtain ⟨k, hk, rfl, rfl, hBk, hgk⟩ := hrel
      have hs := low_bound (lv := lv) (l := l) Hb.out k
      by_cases hlt : k < ld.length
      · obtain ⟨b, hx⟩ : ∃ b, ld[k]? = some b := ⟨_, List.getElem?_eq_getElem hlt⟩
        obtain ⟨g, rfl, hgl, d0, d1⟩ := Bfs.get (owns_kept0 H2.out hgk) k b hx
        have hbb := Hb.out k b hx
        have HE := hide (low_step (lv := lv) (l := l) hx)
        have HGa := hide (World.grownBy_alloc wr (.cells (bfval b).toArray 125) none)
        have HG := hide (gr_trans hgk HGa.out)
        have hB3 := hBk.kept HGa.out (by simp)
        have hwl := hBk.lt
        have HB3 := hide hB3
        have f0 : wr.cell? ⟨w.heap.size, 0, none⟩ = some (.int .i64 l.f) := hBk.cell 0
        have f1 : wr.cell? ⟨w.heap.size, 1, none⟩ = some (.int .i64 l.t) := hBk.cell 1
        have f2 : wr.cell? ⟨w.heap.size, 2, none⟩ = some (.int .i64 l.c) := hBk.cell 2
        have HC := hide (fun (p : Int) (p0 : 0 ≤ p) (p1 : p ≤ 2000000) => isFree_c B1 B2 a1 (some ⟨g, 0, none⟩) n1 c1 ld.length c2 lv ld l p (wr.alloc (.cells (bfval b).toArray 125)) (owns_kept0 H1.out HG.out) (owns_kept0 H2.out HG.out) Hl.out hn Hb.out p0 p1 hc0 hc1)
        clear hx hB3 hBk hgk
        generalize H.lowTo lv ld l k = s at *
        obtain ⟨ba, bc⟩ := b
        simp only at *
        by_cases hc : ba + bc < s
        · have HC2 := hide (HC.out (ba + bc) (by omega) (by omega))
          go_wp2_with fail
          refine HC2.out.mono ?_
          rintro e w5 ⟨rfl, hg5⟩
          have HG5 := hide (gr_trans HG.out hg5)
          have HB5 := hide (HB3.out.kept hg5 (by simp))
          clear hg5 f0 f1 f2 d0 d1 HC HC2
          cases hf : H.isFree lv ld l (ba + bc) with
          | true =>
            rw [if_pos ⟨hc, hf⟩] at HE
            clear hf
            go_wp2
            go_roundw
            case rel => exact ⟨k + 1, by omega, by go_num, by rw [HE.out], HB5.out, HG5.out⟩
            case measure => simp [intOf]; omega
          | false =>
            rw [if_neg (by rw [hf]; simp)] at HE
            clear hf
            go_wp2
            go_roundw
            case rel => exact ⟨k + 1, by omega, by go_num, by rw [HE.out], HB5.out, HG5.out⟩
            case measure => simp [intOf]; omega
        · rw [if_neg (fun h => hc h.1)] at HE
          go_wp2
          go_roundw
          case rel => exact ⟨k + 1, by omega, by go_num, by rw [HE.out], HB3.out, HG.out⟩
          case measure => simp [intOf]; omega
      · obtain rfl : k = ld.length := by omega
        go_wp2
        go_ret
        exact ⟨ret_int He.out.symm, hgk⟩

-- Lay
theorem lay_stop {lv : List H.Life} {k : Nat} (h : H.largest lv (H.layTo lv k) < 0 ∨ ((H.layTo lv k).length : Int) ≤ H.largest lv (H.layTo lv k)) : ∀ j, H.layTo lv (k + j) = H.layTo lv k
  | 0 => rfl
  | j + 1 => by
    show H.layStep lv (H.layTo lv (k + j)) = _
    rw [lay_stop h j]; unfold H.layStep; rw [if_pos h]
theorem lay_ok {lv : List H.Life} (hc : ∀ i, i < lv.length → 1 ≤ (lv.getD i H.noL).c ∧ (lv.getD i H.noL).c ≤ 512) (hn : lv.length ≤ 100) (k : Nat) : BfOk (H.layTo lv k) ∧ (H.layTo lv k).length = lv.length := by
  have L := (H.lay_to (fun i hi => (hc i hi).1) k).1
  refine ⟨fun i b hb => ?_, L.len⟩
  have hi : i < (H.layTo lv k).length := M.lt_of_some hb
  have hil : i < lv.length := by rw [← L.len]; exact hi
  have hs : ∀ (l : List H.Bf), (∀ b ∈ l, 0 ≤ b.c ∧ b.c ≤ 512) → 0 ≤ H.sumC l ∧ H.sumC l ≤ 512 * (l.length : Int) := by
    intro l
    induction l with
    | nil => intro _; simp [H.sumC]
    | cons x l ih =>
      intro h
      have h1 := h x List.mem_cons_self
      have h2 := ih fun b hb => h b (List.mem_cons_of_mem _ hb)
      simp only [H.sumC, List.length_cons]
      omega
  have hall : ∀ b ∈ H.layTo lv k, 0 ≤ b.c ∧ b.c ≤ 512 := by
    intro b' hb'
    obtain ⟨j, hj⟩ := List.getElem?_of_mem hb'
    have hjl : j < lv.length := by rw [← L.len]; exact M.lt_of_some hj
    have := L.at_ j hjl
    rw [getD_some hj] at this
    have h2 := hc j hjl
    rcases this with e | e
    · rw [e]; decide
    · rw [e.1]; omega
  have h3 := hs _ hall
  have h4 := L.sum
  have h5 := H.endOf_ge hi
  rw [getD_some hb] at h5
  have h6 := L.at_ i hil
  rw [getD_some hb] at h6
  have h7 := hall b (List.mem_of_getElem? hb)
  have h8 : b.e = b.a + b.c := rfl
  have h9 := L.len
  rcases h6 with e | e
  · rw [e]; decide
  · omega
theorem bf_set (xs : List H.Bf) (i : Nat) (x y : H.Bf) (h : xs[i]? = some x) : ((xs.flatMap bfval).set (i * 2) (.int .i64 y.a)).set (i * 2 + 1) (.int .i64 y.c) = (xs.set i y).flatMap bfval := by
  have e1 := flat_set bfval 2 (fun _ => rfl) xs i 0 x ⟨y.a, x.c⟩ (.int .i64 y.a) h (by decide) rfl
  rw [Nat.add_zero] at e1
  rw [e1]
  have h2 : (xs.set i ⟨y.a, x.c⟩)[i]? = some ⟨y.a, x.c⟩ := by rw [List.getElem?_set, if_pos rfl, if_pos (M.lt_of_some h)]
  have e2 := flat_set bfval 2 (fun _ => rfl) (xs.set i ⟨y.a, x.c⟩) i 1 ⟨y.a, x.c⟩ y (.int .i64 y.c) h2 (by decide) rfl
  rw [e2, List.set_set]
theorem lay_put {lv : List H.Life} {k i : Nat} {x : H.Life} (h : H.largest lv (H.layTo lv k) = i) (hi : i < (H.layTo lv k).length) (hx : lv[i]? = some x) : H.layTo lv (k + 1) = (H.layTo lv k).set i ⟨H.lowest lv (H.layTo lv k) x, x.c⟩ := by
  show H.layStep lv (H.layTo lv k) = _
  unfold H.layStep
  rw [h, if_neg (by omega), Int.toNat_natCast]
  unfold H.put
  rw [getD_some hx]
theorem Tryz.info125 : (Tryz.prog.info? 125).map (fun i => (i.zero, i.size, i.bytes)) = some (some (.agg #[.int .i64 0, .int .i64 0]), 2, 16) := by kernel_rfl
theorem made_bufs (n : Nat) : (madeCells #[.int .i64 0, .int .i64 0] (n * 2)).toList = (List.replicate n H.noB).flatMap bfval := by
  apply List.ext_getElem?
  intro i
  by_cases h : i < n * 2
  · have e1 := flat_get bfval 2 (fun _ => rfl) (List.replicate n H.noB) (i / 2) (i % 2) H.noB (by rw [List.getElem?_replicate, if_pos (by omega)]) (by omega)
    rw [show i / 2 * 2 + i % 2 = i by omega] at e1
    rw [e1]
    rcases (show i % 2 = 0 ∨ i % 2 = 1 by omega) with e | e <;> rw [e] <;> simp [madeCells, h, bfval, H.noB, e]
  · rw [List.getElem?_eq_none, List.getElem?_eq_none]
    · simp [List.length_flatMap, bfval]; omega
    · simp [madeCells]; omega

set_option maxRecDepth 100000 in
set_option maxHeartbeats 2000000 in
theorem lay_c2 (B : Nat) (a1 : Option Addr) (n1 c1 : Nat) (lv : List H.Life) (w : World) (h1 : Lvs w B (.slice a1 n1 c1) lv) (hc : ∀ i, i < lv.length → 1 ≤ (lv.getD i H.noL).c ∧ (lv.getD i H.noL).c ≤ 512) (hn : lv.length ≤ 100) :
    Calls Tryz.prog 65 #[.slice a1 n1 c1] w fun e w' => (∃ g, e = .returned (.slice (some ⟨g, 0, none⟩) (H.lay lv).length (H.lay lv).length) ∧ Bfs w' w.heap.size (.slice (some ⟨g, 0, none⟩) (H.lay lv).length (H.lay lv).length) (H.lay lv)) ∧ w.grownBy w' none := by
  obtain rfl := h1.len
  obtain ⟨i0, hi, hz0, hz1, hz2⟩ := info_parts Tryz.info125
  have H1 := hide h1
  have HOk := hide (fun k => lay_ok hc hn k)
  have Hc := hide hc
  have HLay : Hid (H.layTo lv lv.length = H.lay lv) := rfl
  clear h1 hc
  go_enter Tryz.func65, Tryz.ntmps65
  go_wp2_with (at_make; refine wpList_make_full _ rfl _ _ 98 rfl w.heap.size 125 i0 (.agg #[.int .i64 0, .int .i64 0]) 2 Tryz.underlying98 hi hz0 hz1 _ _ _ _ lv.length rfl rfl rfl rfl ?c1 ?c2 ?c3 ?_)
  case c1 => rw [hz2]; omega
  case c2 => unfold maxLen; omega
  case c3 => exact Nat.le_refl _
  intro w2 hown hg2
  have HB2 := hide (show Bfs w2 w.heap.size (.slice (some ⟨w.heap.size, 0, none⟩) lv.length lv.length) (H.layTo lv 0) by
    unfold Bfs
    rw [made_bufs] at hown
    have e : H.layTo lv 0 = List.replicate lv.length H.noB := rfl
    rw [e, List.length_replicate]; exact hown)
  clear hown
  go_wp2
  go_loopw [11] (fun i wr => ∃ k : Nat, k ≤ lv.length ∧ i = .int .i64 k ∧ Bfs wr w.heap.size (.slice (some ⟨w.heap.size, 0, none⟩) lv.length lv.length) (H.layTo lv k) ∧ w.grownBy wr none) (fun i _ => lv.length - (intOf i).toNat)
  case atStart => exact ⟨0, Nat.zero_le _, rfl, HB2.out, hg2⟩
  case round =>
    obtain ⟨k, hk, rfl, hBk, hgk⟩ := hrel
    obtain ⟨ok1, ok2⟩ := HOk.out k
    have HBk := hide hBk
    have HGk := hide hgk
    by_cases hlt : k < lv.length
    · have HC := hide (largest_c B w.heap.size a1 (some ⟨w.heap.size, 0, none⟩) lv.length c1 lv.length lv.length lv (H.layTo lv k) wr (owns_kept0 H1.out hgk) hBk ok2.symm (by omega))
      have Hok1 := hide ok1
      have Hok2 := hide ok2
      clear hBk hgk ok1 ok2
      go_wp2_with fail
      refine HC.out.mono ?_
      rintro e w3 ⟨rfl, rfl⟩
      clear HC
      by_cases c1' : H.largest lv (H.layTo lv k) < 0
      · have HE := hide (lay_stop (.inl c1') (lv.length - k))
        rw [show k + (lv.length - k) = lv.length by omega, HLay.out] at HE
        generalize H.largest lv (H.layTo lv k) = q at *
        go_wp2
        go_ret
        have hl : (H.lay lv).length = lv.length := by rw [HE.out]; exact Hok2.out
        refine ⟨⟨w.heap.size, ?_, ?_⟩, HGk.out⟩
        · rw [hl]; rfl
        · rw [hl, HE.out]; exact HBk.out
      · by_cases c2' : (lv.length : Int) ≤ H.largest lv (H.layTo lv k)
        · have HE := hide (lay_stop (.inr (by rw [Hok2.out]; exact c2')) (lv.length - k))
          rw [show k + (lv.length - k) = lv.length by omega, HLay.out] at HE
          generalize H.largest lv (H.layTo lv k) = q at *
          go_wp2
          go_ret
          have hl : (H.lay lv).length = lv.length := by rw [HE.out]; exact Hok2.out
          refine ⟨⟨w.heap.size, ?_, ?_⟩, HGk.out⟩
          · rw [hl]; rfl
          · rw [hl, HE.out]; exact HBk.out
        · obtain ⟨i, hq⟩ := Int.eq_ofNat_of_zero_le (show 0 ≤ H.largest lv (H.layTo lv k) by omega)
          have hil : i < lv.length := by omega
          obtain ⟨x, hx⟩ : ∃ x, lv[i]? = some x := ⟨_, List.getElem?_eq_getElem hil⟩
          obtain ⟨y, hy⟩ : ∃ y, (H.layTo lv k)[i]? = some y := ⟨_, List.getElem?_eq_getElem (by rw [Hok2.out]; exact hil)⟩
          obtain ⟨g1, rfl, -, d0, d1, d2⟩ := Lvs.get (owns_kept0 H1.out HGk.out) i x hx
          obtain ⟨g2, e2, -, e0, e1⟩ := Bfs.get HBk.out i y hy
          simp only [Option.some.injEq, Addr.mk.injEq, and_true] at e2
          subst e2
          have hxc := Hc.out i hil
          rw [getD_some hx] at hxc
          have HP := hide (lay_put hq (by rw [Hok2.out]; exact hil) hx)
          have HS := hide (fun z => bf_set (H.layTo lv k) i y z hy)
          have HC := hide (lowest_c B w.heap.size (some ⟨g1, 0, none⟩) (some ⟨w.heap.size, 0, none⟩) lv.length c1 lv.length lv.length lv (H.layTo lv k) x w3 (owns_kept0 H1.out HGk.out) HBk.out Hok2.out.symm (by rw [Hok2.out]; omega) Hok1.out (by omega) (by omega))
          rw [hq]
          clear hq hx hy c1' c2'
          obtain ⟨p, Hp⟩ : ∃ p, Hid (H.lowest lv (H.layTo lv k) x = p) := ⟨_, rfl⟩
          rw [Hp.out] at HC HP
          go_wp2_with fail
          refine HC.out.mono ?_
          rintro e w4 ⟨rfl, hg4⟩
          have HB4 := hide (owns_kept0 HBk.out hg4)
          have HG4 := hide (gr_trans HGk.out hg4)
          have d2' := cell_kept hg4 d2
          have e0' := cell_kept hg4 e0
          have e1' := cell_kept hg4 e1
          have hfr : ∀ j, w4.frozen? ⟨w.heap.size, j, none⟩ = false := by
            obtain ⟨g5, cur, e5, -, -, hB5, -⟩ := owns_blk HB4.out (by rw [Hok2.out]; omega)
            simp only [Option.some.injEq, Addr.mk.injEq, and_true] at e5
            subst e5
            exact fun j => hB5.free j
          have f0 := hfr (i * 2)
          have f1 := hfr (i * 2 + 1)
          have HB6 := hide (owns_set (owns_set HB4.out (i * 2) (.int .i64 p)) (i * 2 + 1) (.int .i64 x.c))
          have HG6 := hide (gr_new (gr_new HG4.out (gr_set w4 w.heap.size (i * 2) (.int .i64 p)) (Nat.le_refl _)) (gr_set (w4.setCell ⟨w.heap.size, i * 2, none⟩ (.int .i64 p)) w.heap.size (i * 2 + 1) (.int .i64 x.c)) (Nat.le_refl _))
          clear hg4 d0 d1 d2 e0 e1 hfr HC
          go_wp2
          go_roundw
          case rel =>
            refine ⟨k + 1, by omega, by go_num, ?_, HG6.out⟩
            have e := HB6.out
            have eS := HS.out ⟨p, x.c⟩
            rw [eS, ← HP.out] at e
            have hl2 := (HOk.out (k + 1)).2
            unfold Bfs
            rw [hl2]; rw [Hok2.out] at e; exact e
          case measure => simp [intOf]; omega
    · obtain rfl : k = lv.length := by omega
      rw [HLay.out] at hBk ok2
      clear HBk HGk
      go_wp2
      go_ret
      refine ⟨⟨w.heap.size, ?_, ?_⟩, hgk⟩
      · rw [ok2]; rfl
      · rw [ok2]; exact hBk

end Go.Proofs.YtcnhfffgbamonaaGreat
