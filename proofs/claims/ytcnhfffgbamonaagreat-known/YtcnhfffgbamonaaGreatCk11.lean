/-
  P7: scales, zeros.
-/
import Derived.Test.YtcnhfffgbamonaaGreatCk10
namespace Go.Proofs.YtcnhfffgbamonaaGreat
open Go.RowKit

theorem Scs.get {w : World} {base : Nat} {a : Option Addr} {n c : Nat} {xs : List M.Sc} (h : Scs w base (.slice a n c) xs) (i : Nat) (x : M.Sc) (hi : xs[i]? = some x) :
    ∃ g, a = some ⟨g, 0, none⟩ ∧ g < w.heap.size ∧ w.cell? ⟨g, i * 2, none⟩ = some (.int .i64 x.mult) ∧ w.cell? ⟨g, i * 2 + 1, none⟩ = some (.int .i64 x.shift) := by
  have hlt : i < xs.length := by
    rcases Nat.lt_or_ge i xs.length with h' | h'
    · exact h'
    · simp [List.getElem?_eq_none h'] at hi
  obtain ⟨g, ha, hb, hn, hc⟩ := owns_some h (by omega)
  have key : ∀ j, j < 2 → w.cell? ⟨g, i * 2 + j, none⟩ = (scval x)[j]? := by
    intro j hj
    rw [hc _ (by omega)]
    exact flat_get scval 2 (fun a => rfl) xs i j x hi hj
  have k0 : w.cell? ⟨g, i * 2 + 0, none⟩ = some (.int .i64 x.mult) := key 0 (by omega)
  exact ⟨g, ha, World.block_lt_of_cell? w _ k0, k0, key 1 (by omega)⟩
theorem Scs.len {w : World} {base : Nat} {a : Option Addr} {n c : Nat} {xs : List M.Sc} (h : Scs w base (.slice a n c) xs) : n = xs.length := by
  obtain ⟨ao, c', e⟩ := owns_shape h
  injection e

theorem sc_no {c : M.Sc} (h : c.mult < 1073741824 ∨ 2147483647 < c.mult ∨ c.shift < -31 ∨ 30 < c.shift) : M.scaleHolds c = false := by
  unfold M.scaleHolds
  rcases h with h | h | h | h <;> simp [h]
theorem sc_yes {c : M.Sc} (h1 : ¬ c.mult < 1073741824) (h2 : ¬ 2147483647 < c.mult) (h3 : ¬ c.shift < -31) (h4 : ¬ 30 < c.shift) : M.scaleHolds c = true := by
  unfold M.scaleHolds
  rw [decide_eq_false h1, decide_eq_false h2, decide_eq_false h3, decide_eq_false h4]; rfl

set_option maxHeartbeats 1000000 in
theorem scalesHold_c (ad : Option Addr) (n c B : Nat) (xs : List M.Sc) (w : World) (hI : Scs w B (.slice ad n c) xs) (hl : n ≤ 9223372036854775807) :
    Calls Tryz.prog 170 #[.slice ad n c] w fun e w' => e = .returned (.bool (xs.all M.scaleHolds)) ∧ w.grownBy w' none := by
  have hn := hI.len
  subst hn
  go_enter Tryz.func170, Tryz.ntmps170
  go_wp2
  go_loopw [7] (fun i wr => ∃ k : Nat, k ≤ xs.length ∧ i = .int .i64 k ∧ AllTo M.scaleHolds xs k ∧ w.grownBy wr none) (fun i _ => xs.length - (intOf i).toNat)
  case atStart => exact ⟨0, Nat.zero_le _, rfl, fun j x hj => by omega, World.grownBy.refl _ _⟩
  case round =>
    obtain ⟨k, hk, rfl, hal, hgk⟩ := hrel
    have Hal := hide hal
    clear hal
    by_cases hlt : k < xs.length
    · obtain ⟨x, hx⟩ : ∃ x, xs[k]? = some x := ⟨_, List.getElem?_eq_getElem hlt⟩
      obtain ⟨g, rfl, hgl, d0, d1⟩ := Scs.get (owns_kept0 hI hgk) k x hx
      have Hx := hide hx
      have gn : w.grownBy (wr.alloc (.cells #[.int .i64 x.mult, .int .i64 x.shift] 224)) none := gr_trans hgk (World.grownBy_alloc _ _ _)
      clear hx hI
      by_cases h1 : x.mult < 1073741824
      · have Hb := hide (sc_no (.inl h1))
        go_wp2
        go_ret
        exact ⟨ret_bool (by rw [all_no Hx.out Hb.out]), gn⟩
      · by_cases h2 : 2147483647 < x.mult
        · have Hb := hide (sc_no (.inr (.inl h2)))
          go_wp2
          go_ret
          exact ⟨ret_bool (by rw [all_no Hx.out Hb.out]), gn⟩
        · by_cases h3 : x.shift < -31
          · have Hb := hide (sc_no (.inr (.inr (.inl h3))))
            go_wp2
            go_ret
            exact ⟨ret_bool (by rw [all_no Hx.out Hb.out]), gn⟩
          · by_cases h4 : 30 < x.shift
            · have Hb := hide (sc_no (.inr (.inr (.inr h4))))
              go_wp2
              go_ret
              exact ⟨ret_bool (by rw [all_no Hx.out Hb.out]), gn⟩
            · have Hst := hide (Hal.out.step Hx.out (sc_yes h1 h2 h3 h4))
              go_wp2
              go_roundw
              case rel => exact ⟨k + 1, by omega, by go_num, Hst.out, gn⟩
              case measure => simp [intOf]; omega
    · obtain rfl : k = xs.length := by omega
      have Hall := hide Hal.out.all
      clear hI
      go_wp2
      go_ret
      exact ⟨ret_bool Hall.out.symm, hgk⟩

theorem zeros_w {md : M.Md} {o : M.Op} (h : M.hasWeights o.kind = true) : M.zerosHold md o = ((M.tensorAt md o.weights).zero == 0) := by simp [M.zerosHold, h]
theorem zeros_add {md : M.Md} {o : M.Op} (h : M.hasWeights o.kind = false) (h4 : o.kind = 4) : M.zerosHold md o = true := by
  unfold M.zerosHold; rw [if_neg (by simp [h]), if_pos h4]
theorem zeros_two {md : M.Md} {o : M.Op} (h : M.hasWeights o.kind = false) (h4 : o.kind ≠ 4) (h2 : M.readsTwo o.kind = true) : M.zerosHold md o = ((M.tensorAt md o.a).zero == (M.tensorAt md o.to).zero && (M.tensorAt md o.b).zero == (M.tensorAt md o.to).zero) := by
  unfold M.zerosHold; rw [if_neg (by simp [h]), if_neg h4]; simp only; rw [if_pos h2]
theorem zeros_one {md : M.Md} {o : M.Op} (h : M.hasWeights o.kind = false) (h4 : o.kind ≠ 4) (h2 : M.readsTwo o.kind = false) : M.zerosHold md o = ((M.tensorAt md o.a).zero == (M.tensorAt md o.to).zero) := by
  unfold M.zerosHold; rw [if_neg (by simp [h]), if_neg h4]; simp only; rw [if_neg (by simp [h2])]

set_option maxRecDepth 100000 in
set_option maxHeartbeats 2000000 in
theorem zerosHold_c (m : Nat) (md : M.Md) (o : M.Op) (ao : Option Addr) (p c : Nat) (w : World) (h : Mod w m md) (hw : WfM md) :
    Calls Tryz.prog 171 #[.pointer (some ⟨m, 0, none⟩), .agg (oval o (.slice ao p c))] w fun e w' => e = .returned (.bool (M.zerosHold md o)) ∧ w.grownBy w' none := by
  have N0 : Blk (w.alloc (.cells (oval o (.slice ao p c)) 142)) w.heap.size 142 (oval o (.slice ao p c)) := Blk.new _ _ _
  have G0 : w.grownBy (w.alloc (.cells (oval o (.slice ao p c)) 142)) none := World.grownBy_alloc _ _ _
  have M0 := h.kept0 G0
  clear h
  go_enter Tryz.func171, Tryz.ntmps171
  go_wp2_with (refine wpList_load_row rfl 142 _ rfl w.heap.size rfl 142 (oval o (.slice ao p c)) (0, 0) _ N0 Tryz.underlying142 rfl Tryz.size142 ?_)
  cases h1 : M.hasWeights o.kind with
  | true =>
    refine (hasWeights_o o (.slice ao p c) true _ h1).mono ?_
    rintro e w1 ⟨rfl, hg1⟩
    have He := hide (zeros_w (md := md) h1)
    have N1 := N0.kept hg1 (by simp)
    have M1 := M0.kept0 hg1
    have G1 := gr_trans G0 hg1
    have c3 : w1.cell? ⟨w.heap.size, 3, none⟩ = some (.int .i64 o.weights) := N1.cell 3
    clear h1 hg1 N0 M0 G0 N1
    go_wp2_with fail
    refine (tensorAt_c m md o.weights _ M1 hw.nt).mono ?_
    rintro e w2 ⟨t, hx, ⟨a2, p2, c2, rfl⟩, hg2⟩
    have G2 := gr_trans G1 hg2
    clear c3 hg2 M1 G1
    go_wp2
    go_ret
    exact ⟨ret_bool (by rw [He.out, hx.out]), gr_trans G2 (World.grownBy_alloc _ _ _)⟩
  | false =>
    refine (hasWeights_o o (.slice ao p c) false _ h1).mono ?_
    rintro e w1 ⟨rfl, hg1⟩
    have H1 := hide h1
    have N1 := N0.kept hg1 (by simp)
    have M1 := M0.kept0 hg1
    have G1 := gr_trans G0 hg1
    clear h1 hg1 N0 M0 G0
    have k0 : w1.cell? ⟨w.heap.size, 0, none⟩ = some (.int .i64 o.kind) := N1.cell 0
    by_cases h4 : o.kind = 4
    · have He := hide (zeros_add (md := md) H1.out h4)
      have h4' : (o.kind == 4) = true := by simp [h4]
      clear h4 N1
      go_wp2
      go_ret
      exact ⟨ret_bool He.out.symm, G1⟩
    · have h4' : (o.kind == 4) = false := by simp [h4]
      have H4 := hide h4
      have c1 : w1.cell? ⟨w.heap.size, 1, none⟩ = some (.int .i64 o.a) := N1.cell 1
      clear h4
      go_wp2_with fail
      refine (tensorAt_c m md o.a _ M1 hw.nt).mono ?_
      rintro e w2 ⟨ta, hxa, ⟨a2, p2, c2, rfl⟩, hg2⟩
      have N2 := N1.kept hg2 (by simp)
      have M2 := M1.kept0 hg2
      have G2 := gr_trans G1 hg2
      have c5 : w2.cell? ⟨w.heap.size, 5, none⟩ = some (.int .i64 o.to) := N2.cell 5
      have lo2 := N2.lt
      clear c1 k0 hg2 N1 M1 G1
      go_wp2_with fail
      refine (tensorAt_c m md o.to _ (M2.kept0 (World.grownBy_alloc _ _ _)) hw.nt).mono ?_
      rintro e w3 ⟨tz, hxz, ⟨a3, p3, c3, rfl⟩, hg3⟩
      have N3 := (N2.alloc _).kept hg3 (by simp)
      have A3 : Blk w3 w2.heap.size 158 (tval ta (.slice a2 p2 c2)) := (Blk.new w2 158 (tval ta (.slice a2 p2 c2))).kept hg3 (by simp)
      have M3 := (M2.kept0 (World.grownBy_alloc _ _ _)).kept0 hg3
      have G3 := gr_trans (gr_trans G2 (World.grownBy_alloc _ _ _)) hg3
      clear c5 lo2 hg3 N2 M2 G2
      go_wp2_with (refine wpList_load_row rfl 142 _ rfl w.heap.size rfl 142 (oval o (.slice ao p c)) (0, 0) _ (N3.alloc _) Tryz.underlying142 rfl Tryz.size142 ?_)
      cases h2 : M.readsTwo o.kind with
      | false =>
        refine (readsTwo_o o (.slice ao p c) false _ h2).mono ?_
        rintro e w4 ⟨rfl, hg4⟩
        have He := hide (zeros_one (md := md) H1.out H4.out h2)
        have A4 := (A3.alloc _).kept hg4 (by simp)
        have Z4 : Blk w4 w3.heap.size 158 (tval tz (.slice a3 p3 c3)) := (Blk.new w3 158 (tval tz (.slice a3 p3 c3))).kept hg4 (by simp)
        have G4 := gr_trans (gr_trans G3 (World.grownBy_alloc _ _ _)) hg4
        have ca : w4.cell? ⟨w2.heap.size, 4, none⟩ = some (.int .i64 ta.zero) := A4.cell 4
        have cz : w4.cell? ⟨w3.heap.size, 4, none⟩ = some (.int .i64 tz.zero) := Z4.cell 4
        clear h2 hg4 A3 N3 M3 G3 A4 Z4
        go_wp2
        go_ret
        exact ⟨ret_bool (by rw [He.out, hxa.out, hxz.out]), G4⟩
      | true =>
        refine (readsTwo_o o (.slice ao p c) true _ h2).mono ?_
        rintro e w4 ⟨rfl, hg4⟩
        have He := hide (zeros_two (md := md) H1.out H4.out h2)
        have N4 := (N3.alloc _).kept hg4 (by simp)
        have A4 := (A3.alloc _).kept hg4 (by simp)
        have Z4 : Blk w4 w3.heap.size 158 (tval tz (.slice a3 p3 c3)) := (Blk.new w3 158 (tval tz (.slice a3 p3 c3))).kept hg4 (by simp)
        have M4 := (M3.kept0 (World.grownBy_alloc _ _ _)).kept0 hg4
        have G4 := gr_trans (gr_trans G3 (World.grownBy_alloc _ _ _)) hg4
        have c2' : w4.cell? ⟨w.heap.size, 2, none⟩ = some (.int .i64 o.b) := N4.cell 2
        clear h2 hg4 A3 N3 M3 G3 N4
        go_wp2_with fail
        refine (tensorAt_c m md o.b _ M4 hw.nt).mono ?_
        rintro e w5 ⟨tb, hxb, ⟨a5, p5, c5, rfl⟩, hg5⟩
        have A5 := A4.kept hg5 (by simp)
        have Z5 := Z4.kept hg5 (by simp)
        have G5 := gr_trans G4 hg5
        have ca : w5.cell? ⟨w2.heap.size, 4, none⟩ = some (.int .i64 ta.zero) := A5.cell 4
        have cz : w5.cell? ⟨w3.heap.size, 4, none⟩ = some (.int .i64 tz.zero) := Z5.cell 4
        have la := A5.lt
        have lz := Z5.lt
        have He2 := He.out
        rw [hxa.out, hxz.out, hxb.out] at He2
        have He3 := hide He2
        clear hg5 A4 Z4 M4 G4 A5 Z5 c2' He2
        cases h5 : (ta.zero == tz.zero) with
        | false =>
          go_wp2
          go_ret
          exact ⟨ret_bool (by rw [He3.out, h5]; rfl), gr_trans G5 (World.grownBy_alloc _ _ _)⟩
        | true =>
          go_wp2
          go_ret
          exact ⟨ret_bool (by rw [He3.out, h5]; rfl), gr_trans G5 (World.grownBy_alloc _ _ _)⟩

end Go.Proofs.YtcnhfffgbamonaaGreat
