import Derived.Test.YtcnhfffgbamonaaGreatOp7
import Derived.Test.YtcnhfffgbamonaaGreatHsA
/-
  Rows of a type of their own: what a write to one leaves of the others; a cell, or an element, of a row is written.
-/
namespace Go.Proofs.YtcnhfffgbamonaaGreat
open Go.RowKit

/-- The block of a row. -/
theorem owns_blk {w : World} {base : Nat} {e : TypeId} {size n : Nat} {a : Option Addr} {m c : Nat} {xs : List Value} (h : w.ownsRow base e size (.slice a m c) n xs) (hn : 0 < n) : ∃ g cur, a = some ⟨g, 0, none⟩ ∧ m = n ∧ base ≤ g ∧ Blk w g e cur ∧ n ≤ c ∧ c ≤ maxLen ∧ cur.size = c * size ∧ cur.toList.take (n * size) = xs := by
  rcases h.2 with ⟨_, h0⟩ | ⟨g, cap, cur, hv, hb, hh, hr⟩
  · omega
  · injection hv with h1 h2 h3
    subst h1 h2 h3
    exact ⟨g, cur, rfl, rfl, hb, hh, hr⟩

/-- A row of another type stays. -/
theorem owns_apartT {w w' : World} {B G : Nat} {T E : TypeId} {size n : Nat} {v : Value} {xs : List Value} {cs : Array Value} (h : w.ownsRow B E size v n xs) (hB : Blk w G T cs) (hT : T ≠ E) (hg : w.grownBy w' (some G)) : w'.ownsRow B E size v n xs := by
  refine World.ownsRow.kept h hg ?_
  cases hv : v.ownBlock with
  | none => exact .inl rfl
  | some g =>
    refine .inr ?_
    rintro e
    injection e with e
    subst e
    rcases h.2 with ⟨h1, -⟩ | ⟨g', cap, cur, h1, -, hh, -⟩
    · rw [h1] at hv; exact absurd hv (by simp [Value.ownBlock])
    · rw [h1] at hv
      simp only [Value.ownBlock] at hv
      injection hv with hv
      subst hv
      unfold Blk at hB
      rw [hh] at hB
      injection hB with hB
      injection hB with _ hB _
      exact hT hB.symm

theorem take_set {α : Type} (l : List α) (n p : Nat) (x : α) : (l.set p x).take n = (l.take n).set p x := by
  apply List.ext_getElem?
  intro i
  rw [List.getElem?_take, List.getElem?_set, List.getElem?_set, List.getElem?_take]
  by_cases h : i < n
  · by_cases hp : p = i
    · subst hp
      simp only [h, if_true, List.length_take]
      by_cases hl : p < l.length
      · rw [if_pos hl, if_pos (by omega)]
      · rw [if_neg hl, if_neg (by omega)]
    · simp [hp, h]
  · by_cases hp : p = i
    · subst hp
      rw [if_neg h, if_pos rfl, if_neg (by rw [List.length_take]; omega)]
    · simp [hp, h]

/-- A cell of a row is written. -/
theorem owns_set {w : World} {base : Nat} {e : TypeId} {size n g c : Nat} {m : Nat} {xs : List Value} (h : w.ownsRow base e size (.slice (some ⟨g, 0, none⟩) m c) n xs) (p : Nat) (u : Value) : (w.setCell ⟨g, p, none⟩ u).ownsRow base e size (.slice (some ⟨g, 0, none⟩) m c) n (xs.set p u) := by
  rcases h.2 with ⟨h0, _⟩ | ⟨g', cap, cur, hv, hb, hh, hnc, hm, hz, ht⟩
  · exact absurd h0 (by simp)
  · simp only [Value.slice.injEq, Option.some.injEq, Addr.mk.injEq, and_true] at hv
    obtain ⟨rfl, rfl, rfl⟩ := hv
    refine ⟨by rw [List.length_set]; exact h.1, .inr ⟨g, c, cur.setIfInBounds p u, rfl, hb, Blk.set hh p u, hnc, hm, by simpa using hz, ?_⟩⟩
    rw [Array.toList_setIfInBounds, take_set, ht]

/-- Elements of one size: the i-th becomes another. -/
theorem flat_set {α : Type} (f : α → List Value) (n : Nat) (hf : ∀ x, (f x).length = n) : ∀ (xs : List α) (i j : Nat) (x y : α) (u : Value), xs[i]? = some x → j < n → (f x).set j u = f y → (xs.flatMap f).set (i * n + j) u = (xs.set i y).flatMap f
  | [], i, j, x, y, u, h, _, _ => absurd h (by simp)
  | a :: xs, 0, j, x, y, u, h, hj, e => by
    simp at h; subst h
    simp only [List.flatMap_cons, List.set_cons_zero, Nat.zero_mul, Nat.zero_add]
    rw [List.set_append_left _ _ (by rw [hf]; exact hj), e]
  | a :: xs, i + 1, j, x, y, u, h, hj, e => by
    have h' : xs[i]? = some x := by simpa using h
    simp only [List.flatMap_cons, List.set_cons_succ]
    have ee : (i + 1) * n + j = n + (i * n + j) := by rw [Nat.add_mul, Nat.one_mul]; omega
    rw [ee, List.set_append_right _ _ (by rw [hf]; omega), hf, Nat.add_sub_cancel_left, flat_set f n hf xs i j x y u h' hj e]

theorem map_set {α β : Type} (f : α → β) (l : List α) (i : Nat) (x : α) : (l.set i x).map f = (l.map f).set i (f x) := List.map_set
theorem set_getElem? {α : Type} {l : List α} {i : Nat} {x : α} (h : l[i]? = some x) : l.set i x = l := by
  apply List.ext_getElem?
  intro j
  rw [List.getElem?_set]
  by_cases e : i = j
  · subst e; rw [if_pos rfl, if_pos (M.lt_of_some h), h]
  · rw [if_neg e]
theorem set_mem {α : Type} {l : List α} {i : Nat} {x p : α} (h : p ∈ l.set i x) : p ∈ l ∨ p = x := by
  rcases List.mem_or_eq_of_mem_set h with h | h
  · exact .inl h
  · exact .inr h

/-- Blocks below a place stay. -/
theorem below_of {w w' : World} {B G : Nat} (hg : w.grownBy w' (some G)) (h : B ≤ G) (hB : B ≤ w.heap.size) : Below B w w' :=
  ⟨hg.os, hg.tape, hg.output, hg.size, fun k hk => hg.block k (by omega) (by simp; omega)⟩
theorem below_of0 {w w' : World} {B : Nat} (hg : w.grownBy w' none) (hB : B ≤ w.heap.size) : Below B w w' :=
  ⟨hg.os, hg.tape, hg.output, hg.size, fun k hk => hg.block k (by omega) (by simp)⟩
theorem gr_below_new {a w w' : World} {B : Nat} {row : Option Nat} (h : a.grownBy w row) (k : Below B w w') (hB : a.heap.size ≤ B) : a.grownBy w' row :=
  ⟨k.os.trans h.os, k.tape.trans h.tape, k.output.trans h.output, Nat.le_trans h.size k.size, fun i hi hne => (k.block i (by omega)).trans (h.block i hi hne)⟩

end Go.Proofs.YtcnhfffgbamonaaGreat

/-
  shrink: Reads, uses, isKnown.
-/
namespace Go.Proofs.YtcnhfffgbamonaaGreat
open Go.RowKit

theorem rdl_w {o : M.Op} (h : M.hasWeights o.kind = true) : H.readsL o = [o.a, o.weights, o.biases] := by unfold H.readsL; rw [if_pos h]
theorem rdl_2 {o : M.Op} (h : M.hasWeights o.kind = false) (h2 : M.readsTwo o.kind = true) : H.readsL o = [o.a, o.b] := by unfold H.readsL; rw [if_neg (by rw [h]; decide), if_pos h2]
theorem rdl_1 {o : M.Op} (h : M.hasWeights o.kind = false) (h2 : M.readsTwo o.kind = false) : H.readsL o = [o.a] := by unfold H.readsL; rw [if_neg (by rw [h]; decide), if_neg (by rw [h2]; decide)]

set_option maxHeartbeats 1000000 in
theorem reads_o (o : M.Op) (ao : Option Addr) (p c : Nat) (w : World) :
    Calls Tryz.prog 106 #[.agg (oval o (.slice ao p c))] w fun e w' => (∃ g, e = .returned (.slice (some ⟨g, 0, none⟩) (H.readsL o).length (H.readsL o).length) ∧ Ints w' w.heap.size (.slice (some ⟨g, 0, none⟩) (H.readsL o).length (H.readsL o).length) (H.readsL o)) ∧ w.grownBy w' none := by
  have N0 := hide (Blk.new w 142 (oo o (.slice ao p c)))
  have G0 := World.grownBy_alloc w (.cells (oo o (.slice ao p c)) 142) none
  have HG0 := hide G0
  clear G0
  show Calls Tryz.prog 106 #[.agg (oo o (.slice ao p c))] w _
  cases hw : M.hasWeights o.kind with
  | true =>
    have HR := hide (rdl_w hw)
    have Hw := hide hw
    clear hw
    go_enter Tryz.func106, Tryz.ntmps106
    go_wp2_with (refine wpList_load_row rfl 142 _ rfl w.heap.size rfl 142 (oo o (.slice ao p c)) (0, 0) _ N0.out Tryz.underlying142 rfl Tryz.size142 ?_)
    refine (hasWeights_o o (.slice ao p c) true _ Hw.out).mono ?_
    rintro e w1 ⟨rfl, hg1⟩
    have HG1 := hide (gr_trans HG0.out hg1)
    obtain ⟨k0, k1, k2, k3, k4, k5, k6, k7, k8, k9, k10, k11, k12, k13, k14, k15⟩ := cells16 (N0.out.kept hg1 (by simp))
    clear hg1 k0 k2 k5 k6 k7 k8 k9 k10 k11 k12 k13 k14 k15
    have hz := HG1.out.size
    go_wp2
    go_ret
    rw [HR.out]
    exact ⟨⟨w1.heap.size, rfl, Ints.of_blk (by omega) rfl (by unfold maxLen; simp) (Blk.new w1 3 _)⟩, gr_trans HG1.out (World.grownBy_alloc _ _ _)⟩
  | false =>
    have Hw := hide hw
    cases h2 : M.readsTwo o.kind with
    | true =>
      have HR := hide (rdl_2 hw h2)
      have H2 := hide h2
      clear hw h2
      go_enter Tryz.func106, Tryz.ntmps106
      go_wp2_with (refine wpList_load_row rfl 142 _ rfl w.heap.size rfl 142 (oo o (.slice ao p c)) (0, 0) _ N0.out Tryz.underlying142 rfl Tryz.size142 ?_)
      refine (hasWeights_o o (.slice ao p c) false _ Hw.out).mono ?_
      rintro e w1 ⟨rfl, hg1⟩
      have HG1 := hide (gr_trans HG0.out hg1)
      have N1 := hide (N0.out.kept hg1 (by simp))
      clear hg1
      go_wp2_with (refine wpList_load_row rfl 142 _ rfl w.heap.size rfl 142 (oo o (.slice ao p c)) (0, 0) _ N1.out Tryz.underlying142 rfl Tryz.size142 ?_)
      refine (readsTwo_o o (.slice ao p c) true _ H2.out).mono ?_
      rintro e w2 ⟨rfl, hg2⟩
      have HG2 := hide (gr_trans HG1.out hg2)
      obtain ⟨k0, k1, k2, k3, k4, k5, k6, k7, k8, k9, k10, k11, k12, k13, k14, k15⟩ := cells16 (N1.out.kept hg2 (by simp))
      clear hg2 k0 k3 k4 k5 k6 k7 k8 k9 k10 k11 k12 k13 k14 k15
      have hz := HG2.out.size
      go_wp2
      go_ret
      rw [HR.out]
      exact ⟨⟨w2.heap.size, rfl, Ints.of_blk (by omega) rfl (by unfold maxLen; simp) (Blk.new w2 3 _)⟩, gr_trans HG2.out (World.grownBy_alloc _ _ _)⟩
    | false =>
      have HR := hide (rdl_1 hw h2)
      have H2 := hide h2
      clear hw h2
      go_enter Tryz.func106, Tryz.ntmps106
      go_wp2_with (refine wpList_load_row rfl 142 _ rfl w.heap.size rfl 142 (oo o (.slice ao p c)) (0, 0) _ N0.out Tryz.underlying142 rfl Tryz.size142 ?_)
      refine (hasWeights_o o (.slice ao p c) false _ Hw.out).mono ?_
      rintro e w1 ⟨rfl, hg1⟩
      have HG1 := hide (gr_trans HG0.out hg1)
      have N1 := hide (N0.out.kept hg1 (by simp))
      clear hg1
      go_wp2_with (refine wpList_load_row rfl 142 _ rfl w.heap.size rfl 142 (oo o (.slice ao p c)) (0, 0) _ N1.out Tryz.underlying142 rfl Tryz.size142 ?_)
      refine (readsTwo_o o (.slice ao p c) false _ H2.out).mono ?_
      rintro e w2 ⟨rfl, hg2⟩
      have HG2 := hide (gr_trans HG1.out hg2)
      obtain ⟨k0, k1, k2, k3, k4, k5, k6, k7, k8, k9, k10, k11, k12, k13, k14, k15⟩ := cells16 (N1.out.kept hg2 (by simp))
      clear hg2 k0 k2 k3 k4 k5 k6 k7 k8 k9 k10 k11 k12 k13 k14 k15
      have hz := HG2.out.size
      go_wp2
      go_ret
      rw [HR.out]
      exact ⟨⟨w2.heap.size, rfl, Ints.of_blk (by omega) rfl (by unfold maxLen; simp) (Blk.new w2 3 _)⟩, gr_trans HG2.out (World.grownBy_alloc _ _ _)⟩

theorem readsL_len (o : M.Op) : (H.readsL o).length ≤ 3 := by
  cases hw : M.hasWeights o.kind with
  | true => rw [rdl_w hw]; simp
  | false => cases h2 : M.readsTwo o.kind with
    | true => rw [rdl_2 hw h2]; simp
    | false => rw [rdl_1 hw h2]; simp

theorem readBy_step {os : List M.Op} {k : Nat} {o : M.Op} (h : os[k]? = some o) (n : Int) : H.readBy (os.take (k + 1)) n = H.readBy (os.take k) n + (H.readsL o).count n := by
  rw [H.take_snoc h]; unfold H.readBy; simp [List.flatMap_append, List.count_append]
theorem readBy_le (n : Int) : ∀ os : List M.Op, H.readBy os n ≤ 3 * os.length
  | [] => by simp [H.readBy]
  | o :: os => by
    have := readBy_le n os
    have h1 := List.count_le_length (a := n) (l := H.readsL o)
    have h2 := readsL_len o
    unfold H.readBy at *
    simp only [List.flatMap_cons, List.count_append, List.length_cons]
    omega
theorem count_yes {l : List Int} {j : Nat} {x n : Int} (h : l[j]? = some x) (e : x = n) : (l.take (j + 1)).count n = (l.take j).count n + 1 := by
  rw [H.take_snoc h, List.count_append]; simp [e]
theorem count_no {l : List Int} {j : Nat} {x n : Int} (h : l[j]? = some x) (e : x ≠ n) : (l.take (j + 1)).count n = (l.take j).count n := by
  rw [H.take_snoc h, List.count_append]; simp [e]
theorem count_le (l : List Int) (j : Nat) (n : Int) : (l.take j).count n ≤ l.length := Nat.le_trans List.count_le_length (by simp; omega)

set_option maxRecDepth 100000 in
set_option maxHeartbeats 2000000 in
theorem uses_c (m : Nat) (md : M.Md) (n : Int) (w : World) (h : Mod w m md) (hn1 : md.ops.length ≤ 255) (hn2 : md.outs.length ≤ 255) :
    Calls Tryz.prog 144 #[.pointer (some ⟨m, 0, none⟩), .int .i64 n] w fun e w' => e = .returned (.int .i64 (H.uses md n)) ∧ w.grownBy w' none := by
  obtain ⟨a1, c1, a2, c2, a3, c3, hB, hT, hO, hU⟩ := h
  have q1 : w.cell? ⟨m, 1, none⟩ = some (.slice a2 md.ops.length c2) := hB.cell 1
  have Q2 : Hid (w.cell? ⟨m, 2, none⟩ = some (.slice a3 md.outs.length c3)) := hB.cell 2
  clear hT hB
  go_enter Tryz.func144, Tryz.ntmps144
  go_wp2
  clear q1
  go_loopw [5, 17] (fun s i wr => ∃ k : Nat, k ≤ md.ops.length ∧ i = .int .i64 k ∧ s = .int .i64 (H.readBy (md.ops.take k) n) ∧ w.grownBy wr none) (fun _ i _ => md.ops.length - (intOf i).toNat)
  case atStart => exact ⟨0, Nat.zero_le _, rfl, rfl, World.grownBy.refl _ _⟩
  case round =>
    obtain ⟨k, hk, rfl, rfl, hgk⟩ := hrel
    have hs := readBy_le n (md.ops.take k)
    rw [List.length_take] at hs
    by_cases hlt : k < md.ops.length
    · obtain ⟨o, ho⟩ : ∃ o, md.ops[k]? = some o := ⟨_, List.getElem?_eq_getElem hlt⟩
      obtain ⟨g, ao, p, cp, rfl, hgl, -, -, hR⟩ := (hO.kept0 hgk).get k o ho
      have HS := hide (readBy_step ho n)
      have HB := hide (Blk.new wr 142 (oval o (.slice ao p cp)))
      have HG := hide (gr_trans hgk (World.grownBy_alloc wr (.cells (oval o (.slice ao p cp)) 142) none))
      have HL := hide (readsL_len o)
      clear ho hO
      generalize H.readBy (md.ops.take k) n = s at *
      go_wp2_with (first | (refine wpList_load_mid rfl 142 _ rfl g (k * 16) rfl (oval o (.slice ao p cp)).toList _ hR Tryz.underlying142 rfl Tryz.size142 ?_) | (refine wpList_store_row rfl 142 _ _ rfl wr.heap.size (oval o (.slice ao p cp)) rfl rfl 142 (o16 0 0 0 0 0 0 0 0 false (.slice none 0 0) 0 0 0 0 0 0) (Blk.new wr 142 _) Tryz.size142 rfl (one16 ..) ?_; rw [World.setRow_alloc_new]) | (refine wpList_load_row rfl 142 _ rfl wr.heap.size rfl 142 (oval o (.slice ao p cp)) (0, 0) _ HB.out Tryz.underlying142 rfl Tryz.size142 ?_))
      refine (reads_o o ao p cp _).mono ?_
      rintro e w3 ⟨⟨g3, rfl, hI3⟩, hg3⟩
      have HG3 := hide (gr_trans HG.out hg3)
      have HI3 := hide hI3
      generalize H.readsL o = L at *
      have hL := HL.out
      clear hg3 hI3 hR hgk HB
      go_wp2
      go_loopw [5, 24] (fun s' i wq => ∃ j : Nat, j ≤ L.length ∧ i = .int .i64 j ∧ s' = .int .i64 ((s + (L.take j).count n : Nat) : Int) ∧ wq = w3) (fun _ i _ => L.length - (intOf i).toNat)
      case atStart => exact ⟨0, Nat.zero_le _, rfl, by simp, rfl⟩
      case round =>
        obtain ⟨j, hj, rfl, rfl, rfl⟩ := hrel
        have hcl := count_le L j n
        by_cases hjt : j < L.length
        · obtain ⟨x, hx⟩ : ∃ x, L[j]? = some x := ⟨_, List.getElem?_eq_getElem hjt⟩
          obtain ⟨g', hg', -, -, d0⟩ := HI3.out.get j x hx
          injection hg' with hg'
          injection hg' with hg' _ _
          subst hg'
          by_cases hxn : x = n
          · have HC := hide (count_yes hx hxn)
            have hx' : (x == n) = true := by simp [hxn]
            clear hx hxn
            generalize (L.take j).count n = c at *
            go_wp2
            go_roundw
            case rel => exact ⟨j + 1, by omega, by go_num, by rw [HC.out]; go_num, by trivial⟩
            case measure => simp [intOf]; omega
          · have HC := hide (count_no hx hxn)
            have hx' : (x == n) = false := by simp [hxn]
            clear hx hxn
            generalize (L.take j).count n = c at *
            go_wp2
            go_roundw
            case rel => exact ⟨j + 1, by omega, by go_num, by rw [HC.out], by trivial⟩
            case measure => simp [intOf]; omega
        · obtain rfl : j = L.length := by omega
          rw [List.take_length]
          rw [List.take_length] at hcl
          go_wp2
          go_roundw
          case rel => exact ⟨k + 1, by omega, by go_num, by rw [HS.out], HG3.out⟩
          case measure => simp [intOf]; omega
    · obtain rfl : k = md.ops.length := by omega
      rw [List.take_length] at hs ⊢
      have q2 : wr.cell? ⟨m, 2, none⟩ = some (.slice a3 md.outs.length c3) := cell_kept hgk Q2.out
      have hU' := hU.kept0 hgk
      have HGk := hide hgk
      have HE : Hid (H.uses md n = H.readBy md.ops n + md.outs.count n) := rfl
      clear hO hU hgk
      generalize H.readBy md.ops n = s at *
      go_wp2
      clear q2
      go_loopw [5, 40] (fun s' i wq => ∃ j : Nat, j ≤ md.outs.length ∧ i = .int .i64 j ∧ s' = .int .i64 ((s + (md.outs.take j).count n : Nat) : Int) ∧ wq = wr) (fun _ i _ => md.outs.length - (intOf i).toNat)
      case atStart => exact ⟨0, Nat.zero_le _, rfl, by simp, rfl⟩
      case round =>
        obtain ⟨j, hj, rfl, rfl, rfl⟩ := hrel
        have hcl := count_le md.outs j n
        by_cases hjt : j < md.outs.length
        · obtain ⟨x, hx⟩ : ∃ x, md.outs[j]? = some x := ⟨_, List.getElem?_eq_getElem hjt⟩
          obtain ⟨g', rfl, -, -, d0⟩ := hU'.get j x hx
          by_cases hxn : x = n
          · have HC := hide (count_yes hx hxn)
            have hx' : (x == n) = true := by simp [hxn]
            clear hx hxn
            generalize (md.outs.take j).count n = c at *
            go_wp2
            go_roundw
            case rel => exact ⟨j + 1, by omega, by go_num, by rw [HC.out]; go_num, by trivial⟩
            case measure => simp [intOf]; omega
          · have HC := hide (count_no hx hxn)
            have hx' : (x == n) = false := by simp [hxn]
            clear hx hxn
            generalize (md.outs.take j).count n = c at *
            go_wp2
            go_roundw
            case rel => exact ⟨j + 1, by omega, by go_num, by rw [HC.out], by trivial⟩
            case measure => simp [intOf]; omega
        · obtain rfl : j = md.outs.length := by omega
          rw [List.take_length]
          go_wp2
          go_ret
          exact ⟨ret_int (by rw [HE.out]), HGk.out⟩

end Go.Proofs.YtcnhfffgbamonaaGreat

/-
  Operators in a row of their own, their scales elsewhere; within, joined.
-/
namespace Go.Proofs.YtcnhfffgbamonaaGreat
open Go.RowKit

/-- A walk is held: behind it `refine hide ?_`. -/
theorem hold {p : Prop} (h : Hid p) : p := h
/-- Operators: the row from B1 on, what they lead to from B2 on. -/
def Ops2 (w : World) (B1 B2 : Nat) (v : Value) (os : List M.Op) : Prop :=
  ∃ ps : List (M.Op × Value), ps.map (·.1) = os ∧ w.ownsRow B1 142 16 v os.length (ps.flatMap fun p => (oval p.1 p.2).toList) ∧ ∀ p ∈ ps, Scs w B2 p.2 p.1.scales
theorem Ops2.nil (w : World) (B1 B2 : Nat) : Ops2 w B1 B2 (.slice none 0 0) [] := ⟨[], rfl, World.ownsRow_nil _ _ _ _, by simp⟩
theorem Ops2.kept0 {w w' : World} {B1 B2 : Nat} {v : Value} {os : List M.Op} (h : Ops2 w B1 B2 v os) (hg : w.grownBy w' none) : Ops2 w' B1 B2 v os := by
  obtain ⟨ps, h1, h2, h3⟩ := h
  exact ⟨ps, h1, owns_kept0 h2 hg, fun p hp => owns_kept0 (h3 p hp) hg⟩
theorem Ops2.ops {w : World} {B1 B2 : Nat} {v : Value} {os : List M.Op} (h : Ops2 w B1 B2 v os) (hb : B2 ≤ B1) : Ops w B2 v os := by
  obtain ⟨ps, h1, h2, h3⟩ := h
  exact ⟨ps, h1, owns_mono h2 hb, h3⟩
theorem Ops.two {w : World} {B : Nat} {v : Value} {os : List M.Op} (h : Ops w B v os) : Ops2 w B B v os := h
theorem Ops2.shape {w : World} {B1 B2 : Nat} {v : Value} {os : List M.Op} (h : Ops2 w B1 B2 v os) : ∃ ao c, v = .slice ao os.length c := by
  obtain ⟨ps, h1, h2, h3⟩ := h
  exact owns_shape h2
theorem Ops.len {w : World} {B : Nat} {a : Option Addr} {n c : Nat} {os : List M.Op} (h : Ops w B (.slice a n c) os) : n = os.length := by
  obtain ⟨ao', c', e⟩ := h.two.shape
  injection e
theorem Ops2.snoc {w w2 : World} {B1 B2 : Nat} {v v' : Value} {ps : List (M.Op × Value)} {os : List M.Op} {o : M.Op} {sv : Value} (h1 : ps.map (·.1) = os) (h2 : w.ownsRow B1 142 16 v os.length (ps.flatMap fun p => (oval p.1 p.2).toList)) (h3 : ∀ p ∈ ps, Scs w B2 p.2 p.1.scales)
    (hd : Scs w B2 sv o.scales) (hg2 : w.grownBy w2 v.ownBlock)
    (hown : w2.ownsRow B1 142 16 v' (os.length + 1) ((ps.flatMap fun p => (oval p.1 p.2).toList) ++ (oval o sv).toList)) : Ops2 w2 B1 B2 v' (os ++ [o]) := by
  refine ⟨ps ++ [(o, sv)], by simp [h1], by simpa using hown, ?_⟩
  intro p hp
  rcases List.mem_append.1 hp with hp | hp
  · exact owns_apart (h3 p hp) h2 (by decide) hg2
  · simp at hp
    subst hp
    exact owns_apart hd h2 (by decide) hg2
/-- A model whose operators are others. -/
theorem Mod.setOps {w : World} {m : Nat} {md : M.Md} {os : List M.Op} {ao : Option Addr} {c : Nat} (h : Mod w m md) (hO : Ops w (m + 1) (.slice ao os.length c) os) : Mod (w.setCell ⟨m, 1, none⟩ (.slice ao os.length c)) m ⟨md.tensors, os, md.outs⟩ := by
  obtain ⟨a1, c1, a2, c2, a3, c3, hB, hT, -, hU⟩ := h
  have hg := gr_set w m 1 (.slice ao os.length c)
  exact ⟨a1, c1, ao, c, a3, c3, by have := hB.set 1 (.slice ao os.length c); simpa using this, hT.kept hg (by omega), hO.kept hg (by omega), owns_kept hU hg (by omega)⟩
theorem below_trans {a w w' : World} {B : Nat} (h : Below B a w) (k : Below B w w') : Below B a w' := h.trans k

set_option maxHeartbeats 800000 in
theorem swithin_c (x : Int) (o : M.Op) (ao : Option Addr) (p c : Nat) (w : World) :
    Calls Tryz.prog 173 #[.int .i64 x, .agg (oval o (.slice ao p c))] w fun e w' => e = .returned (.int .i64 (R.between x o.lo o.hi)) ∧ w.grownBy w' none := by
  have G0 := hide (World.grownBy_alloc w (.cells (oo o (.slice ao p c)) 142) none)
  show Calls Tryz.prog 173 #[.int .i64 x, .agg (oo o (.slice ao p c))] w _
  by_cases h1 : x < o.lo
  · have He := hide (show R.between x o.lo o.hi = o.lo by unfold R.between; rw [if_pos h1])
    go_enter Tryz.func173, Tryz.ntmps173
    go_wp2
    go_ret
    exact ⟨ret_int He.out.symm, G0.out⟩
  · by_cases h2 : o.hi < x
    · have He := hide (show R.between x o.lo o.hi = o.hi by unfold R.between; rw [if_neg h1, if_pos h2])
      go_enter Tryz.func173, Tryz.ntmps173
      go_wp2
      go_ret
      exact ⟨ret_int He.out.symm, G0.out⟩
    · have He := hide (show R.between x o.lo o.hi = x by unfold R.between; rw [if_neg h1, if_neg h2])
      go_enter Tryz.func173, Tryz.ntmps173
      go_wp2
      go_ret
      exact ⟨ret_int He.out.symm, G0.out⟩

end Go.Proofs.YtcnhfffgbamonaaGreat

/-
  A tensor of a model in memory is written; isKnown.
-/
namespace Go.Proofs.YtcnhfffgbamonaaGreat
open Go.RowKit

theorem Tns.put {w : World} {base g n c : Nat} {ts : List M.Tn} {i : Nat} {t t' : M.Tn} (h : Tns w base (.slice (some ⟨g, 0, none⟩) n c) ts) (hi : ts[i]? = some t) (j : Nat) (hj : j < 6) (u : Value) (f : Value → Value) (hv : ∀ dv, (tval t dv).toList.set j u = (tval t' (f dv)).toList)
    (hd : ∀ dv, Ints w base dv t.data → Ints w base (f dv) t'.data) : Tns (w.setCell ⟨g, i * 6 + j, none⟩ u) base (.slice (some ⟨g, 0, none⟩) n c) (ts.set i t') := by
  obtain ⟨ps, h1, h2, h3⟩ := h
  have hl : i < ts.length := M.lt_of_some hi
  obtain ⟨g', cur, e, -, -, hB, -⟩ := owns_blk h2 (by omega)
  simp only [Option.some.injEq, Addr.mk.injEq, and_true] at e
  subst e
  subst h1
  rw [List.getElem?_map] at hi
  obtain ⟨p, hp, rfl⟩ := Option.map_eq_some_iff.1 hi
  have ap : ∀ v l, Ints w base v l → Ints (w.setCell ⟨g, i * 6 + j, none⟩ u) base v l := fun v l hI => owns_apartT hI hB (by decide) (gr_set _ _ _ _)
  refine ⟨ps.set i (t', f p.2), by rw [List.map_set], ?_, fun q hq => ?_⟩
  · have h4 := owns_set h2 (i * 6 + j) u
    rw [flat_set (fun p : M.Tn × Value => (tval p.1 p.2).toList) 6 (fun _ => rfl) ps i j p (t', f p.2) u hp hj (hv p.2)] at h4
    simpa using h4
  · rcases set_mem hq with hq | rfl
    · exact ap _ _ (h3 q hq)
    · exact ap _ _ (hd _ (h3 p (List.mem_of_getElem? hp)))

/-- A model with other tensors. -/
theorem Mod.put {w : World} {m g c1 : Nat} {md : M.Md} {i : Nat} {t t' : M.Tn} {a2 a3 : Option Addr} {c2 c3 : Nat} (hB : Blk w m 139 #[.slice (some ⟨g, 0, none⟩) md.tensors.length c1, .slice a2 md.ops.length c2, .slice a3 md.outs.length c3])
    (hT : Tns w (m + 1) (.slice (some ⟨g, 0, none⟩) md.tensors.length c1) md.tensors) (hO : Ops w (m + 1) (.slice a2 md.ops.length c2) md.ops) (hU : Ints w (m + 1) (.slice a3 md.outs.length c3) md.outs)
    (hi : md.tensors[i]? = some t) (j : Nat) (hj : j < 6) (u : Value) (f : Value → Value) (hv : ∀ dv, (tval t dv).toList.set j u = (tval t' (f dv)).toList) (hd : ∀ dv, Ints w (m + 1) dv t.data → Ints w (m + 1) (f dv) t'.data) :
    Blk (w.setCell ⟨g, i * 6 + j, none⟩ u) m 139 #[.slice (some ⟨g, 0, none⟩) (md.tensors.set i t').length c1, .slice a2 md.ops.length c2, .slice a3 md.outs.length c3] ∧
    Tns (w.setCell ⟨g, i * 6 + j, none⟩ u) (m + 1) (.slice (some ⟨g, 0, none⟩) (md.tensors.set i t').length c1) (md.tensors.set i t') ∧ Ops (w.setCell ⟨g, i * 6 + j, none⟩ u) (m + 1) (.slice a2 md.ops.length c2) md.ops ∧ Ints (w.setCell ⟨g, i * 6 + j, none⟩ u) (m + 1) (.slice a3 md.outs.length c3) md.outs ∧ m < g := by
  have hl : i < md.tensors.length := M.lt_of_some hi
  have h4 := hT.put hi j hj u f hv hd
  obtain ⟨ps, h1, h2, h3⟩ := hT
  obtain ⟨g', cur, e, -, hb, hB', -⟩ := owns_blk h2 (by omega)
  simp only [Option.some.injEq, Addr.mk.injEq, and_true] at e
  subst e
  refine ⟨?_, ?_, ?_, owns_apartT hU hB' (by decide) (gr_set _ _ _ _), hb⟩
  · rw [List.length_set]; exact hB.kept (gr_set _ _ _ _) (by simp; omega)
  · rw [List.length_set]; exact h4
  · obtain ⟨qs, q1, q2, q3⟩ := hO
    exact ⟨qs, q1, owns_apartT q2 hB' (by decide) (gr_set _ _ _ _), fun p hp => owns_apartT (q3 p hp) hB' (by decide) (gr_set _ _ _ _)⟩

/-- The model in its parts, a tensors' block named. -/
theorem Mod.parts {w : World} {m : Nat} {md : M.Md} (h : Mod w m md) (hn : 0 < md.tensors.length) : ∃ g c1 a2 c2 a3 c3, Blk w m 139 #[.slice (some ⟨g, 0, none⟩) md.tensors.length c1, .slice a2 md.ops.length c2, .slice a3 md.outs.length c3] ∧
    Tns w (m + 1) (.slice (some ⟨g, 0, none⟩) md.tensors.length c1) md.tensors ∧ Ops w (m + 1) (.slice a2 md.ops.length c2) md.ops ∧ Ints w (m + 1) (.slice a3 md.outs.length c3) md.outs := by
  obtain ⟨a1, c1, a2, c2, a3, c3, hB, hT, hO, hU⟩ := h
  have hT' := hT
  obtain ⟨ps, h1, h2, h3⟩ := hT'
  obtain ⟨g', cur, rfl, -⟩ := owns_blk h2 hn
  exact ⟨g', c1, a2, c2, a3, c3, hB, hT, hO, hU⟩

theorem known_step {m : M.Md} {L : List Int} {j : Nat} {x : Int} (hx : L[j]? = some x) (h : (L.take j).all (fun n => H.knownT (M.tensorAt m n)) = true) (hk : H.knownT (M.tensorAt m x) = true) : (L.take (j + 1)).all (fun n => H.knownT (M.tensorAt m n)) = true := by
  rw [H.take_snoc hx, List.all_append, h]; simp [hk]
theorem known_not {m : M.Md} {L : List Int} {j : Nat} {x : Int} (hx : L[j]? = some x) (hk : H.knownT (M.tensorAt m x) = false) : L.all (fun n => H.knownT (M.tensorAt m n)) = false := by
  rw [List.all_eq_false]
  exact ⟨x, List.mem_of_getElem? hx, by rw [hk]; decide⟩

set_option maxRecDepth 100000 in
set_option maxHeartbeats 2000000 in
theorem isKnown_c (m : Nat) (md : M.Md) (o : M.Op) (ao : Option Addr) (p c : Nat) (w : World) (h : Mod w m md) (hn1 : md.tensors.length ≤ 255) :
    Calls Tryz.prog 143 #[.pointer (some ⟨m, 0, none⟩), .agg (oval o (.slice ao p c))] w fun e w' => e = .returned (.bool (H.isKnown md o)) ∧ w.grownBy w' none := by
  have HM := hide h
  have N0 := hide (Blk.new w 142 (oo o (.slice ao p c)))
  have G0 := hide (World.grownBy_alloc w (.cells (oo o (.slice ao p c)) 142) none)
  have HL := hide (readsL_len o)
  have HE : Hid (H.isKnown md o = (H.readsL o).all fun n => H.knownT (M.tensorAt md n)) := rfl
  clear h
  show Calls Tryz.prog 143 #[.pointer (some ⟨m, 0, none⟩), .agg (oo o (.slice ao p c))] w _
  go_enter Tryz.func143, Tryz.ntmps143
  go_wp2_with (refine wpList_load_row rfl 142 _ rfl w.heap.size rfl 142 (oo o (.slice ao p c)) (0, 0) _ N0.out Tryz.underlying142 rfl Tryz.size142 ?_)
  refine (reads_o o ao p c _).mono ?_
  rintro e w3 ⟨⟨g3, rfl, hI3⟩, hg3⟩
  have HG3 := hide (gr_trans G0.out hg3)
  have HI3 := hide hI3
  generalize H.readsL o = L at *
  have hL := HL.out
  clear hg3 hI3 N0 G0
  go_wp2
  go_loopw [11] (fun i wr => ∃ j : Nat, j ≤ L.length ∧ i = .int .i64 j ∧ (L.take j).all (fun n => H.knownT (M.tensorAt md n)) = true ∧ w3.grownBy wr none) (fun i _ => L.length - (intOf i).toNat)
  case atStart => exact ⟨0, Nat.zero_le _, rfl, by simp, World.grownBy.refl _ _⟩
  case round =>
    obtain ⟨j, hj, rfl, hal, hgj⟩ := hrel
    have Hal := hide hal
    have HGj := hide (gr_trans HG3.out hgj)
    clear hal
    by_cases hjt : j < L.length
    · obtain ⟨x, hx⟩ : ∃ x, L[j]? = some x := ⟨_, List.getElem?_eq_getElem hjt⟩
      obtain ⟨g', hg', -, -, d0⟩ := (HI3.out.kept0 hgj).get j x hx
      injection hg' with hg'
      injection hg' with hg' _ _
      subst hg'
      have Hno := hide fun hk => known_not (m := md) hx hk
      have Hst := hide fun hk => known_step hx Hal.out hk
      have HGG := hide hgj
      clear hx hgj
      go_wp2_with fail
      refine (tensorAt_c m md x _ (HM.out.kept0 HGj.out) hn1).mono ?_
      rintro e w5 ⟨t, ht, ⟨aa, pp, cc, rfl⟩, hg5⟩
      rw [ht.out] at Hno Hst
      have HG5 := hide (gr_trans HGG.out hg5)
      have HG6 := hide (gr_trans HGj.out hg5)
      have HG7 := hide (gr_trans HG5.out (World.grownBy_alloc w5 (.cells #[.int .i64 t.kind, .int .i64 t.h, .int .i64 t.w, .int .i64 t.c, .int .i64 t.zero, .slice aa pp cc] 158) none))
      have HG8 := hide (gr_trans HG6.out (World.grownBy_alloc w5 (.cells #[.int .i64 t.kind, .int .i64 t.h, .int .i64 t.w, .int .i64 t.c, .int .i64 t.zero, .slice aa pp cc] 158) none))
      clear hg5 d0
      cases k0 : (t.kind == 0) with
      | true =>
        have He := hide (Hno.out (show H.knownT t = false by unfold H.knownT; rw [k0]; rfl))
        go_wp2
        go_ret
        exact ⟨ret_bool (by rw [HE.out, He.out]), HG8.out⟩
      | false =>
        cases k3 : (t.kind == 3) with
        | true =>
          have He := hide (Hno.out (show H.knownT t = false by unfold H.knownT; rw [k0, k3]; rfl))
          go_wp2
          go_ret
          exact ⟨ret_bool (by rw [HE.out, He.out]), HG8.out⟩
        | false =>
          have He := hide (Hst.out (show H.knownT t = true by unfold H.knownT; rw [k0, k3]; rfl))
          go_wp2
          go_roundw
          case rel => exact ⟨j + 1, by omega, by go_num, He.out, HG7.out⟩
          case measure => simp [intOf]; omega
    · obtain rfl : j = L.length := by omega
      have He := hide (show L.all (fun n => H.knownT (M.tensorAt md n)) = true by have := Hal.out; rwa [List.take_length] at this)
      go_wp2
      go_ret
      exact ⟨ret_bool (by rw [HE.out, He.out]), HGj.out⟩

end Go.Proofs.YtcnhfffgbamonaaGreat
