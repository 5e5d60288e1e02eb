/-
  P5: what operators read: isReady, readsHold.
-/
import Derived.Test.YthfbllgbljimiaaCk2
import Derived.Deep.MidRow
import Derived.Deep.WholeRow
namespace Go.Proofs.Ythfbllgbljimiaa
open Go.RowKit

/-- The i-th operator's cells. -/
theorem Ops.get {w : World} {base : Nat} {a : Option Addr} {n c : Nat} {os : List M.Op} (h : Ops w base (.slice a n c) os) (i : Nat) (o : M.Op) (hi : os[i]? = some o) :
    ∃ g ao m cp, a = some ⟨g, 0, none⟩ ∧ g < w.heap.size ∧ base ≤ g ∧ Scs w base (.slice ao m cp) o.scales ∧ w.rangeAt g (i * 16) (oval o (.slice ao m cp)).toList := by
  obtain ⟨ps, h1, h2, h3⟩ := h
  have hlt : i < os.length := by
    rcases Nat.lt_or_ge i os.length with h' | h'
    · exact h'
    · simp [List.getElem?_eq_none h'] at hi
  obtain ⟨g, ha, hb, hn, hc⟩ := owns_some h2 (by omega)
  subst h1
  rw [List.getElem?_map] at hi
  obtain ⟨p, hp, rfl⟩ := Option.map_eq_some_iff.1 hi
  obtain ⟨ao, m, cp, hsh⟩ := (h3 p (List.mem_of_getElem? hp)).shape
  have hI := h3 p (List.mem_of_getElem? hp)
  rw [hsh] at hI
  have key : ∀ j, j < 16 → w.cell? ⟨g, i * 16 + j, none⟩ = (oval p.1 p.2).toList[j]? := by
    intro j hj
    rw [hc _ (by simp at hlt ⊢; omega)]
    exact flat_get (fun p : M.Op × Value => (oval p.1 p.2).toList) 16 (fun a => rfl) ps i j p hp hj
  have k0 : w.cell? ⟨g, i * 16 + 0, none⟩ = some (.int .i64 p.1.kind) := key 0 (by omega)
  refine ⟨g, ao, m, cp, ha, World.block_lt_of_cell? w _ k0, hb, hI, ?_⟩
  intro j v hv
  have hj : j < 16 := by
    rcases Nat.lt_or_ge j 16 with h' | h'
    · exact h'
    · rw [List.getElem?_eq_none (by simpa [oval] using h')] at hv; simp at hv
  rw [key j hj, hsh]
  exact hv

theorem Ints.get {w : World} {base : Nat} {a : Option Addr} {n c : Nat} {xs : List Int} (h : Ints w base (.slice a n c) xs) (i : Nat) (x : Int) (hi : xs[i]? = some x) :
    ∃ g, a = some ⟨g, 0, none⟩ ∧ g < w.heap.size ∧ base ≤ g ∧ w.cell? ⟨g, i, none⟩ = some (.int .i64 x) := by
  have hlt : i < xs.length := by
    rcases Nat.lt_or_ge i xs.length with h' | h'
    · exact h'
    · simp [List.getElem?_eq_none h'] at hi
  obtain ⟨g, ha, hb, hn, hc⟩ := owns_some h (by omega)
  have k : w.cell? ⟨g, i, none⟩ = some (.int .i64 x) := by
    rw [hc i (by omega), List.getElem?_map, hi]; rfl
  exact ⟨g, ha, World.block_lt_of_cell? w _ k, hb, k⟩
theorem Ints.len {w : World} {base : Nat} {a : Option Addr} {n c : Nat} {xs : List Int} (h : Ints w base (.slice a n c) xs) : n = xs.length := by
  obtain ⟨ao, c', e⟩ := owns_shape h
  injection e

theorem ready_no1 {md : M.Md} {by_ : List Int} {i n : Int} (h : M.isCells md n = false) : M.isReady md by_ i n = false := by simp [M.isReady, h]
theorem ready_no2 {md : M.Md} {by_ : List Int} {i n : Int} (h : (by_.length : Int) ≤ n) : M.isReady md by_ i n = false := by
  unfold M.isReady; rw [show decide (n < (by_.length : Int)) = false from by simp; omega]; simp
theorem ready_yes {md : M.Md} {by_ : List Int} {i : Int} {k : Nat} {x : Int} (h : M.isCells md k = true) (hx : by_[k]? = some x) : M.isReady md by_ i k = decide (x < i) := by
  have hk : k < by_.length := by
    rcases Nat.lt_or_ge k by_.length with h' | h'
    · exact h'
    · simp [List.getElem?_eq_none h'] at hx
  unfold M.isReady; rw [h, Int.toNat_natCast, List.getD_eq_getElem?_getD, hx]; simp [hk]

set_option maxHeartbeats 400000 in
theorem isReady_c (m B : Nat) (md : M.Md) (a : Option Addr) (nb cb : Nat) (by_ : List Int) (i n : Int) (w : World) (h : Mod w m md) (hw : md.tensors.length ≤ 255) (hI : Ints w B (.slice a nb cb) by_) (_hl : by_.length ≤ 255) :
    Calls Try.prog 98 #[.pointer (some ⟨m, 0, none⟩), .slice a nb cb, .int .i64 i, .int .i64 n] w fun e w' => e = .returned (.bool (M.isReady md by_ i n)) ∧ w' = w := by
  have hn := hI.len
  subst hn
  cases hc : M.isCells md n with
  | false =>
    have He := hide (ready_no1 (by_ := by_) (i := i) hc)
    go_enter Try.func98, Try.ntmps98
    go_wp2_with fail
    refine (isCells_c m md n w h hw).mono ?_
    rintro e w1 ⟨rfl, rfl⟩
    rw [hc]
    clear hc
    go_wp2
    go_ret
    exact ⟨ret_bool He.out.symm, rfl⟩
  | true =>
    have h0 : 0 ≤ n := by
      rcases (show n < 0 ∨ 0 ≤ n from by omega) with h' | h'
      · rw [isCells_no (.inl h')] at hc; simp at hc
      · exact h'
    obtain ⟨k, rfl⟩ := Int.eq_ofNat_of_zero_le h0
    have Hc := hide hc
    clear hc
    by_cases hk : k < by_.length
    · obtain ⟨x, hx⟩ : ∃ x, by_[k]? = some x := ⟨_, List.getElem?_eq_getElem hk⟩
      obtain ⟨g, rfl, hgl, -, d0⟩ := hI.get k x hx
      have He := hide (ready_yes (i := i) Hc.out hx)
      clear hI hx
      go_enter Try.func98, Try.ntmps98
      go_wp2_with fail
      refine (isCells_c m md k w h hw).mono ?_
      rintro e w1 ⟨rfl, rfl⟩
      rw [Hc.out]
      go_wp2
      go_ret
      exact ⟨ret_bool He.out.symm, rfl⟩
    · have He := hide (ready_no2 (md := md) (by_ := by_) (i := i) (n := k) (by omega))
      clear hI
      go_enter Try.func98, Try.ntmps98
      go_wp2_with fail
      refine (isCells_c m md k w h hw).mono ?_
      rintro e w1 ⟨rfl, rfl⟩
      rw [Hc.out]
      go_wp2
      go_ret
      exact ⟨ret_bool He.out.symm, rfl⟩

theorem reads_no {md : M.Md} {by_ : List Int} {i : Int} {o : M.Op} (h : M.isReady md by_ i o.a = false) : M.readsHold md by_ i o = false := by simp [M.readsHold, h]
theorem reads_two {md : M.Md} {by_ : List Int} {i : Int} {o : M.Op} (h : M.isReady md by_ i o.a = true) (h2 : M.readsTwo o.kind = true) : M.readsHold md by_ i o = M.isReady md by_ i o.b := by simp [M.readsHold, h, h2]
theorem reads_plain {md : M.Md} {by_ : List Int} {i : Int} {o : M.Op} (h : M.isReady md by_ i o.a = true) (h2 : M.readsTwo o.kind = false) (h3 : M.hasWeights o.kind = false) : M.readsHold md by_ i o = true := by simp [M.readsHold, h, h2, h3]
theorem reads_w {md : M.Md} {by_ : List Int} {i : Int} {o : M.Op} (h : M.isReady md by_ i o.a = true) (h2 : M.readsTwo o.kind = false) (h3 : M.hasWeights o.kind = true) : M.readsHold md by_ i o = (M.isKind md o.weights 1 && M.isKind md o.biases 2) := by simp [M.readsHold, h, h2, h3]

theorem hasWeights_o (o : M.Op) (sv : Value) (x : Bool) (w : World) (hx : M.hasWeights o.kind = x) : Calls Try.prog 67 #[.agg (oval o sv)] w fun e w' => e = .returned (.bool x) ∧ w.grownBy w' none := hasWeights_c o.kind _ _ _ _ _ _ _ _ _ _ _ _ _ _ _ x w hx
theorem readsTwo_o (o : M.Op) (sv : Value) (x : Bool) (w : World) (hx : M.readsTwo o.kind = x) : Calls Try.prog 66 #[.agg (oval o sv)] w fun e w' => e = .returned (.bool x) ∧ w.grownBy w' none := readsTwo_c o.kind _ _ _ _ _ _ _ _ _ _ _ _ _ _ _ x w hx

set_option maxHeartbeats 1000000 in
theorem readsHold_c (m B : Nat) (md : M.Md) (a : Option Addr) (nb cb : Nat) (by_ : List Int) (i : Int) (o : M.Op) (ao : Option Addr) (p c : Nat) (w : World) (h : Mod w m md) (hw : md.tensors.length ≤ 255) (hI : Ints w B (.slice a nb cb) by_) (hl : by_.length ≤ 255) :
    Calls Try.prog 80 #[.pointer (some ⟨m, 0, none⟩), .slice a nb cb, .int .i64 i, .agg (oval o (.slice ao p c))] w fun e w' => e = .returned (.bool (M.readsHold md by_ i o)) ∧ w.grownBy w' none := by
  have hg1 : w.grownBy (w.alloc (.cells (oval o (.slice ao p c)) 77)) none := World.grownBy_alloc _ _ _
  have hB1 : Blk (w.alloc (.cells (oval o (.slice ao p c)) 77)) w.heap.size 77 (oval o (.slice ao p c)) := Blk.new w 77 _
  have hM1 := h.kept0 hg1
  have hI1 := hI.kept0 hg1
  have HB1 := hide hB1
  have v1 : (oval o (.slice ao p c))[1]? = some (.int .i64 o.a) := rfl
  clear h hI hB1
  cases ha : M.isReady md by_ i o.a with
  | false =>
    have He := hide (reads_no ha)
    have Ha := hide ha
    clear ha
    go_enter Try.func80, Try.ntmps80
    go_wp2_with fail
    refine (isReady_c m B md a nb cb by_ i o.a _ hM1 hw hI1 hl).mono ?_
    rintro e w2 ⟨rfl, rfl⟩
    rw [Ha.out]
    go_wp2
    go_ret
    exact ⟨ret_bool He.out.symm, hg1⟩
  | true =>
    have Ha := hide ha
    clear ha
    go_enter Try.func80, Try.ntmps80
    go_wp2_with fail
    refine (isReady_c m B md a nb cb by_ i o.a _ hM1 hw hI1 hl).mono ?_
    rintro e w2 ⟨rfl, hw2⟩
    rw [Ha.out, hw2]
    clear hw2
    go_wp2_with (refine wpList_load_row rfl 77 _ rfl w.heap.size rfl 77 (oval o (.slice ao p c)) (0, 0) _ HB1.out Try.underlying77 rfl Try.size77 ?_)
    cases h2 : M.readsTwo o.kind with
    | true =>
      refine (readsTwo_o o (.slice ao p c) true _ h2).mono ?_
      rintro e w3 ⟨rfl, hg3⟩
      have He := hide (reads_two Ha.out h2)
      have hB3 := HB1.out.kept hg3 (by simp)
      have e2 : w3.cell? ⟨w.heap.size, 2, none⟩ = some (.int .i64 o.b) := hB3.cell 2
      have hM3 := hM1.kept0 hg3
      have hI3 := hI1.kept0 hg3
      have gw3 := gr_trans hg1 hg3
      clear h2 hB3 hg3 hM1 hI1 hg1 v1
      go_wp2_with fail
      refine (isReady_c m B md a nb cb by_ i o.b _ hM3 hw hI3 hl).mono ?_
      rintro e w4 ⟨rfl, hw4⟩
      rw [hw4]
      clear hw4
      go_wp2
      go_ret
      exact ⟨ret_bool He.out.symm, gw3⟩
    | false =>
      refine (readsTwo_o o (.slice ao p c) false _ h2).mono ?_
      rintro e w3 ⟨rfl, hg3⟩
      have H2 := hide h2
      have hB3 := HB1.out.kept hg3 (by simp)
      have hM3 := hM1.kept0 hg3
      have gw3 := gr_trans hg1 hg3
      have HB3 := hide hB3
      clear h2 hB3 hg3 hM1 hI1 hg1 v1
      go_wp2_with (refine wpList_load_row rfl 77 _ rfl w.heap.size rfl 77 (oval o (.slice ao p c)) (0, 0) _ HB3.out Try.underlying77 rfl Try.size77 ?_)
      cases h3 : M.hasWeights o.kind with
      | false =>
        refine (hasWeights_o o (.slice ao p c) false _ h3).mono ?_
        rintro e w4 ⟨rfl, hg4⟩
        have He := hide (reads_plain Ha.out H2.out h3)
        have gw4 := gr_trans gw3 hg4
        clear h3 hg4 gw3 hM3
        go_wp2
        go_ret
        exact ⟨ret_bool He.out.symm, gw4⟩
      | true =>
        refine (hasWeights_o o (.slice ao p c) true _ h3).mono ?_
        rintro e w4 ⟨rfl, hg4⟩
        have He := hide (reads_w Ha.out H2.out h3)
        have gw4 := gr_trans gw3 hg4
        have hB4 := HB3.out.kept hg4 (by simp)
        have hM4 := hM3.kept0 hg4
        have e3 : w4.cell? ⟨w.heap.size, 3, none⟩ = some (.int .i64 o.weights) := hB4.cell 3
        have e4 : w4.cell? ⟨w.heap.size, 4, none⟩ = some (.int .i64 o.biases) := hB4.cell 4
        clear h3 hg4 gw3 hM3 hB4
        go_wp2_with fail
        refine (isKind_c m md o.weights 1 _ hM4 hw).mono ?_
        rintro e w5 ⟨rfl, hw5⟩
        rw [hw5]
        clear hw5
        cases h5 : M.isKind md o.weights 1 with
        | false =>
          have H5 := hide h5
          clear h5
          go_wp2
          go_ret
          exact ⟨ret_bool (by rw [He.out, H5.out]; rfl), gw4⟩
        | true =>
          have H5 := hide h5
          clear h5
          go_wp2_with fail
          refine (isKind_c m md o.biases 2 _ hM4 hw).mono ?_
          rintro e w6 ⟨rfl, hw6⟩
          rw [hw6]
          clear hw6
          go_wp2
          go_ret
          exact ⟨ret_bool (by rw [He.out, H5.out]; rfl), gw4⟩

end Go.Proofs.Ythfbllgbljimiaa
