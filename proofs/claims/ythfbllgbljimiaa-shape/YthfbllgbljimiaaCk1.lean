/-
  Looking into a model: its cells; isCells, isKind.
-/
import Derived.Test.YthfbllgbljimiaaRd9
namespace Go.Proofs.Ythfbllgbljimiaa
open Go.RowKit

theorem flat_get {α β : Type} (f : α → List β) (k : Nat) (hf : ∀ a, (f a).length = k) : ∀ (ps : List α) (i j : Nat) (p : α), ps[i]? = some p → j < k → (ps.flatMap f)[i * k + j]? = (f p)[j]?
  | [], i, j, p, h, _ => by simp at h
  | q :: ps, 0, j, p, h, hj => by
    simp at h; subst h
    rw [List.flatMap_cons, Nat.zero_mul, Nat.zero_add, List.getElem?_append_left (by rw [hf]; exact hj)]
  | q :: ps, i + 1, j, p, h, hj => by
    have e : (i + 1) * k + j = (f q).length + (i * k + j) := by rw [hf, Nat.add_mul]; omega
    rw [List.flatMap_cons, e, List.getElem?_append_right (by omega), Nat.add_sub_cancel_left]
    exact flat_get f k hf ps i j p (by simpa using h) hj

theorem owns_some {w : World} {base : Nat} {e : TypeId} {size n : Nat} {a : Option Addr} {m c : Nat} {xs : List Value} (h : w.ownsRow base e size (.slice a m c) n xs) (hn : 0 < n) : ∃ g, a = some ⟨g, 0, none⟩ ∧ base ≤ g ∧ m = n ∧ ∀ j, j < n * size → w.cell? ⟨g, j, none⟩ = xs[j]? := by
  rcases h.2 with ⟨_, h0⟩ | ⟨g, cap, cur, hv, hb, hh, hr⟩
  · omega
  · injection hv with h1 h2 h3
    subst h1 h2 h3
    exact ⟨g, rfl, hb, rfl, fun j hj => World.ownsRow.cellAt h j hj⟩

/-- The i-th tensor's cells. -/
theorem Tns.get {w : World} {base : Nat} {a : Option Addr} {n c : Nat} {ts : List M.Tn} (h : Tns w base (.slice a n c) ts) (i : Nat) (t : M.Tn) (hi : ts[i]? = some t) :
    ∃ g ao m cp, a = some ⟨g, 0, none⟩ ∧ n = ts.length ∧ base ≤ g ∧ Ints w base (.slice ao m cp) t.data ∧
      w.cell? ⟨g, i * 6, none⟩ = some (.int .i64 t.kind) ∧ w.cell? ⟨g, i * 6 + 1, none⟩ = some (.int .i64 t.h) ∧ w.cell? ⟨g, i * 6 + 2, none⟩ = some (.int .i64 t.w) ∧
      w.cell? ⟨g, i * 6 + 3, none⟩ = some (.int .i64 t.c) ∧ w.cell? ⟨g, i * 6 + 4, none⟩ = some (.int .i64 t.zero) ∧ w.cell? ⟨g, i * 6 + 5, none⟩ = some (.slice ao m cp) := by
  obtain ⟨ps, h1, h2, h3⟩ := h
  have hlt : i < ts.length := by
    rcases Nat.lt_or_ge i ts.length with h' | h'
    · exact h'
    · simp [List.getElem?_eq_none h'] at hi
  obtain ⟨g, ha, hb, hn, hc⟩ := owns_some h2 (by omega)
  subst h1
  rw [List.getElem?_map] at hi
  obtain ⟨p, hp, rfl⟩ := Option.map_eq_some_iff.1 hi
  obtain ⟨ao, m, cp, hsh⟩ := (h3 p (List.mem_of_getElem? hp)).shape
  have hI := h3 p (List.mem_of_getElem? hp)
  rw [hsh] at hI
  have key : ∀ j, j < 6 → w.cell? ⟨g, i * 6 + j, none⟩ = (tval p.1 p.2).toList[j]? := by
    intro j hj
    rw [hc _ (by simp at hlt ⊢; omega)]
    exact flat_get (fun p : M.Tn × Value => (tval p.1 p.2).toList) 6 (fun a => rfl) ps i j p hp hj
  refine ⟨g, ao, m, cp, ha, hn, hb, hI, key 0 (by omega), key 1 (by omega), key 2 (by omega), key 3 (by omega), key 4 (by omega), ?_⟩
  rw [key 5 (by omega), hsh]
  rfl

theorem Mod.kept0 {w w' : World} {m : Nat} {md : M.Md} (h : Mod w m md) (hg : w.grownBy w' none) : Mod w' m md := by
  obtain ⟨a1, c1, a2, c2, a3, c3, h1, h2, h3, h4⟩ := h
  exact ⟨a1, c1, a2, c2, a3, c3, h1.kept hg (by simp), h2.kept0 hg, h3.kept0 hg, h4.kept0 hg⟩

theorem kind_get {md : M.Md} {n : Nat} {t : M.Tn} (h : md.tensors[n]? = some t) : (md.tensors.map (·.kind)).getD n 0 = t.kind := by
  rw [List.getD_eq_getElem?_getD, List.getElem?_map, h]; rfl

theorem isCells_no {md : M.Md} {n : Int} (h : n < 0 ∨ (md.tensors.length : Int) ≤ n) : M.isCells md n = false := by
  unfold M.isCells
  rcases h with h | h
  · rw [show decide (0 ≤ n) = false from by simp; omega]; rfl
  · rw [show decide (n < (md.tensors.length : Int)) = false from by simp; omega]; simp
theorem isKind_no {md : M.Md} {n q : Int} (h : n < 0 ∨ (md.tensors.length : Int) ≤ n) : M.isKind md n q = false := by
  unfold M.isKind
  rcases h with h | h
  · rw [show decide (0 ≤ n) = false from by simp; omega]; rfl
  · rw [show decide (n < (md.tensors.length : Int)) = false from by simp; omega]; simp

set_option maxHeartbeats 400000 in
theorem isCells_c (m : Nat) (md : M.Md) (n : Int) (w : World) (h : Mod w m md) (_hw : md.tensors.length ≤ 255) :
    Calls Try.prog 81 #[.pointer (some ⟨m, 0, none⟩), .int .i64 n] w fun e w' => e = .returned (.bool (M.isCells md n)) ∧ w' = w := by
  obtain ⟨a1, c1, a2, c2, a3, c3, hB, hT, hO, hU⟩ := h
  have q0 : w.cell? ⟨m, 0, none⟩ = some (.slice a1 md.tensors.length c1) := hB.cell 0
  clear hB hO hU
  by_cases h0 : 0 ≤ n
  · by_cases h1 : n < md.tensors.length
    · obtain ⟨k, rfl⟩ := Int.eq_ofNat_of_zero_le h0
      have hk : k < md.tensors.length := by omega
      obtain ⟨t, ht⟩ : ∃ t, md.tensors[k]? = some t := ⟨_, List.getElem?_eq_getElem hk⟩
      obtain ⟨g, ao, m', cp, rfl, -, -, -, d0, -⟩ := hT.get k t ht
      have e : M.isCells md k = (t.kind != 2) := by
        unfold M.isCells; rw [Int.toNat_natCast, kind_get ht]; simp [hk]
      have He := hide e
      clear e hT ht
      go_enter Try.func81, Try.ntmps81
      go_wp2
      go_ret
      exact ⟨ret_bool He.out.symm, rfl⟩
    · have He := hide (isCells_no (n := n) (.inr (by omega)) : M.isCells md n = false)
      clear hT
      go_enter Try.func81, Try.ntmps81
      go_wp2
      go_ret
      exact ⟨ret_bool He.out.symm, rfl⟩
  · have He := hide (isCells_no (n := n) (.inl (by omega)) : M.isCells md n = false)
    clear hT
    go_enter Try.func81, Try.ntmps81
    go_wp2
    go_ret
    exact ⟨ret_bool He.out.symm, rfl⟩

set_option maxHeartbeats 400000 in
theorem isKind_c (m : Nat) (md : M.Md) (n q : Int) (w : World) (h : Mod w m md) (_hw : md.tensors.length ≤ 255) :
    Calls Try.prog 97 #[.pointer (some ⟨m, 0, none⟩), .int .i64 n, .int .i64 q] w fun e w' => e = .returned (.bool (M.isKind md n q)) ∧ w' = w := by
  obtain ⟨a1, c1, a2, c2, a3, c3, hB, hT, hO, hU⟩ := h
  have q0 : w.cell? ⟨m, 0, none⟩ = some (.slice a1 md.tensors.length c1) := hB.cell 0
  clear hB hO hU
  by_cases h0 : 0 ≤ n
  · by_cases h1 : n < md.tensors.length
    · obtain ⟨k, rfl⟩ := Int.eq_ofNat_of_zero_le h0
      have hk : k < md.tensors.length := by omega
      obtain ⟨t, ht⟩ : ∃ t, md.tensors[k]? = some t := ⟨_, List.getElem?_eq_getElem hk⟩
      obtain ⟨g, ao, m', cp, rfl, -, -, -, d0, -⟩ := hT.get k t ht
      have e : M.isKind md k q = (t.kind == q) := by
        unfold M.isKind; rw [Int.toNat_natCast, kind_get ht]; simp [hk]
      have He := hide e
      clear e hT ht
      go_enter Try.func97, Try.ntmps97
      go_wp2
      go_ret
      exact ⟨ret_bool He.out.symm, rfl⟩
    · have He := hide (isKind_no (n := n) (q := q) (.inr (by omega)) : M.isKind md n q = false)
      clear hT
      go_enter Try.func97, Try.ntmps97
      go_wp2
      go_ret
      exact ⟨ret_bool He.out.symm, rfl⟩
  · have He := hide (isKind_no (n := n) (q := q) (.inl (by omega)) : M.isKind md n q = false)
    clear hT
    go_enter Try.func97, Try.ntmps97
    go_wp2
    go_ret
    exact ⟨ret_bool He.out.symm, rfl⟩

theorem Try.size72 : (Try.prog.info? 72).map (·.size) = some 6 := by kernel_rfl
theorem one6 (k h w c z : Int) (ao : Option Addr) (m cp : Nat) : (t6 k h w c z (.slice ao m cp)).all (·.oneCell') = true := by
  simp [Value.oneCell']

theorem tensorAt_no {md : M.Md} {n : Int} (h : n < 0 ∨ (md.tensors.length : Int) ≤ n) : M.tensorAt md n = M.noTn := by
  unfold M.tensorAt; rw [if_pos h]
theorem tensorAt_yes {md : M.Md} {k : Nat} {t : M.Tn} (h : md.tensors[k]? = some t) : M.tensorAt md k = t := by
  have hk : k < md.tensors.length := by
    rcases Nat.lt_or_ge k md.tensors.length with h' | h'
    · exact h'
    · simp [List.getElem?_eq_none h'] at h
  unfold M.tensorAt; rw [if_neg (by omega), Int.toNat_natCast, List.getD_eq_getElem?_getD, h]; rfl

set_option maxHeartbeats 800000 in
theorem tensorAt_c (m : Nat) (md : M.Md) (n : Int) (w : World) (h : Mod w m md) (_hw : md.tensors.length ≤ 255) :
    Calls Try.prog 64 #[.pointer (some ⟨m, 0, none⟩), .int .i64 n] w fun e w' => ∃ t, Hid (M.tensorAt md n = t) ∧ (∃ ao p c, e = .returned (.agg #[.int .i64 t.kind, .int .i64 t.h, .int .i64 t.w, .int .i64 t.c, .int .i64 t.zero, .slice ao p c])) ∧ w.grownBy w' none := by
  obtain ⟨a1, c1, a2, c2, a3, c3, hB, hT, hO, hU⟩ := h
  have hml := hB.lt
  have q0 : w.cell? ⟨m, 0, none⟩ = some (.slice a1 md.tensors.length c1) := hB.cell 0
  clear hB hO hU
  by_cases hc : n < 0 ∨ (md.tensors.length : Int) ≤ n
  · have He := hide (tensorAt_no hc)
    clear hT
    rcases hc with hc | hc
    · go_enter Try.func64, Try.ntmps64
      go_wp2
      refine bodyPost_ret (v := .agg (t6 0 0 0 0 0 (.slice none 0 0))) ?hr rfl ?_
      case hr => exact results_cell_row Try.results64 _ _ w.heap.size 72 _ (0, 0) _ rfl (Blk.new w 72 _) Try.underlying72 rfl Try.size72
      exact ⟨M.noTn, He, ⟨none, 0, 0, rfl⟩, World.grownBy_alloc _ _ _⟩
    · by_cases hc0 : n < 0
      · omega
      · go_enter Try.func64, Try.ntmps64
        go_wp2
        refine bodyPost_ret (v := .agg (t6 0 0 0 0 0 (.slice none 0 0))) ?hr rfl ?_
        case hr => exact results_cell_row Try.results64 _ _ w.heap.size 72 _ (0, 0) _ rfl (Blk.new w 72 _) Try.underlying72 rfl Try.size72
        exact ⟨M.noTn, He, ⟨none, 0, 0, rfl⟩, World.grownBy_alloc _ _ _⟩
  · obtain ⟨k, rfl⟩ := Int.eq_ofNat_of_zero_le (show 0 ≤ n by omega)
    have hk : k < md.tensors.length := by omega
    obtain ⟨t, ht⟩ : ∃ t, md.tensors[k]? = some t := ⟨_, List.getElem?_eq_getElem hk⟩
    obtain ⟨g, ao, m', cp, rfl, -, -, -, d0, d1, d2, d3, d4, d5⟩ := hT.get k t ht
    have He := hide (tensorAt_yes ht)
    have hgl : g < w.heap.size := World.block_lt_of_cell? w _ d0
    clear hT ht hc
    go_enter Try.func64, Try.ntmps64
    go_wp2
    refine bodyPost_ret (v := .agg (t6 t.kind t.h t.w t.c t.zero (.slice ao m' cp))) ?hr rfl ?_
    case hr => exact results_cell_row Try.results64 _ _ w.heap.size 72 _ (0, 0) _ rfl (Blk.new w 72 _) Try.underlying72 rfl Try.size72
    exact ⟨t, He, ⟨ao, m', cp, rfl⟩, World.grownBy_alloc _ _ _⟩

end Go.Proofs.Ythfbllgbljimiaa
