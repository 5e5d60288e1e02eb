import Derived.Test.YtcnhfffgbamonaaGreatRd9
import Derived.Deep.MidRow
import Derived.Deep.WholeRow
/-
  Looking into a model: its cells; isCells, isKind.
-/
namespace Go.Proofs.YtcnhfffgbamonaaGreat
open Go.RowKit

theorem flat_get {α β : Type} (f : α → List β) (k : Nat) (hf : ∀ a, (f a).length = k) : ∀ (ps : List α) (i j : Nat) (p : α), ps[i]? = some p → j < k → (ps.flatMap f)[i * k + j]? = (f p)[j]?
  | [], i, j, p, h, _ => by simp at h
  | q :: ps, 0, j, p, h, hj => by
    simp at h; subst h
    rw [List.flatMap_cons, Nat.zero_mul, Nat.zero_add, List.getElem?_append_left (by rw [hf]; exact hj)]
  | q :: ps, i + 1, j, p, h, hj => by
    have e : (i + 1) * k + j = (f q).length + (i * k + j) := by rw [hf, Nat.add_mul]; omega
    rw [List.flatMap_cons, e, List.getElem?_append_right (by omega), Nat.add_sub_cancel_left]
    exact flat_get f k hf ps i j p (by simpa using h) hj

theorem owns_some {w : World} {base : Nat} {e : TypeId} {size n : Nat} {a : Option Addr} {m c : Nat} {xs : List Value} (h : w.ownsRow base e size (.slice a m c) n xs) (hn : 0 < n) : ∃ g, a = some ⟨g, 0, none⟩ ∧ base ≤ g ∧ m = n ∧ ∀ j, j < n * size → w.cell? ⟨g, j, none⟩ = xs[j]? := by
  rcases h.2 with ⟨_, h0⟩ | ⟨g, cap, cur, hv, hb, hh, hr⟩
  · omega
  · injection hv with h1 h2 h3
    subst h1 h2 h3
    exact ⟨g, rfl, hb, rfl, fun j hj => World.ownsRow.cellAt h j hj⟩

/-- The i-th tensor's cells. -/
theorem Tns.get {w : World} {base : Nat} {a : Option Addr} {n c : Nat} {ts : List M.Tn} (h : Tns w base (.slice a n c) ts) (i : Nat) (t : M.Tn) (hi : ts[i]? = some t) :
    ∃ g ao m cp, a = some ⟨g, 0, none⟩ ∧ n = ts.length ∧ base ≤ g ∧ Ints w base (.slice ao m cp) t.data ∧
      w.cell? ⟨g, i * 6, none⟩ = some (.int .i64 t.kind) ∧ w.cell? ⟨g, i * 6 + 1, none⟩ = some (.int .i64 t.h) ∧ w.cell? ⟨g, i * 6 + 2, none⟩ = some (.int .i64 t.w) ∧
      w.cell? ⟨g, i * 6 + 3, none⟩ = some (.int .i64 t.c) ∧ w.cell? ⟨g, i * 6 + 4, none⟩ = some (.int .i64 t.zero) ∧ w.cell? ⟨g, i * 6 + 5, none⟩ = some (.slice ao m cp) := by
  obtain ⟨ps, h1, h2, h3⟩ := h
  have hlt : i < ts.length := by
    rcases Nat.lt_or_ge i ts.length with h' | h'
    · exact h'
    · simp [List.getElem?_eq_none h'] at hi
  obtain ⟨g, ha, hb, hn, hc⟩ := owns_some h2 (by omega)
  subst h1
  rw [List.getElem?_map] at hi
  obtain ⟨p, hp, rfl⟩ := Option.map_eq_some_iff.1 hi
  obtain ⟨ao, m, cp, hsh⟩ := (h3 p (List.mem_of_getElem? hp)).shape
  have hI := h3 p (List.mem_of_getElem? hp)
  rw [hsh] at hI
  have key : ∀ j, j < 6 → w.cell? ⟨g, i * 6 + j, none⟩ = (tval p.1 p.2).toList[j]? := by
    intro j hj
    rw [hc _ (by simp at hlt ⊢; omega)]
    exact flat_get (fun p : M.Tn × Value => (tval p.1 p.2).toList) 6 (fun a => rfl) ps i j p hp hj
  refine ⟨g, ao, m, cp, ha, hn, hb, hI, key 0 (by omega), key 1 (by omega), key 2 (by omega), key 3 (by omega), key 4 (by omega), ?_⟩
  rw [key 5 (by omega), hsh]
  rfl

theorem Mod.kept0 {w w' : World} {m : Nat} {md : M.Md} (h : Mod w m md) (hg : w.grownBy w' none) : Mod w' m md := by
  obtain ⟨a1, c1, a2, c2, a3, c3, h1, h2, h3, h4⟩ := h
  exact ⟨a1, c1, a2, c2, a3, c3, h1.kept hg (by simp), h2.kept0 hg, h3.kept0 hg, h4.kept0 hg⟩

theorem kind_get {md : M.Md} {n : Nat} {t : M.Tn} (h : md.tensors[n]? = some t) : (md.tensors.map (·.kind)).getD n 0 = t.kind := by
  rw [List.getD_eq_getElem?_getD, List.getElem?_map, h]; rfl

theorem isCells_no {md : M.Md} {n : Int} (h : n < 0 ∨ (md.tensors.length : Int) ≤ n) : M.isCells md n = false := by
  unfold M.isCells
  rcases h with h | h
  · rw [show decide (0 ≤ n) = false from by simp; omega]; rfl
  · rw [show decide (n < (md.tensors.length : Int)) = false from by simp; omega]; simp
theorem isKind_no {md : M.Md} {n q : Int} (h : n < 0 ∨ (md.tensors.length : Int) ≤ n) : M.isKind md n q = false := by
  unfold M.isKind
  rcases h with h | h
  · rw [show decide (0 ≤ n) = false from by simp; omega]; rfl
  · rw [show decide (n < (md.tensors.length : Int)) = false from by simp; omega]; simp

set_option maxHeartbeats 400000 in
theorem isCells_c (m : Nat) (md : M.Md) (n : Int) (w : World) (h : Mod w m md) (_hw : md.tensors.length ≤ 255) :
    Calls Tryz.prog 167 #[.pointer (some ⟨m, 0, none⟩), .int .i64 n] w fun e w' => e = .returned (.bool (M.isCells md n)) ∧ w' = w := by
  obtain ⟨a1, c1, a2, c2, a3, c3, hB, hT, hO, hU⟩ := h
  have q0 : w.cell? ⟨m, 0, none⟩ = some (.slice a1 md.tensors.length c1) := hB.cell 0
  clear hB hO hU
  by_cases h0 : 0 ≤ n
  · by_cases h1 : n < md.tensors.length
    · obtain ⟨k, rfl⟩ := Int.eq_ofNat_of_zero_le h0
      have hk : k < md.tensors.length := by omega
      obtain ⟨t, ht⟩ : ∃ t, md.tensors[k]? = some t := ⟨_, List.getElem?_eq_getElem hk⟩
      obtain ⟨g, ao, m', cp, rfl, -, -, -, d0, -⟩ := hT.get k t ht
      have e : M.isCells md k = (t.kind != 2) := by
        unfold M.isCells; rw [Int.toNat_natCast, kind_get ht]; simp [hk]
      have He := hide e
      clear e hT ht
      go_enter Tryz.func167, Tryz.ntmps167
      go_wp2
      go_ret
      exact ⟨ret_bool He.out.symm, rfl⟩
    · have He := hide (isCells_no (n := n) (.inr (by omega)) : M.isCells md n = false)
      clear hT
      go_enter Tryz.func167, Tryz.ntmps167
      go_wp2
      go_ret
      exact ⟨ret_bool He.out.symm, rfl⟩
  · have He := hide (isCells_no (n := n) (.inl (by omega)) : M.isCells md n = false)
    clear hT
    go_enter Tryz.func167, Tryz.ntmps167
    go_wp2
    go_ret
    exact ⟨ret_bool He.out.symm, rfl⟩

set_option maxHeartbeats 400000 in
theorem isKind_c (m : Nat) (md : M.Md) (n q : Int) (w : World) (h : Mod w m md) (_hw : md.tensors.length ≤ 255) :
    Calls Tryz.prog 186 #[.pointer (some ⟨m, 0, none⟩), .int .i64 n, .int .i64 q] w fun e w' => e = .returned (.bool (M.isKind md n q)) ∧ w' = w := by
  obtain ⟨a1, c1, a2, c2, a3, c3, hB, hT, hO, hU⟩ := h
  have q0 : w.cell? ⟨m, 0, none⟩ = some (.slice a1 md.tensors.length c1) := hB.cell 0
  clear hB hO hU
  by_cases h0 : 0 ≤ n
  · by_cases h1 : n < md.tensors.length
    · obtain ⟨k, rfl⟩ := Int.eq_ofNat_of_zero_le h0
      have hk : k < md.tensors.length := by omega
      obtain ⟨t, ht⟩ : ∃ t, md.tensors[k]? = some t := ⟨_, List.getElem?_eq_getElem hk⟩
      obtain ⟨g, ao, m', cp, rfl, -, -, -, d0, -⟩ := hT.get k t ht
      have e : M.isKind md k q = (t.kind == q) := by
        unfold M.isKind; rw [Int.toNat_natCast, kind_get ht]; simp [hk]
      have He := hide e
      clear e hT ht
      go_enter Tryz.func186, Tryz.ntmps186
      go_wp2
      go_ret
      exact ⟨ret_bool He.out.symm, rfl⟩
    · have He := hide (isKind_no (n := n) (q := q) (.inr (by omega)) : M.isKind md n q = false)
      clear hT
      go_enter Tryz.func186, Tryz.ntmps186
      go_wp2
      go_ret
      exact ⟨ret_bool He.out.symm, rfl⟩
  · have He := hide (isKind_no (n := n) (q := q) (.inl (by omega)) : M.isKind md n q = false)
    clear hT
    go_enter Tryz.func186, Tryz.ntmps186
    go_wp2
    go_ret
    exact ⟨ret_bool He.out.symm, rfl⟩

theorem Tryz.size158 : (Tryz.prog.info? 158).map (·.size) = some 6 := by kernel_rfl
theorem one6 (k h w c z : Int) (ao : Option Addr) (m cp : Nat) : (t6 k h w c z (.slice ao m cp)).all (·.oneCell') = true := by
  simp [Value.oneCell']

theorem tensorAt_no {md : M.Md} {n : Int} (h : n < 0 ∨ (md.tensors.length : Int) ≤ n) : M.tensorAt md n = M.noTn := by
  unfold M.tensorAt; rw [if_pos h]
theorem tensorAt_yes {md : M.Md} {k : Nat} {t : M.Tn} (h : md.tensors[k]? = some t) : M.tensorAt md k = t := by
  have hk : k < md.tensors.length := by
    rcases Nat.lt_or_ge k md.tensors.length with h' | h'
    · exact h'
    · simp [List.getElem?_eq_none h'] at h
  unfold M.tensorAt; rw [if_neg (by omega), Int.toNat_natCast, List.getD_eq_getElem?_getD, h]; rfl

set_option maxHeartbeats 800000 in
theorem tensorAt_c (m : Nat) (md : M.Md) (n : Int) (w : World) (h : Mod w m md) (_hw : md.tensors.length ≤ 255) :
    Calls Tryz.prog 108 #[.pointer (some ⟨m, 0, none⟩), .int .i64 n] w fun e w' => ∃ t, Hid (M.tensorAt md n = t) ∧ (∃ ao p c, e = .returned (.agg #[.int .i64 t.kind, .int .i64 t.h, .int .i64 t.w, .int .i64 t.c, .int .i64 t.zero, .slice ao p c])) ∧ w.grownBy w' none := by
  obtain ⟨a1, c1, a2, c2, a3, c3, hB, hT, hO, hU⟩ := h
  have hml := hB.lt
  have q0 : w.cell? ⟨m, 0, none⟩ = some (.slice a1 md.tensors.length c1) := hB.cell 0
  clear hB hO hU
  by_cases hc : n < 0 ∨ (md.tensors.length : Int) ≤ n
  · have He := hide (tensorAt_no hc)
    clear hT
    rcases hc with hc | hc
    · go_enter Tryz.func108, Tryz.ntmps108
      go_wp2
      refine bodyPost_ret (v := .agg (t6 0 0 0 0 0 (.slice none 0 0))) ?hr rfl ?_
      case hr => exact results_cell_row Tryz.results108 _ _ w.heap.size 158 _ (0, 0) _ rfl (Blk.new w 158 _) Tryz.underlying158 rfl Tryz.size158
      exact ⟨M.noTn, He, ⟨none, 0, 0, rfl⟩, World.grownBy_alloc _ _ _⟩
    · by_cases hc0 : n < 0
      · omega
      · go_enter Tryz.func108, Tryz.ntmps108
        go_wp2
        refine bodyPost_ret (v := .agg (t6 0 0 0 0 0 (.slice none 0 0))) ?hr rfl ?_
        case hr => exact results_cell_row Tryz.results108 _ _ w.heap.size 158 _ (0, 0) _ rfl (Blk.new w 158 _) Tryz.underlying158 rfl Tryz.size158
        exact ⟨M.noTn, He, ⟨none, 0, 0, rfl⟩, World.grownBy_alloc _ _ _⟩
  · obtain ⟨k, rfl⟩ := Int.eq_ofNat_of_zero_le (show 0 ≤ n by omega)
    have hk : k < md.tensors.length := by omega
    obtain ⟨t, ht⟩ : ∃ t, md.tensors[k]? = some t := ⟨_, List.getElem?_eq_getElem hk⟩
    obtain ⟨g, ao, m', cp, rfl, -, -, -, d0, d1, d2, d3, d4, d5⟩ := hT.get k t ht
    have He := hide (tensorAt_yes ht)
    have hgl : g < w.heap.size := World.block_lt_of_cell? w _ d0
    clear hT ht hc
    go_enter Tryz.func108, Tryz.ntmps108
    go_wp2
    refine bodyPost_ret (v := .agg (t6 t.kind t.h t.w t.c t.zero (.slice ao m' cp))) ?hr rfl ?_
    case hr => exact results_cell_row Tryz.results108 _ _ w.heap.size 158 _ (0, 0) _ rfl (Blk.new w 158 _) Tryz.underlying158 rfl Tryz.size158
    exact ⟨t, He, ⟨ao, m', cp, rfl⟩, World.grownBy_alloc _ _ _⟩

end Go.Proofs.YtcnhfffgbamonaaGreat

/-
  P4: the limits.
-/
namespace Go.Proofs.YtcnhfffgbamonaaGreat
open Go.RowKit

def part (t : M.Tn) : Int := if t.kind = 0 ∨ t.kind = 3 then M.cellsOf t else 0

theorem sumTo_snoc (l : List M.Tn) (t : M.Tn) : M.sumTo (l ++ [t]) = M.sumTo l + part t := by
  induction l with
  | nil => simp [M.sumTo, part]
  | cons a l ih => simp only [List.cons_append, M.sumTo, ih]; omega

theorem take_snoc_get {α : Type} {l : List α} {k : Nat} {t : α} (h : l[k]? = some t) : l.take (k + 1) = l.take k ++ [t] := by
  have hk : k < l.length := by
    rcases Nat.lt_or_ge k l.length with h' | h'
    · exact h'
    · simp [List.getElem?_eq_none h'] at h
  rw [List.take_succ_eq_append_getElem hk]
  rw [List.getElem?_eq_getElem hk] at h
  injection h with h
  rw [h]

/-- What holds of the first k tensors. -/
structure LimTo (ts : List M.Tn) (k : Nat) (sum : Int) : Prop where
  eq : M.sumTo (ts.take k) = sum
  lo : 0 ≤ sum
  hi : sum ≤ 512 * (k : Int)
  all : (ts.take k).all M.cellsHold = true

theorem LimTo.step {ts : List M.Tn} {k : Nat} {sum : Int} {t : M.Tn} (h : LimTo ts k sum) (ht : ts[k]? = some t) (h1 : 1 ≤ M.cellsOf t) (h2 : M.cellsOf t ≤ 512) : LimTo ts (k + 1) (sum + part t) := by
  have hp : 0 ≤ part t ∧ part t ≤ 512 := by unfold part; split <;> omega
  have e := take_snoc_get ht
  have h3 := h.lo
  have h4 := h.hi
  refine ⟨by rw [e, sumTo_snoc, h.eq], by omega, by simp only [Int.natCast_add, Int.cast_ofNat_Int]; omega, ?_⟩
  rw [e, List.all_append, h.all]
  simp [M.cellsHold]
  omega

theorem lim_bad {md : M.Md} {k : Nat} {t : M.Tn} (ht : md.tensors[k]? = some t) (h : M.cellsOf t < 1 ∨ 512 < M.cellsOf t) : M.limits md = false := by
  have h1 : M.cellsHold t = false := by unfold M.cellsHold; rcases h with h | h <;> simp [h]
  have h2 : md.tensors.all M.cellsHold = false := by
    rw [List.all_eq_false]
    exact ⟨t, List.mem_of_getElem? ht, by simp [h1]⟩
  simp [M.limits, h2]

theorem lim_end {md : M.Md} {sum : Int} (h : LimTo md.tensors md.tensors.length sum) (h1 : md.tensors.length ≤ 24) (h2 : md.ops.length ≤ 16) (h3 : (md.outs.length : Int) ≠ 0) : M.limits md = decide (sum ≤ 2048) := by
  have ha := h.all
  have he := h.eq
  rw [List.take_length] at ha he
  have h4 : md.outs ≠ [] := by intro e; rw [e] at h3; simp at h3
  unfold M.limits
  rw [ha, he]
  have h5 : md.outs.isEmpty = false := by simp [h4]
  rw [h5, show decide (24 < md.tensors.length) = false from by simp; omega, show decide (16 < md.ops.length) = false from by simp; omega]
  simp

theorem lim_head {md : M.Md} (h : 24 < md.tensors.length ∨ 16 < md.ops.length ∨ md.outs.length = 0) : M.limits md = false := by
  have : (decide (24 < md.tensors.length) || decide (16 < md.ops.length) || md.outs.isEmpty) = true := by
    rcases h with h | h | h
    · simp [h]
    · simp [h]
    · have : md.outs = [] := List.eq_nil_of_length_eq_zero h
      simp [this]
  simp only [M.limits, this]
  rfl

set_option maxHeartbeats 1000000 in
theorem limits_c (m : Nat) (md : M.Md) (w : World) (h : Mod w m md) (hw : WfM md) :
    Calls Tryz.prog 139 #[.pointer (some ⟨m, 0, none⟩)] w fun e w' => e = .returned (.bool (M.limits md)) ∧ w.grownBy w' none := by
  have hn1 := hw.nt
  have hn2 := hw.no
  have hn3 := hw.nu
  have hM := h
  obtain ⟨a1, c1, a2, c2, a3, c3, hB, hT, hO, hU⟩ := h
  have q0 : w.cell? ⟨m, 0, none⟩ = some (.slice a1 md.tensors.length c1) := hB.cell 0
  have q1 : w.cell? ⟨m, 1, none⟩ = some (.slice a2 md.ops.length c2) := hB.cell 1
  have q2 : w.cell? ⟨m, 2, none⟩ = some (.slice a3 md.outs.length c3) := hB.cell 2
  have hml := hB.lt
  clear hB hO hU
  by_cases g1 : 24 < md.tensors.length
  · have He := hide (lim_head (.inl g1))
    clear hT
    go_enter Tryz.func139, Tryz.ntmps139
    go_wp2
    go_ret
    exact ⟨ret_bool He.out.symm, World.grownBy.refl _ _⟩
  · by_cases g2 : 16 < md.ops.length
    · have He := hide (lim_head (.inr (.inl g2)))
      clear hT
      go_enter Tryz.func139, Tryz.ntmps139
      go_wp2
      go_ret
      exact ⟨ret_bool He.out.symm, World.grownBy.refl _ _⟩
    · by_cases g3 : md.outs.length = 0
      · have He := hide (lim_head (.inr (.inr g3)))
        clear hT
        have g3' : ((md.outs.length : Int) == 0) = true := by simp [g3]
        clear g3
        go_enter Tryz.func139, Tryz.ntmps139
        go_wp2
        go_ret
        exact ⟨ret_bool He.out.symm, World.grownBy.refl _ _⟩
      · have g3' : ((md.outs.length : Int) == 0) = false := by simp [g3]
        have g3n : (md.outs.length : Int) ≠ 0 := by omega
        have G3n := hide g3n
        clear g3 g3n
        have g1' : md.tensors.length ≤ 24 := by omega
        have g2' : md.ops.length ≤ 16 := by omega
        clear g1 g2
        go_enter Tryz.func139, Tryz.ntmps139
        go_wp2
        go_loopw [34, 3] (fun i v wr => ∃ (k : Nat) (sum : Int), k ≤ md.tensors.length ∧ i = .int .i64 k ∧ v = .int .i64 sum ∧ LimTo md.tensors k sum ∧ w.grownBy wr none) (fun i _ _ => md.tensors.length - (intOf i).toNat)
        case atStart => exact ⟨0, 0, Nat.zero_le _, rfl, rfl, ⟨by simp [M.sumTo], by omega, by simp, by simp⟩, World.grownBy.refl _ _⟩
        case round =>
          obtain ⟨k, sum, hk, rfl, rfl, hL, hgk⟩ := hrel
          by_cases hlt : k < md.tensors.length
          · obtain ⟨t, ht⟩ : ∃ t, md.tensors[k]? = some t := ⟨_, List.getElem?_eq_getElem hlt⟩
            obtain ⟨g, ao, m', cp, rfl, -, -, -, d0, d1, d2, d3, d4, d5⟩ := (hT.kept0 hgk).get k t ht
            have hgl : g < wr.heap.size := World.block_lt_of_cell? wr _ d0
            have wt := hw.ts t (List.mem_of_getElem? ht)
            obtain ⟨m0, m1, n0, n1⟩ := mul3 wt.h0 wt.h1 wt.w0 wt.w1 wt.c0 wt.c1
            have l0 := hL.lo
            have l1 := hL.hi
            have Ht := hide ht
            have HL := hide hL
            clear ht hL hT q0 q1 q2
            go_wp2_with fail
            refine (cellsOf_c t.kind t.h t.w t.c t.zero _ _ wt.h0 wt.h1 wt.w0 wt.w1 wt.c0 wt.c1).mono ?_
            rintro e w3 ⟨rfl, hg3⟩
            have hB3 : Blk w3 wr.heap.size 158 (t6 t.kind t.h t.w t.c t.zero (.slice ao m' cp)) := (Blk.new wr 158 _).kept hg3 (by simp)
            have e0 : w3.cell? ⟨wr.heap.size, 0, none⟩ = some (.int .i64 t.kind) := hB3.cell 0
            have gw3 : w.grownBy w3 none := gr_trans hgk (gr_trans (World.grownBy_alloc _ _ _) hg3)
            clear hB3 hg3 hgk d0 d1 d2 d3 d4 d5
            have hce : t.h * t.w * t.c = M.cellsOf t := rfl
            have hpt : part t = if t.kind = 0 ∨ t.kind = 3 then M.cellsOf t else 0 := rfl
            rw [hce] at n0 n1 ⊢
            clear hce
            have Hpt := hide hpt
            clear hpt
            generalize hcc : M.cellsOf t = c at *
            have Hcc := hide hcc
            clear hcc
            by_cases j1 : c < 1
            · go_wp2
              go_ret
              exact ⟨ret_bool (lim_bad Ht.out (.inl (by rw [Hcc.out]; exact j1))).symm, gw3⟩
            · by_cases j2 : 512 < c
              · go_wp2
                go_ret
                exact ⟨ret_bool (lim_bad Ht.out (.inr (by rw [Hcc.out]; exact j2))).symm, gw3⟩
              · have hstep := LimTo.step HL.out Ht.out (by rw [Hcc.out]; omega) (by rw [Hcc.out]; omega)
                have Hstep := hide hstep
                clear hstep
                by_cases k0 : t.kind = 0
                · have k0' : (t.kind == 0) = true := by simp [k0]
                  have Hk := hide (show part t = c by rw [Hpt.out, if_pos (.inl k0)])
                  clear k0
                  go_wp2
                  go_roundw
                  case rel => exact ⟨k + 1, sum + c, by omega, by go_num, rfl, by have := Hstep.out; rw [Hk.out] at this; exact this, gw3⟩
                  case measure => simp [intOf]; omega
                · have k0' : (t.kind == 0) = false := by simp [k0]
                  by_cases k3 : t.kind = 3
                  · have k3' : (t.kind == 3) = true := by simp [k3]
                    have Hk := hide (show part t = c by rw [Hpt.out, if_pos (.inr k3)])
                    clear k0 k3
                    go_wp2
                    go_roundw
                    case rel => exact ⟨k + 1, sum + c, by omega, by go_num, rfl, by have := Hstep.out; rw [Hk.out] at this; exact this, gw3⟩
                    case measure => simp [intOf]; omega
                  · have k3' : (t.kind == 3) = false := by simp [k3]
                    have Hk := hide (show part t = 0 by rw [Hpt.out, if_neg (by omega)])
                    clear k0 k3
                    go_wp2
                    go_roundw
                    case rel => exact ⟨k + 1, sum, by omega, by go_num, rfl, by have := Hstep.out; rw [Hk.out, Int.add_zero] at this; exact this, gw3⟩
                    case measure => simp [intOf]; omega
          · obtain rfl : k = md.tensors.length := by omega
            have hfin := lim_end hL g1' g2' G3n.out
            have Hfin := hide hfin
            clear hfin hL hT
            go_wp2
            go_ret
            exact ⟨ret_bool Hfin.out.symm, hgk⟩

end Go.Proofs.YtcnhfffgbamonaaGreat

/-
  P5: what operators read: isReady, readsHold.
-/
namespace Go.Proofs.YtcnhfffgbamonaaGreat
open Go.RowKit

/-- The i-th operator's cells. -/
theorem Ops.get {w : World} {base : Nat} {a : Option Addr} {n c : Nat} {os : List M.Op} (h : Ops w base (.slice a n c) os) (i : Nat) (o : M.Op) (hi : os[i]? = some o) :
    ∃ g ao m cp, a = some ⟨g, 0, none⟩ ∧ g < w.heap.size ∧ base ≤ g ∧ Scs w base (.slice ao m cp) o.scales ∧ w.rangeAt g (i * 16) (oval o (.slice ao m cp)).toList := by
  obtain ⟨ps, h1, h2, h3⟩ := h
  have hlt : i < os.length := by
    rcases Nat.lt_or_ge i os.length with h' | h'
    · exact h'
    · simp [List.getElem?_eq_none h'] at hi
  obtain ⟨g, ha, hb, hn, hc⟩ := owns_some h2 (by omega)
  subst h1
  rw [List.getElem?_map] at hi
  obtain ⟨p, hp, rfl⟩ := Option.map_eq_some_iff.1 hi
  obtain ⟨ao, m, cp, hsh⟩ := (h3 p (List.mem_of_getElem? hp)).shape
  have hI := h3 p (List.mem_of_getElem? hp)
  rw [hsh] at hI
  have key : ∀ j, j < 16 → w.cell? ⟨g, i * 16 + j, none⟩ = (oval p.1 p.2).toList[j]? := by
    intro j hj
    rw [hc _ (by simp at hlt ⊢; omega)]
    exact flat_get (fun p : M.Op × Value => (oval p.1 p.2).toList) 16 (fun a => rfl) ps i j p hp hj
  have k0 : w.cell? ⟨g, i * 16 + 0, none⟩ = some (.int .i64 p.1.kind) := key 0 (by omega)
  refine ⟨g, ao, m, cp, ha, World.block_lt_of_cell? w _ k0, hb, hI, ?_⟩
  intro j v hv
  have hj : j < 16 := by
    rcases Nat.lt_or_ge j 16 with h' | h'
    · exact h'
    · rw [List.getElem?_eq_none (by simpa [oval] using h')] at hv; simp at hv
  rw [key j hj, hsh]
  exact hv

theorem Ints.get {w : World} {base : Nat} {a : Option Addr} {n c : Nat} {xs : List Int} (h : Ints w base (.slice a n c) xs) (i : Nat) (x : Int) (hi : xs[i]? = some x) :
    ∃ g, a = some ⟨g, 0, none⟩ ∧ g < w.heap.size ∧ base ≤ g ∧ w.cell? ⟨g, i, none⟩ = some (.int .i64 x) := by
  have hlt : i < xs.length := by
    rcases Nat.lt_or_ge i xs.length with h' | h'
    · exact h'
    · simp [List.getElem?_eq_none h'] at hi
  obtain ⟨g, ha, hb, hn, hc⟩ := owns_some h (by omega)
  have k : w.cell? ⟨g, i, none⟩ = some (.int .i64 x) := by
    rw [hc i (by omega), List.getElem?_map, hi]; rfl
  exact ⟨g, ha, World.block_lt_of_cell? w _ k, hb, k⟩
theorem Ints.len {w : World} {base : Nat} {a : Option Addr} {n c : Nat} {xs : List Int} (h : Ints w base (.slice a n c) xs) : n = xs.length := by
  obtain ⟨ao, c', e⟩ := owns_shape h
  injection e

theorem ready_no1 {md : M.Md} {by_ : List Int} {i n : Int} (h : M.isCells md n = false) : M.isReady md by_ i n = false := by simp [M.isReady, h]
theorem ready_no2 {md : M.Md} {by_ : List Int} {i n : Int} (h : (by_.length : Int) ≤ n) : M.isReady md by_ i n = false := by
  unfold M.isReady; rw [show decide (n < (by_.length : Int)) = false from by simp; omega]; simp
theorem ready_yes {md : M.Md} {by_ : List Int} {i : Int} {k : Nat} {x : Int} (h : M.isCells md k = true) (hx : by_[k]? = some x) : M.isReady md by_ i k = decide (x < i) := by
  have hk : k < by_.length := by
    rcases Nat.lt_or_ge k by_.length with h' | h'
    · exact h'
    · simp [List.getElem?_eq_none h'] at hx
  unfold M.isReady; rw [h, Int.toNat_natCast, List.getD_eq_getElem?_getD, hx]; simp [hk]

set_option maxHeartbeats 400000 in
theorem isReady_c (m B : Nat) (md : M.Md) (a : Option Addr) (nb cb : Nat) (by_ : List Int) (i n : Int) (w : World) (h : Mod w m md) (hw : md.tensors.length ≤ 255) (hI : Ints w B (.slice a nb cb) by_) (_hl : by_.length ≤ 255) :
    Calls Tryz.prog 187 #[.pointer (some ⟨m, 0, none⟩), .slice a nb cb, .int .i64 i, .int .i64 n] w fun e w' => e = .returned (.bool (M.isReady md by_ i n)) ∧ w' = w := by
  have hn := hI.len
  subst hn
  cases hc : M.isCells md n with
  | false =>
    have He := hide (ready_no1 (by_ := by_) (i := i) hc)
    go_enter Tryz.func187, Tryz.ntmps187
    go_wp2_with fail
    refine (isCells_c m md n w h hw).mono ?_
    rintro e w1 ⟨rfl, rfl⟩
    rw [hc]
    clear hc
    go_wp2
    go_ret
    exact ⟨ret_bool He.out.symm, rfl⟩
  | true =>
    have h0 : 0 ≤ n := by
      rcases (show n < 0 ∨ 0 ≤ n from by omega) with h' | h'
      · rw [isCells_no (.inl h')] at hc; simp at hc
      · exact h'
    obtain ⟨k, rfl⟩ := Int.eq_ofNat_of_zero_le h0
    have Hc := hide hc
    clear hc
    by_cases hk : k < by_.length
    · obtain ⟨x, hx⟩ : ∃ x, by_[k]? = some x := ⟨_, List.getElem?_eq_getElem hk⟩
      obtain ⟨g, rfl, hgl, -, d0⟩ := hI.get k x hx
      have He := hide (ready_yes (i := i) Hc.out hx)
      clear hI hx
      go_enter Tryz.func187, Tryz.ntmps187
      go_wp2_with fail
      refine (isCells_c m md k w h hw).mono ?_
      rintro e w1 ⟨rfl, rfl⟩
      rw [Hc.out]
      go_wp2
      go_ret
      exact ⟨ret_bool He.out.symm, rfl⟩
    · have He := hide (ready_no2 (md := md) (by_ := by_) (i := i) (n := k) (by omega))
      clear hI
      go_enter Tryz.func187, Tryz.ntmps187
      go_wp2_with fail
      refine (isCells_c m md k w h hw).mono ?_
      rintro e w1 ⟨rfl, rfl⟩
      rw [Hc.out]
      go_wp2
      go_ret
      exact ⟨ret_bool He.out.symm, rfl⟩

theorem reads_no {md : M.Md} {by_ : List Int} {i : Int} {o : M.Op} (h : M.isReady md by_ i o.a = false) : M.readsHold md by_ i o = false := by simp [M.readsHold, h]
theorem reads_two {md : M.Md} {by_ : List Int} {i : Int} {o : M.Op} (h : M.isReady md by_ i o.a = true) (h2 : M.readsTwo o.kind = true) : M.readsHold md by_ i o = M.isReady md by_ i o.b := by simp [M.readsHold, h, h2]
theorem reads_plain {md : M.Md} {by_ : List Int} {i : Int} {o : M.Op} (h : M.isReady md by_ i o.a = true) (h2 : M.readsTwo o.kind = false) (h3 : M.hasWeights o.kind = false) : M.readsHold md by_ i o = true := by simp [M.readsHold, h, h2, h3]
theorem reads_w {md : M.Md} {by_ : List Int} {i : Int} {o : M.Op} (h : M.isReady md by_ i o.a = true) (h2 : M.readsTwo o.kind = false) (h3 : M.hasWeights o.kind = true) : M.readsHold md by_ i o = (M.isKind md o.weights 1 && M.isKind md o.biases 2) := by simp [M.readsHold, h, h2, h3]

theorem hasWeights_o (o : M.Op) (sv : Value) (x : Bool) (w : World) (hx : M.hasWeights o.kind = x) : Calls Tryz.prog 148 #[.agg (oval o sv)] w fun e w' => e = .returned (.bool x) ∧ w.grownBy w' none := hasWeights_c o.kind _ _ _ _ _ _ _ _ _ _ _ _ _ _ _ x w hx
theorem readsTwo_o (o : M.Op) (sv : Value) (x : Bool) (w : World) (hx : M.readsTwo o.kind = x) : Calls Tryz.prog 149 #[.agg (oval o sv)] w fun e w' => e = .returned (.bool x) ∧ w.grownBy w' none := readsTwo_c o.kind _ _ _ _ _ _ _ _ _ _ _ _ _ _ _ x w hx

set_option maxHeartbeats 1000000 in
theorem readsHold_c (m B : Nat) (md : M.Md) (a : Option Addr) (nb cb : Nat) (by_ : List Int) (i : Int) (o : M.Op) (ao : Option Addr) (p c : Nat) (w : World) (h : Mod w m md) (hw : md.tensors.length ≤ 255) (hI : Ints w B (.slice a nb cb) by_) (hl : by_.length ≤ 255) :
    Calls Tryz.prog 166 #[.pointer (some ⟨m, 0, none⟩), .slice a nb cb, .int .i64 i, .agg (oval o (.slice ao p c))] w fun e w' => e = .returned (.bool (M.readsHold md by_ i o)) ∧ w.grownBy w' none := by
  have hg1 : w.grownBy (w.alloc (.cells (oval o (.slice ao p c)) 142)) none := World.grownBy_alloc _ _ _
  have hB1 : Blk (w.alloc (.cells (oval o (.slice ao p c)) 142)) w.heap.size 142 (oval o (.slice ao p c)) := Blk.new w 142 _
  have hM1 := h.kept0 hg1
  have hI1 := hI.kept0 hg1
  have HB1 := hide hB1
  have v1 : (oval o (.slice ao p c))[1]? = some (.int .i64 o.a) := rfl
  clear h hI hB1
  cases ha : M.isReady md by_ i o.a with
  | false =>
    have He := hide (reads_no ha)
    have Ha := hide ha
    clear ha
    go_enter Tryz.func166, Tryz.ntmps166
    go_wp2_with fail
    refine (isReady_c m B md a nb cb by_ i o.a _ hM1 hw hI1 hl).mono ?_
    rintro e w2 ⟨rfl, rfl⟩
    rw [Ha.out]
    go_wp2
    go_ret
    exact ⟨ret_bool He.out.symm, hg1⟩
  | true =>
    have Ha := hide ha
    clear ha
    go_enter Tryz.func166, Tryz.ntmps166
    go_wp2_with fail
    refine (isReady_c m B md a nb cb by_ i o.a _ hM1 hw hI1 hl).mono ?_
    rintro e w2 ⟨rfl, hw2⟩
    rw [Ha.out, hw2]
    clear hw2
    go_wp2_with (refine wpList_load_row rfl 142 _ rfl w.heap.size rfl 142 (oval o (.slice ao p c)) (0, 0) _ HB1.out Tryz.underlying142 rfl Tryz.size142 ?_)
    cases h2 : M.readsTwo o.kind with
    | true =>
      refine (readsTwo_o o (.slice ao p c) true _ h2).mono ?_
      rintro e w3 ⟨rfl, hg3⟩
      have He := hide (reads_two Ha.out h2)
      have hB3 := HB1.out.kept hg3 (by simp)
      have e2 : w3.cell? ⟨w.heap.size, 2, none⟩ = some (.int .i64 o.b) := hB3.cell 2
      have hM3 := hM1.kept0 hg3
      have hI3 := hI1.kept0 hg3
      have gw3 := gr_trans hg1 hg3
      clear h2 hB3 hg3 hM1 hI1 hg1 v1
      go_wp2_with fail
      refine (isReady_c m B md a nb cb by_ i o.b _ hM3 hw hI3 hl).mono ?_
      rintro e w4 ⟨rfl, hw4⟩
      rw [hw4]
      clear hw4
      go_wp2
      go_ret
      exact ⟨ret_bool He.out.symm, gw3⟩
    | false =>
      refine (readsTwo_o o (.slice ao p c) false _ h2).mono ?_
      rintro e w3 ⟨rfl, hg3⟩
      have H2 := hide h2
      have hB3 := HB1.out.kept hg3 (by simp)
      have hM3 := hM1.kept0 hg3
      have gw3 := gr_trans hg1 hg3
      have HB3 := hide hB3
      clear h2 hB3 hg3 hM1 hI1 hg1 v1
      go_wp2_with (refine wpList_load_row rfl 142 _ rfl w.heap.size rfl 142 (oval o (.slice ao p c)) (0, 0) _ HB3.out Tryz.underlying142 rfl Tryz.size142 ?_)
      cases h3 : M.hasWeights o.kind with
      | false =>
        refine (hasWeights_o o (.slice ao p c) false _ h3).mono ?_
        rintro e w4 ⟨rfl, hg4⟩
        have He := hide (reads_plain Ha.out H2.out h3)
        have gw4 := gr_trans gw3 hg4
        clear h3 hg4 gw3 hM3
        go_wp2
        go_ret
        exact ⟨ret_bool He.out.symm, gw4⟩
      | true =>
        refine (hasWeights_o o (.slice ao p c) true _ h3).mono ?_
        rintro e w4 ⟨rfl, hg4⟩
        have He := hide (reads_w Ha.out H2.out h3)
        have gw4 := gr_trans gw3 hg4
        have hB4 := HB3.out.kept hg4 (by simp)
        have hM4 := hM3.kept0 hg4
        have e3 : w4.cell? ⟨w.heap.size, 3, none⟩ = some (.int .i64 o.weights) := hB4.cell 3
        have e4 : w4.cell? ⟨w.heap.size, 4, none⟩ = some (.int .i64 o.biases) := hB4.cell 4
        clear h3 hg4 gw3 hM3 hB4
        go_wp2_with fail
        refine (isKind_c m md o.weights 1 _ hM4 hw).mono ?_
        rintro e w5 ⟨rfl, hw5⟩
        rw [hw5]
        clear hw5
        cases h5 : M.isKind md o.weights 1 with
        | false =>
          have H5 := hide h5
          clear h5
          go_wp2
          go_ret
          exact ⟨ret_bool (by rw [He.out, H5.out]; rfl), gw4⟩
        | true =>
          have H5 := hide h5
          clear h5
          go_wp2_with fail
          refine (isKind_c m md o.biases 2 _ hM4 hw).mono ?_
          rintro e w6 ⟨rfl, hw6⟩
          rw [hw6]
          clear hw6
          go_wp2
          go_ret
          exact ⟨ret_bool (by rw [He.out, H5.out]; rfl), gw4⟩

end Go.Proofs.YtcnhfffgbamonaaGreat

/-
  P5: who makes what.
-/
namespace Go.Proofs.YtcnhfffgbamonaaGreat
open Go.RowKit

theorem mk_no1 {md : M.Md} {k : Nat} {by_ : List Int} {o : M.Op} (h : M.makersTo md k = some by_) (ho : md.ops[k]? = some o) (hk : M.isKind md o.to 3 = false) : M.makersTo md (k + 1) = none := by
  simp [M.makersTo, h, ho, hk]
theorem mk_no2 {md : M.Md} {k : Nat} {by_ : List Int} {o : M.Op} (h : M.makersTo md k = some by_) (ho : md.ops[k]? = some o) (hk : 0 ≤ by_.getD o.to.toNat 0) : M.makersTo md (k + 1) = none := by
  simp only [M.makersTo, h, ho]
  rw [if_pos]
  rw [decide_eq_true hk, Bool.or_true]
theorem mk_yes {md : M.Md} {k : Nat} {by_ : List Int} {o : M.Op} (h : M.makersTo md k = some by_) (ho : md.ops[k]? = some o) (hk : M.isKind md o.to 3 = true) (h2 : by_.getD o.to.toNat 0 < 0) : M.makersTo md (k + 1) = some (by_.set o.to.toNat k) := by
  simp only [M.makersTo, h, ho]
  rw [if_neg]
  rw [hk, decide_eq_false (by omega)]
  simp
theorem mk_none {md : M.Md} {k : Nat} (h : M.makersTo md k = none) (j : Nat) : M.makersTo md (k + j) = none := by
  induction j with
  | zero => exact h
  | succ j ih => rw [← Nat.add_assoc, M.makersTo, ih]
theorem makers_none {md : M.Md} {k : Nat} (hk : k + 1 ≤ md.ops.length) (h : M.makersTo md (k + 1) = none) : M.makers md = none := by
  obtain ⟨j, hj⟩ := Nat.exists_eq_add_of_le hk
  have e := mk_none h j
  rw [← hj] at e
  simp [M.makers, e]
theorem kind_range {md : M.Md} {n q : Int} (h : M.isKind md n q = true) : ∃ k : Nat, n = k ∧ k < md.tensors.length := by
  rcases (show n < 0 ∨ 0 ≤ n from by omega) with h' | h'
  · rw [isKind_no (.inl h')] at h; simp at h
  · obtain ⟨k, rfl⟩ := Int.eq_ofNat_of_zero_le h'
    refine ⟨k, rfl, ?_⟩
    rcases Nat.lt_or_ge k md.tensors.length with h2 | h2
    · exact h2
    · rw [isKind_no (.inr (by omega))] at h; simp at h

/-- The first k cells are -1. -/
def minus (n k : Nat) : Array Value := ((List.replicate k (-1 : Int) ++ List.replicate (n - k) 0).map (Value.int .i64)).toArray

theorem minus_set (n k : Nat) (h : k < n) : (minus n k).setIfInBounds k (.int .i64 (-1)) = minus n (k + 1) := by
  have e : n - k = (n - (k + 1)) + 1 := by omega
  unfold minus
  rw [e, List.replicate_succ]
  apply Array.toList_inj.1
  rw [Array.toList_setIfInBounds]
  simp only [List.map_append, List.map_cons]
  rw [List.set_append_right _ _ (by simp)]
  simp [List.replicate_succ']
theorem minus_get (n k j : Nat) (h : k ≤ n) (hj : j < n) : ∃ x, (minus n k)[j]? = some (.int .i64 x) := by
  have hz : (minus n k).size = n := by simp [minus]; omega
  rw [Array.getElem?_eq_getElem (by omega)]
  unfold minus
  rw [List.getElem_toArray, List.getElem_map]
  exact ⟨_, rfl⟩

theorem ints_set (l : List Int) (k : Nat) (x : Int) : ((l.map (Value.int .i64)).toArray).setIfInBounds k (.int .i64 x) = ((l.set k x).map (Value.int .i64)).toArray := by
  apply Array.toList_inj.1
  rw [Array.toList_setIfInBounds]
  simp [List.map_set]
theorem ints_get {l : List Int} {k : Nat} {x : Int} (h : l[k]? = some x) : ((l.map (Value.int .i64)).toArray)[k]? = some (.int .i64 x) := by simp [h]

/-- Of the first k tensors each that is Inner is made. -/
def MadeTo (ts : List M.Tn) (by_ : List Int) (k : Nat) : Prop := ∀ j, j < k → ((ts.map (·.kind)).getD j 0 == 3 && decide (by_.getD j 0 < 0)) = false

theorem made_end {ts : List M.Tn} {by_ : List Int} (h : MadeTo ts by_ ts.length) : M.madeAll ts by_ = true := by
  unfold M.madeAll
  rw [List.all_eq_true]
  intro j hj
  rw [h j (List.mem_range.1 hj)]; rfl
theorem made_not {ts : List M.Tn} {by_ : List Int} {j : Nat} (hj : j < ts.length) (h : ((ts.map (·.kind)).getD j 0 == 3 && decide (by_.getD j 0 < 0)) = true) : M.madeAll ts by_ = false := by
  unfold M.madeAll
  rw [List.all_eq_false]
  exact ⟨j, List.mem_range.2 hj, by simp only [h]; simp⟩
theorem made_step {ts : List M.Tn} {by_ : List Int} {k : Nat} (h : MadeTo ts by_ k) (hk : ((ts.map (·.kind)).getD k 0 == 3 && decide (by_.getD k 0 < 0)) = false) : MadeTo ts by_ (k + 1) := by
  intro j hj
  rcases Nat.lt_or_ge j k with h' | h'
  · exact h j h'
  · obtain rfl : j = k := by omega
    exact hk

set_option maxRecDepth 100000 in
set_option maxHeartbeats 2000000 in
theorem makers_c (m : Nat) (md : M.Md) (w : World) (h : Mod w m md) (hw : WfM md) :
    Calls Tryz.prog 165 #[.pointer (some ⟨m, 0, none⟩)] w fun e w' => w.grownBy w' none ∧ ((M.makers md = none ∧ e = .returned (.tuple #[.slice none 0 0, .bool false])) ∨
      ∃ by_ g, Hid (M.makers md = some by_) ∧ by_.length ≤ 255 ∧ e = .returned (.tuple #[.slice (some ⟨g, 0, none⟩) by_.length by_.length, .bool true]) ∧ Ints w' w.heap.size (.slice (some ⟨g, 0, none⟩) by_.length by_.length) by_) := by
  obtain ⟨i0, hi, hz0, hz1, hz2⟩ := info_parts Tryz.info3
  have hn1 := hw.nt
  have hn2 := hw.no
  have hM := h
  obtain ⟨a1, c1, a2, c2, a3, c3, hB, hT, hO, hU⟩ := h
  have q0 : w.cell? ⟨m, 0, none⟩ = some (.slice a1 md.tensors.length c1) := hB.cell 0
  have q1 : w.cell? ⟨m, 1, none⟩ = some (.slice a2 md.ops.length c2) := hB.cell 1
  have hml := hB.lt
  clear hU
  go_enter Tryz.func165, Tryz.ntmps165
  go_wp2_with (at_make; refine wpList_make_full _ rfl _ _ 33 rfl w.heap.size 3 i0 (.int .i64 0) 1 Tryz.underlying33 hi hz0 hz1 _ _ _ _ md.tensors.length rfl rfl rfl rfl ?c1 ?c2 ?c3 ?_)
  case c1 => rw [hz2]; omega
  case c2 => unfold maxLen; omega
  case c3 => exact Nat.le_refl _
  intro w2 hown hg2
  have hB2 := made_blk hown
  have e0 : (List.replicate md.tensors.length (Value.int .i64 0)).toArray = minus md.tensors.length 0 := by simp [minus]
  rw [e0] at hB2
  clear hown e0
  go_wp2
  go_loopw [18] (fun i wr => ∃ k : Nat, k ≤ md.tensors.length ∧ i = .int .i64 k ∧ Blk wr w.heap.size 3 (minus md.tensors.length k) ∧ w.grownBy wr none) (fun i _ => md.tensors.length - (intOf i).toNat)
  case atStart => exact ⟨0, Nat.zero_le _, rfl, hB2, hg2⟩
  case round =>
    obtain ⟨k, hk, rfl, hBk, hgk⟩ := hrel
    by_cases hlt : k < md.tensors.length
    · obtain ⟨y, hy⟩ := minus_get md.tensors.length k k hk hlt
      have hc := hBk.cell k
      rw [hy] at hc
      have hf := hBk.free k
      have HB := hide (hBk.set k (.int .i64 (-1)))
      rw [minus_set _ _ hlt] at HB
      have hgn := gr_new hgk (gr_set wr w.heap.size k (.int .i64 (-1))) (Nat.le_refl _)
      clear hBk hy
      go_wp2
      go_roundw
      case rel => exact ⟨k + 1, by omega, by go_num, HB.out, hgn⟩
      case measure => simp [intOf]; omega
    · obtain rfl : k = md.tensors.length := by omega
      have ez : minus md.tensors.length md.tensors.length = ((List.replicate md.tensors.length (-1 : Int)).map (Value.int .i64)).toArray := by simp [minus]
      rw [ez] at hBk
      obtain ⟨wo, rfl⟩ : ∃ wo : World, wo = wr := ⟨_, rfl⟩
      have q1o : wo.cell? ⟨m, 1, none⟩ = some (.slice a2 md.ops.length c2) := (hB.kept hgk (by simp)).cell 1
      clear ez hB2 hg2
      go_wp2
      have hM0 := hide hM
      clear hM q0 q1 q1o
      go_loopw [30] (fun i wr => ∃ (k : Nat) (by_ : List Int), k ≤ md.ops.length ∧ i = .int .i64 k ∧ M.makersTo md k = some by_ ∧ by_.length = md.tensors.length ∧ Blk wr w.heap.size 3 (by_.map (Value.int .i64)).toArray ∧ w.grownBy wr none) (fun i _ => md.ops.length - (intOf i).toNat)
      case atStart => exact ⟨0, _, Nat.zero_le _, rfl, rfl, by simp, hBk, hgk⟩
      case round =>
        clear hBk hgk
        obtain ⟨k, by_, hk, rfl, hmk, hbl, hBk, hgk⟩ := hrel
        have Hmk := hide hmk
        have Hbl := hide hbl
        clear hmk hbl
        by_cases hlt : k < md.ops.length
        · obtain ⟨o, ho⟩ : ∃ o, md.ops[k]? = some o := ⟨_, List.getElem?_eq_getElem hlt⟩
          obtain ⟨g, ao, p, cp, rfl, hgl, -, -, hR⟩ := (hO.kept0 hgk).get k o ho
          have Ho := hide ho
          have hM1 : Mod (wr.alloc (.cells (oval o (.slice ao p cp)) 142)) m md := (hM0.out.kept0 hgk).kept0 (World.grownBy_alloc _ _ _)
          have hg1 : w.grownBy (wr.alloc (.cells (oval o (.slice ao p cp)) 142)) none := gr_trans hgk (World.grownBy_alloc _ _ _)
          have v5 : (oval o (.slice ao p cp))[5]? = some (.int .i64 o.to) := rfl
          have hGl := hBk.lt
          clear ho hT hO hB
          cases hkd : M.isKind md o.to 3 with
          | false =>
            have Hn := hide (makers_none (by omega) (mk_no1 Hmk.out Ho.out hkd))
            have Hkd := hide hkd
            clear hkd
            go_wp2_with (first | (refine wpList_load_mid rfl 142 _ rfl g (k * 16) rfl (oval o (.slice ao p cp)).toList _ hR Tryz.underlying142 rfl Tryz.size142 ?_) | (refine wpList_store_row rfl 142 _ _ rfl wr.heap.size (oval o (.slice ao p cp)) rfl rfl 142 (o16 0 0 0 0 0 0 0 0 false (.slice none 0 0) 0 0 0 0 0 0) (Blk.new wr 142 _) Tryz.size142 rfl (one16 ..) ?_; rw [World.setRow_alloc_new]))
            refine (isKind_c m md o.to 3 _ hM1 hn1).mono ?_
            rintro e w5 ⟨rfl, hw5⟩
            rw [hw5, Hkd.out]
            clear hw5
            go_wp2
            go_ret2
            exact ⟨hg1, .inl ⟨Hn.out, rfl⟩⟩
          | true =>
            obtain ⟨j, hj, hjl⟩ := kind_range hkd
            have hjl' : j < by_.length := by rw [Hbl.out]; exact hjl
            obtain ⟨x, hx⟩ : ∃ x, by_[j]? = some x := ⟨_, List.getElem?_eq_getElem hjl'⟩
            have hxd : by_.getD o.to.toNat 0 = x := by rw [hj, Int.toNat_natCast, List.getD_eq_getElem?_getD, hx]; rfl
            have hB1 : Blk (wr.alloc (.cells (oval o (.slice ao p cp)) 142)) w.heap.size 3 (by_.map (Value.int .i64)).toArray := hBk.alloc _
            have hcj : (wr.alloc (.cells (oval o (.slice ao p cp)) 142)).cell? ⟨w.heap.size, j, none⟩ = some (.int .i64 x) := by rw [hB1.cell j]; exact ints_get hx
            have hcw : wr.cell? ⟨w.heap.size, j, none⟩ = some (.int .i64 x) := by rw [hBk.cell j]; exact ints_get hx
            have hfw := hBk.free j
            have Hkd := hide hkd
            have Hxd := hide hxd
            have Hcj := hide hcj
            have HB1 := hide hB1
            have HBk := hide hBk
            have Hj := hide hj
            rw [hj] at v5 Hkd
            clear hkd hxd hcj hB1 hBk hj hx
            by_cases hx0 : 0 ≤ x
            · have Hn := hide (makers_none (by omega) (mk_no2 Hmk.out Ho.out (by rw [Hxd.out]; exact hx0)))
              go_wp2_with (first | (refine wpList_load_mid rfl 142 _ rfl g (k * 16) rfl (oval o (.slice ao p cp)).toList _ hR Tryz.underlying142 rfl Tryz.size142 ?_) | (refine wpList_store_row rfl 142 _ _ rfl wr.heap.size (oval o (.slice ao p cp)) rfl rfl 142 (o16 0 0 0 0 0 0 0 0 false (.slice none 0 0) 0 0 0 0 0 0) (Blk.new wr 142 _) Tryz.size142 rfl (one16 ..) ?_; rw [World.setRow_alloc_new]))
              refine (isKind_c m md j 3 _ hM1 hn1).mono ?_
              rintro e w5 ⟨rfl, hw5⟩
              rw [hw5, Hkd.out]
              clear hw5
              go_wp2
              go_ret2
              exact ⟨hg1, .inl ⟨Hn.out, rfl⟩⟩
            · have hy := mk_yes Hmk.out Ho.out (by rw [Hj.out]; exact Hkd.out) (by rw [Hxd.out]; omega)
              rw [Hj.out, Int.toNat_natCast] at hy
              have Hy := hide hy
              clear hy
              have HS := hide (HBk.out.set j (.int .i64 k))
              rw [ints_set] at HS
              have hgs : w.grownBy ((wr.setCell ⟨w.heap.size, j, none⟩ (.int .i64 k)).alloc (.cells (oval o (.slice ao p cp)) 142)) none := gr_trans (gr_new hgk (gr_set wr w.heap.size j (.int .i64 k)) (Nat.le_refl _)) (World.grownBy_alloc _ _ _)
              go_wp2_with (first | (refine wpList_load_mid rfl 142 _ rfl g (k * 16) rfl (oval o (.slice ao p cp)).toList _ hR Tryz.underlying142 rfl Tryz.size142 ?_) | (refine wpList_store_row rfl 142 _ _ rfl wr.heap.size (oval o (.slice ao p cp)) rfl rfl 142 (o16 0 0 0 0 0 0 0 0 false (.slice none 0 0) 0 0 0 0 0 0) (Blk.new wr 142 _) Tryz.size142 rfl (one16 ..) ?_; rw [World.setRow_alloc_new]))
              refine (isKind_c m md j 3 _ hM1 hn1).mono ?_
              rintro e w5 ⟨rfl, hw5⟩
              rw [hw5, Hkd.out]
              clear hw5
              have Hgs := hide hgs
              clear hgs
              go_wp2
              go_roundw
              case rel =>
                refine ⟨k + 1, by_.set j k, by omega, by go_num, Hy.out, by rw [List.length_set]; exact Hbl.out, ?_, Hgs.out⟩
                exact HS.out.alloc _
              case measure => simp [intOf]; omega
        · obtain rfl : k = md.ops.length := by omega
          have hc0 : wr.cell? ⟨m, 0, none⟩ = some (.slice a1 md.tensors.length c1) := (hB.kept hgk (by simp)).cell 0
          clear hB hO
          go_wp2
          clear hc0
          have hlen : by_.length ≤ 255 := by rw [Hbl.out]; exact hn1
          go_loopw [59] (fun i wr => ∃ k : Nat, k ≤ md.tensors.length ∧ i = .int .i64 k ∧ MadeTo md.tensors by_ k ∧ Blk wr w.heap.size 3 (by_.map (Value.int .i64)).toArray ∧ w.grownBy wr none) (fun i _ => md.tensors.length - (intOf i).toNat)
          case atStart => exact ⟨0, Nat.zero_le _, rfl, fun j hj => by omega, hBk, hgk⟩
          case round =>
            clear hBk hgk
            obtain ⟨k, hk3, rfl, hmd, hBk, hgk⟩ := hrel
            by_cases hlt3 : k < md.tensors.length
            · obtain ⟨t, ht⟩ : ∃ t, md.tensors[k]? = some t := ⟨_, List.getElem?_eq_getElem hlt3⟩
              obtain ⟨g, ao, m', cp, rfl, -, -, -, d0, d1, d2, d3, d4, d5⟩ := (hT.kept0 hgk).get k t ht
              have hgl : g < wr.heap.size := World.block_lt_of_cell? wr _ d0
              have hGl := hBk.lt
              have hkl : k < by_.length := by rw [Hbl.out]; exact hlt3
              obtain ⟨x, hx⟩ : ∃ x, by_[k]? = some x := ⟨_, List.getElem?_eq_getElem hkl⟩
              have hcw : wr.cell? ⟨w.heap.size, k, none⟩ = some (.int .i64 x) := by rw [hBk.cell k]; exact ints_get hx
              have ek : ((md.tensors.map (·.kind)).getD k 0 == 3 && decide (by_.getD k 0 < 0)) = (t.kind == 3 && decide (x < 0)) := by
                rw [kind_get ht, List.getD_eq_getElem?_getD, hx]; rfl
              have Hek := hide ek
              have Hmd := hide hmd
              have gn : w.grownBy (wr.alloc (.cells (t6 t.kind t.h t.w t.c t.zero (.slice ao m' cp)) 158)) none := gr_trans hgk (World.grownBy_alloc _ _ _)
              have HBn := hide (hBk.alloc (.cells (t6 t.kind t.h t.w t.c t.zero (.slice ao m' cp)) 158))
              have Hgn := hide gn
              clear ek hmd hT ht hx hBk gn
              by_cases k3 : t.kind = 3
              · have k3' : (t.kind == 3) = true := by simp [k3]
                clear k3
                by_cases hx0 : x < 0
                · have Hn := hide (show M.makers md = none by
                    have e1 := made_not hlt3 (by rw [Hek.out, k3', decide_eq_true hx0]; rfl)
                    simp only [M.makers, Hmk.out, e1]; rfl)
                  go_wp2
                  go_ret2
                  exact ⟨Hgn.out, .inl ⟨Hn.out, rfl⟩⟩
                · have Hst := hide (made_step Hmd.out (by rw [Hek.out, k3', decide_eq_false hx0]; rfl))
                  go_wp2
                  go_roundw
                  case rel => exact ⟨k + 1, by omega, by go_num, Hst.out, HBn.out, Hgn.out⟩
                  case measure => simp [intOf]; omega
              · have k3' : (t.kind == 3) = false := by simp [k3]
                have Hst := hide (made_step Hmd.out (by rw [Hek.out, k3']; rfl))
                clear k3
                go_wp2
                go_roundw
                case rel => exact ⟨k + 1, by omega, by go_num, Hst.out, HBn.out, Hgn.out⟩
                case measure => simp [intOf]; omega
            · obtain rfl : k = md.tensors.length := by omega
              have Hy := hide (show M.makers md = some by_ by simp only [M.makers, Hmk.out, made_end hmd]; rfl)
              have HI := hide (Ints.of_blk (Nat.le_refl _) rfl (by unfold maxLen; omega) hBk : Ints wr w.heap.size (.slice (some ⟨w.heap.size, 0, none⟩) by_.length by_.length) by_)
              clear hmd hT hBk
              go_wp2
              go_ret2
              refine ⟨hgk, .inr ⟨by_, w.heap.size, Hy, hlen, ?_, HI.out⟩⟩
              rw [Hbl.out]
              rfl

end Go.Proofs.YtcnhfffgbamonaaGreat

/-
  P5: the whole of it.
-/
namespace Go.Proofs.YtcnhfffgbamonaaGreat
open Go.RowKit

theorem graph_none {md : M.Md} (h : M.makers md = none) : M.graph md = false := by simp [M.graph, h]

/-- The first k operators read what they may. -/
def ReadTo (md : M.Md) (by_ : List Int) (k : Nat) : Prop := ∀ j o, j < k → md.ops[j]? = some o → M.readsHold md by_ j o = true
def OutTo (md : M.Md) (k : Nat) : Prop := ∀ j x, j < k → md.outs[j]? = some x → M.isCells md x = true

theorem graph_no1 {md : M.Md} {by_ : List Int} {k : Nat} {o : M.Op} (hm : M.makers md = some by_) (ho : md.ops[k]? = some o) (h : M.readsHold md by_ k o = false) : M.graph md = false := by
  have hk : k < md.ops.length := by
    rcases Nat.lt_or_ge k md.ops.length with h' | h'
    · exact h'
    · simp [List.getElem?_eq_none h'] at ho
  simp only [M.graph, hm]
  rw [Bool.and_eq_false_iff]
  left
  rw [List.all_eq_false]
  exact ⟨k, List.mem_range.2 hk, by simp only [ho, h]; simp⟩
theorem graph_no2 {md : M.Md} {by_ : List Int} {k : Nat} {x : Int} (hm : M.makers md = some by_) (ho : md.outs[k]? = some x) (h : M.isCells md x = false) : M.graph md = false := by
  simp only [M.graph, hm]
  rw [Bool.and_eq_false_iff]
  right
  rw [List.all_eq_false]
  exact ⟨x, List.mem_of_getElem? ho, by simp [h]⟩
theorem graph_yes {md : M.Md} {by_ : List Int} (hm : M.makers md = some by_) (h1 : ReadTo md by_ md.ops.length) (h2 : OutTo md md.outs.length) : M.graph md = true := by
  simp only [M.graph, hm]
  rw [Bool.and_eq_true]
  constructor
  · rw [List.all_eq_true]
    intro j hj
    have hj' := List.mem_range.1 hj
    have ho : md.ops[j]? = some md.ops[j] := List.getElem?_eq_getElem hj'
    simp only [ho]
    exact h1 j _ hj' ho
  · rw [List.all_eq_true]
    intro x hx
    obtain ⟨j, hj, e⟩ := List.mem_iff_getElem.1 hx
    exact h2 j x hj (by rw [List.getElem?_eq_getElem hj, e])

set_option maxRecDepth 100000 in
set_option maxHeartbeats 2000000 in
theorem graph_c (m : Nat) (md : M.Md) (w : World) (h : Mod w m md) (hw : WfM md) :
    Calls Tryz.prog 140 #[.pointer (some ⟨m, 0, none⟩)] w fun e w' => e = .returned (.bool (M.graph md)) ∧ w.grownBy w' none := by
  have hn1 := hw.nt
  have hn2 := hw.no
  have hn3 := hw.nu
  have hM := h
  have hW := hide hw
  clear hw
  go_enter Tryz.func140, Tryz.ntmps140
  go_wp2_with fail
  refine (makers_c m md w h hW.out).mono ?_
  rintro e w1 ⟨hg1, ⟨hno, rfl⟩ | ⟨by_, gb, hmk, hbl, rfl, hI1⟩⟩
  · have He := hide (graph_none hno)
    clear hno
    go_wp2
    go_ret
    exact ⟨ret_bool He.out.symm, hg1⟩
  · obtain ⟨a1, c1, a2, c2, a3, c3, hB, hT, hO, hU⟩ := h
    have q1 : w1.cell? ⟨m, 1, none⟩ = some (.slice a2 md.ops.length c2) := (hB.kept hg1 (by simp)).cell 1
    have HM := hide hM
    clear hT hM
    go_wp2
    clear q1
    go_loopw [21] (fun i wr => ∃ k : Nat, k ≤ md.ops.length ∧ i = .int .i64 k ∧ ReadTo md by_ k ∧ Ints wr w.heap.size (.slice (some ⟨gb, 0, none⟩) by_.length by_.length) by_ ∧ w.grownBy wr none) (fun i _ => md.ops.length - (intOf i).toNat)
    case atStart => exact ⟨0, Nat.zero_le _, rfl, fun j o hj => by omega, hI1, hg1⟩
    case round =>
      clear hI1 hg1
      obtain ⟨k, hk, rfl, hrd, hIk, hgk⟩ := hrel
      by_cases hlt : k < md.ops.length
      · obtain ⟨o, ho⟩ : ∃ o, md.ops[k]? = some o := ⟨_, List.getElem?_eq_getElem hlt⟩
        obtain ⟨g, ao, p, cp, rfl, hgl, -, -, hR⟩ := (hO.kept0 hgk).get k o ho
        have Ho := hide ho
        have hM1 : Mod (wr.alloc (.cells (oval o (.slice ao p cp)) 142)) m md := (HM.out.kept0 hgk).kept0 (World.grownBy_alloc _ _ _)
        have hg1 : w.grownBy (wr.alloc (.cells (oval o (.slice ao p cp)) 142)) none := gr_trans hgk (World.grownBy_alloc _ _ _)
        have hIn := hIk.kept0 (World.grownBy_alloc wr (.cells (oval o (.slice ao p cp)) 142) none)
        have HB := hide (Blk.new wr 142 (oval o (.slice ao p cp)))
        have Hrd := hide hrd
        clear ho hO hB hU hIk hrd
        go_wp2_with (first | (refine wpList_load_mid rfl 142 _ rfl g (k * 16) rfl (oval o (.slice ao p cp)).toList _ hR Tryz.underlying142 rfl Tryz.size142 ?_) | (refine wpList_store_row rfl 142 _ _ rfl wr.heap.size (oval o (.slice ao p cp)) rfl rfl 142 (o16 0 0 0 0 0 0 0 0 false (.slice none 0 0) 0 0 0 0 0 0) (Blk.new wr 142 _) Tryz.size142 rfl (one16 ..) ?_; rw [World.setRow_alloc_new]) | (refine wpList_load_row rfl 142 _ rfl wr.heap.size rfl 142 (oval o (.slice ao p cp)) (0, 0) _ HB.out Tryz.underlying142 rfl Tryz.size142 ?_))
        refine (readsHold_c m w.heap.size md _ _ _ by_ k o ao p cp _ hM1 hn1 hIn hbl).mono ?_
        rintro e w3 ⟨rfl, hg3⟩
        have gw3 := gr_trans hg1 hg3
        have hI3 := hIn.kept0 hg3
        clear hIn hg3 hg1 hM1 hR
        cases hr : M.readsHold md by_ k o with
        | false =>
          have He := hide (graph_no1 hmk.out Ho.out hr)
          clear hr
          go_wp2
          go_ret
          exact ⟨ret_bool He.out.symm, gw3⟩
        | true =>
          have Hst := hide (show ReadTo md by_ (k + 1) from fun j o' hj ho' => by
            rcases Nat.lt_or_ge j k with h' | h'
            · exact Hrd.out j o' h' ho'
            · obtain rfl : j = k := by omega
              rw [Ho.out] at ho'
              injection ho' with e'
              rw [← e']; exact hr)
          clear hr
          go_wp2
          go_roundw
          case rel => exact ⟨k + 1, by omega, by go_num, Hst.out, hI3, gw3⟩
          case measure => simp [intOf]; omega
      · obtain rfl : k = md.ops.length := by omega
        have q2 : wr.cell? ⟨m, 2, none⟩ = some (.slice a3 md.outs.length c3) := (hB.kept hgk (by simp)).cell 2
        have Hrd := hide hrd
        clear hB hO hrd hIk
        go_wp2
        clear q2
        go_loopw [38] (fun i wr => ∃ k : Nat, k ≤ md.outs.length ∧ i = .int .i64 k ∧ OutTo md k ∧ w.grownBy wr none) (fun i _ => md.outs.length - (intOf i).toNat)
        case atStart => exact ⟨0, Nat.zero_le _, rfl, fun j o hj => by omega, hgk⟩
        case round =>
          clear hgk
          obtain ⟨k, hk3, rfl, hou, hgk⟩ := hrel
          have Hou := hide hou
          clear hou
          by_cases hlt3 : k < md.outs.length
          · obtain ⟨x, hx⟩ : ∃ x, md.outs[k]? = some x := ⟨_, List.getElem?_eq_getElem hlt3⟩
            obtain ⟨g, rfl, hgl, -, d0⟩ := (hU.kept0 hgk).get k x hx
            have hMr := HM.out.kept0 hgk
            have Hx := hide hx
            clear hU hx
            go_wp2_with fail
            refine (isCells_c m md x wr hMr hn1).mono ?_
            rintro e w5 ⟨rfl, hw5⟩
            rw [hw5]
            clear hw5
            cases hr : M.isCells md x with
            | false =>
              have He := hide (graph_no2 hmk.out Hx.out hr)
              clear hr
              go_wp2
              go_ret
              exact ⟨ret_bool He.out.symm, hgk⟩
            | true =>
              have Hst := hide (show OutTo md (k + 1) from fun j o' hj ho' => by
                rcases Nat.lt_or_ge j k with h' | h'
                · exact Hou.out j o' h' ho'
                · obtain rfl : j = k := by omega
                  rw [Hx.out] at ho'
                  injection ho' with e'
                  rw [← e']; exact hr)
              clear hr
              go_wp2
              go_roundw
              case rel => exact ⟨k + 1, by omega, by go_num, Hst.out, hgk⟩
              case measure => simp [intOf]; omega
          · obtain rfl : k = md.outs.length := by omega
            have He := hide (graph_yes hmk.out Hrd.out Hou.out)
            clear hU
            go_wp2
            go_ret
            exact ⟨ret_bool He.out.symm, hgk⟩

end Go.Proofs.YtcnhfffgbamonaaGreat
