import Derived.Test.YtcnhfffgbamonabGreatOp7
import Derived.Test.YtcnhfffgbamonabGreatCp1
import Derived.Laws.CopyOwn
import Derived.BigQuiet
/-
  Lists of lists; areCells; a plan's numbers: bufferOf, Inputs, Length, Arena; takes.
-/
namespace Go.Proofs.YtcnhfffgbamonabGreat
open Go.RowKit

/-- A list of numbers that can be read: anywhere in a block, with spare room or without. -/
def Sl (w : World) (v : Value) (l : List Int) : Prop :=
  ∃ (ao : Option Addr) (c : Nat), v = .slice ao l.length c ∧ ∀ (i : Nat) x, l[i]? = some x → ∃ a, ao = some a ∧ w.cell? (a.add i) = some (.int .i64 x)
theorem Sl.kept0 {w w' : World} {v : Value} {l : List Int} (h : Sl w v l) (hg : w.grownBy w' none) : Sl w' v l := by
  obtain ⟨ao, c, e, h⟩ := h
  exact ⟨ao, c, e, fun i x hx => by obtain ⟨a, ea, ha⟩ := h i x hx; exact ⟨a, ea, cell_kept hg ha⟩⟩
theorem Sl.len {w : World} {ao : Option Addr} {n c : Nat} {l : List Int} (h : Sl w (.slice ao n c) l) : n = l.length := by
  obtain ⟨_, _, e, _⟩ := h
  injection e with _ e _
theorem Sl.get {w : World} {ao : Option Addr} {n c : Nat} {l : List Int} (h : Sl w (.slice ao n c) l) (i : Nat) (x : Int) (hx : l[i]? = some x) : ∃ a, ao = some a ∧ w.cell? (a.add i) = some (.int .i64 x) := by
  obtain ⟨_, _, e, h⟩ := h
  injection e with e _ _
  subst e
  exact h i x hx
theorem Ints.sl {w : World} {B : Nat} {ao : Option Addr} {n c : Nat} {l : List Int} (h : Ints w B (.slice ao n c) l) : Sl w (.slice ao n c) l := by
  have hn := h.len
  subst hn
  refine ⟨ao, c, rfl, fun i x hx => ?_⟩
  obtain ⟨g, rfl, -, -, d⟩ := h.get i x hx
  have e : (⟨g, 0, none⟩ : Addr).add i = ⟨g, i, none⟩ := by unfold Addr.add; split <;> simp_all
  exact ⟨_, rfl, by rw [e]; exact d⟩

/-- A value that is a list of numbers. -/
def IsInts (w : World) (u : Value) (l : List Int) : Prop := ∃ ao n c, u = .slice ao n c ∧ Ints w 0 (.slice ao n c) l
theorem IsInts.kept0 {w w' : World} {u : Value} {l : List Int} (h : IsInts w u l) (hg : w.grownBy w' none) : IsInts w' u l := by
  obtain ⟨ao, n, c, e, h⟩ := h
  exact ⟨ao, n, c, e, h.kept0 hg⟩
theorem IsInts.nil (w : World) : IsInts w (.slice none 0 0) [] := ⟨none, 0, 0, rfl, Ints.nil _ _⟩

/-- A list of lists of numbers. -/
def Lists (w : World) (base : Nat) (v : Value) (ls : List (List Int)) : Prop :=
  ∃ vs : List Value, vs.length = ls.length ∧ w.ownsRow base 32 1 v ls.length vs ∧ ∀ (i : Nat) u l, vs[i]? = some u → ls[i]? = some l → IsInts w u l

theorem Lists.kept0 {w w' : World} {base : Nat} {v : Value} {ls : List (List Int)} (h : Lists w base v ls) (hg : w.grownBy w' none) : Lists w' base v ls := by
  obtain ⟨vs, h1, h2, h3⟩ := h
  exact ⟨vs, h1, owns_kept0 h2 hg, fun i u l hu hl => (h3 i u l hu hl).kept0 hg⟩
theorem Lists.mono {w : World} {base base' : Nat} {v : Value} {ls : List (List Int)} (h : Lists w base v ls) (hb : base' ≤ base) : Lists w base' v ls := by
  obtain ⟨vs, h1, h2, h3⟩ := h
  exact ⟨vs, h1, owns_mono h2 hb, h3⟩
theorem Lists.len {w : World} {base : Nat} {a : Option Addr} {n c : Nat} {ls : List (List Int)} (h : Lists w base (.slice a n c) ls) : n = ls.length := by
  obtain ⟨vs, h1, h2, h3⟩ := h
  obtain ⟨ao, c', e⟩ := owns_shape h2
  injection e with _ e _
theorem Lists.get {w : World} {base : Nat} {a : Option Addr} {n c : Nat} {ls : List (List Int)} (h : Lists w base (.slice a n c) ls) (i : Nat) (l : List Int) (hi : ls[i]? = some l) :
    ∃ g ao c', a = some ⟨g, 0, none⟩ ∧ base ≤ g ∧ w.cell? ⟨g, i, none⟩ = some (.slice ao l.length c') ∧ Ints w 0 (.slice ao l.length c') l := by
  obtain ⟨vs, h1, h2, h3⟩ := h
  have hlt : i < ls.length := by
    rcases Nat.lt_or_ge i ls.length with h' | h'
    · exact h'
    · simp [List.getElem?_eq_none h'] at hi
  obtain ⟨g, ha, hb, hn, hc⟩ := owns_some h2 (by omega)
  obtain ⟨u, hu⟩ : ∃ u, vs[i]? = some u := ⟨_, List.getElem?_eq_getElem (by omega)⟩
  obtain ⟨ao, m, c', e, hI⟩ := h3 i u l hu hi
  have hm := hI.len
  subst hm
  exact ⟨g, ao, c', ha, hb, by rw [hc i (by omega), hu, e], hI⟩

/-- A list of lists that can be read, wherever they lie. -/
def Lsl (w : World) (v : Value) (ls : List (List Int)) : Prop :=
  ∃ (ao : Option Addr) (c : Nat), v = .slice ao ls.length c ∧ ∀ (i : Nat) l, ls[i]? = some l → ∃ a b c', ao = some a ∧ w.cell? (a.add i) = some (.slice b l.length c') ∧ Sl w (.slice b l.length c') l
theorem Lsl.kept0 {w w' : World} {v : Value} {ls : List (List Int)} (h : Lsl w v ls) (hg : w.grownBy w' none) : Lsl w' v ls := by
  obtain ⟨ao, c, e, h⟩ := h
  exact ⟨ao, c, e, fun i x hx => by obtain ⟨a, b, c', ea, ha, hs⟩ := h i x hx; exact ⟨a, b, c', ea, cell_kept hg ha, hs.kept0 hg⟩⟩
theorem Lsl.len {w : World} {ao : Option Addr} {n c : Nat} {ls : List (List Int)} (h : Lsl w (.slice ao n c) ls) : n = ls.length := by
  obtain ⟨_, _, e, _⟩ := h
  injection e with _ e _
theorem Lsl.get {w : World} {ao : Option Addr} {n c : Nat} {ls : List (List Int)} (h : Lsl w (.slice ao n c) ls) (i : Nat) (l : List Int) (hl : ls[i]? = some l) : ∃ a b c', ao = some a ∧ w.cell? (a.add i) = some (.slice b l.length c') ∧ Sl w (.slice b l.length c') l := by
  obtain ⟨_, _, e, h⟩ := h
  injection e with e _ _
  subst e
  exact h i l hl
theorem Lists.lsl {w : World} {base : Nat} {ao : Option Addr} {n c : Nat} {ls : List (List Int)} (h : Lists w base (.slice ao n c) ls) : Lsl w (.slice ao n c) ls := by
  have hn := h.len
  subst hn
  refine ⟨ao, c, rfl, fun i l hl => ?_⟩
  obtain ⟨g, b, c', rfl, -, d, hI⟩ := h.get i l hl
  have e : (⟨g, 0, none⟩ : Addr).add i = ⟨g, i, none⟩ := by unfold Addr.add; split <;> simp_all
  exact ⟨_, b, c', rfl, by rw [e]; exact d, hI.sl⟩

theorem cells_no {l : List Int} {k : Nat} {v : Int} (h : l[k]? = some v) (hv : D.isCell v = false) : l.all D.isCell = false := by
  rw [List.all_eq_false]
  exact ⟨v, List.mem_of_getElem? h, by rw [hv]; decide⟩
theorem cells_yes {l : List Int} (h : ∀ (j : Nat) v, l[j]? = some v → D.isCell v = true) : l.all D.isCell = true := by
  rw [List.all_eq_true]
  intro v hv
  obtain ⟨j, hj⟩ := List.getElem?_of_mem hv
  exact h j v hj

set_option maxHeartbeats 800000 in
theorem areCells_c (a : Option Addr) (n c : Nat) (l : List Int) (w : World) (hI : Sl w (.slice a n c) l) (hl : l.length ≤ 9223372036854775807) :
    Calls Tryz.prog 63 #[.slice a n c] w fun e w' => e = .returned (.bool (l.all D.isCell)) ∧ w' = w := by
  obtain rfl := hI.len
  go_enter Tryz.func63, Tryz.ntmps63
  go_wp2
  go_loopw [7] (fun i wr => ∃ k : Nat, k ≤ l.length ∧ i = .int .i64 k ∧ Hid (∀ (j : Nat) v, j < k → l[j]? = some v → D.isCell v = true) ∧ wr = w) (fun i _ => l.length - (intOf i).toNat)
  case atStart => exact ⟨0, Nat.zero_le _, rfl, fun j v hj => absurd hj (by omega), rfl⟩
  case round =>
    obtain ⟨k, hk, rfl, Hal, rfl⟩ := hrel
    by_cases hlt : k < l.length
    · obtain ⟨v, hv⟩ : ∃ v, l[k]? = some v := ⟨_, List.getElem?_eq_getElem hlt⟩
      obtain ⟨g, rfl, d0⟩ := hI.get k v hv
      have Hv := hide hv
      clear hv hI
      by_cases h1 : v < -128
      · have He := hide (cells_no Hv.out (by unfold D.isCell; rw [show decide (-128 ≤ v) = false from by simp; omega]; rfl))
        go_wp2
        go_ret
        exact ⟨ret_bool He.out.symm, rfl⟩
      · by_cases h2 : 127 < v
        · have He := hide (cells_no Hv.out (by unfold D.isCell; rw [show decide (v ≤ 127) = false from by simp; omega]; simp))
          go_wp2
          go_ret
          exact ⟨ret_bool He.out.symm, rfl⟩
        · have Hst : Hid (∀ (j : Nat) u, j < k + 1 → l[j]? = some u → D.isCell u = true) := fun j u hj hu => by
            rcases Nat.lt_or_ge j k with h' | h'
            · exact Hal.out j u h' hu
            · obtain rfl : j = k := by omega
              rw [Hv.out] at hu
              injection hu with hu
              subst hu
              unfold D.isCell
              simp; omega
          go_wp2
          go_roundw
          case rel => exact ⟨k + 1, by omega, by go_num, Hst.out, trivial⟩
          case measure => simp [intOf]; omega
    · obtain rfl : k = l.length := by omega
      have He := hide (cells_yes fun j v hv => Hal.out j v (by
        rcases Nat.lt_or_ge j l.length with h' | h'
        · exact h'
        · rw [List.getElem?_eq_none h'] at hv; exact absurd hv (by simp)) hv)
      clear hI
      go_wp2
      go_ret
      exact ⟨ret_bool He.out.symm, rfl⟩

theorem hold_len {md : M.Md} {ins : List (List Int)} (h : ins.length ≠ (lensOf md.tensors).length) : D.inputsHold md ins = false := by
  unfold D.inputsHold
  rw [show ((ins.map fun l => (l.length : Int)) == D.lengths md) = false from by
    rw [beq_eq_false_iff_ne]
    intro e
    have := congrArg List.length e
    rw [List.length_map] at this
    exact h this]
  rfl
theorem hold_no1 {md : M.Md} {ins : List (List Int)} {k : Nat} {l : List Int} {x : Int} (h : ins[k]? = some l) (hx : (lensOf md.tensors)[k]? = some x) (hne : (l.length : Int) ≠ x) : D.inputsHold md ins = false := by
  unfold D.inputsHold
  rw [show ((ins.map fun l => (l.length : Int)) == D.lengths md) = false from by
    rw [beq_eq_false_iff_ne]
    intro e
    have := congrArg (fun q => q[k]?) e
    simp only [List.getElem?_map, h] at this
    rw [show (D.lengths md)[k]? = some x from hx] at this
    injection this with this
    exact hne this]
  rfl
theorem hold_no2 {md : M.Md} {ins : List (List Int)} {k : Nat} {l : List Int} (h : ins[k]? = some l) (hne : l.all D.isCell = false) : D.inputsHold md ins = false := by
  unfold D.inputsHold
  rw [show (ins.all fun l => l.all D.isCell) = false from by
    rw [List.all_eq_false]
    exact ⟨l, List.mem_of_getElem? h, by rw [hne]; decide⟩]
  simp
theorem hold_yes {md : M.Md} {ins : List (List Int)} (hl : ins.length = (lensOf md.tensors).length) (h : ∀ (k : Nat) l x, ins[k]? = some l → (lensOf md.tensors)[k]? = some x → (l.length : Int) = x ∧ l.all D.isCell = true) : D.inputsHold md ins = true := by
  have key : ∀ (k : Nat) l, ins[k]? = some l → ∃ x, (lensOf md.tensors)[k]? = some x := by
    intro k l hk
    have hlt : k < ins.length := by
      rcases Nat.lt_or_ge k ins.length with h' | h'
      · exact h'
      · rw [List.getElem?_eq_none h'] at hk; exact absurd hk (by simp)
    exact ⟨_, List.getElem?_eq_getElem (by omega)⟩
  unfold D.inputsHold
  rw [Bool.and_eq_true, beq_iff_eq, List.all_eq_true]
  refine ⟨?_, fun l hm => ?_⟩
  · apply List.ext_getElem?
    intro k
    rw [List.getElem?_map]
    show _ = (lensOf md.tensors)[k]?
    cases hk : ins[k]? with
    | none =>
      have : ins.length ≤ k := List.getElem?_eq_none_iff.mp hk
      rw [List.getElem?_eq_none (by omega)]; rfl
    | some l =>
      obtain ⟨x, hx⟩ := key k l hk
      rw [hx, Option.map_some, (h k l x hk hx).1]
  · obtain ⟨k, hk⟩ := List.getElem?_of_mem hm
    obtain ⟨x, hx⟩ := key k l hk
    exact (h k l x hk hx).2

-- the plan's own numbers
def bufI (md : M.Md) (n : Int) : Int := if n < 0 ∨ ((pD md).nums.length : Int) ≤ n then -1 else (pD md).nums.getD n.toNat 0

set_option maxHeartbeats 400000 in
theorem bufferOf_c (p : Nat) (md : M.Md) (n : Int) (w : World) (hP : Pl w p md) :
    Calls Tryz.prog 39 #[.pointer (some ⟨p, 0, none⟩), .int .i64 n] w fun e w' => e = .returned (.int .i64 (bufI md n)) ∧ w' = w := by
  obtain ⟨m, an, cn, ab, cb, -, -, hB, -, hN, -, -, h1⟩ := hP
  have q2 : w.cell? ⟨p, 2, none⟩ = some (.slice an (pD md).nums.length cn) := hB.cell 2
  have hpl := hB.lt
  clear hB h1
  by_cases h0 : n < 0
  · have He := hide (show bufI md n = -1 by unfold bufI; rw [if_pos (.inl h0)])
    clear hN
    go_enter Tryz.func39, Tryz.ntmps39
    go_wp2
    go_ret
    exact ⟨ret_int He.out.symm, rfl⟩
  · by_cases h1 : ((pD md).nums.length : Int) ≤ n
    · have He := hide (show bufI md n = -1 by unfold bufI; rw [if_pos (.inr h1)])
      clear hN
      go_enter Tryz.func39, Tryz.ntmps39
      go_wp2
      go_ret
      exact ⟨ret_int He.out.symm, rfl⟩
    · obtain ⟨k, rfl⟩ := Int.eq_ofNat_of_zero_le (show 0 ≤ n by omega)
      obtain ⟨b, hb⟩ : ∃ b, (pD md).nums[k]? = some b := ⟨_, List.getElem?_eq_getElem (by omega)⟩
      obtain ⟨g, rfl, -, -, d0⟩ := hN.get k b hb
      have He := hide (show bufI md k = b by unfold bufI; rw [if_neg (by omega), Int.toNat_natCast, getD_some hb])
      clear hb hN
      go_enter Tryz.func39, Tryz.ntmps39
      go_wp2
      go_ret
      exact ⟨ret_int He.out.symm, rfl⟩

-- how many inputs, how long
theorem kept_pM {md : M.Md} (h : O.One md) : H.Kept0 md.tensors (pM md).tensors := by
  obtain ⟨C, S⟩ := H.sol_one h
  exact H.kept_shrink S
theorem ins_lens {md : M.Md} (h : O.One md) : H.ins_ (pM md) = (lensOf md.tensors).length := by
  rw [H.ins_eq, (kept_pM h).cnt, (kept_pM h).1]
  unfold H.cnt lensOf
  rw [List.take_length, List.length_map]
  rfl
theorem lens_at : ∀ {ts : List M.Tn} {n : Nat} {t : M.Tn}, ts[n]? = some t → t.kind = 0 → (lensOf ts)[H.cnt ts n]? = some (M.cellsOf t)
  | [], n, t, h, _ => absurd h (by simp)
  | u :: ts, 0, t, h, h0 => by
    simp at h; subst h
    unfold lensOf H.cnt
    simp [h0]
  | u :: ts, n + 1, t, h, h0 => by
    have ih := lens_at (ts := ts) (n := n) (by simpa using h) h0
    unfold lensOf H.cnt at *
    rw [List.take_succ_cons, List.filter_cons, List.filter_cons]
    by_cases c : u.kind = 0
    · have c' : H.isIn u = true := by unfold H.isIn; simp [c]
      rw [if_pos (by simp [c]), if_pos c']
      simpa using ih
    · have c' : ¬ H.isIn u = true := by unfold H.isIn; simp [c]
      rw [if_neg (by simp [c]), if_neg c']
      exact ih
theorem lens_pM {md : M.Md} (h : O.One md) : lensOf (pM md).tensors = lensOf md.tensors := (kept_pM h).filter
/-- The i-th buffer is the i-th Input's. -/
theorem buf_in {md : M.Md} (h : O.One md) {i : Nat} {x : Int} (hx : (lensOf md.tensors)[i]? = some x) : ∃ b, (pB md)[i]? = some b ∧ b.c = x ∧ i < H.ins_ (pM md) := by
  obtain ⟨C, S⟩ := sol_pM h
  have A := H.al_of S
  have hi : i < H.ins_ (pM md) := by rw [ins_lens h]; exact M.lt_of_some hx
  obtain ⟨n, t, hn, k0, e⟩ := A.P.l0 i hi
  have hb := A.P.n0 n t hn k0
  have hbl := A.P.lt (M.lt_of_some hn) hb.1
  rw [e] at hb hbl
  have hl : i < (pB md).length := by rw [show (pB md).length = (pD md).lv.length from A.L.len]; exact hbl
  refine ⟨_, List.getElem?_eq_getElem hl, ?_, hi⟩
  have e1 : ((pB md).getD i H.noB).c = ((pD md).lv.getD i H.noL).c := A.L.c i hbl
  rw [getD_some (List.getElem?_eq_getElem hl)] at e1
  rw [e1, show ((pD md).lv.getD i H.noL).c = M.cellsOf t from hb.2.2.2]
  have e2 := lens_at hn k0
  rw [e, lens_pM h, hx] at e2
  injection e2 with e2
  exact e2.symm
theorem pB_ok {md : M.Md} (h : O.One md) : BfOk (pB md) ∧ (pB md).length = (pD md).lv.length ∧ (pB md).length ≤ 100 ∧ (pD md).nums.length ≤ 24 ∧ H.ins_ (pM md) ≤ 24 := by
  obtain ⟨C, S⟩ := sol_pM h
  have A := H.al_of S
  have e1 : (pD md).lv.length = H.ins_ (pM md) + (pM md).ops.length := A.P.ll
  have e2 := H.ins_eq (pM md)
  have e3 : H.cnt (pM md).tensors (pM md).tensors.length ≤ (pM md).tensors.length := by unfold H.cnt; exact Nat.le_trans (List.length_filter_le _ _) (by simp)
  have e4 : (pD md).nums.length = (pM md).tensors.length := A.P.ln
  have := S.nt
  have := S.no
  have ok := lay_ok (A.P.one A.S) (by show (pD md).lv.length ≤ 100; omega) (pD md).lv.length
  exact ⟨ok.1, ok.2, by rw [show (pB md).length = (pD md).lv.length from ok.2]; omega, by omega, by omega⟩

set_option maxHeartbeats 400000 in
theorem pinputs_c (p : Nat) (md : M.Md) (w : World) (hP : Pl w p md) :
    Calls Tryz.prog 76 #[.pointer (some ⟨p, 0, none⟩)] w fun e w' => e = .returned (.int .i64 (lensOf md.tensors).length) ∧ w' = w := by
  obtain ⟨m, an, cn, ab, cb, -, -, hB, -, -, -, -, h1⟩ := hP
  have q1 : w.cell? ⟨p, 1, none⟩ = some (.int .i64 (H.ins_ (pM md))) := hB.cell 1
  rw [ins_lens h1] at q1
  clear hB h1
  go_enter Tryz.func76, Tryz.ntmps76
  go_wp2
  go_ret
  exact ⟨rfl, rfl⟩

set_option maxHeartbeats 800000 in
theorem plength_c (p i : Nat) (x : Int) (md : M.Md) (w : World) (hP : Pl w p md) (hx : (lensOf md.tensors)[i]? = some x) :
    Calls Tryz.prog 62 #[.pointer (some ⟨p, 0, none⟩), .int .i64 i] w fun e w' => e = .returned (.int .i64 x) ∧ w' = w := by
  obtain ⟨m, an, cn, ab, cb, -, -, hB, -, -, hF, -, h1⟩ := hP
  obtain ⟨b, hb, hc, hi⟩ := buf_in h1 hx
  have ok := pB_ok h1
  have q1 : w.cell? ⟨p, 1, none⟩ = some (.int .i64 (H.ins_ (pM md))) := hB.cell 1
  have q3 : w.cell? ⟨p, 3, none⟩ = some (.slice ab (pB md).length cb) := hB.cell 3
  obtain ⟨g, rfl, -, -, d1⟩ := Bfs.get hF i b hb
  rw [hc] at d1
  have hl := M.lt_of_some hb
  have hn1 := ok.2.2.1
  have hn2 := ok.2.2.2.2
  clear hB h1 hF hb hc ok hx
  go_enter Tryz.func62, Tryz.ntmps62
  go_wp2
  go_ret
  exact ⟨rfl, rfl⟩

set_option maxHeartbeats 800000 in
theorem arena_c (p : Nat) (md : M.Md) (w : World) (hP : Pl w p md) :
    Calls Tryz.prog 35 #[.pointer (some ⟨p, 0, none⟩)] w fun e w' => e = .returned (.int .i64 (H.endOf (pB md))) ∧ w.grownBy w' none := by
  obtain ⟨m, an, cn, ab, cb, -, -, hB, -, -, hF, -, h1⟩ := hP
  have ok := pB_ok h1
  have q3 : w.cell? ⟨p, 3, none⟩ = some (.slice ab (pB md).length cb) := hB.cell 3
  have HC := hide (end_c 0 ab (pB md).length cb (pB md) w hF (by omega) ok.1)
  clear hB h1 hF ok
  go_enter Tryz.func35, Tryz.ntmps35
  go_wp2_with fail
  refine HC.out.mono ?_
  rintro e w1 ⟨rfl, hg1⟩
  have HG1 := hide hg1
  clear hg1
  go_wp2
  go_ret
  exact ⟨rfl, HG1.out⟩

set_option maxHeartbeats 1600000 in
theorem takes_c (p : Nat) (md : M.Md) (a : Option Addr) (n c : Nat) (ins : List (List Int)) (w : World) (hP : Pl w p md) (hI : Lsl w (.slice a n c) ins) (hl : ∀ l ∈ ins, l.length ≤ 9223372036854775807) (hn : ins.length ≤ 9223372036854775807) :
    Calls Tryz.prog 34 #[.pointer (some ⟨p, 0, none⟩), .slice a n c] w fun e w' => e = .returned (.bool (D.inputsHold md ins)) ∧ w' = w := by
  obtain rfl := hI.len
  have HP := hide hP
  obtain ⟨m, an, cn, ab, cb, -, -, hB, -, -, -, -, h1⟩ := hP
  have hLn := (pB_ok h1).2.2.2.2
  have d0 : w.cell? ⟨p, 1, none⟩ = some (.int .i64 (H.ins_ (pM md))) := hB.cell 1
  rw [ins_lens h1] at d0 hLn
  clear hB h1
  by_cases hc : ins.length = (lensOf md.tensors).length
  · have hb : ((ins.length : Int) != ((lensOf md.tensors).length : Int)) = false := by simp; omega
    have Hc := hide hc
    have Hl := hide hl
    clear hc hl
    go_enter Tryz.func34, Tryz.ntmps34
    go_wp2
    go_loopw [17] (fun i wr => ∃ k : Nat, k ≤ ins.length ∧ i = .int .i64 k ∧ Hid (∀ (j : Nat) l x, j < k → ins[j]? = some l → (lensOf md.tensors)[j]? = some x → (l.length : Int) = x ∧ l.all D.isCell = true) ∧ wr = w) (fun i _ => ins.length - (intOf i).toNat)
    case atStart => exact ⟨0, Nat.zero_le _, rfl, fun j l x hj => absurd hj (by omega), rfl⟩
    case round =>
      obtain ⟨k, hk, rfl, Hal, rfl⟩ := hrel
      by_cases hlt : k < ins.length
      · have hlt2 : k < (lensOf md.tensors).length := by rw [← Hc.out]; exact hlt
        obtain ⟨l, hv⟩ : ∃ l, ins[k]? = some l := ⟨_, List.getElem?_eq_getElem hlt⟩
        obtain ⟨x, hx⟩ : ∃ x, (lensOf md.tensors)[k]? = some x := ⟨_, List.getElem?_eq_getElem hlt2⟩
        obtain ⟨g, ao, c', rfl, d1, hIl⟩ := hI.get k l hv
        have hll := Hl.out l (List.mem_of_getElem? hv)
        have HC := hide (plength_c p k x md wr HP.out hx)
        have HIl := hide hIl
        have Hv := hide hv
        have Hx := hide hx
        clear hv hx hI hIl d0
        go_wp2_with fail
        refine HC.out.mono ?_
        rintro e w1 ⟨rfl, rfl⟩
        clear HC
        by_cases h1 : (l.length : Int) = x
        · have h1' : ((l.length : Int) != x) = false := by simp [h1]
          have H1 := hide h1
          clear h1
          go_wp2_with fail
          refine (areCells_c ao l.length c' l _ HIl.out hll).mono ?_
          rintro e w2 ⟨rfl, rfl⟩
          cases h2 : l.all D.isCell with
          | false =>
            have He := hide (hold_no2 (md := md) Hv.out h2)
            go_wp2
            go_ret
            exact ⟨ret_bool He.out.symm, rfl⟩
          | true =>
            have Hst : Hid (∀ (j : Nat) u z, j < k + 1 → ins[j]? = some u → (lensOf md.tensors)[j]? = some z → (u.length : Int) = z ∧ u.all D.isCell = true) := fun j u z hj hu hz => by
              rcases Nat.lt_or_ge j k with h' | h'
              · exact Hal.out j u z h' hu hz
              · obtain rfl : j = k := by omega
                rw [Hv.out] at hu
                rw [Hx.out] at hz
                injection hu with hu
                injection hz with hz
                subst hu hz
                exact ⟨H1.out, h2⟩
            go_wp2
            go_roundw
            case rel => exact ⟨k + 1, by omega, by go_num, Hst.out, trivial⟩
            case measure => simp [intOf]; omega
        · have h1' : ((l.length : Int) != x) = true := by simp [h1]
          have He := hide (hold_no1 Hv.out Hx.out h1)
          clear h1
          go_wp2
          go_ret
          exact ⟨ret_bool He.out.symm, rfl⟩
      · obtain rfl : k = ins.length := by omega
        have He := hide (hold_yes Hc.out fun j l x hl hx => Hal.out j l x (by
          rcases Nat.lt_or_ge j ins.length with h' | h'
          · exact h'
          · rw [List.getElem?_eq_none h'] at hl; exact absurd hl (by simp)) hl hx)
        clear hI
        go_wp2
        go_ret
        exact ⟨ret_bool He.out.symm, rfl⟩
  · have hb : ((ins.length : Int) != ((lensOf md.tensors).length : Int)) = true := by simp; omega
    have He := hide (hold_len hc)
    clear hc hI
    go_enter Tryz.func34, Tryz.ntmps34
    go_wp2
    go_ret
    exact ⟨ret_bool He.out.symm, rfl⟩

end Go.Proofs.YtcnhfffgbamonabGreat

/-
  The row of a run: part, write, of.
-/
namespace Go.Proofs.YtcnhfffgbamonabGreat
open Go.RowKit

/-- The row of one run of the plan p in block r: its cells in block g. -/
def Rw (w : World) (r p g : Nat) (cells : List Int) : Prop :=
  Blk w r 85 #[.pointer (some ⟨p, 0, none⟩), .slice (some ⟨g, 0, none⟩) cells.length cells.length] ∧ Blk w g 3 (cells.map (Value.int .i64)).toArray ∧ cells.length ≤ 1000000
theorem Rw.kept0 {w w' : World} {r p g : Nat} {cells : List Int} (h : Rw w r p g cells) (hg : w.grownBy w' none) : Rw w' r p g cells := ⟨h.1.kept hg (by simp), h.2.1.kept hg (by simp), h.2.2⟩

theorem Rw.row {w : World} {r p g : Nat} {cells : List Int} (h : Rw w r p g cells) {b : H.Bf} (h0 : 0 ≤ b.a) (h1 : 0 ≤ b.c) (he : b.e ≤ cells.length) (cp : Nat) : Row w (.slice (some ⟨g, b.a.toNat, none⟩) b.c.toNat cp) (H.part cells b) := by
  have hl := H.part_len h0 h1 he
  refine ⟨some ⟨g, b.a.toNat, none⟩, cp, by rw [hl], fun i x hx => ⟨g, b.a.toNat, rfl, h.2.1.lt, ?_⟩⟩
  rw [h.2.1.cell]
  rw [H.part_get] at hx
  split at hx
  · rw [List.getElem?_toArray, List.getElem?_map, hx]; rfl
  · exact absurd hx (by simp)

set_option maxRecDepth 100000 in
set_option maxHeartbeats 2000000 in
theorem part_c (r p g : Nat) (md : M.Md) (cells : List Int) (b : Nat) (x : H.Bf) (w : World) (hP : Pl w p md) (hR : Rw w r p g cells) (hx : (pB md)[b]? = some x) (x0 : 0 ≤ x.a) (x1 : 1 ≤ x.c) (xe : x.a + x.c ≤ cells.length) :
    Calls Tryz.prog 65 #[.pointer (some ⟨r, 0, none⟩), .int .i64 b] w fun e w' => e = .returned (.slice (some ⟨g, x.a.toNat, none⟩) x.c.toNat (cells.length - x.a.toNat)) ∧ w.grownBy w' none := by
  obtain ⟨m, an, cn, ab, cb, -, -, hB, -, -, hF, -, h1⟩ := hP
  have ok := pB_ok h1
  have hbl := M.lt_of_some hx
  have q3 : w.cell? ⟨p, 3, none⟩ = some (.slice ab (pB md).length cb) := hB.cell 3
  obtain ⟨g', rfl, -, d0, d1⟩ := Bfs.get hF b x hx
  have r0 : w.cell? ⟨r, 0, none⟩ = some (.pointer (some ⟨p, 0, none⟩)) := hR.1.cell 0
  have r1 : w.cell? ⟨r, 1, none⟩ = some (.slice (some ⟨g, 0, none⟩) cells.length cells.length) := hR.1.cell 1
  have hrl := hR.1.lt
  have hcl := hR.2.2
  have hn1 := ok.2.2.1
  obtain ⟨xa, xc⟩ := x
  obtain ⟨A, rfl⟩ := Int.eq_ofNat_of_zero_le x0
  obtain ⟨Cc, rfl⟩ := Int.eq_ofNat_of_zero_le (show 0 ≤ xc by have : (1 : Int) ≤ xc := x1; omega)
  simp only [Int.toNat_natCast] at *
  have xe' : A + Cc ≤ cells.length := by omega
  have HGa := hide (World.grownBy_alloc w (.cells #[.int .i64 A, .int .i64 Cc] 116) none)
  clear hB h1 hF hx ok hR xe
  go_enter Tryz.func65, Tryz.ntmps65
  go_wp2
  go_quiet (fail)
  rw [Nat.add_sub_cancel_left]
  have HGq := hide (gr_trans HGa.out (gr_drewN _ nq none))
  clear HGa
  go_wp2
  go_ret
  exact ⟨rfl, HGq.out⟩

/-- The row behind a write. -/
theorem Rw.wrt {w : World} {r p g : Nat} {cells : List Int} (h : Rw w r p g cells) (hne : r ≠ g) (q : Nat) (l : List Int) (hl : q + l.length ≤ cells.length) :
    Rw (w.setRow g ((cells.map (Value.int .i64)).take q ++ (l.map (Value.int .i64) ++ (cells.map (Value.int .i64)).drop (q + l.length))).toArray) r p g (H.wrt cells q l) := by
  have hlen := H.wrt_len hl
  refine ⟨?_, ?_, by rw [hlen]; exact h.2.2⟩
  · rw [hlen]; exact h.1.kept (gr_setRow _ _ _) (by simpa using hne)
  · have e := setRow_blk h.2.1 ((cells.map (Value.int .i64)).take q ++ (l.map (Value.int .i64) ++ (cells.map (Value.int .i64)).drop (q + l.length))).toArray
    have e2 : ((cells.map (Value.int .i64)).take q ++ (l.map (Value.int .i64) ++ (cells.map (Value.int .i64)).drop (q + l.length))) = (H.wrt cells q l).map (Value.int .i64) := by
      unfold H.wrt
      simp [List.map_take, List.map_drop]
    rw [e2] at e ⊢
    exact e

set_option maxRecDepth 100000 in
set_option maxHeartbeats 2000000 in
theorem write_c (r p g : Nat) (md : M.Md) (cells l : List Int) (b : Nat) (x : H.Bf) (a : Option Addr) (n c : Nat) (w : World) (hP : Pl w p md) (hR : Rw w r p g cells) (hx : (pB md)[b]? = some x) (x0 : 0 ≤ x.a) (x1 : 1 ≤ x.c) (xe : x.a + x.c ≤ cells.length) (hl : (l.length : Int) = x.c) (hI : Sl w (.slice a n c) l) :
    Calls Tryz.prog 36 #[.pointer (some ⟨r, 0, none⟩), .int .i64 b, .slice a n c] w fun e w' => e = .returned (.tuple #[]) ∧ Rw w' r p g (H.wrt cells x.a.toNat l) ∧ w.grownBy w' (some g) := by
  obtain rfl := hI.len
  obtain ⟨j0, hj, hy0, hy1, hy2⟩ := info_parts Tryz.info3
  have hne : r ≠ g := blk_ne hR.1 hR.2.1 (by decide)
  have HC := hide (part_c r p g md cells b x w hP hR hx x0 x1 xe)
  have HR := hide hR
  have HI := hide hI
  have hw : x.a.toNat + l.length ≤ cells.length := by omega
  clear hP hR hx hI
  go_enter Tryz.func36, Tryz.ntmps36
  go_wp2_with fail
  refine HC.out.mono ?_
  rintro e w1 ⟨rfl, hg1⟩
  have HR1 := hide (HR.out.kept0 hg1)
  have HI1 := hide (HI.out.kept0 hg1)
  have HG1 := hide (gr_none (row := some g) hg1)
  obtain ⟨ga, rfl, -⟩ := HI1.out.get 0 _ (List.getElem?_eq_getElem (show 0 < l.length by omega))
  have Hsrc : Hid (∀ (j : Nat) v, (l.map (Value.int .i64))[j]? = some v → w1.cell? (ga.add j) = some v) := fun j v hv => by
    rw [List.getElem?_map] at hv
    obtain ⟨y, hy, rfl⟩ := Option.map_eq_some_iff.1 hv
    obtain ⟨ga', e, d⟩ := HI1.out.get j y hy
    injection e with e
    rw [e]; exact d
  have Hw := hide (HR1.out.wrt hne x.a.toNat l hw)
  have HGw := hide (gr_trans HG1.out (gr_setRow w1 g ((cells.map (Value.int .i64)).take x.a.toNat ++ (l.map (Value.int .i64) ++ (cells.map (Value.int .i64)).drop (x.a.toNat + l.length))).toArray))
  have hxc : x.c.toNat = l.length := by omega
  rw [hxc]
  clear hg1 HC HR HI HI1 hxc
  go_wp2_with (refine wpList_copy_own rfl _ _ 32 32 rfl 3 Tryz.underlying32 (by rw [hj]; simp [hy1]) g x.a.toNat l.length (cells.length - x.a.toNat) ga l.length c rfl rfl (cells.map (Value.int .i64)).toArray 3 HR1.out.2.1 (l.map (Value.int .i64)) (by simp) Hsrc.out (by simp; omega) (by intro v hv; obtain ⟨q, -, rfl⟩ := List.mem_map.mp hv; rfl) ?_)
  go_end0
  exact ⟨rfl, Hw.out, HGw.out⟩

/-- What `of` finds. -/
def ofP (md : M.Md) (cells : List Int) (n : Int) : List Int := H.ofL (pM md) (pD md) (pB md) cells n

set_option maxRecDepth 100000 in
set_option maxHeartbeats 2000000 in
theorem of_c (r p g : Nat) (md : M.Md) (cells : List Int) (n : Int) (w0 w : World) (hP0 : Pl w0 p md) (hR0 : Rw w0 r p g cells) (hg0 : w0.grownBy w none) (hc : (cells.length : Int) = H.endOf (pB md)) :
    Calls Tryz.prog 37 #[.pointer (some ⟨r, 0, none⟩), .int .i64 n] w fun e w' => (∃ a c, e = .returned (.slice a (ofP md cells n).length c) ∧ Row w0 (.slice a (ofP md cells n).length c) (ofP md cells n)) ∧ w.grownBy w' none := by
  have hP := hP0.kept0 hg0
  have hR := hR0.kept0 hg0
  have HM : Hid (∃ m an cn ab cb, Blk w0 p 80 #[.pointer (some ⟨m, 0, none⟩), .int .i64 (H.ins_ (pM md)), .slice an (pD md).nums.length cn, .slice ab (pB md).length cb] ∧ Mod w0 m (pM md)) := by
    obtain ⟨m, an, cn, ab, cb, -, -, hB, hM, -⟩ := hP0
    exact ⟨m, an, cn, ab, cb, hB, hM⟩
  have HR := hide hR0
  have HG0 := hide hg0
  have hP' := hP
  obtain ⟨_, _, _, _, _, -, -, -, -, -, -, -, h1⟩ := hP'
  obtain ⟨m, an, cn, ab, cb, hBp, hM0⟩ := HM.out
  have hB := hBp.kept hg0 (by simp)
  obtain ⟨C, S⟩ := sol_pM h1
  have A := H.al_of S
  have hn1 := S.nt
  have r0 : w.cell? ⟨r, 0, none⟩ = some (.pointer (some ⟨p, 0, none⟩)) := hR.1.cell 0
  have q0 : w.cell? ⟨p, 0, none⟩ = some (.pointer (some ⟨m, 0, none⟩)) := hB.cell 0
  have HM0 := hide hM0
  have HC := hide (bufferOf_c p md n w hP)
  have hB0 : bufI md n < 0 ∨ 0 ≤ bufI md n := by omega
  rcases hB0 with hb | hb
  · have He : Hid (ofP md cells n = (M.tensorAt (pM md) n).data) := by
      unfold Hid ofP H.ofL
      rw [if_neg]
      rintro ⟨a1, a2, a3⟩
      unfold bufI at hb
      rw [if_neg (by omega)] at hb
      omega
    clear hP hR hB hBp hM0 HM h1 S A hc hP0 hR0 hg0
    generalize bufI md n = bi at *
    go_enter Tryz.func37, Tryz.ntmps37
    go_wp2_with fail
    refine HC.out.mono ?_
    rintro e w1 ⟨rfl, rfl⟩
    clear HC
    go_wp2_with fail
    refine (tensorD_c m (pM md) n w0 w1 HM0.out HG0.out (by omega)).mono ?_
    rintro e w2 ⟨t, ht, ⟨ao, c, rfl, hI⟩, hg2⟩
    have HG := hide (gr_trans hg2 (World.grownBy_alloc w2 (.cells #[.int .i64 t.kind, .int .i64 t.h, .int .i64 t.w, .int .i64 t.c, .int .i64 t.zero, .slice ao t.data.length c] 106) none))
    have HRo := hide hI.row
    rw [ht.out] at He
    clear hI hg2
    go_wp2
    go_ret
    exact ⟨⟨ao, c, by rw [He.out]; rfl, by rw [He.out]; exact HRo.out⟩, HG.out⟩
  · obtain ⟨b, hbe⟩ := Int.eq_ofNat_of_zero_le hb
    have hn : 0 ≤ n ∧ n < (pD md).nums.length ∧ (pD md).nums.getD n.toNat 0 = (b : Int) := by
      have e := hbe
      unfold bufI at e
      by_cases c : n < 0 ∨ ((pD md).nums.length : Int) ≤ n
      · rw [if_pos c] at e; omega
      · rw [if_neg c] at e; exact ⟨by omega, by omega, e⟩
    have e4 : (pD md).nums.length = (pM md).tensors.length := A.P.ln
    have hbl : b < (pD md).lv.length := A.P.lt (n := n.toNat) (by omega) hn.2.2
    have hbB : b < (pB md).length := by rw [show (pB md).length = (pD md).lv.length from A.L.len]; exact hbl
    obtain ⟨x, hx⟩ : ∃ x, (pB md)[b]? = some x := ⟨_, List.getElem?_eq_getElem hbB⟩
    obtain ⟨f1, f2, f3, f4⟩ := A.fits hbl
    have f1' : 0 ≤ x.a := by rw [← getD_some (d := H.noB) hx]; exact f1
    have f2' : 1 ≤ x.c := by rw [← getD_some (d := H.noB) hx]; exact f2
    have f4' : x.e ≤ cells.length := by rw [hc, ← getD_some (d := H.noB) hx]; exact f4
    have He : Hid (ofP md cells n = H.part cells x) := by
      unfold Hid ofP H.ofL
      rw [if_pos ⟨hn.1, hn.2.1, by rw [hn.2.2]; omega⟩, hn.2.2, Int.toNat_natCast, getD_some hx]
    have hpl := H.part_len (cells := cells) (b := x) f1' (by omega) f4'
    have HC2 := hide (part_c r p g md cells b x w hP hR hx f1' f2' f4')
    have Hpl := hide hpl
    have f1h := hide f1'
    have f2h := hide f2'
    have f4h := hide f4'
    rw [hbe] at HC
    clear hP hR hB hBp hM0 HM h1 S A hc hbe hn hx f1 f2 f3 f4 f1' f2' f4' hpl q0 hb hP0 hR0 hg0
    go_enter Tryz.func37, Tryz.ntmps37
    go_wp2_with fail
    refine HC.out.mono ?_
    rintro e w1 ⟨rfl, rfl⟩
    clear HC
    go_wp2_with fail
    refine HC2.out.mono ?_
    rintro e w2 ⟨rfl, hg2⟩
    have HG := hide hg2
    have HRo := hide (HR.out.row f1h.out (by have := f2h.out; omega) f4h.out (cells.length - x.a.toNat))
    clear hg2 HC2
    go_wp2
    go_ret
    exact ⟨⟨some ⟨g, x.a.toNat, none⟩, cells.length - x.a.toNat, by rw [He.out, Hpl.out]; rfl, by rw [He.out, Hpl.out]; exact HRo.out⟩, HG.out⟩

end Go.Proofs.YtcnhfffgbamonabGreat

/-
  answer: the outputs, in fresh lists of their own.
-/
namespace Go.Proofs.YtcnhfffgbamonabGreat
open Go.RowKit

theorem Tryz.info32 : (Tryz.prog.info? 32).map (fun i => (i.zero, i.size, i.bytes)) = some (some (.slice none 0 0), 1, 24) := by kernel_rfl

theorem Ints.apart {w w' : World} {B G : Nat} {T : TypeId} {v : Value} {l : List Int} {cs : Array Value} (h : Ints w B v l) (hB : Blk w G T cs) (hT : T ≠ 3) (hg : w.grownBy w' (some G)) : Ints w' B v l := by
  refine World.ownsRow.kept h hg ?_
  cases hv : v.ownBlock with
  | none => exact .inl rfl
  | some g =>
    refine .inr ?_
    rintro e
    injection e with e
    subst e
    rcases h.2 with ⟨h1, -⟩ | ⟨g', cap, cur, h1, -, hh, -⟩
    · rw [h1] at hv; exact absurd hv (by simp [Value.ownBlock])
    · rw [h1] at hv
      simp only [Value.ownBlock] at hv
      injection hv with hv
      subst hv
      unfold Blk at hB
      rw [hh] at hB
      injection hB with hB
      injection hB with _ hB _
      exact hT hB.symm

theorem IsInts.apart {w w' : World} {G : Nat} {T : TypeId} {v : Value} {l : List Int} {cs : Array Value} (h : IsInts w v l) (hB : Blk w G T cs) (hT : T ≠ 3) (hg : w.grownBy w' (some G)) : IsInts w' v l := by
  obtain ⟨ao, n, c, e, h⟩ := h
  exact ⟨ao, n, c, e, h.apart hB hT hg⟩

/-- What a make of n lists lays. -/
theorem made_lists {w : World} {base g n : Nat} (h : w.ownsRow base 32 1 (.slice (some ⟨g, 0, none⟩) n n) n (madeCells #[Value.slice none 0 0] n).toList) : Blk w g 32 (List.replicate n (Value.slice none 0 0)).toArray := by
  rcases h.2 with ⟨h', _⟩ | ⟨g', cap', cur, h', _, hg, _, _, hz, ht⟩
  · simp at h'
  · simp only [Value.slice.injEq, Option.some.injEq, Addr.mk.injEq, and_true, true_and] at h'
    obtain ⟨rfl, rfl⟩ := h'
    unfold Blk
    rw [hg]
    have e : cur.toList = List.replicate n (Value.slice none 0 0) := by
      rw [List.take_of_length_le (by simp [hz])] at ht
      rw [ht]
      exact toList_madeCells_one _ _
    rw [← e]


/-- A list of a block of its own, without spare room. -/
def own (g : Nat) (l : List Int) : Value := .slice (some ⟨g, 0, none⟩) l.length l.length
def outCells (gs : List Nat) (ls : List (List Int)) (n : Nat) : List Value := List.zipWith own gs ls ++ List.replicate n zs
theorem outCells_len {gs : List Nat} {ls : List (List Int)} {n : Nat} (h : gs.length = ls.length) : (outCells gs ls n).length = gs.length + n := by
  unfold outCells; simp [h]
theorem outCells_get {gs : List Nat} {ls : List (List Int)} {n : Nat} (h : gs.length = ls.length) (hn : 0 < n) : (outCells gs ls n)[gs.length]? = some zs := by
  unfold outCells
  rw [List.getElem?_append_right (by simp [h])]
  simp [h, hn]
theorem outCells_set {gs : List Nat} {ls : List (List Int)} {n g : Nat} {l : List Int} (h : gs.length = ls.length) : (outCells gs ls (n + 1)).set gs.length (own g l) = outCells (gs ++ [g]) (ls ++ [l]) n := by
  unfold outCells
  have hl : (List.zipWith own gs ls).length = gs.length := by simp [h]
  rw [List.set_append_right _ _ (by omega), hl, Nat.sub_self, List.replicate_succ, List.set_cons_zero, List.zipWith_append h]
  simp

/-- Lists of lists that were just made: the outer one in block G, the others in blocks gs, all of their own. -/
structure Fresh (w : World) (B G : Nat) (gs : List Nat) (ls : List (List Int)) : Prop where
  len : gs.length = ls.length
  out : Blk w G 32 (List.zipWith own gs ls).toArray
  base : B ≤ G
  sorted : gs.Pairwise (· < ·)
  above : ∀ g ∈ gs, G < g
  blk : ∀ (i : Nat) g l, gs[i]? = some g → ls[i]? = some l → Blk w g 3 (l.map (Value.int .i64)).toArray

theorem Fresh.lists {w : World} {B G : Nat} {gs : List Nat} {ls : List (List Int)} (h : Fresh w B G gs ls) (hm : ls.length ≤ maxLen) (hl : ∀ l ∈ ls, l.length ≤ maxLen) : Lists w B (.slice (some ⟨G, 0, none⟩) ls.length ls.length) ls := by
  have hz : (List.zipWith own gs ls).length = ls.length := by simp [h.len]
  refine ⟨List.zipWith own gs ls, hz, ⟨by simp [hz], .inr ⟨G, ls.length, (List.zipWith own gs ls).toArray, rfl, h.base, h.out, Nat.le_refl _, hm, by simp [hz], by rw [List.take_of_length_le (by simp [hz])]⟩⟩, fun i u l hu hl' => ?_⟩
  have hil := M.lt_of_some hl'
  obtain ⟨g, hg⟩ : ∃ g, gs[i]? = some g := ⟨_, List.getElem?_eq_getElem (by rw [h.len]; exact hil)⟩
  rw [List.getElem?_zipWith, hg, hl'] at hu
  injection hu with hu
  refine ⟨some ⟨g, 0, none⟩, l.length, l.length, hu.symm, Ints.of_blk (Nat.zero_le _) (by simp) (hl l (List.mem_of_getElem? hl')) (h.blk i g l hg hl')⟩

set_option maxRecDepth 100000 in
set_option maxHeartbeats 4000000 in
theorem answer_c (r p g : Nat) (md : M.Md) (cells : List Int) (w : World) (hP : Pl w p md) (hR : Rw w r p g cells) (hc : (cells.length : Int) = H.endOf (pB md)) (hlo : ∀ n ∈ (pM md).outs, 1 ≤ (ofP md cells n).length ∧ (ofP md cells n).length ≤ 512) :
    Calls Tryz.prog 40 #[.pointer (some ⟨r, 0, none⟩)] w fun e w' => (∃ G gs, e = .returned (.slice (some ⟨G, 0, none⟩) (pM md).outs.length (pM md).outs.length) ∧ Fresh w' w.heap.size G gs ((pM md).outs.map (ofP md cells))) ∧ w.grownBy w' none := by
  obtain ⟨i0, hi, hz0, hz1, hz2⟩ := info_parts Tryz.info32
  obtain ⟨j0, hj, hy0, hy1, hy2⟩ := info_parts Tryz.info3
  have HP := hide hP
  have HR := hide hR
  obtain ⟨m, an, cn, ab, cb, -, -, hB, hM, -, -, -, h1⟩ := hP
  obtain ⟨C, S⟩ := sol_pM h1
  have hnu := S.nu
  have r0 : w.cell? ⟨r, 0, none⟩ = some (.pointer (some ⟨p, 0, none⟩)) := hR.1.cell 0
  have q0 : w.cell? ⟨p, 0, none⟩ = some (.pointer (some ⟨m, 0, none⟩)) := hB.cell 0
  obtain ⟨a1, c1, a2, c2, a3, c3, hBm, -, -, hU⟩ := hM
  have m2 : w.cell? ⟨m, 2, none⟩ = some (.slice a3 (pM md).outs.length c3) := hBm.cell 2
  have HU := hide hU
  have Hlo := hide hlo
  have Hc := hide hc
  have hrl := hR.1.lt
  have hpl := hB.lt
  have hml := hBm.lt
  clear hB hBm hU S h1 hlo hc hR
  generalize hN : (pM md).outs = us at *
  have HN := hide hN
  clear hN
  go_enter Tryz.func40, Tryz.ntmps40
  go_wp2_with (at_make; refine wpList_make_full _ rfl _ _ 38 rfl w.heap.size 32 i0 (.slice none 0 0) 1 Tryz.underlying38 hi hz0 hz1 _ _ _ _ us.length rfl rfl rfl rfl ?c1 ?c2 ?c3 ?_)
  case c1 => rw [hz2]; omega
  case c2 => unfold maxLen; omega
  case c3 => exact Nat.le_refl _
  intro w2 hown hg2
  have hB2 := made_lists hown
  have r0' := cell_kept hg2 r0
  have q0' := cell_kept hg2 q0
  have m2' := cell_kept hg2 m2
  clear hown r0 q0 m2
  go_wp2
  clear r0' q0' m2'
  go_loopw [30] (fun i wr => ∃ (k : Nat) (gs : List Nat), k ≤ us.length ∧ i = .int .i64 k ∧ gs.length = k ∧ Blk wr w.heap.size 32 (outCells gs ((us.take k).map (ofP md cells)) (us.length - k)).toArray ∧ Hid (gs.Pairwise (· < ·)) ∧ Hid (∀ g' ∈ gs, w.heap.size < g' ∧ g' < wr.heap.size) ∧ Hid (∀ (j : Nat) g' l, gs[j]? = some g' → ((us.take k).map (ofP md cells))[j]? = some l → Blk wr g' 3 (l.map (Value.int .i64)).toArray) ∧ w.grownBy wr none) (fun i _ => us.length - (intOf i).toNat)
  case atStart => exact ⟨0, [], Nat.zero_le _, rfl, rfl, by simpa [outCells, zs] using hB2, List.Pairwise.nil, fun _ h => absurd h (by simp), fun _ _ _ h => absurd h (by simp), hg2⟩
  case round =>
    obtain ⟨k, gs, hk, rfl, hgl, hBk, Hsd, Hab, Hbl, hgk⟩ := hrel
    have HGk := hide hgk
    have hszk := hgk.size
    have hGl := hBk.lt
    have hlm : ((us.take k).map (ofP md cells)).length = k := by simp; omega
    have Hlm := hide hlm
    have Hgl := hide hgl
    clear hlm
    by_cases hlt : k < us.length
    · obtain ⟨x, hx⟩ : ∃ x, us[k]? = some x := ⟨_, List.getElem?_eq_getElem hlt⟩
      obtain ⟨gu, rfl, -, -, d0⟩ := (HU.out.kept0 hgk).get k x hx
      have HC := hide (of_c r p g md cells x w wr HP.out HR.out hgk Hc.out)
      have hxl := Hlo.out x (List.mem_of_getElem? hx)
      have HTk : Hid ((us.take (k + 1)).map (ofP md cells) = (us.take k).map (ofP md cells) ++ [ofP md cells x]) := by unfold Hid; rw [H.take_snoc hx]; simp
      have HBk := hide hBk
      clear hx hBk hgk hgl
      obtain ⟨l, Hle⟩ : ∃ l, Hid (ofP md cells x = l) := ⟨_, rfl⟩
      rw [Hle.out] at HC hxl HTk
      go_wp2_with fail
      refine HC.out.mono ?_
      rintro e w3 ⟨⟨al, cl, rfl, hRl⟩, hg3⟩
      have HRl := hide hRl
      have HG3 := hide (gr_trans HGk.out hg3)
      have HB3 := hide (HBk.out.kept hg3 (by simp))
      have hsz3 := hg3.size
      have Hg3 := hide hg3
      clear hRl hg3 HC d0
      go_wp2_with (at_make; refine wpList_make_full _ rfl _ _ 32 rfl w3.heap.size 3 j0 (.int .i64 0) 1 Tryz.underlying32 hj hy0 hy1 _ _ _ _ l.length rfl rfl rfl rfl ?c1 ?c2 ?c3 ?_)
      case c1 => rw [hy2]; omega
      case c2 => unfold maxLen; omega
      case c3 => exact Nat.le_refl _
      intro w4 hown4 hg4
      have hB4 := made_blk hown4
      clear hown4
      have hBk4 := HB3.out.kept hg4 (by simp)
      have cG : w4.cell? ⟨w.heap.size, k, none⟩ = some zs := by
        rw [hBk4.cell k]
        have e := outCells_get (gs := gs) (ls := (us.take k).map (ofP md cells)) (n := us.length - k) (by rw [Hlm.out, Hgl.out]) (by omega)
        rw [Hgl.out] at e
        simpa using e
      have fG := hBk4.free k
      have hg45 : w4.grownBy (w4.setCell ⟨w.heap.size, k, none⟩ (.slice (some ⟨w3.heap.size, 0, none⟩) l.length l.length)) (some w.heap.size) := gr_set _ _ _ _
      have HB5 := hide (hB4.kept hg45 (by simp; omega))
      have HBG5 : Hid (Blk (w4.setCell ⟨w.heap.size, k, none⟩ (.slice (some ⟨w3.heap.size, 0, none⟩) l.length l.length)) w.heap.size 32 (outCells (gs ++ [w3.heap.size]) ((us.take (k + 1)).map (ofP md cells)) (us.length - (k + 1))).toArray) := by
        have e := hBk4.set k (own w3.heap.size l)
        have e2 := outCells_set (gs := gs) (ls := (us.take k).map (ofP md cells)) (n := us.length - (k + 1)) (g := w3.heap.size) (l := l) (by rw [Hlm.out, Hgl.out])
        rw [show us.length - (k + 1) + 1 = us.length - k by omega, Hgl.out, ← HTk.out] at e2
        have e3 : (outCells gs ((us.take k).map (ofP md cells)) (us.length - k)).toArray.setIfInBounds k (own w3.heap.size l) = ((outCells gs ((us.take k).map (ofP md cells)) (us.length - k)).set k (own w3.heap.size l)).toArray := by simp
        rw [e3, e2] at e
        exact e
      have hg5 : w.grownBy (w4.setCell ⟨w.heap.size, k, none⟩ (.slice (some ⟨w3.heap.size, 0, none⟩) l.length l.length)) none := gr_new (gr_trans HG3.out hg4) hg45 (Nat.le_refl _)
      have hk5 : wr.grownBy (w4.setCell ⟨w.heap.size, k, none⟩ (.slice (some ⟨w3.heap.size, 0, none⟩) l.length l.length)) (some w.heap.size) := gr_trans (gr_none (gr_trans Hg3.out hg4)) hg45
      have HR5 := hide (HRl.out.kept0 hg5)
      have HG5 := hide hg5
      have HK5 := hide hk5
      have hsz4 := hB4.lt
      clear hg45 hBk4 hB4 hg5 hk5 HRl HB3 hg4
      obtain ⟨a', c', e', hcell⟩ := HR5.out
      injection e' with e1 _ _
      subst e1
      obtain ⟨x0, hx0⟩ : ∃ x0, l[0]? = some x0 := ⟨_, List.getElem?_eq_getElem (by omega)⟩
      obtain ⟨ga, off, rfl, -, -⟩ := hcell 0 x0 hx0
      have Hsrc : Hid (∀ (j : Nat) v, (l.map (Value.int .i64))[j]? = some v → (w4.setCell ⟨w.heap.size, k, none⟩ (.slice (some ⟨w3.heap.size, 0, none⟩) l.length l.length)).cell? ((⟨ga, off, none⟩ : Addr).add j) = some v) := fun j v hv => by
        rw [List.getElem?_map] at hv
        obtain ⟨y, hy, rfl⟩ := Option.map_eq_some_iff.1 hv
        obtain ⟨g2, off2, e2, -, hc2⟩ := hcell j y hy
        simp only [Option.some.injEq, Addr.mk.injEq, and_true] at e2
        obtain ⟨rfl, rfl⟩ := e2
        have ea : (⟨ga, off, none⟩ : Addr).add j = ⟨ga, off + j, none⟩ := by unfold Addr.add; split <;> simp_all
        rw [ea]; exact hc2
      have Harr : Hid ((((List.replicate l.length (Value.int .i64 0)).toArray).toList.take 0 ++ (l.map (Value.int .i64) ++ ((List.replicate l.length (Value.int .i64 0)).toArray).toList.drop (0 + (l.map (Value.int .i64)).length))).toArray = (l.map (Value.int .i64)).toArray) := by
        unfold Hid; simp
      have hgR := gr_setRow (w4.setCell ⟨w.heap.size, k, none⟩ (.slice (some ⟨w3.heap.size, 0, none⟩) l.length l.length)) w3.heap.size (l.map (Value.int .i64)).toArray
      have HN6 := hide (setRow_blk HB5.out (l.map (Value.int .i64)).toArray)
      have HB6 := hide (HBG5.out.kept hgR (by simp; omega))
      have HG6 := hide (gr_new HG5.out hgR (by omega))
      have Hab6 : Hid (∀ g' ∈ gs ++ [w3.heap.size], w.heap.size < g' ∧ g' < ((w4.setCell ⟨w.heap.size, k, none⟩ (.slice (some ⟨w3.heap.size, 0, none⟩) l.length l.length)).setRow w3.heap.size (l.map (Value.int .i64)).toArray).heap.size) := fun g' hg' => by
        have e := hgR.size
        simp at e
        rcases List.mem_append.mp hg' with h' | h'
        · have := Hab.out g' h'
          have := HK5.out.size
          simp at this ⊢; omega
        · rw [List.mem_singleton.mp h']; simp; omega
      have Hsd6 : Hid ((gs ++ [w3.heap.size]).Pairwise (· < ·)) := List.pairwise_append.mpr ⟨Hsd.out, List.pairwise_singleton _ _, fun a ha b hb => by
        rw [List.mem_singleton.mp hb]; have := Hab.out a ha; omega⟩
      have Hbl6 : Hid (∀ (j : Nat) g' l', (gs ++ [w3.heap.size])[j]? = some g' → ((us.take (k + 1)).map (ofP md cells))[j]? = some l' → Blk ((w4.setCell ⟨w.heap.size, k, none⟩ (.slice (some ⟨w3.heap.size, 0, none⟩) l.length l.length)).setRow w3.heap.size (l.map (Value.int .i64)).toArray) g' 3 (l'.map (Value.int .i64)).toArray) := fun j g' l' hg' hl' => by
        rw [HTk.out] at hl'
        by_cases cj : j < k
        · rw [List.getElem?_append_left (by rw [Hgl.out]; exact cj)] at hg'
          rw [List.getElem?_append_left (by rw [Hlm.out]; exact cj)] at hl'
          have hb := Hab.out g' (List.mem_of_getElem? hg')
          exact ((Hbl.out j g' l' hg' hl').kept HK5.out (by simp; omega)).kept hgR (by simp; omega)
        · rw [List.getElem?_append_right (by rw [Hgl.out]; omega), Hgl.out] at hg'
          rw [List.getElem?_append_right (by rw [Hlm.out]; omega), Hlm.out] at hl'
          have ej : j - k = 0 := by
            rcases Nat.eq_zero_or_pos (j - k) with h' | h'
            · exact h'
            · rw [List.getElem?_eq_none (by simp; omega)] at hg'; exact absurd hg' (by simp)
          rw [ej] at hg' hl'
          simp at hg' hl'
          subst hg' hl'
          exact HN6.out
      clear hgR hcell hx0 HBG5 HN6
      go_wp2_with (refine wpList_copy_own rfl _ _ 32 32 rfl 3 Tryz.underlying32 (by rw [hj]; simp [hy1]) w3.heap.size 0 l.length l.length ⟨ga, off, none⟩ l.length cl rfl rfl (List.replicate l.length (Value.int .i64 0)).toArray 3 HB5.out (l.map (Value.int .i64)) (by simp) Hsrc.out (by simp) (by intro v hv; obtain ⟨q, -, rfl⟩ := List.mem_map.mp hv; rfl) ?_; rw [Harr.out])
      go_roundw
      case rel => exact ⟨k + 1, gs ++ [w3.heap.size], by omega, by go_num, by simp [Hgl.out], HB6.out, Hsd6.out, Hab6.out, Hbl6.out, HG6.out⟩
      case measure => simp [intOf]; omega
    · obtain rfl : k = us.length := by omega
      have HF : Hid (Fresh wr w.heap.size w.heap.size gs (us.map (ofP md cells))) := by
        rw [List.take_length, Nat.sub_self] at hBk
        have e := Hbl.out
        rw [List.take_length] at e
        exact ⟨by rw [hgl, List.length_map], by simpa [outCells] using hBk, Nat.le_refl _, Hsd.out, fun g' hg' => (Hab.out g' hg').1, e⟩
      clear hBk hgk
      go_wp2
      go_ret
      exact ⟨⟨w.heap.size, gs, rfl, HF.out⟩, HGk.out⟩

end Go.Proofs.YtcnhfffgbamonabGreat
