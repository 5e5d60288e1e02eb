import Derived.Test.YthfbllgbljimiaaOp7
import Derived.Test.YthfbllgbljimiaaCp1
import Derived.Laws.CopyOwn
/-
  Lists of lists; listed, areCells, takes.
-/
namespace Go.Proofs.Ythfbllgbljimiaa
open Go.RowKit

/-- A value that is a list of numbers. -/
def IsInts (w : World) (u : Value) (l : List Int) : Prop := ∃ ao n c, u = .slice ao n c ∧ Ints w 0 (.slice ao n c) l
theorem IsInts.kept0 {w w' : World} {u : Value} {l : List Int} (h : IsInts w u l) (hg : w.grownBy w' none) : IsInts w' u l := by
  obtain ⟨ao, n, c, e, h⟩ := h
  exact ⟨ao, n, c, e, h.kept0 hg⟩
theorem IsInts.nil (w : World) : IsInts w (.slice none 0 0) [] := ⟨none, 0, 0, rfl, Ints.nil _ _⟩

/-- A list of lists of numbers. -/
def Lists (w : World) (base : Nat) (v : Value) (ls : List (List Int)) : Prop :=
  ∃ vs : List Value, vs.length = ls.length ∧ w.ownsRow base 35 1 v ls.length vs ∧ ∀ (i : Nat) u l, vs[i]? = some u → ls[i]? = some l → IsInts w u l

theorem Lists.kept0 {w w' : World} {base : Nat} {v : Value} {ls : List (List Int)} (h : Lists w base v ls) (hg : w.grownBy w' none) : Lists w' base v ls := by
  obtain ⟨vs, h1, h2, h3⟩ := h
  exact ⟨vs, h1, owns_kept0 h2 hg, fun i u l hu hl => (h3 i u l hu hl).kept0 hg⟩
theorem Lists.mono {w : World} {base base' : Nat} {v : Value} {ls : List (List Int)} (h : Lists w base v ls) (hb : base' ≤ base) : Lists w base' v ls := by
  obtain ⟨vs, h1, h2, h3⟩ := h
  exact ⟨vs, h1, owns_mono h2 hb, h3⟩
theorem Lists.len {w : World} {base : Nat} {a : Option Addr} {n c : Nat} {ls : List (List Int)} (h : Lists w base (.slice a n c) ls) : n = ls.length := by
  obtain ⟨vs, h1, h2, h3⟩ := h
  obtain ⟨ao, c', e⟩ := owns_shape h2
  injection e with _ e _
theorem Lists.get {w : World} {base : Nat} {a : Option Addr} {n c : Nat} {ls : List (List Int)} (h : Lists w base (.slice a n c) ls) (i : Nat) (l : List Int) (hi : ls[i]? = some l) :
    ∃ g ao c', a = some ⟨g, 0, none⟩ ∧ base ≤ g ∧ w.cell? ⟨g, i, none⟩ = some (.slice ao l.length c') ∧ Ints w 0 (.slice ao l.length c') l := by
  obtain ⟨vs, h1, h2, h3⟩ := h
  have hlt : i < ls.length := by
    rcases Nat.lt_or_ge i ls.length with h' | h'
    · exact h'
    · simp [List.getElem?_eq_none h'] at hi
  obtain ⟨g, ha, hb, hn, hc⟩ := owns_some h2 (by omega)
  obtain ⟨u, hu⟩ : ∃ u, vs[i]? = some u := ⟨_, List.getElem?_eq_getElem (by omega)⟩
  obtain ⟨ao, m, c', e, hI⟩ := h3 i u l hu hi
  have hm := hI.len
  subst hm
  exact ⟨g, ao, c', ha, hb, by rw [hc i (by omega), hu, e], hI⟩

theorem cellsAt_no {E : List (List Int)} {n : Int} (h : n < 0 ∨ (E.length : Int) ≤ n) : D.cellsAt E n = [] := by
  unfold D.cellsAt
  by_cases c : n < 0
  · rw [if_pos c]
  · rw [if_neg c, List.getD, List.getElem?_eq_none (by omega)]; rfl
theorem cellsAt_yes {E : List (List Int)} {k : Nat} {l : List Int} (h : E[k]? = some l) : D.cellsAt E k = l := by
  unfold D.cellsAt
  rw [if_neg (by omega), Int.toNat_natCast, List.getD, h]; rfl

set_option maxHeartbeats 400000 in
theorem listed_c (a : Option Addr) (k c : Nat) (E : List (List Int)) (n : Int) (w : World) (h : Lists w 0 (.slice a k c) E) (_hl : E.length ≤ 255) :
    Calls Try.prog 48 #[.slice a k c, .int .i64 n] w fun e w' => (∃ ao c', e = .returned (.slice ao (D.cellsAt E n).length c') ∧ Ints w 0 (.slice ao (D.cellsAt E n).length c') (D.cellsAt E n)) ∧ w' = w := by
  obtain rfl := h.len
  by_cases hc : n < 0 ∨ (E.length : Int) ≤ n
  · have He := hide (cellsAt_no hc)
    clear h
    rcases hc with hc | hc
    · go_enter Try.func48, Try.ntmps48
      go_wp2
      go_ret
      exact ⟨⟨none, 0, by rw [He.out]; rfl, by rw [He.out]; exact Ints.nil _ _⟩, rfl⟩
    · by_cases hc0 : n < 0
      · omega
      · go_enter Try.func48, Try.ntmps48
        go_wp2
        go_ret
        exact ⟨⟨none, 0, by rw [He.out]; rfl, by rw [He.out]; exact Ints.nil _ _⟩, rfl⟩
  · obtain ⟨j, rfl⟩ := Int.eq_ofNat_of_zero_le (show 0 ≤ n by omega)
    have hj : j < E.length := by omega
    obtain ⟨l, hl⟩ : ∃ l, E[j]? = some l := ⟨_, List.getElem?_eq_getElem hj⟩
    obtain ⟨g, ao, c', rfl, -, d0, hI⟩ := h.get j l hl
    have He := hide (cellsAt_yes hl)
    have HI := hide hI
    clear h hl hI hc
    go_enter Try.func48, Try.ntmps48
    go_wp2
    go_ret
    exact ⟨⟨ao, c', by rw [He.out]; rfl, by rw [He.out]; exact HI.out⟩, rfl⟩

theorem cells_no {l : List Int} {k : Nat} {v : Int} (h : l[k]? = some v) (hv : D.isCell v = false) : l.all D.isCell = false := by
  rw [List.all_eq_false]
  exact ⟨v, List.mem_of_getElem? h, by rw [hv]; decide⟩
theorem cells_yes {l : List Int} (h : ∀ (j : Nat) v, l[j]? = some v → D.isCell v = true) : l.all D.isCell = true := by
  rw [List.all_eq_true]
  intro v hv
  obtain ⟨j, hj⟩ := List.getElem?_of_mem hv
  exact h j v hj

set_option maxHeartbeats 800000 in
theorem areCells_c (B : Nat) (a : Option Addr) (n c : Nat) (l : List Int) (w : World) (hI : Ints w B (.slice a n c) l) (hl : l.length ≤ 9223372036854775807) :
    Calls Try.prog 53 #[.slice a n c] w fun e w' => e = .returned (.bool (l.all D.isCell)) ∧ w' = w := by
  obtain rfl := hI.len
  go_enter Try.func53, Try.ntmps53
  go_wp2
  go_loopw [7] (fun i wr => ∃ k : Nat, k ≤ l.length ∧ i = .int .i64 k ∧ Hid (∀ (j : Nat) v, j < k → l[j]? = some v → D.isCell v = true) ∧ wr = w) (fun i _ => l.length - (intOf i).toNat)
  case atStart => exact ⟨0, Nat.zero_le _, rfl, fun j v hj => absurd hj (by omega), rfl⟩
  case round =>
    obtain ⟨k, hk, rfl, Hal, rfl⟩ := hrel
    by_cases hlt : k < l.length
    · obtain ⟨v, hv⟩ : ∃ v, l[k]? = some v := ⟨_, List.getElem?_eq_getElem hlt⟩
      obtain ⟨g, rfl, hgl, -, d0⟩ := hI.get k v hv
      have Hv := hide hv
      clear hv hI
      by_cases h1 : v < -128
      · have He := hide (cells_no Hv.out (by unfold D.isCell; rw [show decide (-128 ≤ v) = false from by simp; omega]; rfl))
        go_wp2
        go_ret
        exact ⟨ret_bool He.out.symm, rfl⟩
      · by_cases h2 : 127 < v
        · have He := hide (cells_no Hv.out (by unfold D.isCell; rw [show decide (v ≤ 127) = false from by simp; omega]; simp))
          go_wp2
          go_ret
          exact ⟨ret_bool He.out.symm, rfl⟩
        · have Hst : Hid (∀ (j : Nat) u, j < k + 1 → l[j]? = some u → D.isCell u = true) := fun j u hj hu => by
            rcases Nat.lt_or_ge j k with h' | h'
            · exact Hal.out j u h' hu
            · obtain rfl : j = k := by omega
              rw [Hv.out] at hu
              injection hu with hu
              subst hu
              unfold D.isCell
              simp; omega
          go_wp2
          go_roundw
          case rel => exact ⟨k + 1, by omega, by go_num, Hst.out, trivial⟩
          case measure => simp [intOf]; omega
    · obtain rfl : k = l.length := by omega
      have He := hide (cells_yes fun j v hv => Hal.out j v (by
        rcases Nat.lt_or_ge j l.length with h' | h'
        · exact h'
        · rw [List.getElem?_eq_none h'] at hv; exact absurd hv (by simp)) hv)
      clear hI
      go_wp2
      go_ret
      exact ⟨ret_bool He.out.symm, rfl⟩

theorem hold_len {md : M.Md} {ins : List (List Int)} (h : ins.length ≠ (lensOf md.tensors).length) : D.inputsHold md ins = false := by
  unfold D.inputsHold
  rw [show ((ins.map fun l => (l.length : Int)) == D.lengths md) = false from by
    rw [beq_eq_false_iff_ne]
    intro e
    have := congrArg List.length e
    rw [List.length_map] at this
    exact h this]
  rfl
theorem hold_no1 {md : M.Md} {ins : List (List Int)} {k : Nat} {l : List Int} {x : Int} (h : ins[k]? = some l) (hx : (lensOf md.tensors)[k]? = some x) (hne : (l.length : Int) ≠ x) : D.inputsHold md ins = false := by
  unfold D.inputsHold
  rw [show ((ins.map fun l => (l.length : Int)) == D.lengths md) = false from by
    rw [beq_eq_false_iff_ne]
    intro e
    have := congrArg (fun q => q[k]?) e
    simp only [List.getElem?_map, h] at this
    rw [show (D.lengths md)[k]? = some x from hx] at this
    injection this with this
    exact hne this]
  rfl
theorem hold_no2 {md : M.Md} {ins : List (List Int)} {k : Nat} {l : List Int} (h : ins[k]? = some l) (hne : l.all D.isCell = false) : D.inputsHold md ins = false := by
  unfold D.inputsHold
  rw [show (ins.all fun l => l.all D.isCell) = false from by
    rw [List.all_eq_false]
    exact ⟨l, List.mem_of_getElem? h, by rw [hne]; decide⟩]
  simp
theorem hold_yes {md : M.Md} {ins : List (List Int)} (hl : ins.length = (lensOf md.tensors).length) (h : ∀ (k : Nat) l x, ins[k]? = some l → (lensOf md.tensors)[k]? = some x → (l.length : Int) = x ∧ l.all D.isCell = true) : D.inputsHold md ins = true := by
  have key : ∀ (k : Nat) l, ins[k]? = some l → ∃ x, (lensOf md.tensors)[k]? = some x := by
    intro k l hk
    have hlt : k < ins.length := by
      rcases Nat.lt_or_ge k ins.length with h' | h'
      · exact h'
      · rw [List.getElem?_eq_none h'] at hk; exact absurd hk (by simp)
    exact ⟨_, List.getElem?_eq_getElem (by omega)⟩
  unfold D.inputsHold
  rw [Bool.and_eq_true, beq_iff_eq, List.all_eq_true]
  refine ⟨?_, fun l hm => ?_⟩
  · apply List.ext_getElem?
    intro k
    rw [List.getElem?_map]
    show _ = (lensOf md.tensors)[k]?
    cases hk : ins[k]? with
    | none =>
      have : ins.length ≤ k := List.getElem?_eq_none_iff.mp hk
      rw [List.getElem?_eq_none (by omega)]; rfl
    | some l =>
      obtain ⟨x, hx⟩ := key k l hk
      rw [hx, Option.map_some, (h k l x hk hx).1]
  · obtain ⟨k, hk⟩ := List.getElem?_of_mem hm
    obtain ⟨x, hx⟩ := key k l hk
    exact (h k l x hk hx).2

set_option maxHeartbeats 800000 in
theorem takes_c (p : Nat) (md : M.Md) (a : Option Addr) (n c : Nat) (ins : List (List Int)) (w : World) (hP : Pl w p md) (hI : Lists w 0 (.slice a n c) ins) (hl : ∀ l ∈ ins, l.length ≤ 9223372036854775807) (hn : ins.length ≤ 9223372036854775807) :
    Calls Try.prog 46 #[.pointer (some ⟨p, 0, none⟩), .slice a n c] w fun e w' => e = .returned (.bool (D.inputsHold md ins)) ∧ w' = w := by
  obtain rfl := hI.len
  obtain ⟨m, av, cv, hB, hL, -, hW⟩ := hP
  have hLn := lens_le md.tensors
  have hnt := hW.nt
  have d0 : w.cell? ⟨p, 1, none⟩ = some (.slice av (lensOf md.tensors).length cv) := hB.cell 1
  clear hB hW
  by_cases hc : ins.length = (lensOf md.tensors).length
  · have hb : ((ins.length : Int) != ((lensOf md.tensors).length : Int)) = false := by simp; omega
    have Hc := hide hc
    have Hl := hide hl
    clear hc hl
    go_enter Try.func46, Try.ntmps46
    go_wp2
    go_loopw [17] (fun i wr => ∃ k : Nat, k ≤ ins.length ∧ i = .int .i64 k ∧ Hid (∀ (j : Nat) l x, j < k → ins[j]? = some l → (lensOf md.tensors)[j]? = some x → (l.length : Int) = x ∧ l.all D.isCell = true) ∧ wr = w) (fun i _ => ins.length - (intOf i).toNat)
    case atStart => exact ⟨0, Nat.zero_le _, rfl, fun j l x hj => absurd hj (by omega), rfl⟩
    case round =>
      obtain ⟨k, hk, rfl, Hal, rfl⟩ := hrel
      by_cases hlt : k < ins.length
      · have hlt2 : k < (lensOf md.tensors).length := by rw [← Hc.out]; exact hlt
        obtain ⟨l, hv⟩ : ∃ l, ins[k]? = some l := ⟨_, List.getElem?_eq_getElem hlt⟩
        obtain ⟨x, hx⟩ : ∃ x, (lensOf md.tensors)[k]? = some x := ⟨_, List.getElem?_eq_getElem hlt2⟩
        obtain ⟨g, ao, c', rfl, -, d1, hIl⟩ := hI.get k l hv
        obtain ⟨g', rfl, -, -, d2⟩ := hL.get k x hx
        have hll := Hl.out l (List.mem_of_getElem? hv)
        have HIl := hide hIl
        have Hv := hide hv
        have Hx := hide hx
        clear hv hx hI hL hIl
        by_cases h1 : (l.length : Int) = x
        · have h1' : ((l.length : Int) != x) = false := by simp [h1]
          have H1 := hide h1
          clear h1
          go_wp2_with fail
          refine (areCells_c 0 ao l.length c' l _ HIl.out hll).mono ?_
          rintro e w2 ⟨rfl, rfl⟩
          cases h2 : l.all D.isCell with
          | false =>
            have He := hide (hold_no2 (md := md) Hv.out h2)
            go_wp2
            go_ret
            exact ⟨ret_bool He.out.symm, rfl⟩
          | true =>
            have Hst : Hid (∀ (j : Nat) u z, j < k + 1 → ins[j]? = some u → (lensOf md.tensors)[j]? = some z → (u.length : Int) = z ∧ u.all D.isCell = true) := fun j u z hj hu hz => by
              rcases Nat.lt_or_ge j k with h' | h'
              · exact Hal.out j u z h' hu hz
              · obtain rfl : j = k := by omega
                rw [Hv.out] at hu
                rw [Hx.out] at hz
                injection hu with hu
                injection hz with hz
                subst hu hz
                exact ⟨H1.out, h2⟩
            go_wp2
            go_roundw
            case rel => exact ⟨k + 1, by omega, by go_num, Hst.out, trivial⟩
            case measure => simp [intOf]; omega
        · have h1' : ((l.length : Int) != x) = true := by simp [h1]
          have He := hide (hold_no1 Hv.out Hx.out h1)
          clear h1
          go_wp2
          go_ret
          exact ⟨ret_bool He.out.symm, rfl⟩
      · obtain rfl : k = ins.length := by omega
        have He := hide (hold_yes Hc.out fun j l x hl hx => Hal.out j l x (by
          rcases Nat.lt_or_ge j ins.length with h' | h'
          · exact h'
          · rw [List.getElem?_eq_none h'] at hl; exact absurd hl (by simp)) hl hx)
        clear hI hL
        go_wp2
        go_ret
        exact ⟨ret_bool He.out.symm, rfl⟩
  · have hb : ((ins.length : Int) != ((lensOf md.tensors).length : Int)) = true := by simp; omega
    have He := hide (hold_len hc)
    clear hc hI hL
    go_enter Try.func46, Try.ntmps46
    go_wp2
    go_ret
    exact ⟨ret_bool He.out.symm, rfl⟩

end Go.Proofs.Ythfbllgbljimiaa

/-
  given: what each tensor has ahead of all operators.
-/
namespace Go.Proofs.Ythfbllgbljimiaa
open Go.RowKit

theorem Try.info35 : (Try.prog.info? 35).map (fun i => (i.zero, i.size, i.bytes)) = some (some (.slice none 0 0), 1, 24) := by kernel_rfl

theorem Ints.apart {w w' : World} {B G : Nat} {T : TypeId} {v : Value} {l : List Int} {cs : Array Value} (h : Ints w B v l) (hB : Blk w G T cs) (hT : T ≠ 3) (hg : w.grownBy w' (some G)) : Ints w' B v l := by
  refine World.ownsRow.kept h hg ?_
  cases hv : v.ownBlock with
  | none => exact .inl rfl
  | some g =>
    refine .inr ?_
    rintro e
    injection e with e
    subst e
    rcases h.2 with ⟨h1, -⟩ | ⟨g', cap, cur, h1, -, hh, -⟩
    · rw [h1] at hv; exact absurd hv (by simp [Value.ownBlock])
    · rw [h1] at hv
      simp only [Value.ownBlock] at hv
      injection hv with hv
      subst hv
      unfold Blk at hB
      rw [hh] at hB
      injection hB with hB
      injection hB with _ hB _
      exact hT hB.symm

theorem IsInts.apart {w w' : World} {G : Nat} {T : TypeId} {v : Value} {l : List Int} {cs : Array Value} (h : IsInts w v l) (hB : Blk w G T cs) (hT : T ≠ 3) (hg : w.grownBy w' (some G)) : IsInts w' v l := by
  obtain ⟨ao, n, c, e, h⟩ := h
  exact ⟨ao, n, c, e, h.apart hB hT hg⟩

/-- What a make of n lists lays. -/
theorem made_lists {w : World} {base g n : Nat} (h : w.ownsRow base 35 1 (.slice (some ⟨g, 0, none⟩) n n) n (madeCells #[Value.slice none 0 0] n).toList) : Blk w g 35 (List.replicate n (Value.slice none 0 0)).toArray := by
  rcases h.2 with ⟨h', _⟩ | ⟨g', cap', cur, h', _, hg, _, _, hz, ht⟩
  · simp at h'
  · simp only [Value.slice.injEq, Option.some.injEq, Addr.mk.injEq, and_true, true_and] at h'
    obtain ⟨rfl, rfl⟩ := h'
    unfold Blk
    rw [hg]
    have e : cur.toList = List.replicate n (Value.slice none 0 0) := by
      rw [List.take_of_length_le (by simp [hz])] at ht
      rw [ht]
      exact toList_madeCells_one _ _
    rw [← e]

/-- How many inputs are among the first k. -/
def cnt (ts : List M.Tn) (k : Nat) : Nat := (lensOf (ts.take k)).length
def givenAt (ts : List M.Tn) (ins : List (List Int)) (n : Nat) (t : M.Tn) : List Int := if t.kind = 0 then ins.getD (cnt ts n) [] else if t.kind = 1 then t.data else []

theorem given_at (ts : List M.Tn) : ∀ (ins : List (List Int)) (n : Nat) t, ts[n]? = some t → (O.given ts ins)[n]? = some (givenAt ts ins n t) := by
  induction ts with
  | nil => intro ins n t h; simp at h
  | cons u ts ih =>
    intro ins n t h
    unfold O.given
    cases n with
    | zero =>
      have : u = t := by simpa using h
      subst this
      have e0 : cnt (u :: ts) 0 = 0 := rfl
      unfold givenAt
      rw [e0]
      split
      · cases ins <;> rfl
      · split <;> rfl
    | succ n =>
      have h' : ts[n]? = some t := by simpa using h
      split
      · rename_i k0
        rw [List.getElem?_cons_succ, ih _ n t h']
        have e : cnt (u :: ts) (n + 1) = cnt ts n + 1 := by unfold cnt lensOf; simp [k0]
        unfold givenAt
        rw [e]
        congr 2
        cases ins <;> simp
      · rename_i k0
        have e : cnt (u :: ts) (n + 1) = cnt ts n := by unfold cnt lensOf; simp [k0]
        split
        · rw [List.getElem?_cons_succ, ih _ n t h']; unfold givenAt; rw [e]
        · rw [List.getElem?_cons_succ, ih _ n t h']; unfold givenAt; rw [e]

theorem cnt_in {ts : List M.Tn} {k : Nat} {t : M.Tn} (h : ts[k]? = some t) (hk : t.kind = 0) : cnt ts (k + 1) = cnt ts k + 1 := by
  unfold cnt; rw [lens_in h hk]; simp
theorem cnt_no {ts : List M.Tn} {k : Nat} {t : M.Tn} (h : ts[k]? = some t) (hk : ¬ t.kind = 0) : cnt ts (k + 1) = cnt ts k := by
  unfold cnt; rw [lens_no h hk]
theorem cnt_lt {ts : List M.Tn} {k : Nat} {t : M.Tn} (h : ts[k]? = some t) (hk : t.kind = 0) : cnt ts k < (lensOf ts).length := by
  have e : lensOf ts = lensOf (ts.take (k + 1)) ++ lensOf (ts.drop (k + 1)) := by
    unfold lensOf; rw [← List.map_append, ← List.filter_append, List.take_append_drop]
  have := cnt_in h hk
  rw [e, List.length_append]
  unfold cnt at *
  omega

set_option maxRecDepth 100000 in
set_option maxHeartbeats 1600000 in
theorem given_c (m : Nat) (md : M.Md) (a : Option Addr) (n c : Nat) (ins : List (List Int)) (w : World) (hM : Mod w m md) (hW : WfM md) (hI : Lists w 0 (.slice a n c) ins) (hl : ins.length = (lensOf md.tensors).length) :
    Calls Try.prog 47 #[.pointer (some ⟨m, 0, none⟩), .slice a n c] w fun e w' => ∃ G cs, e = .returned (.slice (some ⟨G, 0, none⟩) md.tensors.length md.tensors.length) ∧ w.heap.size ≤ G ∧ Blk w' G 35 cs ∧ cs.size = md.tensors.length ∧ (∀ (j : Nat) u l, cs[j]? = some u → (O.given md.tensors ins)[j]? = some l → IsInts w' u l) ∧ w.grownBy w' none := by
  obtain rfl := hI.len
  obtain ⟨i0, hi, hz0, hz1, hz2⟩ := info_parts Try.info35
  obtain ⟨a1, c1, a2, c2, a3, c3, hB, hT, hO, hU⟩ := hM
  have hnt := hW.nt
  have q0 : w.cell? ⟨m, 0, none⟩ = some (.slice a1 md.tensors.length c1) := hB.cell 0
  have hml := hB.lt
  have HLL := hide hl
  clear hB hO hU hW hl
  go_enter Try.func47, Try.ntmps47
  go_wp2_with (at_make; refine wpList_make_full _ rfl _ _ 41 rfl w.heap.size 35 i0 (.slice none 0 0) 1 Try.underlying41 hi hz0 hz1 _ _ _ _ md.tensors.length rfl rfl rfl rfl ?c1 ?c2 ?c3 ?_)
  case c1 => rw [hz2]; omega
  case c2 => unfold maxLen; omega
  case c3 => exact Nat.le_refl _
  intro w2 hown hg2
  have q2 : w2.cell? ⟨m, 0, none⟩ = some (.slice a1 md.tensors.length c1) := cell_kept hg2 q0
  have hB2 : Blk w2 w.heap.size 35 (madeCells #[Value.slice none 0 0] md.tensors.length) := by
    rcases hown.2 with ⟨h, -⟩ | ⟨g, cap, cur, h, -, hh, -, -, hz, ht⟩
    · injection h with h _ _; exact absurd h (by simp)
    · injection h with h1 h2 h3
      injection h1 with h1
      injection h1 with h1 _ _
      subst h1
      subst h3
      have e : cur = madeCells #[Value.slice none 0 0] md.tensors.length := by
        apply Array.toList_inj.1
        rw [Nat.mul_one] at ht hz
        rw [← List.take_of_length_le (i := md.tensors.length) (l := cur.toList) (by rw [Array.length_toList]; omega)]
        rw [ht]
      rw [← e]; exact hh
  have hL : (madeCells #[Value.slice none 0 0] md.tensors.length).toList = List.replicate md.tensors.length zs := toList_madeCells_one _ _
  have hZ : ∀ j, j < md.tensors.length → (madeCells #[Value.slice none 0 0] md.tensors.length)[j]? = some zs := by
    intro j hj
    rw [← Array.getElem?_toList, hL]
    simp [hj]
  have hZs : (madeCells #[Value.slice none 0 0] md.tensors.length).size = md.tensors.length := by
    rw [← Array.length_toList, hL]; simp
  clear hL
  clear hown
  generalize madeCells #[Value.slice none 0 0] md.tensors.length = cs0 at *
  have HZ := hide hZ
  clear hZ
  go_wp2
  go_loopw [6, 20] (fun ii i wr => ∃ (k : Nat) (cs : Array Value), k ≤ md.tensors.length ∧ i = .int .i64 k ∧ ii = .int .i64 (cnt md.tensors k : Nat) ∧ Blk wr w.heap.size 35 cs ∧ cs.size = md.tensors.length ∧ Hid (∀ (j : Nat) u l, j < k → cs[j]? = some u → (O.given md.tensors ins)[j]? = some l → IsInts w u l) ∧ Hid (∀ j, k ≤ j → j < md.tensors.length → cs[j]? = some zs) ∧ w.grownBy wr none) (fun _ i _ => md.tensors.length - (intOf i).toNat)
  case atStart => exact ⟨0, cs0, Nat.zero_le _, rfl, rfl, hB2, hZs, fun j u l hj => absurd hj (by omega), fun j _ hj => HZ.out j hj, hg2⟩
  case round =>
    obtain ⟨k, cs, hk, rfl, rfl, hBk, hsz, Hal, Hzs, hgk⟩ := hrel
    by_cases hlt : k < md.tensors.length
    · obtain ⟨t, ht⟩ : ∃ t, md.tensors[k]? = some t := ⟨_, List.getElem?_eq_getElem hlt⟩
      obtain ⟨g, ao, m', cp, rfl, -, -, hIt, f0, f1, f2, f3, f4, f5⟩ := hT.get k t ht
      have d0 := cell_kept hgk f0
      have d1 := cell_kept hgk f1
      have d2 := cell_kept hgk f2
      have d3 := cell_kept hgk f3
      have d4 := cell_kept hgk f4
      have d5 := cell_kept hgk f5
      have hgl : g < wr.heap.size := World.block_lt_of_cell? wr _ d0
      have hGl := hBk.lt
      have cG : wr.cell? ⟨w.heap.size, k, none⟩ = some zs := by rw [hBk.cell k]; exact Hzs.out k (Nat.le_refl _) hlt
      have fG := hBk.free k
      have HIt := hide hIt
      have Hg := hide (given_at md.tensors ins k t ht)
      have hcl : cnt md.tensors k ≤ 255 := by
        have := lens_le (md.tensors.take k); rw [List.length_take] at this; unfold cnt; omega
      have Ht := hide ht
      clear f0 f1 f2 f3 f4 f5 hIt ht q0 q2
      by_cases k1 : t.kind = 1
      · have b1 : (t.kind == 1) = true := by simp [k1]
        have b0 : (t.kind == 0) = false := by simp [k1]
        have HC := hide (cnt_no Ht.out (show ¬ t.kind = 0 by omega))
        have HB := hide ((hBk.set k (.slice ao m' cp)).alloc (.cells (tval t (.slice ao m' cp)) 72))
        have HG := hide (gr_trans (gr_new hgk (gr_set wr w.heap.size k (.slice ao m' cp)) (Nat.le_refl _)) (World.grownBy_alloc _ (.cells (tval t (.slice ao m' cp)) 72) none))
        have HA : Hid (∀ (j : Nat) u l, j < k + 1 → (cs.setIfInBounds k (.slice ao m' cp))[j]? = some u → (O.given md.tensors ins)[j]? = some l → IsInts w u l) := fun j u l hj hu hl => by
          rw [Array.getElem?_setIfInBounds] at hu
          by_cases e : k = j
          · subst e
            rw [if_pos rfl, if_pos (by omega)] at hu
            injection hu with hu
            subst hu
            rw [Hg.out] at hl
            injection hl with hl
            subst hl
            unfold givenAt
            rw [if_neg (by omega), if_pos k1]
            exact ⟨ao, m', cp, rfl, HIt.out.mono (Nat.zero_le _)⟩
          · rw [if_neg e] at hu
            exact Hal.out j u l (by omega) hu hl
        have HZ2 : Hid (∀ j, k + 1 ≤ j → j < md.tensors.length → (cs.setIfInBounds k (.slice ao m' cp))[j]? = some zs) := fun j hj hj2 => by
          rw [Array.getElem?_setIfInBounds, if_neg (by omega)]; exact Hzs.out j (by omega) hj2
        clear k1 hBk hgk Hal Hzs hT hI
        go_wp2
        go_roundw
        case rel => exact ⟨k + 1, cs.setIfInBounds k (.slice ao m' cp), by omega, by go_num, by rw [HC.out], HB.out, by simp [hsz], HA.out, HZ2.out, HG.out⟩
        case measure => simp [intOf]; omega
      · have b1 : (t.kind == 1) = false := by simp [k1]
        by_cases k0 : t.kind = 0
        · have b0 : (t.kind == 0) = true := by simp [k0]
          have HC := hide (cnt_in Ht.out k0)
          have hcn : cnt md.tensors k < ins.length := by rw [HLL.out]; exact cnt_lt Ht.out k0
          obtain ⟨l0, hl0⟩ : ∃ l0, ins[cnt md.tensors k]? = some l0 := ⟨_, List.getElem?_eq_getElem hcn⟩
          obtain ⟨gi, ai, ci, rfl, -, e0, hIi⟩ := hI.get _ l0 hl0
          have e1 := cell_kept hgk e0
          have hgil : gi < wr.heap.size := World.block_lt_of_cell? wr _ e1
          have hne : gi ≠ w.heap.size := by have := World.block_lt_of_cell? w _ e0; simp at this; omega
          have HIi := hide hIi
          have Hl0 := hide hl0
          have HB := hide ((hBk.set k (.slice ai l0.length ci)).alloc (.cells (tval t (.slice ao m' cp)) 72))
          have HG := hide (gr_trans (gr_new hgk (gr_set wr w.heap.size k (.slice ai l0.length ci)) (Nat.le_refl _)) (World.grownBy_alloc _ (.cells (tval t (.slice ao m' cp)) 72) none))
          have HA : Hid (∀ (j : Nat) u l, j < k + 1 → (cs.setIfInBounds k (.slice ai l0.length ci))[j]? = some u → (O.given md.tensors ins)[j]? = some l → IsInts w u l) := fun j u l hj hu hl => by
            rw [Array.getElem?_setIfInBounds] at hu
            by_cases e : k = j
            · subst e
              rw [if_pos rfl, if_pos (by omega)] at hu
              injection hu with hu
              subst hu
              rw [Hg.out] at hl
              injection hl with hl
              subst hl
              unfold givenAt
              rw [if_pos k0, List.getD, Hl0.out]
              exact ⟨ai, _, ci, rfl, HIi.out⟩
            · rw [if_neg e] at hu
              exact Hal.out j u l (by omega) hu hl
          have HZ2 : Hid (∀ j, k + 1 ≤ j → j < md.tensors.length → (cs.setIfInBounds k (.slice ai l0.length ci))[j]? = some zs) := fun j hj hj2 => by
            rw [Array.getElem?_setIfInBounds, if_neg (by omega)]; exact Hzs.out j (by omega) hj2
          clear k1 k0 hBk hgk Hal Hzs hT hI hl0 e0 hIi
          generalize cnt md.tensors k = ck at *
          have hci : (ck : Int) < (ins.length : Int) := by omega
          have hcb : decide ((ck : Int) < (ins.length : Int)) = true := decide_eq_true hci
          go_wp2
          go_roundw
          case rel => exact ⟨k + 1, cs.setIfInBounds k (.slice ai l0.length ci), by omega, by go_num, by rw [HC.out]; go_num, HB.out, by simp [hsz], HA.out, HZ2.out, HG.out⟩
          case measure => simp [intOf]; omega
        · have b0 : (t.kind == 0) = false := by simp [k0]
          have HC := hide (cnt_no Ht.out k0)
          have HB := hide (hBk.alloc (.cells (tval t (.slice ao m' cp)) 72))
          have HG := hide (gr_trans hgk (World.grownBy_alloc _ (.cells (tval t (.slice ao m' cp)) 72) none))
          have HA : Hid (∀ (j : Nat) u l, j < k + 1 → cs[j]? = some u → (O.given md.tensors ins)[j]? = some l → IsInts w u l) := fun j u l hj hu hl => by
            by_cases e : k = j
            · subst e
              rw [Hzs.out k (Nat.le_refl _) hlt] at hu
              injection hu with hu
              subst hu
              rw [Hg.out] at hl
              injection hl with hl
              subst hl
              unfold givenAt
              rw [if_neg k0, if_neg k1]
              exact IsInts.nil _
            · exact Hal.out j u l (by omega) hu hl
          have HZ2 : Hid (∀ j, k + 1 ≤ j → j < md.tensors.length → cs[j]? = some zs) := fun j hj hj2 => Hzs.out j (by omega) hj2
          clear k1 k0 hBk hgk Hal Hzs hT hI
          go_wp2
          go_roundw
          case rel => exact ⟨k + 1, cs, by omega, by go_num, by rw [HC.out], HB.out, hsz, HA.out, HZ2.out, HG.out⟩
          case measure => simp [intOf]; omega
    · obtain rfl : k = md.tensors.length := by omega
      have HA : Hid (∀ (j : Nat) u l, cs[j]? = some u → (O.given md.tensors ins)[j]? = some l → IsInts wr u l) := fun j u l hu hl =>
        (Hal.out j u l (by
          rcases Nat.lt_or_ge j cs.size with h' | h'
          · omega
          · rw [Array.getElem?_eq_none h'] at hu; exact absurd hu (by simp)) hu hl).kept0 hgk
      have HB := hide hBk
      have HG := hide hgk
      clear hT hI hBk hgk Hal Hzs
      go_wp2
      go_ret
      exact ⟨w.heap.size, cs, rfl, Nat.le_refl _, HB.out, hsz, HA.out, HG.out⟩

end Go.Proofs.Ythfbllgbljimiaa

/-
  answer; Run.
-/
namespace Go.Proofs.Ythfbllgbljimiaa
open Go.RowKit

set_option maxRecDepth 100000 in
set_option maxHeartbeats 1600000 in
theorem answer_c (m : Nat) (md : M.Md) (a : Option Addr) (n c : Nat) (E : List (List Int)) (w : World) (hM : Mod w m md) (hW : WfM md) (hI : Lists w 0 (.slice a n c) E) (hE : E.length ≤ 255) (hl : ∀ l ∈ E, l.length ≤ 512) :
    Calls Try.prog 50 #[.pointer (some ⟨m, 0, none⟩), .slice a n c] w fun e w' => ∃ g, e = .returned (.slice (some ⟨g, 0, none⟩) md.outs.length md.outs.length) ∧ Lists w' w.heap.size (.slice (some ⟨g, 0, none⟩) md.outs.length md.outs.length) (md.outs.map (D.cellsAt E)) ∧ w.grownBy w' none := by
  obtain rfl := hI.len
  obtain ⟨i0, hi, hz0, hz1, hz2⟩ := info_parts Try.info35
  obtain ⟨j0, hj, hy0, hy1, hy2⟩ := info_parts Try.info3
  obtain ⟨a1, c1, a2, c2, a3, c3, hB, hT, hO, hU⟩ := hM
  have hnt := hW.nu
  have q0 : w.cell? ⟨m, 2, none⟩ = some (.slice a3 md.outs.length c3) := hB.cell 2
  have hml := hB.lt
  clear hB hO hT hW
  go_enter Try.func50, Try.ntmps50
  go_wp2_with (at_make; refine wpList_make_full _ rfl _ _ 41 rfl w.heap.size 35 i0 (.slice none 0 0) 1 Try.underlying41 hi hz0 hz1 _ _ _ _ md.outs.length rfl rfl rfl rfl ?c1 ?c2 ?c3 ?_)
  case c1 => rw [hz2]; omega
  case c2 => unfold maxLen; omega
  case c3 => exact Nat.le_refl _
  intro w2 hown hg2
  have q2 : w2.cell? ⟨m, 2, none⟩ = some (.slice a3 md.outs.length c3) := cell_kept hg2 q0
  have hB2 := made_lists hown
  have HZ : Hid (∀ j, j < md.outs.length → ((List.replicate md.outs.length (Value.slice none 0 0)).toArray)[j]? = some zs) := fun j hj => by simp [hj]
  have hZs : ((List.replicate md.outs.length (Value.slice none 0 0)).toArray).size = md.outs.length := by simp
  clear hown
  generalize (List.replicate md.outs.length (Value.slice none 0 0)).toArray = cs0 at *
  have Hl := hide hl
  clear hl
  go_wp2
  go_loopw [20] (fun i wr => ∃ (k : Nat) (cs : Array Value), k ≤ md.outs.length ∧ i = .int .i64 k ∧ Blk wr w.heap.size 35 cs ∧ cs.size = md.outs.length ∧ Hid (∀ (j : Nat) u x, j < k → cs[j]? = some u → md.outs[j]? = some x → IsInts wr u (D.cellsAt E x)) ∧ Hid (∀ j, k ≤ j → j < md.outs.length → cs[j]? = some zs) ∧ w.grownBy wr none) (fun i _ => md.outs.length - (intOf i).toNat)
  case atStart => exact ⟨0, cs0, Nat.zero_le _, rfl, hB2, hZs, fun j u x hj => absurd hj (by omega), fun j _ hj => HZ.out j hj, hg2⟩
  case round =>
    clear q0 q2
    obtain ⟨k, cs, hk, rfl, hBk, hsz, Hal, Hzs, hgk⟩ := hrel
    by_cases hlt : k < md.outs.length
    · obtain ⟨x, hx⟩ : ∃ x, md.outs[k]? = some x := ⟨_, List.getElem?_eq_getElem hlt⟩
      obtain ⟨g, rfl, hgl, -, d0⟩ := (hU.kept0 hgk).get k x hx
      have Hx := hide hx
      clear hx
      have hGl := hBk.lt
      have hll : (D.cellsAt E x).length ≤ 512 := by
        unfold D.cellsAt
        split
        · simp
        · rw [List.getD]
          cases e : E[x.toNat]? with
          | none => simp
          | some l => exact Hl.out l (List.mem_of_getElem? e)
      go_wp2_with fail
      refine (listed_c a E.length c E x wr (hI.kept0 hgk) hE).mono ?_
      rintro e w3 ⟨⟨al, cl, rfl, hIl⟩, rfl⟩
      have HIl := hide hIl
      clear hIl
      obtain ⟨l, Hle⟩ : ∃ l, Hid (D.cellsAt E x = l) := ⟨_, rfl⟩
      rw [Hle.out] at hll HIl ⊢
      go_wp2_with (at_make; refine wpList_make_full _ rfl _ _ 35 rfl w3.heap.size 3 j0 (.int .i64 0) 1 Try.underlying35 hj hy0 hy1 _ _ _ _ l.length rfl rfl rfl rfl ?c1 ?c2 ?c3 ?_)
      case c1 => rw [hy2]; omega
      case c2 => unfold maxLen; omega
      case c3 => exact Nat.le_refl _
      intro w4 hown4 hg4
      have hB4 := made_blk hown4
      clear hown4
      have hBk4 := hBk.kept hg4 (by simp)
      have cG : w4.cell? ⟨w.heap.size, k, none⟩ = some zs := by rw [hBk4.cell k]; exact Hzs.out k (Nat.le_refl _) hlt
      have fG := hBk4.free k
      have hB5 := hB4.other (a := ⟨w.heap.size, k, none⟩) (by simp; omega) (.slice (some ⟨w3.heap.size, 0, none⟩) l.length l.length)
      have HB5 := hide hB5
      have HBG5 := hide (hBk4.set k (.slice (some ⟨w3.heap.size, 0, none⟩) l.length l.length))
      have hg5 := gr_trans (gr_none (row := some w.heap.size) hg4) (gr_set w4 w.heap.size k (.slice (some ⟨w3.heap.size, 0, none⟩) l.length l.length))
      have HI5 := hide ((HIl.out).apart hBk (by decide) hg5)
      have HG5 := hide hg5
      have HIs : Hid (∀ (j : Nat) u y w', j < k → cs[j]? = some u → md.outs[j]? = some y → w3.grownBy w' (some w.heap.size) → IsInts w' u (D.cellsAt E y)) := fun j u y w' hj hu hy hw => (Hal.out j u y hj hu hy).apart hBk (by decide) hw
      have HZ2 : Hid (∀ j, k + 1 ≤ j → j < md.outs.length → (cs.setIfInBounds k (.slice (some ⟨w3.heap.size, 0, none⟩) l.length l.length))[j]? = some zs) := fun j hj hj2 => by
        rw [Array.getElem?_setIfInBounds, if_neg (by omega)]; exact Hzs.out j (by omega) hj2
      have HGW := hide (gr_new hgk hg5 (Nat.le_refl _))
      have hkz : k < cs.size := by omega
      have HAdd : Hid (∀ w', w3.grownBy w' (some w.heap.size) → Ints w' 0 (.slice (some ⟨w3.heap.size, 0, none⟩) l.length l.length) l → ∀ (j : Nat) u y, j < k + 1 → (cs.setIfInBounds k (.slice (some ⟨w3.heap.size, 0, none⟩) l.length l.length))[j]? = some u → md.outs[j]? = some y → IsInts w' u (D.cellsAt E y)) := fun w' hw hn j u y hj hu hy => by
        rw [Array.getElem?_setIfInBounds] at hu
        by_cases e : k = j
        · subst e
          rw [if_pos rfl, if_pos hkz] at hu
          injection hu with hu
          subst hu
          rw [Hx.out] at hy
          injection hy with hy
          subst hy
          rw [Hle.out]
          exact ⟨_, _, _, rfl, hn⟩
        · rw [if_neg e] at hu
          exact HIs.out j u y w' (by omega) hu hy hw
      have hsz4 := hB4.lt
      clear hB5 hBk4 hg5 hB4 hBk Hal Hzs hg4 HIl
      by_cases h0 : l.length = 0
      · have HN : Hid (Ints (w4.setCell ⟨w.heap.size, k, none⟩ (.slice (some ⟨w3.heap.size, 0, none⟩) l.length l.length)) 0 (.slice (some ⟨w3.heap.size, 0, none⟩) l.length l.length) l) := by
          obtain rfl : l = [] := List.eq_nil_of_length_eq_zero h0
          exact Ints.of_blk (Nat.zero_le _) rfl (by unfold maxLen; decide) HB5.out
        have HA2 := hide (HAdd.out _ HG5.out HN.out)
        have HB2 := hide (show Blk _ w.heap.size 35 _ from HBG5.out)
        have H0 := hide h0
        clear h0
        go_wp2_with (refine wpList_copy_nothing rfl _ _ 35 35 rfl 3 Try.underlying35 (by rw [hj]; simp [hy1]) _ _ l.length l.length l.length cl rfl rfl (by simp [H0.out]) ?_)
        go_roundw
        case rel => exact ⟨k + 1, cs.setIfInBounds k (.slice (some ⟨w3.heap.size, 0, none⟩) l.length l.length), by omega, by go_num, HB2.out, by simp [hsz], HA2.out, HZ2.out, HGW.out⟩
        case measure => simp [intOf]; omega
      · obtain ⟨ga, rfl, -, -, hsrc⟩ := owns_some HI5.out (by omega)
        have Hsrc : Hid (∀ (j : Nat) v, (l.map (Value.int .i64))[j]? = some v → (w4.setCell ⟨w.heap.size, k, none⟩ (.slice (some ⟨w3.heap.size, 0, none⟩) l.length l.length)).cell? ((⟨ga, 0, none⟩ : Addr).add j) = some v) := fun j v hv => by
          rw [add_zero_addr, hsrc j (by
            have : j < (l.map (Value.int .i64)).length := by
              rcases Nat.lt_or_ge j (l.map (Value.int .i64)).length with h' | h'
              · exact h'
              · rw [List.getElem?_eq_none h'] at hv; exact absurd hv (by simp)
            rw [List.length_map] at this; omega)]
          exact hv
        have Harr := hide (show (((List.replicate l.length (Value.int .i64 0)).toArray.toList.take 0 ++ (l.map (Value.int .i64) ++ (List.replicate l.length (Value.int .i64 0)).toArray.toList.drop (0 + (l.map (Value.int .i64)).length))).toArray) = (l.map (Value.int .i64)).toArray by simp)
        have HN := hide (Ints.of_blk (base := 0) (xs := l) (Nat.zero_le _) rfl (by unfold maxLen; omega) (setRow_blk HB5.out (l.map (Value.int .i64)).toArray))
        have hgR := gr_setRow (w4.setCell ⟨w.heap.size, k, none⟩ (.slice (some ⟨w3.heap.size, 0, none⟩) l.length l.length)) w3.heap.size (l.map (Value.int .i64)).toArray
        have hg6 := gr_new HG5.out hgR (Nat.le_refl _)
        have HA2 := hide (HAdd.out _ hg6 HN.out)
        have HB2 := hide (HBG5.out.kept hgR (by simp; omega))
        have HG6 := hide (gr_new HGW.out hgR (by omega))
        have H0 := hide h0
        clear h0 hsrc hgR hg6
        go_wp2_with (refine wpList_copy_own rfl _ _ 35 35 rfl 3 Try.underlying35 (by rw [hj]; simp [hy1]) w3.heap.size 0 l.length l.length ⟨ga, 0, none⟩ l.length cl rfl rfl (List.replicate l.length (Value.int .i64 0)).toArray 3 HB5.out (l.map (Value.int .i64)) (by simp) Hsrc.out (by simp) (by intro v hv; obtain ⟨q, -, rfl⟩ := List.mem_map.mp hv; rfl) ?_; rw [Harr.out])
        go_roundw
        case rel => exact ⟨k + 1, cs.setIfInBounds k (.slice (some ⟨w3.heap.size, 0, none⟩) l.length l.length), by omega, by go_num, HB2.out, by simp [hsz], HA2.out, HZ2.out, HG6.out⟩
        case measure => simp [intOf]; omega
    · obtain rfl : k = md.outs.length := by omega
      have HL : Hid (Lists wr w.heap.size (.slice (some ⟨w.heap.size, 0, none⟩) md.outs.length md.outs.length) (md.outs.map (D.cellsAt E))) := by
        refine ⟨cs.toList, by simp [hsz], ?_, fun j u y hu hy => ?_⟩
        · rw [List.length_map]
          exact ⟨by simp [hsz], .inr ⟨w.heap.size, md.outs.length, cs, rfl, Nat.le_refl _, hBk, Nat.le_refl _, by unfold maxLen; omega, by omega, by rw [List.take_of_length_le (by simp [hsz])]⟩⟩
        · rw [Array.getElem?_toList] at hu
          rw [List.getElem?_map] at hy
          obtain ⟨x, hx, rfl⟩ := Option.map_eq_some_iff.1 hy
          refine Hal.out j u x ?_ hu hx
          rcases Nat.lt_or_ge j cs.size with h' | h'
          · omega
          · rw [Array.getElem?_eq_none h'] at hu; exact absurd hu (by simp)
      have HG := hide hgk
      clear hBk hgk Hal Hzs hI hU
      go_wp2
      go_ret
      exact ⟨w.heap.size, rfl, HL.out, HG.out⟩

end Go.Proofs.Ythfbllgbljimiaa
