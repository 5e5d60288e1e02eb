/-
  The laws' dice, and what compares two lists: seeded, under, cells, same. (They are the laws' own: no code of the project is in them.)
-/
import Derived.Test.YtcnhfffgbamonaaGreatCkA
import Derived.Test.YtcnhfffgbamonaaGreatSa1
namespace Go.Proofs.YtcnhfffgbamonaaGreat
open Go.RowKit

/-- Block b is a die at x. -/
def Die (w : World) (b : Nat) (x : Int) : Prop := Blk w b 154 #[.int .i64 x]

def dnext (x : Int) : Int := (x * 1103515245 + 12345) % 2147483648
theorem dnext_range (x : Int) : 0 ≤ dnext x ∧ dnext x < 2147483648 := ⟨Int.emod_nonneg _ (by decide), Int.emod_lt_of_pos _ (by decide)⟩
def dunder (x n : Int) : Int := dnext x / 256 % n

set_option maxRecDepth 100000 in
set_option maxHeartbeats 400000 in
theorem under_c (b : Nat) (x n : Int) (w : World) (hD : Die w b x) (h0 : 0 ≤ x) (h1 : x < 2147483648) (n0 : 1 ≤ n) (n1 : n ≤ 1099511627776) :
    Calls Tryz.prog 60 #[.pointer (some ⟨b, 0, none⟩), .int .i64 n] w fun e w' => e = .returned (.int .i64 (dunder x n)) ∧ Die w' b (dnext x) ∧ w.grownBy w' (some b) := by
  have c0 : w.cell? ⟨b, 0, none⟩ = some (.int .i64 x) := Blk.cell hD 0
  have f0 := Blk.free hD 0
  have hm : 0 ≤ x * 1103515245 ∧ x * 1103515245 ≤ 2369780942852710740 := by omega
  obtain ⟨m0, m1⟩ := hm
  have HD := hide hD
  clear hD
  go_enter Tryz.func60, Tryz.ntmps60
  go_wp2
  go_ret
  exact ⟨rfl, Blk.set HD.out 0 _, gr_set _ _ _ _⟩

set_option maxHeartbeats 400000 in
theorem seeded_c (a : Int) (w : World) (ha : -9223372036854775808 ≤ a) (hb : a ≤ 9223372036854775807) :
    Calls Tryz.prog 43 #[.int .i64 a] w fun e w' => e = .returned (.pointer (some ⟨w.heap.size, 0, none⟩)) ∧ Die w' w.heap.size (pickOf a 2147483648) ∧ w.grownBy w' none := by
  go_enter Tryz.func43, Tryz.ntmps43
  go_wp2_with fail
  refine (pick_c a 2147483648 w ha hb (by decide) (by decide)).mono ?_
  rintro e w1 ⟨rfl, hw1⟩
  rw [hw1]
  clear hw1 ha hb
  go_wp2
  go_ret
  exact ⟨rfl, Blk.new w _ _, World.grownBy_alloc _ _ _⟩

/-- n cells of a die; where it stands behind them. -/
def dcells : Nat → Int → List Int × Int
  | 0, x => ([], x)
  | k + 1, x => ((dcells k x).1 ++ [dunder (dcells k x).2 256 - 128], dnext (dcells k x).2)
theorem dcells_len (k : Nat) (x : Int) : (dcells k x).1.length = k := by
  induction k with
  | zero => rfl
  | succ k ih => simp [dcells, ih]
theorem dcells_range (k : Nat) (x : Int) (h0 : 0 ≤ x) (h1 : x < 2147483648) : 0 ≤ (dcells k x).2 ∧ (dcells k x).2 < 2147483648 := by
  cases k with
  | zero => exact ⟨h0, h1⟩
  | succ k => exact dnext_range _
theorem dunder_range (x : Int) : 0 ≤ dunder x 256 ∧ dunder x 256 ≤ 255 := by
  unfold dunder
  exact ⟨Int.emod_nonneg _ (by decide), Int.le_of_lt_add_one (Int.emod_lt_of_pos _ (by decide))⟩

/-- A row of n numbers, the first of which are l. -/
def fillA (n : Nat) (l : List Int) : Array Value := ((l ++ List.replicate (n - l.length) 0).map (Value.int .i64)).toArray
theorem fill_set {n : Nat} {l : List Int} (h : l.length < n) (x : Int) : (fillA n l).setIfInBounds l.length (.int .i64 x) = fillA n (l ++ [x]) := by
  have e : n - l.length = (n - (l ++ [x]).length) + 1 := by rw [List.length_append]; simp; omega
  unfold fillA
  rw [e, List.replicate_succ]
  apply Array.toList_inj.1
  rw [Array.toList_setIfInBounds]
  simp only [List.map_append, List.map_cons, List.map_nil, List.append_assoc]
  rw [List.set_append_right _ _ (by simp)]
  simp
theorem fill_get {n : Nat} {l : List Int} (h : l.length ≤ n) (j : Nat) (hj : j < n) : ∃ x, (fillA n l)[j]? = some (.int .i64 x) := by
  have hz : (fillA n l).size = n := by simp [fillA]; omega
  rw [Array.getElem?_eq_getElem (by omega)]
  unfold fillA
  rw [List.getElem_toArray, List.getElem_map]
  exact ⟨_, rfl⟩

set_option maxHeartbeats 800000 in
theorem dcells_c (b : Nat) (x : Int) (n : Nat) (w : World) (hD : Die w b x) (h0 : 0 ≤ x) (h1 : x < 2147483648) (hn : n ≤ 16777216) :
    Calls Tryz.prog 49 #[.pointer (some ⟨b, 0, none⟩), .int .i64 n] w fun e w' => e = .returned (.slice (some ⟨w.heap.size, 0, none⟩) n n) ∧ Ints w' w.heap.size (.slice (some ⟨w.heap.size, 0, none⟩) n n) (dcells n x).1 ∧ Die w' b (dcells n x).2 ∧ w.grownBy w' (some b) := by
  obtain ⟨i0, hi, hz0, hz1, hz2⟩ := info_parts Tryz.info3
  have hbl : b < w.heap.size := Blk.lt hD
  go_enter Tryz.func49, Tryz.ntmps49
  go_wp2_with (at_make; refine wpList_make_full _ rfl _ _ 33 rfl w.heap.size 3 i0 (.int .i64 0) 1 Tryz.underlying33 hi hz0 hz1 _ _ _ _ n rfl rfl rfl rfl ?c1 ?c2 ?c3 ?_)
  case c1 => rw [hz2]; omega
  case c2 => unfold maxLen; omega
  case c3 => exact Nat.le_refl _
  intro w2 hown hg2
  have hB2 := made_blk hown
  have e0 : (List.replicate n (Value.int .i64 0)).toArray = fillA n [] := by simp [fillA]
  rw [e0] at hB2
  have hD2 : Die w2 b x := Blk.kept hD hg2 (by simp)
  clear hown e0
  go_wp2
  go_loopw [6] (fun i wr => ∃ k : Nat, k ≤ n ∧ i = .int .i64 k ∧ Die wr b (dcells k x).2 ∧ Blk wr w.heap.size 3 (fillA n (dcells k x).1) ∧ w.grownBy wr (some b)) (fun i _ => n - (intOf i).toNat)
  case atStart => exact ⟨0, Nat.zero_le _, rfl, hD2, hB2, gr_none hg2⟩
  case round =>
    obtain ⟨k, hk, rfl, hDk, hBk, hgk⟩ := hrel
    have hr := dcells_range k x h0 h1
    have hl := dcells_len k x
    by_cases hlt : k < n
    · have hu := dunder_range (dcells k x).2
      have hs : dcells (k + 1) x = ((dcells k x).1 ++ [dunder (dcells k x).2 256 - 128], dnext (dcells k x).2) := rfl
      have Hs := hide hs
      clear hs
      generalize (dcells k x).1 = l at *
      generalize (dcells k x).2 = y at *
      obtain ⟨y0, y1⟩ := hr
      obtain ⟨u0, u1⟩ := hu
      subst hl
      go_wp2_with fail
      refine (under_c b y 256 _ hDk y0 y1 (by decide) (by decide)).mono ?_
      rintro e w3 ⟨rfl, hD3, hg3⟩
      have hB3 : Blk w3 w.heap.size 3 (fillA n l) := hBk.kept hg3 (by simp; omega)
      obtain ⟨z, hz⟩ := fill_get hk l.length hlt
      have hc := hB3.cell l.length
      rw [hz] at hc
      have hf := hB3.free l.length
      have HB := hide (hB3.set l.length (.int .i64 (dunder y 256 - 128)))
      rw [fill_set hlt] at HB
      have HD := hide (Blk.other hD3 (show b ≠ (⟨w.heap.size, l.length, none⟩ : Addr).block by simp; omega) (.int .i64 (dunder y 256 - 128)))
      have HG := hide (gr_new (gr_trans hgk hg3) (gr_set w3 w.heap.size l.length (.int .i64 (dunder y 256 - 128))) (Nat.le_refl _))
      clear hB3 hD3 hg3 hgk hBk hDk hz
      generalize dunder y 256 = q at *
      go_wp2
      go_roundw
      case rel =>
        refine ⟨l.length + 1, by omega, by go_num, ?_, ?_, HG.out⟩
        · rw [Hs.out]; exact HD.out
        · rw [Hs.out]; exact HB.out
      case measure => simp [intOf]; omega
    · obtain rfl : k = n := by omega
      have HI := hide (show Ints wr w.heap.size (.slice (some ⟨w.heap.size, 0, none⟩) k k) (dcells k x).1 from Ints.of_blk (Nat.le_refl _) hl (by unfold maxLen; omega) (by have e := hBk; unfold fillA at e; rw [hl, Nat.sub_self, List.replicate_zero, List.append_nil] at e; exact e))
      clear hBk hl hr
      go_wp2
      go_ret
      exact ⟨rfl, HI.out, hDk, hgk⟩

theorem same_no {xs ys : List Int} {k : Nat} {x y : Int} (hx : xs[k]? = some x) (hy : ys[k]? = some y) (h : x ≠ y) : decide (xs = ys) = false := by
  rw [decide_eq_false]
  intro e
  rw [e, hy] at hx
  injection hx with hx
  exact h hx.symm
theorem same_yes {xs ys : List Int} (hl : xs.length = ys.length) (h : ∀ j, j < xs.length → xs[j]? = ys[j]?) : decide (xs = ys) = true := by
  rw [decide_eq_true]
  apply List.ext_getElem?
  intro j
  rcases Nat.lt_or_ge j xs.length with h' | h'
  · exact h j h'
  · rw [List.getElem?_eq_none h', List.getElem?_eq_none (by omega)]

set_option maxHeartbeats 800000 in
theorem same_c (B B' : Nat) (a a' : Option Addr) (n c n' c' : Nat) (xs ys : List Int) (w : World) (hX : Ints w B (.slice a n c) xs) (hY : Ints w B' (.slice a' n' c') ys) (hl : xs.length ≤ 1000000) (_hl' : ys.length ≤ 1000000) :
    Calls Tryz.prog 57 #[.slice a n c, .slice a' n' c'] w fun e w' => e = .returned (.bool (decide (xs = ys))) ∧ w.grownBy w' none := by
  have hn := hX.len
  have hn' := hY.len
  subst hn
  subst hn'
  by_cases hne : xs.length = ys.length
  · have hb : ((xs.length : Int) != (ys.length : Int)) = false := by simp; omega
    have Hne := hide hne
    clear hne
    go_enter Tryz.func57, Tryz.ntmps57
    go_wp2
    go_loopw [5] (fun i wr => ∃ k : Nat, k ≤ xs.length ∧ i = .int .i64 k ∧ (∀ j, j < k → xs[j]? = ys[j]?) ∧ w.grownBy wr none) (fun i _ => xs.length - (intOf i).toNat)
    case atStart => exact ⟨0, Nat.zero_le _, rfl, fun j hj => by omega, World.grownBy.refl _ _⟩
    case round =>
      obtain ⟨k, hk, rfl, hal, hgk⟩ := hrel
      have Hal := hide hal
      clear hal
      by_cases hlt : k < xs.length
      · have hlt' : k < ys.length := by rw [← Hne.out]; exact hlt
        obtain ⟨x, hx⟩ : ∃ x, xs[k]? = some x := ⟨_, List.getElem?_eq_getElem hlt⟩
        obtain ⟨y, hy⟩ : ∃ y, ys[k]? = some y := ⟨_, List.getElem?_eq_getElem hlt'⟩
        obtain ⟨g, rfl, hgl, -, d0⟩ := (hX.kept0 hgk).get k x hx
        obtain ⟨g', rfl, hgl', -, d1⟩ := (hY.kept0 hgk).get k y hy
        have Hx := hide hx
        have Hy := hide hy
        clear hx hy hX hY
        cases hxy : (x != y) with
        | true =>
          have He := hide (same_no Hx.out Hy.out (by simpa using hxy))
          go_wp2
          go_quiet (fail)
          go_wp2
          go_ret
          exact ⟨ret_bool He.out.symm, gr_trans hgk (gr_drewN _ _ _)⟩
        | false =>
          have Hst := hide (show ∀ j, j < k + 1 → xs[j]? = ys[j]? from fun j hj => by
            rcases Nat.lt_or_ge j k with h' | h'
            · exact Hal.out j h'
            · obtain rfl : j = k := by omega
              have e : x = y := by simpa using hxy
              rw [Hx.out, Hy.out, e])
          go_wp2
          go_quiet (fail)
          go_wp2
          go_roundw
          case rel => exact ⟨k + 1, by omega, by go_num, Hst.out, gr_trans hgk (gr_drewN _ _ _)⟩
          case measure => simp [intOf]; omega
      · obtain rfl : k = xs.length := by omega
        have He := hide (same_yes Hne.out Hal.out)
        clear hX hY
        go_wp2
        go_ret
        exact ⟨ret_bool He.out.symm, hgk⟩
  · have hb : ((xs.length : Int) != (ys.length : Int)) = true := by simp; omega
    have He := hide (show decide (xs = ys) = false from by rw [decide_eq_false]; intro e; exact hne (by rw [e]))
    clear hne hX hY
    go_enter Tryz.func57, Tryz.ntmps57
    go_wp2
    go_ret
    exact ⟨ret_bool He.out.symm, World.grownBy.refl _ _⟩

end Go.Proofs.YtcnhfffgbamonaaGreat
