import Derived.Test.YtcnhfffgbamonaaGreatPlA
import Derived.Test.YtcnhfffgbamonaaGreatCk12
/-
  The operators' numbers: within, held, nearest, scaled, begin; a grid's cells: nth, at.
-/
namespace Go.Proofs.YtcnhfffgbamonaaGreat
open Go.RowKit

set_option maxHeartbeats 400000 in
theorem owithin_c (x lo hi : Int) (w : World) : Calls Tryz.prog 180 #[.int .i64 x, .int .i64 lo, .int .i64 hi] w fun e w' => e = .returned (.int .i64 (R.between x lo hi)) ∧ w' = w := by
  by_cases h1 : x < lo
  · have He := hide (show R.between x lo hi = lo by unfold R.between; rw [if_pos h1])
    go_enter Tryz.func180, Tryz.ntmps180
    go_wp2
    go_ret
    exact ⟨ret_int He.out.symm, rfl⟩
  · by_cases h2 : hi < x
    · have He := hide (show R.between x lo hi = hi by unfold R.between; rw [if_neg h1, if_pos h2])
      go_enter Tryz.func180, Tryz.ntmps180
      go_wp2
      go_ret
      exact ⟨ret_int He.out.symm, rfl⟩
    · have He := hide (show R.between x lo hi = x by unfold R.between; rw [if_neg h1, if_neg h2])
      go_enter Tryz.func180, Tryz.ntmps180
      go_wp2
      go_ret
      exact ⟨ret_int He.out.symm, rfl⟩

set_option maxHeartbeats 400000 in
theorem oheld_c (x : Int) (w : World) : Calls Tryz.prog 178 #[.int .i64 x] w fun e w' => e = .returned (.int .i64 (O.held x)) ∧ w' = w := by
  go_enter Tryz.func178, Tryz.ntmps178
  go_wp2_with fail
  refine (owithin_c x (-2147483648) 2147483647 _).mono ?_
  rintro e w1 ⟨rfl, rfl⟩
  go_wp2
  go_ret
  exact ⟨rfl, rfl⟩

set_option maxHeartbeats 400000 in
theorem onearest_c (x n : Int) (w : World) (x0 : -4611686018427387904 ≤ x) (x1 : x ≤ 4611686018427387904) (n1 : n ≤ 4611686018427387904) :
    Calls Tryz.prog 179 #[.int .i64 x, .int .i64 n] w fun e w' => e = .returned (.int .i64 (O.nearest x n)) ∧ w' = w := by
  by_cases h0 : n < 1
  · have He := hide (show O.nearest x n = x by unfold O.nearest; rw [if_pos h0])
    go_enter Tryz.func179, Tryz.ntmps179
    go_wp2
    go_ret
    exact ⟨ret_int He.out.symm, rfl⟩
  · have hd : Int.tdiv n 2 = n / 2 := Int.tdiv_eq_ediv_of_nonneg (by omega)
    have d0 : 0 ≤ n / 2 ∧ n / 2 ≤ 2305843009213693952 := by omega
    by_cases h1 : x < 0
    · have hq : Int.tdiv (-x + n / 2) n = (-x + n / 2) / n := Int.tdiv_eq_ediv_of_nonneg (by omega)
      have q0 : 0 ≤ (-x + n / 2) / n := Int.ediv_nonneg (by omega) (by omega)
      have q1 : (-x + n / 2) / n ≤ -x + n / 2 := Int.ediv_le_self _ (by omega)
      have He := hide (show O.nearest x n = -((-x + n / 2) / n) by unfold O.nearest; rw [if_neg h0, if_pos h1])
      go_enter Tryz.func179, Tryz.ntmps179
      go_wp2
      go_ret
      exact ⟨ret_int He.out.symm, rfl⟩
    · have hq : Int.tdiv (x + n / 2) n = (x + n / 2) / n := Int.tdiv_eq_ediv_of_nonneg (by omega)
      have q0 : 0 ≤ (x + n / 2) / n := Int.ediv_nonneg (by omega) (by omega)
      have q1 : (x + n / 2) / n ≤ x + n / 2 := Int.ediv_le_self _ (by omega)
      have He := hide (show O.nearest x n = (x + n / 2) / n by unfold O.nearest; rw [if_neg h0, if_neg h1])
      go_enter Tryz.func179, Tryz.ntmps179
      go_wp2
      go_ret
      exact ⟨ret_int He.out.symm, rfl⟩

set_option maxHeartbeats 400000 in
theorem obegin_c (window windows n length stride : Int) (w : World) (a0 : 0 ≤ window) (a1 : window ≤ 255) (b0 : 0 ≤ windows) (b1 : windows ≤ 255) (n0 : 0 ≤ n) (n1 : n ≤ 255) (l0 : 0 ≤ length) (l1 : length ≤ 255) (s0 : 0 ≤ stride) (s1 : stride ≤ 255) :
    Calls Tryz.prog 175 #[.int .i64 window, .int .i64 windows, .int .i64 n, .int .i64 length, .int .i64 stride] w fun e w' => e = .returned (.int .i64 (O.begin_ window windows n length stride)) ∧ w' = w := by
  have m1 := O.mul_abs (a := windows - 1) (b := stride) (A := 255) (B := 255) (by omega) (by omega)
  have m2 := O.mul_abs (a := window) (b := stride) (A := 255) (B := 255) (by omega) (by omega)
  by_cases h : (windows - 1) * stride + n - length < 0
  · have He := hide (show O.begin_ window windows n length stride = window * stride by unfold O.begin_; rw [if_pos h]; omega)
    go_enter Tryz.func175, Tryz.ntmps175
    go_wp2
    go_ret
    exact ⟨ret_int He.out.symm, rfl⟩
  · have hd : Int.tdiv ((windows - 1) * stride + n - length) 2 = ((windows - 1) * stride + n - length) / 2 := Int.tdiv_eq_ediv_of_nonneg (by omega)
    have He := hide (show O.begin_ window windows n length stride = window * stride - ((windows - 1) * stride + n - length) / 2 by unfold O.begin_; rw [if_neg h])
    go_enter Tryz.func175, Tryz.ntmps175
    go_wp2
    go_ret
    exact ⟨ret_int He.out.symm, rfl⟩

theorem sh_pos {x s : Int} (hx : -2147483648 ≤ x ∧ x ≤ 2147483647) (hs : s ≤ 30) : -4611686018427387904 ≤ x * 2 ^ s.toNat ∧ x * 2 ^ s.toNat ≤ 4611686018427387904 := by
  have hp := O.pow_range (k := s.toNat) (K := 30) (by omega)
  rw [show (2 : Int) ^ 30 = 1073741824 from by decide] at hp
  have := O.mul_abs (a := x) (b := 2 ^ s.toNat) (A := 2147483648) (B := 1073741824) (by omega) (by omega)
  omega

set_option maxHeartbeats 400000 in
theorem oscaled_c (x : Int) (c : M.Sc) (w : World) (hx : -2147483648 ≤ x ∧ x ≤ 2147483647) (m0 : 1073741824 ≤ c.mult) (m1 : c.mult ≤ 2147483647) (s0 : -31 ≤ c.shift) (s1 : c.shift ≤ 30) :
    Calls Tryz.prog 192 #[.int .i64 x, .agg #[.int .i64 c.mult, .int .i64 c.shift]] w fun e w' => e = .returned (.int .i64 (O.scaled x c)) ∧ w.grownBy w' none := by
  obtain ⟨mu, sh⟩ := c
  simp only at m0 m1 s0 s1 ⊢
  obtain ⟨x0, x1⟩ := hx
  by_cases hp : 0 < sh
  · have hr := O.held_range (x * 2 ^ sh.toNat)
    have hm := O.mul_abs (a := O.held (x * 2 ^ sh.toNat)) (b := mu) (A := 2147483648) (B := 2147483647) (by omega) (by omega)
    have hx2 := sh_pos ⟨x0, x1⟩ s1
    have He := hide (show O.scaled x ⟨mu, sh⟩ = O.held ((O.held (x * 2 ^ sh.toNat) * mu + 1073741824) / 2147483648) by
      unfold O.scaled O.high O.raised; rw [if_neg (show ¬ sh < 0 by omega), if_pos hp])
    go_enter Tryz.func192, Tryz.ntmps192
    go_wp2_with fail
    refine (oheld_c (x * 2 ^ sh.toNat) _).mono ?_
    rintro e w1 ⟨rfl, rfl⟩
    clear hx2
    generalize O.held (x * 2 ^ sh.toNat) = r at *
    go_wp2_with fail
    refine (oheld_c ((r * mu + 1073741824) / 2147483648) _).mono ?_
    rintro e w1 ⟨rfl, rfl⟩
    go_wp2
    go_ret
    exact ⟨ret_int He.out.symm, World.grownBy_alloc _ _ _⟩
  · have hm := O.mul_abs (a := x) (b := mu) (A := 2147483648) (B := 2147483647) (by omega) (by omega)
    by_cases hn : sh < 0
    · have hh := O.held_range ((x * mu + 1073741824) / 2147483648)
      have hp2 := O.pow_range (k := (-sh).toNat) (K := 31) (by omega)
      rw [show (2 : Int) ^ 31 = 2147483648 from by decide] at hp2
      have He := hide (show O.scaled x ⟨mu, sh⟩ = O.nearest (O.held ((x * mu + 1073741824) / 2147483648)) (2 ^ (-sh).toNat) by
        unfold O.scaled O.high O.raised; rw [if_pos (show sh < 0 from hn), if_neg hp])
      go_enter Tryz.func192, Tryz.ntmps192
      go_wp2_with fail
      refine (oheld_c ((x * mu + 1073741824) / 2147483648) _).mono ?_
      rintro e w1 ⟨rfl, rfl⟩
      clear hm
      generalize O.held ((x * mu + 1073741824) / 2147483648) = r at *
      obtain ⟨r0, r1⟩ := hh
      obtain ⟨p0, p1⟩ := hp2
      go_wp2_with fail
      refine (onearest_c r (2 ^ (-sh).toNat) _ (by omega) (by omega) (by omega)).mono ?_
      rintro e w1 ⟨rfl, rfl⟩
      go_wp2
      go_ret
      exact ⟨ret_int He.out.symm, World.grownBy_alloc _ _ _⟩
    · have He := hide (show O.scaled x ⟨mu, sh⟩ = O.held ((x * mu + 1073741824) / 2147483648) by
        unfold O.scaled O.high O.raised; rw [if_neg (show ¬ sh < 0 from hn), if_neg hp])
      go_enter Tryz.func192, Tryz.ntmps192
      go_wp2_with fail
      refine (oheld_c ((x * mu + 1073741824) / 2147483648) _).mono ?_
      rintro e w1 ⟨rfl, rfl⟩
      go_wp2
      go_ret
      exact ⟨ret_int He.out.symm, World.grownBy_alloc _ _ _⟩

theorem cell_kept0 {w w' : World} (hg : w.grownBy w' none) {a : Addr} {v : Value} (h : w.cell? a = some v) : w'.cell? a = some v := by
  rw [World.cell?_of_block (hg.block a.block (World.block_lt_of_cell? w _ h) (by simp))]; exact h
/-- A list of numbers to be read: from a place of a block on. -/
def Row (w : World) (v : Value) (l : List Int) : Prop := ∃ a c, v = .slice a l.length c ∧ ∀ (i : Nat) x, l[i]? = some x → ∃ g off, a = some ⟨g, off, none⟩ ∧ g < w.heap.size ∧ w.cell? ⟨g, off + i, none⟩ = some (.int .i64 x)
theorem Row.nil (w : World) : Row w (.slice none 0 0) [] := ⟨none, 0, rfl, fun i x h => absurd h (by simp)⟩
theorem Row.len {w : World} {a : Option Addr} {n c : Nat} {l : List Int} (h : Row w (.slice a n c) l) : n = l.length := by
  obtain ⟨a', c', e, _⟩ := h
  injection e
theorem Row.get {w : World} {a : Option Addr} {n c : Nat} {l : List Int} (h : Row w (.slice a n c) l) (i : Nat) (x : Int) (hi : l[i]? = some x) : ∃ g off, a = some ⟨g, off, none⟩ ∧ g < w.heap.size ∧ w.cell? ⟨g, off + i, none⟩ = some (.int .i64 x) := by
  obtain ⟨a', c', e, k⟩ := h
  injection e with e _ _
  subst e
  exact k i x hi
theorem Row.kept0 {w w' : World} {v : Value} {l : List Int} (h : Row w v l) (hg : w.grownBy w' none) : Row w' v l := by
  obtain ⟨a, c, e, k⟩ := h
  refine ⟨a, c, e, fun i x hi => ?_⟩
  obtain ⟨g, off, e1, h1, h2⟩ := k i x hi
  exact ⟨g, off, e1, Nat.lt_of_lt_of_le h1 hg.size, cell_kept0 hg h2⟩
theorem Ints.row {w : World} {B : Nat} {a : Option Addr} {n c : Nat} {l : List Int} (h : Ints w B (.slice a n c) l) : Row w (.slice a n c) l := by
  obtain rfl := h.len
  refine ⟨a, c, rfl, fun i x hi => ?_⟩
  obtain ⟨g, e, hl, -, d⟩ := h.get i x hi
  exact ⟨g, 0, e, hl, by rw [Nat.zero_add]; exact d⟩

/-- A grid in memory, from cell q of block b on. -/
structure Gr (w : World) (b q : Nat) (g : O.G) (ao : Option Addr) (c : Nat) : Prop where
  gh : w.cell? ⟨b, q, none⟩ = some (.int .i64 g.h)
  gw : w.cell? ⟨b, q + 1, none⟩ = some (.int .i64 g.w)
  gc : w.cell? ⟨b, q + 2, none⟩ = some (.int .i64 g.c)
  gz : w.cell? ⟨b, q + 3, none⟩ = some (.int .i64 g.zero)
  gv : w.cell? ⟨b, q + 4, none⟩ = some (.slice ao g.cells.length c)
  gl : Row w (.slice ao g.cells.length c) g.cells

theorem Gr.drewN {w : World} {b q : Nat} {g : O.G} {ao : Option Addr} {c : Nat} (h : Gr w b q g ao c) (n : Nat) : Gr (w.drewN n) b q g ao c := ⟨h.gh, h.gw, h.gc, h.gz, h.gv, h.gl⟩

theorem nth_out {g : O.G} {i : Int} (h : i < 0 ∨ (g.cells.length : Int) ≤ i) : O.nth g i = g.zero := by unfold O.nth; rw [if_pos h]
theorem nth_in {g : O.G} {k : Nat} {x : Int} (h : g.cells[k]? = some x) : O.nth g k = x := by
  have hk : k < g.cells.length := by
    rcases Nat.lt_or_ge k g.cells.length with h' | h'
    · exact h'
    · simp [List.getElem?_eq_none h'] at h
  unfold O.nth; rw [if_neg (by omega), Int.toNat_natCast, List.getD, h]; rfl

set_option maxHeartbeats 400000 in
theorem onth_c (b q : Nat) (g : O.G) (ao : Option Addr) (c : Nat) (i : Int) (w : World) (hG : Gr w b q g ao c) (_hl : g.cells.length ≤ 512) :
    Calls Tryz.prog 158 #[.pointer (some ⟨b, q, none⟩), .int .i64 i] w fun e w' => e = .returned (.int .i64 (O.nth g i)) ∧ w' = w := by
  have d3 := hG.gz
  have d4 := hG.gv
  by_cases h0 : i < 0
  · have He := hide (nth_out (g := g) (.inl h0))
    clear hG
    go_enter Tryz.func158, Tryz.ntmps158
    go_wp2
    go_ret
    exact ⟨ret_int He.out.symm, rfl⟩
  · by_cases h1 : (g.cells.length : Int) ≤ i
    · have He := hide (nth_out (g := g) (.inr h1))
      clear hG
      go_enter Tryz.func158, Tryz.ntmps158
      go_wp2
      go_ret
      exact ⟨ret_int He.out.symm, rfl⟩
    · obtain ⟨k, rfl⟩ := Int.eq_ofNat_of_zero_le (show 0 ≤ i by omega)
      have hk : k < g.cells.length := by omega
      obtain ⟨x, hx⟩ : ∃ x, g.cells[k]? = some x := ⟨_, List.getElem?_eq_getElem hk⟩
      obtain ⟨e, off, rfl, -, d5⟩ := hG.gl.get k x hx
      have He := hide (nth_in hx)
      clear hG hx
      go_enter Tryz.func158, Tryz.ntmps158
      go_wp2
      go_ret
      exact ⟨ret_int He.out.symm, rfl⟩

theorem at_off {g : O.G} {y x k : Int} (h : y < 0 ∨ g.h ≤ y ∨ x < 0 ∨ g.w ≤ x ∨ k < 0 ∨ g.c ≤ k) : O.at_ g y x k = g.zero := by unfold O.at_; rw [if_pos (show O.off g y x k from h)]

set_option maxHeartbeats 400000 in
theorem oat_c (b q : Nat) (g : O.G) (ao : Option Addr) (c : Nat) (y x k : Int) (w : World) (hG : Gr w b q g ao c) (hl : g.cells.length ≤ 512) (h1 : g.h ≤ 255) (w1 : g.w ≤ 255) (c1 : g.c ≤ 255) :
    Calls Tryz.prog 156 #[.pointer (some ⟨b, q, none⟩), .int .i64 y, .int .i64 x, .int .i64 k] w fun e w' => e = .returned (.int .i64 (O.at_ g y x k)) ∧ ∃ n, w' = w.drewN n := by
  have d0 := hG.gh
  have d1 := hG.gw
  have d2 := hG.gc
  have d3 := hG.gz
  by_cases a0 : y < 0
  · have He := hide (at_off (g := g) (y := y) (x := x) (k := k) (.inl a0))
    clear hG
    go_enter Tryz.func156, Tryz.ntmps156
    go_wp2
    go_ret
    exact ⟨ret_int He.out.symm, 0, rfl⟩
  · by_cases a1 : g.h ≤ y
    · have He := hide (at_off (g := g) (y := y) (x := x) (k := k) (.inr (.inl a1)))
      clear hG
      go_enter Tryz.func156, Tryz.ntmps156
      go_wp2
      go_ret
      exact ⟨ret_int He.out.symm, 0, rfl⟩
    · by_cases a2 : x < 0
      · have He := hide (at_off (g := g) (y := y) (x := x) (k := k) (.inr (.inr (.inl a2))))
        clear hG
        go_enter Tryz.func156, Tryz.ntmps156
        go_wp2
        go_ret
        exact ⟨ret_int He.out.symm, 0, rfl⟩
      · by_cases a3 : g.w ≤ x
        · have He := hide (at_off (g := g) (y := y) (x := x) (k := k) (.inr (.inr (.inr (.inl a3)))))
          clear hG
          go_enter Tryz.func156, Tryz.ntmps156
          go_wp2
          go_ret
          exact ⟨ret_int He.out.symm, 0, rfl⟩
        · by_cases a4 : k < 0
          · have He := hide (at_off (g := g) (y := y) (x := x) (k := k) (.inr (.inr (.inr (.inr (.inl a4))))))
            clear hG
            go_enter Tryz.func156, Tryz.ntmps156
            go_wp2
            go_ret
            exact ⟨ret_int He.out.symm, 0, rfl⟩
          · by_cases a5 : g.c ≤ k
            · have He := hide (at_off (g := g) (y := y) (x := x) (k := k) (.inr (.inr (.inr (.inr (.inr a5))))))
              clear hG
              go_enter Tryz.func156, Tryz.ntmps156
              go_wp2
              go_ret
              exact ⟨ret_int He.out.symm, 0, rfl⟩
            · have He := hide (show O.at_ g y x k = O.nth g ((y * g.w + x) * g.c + k) by unfold O.at_; rw [if_neg]; unfold O.off; omega)
              have m1 := O.mul_abs (a := y) (b := g.w) (A := 255) (B := 255) (by omega) (by omega)
              have m2 := O.mul_abs (a := y * g.w + x) (b := g.c) (A := 65280) (B := 255) (by omega) (by omega)
              have HG := hide hG
              clear hG
              go_enter Tryz.func156, Tryz.ntmps156
              go_wp2
              go_quiet (first | (go_at_call 158; refine Calls.quiet_of_same (onth_c b q g ao c ((y * g.w + x) * g.c + k) _ (HG.out.drewN _) hl)))
              go_wp2
              go_ret
              exact ⟨ret_int He.out.symm, _, rfl⟩

end Go.Proofs.YtcnhfffgbamonaaGreat

/-
  A job in memory; its range, its scales.
-/
namespace Go.Proofs.YtcnhfffgbamonaaGreat
open Go.RowKit

/-- Where a job's lists lie. -/
structure JA where
  sa : Option Addr
  sc : Nat
  aa : Option Addr
  ac : Nat
  ba : Option Addr
  bc : Nat
  wa : Option Addr
  wc : Nat
  ia : Option Addr
  ic : Nat

/-- A job in block b. -/
structure Jm (w : World) (b : Nat) (j : O.J) (A : JA) : Prop where
  kind : w.cell? ⟨b, 0, none⟩ = some (.int .i64 j.op.kind)
  size : w.cell? ⟨b, 6, none⟩ = some (.int .i64 j.op.size)
  stride : w.cell? ⟨b, 7, none⟩ = some (.int .i64 j.op.stride)
  scales : w.cell? ⟨b, 9, none⟩ = some (.slice A.sa j.op.scales.length A.sc)
  lo : w.cell? ⟨b, 10, none⟩ = some (.int .i64 j.op.lo)
  hi : w.cell? ⟨b, 11, none⟩ = some (.int .i64 j.op.hi)
  above : w.cell? ⟨b, 12, none⟩ = some (.int .i64 j.op.above)
  left : w.cell? ⟨b, 14, none⟩ = some (.int .i64 j.op.left)
  a : Gr w b 16 j.a A.aa A.ac
  bb : Gr w b 21 j.b A.ba A.bc
  ws : Gr w b 26 j.weights A.wa A.wc
  bi : Gr w b 31 j.biases A.ia A.ic
  mki : w.cell? ⟨b, 36, none⟩ = some (.int .i64 j.made.kind)
  mv : ∃ ao n c, w.cell? ⟨b, 41, none⟩ = some (.slice ao n c)
  mh : w.cell? ⟨b, 37, none⟩ = some (.int .i64 j.made.h)
  mw : w.cell? ⟨b, 38, none⟩ = some (.int .i64 j.made.w)
  mc : w.cell? ⟨b, 39, none⟩ = some (.int .i64 j.made.c)
  mz : w.cell? ⟨b, 40, none⟩ = some (.int .i64 j.made.zero)
  sl : Scs w 0 (.slice A.sa j.op.scales.length A.sc) j.op.scales

theorem cell_kept {w w' : World} (hg : w.grownBy w' none) {a : Addr} {v : Value} (h : w.cell? a = some v) : w'.cell? a = some v := by
  rw [World.cell?_of_block (hg.block a.block (World.block_lt_of_cell? w _ h) (by simp))]; exact h

theorem Gr.kept {w w' : World} {b q : Nat} {g : O.G} {ao : Option Addr} {c : Nat} (h : Gr w b q g ao c) (hg : w.grownBy w' none) : Gr w' b q g ao c :=
  ⟨cell_kept hg h.gh, cell_kept hg h.gw, cell_kept hg h.gc, cell_kept hg h.gz, cell_kept hg h.gv, h.gl.kept0 hg⟩

theorem Jm.kept {w w' : World} {b : Nat} {j : O.J} {A : JA} (h : Jm w b j A) (hg : w.grownBy w' none) : Jm w' b j A :=
  ⟨cell_kept hg h.kind, cell_kept hg h.size, cell_kept hg h.stride, cell_kept hg h.scales, cell_kept hg h.lo, cell_kept hg h.hi, cell_kept hg h.above, cell_kept hg h.left,
   h.a.kept hg, h.bb.kept hg, h.ws.kept hg, h.bi.kept hg, cell_kept hg h.mki, h.mv.elim fun ao x => x.elim fun n y => y.elim fun c z => ⟨ao, n, c, cell_kept hg z⟩, cell_kept hg h.mh, cell_kept hg h.mw, cell_kept hg h.mc, cell_kept hg h.mz, owns_kept0 h.sl hg⟩

theorem Jm.drewN {w : World} {b : Nat} {j : O.J} {A : JA} (h : Jm w b j A) (n : Nat) : Jm (w.drewN n) b j A := h.kept (gr_drewN _ _ _)

set_option maxHeartbeats 400000 in
theorem oranged_c (b : Nat) (j : O.J) (A : JA) (x : Int) (w : World) (hJ : Jm w b j A) :
    Calls Tryz.prog 157 #[.pointer (some ⟨b, 0, none⟩), .int .i64 x] w fun e w' => e = .returned (.int .i64 (O.ranged j x)) ∧ ∃ n, w' = w.drewN n := by
  have d0 := hJ.lo
  have d1 := hJ.hi
  clear hJ
  go_enter Tryz.func157, Tryz.ntmps157
  go_wp2
  go_quiet (first | (go_at_call 180; refine Calls.quiet_of_same (owithin_c x j.op.lo j.op.hi _)))
  go_wp2
  go_ret
  exact ⟨rfl, _, rfl⟩

theorem scaledBy_at {j : O.J} {x : Int} {k : Nat} {c : M.Sc} (h : j.op.scales[k]? = some c) : O.scaledBy j x k = O.scaled x c := by
  unfold O.scaledBy; rw [h]

set_option maxHeartbeats 400000 in
theorem ojscaled_c (b : Nat) (j : O.J) (A : JA) (x : Int) (k : Nat) (w : World) (hJ : Jm w b j A) (hj : O.Jok j) (hk : k < j.op.scales.length) (hx : -2147483648 ≤ x ∧ x ≤ 2147483647) (_hl : j.op.scales.length ≤ 3) :
    Calls Tryz.prog 177 #[.pointer (some ⟨b, 0, none⟩), .int .i64 x, .int .i64 k] w fun e w' => e = .returned (.int .i64 (O.scaledBy j x k)) ∧ w.grownBy w' none := by
  have d0 := hJ.scales
  obtain ⟨c, hc⟩ : ∃ c, j.op.scales[k]? = some c := ⟨_, List.getElem?_eq_getElem hk⟩
  obtain ⟨g, e, hgl, d1, d2⟩ := Scs.get hJ.sl k c hc
  obtain ⟨m0, m1, s0, s1⟩ := hj.scales c (List.mem_of_getElem? hc)
  have He := hide (scaledBy_at (x := x) hc)
  rw [e] at d0
  clear hc hJ e hj
  go_enter Tryz.func177, Tryz.ntmps177
  go_wp2_with fail
  refine (oscaled_c x c _ hx m0 m1 s0 s1).mono ?_
  rintro e w1 ⟨rfl, hg1⟩
  go_wp2
  go_ret
  exact ⟨ret_int He.out.symm, hg1⟩

set_option maxHeartbeats 400000 in
theorem oout_c (b : Nat) (j : O.J) (A : JA) (x : Int) (k : Nat) (w : World) (hJ : Jm w b j A) (hj : O.Jok j) (hk : k < j.op.scales.length) (hx : -2147483648 ≤ x ∧ x ≤ 2147483647) (hl : j.op.scales.length ≤ 3) :
    Calls Tryz.prog 176 #[.pointer (some ⟨b, 0, none⟩), .int .i64 x, .int .i64 k] w fun e w' => e = .returned (.int .i64 (O.out j x k)) ∧ w.grownBy w' none := by
  have hs := hj.scaledBy x k
  have z0 := hj.z.z0
  have z1 := hj.z.z1
  have He := hide (show O.out j x k = O.ranged j (O.scaledBy j x k + j.made.zero) from rfl)
  have HJ := hide hJ
  have Hj := hide hj
  clear hJ hj
  go_enter Tryz.func176, Tryz.ntmps176
  go_wp2_with fail
  refine (ojscaled_c b j A x k _ HJ.out Hj.out hk hx hl).mono ?_
  rintro e w1 ⟨rfl, hg1⟩
  have d0 := (HJ.out.kept hg1).mz
  have HJ1 := hide (HJ.out.kept hg1)
  clear HJ
  generalize O.scaledBy j x k = s at *
  obtain ⟨s0, s1⟩ := hs
  go_wp2_with fail
  refine (oranged_c b j A (s + j.made.zero) _ HJ1.out).mono ?_
  rintro e w2 ⟨rfl, n2, rfl⟩
  go_wp2
  go_ret
  exact ⟨ret_int He.out.symm, gr_trans hg1 (gr_drewN _ _ _)⟩

set_option maxHeartbeats 400000 in
theorem oadd_c (b : Nat) (j : O.J) (A : JA) (y x k : Int) (w : World) (hJ : Jm w b j A) (hj : O.Jok j) (hl : j.op.scales.length = 3) :
    Calls Tryz.prog 154 #[.pointer (some ⟨b, 0, none⟩), .int .i64 y, .int .i64 x, .int .i64 k] w fun e w' => e = .returned (.int .i64 (O.add j y x k)) ∧ w.grownBy w' none := by
  have hv := hj.a.at y x k
  have hw := hj.b.at y x k
  obtain ⟨az0, az1⟩ := And.intro hj.a.z0 hj.a.z1
  obtain ⟨bz0, bz1⟩ := And.intro hj.b.z0 hj.b.z1
  have r1 := hj.scaledBy ((O.at_ j.a y x k - j.a.zero) * 1048576) 0
  have r2 := hj.scaledBy ((O.at_ j.b y x k - j.b.zero) * 1048576) 1
  have r3 := O.held_range (O.scaledBy j ((O.at_ j.a y x k - j.a.zero) * 1048576) 0 + O.scaledBy j ((O.at_ j.b y x k - j.b.zero) * 1048576) 1)
  have He := hide (show O.add j y x k = O.out j (O.held (O.scaledBy j ((O.at_ j.a y x k - j.a.zero) * 1048576) 0 + O.scaledBy j ((O.at_ j.b y x k - j.b.zero) * 1048576) 1)) 2 from rfl)
  have HJ := hide hJ
  have Hj := hide hj
  clear hJ hj
  go_enter Tryz.func154, Tryz.ntmps154
  go_wp2_with fail
  refine (oat_c b 16 j.a A.aa A.ac y x k _ HJ.out.a Hj.out.a.len Hj.out.a.h1 Hj.out.a.w1 Hj.out.a.c1).mono ?_
  rintro e w1 ⟨rfl, n1, rfl⟩
  go_wp2_with fail
  refine (oat_c b 21 j.b A.ba A.bc y x k _ (HJ.out.bb.drewN _) Hj.out.b.len Hj.out.b.h1 Hj.out.b.w1 Hj.out.b.c1).mono ?_
  rintro e w1 ⟨rfl, n2, rfl⟩
  generalize O.at_ j.a y x k = v at *
  generalize O.at_ j.b y x k = u at *
  have d0 := HJ.out.a.gz
  have d1 := HJ.out.bb.gz
  obtain ⟨v0, v1⟩ := hv
  obtain ⟨u0, u1⟩ := hw
  go_wp2_with fail
  refine (ojscaled_c b j A ((v - j.a.zero) * 1048576) 0 _ (HJ.out.drewN _) Hj.out (by omega) (by omega) (by omega)).mono ?_
  rintro e w3 ⟨rfl, hg3⟩
  have HJ3 := hide ((HJ.out.drewN (n1 + n2)).kept hg3)
  have HG3 := hide (gr_trans (gr_drewN w (n1 + n2) none) hg3)
  clear HJ hg3 d0 d1
  have d1 := HJ3.out.bb.gz
  go_wp2_with fail
  refine (ojscaled_c b j A ((u - j.b.zero) * 1048576) 1 _ HJ3.out Hj.out (by omega) (by omega) (by omega)).mono ?_
  rintro e w4 ⟨rfl, hg4⟩
  have HJ4 := hide (HJ3.out.kept hg4)
  have HG4 := hide (gr_trans HG3.out hg4)
  clear HJ3 HG3 hg4 d1
  generalize O.scaledBy j ((v - j.a.zero) * 1048576) 0 = p at *
  generalize O.scaledBy j ((u - j.b.zero) * 1048576) 1 = q at *
  obtain ⟨p0, p1⟩ := r1
  obtain ⟨q0, q1⟩ := r2
  go_wp2_with fail
  refine (oheld_c (p + q) _).mono ?_
  rintro e w5 ⟨rfl, rfl⟩
  generalize O.held (p + q) = s at *
  go_wp2_with fail
  refine (oout_c b j A s 2 _ HJ4.out Hj.out (by omega) r3 (by omega)).mono ?_
  rintro e w6 ⟨rfl, hg6⟩
  have HG6 := hide (gr_trans HG4.out hg6)
  clear hg6
  go_wp2
  go_ret
  exact ⟨ret_int He.out.symm, HG6.out⟩

end Go.Proofs.YtcnhfffgbamonaaGreat
