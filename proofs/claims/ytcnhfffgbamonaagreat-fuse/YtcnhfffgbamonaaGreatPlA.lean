import Derived.Test.YtcnhfffgbamonaaGreatSpec
import Derived.Test.YtcnhfffgbamonaaGreatPl0
/-
  The document's own reckoning of cells, in plain functions.
-/
namespace Go.Proofs.YtcnhfffgbamonaaGreat
namespace R

def held (x : Int) : Int := if 2147483648 ≤ x then 2147483647 else if x < -2147483648 then -2147483648 else x
def raised (x s : Int) : Int := if 0 < s then held (x * 2 ^ s.toNat) else x
def high (x m : Int) : Int := held ((x * m + 1073741824) / 2147483648)
def lowered (h s : Int) : Int := if 0 ≤ s then h else if h < 0 then -((2 ^ (-s).toNat - 2 * h) / (2 * 2 ^ (-s).toNat)) else (2 ^ (-s).toNat + 2 * h) / (2 * 2 ^ (-s).toNat)
def scaled (x m s : Int) : Int := lowered (high (raised x s) m) s
def between (x lo hi : Int) : Int := if x < lo then lo else if hi < x then hi else x

theorem held_range (x : Int) : -2147483648 ≤ held x ∧ held x ≤ 2147483647 := by unfold held; split <;> (try split) <;> omega

/-- How many windows begin at p, p + stride .. within the length; f: fuel. -/
def placesFrom (length n stride : Int) (same : Bool) : Nat → Int → Int
  | 0, _ => 0
  | f + 1, p => if p < length then (if (same || decide (p + n ≤ length)) = true then 1 else 0) + placesFrom length n stride same f (p + stride) else 0
def places (length n stride : Int) (same : Bool) : Int := placesFrom length n stride same length.toNat 0
def lead (length n stride : Int) (same : Bool) : Int :=
  let more := (places length n stride same - 1) * stride + n - length
  if same = false ∨ more < 0 then 0 else more / 2

/-- Bytes as a number, the lowest first. -/
def val : List UInt8 → Int
  | [] => 0
  | b :: r => (b.toNat : Int) + 256 * val r
def signOf (l : List UInt8) (n : Nat) (sign : Bool) : Bool := sign && decide (128 ≤ (l.getD (n - 1) 0).toNat)
def take (l : List UInt8) (n : Nat) (sign : Bool) : Int × List UInt8 × Bool :=
  if l.length < n then (0, l, false) else (if signOf l n sign = true then val (l.take n) - 256 ^ n else val (l.take n), l.drop n, true)

/-- k numbers of n bytes each; none: there are not so many. -/
def list (l : List UInt8) (n : Nat) (sign : Bool) : Nat → Option (List Int × List UInt8)
  | 0 => some ([], l)
  | k + 1 => match list l n sign k with
    | some (xs, r) => if (take r n sign).2.2 = true then some (xs ++ [(take r n sign).1], (take r n sign).2.1) else none
    | none => none

end R
end Go.Proofs.YtcnhfffgbamonaaGreat

/-
  What the document says that comes out, in plain functions over a model as it was read: cells by tensor, operator by operator.
-/
namespace Go.Proofs.YtcnhfffgbamonaaGreat
namespace D

/-- f 0 + .. + f (n - 1). -/
def S (f : Nat → Int) : Nat → Int
  | 0 => 0
  | n + 1 => S f n + f n

def lead (length n stride : Int) (same : Bool) : Int :=
  let more := (M.windows n length stride same - 1) * stride + n - length
  if same = false ∨ more < 0 then 0 else more / 2

/-- A cell of a list. -/
def get (l : List Int) (i : Int) : Int := if i < 0 then 0 else l.getD i.toNat 0

/-- A cell of a tensor of this form. -/
def at_ (t : M.Tn) (l : List Int) (y x c : Int) : Int := get l ((y * t.w + x) * t.c + c)
def inside (t : M.Tn) (y x : Int) : Bool := decide (0 ≤ y) && decide (y < t.h) && decide (0 ≤ x) && decide (x < t.w)

/-- What an operator reads: tensors and their cells. -/
structure Reads where
  a : M.Tn
  la : List Int
  b : M.Tn
  lb : List Int
  w : M.Tn
  lw : List Int
  bias : List Int
  z : M.Tn

def tap (o : M.Op) (r : Reads) (u v c : Int) (i j : Nat) : Int :=
  if inside r.a u v = true then
    (if o.kind = 2 then (at_ r.a r.la u v c - r.a.zero) * at_ r.w r.lw i j c
    else S (fun k => (at_ r.a r.la u v k - r.a.zero) * at_ r.w r.lw i j (c * r.a.c + k)) r.a.c.toNat)
  else 0
def winSum (o : M.Op) (r : Reads) (y x c : Int) : Int :=
  get r.bias c + S (fun i => S (fun j => tap o r (y * o.stride - lead r.a.h r.w.h o.stride o.same + i) (x * o.stride - lead r.a.w r.w.w o.stride o.same + j) c i j) r.w.w.toNat) r.w.h.toNat
def denseSum (r : Reads) (c : Int) : Int :=
  get r.bias c + S (fun i => (get r.la i - r.a.zero) * at_ r.w r.lw c 0 i) (M.cellsOf r.a).toNat
def scaleNo (o : M.Op) (k : Nat) : M.Sc := o.scales.getD k ⟨0, 0⟩
def scaledBy (x : Int) (s : M.Sc) : Int := R.scaled x s.mult s.shift
def addSum (o : M.Op) (r : Reads) (y x c : Int) : Int :=
  R.held (scaledBy ((at_ r.a r.la y x c - r.a.zero) * 1048576) (scaleNo o 0) + scaledBy ((at_ r.b r.lb y x c - r.b.zero) * 1048576) (scaleNo o 1))
/-- The cells of a window of a pool. -/
def poolAt (o : M.Op) (r : Reads) (y x c : Int) (k : Nat) : Int := at_ r.a r.la (y * o.stride + k / o.size) (x * o.stride + k % o.size) c
def poolN (o : M.Op) : Nat := (o.size * o.size).toNat
def maxOf (f : Nat → Int) : Nat → Int
  | 0 => 0
  | n + 1 => if n = 0 then f 0 else if maxOf f n < f n then f n else maxOf f n
/-- The nearest whole number to a mean; of two the greater in amount. -/
def mean (s n : Int) : Int := if s < 0 then -((-(2 * s) + n) / (2 * n)) else (2 * s + n) / (2 * n)
def quantised (o : M.Op) (r : Reads) (s : Int) (k : Nat) : Int := R.between (scaledBy s (scaleNo o k) + r.z.zero) o.lo o.hi

def cell (o : M.Op) (r : Reads) (y x c : Int) : Int :=
  if o.kind = 1 ∨ o.kind = 2 then quantised o r (winSum o r y x c) 0
  else if o.kind = 3 then quantised o r (denseSum r c) 0
  else if o.kind = 4 then quantised o r (addSum o r y x c) 2
  else if o.kind = 5 then R.between (maxOf (poolAt o r y x c) (poolN o)) o.lo o.hi
  else if o.kind = 6 then R.between (mean (S (poolAt o r y x c) (poolN o)) (o.size * o.size)) o.lo o.hi
  else if o.kind = 7 then R.between (at_ r.a r.la y x c) o.lo o.hi
  else if o.kind = 8 then (if inside r.a (y - o.above) (x - o.left) = true then at_ r.a r.la (y - o.above) (x - o.left) c else r.z.zero)
  else if o.kind = 9 then get r.la ((y * r.z.w + x) * r.z.c + c)
  else if c < r.a.c then at_ r.a r.la y x c else at_ r.b r.lb y x (c - r.a.c)

theorem cell_conv {o : M.Op} (r : Reads) (y x c : Int) (h : o.kind = 1 ∨ o.kind = 2) : cell o r y x c = quantised o r (winSum o r y x c) 0 := by
  unfold cell; rw [if_pos h]
theorem cell_dense {o : M.Op} (r : Reads) (y x c : Int) (h : o.kind = 3) : cell o r y x c = quantised o r (denseSum r c) 0 := by
  unfold cell; rw [if_neg (by omega), if_pos h]
theorem cell_add {o : M.Op} (r : Reads) (y x c : Int) (h : o.kind = 4) : cell o r y x c = quantised o r (addSum o r y x c) 2 := by
  unfold cell; rw [if_neg (by omega), if_neg (by omega), if_pos h]
theorem cell_max {o : M.Op} (r : Reads) (y x c : Int) (h : o.kind = 5) : cell o r y x c = R.between (maxOf (poolAt o r y x c) (poolN o)) o.lo o.hi := by
  unfold cell; rw [if_neg (by omega), if_neg (by omega), if_neg (by omega), if_pos h]
theorem cell_avg {o : M.Op} (r : Reads) (y x c : Int) (h : o.kind = 6) : cell o r y x c = R.between (mean (S (poolAt o r y x c) (poolN o)) (o.size * o.size)) o.lo o.hi := by
  unfold cell; rw [if_neg (by omega), if_neg (by omega), if_neg (by omega), if_neg (by omega), if_pos h]
theorem cell_clamp {o : M.Op} (r : Reads) (y x c : Int) (h : o.kind = 7) : cell o r y x c = R.between (at_ r.a r.la y x c) o.lo o.hi := by
  unfold cell; rw [if_neg (by omega), if_neg (by omega), if_neg (by omega), if_neg (by omega), if_neg (by omega), if_pos h]
theorem cell_pad {o : M.Op} (r : Reads) (y x c : Int) (h : o.kind = 8) : cell o r y x c = if inside r.a (y - o.above) (x - o.left) = true then at_ r.a r.la (y - o.above) (x - o.left) c else r.z.zero := by
  unfold cell; rw [if_neg (by omega), if_neg (by omega), if_neg (by omega), if_neg (by omega), if_neg (by omega), if_neg (by omega), if_pos h]
theorem cell_shape {o : M.Op} (r : Reads) (y x c : Int) (h : o.kind = 9) : cell o r y x c = get r.la ((y * r.z.w + x) * r.z.c + c) := by
  unfold cell; rw [if_neg (by omega), if_neg (by omega), if_neg (by omega), if_neg (by omega), if_neg (by omega), if_neg (by omega), if_neg (by omega), if_pos h]
theorem cell_cat {o : M.Op} (r : Reads) (y x c : Int) (h : o.kind = 10) : cell o r y x c = if c < r.a.c then at_ r.a r.la y x c else at_ r.b r.lb y x (c - r.a.c) := by
  unfold cell; rw [if_neg (by omega), if_neg (by omega), if_neg (by omega), if_neg (by omega), if_neg (by omega), if_neg (by omega), if_neg (by omega), if_neg (by omega)]

/-- All cells, in their order. -/
def grid (t : M.Tn) (f : Int → Int → Int → Int) : List Int :=
  (List.range (M.cellsOf t).toNat).map fun (q : Nat) => f ((q : Int) / (t.w * t.c)) ((q : Int) / t.c % t.w) ((q : Int) % t.c)

def cellsAt (env : List (List Int)) (n : Int) : List Int := if n < 0 then [] else env.getD n.toNat []
def readsOf (m : M.Md) (env : List (List Int)) (o : M.Op) : Reads :=
  ⟨M.tensorAt m o.a, cellsAt env o.a, M.tensorAt m o.b, cellsAt env o.b, M.tensorAt m o.weights, cellsAt env o.weights, cellsAt env o.biases, M.tensorAt m o.to⟩
def made (m : M.Md) (env : List (List Int)) (o : M.Op) : List Int := grid (M.tensorAt m o.to) (cell o (readsOf m env o))
def step (m : M.Md) (env : List (List Int)) (o : M.Op) : List (List Int) := env.set o.to.toNat (made m env o)

def start : List M.Tn → List (List Int) → List (List Int)
  | [], _ => []
  | t :: ts, ins => if t.kind = 0 then ins.headD [] :: start ts ins.tail else if t.kind = 3 then [] :: start ts ins else t.data :: start ts ins

def env (m : M.Md) (ins : List (List Int)) : List (List Int) := m.ops.foldl (step m) (start m.tensors ins)
def run (m : M.Md) (ins : List (List Int)) : List (List Int) := m.outs.map (cellsAt (env m ins))

/-- How long the inputs must be. -/
def lengths (m : M.Md) : List Int := (m.tensors.filter fun t => t.kind == 0).map M.cellsOf
def isCell (v : Int) : Bool := decide (-128 ≤ v) && decide (v ≤ 127)
/-- Inputs that are none. -/
def inputsHold (m : M.Md) (ins : List (List Int)) : Bool := (ins.map fun l => (l.length : Int)) == lengths m && ins.all fun l => l.all isCell

-- small laws
theorem S_congr {f g : Nat → Int} {n : Nat} (h : ∀ i, i < n → f i = g i) : S f n = S g n := by
  induction n with
  | zero => rfl
  | succ n ih => unfold S; rw [ih fun i hi => h i (by omega), h n (by omega)]
theorem S_zero (n : Nat) : S (fun _ => 0) n = 0 := by
  induction n with
  | zero => rfl
  | succ n ih => unfold S; rw [ih]; rfl
theorem S_add (f g : Nat → Int) (n : Nat) : S (fun i => f i + g i) n = S f n + S g n := by
  induction n with
  | zero => rfl
  | succ n ih => unfold S; rw [ih]; omega
theorem S_split (f : Nat → Int) (a b : Nat) : S f (a + b) = S f a + S (fun i => f (a + i)) b := by
  induction b with
  | zero => simp [S]
  | succ b ih =>
    show S f (a + b) + f (a + b) = S f a + (S (fun i => f (a + i)) b + f (a + b))
    rw [ih]; omega
/-- Rows of b each. -/
theorem S_rows (f : Nat → Int) (a b : Nat) : S f (a * b) = S (fun i => S (fun j => f (i * b + j)) b) a := by
  induction a with
  | zero => simp [S]
  | succ a ih => rw [Nat.succ_mul, S_split, ih]; rfl
theorem S_le {f : Nat → Int} {n : Nat} {k : Int} (h : ∀ i, i < n → f i ≤ k) : S f n ≤ n * k := by
  induction n with
  | zero => simp [S]
  | succ n ih =>
    unfold S
    have := ih fun i hi => h i (by omega)
    have h2 := h n (by omega)
    have e : ((n + 1 : Nat) : Int) * k = n * k + k := by rw [Int.natCast_add, Int.add_mul]; simp
    omega
theorem S_ge {f : Nat → Int} {n : Nat} {k : Int} (h : ∀ i, i < n → k ≤ f i) : n * k ≤ S f n := by
  induction n with
  | zero => simp [S]
  | succ n ih =>
    unfold S
    have := ih fun i hi => h i (by omega)
    have h2 := h n (by omega)
    have e : ((n + 1 : Nat) : Int) * k = n * k + k := by rw [Int.natCast_add, Int.add_mul]; simp
    omega
theorem max_ge {f : Nat → Int} {n : Nat} : ∀ i, i < n → f i ≤ maxOf f n := by
  induction n with
  | zero => intro i hi; omega
  | succ n ih =>
    intro i hi
    unfold maxOf
    by_cases h0 : n = 0
    · rw [if_pos h0]; have : i = 0 := by omega
      rw [this]; omega
    · rw [if_neg h0]
      by_cases hi2 : i < n
      · have := ih i hi2; split <;> omega
      · have : i = n := by omega
        subst this; split <;> omega
theorem max_mem {f : Nat → Int} {n : Nat} (h : 0 < n) : ∃ i, i < n ∧ maxOf f n = f i := by
  induction n with
  | zero => omega
  | succ n ih =>
    unfold maxOf
    by_cases h0 : n = 0
    · rw [if_pos h0]; exact ⟨0, by omega, rfl⟩
    · rw [if_neg h0]
      by_cases c : maxOf f n < f n
      · rw [if_pos c]; exact ⟨n, by omega, rfl⟩
      · rw [if_neg c]; obtain ⟨i, hi, e⟩ := ih (by omega); exact ⟨i, by omega, e⟩

/-- Every cell is one. -/
def Cells (l : List Int) : Prop := ∀ v ∈ l, -128 ≤ v ∧ v ≤ 127
theorem get_cell {l : List Int} (h : Cells l) (i : Int) : -128 ≤ get l i ∧ get l i ≤ 127 := by
  unfold get
  split
  · omega
  · rw [List.getD]
    cases e : l[i.toNat]? with
    | none => simp
    | some v => simpa using h v (List.mem_of_getElem? e)
theorem between_range {x lo hi : Int} (h : lo ≤ hi) : lo ≤ R.between x lo hi ∧ R.between x lo hi ≤ hi := by
  unfold R.between; split <;> (try split) <;> omega
theorem cell_range (o : M.Op) (r : Reads) (y x c : Int) (ha : Cells r.la) (hb : o.kind = 10 → Cells r.lb) (hk0 : 1 ≤ o.kind) (hk1 : o.kind ≤ 10) (hz : -128 ≤ r.z.zero ∧ r.z.zero ≤ 127) (hlo : -128 ≤ o.lo) (hh : o.lo ≤ o.hi) (hhi : o.hi ≤ 127) :
    -128 ≤ cell o r y x c ∧ cell o r y x c ≤ 127 := by
  have B : ∀ v, -128 ≤ R.between v o.lo o.hi ∧ R.between v o.lo o.hi ≤ 127 := fun v => by have := between_range (x := v) hh; omega
  unfold cell quantised
  split
  · exact B _
  · split
    · exact B _
    · split
      · exact B _
      · split
        · exact B _
        · split
          · exact B _
          · split
            · exact B _
            · split
              · split
                · exact get_cell ha _
                · exact hz
              · split
                · exact get_cell ha _
                · split
                  · exact get_cell ha _
                  · exact get_cell (hb (by omega)) _

theorem grid_cells {t : M.Tn} {f : Int → Int → Int → Int} (h : ∀ y x c, -128 ≤ f y x c ∧ f y x c ≤ 127) : Cells (grid t f) := by
  intro v hv
  obtain ⟨q, -, rfl⟩ := List.mem_map.mp hv
  exact h _ _ _
theorem grid_length (t : M.Tn) (f : Int → Int → Int → Int) : (grid t f).length = (M.cellsOf t).toNat := by unfold grid; simp
theorem grid_get {t : M.Tn} {f : Int → Int → Int → Int} (q : Nat) (h : (q : Int) < M.cellsOf t) : get (grid t f) q = f ((q : Int) / (t.w * t.c)) ((q : Int) / t.c % t.w) ((q : Int) % t.c) := by
  unfold get grid
  rw [if_neg (by omega), Int.toNat_natCast, List.getD, List.getElem?_map, List.getElem?_range (by omega)]
  rfl
theorem grid_congr {t : M.Tn} {f g : Int → Int → Int → Int} (h : ∀ y x c, 0 ≤ y → y < t.h → 0 ≤ x → x < t.w → 0 ≤ c → c < t.c → f y x c = g y x c) (hw : 0 ≤ t.w) (hc : 0 ≤ t.c) : grid t f = grid t g := by
  unfold grid
  apply List.map_congr_left
  intro q hq
  have hq' : (q : Int) < M.cellsOf t := by have := List.mem_range.mp hq; omega
  unfold M.cellsOf at hq'
  have h0 : (0 : Int) ≤ q := Int.natCast_nonneg q
  by_cases hc0 : t.c = 0
  · rw [hc0, Int.mul_zero] at hq'; omega
  · by_cases hw0 : t.w = 0
    · rw [hw0, Int.mul_zero, Int.zero_mul] at hq'; omega
    · have hwc : 0 < t.w * t.c := Int.mul_pos (by omega) (by omega)
      refine h _ _ _ (Int.ediv_nonneg h0 (by omega)) (Int.ediv_lt_of_lt_mul hwc (by rw [← Int.mul_assoc]; exact hq')) (Int.emod_nonneg _ hw0) (Int.emod_lt_of_pos _ (by omega)) (Int.emod_nonneg _ hc0) (Int.emod_lt_of_pos _ (by omega))
/-- A cell of a grid, by its place. -/
theorem at_grid {t t' : M.Tn} {f : Int → Int → Int → Int} {y x c : Int} (ew : t'.w = t.w) (ec : t'.c = t.c) (hy : 0 ≤ y) (hy1 : y < t.h) (hx : 0 ≤ x) (hx1 : x < t.w) (hc : 0 ≤ c) (hc1 : c < t.c) :
    at_ t' (grid t f) y x c = f y x c := by
  unfold at_
  rw [ew, ec]
  have hp : 0 ≤ (y * t.w + x) * t.c + c := Int.add_nonneg (Int.mul_nonneg (Int.add_nonneg (Int.mul_nonneg hy (by omega)) hx) (by omega)) hc
  obtain ⟨q, hq⟩ : ∃ q : Nat, (q : Int) = (y * t.w + x) * t.c + c := ⟨((y * t.w + x) * t.c + c).toNat, by omega⟩
  have e1 : (q : Int) / t.c = y * t.w + x := by
    rw [hq, Int.add_comm, Int.add_mul_ediv_right _ _ (by omega), Int.ediv_eq_zero_of_lt hc hc1]; omega
  have e2 : (q : Int) % t.c = c := by rw [hq, Int.add_comm, Int.add_mul_emod_self_right, Int.emod_eq_of_lt hc hc1]
  have e3 : (q : Int) / (t.w * t.c) = y := by
    rw [Int.mul_comm, ← Int.ediv_ediv_of_nonneg (by omega), e1, Int.add_comm, Int.add_mul_ediv_right _ _ (by omega), Int.ediv_eq_zero_of_lt hx hx1]; omega
  have e4 : (q : Int) / t.c % t.w = x := by rw [e1, Int.add_comm, Int.add_mul_emod_self_right, Int.emod_eq_of_lt hx hx1]
  have hlt : (q : Int) < M.cellsOf t := by
    rw [hq]; unfold M.cellsOf
    have h1 : y * t.w + x + 1 ≤ t.h * t.w := by
      have : (y + 1) * t.w ≤ t.h * t.w := Int.mul_le_mul_of_nonneg_right (by omega) (by omega)
      rw [Int.add_mul, Int.one_mul] at this; omega
    have h2 : (y * t.w + x + 1) * t.c ≤ t.h * t.w * t.c := Int.mul_le_mul_of_nonneg_right h1 (by omega)
    rw [Int.add_mul, Int.one_mul] at h2; omega
  rw [← hq, grid_get q hlt, e3, e4, e2]

end D
end Go.Proofs.YtcnhfffgbamonaaGreat

/-
  A longer text reads as its beginning does, as long as that is not bad: so a model without its last byte is none, nor one with a byte more.
-/
namespace Go.Proofs.YtcnhfffgbamonaaGreat
namespace M

/-- p is a beginning of s. -/
structure Pre (p s : ByteArray) : Prop where
  le : p.size ≤ s.size
  at_ : ∀ i, i < p.size → bt p i = bt s i
  head : 4 ≤ p.size → s.data.toList.take 4 = p.data.toList.take 4

/-- f reads a beginning, g the whole. -/
structure Mono {α : Type} (f g : RS → α × RS) : Prop where
  stay : ∀ r, r.bad = true → (f r).2.bad = true
  same : ∀ r, (f r).2.bad = false → g r = f r

def bd {α β : Type} (f : RS → α × RS) (k : α → RS → β × RS) (r : RS) : β × RS := k (f r).1 (f r).2

theorem Mono.bind {α β : Type} {f g : RS → α × RS} {k l : α → RS → β × RS} (h : Mono f g) (hk : ∀ x, Mono (k x) (l x)) :
    Mono (bd f k) (bd g l) := by
  refine ⟨fun r hr => (hk _).stay _ (h.stay r hr), fun r hr => ?_⟩
  have h1 : (f r).2.bad = false := by
    cases hb : (f r).2.bad with
    | false => rfl
    | true => have := (hk (f r).1).stay _ hb; unfold bd at hr; rw [this] at hr; exact absurd hr (by decide)
  unfold bd at hr ⊢
  rw [h.same r h1]
  exact (hk _).same _ hr

theorem Mono.pure {α : Type} (x : α) : Mono (fun r => (x, r)) (fun r => (x, r)) := ⟨fun _ h => h, fun _ _ => rfl⟩

theorem Mono.map {α β : Type} {f g : RS → α × RS} (h : Mono f g) (u : α → β) : Mono (fun r => (u (f r).1, (f r).2)) (fun r => (u (g r).1, (g r).2)) :=
  h.bind (k := fun x r => (u x, r)) (l := fun x r => (u x, r)) (fun _ => Mono.pure _)

theorem Mono.plain {p s : ByteArray} (h : Pre p s) : Mono (plain p) (plain s) := by
  refine ⟨fun r hr => ?_, fun r hr => ?_⟩
  · unfold M.plain; rw [hr]; rfl
  · unfold M.plain at hr ⊢
    by_cases c : (r.bad || decide (p.size ≤ r.pos)) = true
    · rw [if_pos c] at hr; exact absurd hr (by simp)
    · rw [if_neg c]
      have c' : r.bad = false ∧ r.pos < p.size := by simpa using c
      have := h.le
      rw [if_neg (by rw [c'.1]; simp; omega), h.at_ _ c'.2]

theorem Mono.ite {α : Type} {f g f' g' : RS → α × RS} (c : Prop) [Decidable c] (h : Mono f g) (h' : Mono f' g') :
    Mono (fun r => if c then f r else f' r) (fun r => if c then g r else g' r) := by
  by_cases hc : c
  · simpa only [if_pos hc] using h
  · simpa only [if_neg hc] using h'

theorem Mono.within {p s : ByteArray} (h : Pre p s) (lo hi : Int) : Mono (within p lo hi) (within s lo hi) :=
  (Mono.plain h).bind (k := fun x r => if (decide (x < lo) || decide (hi < x)) = true then (0, ⟨r.pos, true⟩) else (x, r))
    (l := fun x r => if (decide (x < lo) || decide (hi < x)) = true then (0, ⟨r.pos, true⟩) else (x, r))
    (fun x => Mono.ite _ ⟨fun _ _ => rfl, fun _ h => absurd h (by simp)⟩ (Mono.pure _))

theorem Mono.signed {p s : ByteArray} (h : Pre p s) : Mono (signed p) (signed s) :=
  (Mono.plain h).bind (k := fun x r => (if 127 < x then x - 256 else x, r)) (l := fun x r => (if 127 < x then x - 256 else x, r)) (fun _ => Mono.pure _)

theorem Mono.word {p s : ByteArray} (h : Pre p s) : Mono (word p) (word s) :=
  (Mono.plain h).bind (k := fun a => bd (M.plain p) fun b => bd (M.plain p) fun c => bd (M.signed p) fun d r => (d * 16777216 + c * 65536 + b * 256 + a, r))
    (l := fun a => bd (M.plain s) fun b => bd (M.plain s) fun c => bd (M.signed s) fun d r => (d * 16777216 + c * 65536 + b * 256 + a, r))
    fun _ => (Mono.plain h).bind fun _ => (Mono.plain h).bind fun _ => (Mono.signed h).bind fun _ => Mono.pure _

theorem Mono.rep {α : Type} {f g : RS → α × RS} (h : Mono f g) : ∀ n, Mono (rep f n) (rep g n)
  | 0 => Mono.pure _
  | n + 1 => (Mono.rep h n).bind (k := fun l => bd f fun x r => (l ++ [x], r)) (l := fun l => bd g fun x r => (l ++ [x], r))
      fun _ => h.bind fun _ => Mono.pure _

theorem Mono.repOk {α : Type} {f g : RS → α × RS} (h : Mono f g) : ∀ n, Mono (repOk f n) (repOk g n)
  | 0 => Mono.pure _
  | n + 1 => (Mono.repOk h n).bind (k := fun l r => if r.bad = true then (l, r) else (l ++ [(f r).1], (f r).2))
      (l := fun l r => if r.bad = true then (l, r) else (l ++ [(g r).1], (g r).2))
      fun l => by
        refine ⟨fun r hr => ?_, fun r hr => ?_⟩
        · rw [if_pos hr]; exact hr
        · by_cases hb : r.bad = true
          · rw [if_pos hb] at hr; rw [hb] at hr; exact absurd hr (by decide)
          · rw [if_neg hb] at hr ⊢
            rw [if_neg hb, h.same r hr]

/-- The reader has n more bytes; and then. -/
theorem Mono.has {α : Type} {p s : ByteArray} (h : Pre p s) (n : Int) (z : α) {f g : RS → α × RS} (hf : Mono f g) :
    Mono (fun r => if (M.has p n r).1 = true then f (M.has p n r).2 else (z, (M.has p n r).2))
      (fun r => if (M.has s n r).1 = true then g (M.has s n r).2 else (z, (M.has s n r).2)) := by
  have hle := h.le
  refine ⟨fun r hr => ?_, fun r hr => ?_⟩
  · unfold M.has; split <;> rename_i c <;> simp only [hr, Bool.not_true, Bool.false_eq_true, if_false]
  · unfold M.has at hr ⊢
    by_cases c : (p.size : Int) - r.pos < n
    · rw [if_pos c] at hr; simp at hr
    · have c' : ¬ (s.size : Int) - r.pos < n := by omega
      rw [if_neg c] at hr
      rw [if_neg c, if_neg c']
      dsimp only at hr ⊢
      by_cases b : (!r.bad) = true
      · rw [if_pos b] at hr; rw [if_pos b, if_pos b]; exact hf.same r hr
      · rw [if_neg b, if_neg b]

theorem Mono.cells {p s : ByteArray} (h : Pre p s) (n : Int) : Mono (cells p n) (cells s n) :=
  Mono.has h n [] (Mono.rep (Mono.signed h) n.toNat)
theorem Mono.words {p s : ByteArray} (h : Pre p s) (n : Int) : Mono (words p n) (words s n) :=
  Mono.has h (4 * n) [] (Mono.rep (Mono.word h) n.toNat)

theorem Mono.tensor {p s : ByteArray} (h : Pre p s) : Mono (tensor p) (tensor s) :=
  (Mono.within h 0 3).bind
    (k := fun k => bd (M.plain p) fun a => bd (M.plain p) fun b => bd (M.plain p) fun c => bd (M.signed p) fun z =>
      bd (fun r => if k = 1 then M.cells p (a * b * c) r else if k = 2 then M.words p (a * b * c) r else ([], r)) fun d r => ((⟨k, a, b, c, z, d⟩ : Tn), r))
    (l := fun k => bd (M.plain s) fun a => bd (M.plain s) fun b => bd (M.plain s) fun c => bd (M.signed s) fun z =>
      bd (fun r => if k = 1 then M.cells s (a * b * c) r else if k = 2 then M.words s (a * b * c) r else ([], r)) fun d r => ((⟨k, a, b, c, z, d⟩ : Tn), r))
    fun _ => (Mono.plain h).bind fun _ => (Mono.plain h).bind fun _ => (Mono.plain h).bind fun _ => (Mono.signed h).bind fun _ =>
      (Mono.ite _ (Mono.cells h _) (Mono.ite _ (Mono.words h _) (Mono.pure _))).bind fun _ => Mono.pure _

theorem Mono.tensors {p s : ByteArray} (h : Pre p s) : Mono (tensors p) (tensors s) :=
  (Mono.plain h).bind (k := fun n : Int => M.repOk (M.tensor p) n.toNat) (l := fun n : Int => M.repOk (M.tensor s) n.toNat) fun _ => Mono.repOk (Mono.tensor h) _

theorem Mono.scale {p s : ByteArray} (h : Pre p s) : Mono (scale p) (scale s) :=
  (Mono.word h).bind (k := fun m => bd (M.signed p) fun v r => ((⟨m, v⟩ : Sc), r)) (l := fun m => bd (M.signed s) fun v r => ((⟨m, v⟩ : Sc), r))
    fun _ => (Mono.signed h).bind fun _ => Mono.pure _

theorem Mono.ownNumbers {p s : ByteArray} (h : Pre p s) (o : Op) : Mono (ownNumbers p o) (ownNumbers s o) := by
  have e : ∀ s : ByteArray, M.ownNumbers s o = bd (fun r => if o.kind = 1 ∨ o.kind = 2 then bd (M.plain s) (fun st => bd (M.within s 0 1) fun sm r => ({ o with stride := st, same := sm == 1 }, r)) r
      else if o.kind = 5 ∨ o.kind = 6 then bd (M.plain s) (fun sz => bd (M.plain s) fun st r => ({ o with size := sz, stride := st }, r)) r
      else if o.kind = 8 then bd (M.plain s) (fun a => bd (M.plain s) fun b => bd (M.plain s) fun l => bd (M.plain s) fun g r => ({ o with above := a, below := b, left := l, right := g }, r)) r
      else (o, r))
    (fun o1 => bd (fun r => if hasWeights o.kind = true then bd (M.rep (M.scale s) 1) (fun l r => ({ o1 with scales := l }, r)) r else (o1, r))
      fun o2 => bd (fun r => if o.kind = 4 then bd (M.rep (M.scale s) 3) (fun l r => ({ o2 with scales := l }, r)) r else (o2, r))
      fun o3 r => if 1 ≤ o.kind ∧ o.kind ≤ 7 then bd (M.signed s) (fun lo => bd (M.signed s) fun hi r => ({ o3 with lo := lo, hi := hi }, r)) r else (o3, r)) := fun s => rfl
  rw [e p, e s]
  refine Mono.bind (Mono.ite _ ((Mono.plain h).bind fun _ => (Mono.within h 0 1).bind fun _ => Mono.pure _)
    (Mono.ite _ ((Mono.plain h).bind fun _ => (Mono.plain h).bind fun _ => Mono.pure _)
      (Mono.ite _ ((Mono.plain h).bind fun _ => (Mono.plain h).bind fun _ => (Mono.plain h).bind fun _ => (Mono.plain h).bind fun _ => Mono.pure _) (Mono.pure _)))) fun o1 => ?_
  refine Mono.bind (Mono.ite _ ((Mono.rep (Mono.scale h) 1).bind fun _ => Mono.pure _) (Mono.pure _)) fun o2 => ?_
  refine Mono.bind (Mono.ite _ ((Mono.rep (Mono.scale h) 3).bind fun _ => Mono.pure _) (Mono.pure _)) fun o3 => ?_
  exact Mono.ite _ ((Mono.signed h).bind fun _ => (Mono.signed h).bind fun _ => Mono.pure _) (Mono.pure _)

theorem Mono.op {p s : ByteArray} (h : Pre p s) : Mono (op p) (op s) := by
  have e : ∀ s : ByteArray, M.op s = bd (M.within s 1 10) fun k => bd (M.plain s) fun a =>
      bd (fun r => if hasWeights k = true then bd (M.plain s) (fun u => bd (M.plain s) fun v r => ((u, v), r)) r else (((0 : Int), (0 : Int)), r)) fun w =>
      bd (fun r => if readsTwo k = true then M.plain s r else (0, r)) fun b => bd (M.plain s) fun t =>
      M.ownNumbers s { kind := k, a := a, b := b, weights := w.1, biases := w.2, to := t, size := 0, stride := 0, same := false, scales := [], lo := 0, hi := 0, above := 0, below := 0, left := 0, right := 0 } := fun s => rfl
  rw [e p, e s]
  refine (Mono.within h 1 10).bind fun k => (Mono.plain h).bind fun a => ?_
  refine Mono.bind (Mono.ite _ ((Mono.plain h).bind fun _ => (Mono.plain h).bind fun _ => Mono.pure _) (Mono.pure _)) fun w => ?_
  refine Mono.bind (Mono.ite _ (Mono.plain h) (Mono.pure _)) fun b => (Mono.plain h).bind fun t => Mono.ownNumbers h _

theorem Mono.ops {p s : ByteArray} (h : Pre p s) : Mono (ops p) (ops s) :=
  (Mono.plain h).bind (k := fun n : Int => M.repOk (M.op p) n.toNat) (l := fun n : Int => M.repOk (M.op s) n.toNat) fun _ => Mono.repOk (Mono.op h) _

theorem Mono.outs {p s : ByteArray} (h : Pre p s) : Mono (outs p) (outs s) :=
  (Mono.plain h).bind (k := fun n r => if (M.has p n r).1 = true then M.rep (M.plain p) n.toNat (M.has p n r).2 else ([], (M.has p n r).2))
    (l := fun n r => if (M.has s n r).1 = true then M.rep (M.plain s) n.toNat (M.has s n r).2 else ([], (M.has s n r).2))
    fun n => Mono.has h n [] (Mono.rep (Mono.plain h) n.toNat)

theorem readAll_pre {p s : ByteArray} (h : Pre p s) (hb : (readAll p).2.bad = false) : readAll s = readAll p := by
  have e : ∀ s : ByteArray, M.readAll s = bd (M.tensors s) (fun t => bd (M.ops s) fun o => bd (M.outs s) fun u r => ((⟨t, o, u⟩ : Md), r)) (M.skipHead s) := fun s => rfl
  have hM : Mono (bd (M.tensors p) (fun t => bd (M.ops p) fun o => bd (M.outs p) fun u r => ((⟨t, o, u⟩ : Md), r)))
      (bd (M.tensors s) (fun t => bd (M.ops s) fun o => bd (M.outs s) fun u r => ((⟨t, o, u⟩ : Md), r))) :=
    (Mono.tensors h).bind fun _ => (Mono.ops h).bind fun _ => (Mono.outs h).bind fun _ => Mono.pure _
  rw [e p] at hb ⊢
  rw [e s]
  have hh : (M.skipHead p).bad = false := by
    cases hs : (M.skipHead p).bad with
    | false => rfl
    | true => rw [hM.stay _ hs] at hb; exact absurd hb (by decide)
  have hs : M.skipHead s = M.skipHead p := by
    unfold M.skipHead at hh ⊢
    by_cases c : (decide (p.size < 4) || decide (p.data.toList.take 4 ≠ headL)) = true
    · rw [if_pos c] at hh; exact absurd hh (by decide)
    · rw [if_neg c]
      have c' : 4 ≤ p.size ∧ p.data.toList.take 4 = headL := by simpa using c
      have := h.le
      rw [if_neg (by rw [h.head c'.1, c'.2]; simp; omega)]
  rw [hs]
  exact hM.same _ hb

theorem parse_more {p s : ByteArray} (h : Pre p s) (hlt : p.size < s.size) (hp : parse p = 0) : parse s = 1 ∨ parse s = 2 := by
  unfold parse at hp ⊢
  by_cases c : 4096 < s.size
  · exact .inl (if_pos c)
  · rw [if_neg c]
    rw [if_neg (by omega)] at hp
    by_cases b : ((readAll p).2.bad || decide ((readAll p).2.pos ≠ p.size)) = true
    · rw [if_pos b] at hp; exact absurd hp (by decide)
    · have b' : (readAll p).2.bad = false ∧ (readAll p).2.pos = p.size := by simpa using b
      rw [readAll_pre h b'.1, if_pos (by rw [b'.2]; simp; omega)]
      exact .inr rfl

theorem parse_less {p s : ByteArray} (h : Pre p s) (hlt : p.size < s.size) (hs : parse s = 0) : parse p = 2 := by
  unfold parse at hs ⊢
  by_cases c : 4096 < s.size
  · rw [if_pos c] at hs; exact absurd hs (by decide)
  · rw [if_neg c] at hs
    rw [if_neg (by omega)]
    by_cases b : ((readAll p).2.bad || decide ((readAll p).2.pos ≠ p.size)) = true
    · exact if_pos b
    · have b' : (readAll p).2.bad = false ∧ (readAll p).2.pos = p.size := by simpa using b
      rw [readAll_pre h b'.1, b'.1, b'.2, if_pos (by simp; omega)] at hs
      exact absurd hs (by decide)

/-- A model has at least a byte. -/
theorem parse_pos {s : ByteArray} (hs : parse s = 0) : 4 ≤ s.size := by
  by_cases c : s.size < 4
  · exfalso
    have hd : (M.skipHead s).bad = true := by unfold M.skipHead; rw [if_pos (by simp [c])]
    have hP : Pre s s := ⟨Nat.le_refl _, fun _ _ => rfl, fun _ => rfl⟩
    have hM : Mono (bd (M.tensors s) (fun t => bd (M.ops s) fun o => bd (M.outs s) fun u r => ((⟨t, o, u⟩ : Md), r)))
        (bd (M.tensors s) (fun t => bd (M.ops s) fun o => bd (M.outs s) fun u r => ((⟨t, o, u⟩ : Md), r))) :=
      (Mono.tensors hP).bind fun _ => (Mono.ops hP).bind fun _ => (Mono.outs hP).bind fun _ => Mono.pure _
    have hb : (readAll s).2.bad = true := hM.stay _ hd
    unfold parse at hs
    rw [if_neg (by omega), hb, if_pos (by simp)] at hs
    exact absurd hs (by decide)
  · omega

/-- What read answers of a model that is one. -/
theorem read_parse {s : ByteArray} (h : read s = 0) : parse s = 0 := by
  unfold read at h
  by_cases c : parse s ≠ 0
  · rw [if_pos c] at h; exact h
  · exact Classical.not_not.mp c

theorem read_less {p s : ByteArray} (h : Pre p s) (hlt : p.size < s.size) (hs : read s = 0) : read p = 2 := by
  have := parse_less h hlt (read_parse hs)
  unfold read; rw [this]; rfl

theorem read_more {p s : ByteArray} (h : Pre p s) (hlt : p.size < s.size) (hp : read p = 0) : read s = 1 ∨ read s = 2 := by
  unfold read
  rcases parse_more h hlt (read_parse hp) with e | e <;> rw [e] <;> simp

end M
end Go.Proofs.YtcnhfffgbamonaaGreat

/-
  What is written is read: the reader over the bytes that the laws' models write.
-/
namespace Go.Proofs.YtcnhfffgbamonaaGreat

/-- From p on s begins with l. -/
def At (s : ByteArray) (p : Nat) (l : List UInt8) : Prop := p ≤ s.size ∧ ∃ r, s.data.toList.drop p = l ++ r

theorem At.app {s : ByteArray} {p : Nat} {a b : List UInt8} (h : At s p (a ++ b)) : At s p a ∧ At s (p + a.length) b := by
  obtain ⟨hp, r, h⟩ := h
  have hl : a.length ≤ (s.data.toList.drop p).length := by rw [h]; simp
  have hsz : s.data.toList.length = s.size := Array.length_toList
  rw [List.length_drop, hsz] at hl
  refine ⟨⟨hp, b ++ r, by rw [h, List.append_assoc]⟩, by omega, r, ?_⟩
  rw [← List.drop_drop, h, List.append_assoc, List.drop_left]

theorem At.len {s : ByteArray} {p : Nat} {a : List UInt8} (h : At s p a) : p + a.length ≤ s.size := by
  obtain ⟨hp, r, h⟩ := h
  have hl : a.length ≤ (s.data.toList.drop p).length := by rw [h]; simp
  have hsz : s.data.toList.length = s.size := Array.length_toList
  rw [List.length_drop, hsz] at hl
  omega

theorem At.byte {s : ByteArray} {p : Nat} {b : UInt8} (h : At s p [b]) : p < s.size ∧ M.bt s p = b.toNat := by
  have hl := h.len
  obtain ⟨hp, r, h⟩ := h
  simp at hl
  refine ⟨by omega, ?_⟩
  unfold M.bt
  have : s.data.toList.getD p 0 = b := by
    have e := congrArg (fun l => l.getD 0 0) h
    simpa [List.getD, List.getElem?_drop] using e
  rw [this]

/-- Behind l, which stands where it is, the reader f answers x. -/
def Gives {α : Type} (f : ByteArray → M.RS → α × M.RS) (l : List UInt8) (x : α) : Prop :=
  ∀ s p, At s p l → f s ⟨p, false⟩ = (x, ⟨p + l.length, false⟩)

def sq {α β : Type} (f : ByteArray → M.RS → α × M.RS) (k : α → ByteArray → M.RS → β × M.RS) (s : ByteArray) (r : M.RS) : β × M.RS := k (f s r).1 s (f s r).2

theorem Gives.seq {α β : Type} {f : ByteArray → M.RS → α × M.RS} {k : α → ByteArray → M.RS → β × M.RS} {l l' : List UInt8} {x : α} {y : β}
    (h : Gives f l x) (hk : Gives (k x) l' y) : Gives (sq f k) (l ++ l') y := by
  intro s p ha
  obtain ⟨h1, h2⟩ := ha.app
  unfold sq
  rw [h s p h1]
  rw [hk s _ h2, List.length_append, Nat.add_assoc]

theorem Gives.pure {α : Type} (x : α) : Gives (fun _ r => (x, r)) [] x := fun _ _ _ => rfl

theorem Gives.plain (v : Int) (h0 : 0 ≤ v) (h1 : v ≤ 255) : Gives M.plain [b8 v] v := by
  intro s p h
  obtain ⟨h2, h3⟩ := h.byte
  unfold M.plain
  rw [if_neg (by simp; omega), h3, b8_toNat]
  congr 1
  omega

theorem Gives.within (lo hi v : Int) (h0 : 0 ≤ v) (h1 : v ≤ 255) (h2 : lo ≤ v) (h3 : v ≤ hi) : Gives (fun s => M.within s lo hi) [b8 v] v := by
  intro s p h
  dsimp only
  unfold M.within
  rw [Gives.plain v h0 h1 s p h]
  dsimp only
  rw [if_neg (by simp; omega)]

theorem Gives.signed (v : Int) (h0 : -128 ≤ v) (h1 : v ≤ 127) : Gives M.signed [b8 v] v := by
  intro s p h
  obtain ⟨h2, h3⟩ := h.byte
  unfold M.signed M.plain
  rw [if_neg (by simp; omega), h3, b8_toNat]
  dsimp only
  congr 1
  split <;> omega

theorem Gives.plainB (v : Int) : Gives M.plain [b8 v] (v % 256) := by
  have := Gives.plain (v % 256) (Int.emod_nonneg _ (by decide)) (by have := Int.emod_lt_of_pos v (b := 256) (by decide); omega)
  have e : b8 (v % 256) = b8 v := by unfold b8; rw [Int.emod_emod_of_dvd _ (Int.dvd_refl _)]
  rwa [e] at this

theorem Gives.word (v : Int) (h0 : -2147483648 ≤ v) (h1 : v ≤ 2147483647) : Gives M.word (w4 v) v := by
  have h : Gives (sq M.plain fun a => sq M.plain fun b => sq M.plain fun c => sq M.signed fun d _ r => (d * 16777216 + c * 65536 + b * 256 + a, r))
      ([b8 v] ++ ([b8 (v / 256)] ++ ([b8 (v / 65536)] ++ ([b8 (v / 16777216)] ++ []))))
      (v / 16777216 * 16777216 + v / 65536 % 256 * 65536 + v / 256 % 256 * 256 + v % 256) :=
    (Gives.plainB v).seq ((Gives.plainB _).seq ((Gives.plainB _).seq ((Gives.signed (v / 16777216) (by omega) (by omega)).seq (Gives.pure _))))
  have e : v / 16777216 * 16777216 + v / 65536 % 256 * 65536 + v / 256 % 256 * 256 + v % 256 = v := by omega
  rw [e] at h
  exact h

theorem Gives.rep {α : Type} {f : ByteArray → M.RS → α × M.RS} (enc : α → List UInt8) (xs : List α) (h : ∀ x ∈ xs, Gives f (enc x) x) :
    Gives (fun s => M.rep (f s) xs.length) (xs.flatMap enc) xs := by
  suffices H : ∀ k, k ≤ xs.length → Gives (fun s => M.rep (f s) k) ((xs.take k).flatMap enc) (xs.take k) by
    have := H xs.length (Nat.le_refl _)
    rwa [List.take_length] at this
  intro k
  induction k with
  | zero => intro _; exact Gives.pure _
  | succ k ih =>
    intro hk
    have hx : xs[k]? = some xs[k] := List.getElem?_eq_getElem (by omega)
    have e : xs.take (k + 1) = xs.take k ++ [xs[k]] := by rw [List.take_add_one, hx]; rfl
    rw [e, List.flatMap_append]
    have e1 : [xs[k]].flatMap enc = enc xs[k] ++ [] := by simp
    rw [e1]
    exact (ih (by omega)).seq (k := fun l => sq f fun x _ r => (l ++ [x], r)) ((h _ (List.getElem_mem _)).seq (Gives.pure _))

theorem Gives.repOk {α : Type} {f : ByteArray → M.RS → α × M.RS} (enc : α → List UInt8) (xs : List α) (h : ∀ x ∈ xs, Gives f (enc x) x) :
    Gives (fun s => M.repOk (f s) xs.length) (xs.flatMap enc) xs := by
  suffices H : ∀ k, k ≤ xs.length → Gives (fun s => M.repOk (f s) k) ((xs.take k).flatMap enc) (xs.take k) by
    have := H xs.length (Nat.le_refl _)
    rwa [List.take_length] at this
  intro k
  induction k with
  | zero => intro _; exact Gives.pure _
  | succ k ih =>
    intro hk
    have hx : xs[k]? = some xs[k] := List.getElem?_eq_getElem (by omega)
    have e : xs.take (k + 1) = xs.take k ++ [xs[k]] := by rw [List.take_add_one, hx]; rfl
    rw [e, List.flatMap_append]
    intro s p ha
    obtain ⟨h1, h2⟩ := ha.app
    have e1 : [xs[k]].flatMap enc = enc xs[k] := by simp
    rw [e1] at h2 ⊢
    have i1 := ih (by omega) s p h1
    dsimp only at i1 ⊢
    unfold M.repOk
    rw [i1]
    dsimp only
    rw [if_neg (by decide), h _ (List.getElem_mem _) s _ h2, List.length_append, Nat.add_assoc]

theorem Gives.has {α : Type} {f : ByteArray → M.RS → α × M.RS} {l : List UInt8} {x z : α} (n : Int) (hn : n ≤ l.length) (h : Gives f l x) :
    Gives (fun s r => if (M.has s n r).1 = true then f s (M.has s n r).2 else (z, (M.has s n r).2)) l x := by
  intro s p ha
  have hl := ha.len
  have e : M.has s n ⟨p, false⟩ = (true, ⟨p, false⟩) := by
    unfold M.has; rw [if_neg (by dsimp only; omega)]; rfl
  dsimp only
  rw [e]
  exact h s p ha

theorem flat_one (xs : List Int) : (xs.flatMap fun x => [b8 x]).length = xs.length := by induction xs <;> simp_all
theorem flat_four (xs : List Int) : (xs.flatMap w4).length = 4 * xs.length := by
  induction xs with
  | nil => rfl
  | cons a l ih => rw [List.flatMap_cons, List.length_append, ih, w4_len, List.length_cons]; omega

theorem Gives.cells (n : Int) (xs : List Int) (hn : n = xs.length) (h : ∀ x ∈ xs, -128 ≤ x ∧ x ≤ 127) : Gives (fun s => M.cells s n) (xs.flatMap fun x => [b8 x]) xs := by
  subst hn
  exact Gives.has (α := List Int) (z := []) _ (by rw [flat_one]; omega) (Gives.rep (f := M.signed) (fun x => [b8 x]) xs fun x hx => Gives.signed x (h x hx).1 (h x hx).2)

theorem Gives.words (n : Int) (xs : List Int) (hn : n = xs.length) (h : ∀ x ∈ xs, -2147483648 ≤ x ∧ x ≤ 2147483647) : Gives (fun s => M.words s n) (xs.flatMap w4) xs := by
  subst hn
  exact Gives.has (α := List Int) (z := []) _ (by rw [flat_four]; omega) (Gives.rep (f := M.word) w4 xs fun x hx => Gives.word x (h x hx).1 (h x hx).2)

def encT (t : M.Tn) : List UInt8 := tbytes t.kind t.h t.w t.c t.zero t.data

/-- What can be written as a tensor. -/
structure FitT (t : M.Tn) : Prop where
  k0 : 0 ≤ t.kind
  k1 : t.kind ≤ 3
  h0 : 0 ≤ t.h
  h1 : t.h ≤ 255
  w0 : 0 ≤ t.w
  w1 : t.w ≤ 255
  c0 : 0 ≤ t.c
  c1 : t.c ≤ 255
  z0 : -128 ≤ t.zero
  z1 : t.zero ≤ 127
  none_ : t.kind ≠ 1 → t.kind ≠ 2 → t.data = []
  one : t.kind = 1 → t.h * t.w * t.c = t.data.length ∧ ∀ x ∈ t.data, -128 ≤ x ∧ x ≤ 127
  two : t.kind = 2 → t.h * t.w * t.c = t.data.length ∧ ∀ x ∈ t.data, -2147483648 ≤ x ∧ x ≤ 2147483647

theorem Gives.tensor (t : M.Tn) (h : FitT t) : Gives M.tensor (encT t) t := by
  have hd : Gives (fun s r => if t.kind = 1 then M.cells s (t.h * t.w * t.c) r else if t.kind = 2 then M.words s (t.h * t.w * t.c) r else ([], r)) (dataBytes t.kind t.data) t.data := by
    unfold dataBytes
    by_cases h1 : t.kind = 1
    · have e2 : ¬ t.kind = 2 := by omega
      simp only [if_pos h1, if_neg e2]
      exact Gives.cells _ _ (h.one h1).1 (h.one h1).2
    · by_cases h2 : t.kind = 2
      · simp only [if_neg h1, if_pos h2]
        exact Gives.words _ _ (h.two h2).1 (h.two h2).2
      · rw [h.none_ h1 h2]
        simp only [if_neg h1, if_neg h2]
        exact Gives.pure _
  have H : Gives (sq (fun s => M.within s 0 3) fun k => sq M.plain fun a => sq M.plain fun b => sq M.plain fun c => sq M.signed fun z =>
      sq (fun s r => if k = 1 then M.cells s (a * b * c) r else if k = 2 then M.words s (a * b * c) r else ([], r)) fun d _ r => ((⟨k, a, b, c, z, d⟩ : M.Tn), r))
      ([b8 t.kind] ++ ([b8 t.h] ++ ([b8 t.w] ++ ([b8 t.c] ++ ([b8 t.zero] ++ (dataBytes t.kind t.data ++ [])))))) t :=
    (Gives.within 0 3 t.kind h.k0 (by have := h.k1; omega) h.k0 h.k1).seq ((Gives.plain _ h.h0 h.h1).seq ((Gives.plain _ h.w0 h.w1).seq ((Gives.plain _ h.c0 h.c1).seq
      ((Gives.signed _ h.z0 h.z1).seq (hd.seq (Gives.pure _))))))
  have e : encT t = [b8 t.kind] ++ ([b8 t.h] ++ ([b8 t.w] ++ ([b8 t.c] ++ ([b8 t.zero] ++ (dataBytes t.kind t.data ++ []))))) := by
    unfold encT tbytes; simp
  rw [e]
  exact H

theorem Gives.tensors (ts : List M.Tn) (h : ∀ t ∈ ts, FitT t) (hn : ts.length ≤ 255) : Gives M.tensors ([b8 ts.length] ++ ts.flatMap encT) ts := by
  have h1 := Gives.plain (ts.length : Int) (by omega) (by omega)
  exact h1.seq (k := fun n s => M.repOk (M.tensor s) n.toNat) (Gives.repOk (f := M.tensor) encT ts fun t ht => Gives.tensor t (h t ht))

/-- A multiplier and a shift that can be written. -/
structure FitS (c : M.Sc) : Prop where
  m0 : -2147483648 ≤ c.mult
  m1 : c.mult ≤ 2147483647
  s0 : -128 ≤ c.shift
  s1 : c.shift ≤ 127

def encS (c : M.Sc) : List UInt8 := w4 c.mult ++ [b8 c.shift]

theorem Gives.scale (c : M.Sc) (h : FitS c) : Gives M.scale (encS c) c := by
  have H : Gives (sq M.word fun m => sq M.signed fun v _ r => ((⟨m, v⟩ : M.Sc), r)) (w4 c.mult ++ ([b8 c.shift] ++ [])) c :=
    (Gives.word _ h.m0 h.m1).seq ((Gives.signed _ h.s0 h.s1).seq (Gives.pure _))
  exact H

/-- The numbers that stand behind the tensors' numbers. -/
def ownBytes (o : M.Op) : List UInt8 :=
  ((if o.kind = 1 ∨ o.kind = 2 then [b8 o.stride, b8 (if o.same = true then 1 else 0)]
  else if o.kind = 5 ∨ o.kind = 6 then [b8 o.size, b8 o.stride]
  else if o.kind = 8 then [b8 o.above, b8 o.below, b8 o.left, b8 o.right] else []) ++ o.scales.flatMap encS) ++
  (if 1 ≤ o.kind ∧ o.kind ≤ 7 then [b8 o.lo, b8 o.hi] else [])

def insOf (o : M.Op) : List Int :=
  o.a :: ((if M.hasWeights o.kind = true then [o.weights, o.biases] else []) ++ (if M.readsTwo o.kind = true then [o.b] else []))

def encO (o : M.Op) : List UInt8 := obytes o.kind (insOf o) o.to (ownBytes o)

def Byte (v : Int) : Prop := 0 ≤ v ∧ v ≤ 255
def Cell (v : Int) : Prop := -128 ≤ v ∧ v ≤ 127

/-- What can be written as an operator. -/
structure FitO (o : M.Op) : Prop where
  k0 : 1 ≤ o.kind
  k1 : o.kind ≤ 10
  a : Byte o.a
  b : Byte o.b
  ws : Byte o.weights
  bs : Byte o.biases
  to : Byte o.to
  noW : M.hasWeights o.kind = false → o.weights = 0 ∧ o.biases = 0
  noB : M.readsTwo o.kind = false → o.b = 0
  size : Byte o.size
  stride : Byte o.stride
  above : Byte o.above
  below : Byte o.below
  left : Byte o.left
  right : Byte o.right
  lo : Cell o.lo
  hi : Cell o.hi
  noSize : ¬ (o.kind = 5 ∨ o.kind = 6) → o.size = 0
  noStride : ¬ (o.kind = 1 ∨ o.kind = 2 ∨ o.kind = 5 ∨ o.kind = 6) → o.stride = 0
  noSame : ¬ (o.kind = 1 ∨ o.kind = 2) → o.same = false
  noPad : o.kind ≠ 8 → o.above = 0 ∧ o.below = 0 ∧ o.left = 0 ∧ o.right = 0
  noSpan : ¬ (1 ≤ o.kind ∧ o.kind ≤ 7) → o.lo = 0 ∧ o.hi = 0
  scales : o.scales.length = if M.hasWeights o.kind = true then 1 else if o.kind = 4 then 3 else 0
  fits : ∀ c ∈ o.scales, FitS c

theorem Gives.cast {α : Type} {f : ByteArray → M.RS → α × M.RS} {l l' : List UInt8} {x x' : α} (h : Gives f l x) (hl : l = l') (hx : x = x') : Gives f l' x' := by
  subst hl hx; exact h

/-- The first part: what a kind has of its own. -/
def own1 (o : M.Op) (s : ByteArray) (r : M.RS) : M.Op × M.RS :=
  if o.kind = 1 ∨ o.kind = 2 then sq M.plain (fun st => sq (fun s => M.within s 0 1) fun sm _ r => ({ o with stride := st, same := sm == 1 }, r)) s r
  else if o.kind = 5 ∨ o.kind = 6 then sq M.plain (fun sz => sq M.plain fun st _ r => ({ o with size := sz, stride := st }, r)) s r
  else if o.kind = 8 then sq M.plain (fun a => sq M.plain fun b => sq M.plain fun l => sq M.plain fun g _ r => ({ o with above := a, below := b, left := l, right := g }, r)) s r
  else (o, r)
def own2 (k : Int) (o : M.Op) (s : ByteArray) (r : M.RS) : M.Op × M.RS :=
  if M.hasWeights k = true then sq (fun s => M.rep (M.scale s) 1) (fun l _ r => ({ o with scales := l }, r)) s r else (o, r)
def own3 (k : Int) (o : M.Op) (s : ByteArray) (r : M.RS) : M.Op × M.RS :=
  if k = 4 then sq (fun s => M.rep (M.scale s) 3) (fun l _ r => ({ o with scales := l }, r)) s r else (o, r)
def own4 (k : Int) (o : M.Op) (s : ByteArray) (r : M.RS) : M.Op × M.RS :=
  if 1 ≤ k ∧ k ≤ 7 then sq M.signed (fun lo => sq M.signed fun hi _ r => ({ o with lo := lo, hi := hi }, r)) s r else (o, r)

theorem own_eq (o : M.Op) : (fun s => M.ownNumbers s o) = sq (own1 o) fun o1 => sq (own2 o.kind o1) fun o2 => sq (own3 o.kind o2) fun o3 => own4 o.kind o3 := rfl

/-- An operator ahead of its own numbers. -/
def bare (o : M.Op) : M.Op := { kind := o.kind, a := o.a, b := o.b, weights := o.weights, biases := o.biases, to := o.to, size := 0, stride := 0, same := false, scales := [], lo := 0, hi := 0, above := 0, below := 0, left := 0, right := 0 }

theorem hw_iff (k : Int) : M.hasWeights k = true ↔ k = 1 ∨ k = 2 ∨ k = 3 := by unfold M.hasWeights; simp [or_assoc]
theorem rt_iff (k : Int) : M.readsTwo k = true ↔ k = 4 ∨ k = 10 := by unfold M.readsTwo; simp

theorem Gives.own (o : M.Op) (h : FitO o) : Gives (fun s => M.ownNumbers s (bare o)) (ownBytes o) o := by
  have h1 : Gives (own1 (bare o)) (if o.kind = 1 ∨ o.kind = 2 then [b8 o.stride, b8 (if o.same = true then 1 else 0)]
      else if o.kind = 5 ∨ o.kind = 6 then [b8 o.size, b8 o.stride]
      else if o.kind = 8 then [b8 o.above, b8 o.below, b8 o.left, b8 o.right] else []) { o with scales := [], lo := 0, hi := 0 } := by
    unfold own1
    have hk : (bare o).kind = o.kind := rfl
    rw [hk]
    by_cases k1 : o.kind = 1 ∨ o.kind = 2
    · simp only [if_pos k1]
      have e := h.noSize (by omega)
      have e2 := h.noPad (by omega)
      refine ((Gives.plain o.stride h.stride.1 h.stride.2).seq ((Gives.within 0 1 (if o.same = true then 1 else 0) (by split <;> omega) (by split <;> omega) (by split <;> omega) (by split <;> omega)).seq (Gives.pure _))).cast rfl ?_
      unfold bare
      rw [e, e2.1, e2.2.1, e2.2.2.1, e2.2.2.2]
      cases o.same <;> rfl
    · by_cases k2 : o.kind = 5 ∨ o.kind = 6
      · simp only [if_neg k1, if_pos k2]
        have e := h.noSame k1
        have e2 := h.noPad (by omega)
        refine ((Gives.plain _ h.size.1 h.size.2).seq ((Gives.plain _ h.stride.1 h.stride.2).seq (Gives.pure _))).cast rfl ?_
        unfold bare
        rw [e, e2.1, e2.2.1, e2.2.2.1, e2.2.2.2]
      · have e0 := h.noSize k2
        have e1 := h.noStride (by omega)
        have e2 := h.noSame k1
        by_cases k3 : o.kind = 8
        · simp only [if_neg k1, if_neg k2, if_pos k3]
          refine ((Gives.plain _ h.above.1 h.above.2).seq ((Gives.plain _ h.below.1 h.below.2).seq ((Gives.plain _ h.left.1 h.left.2).seq ((Gives.plain _ h.right.1 h.right.2).seq (Gives.pure _))))).cast rfl ?_
          unfold bare
          rw [e0, e1, e2]
        · simp only [if_neg k1, if_neg k2, if_neg k3]
          have e3 := h.noPad k3
          refine (Gives.pure _).cast rfl ?_
          unfold bare
          rw [e0, e1, e2, e3.1, e3.2.1, e3.2.2.1, e3.2.2.2]
  have h23 : Gives (sq (own2 o.kind { o with scales := [], lo := 0, hi := 0 }) fun o2 => own3 o.kind o2) (o.scales.flatMap encS) { o with lo := 0, hi := 0 } := by
    have hr := Gives.rep (f := M.scale) encS o.scales fun c hc => Gives.scale c (h.fits c hc)
    have hl := h.scales
    by_cases k1 : M.hasWeights o.kind = true
    · have k4 : ¬ o.kind = 4 := by have := (hw_iff _).mp k1; omega
      rw [if_pos k1] at hl
      rw [hl] at hr
      have e2 : own2 o.kind { o with scales := [], lo := 0, hi := 0 } = sq (fun s => M.rep (M.scale s) 1) (fun l _ r => ({ { o with scales := [], lo := 0, hi := 0 } with scales := l }, r)) := by
        funext s r; unfold own2; rw [if_pos k1]
      have e3 : ∀ o2, own3 o.kind o2 = fun _ r => (o2, r) := by intro o2; funext s r; unfold own3; rw [if_neg k4]
      rw [e2]
      refine ((hr.seq (Gives.pure _)).seq (k := fun o2 => own3 o.kind o2) (l' := []) (by rw [e3]; exact Gives.pure _)).cast (by simp) rfl
    · rw [if_neg k1] at hl
      have e2 : own2 o.kind { o with scales := [], lo := 0, hi := 0 } = fun _ r => ({ o with scales := [], lo := 0, hi := 0 }, r) := by
        funext s r; unfold own2; rw [if_neg k1]
      rw [e2]
      refine (Gives.seq (Gives.pure _) ?_ : Gives _ ([] ++ _) _)
      by_cases k4 : o.kind = 4
      · rw [if_pos k4] at hl
        rw [hl] at hr
        have e3 : own3 o.kind { o with scales := [], lo := 0, hi := 0 } = sq (fun s => M.rep (M.scale s) 3) (fun l _ r => ({ { o with scales := [], lo := 0, hi := 0 } with scales := l }, r)) := by
          funext s r; unfold own3; rw [if_pos k4]
        rw [e3]
        exact (hr.seq (Gives.pure _)).cast (List.append_nil _) rfl
      · rw [if_neg k4] at hl
        have e3 : own3 o.kind { o with scales := [], lo := 0, hi := 0 } = fun _ r => ({ o with scales := [], lo := 0, hi := 0 }, r) := by
          funext s r; unfold own3; rw [if_neg k4]
        rw [e3]
        have hn : o.scales = [] := List.eq_nil_of_length_eq_zero hl
        refine (Gives.pure _).cast (by rw [hn]; rfl) ?_
        rw [hn]
  have h4 : Gives (own4 o.kind { o with lo := 0, hi := 0 }) (if 1 ≤ o.kind ∧ o.kind ≤ 7 then [b8 o.lo, b8 o.hi] else []) o := by
    by_cases k : 1 ≤ o.kind ∧ o.kind ≤ 7
    · have e : own4 o.kind { o with lo := 0, hi := 0 } = sq M.signed (fun lo => sq M.signed fun hi _ r => ({ { o with lo := 0, hi := 0 } with lo := lo, hi := hi }, r)) := by
        funext s r; unfold own4; rw [if_pos k]
      rw [e, if_pos k]
      exact (Gives.signed _ h.lo.1 h.lo.2).seq ((Gives.signed _ h.hi.1 h.hi.2).seq (Gives.pure _))
    · have e : own4 o.kind { o with lo := 0, hi := 0 } = fun _ r => ({ o with lo := 0, hi := 0 }, r) := by
        funext s r; unfold own4; rw [if_neg k]
      rw [e, if_neg k]
      have := h.noSpan k
      refine (Gives.pure _).cast rfl ?_
      obtain ⟨t1, t2⟩ := this
      cases o
      simp only at t1 t2
      subst t1 t2
      rfl
  have e := own_eq (bare o)
  rw [e]
  have H : Gives (sq (own1 (bare o)) fun o1 => sq (sq (own2 o.kind o1) fun o2 => own3 o.kind o2) fun o3 => own4 o.kind o3) _ o := h1.seq (h23.seq h4)
  exact H.cast (by unfold ownBytes; simp) rfl

theorem Gives.op (o : M.Op) (h : FitO o) : Gives M.op (encO o) o := by
  have hw : Gives (fun s r => if M.hasWeights o.kind = true then sq M.plain (fun u => sq M.plain fun v _ r => ((u, v), r)) s r else (((0 : Int), (0 : Int)), r))
      ((if M.hasWeights o.kind = true then [o.weights, o.biases] else []).map b8) (o.weights, o.biases) := by
    by_cases k : M.hasWeights o.kind = true
    · simp only [if_pos k]
      exact (Gives.plain _ h.ws.1 h.ws.2).seq ((Gives.plain _ h.bs.1 h.bs.2).seq (Gives.pure _))
    · have e := h.noW (by simpa using k)
      simp only [if_neg k]
      rw [e.1, e.2]
      exact Gives.pure _
  have hb : Gives (fun s r => if M.readsTwo o.kind = true then M.plain s r else (0, r)) ((if M.readsTwo o.kind = true then [o.b] else []).map b8) o.b := by
    by_cases k : M.readsTwo o.kind = true
    · simp only [if_pos k]; exact Gives.plain _ h.b.1 h.b.2
    · have e := h.noB (by simpa using k)
      simp only [if_neg k]
      rw [e]
      exact Gives.pure _
  have H : Gives (sq (fun s => M.within s 1 10) fun k => sq M.plain fun a =>
      sq (fun s r => if M.hasWeights k = true then sq M.plain (fun u => sq M.plain fun v _ r => ((u, v), r)) s r else (((0 : Int), (0 : Int)), r)) fun w =>
      sq (fun s r => if M.readsTwo k = true then M.plain s r else (0, r)) fun b => sq M.plain fun t s =>
      M.ownNumbers s { kind := k, a := a, b := b, weights := w.1, biases := w.2, to := t, size := 0, stride := 0, same := false, scales := [], lo := 0, hi := 0, above := 0, below := 0, left := 0, right := 0 })
      _ o := (Gives.within 1 10 o.kind (by have := h.k0; omega) (by have := h.k1; omega) h.k0 h.k1).seq ((Gives.plain _ h.a.1 h.a.2).seq (hw.seq (hb.seq ((Gives.plain _ h.to.1 h.to.2).seq (Gives.own o h)))))
  exact H.cast (by unfold encO obytes insOf; simp) rfl

theorem Gives.ops (os : List M.Op) (h : ∀ o ∈ os, FitO o) (hn : os.length ≤ 255) : Gives M.ops ([b8 os.length] ++ os.flatMap encO) os := by
  have h1 := Gives.plain (os.length : Int) (by omega) (by omega)
  exact h1.seq (k := fun n s => M.repOk (M.op s) n.toNat) (Gives.repOk (f := M.op) encO os fun t ht => Gives.op t (h t ht))

theorem Gives.outs (us : List Int) (h : ∀ u ∈ us, Byte u) (hn : us.length ≤ 255) : Gives M.outs ([b8 us.length] ++ us.map b8) us := by
  have h1 := Gives.plain (us.length : Int) (by omega) (by omega)
  have e : us.map b8 = us.flatMap fun x => [b8 x] := List.map_eq_flatMap
  rw [e]
  exact h1.seq (k := fun n s r => if (M.has s n r).1 = true then M.rep (M.plain s) n.toNat (M.has s n r).2 else ([], (M.has s n r).2))
    (Gives.has (α := List Int) (z := []) _ (by rw [flat_one]; omega) (Gives.rep (f := M.plain) (fun x => [b8 x]) us fun t ht => Gives.plain t (h t ht).1 (h t ht).2))

/-- What can be written as a model. -/
structure FitM (m : M.Md) : Prop where
  nt : m.tensors.length ≤ 255
  no : m.ops.length ≤ 255
  nu : m.outs.length ≤ 255
  ts : ∀ t ∈ m.tensors, FitT t
  os : ∀ o ∈ m.ops, FitO o
  us : ∀ u ∈ m.outs, Byte u

def encM (m : M.Md) : List UInt8 := mbytes (m.tensors.flatMap encT) (m.ops.flatMap encO) m.tensors.length m.ops.length m.outs

theorem readAll_enc (m : M.Md) (h : FitM m) : M.readAll (S8 (encM m)) = (m, ⟨(S8 (encM m)).size, false⟩) := by
  have H : Gives (sq M.tensors fun t => sq M.ops fun o => sq M.outs fun u _ r => ((⟨t, o, u⟩ : M.Md), r)) _ m :=
    (Gives.tensors _ h.ts h.nt).seq ((Gives.ops _ h.os h.no).seq ((Gives.outs _ h.us h.nu).seq (Gives.pure _)))
  have e : encM m = M.headL ++ (([b8 m.tensors.length] ++ m.tensors.flatMap encT) ++ (([b8 m.ops.length] ++ m.ops.flatMap encO) ++ (([b8 m.outs.length] ++ m.outs.map b8) ++ []))) := by
    unfold encM mbytes; simp
  generalize (([b8 m.tensors.length] ++ m.tensors.flatMap encT) ++ (([b8 m.ops.length] ++ m.ops.flatMap encO) ++ (([b8 m.outs.length] ++ m.outs.map b8) ++ []))) = L at H e
  rw [e]
  have hs : (S8 (M.headL ++ L)).size = 4 + L.length := by rw [s8_size, List.length_append]; rfl
  have hh : M.skipHead (S8 (M.headL ++ L)) = ⟨4, false⟩ := by
    unfold M.skipHead
    rw [if_neg]
    rw [hs]
    have : (S8 (M.headL ++ L)).data.toList.take 4 = M.headL := by unfold S8; simp [M.headL]
    rw [this]
    simp
  have ha : At (S8 (M.headL ++ L)) 4 L := ⟨by omega, [], by unfold S8; simp [M.headL]⟩
  have := H _ 4 ha
  rw [hs, ← this, ← hh]
  rfl

theorem read_enc (m : M.Md) (h : FitM m) (hs : (encM m).length ≤ 4096) : M.read (S8 (encM m)) = M.check m := by
  have hp : M.parse (S8 (encM m)) = 0 := by
    unfold M.parse
    rw [readAll_enc m h, if_neg (by rw [s8_size]; omega)]
    simp
  unfold M.read
  rw [hp, readAll_enc m h]
  simp

end Go.Proofs.YtcnhfffgbamonaaGreat

/-
  What is read, and not bad, can be written: its numbers are bytes, cells, words; its data are as many as its cells.
-/
namespace Go.Proofs.YtcnhfffgbamonaaGreat
namespace M

structure Good {α : Type} (f : RS → α × RS) (P : α → Prop) : Prop where
  stay : ∀ r, (f r).2.bad = false → r.bad = false
  ok : ∀ r, (f r).2.bad = false → P (f r).1

theorem Good.bind {α β : Type} {f : RS → α × RS} {k : α → RS → β × RS} {P : α → Prop} {Q : β → Prop} (h : Good f P) (hk : ∀ x, Good (k x) fun y => P x → Q y) : Good (bd f k) Q :=
  ⟨fun r hr => h.stay r ((hk _).stay _ hr), fun r hr => (hk _).ok _ hr (h.ok r ((hk _).stay _ hr))⟩
theorem Good.pure {α : Type} {x : α} {P : α → Prop} (h : P x) : Good (fun r => (x, r)) P := ⟨fun _ hr => hr, fun _ _ => h⟩
theorem Good.mono {α : Type} {f : RS → α × RS} {P Q : α → Prop} (h : Good f P) (hq : ∀ x, P x → Q x) : Good f Q := ⟨h.stay, fun r hr => hq _ (h.ok r hr)⟩
theorem Good.ite {α : Type} {f g : RS → α × RS} {P : α → Prop} (c : Prop) [Decidable c] (h : c → Good f P) (h' : ¬ c → Good g P) : Good (fun r => if c then f r else g r) P := by
  by_cases hc : c
  · simpa only [if_pos hc] using h hc
  · simpa only [if_neg hc] using h' hc

theorem bt_byte (s : ByteArray) (i : Nat) : Byte (bt s i) := by
  unfold bt Byte
  have := UInt8.toNat_lt (s.data.toList.getD i 0)
  omega

theorem Good.plain (s : ByteArray) : Good (plain s) Byte := by
  refine ⟨fun r hr => ?_, fun r hr => ?_⟩
  · unfold M.plain at hr
    by_cases c : (r.bad || decide (s.size ≤ r.pos)) = true
    · rw [if_pos c] at hr; exact absurd hr (by simp)
    · cases hb : r.bad with
      | false => rfl
      | true => rw [hb] at c; simp at c
  · unfold M.plain at hr ⊢
    split
    · unfold Byte; omega
    · exact bt_byte _ _

theorem Good.within (s : ByteArray) (lo hi : Int) : Good (within s lo hi) fun v => Byte v ∧ lo ≤ v ∧ v ≤ hi := by
  have h : Good (bd (M.plain s) fun x r => if (decide (x < lo) || decide (hi < x)) = true then ((0 : Int), (⟨r.pos, true⟩ : RS)) else (x, r)) (fun v => Byte v ∧ lo ≤ v ∧ v ≤ hi) := by
    refine (Good.plain s).bind fun x => ?_
    by_cases c : (decide (x < lo) || decide (hi < x)) = true
    · simp only [if_pos c]
      exact ⟨fun r hr => absurd hr (by simp), fun r hr => absurd hr (by simp)⟩
    · simp only [if_neg c]
      have c' : lo ≤ x ∧ x ≤ hi := by simpa using c
      exact Good.pure fun hx => ⟨hx, c'⟩
  exact h

theorem Good.signed (s : ByteArray) : Good (signed s) Cell := by
  have h : Good (bd (M.plain s) fun x r => (if 127 < x then x - 256 else x, r)) Cell := by
    refine (Good.plain s).bind fun x => Good.pure fun hx => ?_
    unfold Byte at hx
    unfold Cell
    split <;> omega
  exact h

def Word (v : Int) : Prop := -2147483648 ≤ v ∧ v ≤ 2147483647

theorem Good.word (s : ByteArray) : Good (word s) Word := by
  have h : Good (bd (M.plain s) fun a => bd (M.plain s) fun b => bd (M.plain s) fun c => bd (M.signed s) fun d r => (d * 16777216 + c * 65536 + b * 256 + a, r)) Word := by
    refine (Good.plain s).bind fun a => (Good.plain s).bind fun b => (Good.plain s).bind fun c => (Good.signed s).bind fun d => Good.pure ?_
    unfold Byte Cell Word
    intros; omega
  exact h

theorem Good.rep {α : Type} {f : RS → α × RS} {P : α → Prop} (h : Good f P) : ∀ n, Good (rep f n) fun l => l.length = n ∧ ∀ x ∈ l, P x
  | 0 => Good.pure ⟨rfl, by simp⟩
  | n + 1 => (Good.rep h n).bind (k := fun l => bd f fun x r => (l ++ [x], r)) fun l => h.bind fun x => Good.pure fun hx hl => by
      refine ⟨by rw [List.length_append, hl.1]; rfl, fun y hy => ?_⟩
      rcases List.mem_append.mp hy with hy | hy
      · exact hl.2 y hy
      · rw [List.mem_singleton.mp hy]; exact hx

theorem Good.repOk {α : Type} {f : RS → α × RS} {P : α → Prop} (h : Good f P) : ∀ n, Good (repOk f n) fun l => l.length = n ∧ ∀ x ∈ l, P x
  | 0 => Good.pure ⟨rfl, by simp⟩
  | n + 1 => (Good.repOk h n).bind (k := fun l r => if r.bad = true then (l, r) else (l ++ [(f r).1], (f r).2)) fun l => by
      refine ⟨fun r hr => ?_, fun r hr => ?_⟩
      · by_cases hb : r.bad = true
        · rw [if_pos hb] at hr; exact hr
        · simpa using hb
      · by_cases hb : r.bad = true
        · rw [if_pos hb] at hr; rw [hb] at hr; exact absurd hr (by decide)
        · rw [if_neg hb] at hr ⊢
          intro hl
          refine ⟨by rw [List.length_append, hl.1]; rfl, fun y hy => ?_⟩
          rcases List.mem_append.mp hy with hy | hy
          · exact hl.2 y hy
          · rw [List.mem_singleton.mp hy]; exact h.ok r hr

theorem Good.has {α : Type} (s : ByteArray) (n : Int) (z : α) {f : RS → α × RS} {P : α → Prop} (h : Good f P) :
    Good (fun r => if (M.has s n r).1 = true then f (M.has s n r).2 else (z, (M.has s n r).2)) P := by
  have key : ∀ r, ((fun r => if (M.has s n r).1 = true then f (M.has s n r).2 else (z, (M.has s n r).2)) r).2.bad = false → r.bad = false ∧ (M.has s n r) = (true, r) := by
    intro r hr
    dsimp only at hr
    unfold M.has at hr ⊢
    by_cases c : (s.size : Int) - r.pos < n
    · rw [if_pos c] at hr; simp at hr
    · rw [if_neg c] at hr ⊢
      cases hb : r.bad with
      | true => rw [hb] at hr; simp [hb] at hr
      | false => exact ⟨rfl, by simp⟩
  refine ⟨fun r hr => (key r hr).1, fun r hr => ?_⟩
  have k := (key r hr).2
  rw [k] at hr ⊢
  exact h.ok r hr

theorem Good.tensor (s : ByteArray) : Good (tensor s) FitT := by
  have h : Good (bd (M.within s 0 3) fun k => bd (M.plain s) fun a => bd (M.plain s) fun b => bd (M.plain s) fun c => bd (M.signed s) fun z =>
      bd (fun r => if k = 1 then M.cells s (a * b * c) r else if k = 2 then M.words s (a * b * c) r else ([], r)) fun d r => ((⟨k, a, b, c, z, d⟩ : Tn), r)) FitT := by
    refine (Good.within s 0 3).bind fun k => (Good.plain s).bind fun a => (Good.plain s).bind fun b => (Good.plain s).bind fun c => (Good.signed s).bind fun z => ?_
    have hd : Good (fun r => if k = 1 then M.cells s (a * b * c) r else if k = 2 then M.words s (a * b * c) r else ([], r)) fun d =>
        (k = 1 → d.length = (a * b * c).toNat ∧ ∀ x ∈ d, Cell x) ∧ (k = 2 → d.length = (a * b * c).toNat ∧ ∀ x ∈ d, Word x) ∧ (k ≠ 1 → k ≠ 2 → d = []) := by
      refine Good.ite _ (fun h1 => ?_) (fun h1 => Good.ite _ (fun h2 => ?_) (fun h2 => ?_))
      · exact (Good.has s _ [] (Good.rep (Good.signed s) _)).mono fun d hd => ⟨fun _ => hd, fun h => absurd h (by omega), fun h => absurd h1 h⟩
      · exact (Good.has s _ [] (Good.rep (Good.word s) _)).mono fun d hd => ⟨fun h => absurd h h1, fun _ => hd, fun _ h => absurd h2 h⟩
      · exact Good.pure ⟨fun h => absurd h h1, fun h => absurd h h2, fun _ _ => rfl⟩
    refine hd.bind fun d => Good.pure ?_
    intro hd hz hc hb ha hk
    unfold Byte at ha hb hc hk
    unfold Cell at hz
    have hp : 0 ≤ a * b * c := Int.mul_nonneg (Int.mul_nonneg ha.1 hb.1) hc.1
    exact ⟨hk.2.1, hk.2.2, ha.1, ha.2, hb.1, hb.2, hc.1, hc.2, hz.1, hz.2, hd.2.2, fun h1 => ⟨by have := (hd.1 h1).1; dsimp only; omega, (hd.1 h1).2⟩, fun h2 => ⟨by have := (hd.2.1 h2).1; dsimp only; omega, (hd.2.1 h2).2⟩⟩
  exact h

theorem Good.scale (s : ByteArray) : Good (scale s) FitS := by
  have h : Good (bd (M.word s) fun m => bd (M.signed s) fun v r => ((⟨m, v⟩ : Sc), r)) FitS :=
    (Good.word s).bind fun m => (Good.signed s).bind fun v => Good.pure fun hv hm => ⟨hm.1, hm.2, hv.1, hv.2⟩
  exact h

/-- An operator ahead of its scales and its range. -/
structure FitA (o : Op) : Prop where
  k0 : 1 ≤ o.kind
  k1 : o.kind ≤ 10
  a : Byte o.a
  b : Byte o.b
  ws : Byte o.weights
  bs : Byte o.biases
  to : Byte o.to
  noW : hasWeights o.kind = false → o.weights = 0 ∧ o.biases = 0
  noB : readsTwo o.kind = false → o.b = 0
  size : Byte o.size
  stride : Byte o.stride
  above : Byte o.above
  below : Byte o.below
  left : Byte o.left
  right : Byte o.right
  noSize : ¬ (o.kind = 5 ∨ o.kind = 6) → o.size = 0
  noStride : ¬ (o.kind = 1 ∨ o.kind = 2 ∨ o.kind = 5 ∨ o.kind = 6) → o.stride = 0
  noSame : ¬ (o.kind = 1 ∨ o.kind = 2) → o.same = false
  noPad : o.kind ≠ 8 → o.above = 0 ∧ o.below = 0 ∧ o.left = 0 ∧ o.right = 0
  scales : o.scales = []
  lo : o.lo = 0
  hi : o.hi = 0

theorem Good.own (s : ByteArray) (o : Op) : Good (ownNumbers s o) fun o' => FitA o ∧ o.size = 0 ∧ o.stride = 0 ∧ o.same = false ∧ o.above = 0 ∧ o.below = 0 ∧ o.left = 0 ∧ o.right = 0 → FitO o' := by
  have e : M.ownNumbers s o = bd (fun r => if o.kind = 1 ∨ o.kind = 2 then bd (M.plain s) (fun st => bd (M.within s 0 1) fun sm r => ({ o with stride := st, same := sm == 1 }, r)) r
      else if o.kind = 5 ∨ o.kind = 6 then bd (M.plain s) (fun sz => bd (M.plain s) fun st r => ({ o with size := sz, stride := st }, r)) r
      else if o.kind = 8 then bd (M.plain s) (fun a => bd (M.plain s) fun b => bd (M.plain s) fun l => bd (M.plain s) fun g r => ({ o with above := a, below := b, left := l, right := g }, r)) r
      else (o, r))
    (fun o1 => bd (fun r => if hasWeights o.kind = true then bd (M.rep (M.scale s) 1) (fun l r => ({ o1 with scales := l }, r)) r else (o1, r))
      fun o2 => bd (fun r => if o.kind = 4 then bd (M.rep (M.scale s) 3) (fun l r => ({ o2 with scales := l }, r)) r else (o2, r))
      fun o3 r => if 1 ≤ o.kind ∧ o.kind ≤ 7 then bd (M.signed s) (fun lo => bd (M.signed s) fun hi r => ({ o3 with lo := lo, hi := hi }, r)) r else (o3, r)) := rfl
  rw [e]
  have h1 : Good (fun r => if o.kind = 1 ∨ o.kind = 2 then bd (M.plain s) (fun st => bd (M.within s 0 1) fun sm r => ({ o with stride := st, same := sm == 1 }, r)) r
      else if o.kind = 5 ∨ o.kind = 6 then bd (M.plain s) (fun sz => bd (M.plain s) fun st r => ({ o with size := sz, stride := st }, r)) r
      else if o.kind = 8 then bd (M.plain s) (fun a => bd (M.plain s) fun b => bd (M.plain s) fun l => bd (M.plain s) fun g r => ({ o with above := a, below := b, left := l, right := g }, r)) r
      else (o, r)) fun o1 => o1.kind = o.kind ∧ (FitA o ∧ o.size = 0 ∧ o.stride = 0 ∧ o.same = false ∧ o.above = 0 ∧ o.below = 0 ∧ o.left = 0 ∧ o.right = 0 → FitA o1) := by
    refine Good.ite _ (fun k1 => ?_) (fun k1 => Good.ite _ (fun k2 => ?_) (fun k2 => Good.ite _ (fun k3 => ?_) (fun k3 => ?_)))
    · refine (Good.plain s).bind fun st => (Good.within s 0 1).bind fun sm => Good.pure fun hsm hst => ⟨rfl, fun ⟨h, _⟩ => ?_⟩
      exact { h with stride := hst, noStride := fun hn => absurd k1 (by simp only at hn; omega), noSame := fun hn => absurd k1 hn }
    · refine (Good.plain s).bind fun sz => (Good.plain s).bind fun st => Good.pure fun hst hsz => ⟨rfl, fun ⟨h, _⟩ => ?_⟩
      exact { h with size := hsz, stride := hst, noSize := fun hn => absurd k2 hn, noStride := fun hn => absurd k2 (by simp only at hn; omega) }
    · refine (Good.plain s).bind fun a => (Good.plain s).bind fun b => (Good.plain s).bind fun l => (Good.plain s).bind fun g => Good.pure fun hg hl hb ha => ⟨rfl, fun ⟨h, _⟩ => ?_⟩
      exact { h with above := ha, below := hb, left := hl, right := hg, noPad := fun hn => absurd k3 hn }
    · exact Good.pure ⟨rfl, fun h => h.1⟩
  refine h1.bind fun o1 => ?_
  have h2 : Good (fun r => if hasWeights o.kind = true then bd (M.rep (M.scale s) 1) (fun l r => ({ o1 with scales := l }, r)) r else (o1, r))
      fun o2 => (hasWeights o.kind = true → ∃ l, o2 = { o1 with scales := l } ∧ l.length = 1 ∧ ∀ c ∈ l, FitS c) ∧ (hasWeights o.kind = false → o2 = o1) := by
    refine Good.ite _ (fun k => ?_) (fun k => Good.pure ⟨fun h => absurd h k, fun _ => rfl⟩)
    exact (Good.rep (Good.scale s) 1).bind fun l => Good.pure fun hl => ⟨fun _ => ⟨l, rfl, hl⟩, fun h => by rw [k] at h; exact absurd h (by decide)⟩
  refine h2.bind fun o2 => ?_
  have h3 : Good (fun r => if o.kind = 4 then bd (M.rep (M.scale s) 3) (fun l r => ({ o2 with scales := l }, r)) r else (o2, r))
      fun o3 => (o.kind = 4 → ∃ l, o3 = { o2 with scales := l } ∧ l.length = 3 ∧ ∀ c ∈ l, FitS c) ∧ (o.kind ≠ 4 → o3 = o2) := by
    refine Good.ite _ (fun k => ?_) (fun k => Good.pure ⟨fun h => absurd h k, fun _ => rfl⟩)
    exact (Good.rep (Good.scale s) 3).bind fun l => Good.pure fun hl => ⟨fun _ => ⟨l, rfl, hl⟩, fun h => absurd k h⟩
  refine h3.bind fun o3 => ?_
  have h4 : Good (fun r => if 1 ≤ o.kind ∧ o.kind ≤ 7 then bd (M.signed s) (fun lo => bd (M.signed s) fun hi r => ({ o3 with lo := lo, hi := hi }, r)) r else (o3, r))
      fun o4 => (1 ≤ o.kind ∧ o.kind ≤ 7 → ∃ lo hi, o4 = { o3 with lo := lo, hi := hi } ∧ Cell lo ∧ Cell hi) ∧ (¬ (1 ≤ o.kind ∧ o.kind ≤ 7) → o4 = o3) := by
    refine Good.ite _ (fun k => ?_) (fun k => Good.pure ⟨fun h => absurd h k, fun _ => rfl⟩)
    exact (Good.signed s).bind fun lo => (Good.signed s).bind fun hi => Good.pure fun hhi hlo => ⟨fun _ => ⟨lo, hi, rfl, hlo, hhi⟩, fun h => absurd k h⟩
  refine h4.mono fun o4 g4 g3 g2 g1 hA => ?_
  obtain ⟨hk, g1⟩ := g1
  have h := g1 hA
  -- the scales
  have hs : ∃ l : List Sc, o3 = { o1 with scales := l } ∧ (l.length = if hasWeights o.kind = true then 1 else if o.kind = 4 then 3 else 0) ∧ ∀ c ∈ l, FitS c := by
    by_cases kw : hasWeights o.kind = true
    · have k4 : o.kind ≠ 4 := by have := (hw_iff _).mp kw; omega
      obtain ⟨l, e1, e2, e3⟩ := g2.1 kw
      exact ⟨l, by rw [g3.2 k4, e1], by rw [if_pos kw, e2], e3⟩
    · have e1 := g2.2 (by simpa using kw)
      by_cases k4 : o.kind = 4
      · obtain ⟨l, e2, e3, e4⟩ := g3.1 k4
        exact ⟨l, by rw [e2, e1], by rw [if_neg kw, if_pos k4, e3], e4⟩
      · refine ⟨[], ?_, by rw [if_neg kw, if_neg k4]; rfl, by simp⟩
        rw [g3.2 k4, e1, ← h.scales]
  obtain ⟨l, e3, hl, hf⟩ := hs
  have hsp : ∃ lo hi, o4 = { o3 with lo := lo, hi := hi } ∧ Cell lo ∧ Cell hi ∧ (¬ (1 ≤ o.kind ∧ o.kind ≤ 7) → lo = 0 ∧ hi = 0) := by
    by_cases k : 1 ≤ o.kind ∧ o.kind ≤ 7
    · obtain ⟨lo, hi, e, a, b⟩ := g4.1 k
      exact ⟨lo, hi, e, a, b, fun hn => absurd k hn⟩
    · refine ⟨0, 0, ?_, by unfold Cell; omega, by unfold Cell; omega, fun _ => ⟨rfl, rfl⟩⟩
      rw [g4.2 k, e3]
      have e1 := h.lo
      have e2 := h.hi
      cases o1
      simp only at e1 e2
      rw [e1, e2]
  obtain ⟨lo, hi, e4, c1, c2, c3⟩ := hsp
  rw [e4, e3]
  rw [← hk] at hl c3
  exact ⟨h.k0, h.k1, h.a, h.b, h.ws, h.bs, h.to, h.noW, h.noB, h.size, h.stride, h.above, h.below, h.left, h.right, c1, c2, h.noSize, h.noStride, h.noSame, h.noPad, c3, hl, hf⟩

theorem Good.op (s : ByteArray) : Good (op s) FitO := by
  have e : M.op s = bd (M.within s 1 10) fun k => bd (M.plain s) fun a =>
      bd (fun r => if hasWeights k = true then bd (M.plain s) (fun u => bd (M.plain s) fun v r => ((u, v), r)) r else (((0 : Int), (0 : Int)), r)) fun w =>
      bd (fun r => if readsTwo k = true then M.plain s r else (0, r)) fun b => bd (M.plain s) fun t =>
      M.ownNumbers s { kind := k, a := a, b := b, weights := w.1, biases := w.2, to := t, size := 0, stride := 0, same := false, scales := [], lo := 0, hi := 0, above := 0, below := 0, left := 0, right := 0 } := rfl
  rw [e]
  refine (Good.within s 1 10).bind fun k => (Good.plain s).bind fun a => ?_
  have hw : Good (fun r => if hasWeights k = true then bd (M.plain s) (fun u => bd (M.plain s) fun v r => ((u, v), r)) r else (((0 : Int), (0 : Int)), r))
      fun w => Byte w.1 ∧ Byte w.2 ∧ (hasWeights k = false → w.1 = 0 ∧ w.2 = 0) := by
    refine Good.ite _ (fun hk => ?_) (fun hk => Good.pure ⟨by unfold Byte; omega, by unfold Byte; omega, fun _ => ⟨rfl, rfl⟩⟩)
    exact (Good.plain s).bind fun u => (Good.plain s).bind fun v => Good.pure fun hv hu => ⟨hu, hv, fun h => by rw [hk] at h; exact absurd h (by decide)⟩
  refine hw.bind fun w => ?_
  have hb : Good (fun r => if readsTwo k = true then M.plain s r else (0, r)) fun b => Byte b ∧ (readsTwo k = false → b = 0) := by
    refine Good.ite _ (fun hk => ?_) (fun hk => Good.pure ⟨by unfold Byte; omega, fun _ => rfl⟩)
    exact (Good.plain s).mono fun b hb => ⟨hb, fun h => by rw [hk] at h; exact absurd h (by decide)⟩
  refine hb.bind fun b => (Good.plain s).bind fun t => (Good.own s _).mono fun o' ho ht hb hw ha hk => ho ⟨?_, rfl, rfl, rfl, rfl, rfl, rfl, rfl⟩
  have z : Byte 0 := by unfold Byte; omega
  exact ⟨hk.2.1, hk.2.2, ha, hb.1, hw.1, hw.2.1, ht, hw.2.2, hb.2, z, z, z, z, z, z, fun _ => rfl, fun _ => rfl, fun _ => rfl, fun _ => ⟨rfl, rfl, rfl, rfl⟩, rfl, rfl, rfl⟩

theorem fit_readAll (s : ByteArray) (hb : (readAll s).2.bad = false) : FitM (readAll s).1 := by
  have ht : Good (M.tensors s) fun l => l.length ≤ 255 ∧ ∀ t ∈ l, FitT t :=
    (Good.plain s).bind (k := fun n : Int => M.repOk (M.tensor s) n.toNat) fun n => (Good.repOk (Good.tensor s) n.toNat).mono fun l hl hn => ⟨by unfold Byte at hn; omega, hl.2⟩
  have ho : Good (M.ops s) fun l => l.length ≤ 255 ∧ ∀ t ∈ l, FitO t :=
    (Good.plain s).bind (k := fun n : Int => M.repOk (M.op s) n.toNat) fun n => (Good.repOk (Good.op s) n.toNat).mono fun l hl hn => ⟨by unfold Byte at hn; omega, hl.2⟩
  have hu : Good (M.outs s) fun l => l.length ≤ 255 ∧ ∀ t ∈ l, Byte t :=
    (Good.plain s).bind (k := fun n r => if (M.has s n r).1 = true then M.rep (M.plain s) n.toNat (M.has s n r).2 else ([], (M.has s n r).2))
      fun n => (Good.has s n [] (Good.rep (Good.plain s) n.toNat)).mono fun l hl hn => ⟨by unfold Byte at hn; omega, hl.2⟩
  have H : Good (bd (M.tensors s) fun t => bd (M.ops s) fun o => bd (M.outs s) fun u r => ((⟨t, o, u⟩ : Md), r)) FitM :=
    ht.bind fun t => ho.bind fun o => hu.bind fun u => Good.pure fun h3 h2 h1 => ⟨h1.1, h2.1, h3.1, h1.2, h2.2, h3.2⟩
  exact H.ok (M.skipHead s) hb

theorem fit_read (s : ByteArray) (h : read s = 0) : FitM (readAll s).1 := by
  apply fit_readAll
  have hp := read_parse h
  unfold parse at hp
  split at hp
  · exact absurd hp (by decide)
  · split at hp
    · exact absurd hp (by decide)
    · rename_i c
      cases hb : (readAll s).2.bad with
      | false => rfl
      | true => rw [hb] at c; simp at c

theorem check_read (s : ByteArray) (h : read s = 0) : check (readAll s).1 = 0 := by
  have hp := read_parse h
  unfold read at h
  rw [hp] at h
  simpa using h

end M
end Go.Proofs.YtcnhfffgbamonaaGreat

/-
  Of any inputs cells within their range: what comes out of a model that is one.
-/
namespace Go.Proofs.YtcnhfffgbamonaaGreat
namespace D

theorem check_parts {m : M.Md} (h : M.check m = 0) : M.limits m = true ∧ M.graph m = true ∧ M.shapes m = true ∧ M.quants m = true := by
  unfold M.check at h
  by_cases h1 : M.limits m = false
  · rw [if_pos h1] at h; exact absurd h (by decide)
  · rw [if_neg h1] at h
    by_cases h2 : M.graph m = false
    · rw [if_pos h2] at h; exact absurd h (by decide)
    · rw [if_neg h2] at h
      by_cases h3 : M.shapes m = false
      · rw [if_pos h3] at h; exact absurd h (by decide)
      · rw [if_neg h3] at h
        by_cases h4 : M.quants m = false
        · rw [if_pos h4] at h; exact absurd h (by decide)
        · exact ⟨by simpa using h1, by simpa using h2, by simpa using h3, by simpa using h4⟩

theorem graph_parts {m : M.Md} (h : M.graph m = true) : ∃ by_, M.makers m = some by_ ∧ (∀ (i : Nat) o, m.ops[i]? = some o → M.readsHold m by_ i o = true) ∧ ∀ u ∈ m.outs, M.isCells m u = true := by
  unfold M.graph at h
  cases hm : M.makers m with
  | none => rw [hm] at h; exact Bool.noConfusion h
  | some by_ =>
    rw [hm] at h
    simp only [Bool.and_eq_true, List.all_eq_true] at h
    refine ⟨by_, rfl, fun i o hi => ?_, h.2⟩
    have := h.1 i (List.mem_range.mpr (by
      rcases Nat.lt_or_ge i m.ops.length with hl | hl
      · exact hl
      · rw [List.getElem?_eq_none hl] at hi; exact absurd hi (by simp)))
    rw [hi] at this
    exact this

/-- The cells of every tensor that has cells are cells. -/
def AllCells (m : M.Md) (e : List (List Int)) : Prop := ∀ n : Nat, n < m.tensors.length → (m.tensors.map (·.kind)).getD n 0 ≠ 2 → Cells (e.getD n [])

theorem cells_nil : Cells [] := by intro v hv; exact absurd hv (by simp)

theorem start_cells (ts : List M.Tn) : ∀ (ins : List (List Int)), (∀ l ∈ ins, Cells l) → (∀ t ∈ ts, t.kind ≠ 0 → t.kind ≠ 3 → t.kind ≠ 2 → Cells t.data) →
    ∀ n : Nat, (ts.map (·.kind)).getD n 0 ≠ 2 → Cells ((start ts ins).getD n []) := by
  induction ts with
  | nil => intro ins _ _ n _; exact cells_nil
  | cons t ts ih =>
    intro ins hi ht n hn
    have ht' : ∀ t ∈ ts, t.kind ≠ 0 → t.kind ≠ 3 → t.kind ≠ 2 → Cells t.data := fun u hu => ht u (List.mem_cons_of_mem _ hu)
    unfold start
    cases n with
    | zero =>
      have hn' : t.kind ≠ 2 := by simpa using hn
      split
      · cases ins with
        | nil => exact cells_nil
        | cons l ls => exact hi l List.mem_cons_self
      · split
        · exact cells_nil
        · rename_i h0 h3
          exact ht t List.mem_cons_self h0 h3 hn'
    | succ n =>
      have hn' : (ts.map (·.kind)).getD n 0 ≠ 2 := by simpa using hn
      split
      · simpa using ih ins.tail (fun l hl => hi l (List.mem_of_mem_tail hl)) ht' n hn'
      · split
        · simpa using ih ins hi ht' n hn'
        · simpa using ih ins hi ht' n hn'

theorem isCells_at {m : M.Md} {e : List (List Int)} (h : AllCells m e) {n : Int} (hn : M.isCells m n = true) : Cells (cellsAt e n) := by
  unfold M.isCells at hn
  simp only [Bool.and_eq_true, decide_eq_true_eq, bne_iff_ne] at hn
  unfold cellsAt
  rw [if_neg (by omega)]
  exact h n.toNat (by omega) hn.2

theorem zero_at {m : M.Md} (h : FitM m) (n : Int) : -128 ≤ (M.tensorAt m n).zero ∧ (M.tensorAt m n).zero ≤ 127 := by
  unfold M.tensorAt
  split
  · exact ⟨by decide, by decide⟩
  · rename_i c
    have hl : n.toNat < m.tensors.length := by omega
    rw [List.getD, List.getElem?_eq_getElem hl]
    have := h.ts _ (List.getElem_mem hl)
    exact ⟨this.z0, this.z1⟩

theorem getD_set {α : Type} (l : List α) (i n : Nat) (x d : α) : (l.set i x).getD n d = if i = n ∧ n < l.length then x else l.getD n d := by
  rw [List.getD, List.getD, List.getElem?_set]
  by_cases h : i = n
  · subst h
    by_cases hl : i < l.length
    · simp [hl]
    · simp [hl]
  · simp [h]

theorem step_cells {m : M.Md} {by_ : List Int} {i : Int} {o : M.Op} {e : List (List Int)} (hF : FitM m) (ho : o ∈ m.ops) (hr : M.readsHold m by_ i o = true) (hq : M.quantOp m o = true) (h : AllCells m e) : AllCells m (step m e o) := by
  intro n hn hk
  unfold step
  rw [getD_set]
  split
  · have fo := hF.os o ho
    unfold M.readsHold M.isReady at hr
    simp only [Bool.and_eq_true] at hr
    unfold M.quantOp at hq
    simp only [Bool.and_eq_true, Bool.not_eq_true', decide_eq_false_iff_not] at hq
    apply grid_cells
    intro y x c
    refine cell_range o _ y x c (isCells_at h hr.1.1.1) (fun h10 => isCells_at h ?_) fo.k0 fo.k1 (zero_at hF _) fo.lo.1 (by have := hq.1.1; omega) fo.hi.2
    have h2 := hr.2
    rw [if_pos (by rw [rt_iff]; exact .inr h10)] at h2
    simp only [Bool.and_eq_true] at h2
    exact h2.1.1
  · exact h n hn hk

theorem fold_cells {m : M.Md} (hF : FitM m) {by_ : List Int} (hr : ∀ (i : Nat) o, m.ops[i]? = some o → M.readsHold m by_ i o = true) (hq : ∀ o ∈ m.ops, M.quantOp m o = true) :
    ∀ k, k ≤ m.ops.length → ∀ e, AllCells m e → AllCells m ((m.ops.take k).foldl (step m) e) := by
  intro k
  induction k with
  | zero => intro _ e h; exact h
  | succ k ih =>
    intro hk e h
    have hx : m.ops[k]? = some m.ops[k] := List.getElem?_eq_getElem (by omega)
    rw [List.take_add_one, hx, List.foldl_append]
    exact step_cells hF (List.getElem_mem _) (hr k _ hx) (hq _ (List.getElem_mem _)) (ih (by omega) e h)

theorem env_cells {m : M.Md} (hF : FitM m) (hc : M.check m = 0) {ins : List (List Int)} (hi : ∀ l ∈ ins, Cells l) : AllCells m (env m ins) := by
  obtain ⟨-, hg, -, hq⟩ := check_parts hc
  obtain ⟨by_, -, hr, -⟩ := graph_parts hg
  unfold M.quants at hq
  simp only [Bool.and_eq_true, List.all_eq_true] at hq
  have := fold_cells hF hr hq.2 m.ops.length (Nat.le_refl _) (start m.tensors ins) (fun n _ hk => start_cells m.tensors ins hi (fun t ht h0 h3 h2 => by
    have ft := hF.ts t ht
    have h1 : t.kind = 1 := by have := ft.k0; have := ft.k1; omega
    exact fun v hv => (ft.one h1).2 v hv) n hk)
  rwa [List.take_length] at this

theorem run_cells {m : M.Md} (hF : FitM m) (hc : M.check m = 0) {ins : List (List Int)} (hi : ∀ l ∈ ins, Cells l) : ∀ l ∈ run m ins, Cells l := by
  intro l hl
  obtain ⟨u, hu, rfl⟩ := List.mem_map.mp hl
  obtain ⟨-, hg, -, -⟩ := check_parts hc
  obtain ⟨-, -, -, ho⟩ := graph_parts hg
  exact isCells_at (env_cells hF hc hi) (ho u hu)

/-- There is an output. -/
theorem run_some {m : M.Md} (hc : M.check m = 0) (ins : List (List Int)) : 0 < (run m ins).length := by
  obtain ⟨hl, -, -, -⟩ := check_parts hc
  unfold run
  rw [List.length_map]
  unfold M.limits at hl
  cases h : m.outs with
  | nil => rw [h] at hl; simp at hl
  | cons a l => simp

end D
end Go.Proofs.YtcnhfffgbamonaaGreat

/-
  The document's windows, counted and reckoned.
-/
namespace Go.Proofs.YtcnhfffgbamonaaGreat
namespace D

theorem div_step {d s : Int} (hs : 1 ≤ s) : (d + s - 1) / s = 1 + (d - 1) / s := by
  have : d + s - 1 = (d - 1) + 1 * s := by omega
  rw [this, Int.add_mul_ediv_right _ _ (by omega)]; omega

theorem from_same {length n s : Int} (hs : 1 ≤ s) : ∀ (f : Nat) (p : Int), length - p ≤ f → R.placesFrom length n s true f p = if p < length then (length - p + s - 1) / s else 0
  | 0, p, h => by unfold R.placesFrom; rw [if_neg (by omega)]
  | f + 1, p, h => by
    unfold R.placesFrom
    by_cases c : p < length
    · rw [if_pos c, if_pos c, if_pos (by simp), from_same hs f (p + s) (by omega)]
      have hd : (length - p + s - 1) / s = 1 + (length - p - 1) / s := div_step hs
      rw [hd]
      by_cases c2 : p + s < length
      · rw [if_pos c2]
        have : length - (p + s) + s - 1 = length - p - 1 := by omega
        rw [this]
      · rw [if_neg c2, Int.ediv_eq_zero_of_lt (by omega) (by omega)]
    · rw [if_neg c, if_neg c]

theorem from_whole {length n s : Int} (hs : 1 ≤ s) (hn : 1 ≤ n) : ∀ (f : Nat) (p : Int), length - p ≤ f → R.placesFrom length n s false f p = if p + n ≤ length then (length - n - p) / s + 1 else 0
  | 0, p, h => by unfold R.placesFrom; rw [if_neg (by omega)]
  | f + 1, p, h => by
    unfold R.placesFrom
    by_cases c : p < length
    · rw [if_pos c, from_whole hs hn f (p + s) (by omega)]
      by_cases c2 : p + n ≤ length
      · rw [if_pos (by simpa using c2), if_pos c2]
        by_cases c3 : p + s + n ≤ length
        · rw [if_pos c3]
          have : length - n - p = (length - n - (p + s)) + 1 * s := by omega
          rw [this, Int.add_mul_ediv_right _ _ (by omega)]; omega
        · rw [if_neg c3, Int.ediv_eq_zero_of_lt (by omega) (by omega)]; omega
      · rw [if_neg (by simpa using c2), if_neg c2, if_neg (by omega)]; rfl
    · rw [if_neg c, if_neg (by omega)]

/-- The count is what the code reckons. -/
theorem places_eq {length n s : Int} (same : Bool) (h0 : 0 ≤ length) (hs : 1 ≤ s) (hn : 1 ≤ n) : R.places length n s same = M.windows n length s same := by
  unfold R.places M.windows
  rw [if_neg (by omega)]
  cases same with
  | true =>
    rw [from_same hs _ _ (by omega), if_pos rfl]
    by_cases c : (0 : Int) < length
    · rw [if_pos c]; congr 1; omega
    · rw [if_neg c]
      have : length = 0 := by omega
      subst this
      exact (Int.ediv_eq_zero_of_lt (by omega) (by omega)).symm
  | false =>
    rw [from_whole hs hn _ _ (by omega), if_neg (show ¬ (false = true) by decide)]
    by_cases c : 0 + n ≤ length
    · rw [if_pos c, if_neg (by omega)]; congr 2; omega
    · rw [if_neg c, if_pos (by omega)]

theorem lead_eq {length n s : Int} (same : Bool) (h0 : 0 ≤ length) (hs : 1 ≤ s) (hn : 1 ≤ n) : R.lead length n s same = lead length n s same := by
  unfold R.lead lead; rw [places_eq same h0 hs hn]

/-- What is halved or more cannot be passed by what is left. -/
theorem mean_floor (s n : Int) : mean s n = (if s < 0 then -1 else 1) * ((2 * (if s < 0 then -1 else 1) * s + n) / (2 * n)) := by
  unfold mean
  by_cases h : s < 0
  · rw [if_pos h, if_pos h, Int.neg_mul, Int.one_mul]
    have : 2 * -1 * s = -(2 * s) := by omega
    rw [this]
  · rw [if_neg h, if_neg h, Int.one_mul]
    have : 2 * 1 * s = 2 * s := by omega
    rw [this]

end D
end Go.Proofs.YtcnhfffgbamonaaGreat

/-
  Who makes what: the makers of a model, in plain words.
-/
namespace Go.Proofs.YtcnhfffgbamonaaGreat
namespace M

/-- Of the first k operators each makes an inner tensor, and no two the same. -/
structure Once (m : Md) (k : Nat) : Prop where
  inner : ∀ (i : Nat) o, i < k → m.ops[i]? = some o → isKind m o.to 3 = true
  apart : ∀ (i j : Nat) o p, i < j → j < k → m.ops[i]? = some o → m.ops[j]? = some p → o.to ≠ p.to

/-- by_ says who of the first k makes what. -/
structure Made (m : Md) (k : Nat) (by_ : List Int) : Prop where
  len : by_.length = m.tensors.length
  by1 : ∀ (i : Nat) o, i < k → m.ops[i]? = some o → by_.getD o.to.toNat 0 = i
  no : ∀ t : Nat, t < m.tensors.length → (∀ (i : Nat) o, i < k → m.ops[i]? = some o → o.to ≠ t) → by_.getD t 0 = -1

theorem isKind_lt {m : Md} {n k : Int} (h : isKind m n k = true) : 0 ≤ n ∧ n < m.tensors.length ∧ (m.tensors.map (·.kind)).getD n.toNat 0 = k := by
  unfold isKind at h
  simp only [Bool.and_eq_true, decide_eq_true_eq, beq_iff_eq] at h
  exact ⟨h.1.1, h.1.2, h.2⟩

theorem getD_set' (l : List Int) (i n : Nat) (x d : Int) : (l.set i x).getD n d = if i = n ∧ n < l.length then x else l.getD n d := by
  rw [List.getD, List.getD, List.getElem?_set]
  by_cases h : i = n
  · subst h
    by_cases hl : i < l.length
    · simp [hl]
    · simp [hl]
  · simp [h]

theorem makersTo_ok (m : Md) : ∀ k, k ≤ m.ops.length → (∀ by_, makersTo m k = some by_ → Once m k ∧ Made m k by_) ∧ (makersTo m k = none → ¬ Once m k)
  | 0, _ => by
    refine ⟨fun by_ h => ?_, fun h => by simp [makersTo] at h⟩
    simp only [makersTo, Option.some.injEq] at h
    subst h
    refine ⟨⟨fun i o hi => absurd hi (by omega), fun i j o p _ hj => absurd hj (by omega)⟩, ⟨by simp, fun i o hi => absurd hi (by omega), fun t ht _ => ?_⟩⟩
    rw [List.getD, List.getElem?_replicate, if_pos ht]; rfl
  | k + 1, hk => by
    obtain ⟨ih1, ih2⟩ := makersTo_ok m k (by omega)
    have hx : m.ops[k]? = some m.ops[k] := List.getElem?_eq_getElem (by omega)
    generalize m.ops[k] = o at hx
    cases hm : makersTo m k with
    | none =>
      refine ⟨fun by_ h => by unfold makersTo at h; rw [hm] at h; simp at h, fun _ hO => ih2 hm ⟨fun i o hi => hO.inner i o (by omega), fun i j o p hij hj => hO.apart i j o p hij (by omega)⟩⟩
    | some b0 =>
      obtain ⟨hO, hM⟩ := ih1 b0 hm
      have e : makersTo m (k + 1) = if (!isKind m o.to 3 || decide (0 ≤ b0.getD o.to.toNat 0)) = true then none else some (b0.set o.to.toNat k) := by
        rw [makersTo, hm, hx]
      by_cases hK : isKind m o.to 3 = true
      · obtain ⟨t0, t1, -⟩ := isKind_lt hK
        by_cases hB : 0 ≤ b0.getD o.to.toNat 0
        · refine ⟨fun by_ h => by rw [e, if_pos (by rw [decide_eq_true hB]; exact Bool.or_true _)] at h; simp at h, fun _ hO' => ?_⟩
          have := hM.no o.to.toNat (by omega) (fun i p hi hp he => hO'.apart i k p o hi (by omega) hp hx (by omega))
          omega
        · refine ⟨fun by_ h => ?_, fun h => by rw [e, if_neg (by rw [hK, decide_eq_false hB]; decide)] at h; simp at h⟩
          rw [e, if_neg (by rw [hK, decide_eq_false hB]; decide)] at h
          simp only [Option.some.injEq] at h
          subst h
          have hne : ∀ (i : Nat) p, i < k → m.ops[i]? = some p → p.to ≠ o.to := fun i p hi hp he => by
            have := hM.by1 i p hi hp
            rw [he] at this
            omega
          refine ⟨⟨fun i p hi hp => ?_, fun i j p q hij hj hp hq => ?_⟩, ⟨by rw [List.length_set]; exact hM.len, fun i p hi hp => ?_, fun t ht hn => ?_⟩⟩
          · rcases (show i < k ∨ i = k by omega) with hlt | rfl
            · exact hO.inner i p hlt hp
            · rw [hx] at hp; simp only [Option.some.injEq] at hp; subst hp; exact hK
          · rcases (show j < k ∨ j = k by omega) with hlt | rfl
            · exact hO.apart i j p q hij hlt hp hq
            · rw [hx] at hq; simp only [Option.some.injEq] at hq; subst hq; exact hne i p hij hp
          · rw [getD_set']
            rcases (show i < k ∨ i = k by omega) with hlt | rfl
            · have h1 := hne i p hlt hp
              have h2 := isKind_lt (hO.inner i p hlt hp)
              rw [if_neg (by omega)]
              exact hM.by1 i p hlt hp
            · rw [hx] at hp; simp only [Option.some.injEq] at hp; subst hp
              rw [if_pos ⟨rfl, by rw [hM.len]; omega⟩]
          · rw [getD_set', if_neg (fun hc => hn k o (by omega) hx (by omega))]
            exact hM.no t ht fun i p hi hp => hn i p (by omega) hp
      · refine ⟨fun by_ h => by rw [e, if_pos (by simp [hK])] at h; simp at h, fun _ hO' => hK (hO'.inner k o (by omega) hx)⟩

/-- Each inner tensor is made by just one operator, no other by any. -/
def AllMade (m : Md) : Prop := ∀ t : Nat, t < m.tensors.length → (m.tensors.map (·.kind)).getD t 0 = 3 → ∃ (i : Nat) (o : Op), m.ops[i]? = some o ∧ o.to = t

theorem lt_of_some {α : Type} {l : List α} {i : Nat} {x : α} (h : l[i]? = some x) : i < l.length := by
  rcases Nat.lt_or_ge i l.length with hl | hl
  · exact hl
  · rw [List.getElem?_eq_none hl] at h; exact absurd h (by simp)

theorem makers_ok (m : Md) : (∀ by_, makers m = some by_ → Once m m.ops.length ∧ Made m m.ops.length by_ ∧ AllMade m) ∧ (makers m = none → ¬ (Once m m.ops.length ∧ AllMade m)) := by
  obtain ⟨h1, h2⟩ := makersTo_ok m m.ops.length (Nat.le_refl _)
  cases hm : makersTo m m.ops.length with
  | none =>
    refine ⟨fun by_ h => by unfold makers at h; rw [hm] at h; simp at h, fun _ hc => h2 hm hc.1⟩
  | some b =>
    obtain ⟨hO, hM⟩ := h1 b hm
    have e : makers m = if madeAll m.tensors b = true then some b else none := by unfold makers; rw [hm]
    by_cases hA : madeAll m.tensors b = true
    · refine ⟨fun by_ h => ?_, fun h => by rw [e, if_pos hA] at h; simp at h⟩
      rw [e, if_pos hA] at h
      simp only [Option.some.injEq] at h
      subst h
      refine ⟨hO, hM, fun t ht hk => ?_⟩
      unfold madeAll at hA
      rw [List.all_eq_true] at hA
      have := hA t (List.mem_range.mpr ht)
      rw [hk] at this
      simp only [beq_self_eq_true, Bool.true_and, Bool.not_eq_true', decide_eq_false_iff_not] at this
      apply Classical.byContradiction
      intro hn
      have := hM.no t ht fun i o _ ho he => hn ⟨i, o, ho, he⟩
      omega
    · refine ⟨fun by_ h => by rw [e, if_neg hA] at h; simp at h, fun _ hc => hA ?_⟩
      unfold madeAll
      rw [List.all_eq_true]
      intro t ht
      have ht' := List.mem_range.mp ht
      by_cases hk : (m.tensors.map (·.kind)).getD t 0 = 3
      · obtain ⟨i, o, ho, he⟩ := hc.2 t ht' hk
        have := hM.by1 i o (lt_of_some ho) ho
        rw [he, Int.toNat_natCast] at this
        rw [hk, decide_eq_false (by omega)]
        rfl
      · have : ((m.tensors.map (·.kind)).getD t 0 == 3) = false := by simpa using hk
        rw [this]; rfl

/-- Tensor t is there ahead of operator i. -/
def There (m : Md) (t i : Int) : Prop := 0 ≤ t ∧ t < m.tensors.length ∧ (m.tensors.map (·.kind)).getD t.toNat 0 ≠ 2 ∧ ((m.tensors.map (·.kind)).getD t.toNat 0 = 3 → ∃ (j : Nat) (o : Op), (j : Int) < i ∧ m.ops[j]? = some o ∧ o.to = t)

theorem ready_iff {m : Md} {by_ : List Int} (hO : Once m m.ops.length) (hM : Made m m.ops.length by_) (hA : AllMade m) (t i : Int) (hi : 0 ≤ i) : isReady m by_ i t = true ↔ There m t i := by
  unfold isReady isCells There
  simp only [Bool.and_eq_true, decide_eq_true_eq, bne_iff_ne]
  constructor
  · rintro ⟨⟨⟨⟨h1, h2⟩, h3⟩, h4⟩, h5⟩
    refine ⟨h1, h2, h3, fun hk => ?_⟩
    obtain ⟨j, o, hj, he⟩ := hA t.toNat (by omega) hk
    have := hM.by1 j o (lt_of_some hj) hj
    rw [he, Int.toNat_natCast] at this
    exact ⟨j, o, by omega, hj, by omega⟩
  · rintro ⟨h1, h2, h3, h4⟩
    refine ⟨⟨⟨⟨h1, h2⟩, h3⟩, by rw [hM.len]; exact h2⟩, ?_⟩
    by_cases hk : (m.tensors.map (·.kind)).getD t.toNat 0 = 3
    · obtain ⟨j, o, hj, ho, he⟩ := h4 hk
      have := hM.by1 j o (lt_of_some ho) ho
      rw [he] at this
      omega
    · have := hM.no t.toNat (by omega) fun j o _ ho he => by
        have h5 := (isKind_lt (hO.inner j o (lt_of_some ho) ho)).2.2
        rw [he, Int.toNat_natCast] at h5
        exact hk h5
      omega

end M
end Go.Proofs.YtcnhfffgbamonaaGreat

/-
  What the landed code reckons of cells, in plain functions; its numbers are the document's.
-/
namespace Go.Proofs.YtcnhfffgbamonaaGreat
namespace O

/-- A tensor with its cells. -/
structure G where
  h : Int
  w : Int
  c : Int
  zero : Int
  cells : List Int

def nth (g : G) (i : Int) : Int := if i < 0 ∨ (g.cells.length : Int) ≤ i then g.zero else g.cells.getD i.toNat 0
abbrev off (g : G) (y x k : Int) : Prop := y < 0 ∨ g.h ≤ y ∨ x < 0 ∨ g.w ≤ x ∨ k < 0 ∨ g.c ≤ k
def at_ (g : G) (y x k : Int) : Int := if off g y x k then g.zero else nth g ((y * g.w + x) * g.c + k)
def lay (t : M.Tn) (l : List Int) : G := ⟨t.h, t.w, t.c, t.zero, l⟩
def noG : G := ⟨0, 0, 0, 0, []⟩

structure J where
  op : M.Op
  a : G
  b : G
  weights : G
  biases : G
  made : M.Tn

def start (m : M.Md) (o : M.Op) (a b : List Int) : J :=
  ⟨o, lay (M.tensorAt m o.a) a, if M.readsTwo o.kind = true then lay (M.tensorAt m o.b) b else noG,
   if M.hasWeights o.kind = true then lay (M.tensorAt m o.weights) (M.tensorAt m o.weights).data else noG,
   if M.hasWeights o.kind = true then lay (M.tensorAt m o.biases) (M.tensorAt m o.biases).data else noG,
   M.tensorAt m o.to⟩

def held (x : Int) : Int := R.between x (-2147483648) 2147483647
def nearest (x n : Int) : Int := if n < 1 then x else if x < 0 then -((-x + n / 2) / n) else (x + n / 2) / n
def raised (x s : Int) : Int := if 0 < s then held (x * 2 ^ s.toNat) else x
def high (x m : Int) : Int := held ((x * m + 1073741824) / 2147483648)
def scaled (x : Int) (c : M.Sc) : Int := if c.shift < 0 then nearest (high (raised x c.shift) c.mult) (2 ^ (-c.shift).toNat) else high (raised x c.shift) c.mult
def scaledBy (j : J) (x : Int) (k : Nat) : Int := match j.op.scales[k]? with | some c => scaled x c | none => 0
def ranged (j : J) (x : Int) : Int := R.between x j.op.lo j.op.hi
def out (j : J) (x : Int) (k : Nat) : Int := ranged j (scaledBy j x k + j.made.zero)

def begin_ (window windows n length stride : Int) : Int :=
  window * stride - (if (windows - 1) * stride + n - length < 0 then 0 else (windows - 1) * stride + n - length) / 2

def top (j : J) (y : Int) : Int := begin_ y j.made.h j.weights.h j.a.h j.op.stride
def left (j : J) (x : Int) : Int := begin_ x j.made.w j.weights.w j.a.w j.op.stride
def term (j : J) (u v shift first : Int) (i p k : Nat) : Int := (at_ j.a (u + i) (v + p) (first + k) - j.a.zero) * at_ j.weights i p (shift + (first + k))
/-- A sum over a window, behind i rows, p places and k channels of n. -/
def part (j : J) (u v o shift first : Int) (n i p k : Nat) : Int :=
  nth j.biases o + D.S (fun i => D.S (fun p => D.S (term j u v shift first i p) n) j.weights.w.toNat) i + D.S (fun p => D.S (term j u v shift first i p) n) p + D.S (term j u v shift first i p) k
def weighSum (j : J) (y x o first last shift : Int) : Int := part j (top j y) (left j x) o shift first (last - first).toNat j.weights.h.toNat 0 0
def weigh (j : J) (y x o first last shift : Int) : Int := out j (weighSum j y x o first last shift) 0

def allTo (j : J) (o : Int) (n : Nat) : Int := nth j.biases o + D.S (fun i => (j.a.cells.getD i 0 - j.a.zero) * at_ j.weights o 0 i) n
def weighAll (j : J) (o : Int) : Int := out j (allTo j o j.a.cells.length) 0

def addSum (j : J) (y x k : Int) : Int := held (scaledBy j ((at_ j.a y x k - j.a.zero) * 1048576) 0 + scaledBy j ((at_ j.b y x k - j.b.zero) * 1048576) 1)
def add (j : J) (y x k : Int) : Int := out j (addSum j y x k) 2

def poolAt (j : J) (y x k : Int) (q : Nat) : Int := at_ j.a (y * j.op.stride + q / j.op.size) (x * j.op.stride + q % j.op.size) k
def best (f : Nat → Int) : Nat → Int
  | 0 => -128
  | n + 1 => if best f n < f n then f n else best f n
def pool (j : J) (y x k : Int) : Int :=
  if j.op.kind = 5 then ranged j (best (poolAt j y x k) (j.op.size * j.op.size).toNat) else ranged j (nearest (D.S (poolAt j y x k) (j.op.size * j.op.size).toNat) (j.op.size * j.op.size))

def cell (j : J) (y x k : Int) : Int :=
  if j.op.kind = 1 then weigh j y x k 0 j.a.c (k * j.a.c)
  else if j.op.kind = 2 then weigh j y x k k (k + 1) 0
  else if j.op.kind = 3 then weighAll j k
  else if j.op.kind = 4 then add j y x k
  else if j.op.kind = 5 ∨ j.op.kind = 6 then pool j y x k
  else if j.op.kind = 7 then ranged j (at_ j.a y x k)
  else if j.op.kind = 8 then at_ j.a (y - j.op.above) (x - j.op.left) k
  else if j.op.kind = 9 then nth j.a ((y * j.made.w + x) * j.made.c + k)
  else if j.op.kind = 10 then (if k < j.a.c then at_ j.a y x k else at_ j.b y x (k - j.a.c))
  else j.made.zero

/-- The first n cells of a tensor, in their order. -/
def gridTo (t : M.Tn) (f : Int → Int → Int → Int) (n : Nat) : List Int :=
  (List.range n).map fun (q : Nat) => f ((q : Int) / (t.w * t.c)) ((q : Int) / t.c % t.w) ((q : Int) % t.c)
def make (m : M.Md) (o : M.Op) (a b : List Int) : List Int := D.grid (M.tensorAt m o.to) (cell (start m o a b))

def given : List M.Tn → List (List Int) → List (List Int)
  | [], _ => []
  | t :: ts, ins => if t.kind = 0 then ins.headD [] :: given ts ins.tail else if t.kind = 1 then t.data :: given ts ins else [] :: given ts ins
def step (m : M.Md) (env : List (List Int)) (o : M.Op) : List (List Int) := env.set o.to.toNat (make m o (D.cellsAt env o.a) (D.cellsAt env o.b))
def env (m : M.Md) (ins : List (List Int)) : List (List Int) := m.ops.foldl (step m) (given m.tensors ins)
def run (m : M.Md) (ins : List (List Int)) : List (List Int) := m.outs.map (D.cellsAt (env m ins))

-- numbers
theorem held_eq (x : Int) : held x = R.held x := by
  unfold held R.between R.held
  split <;> split <;> (try split) <;> omega

theorem two_pow (k : Nat) : (0 : Int) < 2 ^ k := Int.pow_pos (by decide)

theorem nearest_eq {h s : Int} (hs : s < 0) : nearest h (2 ^ (-s).toNat) = R.lowered h s := by
  obtain ⟨k, hk⟩ : ∃ k : Nat, (-s).toNat = k + 1 := ⟨(-s).toNat - 1, by omega⟩
  unfold nearest R.lowered
  rw [hk]
  have hp := two_pow k
  have e2 : (2 : Int) ^ (k + 1) = 2 * 2 ^ k := by rw [Int.pow_succ, Int.mul_comm]
  have eh : (2 : Int) ^ (k + 1) / 2 = 2 ^ k := by rw [e2]; exact Int.mul_ediv_cancel_left _ (by decide)
  rw [if_neg (by rw [e2]; omega), if_neg (show ¬ 0 ≤ s by omega)]
  by_cases c : h < 0
  · rw [if_pos c, if_pos c, eh]
    congr 1
    rw [e2, show 2 * (2:Int) ^ k - 2 * h = 2 * (-h + 2 ^ k) by omega, Int.mul_ediv_mul_of_pos _ _ (by decide)]
  · rw [if_neg c, if_neg c, eh, e2, show 2 * (2:Int) ^ k + 2 * h = 2 * (h + 2 ^ k) by omega, Int.mul_ediv_mul_of_pos _ _ (by decide)]

theorem scaled_eq (x : Int) (c : M.Sc) : scaled x c = R.scaled x c.mult c.shift := by
  unfold scaled R.scaled
  have e1 : raised x c.shift = R.raised x c.shift := by unfold raised R.raised; rw [held_eq]
  have e2 : high (raised x c.shift) c.mult = R.high (R.raised x c.shift) c.mult := by unfold high R.high; rw [held_eq, e1]
  rw [e2]
  by_cases h : c.shift < 0
  · rw [if_pos h, nearest_eq h]
  · rw [if_neg h]; unfold R.lowered; rw [if_pos (by omega)]

theorem scaledBy_eq {j : J} {x : Int} {k : Nat} (h : k < j.op.scales.length) : scaledBy j x k = D.scaledBy x (D.scaleNo j.op k) := by
  unfold scaledBy D.scaledBy D.scaleNo
  rw [List.getElem?_eq_getElem h, List.getD, List.getElem?_eq_getElem h]
  exact scaled_eq _ _

theorem mean_eq {s n : Int} (hn : 1 ≤ n) : nearest s n = D.mean s n := by
  have key : ∀ t : Int, (t + n / 2) / n = (2 * t + n) / (2 * n) := by
    intro t
    rw [← Int.ediv_ediv_of_nonneg (by decide)]
    congr 1
    omega
  unfold nearest D.mean
  rw [if_neg (by omega)]
  by_cases c : s < 0
  · rw [if_pos c, if_pos c, key, show 2 * -s = -(2 * s) by omega]
  · rw [if_neg c, if_neg c, key]

theorem best_eq {f : Nat → Int} : ∀ n, 0 < n → (∀ i, i < n → -128 ≤ f i) → best f n = D.maxOf f n
  | 0, h, _ => absurd h (by omega)
  | n + 1, _, h => by
    unfold best D.maxOf
    by_cases h0 : n = 0
    · subst h0
      have := h 0 (by omega)
      rw [if_pos rfl]
      show (if -128 < f 0 then f 0 else -128) = f 0
      split <;> omega
    · rw [if_neg h0, best_eq n (by omega) fun i hi => h i (by omega)]

theorem begin_eq {window n length stride : Int} {same : Bool} (hs : 1 ≤ stride) (hn : 1 ≤ n) (hl : same = false → n ≤ length) :
    begin_ window (M.windows n length stride same) n length stride = window * stride - D.lead length n stride same := by
  unfold begin_ D.lead
  congr 1
  cases same with
  | true =>
    simp only [Bool.true_eq_false, false_or]
    split <;> simp
  | false =>
    simp only [true_or, if_true]
    have hl := hl rfl
    have e : M.windows n length stride false = (length - n) / stride + 1 := by
      unfold M.windows; rw [if_neg (by omega), if_neg (by decide), if_neg (by omega)]
    rw [e]
    have h1 : (length - n) / stride * stride ≤ length - n := Int.ediv_mul_le _ (by omega)
    rw [Int.add_sub_cancel]
    split
    · rfl
    · rename_i c
      have : (length - n) / stride * stride + n - length = 0 := by omega
      rw [this]; rfl

-- cells
theorem nth_get {g : G} {i : Int} (h0 : 0 ≤ i) (h1 : i < g.cells.length) : nth g i = D.get g.cells i := by
  unfold nth D.get
  rw [if_neg (by omega), if_neg (by omega)]

theorem place_range {H W C y x k : Int} (hy : 0 ≤ y) (hy1 : y < H) (hx : 0 ≤ x) (hx1 : x < W) (hk : 0 ≤ k) (hk1 : k < C) : 0 ≤ (y * W + x) * C + k ∧ (y * W + x) * C + k < H * W * C := by
  have h1 : 0 ≤ y * W := Int.mul_nonneg hy (by omega)
  have h2 : (y + 1) * W ≤ H * W := Int.mul_le_mul_of_nonneg_right (by omega) (by omega)
  rw [Int.add_mul, Int.one_mul] at h2
  have h3 : 0 ≤ (y * W + x) * C := Int.mul_nonneg (by omega) (by omega)
  have h4 : (y * W + x + 1) * C ≤ H * W * C := Int.mul_le_mul_of_nonneg_right (by omega) (by omega)
  rw [Int.add_mul, Int.one_mul] at h4
  omega

theorem at_in {t : M.Tn} {l : List Int} {y x k : Int} (hl : (l.length : Int) = M.cellsOf t) (hy : 0 ≤ y) (hy1 : y < t.h) (hx : 0 ≤ x) (hx1 : x < t.w) (hk : 0 ≤ k) (hk1 : k < t.c) : at_ (lay t l) y x k = D.at_ t l y x k := by
  have hp := place_range hy hy1 hx hx1 hk hk1
  unfold at_ D.at_
  rw [if_neg (by unfold off lay; simp only; omega)]
  exact nth_get (g := lay t l) hp.1 (by show _ < (l.length : Int); rw [hl]; exact hp.2)

theorem at_out {t : M.Tn} {l : List Int} {y x k : Int} (h : y < 0 ∨ t.h ≤ y ∨ x < 0 ∨ t.w ≤ x) : at_ (lay t l) y x k = t.zero := by
  unfold at_
  rw [if_pos (by unfold off lay; simp only; omega)]
  rfl

theorem inside_iff (t : M.Tn) (y x : Int) : D.inside t y x = true ↔ 0 ≤ y ∧ y < t.h ∧ 0 ≤ x ∧ x < t.w := by
  unfold D.inside; simp [and_assoc]

theorem at_inside {t : M.Tn} {l : List Int} {y x k : Int} (hl : (l.length : Int) = M.cellsOf t) (hk : 0 ≤ k) (hk1 : k < t.c) : at_ (lay t l) y x k = if D.inside t y x = true then D.at_ t l y x k else t.zero := by
  by_cases h : D.inside t y x = true
  · rw [if_pos h]
    obtain ⟨a, b, c, d⟩ := (inside_iff t y x).mp h
    exact at_in hl a b c d hk hk1
  · rw [if_neg h]
    apply at_out
    rw [inside_iff] at h
    omega

end O
end Go.Proofs.YtcnhfffgbamonaaGreat

/-
  An operator's cells by the code are the document's.
-/
namespace Go.Proofs.YtcnhfffgbamonaaGreat
namespace O

/-- A tensor of a model within its limits. -/
structure Dim (t : M.Tn) : Prop where
  h0 : 1 ≤ t.h
  h1 : t.h ≤ 255
  w0 : 1 ≤ t.w
  w1 : t.w ≤ 255
  c0 : 1 ≤ t.c
  c1 : t.c ≤ 255
  most : M.cellsOf t ≤ 512
  z0 : -128 ≤ t.zero
  z1 : t.zero ≤ 127

theorem dim_of {t : M.Tn} (hf : FitT t) (h : M.cellsHold t = true) : Dim t := by
  unfold M.cellsHold at h
  simp only [Bool.not_eq_true', Bool.or_eq_false_iff, decide_eq_false_iff_not] at h
  unfold M.cellsOf at h
  have h0 : t.h ≠ 0 := by intro e; rw [e] at h; simp at h
  have w0 : t.w ≠ 0 := by intro e; rw [e] at h; simp at h
  have c0 : t.c ≠ 0 := by intro e; rw [e] at h; simp at h
  have a := hf.h0; have b := hf.w0; have c := hf.c0
  exact ⟨by omega, hf.h1, by omega, hf.w1, by omega, hf.c1, by unfold M.cellsOf; omega, hf.z0, hf.z1⟩

/-- What an operator of a model that is one finds. -/
structure Finds (m : M.Md) (o : M.Op) (la lb : List Int) : Prop where
  fit : FitO o
  shape : M.shape m o = true
  quant : M.quantOp m o = true
  z : Dim (M.tensorAt m o.to)
  a : Dim (M.tensorAt m o.a)
  na : (la.length : Int) = M.cellsOf (M.tensorAt m o.a)
  ca : D.Cells la
  b : M.readsTwo o.kind = true → Dim (M.tensorAt m o.b)
  nb : M.readsTwo o.kind = true → (lb.length : Int) = M.cellsOf (M.tensorAt m o.b)
  cb : M.readsTwo o.kind = true → D.Cells lb
  w : M.hasWeights o.kind = true → Dim (M.tensorAt m o.weights)
  lw : M.hasWeights o.kind = true → ((M.tensorAt m o.weights).data.length : Int) = M.cellsOf (M.tensorAt m o.weights)
  cw : M.hasWeights o.kind = true → D.Cells (M.tensorAt m o.weights).data
  bi : M.hasWeights o.kind = true → Dim (M.tensorAt m o.biases)
  li : M.hasWeights o.kind = true → ((M.tensorAt m o.biases).data.length : Int) = M.cellsOf (M.tensorAt m o.biases)
  ci : M.hasWeights o.kind = true → ∀ v ∈ (M.tensorAt m o.biases).data, -1073741824 ≤ v ∧ v ≤ 1073741824

def reads (m : M.Md) (o : M.Op) (la lb : List Int) : D.Reads :=
  ⟨M.tensorAt m o.a, la, M.tensorAt m o.b, lb, M.tensorAt m o.weights, (M.tensorAt m o.weights).data, (M.tensorAt m o.biases).data, M.tensorAt m o.to⟩

theorem out_eq {m : M.Md} {o : M.Op} {la lb : List Int} {x : Int} {k : Nat} (h : k < o.scales.length) : out (start m o la lb) x k = D.quantised o (reads m o la lb) x k := by
  unfold out ranged D.quantised
  rw [scaledBy_eq (j := start m o la lb) h]
  rfl

theorem windows_pos {n length s : Int} {same : Bool} (h : 1 ≤ M.windows n length s same) : 1 ≤ s ∧ 1 ≤ n ∧ (same = false → n ≤ length) := by
  unfold M.windows at h
  by_cases c : s < 1 ∨ n < 1
  · rw [if_pos c] at h; omega
  · rw [if_neg c] at h
    refine ⟨by omega, by omega, fun hs => ?_⟩
    rw [if_neg (by rw [hs]; decide)] at h
    by_cases d : length < n
    · rw [if_pos d] at h; omega
    · omega

theorem part_end (j : J) (u v o shift first : Int) (n i : Nat) : part j u v o shift first n i 0 0 = nth j.biases o + D.S (fun i => D.S (fun p => D.S (term j u v shift first i p) n) j.weights.w.toNat) i := by
  unfold part
  simp [D.S]

theorem isRow_iff (t : M.Tn) (n : Int) : M.isRow t n = true ↔ t.h = 1 ∧ t.w = 1 ∧ t.c = n := by
  unfold M.isRow; simp [and_assoc]

theorem mul_lt_mul {k c n z : Int} (hk : 0 ≤ k) (hkz : k < z) (hn : 0 ≤ n) (hnc : n < c) : 0 ≤ k * c + n ∧ k * c + n < c * z := by
  have h1 : 0 ≤ k * c := Int.mul_nonneg hk (by omega)
  have h2 : (k + 1) * c ≤ z * c := Int.mul_le_mul_of_nonneg_right (by omega) (by omega)
  rw [Int.add_mul, Int.one_mul] at h2
  rw [Int.mul_comm c z]
  omega

theorem conv_parts {o : M.Op} {a w b z : M.Tn} (h : M.convHolds o a w b z = true) : z.h = M.windows w.h a.h o.stride o.same ∧ z.w = M.windows w.w a.w o.stride o.same ∧ M.isRow b z.c = true ∧ (o.kind = 2 → w.c = a.c ∧ z.c = a.c) ∧ (o.kind ≠ 2 → w.c = a.c * z.c) := by
  unfold M.convHolds at h
  by_cases c : z.h ≠ M.windows w.h a.h o.stride o.same ∨ z.w ≠ M.windows w.w a.w o.stride o.same ∨ M.isRow b z.c = false
  · rw [if_pos c] at h; exact Bool.noConfusion h
  · rw [if_neg c] at h
    have c1 : z.h = M.windows w.h a.h o.stride o.same := Decidable.byContradiction fun q => c (.inl q)
    have c2 : z.w = M.windows w.w a.w o.stride o.same := Decidable.byContradiction fun q => c (.inr (.inl q))
    have c3 : M.isRow b z.c = true := by
      cases e : M.isRow b z.c with
      | true => rfl
      | false => exact absurd (.inr (.inr e)) c
    refine ⟨c1, c2, c3, fun k => ?_, fun k => ?_⟩
    · rw [if_pos k] at h; simpa using h
    · rw [if_neg k] at h; simpa using h

theorem shape_conv {m : M.Md} {o : M.Op} (h : M.shape m o = true) (hk : o.kind = 1 ∨ o.kind = 2) : M.convHolds o (M.tensorAt m o.a) (M.tensorAt m o.weights) (M.tensorAt m o.biases) (M.tensorAt m o.to) = true := by
  unfold M.shape at h
  simp only [if_pos hk] at h
  exact h

/-- The sum over a window. -/
theorem weigh_sum {m : M.Md} {o : M.Op} {la lb : List Int} (F : Finds m o la lb) (hk : o.kind = 1 ∨ o.kind = 2) {y x k : Int} (k0 : 0 ≤ k) (k1 : k < (M.tensorAt m o.to).c) :
    weighSum (start m o la lb) y x k (if o.kind = 1 then 0 else k) (if o.kind = 1 then (M.tensorAt m o.a).c else k + 1) (if o.kind = 1 then k * (M.tensorAt m o.a).c else 0) = D.winSum o (reads m o la lb) y x k := by
  have hW : M.hasWeights o.kind = true := by rw [hw_iff]; omega
  obtain ⟨s1, s2, s3, s4, s5⟩ := conv_parts (shape_conv F.shape hk)
  obtain ⟨b1, b2, b3⟩ := (isRow_iff _ _).mp s3
  have ew : (start m o la lb).weights = lay (M.tensorAt m o.weights) (M.tensorAt m o.weights).data := if_pos hW
  have eb : (start m o la lb).biases = lay (M.tensorAt m o.biases) (M.tensorAt m o.biases).data := if_pos hW
  have ea : (start m o la lb).a = lay (M.tensorAt m o.a) la := rfl
  have lw := F.lw hW
  have li := F.li hW
  have p1 := windows_pos (same := o.same) (show 1 ≤ M.windows (M.tensorAt m o.weights).h (M.tensorAt m o.a).h o.stride o.same by rw [← s1]; exact F.z.h0)
  have p2 := windows_pos (same := o.same) (show 1 ≤ M.windows (M.tensorAt m o.weights).w (M.tensorAt m o.a).w o.stride o.same by rw [← s2]; exact F.z.w0)
  have e1 : top (start m o la lb) y = y * o.stride - D.lead (M.tensorAt m o.a).h (M.tensorAt m o.weights).h o.stride o.same := by
    unfold top; rw [ew, ea]
    show begin_ y (M.tensorAt m o.to).h _ _ o.stride = _
    rw [s1]; exact begin_eq p1.1 p1.2.1 p1.2.2
  have e2 : left (start m o la lb) x = x * o.stride - D.lead (M.tensorAt m o.a).w (M.tensorAt m o.weights).w o.stride o.same := by
    unfold left; rw [ew, ea]
    show begin_ x (M.tensorAt m o.to).w _ _ o.stride = _
    rw [s2]; exact begin_eq p2.1 p2.2.1 p2.2.2
  unfold weighSum
  rw [part_end, e1, e2, eb, ew]
  unfold D.winSum
  have eB : nth (lay (M.tensorAt m o.biases) (M.tensorAt m o.biases).data) k = D.get (reads m o la lb).bias k := by
    refine nth_get (g := lay (M.tensorAt m o.biases) (M.tensorAt m o.biases).data) k0 ?_
    show k < ((M.tensorAt m o.biases).data.length : Int)
    rw [li]; unfold M.cellsOf; rw [b1, b2, b3]; omega
  rw [eB]
  congr 1
  refine D.S_congr fun i hi => D.S_congr fun p hp => ?_
  have hi' : (i : Int) < (M.tensorAt m o.weights).h := by have : i < (M.tensorAt m o.weights).h.toNat := hi; omega
  have hp' : (p : Int) < (M.tensorAt m o.weights).w := by have : p < (M.tensorAt m o.weights).w.toNat := hp; omega
  show D.S (term (start m o la lb) (y * o.stride - D.lead (M.tensorAt m o.a).h (M.tensorAt m o.weights).h o.stride o.same) (x * o.stride - D.lead (M.tensorAt m o.a).w (M.tensorAt m o.weights).w o.stride o.same) _ _ i p) _ =
    D.tap o (reads m o la lb) (y * o.stride - D.lead (M.tensorAt m o.a).h (M.tensorAt m o.weights).h o.stride o.same + i) (x * o.stride - D.lead (M.tensorAt m o.a).w (M.tensorAt m o.weights).w o.stride o.same + p) k i p
  generalize hu : y * o.stride - D.lead (M.tensorAt m o.a).h (M.tensorAt m o.weights).h o.stride o.same = u
  generalize hv : x * o.stride - D.lead (M.tensorAt m o.a).w (M.tensorAt m o.weights).w o.stride o.same = v
  have T : ∀ first shift : Int, ∀ q : Nat, 0 ≤ first + q → first + q < (M.tensorAt m o.a).c → 0 ≤ shift + (first + q) → shift + (first + q) < (M.tensorAt m o.weights).c →
      term (start m o la lb) u v shift first i p q = if D.inside (M.tensorAt m o.a) (u + i) (v + p) = true then (D.at_ (M.tensorAt m o.a) la (u + i) (v + p) (first + q) - (M.tensorAt m o.a).zero) * D.at_ (M.tensorAt m o.weights) (M.tensorAt m o.weights).data i p (shift + (first + q)) else 0 := by
    intro first shift q c0 c1 d0 d1
    unfold term
    rw [ea, ew, at_inside F.na c0 c1, at_in lw (by omega) hi' (by omega) hp' d0 d1]
    show (_ - (M.tensorAt m o.a).zero) * _ = _
    split
    · rfl
    · rw [Int.sub_self, Int.zero_mul]
  show D.S (term (start m o la lb) u v _ _ i p) _ = D.tap o (reads m o la lb) (u + i) (v + p) k i p
  unfold D.tap
  show _ = if D.inside (M.tensorAt m o.a) (u + i) (v + p) = true then _ else 0
  rcases hk with hk | hk
  · have n2 : ¬ o.kind = 2 := by omega
    simp only [if_pos hk, if_neg n2]
    rw [Int.sub_zero]
    have wc := s5 n2
    by_cases hin : D.inside (M.tensorAt m o.a) (u + i) (v + p) = true
    · rw [if_pos hin]
      refine D.S_congr fun q hq => ?_
      have := mul_lt_mul (n := (q : Int)) (c := (M.tensorAt m o.a).c) k0 k1 (by omega) (by omega)
      rw [T 0 (k * (M.tensorAt m o.a).c) q (by omega) (by omega) (by omega) (by rw [wc]; omega), if_pos hin]
      simp only [Int.zero_add]
      rfl
    · rw [if_neg hin]
      refine Eq.trans (D.S_congr (g := fun _ => 0) fun q hq => ?_) (D.S_zero _)
      have := mul_lt_mul (n := (q : Int)) (c := (M.tensorAt m o.a).c) k0 k1 (by omega) (by omega)
      rw [T 0 (k * (M.tensorAt m o.a).c) q (by omega) (by omega) (by omega) (by rw [wc]; omega), if_neg hin]
  · have n1 : ¬ o.kind = 1 := by omega
    simp only [if_neg n1, if_pos hk]
    have wc := s4 hk
    rw [show (k + 1 - k).toNat = 1 by omega]
    show D.S _ 0 + term _ u v 0 k i p 0 = _
    rw [T k 0 0 (by omega) (by omega) (by omega) (by omega)]
    simp only [Int.zero_add, Int.natCast_zero, Int.add_zero, D.S]
    rfl

theorem shape_dense {m : M.Md} {o : M.Op} (h : M.shape m o = true) (hk : o.kind = 3) : M.denseHolds (M.tensorAt m o.a) (M.tensorAt m o.weights) (M.tensorAt m o.biases) (M.tensorAt m o.to) = true := by
  unfold M.shape at h
  simp only [hk] at h
  simpa using h

theorem getD_get (l : List Int) (i : Nat) : l.getD i 0 = D.get l i := by
  unfold D.get; rw [if_neg (by omega), Int.toNat_natCast]

theorem dense_sum {m : M.Md} {o : M.Op} {la lb : List Int} (F : Finds m o la lb) (hk : o.kind = 3) {k : Int} (k0 : 0 ≤ k) (k1 : k < (M.tensorAt m o.to).c) :
    allTo (start m o la lb) k la.length = D.denseSum (reads m o la lb) k := by
  have hW : M.hasWeights o.kind = true := by rw [hw_iff]; omega
  have hd := shape_dense F.shape hk
  unfold M.denseHolds at hd
  simp only [Bool.and_eq_true, beq_iff_eq] at hd
  obtain ⟨⟨⟨d1, d2⟩, d3⟩, d4⟩ := hd
  obtain ⟨z1, z2, z3⟩ := (isRow_iff _ _).mp d1
  obtain ⟨b1, b2, b3⟩ := (isRow_iff _ _).mp d2
  have ew : (start m o la lb).weights = lay (M.tensorAt m o.weights) (M.tensorAt m o.weights).data := if_pos hW
  have eb : (start m o la lb).biases = lay (M.tensorAt m o.biases) (M.tensorAt m o.biases).data := if_pos hW
  unfold allTo D.denseSum
  rw [ew, eb]
  have eB : nth (lay (M.tensorAt m o.biases) (M.tensorAt m o.biases).data) k = D.get (reads m o la lb).bias k := by
    refine nth_get (g := lay (M.tensorAt m o.biases) (M.tensorAt m o.biases).data) k0 ?_
    show k < ((M.tensorAt m o.biases).data.length : Int)
    rw [F.li hW]; unfold M.cellsOf; rw [b1, b2, b3]; omega
  rw [eB]
  congr 1
  have en : (M.cellsOf (reads m o la lb).a).toNat = la.length := by
    show (M.cellsOf (M.tensorAt m o.a)).toNat = _
    rw [← F.na]; omega
  rw [en]
  refine D.S_congr fun i hi => ?_
  have : (i : Int) < M.cellsOf (M.tensorAt m o.a) := by rw [← F.na]; omega
  rw [at_in (F.lw hW) k0 (by omega) (by omega) (by omega) (by omega) (by omega)]
  show (la.getD i 0 - _) * _ = _
  rw [getD_get]
  rfl

theorem shape_rest {m : M.Md} {o : M.Op} (h : M.shape m o = true) : (o.kind = 4 → M.alike (M.tensorAt m o.a) (M.tensorAt m o.to) = true ∧ M.alike (M.tensorAt m o.b) (M.tensorAt m o.to) = true) ∧
    (o.kind = 7 → M.alike (M.tensorAt m o.a) (M.tensorAt m o.to) = true) ∧ (o.kind = 5 ∨ o.kind = 6 → M.poolHolds o (M.tensorAt m o.a) (M.tensorAt m o.to) = true) ∧
    (o.kind = 8 → (M.tensorAt m o.to).h = (M.tensorAt m o.a).h + o.above + o.below ∧ (M.tensorAt m o.to).w = (M.tensorAt m o.a).w + o.left + o.right ∧ (M.tensorAt m o.to).c = (M.tensorAt m o.a).c) ∧
    (o.kind = 9 → M.cellsOf (M.tensorAt m o.a) = M.cellsOf (M.tensorAt m o.to)) ∧
    (o.kind = 10 → (M.tensorAt m o.a).h = (M.tensorAt m o.b).h ∧ (M.tensorAt m o.a).w = (M.tensorAt m o.b).w ∧ (M.tensorAt m o.to).h = (M.tensorAt m o.a).h ∧ (M.tensorAt m o.to).w = (M.tensorAt m o.a).w ∧ (M.tensorAt m o.to).c = (M.tensorAt m o.a).c + (M.tensorAt m o.b).c) := by
  unfold M.shape at h
  refine ⟨fun k => ?_, fun k => ?_, fun k => ?_, fun k => ?_, fun k => ?_, fun k => ?_⟩
  · simp only [k] at h; simpa using h
  · simp only [k] at h; simpa using h
  · rcases k with k | k <;> (simp only [k] at h; simpa using h)
  · simp only [k] at h; simpa [and_assoc] using h
  · simp only [k] at h; simpa using h
  · simp only [k] at h; simpa [and_assoc] using h

theorem alike_iff (a z : M.Tn) : M.alike a z = true ↔ a.h = z.h ∧ a.w = z.w ∧ a.c = z.c := by
  unfold M.alike; simp [and_assoc]

theorem add_sum {m : M.Md} {o : M.Op} {la lb : List Int} (F : Finds m o la lb) (hk : o.kind = 4) {y x k : Int} (y0 : 0 ≤ y) (y1 : y < (M.tensorAt m o.to).h) (x0 : 0 ≤ x) (x1 : x < (M.tensorAt m o.to).w) (k0 : 0 ≤ k) (k1 : k < (M.tensorAt m o.to).c) :
    addSum (start m o la lb) y x k = D.addSum o (reads m o la lb) y x k := by
  have hT : M.readsTwo o.kind = true := by rw [rt_iff]; omega
  obtain ⟨sa, sb⟩ := (shape_rest F.shape).1 hk
  obtain ⟨a1, a2, a3⟩ := (alike_iff _ _).mp sa
  obtain ⟨b1, b2, b3⟩ := (alike_iff _ _).mp sb
  have eb : (start m o la lb).b = lay (M.tensorAt m o.b) lb := if_pos hT
  have hl : o.scales.length = 3 := by
    have := F.fit.scales
    rw [if_neg (by rw [hw_iff]; omega), if_pos hk] at this
    exact this
  have hl' : (start m o la lb).op.scales.length = 3 := hl
  unfold addSum D.addSum
  rw [eb, held_eq, scaledBy_eq (by omega), scaledBy_eq (by omega), at_in (F.nb hT) y0 (by omega) x0 (by omega) k0 (by omega)]
  have ea : at_ (start m o la lb).a y x k = D.at_ (M.tensorAt m o.a) la y x k := at_in F.na y0 (by omega) x0 (by omega) k0 (by omega)
  rw [ea]
  rfl

theorem pool_parts {o : M.Op} {a z : M.Tn} (h : M.poolHolds o a z = true) : z.h = M.windows o.size a.h o.stride false ∧ z.w = M.windows o.size a.w o.stride false ∧ z.c = a.c := by
  unfold M.poolHolds at h; simpa [and_assoc] using h

/-- A window without edges lies within. -/
theorem window_in {n length s y : Int} (hs : 1 ≤ s) (hn : 1 ≤ n) (y0 : 0 ≤ y) (y1 : y < M.windows n length s false) : y * s + n ≤ length := by
  unfold M.windows at y1
  rw [if_neg (by omega), if_neg (by decide)] at y1
  by_cases c : length < n
  · rw [if_pos c] at y1; omega
  · rw [if_neg c] at y1
    have h1 : y * s ≤ (length - n) / s * s := Int.mul_le_mul_of_nonneg_right (by omega) (by omega)
    have h2 : (length - n) / s * s ≤ length - n := Int.ediv_mul_le _ (by omega)
    omega

theorem pool_at {m : M.Md} {o : M.Op} {la lb : List Int} (F : Finds m o la lb) (hk : o.kind = 5 ∨ o.kind = 6) {y x k : Int} (y0 : 0 ≤ y) (y1 : y < (M.tensorAt m o.to).h) (x0 : 0 ≤ x) (x1 : x < (M.tensorAt m o.to).w) (k0 : 0 ≤ k) (k1 : k < (M.tensorAt m o.to).c) :
    1 ≤ o.size ∧ ∀ q, q < (o.size * o.size).toNat → poolAt (start m o la lb) y x k q = D.poolAt o (reads m o la lb) y x k q := by
  obtain ⟨s1, s2, s3⟩ := pool_parts ((shape_rest F.shape).2.2.1 hk)
  have p1 := windows_pos (show 1 ≤ M.windows o.size (M.tensorAt m o.a).h o.stride false by rw [← s1]; exact F.z.h0)
  have w1 := window_in p1.1 p1.2.1 y0 (by rw [← s1]; exact y1)
  have w2 := window_in p1.1 p1.2.1 x0 (by rw [← s2]; exact x1)
  refine ⟨p1.2.1, fun q hq => ?_⟩
  have hq0 : (q : Int) < o.size * o.size := by omega
  have d0 : 0 ≤ (q : Int) / o.size := Int.ediv_nonneg (by omega) (by omega)
  have d1 : (q : Int) / o.size < o.size := Int.ediv_lt_of_lt_mul (by omega) hq0
  have e0 : 0 ≤ (q : Int) % o.size := Int.emod_nonneg _ (by omega)
  have e1 : (q : Int) % o.size < o.size := Int.emod_lt_of_pos _ (by omega)
  have g0 : 0 ≤ y * o.stride := Int.mul_nonneg y0 (by omega)
  have g1 : 0 ≤ x * o.stride := Int.mul_nonneg x0 (by omega)
  unfold poolAt D.poolAt
  exact at_in F.na (y := y * o.stride + q / o.size) (x := x * o.stride + q % o.size) (by omega) (by omega) (by omega) (by omega) k0 (by omega)

theorem zero_pad {m : M.Md} {o : M.Op} (h : M.quantOp m o = true) (hk : o.kind = 8) : (M.tensorAt m o.a).zero = (M.tensorAt m o.to).zero := by
  unfold M.quantOp M.zerosHold at h
  simp only [hk, Bool.and_eq_true] at h
  have := h.2
  simpa [M.hasWeights, M.readsTwo] using this

theorem cell_eq {m : M.Md} {o : M.Op} {la lb : List Int} (F : Finds m o la lb) {y x k : Int} (y0 : 0 ≤ y) (y1 : y < (M.tensorAt m o.to).h) (x0 : 0 ≤ x) (x1 : x < (M.tensorAt m o.to).w) (k0 : 0 ≤ k) (k1 : k < (M.tensorAt m o.to).c) :
    cell (start m o la lb) y x k = D.cell o (reads m o la lb) y x k := by
  have f0 := F.fit.k0
  have f1 := F.fit.k1
  have eo : (start m o la lb).op = o := rfl
  have ea : (start m o la lb).a = lay (M.tensorAt m o.a) la := rfl
  have ez : (start m o la lb).made = M.tensorAt m o.to := rfl
  unfold cell
  rw [eo, ea, ez]
  by_cases h12 : o.kind = 1 ∨ o.kind = 2
  · have hl : 0 < o.scales.length := by
      have := F.fit.scales
      rw [if_pos (by rw [hw_iff]; omega)] at this
      omega
    have hs := weigh_sum F h12 (y := y) (x := x) k0 k1
    rw [D.cell_conv _ _ _ _ h12, ← hs, ← out_eq hl]
    unfold weigh
    rcases h12 with h | h
    · rw [if_pos h, if_pos h, if_pos h, if_pos h]; rfl
    · have h' : ¬ o.kind = 1 := by omega
      rw [if_neg h', if_pos h, if_neg h', if_neg h', if_neg h']
  · rw [if_neg (by omega), if_neg (by omega)]
    by_cases h3 : o.kind = 3
    · have hl : 0 < o.scales.length := by
        have := F.fit.scales
        rw [if_pos (by rw [hw_iff]; omega)] at this
        omega
      rw [if_pos h3, D.cell_dense _ _ _ _ h3, ← dense_sum F h3 k0 k1, ← out_eq hl]
      rfl
    · rw [if_neg h3]
      by_cases h4 : o.kind = 4
      · have hl : 2 < o.scales.length := by
          have := F.fit.scales
          rw [if_neg (by rw [hw_iff]; omega), if_pos h4] at this
          omega
        rw [if_pos h4, D.cell_add _ _ _ _ h4, ← add_sum F h4 y0 y1 x0 x1 k0 k1, ← out_eq hl]
        rfl
      · rw [if_neg h4]
        by_cases h56 : o.kind = 5 ∨ o.kind = 6
        · obtain ⟨n1, hp⟩ := pool_at F h56 y0 y1 x0 x1 k0 k1
          have hn : 1 ≤ o.size * o.size := by
            have : 1 * 1 ≤ o.size * o.size := Int.mul_le_mul n1 n1 (by decide) (by omega)
            omega
          have hr : ∀ v, ranged (start m o la lb) v = R.between v o.lo o.hi := fun v => rfl
          rw [if_pos h56]
          unfold pool
          rw [eo, hr, hr]
          rcases h56 with h | h
          · rw [if_pos h, D.cell_max _ _ _ _ h]
            congr 1
            have hp2 : ∀ q, q < (o.size * o.size).toNat → -128 ≤ D.poolAt o (reads m o la lb) y x k q := fun q hq => (D.get_cell (show D.Cells la from F.ca) _).1
            rw [best_eq _ (by omega) fun q hq => by rw [hp q hq]; exact hp2 q hq]
            show D.maxOf _ (o.size * o.size).toNat = D.maxOf _ (o.size * o.size).toNat
            have : ∀ n, n ≤ (o.size * o.size).toNat → D.maxOf (poolAt (start m o la lb) y x k) n = D.maxOf (D.poolAt o (reads m o la lb) y x k) n := by
              intro n
              induction n with
              | zero => intro _; rfl
              | succ n ih =>
                intro hle
                unfold D.maxOf
                rw [ih (by omega), hp n (by omega)]
                by_cases c0 : n = 0
                · subst c0; rw [if_pos rfl, if_pos rfl, hp 0 (by omega)]
                · rw [if_neg c0, if_neg c0]
            exact this _ (Nat.le_refl _)
          · rw [if_neg (by omega), D.cell_avg _ _ _ _ h]
            congr 1
            rw [mean_eq hn]
            congr 1
            exact D.S_congr hp
        · rw [if_neg h56]
          by_cases h7 : o.kind = 7
          · obtain ⟨a1, a2, a3⟩ := (alike_iff _ _).mp ((shape_rest F.shape).2.1 h7)
            rw [if_pos h7, D.cell_clamp _ _ _ _ h7, at_in F.na y0 (by omega) x0 (by omega) k0 (by omega)]
            rfl
          · rw [if_neg h7]
            by_cases h8 : o.kind = 8
            · obtain ⟨-, -, a3⟩ := (shape_rest F.shape).2.2.2.1 h8
              rw [if_pos h8, D.cell_pad _ _ _ _ h8, at_inside F.na k0 (by omega), zero_pad F.quant h8]
              rfl
            · rw [if_neg h8]
              by_cases h9 : o.kind = 9
              · have e := (shape_rest F.shape).2.2.2.2.1 h9
                have hp := place_range y0 y1 x0 x1 k0 k1
                rw [if_pos h9, D.cell_shape _ _ _ _ h9]
                refine nth_get (g := lay (M.tensorAt m o.a) la) hp.1 ?_
                show _ < (la.length : Int)
                rw [F.na, e]
                exact hp.2
              · have h10 : o.kind = 10 := by omega
                have hT : M.readsTwo o.kind = true := by rw [rt_iff]; omega
                obtain ⟨c1, c2, c3, c4, c5⟩ := (shape_rest F.shape).2.2.2.2.2 h10
                have eb : (start m o la lb).b = lay (M.tensorAt m o.b) lb := if_pos hT
                rw [if_neg h9, if_pos h10, D.cell_cat _ _ _ _ h10, eb]
                show (if k < (M.tensorAt m o.a).c then _ else _) = if k < (M.tensorAt m o.a).c then _ else _
                by_cases hc : k < (M.tensorAt m o.a).c
                · rw [if_pos hc, if_pos hc, at_in F.na y0 (by omega) x0 (by omega) k0 hc]
                  rfl
                · rw [if_neg hc, if_neg hc]
                  exact at_in (F.nb hT) y0 (by omega) x0 (by omega) (by show 0 ≤ k - (M.tensorAt m o.a).c; omega) (by show k - (M.tensorAt m o.a).c < _; omega)

theorem make_eq {m : M.Md} {o : M.Op} {la lb : List Int} (F : Finds m o la lb) : make m o la lb = D.grid (M.tensorAt m o.to) (D.cell o (reads m o la lb)) :=
  D.grid_congr (fun _ _ _ y0 y1 x0 x1 k0 k1 => cell_eq F y0 y1 x0 x1 k0 k1) (by have := F.z.w0; omega) (by have := F.z.c0; omega)

end O
end Go.Proofs.YtcnhfffgbamonaaGreat

/-
  A whole run by the code is the document's.
-/
namespace Go.Proofs.YtcnhfffgbamonaaGreat
namespace O

def lens (ts : List M.Tn) : List Int := (ts.filter fun t => t.kind == 0).map M.cellsOf

theorem given_len (ts : List M.Tn) : ∀ ins, (given ts ins).length = ts.length := by
  induction ts with
  | nil => intro ins; rfl
  | cons t ts ih => intro ins; unfold given; split <;> (try split) <;> simp [ih]
theorem start_len (ts : List M.Tn) : ∀ ins, (D.start ts ins).length = ts.length := by
  induction ts with
  | nil => intro ins; rfl
  | cons t ts ih => intro ins; unfold D.start; split <;> (try split) <;> simp [ih]

theorem given_eq (ts : List M.Tn) (hf : ∀ t ∈ ts, FitT t) : ∀ ins (n : Nat) t, ts[n]? = some t → t.kind ≠ 2 → (given ts ins).getD n [] = (D.start ts ins).getD n [] := by
  induction ts with
  | nil => intro ins n t h; simp at h
  | cons u ts ih =>
    intro ins n t h h2
    have ih' := ih (fun t ht => hf t (List.mem_cons_of_mem _ ht))
    have fu := hf u List.mem_cons_self
    unfold given D.start
    by_cases c0 : u.kind = 0
    · rw [if_pos c0, if_pos c0]
      cases n with
      | zero => rfl
      | succ n => simpa using ih' ins.tail n t (by simpa using h) h2
    · rw [if_neg c0, if_neg c0]
      by_cases c1 : u.kind = 1
      · rw [if_pos c1, if_neg (by omega)]
        cases n with
        | zero => rfl
        | succ n => simpa using ih' ins n t (by simpa using h) h2
      · rw [if_neg c1]
        cases n with
        | zero =>
          have : u = t := by simpa using h
          subst this
          have := fu.k1; have := fu.k0
          rw [if_pos (by omega)]; rfl
        | succ n =>
          split
          · simpa using ih' ins n t (by simpa using h) h2
          · simpa using ih' ins n t (by simpa using h) h2

theorem start_data (ts : List M.Tn) : ∀ ins (n : Nat) t, ts[n]? = some t → t.kind = 1 ∨ t.kind = 2 → (D.start ts ins).getD n [] = t.data := by
  induction ts with
  | nil => intro ins n t h; simp at h
  | cons u ts ih =>
    intro ins n t h h2
    unfold D.start
    cases n with
    | zero =>
      have : u = t := by simpa using h
      subst this
      rw [if_neg (by omega), if_neg (by omega)]; rfl
    | succ n =>
      split
      · simpa using ih ins.tail n t (by simpa using h) h2
      · split <;> simpa using ih ins n t (by simpa using h) h2

theorem given_full (ts : List M.Tn) (hf : ∀ t ∈ ts, FitT t) : ∀ ins : List (List Int), (ins.map fun l => (l.length : Int)) = lens ts → ∀ (n : Nat) t, ts[n]? = some t → t.kind ≠ 2 → t.kind ≠ 3 → (((given ts ins).getD n []).length : Int) = M.cellsOf t := by
  induction ts with
  | nil => intro ins _ n t h; simp at h
  | cons u ts ih =>
    intro ins hl n t h h2 h3
    have ih' := ih (fun t ht => hf t (List.mem_cons_of_mem _ ht))
    have fu := hf u List.mem_cons_self
    unfold given
    by_cases c0 : u.kind = 0
    · rw [if_pos c0]
      cases ins with
      | nil => exact absurd hl (by unfold lens; simp [c0])
      | cons l ins =>
        have hl' : (l.length : Int) = M.cellsOf u ∧ (ins.map fun l => (l.length : Int)) = lens ts := by
          unfold lens at hl ⊢; simpa [c0] using hl
        cases n with
        | zero =>
          have : u = t := by simpa using h
          subst this
          exact hl'.1
        | succ n => simpa using ih' ins hl'.2 n t (by simpa using h) h2 h3
    · rw [if_neg c0]
      have hl' : (ins.map fun l => (l.length : Int)) = lens ts := by
        unfold lens at hl ⊢; simpa [c0] using hl
      cases n with
      | zero =>
        have : u = t := by simpa using h
        subst this
        have k0 := fu.k0; have k1 := fu.k1
        have c1 : u.kind = 1 := by omega
        rw [if_pos c1]
        have := (fu.one c1).1
        unfold M.cellsOf
        rw [this]; rfl
      | succ n => split <;> simpa using ih' ins hl' n t (by simpa using h) h2 h3

theorem tensorAt_get {m : M.Md} {n : Int} (h0 : 0 ≤ n) (h1 : n < m.tensors.length) : m.tensors[n.toNat]? = some (M.tensorAt m n) ∧ M.tensorAt m n ∈ m.tensors := by
  have hl : n.toNat < m.tensors.length := by omega
  have e : M.tensorAt m n = m.tensors[n.toNat] := by
    unfold M.tensorAt
    rw [if_neg (by omega), List.getD, List.getElem?_eq_getElem hl]
    rfl
  rw [e]
  exact ⟨List.getElem?_eq_getElem hl, List.getElem_mem hl⟩

theorem kind_at {m : M.Md} {n : Nat} {t : M.Tn} (h : m.tensors[n]? = some t) : (m.tensors.map (·.kind)).getD n 0 = t.kind := by
  rw [List.getD, List.getElem?_map, h]; rfl

theorem isKind_at {m : M.Md} {n k : Int} (h : M.isKind m n k = true) : 0 ≤ n ∧ n < m.tensors.length ∧ (M.tensorAt m n).kind = k := by
  obtain ⟨h0, h1, h2⟩ := M.isKind_lt h
  have := (tensorAt_get h0 h1).1
  rw [kind_at this] at h2
  exact ⟨h0, h1, h2⟩

/-- What holds of a model that is one. -/
structure One (m : M.Md) : Prop where
  fit : FitM m
  dim : ∀ t ∈ m.tensors, Dim t
  bias : ∀ t ∈ m.tensors, t.kind = 2 → ∀ v ∈ t.data, -1073741824 ≤ v ∧ v ≤ 1073741824
  shape : ∀ o ∈ m.ops, M.shape m o = true
  quant : ∀ o ∈ m.ops, M.quantOp m o = true
  to : ∀ (i : Nat) o, m.ops[i]? = some o → M.isKind m o.to 3 = true
  a : ∀ (i : Nat) o, m.ops[i]? = some o → M.There m o.a i
  b : ∀ (i : Nat) o, m.ops[i]? = some o → M.readsTwo o.kind = true → M.There m o.b i
  ws : ∀ (i : Nat) o, m.ops[i]? = some o → M.hasWeights o.kind = true → M.isKind m o.weights 1 = true ∧ M.isKind m o.biases 2 = true
  outs : ∀ u ∈ m.outs, M.There m u m.ops.length
  once : M.Once m m.ops.length
  all : M.AllMade m
  nt : m.tensors.length ≤ 24
  no : m.ops.length ≤ 16

theorem one_of {m : M.Md} (hF : FitM m) (hc : M.check m = 0) : One m := by
  obtain ⟨hl, hg, hs, hq⟩ := D.check_parts hc
  obtain ⟨by_, hm, hr, ho⟩ := D.graph_parts hg
  obtain ⟨O1, M1, A1⟩ := (M.makers_ok m).1 by_ hm
  unfold M.limits at hl
  simp only [Bool.and_eq_true, List.all_eq_true] at hl
  unfold M.quants at hq
  simp only [Bool.and_eq_true, List.all_eq_true] at hq
  unfold M.shapes at hs
  rw [List.all_eq_true] at hs
  refine ⟨hF, fun t ht => dim_of (hF.ts t ht) (hl.1.2 t ht), fun t ht h2 v hv => ?_, hs, hq.2, fun i o h => O1.inner i o (M.lt_of_some h) h, fun i o h => ?_, fun i o h h2 => ?_, fun i o h h2 => ?_, fun u hu => ?_, O1, A1, by simp at hl; omega, by simp at hl; omega⟩
  · have := hq.1 t ht
    unfold M.biasesHold at this
    rw [if_neg (by omega)] at this
    simp only [Bool.and_eq_true, List.all_eq_true] at this
    have := this.1 v hv
    simp at this
    omega
  · have := hr i o h
    unfold M.readsHold at this
    simp only [Bool.and_eq_true] at this
    exact (M.ready_iff O1 M1 A1 _ _ (by omega)).mp this.1
  · have := hr i o h
    unfold M.readsHold at this
    simp only [Bool.and_eq_true] at this
    rw [if_pos h2] at this
    exact (M.ready_iff O1 M1 A1 _ _ (by omega)).mp this.2
  · have := hr i o h
    unfold M.readsHold at this
    simp only [Bool.and_eq_true] at this
    have h3 : ¬ M.readsTwo o.kind = true := by rw [rt_iff]; rw [hw_iff] at h2; omega
    rw [if_neg h3, if_neg (by rw [h2]; decide)] at this
    simpa using this.2
  · have := ho u hu
    unfold M.isCells at this
    simp only [Bool.and_eq_true, decide_eq_true_eq, bne_iff_ne] at this
    refine ⟨this.1.1, this.1.2, this.2, fun hk => ?_⟩
    obtain ⟨j, o, hj, he⟩ := A1 u.toNat (by omega) hk
    exact ⟨j, o, by have := M.lt_of_some hj; omega, hj, by omega⟩

/-- The cells that the code holds (C) beside those of the document (E), ahead of operator i. -/
structure Env (m : M.Md) (C E : List (List Int)) (i : Nat) : Prop where
  lenC : C.length = m.tensors.length
  lenE : E.length = m.tensors.length
  eq : ∀ (n : Nat) t, m.tensors[n]? = some t → t.kind ≠ 2 → C.getD n [] = E.getD n []
  data : ∀ (n : Nat) t, m.tensors[n]? = some t → t.kind = 1 ∨ t.kind = 2 → E.getD n [] = t.data
  full : ∀ (n : Nat) t, m.tensors[n]? = some t → t.kind ≠ 2 → (t.kind = 3 → ∃ (j : Nat) (o : M.Op), j < i ∧ m.ops[j]? = some o ∧ o.to = n) → ((C.getD n []).length : Int) = M.cellsOf t
  cells : ∀ (n : Nat) t, m.tensors[n]? = some t → t.kind ≠ 2 → D.Cells (C.getD n [])

theorem Env.there {m : M.Md} {C E : List (List Int)} {i : Nat} (h : Env m C E i) {n : Int} (ht : M.There m n i) :
    M.tensorAt m n ∈ m.tensors ∧ ((D.cellsAt C n).length : Int) = M.cellsOf (M.tensorAt m n) ∧ D.Cells (D.cellsAt C n) ∧ D.cellsAt C n = D.cellsAt E n := by
  obtain ⟨h0, h1, h2, h3⟩ := ht
  obtain ⟨g1, g2⟩ := tensorAt_get h0 h1
  rw [kind_at g1] at h2 h3
  unfold D.cellsAt
  rw [if_neg (by omega), if_neg (by omega)]
  refine ⟨g2, h.full _ _ g1 h2 fun k3 => ?_, h.cells _ _ g1 h2, h.eq _ _ g1 h2⟩
  obtain ⟨j, o, hj, ho, he⟩ := h3 k3
  exact ⟨j, o, by omega, ho, by omega⟩

theorem Env.finds {m : M.Md} (h1 : One m) {C E : List (List Int)} {i : Nat} (h : Env m C E i) {o : M.Op} (ho : m.ops[i]? = some o) : Finds m o (D.cellsAt C o.a) (D.cellsAt C o.b) := by
  have hm := List.mem_of_getElem? ho
  obtain ⟨t0, t1, t2⟩ := isKind_at (h1.to i o ho)
  obtain ⟨a1, a2, a3, a4⟩ := h.there (h1.a i o ho)
  refine ⟨h1.fit.os o hm, h1.shape o hm, h1.quant o hm, h1.dim _ (tensorAt_get t0 t1).2, h1.dim _ a1, a2, a3, fun k => ?_, fun k => ?_, fun k => ?_, fun k => ?_, fun k => ?_, fun k => ?_, fun k => ?_, fun k => ?_, fun k => ?_⟩
  · exact h1.dim _ (h.there (h1.b i o ho k)).1
  · exact (h.there (h1.b i o ho k)).2.1
  · exact (h.there (h1.b i o ho k)).2.2.1
  · obtain ⟨x0, x1, -⟩ := isKind_at (h1.ws i o ho k).1
    exact h1.dim _ (tensorAt_get x0 x1).2
  · obtain ⟨x0, x1, x2⟩ := isKind_at (h1.ws i o ho k).1
    exact ((h1.fit.ts _ (tensorAt_get x0 x1).2).one x2).1.symm
  · obtain ⟨x0, x1, x2⟩ := isKind_at (h1.ws i o ho k).1
    exact fun v hv => ((h1.fit.ts _ (tensorAt_get x0 x1).2).one x2).2 v hv
  · obtain ⟨x0, x1, -⟩ := isKind_at (h1.ws i o ho k).2
    exact h1.dim _ (tensorAt_get x0 x1).2
  · obtain ⟨x0, x1, x2⟩ := isKind_at (h1.ws i o ho k).2
    exact ((h1.fit.ts _ (tensorAt_get x0 x1).2).two x2).1.symm
  · obtain ⟨x0, x1, x2⟩ := isKind_at (h1.ws i o ho k).2
    exact h1.bias _ (tensorAt_get x0 x1).2 x2

theorem Env.made {m : M.Md} (h1 : One m) {C E : List (List Int)} {i : Nat} (h : Env m C E i) {o : M.Op} (ho : m.ops[i]? = some o) : make m o (D.cellsAt C o.a) (D.cellsAt C o.b) = D.made m E o := by
  have F := h.finds h1 ho
  rw [make_eq F]
  unfold D.made
  obtain ⟨-, -, -, ea⟩ := h.there (h1.a i o ho)
  have z := F.z
  by_cases hT : M.readsTwo o.kind = true
  · have hW : ¬ M.hasWeights o.kind = true := by rw [hw_iff]; rw [rt_iff] at hT; omega
    obtain ⟨-, -, -, eb⟩ := h.there (h1.b i o ho hT)
    have : reads m o (D.cellsAt C o.a) (D.cellsAt C o.b) = { D.readsOf m E o with lw := (M.tensorAt m o.weights).data, bias := (M.tensorAt m o.biases).data } := by
      unfold reads D.readsOf; rw [ea, eb]
    rw [this]
    refine D.grid_congr (fun y x c _ _ _ _ _ _ => ?_) (by have := z.w0; omega) (by have := z.c0; omega)
    have h4 : o.kind = 4 ∨ o.kind = 10 := (rt_iff _).mp hT
    rcases h4 with h4 | h4
    · rw [D.cell_add _ _ _ _ h4, D.cell_add _ _ _ _ h4]; rfl
    · rw [D.cell_cat _ _ _ _ h4, D.cell_cat _ _ _ _ h4]
  · by_cases hW : M.hasWeights o.kind = true
    · obtain ⟨w1, w2⟩ := h1.ws i o ho hW
      obtain ⟨x0, x1, x2⟩ := isKind_at w1
      obtain ⟨y0, y1, y2⟩ := isKind_at w2
      have e1 : D.cellsAt E o.weights = (M.tensorAt m o.weights).data := by
        unfold D.cellsAt; rw [if_neg (by omega)]; exact h.data _ _ (tensorAt_get x0 x1).1 (.inl x2)
      have e2 : D.cellsAt E o.biases = (M.tensorAt m o.biases).data := by
        unfold D.cellsAt; rw [if_neg (by omega)]; exact h.data _ _ (tensorAt_get y0 y1).1 (.inr y2)
      have : reads m o (D.cellsAt C o.a) (D.cellsAt C o.b) = { D.readsOf m E o with lb := D.cellsAt C o.b } := by
        unfold reads D.readsOf; rw [ea, e1, e2]
      rw [this]
      refine D.grid_congr (fun y x c _ _ _ _ _ _ => ?_) (by have := z.w0; omega) (by have := z.c0; omega)
      have h4 : o.kind = 1 ∨ o.kind = 2 ∨ o.kind = 3 := (hw_iff _).mp hW
      by_cases h12 : o.kind = 1 ∨ o.kind = 2
      · rw [D.cell_conv _ _ _ _ h12, D.cell_conv _ _ _ _ h12]; rfl
      · have h3 : o.kind = 3 := by omega
        rw [D.cell_dense _ _ _ _ h3, D.cell_dense _ _ _ _ h3]; rfl
    · have : reads m o (D.cellsAt C o.a) (D.cellsAt C o.b) = { D.readsOf m E o with lb := D.cellsAt C o.b, lw := (M.tensorAt m o.weights).data, bias := (M.tensorAt m o.biases).data } := by
        unfold reads D.readsOf; rw [ea]
      rw [this]
      refine D.grid_congr (fun y x c _ _ _ _ _ _ => ?_) (by have := z.w0; omega) (by have := z.c0; omega)
      rw [hw_iff] at hW
      rw [rt_iff] at hT
      have f0 := F.fit.k0
      have f1 := F.fit.k1
      by_cases h5 : o.kind = 5
      · rw [D.cell_max _ _ _ _ h5, D.cell_max _ _ _ _ h5]; rfl
      · by_cases h6 : o.kind = 6
        · rw [D.cell_avg _ _ _ _ h6, D.cell_avg _ _ _ _ h6]; rfl
        · by_cases h7 : o.kind = 7
          · rw [D.cell_clamp _ _ _ _ h7, D.cell_clamp _ _ _ _ h7]
          · by_cases h8 : o.kind = 8
            · rw [D.cell_pad _ _ _ _ h8, D.cell_pad _ _ _ _ h8]
            · have h9 : o.kind = 9 := by omega
              rw [D.cell_shape _ _ _ _ h9, D.cell_shape _ _ _ _ h9]

theorem Env.step {m : M.Md} (h1 : One m) {C E : List (List Int)} {i : Nat} (h : Env m C E i) {o : M.Op} (ho : m.ops[i]? = some o) : Env m (step m C o) (D.step m E o) (i + 1) := by
  have F := h.finds h1 ho
  have em := h.made h1 ho
  have hm := List.mem_of_getElem? ho
  obtain ⟨t0, t1, t2⟩ := isKind_at (h1.to i o ho)
  have tg := (tensorAt_get t0 t1).1
  have hq := h1.quant o hm
  unfold M.quantOp at hq
  simp only [Bool.and_eq_true, Bool.not_eq_true', decide_eq_false_iff_not] at hq
  have hC : D.Cells (D.made m E o) := by
    rw [← em, make_eq F]
    apply D.grid_cells
    intro y x c
    refine D.cell_range o _ y x c F.ca (fun h10 => F.cb (by rw [rt_iff]; exact .inr h10)) F.fit.k0 F.fit.k1 ⟨F.z.z0, F.z.z1⟩ F.fit.lo.1 (by have := hq.1.1; omega) F.fit.hi.2
  unfold O.step D.step
  rw [em]
  refine ⟨by simp [h.lenC], by simp [h.lenE], fun n t hn h2 => ?_, fun n t hn h2 => ?_, fun n t hn h2 h3 => ?_, fun n t hn h2 => ?_⟩
  · rw [D.getD_set, D.getD_set, h.lenC, h.lenE]
    split
    · rfl
    · exact h.eq n t hn h2
  · rw [D.getD_set, if_neg, h.data n t hn h2]
    rintro ⟨e, -⟩
    subst e
    rw [tg] at hn
    injection hn with hn
    rw [hn] at t2
    omega
  · rw [D.getD_set]
    by_cases c : o.to.toNat = n ∧ n < C.length
    · rw [if_pos c]
      obtain ⟨c1, -⟩ := c
      subst c1
      rw [tg] at hn
      injection hn with hn
      subst hn
      unfold D.made
      rw [D.grid_length]
      have : 0 ≤ M.cellsOf (M.tensorAt m o.to) := by
        unfold M.cellsOf
        exact Int.mul_nonneg (Int.mul_nonneg (by have := F.z.h0; omega) (by have := F.z.w0; omega)) (by have := F.z.c0; omega)
      omega
    · rw [if_neg c]
      refine h.full n t hn h2 fun k3 => ?_
      obtain ⟨j, p, hj, hp, he⟩ := h3 k3
      refine ⟨j, p, ?_, hp, he⟩
      rcases Nat.lt_or_ge j i with h' | h'
      · exact h'
      · exfalso
        obtain rfl : j = i := by omega
        rw [ho] at hp
        injection hp with hp
        subst hp
        exact c ⟨by omega, by rw [h.lenC]; exact M.lt_of_some hn⟩
  · rw [D.getD_set]
    split
    · exact hC
    · exact h.cells n t hn h2

theorem env_start {m : M.Md} (h1 : One m) {ins : List (List Int)} (hi : D.inputsHold m ins = true) : Env m (given m.tensors ins) (D.start m.tensors ins) 0 := by
  unfold D.inputsHold at hi
  simp only [Bool.and_eq_true, beq_iff_eq, List.all_eq_true] at hi
  have hc : ∀ l ∈ ins, D.Cells l := by
    intro l hl v hv
    have := hi.2 l hl v hv
    unfold D.isCell at this
    simpa using this
  refine ⟨given_len _ _, start_len _ _, given_eq _ h1.fit.ts ins, start_data _ ins, fun n t hn h2 h3 => ?_, fun n t hn h2 => ?_⟩
  · refine given_full _ h1.fit.ts ins hi.1 n t hn h2 fun k3 => ?_
    obtain ⟨j, o, hj, -⟩ := h3 k3
    omega
  · rw [given_eq _ h1.fit.ts ins n t hn h2]
    refine D.start_cells m.tensors ins hc (fun t ht h0 h3 h2 => ?_) n (by rw [kind_at hn]; exact h2)
    have ft := h1.fit.ts t ht
    have k1 : t.kind = 1 := by have := ft.k0; have := ft.k1; omega
    exact fun v hv => (ft.one k1).2 v hv

theorem env_to {m : M.Md} (h1 : One m) {ins : List (List Int)} (hi : D.inputsHold m ins = true) : ∀ k, k ≤ m.ops.length → Env m ((m.ops.take k).foldl (step m) (given m.tensors ins)) ((m.ops.take k).foldl (D.step m) (D.start m.tensors ins)) k := by
  intro k
  induction k with
  | zero => intro _; exact env_start h1 hi
  | succ k ih =>
    intro hk
    have hx : m.ops[k]? = some m.ops[k] := List.getElem?_eq_getElem (by omega)
    rw [List.take_add_one, hx, List.foldl_append, List.foldl_append]
    exact (ih (by omega)).step h1 hx

theorem run_eq {m : M.Md} (h1 : One m) {ins : List (List Int)} (hi : D.inputsHold m ins = true) : run m ins = D.run m ins := by
  have h := env_to h1 hi m.ops.length (Nat.le_refl _)
  rw [List.take_length] at h
  unfold run D.run
  apply List.map_congr_left
  intro u hu
  exact (h.there (h1.outs u hu)).2.2.2

end O
end Go.Proofs.YtcnhfffgbamonaaGreat

/-
  How great the numbers of a run become.
-/
namespace Go.Proofs.YtcnhfffgbamonaaGreat
namespace O

/-- A grid within its limits. -/
structure Gok (g : G) : Prop where
  h0 : 0 ≤ g.h
  h1 : g.h ≤ 255
  w0 : 0 ≤ g.w
  w1 : g.w ≤ 255
  c0 : 0 ≤ g.c
  c1 : g.c ≤ 255
  z0 : -128 ≤ g.zero
  z1 : g.zero ≤ 127
  cells : D.Cells g.cells
  len : g.cells.length ≤ 512

theorem Gok.no : Gok noG := ⟨by decide, by decide, by decide, by decide, by decide, by decide, by decide, by decide, D.cells_nil, by decide⟩
theorem Gok.lay {t : M.Tn} {l : List Int} (h : Dim t) (hl : (l.length : Int) = M.cellsOf t) (hc : D.Cells l) : Gok (lay t l) :=
  ⟨by have := h.h0; show 0 ≤ t.h; omega, h.h1, by have := h.w0; show 0 ≤ t.w; omega, h.w1, by have := h.c0; show 0 ≤ t.c; omega, h.c1, h.z0, h.z1, hc, by have := h.most; show l.length ≤ 512; omega⟩

theorem Gok.nth {g : G} (h : Gok g) (i : Int) : -128 ≤ nth g i ∧ nth g i ≤ 127 := by
  unfold O.nth
  split
  · exact ⟨h.z0, h.z1⟩
  · rename_i c
    have hl : i.toNat < g.cells.length := by omega
    rw [List.getD, List.getElem?_eq_getElem hl]
    exact h.cells _ (List.getElem_mem hl)
theorem Gok.at {g : G} (h : Gok g) (y x k : Int) : -128 ≤ at_ g y x k ∧ at_ g y x k ≤ 127 := by
  unfold at_
  split
  · exact ⟨h.z0, h.z1⟩
  · exact h.nth _

/-- Biases within their limits. -/
structure Bok (g : G) : Prop where
  z0 : -128 ≤ g.zero
  z1 : g.zero ≤ 127
  cells : ∀ v ∈ g.cells, -1073741824 ≤ v ∧ v ≤ 1073741824
  len : g.cells.length ≤ 512
theorem Bok.nth {g : G} (h : Bok g) (i : Int) : -1073741824 ≤ nth g i ∧ nth g i ≤ 1073741824 := by
  have := h.z0; have := h.z1
  unfold O.nth
  split
  · omega
  · rename_i c
    have hl : i.toNat < g.cells.length := by omega
    rw [List.getD, List.getElem?_eq_getElem hl]
    exact h.cells _ (List.getElem_mem hl)

/-- A job within its limits. -/
structure Jok (j : J) : Prop where
  fit : FitO j.op
  a : Gok j.a
  b : Gok j.b
  w : Gok j.weights
  bi : Bok j.biases
  z : Dim j.made
  scales : ∀ c ∈ j.op.scales, 1073741824 ≤ c.mult ∧ c.mult ≤ 2147483647 ∧ -31 ≤ c.shift ∧ c.shift ≤ 30

theorem Finds.ok {m : M.Md} {o : M.Op} {la lb : List Int} (F : Finds m o la lb) : Jok (start m o la lb) := by
  have hq := F.quant
  unfold M.quantOp at hq
  simp only [Bool.and_eq_true, List.all_eq_true] at hq
  refine ⟨F.fit, Gok.lay F.a F.na F.ca, ?_, ?_, ?_, F.z, fun c hc => ?_⟩
  · show Gok (if M.readsTwo o.kind = true then _ else _)
    split
    · rename_i h; exact Gok.lay (F.b h) (F.nb h) (F.cb h)
    · exact Gok.no
  · show Gok (if M.hasWeights o.kind = true then _ else _)
    split
    · rename_i h; exact Gok.lay (F.w h) (F.lw h) (F.cw h)
    · exact Gok.no
  · show Bok (if M.hasWeights o.kind = true then _ else _)
    split
    · rename_i h
      exact ⟨(F.bi h).z0, (F.bi h).z1, F.ci h, by have := (F.bi h).most; have := F.li h; show (M.tensorAt m o.biases).data.length ≤ 512; omega⟩
    · exact ⟨by decide, by decide, fun v hv => absurd hv (by simp [noG]), by decide⟩
  · have := hq.1.2 c hc
    unfold M.scaleHolds at this
    simp at this
    omega

theorem S_abs {f : Nat → Int} {n : Nat} {B : Int} (h : ∀ i, i < n → -B ≤ f i ∧ f i ≤ B) : -(n * B) ≤ D.S f n ∧ D.S f n ≤ n * B := by
  have h1 := D.S_le (k := B) fun i hi => (h i hi).2
  have h2 := D.S_ge (k := -B) fun i hi => (h i hi).1
  rw [Int.mul_neg] at h2
  exact ⟨h2, h1⟩
theorem S_abs' {f : Nat → Int} {n N : Nat} {B : Int} (hN : n ≤ N) (hB : 0 ≤ B) (h : ∀ i, i < n → -B ≤ f i ∧ f i ≤ B) : -(N * B) ≤ D.S f n ∧ D.S f n ≤ N * B := by
  have := S_abs h
  have : (n : Int) * B ≤ N * B := Int.mul_le_mul_of_nonneg_right (by omega) hB
  omega

theorem mul_abs {a b A B : Int} (ha : -A ≤ a ∧ a ≤ A) (hb : -B ≤ b ∧ b ≤ B) : -(A * B) ≤ a * b ∧ a * b ≤ A * B := by
  have key : (a * b).natAbs ≤ (A * B).natAbs := by
    rw [Int.natAbs_mul, Int.natAbs_mul]
    exact Nat.mul_le_mul (by omega) (by omega)
  have hA : 0 ≤ A * B := Int.mul_nonneg (by omega) (by omega)
  omega

theorem prod_range {v z w : Int} (hv : -128 ≤ v ∧ v ≤ 127) (hz : -128 ≤ z ∧ z ≤ 127) (hw : -128 ≤ w ∧ w ≤ 127) : -32640 ≤ (v - z) * w ∧ (v - z) * w ≤ 32640 :=
  mul_abs (A := 255) (B := 128) (by omega) (by omega)

theorem Jok.term {j : J} (h : Jok j) (u v shift first : Int) (i p k : Nat) : -32640 ≤ term j u v shift first i p k ∧ term j u v shift first i p k ≤ 32640 :=
  prod_range (h.a.at _ _ _) ⟨h.a.z0, h.a.z1⟩ (h.w.at _ _ _)

/-- Whatever part of a sum: far within 64 bits. -/
theorem Jok.part {j : J} (h : Jok j) (u v o shift first : Int) {n i p k : Nat} (hn : n ≤ 255) (hi : i ≤ 255) (hp : p ≤ 255) (hk : k ≤ 255) : -1000000000000 ≤ part j u v o shift first n i p k ∧ part j u v o shift first n i p k ≤ 1000000000000 := by
  have b := h.bi.nth o
  have s1 : ∀ i p k, k ≤ 255 → -8323200 ≤ D.S (O.term j u v shift first i p) k ∧ D.S (O.term j u v shift first i p) k ≤ 8323200 := fun i p k hk => S_abs' (B := 32640) hk (by decide) fun q _ => h.term u v shift first i p q
  have s2 : ∀ i p, p ≤ 255 → -2122416000 ≤ D.S (fun p => D.S (O.term j u v shift first i p) n) p ∧ D.S (fun p => D.S (O.term j u v shift first i p) n) p ≤ 2122416000 := fun i p hp => S_abs' (B := 8323200) hp (by decide) fun q _ => s1 i q n hn
  have hW : j.weights.w.toNat ≤ 255 := by have := h.w.w1; omega
  have s3 : -541216080000 ≤ D.S (fun i => D.S (fun p => D.S (O.term j u v shift first i p) n) j.weights.w.toNat) i ∧ D.S (fun i => D.S (fun p => D.S (O.term j u v shift first i p) n) j.weights.w.toNat) i ≤ 541216080000 := S_abs' (B := 2122416000) hi (by decide) fun q _ => s2 q _ hW
  have t1 := s1 i p k hk
  have t2 := s2 i p hp
  unfold O.part
  omega

theorem part_k (j : J) (u v o shift first : Int) (n i p k : Nat) : part j u v o shift first n i p (k + 1) = part j u v o shift first n i p k + term j u v shift first i p k := by
  unfold part; rw [D.S]; omega
theorem part_p (j : J) (u v o shift first : Int) (n i p : Nat) : part j u v o shift first n i (p + 1) 0 = part j u v o shift first n i p n := by
  unfold part; simp only [D.S]; omega
theorem part_i (j : J) (u v o shift first : Int) (n i : Nat) : part j u v o shift first n (i + 1) 0 0 = part j u v o shift first n i j.weights.w.toNat 0 := by
  unfold part; simp only [D.S]; omega

theorem Jok.weigh {j : J} (h : Jok j) (y x o first last shift : Int) (hn : j.weights.h * j.weights.w * (last - first) ≤ 512) (hf : first ≤ last) : -1090453504 ≤ weighSum j y x o first last shift ∧ weighSum j y x o first last shift ≤ 1090453504 := by
  have b := h.bi.nth o
  unfold weighSum
  rw [part_end]
  generalize top j y = u
  generalize left j x = v
  have s1 : ∀ i p, -(((last - first).toNat : Int) * 32640) ≤ D.S (O.term j u v shift first i p) (last - first).toNat ∧ D.S (O.term j u v shift first i p) (last - first).toNat ≤ ((last - first).toNat : Int) * 32640 := fun i p => S_abs fun q _ => h.term u v shift first i p q
  have s2 : ∀ i, -((j.weights.w.toNat : Int) * (((last - first).toNat : Int) * 32640)) ≤ D.S (fun p => D.S (O.term j u v shift first i p) (last - first).toNat) j.weights.w.toNat ∧ D.S (fun p => D.S (O.term j u v shift first i p) (last - first).toNat) j.weights.w.toNat ≤ (j.weights.w.toNat : Int) * (((last - first).toNat : Int) * 32640) := fun i => S_abs fun q _ => s1 i q
  have s3 := S_abs (n := j.weights.h.toNat) fun q _ => s2 q
  have e : (j.weights.h.toNat : Int) * ((j.weights.w.toNat : Int) * (((last - first).toNat : Int) * 32640)) ≤ 16711680 := by
    have h0 := h.w.h0; have w0 := h.w.w0
    rw [Int.toNat_of_nonneg h0, Int.toNat_of_nonneg w0, Int.toNat_of_nonneg (by omega), ← Int.mul_assoc, ← Int.mul_assoc]
    have : j.weights.h * j.weights.w * (last - first) * 32640 ≤ 512 * 32640 := Int.mul_le_mul_of_nonneg_right hn (by decide)
    exact this
  omega

theorem Jok.all {j : J} (h : Jok j) (o : Int) {n : Nat} (hn : n ≤ 512) (hl : n ≤ j.a.cells.length) : -1090453504 ≤ allTo j o n ∧ allTo j o n ≤ 1090453504 := by
  have b := h.bi.nth o
  have s := S_abs' (n := n) (N := 512) (B := 32640) (f := fun i : Nat => (j.a.cells.getD i 0 - j.a.zero) * at_ j.weights o 0 (i : Int)) hn (by decide) fun i hi => by
    refine prod_range ?_ ⟨h.a.z0, h.a.z1⟩ (h.w.at _ _ _)
    have hl : i < j.a.cells.length := by omega
    rw [List.getD, List.getElem?_eq_getElem hl]
    exact h.a.cells _ (List.getElem_mem hl)
  unfold allTo
  omega

/-- How many cells a window of a Conv or of a Depth has. -/
theorem Finds.window {m : M.Md} {o : M.Op} {la lb : List Int} (F : Finds m o la lb) (hk : o.kind = 1 ∨ o.kind = 2) : (M.tensorAt m o.weights).h * (M.tensorAt m o.weights).w * (if o.kind = 1 then (M.tensorAt m o.a).c else 1) ≤ 512 := by
  have hW : M.hasWeights o.kind = true := by rw [hw_iff]; omega
  obtain ⟨-, -, -, s4, s5⟩ := conv_parts (shape_conv F.shape hk)
  have w := F.w hW
  have hm := w.most
  unfold M.cellsOf at hm
  have p : 0 ≤ (M.tensorAt m o.weights).h * (M.tensorAt m o.weights).w := Int.mul_nonneg (by have := w.h0; omega) (by have := w.w0; omega)
  refine Int.le_trans (Int.mul_le_mul_of_nonneg_left ?_ p) hm
  split
  · rename_i k1
    rw [s5 (by omega)]
    have := F.a.c0; have := F.z.c0
    have : (M.tensorAt m o.a).c * 1 ≤ (M.tensorAt m o.a).c * (M.tensorAt m o.to).c := Int.mul_le_mul_of_nonneg_left (by omega) (by omega)
    omega
  · have := w.c0; omega

theorem between_range {x lo hi : Int} (h : lo ≤ hi) : lo ≤ R.between x lo hi ∧ R.between x lo hi ≤ hi := D.between_range h
theorem held_range (x : Int) : -2147483648 ≤ held x ∧ held x ≤ 2147483647 := D.between_range (by decide)

theorem pow_range {k : Nat} {K : Nat} (h : k ≤ K) : (1 : Int) ≤ 2 ^ k ∧ (2 : Int) ^ k ≤ 2 ^ K := by
  have h1 : (0 : Int) < 2 ^ k := two_pow k
  refine ⟨by omega, ?_⟩
  have : (2 : Nat) ^ k ≤ 2 ^ K := Nat.pow_le_pow_right (by decide) h
  have e : ((2 ^ k : Nat) : Int) ≤ ((2 ^ K : Nat) : Int) := by exact_mod_cast this
  simpa using e

theorem raised_range {x s : Int} (hx : -2147483648 ≤ x ∧ x ≤ 2147483647) : -2147483648 ≤ raised x s ∧ raised x s ≤ 2147483647 := by
  unfold raised
  split
  · exact held_range _
  · exact hx

theorem nearest_range {x n : Int} (hx : -2147483648 ≤ x ∧ x ≤ 2147483647) (hn : 2 ≤ n ∨ n = 1) : -2147483648 ≤ nearest x n ∧ nearest x n ≤ 2147483648 := by
  unfold nearest
  rw [if_neg (by omega)]
  have key : ∀ t : Int, 0 ≤ t → t ≤ 2147483648 → 0 ≤ (t + n / 2) / n ∧ (t + n / 2) / n ≤ 2147483648 := by
    intro t h0 h1
    have hn0 : 0 < n := by omega
    refine ⟨Int.ediv_nonneg (by omega) (by omega), ?_⟩
    apply Int.le_of_lt_add_one
    apply Int.ediv_lt_of_lt_mul hn0
    have : (2147483648 + 1) * 1 ≤ (2147483648 + 1) * n := Int.mul_le_mul_of_nonneg_left (by omega) (by decide)
    rcases hn with h | h
    · have : t + n / 2 < (t + 1) * n := by
        have e : t * 1 ≤ t * n := Int.mul_le_mul_of_nonneg_left (by omega) h0
        rw [Int.add_mul]; omega
      have e2 : (t + 1) * n ≤ (2147483648 + 1) * n := Int.mul_le_mul_of_nonneg_right (by omega) (by omega)
      omega
    · subst h; omega
  split
  · have := key (-x) (by omega) (by omega); omega
  · have := key x (by omega) (by omega); omega

theorem scaled_range {x : Int} {c : M.Sc} (hs : -31 ≤ c.shift) : -2147483648 ≤ scaled x c ∧ scaled x c ≤ 2147483648 := by
  unfold scaled
  have h := held_range ((raised x c.shift * c.mult + 1073741824) / 2147483648)
  split
  · rename_i k
    have hp := pow_range (k := (-c.shift).toNat) (K := 31) (by omega)
    exact nearest_range h (by omega)
  · unfold high; omega

theorem Jok.scaledBy {j : J} (h : Jok j) (x : Int) (k : Nat) : -2147483648 ≤ scaledBy j x k ∧ scaledBy j x k ≤ 2147483648 := by
  unfold O.scaledBy
  cases e : j.op.scales[k]? with
  | none => show (-2147483648 : Int) ≤ 0 ∧ (0 : Int) ≤ 2147483648; omega
  | some c => exact scaled_range (h.scales c (List.mem_of_getElem? e)).2.2.1

theorem Jok.cell {j : J} (h : Jok j) (hh : j.op.lo ≤ j.op.hi) (y x k : Int) : -128 ≤ cell j y x k ∧ cell j y x k ≤ 127 := by
  have lo := h.fit.lo.1
  have hi := h.fit.hi.2
  have B : ∀ v, -128 ≤ ranged j v ∧ ranged j v ≤ 127 := fun v => by have := D.between_range (x := v) hh; unfold ranged; omega
  unfold O.cell O.weigh weighAll add out pool
  split
  · exact B _
  · split
    · exact B _
    · split
      · exact B _
      · split
        · exact B _
        · split
          · split <;> exact B _
          · split
            · exact B _
            · split
              · exact h.a.at _ _ _
              · split
                · exact h.a.nth _
                · split
                  · split
                    · exact h.a.at _ _ _
                    · exact h.b.at _ _ _
                  · exact ⟨h.z.z0, h.z.z1⟩

end O
end Go.Proofs.YtcnhfffgbamonaaGreat
