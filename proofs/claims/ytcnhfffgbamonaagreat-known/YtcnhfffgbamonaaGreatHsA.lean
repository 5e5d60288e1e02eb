import Derived.Test.YtcnhfffgbamonaaGreatPlA
import Derived.Test.YtcnhfffgbamonaaGreatSpec
/-
  What Compile does with a model that is one, in plain functions: fold, drop, join, forget. No Go text.
-/
namespace Go.Proofs.YtcnhfffgbamonaaGreat
namespace H

def readsL (o : M.Op) : List Int := if M.hasWeights o.kind = true then [o.a, o.weights, o.biases] else if M.readsTwo o.kind = true then [o.a, o.b] else [o.a]
def hasRange (o : M.Op) : Bool := decide (1 ≤ o.kind) && decide (o.kind ≤ 7)
def readBy (os : List M.Op) (n : Int) : Nat := (os.flatMap readsL).count n
def uses (m : M.Md) (n : Int) : Nat := readBy m.ops n + m.outs.count n

def knownT (t : M.Tn) : Bool := !(t.kind == 0 || t.kind == 3)
def isKnown (m : M.Md) (o : M.Op) : Bool := (readsL o).all fun n => knownT (M.tensorAt m n)
def setTo (m : M.Md) (n : Int) (l : List Int) : M.Md := { m with tensors := m.tensors.set n.toNat { M.tensorAt m n with kind := 1, data := l } }
def foldStep (s : M.Md × List M.Op) (o : M.Op) : M.Md × List M.Op :=
  if isKnown s.1 o = true then (setTo s.1 o.to (O.make s.1 o (M.tensorAt s.1 o.a).data (M.tensorAt s.1 o.b).data), s.2) else (s.1, s.2 ++ [o])
def fold (m : M.Md) : M.Md := let r := m.ops.foldl foldStep (m, []); { r.1 with ops := r.2 }

def dropAt (m : M.Md) (i : Nat) : M.Md := match m.ops[i]? with
  | some o => if uses m o.to = 0 then { m with ops := m.ops.eraseIdx i } else m
  | none => m
def dropTo : Nat → M.Md → M.Md
  | 0, m => m
  | i + 1, m => dropTo i (dropAt m i)
def drop (m : M.Md) : M.Md := dropTo m.ops.length m

def joined (s c : M.Op) : M.Op := { s with to := c.to, lo := R.between s.lo c.lo c.hi, hi := R.between s.hi c.lo c.hi }
def isHost (o s : M.Op) : Bool := hasRange s && s.to == o.a
def host (m : M.Md) (left : List M.Op) (o : M.Op) : Option Nat := if o.kind = 7 ∧ uses m o.a = 1 then left.findIdx? (isHost o) else none
def joinStep (m : M.Md) (left : List M.Op) (o : M.Op) : List M.Op := match host m left o with
  | some i => left.modify i fun s => joined s o
  | none => left ++ [o]
def join (m : M.Md) : M.Md := { m with ops := m.ops.foldl (joinStep m) [] }

def forgetT (m : M.Md) (n : Nat) (t : M.Tn) : M.Tn := if uses m n = 0 then { t with data := [] } else t
def forget (m : M.Md) : M.Md := { m with tensors := m.tensors.mapIdx (forgetT m) }

def shrink (m : M.Md) : M.Md := forget (join (drop (fold m)))

-- dims
structure Dims (m m' : M.Md) : Prop where
  len : m'.tensors.length = m.tensors.length
  h : ∀ n, (M.tensorAt m' n).h = (M.tensorAt m n).h
  w : ∀ n, (M.tensorAt m' n).w = (M.tensorAt m n).w
  c : ∀ n, (M.tensorAt m' n).c = (M.tensorAt m n).c
  zero : ∀ n, (M.tensorAt m' n).zero = (M.tensorAt m n).zero

theorem Dims.refl (m : M.Md) : Dims m m := ⟨rfl, fun _ => rfl, fun _ => rfl, fun _ => rfl, fun _ => rfl⟩
theorem Dims.cells {m m' : M.Md} (d : Dims m m') (n : Int) : M.cellsOf (M.tensorAt m' n) = M.cellsOf (M.tensorAt m n) := by
  unfold M.cellsOf; rw [d.h, d.w, d.c]
theorem Dims.dim {m m' : M.Md} (d : Dims m m') {n : Int} (h : O.Dim (M.tensorAt m n)) : O.Dim (M.tensorAt m' n) :=
  ⟨by rw [d.h]; exact h.h0, by rw [d.h]; exact h.h1, by rw [d.w]; exact h.w0, by rw [d.w]; exact h.w1, by rw [d.c]; exact h.c0, by rw [d.c]; exact h.c1, by rw [d.cells]; exact h.most, by rw [d.zero]; exact h.z0, by rw [d.zero]; exact h.z1⟩
/-- What a shape hangs on. -/
def core (t : M.Tn) : M.Tn := ⟨0, t.h, t.w, t.c, 0, []⟩
def shapeT (o : M.Op) (a b w bi z : M.Tn) : Bool :=
  if o.kind = 1 ∨ o.kind = 2 then M.convHolds o a w bi z
  else if o.kind = 3 then M.denseHolds a w bi z
  else if o.kind = 4 then M.alike a z && M.alike b z
  else if o.kind = 7 then M.alike a z
  else if o.kind = 5 ∨ o.kind = 6 then M.poolHolds o a z
  else if o.kind = 8 then z.h == a.h + o.above + o.below && z.w == a.w + o.left + o.right && z.c == a.c
  else if o.kind = 9 then M.cellsOf a == M.cellsOf z
  else if o.kind = 10 then a.h == b.h && a.w == b.w && z.h == a.h && z.w == a.w && z.c == a.c + b.c
  else false
theorem shape_core (m : M.Md) (o : M.Op) : M.shape m o = shapeT o (core (M.tensorAt m o.a)) (core (M.tensorAt m o.b)) (core (M.tensorAt m o.weights)) (core (M.tensorAt m o.biases)) (core (M.tensorAt m o.to)) := rfl
theorem Dims.core {m m' : M.Md} (d : Dims m m') (n : Int) : core (M.tensorAt m' n) = core (M.tensorAt m n) := by unfold H.core; rw [d.h, d.w, d.c]
theorem Dims.shape {m m' : M.Md} (d : Dims m m') (o : M.Op) : M.shape m' o = M.shape m o := by
  rw [shape_core, shape_core, d.core, d.core, d.core, d.core, d.core]
theorem Dims.quant {m m' : M.Md} (d : Dims m m') (o : M.Op) : M.quantOp m' o = M.quantOp m o := by
  have zd := d.zero
  simp only [M.quantOp, M.zerosHold, zd]
theorem cell_dims (o : M.Op) (a b w bi : O.G) (t t' : M.Tn) (h1 : t'.h = t.h) (h2 : t'.w = t.w) (h3 : t'.c = t.c) (h4 : t'.zero = t.zero) (y x k : Int) :
    O.cell ⟨o, a, b, w, bi, t'⟩ y x k = O.cell ⟨o, a, b, w, bi, t⟩ y x k := by
  have e : ∀ u : M.Tn, O.cell ⟨o, a, b, w, bi, u⟩ y x k = O.cell ⟨o, a, b, w, bi, ⟨0, u.h, u.w, u.c, u.zero, []⟩⟩ y x k := fun _ => rfl
  rw [e t', e t, h1, h2, h3, h4]
theorem lay_dims {t t' : M.Tn} (h1 : t'.h = t.h) (h2 : t'.w = t.w) (h3 : t'.c = t.c) (h4 : t'.zero = t.zero) (l : List Int) : O.lay t' l = O.lay t l := by
  unfold O.lay; rw [h1, h2, h3, h4]
theorem Dims.make {m m' : M.Md} (d : Dims m m') {o : M.Op} (hW : M.hasWeights o.kind = true → (M.tensorAt m' o.weights).data = (M.tensorAt m o.weights).data ∧ (M.tensorAt m' o.biases).data = (M.tensorAt m o.biases).data) (la lb : List Int) :
    O.make m' o la lb = O.make m o la lb := by
  unfold O.make D.grid
  rw [d.cells, d.w, d.c]
  apply List.map_congr_left
  intro q _
  unfold O.start
  rw [cell_dims (t := M.tensorAt m o.to) (h1 := d.h _) (h2 := d.w _) (h3 := d.c _) (h4 := d.zero _), lay_dims (d.h _) (d.w _) (d.c _) (d.zero _), lay_dims (d.h _) (d.w _) (d.c _) (d.zero _)]
  by_cases h : M.hasWeights o.kind = true
  · obtain ⟨e1, e2⟩ := hW h
    rw [lay_dims (d.h _) (d.w _) (d.c _) (d.zero _), lay_dims (t' := M.tensorAt m' o.biases) (d.h _) (d.w _) (d.c _) (d.zero _), e1, e2]
  · rw [if_neg h, if_neg h, if_neg h, if_neg h]
theorem make_lb (m : M.Md) {o : M.Op} (h : M.readsTwo o.kind = false) (la lb lb' : List Int) : O.make m o la lb = O.make m o la lb' := by
  unfold O.make O.start
  simp only [h, Bool.false_eq_true, if_false]

/-- Whatever the second list is, if it is not read. -/
theorem finds_lb {m : M.Md} {o : M.Op} {la lb lb' : List Int} (F : O.Finds m o la lb) (h : M.readsTwo o.kind = false) : O.Finds m o la lb' :=
  ⟨F.fit, F.shape, F.quant, F.z, F.a, F.na, F.ca, F.b, fun h' => by rw [h] at h'; exact absurd h' (by decide), fun h' => by rw [h] at h'; exact absurd h' (by decide), F.w, F.lw, F.cw, F.bi, F.li, F.ci⟩
theorem Dims.finds {m m' : M.Md} (d : Dims m m') {o : M.Op} {la lb : List Int} (F : O.Finds m o la lb)
    (hW : M.hasWeights o.kind = true → (M.tensorAt m' o.weights).data = (M.tensorAt m o.weights).data ∧ (M.tensorAt m' o.biases).data = (M.tensorAt m o.biases).data) : O.Finds m' o la lb :=
  ⟨F.fit, by rw [d.shape]; exact F.shape, by rw [d.quant]; exact F.quant, d.dim F.z, d.dim F.a, by rw [d.cells]; exact F.na, F.ca, fun h => d.dim (F.b h), fun h => by rw [d.cells]; exact F.nb h, F.cb,
    fun h => d.dim (F.w h), fun h => by rw [(hW h).1, d.cells]; exact F.lw h, fun h => by rw [(hW h).1]; exact F.cw h, fun h => d.dim (F.bi h), fun h => by rw [(hW h).2, d.cells]; exact F.li h, fun h => by rw [(hW h).2]; exact F.ci h⟩

-- order
/-- Tensor n is there, if those of S have been made. -/
def Av (m : M.Md) (S : List Int) (n : Int) : Prop := 0 ≤ n ∧ n < m.tensors.length ∧ ((M.tensorAt m n).kind = 3 → n ∈ S)
def Ord (m : M.Md) : List Int → List M.Op → Prop
  | _, [] => True
  | S, o :: os => (∀ n ∈ readsL o, Av m S n) ∧ Ord m (S ++ [o.to]) os

theorem Ord.congr {m m' : M.Md} (hl : m'.tensors.length = m.tensors.length) : ∀ {os : List M.Op} {S S' : List Int}, Ord m S os →
    (∀ o ∈ os, ∀ n ∈ readsL o, (M.tensorAt m' n).kind = 3 → (M.tensorAt m n).kind = 3 ∧ (n ∈ S → n ∈ S')) → Ord m' S' os
  | [], _, _, _, _ => trivial
  | o :: os, S, S', h, hc => by
    refine ⟨fun n hn => ⟨(h.1 n hn).1, by rw [hl]; exact (h.1 n hn).2.1, fun k => ?_⟩, Ord.congr hl h.2 fun p hp n hn k => ?_⟩
    · obtain ⟨k', f⟩ := hc o List.mem_cons_self n hn k
      exact f ((h.1 n hn).2.2 k')
    · obtain ⟨k', f⟩ := hc p (List.mem_cons_of_mem _ hp) n hn k
      refine ⟨k', fun hs => ?_⟩
      rcases List.mem_append.mp hs with h1 | h1
      · exact List.mem_append_left _ (f h1)
      · exact List.mem_append_right _ h1
theorem Ord.append {m : M.Md} : ∀ {a b : List M.Op} {S : List Int}, Ord m S (a ++ b) ↔ Ord m S a ∧ Ord m (S ++ a.map (·.to)) b
  | [], b, S => by simp [Ord]
  | o :: a, b, S => by
    show ((∀ n ∈ readsL o, Av m S n) ∧ Ord m (S ++ [o.to]) (a ++ b)) ↔ ((∀ n ∈ readsL o, Av m S n) ∧ Ord m (S ++ [o.to]) a) ∧ Ord m (S ++ (o.to :: a.map (·.to))) b
    rw [Ord.append (a := a), List.append_assoc, List.singleton_append, and_assoc]

theorem mem_uses {m : M.Md} {n : Int} : 0 < uses m n ↔ (∃ o ∈ m.ops, n ∈ readsL o) ∨ n ∈ m.outs := by
  unfold uses readBy
  constructor
  · intro h
    by_cases h1 : 0 < (m.ops.flatMap readsL).count n
    · exact .inl (List.mem_flatMap.mp (List.count_pos_iff.mp h1))
    · exact .inr (List.count_pos_iff.mp (by omega))
  · rintro (h | h)
    · have := List.count_pos_iff.mpr (List.mem_flatMap.mpr h); omega
    · have := List.count_pos_iff.mpr h; omega

theorem mem_a (o : M.Op) : o.a ∈ readsL o := by unfold readsL; split <;> (try split) <;> simp
theorem mem_b {o : M.Op} (h : M.readsTwo o.kind = true) (hw : M.hasWeights o.kind = false) : o.b ∈ readsL o := by
  unfold readsL; rw [if_neg (by rw [hw]; decide), if_pos h]; simp
theorem mem_w {o : M.Op} (h : M.hasWeights o.kind = true) : o.weights ∈ readsL o ∧ o.biases ∈ readsL o := by
  unfold readsL; rw [if_pos h]; simp
theorem not_both {k : Int} (h : M.readsTwo k = true) : M.hasWeights k = false := by
  unfold M.readsTwo at h; unfold M.hasWeights
  simp only [Bool.or_eq_true, beq_iff_eq] at h
  rcases h with rfl | rfl <;> decide
theorem reads_cases {o : M.Op} {n : Int} (h : n ∈ readsL o) : n = o.a ∨ (M.readsTwo o.kind = true ∧ n = o.b) ∨ (M.hasWeights o.kind = true ∧ (n = o.weights ∨ n = o.biases)) := by
  unfold readsL at h
  by_cases h1 : M.hasWeights o.kind = true
  · rw [if_pos h1] at h; simp at h; rcases h with h | h | h
    · exact .inl h
    · exact .inr (.inr ⟨h1, .inl h⟩)
    · exact .inr (.inr ⟨h1, .inr h⟩)
  · rw [if_neg h1] at h
    by_cases h2 : M.readsTwo o.kind = true
    · rw [if_pos h2] at h; simp at h; rcases h with h | h
      · exact .inl h
      · exact .inr (.inl ⟨h2, h⟩)
    · rw [if_neg h2] at h; simp at h; exact .inl h

/-- A model (whatever has become of it) whose tensors have the cells C. -/
structure Sol (m : M.Md) (C : List (List Int)) : Prop where
  nt : m.tensors.length ≤ 24
  no : m.ops.length ≤ 16
  nu : m.outs.length ≤ 255
  kinds : ∀ n : Int, 0 ≤ n → n < m.tensors.length → 0 ≤ (M.tensorAt m n).kind ∧ (M.tensorAt m n).kind ≤ 3
  dim : ∀ n : Int, 0 ≤ n → n < m.tensors.length → O.Dim (M.tensorAt m n)
  fi : ∀ o ∈ m.ops, O.Finds m o (D.cellsAt C o.a) (D.cellsAt C o.b)
  eq : ∀ o ∈ m.ops, D.cellsAt C o.to = O.make m o (D.cellsAt C o.a) (D.cellsAt C o.b)
  to : ∀ o ∈ m.ops, 0 ≤ o.to ∧ o.to < m.tensors.length ∧ (M.tensorAt m o.to).kind = 3
  nd : (m.ops.map (·.to)).Nodup
  ord : Ord m [] m.ops
  not2 : ∀ o ∈ m.ops, (M.tensorAt m o.a).kind ≠ 2 ∧ (M.readsTwo o.kind = true → (M.tensorAt m o.b).kind ≠ 2)
  ws : ∀ o ∈ m.ops, M.hasWeights o.kind = true → (M.tensorAt m o.weights).kind = 1 ∧ (M.tensorAt m o.biases).kind = 2
  outs : ∀ n ∈ m.outs, Av m (m.ops.map (·.to)) n ∧ (M.tensorAt m n).kind ≠ 2
  data : ∀ n : Int, 0 < uses m n → (M.tensorAt m n).kind = 1 → D.cellsAt C n = (M.tensorAt m n).data
  full : ∀ n : Int, 0 ≤ n → n < m.tensors.length → (M.tensorAt m n).kind ≠ 2 → ((D.cellsAt C n).length : Int) = M.cellsOf (M.tensorAt m n)
  cells : ∀ n : Int, 0 ≤ n → n < m.tensors.length → (M.tensorAt m n).kind ≠ 2 → D.Cells (D.cellsAt C n)

theorem Sol.av {m : M.Md} {C : List (List Int)} (s : Sol m C) {o : M.Op} (ho : o ∈ m.ops) {n : Int} (hn : n ∈ readsL o) : Av m (m.ops.map (·.to)) n := by
  obtain ⟨l, r, e⟩ := List.append_of_mem ho
  have h := s.ord
  rw [e] at h
  have := (Ord.append.mp h).2.1 n hn
  refine ⟨this.1, this.2.1, fun k => ?_⟩
  rw [e, List.map_append]
  exact List.mem_append_left _ (by simpa using this.2.2 k)

-- a tensor becomes a constant
theorem at_set {m : M.Md} {n : Int} (l : List Int) (h0 : 0 ≤ n) (h1 : n < m.tensors.length) (k : Int) : M.tensorAt (setTo m n l) k = if k = n then { M.tensorAt m n with kind := 1, data := l } else M.tensorAt m k := by
  unfold setTo
  by_cases e : k = n
  · subst e
    rw [if_pos rfl]
    conv => lhs; unfold M.tensorAt
    simp only [List.length_set]
    rw [if_neg (by omega), D.getD_set, if_pos ⟨rfl, by omega⟩]
    rfl
  · rw [if_neg e]
    conv => lhs; unfold M.tensorAt
    conv => rhs; unfold M.tensorAt
    simp only [List.length_set]
    by_cases c : k < 0 ∨ (m.tensors.length : Int) ≤ k
    · rw [if_pos c, if_pos c]
    · rw [if_neg c, if_neg c, D.getD_set, if_neg (by omega)]
theorem dims_set {m : M.Md} {n : Int} (l : List Int) (h0 : 0 ≤ n) (h1 : n < m.tensors.length) : Dims m (setTo m n l) := by
  refine ⟨by simp [setTo], fun k => ?_, fun k => ?_, fun k => ?_, fun k => ?_⟩ <;> rw [at_set l h0 h1] <;> split <;> simp_all

theorem count_mid (a b : List M.Op) (o : M.Op) (n : Int) : readBy (a ++ o :: b) n = readBy (a ++ b) n + (readsL o).count n := by
  unfold readBy; simp [List.flatMap_append, List.count_append]; omega

theorem Dims.withOps {m m' : M.Md} (d : Dims m m') (os : List M.Op) : Dims m { m' with ops := os } := ⟨d.len, d.h, d.w, d.c, d.zero⟩

/-- The step of fold: what an operator of constants makes is known. -/
theorem Sol.known {m : M.Md} {C : List (List Int)} (s : Sol m C) {l r : List M.Op} {o : M.Op} (e : m.ops = l ++ o :: r) (hk : isKnown m o = true) :
    O.make m o (M.tensorAt m o.a).data (M.tensorAt m o.b).data = D.cellsAt C o.to ∧ Sol { setTo m o.to (D.cellsAt C o.to) with ops := l ++ r } C := by
  have ho : o ∈ m.ops := by rw [e]; simp
  have kn : ∀ n ∈ readsL o, (M.tensorAt m n).kind ≠ 0 ∧ (M.tensorAt m n).kind ≠ 3 := by
    intro n hn
    have := List.all_eq_true.mp hk n hn
    unfold knownT at this
    simpa using this
  have u : ∀ n ∈ readsL o, 0 < uses m n := fun n hn => mem_uses.mpr (.inl ⟨o, ho, hn⟩)
  have k1 : ∀ n ∈ readsL o, (M.tensorAt m n).kind ≠ 2 → (M.tensorAt m n).kind = 1 := by
    intro n hn h2
    have a := s.av ho hn
    have := kn n hn
    have := s.kinds n a.1 a.2.1
    omega
  have n2 := s.not2 o ho
  obtain ⟨t0, t1, t3⟩ := s.to o ho
  have da := s.data o.a (u _ (mem_a o)) (k1 _ (mem_a o) n2.1)
  refine ⟨?_, ?_⟩
  · rw [s.eq o ho, ← da]
    cases h2 : M.readsTwo o.kind with
    | false => exact make_lb m h2 _ _ _
    | true =>
      have hb := mem_b h2 (not_both h2)
      rw [← s.data o.b (u _ hb) (k1 _ hb (n2.2 h2))]
  · have d := (dims_set (m := m) (D.cellsAt C o.to) t0 t1).withOps (l ++ r)
    have sub : ∀ p ∈ l ++ r, p ∈ m.ops := fun p hp => by rw [e]; simp at hp ⊢; rcases hp with h | h <;> simp [h]
    have nd := s.nd
    rw [e, List.map_append, List.map_cons] at nd
    have ne : ∀ p ∈ l ++ r, p.to ≠ o.to := by
      intro p hp he
      have h1 := (List.nodup_append.mp nd).2.1
      have h2 := (List.nodup_cons.mp h1).1
      have h3 := (List.nodup_append.mp nd).2.2
      rcases List.mem_append.mp hp with h | h
      · exact h3 _ (List.mem_map_of_mem h) _ (by rw [he]; exact List.mem_cons_self) rfl
      · exact h2 (he ▸ List.mem_map_of_mem h)
    have at' : ∀ k : Int, M.tensorAt { setTo m o.to (D.cellsAt C o.to) with ops := l ++ r } k = if k = o.to then { M.tensorAt m o.to with kind := 1, data := D.cellsAt C o.to } else M.tensorAt m k := fun k => at_set (m := m) _ t0 t1 k
    have kk : ∀ n : Int, (M.tensorAt m n).kind ≠ 3 → M.tensorAt { setTo m o.to (D.cellsAt C o.to) with ops := l ++ r } n = M.tensorAt m n := by
      intro n h3
      rw [at', if_neg (fun h => h3 (by rw [h]; exact t3))]
    have k3 : ∀ n : Int, (M.tensorAt { setTo m o.to (D.cellsAt C o.to) with ops := l ++ r } n).kind = 3 → n ≠ o.to ∧ (M.tensorAt m n).kind = 3 := by
      intro n h
      rw [at'] at h
      by_cases c : n = o.to
      · rw [if_pos c] at h; exact absurd h (by show ¬ ((1 : Int) = 3); decide)
      · rw [if_neg c] at h; exact ⟨c, h⟩
    have hW : ∀ p ∈ l ++ r, M.hasWeights p.kind = true → (M.tensorAt { setTo m o.to (D.cellsAt C o.to) with ops := l ++ r } p.weights).data = (M.tensorAt m p.weights).data ∧ (M.tensorAt { setTo m o.to (D.cellsAt C o.to) with ops := l ++ r } p.biases).data = (M.tensorAt m p.biases).data := by
      intro p hp h
      have := s.ws p (sub p hp) h
      exact ⟨by rw [kk _ (by omega)], by rw [kk _ (by omega)]⟩
    have n2' : ∀ n : Int, (M.tensorAt { setTo m o.to (D.cellsAt C o.to) with ops := l ++ r } n).kind ≠ 2 ↔ (M.tensorAt m n).kind ≠ 2 := by
      intro n
      rw [at']
      split
      · rename_i h; subst h; rw [t3]; simp
      · rfl
    have ul : ∀ n, uses { setTo m o.to (D.cellsAt C o.to) with ops := l ++ r } n ≤ uses m n := by
      intro n
      unfold uses
      rw [e, count_mid]
      show readBy (l ++ r) n + m.outs.count n ≤ _
      omega
    refine ⟨by rw [d.len]; exact s.nt, ?_, s.nu, fun n h0 h1 => ?_, fun n h0 h1 => d.dim (s.dim n h0 (by rw [d.len] at h1; exact h1)), fun p hp => d.finds (s.fi p (sub p hp)) (hW p hp), fun p hp => ?_, fun p hp => ?_, ?_, ?_, fun p hp => ?_, fun p hp h => ?_, fun n hn => ?_, fun n h0 h1 => ?_, fun n h0 h1 h2 => ?_, fun n h0 h1 h2 => ?_⟩
    · have := s.no; rw [e] at this; simp at this ⊢; omega
    · rw [d.len] at h1
      have := s.kinds n h0 h1
      rw [at']; split
      · show (0 : Int) ≤ 1 ∧ (1 : Int) ≤ 3; decide
      · exact this
    · rw [d.make (hW p hp)]; exact s.eq p (sub p hp)
    · obtain ⟨p0, p1, p3⟩ := s.to p (sub p hp)
      refine ⟨p0, by rw [d.len]; exact p1, ?_⟩
      rw [at', if_neg (ne p hp)]; exact p3
    · show ((l ++ r).map (·.to)).Nodup
      rw [List.map_append]
      exact List.Nodup.sublist (List.Sublist.append_left (List.sublist_cons_self _ _) _) nd
    · have ho := s.ord
      rw [e] at ho
      obtain ⟨o1, -, o3⟩ := Ord.append.mp ho
      refine Ord.append.mpr ⟨Ord.congr d.len o1 fun p hp n hn k => ⟨(k3 n k).2, id⟩, Ord.congr d.len o3 fun p hp n hn k => ⟨(k3 n k).2, fun hs => ?_⟩⟩
      rcases List.mem_append.mp hs with h | h
      · exact h
      · exact absurd (List.mem_singleton.mp h) (k3 n k).1
    · have := s.not2 p (sub p hp)
      exact ⟨(n2' _).mpr this.1, fun h => (n2' _).mpr (this.2 h)⟩
    · have := s.ws p (sub p hp) h
      rw [kk _ (by omega), kk _ (by omega)]; exact this
    · obtain ⟨a, h2⟩ := s.outs n hn
      refine ⟨⟨a.1, by rw [d.len]; exact a.2.1, fun k => ?_⟩, (n2' _).mpr h2⟩
      obtain ⟨c, k'⟩ := k3 n k
      have := a.2.2 k'
      rw [e] at this
      show n ∈ (l ++ r).map (·.to)
      simp only [List.map_append, List.map_cons, List.mem_append, List.mem_cons] at this ⊢
      rcases this with h | h | h
      · exact .inl h
      · exact absurd h c
      · exact .inr h
    · rw [at'] at h1 ⊢
      split
      · rename_i h; rw [h]
      · rename_i h
        rw [if_neg h] at h1
        exact s.data n (Nat.lt_of_lt_of_le h0 (ul n)) h1
    · rw [d.len] at h1
      rw [d.cells]; exact s.full n h0 h1 ((n2' _).mp h2)
    · rw [d.len] at h1
      exact s.cells n h0 h1 ((n2' _).mp h2)

end H
end Go.Proofs.YtcnhfffgbamonaaGreat

/-
  What becomes of a model leaves its cells as they are: fold, drop, join, forget.
-/
namespace Go.Proofs.YtcnhfffgbamonaaGreat
namespace H

/-- A model with other operators. -/
def wo (m : M.Md) (os : List M.Op) : M.Md := { m with ops := os }
theorem at_wo (m : M.Md) (os : List M.Op) (n : Int) : M.tensorAt (wo m os) n = M.tensorAt m n := rfl
theorem dims_wo (m : M.Md) (os : List M.Op) : Dims m (wo m os) := (Dims.refl m).withOps os

theorem finds_wo {m : M.Md} {o : M.Op} {la lb : List Int} (F : O.Finds m o la lb) (os : List M.Op) : O.Finds (wo m os) o la lb := (dims_wo m os).finds F fun _ => ⟨rfl, rfl⟩
theorem known_wo (m : M.Md) (os : List M.Op) (o : M.Op) : isKnown (wo m os) o = isKnown m o := rfl

/-- fold: what has been walked, what is left of it, what is still to be walked. -/
theorem fold_go {C : List (List Int)} : ∀ (rest : List M.Op) (m : M.Md) (left : List M.Op), Sol (wo m (left ++ rest)) C →
    Sol (wo (rest.foldl foldStep (m, left)).1 (rest.foldl foldStep (m, left)).2) C
  | [], m, left, h => by simpa using h
  | o :: rest, m, left, h => by
    rw [List.foldl_cons]
    unfold foldStep
    by_cases hk : isKnown m o = true
    · rw [if_pos hk]
      obtain ⟨e, s⟩ := h.known (l := left) (r := rest) (o := o) rfl hk
      have e' : O.make m o (M.tensorAt m o.a).data (M.tensorAt m o.b).data = D.cellsAt C o.to := e
      rw [e']
      exact fold_go rest _ left s
    · rw [if_neg hk]
      refine fold_go rest m (left ++ [o]) ?_
      rw [List.append_assoc]; exact h

theorem Sol.fold {m : M.Md} {C : List (List Int)} (s : Sol m C) : Sol (fold m) C := fold_go m.ops m [] s

/-- An operator that nobody wants. -/
theorem Sol.without {m : M.Md} {C : List (List Int)} (s : Sol m C) {l r : List M.Op} {o : M.Op} (e : m.ops = l ++ o :: r) (hu : uses m o.to = 0) : Sol (wo m (l ++ r)) C := by
  have d := dims_wo m (l ++ r)
  have sub : ∀ p ∈ l ++ r, p ∈ m.ops := fun p hp => by rw [e]; simp at hp ⊢; rcases hp with h | h <;> simp [h]
  have nu : ∀ n, 0 < uses m n → n ≠ o.to := fun n h h' => by rw [h'] at h; omega
  have ul : ∀ n, uses (wo m (l ++ r)) n ≤ uses m n := by
    intro n
    unfold uses
    rw [e, count_mid]
    show readBy (l ++ r) n + m.outs.count n ≤ _
    omega
  refine ⟨s.nt, ?_, s.nu, s.kinds, s.dim, fun p hp => finds_wo (s.fi p (sub p hp)) _, fun p hp => s.eq p (sub p hp), fun p hp => s.to p (sub p hp), ?_, ?_, fun p hp => s.not2 p (sub p hp), fun p hp => s.ws p (sub p hp), fun n hn => ?_, fun n h0 h1 => ?_, s.full, s.cells⟩
  · have := s.no; rw [e] at this; show (l ++ r).length ≤ 16; simp at this ⊢; omega
  · have nd := s.nd
    rw [e, List.map_append, List.map_cons] at nd
    show ((l ++ r).map (·.to)).Nodup
    rw [List.map_append]
    exact List.Nodup.sublist (List.Sublist.append_left (List.sublist_cons_self _ _) _) nd
  · have ho := s.ord
    rw [e] at ho
    obtain ⟨o1, -, o3⟩ := Ord.append.mp ho
    refine Ord.append.mpr ⟨Ord.congr d.len o1 fun p hp n hn k => ⟨k, id⟩, Ord.congr d.len o3 fun p hp n hn k => ⟨k, fun hs => ?_⟩⟩
    rcases List.mem_append.mp hs with h | h
    · exact h
    · refine absurd (List.mem_singleton.mp h) (nu n (mem_uses.mpr (.inl ⟨p, sub p (List.mem_append_right _ hp), hn⟩)))
  · obtain ⟨a, h2⟩ := s.outs n hn
    refine ⟨⟨a.1, a.2.1, fun k => ?_⟩, h2⟩
    have := a.2.2 k
    rw [e] at this
    show n ∈ (l ++ r).map (·.to)
    simp only [List.map_append, List.map_cons, List.mem_append, List.mem_cons] at this ⊢
    rcases this with h | h | h
    · exact .inl h
    · exact absurd h (nu n (mem_uses.mpr (.inr hn)))
    · exact .inr h
  · exact s.data n (Nat.lt_of_lt_of_le h0 (ul n)) h1

theorem erase_split {l : List M.Op} {i : Nat} {o : M.Op} (h : l[i]? = some o) : l = l.take i ++ o :: l.drop (i + 1) ∧ l.eraseIdx i = l.take i ++ l.drop (i + 1) := by
  have hl := M.lt_of_some h
  refine ⟨?_, List.eraseIdx_eq_take_drop_succ _ _⟩
  rw [List.getElem?_eq_getElem hl] at h
  injection h with h
  rw [← h, List.getElem_cons_drop, List.take_append_drop]

theorem Sol.dropAt {m : M.Md} {C : List (List Int)} (s : Sol m C) (i : Nat) : Sol (dropAt m i) C := by
  unfold H.dropAt
  cases h : m.ops[i]? with
  | none => exact s
  | some o =>
    show Sol (if uses m o.to = 0 then _ else _) C
    split
    · rename_i hu
      obtain ⟨e1, e2⟩ := erase_split h
      rw [e2]
      exact s.without e1 hu
    · exact s
theorem Sol.dropTo {C : List (List Int)} : ∀ (i : Nat) {m : M.Md}, Sol m C → Sol (dropTo i m) C
  | 0, _, s => s
  | i + 1, _, s => Sol.dropTo i (s.dropAt i)
theorem Sol.drop {m : M.Md} {C : List (List Int)} (s : Sol m C) : Sol (drop m) C := s.dropTo _

-- ranges
theorem between_le {x y lo hi : Int} (h : x ≤ y) (hh : lo ≤ hi) : R.between x lo hi ≤ R.between y lo hi := by
  unfold R.between; split <;> (try split) <;> (try split) <;> (try split) <;> omega
theorem between_twice {x lo hi a b : Int} (h : lo ≤ hi) (h' : a ≤ b) : R.between (R.between x lo hi) a b = R.between x (R.between lo a b) (R.between hi a b) := by
  unfold R.between; split <;> (try split) <;> (try split) <;> (try split) <;> (try split) <;> (try split) <;> (try split) <;> omega

theorem range_kinds {o : M.Op} (h : hasRange o = true) : 1 ≤ o.kind ∧ o.kind ≤ 7 := by
  unfold hasRange at h; simpa using h

/-- A cell of what was joined. -/
theorem cell_joined {s c : M.Op} (hr : hasRange s = true) (hs : s.lo ≤ s.hi) (hc : c.lo ≤ c.hi) (a b w bi : O.G) (t : M.Tn) (y x k : Int) :
    O.cell ⟨joined s c, a, b, w, bi, t⟩ y x k = R.between (O.cell ⟨s, a, b, w, bi, t⟩ y x k) c.lo c.hi := by
  have rr : ∀ v, O.ranged ⟨joined s c, a, b, w, bi, t⟩ v = R.between (O.ranged ⟨s, a, b, w, bi, t⟩ v) c.lo c.hi := fun v => (between_twice hs hc).symm
  have ok := range_kinds hr
  have k1 : (joined s c).kind = s.kind := rfl
  have oo : ∀ v k, O.out ⟨joined s c, a, b, w, bi, t⟩ v k = R.between (O.out ⟨s, a, b, w, bi, t⟩ v k) c.lo c.hi := fun v k => rr _
  unfold O.cell
  show (if s.kind = 1 then _ else _) = R.between (if s.kind = 1 then _ else _) _ _
  by_cases h1 : s.kind = 1
  · rw [if_pos h1, if_pos h1]; exact oo _ _
  rw [if_neg h1, if_neg h1]
  show (if s.kind = 2 then _ else _) = R.between (if s.kind = 2 then _ else _) _ _
  by_cases h2 : s.kind = 2
  · rw [if_pos h2, if_pos h2]; exact oo _ _
  rw [if_neg h2, if_neg h2]
  show (if s.kind = 3 then _ else _) = R.between (if s.kind = 3 then _ else _) _ _
  by_cases h3 : s.kind = 3
  · rw [if_pos h3, if_pos h3]; exact oo _ _
  rw [if_neg h3, if_neg h3]
  show (if s.kind = 4 then _ else _) = R.between (if s.kind = 4 then _ else _) _ _
  by_cases h4 : s.kind = 4
  · rw [if_pos h4, if_pos h4]; exact oo _ _
  rw [if_neg h4, if_neg h4]
  show (if s.kind = 5 ∨ s.kind = 6 then _ else _) = R.between (if s.kind = 5 ∨ s.kind = 6 then _ else _) _ _
  by_cases h5 : s.kind = 5 ∨ s.kind = 6
  · rw [if_pos h5, if_pos h5]
    unfold O.pool
    show (if s.kind = 5 then _ else _) = R.between (if s.kind = 5 then _ else _) _ _
    split
    · exact rr _
    · exact rr _
  rw [if_neg h5, if_neg h5]
  show (if s.kind = 7 then _ else _) = R.between (if s.kind = 7 then _ else _) _ _
  rw [if_pos (by omega), if_pos (by omega)]
  exact rr _

theorem cell_clamp {c : M.Op} (hk : c.kind = 7) {m : M.Md} {la lb : List Int} {y x k : Int} : O.cell (O.start m c la lb) y x k = R.between (O.at_ (O.lay (M.tensorAt m c.a) la) y x k) c.lo c.hi := by
  unfold O.cell
  show (if c.kind = 1 then _ else if c.kind = 2 then _ else if c.kind = 3 then _ else if c.kind = 4 then _ else if c.kind = 5 ∨ c.kind = 6 then _ else if c.kind = 7 then _ else _) = _
  rw [if_neg (by omega), if_neg (by omega), if_neg (by omega), if_neg (by omega), if_neg (by omega), if_pos hk]
  rfl
/-- The place of a cell. -/
theorem place {t : M.Tn} (d : O.Dim t) {q : Nat} (h : (q : Int) < M.cellsOf t) : 0 ≤ (q : Int) / (t.w * t.c) ∧ (q : Int) / (t.w * t.c) < t.h ∧ 0 ≤ (q : Int) / t.c % t.w ∧ (q : Int) / t.c % t.w < t.w ∧ 0 ≤ (q : Int) % t.c ∧ (q : Int) % t.c < t.c ∧
    ((q : Int) / (t.w * t.c) * t.w + (q : Int) / t.c % t.w) * t.c + (q : Int) % t.c = q := by
  have hw := d.w0; have hc := d.c0
  have hwc : 0 < t.w * t.c := Int.mul_pos (by omega) (by omega)
  unfold M.cellsOf at h
  refine ⟨Int.ediv_nonneg (by omega) (by omega), Int.ediv_lt_of_lt_mul hwc (by rw [← Int.mul_assoc]; exact h), Int.emod_nonneg _ (by omega), Int.emod_lt_of_pos _ (by omega), Int.emod_nonneg _ (by omega), Int.emod_lt_of_pos _ (by omega), ?_⟩
  have e : (q : Int) / (t.w * t.c) = (q : Int) / t.c / t.w := by rw [Int.mul_comm, Int.ediv_ediv_of_nonneg (by omega)]
  rw [e]
  have h1 := Int.mul_ediv_add_emod ((q : Int) / t.c) t.w
  have h2 := Int.mul_ediv_add_emod (q : Int) t.c
  rw [Int.mul_comm ((q : Int) / t.c / t.w) t.w, h1, Int.mul_comm ((q : Int) / t.c) t.c, h2]
theorem fit_joined {s c : M.Op} (fs : FitO s) (fc : FitO c) (hr : hasRange s = true) (hh : c.lo ≤ c.hi) : FitO (joined s c) := by
  have hb := D.between_range (x := s.lo) hh
  have hb2 := D.between_range (x := s.hi) hh
  have l1 := fc.lo; have l2 := fc.hi
  unfold Cell at l1 l2
  exact ⟨fs.k0, fs.k1, fs.a, fs.b, fs.ws, fs.bs, fc.to, fs.noW, fs.noB, fs.size, fs.stride, fs.above, fs.below, fs.left, fs.right, ⟨by show -128 ≤ R.between _ _ _; omega, by show R.between _ _ _ ≤ 127; omega⟩, ⟨by show -128 ≤ R.between _ _ _; omega, by show R.between _ _ _ ≤ 127; omega⟩,
    fs.noSize, fs.noStride, fs.noSame, fs.noPad, fun h => absurd (range_kinds hr) h, fs.scales, fs.fits⟩

/-- The list with s and, behind it, a Clamp of what s makes. -/
theorem Sol.joined {m : M.Md} {C : List (List Int)} (S : Sol m C) {l mid rest : List M.Op} {s c : M.Op} (e : m.ops = l ++ s :: (mid ++ c :: rest)) (hr : hasRange s = true) (hk : c.kind = 7) (ha : s.to = c.a) (hu : uses m c.a = 1) :
    Sol (wo m (l ++ joined s c :: (mid ++ rest))) C := by
  have hs : s ∈ m.ops := by rw [e]; simp
  have hc : c ∈ m.ops := by rw [e]; simp
  have d := dims_wo m (l ++ H.joined s c :: (mid ++ rest))
  have sub : ∀ p ∈ l ++ (mid ++ rest), p ∈ m.ops := fun p hp => by rw [e]; simp at hp ⊢; rcases hp with h | h | h <;> simp [h]
  have Fs := S.fi s hs
  have Fc := S.fi c hc
  have cw : M.hasWeights c.kind = false := by rw [hk]; decide
  have c2 : M.readsTwo c.kind = false := by rw [hk]; decide
  have rc : readsL c = [c.a] := by unfold readsL; rw [if_neg (by rw [cw]; decide), if_neg (by rw [c2]; decide)]
  have qs := Fs.quant
  have qc := Fc.quant
  unfold M.quantOp at qs qc
  simp only [Bool.and_eq_true, Bool.not_eq_true', decide_eq_false_iff_not] at qs qc
  have hls : s.lo ≤ s.hi := by have := qs.1.1; omega
  have hlc : c.lo ≤ c.hi := by have := qc.1.1; omega
  have al : (M.tensorAt m c.a).h = (M.tensorAt m c.to).h ∧ (M.tensorAt m c.a).w = (M.tensorAt m c.to).w ∧ (M.tensorAt m c.a).c = (M.tensorAt m c.to).c := by
    have := Fc.shape
    unfold M.shape at this
    simp only [hk] at this
    simpa [M.alike, and_assoc] using this
  have zz : (M.tensorAt m c.a).zero = (M.tensorAt m c.to).zero := by
    have := qc.2
    unfold M.zerosHold at this
    rw [if_neg (by rw [cw]; decide), if_neg (by omega)] at this
    simp only [c2, Bool.false_eq_true, if_false, beq_iff_eq] at this
    exact this
  have mj : ∀ la lb, O.make m (H.joined s c) la lb = (O.make m s la lb).map fun v => R.between v c.lo c.hi := by
    intro la lb
    unfold O.make D.grid
    rw [List.map_map]
    show (List.range (M.cellsOf (M.tensorAt m c.to)).toNat).map (fun q : Nat => O.cell (O.start m (H.joined s c) la lb) ((q : Int) / ((M.tensorAt m c.to).w * (M.tensorAt m c.to).c)) ((q : Int) / (M.tensorAt m c.to).c % (M.tensorAt m c.to).w) ((q : Int) % (M.tensorAt m c.to).c)) = _
    rw [ha]
    have ec : M.cellsOf (M.tensorAt m c.to) = M.cellsOf (M.tensorAt m c.a) := by unfold M.cellsOf; rw [al.1, al.2.1, al.2.2]
    rw [ec, ← al.2.1, ← al.2.2]
    apply List.map_congr_left
    intro q _
    show O.cell ⟨H.joined s c, _, _, _, _, M.tensorAt m c.to⟩ _ _ _ = R.between (O.cell ⟨s, _, _, _, _, M.tensorAt m s.to⟩ _ _ _) _ _
    rw [cell_joined hr hls hlc, ha, cell_dims (t := M.tensorAt m c.a) (h1 := al.1.symm) (h2 := al.2.1.symm) (h3 := al.2.2.symm) (h4 := zz.symm)]
    rfl
  have mc : ∀ la lb, (la.length : Int) = M.cellsOf (M.tensorAt m c.a) → O.make m c la lb = la.map fun v => R.between v c.lo c.hi := by
    intro la lb hl
    unfold O.make D.grid
    have ec : M.cellsOf (M.tensorAt m c.to) = M.cellsOf (M.tensorAt m c.a) := by unfold M.cellsOf; rw [al.1, al.2.1, al.2.2]
    apply List.ext_getElem
    · rw [List.length_map, List.length_range, List.length_map, ec]; omega
    · intro q h1 h2
      rw [List.getElem_map, List.getElem_map, List.getElem_range]
      have hq : q < la.length := by simpa using h2
      have hq' : (q : Int) < M.cellsOf (M.tensorAt m c.to) := by rw [ec]; omega
      rw [H.cell_clamp hk]
      congr 1
      have dz := Fc.z
      obtain ⟨p1, p2, p3, p4, p5, p6, p7⟩ := H.place dz (q := q) hq'
      rw [O.at_in (by rw [hl]) (by omega) (by rw [al.1]; exact p2) (by omega) (by rw [al.2.1]; exact p4) (by omega) (by rw [al.2.2]; exact p6)]
      unfold D.at_ D.get
      rw [al.2.1, al.2.2, p7, if_neg (by omega), Int.toNat_natCast, List.getD, List.getElem?_eq_getElem hq]
      rfl
  have ul : ∀ n, uses (wo m (l ++ H.joined s c :: (mid ++ rest))) n + (readsL c).count n = uses m n := by
    intro n
    unfold uses
    rw [e, count_mid l _ s, ← List.append_assoc l mid (c :: rest), count_mid (l ++ mid) rest c]
    show readBy (l ++ H.joined s c :: (mid ++ rest)) n + m.outs.count n + _ = _
    rw [count_mid, List.append_assoc]
    show readBy (l ++ (mid ++ rest)) n + (readsL s).count n + m.outs.count n + _ = _
    omega
  have only : ∀ n, 0 < uses (wo m (l ++ H.joined s c :: (mid ++ rest))) n → n ≠ s.to := by
    intro n h he
    have h1 := ul n
    rw [he, ha, hu, rc] at h1
    simp at h1
    rw [he, ha] at h
    omega
  have fj : O.Finds m (H.joined s c) (D.cellsAt C s.a) (D.cellsAt C s.b) := by
    have fo := Fs.fit
    have fco := Fc.fit
    have hb := D.between_range (x := s.lo) hlc
    have hb2 := D.between_range (x := s.hi) hlc
    have l1 := fco.lo; have l2 := fco.hi
    refine ⟨?_, ?_, ?_, Fc.z, Fs.a, Fs.na, Fs.ca, Fs.b, Fs.nb, Fs.cb, Fs.w, Fs.lw, Fs.cw, Fs.bi, Fs.li, Fs.ci⟩
    · exact H.fit_joined fo fco hr hlc
    · rw [shape_core]
      have := Fs.shape
      rw [shape_core] at this
      show shapeT s _ _ _ _ (core (M.tensorAt m c.to)) = true
      have ez : core (M.tensorAt m c.to) = core (M.tensorAt m s.to) := by unfold core; rw [ha, al.1, al.2.1, al.2.2]
      rw [ez]; exact this
    · unfold M.quantOp
      simp only [Bool.and_eq_true, Bool.not_eq_true', decide_eq_false_iff_not]
      refine ⟨⟨?_, qs.1.2⟩, ?_⟩
      · show ¬ (R.between s.hi c.lo c.hi < R.between s.lo c.lo c.hi)
        have := between_le hls hlc; omega
      · have := qs.2
        unfold M.zerosHold at this ⊢
        simp only [ha, zz] at this
        exact this
  refine ⟨S.nt, ?_, S.nu, S.kinds, S.dim, fun p hp => ?_, fun p hp => ?_, fun p hp => ?_, ?_, ?_, fun p hp => ?_, fun p hp => ?_, fun n hn => ?_, fun n h0 h1 => ?_, S.full, S.cells⟩
  · have := S.no; rw [e] at this; show (l ++ H.joined s c :: (mid ++ rest)).length ≤ 16; simp at this ⊢; omega
  · rcases (show p ∈ l ++ (mid ++ rest) ∨ p = H.joined s c by simp [wo] at hp ⊢; rcases hp with h | h | h | h <;> simp [h]) with h | h
    · exact finds_wo (S.fi p (sub p h)) _
    · rw [h]; exact finds_wo fj _
  · rcases (show p ∈ l ++ (mid ++ rest) ∨ p = H.joined s c by simp [wo] at hp ⊢; rcases hp with h | h | h | h <;> simp [h]) with h | h
    · exact S.eq p (sub p h)
    · rw [h]
      show D.cellsAt C c.to = O.make m (H.joined s c) (D.cellsAt C s.a) (D.cellsAt C s.b)
      rw [mj, ← S.eq s hs, ha, S.eq c hc]
      exact mc _ _ Fc.na
  · rcases (show p ∈ l ++ (mid ++ rest) ∨ p = H.joined s c by simp [wo] at hp ⊢; rcases hp with h | h | h | h <;> simp [h]) with h | h
    · exact S.to p (sub p h)
    · rw [h]; exact S.to c hc
  · have nd := S.nd
    rw [e] at nd
    show ((l ++ H.joined s c :: (mid ++ rest)).map (·.to)).Nodup
    have pm : List.Perm ((l ++ H.joined s c :: (mid ++ rest)).map (·.to)) ((l ++ (mid ++ c :: rest)).map (·.to)) := by
      simp only [List.map_append, List.map_cons]
      refine List.Perm.append_left _ ?_
      exact (List.perm_middle (a := c.to) (l₁ := mid.map (·.to)) (l₂ := rest.map (·.to))).symm
    refine pm.nodup_iff.mpr (List.Nodup.sublist ?_ nd)
    exact ((List.sublist_cons_self s (mid ++ c :: rest)).append_left l).map _
  · have ho := S.ord
    rw [e] at ho
    obtain ⟨o1, o2, o3⟩ := Ord.append.mp ho
    obtain ⟨o4, -, o6⟩ := Ord.append.mp o3
    refine Ord.append.mpr ⟨Ord.congr d.len o1 fun p hp n hn k => ⟨k, id⟩, ⟨fun n hn => ?_, Ord.append.mpr ⟨Ord.congr d.len o4 fun p hp n hn k => ⟨k, fun hs => ?_⟩, Ord.congr d.len o6 fun p hp n hn k => ⟨k, fun hs => ?_⟩⟩⟩⟩
    · exact o2 n hn
    · have := only n (mem_uses.mpr (.inl ⟨p, by show p ∈ _ ++ _; simp [hp], hn⟩))
      simp only [List.mem_append, List.mem_singleton] at hs ⊢
      rcases hs with h | h
      · exact .inl h
      · exact absurd h this
    · have := only n (mem_uses.mpr (.inl ⟨p, by show p ∈ _ ++ _; simp [hp], hn⟩))
      simp only [List.mem_append, List.mem_singleton] at hs ⊢
      rcases hs with ((h | h) | h) | h
      · exact .inl (.inl h)
      · exact absurd h this
      · exact .inr h
      · exact .inl (.inr h)
  · rcases (show p ∈ l ++ (mid ++ rest) ∨ p = H.joined s c by simp [wo] at hp ⊢; rcases hp with h | h | h | h <;> simp [h]) with h | h
    · exact S.not2 p (sub p h)
    · rw [h]; exact S.not2 s hs
  · rcases (show p ∈ l ++ (mid ++ rest) ∨ p = H.joined s c by simp [wo] at hp ⊢; rcases hp with h | h | h | h <;> simp [h]) with h | h
    · exact S.ws p (sub p h)
    · rw [h]; exact S.ws s hs
  · obtain ⟨a, h2⟩ := S.outs n hn
    refine ⟨⟨a.1, a.2.1, fun k => ?_⟩, h2⟩
    have h := a.2.2 k
    have := only n (mem_uses.mpr (.inr hn))
    rw [e] at h
    show n ∈ (l ++ H.joined s c :: (mid ++ rest)).map (·.to)
    simp only [List.map_append, List.map_cons, List.mem_append, List.mem_cons] at h ⊢
    show _ ∨ n = c.to ∨ _
    rcases h with h | h | h | h | h
    · exact .inl h
    · exact absurd h this
    · exact .inr (.inr (.inl h))
    · exact .inr (.inl h)
    · exact .inr (.inr (.inr h))
  · exact S.data n (by have := ul n; omega) h1

end H
end Go.Proofs.YtcnhfffgbamonaaGreat

/-
  join and forget; where it begins: the cells of a run.
-/
namespace Go.Proofs.YtcnhfffgbamonaaGreat
namespace H

theorem modify_mid (l mid : List M.Op) (s : M.Op) (f : M.Op → M.Op) : (l ++ s :: mid).modify l.length f = l ++ f s :: mid := by
  induction l with
  | nil => rfl
  | cons a l ih => show a :: (l ++ s :: mid).modify l.length f = _; rw [ih]; rfl

theorem host_some {m : M.Md} {left : List M.Op} {o : M.Op} {i : Nat} (h : host m left o = some i) : o.kind = 7 ∧ uses m o.a = 1 ∧ ∃ s, left[i]? = some s ∧ hasRange s = true ∧ s.to = o.a := by
  unfold host at h
  split at h
  · rename_i hc
    obtain ⟨hi, hp, -⟩ := List.findIdx?_eq_some_iff_getElem.mp h
    unfold isHost at hp
    simp only [Bool.and_eq_true, beq_iff_eq] at hp
    exact ⟨hc.1, hc.2, _, List.getElem?_eq_getElem hi, hp⟩
  · exact absurd h (by simp)

theorem join_go {m : M.Md} {C : List (List Int)} : ∀ (rest left : List M.Op), Sol (wo m (left ++ rest)) C → (∀ n, uses (wo m (left ++ rest)) n ≤ uses m n) →
    Sol (wo m (rest.foldl (joinStep m) left)) C ∧ ∀ n, uses (wo m (rest.foldl (joinStep m) left)) n ≤ uses m n
  | [], left, h, hu => by rw [List.append_nil] at h; exact ⟨h, fun n => by have := hu n; rwa [List.append_nil] at this⟩
  | o :: rest, left, h, hu => by
    rw [List.foldl_cons]
    have hs : joinStep m left o = match host m left o with | some i => left.modify i (fun s => joined s o) | none => left ++ [o] := rfl
    cases hh : host m left o with
    | none =>
      rw [hs, hh]
      refine join_go rest (left ++ [o]) ?_ fun n => ?_
      · rw [List.append_assoc]; exact h
      · have := hu n; rw [List.append_assoc]; exact this
    | some i =>
      rw [hs, hh]
      obtain ⟨k7, u1, s, hi, hr, ha⟩ := host_some hh
      obtain ⟨e, -⟩ := erase_split hi
      have hl : i = (left.take i).length := by rw [List.length_take]; have := M.lt_of_some hi; omega
      generalize hL : left.take i = l at *
      generalize left.drop (i + 1) = mid at *
      subst hl
      subst e
      show Sol (wo m (rest.foldl (joinStep m) ((l ++ s :: mid).modify l.length fun s => joined s o))) C ∧ ∀ n, uses (wo m (rest.foldl (joinStep m) ((l ++ s :: mid).modify l.length fun s => joined s o))) n ≤ uses m n
      rw [modify_mid]
      have e1 : l ++ s :: mid ++ o :: rest = l ++ s :: (mid ++ o :: rest) := by simp
      have u2 : uses (wo m (l ++ s :: mid ++ o :: rest)) o.a = 1 := by
        have h1 := hu o.a
        have h2 : 0 < uses (wo m (l ++ s :: mid ++ o :: rest)) o.a := mem_uses.mpr (.inl ⟨o, by show o ∈ _ ++ _; simp, mem_a o⟩)
        omega
      have J := Sol.joined h (l := l) (mid := mid) (rest := rest) (s := s) (c := o) e1 hr k7 ha u2
      refine join_go rest (l ++ joined s o :: mid) ?_ fun n => ?_
      · have e2 : l ++ joined s o :: mid ++ rest = l ++ joined s o :: (mid ++ rest) := by simp
        rw [e2]; exact J
      · have h1 := hu n
        unfold uses at h1 ⊢
        have e2 : l ++ joined s o :: mid ++ rest = l ++ joined s o :: (mid ++ rest) := by simp
        have b1 : readBy (wo m (l ++ s :: mid ++ o :: rest)).ops n = readBy (l ++ (mid ++ rest)) n + (readsL s).count n + (readsL o).count n := by
          show readBy (l ++ s :: mid ++ o :: rest) n = _
          rw [e1, count_mid, ← List.append_assoc l mid, count_mid, List.append_assoc]; omega
        have b2 : readBy (wo m (l ++ joined s o :: mid ++ rest)).ops n = readBy (l ++ (mid ++ rest)) n + (readsL s).count n := by
          show readBy (l ++ joined s o :: mid ++ rest) n = _
          rw [e2, count_mid]; rfl
        rw [b1] at h1
        rw [b2]
        show _ + m.outs.count n ≤ _
        have h3 : readBy (l ++ (mid ++ rest)) n + (readsL s).count n + (readsL o).count n + m.outs.count n ≤ readBy m.ops n + m.outs.count n := h1
        omega

theorem Sol.join {m : M.Md} {C : List (List Int)} (s : Sol m C) : Sol (join m) C := (join_go m.ops [] s fun _ => Nat.le_refl _).1

theorem at_forget (m : M.Md) (n : Int) : M.tensorAt (forget m) n = if 0 < uses m n then M.tensorAt m n else { M.tensorAt m n with data := [] } := by
  by_cases c : n < 0 ∨ (m.tensors.length : Int) ≤ n
  · have e : M.tensorAt m n = M.noTn := by unfold M.tensorAt; rw [if_pos c]
    have e' : M.tensorAt (forget m) n = M.noTn := by unfold M.tensorAt; rw [if_pos (by show n < 0 ∨ ((m.tensors.mapIdx (forgetT m)).length : Int) ≤ n; rw [List.length_mapIdx]; exact c)]
    rw [e, e']; split <;> rfl
  · obtain ⟨k, rfl⟩ := Int.eq_ofNat_of_zero_le (show 0 ≤ n by omega)
    have hk : k < m.tensors.length := by omega
    have e : M.tensorAt m k = m.tensors[k] := by unfold M.tensorAt; rw [if_neg c, Int.toNat_natCast, List.getD, List.getElem?_eq_getElem hk]; rfl
    have e' : M.tensorAt (forget m) k = forgetT m k m.tensors[k] := by
      unfold M.tensorAt
      rw [if_neg (by show ¬ ((k : Int) < 0 ∨ ((m.tensors.mapIdx (forgetT m)).length : Int) ≤ k); rw [List.length_mapIdx]; exact c)]
      show (m.tensors.mapIdx (forgetT m)).getD _ _ = _
      rw [Int.toNat_natCast, List.getD, List.getElem?_mapIdx, List.getElem?_eq_getElem hk]; rfl
    rw [e, e']
    unfold forgetT
    by_cases hu : uses m k = 0
    · rw [if_pos hu, if_neg (by omega)]
    · rw [if_neg hu, if_pos (by omega)]

theorem forget_len (m : M.Md) : (forget m).tensors.length = m.tensors.length := List.length_mapIdx
theorem kind_forget (m : M.Md) (n : Int) : (M.tensorAt (forget m) n).kind = (M.tensorAt m n).kind := by rw [at_forget]; split <;> rfl
theorem dims_forget (m : M.Md) : Dims m (forget m) := by
  refine ⟨forget_len m, fun n => ?_, fun n => ?_, fun n => ?_, fun n => ?_⟩ <;> rw [at_forget] <;> split <;> rfl
theorem data_forget {m : M.Md} {n : Int} (h : 0 < uses m n) : (M.tensorAt (forget m) n).data = (M.tensorAt m n).data := by rw [at_forget, if_pos h]

theorem Sol.forget {m : M.Md} {C : List (List Int)} (s : Sol m C) : Sol (forget m) C := by
  have d := dims_forget m
  have hW : ∀ o ∈ m.ops, M.hasWeights o.kind = true → (M.tensorAt (H.forget m) o.weights).data = (M.tensorAt m o.weights).data ∧ (M.tensorAt (H.forget m) o.biases).data = (M.tensorAt m o.biases).data :=
    fun o ho h => ⟨data_forget (mem_uses.mpr (.inl ⟨o, ho, (mem_w h).1⟩)), data_forget (mem_uses.mpr (.inl ⟨o, ho, (mem_w h).2⟩))⟩
  have ln := forget_len m
  refine ⟨by rw [ln]; exact s.nt, s.no, s.nu, fun n h0 h1 => ?_, fun n h0 h1 => d.dim (s.dim n h0 (by omega)), fun o ho => d.finds (s.fi o ho) (hW o ho), fun o ho => ?_, fun o ho => ?_, s.nd, ?_, fun o ho => ?_, fun o ho h => ?_, fun n hn => ?_, fun n h0 h1 => ?_, fun n h0 h1 h2 => ?_, fun n h0 h1 h2 => ?_⟩
  · rw [kind_forget]; exact s.kinds n h0 (by omega)
  · rw [d.make (hW o ho)]; exact s.eq o ho
  · rw [kind_forget, ln]; exact s.to o ho
  · exact Ord.congr ln s.ord fun o ho n hn k => ⟨by rw [kind_forget] at k; exact k, id⟩
  · rw [kind_forget, kind_forget]; exact s.not2 o ho
  · rw [kind_forget, kind_forget]; exact s.ws o ho h
  · obtain ⟨a, h⟩ := s.outs n hn
    exact ⟨⟨a.1, by rw [ln]; exact a.2.1, fun k => a.2.2 (by rw [kind_forget] at k; exact k)⟩, by rw [kind_forget]; exact h⟩
  · have h0' : 0 < uses m n := h0
    rw [kind_forget] at h1
    rw [data_forget h0']; exact s.data n h0' h1
  · rw [kind_forget] at h2
    rw [d.cells]; exact s.full n h0 (by omega) h2
  · rw [kind_forget] at h2
    exact s.cells n h0 (by omega) h2

theorem Sol.shrink {m : M.Md} {C : List (List Int)} (s : Sol m C) : Sol (shrink m) C := s.fold.drop.join.forget

-- where it begins
theorem step_other {m : M.Md} {C : List (List Int)} {o : M.Op} {n : Int} (h0 : 0 ≤ o.to) (h : o.to ≠ n) : D.cellsAt (O.step m C o) n = D.cellsAt C n := by
  unfold O.step D.cellsAt
  by_cases c : n < 0
  · rw [if_pos c, if_pos c]
  · rw [if_neg c, if_neg c, D.getD_set, if_neg (by omega)]
theorem step_same {m : M.Md} {C : List (List Int)} {o : M.Op} (h0 : 0 ≤ o.to) (h1 : o.to < C.length) : D.cellsAt (O.step m C o) o.to = O.make m o (D.cellsAt C o.a) (D.cellsAt C o.b) := by
  unfold O.step
  generalize O.make m o (D.cellsAt C o.a) (D.cellsAt C o.b) = l
  unfold D.cellsAt
  rw [if_neg (by omega), D.getD_set, if_pos ⟨rfl, by omega⟩]
theorem steps_other {m : M.Md} {n : Int} : ∀ (os : List M.Op) (C : List (List Int)), (∀ o ∈ os, 0 ≤ o.to ∧ o.to ≠ n) → D.cellsAt (os.foldl (O.step m) C) n = D.cellsAt C n
  | [], _, _ => rfl
  | o :: os, C, h => by
    rw [List.foldl_cons, steps_other os _ fun p hp => h p (List.mem_cons_of_mem _ hp)]
    exact step_other (h o List.mem_cons_self).1 (h o List.mem_cons_self).2

theorem take_split {l : List M.Op} {i : Nat} {o : M.Op} (h : l[i]? = some o) : l = l.take i ++ o :: l.drop (i + 1) := (erase_split h).1

theorem kind_of {m : M.Md} {n : Int} (h0 : 0 ≤ n) (h1 : n < m.tensors.length) : (m.tensors.map (·.kind)).getD n.toNat 0 = (M.tensorAt m n).kind := O.kind_at (O.tensorAt_get h0 h1).1

/-- What stays behind operator i: what it reads, what it has made. -/
theorem env_stays {m : M.Md} (h1 : O.One m) {i : Nat} {o : M.Op} (_ho : m.ops[i]? = some o) {n : Int} (hn : M.There m n i) (C : List (List Int)) :
    D.cellsAt (m.ops.foldl (O.step m) C) n = D.cellsAt ((m.ops.take i).foldl (O.step m) C) n := by
  conv => lhs; rw [show m.ops = m.ops.take i ++ m.ops.drop i from (List.take_append_drop _ _).symm]
  rw [List.foldl_append]
  refine steps_other _ _ fun p hp => ?_
  obtain ⟨j, hj⟩ := List.getElem?_of_mem hp
  rw [List.getElem?_drop] at hj
  have hk := O.isKind_at (h1.to _ p hj)
  refine ⟨hk.1, fun e => ?_⟩
  obtain ⟨n0, n1, -, n3⟩ := hn
  rw [kind_of n0 n1] at n3
  obtain ⟨q, r, hq, hr, he⟩ := n3 (by rw [← e]; exact hk.2.2)
  exact h1.once.apart q (i + j) r p (by omega) (M.lt_of_some hj) hr hj (by rw [he, e])

theorem sol_of {m : M.Md} (h1 : O.One m) {ins : List (List Int)} (hi : D.inputsHold m ins = true) : Sol m (O.env m ins) := by
  have hE := O.env_to h1 hi m.ops.length (Nat.le_refl _)
  rw [List.take_length] at hE
  have get : ∀ n : Int, 0 ≤ n → n < m.tensors.length → m.tensors[n.toNat]? = some (M.tensorAt m n) ∧ M.tensorAt m n ∈ m.tensors := fun n h0 h1 => O.tensorAt_get h0 h1
  have ca : ∀ n : Int, 0 ≤ n → D.cellsAt (O.env m ins) n = (O.env m ins).getD n.toNat [] := fun n h => by unfold D.cellsAt; rw [if_neg (by omega)]
  have mem : ∀ o ∈ m.ops, ∃ i : Nat, m.ops[i]? = some o := fun o ho => List.getElem?_of_mem ho
  have ta : ∀ {i : Nat} {o : M.Op}, m.ops[i]? = some o → D.cellsAt (O.env m ins) o.a = D.cellsAt ((m.ops.take i).foldl (O.step m) (O.given m.tensors ins)) o.a := fun ho => env_stays h1 ho (h1.a _ _ ho) _
  have tb : ∀ {i : Nat} {o : M.Op}, m.ops[i]? = some o → M.readsTwo o.kind = true → D.cellsAt (O.env m ins) o.b = D.cellsAt ((m.ops.take i).foldl (O.step m) (O.given m.tensors ins)) o.b := fun ho h => env_stays h1 ho (h1.b _ _ ho h) _
  have av : ∀ (i : Nat) (n : Int), i ≤ m.ops.length → M.There m n i → Av m ((m.ops.take i).map (·.to)) n := by
    intro i n hi ⟨n0, n1, n2, n3⟩
    refine ⟨n0, n1, fun k => ?_⟩
    rw [kind_of n0 n1] at n3
    obtain ⟨j, o, hj, ho, he⟩ := n3 k
    refine List.mem_map.mpr ⟨o, ?_, he⟩
    refine List.mem_of_getElem? (i := j) ?_
    rw [List.getElem?_take, if_pos (by omega)]; exact ho
  have t2 : ∀ {n : Int} {i : Int}, M.There m n i → (M.tensorAt m n).kind ≠ 2 := fun {n i} ⟨n0, n1, n2, _⟩ => by rw [← kind_of n0 n1]; exact n2
  refine ⟨h1.nt, h1.no, h1.fit.nu, fun n h0 h2 => ?_, fun n h0 h2 => h1.dim _ (get n h0 h2).2, fun o ho => ?_, fun o ho => ?_, fun o ho => ?_, ?_, ?_, fun o ho => ?_, fun o ho h => ?_, fun n hn => ?_, fun n _ hk => ?_, fun n h0 h2 h3 => ?_, fun n h0 h2 h3 => ?_⟩
  · have := h1.fit.ts _ (get n h0 h2).2; exact ⟨this.k0, this.k1⟩
  · obtain ⟨i, hi'⟩ := mem o ho
    have F := (O.env_to h1 hi i (Nat.le_of_lt (M.lt_of_some hi'))).finds h1 hi'
    rw [← ta hi'] at F
    cases h2 : M.readsTwo o.kind with
    | true => rw [← tb hi' h2] at F; exact F
    | false => exact finds_lb F h2
  · obtain ⟨i, hi'⟩ := mem o ho
    have hk := O.isKind_at (h1.to i o hi')
    have hl : ((m.ops.take i).foldl (O.step m) (O.given m.tensors ins)).length = m.tensors.length := (O.env_to h1 hi i (Nat.le_of_lt (M.lt_of_some hi'))).lenC
    have e : D.cellsAt (O.env m ins) o.to = O.make m o (D.cellsAt ((m.ops.take i).foldl (O.step m) (O.given m.tensors ins)) o.a) (D.cellsAt ((m.ops.take i).foldl (O.step m) (O.given m.tensors ins)) o.b) := by
      show D.cellsAt (m.ops.foldl (O.step m) (O.given m.tensors ins)) o.to = _
      conv => lhs; rw [take_split hi']
      rw [List.foldl_append, List.foldl_cons, steps_other]
      · exact step_same hk.1 (by rw [hl]; exact hk.2.1)
      · intro p hp
        obtain ⟨j, hj⟩ := List.getElem?_of_mem hp
        rw [List.getElem?_drop] at hj
        exact ⟨(O.isKind_at (h1.to _ p hj)).1, fun e => h1.once.apart i _ o p (by omega) (M.lt_of_some hj) hi' hj e.symm⟩
    rw [e, ta hi']
    cases h2 : M.readsTwo o.kind with
    | true => rw [tb hi' h2]
    | false => exact make_lb m h2 _ _ _
  · obtain ⟨i, hi'⟩ := mem o ho; exact O.isKind_at (h1.to i o hi')
  · refine List.pairwise_iff_getElem.mpr fun i j hi hj hij => ?_
    rw [List.length_map] at hj
    rw [List.getElem_map, List.getElem_map]
    exact h1.once.apart i j _ _ hij hj (List.getElem?_eq_getElem (by omega)) (List.getElem?_eq_getElem hj)
  · have key : ∀ k, k ≤ m.ops.length → Ord m [] (m.ops.take k) := by
      intro k
      induction k with
      | zero => intro _; exact trivial
      | succ k ih =>
        intro hk
        have hx : m.ops[k]? = some m.ops[k] := List.getElem?_eq_getElem (by omega)
        rw [List.take_add_one, hx]
        refine Ord.append.mpr ⟨ih (by omega), ⟨fun n hn => ?_, trivial⟩⟩
        rw [List.nil_append]
        rcases reads_cases hn with rfl | ⟨h2, rfl⟩ | ⟨h2, h3⟩
        · exact av k _ (by omega) (h1.a k _ hx)
        · exact av k _ (by omega) (h1.b k _ hx h2)
        · obtain ⟨w1, w2⟩ := h1.ws k _ hx h2
          rcases h3 with rfl | rfl
          · have := O.isKind_at w1; exact ⟨this.1, this.2.1, fun h => by omega⟩
          · have := O.isKind_at w2; exact ⟨this.1, this.2.1, fun h => by omega⟩
    have := key m.ops.length (Nat.le_refl _)
    rwa [List.take_length] at this
  · obtain ⟨i, hi'⟩ := mem o ho
    exact ⟨t2 (h1.a i o hi'), fun h => t2 (h1.b i o hi' h)⟩
  · obtain ⟨i, hi'⟩ := mem o ho
    obtain ⟨w1, w2⟩ := h1.ws i o hi' h
    exact ⟨(O.isKind_at w1).2.2, (O.isKind_at w2).2.2⟩
  · have := h1.outs n hn
    have a := av m.ops.length n (Nat.le_refl _) this
    rw [List.take_length] at a
    exact ⟨a, t2 this⟩
  · by_cases c : n < 0 ∨ (m.tensors.length : Int) ≤ n
    · exfalso
      unfold M.tensorAt at hk
      rw [if_pos c] at hk
      exact absurd hk (by decide)
    · rw [ca n (by omega)]
      have g := (get n (by omega) (by omega)).1
      have e1 := hE.eq n.toNat _ g (by omega)
      have e2 := hE.data n.toNat _ g (.inl hk)
      exact e1.trans e2
  · rw [ca n h0]
    refine hE.full n.toNat _ (get n h0 h2).1 h3 fun k => ?_
    obtain ⟨j, o, hj, he⟩ := h1.all n.toNat (by omega) (by rw [kind_of h0 h2]; exact k)
    exact ⟨j, o, M.lt_of_some hj, hj, he⟩
  · rw [ca n h0]
    exact hE.cells n.toNat _ (get n h0 h2).1 h3

end H
end Go.Proofs.YtcnhfffgbamonaaGreat

/-
  Where buffers lie, in plain functions: layout.Lay. Buffers that live at one time lie apart.
-/
namespace Go.Proofs.YtcnhfffgbamonaaGreat
namespace H

structure Life where
  f : Int
  t : Int
  c : Int
structure Bf where
  a : Int
  c : Int
def noL : Life := ⟨0, 0, 0⟩
def noB : Bf := ⟨0, 0⟩
def Bf.e (b : Bf) : Int := b.a + b.c

def meet (x y : Life) : Bool := decide (x.f ≤ y.t) && decide (y.f ≤ x.t)
def clash (x : Life) (b : Bf) (l : Life) (p : Int) : Bool := meet x l && decide (p < b.e) && decide (b.a < p + l.c)
def freeTo (lv : List Life) (ld : List Bf) (l : Life) (p : Int) (k : Nat) : Bool := (List.range k).all fun i => !clash (lv.getD i noL) (ld.getD i noB) l p
def isFree (lv : List Life) (ld : List Bf) (l : Life) (p : Int) : Bool := freeTo lv ld l p (min lv.length ld.length)
def endTo (ld : List Bf) : Nat → Int
  | 0 => 0
  | k + 1 => if endTo ld k < (ld.getD k noB).e then (ld.getD k noB).e else endTo ld k
def endOf (ld : List Bf) : Int := endTo ld ld.length
/-- The largest that is not laid, of the first k: its number (-1: none), its cells. -/
def bestTo (lv : List Life) (ld : List Bf) : Nat → Int × Int
  | 0 => (-1, 0)
  | k + 1 => if (ld.getD k noB).c = 0 ∧ (bestTo lv ld k).2 < (lv.getD k noL).c then ((k : Int), (lv.getD k noL).c) else bestTo lv ld k
def largest (lv : List Life) (ld : List Bf) : Int := (bestTo lv ld (min lv.length ld.length)).1
def lowTo (lv : List Life) (ld : List Bf) (l : Life) : Nat → Int
  | 0 => endOf ld
  | k + 1 => if (ld.getD k noB).e < lowTo lv ld l k ∧ isFree lv ld l (ld.getD k noB).e = true then (ld.getD k noB).e else lowTo lv ld l k
def lowest (lv : List Life) (ld : List Bf) (l : Life) : Int := if isFree lv ld l 0 = true then 0 else lowTo lv ld l ld.length
def put (lv : List Life) (ld : List Bf) (i : Nat) : List Bf := ld.set i ⟨lowest lv ld (lv.getD i noL), (lv.getD i noL).c⟩
def layStep (lv : List Life) (ld : List Bf) : List Bf := if largest lv ld < 0 ∨ (ld.length : Int) ≤ largest lv ld then ld else put lv ld (largest lv ld).toNat
def layTo (lv : List Life) : Nat → List Bf
  | 0 => List.replicate lv.length noB
  | k + 1 => layStep lv (layTo lv k)
def lay (lv : List Life) : List Bf := layTo lv lv.length

def sumC : List Bf → Int
  | [] => 0
  | b :: l => b.c + sumC l

theorem getD_set_bf (l : List Bf) (i n : Nat) (x : Bf) : (l.set i x).getD n noB = if i = n ∧ n < l.length then x else l.getD n noB := by
  rw [List.getD, List.getD, List.getElem?_set]
  by_cases h : i = n
  · subst h
    by_cases hl : i < l.length
    · simp [hl]
    · simp [hl]
  · simp [h]

theorem end_ge {ld : List Bf} : ∀ {k i : Nat}, i < k → (ld.getD i noB).e ≤ endTo ld k
  | 0, i, h => absurd h (by omega)
  | k + 1, i, h => by
    unfold endTo
    rcases (show i < k ∨ i = k by omega) with h' | rfl
    · have := end_ge (ld := ld) h'; split <;> omega
    · split <;> omega
theorem end_nonneg (ld : List Bf) : ∀ k, 0 ≤ endTo ld k
  | 0 => Int.le_refl _
  | k + 1 => by have := end_nonneg ld k; unfold endTo; split <;> omega
theorem end_le {ld : List Bf} {B : Int} (h0 : 0 ≤ B) : ∀ k, (∀ i, i < k → (ld.getD i noB).e ≤ B) → endTo ld k ≤ B
  | 0, _ => h0
  | k + 1, h => by
    have := end_le h0 k fun i hi => h i (by omega)
    have := h k (by omega)
    unfold endTo; split <;> omega
theorem endOf_ge {ld : List Bf} {i : Nat} (h : i < ld.length) : (ld.getD i noB).e ≤ endOf ld := end_ge h

theorem free_iff {lv : List Life} {ld : List Bf} {l : Life} {p : Int} {k : Nat} : freeTo lv ld l p k = true ↔ ∀ i, i < k → clash (lv.getD i noL) (ld.getD i noB) l p = false := by
  unfold freeTo
  rw [List.all_eq_true]
  constructor
  · intro h i hi
    have := h i (List.mem_range.mpr hi)
    simpa using this
  · intro h i hi
    rw [h i (List.mem_range.mp hi)]; rfl
theorem clash_no {x l : Life} {b : Bf} {p : Int} (h : clash x b l p = false) (hm : meet x l = true) : b.e ≤ p ∨ p + l.c ≤ b.a := by
  unfold clash at h
  rw [hm] at h
  simp at h
  by_cases c : p < b.e
  · exact .inr (h c)
  · exact .inl (by omega)

/-- At the end of all it is free. -/
theorem free_end {lv : List Life} {ld : List Bf} (l : Life) (hl : lv.length = ld.length) : isFree lv ld l (endOf ld) = true := by
  unfold isFree
  refine free_iff.mpr fun i hi => ?_
  have := endOf_ge (ld := ld) (i := i) (by omega)
  unfold clash
  rw [decide_eq_false (show ¬ endOf ld < (ld.getD i noB).e by omega)]
  simp
theorem low_free {lv : List Life} {ld : List Bf} {l : Life} (hl : lv.length = ld.length) (h0 : ∀ i, i < ld.length → 0 ≤ (ld.getD i noB).e) : ∀ k, k ≤ ld.length → isFree lv ld l (lowTo lv ld l k) = true ∧ 0 ≤ lowTo lv ld l k ∧ lowTo lv ld l k ≤ endOf ld
  | 0, _ => ⟨free_end l hl, end_nonneg _ _, Int.le_refl _⟩
  | k + 1, hk => by
    obtain ⟨h1, h2, h3⟩ := low_free (lv := lv) (l := l) hl h0 k (by omega)
    unfold lowTo
    split
    · rename_i c
      exact ⟨c.2, h0 k (by omega), by omega⟩
    · exact ⟨h1, h2, h3⟩
theorem lowest_ok {lv : List Life} {ld : List Bf} {l : Life} (hl : lv.length = ld.length) (h0 : ∀ i, i < ld.length → 0 ≤ (ld.getD i noB).e) : isFree lv ld l (lowest lv ld l) = true ∧ 0 ≤ lowest lv ld l ∧ lowest lv ld l ≤ endOf ld := by
  unfold lowest
  split
  · rename_i c; exact ⟨c, Int.le_refl _, end_nonneg _ _⟩
  · exact low_free hl h0 _ (Nat.le_refl _)

theorem best_ok {lv : List Life} {ld : List Bf} : ∀ k, (bestTo lv ld k).1 = -1 ∧ (bestTo lv ld k).2 = 0 ∧ (∀ i, i < k → (ld.getD i noB).c = 0 → (lv.getD i noL).c ≤ 0) ∨
    ∃ i : Nat, i < k ∧ (bestTo lv ld k).1 = i ∧ (ld.getD i noB).c = 0 ∧ (bestTo lv ld k).2 = (lv.getD i noL).c ∧ 0 < (lv.getD i noL).c
  | 0 => .inl ⟨rfl, rfl, fun i hi => absurd hi (by omega)⟩
  | k + 1 => by
    unfold bestTo
    rcases best_ok (lv := lv) (ld := ld) k with ⟨h1, h2, h3⟩ | ⟨i, hi, h1, h2, h3, h4⟩
    · by_cases c : (ld.getD k noB).c = 0 ∧ (bestTo lv ld k).2 < (lv.getD k noL).c
      · rw [if_pos c]
        exact .inr ⟨k, by omega, rfl, c.1, rfl, by rw [h2] at c; exact c.2⟩
      · rw [if_neg c]
        refine .inl ⟨h1, h2, fun i hi h0 => ?_⟩
        rcases (show i < k ∨ i = k by omega) with h' | rfl
        · exact h3 i h' h0
        · rw [h2] at c
          have : ¬ 0 < (lv.getD i noL).c := fun h => c ⟨h0, h⟩
          omega
    · by_cases c : (ld.getD k noB).c = 0 ∧ (bestTo lv ld k).2 < (lv.getD k noL).c
      · rw [if_pos c]
        exact .inr ⟨k, by omega, rfl, c.1, rfl, by rw [h3] at c; omega⟩
      · rw [if_neg c]
        exact .inr ⟨i, by omega, h1, h2, h3, h4⟩

/-- Buffers that are laid in part. -/
structure Laid (lv : List Life) (ld : List Bf) : Prop where
  len : ld.length = lv.length
  at_ : ∀ i, i < lv.length → ld.getD i noB = noB ∨ ((ld.getD i noB).c = (lv.getD i noL).c ∧ 0 ≤ (ld.getD i noB).a)
  apart : ∀ i j, i < lv.length → j < lv.length → i ≠ j → 0 < (ld.getD i noB).c → 0 < (ld.getD j noB).c → meet (lv.getD i noL) (lv.getD j noL) = true → (ld.getD i noB).e ≤ (ld.getD j noB).a ∨ (ld.getD j noB).e ≤ (ld.getD i noB).a
  sum : endOf ld ≤ sumC ld

theorem meet_comm (x y : Life) : meet x y = meet y x := by unfold meet; rw [Bool.and_comm]

theorem sum_set : ∀ (ld : List Bf) (i : Nat) (b : Bf), i < ld.length → sumC (ld.set i b) = sumC ld - (ld.getD i noB).c + b.c
  | [], _, _, h => absurd h (by simp)
  | x :: l, 0, b, _ => by simp [sumC]; omega
  | x :: l, i + 1, b, h => by
    have := sum_set l i b (by simpa using h)
    simp only [List.set_cons_succ, sumC, List.getD_cons_succ]
    omega

theorem Laid.nonneg {lv : List Life} {ld : List Bf} (h : Laid lv ld) (hc : ∀ i, i < lv.length → 1 ≤ (lv.getD i noL).c) (i : Nat) (hi : i < ld.length) : 0 ≤ (ld.getD i noB).e ∧ 0 ≤ (ld.getD i noB).a ∧ 0 ≤ (ld.getD i noB).c := by
  have hl := h.len
  rcases h.at_ i (by omega) with e | ⟨e1, e2⟩
  · rw [e]; decide
  · have := hc i (by omega); unfold Bf.e; omega

theorem Laid.put {lv : List Life} {ld : List Bf} (h : Laid lv ld) (hc : ∀ i, i < lv.length → 1 ≤ (lv.getD i noL).c) {i : Nat} (hi : i < lv.length) (h0 : (ld.getD i noB).c = 0) : Laid lv (put lv ld i) := by
  have hl := h.len
  obtain ⟨f1, f2, f3⟩ := lowest_ok (l := lv.getD i noL) hl.symm fun j hj => (h.nonneg hc j hj).1
  have fr := free_iff.mp f1
  have gs : ∀ n, (H.put lv ld i).getD n noB = if i = n ∧ n < ld.length then ⟨lowest lv ld (lv.getD i noL), (lv.getD i noL).c⟩ else ld.getD n noB := fun n => getD_set_bf _ _ _ _
  have key : ∀ j, j < lv.length → i ≠ j → 0 < (ld.getD j noB).c → meet (lv.getD j noL) (lv.getD i noL) = true → (ld.getD j noB).e ≤ lowest lv ld (lv.getD i noL) ∨ lowest lv ld (lv.getD i noL) + (lv.getD i noL).c ≤ (ld.getD j noB).a :=
    fun j hj _ _ hm => clash_no (fr j (by omega)) hm
  refine ⟨by unfold H.put; rw [List.length_set]; exact hl, fun n hn => ?_, fun a b ha hb hab ca cb hm => ?_, ?_⟩
  · rw [gs]
    split
    · rename_i c; exact .inr ⟨by rw [c.1], f2⟩
    · exact h.at_ n hn
  · rw [gs a] at ca ⊢
    rw [gs b] at cb ⊢
    by_cases c1 : i = a ∧ a < ld.length
    · rw [if_pos c1] at ca ⊢
      rw [if_neg (by omega)] at cb ⊢
      obtain ⟨rfl, -⟩ := c1
      rw [meet_comm] at hm
      rcases key b hb hab cb hm with k | k
      · exact .inr k
      · exact .inl k
    · rw [if_neg c1] at ca ⊢
      by_cases c2 : i = b ∧ b < ld.length
      · rw [if_pos c2] at cb ⊢
        obtain ⟨rfl, -⟩ := c2
        rcases key a ha (Ne.symm hab) ca hm with k | k
        · exact .inl k
        · exact .inr k
      · rw [if_neg c2] at cb ⊢
        exact h.apart a b ha hb hab ca cb hm
  · have hs : sumC (H.put lv ld i) = sumC ld - (ld.getD i noB).c + (lv.getD i noL).c := sum_set ld i _ (by omega)
    rw [hs, h0]
    have hsum := h.sum
    have hci := hc i hi
    have nn := end_nonneg ld ld.length
    unfold endOf at hsum ⊢
    refine end_le (by omega) _ fun n hn => ?_
    rw [gs]
    split
    · show lowest lv ld (lv.getD i noL) + (lv.getD i noL).c ≤ _
      unfold endOf at f3
      omega
    · have hn' : n < ld.length := by unfold H.put at hn; rwa [List.length_set] at hn
      have := end_ge (ld := ld) hn'
      omega

/-- How many of the first k are not laid. -/
def unlaid (ld : List Bf) : Nat → Nat
  | 0 => 0
  | k + 1 => (if (ld.getD k noB).c = 0 then 1 else 0) + unlaid ld k
theorem unlaid_zero {ld : List Bf} : ∀ {k}, unlaid ld k = 0 → ∀ i, i < k → (ld.getD i noB).c ≠ 0
  | 0, _, i, hi => absurd hi (by omega)
  | k + 1, h, i, hi => by
    unfold unlaid at h
    by_cases c : (ld.getD k noB).c = 0
    · rw [if_pos c] at h; omega
    · rw [if_neg c] at h
      rcases (show i < k ∨ i = k by omega) with h' | rfl
      · exact unlaid_zero (by omega) i h'
      · exact c
theorem unlaid_le (ld : List Bf) : ∀ k, unlaid ld k ≤ k
  | 0 => Nat.le_refl _
  | k + 1 => by have := unlaid_le ld k; unfold unlaid; split <;> omega
theorem unlaid_set {ld : List Bf} {i : Nat} {b : Bf} (hi : i < ld.length) (h0 : (ld.getD i noB).c = 0) (hb : b.c ≠ 0) : ∀ k, k ≤ ld.length → unlaid (ld.set i b) k + (if i < k then 1 else 0) = unlaid ld k
  | 0, _ => by simp [unlaid]
  | k + 1, hk => by
    have ih := unlaid_set hi h0 hb k (by omega)
    unfold unlaid
    by_cases c : i = k
    · subst c
      have e : (ld.set i b).getD i noB = b := by rw [getD_set_bf, if_pos ⟨rfl, hi⟩]
      rw [e, if_neg hb, if_pos h0, if_pos (show i < i + 1 by omega)]
      rw [if_neg (show ¬ i < i by omega)] at ih
      omega
    · have e : (ld.set i b).getD k noB = ld.getD k noB := by rw [getD_set_bf, if_neg (fun h => c h.1)]
      rw [e]
      by_cases c2 : i < k
      · rw [if_pos c2] at ih
        rw [if_pos (show i < k + 1 by omega)]
        omega
      · rw [if_neg c2] at ih
        rw [if_neg (show ¬ i < k + 1 by omega)]
        omega

theorem lay_to {lv : List Life} (hc : ∀ i, i < lv.length → 1 ≤ (lv.getD i noL).c) : ∀ k, Laid lv (layTo lv k) ∧ unlaid (layTo lv k) lv.length ≤ lv.length - k
  | 0 => by
    have g : ∀ i, (List.replicate lv.length noB).getD i noB = noB := by
      intro i
      rw [List.getD, List.getElem?_replicate]
      split <;> rfl
    refine ⟨⟨by simp [layTo], fun i hi => .inl (g i), fun i j _ _ _ ci => ?_, ?_⟩, by have := unlaid_le (layTo lv 0) lv.length; omega⟩
    · unfold layTo at ci; rw [g i] at ci; exact absurd ci (by decide)
    · have e1 : endOf (List.replicate lv.length noB) ≤ 0 := end_le (by decide) _ fun i _ => by rw [g i]; decide
      have e2 : ∀ n, sumC (List.replicate n noB) = 0 := by
        intro n
        induction n with
        | zero => rfl
        | succ n ih => rw [List.replicate_succ]; unfold sumC; rw [ih]; rfl
      show endOf (List.replicate lv.length noB) ≤ sumC (List.replicate lv.length noB)
      rw [e2]; exact e1
  | k + 1 => by
    obtain ⟨L, U⟩ := lay_to hc k
    have hl := L.len
    show Laid lv (layStep lv (layTo lv k)) ∧ unlaid (layStep lv (layTo lv k)) lv.length ≤ _
    unfold layStep
    have hm : min lv.length (layTo lv k).length = lv.length := by omega
    rcases best_ok (lv := lv) (ld := layTo lv k) lv.length with ⟨h1, h2, h3⟩ | ⟨i, hi, h1, h2, h3, h4⟩
    · have e : largest lv (layTo lv k) = -1 := by unfold largest; rw [hm]; exact h1
      rw [if_pos (by omega)]
      refine ⟨L, ?_⟩
      have z : unlaid (layTo lv k) lv.length = 0 := by
        have key : ∀ n, n ≤ lv.length → unlaid (layTo lv k) n = 0 := by
          intro n
          induction n with
          | zero => intro _; rfl
          | succ n ih =>
            intro hn
            unfold unlaid
            rw [ih (by omega), if_neg]
            intro h0
            have := h3 n (by omega) h0
            have := hc n (by omega)
            omega
        exact key _ (Nat.le_refl _)
      omega
    · have e : largest lv (layTo lv k) = i := by unfold largest; rw [hm]; exact h1
      rw [if_neg (by omega), e, Int.toNat_natCast]
      refine ⟨L.put hc hi h2, ?_⟩
      have := unlaid_set (ld := layTo lv k) (i := i) (b := ⟨lowest lv (layTo lv k) (lv.getD i noL), (lv.getD i noL).c⟩) (by omega) h2 (by show (lv.getD i noL).c ≠ 0; omega) lv.length (by omega)
      rw [if_pos hi] at this
      show unlaid ((layTo lv k).set i _) lv.length ≤ _
      omega

/-- What Lay promises. -/
structure Lies (lv : List Life) (ld : List Bf) : Prop where
  len : ld.length = lv.length
  c : ∀ i, i < lv.length → (ld.getD i noB).c = (lv.getD i noL).c
  a : ∀ i, i < lv.length → 0 ≤ (ld.getD i noB).a
  fin : ∀ i, i < lv.length → (ld.getD i noB).e ≤ endOf ld
  apart : ∀ i j, i < lv.length → j < lv.length → i ≠ j → meet (lv.getD i noL) (lv.getD j noL) = true → (ld.getD i noB).e ≤ (ld.getD j noB).a ∨ (ld.getD j noB).e ≤ (ld.getD i noB).a
  sum : endOf ld ≤ sumC ld

theorem lies {lv : List Life} (hc : ∀ i, i < lv.length → 1 ≤ (lv.getD i noL).c) : Lies lv (lay lv) := by
  obtain ⟨L, U⟩ := lay_to hc lv.length
  have z := unlaid_zero (k := lv.length) (show unlaid (layTo lv lv.length) lv.length = 0 by omega)
  have at' : ∀ i, i < lv.length → (((layTo lv lv.length).getD i noB).c = (lv.getD i noL).c ∧ 0 ≤ ((layTo lv lv.length).getD i noB).a) := by
    intro i hi
    rcases L.at_ i hi with e | e
    · exact absurd (by rw [e]; rfl) (z i hi)
    · exact e
  exact ⟨L.len, fun i hi => (at' i hi).1, fun i hi => (at' i hi).2, fun i hi => endOf_ge (by rw [show lay lv = layTo lv lv.length from rfl, L.len]; exact hi), fun i j hi hj hij hm => L.apart i j hi hj hij (by rw [(at' i hi).1]; have := hc i hi; omega) (by rw [(at' j hj).1]; have := hc j hj; omega) hm, L.sum⟩

end H
end Go.Proofs.YtcnhfffgbamonaaGreat

/-
  Buffers and their lives, in plain functions: drafted. And that a run in one row of cells finds what it reads.
-/
namespace Go.Proofs.YtcnhfffgbamonaaGreat
namespace H

structure Dr where
  nums : List Int
  lv : List Life

def begin_ (d : Dr) (n c time : Int) : Dr := if n < 0 ∨ (d.nums.length : Int) ≤ n then d else ⟨d.nums.set n.toNat d.lv.length, d.lv ++ [⟨time, time, c⟩]⟩
def reachAt (lv : List Life) (i time : Int) : List Life := if 0 ≤ i ∧ i < lv.length then lv.set i.toNat ⟨(lv.getD i.toNat noL).f, time, (lv.getD i.toNat noL).c⟩ else lv
def reach (time : Int) (d : Dr) (n : Int) : Dr := if n < 0 ∨ (d.nums.length : Int) ≤ n then d else ⟨d.nums, reachAt d.lv (d.nums.getD n.toNat 0) time⟩
def draftT (ts : List M.Tn) : Nat → Dr
  | 0 => ⟨List.replicate ts.length 0, []⟩
  | k + 1 => match ts[k]? with
    | some t => if t.kind = 0 then begin_ ⟨(draftT ts k).nums.set k (-1), (draftT ts k).lv⟩ k (M.cellsOf t) 0 else ⟨(draftT ts k).nums.set k (-1), (draftT ts k).lv⟩
    | none => draftT ts k
def draftO (m : M.Md) (d : Dr) : Nat → Dr
  | 0 => d
  | k + 1 => match m.ops[k]? with
    | some o => begin_ ((readsL o).foldl (reach ((k : Int) + 1)) (draftO m d k)) o.to (M.cellsOf (M.tensorAt m o.to)) ((k : Int) + 1)
    | none => draftO m d k
def ins_ (m : M.Md) : Nat := (draftT m.tensors m.tensors.length).lv.length
def draft (m : M.Md) : Dr := m.outs.foldl (reach ((m.ops.length : Int) + 1)) (draftO m (draftT m.tensors m.tensors.length) m.ops.length)

def isIn (t : M.Tn) : Bool := t.kind == 0
def cnt (ts : List M.Tn) (k : Nat) : Nat := ((ts.take k).filter isIn).length
theorem take_snoc {α : Type} {ts : List α} {k : Nat} {t : α} (h : ts[k]? = some t) : ts.take (k + 1) = ts.take k ++ [t] := by rw [List.take_add_one, h]; rfl
theorem cnt_in {ts : List M.Tn} {k : Nat} {t : M.Tn} (h : ts[k]? = some t) (h0 : t.kind = 0) : cnt ts (k + 1) = cnt ts k + 1 := by
  unfold cnt; rw [take_snoc h, List.filter_append, List.length_append]; simp [isIn, h0]
theorem cnt_no {ts : List M.Tn} {k : Nat} {t : M.Tn} (h : ts[k]? = some t) (h0 : t.kind ≠ 0) : cnt ts (k + 1) = cnt ts k := by
  unfold cnt; rw [take_snoc h, List.filter_append, List.length_append]; simp [isIn, h0]
theorem cnt_mono {ts : List M.Tn} {i j : Nat} (h : i ≤ j) : cnt ts i ≤ cnt ts j := by
  unfold cnt
  exact ((List.take_sublist_take_left h).filter _).length_le
theorem cnt_lt {ts : List M.Tn} {i j : Nat} {t : M.Tn} (h : ts[i]? = some t) (h0 : t.kind = 0) (hij : i < j) : cnt ts i < cnt ts j := by
  have := cnt_in h h0
  have := cnt_mono (ts := ts) (show i + 1 ≤ j by omega)
  omega

theorem getD_set_int (l : List Int) (i n : Nat) (x : Int) : (l.set i x).getD n 0 = if i = n ∧ n < l.length then x else l.getD n 0 := M.getD_set' l i n x 0
theorem getD_set_life (l : List Life) (i n : Nat) (x : Life) : (l.set i x).getD n noL = if i = n ∧ n < l.length then x else l.getD n noL := by
  rw [List.getD, List.getD, List.getElem?_set]
  by_cases h : i = n
  · subst h
    by_cases hl : i < l.length
    · simp [hl]
    · simp [hl]
  · simp [h]
theorem getD_snoc_life (l : List Life) (x : Life) (n : Nat) : (l ++ [x]).getD n noL = if n = l.length then x else l.getD n noL := by
  rw [List.getD, List.getD]
  rcases Nat.lt_trichotomy n l.length with h | h | h
  · rw [List.getElem?_append_left h, if_neg (by omega)]
  · subst h; rw [if_pos rfl]; simp
  · rw [if_neg (by omega), List.getElem?_eq_none (by simp; omega), List.getElem?_eq_none (by omega)]

/-- Behind k tensors. -/
structure DT (ts : List M.Tn) (k : Nat) (d : Dr) : Prop where
  ln : d.nums.length = ts.length
  ll : d.lv.length = cnt ts k
  n0 : ∀ (n : Nat) t, n < k → ts[n]? = some t → t.kind = 0 → d.nums.getD n 0 = cnt ts n ∧ (d.lv.getD (cnt ts n) noL) = ⟨0, 0, M.cellsOf t⟩
  n1 : ∀ (n : Nat) t, n < k → ts[n]? = some t → t.kind ≠ 0 → d.nums.getD n 0 = -1
  l0 : ∀ b, b < d.lv.length → ∃ (n : Nat) (t : M.Tn), n < k ∧ ts[n]? = some t ∧ t.kind = 0 ∧ cnt ts n = b

theorem draftT_ok (ts : List M.Tn) : ∀ k, k ≤ ts.length → DT ts k (draftT ts k)
  | 0, _ => ⟨by simp [draftT], by simp [draftT, cnt], fun n t h => absurd h (by omega), fun n t h => absurd h (by omega), fun b h => absurd h (by simp [draftT])⟩
  | k + 1, hk => by
    have D := draftT_ok ts k (by omega)
    have hx : ts[k]? = some ts[k] := List.getElem?_eq_getElem (by omega)
    generalize ts[k] = t at hx
    have e : draftT ts (k + 1) = if t.kind = 0 then begin_ ⟨(draftT ts k).nums.set k (-1), (draftT ts k).lv⟩ k (M.cellsOf t) 0 else ⟨(draftT ts k).nums.set k (-1), (draftT ts k).lv⟩ := by
      rw [draftT, hx]
    rw [e]
    generalize draftT ts k = d at *
    by_cases h0 : t.kind = 0
    · rw [if_pos h0]
      have e2 : begin_ ⟨d.nums.set k (-1), d.lv⟩ k (M.cellsOf t) 0 = ⟨(d.nums.set k (-1)).set k d.lv.length, d.lv ++ [⟨0, 0, M.cellsOf t⟩]⟩ := by
        unfold begin_
        rw [if_neg (by simp only [List.length_set, D.ln]; omega)]
        rfl
      rw [e2]
      have hc := cnt_in hx h0
      refine ⟨by simp [D.ln], by simp [D.ll, hc], fun n u hn hu k0 => ?_, fun n u hn hu k0 => ?_, fun b hb => ?_⟩
      · show ((d.nums.set k (-1)).set k _).getD n 0 = _ ∧ (d.lv ++ [_]).getD _ noL = _
        rw [getD_set_int, getD_set_int, getD_snoc_life]
        by_cases c : k = n
        · subst c
          rw [hx] at hu; injection hu with hu; subst hu
          rw [if_pos ⟨rfl, by rw [List.length_set, D.ln]; omega⟩, if_pos D.ll.symm]
          exact ⟨by rw [D.ll], rfl⟩
        · rw [if_neg (by omega), if_neg (by omega)]
          have := D.n0 n u (by omega) hu k0
          have hl := cnt_lt hu k0 (show n < k by omega)
          rw [if_neg (by rw [D.ll]; omega)]
          exact this
      · show ((d.nums.set k (-1)).set k _).getD n 0 = _
        rw [getD_set_int, getD_set_int]
        by_cases c : k = n
        · subst c
          rw [hx] at hu; injection hu with hu; subst hu
          exact absurd h0 k0
        · rw [if_neg (by omega), if_neg (by omega)]
          exact D.n1 n u (by omega) hu k0
      · simp only [List.length_append, List.length_singleton] at hb
        rcases (show b < d.lv.length ∨ b = d.lv.length by omega) with h | h
        · obtain ⟨n, u, hn, hu, k0, he⟩ := D.l0 b h
          exact ⟨n, u, by omega, hu, k0, he⟩
        · exact ⟨k, t, by omega, hx, h0, by rw [h, D.ll]⟩
    · rw [if_neg h0]
      have hc := cnt_no hx h0
      refine ⟨by simp [D.ln], by simp [D.ll, hc], fun n u hn hu k0 => ?_, fun n u hn hu k0 => ?_, fun b hb => ?_⟩
      · show (d.nums.set k (-1)).getD n 0 = _ ∧ d.lv.getD _ noL = _
        by_cases c : k = n
        · subst c
          rw [hx] at hu; injection hu with hu; subst hu
          exact absurd k0 h0
        · rw [getD_set_int, if_neg (by omega)]
          exact D.n0 n u (by omega) hu k0
      · show (d.nums.set k (-1)).getD n 0 = _
        rw [getD_set_int]
        by_cases c : k = n
        · rw [if_pos ⟨c, by rw [D.ln]; omega⟩]
        · rw [if_neg (by omega)]; exact D.n1 n u (by omega) hu k0
      · obtain ⟨n, u, hn, hu, k0, he⟩ := D.l0 b hb
        exact ⟨n, u, by omega, hu, k0, he⟩

/-- The same, but that some buffers live up to a time. -/
structure Ext (time : Int) (d d' : Dr) : Prop where
  nums : d'.nums = d.nums
  len : d'.lv.length = d.lv.length
  f : ∀ b, (d'.lv.getD b noL).f = (d.lv.getD b noL).f
  c : ∀ b, (d'.lv.getD b noL).c = (d.lv.getD b noL).c
  t : ∀ b, (d'.lv.getD b noL).t = (d.lv.getD b noL).t ∨ (d'.lv.getD b noL).t = time
theorem Ext.refl (time : Int) (d : Dr) : Ext time d d := ⟨rfl, rfl, fun _ => rfl, fun _ => rfl, fun _ => .inl rfl⟩
theorem Ext.trans {time : Int} {d d' d'' : Dr} (h : Ext time d d') (k : Ext time d' d'') : Ext time d d'' :=
  ⟨k.nums.trans h.nums, k.len.trans h.len, fun b => (k.f b).trans (h.f b), fun b => (k.c b).trans (h.c b), fun b => by
    rcases k.t b with e | e
    · rcases h.t b with e' | e'
      · exact .inl (e.trans e')
      · exact .inr (e.trans e')
    · exact .inr e⟩
theorem reach_ext (time : Int) (d : Dr) (n : Int) : Ext time d (reach time d n) := by
  unfold reach
  split
  · exact Ext.refl _ _
  · unfold reachAt
    split
    · have g : ∀ b i, (d.lv.set i ⟨(d.lv.getD i noL).f, time, (d.lv.getD i noL).c⟩).getD b noL = if i = b ∧ b < d.lv.length then ⟨(d.lv.getD i noL).f, time, (d.lv.getD i noL).c⟩ else d.lv.getD b noL := fun b i => getD_set_life _ _ _ _
      refine ⟨rfl, by simp, fun b => ?_, fun b => ?_, fun b => ?_⟩
      · show ((d.lv.set _ _).getD b noL).f = _
        rw [g]; split
        · rename_i h; rw [h.1]
        · rfl
      · show ((d.lv.set _ _).getD b noL).c = _
        rw [g]; split
        · rename_i h; rw [h.1]
        · rfl
      · show ((d.lv.set _ _).getD b noL).t = _ ∨ ((d.lv.set _ _).getD b noL).t = _
        rw [g]; split
        · exact .inr rfl
        · exact .inl rfl
    · exact Ext.refl _ _
theorem reach_at {time : Int} {d : Dr} {n : Int} {b : Nat} (h0 : 0 ≤ n) (h1 : n < d.nums.length) (hb : d.nums.getD n.toNat 0 = b) (hl : b < d.lv.length) : ((reach time d n).lv.getD b noL).t = time := by
  unfold reach
  rw [if_neg (by omega), hb]
  unfold reachAt
  rw [if_pos ⟨by omega, by omega⟩]
  show ((d.lv.set _ _).getD b noL).t = _
  rw [getD_set_life, Int.toNat_natCast, if_pos ⟨rfl, hl⟩]
theorem reaches_ext (time : Int) : ∀ (ns : List Int) (d : Dr), Ext time d (ns.foldl (reach time) d)
  | [], _ => Ext.refl _ _
  | n :: ns, d => (reach_ext time d n).trans (reaches_ext time ns _)
theorem reaches_at {time : Int} {n : Int} {b : Nat} : ∀ (ns : List Int) (d : Dr), n ∈ ns → 0 ≤ n → n < d.nums.length → d.nums.getD n.toNat 0 = b → b < d.lv.length → ((ns.foldl (reach time) d).lv.getD b noL).t = time
  | [], _, h, _, _, _, _ => absurd h (by simp)
  | k :: ns, d, h, h0, h1, hb, hl => by
    rw [List.foldl_cons]
    have e := reach_ext time d k
    rcases List.mem_cons.mp h with rfl | h'
    · have := reach_at (time := time) h0 h1 hb hl
      rcases (reaches_ext time ns (reach time d n)).t b with q | q
      · rw [q]; exact this
      · exact q
    · exact reaches_at ns _ h' h0 (by rw [e.nums]; exact h1) (by rw [e.nums]; exact hb) (by rw [e.len]; exact hl)

/-- Behind k operators. -/
structure DO_ (m : M.Md) (I k : Nat) (d : Dr) : Prop where
  ln : d.nums.length = m.tensors.length
  ll : d.lv.length = I + k
  n0 : ∀ (n : Nat) t, m.tensors[n]? = some t → t.kind = 0 → d.nums.getD n 0 = cnt m.tensors n ∧ cnt m.tensors n < I ∧ (d.lv.getD (cnt m.tensors n) noL).f = 0 ∧ (d.lv.getD (cnt m.tensors n) noL).c = M.cellsOf t
  n1 : ∀ (i : Nat) o, i < k → m.ops[i]? = some o → d.nums.getD o.to.toNat 0 = I + i ∧ (d.lv.getD (I + i) noL).f = i + 1 ∧ (d.lv.getD (I + i) noL).c = M.cellsOf (M.tensorAt m o.to)
  n2 : ∀ n : Nat, n < m.tensors.length → (M.tensorAt m n).kind ≠ 0 → (∀ (i : Nat) o, i < k → m.ops[i]? = some o → o.to ≠ n) → d.nums.getD n 0 = -1
  ft : ∀ b, b < d.lv.length → (d.lv.getD b noL).f ≤ (d.lv.getD b noL).t ∧ (d.lv.getD b noL).t ≤ k
  rd : ∀ (i : Nat) o (n : Int) (b : Nat), i < k → m.ops[i]? = some o → n ∈ readsL o → d.nums.getD n.toNat 0 = b → (i : Int) + 1 ≤ (d.lv.getD b noL).t
  l0 : ∀ b, b < I → ∃ (n : Nat) (t : M.Tn), m.tensors[n]? = some t ∧ t.kind = 0 ∧ cnt m.tensors n = b

theorem tensorAt_nat {m : M.Md} {n : Nat} (h : n < m.tensors.length) : m.tensors[n]? = some (M.tensorAt m n) := by
  have := (O.tensorAt_get (m := m) (n := (n : Int)) (by omega) (by omega)).1
  rwa [Int.toNat_natCast] at this

theorem ord_at {m : M.Md} {i : Nat} {o : M.Op} (h : Ord m [] m.ops) (ho : m.ops[i]? = some o) {n : Int} (hn : n ∈ readsL o) : 0 ≤ n ∧ n < m.tensors.length ∧ ((M.tensorAt m n).kind = 3 → ∃ (j : Nat) (p : M.Op), j < i ∧ m.ops[j]? = some p ∧ p.to = n) := by
  have e := take_split ho
  rw [e] at h
  have := (Ord.append.mp h).2.1 n hn
  refine ⟨this.1, this.2.1, fun k => ?_⟩
  have h3 := this.2.2 k
  rw [List.nil_append] at h3
  obtain ⟨p, hp, he⟩ := List.mem_map.mp h3
  obtain ⟨j, hj⟩ := List.getElem?_of_mem hp
  have hl := M.lt_of_some hj
  rw [List.length_take] at hl
  rw [List.getElem?_take, if_pos (by omega)] at hj
  exact ⟨j, p, by omega, hj, he⟩
theorem to_apart {m : M.Md} (h : (m.ops.map (·.to)).Nodup) {i j : Nat} {o p : M.Op} (ho : m.ops[i]? = some o) (hp : m.ops[j]? = some p) (e : o.to = p.to) : i = j := by
  have h1 := M.lt_of_some ho
  have h2 := M.lt_of_some hp
  rw [List.getElem?_eq_getElem h1] at ho; injection ho with ho
  rw [List.getElem?_eq_getElem h2] at hp; injection hp with hp
  have h' := List.pairwise_iff_getElem.mp h
  rcases Nat.lt_trichotomy i j with c | c | c
  · have := h' i j (by simpa using h1) (by simpa using h2) c
    rw [List.getElem_map, List.getElem_map, ho, hp] at this
    exact absurd e this
  · exact c
  · have := h' j i (by simpa using h2) (by simpa using h1) c
    rw [List.getElem_map, List.getElem_map, ho, hp] at this
    exact absurd e.symm this

theorem DT.ops {m : M.Md} {d : Dr} (D : DT m.tensors m.tensors.length d) : DO_ m d.lv.length 0 d := by
  refine ⟨D.ln, rfl, fun n t hn h0 => ?_, fun i o h => absurd h (by omega), fun n hn h0 _ => D.n1 n _ hn (tensorAt_nat hn) h0, fun b hb => ?_, fun i o n b h => absurd h (by omega), fun b hb => ?_⟩
  · have hl := M.lt_of_some hn
    obtain ⟨e1, e2⟩ := D.n0 n t hl hn h0
    refine ⟨e1, by rw [D.ll]; exact cnt_lt hn h0 hl, by rw [e2], by rw [e2]⟩
  · obtain ⟨n, t, hn, ht, h0, rfl⟩ := D.l0 b hb
    rw [(D.n0 n t hn ht h0).2]
    exact ⟨Int.le_refl _, Int.le_refl _⟩
  · obtain ⟨n, t, hn, ht, h0, he⟩ := D.l0 b hb
    exact ⟨n, t, ht, h0, he⟩

theorem DO_.ext {m : M.Md} {I k : Nat} {d d' : Dr} (D : DO_ m I k d) (E : Ext ((k : Int) + 1) d d') : d'.nums.length = m.tensors.length ∧ d'.lv.length = I + k ∧
    (∀ (n : Nat) t, m.tensors[n]? = some t → t.kind = 0 → d'.nums.getD n 0 = cnt m.tensors n ∧ cnt m.tensors n < I ∧ (d'.lv.getD (cnt m.tensors n) noL).f = 0 ∧ (d'.lv.getD (cnt m.tensors n) noL).c = M.cellsOf t) ∧
    (∀ (i : Nat) o, i < k → m.ops[i]? = some o → d'.nums.getD o.to.toNat 0 = I + i ∧ (d'.lv.getD (I + i) noL).f = i + 1 ∧ (d'.lv.getD (I + i) noL).c = M.cellsOf (M.tensorAt m o.to)) ∧
    (∀ n : Nat, n < m.tensors.length → (M.tensorAt m n).kind ≠ 0 → (∀ (i : Nat) o, i < k → m.ops[i]? = some o → o.to ≠ n) → d'.nums.getD n 0 = -1) ∧
    (∀ b, b < d'.lv.length → (d'.lv.getD b noL).f ≤ (d'.lv.getD b noL).t ∧ (d'.lv.getD b noL).t ≤ k + 1) ∧
    (∀ (i : Nat) o (n : Int) (b : Nat), i < k → m.ops[i]? = some o → n ∈ readsL o → d'.nums.getD n.toNat 0 = b → b < d'.lv.length → (i : Int) + 1 ≤ (d'.lv.getD b noL).t) := by
  refine ⟨by rw [E.nums]; exact D.ln, by rw [E.len]; exact D.ll, fun n t hn h0 => ?_, fun i o hi ho => ?_, fun n hn h0 h => by rw [E.nums]; exact D.n2 n hn h0 h, fun b hb => ?_, fun i o n b hi ho hn hb hl => ?_⟩
  · rw [E.nums, E.f, E.c]; exact D.n0 n t hn h0
  · rw [E.nums, E.f, E.c]; exact D.n1 i o hi ho
  · rw [E.len] at hb
    have := D.ft b hb
    rw [E.f]
    rcases E.t b with e | e <;> rw [e] <;> omega
  · rw [E.len] at hl
    rw [E.nums] at hb
    have := D.rd i o n b hi ho hn hb
    rcases E.t b with e | e <;> rw [e] <;> omega

theorem draftO_ok {m : M.Md} {C : List (List Int)} (S : Sol m C) {d0 : Dr} {I : Nat} (D0 : DO_ m I 0 d0) : ∀ k, k ≤ m.ops.length → DO_ m I k (draftO m d0 k)
  | 0, _ => D0
  | k + 1, hk => by
    have D := draftO_ok S D0 k (by omega)
    have hx : m.ops[k]? = some m.ops[k] := List.getElem?_eq_getElem (by omega)
    generalize m.ops[k] = o at hx
    have e : draftO m d0 (k + 1) = begin_ ((readsL o).foldl (reach ((k : Int) + 1)) (draftO m d0 k)) o.to (M.cellsOf (M.tensorAt m o.to)) ((k : Int) + 1) := by
      rw [draftO, hx]
    rw [e]
    generalize draftO m d0 k = d at *
    have E := reaches_ext ((k : Int) + 1) (readsL o) d
    have R : ∀ n b, n ∈ readsL o → 0 ≤ n → n < d.nums.length → d.nums.getD n.toNat 0 = (b : Nat) → b < d.lv.length → (((readsL o).foldl (reach ((k : Int) + 1)) d).lv.getD b noL).t = (k : Int) + 1 := fun n b => reaches_at (readsL o) d
    have En := E.nums
    have El := E.len
    obtain ⟨x1, x2, x3, x4, x5, x6, x7⟩ := D.ext E
    generalize (readsL o).foldl (reach ((k : Int) + 1)) d = d' at *
    obtain ⟨t0, t1, t3⟩ := S.to o (List.mem_of_getElem? hx)
    have e2 : begin_ d' o.to (M.cellsOf (M.tensorAt m o.to)) ((k : Int) + 1) = ⟨d'.nums.set o.to.toNat d'.lv.length, d'.lv ++ [⟨(k : Int) + 1, (k : Int) + 1, M.cellsOf (M.tensorAt m o.to)⟩]⟩ := by
      unfold begin_
      rw [if_neg (by rw [x1]; omega)]
    rw [e2]
    have gn : ∀ n, (d'.nums.set o.to.toNat d'.lv.length).getD n 0 = if o.to.toNat = n ∧ n < m.tensors.length then ((I + k : Nat) : Int) else d'.nums.getD n 0 := fun n => by rw [getD_set_int, x1, x2]
    have gl : ∀ b, (d'.lv ++ [(⟨(k : Int) + 1, (k : Int) + 1, M.cellsOf (M.tensorAt m o.to)⟩ : Life)]).getD b noL = if b = I + k then ⟨(k : Int) + 1, (k : Int) + 1, M.cellsOf (M.tensorAt m o.to)⟩ else d'.lv.getD b noL := fun b => by rw [getD_snoc_life, x2]
    refine ⟨by simp [x1], by simp [x2]; omega, fun n t hn h0 => ?_, fun i p hi hp => ?_, fun n hn h0 h => ?_, fun b hb => ?_, fun i p n b hi hp hn hb => ?_, D.l0⟩
    · show (d'.nums.set _ _).getD n 0 = _ ∧ _ ∧ ((d'.lv ++ [_]).getD _ noL).f = _ ∧ ((d'.lv ++ [_]).getD _ noL).c = _
      have := x3 n t hn h0
      have ne : ¬ (o.to.toNat = n ∧ n < m.tensors.length) := by
        rintro ⟨e, hl⟩
        have := tensorAt_nat hl
        rw [hn] at this
        injection this with this
        have e' : (n : Int) = o.to := by omega
        rw [e'] at this
        rw [← this] at t3
        omega
      rw [gn, if_neg ne, gl, if_neg (by omega)]
      exact this
    · show (d'.nums.set _ _).getD _ 0 = _ ∧ ((d'.lv ++ [_]).getD _ noL).f = _ ∧ ((d'.lv ++ [_]).getD _ noL).c = _
      rw [gn, gl]
      rcases (show i < k ∨ i = k by omega) with h | h
      · have hne : ¬ o.to = p.to := fun he => by have := to_apart S.nd hx hp he; omega
        have := S.to p (List.mem_of_getElem? hp)
        rw [if_neg (by omega), if_neg (by omega)]
        exact x4 i p h hp
      · subst h
        rw [hx] at hp; injection hp with hp; subst hp
        rw [if_pos ⟨rfl, by omega⟩, if_pos rfl]
        exact ⟨by omega, rfl, rfl⟩
    · show (d'.nums.set _ _).getD n 0 = _
      rw [gn, if_neg (by have := h k o (by omega) hx; omega)]
      exact x5 n hn h0 fun i p hi hp => h i p (by omega) hp
    · show ((d'.lv ++ [_]).getD b noL).f ≤ ((d'.lv ++ [_]).getD b noL).t ∧ ((d'.lv ++ [_]).getD b noL).t ≤ _
      rw [gl]
      split
      · show (k : Int) + 1 ≤ (k : Int) + 1 ∧ (k : Int) + 1 ≤ ((k + 1 : Nat) : Int)
        omega
      · have hb' : b < d'.lv.length := by simp at hb; omega
        have := x6 b hb'
        omega
    · show _ ≤ ((d'.lv ++ [_]).getD b noL).t
      have hb' : (d'.nums.set o.to.toNat d'.lv.length).getD n.toNat 0 = b := hb
      obtain ⟨n0, n1, n3⟩ := ord_at S.ord hp hn
      have hne : n ≠ o.to := by
        intro he
        obtain ⟨j, q, hj, hq, hqe⟩ := n3 (by rw [he]; exact t3)
        have := to_apart S.nd hq hx (by rw [hqe, he])
        omega
      rw [gn, if_neg (by omega)] at hb'
      have hbl : b < d'.lv.length := by
        rw [x2]
        by_cases k0 : (M.tensorAt m n).kind = 0
        · have := x3 n.toNat _ (O.tensorAt_get n0 n1).1 k0
          omega
        · by_cases k3 : (M.tensorAt m n).kind = 3
          · obtain ⟨j, q, hj, hq, hqe⟩ := n3 k3
            have := x4 j q (by omega) hq
            rw [hqe] at this
            omega
          · have := x5 n.toNat (by omega) (by rw [Int.toNat_of_nonneg n0]; exact k0) (fun j q hj hq he => by
              have := S.to q (List.mem_of_getElem? hq)
              rw [he, Int.toNat_of_nonneg n0] at this
              omega)
            omega
      rw [gl, if_neg (by omega)]
      rcases (show i < k ∨ i = k by omega) with h | h
      · exact x7 i p n b h hp hn hb' hbl
      · subst h
        rw [hx] at hp; injection hp with hp; subst hp
        have := R n b hn n0 (by rw [← En, x1]; omega) (by rw [← En]; exact hb') (by rw [← El]; exact hbl)
        omega

/-- What is known of a plan's buffers. -/
structure Pn (m : M.Md) (I : Nat) (d : Dr) : Prop where
  ln : d.nums.length = m.tensors.length
  ll : d.lv.length = I + m.ops.length
  n0 : ∀ (n : Nat) t, m.tensors[n]? = some t → t.kind = 0 → d.nums.getD n 0 = cnt m.tensors n ∧ cnt m.tensors n < I ∧ (d.lv.getD (cnt m.tensors n) noL).f = 0 ∧ (d.lv.getD (cnt m.tensors n) noL).c = M.cellsOf t
  n1 : ∀ (i : Nat) o, m.ops[i]? = some o → d.nums.getD o.to.toNat 0 = I + i ∧ (d.lv.getD (I + i) noL).f = i + 1 ∧ (d.lv.getD (I + i) noL).c = M.cellsOf (M.tensorAt m o.to)
  n2 : ∀ n : Nat, n < m.tensors.length → (M.tensorAt m n).kind ≠ 0 → (∀ (i : Nat) o, m.ops[i]? = some o → o.to ≠ n) → d.nums.getD n 0 = -1
  ft : ∀ b, b < d.lv.length → (d.lv.getD b noL).f ≤ (d.lv.getD b noL).t ∧ (d.lv.getD b noL).t ≤ m.ops.length + 1
  rd : ∀ (i : Nat) o (n : Int) (b : Nat), m.ops[i]? = some o → n ∈ readsL o → d.nums.getD n.toNat 0 = b → b < d.lv.length → (i : Int) + 1 ≤ (d.lv.getD b noL).t
  ou : ∀ (n : Int) (b : Nat), n ∈ m.outs → d.nums.getD n.toNat 0 = b → b < d.lv.length → (d.lv.getD b noL).t = m.ops.length + 1
  l0 : ∀ b, b < I → ∃ (n : Nat) (t : M.Tn), m.tensors[n]? = some t ∧ t.kind = 0 ∧ cnt m.tensors n = b

theorem ins_eq (m : M.Md) : ins_ m = cnt m.tensors m.tensors.length := (draftT_ok m.tensors m.tensors.length (Nat.le_refl _)).ll

theorem draft_ok {m : M.Md} {C : List (List Int)} (S : Sol m C) : Pn m (ins_ m) (draft m) := by
  have D := draftO_ok S (draftT_ok m.tensors m.tensors.length (Nat.le_refl _)).ops m.ops.length (Nat.le_refl _)
  show Pn m (draftT m.tensors m.tensors.length).lv.length (draft m)
  unfold draft
  generalize (draftT m.tensors m.tensors.length).lv.length = I at *
  generalize draftO m (draftT m.tensors m.tensors.length) m.ops.length = d at *
  have E := reaches_ext ((m.ops.length : Int) + 1) m.outs d
  have R : ∀ n b, n ∈ m.outs → 0 ≤ n → n < d.nums.length → d.nums.getD n.toNat 0 = (b : Nat) → b < d.lv.length → ((m.outs.foldl (reach ((m.ops.length : Int) + 1)) d).lv.getD b noL).t = (m.ops.length : Int) + 1 := fun n b => reaches_at m.outs d
  have En := E.nums
  have El := E.len
  obtain ⟨x1, x2, x3, x4, x5, x6, x7⟩ := D.ext E
  generalize m.outs.foldl (reach ((m.ops.length : Int) + 1)) d = d' at *
  refine ⟨x1, x2, x3, fun i o ho => x4 i o (M.lt_of_some ho) ho, fun n hn h0 h => x5 n hn h0 fun i o _ ho => h i o ho, x6, fun i o n b ho hn hb hl => x7 i o n b (M.lt_of_some ho) ho hn hb hl, fun n b hn hb hl => ?_, D.l0⟩
  obtain ⟨a, -⟩ := S.outs n hn
  exact R n b hn a.1 (by rw [← En, x1]; exact a.2.1) (by rw [← En]; exact hb) (by rw [← El]; exact hl)

end H
end Go.Proofs.YtcnhfffgbamonaaGreat

/-
  A run in one row of cells: whoever reads finds what was made.
-/
namespace Go.Proofs.YtcnhfffgbamonaaGreat
namespace H

def part (cells : List Int) (b : Bf) : List Int := (cells.drop b.a.toNat).take b.c.toNat
def wrt (cells : List Int) (p : Nat) (l : List Int) : List Int := cells.take p ++ (l ++ cells.drop (p + l.length))

theorem wrt_len {cells : List Int} {p : Nat} {l : List Int} (h : p + l.length ≤ cells.length) : (wrt cells p l).length = cells.length := by simp [wrt]; omega
theorem wrt_get {cells : List Int} {p : Nat} {l : List Int} (h : p + l.length ≤ cells.length) (i : Nat) : (wrt cells p l)[i]? = if i < p then cells[i]? else if i < p + l.length then l[i - p]? else cells[i]? := by
  unfold wrt
  by_cases h1 : i < p
  · rw [if_pos h1, List.getElem?_append_left (by simp; omega), List.getElem?_take, if_pos h1]
  · rw [if_neg h1, List.getElem?_append_right (by simp; omega)]
    have e : (cells.take p).length = p := by simp; omega
    rw [e]
    by_cases h2 : i < p + l.length
    · rw [if_pos h2, List.getElem?_append_left (by omega)]
    · rw [if_neg h2, List.getElem?_append_right (by omega), List.getElem?_drop]
      congr 1; omega
theorem part_get (cells : List Int) (b : Bf) (i : Nat) : (part cells b)[i]? = if i < b.c.toNat then cells[b.a.toNat + i]? else none := by
  unfold part
  rw [List.getElem?_take]
  split
  · rw [List.getElem?_drop]
  · rfl
theorem part_len {cells : List Int} {b : Bf} (h0 : 0 ≤ b.a) (h1 : 0 ≤ b.c) (h : b.e ≤ cells.length) : (part cells b).length = b.c.toNat := by
  unfold part Bf.e at *
  simp; omega
theorem part_same {cells : List Int} {b : Bf} {l : List Int} (h : b.a.toNat + l.length ≤ cells.length) (hl : b.c.toNat = l.length) : part (wrt cells b.a.toNat l) b = l := by
  apply List.ext_getElem?
  intro i
  rw [part_get, wrt_get h]
  by_cases c : i < b.c.toNat
  · rw [if_pos c, if_neg (by omega), if_pos (by omega)]
    congr 1; omega
  · rw [if_neg c, List.getElem?_eq_none (by omega)]
theorem part_apart {cells : List Int} {b : Bf} {p : Nat} {l : List Int} (h : p + l.length ≤ cells.length) (ha : b.a.toNat + b.c.toNat ≤ p ∨ p + l.length ≤ b.a.toNat) : part (wrt cells p l) b = part cells b := by
  apply List.ext_getElem?
  intro i
  rw [part_get, part_get]
  by_cases c : i < b.c.toNat
  · rw [if_pos c, if_pos c, wrt_get h]
    by_cases c1 : b.a.toNat + i < p
    · rw [if_pos c1]
    · rw [if_neg c1, if_neg (by omega)]
  · rw [if_neg c, if_neg c]

theorem Pn.has {m : M.Md} {I : Nat} {d : Dr} (P : Pn m I d) {n b : Nat} (hn : n < m.tensors.length) (hb : d.nums.getD n 0 = (b : Int)) :
    ((M.tensorAt m n).kind = 0 ∧ b = cnt m.tensors n ∧ b < I) ∨ ∃ (i : Nat) (o : M.Op), m.ops[i]? = some o ∧ o.to = n ∧ b = I + i := by
  by_cases k0 : (M.tensorAt m n).kind = 0
  · have := P.n0 n _ (tensorAt_nat hn) k0
    exact .inl ⟨k0, by omega, by omega⟩
  · by_cases h : ∃ (i : Nat) (o : M.Op), m.ops[i]? = some o ∧ o.to = n
    · obtain ⟨i, o, ho, he⟩ := h
      refine .inr ⟨i, o, ho, he, ?_⟩
      have := (P.n1 i o ho).1
      rw [he, Int.toNat_natCast] at this
      omega
    · have := P.n2 n hn k0 fun i o ho he => h ⟨i, o, ho, he⟩
      omega
theorem Pn.lt {m : M.Md} {I : Nat} {d : Dr} (P : Pn m I d) {n b : Nat} (hn : n < m.tensors.length) (hb : d.nums.getD n 0 = (b : Int)) : b < d.lv.length := by
  have hl := P.ll
  rcases P.has hn hb with ⟨-, -, h⟩ | ⟨i, o, ho, -, h⟩
  · omega
  · have := M.lt_of_some ho; omega
theorem Pn.cells {m : M.Md} {I : Nat} {d : Dr} (P : Pn m I d) {n b : Nat} (hn : n < m.tensors.length) (hb : d.nums.getD n 0 = (b : Int)) : (d.lv.getD b noL).c = M.cellsOf (M.tensorAt m n) := by
  rcases P.has hn hb with ⟨k0, rfl, -⟩ | ⟨i, o, ho, he, rfl⟩
  · exact (P.n0 n _ (tensorAt_nat hn) k0).2.2.2
  · rw [(P.n1 i o ho).2.2, he]
/-- A buffer of each number. -/
theorem Pn.who {m : M.Md} {C : List (List Int)} (S : Sol m C) {I : Nat} {d : Dr} (P : Pn m I d) {b : Nat} (hb : b < d.lv.length) : ∃ n : Nat, n < m.tensors.length ∧ d.nums.getD n 0 = (b : Int) ∧ (d.lv.getD b noL).c = M.cellsOf (M.tensorAt m n) := by
  have hl := P.ll
  by_cases c : b < I
  · obtain ⟨n, t, hn, k0, rfl⟩ := P.l0 b c
    have h := M.lt_of_some hn
    have := P.n0 n t hn k0
    exact ⟨n, h, this.1, P.cells h this.1⟩
  · have hi : b - I < m.ops.length := by omega
    have ho := List.getElem?_eq_getElem hi
    generalize m.ops[b - I] = o at ho
    obtain ⟨t0, t1, -⟩ := S.to o (List.mem_of_getElem? ho)
    have := (P.n1 _ o ho).1
    refine ⟨o.to.toNat, by omega, by omega, P.cells (by omega) (by omega)⟩
theorem Pn.one {m : M.Md} {C : List (List Int)} (S : Sol m C) {I : Nat} {d : Dr} (P : Pn m I d) : ∀ b, b < d.lv.length → 1 ≤ (d.lv.getD b noL).c ∧ (d.lv.getD b noL).c ≤ 512 := by
  intro b hb
  obtain ⟨n, hn, -, e⟩ := P.who S hb
  rw [e]
  have D := S.dim n (by omega) (by omega)
  refine ⟨?_, D.most⟩
  unfold M.cellsOf
  have h1 := D.h0; have h2 := D.w0; have h3 := D.c0
  have p1 : 0 < (M.tensorAt m n).h * (M.tensorAt m n).w := Int.mul_pos (by omega) (by omega)
  have : 0 < (M.tensorAt m n).h * (M.tensorAt m n).w * (M.tensorAt m n).c := Int.mul_pos p1 (by omega)
  omega

/-- All that is known of a plan. -/
structure Al (m : M.Md) (C : List (List Int)) (I : Nat) (d : Dr) (ld : List Bf) : Prop where
  S : Sol m C
  P : Pn m I d
  L : Lies d.lv ld

theorem al_of {m : M.Md} {C : List (List Int)} (S : Sol m C) : Al m C (ins_ m) (draft m) (lay (draft m).lv) :=
  ⟨S, draft_ok S, lies fun b hb => ((draft_ok S).one S b hb).1⟩

/-- The row ahead of operator k. -/
structure AI (m : M.Md) (C : List (List Int)) (d : Dr) (ld : List Bf) (k : Nat) (cells : List Int) : Prop where
  len : (cells.length : Int) = endOf ld
  ok : ∀ n b : Nat, n < m.tensors.length → d.nums.getD n 0 = (b : Int) → (d.lv.getD b noL).f ≤ k → (k : Int) + 1 ≤ (d.lv.getD b noL).t → part cells (ld.getD b noB) = D.cellsAt C n

theorem Al.fits {m : M.Md} {C : List (List Int)} {I : Nat} {d : Dr} {ld : List Bf} (A : Al m C I d ld) {b : Nat} (hb : b < d.lv.length) : 0 ≤ (ld.getD b noB).a ∧ 1 ≤ (ld.getD b noB).c ∧ (ld.getD b noB).c ≤ 512 ∧ (ld.getD b noB).e ≤ endOf ld := by
  have := A.P.one A.S b hb
  rw [A.L.c b hb]
  exact ⟨A.L.a b hb, this.1, this.2, A.L.fin b hb⟩

/-- What a tensor's cells are, as Run finds them. -/
def ofL (m : M.Md) (d : Dr) (ld : List Bf) (cells : List Int) (n : Int) : List Int :=
  if 0 ≤ n ∧ n < d.nums.length ∧ 0 ≤ d.nums.getD n.toNat 0 then part cells (ld.getD (d.nums.getD n.toNat 0).toNat noB) else (M.tensorAt m n).data

theorem of_cells {m : M.Md} {C : List (List Int)} {I : Nat} {d : Dr} {ld : List Bf} (A : Al m C I d ld) {cells : List Int} {n : Int} {k : Nat} (hA : AI m C d ld k cells) (h0 : 0 ≤ n) (h1 : n < m.tensors.length)
    (h2 : (M.tensorAt m n).kind ≠ 2) (h3 : (M.tensorAt m n).kind = 3 → ∃ (j : Nat) (p : M.Op), j < k ∧ m.ops[j]? = some p ∧ p.to = n) (hu : 0 < uses m n)
    (hr : ∀ b : Nat, d.nums.getD n.toNat 0 = b → b < d.lv.length → (k : Int) + 1 ≤ (d.lv.getD b noL).t) : ofL m d ld cells n = D.cellsAt C n := by
  have S := A.S
  have P := A.P
  have en : ((n.toNat : Nat) : Int) = n := Int.toNat_of_nonneg h0
  have ln := P.ln
  unfold ofL
  have kk := S.kinds n h0 h1
  by_cases k0 : (M.tensorAt m n).kind = 0
  · have hb := P.n0 n.toNat _ (O.tensorAt_get h0 h1).1 k0
    rw [if_pos ⟨h0, by omega, by omega⟩, hb.1, Int.toNat_natCast]
    have := hA.ok n.toNat _ (by omega) hb.1 (by rw [hb.2.2.1]; omega) (hr _ hb.1 (P.lt (by omega) hb.1))
    rw [en] at this
    exact this
  · by_cases k3 : (M.tensorAt m n).kind = 3
    · obtain ⟨j, p, hj, hp, he⟩ := h3 k3
      have hb := P.n1 j p hp
      rw [he] at hb
      have hb' : d.nums.getD n.toNat 0 = ((I + j : Nat) : Int) := by rw [hb.1]; omega
      rw [if_pos ⟨h0, by omega, by omega⟩, hb', Int.toNat_natCast]
      have := hA.ok n.toNat _ (by omega) hb' (by rw [hb.2.1]; omega) (hr _ hb' (P.lt (by omega) hb'))
      rw [en] at this
      exact this
    · have := P.n2 n.toNat (by omega) (by rw [en]; exact k0) fun i o ho he => by
        have := (S.to o (List.mem_of_getElem? ho)).2.2
        rw [he, en] at this
        exact k3 this
      clear h3 hr
      rw [if_neg (by omega)]
      exact (S.data n hu (by omega)).symm

theorem op_reads {m : M.Md} {C : List (List Int)} {I : Nat} {d : Dr} {ld : List Bf} (A : Al m C I d ld) {cells : List Int} {k : Nat} (hA : AI m C d ld k cells) {o : M.Op} (ho : m.ops[k]? = some o) :
    ofL m d ld cells o.a = D.cellsAt C o.a ∧ (M.readsTwo o.kind = true → ofL m d ld cells o.b = D.cellsAt C o.b) := by
  have hm := List.mem_of_getElem? ho
  have key : ∀ n ∈ readsL o, (M.tensorAt m n).kind ≠ 2 → ofL m d ld cells n = D.cellsAt C n := by
    intro n hn h2
    obtain ⟨h0, h1, h3⟩ := ord_at A.S.ord ho hn
    exact of_cells A hA h0 h1 h2 h3 (mem_uses.mpr (.inl ⟨o, hm, hn⟩)) fun b hb hl => A.P.rd k o n b ho hn hb hl
  exact ⟨key _ (mem_a o) (A.S.not2 o hm).1, fun h => key _ (mem_b h (not_both h)) ((A.S.not2 o hm).2 h)⟩

/-- What an operator finds in the row, and makes of it. -/
theorem op_finds {m : M.Md} {C : List (List Int)} {I : Nat} {d : Dr} {ld : List Bf} (A : Al m C I d ld) {cells : List Int} {k : Nat} (hA : AI m C d ld k cells) {o : M.Op} (ho : m.ops[k]? = some o) :
    O.Finds m o (ofL m d ld cells o.a) (ofL m d ld cells o.b) ∧ O.make m o (ofL m d ld cells o.a) (ofL m d ld cells o.b) = D.cellsAt C o.to := by
  have hm := List.mem_of_getElem? ho
  obtain ⟨ea, eb⟩ := op_reads A hA ho
  have F := A.S.fi o hm
  rw [ea, A.S.eq o hm]
  cases h2 : M.readsTwo o.kind with
  | true => rw [eb h2]; exact ⟨F, rfl⟩
  | false => exact ⟨finds_lb F h2, make_lb m h2 _ _ _⟩

theorem out_finds {m : M.Md} {C : List (List Int)} {I : Nat} {d : Dr} {ld : List Bf} (A : Al m C I d ld) {cells : List Int} (hA : AI m C d ld m.ops.length cells) {n : Int} (hn : n ∈ m.outs) : ofL m d ld cells n = D.cellsAt C n := by
  obtain ⟨a, h2⟩ := A.S.outs n hn
  refine of_cells A hA a.1 a.2.1 h2 (fun k3 => ?_) (mem_uses.mpr (.inr hn)) fun b hb hl => by rw [A.P.ou n b hn hb hl]; omega
  obtain ⟨p, hp, he⟩ := List.mem_map.mp (a.2.2 k3)
  obtain ⟨j, hj⟩ := List.getElem?_of_mem hp
  exact ⟨j, p, M.lt_of_some hj, hj, he⟩

/-- The buffer that operator k writes. -/
theorem op_place {m : M.Md} {C : List (List Int)} {I : Nat} {d : Dr} {ld : List Bf} (A : Al m C I d ld) {k : Nat} {o : M.Op} (ho : m.ops[k]? = some o) :
    0 ≤ o.to ∧ o.to < d.nums.length ∧ d.nums.getD o.to.toNat 0 = ((I + k : Nat) : Int) ∧ I + k < d.lv.length ∧ ((D.cellsAt C o.to).length : Int) = (ld.getD (I + k) noB).c := by
  have hm := List.mem_of_getElem? ho
  obtain ⟨t0, t1, t3⟩ := A.S.to o hm
  have hb : d.nums.getD o.to.toNat 0 = ((I + k : Nat) : Int) := by have := (A.P.n1 k o ho).1; omega
  have hl : I + k < d.lv.length := A.P.lt (by omega) hb
  refine ⟨t0, by rw [A.P.ln]; exact t1, hb, hl, ?_⟩
  rw [A.L.c _ hl, (A.P.n1 k o ho).2.2]
  exact A.S.full o.to t0 t1 (by omega)

theorem AI.step {m : M.Md} {C : List (List Int)} {I : Nat} {d : Dr} {ld : List Bf} (A : Al m C I d ld) {cells : List Int} {k : Nat} (hA : AI m C d ld k cells) {o : M.Op} (ho : m.ops[k]? = some o) :
    AI m C d ld (k + 1) (wrt cells (ld.getD (I + k) noB).a.toNat (D.cellsAt C o.to)) := by
  obtain ⟨t0, t1, hb, hl, hc⟩ := op_place A ho
  obtain ⟨f1, f2, -, f3⟩ := A.fits hl
  have hlen := hA.len
  unfold Bf.e at f3
  have hw : (ld.getD (I + k) noB).a.toNat + (D.cellsAt C o.to).length ≤ cells.length := by omega
  refine ⟨by rw [wrt_len hw]; exact hlen, fun n b hn hnb hf ht => ?_⟩
  by_cases e : b = I + k
  · subst e
    rcases A.P.has hn hnb with ⟨-, -, h⟩ | ⟨i, p, hp, he, hi⟩
    · omega
    · have : i = k := by omega
      subst this
      rw [ho] at hp; injection hp with hp; subst hp
      rw [← he]
      exact part_same hw (by omega)
  · have hbl := A.P.lt hn hnb
    obtain ⟨g1, g2, -, g3⟩ := A.fits hbl
    have hbk : (d.lv.getD (I + k) noL).f = k + 1 := (A.P.n1 k o ho).2.1
    have hbt := (A.P.ft _ hl).1
    have hfk : (d.lv.getD b noL).f ≤ k := by
      rcases A.P.has hn hnb with ⟨k0, rfl, -⟩ | ⟨i, p, hp, he, rfl⟩
      · rw [(A.P.n0 n _ (tensorAt_nat hn) k0).2.2.1]; omega
      · rw [(A.P.n1 i p hp).2.1] at hf ⊢
        have : i ≠ k := fun h => e (by rw [h])
        omega
    have hm : meet (d.lv.getD b noL) (d.lv.getD (I + k) noL) = true := by
      unfold meet
      rw [decide_eq_true (by omega), decide_eq_true (by omega)]; rfl
    have ap := A.L.apart b (I + k) hbl hl e hm
    rw [part_apart hw (by unfold Bf.e at ap; omega)]
    exact hA.ok n b hn hnb hfk (by omega)

/-- The row behind j inputs. -/
structure AJ (m : M.Md) (C : List (List Int)) (ld : List Bf) (j : Nat) (cells : List Int) : Prop where
  len : (cells.length : Int) = endOf ld
  ok : ∀ (n : Nat) t, m.tensors[n]? = some t → t.kind = 0 → cnt m.tensors n < j → part cells (ld.getD (cnt m.tensors n) noB) = D.cellsAt C n

theorem AJ.start (m : M.Md) (C : List (List Int)) (ld : List Bf) : AJ m C ld 0 (List.replicate (endOf ld).toNat 0) :=
  ⟨by have := end_nonneg ld ld.length; unfold endOf; simp; omega, fun n t _ _ h => absurd h (by omega)⟩

/-- Inputs as the tensors have them. -/
def Ins (m : M.Md) (C ins : List (List Int)) : Prop := ∀ (n : Nat) t, m.tensors[n]? = some t → t.kind = 0 → ins[cnt m.tensors n]? = some (D.cellsAt C n)

theorem in_place {m : M.Md} {C : List (List Int)} {I : Nat} {d : Dr} {ld : List Bf} (A : Al m C I d ld) {ins : List (List Int)} (hi : Ins m C ins) {j : Nat} {l : List Int} (hj : j < I) (hl : ins[j]? = some l) :
    j < d.lv.length ∧ (l.length : Int) = (ld.getD j noB).c := by
  obtain ⟨n, t, hn, k0, rfl⟩ := A.P.l0 j hj
  have h := M.lt_of_some hn
  have hb := A.P.n0 n t hn k0
  have hbl := A.P.lt h hb.1
  rw [hi n t hn k0] at hl
  injection hl with hl
  refine ⟨hbl, ?_⟩
  have e : t = M.tensorAt m n := by have := tensorAt_nat h; rw [hn] at this; injection this
  rw [A.L.c _ hbl, hb.2.2.2, ← hl, e]
  exact A.S.full n (by omega) (by omega) (by rw [← e]; omega)

theorem cnt_inj {ts : List M.Tn} {n n' : Nat} {t t' : M.Tn} (h : ts[n]? = some t) (h0 : t.kind = 0) (h' : ts[n']? = some t') (h0' : t'.kind = 0) (e : cnt ts n = cnt ts n') : n = n' := by
  rcases Nat.lt_trichotomy n n' with c | c | c
  · have := cnt_lt h h0 c; omega
  · exact c
  · have := cnt_lt h' h0' c; omega

theorem AJ.step {m : M.Md} {C : List (List Int)} {I : Nat} {d : Dr} {ld : List Bf} (A : Al m C I d ld) {ins : List (List Int)} (hi : Ins m C ins) {j : Nat} {cells l : List Int} (hA : AJ m C ld j cells) (hj : j < I) (hl : ins[j]? = some l) :
    AJ m C ld (j + 1) (wrt cells (ld.getD j noB).a.toNat l) := by
  obtain ⟨hbl, hc⟩ := in_place A hi hj hl
  obtain ⟨f1, f2, -, f3⟩ := A.fits hbl
  have hlen := hA.len
  unfold Bf.e at f3
  have hw : (ld.getD j noB).a.toNat + l.length ≤ cells.length := by omega
  refine ⟨by rw [wrt_len hw]; exact hlen, fun n t hn k0 hc' => ?_⟩
  by_cases e : cnt m.tensors n = j
  · have := hi n t hn k0
    rw [e, hl] at this
    injection this with this
    rw [e, ← this]
    exact part_same hw (by omega)
  · have hb := A.P.n0 n t hn k0
    have hbl' := A.P.lt (M.lt_of_some hn) hb.1
    obtain ⟨g1, g2, -, g3⟩ := A.fits hbl'
    obtain ⟨n', t', hn', k0', he⟩ := A.P.l0 j hj
    have hb' := A.P.n0 n' t' hn' k0'
    rw [he] at hb'
    have hm : meet (d.lv.getD (cnt m.tensors n) noL) (d.lv.getD j noL) = true := by
      unfold meet
      have h1 := (A.P.ft _ hbl).1
      have h2 := (A.P.ft _ hbl').1
      rw [decide_eq_true (by omega), decide_eq_true (by omega)]; rfl
    have ap := A.L.apart _ j hbl' hbl e hm
    rw [part_apart hw (by unfold Bf.e at ap; omega)]
    exact hA.ok n t hn k0 (by omega)

theorem AJ.done {m : M.Md} {C : List (List Int)} {I : Nat} {d : Dr} {ld : List Bf} (A : Al m C I d ld) {cells : List Int} (hA : AJ m C ld I cells) : AI m C d ld 0 cells := by
  refine ⟨hA.len, fun n b hn hb hf _ => ?_⟩
  rcases A.P.has hn hb with ⟨k0, rfl, h⟩ | ⟨i, p, hp, he, rfl⟩
  · exact hA.ok n _ (tensorAt_nat hn) k0 h
  · rw [(A.P.n1 i p hp).2.1] at hf
    omega

-- what shrink leaves of the inputs
def Kept0 (ts ts' : List M.Tn) : Prop := ts'.length = ts.length ∧ ∀ (n : Nat) t t', ts[n]? = some t → ts'[n]? = some t' → (t.kind = 0 ↔ t'.kind = 0) ∧ M.cellsOf t' = M.cellsOf t
theorem Kept0.refl (ts : List M.Tn) : Kept0 ts ts := ⟨rfl, fun n t t' h h' => by rw [h] at h'; injection h' with h'; subst h'; exact ⟨Iff.rfl, rfl⟩⟩
theorem Kept0.trans {a b c : List M.Tn} (h : Kept0 a b) (k : Kept0 b c) : Kept0 a c := by
  refine ⟨k.1.trans h.1, fun n t t'' ht ht'' => ?_⟩
  have hl := M.lt_of_some ht
  obtain ⟨u, hb⟩ : ∃ u, b[n]? = some u := ⟨_, List.getElem?_eq_getElem (by rw [h.1]; exact hl)⟩
  have h1 := h.2 n t _ ht hb
  have h2 := k.2 n _ t'' hb ht''
  exact ⟨h1.1.trans h2.1, h2.2.trans h1.2⟩
theorem Kept0.filter : ∀ {ts ts' : List M.Tn}, Kept0 ts ts' → (ts'.filter isIn).map M.cellsOf = (ts.filter isIn).map M.cellsOf
  | [], [], _ => rfl
  | [], _ :: _, h => absurd h.1 (by simp)
  | _ :: _, [], h => absurd h.1 (by simp)
  | t :: ts, t' :: ts', h => by
    have h0 := h.2 0 t t' rfl rfl
    have hk : Kept0 ts ts' := ⟨by have := h.1; simpa using this, fun n u u' hu hu' => h.2 (n + 1) u u' (by simpa using hu) (by simpa using hu')⟩
    have ih := hk.filter
    have e : isIn t' = isIn t := by
      unfold isIn
      by_cases c : t.kind = 0
      · rw [c, h0.1.mp c]
      · rw [beq_eq_false_iff_ne.mpr c, beq_eq_false_iff_ne.mpr (fun h' => c (h0.1.mpr h'))]
    rw [List.filter_cons, List.filter_cons, e]
    split
    · simp [h0.2, ih]
    · exact ih
theorem Kept0.take {ts ts' : List M.Tn} (h : Kept0 ts ts') (k : Nat) : Kept0 (ts.take k) (ts'.take k) := by
  refine ⟨by simp [h.1], fun n t t' ht ht' => ?_⟩
  rw [List.getElem?_take] at ht ht'
  split at ht
  · rename_i c
    rw [if_pos c] at ht'
    exact h.2 n t t' ht ht'
  · exact absurd ht (by simp)
theorem Kept0.cnt {ts ts' : List M.Tn} (h : Kept0 ts ts') (k : Nat) : cnt ts' k = cnt ts k := by
  have := congrArg List.length (h.take k).filter
  simpa [H.cnt] using this
theorem lengths_eq (m : M.Md) : D.lengths m = (m.tensors.filter isIn).map M.cellsOf := rfl

theorem kept_set {m : M.Md} {n : Int} {l : List Int} (h0 : 0 ≤ n) (h1 : n < m.tensors.length) (h3 : (M.tensorAt m n).kind = 3) : Kept0 m.tensors (setTo m n l).tensors := by
  refine ⟨by simp [setTo], fun k t t' ht ht' => ?_⟩
  have hl := M.lt_of_some ht
  have e := tensorAt_nat (m := m) hl
  have e' := tensorAt_nat (m := setTo m n l) (n := k) (by simp [setTo]; exact hl)
  rw [ht] at e; injection e with e
  rw [ht'] at e'; injection e' with e'
  rw [e, e', at_set l h0 h1]
  split
  · rename_i c
    rw [c, h3]
    exact ⟨⟨fun h => absurd h (by decide), fun h => absurd h (by show ¬ ((1 : Int) = 0); decide)⟩, rfl⟩
  · exact ⟨Iff.rfl, rfl⟩
theorem kept_fold {C : List (List Int)} : ∀ (rest : List M.Op) (m : M.Md) (left : List M.Op), Sol (wo m (left ++ rest)) C → Kept0 m.tensors (rest.foldl foldStep (m, left)).1.tensors
  | [], m, left, h => Kept0.refl _
  | o :: rest, m, left, h => by
    rw [List.foldl_cons]
    unfold foldStep
    by_cases hk : isKnown m o = true
    · rw [if_pos hk]
      obtain ⟨e, s⟩ := h.known (l := left) (r := rest) (o := o) rfl hk
      have e' : O.make m o (M.tensorAt m o.a).data (M.tensorAt m o.b).data = D.cellsAt C o.to := e
      rw [e']
      obtain ⟨t0, t1, t3⟩ := h.to o (by show o ∈ left ++ o :: rest; simp)
      exact (kept_set (m := m) t0 t1 t3).trans (kept_fold rest _ left s)
    · rw [if_neg hk]
      refine kept_fold (C := C) rest m (left ++ [o]) ?_
      rw [List.append_assoc]; exact h
theorem dropAt_ts (m : M.Md) (i : Nat) : (dropAt m i).tensors = m.tensors ∧ (dropAt m i).outs = m.outs := by
  unfold dropAt
  cases m.ops[i]? with
  | none => exact ⟨rfl, rfl⟩
  | some o => show (if _ then _ else _ : M.Md).tensors = _ ∧ (if _ then _ else _ : M.Md).outs = _; split <;> exact ⟨rfl, rfl⟩
theorem dropTo_ts : ∀ (i : Nat) (m : M.Md), (dropTo i m).tensors = m.tensors ∧ (dropTo i m).outs = m.outs
  | 0, _ => ⟨rfl, rfl⟩
  | i + 1, m => by
    have h := dropTo_ts i (dropAt m i)
    have h' := dropAt_ts m i
    exact ⟨h.1.trans h'.1, h.2.trans h'.2⟩
theorem fold_outs : ∀ (rest : List M.Op) (m : M.Md) (left : List M.Op), (rest.foldl foldStep (m, left)).1.outs = m.outs
  | [], _, _ => rfl
  | o :: rest, m, left => by
    rw [List.foldl_cons]
    have e : (foldStep (m, left) o).1.outs = m.outs := by unfold foldStep; split <;> rfl
    rw [← e]
    exact fold_outs rest (foldStep (m, left) o).1 (foldStep (m, left) o).2
theorem shrink_outs (m : M.Md) : (shrink m).outs = m.outs := by
  show (drop (fold m)).outs = _
  unfold drop
  rw [(dropTo_ts _ _).2]
  exact fold_outs m.ops m []
theorem kept_forget (m : M.Md) : Kept0 m.tensors (forget m).tensors := by
  refine ⟨forget_len m, fun k t t' ht ht' => ?_⟩
  have hl := M.lt_of_some ht
  have e := tensorAt_nat (m := m) hl
  have e' := tensorAt_nat (m := forget m) (n := k) (by rw [forget_len]; exact hl)
  rw [ht] at e; injection e with e
  rw [ht'] at e'; injection e' with e'
  rw [e, e', kind_forget, (dims_forget m).cells]
  exact ⟨Iff.rfl, rfl⟩
theorem kept_shrink {m : M.Md} {C : List (List Int)} (s : Sol m C) : Kept0 m.tensors (shrink m).tensors := by
  have h1 := kept_fold m.ops m [] s
  have h2 : (join (drop (fold m))).tensors = (fold m).tensors := by show (drop (fold m)).tensors = _; unfold drop; exact (dropTo_ts _ _).1
  have h3 := kept_forget (join (drop (fold m)))
  rw [h2] at h3
  exact Kept0.trans h1 h3

theorem given_at : ∀ (ts : List M.Tn) (ins : List (List Int)) (n : Nat) t, ts[n]? = some t → t.kind = 0 → (O.given ts ins).getD n [] = ins.getD (cnt ts n) []
  | [], _, n, t, h, _ => absurd h (by simp)
  | u :: ts, ins, 0, t, h, h0 => by
    simp at h; subst h
    unfold O.given
    rw [if_pos h0]
    cases ins <;> simp [cnt]
  | u :: ts, ins, n + 1, t, h, h0 => by
    have h' : ts[n]? = some t := by simpa using h
    unfold O.given
    by_cases c : u.kind = 0
    · rw [if_pos c]
      have e : cnt (u :: ts) (n + 1) = cnt ts n + 1 := by unfold cnt; rw [List.take_succ_cons, List.filter_cons]; simp [isIn, c]
      rw [e, List.getD_cons_succ, given_at ts ins.tail n t h' h0]
      cases ins <;> simp
    · rw [if_neg c]
      have e : cnt (u :: ts) (n + 1) = cnt ts n := by unfold cnt; rw [List.take_succ_cons, List.filter_cons]; simp [isIn, c]
      rw [e]
      split
      · rw [List.getD_cons_succ]; exact given_at ts ins n t h' h0
      · rw [List.getD_cons_succ]; exact given_at ts ins n t h' h0

theorem ins_of {m : M.Md} (h1 : O.One m) {ins : List (List Int)} (hi : D.inputsHold m ins = true) : Ins m (O.env m ins) ins := by
  intro n t hn h0
  have hl := M.lt_of_some hn
  have e : D.cellsAt (O.env m ins) n = D.cellsAt (O.given m.tensors ins) n := by
    unfold O.env
    refine steps_other _ _ fun o ho => ?_
    obtain ⟨i, hi'⟩ := List.getElem?_of_mem ho
    have hk := O.isKind_at (h1.to i o hi')
    refine ⟨hk.1, fun e => ?_⟩
    have := tensorAt_nat hl
    rw [hn] at this
    injection this with this
    rw [e, ← this] at hk
    omega
  rw [e]
  have hlen : ins.length = cnt m.tensors m.tensors.length := by
    unfold D.inputsHold at hi
    rw [Bool.and_eq_true, beq_iff_eq] at hi
    have := congrArg List.length hi.1
    rw [List.length_map, lengths_eq, List.length_map] at this
    unfold cnt
    rw [List.take_length]; exact this
  have hc := cnt_lt hn h0 hl
  have := given_at m.tensors ins n t hn h0
  unfold D.cellsAt
  rw [if_neg (by omega), Int.toNat_natCast, this, List.getD, List.getElem?_eq_getElem (by omega)]
  rfl

theorem Ins.kept {m m' : M.Md} {C ins : List (List Int)} (h : Ins m C ins) (k : Kept0 m.tensors m'.tensors) : Ins m' C ins := by
  intro n t hn h0
  have hl := M.lt_of_some hn
  obtain ⟨u, hb⟩ : ∃ u, m.tensors[n]? = some u := ⟨_, List.getElem?_eq_getElem (by rw [← k.1]; exact hl)⟩
  rw [k.cnt]
  exact h n _ hb ((k.2 n _ t hb hn).1.mpr h0)

/-- A plan's run is what the document says. -/
theorem outs_run {m : M.Md} (h1 : O.One m) {ins : List (List Int)} (hi : D.inputsHold m ins = true) : (shrink m).outs.map (D.cellsAt (O.env m ins)) = D.run m ins := by
  rw [shrink_outs]
  exact O.run_eq h1 hi

end H
end Go.Proofs.YtcnhfffgbamonaaGreat

/-
  For the walks: what stands behind k operators of fold, drop, join.
-/
namespace Go.Proofs.YtcnhfffgbamonaaGreat
namespace H

def foldTo (m : M.Md) (k : Nat) : M.Md × List M.Op := (m.ops.take k).foldl foldStep (m, [])
theorem foldTo_step {m : M.Md} {k : Nat} {o : M.Op} (h : m.ops[k]? = some o) : foldTo m (k + 1) = foldStep (foldTo m k) o := by
  unfold foldTo; rw [take_snoc h, List.foldl_append]; rfl
theorem foldTo_all (m : M.Md) : foldTo m m.ops.length = m.ops.foldl foldStep (m, []) := by unfold foldTo; rw [List.take_length]
theorem fold_eq (m : M.Md) : fold m = { (foldTo m m.ops.length).1 with ops := (foldTo m m.ops.length).2 } := by rw [foldTo_all]; rfl

theorem foldTo_ops (m : M.Md) : ∀ k, k ≤ m.ops.length → (foldTo m k).1.ops = m.ops ∧ (foldTo m k).1.outs = m.outs ∧ (foldTo m k).1.tensors.length = m.tensors.length ∧ (foldTo m k).2.length ≤ k
  | 0, _ => ⟨rfl, rfl, rfl, Nat.le_refl _⟩
  | k + 1, hk => by
    obtain ⟨h1, h2, h3, h4⟩ := foldTo_ops m k (by omega)
    rw [foldTo_step (List.getElem?_eq_getElem (by omega))]
    unfold foldStep
    split
    · exact ⟨h1, h2, by unfold setTo; simp [h3], by simp; omega⟩
    · exact ⟨h1, h2, h3, by simp; omega⟩

theorem fold_sol {m : M.Md} {C : List (List Int)} (s : Sol m C) : ∀ k, k ≤ m.ops.length → Sol (wo (foldTo m k).1 ((foldTo m k).2 ++ m.ops.drop k)) C
  | 0, _ => s
  | k + 1, hk => by
    have ih := fold_sol s k (by omega)
    have hx : m.ops[k]? = some m.ops[k] := List.getElem?_eq_getElem (by omega)
    rw [foldTo_step hx]
    rw [← List.getElem_cons_drop (by omega : k < m.ops.length)] at ih
    generalize m.ops[k] = o at *
    unfold foldStep
    by_cases hk' : isKnown (foldTo m k).1 o = true
    · rw [if_pos hk']
      obtain ⟨e, s'⟩ := ih.known (l := (foldTo m k).2) (r := m.ops.drop (k + 1)) (o := o) rfl hk'
      have e' : O.make (foldTo m k).1 o (M.tensorAt (foldTo m k).1 o.a).data (M.tensorAt (foldTo m k).1 o.b).data = D.cellsAt C o.to := e
      rw [e']
      exact s'
    · rw [if_neg hk']
      show Sol (wo (foldTo m k).1 ((foldTo m k).2 ++ [o] ++ m.ops.drop (k + 1))) C
      rw [List.append_assoc]; exact ih

/-- What a known operator finds. -/
theorem known_finds {m : M.Md} {C : List (List Int)} (s : Sol m C) {o : M.Op} (ho : o ∈ m.ops) (hk : isKnown m o = true) : O.Finds m o (M.tensorAt m o.a).data (M.tensorAt m o.b).data := by
  have kn : ∀ n ∈ readsL o, (M.tensorAt m n).kind ≠ 0 ∧ (M.tensorAt m n).kind ≠ 3 := by
    intro n hn
    have := List.all_eq_true.mp hk n hn
    unfold knownT at this
    simpa using this
  have k1 : ∀ n ∈ readsL o, (M.tensorAt m n).kind ≠ 2 → (M.tensorAt m n).kind = 1 := by
    intro n hn h2
    have a := s.av ho hn
    have := kn n hn
    have := s.kinds n a.1 a.2.1
    omega
  have n2 := s.not2 o ho
  have F := s.fi o ho
  have da := s.data o.a (mem_uses.mpr (.inl ⟨o, ho, mem_a o⟩)) (k1 _ (mem_a o) n2.1)
  rw [da] at F
  cases h2 : M.readsTwo o.kind with
  | false => exact finds_lb F h2
  | true =>
    have hb := mem_b h2 (not_both h2)
    rw [s.data o.b (mem_uses.mpr (.inl ⟨o, ho, hb⟩)) (k1 _ hb (n2.2 h2))] at F
    exact F
theorem foldTo_finds {m : M.Md} {C : List (List Int)} (s : Sol m C) {k : Nat} {o : M.Op} (h : m.ops[k]? = some o) (hk : isKnown (foldTo m k).1 o = true) :
    O.Finds (foldTo m k).1 o (M.tensorAt (foldTo m k).1 o.a).data (M.tensorAt (foldTo m k).1 o.b).data := by
  have hl := M.lt_of_some h
  have S := fold_sol s k (by omega)
  have ho : o ∈ (wo (foldTo m k).1 ((foldTo m k).2 ++ m.ops.drop k)).ops := by
    show o ∈ _ ++ _
    refine List.mem_append_right _ (List.mem_of_getElem? (i := 0) ?_)
    rw [List.getElem?_drop]; exact h
  have F := known_finds S ho hk
  exact ⟨F.fit, F.shape, F.quant, F.z, F.a, F.na, F.ca, F.b, F.nb, F.cb, F.w, F.lw, F.cw, F.bi, F.li, F.ci⟩

/-- Zeros as inputs. -/
def zeros (m : M.Md) : List (List Int) := (D.lengths m).map fun n => List.replicate n.toNat 0
theorem zeros_hold {m : M.Md} (h : O.One m) : D.inputsHold m (zeros m) = true := by
  unfold D.inputsHold zeros
  rw [Bool.and_eq_true, beq_iff_eq, List.all_eq_true]
  constructor
  · rw [List.map_map]
    conv => rhs; rw [← List.map_id (D.lengths m)]
    apply List.map_congr_left
    intro n hn
    unfold D.lengths at hn
    obtain ⟨t, ht, rfl⟩ := List.mem_map.mp hn
    have d := h.dim t (List.mem_filter.mp ht).1
    have : 0 ≤ M.cellsOf t := by
      unfold M.cellsOf
      exact Int.mul_nonneg (Int.mul_nonneg (by have := d.h0; omega) (by have := d.w0; omega)) (by have := d.c0; omega)
    show ((List.replicate _ (0 : Int)).length : Int) = M.cellsOf t
    rw [List.length_replicate]; omega
  · intro l hl
    obtain ⟨n, -, rfl⟩ := List.mem_map.mp hl
    rw [List.all_eq_true]
    intro v hv
    rw [List.mem_replicate] at hv
    rw [hv.2]; decide
theorem sol_one {m : M.Md} (h : O.One m) : ∃ C, Sol m C := ⟨_, sol_of h (zeros_hold h)⟩

theorem dropAt_len (m : M.Md) (i : Nat) : m.ops.length - 1 ≤ (dropAt m i).ops.length ∧ (dropAt m i).ops.length ≤ m.ops.length := by
  unfold dropAt
  cases h : m.ops[i]? with
  | none => exact ⟨by show _ ≤ m.ops.length; omega, Nat.le_refl _⟩
  | some o =>
    show _ ≤ (if uses m o.to = 0 then { m with ops := m.ops.eraseIdx i } else m : M.Md).ops.length ∧ (if uses m o.to = 0 then { m with ops := m.ops.eraseIdx i } else m : M.Md).ops.length ≤ _
    have := M.lt_of_some h
    split
    · show _ ≤ (m.ops.eraseIdx i).length ∧ (m.ops.eraseIdx i).length ≤ _
      rw [List.length_eraseIdx, if_pos this]; omega
    · omega
theorem dropAt_yes {m : M.Md} {i : Nat} {o : M.Op} (h : m.ops[i]? = some o) (hu : uses m o.to = 0) : dropAt m i = wo m (m.ops.eraseIdx i) := by unfold dropAt; rw [h]; show (if _ then _ else _) = _; rw [if_pos hu]; rfl
theorem dropAt_no {m : M.Md} {i : Nat} {o : M.Op} (h : m.ops[i]? = some o) (hu : uses m o.to ≠ 0) : dropAt m i = m := by unfold dropAt; rw [h]; show (if _ then _ else _) = _; rw [if_neg hu]

def joinTo (m : M.Md) (k : Nat) : List M.Op := (m.ops.take k).foldl (joinStep m) []
theorem joinTo_step {m : M.Md} {k : Nat} {o : M.Op} (h : m.ops[k]? = some o) : joinTo m (k + 1) = joinStep m (joinTo m k) o := by
  unfold joinTo; rw [take_snoc h, List.foldl_append]; rfl
theorem joinTo_len (m : M.Md) : ∀ k, k ≤ m.ops.length → (joinTo m k).length ≤ k
  | 0, _ => Nat.le_refl _
  | k + 1, hk => by
    have := joinTo_len m k (by omega)
    rw [joinTo_step (List.getElem?_eq_getElem (by omega))]
    unfold joinStep
    split
    · rw [List.length_modify]; omega
    · simp; omega
theorem join_eq (m : M.Md) : join m = wo m (joinTo m m.ops.length) := by unfold joinTo; rw [List.take_length]; rfl

/-- The tensors of forget, behind k. -/
def forgetTo (m : M.Md) (k : Nat) : List M.Tn := m.tensors.mapIdx fun n t => if n < k then forgetT m n t else t
theorem forgetTo_zero (m : M.Md) : forgetTo m 0 = m.tensors := by
  unfold forgetTo
  apply List.ext_getElem?
  intro i
  rw [List.getElem?_mapIdx]
  simp
theorem forgetTo_all (m : M.Md) : { m with tensors := forgetTo m m.tensors.length } = forget m := by
  unfold forget forgetTo
  congr 1
  apply List.ext_getElem?
  intro i
  rw [List.getElem?_mapIdx, List.getElem?_mapIdx]
  cases h : m.tensors[i]? with
  | none => rfl
  | some t => simp only [Option.map_some]; rw [if_pos (M.lt_of_some h)]
theorem forgetTo_get {m : M.Md} {k : Nat} {t : M.Tn} (h : m.tensors[k]? = some t) : (forgetTo m k)[k]? = some t := by
  unfold forgetTo; rw [List.getElem?_mapIdx, h]; simp
theorem forgetTo_yes {m : M.Md} {k : Nat} {t : M.Tn} (h : m.tensors[k]? = some t) (hu : uses m k = 0) : forgetTo m (k + 1) = (forgetTo m k).set k { t with data := [] } := by
  apply List.ext_getElem?
  intro i
  unfold forgetTo
  rw [List.getElem?_set, List.getElem?_mapIdx, List.getElem?_mapIdx, List.length_mapIdx]
  by_cases e : k = i
  · subst e
    rw [if_pos rfl, if_pos (M.lt_of_some h), h]
    simp [forgetT, hu]
  · rw [if_neg e]
    cases hi : m.tensors[i]? with
    | none => rfl
    | some u =>
      simp only [Option.map_some]
      by_cases c : i < k
      · rw [if_pos c, if_pos (by omega)]
      · rw [if_neg c, if_neg (by omega)]
theorem forgetTo_no {m : M.Md} {k : Nat} (hu : uses m k ≠ 0) : forgetTo m (k + 1) = forgetTo m k := by
  apply List.ext_getElem?
  intro i
  unfold forgetTo
  rw [List.getElem?_mapIdx, List.getElem?_mapIdx]
  cases hi : m.tensors[i]? with
  | none => rfl
  | some u =>
    simp only [Option.map_some]
    by_cases c : i < k
    · rw [if_pos c, if_pos (by omega)]
    · by_cases c2 : i = k
      · subst c2
        rw [if_pos (by omega), if_neg c]
        unfold forgetT
        rw [if_neg hu]
      · rw [if_neg c, if_neg (by omega)]

end H
end Go.Proofs.YtcnhfffgbamonaaGreat
