/-
  What a write to a block of another type leaves: lists, models, plans.
-/
import Derived.Test.YtcnhfffgbamonabGreatLaA
namespace Go.Proofs.YtcnhfffgbamonabGreat
open Go.RowKit

theorem owns_other {w w' : World} {base size n G : Nat} {e T : TypeId} {v : Value} {xs : List Value} {cs : Array Value} (h : w.ownsRow base e size v n xs) (hB : Blk w G T cs) (hT : T ≠ e) (hg : w.grownBy w' (some G)) : w'.ownsRow base e size v n xs := by
  refine World.ownsRow.kept h hg ?_
  cases hv : v.ownBlock with
  | none => exact .inl rfl
  | some g =>
    refine .inr ?_
    rintro e'
    injection e' with e'
    subst e'
    rcases h.2 with ⟨h1, -⟩ | ⟨g', cap, cur, h1, -, hh, -⟩
    · rw [h1] at hv; exact absurd hv (by simp [Value.ownBlock])
    · rw [h1] at hv
      simp only [Value.ownBlock] at hv
      injection hv with hv
      subst hv
      unfold Blk at hB
      rw [hh] at hB
      injection hB with hB
      injection hB with _ hB _
      exact hT hB.symm
theorem Blk.unlike {w w' : World} {b G : Nat} {t T : TypeId} {cs cs' : Array Value} (h : Blk w b t cs) (hB : Blk w G T cs') (hT : T ≠ t) (hg : w.grownBy w' (some G)) : Blk w' b t cs := by
  refine h.kept hg ?_
  intro e
  injection e with e
  subst e
  unfold Blk at h hB
  rw [h] at hB
  injection hB with hB
  injection hB with _ hB _
  exact hT hB.symm

theorem Pl.unlike {w w' : World} {p G : Nat} {md : M.Md} {x : Int} (h : Pl w p md) (hB : Die w G x) (hg : w.grownBy w' (some G)) : Pl w' p md := by
  obtain ⟨m, an, cn, ab, cb, b1, b2, h1, ⟨a1, c1, a2, c2, a3, c3, k1, ⟨ps, t1, t2, t3⟩, ⟨qs, o1, o2, o3⟩, k4⟩, h3, h4, h5, h6⟩ := h
  exact ⟨m, an, cn, ab, cb, b1, b2, h1.unlike hB (by decide) hg, ⟨a1, c1, a2, c2, a3, c3, k1.unlike hB (by decide) hg, ⟨ps, t1, owns_other t2 hB (by decide) hg, fun q hq => owns_other (t3 q hq) hB (by decide) hg⟩, ⟨qs, o1, owns_other o2 hB (by decide) hg, fun q hq => owns_other (o3 q hq) hB (by decide) hg⟩, owns_other k4 hB (by decide) hg⟩, owns_other h3 hB (by decide) hg, owns_other h4 hB (by decide) hg, h5, h6⟩

/-- A whole row, as a block. -/
theorem ints_blk {w : World} {B g n : Nat} {l : List Int} (h : Ints w B (.slice (some ⟨g, 0, none⟩) n n) l) : Blk w g 3 (l.map (Value.int .i64)).toArray := by
  have hn := h.len
  subst hn
  rcases h.2 with ⟨h', _⟩ | ⟨g', cap', cur, h', _, hg, _, _, hz, ht⟩
  · simp at h'
  · simp only [Value.slice.injEq, Option.some.injEq, Addr.mk.injEq, and_true, true_and] at h'
    obtain ⟨rfl, rfl⟩ := h'
    unfold Blk
    rw [hg]
    have e : cur.toList = l.map (Value.int .i64) := by
      rw [List.take_of_length_le (by simp [hz])] at ht
      exact ht
    rw [← e]

theorem hold_out {m : M.Md} {l : List Int} {k : Nat} {v : Int} (hk : l[k]? = some v) (hv : D.isCell v = false) : D.inputsHold m [l] = false :=
  hold_no2 (k := 0) (l := l) rfl (cells_no hk hv)
theorem hold_long {m : M.Md} {l : List Int} {n : Int} (h : D.lengths m = [n]) (hn : (l.length : Int) ≠ n) : D.inputsHold m [l] = false := by
  have e : lensOf m.tensors = [n] := h
  exact hold_no1 (k := 0) (l := l) (x := n) rfl (by rw [e]; rfl) hn
theorem hold_many {m : M.Md} {ins : List (List Int)} {n : Int} (h : D.lengths m = [n]) (hn : ins.length ≠ 1) : D.inputsHold m ins = false := by
  have e : lensOf m.tensors = [n] := h
  exact hold_len (by rw [e]; exact hn)

theorem in_hold1 (m : M.Md) (l : List Int) (h : D.lengths m = [9]) (hl : l.length = 9) (hc : D.Cells l) : D.inputsHold m [l] = true := by
  unfold D.inputsHold
  rw [h]
  simp only [List.map_cons, List.map_nil, List.all_cons, List.all_nil, Bool.and_true, Bool.and_eq_true, beq_iff_eq, List.all_eq_true]
  refine ⟨by rw [hl]; rfl, fun v hv => ?_⟩
  have := hc v hv
  unfold D.isCell
  simp; omega

theorem one_list0 {q : World} {a : Option Addr} {n c : Nat} {l : List Int} (h : Ints q 0 (.slice a n c) l) : Lists (q.alloc (.cells #[.slice a n c] 32)) 0 (.slice (some ⟨q.heap.size, 0, none⟩) 1 1) [l] :=
  lists_of (Blk.new _ _ _) rfl rfl (by decide) fun j u v hu hv => by
    match j with
    | 0 =>
      injection hu with hu
      injection hv with hv
      subst hu
      subst hv
      exact ⟨_, _, _, rfl, h.kept0 (World.grownBy_alloc _ _ _)⟩
    | j + 1 => simp at hu

/-- The eight lists that are no inputs, as they are laid. -/
abbrev bad8 (q : World) (x y z u v : Value) : World :=
  (((((((q.alloc (.cells #[] 32)).alloc (.cells #[x, x] 32)).alloc (.cells #[y] 32)).alloc (.cells #[z] 32)).alloc (.cells #[u] 32)).alloc (.cells #[v] 32)).alloc (.cells #[.slice none 0 0] 32)).alloc
    (.cells #[.slice none 0 0, .slice (some ⟨q.heap.size, 0, none⟩) 0 0, .slice (some ⟨q.heap.size + 1, 0, none⟩) 2 2, .slice (some ⟨q.heap.size + 1 + 1, 0, none⟩) 1 1, .slice (some ⟨q.heap.size + 1 + 1 + 1, 0, none⟩) 1 1,
      .slice (some ⟨q.heap.size + 1 + 1 + 1 + 1, 0, none⟩) 1 1, .slice (some ⟨q.heap.size + 1 + 1 + 1 + 1 + 1, 0, none⟩) 1 1, .slice (some ⟨q.heap.size + 1 + 1 + 1 + 1 + 1 + 1, 0, none⟩) 1 1] 38)
theorem bad_gr (q : World) (x y z u v : Value) : q.grownBy (bad8 q x y z u v) none :=
  gr_trans (gr_trans (gr_trans (gr_alloc2 _ _ _ _) (gr_alloc2 _ _ _ _)) (gr_alloc2 _ _ _ _)) (gr_alloc2 _ _ _ _)

theorem one_of_blk {F q : World} {G : Nat} {a : Option Addr} {n c : Nat} {l : List Int} (hB : Blk F G 32 #[.slice a n c]) (h : Ints q 0 (.slice a n c) l) (hg : q.grownBy F none) : Lists F 0 (.slice (some ⟨G, 0, none⟩) 1 1) [l] :=
  lists_of hB rfl rfl (by decide) fun j u v hu hv => by
    match j with
    | 0 =>
      injection hu with hu
      injection hv with hv
      subst hu
      subst hv
      exact ⟨_, _, _, rfl, h.kept0 hg⟩
    | j + 1 => simp at hu

set_option maxHeartbeats 1000000 in
theorem bad_key (q : World) (m : M.Md) (lx ly lz lu lv : List Int) (nx ny nz nu nv : Nat) (ax ay az au av : Option Addr) (cx cy cz cu cv : Nat) (hm : D.lengths m = [9])
    (Ix : Ints q 0 (.slice ax nx cx) lx) (Iy : Ints q 0 (.slice ay ny cy) ly) (Iz : Ints q 0 (.slice az nz cz) lz) (Iu : Ints q 0 (.slice au nu cu) lu) (Iv : Ints q 0 (.slice av nv cv) lv)
    (Lx : lx.length = 9) (Ly : ly.length = 8) (Lz : lz.length = 10) (Lu : lu.length = 9) (Lv : lv.length = 9) {iu iv : Nat} (Hu : lu[iu]? = some 128) (Hv : lv[iv]? = some (-129)) :
    ∀ k, k < 8 → ∃ va vn vc ins, (bad8 q (.slice ax nx cx) (.slice ay ny cy) (.slice az nz cz) (.slice au nu cu) (.slice av nv cv)).cell? ⟨q.heap.size + 1 + 1 + 1 + 1 + 1 + 1 + 1, k, none⟩ = some (.slice va vn vc) ∧
      Lists (bad8 q (.slice ax nx cx) (.slice ay ny cy) (.slice az nz cz) (.slice au nu cu) (.slice av nv cv)) 0 (.slice va vn vc) ins ∧ D.inputsHold m ins = false ∧ (∀ l ∈ ins, l.length ≤ 10) ∧ ins.length ≤ 2 := by
  have G := bad_gr q (.slice ax nx cx) (.slice ay ny cy) (.slice az nz cz) (.slice au nu cu) (.slice av nv cv)
  have B0 : Blk (bad8 q (.slice ax nx cx) (.slice ay ny cy) (.slice az nz cz) (.slice au nu cu) (.slice av nv cv)) q.heap.size 32 #[] := (((((((Blk.new q _ _).alloc _).alloc _).alloc _).alloc _).alloc _).alloc _).alloc _
  have B1 : Blk (bad8 q (.slice ax nx cx) (.slice ay ny cy) (.slice az nz cz) (.slice au nu cu) (.slice av nv cv)) (q.heap.size + 1) 32 #[.slice ax nx cx, .slice ax nx cx] := ((((((by have e := Blk.new (q.alloc (.cells #[] 32)) 32 #[.slice ax nx cx, .slice ax nx cx]; rw [World.size_alloc] at e; exact e : Blk _ _ _ _).alloc _).alloc _).alloc _).alloc _).alloc _).alloc _
  have B2 : Blk (bad8 q (.slice ax nx cx) (.slice ay ny cy) (.slice az nz cz) (.slice au nu cu) (.slice av nv cv)) (q.heap.size + 1 + 1) 32 #[.slice ay ny cy] := (((((by have e := Blk.new ((q.alloc (.cells #[] 32)).alloc (.cells #[.slice ax nx cx, .slice ax nx cx] 32)) 32 #[.slice ay ny cy]; rw [World.size_alloc, World.size_alloc] at e; exact e : Blk _ _ _ _).alloc _).alloc _).alloc _).alloc _).alloc _
  have B3 : Blk (bad8 q (.slice ax nx cx) (.slice ay ny cy) (.slice az nz cz) (.slice au nu cu) (.slice av nv cv)) (q.heap.size + 1 + 1 + 1) 32 #[.slice az nz cz] := ((((by have e := Blk.new (((q.alloc (.cells #[] 32)).alloc (.cells #[.slice ax nx cx, .slice ax nx cx] 32)).alloc (.cells #[.slice ay ny cy] 32)) 32 #[.slice az nz cz]; rw [World.size_alloc, World.size_alloc, World.size_alloc] at e; exact e : Blk _ _ _ _).alloc _).alloc _).alloc _).alloc _
  have B4 : Blk (bad8 q (.slice ax nx cx) (.slice ay ny cy) (.slice az nz cz) (.slice au nu cu) (.slice av nv cv)) (q.heap.size + 1 + 1 + 1 + 1) 32 #[.slice au nu cu] := (((by have e := Blk.new ((((q.alloc (.cells #[] 32)).alloc (.cells #[.slice ax nx cx, .slice ax nx cx] 32)).alloc (.cells #[.slice ay ny cy] 32)).alloc (.cells #[.slice az nz cz] 32)) 32 #[.slice au nu cu]; rw [World.size_alloc, World.size_alloc, World.size_alloc, World.size_alloc] at e; exact e : Blk _ _ _ _).alloc _).alloc _).alloc _
  have B5 : Blk (bad8 q (.slice ax nx cx) (.slice ay ny cy) (.slice az nz cz) (.slice au nu cu) (.slice av nv cv)) (q.heap.size + 1 + 1 + 1 + 1 + 1) 32 #[.slice av nv cv] := ((by have e := Blk.new (((((q.alloc (.cells #[] 32)).alloc (.cells #[.slice ax nx cx, .slice ax nx cx] 32)).alloc (.cells #[.slice ay ny cy] 32)).alloc (.cells #[.slice az nz cz] 32)).alloc (.cells #[.slice au nu cu] 32)) 32 #[.slice av nv cv]; rw [World.size_alloc, World.size_alloc, World.size_alloc, World.size_alloc, World.size_alloc] at e; exact e : Blk _ _ _ _).alloc _).alloc _
  have B6 : Blk (bad8 q (.slice ax nx cx) (.slice ay ny cy) (.slice az nz cz) (.slice au nu cu) (.slice av nv cv)) (q.heap.size + 1 + 1 + 1 + 1 + 1 + 1) 32 #[.slice none 0 0] := (by have e := Blk.new ((((((q.alloc (.cells #[] 32)).alloc (.cells #[.slice ax nx cx, .slice ax nx cx] 32)).alloc (.cells #[.slice ay ny cy] 32)).alloc (.cells #[.slice az nz cz] 32)).alloc (.cells #[.slice au nu cu] 32)).alloc (.cells #[.slice av nv cv] 32)) 32 #[.slice none 0 0]; rw [World.size_alloc, World.size_alloc, World.size_alloc, World.size_alloc, World.size_alloc, World.size_alloc] at e; exact e : Blk _ _ _ _).alloc _
  have B7 := (by have e := Blk.new (((((((q.alloc (.cells #[] 32)).alloc (.cells #[.slice ax nx cx, .slice ax nx cx] 32)).alloc (.cells #[.slice ay ny cy] 32)).alloc (.cells #[.slice az nz cz] 32)).alloc (.cells #[.slice au nu cu] 32)).alloc (.cells #[.slice av nv cv] 32)).alloc (.cells #[.slice none 0 0] 32)) 38 #[.slice none 0 0, .slice (some ⟨q.heap.size, 0, none⟩) 0 0, .slice (some ⟨q.heap.size + 1, 0, none⟩) 2 2, .slice (some ⟨q.heap.size + 1 + 1, 0, none⟩) 1 1, .slice (some ⟨q.heap.size + 1 + 1 + 1, 0, none⟩) 1 1, .slice (some ⟨q.heap.size + 1 + 1 + 1 + 1, 0, none⟩) 1 1, .slice (some ⟨q.heap.size + 1 + 1 + 1 + 1 + 1, 0, none⟩) 1 1, .slice (some ⟨q.heap.size + 1 + 1 + 1 + 1 + 1 + 1, 0, none⟩) 1 1]; rw [World.size_alloc, World.size_alloc, World.size_alloc, World.size_alloc, World.size_alloc, World.size_alloc, World.size_alloc] at e; exact e :
    Blk (bad8 q (.slice ax nx cx) (.slice ay ny cy) (.slice az nz cz) (.slice au nu cu) (.slice av nv cv)) (q.heap.size + 1 + 1 + 1 + 1 + 1 + 1 + 1) 38 _)
  have one : ∀ {l : List Int}, l.length ≤ 10 → (∀ l' ∈ [l], l'.length ≤ 10) := by intro l hl l' h; simp at h; subst h; exact hl
  intro k hk
  match k with
  | 0 => exact ⟨none, 0, 0, [], B7.cell 0, ⟨[], rfl, World.ownsRow_nil _ _ _ _, by intro i u l h; simp at h⟩, hold_many hm (by decide), by simp, by decide⟩
  | 1 => exact ⟨_, 0, 0, [], B7.cell 1, lists_of B0 rfl rfl (by decide) (by intro j u l h; simp at h), hold_many hm (by decide), by simp, by decide⟩
  | 2 => exact ⟨_, 2, 2, [lx, lx], B7.cell 2, lists_of B1 rfl rfl (by decide) (fun j u l hu hl => by
      match j with
      | 0 => injection hu with hu; injection hl with hl; subst hu; subst hl; exact ⟨_, _, _, rfl, Ix.kept0 G⟩
      | 1 => injection hu with hu; injection hl with hl; subst hu; subst hl; exact ⟨_, _, _, rfl, Ix.kept0 G⟩
      | j + 2 => simp at hu), hold_many hm (by simp), by intro l h; simp at h; subst h; omega, by simp⟩
  | 3 => exact ⟨_, 1, 1, [ly], B7.cell 3, one_of_blk B2 Iy G, hold_long hm (by rw [Ly]; decide), one (by omega), by simp⟩
  | 4 => exact ⟨_, 1, 1, [lz], B7.cell 4, one_of_blk B3 Iz G, hold_long hm (by rw [Lz]; decide), one (by omega), by simp⟩
  | 5 => exact ⟨_, 1, 1, [lu], B7.cell 5, one_of_blk B4 Iu G, hold_out Hu (by decide), one (by omega), by simp⟩
  | 6 => exact ⟨_, 1, 1, [lv], B7.cell 6, one_of_blk B5 Iv G, hold_out Hv (by decide), one (by omega), by simp⟩
  | 7 => exact ⟨_, 1, 1, [[]], B7.cell 7, one_of_blk B6 (Ints.nil _ _) (World.grownBy.refl _ _), hold_long hm (by decide), one (by decide), by simp⟩
  | k + 8 => exact absurd hk (by omega)

end Go.Proofs.YtcnhfffgbamonabGreat
