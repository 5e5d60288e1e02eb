import Derived.KernelRfl
import Derived.Test.YtcnhfffgbamonaaGreatPlB
import Derived.Test.YtcnhfffgbamonaaGreatHsA
/-
  Stage 3's models of the laws: Fuse, Dead, Known, Chain: what they make, how many steps are left, how much room.
-/
namespace Go.Proofs.YtcnhfffgbamonaaGreat
namespace D

def oClamp (a to lo hi : Int) : M.Op :=
  { kind := 7, a := a, b := 0, weights := 0, biases := 0, to := to, size := 0, stride := 0, same := false, scales := [], lo := lo, hi := hi, above := 0, below := 0, left := 0, right := 0 }
theorem fit_clamp {a to lo hi : Int} (ha : Byte a) (ht : Byte to) (hl : Cell lo) (hh : Cell hi) : FitO (oClamp a to lo hi) :=
  ⟨show (1 : Int) ≤ 7 by decide, show (7 : Int) ≤ 10 by decide, ha, b0, b0, b0, ht, fun _ => ⟨rfl, rfl⟩, fun _ => rfl, b0, b0, b0, b0, b0, b0, hl, hh, fun _ => rfl, fun _ => rfl, fun _ => rfl, fun _ => ⟨rfl, rfl, rfl, rfl⟩, fun h => absurd (show 1 ≤ (7 : Int) ∧ (7 : Int) ≤ 7 by decide) h, rfl, fun c hc => absurd hc (show ¬ c ∈ [] by simp)⟩
theorem mem6 {α : Type} {P : α → Prop} {a b c d e f : α} (ha : P a) (hb : P b) (hc : P c) (hd : P d) (he : P e) (hf : P f) : ∀ x ∈ [a, b, c, d, e, f], P x := by
  intro x hx
  simp only [List.mem_cons, List.not_mem_nil, or_false] at hx
  rcases hx with rfl | rfl | rfl | rfl | rfl | rfl <;> assumption
theorem quant_clamp {m : M.Md} {a to lo hi : Int} (hl : lo ≤ hi) (hz : (M.tensorAt m a).zero = (M.tensorAt m to).zero) : M.quantOp m (oClamp a to lo hi) = true := by
  show (!(decide (hi < lo)) && ([] : List M.Sc).all M.scaleHolds && ((M.tensorAt m a).zero == (M.tensorAt m to).zero)) = true
  rw [hz]; simp; omega

-- Fuse
/-- fuse's first model, with its outputs. -/
def mFuse (l1 h1 l2 h2 z : Int) (cells bias : List Int) (zo : Int) (s : M.Sc) (outs : List Int) : M.Md :=
  ⟨[tIn 4 3 2 z, tConst 2 2 4 cells, tBias 2 bias, tMid 4 3 2 zo, tMid 4 3 2 zo], [oConv 1 0 1 2 3 1 true s l1 h1, oClamp 3 4 l2 h2], outs⟩
def rFuse (z : Int) (cells bias : List Int) (zo : Int) (x : List Int) : Reads := ⟨tIn 4 3 2 z, x, tIn 4 3 2 z, x, tConst 2 2 4 cells, cells, bias, tMid 4 3 2 zo⟩

theorem run_fuse (l1 h1 l2 h2 z : Int) (cells bias : List Int) (zo : Int) (s : M.Sc) (x : List Int) : run (mFuse l1 h1 l2 h2 z cells bias zo s [4]) [x] =
    [grid (tMid 4 3 2 zo) (cell (oClamp 3 4 l2 h2) ⟨tMid 4 3 2 zo, grid (tMid 4 3 2 zo) (cell (oConv 1 0 1 2 3 1 true s l1 h1) (rFuse z cells bias zo x)), tIn 4 3 2 z, x, tIn 4 3 2 z, x, x, tMid 4 3 2 zo⟩)] := by kernel_rfl
theorem fuse_alike (l1 h1 l2 h2 z : Int) (cells bias : List Int) (zo : Int) (s : M.Sc) (x : List Int) (ha : l1 ≤ h1) (hb : l2 ≤ h2) :
    run (mFuse l1 h1 l2 h2 z cells bias zo s [4]) [x] = run (mWin 4 3 2 2 2 true (R.between l1 l2 h2) (R.between h1 l2 h2) z cells bias zo s) [x] := by
  rw [run_win, run_fuse]
  have e2 : (tMid (if true = true then 4 else 4 - 2 + 1) (if true = true then 3 else 3 - 2 + 1) 2 zo) = tMid 4 3 2 zo := rfl
  rw [e2]
  refine congrArg (fun l => [l]) ?_
  refine grid_congr (fun y v c hy0 hy1 hx0 hx1 hc0 hc1 => ?_) (show (0 : Int) ≤ 3 by decide) (show (0 : Int) ≤ 2 by decide)
  rw [cell_clamp _ _ _ _ rfl, at_grid rfl rfl hy0 hy1 hx0 hx1 hc0 hc1, cell_conv _ _ _ _ (.inl rfl), cell_conv _ _ _ _ (.inl rfl)]
  exact H.between_twice ha hb
theorem is_fuse (l1 h1 l2 h2 z : Int) (cells bias : List Int) (zo : Int) (s : M.Sc) (outs : List Int) (ho : outs = [4] ∨ outs = [4, 3]) (hl1 : Cell l1) (hh1 : Cell h1) (h1' : l1 ≤ h1) (hl2 : Cell l2) (hh2 : Cell h2) (h2' : l2 ≤ h2) (hz : ZOk z) (hzo : ZOk zo)
    (hc : Cells cells) (hcl : cells.length = 16) (hb : BOk bias) (hbl : bias.length = 2) (hs : SOk s) : Is (mFuse l1 h1 l2 h2 z cells bias zo s outs) := by
  rcases ho with rfl | rfl
  · refine Is.mk' ⟨show 5 ≤ 255 by decide, show 2 ≤ 255 by decide, show 1 ≤ 255 by decide, mem5 (fit_in (by decide) (by decide) (by decide) hz) (fit_const (by decide) (by decide) (by decide) (by rw [hcl]; rfl) hc) (fit_bias (by decide) (by rw [hbl]; rfl) hb) (fit_mid (by decide) (by decide) (by decide) hzo) (fit_mid (by decide) (by decide) (by decide) hzo),
      mem2 (fit_conv (.inl rfl) b0 (B (by decide) (by decide)) (B (by decide) (by decide)) (B (by decide) (by decide)) (B (by decide) (by decide)) hl1 hh1 hs.fit) (fit_clamp (B (by decide) (by decide)) (B (by decide) (by decide)) hl2 hh2), mem1 (B (by decide) (by decide))⟩ 400 ?_ (show 27 * 2 + 1 + 400 ≤ 4089 by decide) (check_of rfl rfl rfl ?_)
    · show 5 + 4 * 0 + (5 + 4 * cells.length + (5 + 4 * bias.length + (5 + 4 * 0 + (5 + 4 * 0 + 0)))) ≤ 400
      omega
    · exact quants_of (mem5 (bh_in _ _ _ _) (bh_const _ _ _ _) (bh_bias hb) (bh_mid _ _ _ _) (bh_mid _ _ _ _)) (mem2 (quant_conv (.inl rfl) h1' hs rfl) (quant_clamp h2' rfl))
  · refine Is.mk' ⟨show 5 ≤ 255 by decide, show 2 ≤ 255 by decide, show 2 ≤ 255 by decide, mem5 (fit_in (by decide) (by decide) (by decide) hz) (fit_const (by decide) (by decide) (by decide) (by rw [hcl]; rfl) hc) (fit_bias (by decide) (by rw [hbl]; rfl) hb) (fit_mid (by decide) (by decide) (by decide) hzo) (fit_mid (by decide) (by decide) (by decide) hzo),
      mem2 (fit_conv (.inl rfl) b0 (B (by decide) (by decide)) (B (by decide) (by decide)) (B (by decide) (by decide)) (B (by decide) (by decide)) hl1 hh1 hs.fit) (fit_clamp (B (by decide) (by decide)) (B (by decide) (by decide)) hl2 hh2), mem2 (B (by decide) (by decide)) (B (by decide) (by decide))⟩ 400 ?_ (show 27 * 2 + 2 + 400 ≤ 4089 by decide) (check_of rfl rfl rfl ?_)
    · show 5 + 4 * 0 + (5 + 4 * cells.length + (5 + 4 * bias.length + (5 + 4 * 0 + (5 + 4 * 0 + 0)))) ≤ 400
      omega
    · exact quants_of (mem5 (bh_in _ _ _ _) (bh_const _ _ _ _) (bh_bias hb) (bh_mid _ _ _ _) (bh_mid _ _ _ _)) (mem2 (quant_conv (.inl rfl) h1' hs rfl) (quant_clamp h2' rfl))
theorem steps_of {m f d : M.Md} {n : Nat} (h1 : H.fold m = f) (h2 : H.drop f = d) (h3 : (H.join d).ops.length = n) : (H.shrink m).ops.length = n := by
  subst h1 h2; exact h3
theorem steps_fuse (l1 h1 l2 h2 z : Int) (cells bias : List Int) (zo : Int) (s : M.Sc) : (H.shrink (mFuse l1 h1 l2 h2 z cells bias zo s [4])).ops.length = 1 :=
  steps_of (f := mFuse l1 h1 l2 h2 z cells bias zo s [4]) (d := mFuse l1 h1 l2 h2 z cells bias zo s [4]) rfl rfl rfl
theorem steps_fuse2 (l1 h1 l2 h2 z : Int) (cells bias : List Int) (zo : Int) (s : M.Sc) : (H.shrink (mFuse l1 h1 l2 h2 z cells bias zo s [4, 3])).ops.length = 2 :=
  steps_of (f := mFuse l1 h1 l2 h2 z cells bias zo s [4, 3]) (d := mFuse l1 h1 l2 h2 z cells bias zo s [4, 3]) rfl rfl rfl

-- Dead
def mDead (z : Int) (cells bias : List Int) (zo : Int) (s : M.Sc) : M.Md :=
  ⟨[tIn 3 3 2 z, tConst 2 2 4 cells, tBias 2 bias, tMid 2 2 2 zo, tMid 2 2 2 zo, tMid 4 2 1 zo], [oConv 1 0 1 2 3 1 false s (-128) 127, oClamp 3 4 (-3) 3, oShape 4 5], [3]⟩
theorem dead_alike (z : Int) (cells bias : List Int) (zo : Int) (s : M.Sc) (x : List Int) : run (mWin 3 3 2 2 2 false (-128) 127 z cells bias zo s) [x] = run (mDead z cells bias zo s) [x] := by kernel_rfl
theorem is_dead (z : Int) (cells bias : List Int) (zo : Int) (s : M.Sc) (hz : ZOk z) (hzo : ZOk zo) (hc : Cells cells) (hcl : cells.length = 16) (hb : BOk bias) (hbl : bias.length = 2) (hs : SOk s) : Is (mDead z cells bias zo s) := by
  refine Is.mk' ⟨show 6 ≤ 255 by decide, show 3 ≤ 255 by decide, show 1 ≤ 255 by decide, mem6 (fit_in (by decide) (by decide) (by decide) hz) (fit_const (by decide) (by decide) (by decide) (by rw [hcl]; rfl) hc) (fit_bias (by decide) (by rw [hbl]; rfl) hb) (fit_mid (by decide) (by decide) (by decide) hzo) (fit_mid (by decide) (by decide) (by decide) hzo) (fit_mid (by decide) (by decide) (by decide) hzo),
    mem3 (fit_conv (.inl rfl) b0 (B (by decide) (by decide)) (B (by decide) (by decide)) (B (by decide) (by decide)) (B (by decide) (by decide)) wide.1 wide.2.1 hs.fit) (fit_clamp (B (by decide) (by decide)) (B (by decide) (by decide)) ⟨by decide, by decide⟩ ⟨by decide, by decide⟩) (fit_shape (B (by decide) (by decide)) (B (by decide) (by decide))), mem1 (B (by decide) (by decide))⟩ 400 ?_ (show 27 * 3 + 1 + 400 ≤ 4089 by decide) (check_of rfl rfl rfl ?_)
  · show 5 + 4 * 0 + (5 + 4 * cells.length + (5 + 4 * bias.length + (5 + 4 * 0 + (5 + 4 * 0 + (5 + 4 * 0 + 0))))) ≤ 400
    omega
  · refine quants_of (mem6 (bh_in _ _ _ _) (bh_const _ _ _ _) (bh_bias hb) (bh_mid _ _ _ _) (bh_mid _ _ _ _) (bh_mid _ _ _ _)) (mem3 (quant_conv (.inl rfl) (by decide) hs rfl) (quant_clamp (by decide) rfl) ?_)
    show (!(decide ((0 : Int) < 0)) && ([] : List M.Sc).all M.scaleHolds && (zo == zo)) = true
    simp
theorem steps_dead (z : Int) (cells bias : List Int) (zo : Int) (s : M.Sc) : (H.shrink (mDead z cells bias zo s)).ops.length = 1 :=
  steps_of (f := mDead z cells bias zo s) (d := ⟨(mDead z cells bias zo s).tensors, [oConv 1 0 1 2 3 1 false s (-128) 127], [3]⟩) rfl rfl rfl
theorem steps_win (h w c k o : Int) (same : Bool) (lo hi z : Int) (cells bias : List Int) (zo : Int) (s : M.Sc) : (H.shrink (mWin h w c k o same lo hi z cells bias zo s)).ops.length = 1 := rfl

-- Known
def tKn (kind z : Int) (l : List Int) : M.Tn := ⟨kind, 2, 3, 2, z, l⟩
def mKnown (kind z : Int) (u v : List Int) (zo : Int) (s t r : M.Sc) : M.Md :=
  ⟨[tKn kind z u, tKn kind z v, tMid 2 3 4 z, tMid 2 3 2 zo, tMid 1 2 4 z], [oCat 0 1 2, oAdd 0 1 3 s t r (-100) 100, oPool 5 2 4 2 1 (-128) 90], [3, 4, 2]⟩
theorem cell_only (o : M.Op) (r : Reads) (a b w : M.Tn) (bl : List Int) (hW : M.hasWeights o.kind = false) (ea : a.h = r.a.h ∧ a.w = r.a.w ∧ a.c = r.a.c ∧ a.zero = r.a.zero) (eb : b.h = r.b.h ∧ b.w = r.b.w ∧ b.c = r.b.c ∧ b.zero = r.b.zero) (lw : List Int) :
    cell o ⟨a, r.la, b, r.lb, w, lw, bl, r.z⟩ = cell o r := by
  obtain ⟨ra, rla, rb, rlb, rw_, rlw, rbl, rz⟩ := r
  obtain ⟨k, h, w', c, zr, d⟩ := a
  obtain ⟨k2, h2, w2, c2, z2, d2⟩ := b
  obtain ⟨k3, h3, w3, c3, z3, d3⟩ := ra
  obtain ⟨k4, h4, w4, c4, z4, d4⟩ := rb
  obtain ⟨rfl, rfl, rfl, rfl⟩ := ea
  obtain ⟨rfl, rfl, rfl, rfl⟩ := eb
  funext y x q
  have h13 : ¬ (o.kind = 1 ∨ o.kind = 2) := by rintro (h | h) <;> rw [h] at hW <;> exact absurd hW (by decide)
  have h3' : ¬ o.kind = 3 := by intro h; rw [h] at hW; exact absurd hW (by decide)
  unfold cell
  rw [if_neg h13, if_neg h3', if_neg h13, if_neg h3']
  rfl
theorem run_known (kind z : Int) (u v : List Int) (zo : Int) (s t r : M.Sc) (ins : List (List Int)) (x y : List Int) (h : start (mKnown kind z u v zo s t r).tensors ins = [x, y, [], [], []]) :
    run (mKnown kind z u v zo s t r) ins = [grid (tMid 2 3 2 zo) (cell (oAdd 0 1 3 s t r (-100) 100) ⟨tKn kind z u, x, tKn kind z v, y, tKn kind z u, x, x, tMid 2 3 2 zo⟩),
      grid (tMid 1 2 4 z) (cell (oPool 5 2 4 2 1 (-128) 90) ⟨tMid 2 3 4 z, grid (tMid 2 3 4 z) (cell (oCat 0 1 2) ⟨tKn kind z u, x, tKn kind z v, y, tKn kind z u, x, x, tMid 2 3 4 z⟩), tKn kind z u, x, tKn kind z u, x, x, tMid 1 2 4 z⟩),
      grid (tMid 2 3 4 z) (cell (oCat 0 1 2) ⟨tKn kind z u, x, tKn kind z v, y, tKn kind z u, x, x, tMid 2 3 4 z⟩)] := by
  unfold run env
  rw [h]
  kernel_rfl
theorem known_alike (z : Int) (x y : List Int) (zo : Int) (s t r : M.Sc) : run (mKnown 0 z [] [] zo s t r) [x, y] = run (mKnown 1 z x y zo s t r) [] := by
  rw [run_known 0 z [] [] zo s t r [x, y] x y rfl, run_known 1 z x y zo s t r [] x y rfl]
  have e1 : cell (oAdd 0 1 3 s t r (-100) 100) ⟨tKn 0 z [], x, tKn 0 z [], y, tKn 0 z [], x, x, tMid 2 3 2 zo⟩ = cell (oAdd 0 1 3 s t r (-100) 100) ⟨tKn 1 z x, x, tKn 1 z y, y, tKn 1 z x, x, x, tMid 2 3 2 zo⟩ :=
    cell_only _ ⟨tKn 1 z x, x, tKn 1 z y, y, tKn 1 z x, x, x, tMid 2 3 2 zo⟩ _ _ _ _ rfl ⟨rfl, rfl, rfl, rfl⟩ ⟨rfl, rfl, rfl, rfl⟩ _
  have e2 : cell (oCat 0 1 2) ⟨tKn 0 z [], x, tKn 0 z [], y, tKn 0 z [], x, x, tMid 2 3 4 z⟩ = cell (oCat 0 1 2) ⟨tKn 1 z x, x, tKn 1 z y, y, tKn 1 z x, x, x, tMid 2 3 4 z⟩ :=
    cell_only _ ⟨tKn 1 z x, x, tKn 1 z y, y, tKn 1 z x, x, x, tMid 2 3 4 z⟩ _ _ _ _ rfl ⟨rfl, rfl, rfl, rfl⟩ ⟨rfl, rfl, rfl, rfl⟩ _
  have e3 : ∀ g : List Int, cell (oPool 5 2 4 2 1 (-128) 90) ⟨tMid 2 3 4 z, g, tKn 0 z [], x, tKn 0 z [], x, x, tMid 1 2 4 z⟩ = cell (oPool 5 2 4 2 1 (-128) 90) ⟨tMid 2 3 4 z, g, tKn 1 z x, x, tKn 1 z x, x, x, tMid 1 2 4 z⟩ :=
    fun g => cell_only _ ⟨tMid 2 3 4 z, g, tKn 1 z x, x, tKn 1 z x, x, x, tMid 1 2 4 z⟩ _ _ _ _ rfl ⟨rfl, rfl, rfl, rfl⟩ ⟨rfl, rfl, rfl, rfl⟩ _
  rw [e1, e2, e3]
set_option maxHeartbeats 2000000 in
theorem steps_known (z : Int) (x y : List Int) (zo : Int) (s t r : M.Sc) : (H.shrink (mKnown 1 z x y zo s t r)).ops.length = 0 := rfl
theorem fit_kn {kind z : Int} {l : List Int} (hz : ZOk z) (h : kind = 0 ∧ l = [] ∨ kind = 1 ∧ l.length = 12 ∧ Cells l) : FitT (tKn kind z l) := by
  rcases h with ⟨rfl, rfl⟩ | ⟨rfl, hl, hc⟩
  · exact fit_in (by decide) (by decide) (by decide) hz
  · exact ⟨show (0 : Int) ≤ 1 by decide, show (1 : Int) ≤ 3 by decide, show (0 : Int) ≤ 2 by decide, show (2 : Int) ≤ 255 by decide, show (0 : Int) ≤ 3 by decide, show (3 : Int) ≤ 255 by decide, show (0 : Int) ≤ 2 by decide, show (2 : Int) ≤ 255 by decide, hz.1, hz.2, fun h => absurd rfl h, fun _ => ⟨by show (2 : Int) * 3 * 2 = (l.length : Int); rw [hl]; rfl, hc⟩, fun h => absurd h (show ¬ (1 : Int) = 2 by decide)⟩
theorem is_known (kind z : Int) (u v : List Int) (zo : Int) (s t r : M.Sc) (hu : kind = 0 ∧ u = [] ∧ v = [] ∨ kind = 1 ∧ (u.length = 12 ∧ Cells u) ∧ (v.length = 12 ∧ Cells v)) (hz : ZOk z) (hzo : ZOk zo) (hs : SOk s) (ht : SOk t) (hr : SOk r) : Is (mKnown kind z u v zo s t r) := by
  have q : (!(decide ((100 : Int) < -100)) && [s, t, r].all M.scaleHolds && true) = true := by
    simp only [List.all_cons, List.all_nil, hs.holds, ht.holds, hr.holds]; decide
  have q1 : (!(decide ((0 : Int) < 0)) && ([] : List M.Sc).all M.scaleHolds && ((z == z) && (z == z))) = true := by simp
  have q2 : (!(decide ((90 : Int) < -128)) && ([] : List M.Sc).all M.scaleHolds && (z == z)) = true := by simp
  have os : ∀ o ∈ (mKnown kind z u v zo s t r).ops, FitO o := mem3 (fit_cat b0 (B (by decide) (by decide)) (B (by decide) (by decide))) (fit_add (B (by decide) (by decide)) (B (by decide) (by decide)) (B (by decide) (by decide)) ⟨by decide, by decide⟩ ⟨by decide, by decide⟩ hs.fit ht.fit hr.fit) (fit_pool (.inl rfl) (B (by decide) (by decide)) (B (by decide) (by decide)) (B (by decide) (by decide)) (B (by decide) (by decide)) wide.1 ⟨by decide, by decide⟩)
  have us : ∀ n ∈ (mKnown kind z u v zo s t r).outs, Byte n := mem3 (B (by decide) (by decide)) (B (by decide) (by decide)) (B (by decide) (by decide))
  have f1 : FitT (tKn kind z u) := fit_kn hz (hu.elim (fun h => .inl ⟨h.1, h.2.1⟩) fun h => .inr ⟨h.1, h.2.1⟩)
  have f2 : FitT (tKn kind z v) := fit_kn hz (hu.elim (fun h => .inl ⟨h.1, h.2.2⟩) fun h => .inr ⟨h.1, h.2.2⟩)
  have ts : ∀ t' ∈ (mKnown kind z u v zo s t r).tensors, FitT t' := mem5 f1 f2 (fit_mid (by decide) (by decide) (by decide) hz) (fit_mid (by decide) (by decide) (by decide) hzo) (fit_mid (by decide) (by decide) (by decide) hz)
  refine Is.mk' ⟨show 5 ≤ 255 by decide, show 3 ≤ 255 by decide, show 3 ≤ 255 by decide, ts, os, us⟩ 400 ?_ (show 27 * 3 + 3 + 400 ≤ 4089 by decide) ?_
  · show 5 + 4 * u.length + (5 + 4 * v.length + (5 + 4 * 0 + (5 + 4 * 0 + (5 + 4 * 0 + 0)))) ≤ 400
    rcases hu with ⟨-, rfl, rfl⟩ | ⟨-, ⟨h1, -⟩, ⟨h2, -⟩⟩
    · decide
    · omega
  · rcases hu with ⟨rfl, rfl, rfl⟩ | ⟨rfl, -, -⟩
    · exact check_of rfl rfl rfl (quants_of (mem5 rfl rfl rfl rfl rfl) (mem3 q1 q q2))
    · exact check_of rfl rfl rfl (quants_of (mem5 rfl rfl rfl rfl rfl) (mem3 q1 q q2))

end D
end Go.Proofs.YtcnhfffgbamonaaGreat

/-
  Chain: n operators over k cells each: room for two of them.
-/
namespace Go.Proofs.YtcnhfffgbamonaaGreat
namespace H

/-- Lives of a chain. -/
def chL (k : Int) (i : Nat) : Life := ⟨i, i + 1, k⟩
def chLv (n : Nat) (k : Int) : List Life := (List.range n).map (chL k)
/-- Where they lie, the first j of n. -/
def chB (k : Int) (j i : Nat) : Bf := if i < j then ⟨if i % 2 = 0 then 0 else k, k⟩ else noB
def chLd (n : Nat) (k : Int) (j : Nat) : List Bf := (List.range n).map (chB k j)

theorem chLv_get (n : Nat) (k : Int) (i : Nat) (h : i < n) : (chLv n k).getD i noL = chL k i := by
  unfold chLv; rw [List.getD, List.getElem?_map, List.getElem?_range h]; rfl
theorem chLd_get (n : Nat) (k : Int) (j i : Nat) (h : i < n) : (chLd n k j).getD i noB = chB k j i := by
  unfold chLd; rw [List.getD, List.getElem?_map, List.getElem?_range h]; rfl
theorem chLd_len (n : Nat) (k : Int) (j : Nat) : (chLd n k j).length = n := by simp [chLd]
theorem chLv_len (n : Nat) (k : Int) : (chLv n k).length = n := by simp [chLv]

theorem ch_free {n : Nat} {k : Int} {j : Nat} {p : Int} (hp : p = 0 ∨ p = k) (hk : 0 < k) (h : 0 < j → p ≠ (if (j - 1) % 2 = 0 then 0 else k)) : isFree (chLv n k) (chLd n k j) (chL k j) p = true := by
  unfold isFree
  refine free_iff.mpr fun i hi => ?_
  rw [chLv_len, chLd_len, Nat.min_self] at hi
  rw [chLv_get n k i hi, chLd_get n k j i hi]
  unfold clash meet chL chB Bf.e noB
  simp only
  by_cases c : i < j
  · rw [if_pos c]
    simp only
    by_cases c2 : i + 1 = j
    · have h' := h (by omega)
      have e : j - 1 = i := by omega
      rw [e] at h'
      split at h'
      · rename_i c3
        rw [if_pos c3]
        have : p = k := by rcases hp with h1 | h1; exact absurd h1 h'; exact h1
        subst this
        rw [decide_eq_false (show ¬ (p < 0 + p) by omega)]; simp
      · rename_i c3
        rw [if_neg c3]
        have : p = 0 := by rcases hp with h1 | h1; exact h1; exact absurd h1 h'
        subst this
        rw [decide_eq_false (show ¬ (k < 0 + k) by omega)]; simp
    · rw [decide_eq_false (show ¬ ((j : Int) ≤ (i : Int) + 1) by omega)]; simp
  · rw [if_neg c]
    simp only
    rw [decide_eq_false (show ¬ (p < 0 + 0) by omega)]; simp
theorem ch_full {n : Nat} {k : Int} {j : Nat} (hj : j < n) (hk : 0 < k) (h0 : 0 < j) (h : (j - 1) % 2 = 0) : isFree (chLv n k) (chLd n k j) (chL k j) 0 = false := by
  cases e : isFree (chLv n k) (chLd n k j) (chL k j) 0 with
  | false => rfl
  | true =>
    unfold isFree at e
    rw [chLv_len, chLd_len, Nat.min_self] at e
    have := free_iff.mp e (j - 1) (by omega)
    rw [chLv_get n k _ (by omega), chLd_get n k j _ (by omega)] at this
    unfold clash meet chL chB Bf.e at this
    simp only at this
    rw [if_pos (by omega), if_pos h] at this
    simp only at this
    rw [decide_eq_true (show ((j - 1 : Nat) : Int) ≤ (j : Int) + 1 by omega), decide_eq_true (show (j : Int) ≤ ((j - 1 : Nat) : Int) + 1 by omega), decide_eq_true (show (0 : Int) < 0 + k by omega)] at this
    exact absurd this (by decide)
theorem ch_end {n : Nat} {k : Int} {j : Nat} (hk : 0 < k) : endOf (chLd n k j) ≤ 2 * k ∧ (j ≤ 1 → endOf (chLd n k j) ≤ k) := by
  constructor
  · refine end_le (by omega) _ fun i hi => ?_
    rw [chLd_len] at hi
    rw [chLd_get n k j i hi]
    unfold chB Bf.e noB
    split
    · simp only; split <;> omega
    · show (0 : Int) + 0 ≤ _; omega
  · intro h1
    refine end_le (by omega) _ fun i hi => ?_
    rw [chLd_len] at hi
    rw [chLd_get n k j i hi]
    unfold chB Bf.e noB
    split
    · obtain rfl : i = 0 := by omega
      show (0 : Int) + k ≤ _; omega
    · show (0 : Int) + 0 ≤ _; omega
/-- lowTo is no more than any end that is free. -/
theorem low_le {lv : List Life} {ld : List Bf} {l : Life} {k i : Nat} (h : i < k) (hf : isFree lv ld l (ld.getD i noB).e = true) : lowTo lv ld l k ≤ (ld.getD i noB).e := by
  induction k with
  | zero => omega
  | succ k ih =>
    unfold lowTo
    by_cases e : i = k
    · subst e
      split
      · omega
      · rename_i c
        by_cases c2 : (ld.getD i noB).e < lowTo lv ld l i
        · exact absurd ⟨c2, hf⟩ c
        · omega
    · have := ih (by omega)
      split
      · rename_i c; omega
      · exact this
theorem low_start {lv : List Life} {ld : List Bf} {l : Life} : ∀ k, lowTo lv ld l k ≤ endOf ld
  | 0 => Int.le_refl _
  | k + 1 => by
    have := low_start (lv := lv) (ld := ld) (l := l) k
    unfold lowTo
    split
    · rename_i c; omega
    · exact this
/-- It is an end, or where all end. -/
theorem low_at {lv : List Life} {ld : List Bf} {l : Life} : ∀ k, lowTo lv ld l k = endOf ld ∨ ∃ i, i < k ∧ lowTo lv ld l k = (ld.getD i noB).e ∧ isFree lv ld l (ld.getD i noB).e = true
  | 0 => .inl rfl
  | k + 1 => by
    unfold lowTo
    split
    · rename_i c; exact .inr ⟨k, by omega, rfl, c.2⟩
    · rcases low_at (lv := lv) (ld := ld) (l := l) k with h | ⟨i, hi, h⟩
      · exact .inl h
      · exact .inr ⟨i, by omega, h⟩
theorem ch_lowest {n : Nat} {k : Int} {j : Nat} (hj : j < n) (hk : 0 < k) : lowest (chLv n k) (chLd n k j) (chL k j) = if j % 2 = 0 then 0 else k := by
  unfold lowest
  by_cases c : j % 2 = 0
  · rw [if_pos c, if_pos (ch_free (.inl rfl) hk fun h0 => by rw [if_neg (by omega)]; omega)]
  · have h0 : 0 < j := by omega
    have hf := ch_full hj hk h0 (by omega)
    rw [if_neg (by rw [hf]; decide), if_neg c]
    have e0 : (chLd n k j).getD 0 noB = ⟨0, k⟩ := by rw [chLd_get n k j 0 (by omega)]; unfold chB; rw [if_pos h0]; rfl
    have f1 : isFree (chLv n k) (chLd n k j) (chL k j) ((chLd n k j).getD 0 noB).e = true := by
      rw [e0]
      exact ch_free (.inr (by show (0 : Int) + k = k; omega)) hk fun _ => by rw [if_pos (by omega)]; show (0 : Int) + k ≠ 0; omega
    have le := low_le (lv := chLv n k) (ld := chLd n k j) (l := chL k j) (k := (chLd n k j).length) (i := 0) (by rw [chLd_len]; omega) f1
    rw [e0] at le
    have le' : lowTo (chLv n k) (chLd n k j) (chL k j) (chLd n k j).length ≤ k := by have : (⟨0, k⟩ : Bf).e = 0 + k := rfl; omega
    refine Int.le_antisymm le' ?_
    rcases low_at (lv := chLv n k) (ld := chLd n k j) (l := chL k j) (chLd n k j).length with h | ⟨i, hi, h, hF⟩
    · rw [h]
      have := endOf_ge (ld := chLd n k j) (i := 0) (by rw [chLd_len]; omega)
      rw [e0] at this
      have : (⟨0, k⟩ : Bf).e = 0 + k := rfl
      omega
    · rw [h]
      rw [chLd_len] at hi
      rw [chLd_get n k j i hi] at hF ⊢
      unfold chB at hF ⊢
      split
      · show k ≤ (if i % 2 = 0 then 0 else k) + k
        split <;> omega
      · rename_i c2
        rw [if_neg c2] at hF
        rw [show noB.e = 0 from rfl, hf] at hF
        exact absurd hF (by decide)
theorem ch_best {n : Nat} {k : Int} {j : Nat} (hj : j < n) (hk : 0 < k) : ∀ q, q ≤ n → bestTo (chLv n k) (chLd n k j) q = if q ≤ j then (-1, 0) else ((j : Int), k)
  | 0, _ => by rw [if_pos (by omega)]; rfl
  | q + 1, hq => by
    have ih := ch_best hj hk q (by omega)
    unfold bestTo
    rw [ih, chLv_get n k q (by omega), chLd_get n k j q (by omega)]
    unfold chB chL noB
    by_cases c1 : q + 1 ≤ j
    · rw [if_pos c1, if_pos (show q ≤ j by omega), if_pos (show q < j by omega), if_neg (show ¬ (k = 0 ∧ (0 : Int) < k) from fun h => by omega)]
    · rw [if_neg c1]
      by_cases c2 : q ≤ j
      · obtain rfl : q = j := by omega
        rw [if_pos c2, if_neg (show ¬ q < q by omega), if_pos (show ((0 : Int) = 0 ∧ (0 : Int) < k) from ⟨rfl, hk⟩)]
      · rw [if_neg c2, if_neg (show ¬ q < j by omega), if_neg (show ¬ ((0 : Int) = 0 ∧ k < k) from fun h => by omega)]
theorem ch_lay {n : Nat} {k : Int} (hk : 0 < k) : ∀ j, j ≤ n → layTo (chLv n k) j = chLd n k j
  | 0, _ => by
    unfold layTo
    apply List.ext_getElem?
    intro i
    unfold chLd
    rw [chLv_len, List.getElem?_map]
    by_cases h : i < n
    · rw [List.getElem?_range h, List.getElem?_replicate, if_pos h]; rfl
    · rw [List.getElem?_replicate, if_neg h, List.getElem?_eq_none (by simp; omega)]; rfl
  | j + 1, hj => by
    have ih := ch_lay (n := n) hk j (by omega)
    unfold layTo layStep
    rw [ih]
    have e : largest (chLv n k) (chLd n k j) = j := by
      unfold largest
      rw [chLv_len, chLd_len, Nat.min_self, ch_best (by omega) hk n (Nat.le_refl _), if_neg (by omega)]
    rw [e, chLd_len, if_neg (by omega), Int.toNat_natCast]
    unfold put
    rw [chLv_get n k j (by omega), ch_lowest (by omega) hk]
    apply List.ext_getElem?
    intro i
    rw [List.getElem?_set, chLd_len]
    unfold chLd
    rw [List.getElem?_map, List.getElem?_map]
    by_cases h : i < n
    · rw [List.getElem?_range h]
      by_cases c : j = i
      · subst c
        rw [if_pos rfl, if_pos h]
        show some _ = some (chB k (j + 1) j)
        unfold chB
        rw [if_pos (show j < j + 1 by omega)]
        rfl
      · rw [if_neg c]
        show some (chB k j i) = some (chB k (j + 1) i)
        unfold chB
        by_cases c2 : i < j
        · rw [if_pos c2, if_pos (show i < j + 1 by omega)]
        · rw [if_neg c2, if_neg (show ¬ i < j + 1 by omega)]
    · rw [List.getElem?_eq_none (by simp; omega)]
      split
      · rename_i c; subst c; rw [if_neg h]; rfl
      · rfl
theorem ch_arena {n : Nat} {k : Int} (hk : 0 < k) (hn : 0 < n) : k ≤ endOf (lay (chLv n k)) ∧ endOf (lay (chLv n k)) ≤ 2 * k := by
  unfold lay
  rw [chLv_len, ch_lay hk n (Nat.le_refl _)]
  refine ⟨?_, (ch_end hk).1⟩
  have := endOf_ge (ld := chLd n k n) (i := 0) (by rw [chLd_len]; exact hn)
  rw [chLd_get n k n 0 hn] at this
  unfold chB at this
  rw [if_pos hn] at this
  have e : (⟨if 0 % 2 = 0 then 0 else k, k⟩ : Bf).e = 0 + k := rfl
  omega
end H

namespace D
/-- chained's model. -/
def mChain (n : Nat) (k : Int) : M.Md := ⟨tIn 1 k 1 0 :: (List.range n).map (fun _ => tMid 1 k 1 0), (List.range n).map (fun (i : Nat) => oPool 5 (i : Int) ((i + 1 : Nat) : Int) 1 1 (-128) 127), [(n : Int)]⟩

theorem chain_cases {P : Nat → Prop} (h : P 1 ∧ P 2 ∧ P 3 ∧ P 4 ∧ P 5 ∧ P 6 ∧ P 7 ∧ P 8 ∧ P 9 ∧ P 10 ∧ P 11 ∧ P 12 ∧ P 13 ∧ P 14 ∧ P 15 ∧ P 16) (n : Nat) (h1 : 1 ≤ n) (h2 : n ≤ 16) : P n := by
  obtain ⟨a1, a2, a3, a4, a5, a6, a7, a8, a9, a10, a11, a12, a13, a14, a15, a16⟩ := h
  rcases (show n = 1 ∨ n = 2 ∨ n = 3 ∨ n = 4 ∨ n = 5 ∨ n = 6 ∨ n = 7 ∨ n = 8 ∨ n = 9 ∨ n = 10 ∨ n = 11 ∨ n = 12 ∨ n = 13 ∨ n = 14 ∨ n = 15 ∨ n = 16 by omega) with rfl | rfl | rfl | rfl | rfl | rfl | rfl | rfl | rfl | rfl | rfl | rfl | rfl | rfl | rfl | rfl <;> assumption

theorem fit_chain (n : Nat) (k : Int) (hn : n ≤ 16) (hk : 1 ≤ k ∧ k ≤ 255) : FitM (mChain n k) := by
  refine ⟨by show (_ :: _).length ≤ 255; simp; omega, by show (List.map _ _).length ≤ 255; simp; omega, show 1 ≤ 255 by decide, fun t ht => ?_, fun o ho => ?_, mem1 (B (by omega) (by omega))⟩
  · rcases List.mem_cons.mp ht with rfl | h
    · exact fit_in (by decide) (by omega) (by decide) ⟨by decide, by decide⟩
    · obtain ⟨i, -, rfl⟩ := List.mem_map.mp h
      exact fit_mid (by decide) (by omega) (by decide) ⟨by decide, by decide⟩
  · obtain ⟨i, hi, rfl⟩ := List.mem_map.mp ho
    have := List.mem_range.mp hi
    exact fit_pool (.inl rfl) (B (by omega) (by omega)) (B (by omega) (by omega)) (B (by decide) (by decide)) (B (by decide) (by decide)) wide.1 wide.2.1
theorem long_chain (n : Nat) (k : Int) (hn : n ≤ 16) (hk : 1 ≤ k ∧ k ≤ 255) : (encM (mChain n k)).length ≤ 4096 := by
  refine enc_len (fit_chain n k hn hk) 400 ?_ ?_
  · have : ∀ (l : List Nat), ((l.map (fun _ => tMid 1 k 1 0)).map fun t => 5 + 4 * t.data.length).sum = 5 * l.length := by
      intro l
      induction l with
      | nil => rfl
      | cons a l ih => rw [List.map_cons, List.map_cons, List.sum_cons, ih, List.length_cons]; show 5 + 4 * 0 + _ = _; omega
    have e := this (List.range n)
    rw [List.length_range] at e
    show 5 + 4 * 0 + (((List.range n).map (fun _ => tMid 1 k 1 0)).map fun t => 5 + 4 * t.data.length).sum ≤ 400
    rw [e]; omega
  · show 27 * (List.map _ _).length + 1 + 400 ≤ 4089
    rw [List.length_map, List.length_range]; omega

theorem tn_chain (n : Nat) (k : Int) (i : Nat) (h : i ≤ n) : M.tensorAt (mChain n k) (i : Int) = if i = 0 then tIn 1 k 1 0 else tMid 1 k 1 0 := by
  unfold M.tensorAt
  rw [if_neg (show ¬ ((i : Int) < 0 ∨ ((mChain n k).tensors.length : Int) ≤ i) by show ¬ ((i : Int) < 0 ∨ ((_ :: _ : List M.Tn).length : Int) ≤ i); simp; omega), Int.toNat_natCast]
  cases i with
  | zero => rfl
  | succ i =>
    rw [if_neg (by omega)]
    show (_ :: _ : List M.Tn).getD (i + 1) _ = _
    rw [List.getD_cons_succ, List.getD, List.getElem?_map, List.getElem?_range (by omega)]
    rfl

end D
end Go.Proofs.YtcnhfffgbamonaaGreat

/-
  Chain: the model holds, nothing of it is left out, its lives.
-/
namespace Go.Proofs.YtcnhfffgbamonaaGreat
namespace H
theorem fold_id {m : M.Md} (h : ∀ o ∈ m.ops, isKnown m o = false) : fold m = m := by
  have key : ∀ (rest left : List M.Op), (∀ o ∈ rest, isKnown m o = false) → rest.foldl foldStep (m, left) = (m, left ++ rest) := by
    intro rest
    induction rest with
    | nil => intro left _; simp
    | cons o rest ih =>
      intro left hr
      rw [List.foldl_cons]
      have e : foldStep (m, left) o = (m, left ++ [o]) := by unfold foldStep; rw [if_neg (by rw [hr o List.mem_cons_self]; decide)]
      rw [e, ih _ fun p hp => hr p (List.mem_cons_of_mem _ hp), List.append_assoc]; rfl
  unfold fold
  rw [key m.ops [] h]; rfl
theorem drop_id {m : M.Md} (h : ∀ o ∈ m.ops, uses m o.to ≠ 0) : drop m = m := by
  have key : ∀ i, dropTo i m = m := by
    intro i
    induction i with
    | zero => rfl
    | succ i ih =>
      unfold dropTo
      have e : dropAt m i = m := by
        cases ho : m.ops[i]? with
        | none => unfold dropAt; rw [ho]
        | some o => exact dropAt_no ho (h o (List.mem_of_getElem? ho))
      rw [e, ih]
  exact key _
theorem join_id {m : M.Md} (h : ∀ o ∈ m.ops, o.kind ≠ 7) : join m = m := by
  have key : ∀ (rest left : List M.Op), (∀ o ∈ rest, o.kind ≠ 7) → rest.foldl (joinStep m) left = left ++ rest := by
    intro rest
    induction rest with
    | nil => intro left _; simp
    | cons o rest ih =>
      intro left hr
      rw [List.foldl_cons]
      have e : joinStep m left o = left ++ [o] := by
        unfold joinStep host
        rw [if_neg fun c => hr o List.mem_cons_self c.1]
      rw [e, ih _ fun p hp => hr p (List.mem_cons_of_mem _ hp), List.append_assoc]; rfl
  unfold join
  rw [key m.ops [] h]; rfl
theorem forget_id {m : M.Md} (h : ∀ t ∈ m.tensors, t.data = []) : forget m = m := by
  unfold forget
  have e : m.tensors.mapIdx (forgetT m) = m.tensors := by
    apply List.ext_getElem?
    intro i
    rw [List.getElem?_mapIdx]
    cases ht : m.tensors[i]? with
    | none => rfl
    | some t =>
      have hd := h t (List.mem_of_getElem? ht)
      show some (forgetT m i t) = some t
      unfold forgetT
      split
      · rw [← hd]
      · rfl
  rw [e]
/-- No more steps than operators. -/
theorem shrink_len (m : M.Md) : (shrink m).ops.length ≤ m.ops.length := by
  have h1 : (fold m).ops.length ≤ m.ops.length := by
    rw [fold_eq]
    exact (foldTo_ops m m.ops.length (Nat.le_refl _)).2.2.2
  have h2 : ∀ i (m : M.Md), (dropTo i m).ops.length ≤ m.ops.length := by
    intro i
    induction i with
    | zero => intro m; exact Nat.le_refl _
    | succ i ih => intro m; exact Nat.le_trans (ih _) (dropAt_len m i).2
  have h3 : ∀ m : M.Md, (join m).ops.length ≤ m.ops.length := by
    intro m
    rw [join_eq]
    exact joinTo_len m m.ops.length (Nat.le_refl _)
  exact Nat.le_trans (h3 (drop (fold m))) (Nat.le_trans (h2 _ _) h1)
end H

namespace D
theorem graph_kinds {m m' : M.Md} (ht : m'.tensors.map (·.kind) = m.tensors.map (·.kind)) (ho : m'.ops = m.ops) (hu : m'.outs = m.outs) : M.graph m' = M.graph m := by
  have hl : m'.tensors.length = m.tensors.length := by have := congrArg List.length ht; simpa using this
  have e1 : ∀ n k, M.isKind m' n k = M.isKind m n k := fun n k => by unfold M.isKind; rw [hl, ht]
  have e2 : ∀ n, M.isCells m' n = M.isCells m n := fun n => by unfold M.isCells; rw [hl, ht]
  have e3 : ∀ k, M.makersTo m' k = M.makersTo m k := by
    intro k
    induction k with
    | zero => unfold M.makersTo; rw [hl]
    | succ k ih =>
      unfold M.makersTo
      rw [ih, ho]
      cases M.makersTo m k with
      | none => rfl
      | some by_ =>
        cases m.ops[k]? with
        | none => rfl
        | some o => simp only [e1]
  have e4 : M.makers m' = M.makers m := by
    unfold M.makers
    rw [ho, e3]
    cases M.makersTo m m.ops.length with
    | none => rfl
    | some by_ =>
      have : M.madeAll m'.tensors by_ = M.madeAll m.tensors by_ := by unfold M.madeAll; rw [hl, ht]
      simp only [this]
  have e5 : ∀ by_ i o, M.readsHold m' by_ i o = M.readsHold m by_ i o := fun by_ i o => by unfold M.readsHold M.isReady; simp only [e1, e2]
  have e6 : M.isCells m' = M.isCells m := funext e2
  unfold M.graph
  rw [e4, ho, hu, e6]
  simp only [e5]
theorem graph_chain1 : (List.range 16).all (fun n => M.graph (mChain (n + 1) 1)) = true := by decide +kernel
theorem kinds_chain (n : Nat) (k : Int) : (mChain n k).tensors.map (·.kind) = (mChain n 1).tensors.map (·.kind) := by
  show _ :: ((List.range n).map _).map _ = _ :: ((List.range n).map _).map _
  rw [List.map_map, List.map_map]; rfl
theorem graph_chain (n : Nat) (k : Int) (h1 : 1 ≤ n) (h2 : n ≤ 16) : M.graph (mChain n k) = true := by
  have := List.all_eq_true.mp graph_chain1 (n - 1) (List.mem_range.mpr (by omega))
  rw [show n - 1 + 1 = n by omega] at this
  rw [← this]
  exact graph_kinds (kinds_chain n k) rfl rfl
theorem sum_chain (n : Nat) (k : Int) : M.sumTo (mChain n k).tensors = n * k + k := by
  have : ∀ l : List Nat, M.sumTo (l.map (fun _ => tMid 1 k 1 0)) = l.length * k := by
    intro l
    induction l with
    | nil => simp [M.sumTo]
    | cons a l ih =>
      rw [List.map_cons]
      unfold M.sumTo
      rw [ih, if_pos (.inr rfl)]
      show 1 * k * 1 + _ = _
      rw [List.length_cons, Int.natCast_add, Int.add_mul]
      omega
  show M.sumTo (_ :: _) = _
  unfold M.sumTo
  rw [this, if_pos (.inl rfl), List.length_range]
  show 1 * k * 1 + _ = _
  omega
theorem all_chain (n : Nat) (k : Int) (h : 1 ≤ k ∧ k ≤ 255) : (mChain n k).tensors.all M.cellsHold = true := by
  rw [List.all_eq_true]
  intro t ht
  have : M.cellsOf t = 1 * k * 1 := by
    rcases List.mem_cons.mp ht with rfl | h
    · rfl
    · obtain ⟨i, -, rfl⟩ := List.mem_map.mp h; rfl
  unfold M.cellsHold
  rw [this]; simp; omega
theorem lim_chain (n : Nat) (k : Int) (h1 : 1 ≤ n) (h2 : n ≤ 16) (h : 1 ≤ k ∧ k ≤ 255) : M.limits (mChain n k) = decide ((n : Int) * k + k ≤ 2048) := by
  unfold M.limits
  rw [all_chain n k h, sum_chain]
  have e : (!(decide (24 < (mChain n k).tensors.length) || decide (16 < (mChain n k).ops.length) || (mChain n k).outs.isEmpty)) = true := by
    have l1 : (mChain n k).tensors.length = n + 1 := by show (_ :: _ : List M.Tn).length = _; simp
    have l2 : (mChain n k).ops.length = n := by show (List.map _ _).length = _; simp
    rw [l1, l2, decide_eq_false (by omega), decide_eq_false (by omega)]; rfl
  rw [e]; rfl
theorem at_chain {n : Nat} {k : Int} {o : M.Op} (ho : o ∈ (mChain n k).ops) : ∃ i : Nat, i < n ∧ o = oPool 5 (i : Int) ((i + 1 : Nat) : Int) 1 1 (-128) 127 := by
  obtain ⟨i, hi, rfl⟩ := List.mem_map.mp ho
  exact ⟨i, List.mem_range.mp hi, rfl⟩
theorem dim_chain (n : Nat) (k : Int) (i : Nat) (h : i ≤ n) : (M.tensorAt (mChain n k) i).h = 1 ∧ (M.tensorAt (mChain n k) i).w = k ∧ (M.tensorAt (mChain n k) i).c = 1 ∧ (M.tensorAt (mChain n k) i).zero = 0 := by
  rw [tn_chain n k i h]; split <;> exact ⟨rfl, rfl, rfl, rfl⟩
theorem check_chain (n : Nat) (k : Int) (h1 : 1 ≤ n) (h2 : n ≤ 16) (h : 1 ≤ k ∧ k ≤ 255) : M.check (mChain n k) = if (n : Int) * k + k ≤ 2048 then 0 else 3 := by
  by_cases c : (n : Int) * k + k ≤ 2048
  · rw [if_pos c]
    refine check_of (by rw [lim_chain n k h1 h2 h, decide_eq_true c]) (graph_chain n k h1 h2) ?_ ?_
    · unfold M.shapes
      rw [List.all_eq_true]
      intro o ho
      obtain ⟨i, hi, rfl⟩ := at_chain ho
      obtain ⟨a1, a2, a3, -⟩ := dim_chain n k i (by omega)
      obtain ⟨z1, z2, z3, -⟩ := dim_chain n k (i + 1) (by omega)
      show M.poolHolds _ (M.tensorAt (mChain n k) i) (M.tensorAt (mChain n k) ((i + 1 : Nat) : Int)) = true
      unfold M.poolHolds M.windows
      rw [a1, a2, a3, z1, z2, z3]
      show ((1 : Int) == 1 && k == (if ((1 : Int) < 1 ∨ (1 : Int) < 1) then 0 else if false = true then (k + 1 - 1) / 1 else if k < 1 then 0 else (k - 1) / 1 + 1) && (1 : Int) == 1) = true
      rw [if_neg (by omega), if_neg (by decide), if_neg (by omega), show (k - 1) / 1 + 1 = k by omega]
      simp
    · refine quants_of (fun t ht => ?_) fun o ho => ?_
      · rcases List.mem_cons.mp ht with rfl | h
        · rfl
        · obtain ⟨i, -, rfl⟩ := List.mem_map.mp h; rfl
      · obtain ⟨i, hi, rfl⟩ := at_chain ho
        obtain ⟨-, -, -, a4⟩ := dim_chain n k i (by omega)
        obtain ⟨-, -, -, z4⟩ := dim_chain n k (i + 1) (by omega)
        show (!(decide ((127 : Int) < -128)) && ([] : List M.Sc).all M.scaleHolds && ((M.tensorAt (mChain n k) i).zero == (M.tensorAt (mChain n k) ((i + 1 : Nat) : Int)).zero)) = true
        rw [a4, z4]; rfl
  · rw [if_neg c]
    unfold M.check
    rw [if_pos (by rw [lim_chain n k h1 h2 h, decide_eq_false c])]
theorem is_chain (n : Nat) (k : Int) (h1 : 1 ≤ n) (h2 : n ≤ 16) (h : 1 ≤ k ∧ k ≤ 255) (hc : (n : Int) * k + k ≤ 2048) : Is (mChain n k) :=
  ⟨fit_chain n k h2 h, by rw [check_chain n k h1 h2 h, if_pos hc], long_chain n k h2 h⟩

theorem op_chain {n : Nat} {k : Int} {i : Nat} (h : i < n) : (mChain n k).ops[i]? = some (oPool 5 (i : Int) ((i + 1 : Nat) : Int) 1 1 (-128) 127) := by
  show ((List.range n).map _)[i]? = _
  rw [List.getElem?_map, List.getElem?_range h]; rfl
theorem reads_chain (i : Nat) : H.readsL (oPool 5 (i : Int) ((i + 1 : Nat) : Int) 1 1 (-128) 127) = [(i : Int)] := rfl
theorem shrink_chain (n : Nat) (k : Int) : H.shrink (mChain n k) = mChain n k := by
  have u : ∀ o ∈ (mChain n k).ops, H.uses (mChain n k) o.to ≠ 0 := by
    intro o ho
    obtain ⟨i, hi, rfl⟩ := at_chain ho
    have : 0 < H.uses (mChain n k) ((i + 1 : Nat) : Int) := H.mem_uses.mpr (by
      by_cases c : i + 1 < n
      · exact .inl ⟨_, List.mem_of_getElem? (op_chain c), by rw [reads_chain]; exact List.mem_singleton.mpr rfl⟩
      · refine .inr ?_
        obtain rfl : n = i + 1 := by omega
        exact List.mem_singleton.mpr rfl)
    show H.uses (mChain n k) ((i + 1 : Nat) : Int) ≠ 0
    omega
  unfold H.shrink
  rw [H.fold_id, H.drop_id u, H.join_id, H.forget_id]
  · intro t ht
    rcases List.mem_cons.mp ht with rfl | h
    · rfl
    · obtain ⟨i, -, rfl⟩ := List.mem_map.mp h; rfl
  · intro o ho
    obtain ⟨i, hi, rfl⟩ := at_chain ho
    show (5 : Int) ≠ 7
    decide
  · intro o ho
    obtain ⟨i, hi, rfl⟩ := at_chain ho
    unfold H.isKnown
    rw [reads_chain]
    show (H.knownT (M.tensorAt (mChain n k) i) && true) = false
    rw [tn_chain n k i (by omega)]
    split <;> rfl

/-- The draft behind j operators. -/
def chNums (n j : Nat) : List Int := (List.range (n + 1)).map fun i => if i ≤ j then (i : Int) else -1
def chLives (k : Int) (j : Nat) : List H.Life := (List.range j).map (H.chL k) ++ [⟨j, j, k⟩]
theorem chNums_get (n j i : Nat) (h : i ≤ n) : (chNums n j)[i]? = some (if i ≤ j then (i : Int) else -1) := by
  unfold chNums; rw [List.getElem?_map, List.getElem?_range (by omega)]; rfl
theorem chLives_last (k : Int) (j : Nat) : (chLives k j)[j]? = some ⟨j, j, k⟩ := by
  unfold chLives; rw [List.getElem?_append_right (by simp)]; simp
theorem chLives_set (k : Int) (j : Nat) : (chLives k j).set j ⟨j, j + 1, k⟩ = (List.range (j + 1)).map (H.chL k) := by
  unfold chLives
  rw [List.set_append_right _ _ (by simp), List.range_succ, List.map_append]
  simp [H.chL]
theorem chLives_len (k : Int) (j : Nat) : (chLives k j).length = j + 1 := by simp [chLives]
theorem chNums_len (n j : Nat) : (chNums n j).length = n + 1 := by simp [chNums]
theorem reach_chain (n j : Nat) (k : Int) (hj : j ≤ n) : H.reach ((j : Int) + 1) ⟨chNums n j, chLives k j⟩ j = ⟨chNums n j, (List.range (j + 1)).map (H.chL k)⟩ := by
  unfold H.reach
  have g := chNums_get n j j hj
  rw [if_pos (Nat.le_refl j)] at g
  simp only
  rw [if_neg (by rw [chNums_len]; omega), Int.toNat_natCast, List.getD, g]
  show (⟨_, H.reachAt _ (j : Int) _⟩ : H.Dr) = _
  unfold H.reachAt
  rw [if_pos (by rw [chLives_len]; omega), Int.toNat_natCast, List.getD, chLives_last]
  show (⟨_, (chLives k j).set j ⟨(j : Int), (j : Int) + 1, k⟩⟩ : H.Dr) = _
  rw [chLives_set]
theorem draftO_chain (n : Nat) (k : Int) : ∀ j, j ≤ n → H.draftO (mChain n k) ⟨chNums n 0, chLives (1 * k * 1) 0⟩ j = ⟨chNums n j, chLives (1 * k * 1) j⟩
  | 0, _ => rfl
  | j + 1, hj => by
    have ih := draftO_chain n k j (by omega)
    have e : H.draftO (mChain n k) ⟨chNums n 0, chLives (1 * k * 1) 0⟩ (j + 1) = H.begin_ ((H.readsL (oPool 5 (j : Int) ((j + 1 : Nat) : Int) 1 1 (-128) 127)).foldl (H.reach ((j : Int) + 1)) (H.draftO (mChain n k) ⟨chNums n 0, chLives (1 * k * 1) 0⟩ j)) ((j + 1 : Nat) : Int) (M.cellsOf (M.tensorAt (mChain n k) ((j + 1 : Nat) : Int))) ((j : Int) + 1) := by
      rw [H.draftO, op_chain (by omega)]
      rfl
    rw [e, ih, reads_chain]
    obtain ⟨a1, a2, a3, -⟩ := dim_chain n k (j + 1) hj
    have ec : M.cellsOf (M.tensorAt (mChain n k) ((j + 1 : Nat) : Int)) = 1 * k * 1 := by unfold M.cellsOf; rw [a1, a2, a3]
    rw [ec]
    show H.begin_ (H.reach ((j : Int) + 1) ⟨chNums n j, chLives (1 * k * 1) j⟩ (j : Int)) _ _ _ = _
    rw [reach_chain n j (1 * k * 1) (by omega)]
    unfold H.begin_
    simp only
    rw [if_neg (by rw [chNums_len]; omega), Int.toNat_natCast]
    congr 1
    · apply List.ext_getElem?
      intro i
      rw [List.getElem?_set, chNums_len]
      by_cases hi : i ≤ n
      · rw [chNums_get n j i hi, chNums_get n (j + 1) i hi]
        by_cases c : j + 1 = i
        · subst c
          rw [if_pos rfl, if_pos (by omega), if_pos (Nat.le_refl _)]
          simp
        · rw [if_neg c]
          by_cases c2 : i ≤ j
          · rw [if_pos c2, if_pos (by omega)]
          · rw [if_neg c2, if_neg (by omega)]
      · rw [if_neg (by omega), List.getElem?_eq_none (by rw [chNums_len]; omega), List.getElem?_eq_none (by rw [chNums_len]; omega)]
theorem draftT_chain (n : Nat) (k : Int) : ∀ j, j ≤ n → H.draftT (mChain n k).tensors (j + 1) = ⟨(List.range (n + 1)).map fun i => if i = 0 ∨ j < i then (0 : Int) else -1, chLives (1 * k * 1) 0⟩
  | 0, _ => by
    have e : H.draftT (mChain n k).tensors 1 = H.begin_ ⟨(H.draftT (mChain n k).tensors 0).nums.set 0 (-1), (H.draftT (mChain n k).tensors 0).lv⟩ ((0 : Nat) : Int) (1 * k * 1) 0 := rfl
    rw [e]
    have l1 : (mChain n k).tensors.length = n + 1 := by show (_ :: _ : List M.Tn).length = _; simp
    have e0 : H.draftT (mChain n k).tensors 0 = ⟨List.replicate (n + 1) 0, []⟩ := by unfold H.draftT; rw [l1]
    rw [e0]
    unfold H.begin_
    simp only
    rw [if_neg (by simp)]
    congr 1
    apply List.ext_getElem?
    intro i
    rw [List.getElem?_set, List.getElem?_set, List.getElem?_replicate, List.getElem?_map]
    simp only [List.length_set, List.length_replicate, List.length_nil]
    by_cases hi : i < n + 1
    · rw [List.getElem?_range hi]
      cases i with
      | zero => rfl
      | succ i =>
        rw [if_neg (by simp), if_neg (by omega), if_pos hi]
        show _ = some (if i + 1 = 0 ∨ 0 < i + 1 then (0 : Int) else -1)
        rw [if_pos (by omega)]
    · rw [List.getElem?_eq_none (by simp; omega), if_neg (by simp; omega), if_neg (by omega), if_neg hi]; rfl
  | j + 1, hj => by
    have ih := draftT_chain n k j (by omega)
    have g : (mChain n k).tensors[j + 1]? = some (tMid 1 k 1 0) := by
      show (_ :: _ : List M.Tn)[j + 1]? = _
      rw [List.getElem?_cons_succ, List.getElem?_map, List.getElem?_range (by omega)]; rfl
    rw [H.draftT, g]
    show (⟨(H.draftT (mChain n k).tensors (j + 1)).nums.set (j + 1) (-1), (H.draftT (mChain n k).tensors (j + 1)).lv⟩ : H.Dr) = _
    rw [ih]
    congr 1
    apply List.ext_getElem?
    intro i
    rw [List.getElem?_set, List.getElem?_map, List.getElem?_map]
    simp only [List.length_map, List.length_range]
    by_cases hi : i < n + 1
    · rw [List.getElem?_range hi]
      by_cases c : j + 1 = i
      · subst c
        rw [if_pos rfl, if_pos hi]
        show _ = some (if j + 1 = 0 ∨ j + 1 < j + 1 then (0 : Int) else -1)
        rw [if_neg (by omega)]
      · rw [if_neg c]
        show some (if i = 0 ∨ j < i then (0 : Int) else -1) = some (if i = 0 ∨ j + 1 < i then (0 : Int) else -1)
        by_cases c2 : i = 0 ∨ j < i
        · rw [if_pos c2, if_pos (by omega)]
        · rw [if_neg c2, if_neg (by omega)]
    · rw [List.getElem?_eq_none (by simp; omega)]
      split
      · rename_i c; subst c; rw [if_neg hi]; rfl
      · rfl
theorem draft_chain (n : Nat) (k : Int) : (H.draft (mChain n k)).lv = H.chLv (n + 1) (1 * k * 1) ∧ H.ins_ (mChain n k) = 1 := by
  have l1 : (mChain n k).tensors.length = n + 1 := by show (_ :: _ : List M.Tn).length = _; simp
  have l2 : (mChain n k).ops.length = n := by show (List.map _ _).length = _; simp
  have e := draftT_chain n k n (Nat.le_refl _)
  have e' : H.draftT (mChain n k).tensors (mChain n k).tensors.length = ⟨chNums n 0, chLives (1 * k * 1) 0⟩ := by
    rw [l1, e]
    congr 1
    unfold chNums
    apply List.map_congr_left
    intro i hi
    have := List.mem_range.mp hi
    by_cases c : i = 0
    · subst c; rw [if_pos (.inl rfl), if_pos (Nat.le_refl _)]; rfl
    · rw [if_neg (by omega), if_neg (by omega)]
  constructor
  · unfold H.draft
    rw [e', l2, draftO_chain n k n (Nat.le_refl _)]
    show (H.reach ((n : Int) + 1) ⟨chNums n n, chLives (1 * k * 1) n⟩ (n : Int)).lv = _
    rw [reach_chain n n (1 * k * 1) (Nat.le_refl _)]
    rfl
  · unfold H.ins_
    rw [e']
    exact chLives_len _ _
/-- Room for two of them. -/
theorem arena_chain (n : Nat) (k : Int) (hk : 1 ≤ k) : k ≤ H.endOf (H.lay (H.draft (H.shrink (mChain n k))).lv) ∧ H.endOf (H.lay (H.draft (H.shrink (mChain n k))).lv) ≤ 2 * k := by
  rw [shrink_chain, (draft_chain n k).1]
  have := H.ch_arena (n := n + 1) (k := 1 * k * 1) (by omega) (by omega)
  omega

end D
end Go.Proofs.YtcnhfffgbamonaaGreat
