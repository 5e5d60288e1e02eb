import Derived.KernelRfl
import Derived.Test.YtcnhfffgbamonaaGreatPlA
/-
  The laws' models, and why two of them make the same: Pad, Dense, Depth.
-/
namespace Go.Proofs.YtcnhfffgbamonaaGreat
namespace D

def tIn (h w c z : Int) : M.Tn := ⟨0, h, w, c, z, []⟩
def tConst (h w c : Int) (l : List Int) : M.Tn := ⟨1, h, w, c, 0, l⟩
def tBias (n : Int) (l : List Int) : M.Tn := ⟨2, 1, 1, n, 0, l⟩
def tMid (h w c z : Int) : M.Tn := ⟨3, h, w, c, z, []⟩
/-- An operator with weights. -/
def oConv (kind a w b to stride : Int) (same : Bool) (s : M.Sc) (lo hi : Int) : M.Op :=
  { kind := kind, a := a, b := 0, weights := w, biases := b, to := to, size := 0, stride := stride, same := same, scales := [s], lo := lo, hi := hi, above := 0, below := 0, left := 0, right := 0 }
def oPad (a to above below left right : Int) : M.Op :=
  { kind := 8, a := a, b := 0, weights := 0, biases := 0, to := to, size := 0, stride := 0, same := false, scales := [], lo := 0, hi := 0, above := above, below := below, left := left, right := right }

/-- windowed of the laws. -/
def mWin (h w c k o : Int) (same : Bool) (lo hi z : Int) (cells bias : List Int) (zo : Int) (s : M.Sc) : M.Md :=
  ⟨[tIn h w c z, tConst k k (c * o) cells, tBias o bias, tMid (if same = true then h else h - k + 1) (if same = true then w else w - k + 1) o zo],
   [oConv 1 0 1 2 3 1 same s lo hi], [3]⟩

theorem run_win (h w c k o : Int) (same : Bool) (lo hi z : Int) (cells bias : List Int) (zo : Int) (s : M.Sc) (x : List Int) :
    run (mWin h w c k o same lo hi z cells bias zo s) [x] =
      [grid (tMid (if same = true then h else h - k + 1) (if same = true then w else w - k + 1) o zo)
        (cell (oConv 1 0 1 2 3 1 same s lo hi) ⟨tIn h w c z, x, tIn h w c z, x, tConst k k (c * o) cells, cells, bias, tMid (if same = true then h else h - k + 1) (if same = true then w else w - k + 1) o zo⟩)] := rfl

-- Pad
def mPad (z : Int) (cells bias : List Int) (zo : Int) (s : M.Sc) : M.Md :=
  ⟨[tIn 4 5 2 z, tMid 6 7 2 z, tConst 3 3 4 cells, tBias 2 bias, tMid 4 5 2 zo], [oPad 0 1 1 1 1 1, oConv 1 1 2 3 4 1 false s (-128) 127], [4]⟩

/-- What Pad reads there. -/
def rPad (z : Int) (x : List Int) : Reads := ⟨tIn 4 5 2 z, x, tIn 4 5 2 z, x, tIn 4 5 2 z, x, x, tMid 6 7 2 z⟩
def padCell (z : Int) (x : List Int) (i j c : Int) : Int := if inside (tIn 4 5 2 z) (i - 1) (j - 1) = true then at_ (tIn 4 5 2 z) x (i - 1) (j - 1) c else z
theorem padCell_eq (z : Int) (x : List Int) : cell (oPad 0 1 1 1 1 1) (rPad z x) = padCell z x := by
  funext i j c; rw [cell_pad _ _ _ _ rfl]; rfl

theorem run_pad' (z : Int) (cells bias : List Int) (zo : Int) (s : M.Sc) (x : List Int) :
    run (mPad z cells bias zo s) [x] =
      [grid (tMid 4 5 2 zo) (cell (oConv 1 1 2 3 4 1 false s (-128) 127) ⟨tMid 6 7 2 z, grid (tMid 6 7 2 z) (cell (oPad 0 1 1 1 1 1) (rPad z x)), tIn 4 5 2 z, x, tConst 3 3 4 cells, cells, bias, tMid 4 5 2 zo⟩)] := by kernel_rfl
theorem run_pad (z : Int) (cells bias : List Int) (zo : Int) (s : M.Sc) (x : List Int) :
    run (mPad z cells bias zo s) [x] =
      [grid (tMid 4 5 2 zo) (cell (oConv 1 1 2 3 4 1 false s (-128) 127) ⟨tMid 6 7 2 z, grid (tMid 6 7 2 z) (padCell z x), tIn 4 5 2 z, x, tConst 3 3 4 cells, cells, bias, tMid 4 5 2 zo⟩)] := by
  rw [run_pad', padCell_eq]

theorem pad_alike (z : Int) (cells bias : List Int) (zo : Int) (s : M.Sc) (x : List Int) :
    run (mWin 4 5 2 3 2 true (-128) 127 z cells bias zo s) [x] = run (mPad z cells bias zo s) [x] := by
  rw [run_win, run_pad]
  have e2 : (tMid (if true = true then 4 else 4 - 3 + 1) (if true = true then 5 else 5 - 3 + 1) 2 zo) = tMid 4 5 2 zo := rfl
  rw [e2]
  refine congrArg (fun l => [l]) ?_
  refine grid_congr (fun y v c hy0 hy1 hx0 hx1 hc0 hc1 => ?_) (show (0 : Int) ≤ 5 by decide) (show (0 : Int) ≤ 2 by decide)
  have hy1 : y < 4 := hy1
  have hx1 : v < 5 := hx1
  have hc1 : c < 2 := hc1
  rw [cell_conv _ _ _ _ (.inl rfl), cell_conv _ _ _ _ (.inl rfl)]
  refine congrArg (fun q => R.between (R.scaled q s.mult s.shift + zo) (-128) 127) ?_
  unfold winSum
  refine congrArg (fun q => get bias c + q) ?_
  refine S_congr fun i hi => S_congr fun j hj => ?_
  have hi : i < 3 := hi
  have hj : j < 3 := hj
  have l1 : lead (tIn 4 5 2 z).h (tConst 3 3 (2 * 2) cells).h (oConv 1 0 1 2 3 1 true s (-128) 127).stride (oConv 1 0 1 2 3 1 true s (-128) 127).same = 1 := rfl
  have l2 : lead (tIn 4 5 2 z).w (tConst 3 3 (2 * 2) cells).w (oConv 1 0 1 2 3 1 true s (-128) 127).stride (oConv 1 0 1 2 3 1 true s (-128) 127).same = 1 := rfl
  have l3 : lead (tMid 6 7 2 z).h (tConst 3 3 4 cells).h (oConv 1 1 2 3 4 1 false s (-128) 127).stride (oConv 1 1 2 3 4 1 false s (-128) 127).same = 0 := rfl
  have l4 : lead (tMid 6 7 2 z).w (tConst 3 3 4 cells).w (oConv 1 1 2 3 4 1 false s (-128) 127).stride (oConv 1 1 2 3 4 1 false s (-128) 127).same = 0 := rfl
  dsimp only
  rw [l1, l2, l3, l4]
  have s1 : (oConv 1 0 1 2 3 1 true s (-128) 127).stride = 1 := rfl
  have s2 : (oConv 1 1 2 3 4 1 false s (-128) 127).stride = 1 := rfl
  rw [s1, s2]
  unfold tap
  have k1 : ¬ (oConv 1 0 1 2 3 1 true s (-128) 127).kind = 2 := by show ¬ (1 : Int) = 2; decide
  have k2 : ¬ (oConv 1 1 2 3 4 1 false s (-128) 127).kind = 2 := by show ¬ (1 : Int) = 2; decide
  rw [if_neg k1, if_neg k2]
  dsimp only
  have hin : inside (tMid 6 7 2 z) (y * 1 - 0 + i) (v * 1 - 0 + j) = true := by
    unfold inside
    have e1 : (tMid 6 7 2 z).h = 6 := rfl
    have e2 : (tMid 6 7 2 z).w = 7 := rfl
    rw [e1, e2]
    simp; omega
  rw [if_pos hin]
  have hp : ∀ k : Nat, k < 2 → at_ (tMid 6 7 2 z) (grid (tMid 6 7 2 z) (padCell z x)) (y * 1 - 0 + i) (v * 1 - 0 + j) k = padCell z x (y * 1 - 0 + i) (v * 1 - 0 + j) k := by
    intro k hk
    exact at_grid rfl rfl (by omega) (show _ < (6 : Int) by omega) (by omega) (show _ < (7 : Int) by omega) (by omega) (show _ < (2 : Int) by omega)
  have e1 : y * 1 - 0 + (i : Int) - 1 = y * 1 - 1 + i := by omega
  have e2 : v * 1 - 0 + (j : Int) - 1 = v * 1 - 1 + j := by omega
  by_cases hi2 : inside (tIn 4 5 2 z) (y * 1 - 1 + i) (v * 1 - 1 + j) = true
  · rw [if_pos hi2]
    refine S_congr fun k hk => ?_
    have hk : k < 2 := hk
    rw [hp k hk]
    unfold padCell
    rw [e1, e2, if_pos hi2]
    rfl
  · rw [if_neg hi2]
    have : ∀ k : Nat, k < 2 → (at_ (tMid 6 7 2 z) (grid (tMid 6 7 2 z) (padCell z x)) (y * 1 - 0 + i) (v * 1 - 0 + j) k - (tMid 6 7 2 z).zero) * at_ (tConst 3 3 4 cells) cells i j (c * (tMid 6 7 2 z).c + k) = 0 := by
      intro k hk
      rw [hp k hk]
      unfold padCell
      rw [e1, e2, if_neg hi2]
      have : (tMid 6 7 2 z).zero = z := rfl
      rw [this, Int.sub_self, Int.zero_mul]
    have h2 : (tMid 6 7 2 z).c.toNat = 2 := rfl
    rw [h2, S_congr (g := fun _ => 0) this, S_zero]

-- Dense
def denseW (cells : List Int) : List Int := (List.range 24).map fun q => get cells (((q % 12 / 3 * 6 + q / 12 * 3 + q % 3 : Nat) : Int))
def mDense (z : Int) (cells bias : List Int) (zo : Int) (s : M.Sc) : M.Md :=
  ⟨[tIn 2 2 3 z, tConst 2 1 12 (denseW cells), tBias 2 bias, tMid 1 1 2 zo], [oConv 3 0 1 2 3 0 false s (-128) 127], [3]⟩

theorem dense_alike (z : Int) (cells bias : List Int) (zo : Int) (s : M.Sc) (x : List Int) :
    run (mWin 2 2 3 2 2 false (-128) 127 z cells bias zo s) [x] = run (mDense z cells bias zo s) [x] := by
  rw [run_win]
  have e : run (mDense z cells bias zo s) [x] = [grid (tMid 1 1 2 zo) (cell (oConv 3 0 1 2 3 0 false s (-128) 127) ⟨tIn 2 2 3 z, x, tIn 2 2 3 z, x, tConst 2 1 12 (denseW cells), denseW cells, bias, tMid 1 1 2 zo⟩)] := rfl
  rw [e]
  have e2 : (tMid (if false = true then 2 else 2 - 2 + 1) (if false = true then 2 else 2 - 2 + 1) 2 zo) = tMid 1 1 2 zo := rfl
  rw [e2]
  refine congrArg (fun l => [l]) ?_
  refine grid_congr (fun y v c hy0 hy1 hx0 hx1 hc0 hc1 => ?_) (show (0 : Int) ≤ 1 by decide) (show (0 : Int) ≤ 2 by decide)
  have hy1 : y < 1 := hy1
  have hx1 : v < 1 := hx1
  have hc1 : c < 2 := hc1
  obtain rfl : y = 0 := by omega
  obtain rfl : v = 0 := by omega
  rw [cell_conv _ _ _ _ (.inl rfl), cell_dense _ _ _ _ rfl]
  refine congrArg (fun q => R.between (R.scaled q s.mult s.shift + zo) (-128) 127) ?_
  rcases (show c = 0 ∨ c = 1 by omega) with rfl | rfl
  · show get bias 0 + (0 + (0 + (0 + (get x 0 - z) * get cells 0 + (get x 1 - z) * get cells 1 + (get x 2 - z) * get cells 2) + (0 + (get x 3 - z) * get cells 6 + (get x 4 - z) * get cells 7 + (get x 5 - z) * get cells 8)) +
        (0 + (0 + (get x 6 - z) * get cells 12 + (get x 7 - z) * get cells 13 + (get x 8 - z) * get cells 14) + (0 + (get x 9 - z) * get cells 18 + (get x 10 - z) * get cells 19 + (get x 11 - z) * get cells 20))) =
      get bias 0 + (0 + (get x 0 - z) * get cells 0 + (get x 1 - z) * get cells 1 + (get x 2 - z) * get cells 2 + (get x 3 - z) * get cells 6 + (get x 4 - z) * get cells 7 + (get x 5 - z) * get cells 8 + (get x 6 - z) * get cells 12 + (get x 7 - z) * get cells 13 + (get x 8 - z) * get cells 14 + (get x 9 - z) * get cells 18 + (get x 10 - z) * get cells 19 + (get x 11 - z) * get cells 20)
    omega
  · show get bias 1 + (0 + (0 + (0 + (get x 0 - z) * get cells 3 + (get x 1 - z) * get cells 4 + (get x 2 - z) * get cells 5) + (0 + (get x 3 - z) * get cells 9 + (get x 4 - z) * get cells 10 + (get x 5 - z) * get cells 11)) +
        (0 + (0 + (get x 6 - z) * get cells 15 + (get x 7 - z) * get cells 16 + (get x 8 - z) * get cells 17) + (0 + (get x 9 - z) * get cells 21 + (get x 10 - z) * get cells 22 + (get x 11 - z) * get cells 23))) =
      get bias 1 + (0 + (get x 0 - z) * get cells 3 + (get x 1 - z) * get cells 4 + (get x 2 - z) * get cells 5 + (get x 3 - z) * get cells 9 + (get x 4 - z) * get cells 10 + (get x 5 - z) * get cells 11 + (get x 6 - z) * get cells 15 + (get x 7 - z) * get cells 16 + (get x 8 - z) * get cells 17 + (get x 9 - z) * get cells 21 + (get x 10 - z) * get cells 22 + (get x 11 - z) * get cells 23)
    omega

end D
end Go.Proofs.YtcnhfffgbamonaaGreat

/-
  The laws' models, and why two of them make the same: Depth, Shape, Pool, Number.
-/
namespace Go.Proofs.YtcnhfffgbamonaaGreat
namespace D

theorem get_map (n : Nat) (f : Nat → Int) (q : Nat) (h : q < n) : get ((List.range n).map f) q = f q := by
  unfold get
  rw [if_neg (by omega), Int.toNat_natCast, List.getD, List.getElem?_map, List.getElem?_range h]
  rfl

-- Depth
def deepW (cells : List Int) : List Int := (List.range 24).map fun q => if q % 4 = 0 then get cells ((q / 4 * 2 : Nat) : Int) else if q % 4 = 3 then get cells ((q / 4 * 2 + 1 : Nat) : Int) else 0
def mDepth (stride z : Int) (cells bias : List Int) (zo : Int) (s : M.Sc) : M.Md :=
  ⟨[tIn 4 5 2 z, tConst 2 3 2 cells, tBias 2 bias, tMid ((4 + stride - 1) / stride) ((5 + stride - 1) / stride) 2 zo], [oConv 2 0 1 2 3 stride true s (-120) 120], [3]⟩
def mDeep (stride z : Int) (cells bias : List Int) (zo : Int) (s : M.Sc) : M.Md :=
  ⟨[tIn 4 5 2 z, tConst 2 3 4 (deepW cells), tBias 2 bias, tMid ((4 + stride - 1) / stride) ((5 + stride - 1) / stride) 2 zo], [oConv 1 0 1 2 3 stride true s (-120) 120], [3]⟩

theorem run_depth (stride z : Int) (cells bias : List Int) (zo : Int) (s : M.Sc) (x : List Int) : run (mDepth stride z cells bias zo s) [x] =
    [grid (tMid ((4 + stride - 1) / stride) ((5 + stride - 1) / stride) 2 zo) (cell (oConv 2 0 1 2 3 stride true s (-120) 120) ⟨tIn 4 5 2 z, x, tIn 4 5 2 z, x, tConst 2 3 2 cells, cells, bias, tMid ((4 + stride - 1) / stride) ((5 + stride - 1) / stride) 2 zo⟩)] := by kernel_rfl
theorem run_deep (stride z : Int) (cells bias : List Int) (zo : Int) (s : M.Sc) (x : List Int) : run (mDeep stride z cells bias zo s) [x] =
    [grid (tMid ((4 + stride - 1) / stride) ((5 + stride - 1) / stride) 2 zo) (cell (oConv 1 0 1 2 3 stride true s (-120) 120) ⟨tIn 4 5 2 z, x, tIn 4 5 2 z, x, tConst 2 3 4 (deepW cells), deepW cells, bias, tMid ((4 + stride - 1) / stride) ((5 + stride - 1) / stride) 2 zo⟩)] := by kernel_rfl

theorem depth_alike (stride z : Int) (cells bias : List Int) (zo : Int) (s : M.Sc) (x : List Int) (hs : 1 ≤ stride) :
    run (mDepth stride z cells bias zo s) [x] = run (mDeep stride z cells bias zo s) [x] := by
  rw [run_depth, run_deep]
  refine congrArg (fun l => [l]) ?_
  refine grid_congr (fun y v c hy0 hy1 hx0 hx1 hc0 hc1 => ?_) (show (0 : Int) ≤ (5 + stride - 1) / stride from Int.ediv_nonneg (by omega) (by omega)) (show (0 : Int) ≤ 2 by decide)
  have hc1 : c < 2 := hc1
  rw [cell_conv _ _ _ _ (.inr rfl), cell_conv _ _ _ _ (.inl rfl)]
  refine congrArg (fun q => R.between (R.scaled q s.mult s.shift + zo) (-120) 120) ?_
  unfold winSum
  refine congrArg (fun q => get bias c + q) ?_
  refine S_congr fun i hi => S_congr fun j hj => ?_
  have hi : i < 2 := hi
  have hj : j < 3 := hj
  dsimp only
  have s1 : (oConv 2 0 1 2 3 stride true s (-120) 120).stride = stride := rfl
  have s2 : (oConv 1 0 1 2 3 stride true s (-120) 120).stride = stride := rfl
  have s3 : (oConv 2 0 1 2 3 stride true s (-120) 120).same = true := rfl
  have s4 : (oConv 1 0 1 2 3 stride true s (-120) 120).same = true := rfl
  have t1 : (tConst 2 3 4 (deepW cells)).h = (tConst 2 3 2 cells).h := rfl
  have t2 : (tConst 2 3 4 (deepW cells)).w = (tConst 2 3 2 cells).w := rfl
  rw [s1, s2, s3, s4, t1, t2]
  generalize y * stride - lead (tIn 4 5 2 z).h (tConst 2 3 2 cells).h stride true + (i : Int) = U
  generalize v * stride - lead (tIn 4 5 2 z).w (tConst 2 3 2 cells).w stride true + (j : Int) = V
  unfold tap
  rw [if_pos (show (oConv 2 0 1 2 3 stride true s (-120) 120).kind = 2 from rfl), if_neg (show ¬ (oConv 1 0 1 2 3 stride true s (-120) 120).kind = 2 by show ¬ (1 : Int) = 2; decide)]
  dsimp only
  by_cases hin : inside (tIn 4 5 2 z) U V = true
  · rw [if_pos hin, if_pos hin]
    have hW : ∀ k : Nat, k < 2 → at_ (tConst 2 3 4 (deepW cells)) (deepW cells) i j (c * (tIn 4 5 2 z).c + k) = if c = k then at_ (tConst 2 3 2 cells) cells i j c else 0 := by
      intro k hk
      have e : at_ (tConst 2 3 4 (deepW cells)) (deepW cells) i j (c * (tIn 4 5 2 z).c + k) = get (deepW cells) (((i * 3 + j) * 4 + (c.toNat * 2 + k) : Nat) : Int) := by
        unfold at_
        refine congrArg (get (deepW cells)) ?_
        show ((i : Int) * 3 + j) * 4 + (c * 2 + k) = _
        omega
      have e2 : at_ (tConst 2 3 2 cells) cells i j c = get cells (((i * 3 + j) * 2 + c.toNat : Nat) : Int) := by
        unfold at_
        refine congrArg (get cells) ?_
        show ((i : Int) * 3 + j) * 2 + c = _
        omega
      rw [e, e2]
      unfold deepW
      rw [get_map _ _ _ (by omega)]
      rcases (show c = 0 ∨ c = 1 by omega) with rfl | rfl
      · rcases (show k = 0 ∨ k = 1 by omega) with rfl | rfl
        · rw [if_pos (by omega), if_pos (by rfl)]
          refine congrArg (get cells) ?_
          omega
        · rw [if_neg (by omega), if_neg (by omega), if_neg (by decide)]
      · rcases (show k = 0 ∨ k = 1 by omega) with rfl | rfl
        · rw [if_neg (by omega), if_neg (by omega), if_neg (by decide)]
        · rw [if_neg (by omega), if_pos (by omega), if_pos (by rfl)]
          refine congrArg (get cells) ?_
          omega
    have h2 : (tIn 4 5 2 z).c.toNat = 2 := rfl
    rw [h2]
    show _ = 0 + (at_ (tIn 4 5 2 z) x U V ((0 : Nat) : Int) - z) * at_ (tConst 2 3 4 (deepW cells)) (deepW cells) i j (c * (tIn 4 5 2 z).c + ((0 : Nat) : Int)) + (at_ (tIn 4 5 2 z) x U V ((1 : Nat) : Int) - z) * at_ (tConst 2 3 4 (deepW cells)) (deepW cells) i j (c * (tIn 4 5 2 z).c + ((1 : Nat) : Int))
    rw [hW 0 (by omega), hW 1 (by omega)]
    rcases (show c = 0 ∨ c = 1 by omega) with rfl | rfl
    · rw [if_pos (by rfl), if_neg (by decide), Int.mul_zero, Int.add_zero, Int.zero_add]; rfl
    · rw [if_neg (by decide), if_pos (by rfl), Int.mul_zero, Int.add_zero, Int.zero_add]; rfl
  · rw [if_neg hin, if_neg hin]

-- Shape
def oShape (a to : Int) : M.Op :=
  { kind := 9, a := a, b := 0, weights := 0, biases := 0, to := to, size := 0, stride := 0, same := false, scales := [], lo := 0, hi := 0, above := 0, below := 0, left := 0, right := 0 }
def oCat (a b to : Int) : M.Op :=
  { kind := 10, a := a, b := b, weights := 0, biases := 0, to := to, size := 0, stride := 0, same := false, scales := [], lo := 0, hi := 0, above := 0, below := 0, left := 0, right := 0 }
def oAdd (a b to : Int) (s t u : M.Sc) (lo hi : Int) : M.Op :=
  { kind := 4, a := a, b := b, weights := 0, biases := 0, to := to, size := 0, stride := 0, same := false, scales := [s, t, u], lo := lo, hi := hi, above := 0, below := 0, left := 0, right := 0 }

theorem place_back (q w c : Int) (hc : 0 ≤ c) : (q / (w * c) * w + q / c % w) * c + q % c = q := by
  have h1 := Int.mul_ediv_add_emod q c
  have e : q / (w * c) * w + q / c % w = q / c := by
    rw [Int.mul_comm w c, ← Int.ediv_ediv_of_nonneg hc]
    have := Int.mul_ediv_add_emod (q / c) w
    rw [Int.mul_comm]; exact this
  rw [e, Int.mul_comm]; exact h1

theorem get_ext {a b : List Int} (hl : a.length = b.length) (h : ∀ q : Nat, q < a.length → get a q = get b q) : a = b := by
  apply List.ext_getElem hl
  intro i h1 h2
  have := h i h1
  unfold get at this
  rw [if_neg (by omega), if_neg (by omega), Int.toNat_natCast, List.getD, List.getD, List.getElem?_eq_getElem h1, List.getElem?_eq_getElem h2] at this
  exact this

/-- In another shape: the same cells. -/
theorem grid_shape (t : M.Tn) (l : List Int) (hl : (l.length : Int) = M.cellsOf t) (hc : 0 ≤ t.c) : grid t (fun y x c => get l ((y * t.w + x) * t.c + c)) = l := by
  refine get_ext (by rw [grid_length]; omega) fun q hq => ?_
  rw [grid_length] at hq
  rw [grid_get q (by omega), place_back _ _ _ hc]

theorem shape_id (o : M.Op) (r : Reads) (hk : o.kind = 9) (hl : (r.la.length : Int) = M.cellsOf r.z) (hc : 0 ≤ r.z.c) : grid r.z (cell o r) = r.la := by
  have e : cell o r = fun y x c => get r.la ((y * r.z.w + x) * r.z.c + c) := by funext y x c; exact cell_shape r y x c hk
  rw [e, grid_shape _ _ hl hc]

def mShape (z : Int) : M.Md := ⟨[tIn 2 3 2 z, tMid 3 1 4 z, tMid 1 12 1 z, tMid 1 12 2 z], [oShape 0 1, oShape 1 2, oCat 2 2 3], [2, 3, 0]⟩

theorem run_shape' (z : Int) (x g1 g2 : List Int)
    (h1 : grid (tMid 3 1 4 z) (cell (oShape 0 1) ⟨tIn 2 3 2 z, x, tIn 2 3 2 z, x, tIn 2 3 2 z, x, x, tMid 3 1 4 z⟩) = g1)
    (h2 : grid (tMid 1 12 1 z) (cell (oShape 1 2) ⟨tMid 3 1 4 z, g1, tIn 2 3 2 z, x, tIn 2 3 2 z, x, x, tMid 1 12 1 z⟩) = g2) :
    run (mShape z) [x] = [g2, grid (tMid 1 12 2 z) (cell (oCat 2 2 3) ⟨tMid 1 12 1 z, g2, tMid 1 12 1 z, g2, tIn 2 3 2 z, x, x, tMid 1 12 2 z⟩), x] := by
  subst h1 h2
  kernel_rfl

theorem run_shape (z : Int) (x : List Int) (hx : x.length = 12) : ∃ t : List Int, run (mShape z) [x] = [x, t, x] ∧ t.length = 24 ∧ ∀ q : Nat, q < 24 → get t q = get x ((q / 2 : Nat) : Int) := by
  have h1 : grid (tMid 3 1 4 z) (cell (oShape 0 1) ⟨tIn 2 3 2 z, x, tIn 2 3 2 z, x, tIn 2 3 2 z, x, x, tMid 3 1 4 z⟩) = x :=
    shape_id (oShape 0 1) ⟨tIn 2 3 2 z, x, tIn 2 3 2 z, x, tIn 2 3 2 z, x, x, tMid 3 1 4 z⟩ rfl (by rw [hx]; rfl) (show (0 : Int) ≤ 4 by decide)
  have h2 : grid (tMid 1 12 1 z) (cell (oShape 1 2) ⟨tMid 3 1 4 z, x, tIn 2 3 2 z, x, tIn 2 3 2 z, x, x, tMid 1 12 1 z⟩) = x :=
    shape_id (oShape 1 2) ⟨tMid 3 1 4 z, x, tIn 2 3 2 z, x, tIn 2 3 2 z, x, x, tMid 1 12 1 z⟩ rfl (by rw [hx]; rfl) (show (0 : Int) ≤ 1 by decide)
  refine ⟨_, run_shape' z x x x h1 h2, by rw [grid_length]; rfl, fun q hq => ?_⟩
  rw [grid_get q (show (q : Int) < M.cellsOf (tMid 1 12 2 z) by show (q : Int) < 24; omega), cell_cat _ _ _ _ rfl]
  have ew : (tMid 1 12 2 z).w = 12 := rfl
  have ec : (tMid 1 12 2 z).c = 2 := rfl
  rw [ew, ec]
  dsimp only
  have e1 : (tMid 1 12 1 z).c = 1 := rfl
  rw [e1]
  by_cases h : (q : Int) % 2 < 1
  · rw [if_pos h]
    unfold at_
    refine congrArg (get x) ?_
    show ((q : Int) / (12 * 2) * 12 + (q : Int) / 2 % 12) * 1 + (q : Int) % 2 = _
    omega
  · rw [if_neg h]
    unfold at_
    refine congrArg (get x) ?_
    show ((q : Int) / (12 * 2) * 12 + (q : Int) / 2 % 12) * 1 + ((q : Int) % 2 - 1) = _
    omega

def mAdd (z zo a b : Int) (s t u : M.Sc) : M.Md := ⟨[tIn 2 3 2 z, tIn 2 3 2 (z + 3), tMid 2 3 2 zo], [oAdd a b 2 s t u (-128) 127], [2]⟩

theorem run_add1 (z zo : Int) (s t u : M.Sc) (x y : List Int) : run (mAdd z zo 0 1 s t u) [x, y] =
    [grid (tMid 2 3 2 zo) (cell (oAdd 0 1 2 s t u (-128) 127) ⟨tIn 2 3 2 z, x, tIn 2 3 2 (z + 3), y, tIn 2 3 2 z, x, x, tMid 2 3 2 zo⟩)] := by kernel_rfl
theorem run_add2 (z zo : Int) (s t u : M.Sc) (x y : List Int) : run (mAdd z zo 1 0 t s u) [x, y] =
    [grid (tMid 2 3 2 zo) (cell (oAdd 1 0 2 t s u (-128) 127) ⟨tIn 2 3 2 (z + 3), y, tIn 2 3 2 z, x, tIn 2 3 2 z, x, x, tMid 2 3 2 zo⟩)] := by kernel_rfl

theorem add_alike (z zo : Int) (s t u : M.Sc) (x y : List Int) : run (mAdd z zo 0 1 s t u) [x, y] = run (mAdd z zo 1 0 t s u) [x, y] := by
  rw [run_add1, run_add2]
  refine congrArg (fun l => [l]) (congrArg (grid _) ?_)
  funext i j c
  rw [cell_add _ _ _ _ rfl, cell_add _ _ _ _ rfl]
  refine congrArg (fun q => R.between (R.scaled q u.mult u.shift + zo) (-128) 127) ?_
  unfold addSum
  exact congrArg R.held (Int.add_comm _ _)

-- Pool
def oPool (kind a to size stride lo hi : Int) : M.Op :=
  { kind := kind, a := a, b := 0, weights := 0, biases := 0, to := to, size := size, stride := stride, same := false, scales := [], lo := lo, hi := hi, above := 0, below := 0, left := 0, right := 0 }
def mPool (kind h w n stride : Int) : M.Md := ⟨[tIn h w 2 5, tMid ((h - n) / stride + 1) ((w - n) / stride + 1) 2 5], [oPool kind 0 1 n stride (-128) 127], [1]⟩
def rPool (h w n stride : Int) (x : List Int) : Reads := ⟨tIn h w 2 5, x, tIn h w 2 5, x, tIn h w 2 5, x, x, tMid ((h - n) / stride + 1) ((w - n) / stride + 1) 2 5⟩

theorem run_pool (kind h w n stride : Int) (x : List Int) : run (mPool kind h w n stride) [x] =
    [grid (tMid ((h - n) / stride + 1) ((w - n) / stride + 1) 2 5) (cell (oPool kind 0 1 n stride (-128) 127) (rPool h w n stride x))] := by kernel_rfl

theorem mean_le {s n m : Int} (hn : 0 < n) (h : s ≤ n * m) : mean s n ≤ m := by
  unfold mean
  split
  · have : -m ≤ (-(2 * s) + n) / (2 * n) := by
      rw [Int.le_ediv_iff_mul_le (by omega)]
      have e : -m * (2 * n) = -(2 * (n * m)) := by rw [Int.neg_mul, Int.mul_left_comm, Int.mul_comm m n]
      omega
    omega
  · have : (2 * s + n) / (2 * n) < m + 1 := by
      rw [Int.ediv_lt_iff_lt_mul (by omega)]
      have e : (m + 1) * (2 * n) = 2 * (n * m) + 2 * n := by rw [Int.add_mul, Int.mul_left_comm, Int.mul_comm m n]; omega
      omega
    omega
theorem mean_ge {s n m : Int} (hn : 0 < n) (h : n * m ≤ s) : m ≤ mean s n := by
  unfold mean
  split
  · have : (-(2 * s) + n) / (2 * n) < -m + 1 := by
      rw [Int.ediv_lt_iff_lt_mul (by omega)]
      have e : (-m + 1) * (2 * n) = -(2 * (n * m)) + 2 * n := by rw [Int.add_mul, Int.neg_mul, Int.mul_left_comm, Int.mul_comm m n]; omega
      omega
    omega
  · rw [Int.le_ediv_iff_mul_le (by omega)]
    have e : m * (2 * n) = 2 * (n * m) := by rw [Int.mul_left_comm, Int.mul_comm m n]
    omega

theorem between_mono {a b lo hi : Int} (h : a ≤ b) (_hl : lo ≤ hi) : R.between a lo hi ≤ R.between b lo hi := by
  unfold R.between; split <;> split <;> (try split) <;> (try split) <;> omega
theorem between_id {a lo hi : Int} (h1 : lo ≤ a) (h2 : a ≤ hi) : R.between a lo hi = a := by
  unfold R.between; rw [if_neg (by omega), if_neg (by omega)]

/-- The mean is no more than the greatest. -/
theorem pool_le (n stride : Int) (r : Reads) (y x c : Int) (hn : 1 ≤ n) : cell (oPool 6 0 1 n stride (-128) 127) r y x c ≤ cell (oPool 5 0 1 n stride (-128) 127) r y x c := by
  rw [cell_avg _ _ _ _ rfl, cell_max _ _ _ _ rfl]
  refine between_mono (mean_le (show 0 < n * n from Int.mul_pos (by omega) (by omega)) ?_) (show (-128 : Int) ≤ 127 by decide)
  have hp : 0 < n * n := Int.mul_pos (by omega) (by omega)
  have hN : (poolN (oPool 6 0 1 n stride (-128) 127) : Int) = n * n := by
    show ((n * n).toNat : Int) = n * n
    omega
  have e : poolN (oPool 5 0 1 n stride (-128) 127) = poolN (oPool 6 0 1 n stride (-128) 127) := rfl
  have := S_le (f := poolAt (oPool 6 0 1 n stride (-128) 127) r y x c) (n := poolN (oPool 6 0 1 n stride (-128) 127)) (k := maxOf (poolAt (oPool 5 0 1 n stride (-128) 127) r y x c) (poolN (oPool 5 0 1 n stride (-128) 127)))
    (fun i hi => max_ge (f := poolAt (oPool 5 0 1 n stride (-128) 127) r y x c) i hi)
  rw [hN] at this
  exact this

/-- Of like cells it is they. -/
theorem pool_like (kind n stride v : Int) (r : Reads) (y x c : Int) (hk : kind = 5 ∨ kind = 6) (hn : 1 ≤ n) (hv : -128 ≤ v ∧ v ≤ 127) (h : ∀ k : Nat, (k : Int) < n * n → poolAt (oPool kind 0 1 n stride (-128) 127) r y x c k = v) :
    cell (oPool kind 0 1 n stride (-128) 127) r y x c = v := by
  have hp : 0 < n * n := Int.mul_pos (by omega) (by omega)
  have hN : (poolN (oPool kind 0 1 n stride (-128) 127) : Int) = n * n := by
    show ((n * n).toNat : Int) = n * n
    omega
  have h' : ∀ k, k < poolN (oPool kind 0 1 n stride (-128) 127) → poolAt (oPool kind 0 1 n stride (-128) 127) r y x c k = v := fun k hk => h k (by omega)
  rcases hk with rfl | rfl
  · rw [cell_max _ _ _ _ rfl]
    obtain ⟨i, hi, e⟩ := max_mem (f := poolAt (oPool 5 0 1 n stride (-128) 127) r y x c) (n := poolN (oPool 5 0 1 n stride (-128) 127)) (by omega)
    rw [e, h' i hi]
    exact between_id hv.1 hv.2
  · rw [cell_avg _ _ _ _ rfl]
    have h1 := S_le (f := poolAt (oPool 6 0 1 n stride (-128) 127) r y x c) (n := poolN (oPool 6 0 1 n stride (-128) 127)) (k := v) (fun i hi => by rw [h' i hi]; omega)
    have h2 := S_ge (f := poolAt (oPool 6 0 1 n stride (-128) 127) r y x c) (n := poolN (oPool 6 0 1 n stride (-128) 127)) (k := v) (fun i hi => by rw [h' i hi]; omega)
    rw [hN] at h1 h2
    have m1 := mean_le hp h1
    have m2 := mean_ge hp h2
    have : mean (S (poolAt (oPool 6 0 1 n stride (-128) 127) r y x c) (poolN (oPool 6 0 1 n stride (-128) 127))) (n * n) = v := by omega
    show R.between (mean (S (poolAt (oPool 6 0 1 n stride (-128) 127) r y x c) (poolN (oPool 6 0 1 n stride (-128) 127))) (n * n)) (-128) 127 = v
    rw [this]
    exact between_id hv.1 hv.2

-- Number
def mNum (bias : Int) (s : M.Sc) : M.Md := ⟨[tIn 1 1 1 0, tConst 1 1 1 [0], tBias 1 [bias], tMid 1 1 1 0], [oConv 3 0 1 2 3 0 false s (-128) 127], [3]⟩
def nums : List (Int × Int × Int × Int) :=
  let h := 1073741824
  [(10, h, 0, 5), (11, h, 0, 6), (-11, h, 0, -5), (-10, h, 0, -5), (-12, h, 0, -6), (-13, h, 0, -6),
   (10, h, -1, 3), (-10, h, -1, -3), (12, h, -1, 3), (14, h, -1, 4), (-14, h, -1, -4), (9, h, -1, 3), (-9, h, -1, -2),
   (3, h, 1, 3), (-3, h, 1, -3), (1, h, 6, 32), (-1, h, 8, -128), (1, h, 8, 127),
   (0, h, 30, 0), (1, h, 30, 127), (h, h, -31, 0), (h, h, -30, 1), (-h, h, -30, -1),
   (100, 2 * h - 1, 0, 100), (-100, 2 * h - 1, 0, -100), (h, 2 * h - 1, -29, 2), (h, h, 2, 127), (-h, h, 2, -128)]
theorem nums_hold : ∀ q ∈ nums, run (mNum q.1 ⟨q.2.1, q.2.2.1⟩) [[7]] = [[q.2.2.2]] := by decide +kernel
theorem nums_read : ∀ q ∈ nums, M.check (mNum q.1 ⟨q.2.1, q.2.2.1⟩) = 0 := by decide +kernel

end D
end Go.Proofs.YtcnhfffgbamonaaGreat

/-
  The laws' models are models: they can be written, and hold.
-/
namespace Go.Proofs.YtcnhfffgbamonaaGreat
namespace D

structure SOk (s : M.Sc) : Prop where
  m0 : 1073741824 ≤ s.mult
  m1 : s.mult ≤ 2147483647
  s0 : -31 ≤ s.shift
  s1 : s.shift ≤ 30
def BOk (l : List Int) : Prop := ∀ v ∈ l, -1073741824 ≤ v ∧ v ≤ 1073741824
def ZOk (z : Int) : Prop := -128 ≤ z ∧ z ≤ 127

theorem SOk.fit {s : M.Sc} (h : SOk s) : FitS s := ⟨by have := h.m0; omega, h.m1, by have := h.s0; omega, by have := h.s1; omega⟩
theorem SOk.holds {s : M.Sc} (h : SOk s) : M.scaleHolds s = true := by
  unfold M.scaleHolds
  have := h.m0; have := h.m1; have := h.s0; have := h.s1
  simp; omega
theorem BOk.holds {t : M.Tn} (h : BOk t.data) (hz : t.zero = 0) : M.biasesHold t = true := by
  unfold M.biasesHold
  split
  · rfl
  · rw [hz]
    simp only [Bool.and_eq_true, List.all_eq_true, beq_self_eq_true, and_true]
    intro v hv
    have := h v hv
    simp; omega

theorem fit_in {h w c z : Int} (h0 : 0 ≤ h ∧ h ≤ 255) (w0 : 0 ≤ w ∧ w ≤ 255) (c0 : 0 ≤ c ∧ c ≤ 255) (z0 : ZOk z) : FitT (tIn h w c z) :=
  ⟨show (0 : Int) ≤ 0 by decide, show (0 : Int) ≤ 3 by decide, h0.1, h0.2, w0.1, w0.2, c0.1, c0.2, z0.1, z0.2, fun _ _ => rfl, fun h => absurd h (show ¬ (0 : Int) = 1 by decide), fun h => absurd h (show ¬ (0 : Int) = 2 by decide)⟩
theorem fit_mid {h w c z : Int} (h0 : 0 ≤ h ∧ h ≤ 255) (w0 : 0 ≤ w ∧ w ≤ 255) (c0 : 0 ≤ c ∧ c ≤ 255) (z0 : ZOk z) : FitT (tMid h w c z) :=
  ⟨show (0 : Int) ≤ 3 by decide, show (3 : Int) ≤ 3 by decide, h0.1, h0.2, w0.1, w0.2, c0.1, c0.2, z0.1, z0.2, fun _ _ => rfl, fun h => absurd h (show ¬ (3 : Int) = 1 by decide), fun h => absurd h (show ¬ (3 : Int) = 2 by decide)⟩
theorem fit_const {h w c : Int} {l : List Int} (h0 : 0 ≤ h ∧ h ≤ 255) (w0 : 0 ≤ w ∧ w ≤ 255) (c0 : 0 ≤ c ∧ c ≤ 255) (hl : h * w * c = l.length) (hc : Cells l) : FitT (tConst h w c l) :=
  ⟨show (0 : Int) ≤ 1 by decide, show (1 : Int) ≤ 3 by decide, h0.1, h0.2, w0.1, w0.2, c0.1, c0.2, show (-128 : Int) ≤ 0 by decide, show (0 : Int) ≤ 127 by decide, fun h => absurd rfl h, fun _ => ⟨hl, hc⟩, fun h => absurd h (show ¬ (1 : Int) = 2 by decide)⟩
theorem fit_bias {n : Int} {l : List Int} (n0 : 0 ≤ n ∧ n ≤ 255) (hl : n = l.length) (hc : BOk l) : FitT (tBias n l) :=
  ⟨show (0 : Int) ≤ 2 by decide, show (2 : Int) ≤ 3 by decide, show (0 : Int) ≤ 1 by decide, show (1 : Int) ≤ 255 by decide, show (0 : Int) ≤ 1 by decide, show (1 : Int) ≤ 255 by decide, n0.1, n0.2, show (-128 : Int) ≤ 0 by decide, show (0 : Int) ≤ 127 by decide, fun _ h => absurd rfl h, fun h => absurd h (show ¬ (2 : Int) = 1 by decide), fun _ => ⟨by show 1 * 1 * n = (l.length : Int); omega, fun v hv => by have := hc v hv; omega⟩⟩

theorem b0 : Byte 0 := ⟨by decide, by decide⟩
theorem fit_conv {kind a w b to stride lo hi : Int} {same : Bool} {s : M.Sc} (hk : kind = 1 ∨ kind = 2) (ha : Byte a) (hw : Byte w) (hb : Byte b) (ht : Byte to) (hs : Byte stride) (hl : Cell lo) (hh : Cell hi) (hf : FitS s) :
    FitO (oConv kind a w b to stride same s lo hi) := by
  have hW : M.hasWeights kind = true := by rw [hw_iff]; omega
  have e : (oConv kind a w b to stride same s lo hi).kind = kind := rfl
  exact ⟨by rw [e]; omega, by rw [e]; omega, ha, b0, hw, hb, ht, fun h => by rw [e, hW] at h; exact absurd h (by decide), fun _ => rfl, b0, hs, b0, b0, b0, b0, hl, hh, fun _ => rfl, fun h => absurd (by rw [e]; omega) h, fun h => absurd hk h, fun _ => ⟨rfl, rfl, rfl, rfl⟩, fun h => absurd (by rw [e]; omega) h, by rw [e, if_pos hW]; rfl, fun c hc => by rw [List.mem_singleton.mp hc]; exact hf⟩
theorem fit_dense {a w b to lo hi : Int} {s : M.Sc} (ha : Byte a) (hw : Byte w) (hb : Byte b) (ht : Byte to) (hl : Cell lo) (hh : Cell hi) (hf : FitS s) :
    FitO (oConv 3 a w b to 0 false s lo hi) :=
  ⟨show (1 : Int) ≤ 3 by decide, show (3 : Int) ≤ 10 by decide, ha, b0, hw, hb, ht, fun h => absurd h (show ¬ M.hasWeights 3 = false by decide), fun _ => rfl, b0, b0, b0, b0, b0, b0, hl, hh, fun _ => rfl, fun _ => rfl, fun _ => rfl, fun _ => ⟨rfl, rfl, rfl, rfl⟩, fun h => absurd (show 1 ≤ (3 : Int) ∧ (3 : Int) ≤ 7 by decide) h, rfl, fun c hc => by rw [List.mem_singleton.mp hc]; exact hf⟩
theorem fit_pad {a to p q u v : Int} (ha : Byte a) (ht : Byte to) (hp : Byte p) (hq : Byte q) (hu : Byte u) (hv : Byte v) : FitO (oPad a to p q u v) :=
  ⟨show (1 : Int) ≤ 8 by decide, show (8 : Int) ≤ 10 by decide, ha, b0, b0, b0, ht, fun _ => ⟨rfl, rfl⟩, fun _ => rfl, b0, b0, hp, hq, hu, hv, show Cell 0 from ⟨by decide, by decide⟩, show Cell 0 from ⟨by decide, by decide⟩, fun _ => rfl, fun _ => rfl, fun _ => rfl, fun h => absurd rfl h, fun _ => ⟨rfl, rfl⟩, rfl, fun c hc => absurd hc (show ¬ c ∈ [] by simp)⟩
theorem fit_shape {a to : Int} (ha : Byte a) (ht : Byte to) : FitO (oShape a to) :=
  ⟨show (1 : Int) ≤ 9 by decide, show (9 : Int) ≤ 10 by decide, ha, b0, b0, b0, ht, fun _ => ⟨rfl, rfl⟩, fun _ => rfl, b0, b0, b0, b0, b0, b0, show Cell 0 from ⟨by decide, by decide⟩, show Cell 0 from ⟨by decide, by decide⟩, fun _ => rfl, fun _ => rfl, fun _ => rfl, fun _ => ⟨rfl, rfl, rfl, rfl⟩, fun _ => ⟨rfl, rfl⟩, rfl, fun c hc => absurd hc (show ¬ c ∈ [] by simp)⟩
theorem fit_cat {a b to : Int} (ha : Byte a) (hb : Byte b) (ht : Byte to) : FitO (oCat a b to) :=
  ⟨show (1 : Int) ≤ 10 by decide, show (10 : Int) ≤ 10 by decide, ha, hb, b0, b0, ht, fun _ => ⟨rfl, rfl⟩, fun h => absurd h (show ¬ M.readsTwo 10 = false by decide), b0, b0, b0, b0, b0, b0, show Cell 0 from ⟨by decide, by decide⟩, show Cell 0 from ⟨by decide, by decide⟩, fun _ => rfl, fun _ => rfl, fun _ => rfl, fun _ => ⟨rfl, rfl, rfl, rfl⟩, fun _ => ⟨rfl, rfl⟩, rfl, fun c hc => absurd hc (show ¬ c ∈ [] by simp)⟩
theorem fit_add {a b to lo hi : Int} {s t u : M.Sc} (ha : Byte a) (hb : Byte b) (ht : Byte to) (hl : Cell lo) (hh : Cell hi) (hs : FitS s) (ht' : FitS t) (hu : FitS u) : FitO (oAdd a b to s t u lo hi) :=
  ⟨show (1 : Int) ≤ 4 by decide, show (4 : Int) ≤ 10 by decide, ha, hb, b0, b0, ht, fun _ => ⟨rfl, rfl⟩, fun h => absurd h (show ¬ M.readsTwo 4 = false by decide), b0, b0, b0, b0, b0, b0, hl, hh, fun _ => rfl, fun _ => rfl, fun _ => rfl, fun _ => ⟨rfl, rfl, rfl, rfl⟩, fun h => absurd (show 1 ≤ (4 : Int) ∧ (4 : Int) ≤ 7 by decide) h, rfl, fun c hc => by
    have hc : c ∈ [s, t, u] := hc
    simp only [List.mem_cons, List.not_mem_nil, or_false] at hc
    rcases hc with rfl | rfl | rfl
    · exact hs
    · exact ht'
    · exact hu⟩
theorem fit_pool {kind a to n stride lo hi : Int} (hk : kind = 5 ∨ kind = 6) (ha : Byte a) (ht : Byte to) (hn : Byte n) (hs : Byte stride) (hl : Cell lo) (hh : Cell hi) : FitO (oPool kind a to n stride lo hi) := by
  have e : (oPool kind a to n stride lo hi).kind = kind := rfl
  have hW : M.hasWeights kind = false := by
    cases h : M.hasWeights kind with
    | false => rfl
    | true => rw [hw_iff] at h; omega
  exact ⟨by rw [e]; omega, by rw [e]; omega, ha, b0, b0, b0, ht, fun _ => ⟨rfl, rfl⟩, fun _ => rfl, hn, hs, b0, b0, b0, b0, hl, hh, fun h => absurd hk h, fun h => absurd (by rw [e]; omega) h, fun _ => rfl, fun _ => ⟨rfl, rfl, rfl, rfl⟩, fun h => absurd (by rw [e]; omega) h, by rw [e, hW]; show 0 = _; rw [if_neg (by decide), if_neg (by omega)], fun c hc => absurd hc (show ¬ c ∈ [] by simp)⟩

theorem check_of {m : M.Md} (h1 : M.limits m = true) (h2 : M.graph m = true) (h3 : M.shapes m = true) (h4 : M.quants m = true) : M.check m = 0 := by
  unfold M.check; rw [h1, h2, h3, h4]; rfl

theorem enc_ts_len (ts : List M.Tn) : (ts.flatMap encT).length ≤ (ts.map fun t => 5 + 4 * t.data.length).sum := by
  induction ts with
  | nil => simp
  | cons t l ih =>
    rw [List.flatMap_cons, List.length_append, List.map_cons, List.sum_cons]
    have : (encT t).length ≤ 5 + 4 * t.data.length := by
      have := data_len t.kind t.data t.data.length
      rw [List.take_length] at this
      unfold encT tbytes
      rw [List.length_append]
      show 5 + _ ≤ _
      omega
    omega

/-- What holds of a model of the laws. -/
structure Is (m : M.Md) : Prop where
  fit : FitM m
  check : M.check m = 0
  long : (encM m).length ≤ 4096

theorem Is.read {m : M.Md} (h : Is m) : M.read (S8 (encM m)) = 0 := by rw [read_enc m h.fit h.long, h.check]
theorem Is.all {m : M.Md} (h : Is m) : (M.readAll (S8 (encM m))).1 = m := by rw [readAll_enc m h.fit]

theorem quant_conv {m : M.Md} {kind a w b to stride lo hi : Int} {same : Bool} {s : M.Sc} (hk : kind = 1 ∨ kind = 2 ∨ kind = 3) (hl : lo ≤ hi) (hs : SOk s) (hw : (M.tensorAt m w).zero = 0) : M.quantOp m (oConv kind a w b to stride same s lo hi) = true := by
  have hW : M.hasWeights kind = true := by rw [hw_iff]; exact hk
  have e1 : M.zerosHold m (oConv kind a w b to stride same s lo hi) = true := by
    unfold M.zerosHold
    rw [if_pos (show M.hasWeights (oConv kind a w b to stride same s lo hi).kind = true from hW)]
    show ((M.tensorAt m w).zero == 0) = true
    rw [hw]; rfl
  unfold M.quantOp
  rw [e1]
  show (!(decide (hi < lo)) && [s].all M.scaleHolds && true) = true
  simp only [List.all_cons, List.all_nil, hs.holds, Bool.and_true]
  simp; omega

theorem scales_len (l : List M.Sc) : (l.flatMap encS).length = 5 * l.length := by
  induction l with
  | nil => rfl
  | cons a l ih => rw [List.flatMap_cons, List.length_append, ih, List.length_cons]; show 5 + _ = _; omega
theorem enc_o_len {o : M.Op} (h : FitO o) : (encO o).length ≤ 27 := by
  have hs : o.scales.length ≤ 3 := by rw [h.scales]; split <;> (try split) <;> omega
  have h1 : (if M.hasWeights o.kind = true then [o.weights, o.biases] else []).length ≤ 2 := by split <;> simp
  have h2 : (if M.readsTwo o.kind = true then [o.b] else []).length ≤ 1 := by split <;> simp
  have h3 := scales_len o.scales
  have h4 : (if 1 ≤ o.kind ∧ o.kind ≤ 7 then [b8 o.lo, b8 o.hi] else []).length ≤ 2 := by split <;> simp
  have h5 : (if o.kind = 1 ∨ o.kind = 2 then [b8 o.stride, b8 (if o.same = true then 1 else 0)]
      else if o.kind = 5 ∨ o.kind = 6 then [b8 o.size, b8 o.stride]
      else if o.kind = 8 then [b8 o.above, b8 o.below, b8 o.left, b8 o.right] else []).length ≤ 4 := by
    split
    · simp
    · split
      · simp
      · split <;> simp
  unfold encO obytes insOf ownBytes
  simp only [List.length_append, List.length_map, List.length_cons, List.length_nil]
  omega
theorem enc_os_len (os : List M.Op) (h : ∀ o ∈ os, FitO o) : (os.flatMap encO).length ≤ 27 * os.length := by
  induction os with
  | nil => simp
  | cons o l ih =>
    rw [List.flatMap_cons, List.length_append, List.length_cons]
    have := enc_o_len (h o List.mem_cons_self)
    have := ih fun p hp => h p (List.mem_cons_of_mem _ hp)
    omega
theorem enc_len {m : M.Md} (hF : FitM m) (n : Nat) (h1 : (m.tensors.map fun t => 5 + 4 * t.data.length).sum ≤ n) (h2 : 27 * m.ops.length + m.outs.length + n ≤ 4089) : (encM m).length ≤ 4096 := by
  have := enc_ts_len m.tensors
  have := enc_os_len m.ops hF.os
  unfold encM mbytes
  simp only [List.length_append, List.length_map, List.length_cons, List.length_nil]
  have : M.headL.length = 4 := rfl
  omega
theorem Is.mk' {m : M.Md} (hF : FitM m) (n : Nat) (h1 : (m.tensors.map fun t => 5 + 4 * t.data.length).sum ≤ n) (h2 : 27 * m.ops.length + m.outs.length + n ≤ 4089) (hc : M.check m = 0) : Is m := ⟨hF, hc, enc_len hF n h1 h2⟩

theorem mem4 {α : Type} {P : α → Prop} {a b c d : α} (ha : P a) (hb : P b) (hc : P c) (hd : P d) : ∀ x ∈ [a, b, c, d], P x := by
  intro x hx
  simp only [List.mem_cons, List.not_mem_nil, or_false] at hx
  rcases hx with rfl | rfl | rfl | rfl <;> assumption
theorem mem1 {α : Type} {P : α → Prop} {a : α} (ha : P a) : ∀ x ∈ [a], P x := by
  intro x hx; rw [List.mem_singleton.mp hx]; exact ha

theorem is_win (h w c k o : Int) (same : Bool) (lo hi z : Int) (cells bias : List Int) (zo : Int) (s : M.Sc)
    (hsz : (h, w, c, k, o, same) ∈ [(4, 5, 2, 3, 2, true), (2, 2, 3, 2, 2, false), (3, 3, 1, 2, 1, false), (4, 3, 2, 2, 2, true), (3, 3, 2, 2, 2, false)])
    (hl : Cell lo) (hh : Cell hi) (hlh : lo ≤ hi) (hz : ZOk z) (hzo : ZOk zo) (hc : Cells cells) (hcl : (cells.length : Int) = k * k * c * o) (hb : BOk bias) (hbl : (bias.length : Int) = o) (hs : SOk s) :
    Is (mWin h w c k o same lo hi z cells bias zo s) := by
  have B : ∀ n : Int, 0 ≤ n → n ≤ 255 → Byte n := fun n a b => ⟨a, b⟩
  have quant : M.quants (mWin h w c k o same lo hi z cells bias zo s) = true := by
    have e1 : M.biasesHold (tBias o bias) = true := BOk.holds hb rfl
    have e2 := quant_conv (m := mWin h w c k o same lo hi z cells bias zo s) (kind := 1) (a := 0) (w := 1) (b := 2) (to := 3) (stride := 1) (same := same) (.inl rfl) hlh hs rfl
    have f1 : M.biasesHold (tIn h w c z) = true := rfl
    have f2 : M.biasesHold (tConst k k (c * o) cells) = true := rfl
    have f3 : M.biasesHold (tMid (if same = true then h else h - k + 1) (if same = true then w else w - k + 1) o zo) = true := rfl
    show ([tIn h w c z, tConst k k (c * o) cells, tBias o bias, tMid (if same = true then h else h - k + 1) (if same = true then w else w - k + 1) o zo].all M.biasesHold && [oConv 1 0 1 2 3 1 same s lo hi].all (M.quantOp (mWin h w c k o same lo hi z cells bias zo s))) = true
    simp only [List.all_cons, List.all_nil, e1, e2, f1, f2, f3, Bool.and_true]
  have os : ∀ o' ∈ (mWin h w c k o same lo hi z cells bias zo s).ops, FitO o' := mem1 (fit_conv (.inl rfl) b0 (B 1 (by decide) (by decide)) (B 2 (by decide) (by decide)) (B 3 (by decide) (by decide)) (B 1 (by decide) (by decide)) hl hh hs.fit)
  have us : ∀ u ∈ (mWin h w c k o same lo hi z cells bias zo s).outs, Byte u := mem1 (B 3 (by decide) (by decide))
  simp only [List.mem_cons, Prod.mk.injEq, List.not_mem_nil, or_false] at hsz
  rcases hsz with ⟨rfl, rfl, rfl, rfl, rfl, rfl⟩ | ⟨rfl, rfl, rfl, rfl, rfl, rfl⟩ | ⟨rfl, rfl, rfl, rfl, rfl, rfl⟩ | ⟨rfl, rfl, rfl, rfl, rfl, rfl⟩ | ⟨rfl, rfl, rfl, rfl, rfl, rfl⟩
  all_goals
    refine Is.mk' ⟨show 4 ≤ 255 by decide, show 1 ≤ 255 by decide, show 1 ≤ 255 by decide, mem4 (fit_in (by omega) (by omega) (by omega) hz) (fit_const (by omega) (by omega) (by omega) (by omega) hc) (fit_bias (by omega) (by omega) hb) (fit_mid (by decide) (by decide) (by omega) hzo), os, us⟩ 400 ?_ (show 27 * 1 + 1 + 400 ≤ 4089 by decide) (check_of rfl rfl rfl quant)
    show 5 + 4 * 0 + (5 + 4 * cells.length + (5 + 4 * bias.length + (5 + 4 * 0 + 0))) ≤ 400
    omega

end D
end Go.Proofs.YtcnhfffgbamonaaGreat

/-
  The laws' other models are models.
-/
namespace Go.Proofs.YtcnhfffgbamonaaGreat
namespace D

theorem B {n : Int} (a : 0 ≤ n) (b : n ≤ 255) : Byte n := ⟨a, b⟩
theorem mem2 {α : Type} {P : α → Prop} {a b : α} (ha : P a) (hb : P b) : ∀ x ∈ [a, b], P x := by
  intro x hx
  simp only [List.mem_cons, List.not_mem_nil, or_false] at hx
  rcases hx with rfl | rfl <;> assumption
theorem mem3 {α : Type} {P : α → Prop} {a b c : α} (ha : P a) (hb : P b) (hc : P c) : ∀ x ∈ [a, b, c], P x := by
  intro x hx
  simp only [List.mem_cons, List.not_mem_nil, or_false] at hx
  rcases hx with rfl | rfl | rfl <;> assumption
theorem mem5 {α : Type} {P : α → Prop} {a b c d e : α} (ha : P a) (hb : P b) (hc : P c) (hd : P d) (he : P e) : ∀ x ∈ [a, b, c, d, e], P x := by
  intro x hx
  simp only [List.mem_cons, List.not_mem_nil, or_false] at hx
  rcases hx with rfl | rfl | rfl | rfl | rfl <;> assumption

theorem wide : Cell (-128) ∧ Cell 127 ∧ Cell (-120) ∧ Cell 120 := by unfold Cell; decide

theorem quants_of {m : M.Md} (h1 : ∀ t ∈ m.tensors, M.biasesHold t = true) (h2 : ∀ o ∈ m.ops, M.quantOp m o = true) : M.quants m = true := by
  unfold M.quants
  simp only [Bool.and_eq_true, List.all_eq_true]
  exact ⟨h1, h2⟩
theorem bh_in (h w c z : Int) : M.biasesHold (tIn h w c z) = true := rfl
theorem bh_mid (h w c z : Int) : M.biasesHold (tMid h w c z) = true := rfl
theorem bh_const (h w c : Int) (l : List Int) : M.biasesHold (tConst h w c l) = true := rfl
theorem bh_bias {n : Int} {l : List Int} (h : BOk l) : M.biasesHold (tBias n l) = true := BOk.holds h rfl

theorem is_pad (z : Int) (cells bias : List Int) (zo : Int) (s : M.Sc) (hz : ZOk z) (hzo : ZOk zo) (hc : Cells cells) (hcl : cells.length = 36) (hb : BOk bias) (hbl : bias.length = 2) (hs : SOk s) : Is (mPad z cells bias zo s) := by
  refine Is.mk' ⟨show 5 ≤ 255 by decide, show 2 ≤ 255 by decide, show 1 ≤ 255 by decide, mem5 (fit_in (by decide) (by decide) (by decide) hz) (fit_mid (by decide) (by decide) (by decide) hz) (fit_const (by decide) (by decide) (by decide) (by rw [hcl]; rfl) hc) (fit_bias (by decide) (by rw [hbl]; rfl) hb) (fit_mid (by decide) (by decide) (by decide) hzo),
    mem2 (fit_pad b0 (B (by decide) (by decide)) (B (by decide) (by decide)) (B (by decide) (by decide)) (B (by decide) (by decide)) (B (by decide) (by decide))) (fit_conv (.inl rfl) (B (by decide) (by decide)) (B (by decide) (by decide)) (B (by decide) (by decide)) (B (by decide) (by decide)) (B (by decide) (by decide)) wide.1 wide.2.1 hs.fit), mem1 (B (by decide) (by decide))⟩ 400 ?_ (show 27 * 2 + 1 + 400 ≤ 4089 by decide) (check_of rfl rfl rfl ?_)
  · show 5 + 4 * 0 + (5 + 4 * 0 + (5 + 4 * cells.length + (5 + 4 * bias.length + (5 + 4 * 0 + 0)))) ≤ 400
    omega
  · refine quants_of (mem5 (bh_in _ _ _ _) (bh_mid _ _ _ _) (bh_const _ _ _ _) (bh_bias hb) (bh_mid _ _ _ _)) (mem2 ?_ (quant_conv (.inl rfl) (by decide) hs rfl))
    show (!(decide ((0 : Int) < 0)) && ([] : List M.Sc).all M.scaleHolds && (z == z)) = true
    simp

theorem dense_cells {cells : List Int} (h : Cells cells) : Cells (denseW cells) := by
  intro v hv
  obtain ⟨q, -, rfl⟩ := List.mem_map.mp hv
  exact get_cell h _
theorem is_dense (z : Int) (cells bias : List Int) (zo : Int) (s : M.Sc) (hz : ZOk z) (hzo : ZOk zo) (hc : Cells cells) (hb : BOk bias) (hbl : bias.length = 2) (hs : SOk s) : Is (mDense z cells bias zo s) := by
  refine Is.mk' ⟨show 4 ≤ 255 by decide, show 1 ≤ 255 by decide, show 1 ≤ 255 by decide, mem4 (fit_in (by decide) (by decide) (by decide) hz) (fit_const (by decide) (by decide) (by decide) (by unfold denseW; simp) (dense_cells hc)) (fit_bias (by decide) (by rw [hbl]; rfl) hb) (fit_mid (by decide) (by decide) (by decide) hzo),
    mem1 (fit_dense b0 (B (by decide) (by decide)) (B (by decide) (by decide)) (B (by decide) (by decide)) wide.1 wide.2.1 hs.fit), mem1 (B (by decide) (by decide))⟩ 400 ?_ (show 27 * 1 + 1 + 400 ≤ 4089 by decide) (check_of rfl rfl rfl ?_)
  · show 5 + 4 * 0 + (5 + 4 * (denseW cells).length + (5 + 4 * bias.length + (5 + 4 * 0 + 0))) ≤ 400
    have : (denseW cells).length = 24 := by unfold denseW; simp
    omega
  · exact quants_of (mem4 (bh_in _ _ _ _) (bh_const _ _ _ _) (bh_bias hb) (bh_mid _ _ _ _)) (mem1 (quant_conv (.inr (.inr rfl)) (by decide) hs rfl))

theorem deep_cells {cells : List Int} (h : Cells cells) : Cells (deepW cells) := by
  intro v hv
  obtain ⟨q, -, rfl⟩ := List.mem_map.mp hv
  split
  · exact get_cell h _
  · split
    · exact get_cell h _
    · omega
theorem is_depth (stride z : Int) (cells bias : List Int) (zo : Int) (s : M.Sc) (hst : stride = 1 ∨ stride = 2 ∨ stride = 3) (hz : ZOk z) (hzo : ZOk zo) (hc : Cells cells) (hcl : cells.length = 12) (hb : BOk bias) (hbl : bias.length = 2) (hs : SOk s) : Is (mDepth stride z cells bias zo s) := by
  rcases hst with rfl | rfl | rfl
  all_goals
    refine Is.mk' ⟨show 4 ≤ 255 by decide, show 1 ≤ 255 by decide, show 1 ≤ 255 by decide, mem4 (fit_in (by decide) (by decide) (by decide) hz) (fit_const (by decide) (by decide) (by decide) (by rw [hcl]; rfl) hc) (fit_bias (by decide) (by rw [hbl]; rfl) hb) (fit_mid (by decide) (by decide) (by decide) hzo),
      mem1 (fit_conv (.inr rfl) b0 (B (by decide) (by decide)) (B (by decide) (by decide)) (B (by decide) (by decide)) (B (by decide) (by decide)) wide.2.2.1 wide.2.2.2 hs.fit), mem1 (B (by decide) (by decide))⟩ 400 ?_ (show 27 * 1 + 1 + 400 ≤ 4089 by decide) (check_of rfl rfl rfl ?_)
    · show 5 + 4 * 0 + (5 + 4 * cells.length + (5 + 4 * bias.length + (5 + 4 * 0 + 0))) ≤ 400
      omega
    · exact quants_of (mem4 (bh_in _ _ _ _) (bh_const _ _ _ _) (bh_bias hb) (bh_mid _ _ _ _)) (mem1 (quant_conv (.inr (.inl rfl)) (by decide) hs rfl))
theorem is_deep (stride z : Int) (cells bias : List Int) (zo : Int) (s : M.Sc) (hst : stride = 1 ∨ stride = 2 ∨ stride = 3) (hz : ZOk z) (hzo : ZOk zo) (hc : Cells cells) (hb : BOk bias) (hbl : bias.length = 2) (hs : SOk s) : Is (mDeep stride z cells bias zo s) := by
  have hl : (deepW cells).length = 24 := by unfold deepW; simp
  rcases hst with rfl | rfl | rfl
  all_goals
    refine Is.mk' ⟨show 4 ≤ 255 by decide, show 1 ≤ 255 by decide, show 1 ≤ 255 by decide, mem4 (fit_in (by decide) (by decide) (by decide) hz) (fit_const (by decide) (by decide) (by decide) (by rw [hl]; rfl) (deep_cells hc)) (fit_bias (by decide) (by rw [hbl]; rfl) hb) (fit_mid (by decide) (by decide) (by decide) hzo),
      mem1 (fit_conv (.inl rfl) b0 (B (by decide) (by decide)) (B (by decide) (by decide)) (B (by decide) (by decide)) (B (by decide) (by decide)) wide.2.2.1 wide.2.2.2 hs.fit), mem1 (B (by decide) (by decide))⟩ 400 ?_ (show 27 * 1 + 1 + 400 ≤ 4089 by decide) (check_of rfl rfl rfl ?_)
    · show 5 + 4 * 0 + (5 + 4 * (deepW cells).length + (5 + 4 * bias.length + (5 + 4 * 0 + 0))) ≤ 400
      omega
    · exact quants_of (mem4 (bh_in _ _ _ _) (bh_const _ _ _ _) (bh_bias hb) (bh_mid _ _ _ _)) (mem1 (quant_conv (.inl rfl) (by decide) hs rfl))

theorem is_shape (z : Int) (hz : ZOk z) : Is (mShape z) := by
  refine Is.mk' ⟨show 4 ≤ 255 by decide, show 3 ≤ 255 by decide, show 3 ≤ 255 by decide, mem4 (fit_in (by decide) (by decide) (by decide) hz) (fit_mid (by decide) (by decide) (by decide) hz) (fit_mid (by decide) (by decide) (by decide) hz) (fit_mid (by decide) (by decide) (by decide) hz),
    mem3 (fit_shape b0 (B (by decide) (by decide))) (fit_shape (B (by decide) (by decide)) (B (by decide) (by decide))) (fit_cat (B (by decide) (by decide)) (B (by decide) (by decide)) (B (by decide) (by decide))), mem3 (B (by decide) (by decide)) (B (by decide) (by decide)) (B (by decide) (by decide))⟩ 400 (show 5 + 4 * 0 + (5 + 4 * 0 + (5 + 4 * 0 + (5 + 4 * 0 + 0))) ≤ 400 by decide) (show 27 * 3 + 3 + 400 ≤ 4089 by decide) (check_of rfl rfl rfl ?_)
  refine quants_of (mem4 (bh_in _ _ _ _) (bh_mid _ _ _ _) (bh_mid _ _ _ _) (bh_mid _ _ _ _)) (mem3 ?_ ?_ ?_)
  · show (!(decide ((0 : Int) < 0)) && ([] : List M.Sc).all M.scaleHolds && (z == z)) = true
    simp
  · show (!(decide ((0 : Int) < 0)) && ([] : List M.Sc).all M.scaleHolds && (z == z)) = true
    simp
  · show (!(decide ((0 : Int) < 0)) && ([] : List M.Sc).all M.scaleHolds && ((z == z) && (z == z))) = true
    simp

theorem is_add (z zo a b : Int) (s t u : M.Sc) (hab : a = 0 ∧ b = 1 ∨ a = 1 ∧ b = 0) (hz : ZOk z) (hz3 : ZOk (z + 3)) (hzo : ZOk zo) (hs : SOk s) (ht : SOk t) (hu : SOk u) : Is (mAdd z zo a b s t u) := by
  have q : (!(decide ((127 : Int) < -128)) && [s, t, u].all M.scaleHolds && true) = true := by
    simp only [List.all_cons, List.all_nil, hs.holds, ht.holds, hu.holds]; decide
  rcases hab with ⟨rfl, rfl⟩ | ⟨rfl, rfl⟩
  all_goals
    exact Is.mk' ⟨show 3 ≤ 255 by decide, show 1 ≤ 255 by decide, show 1 ≤ 255 by decide, mem3 (fit_in (by decide) (by decide) (by decide) hz) (fit_in (by decide) (by decide) (by decide) hz3) (fit_mid (by decide) (by decide) (by decide) hzo),
      mem1 (fit_add (B (by decide) (by decide)) (B (by decide) (by decide)) (B (by decide) (by decide)) wide.1 wide.2.1 hs.fit ht.fit hu.fit), mem1 (B (by decide) (by decide))⟩ 400 (show 5 + 4 * 0 + (5 + 4 * 0 + (5 + 4 * 0 + 0)) ≤ 400 by decide) (show 27 * 1 + 1 + 400 ≤ 4089 by decide) (check_of rfl rfl rfl (quants_of (mem3 (bh_in _ _ _ _) (bh_in _ _ _ _) (bh_mid _ _ _ _)) (mem1 q)))

theorem is_pool (kind h w n stride : Int) (hk : kind = 5 ∨ kind = 6) (hsz : (h = 4 ∧ w = 5 ∧ (n = 1 ∨ n = 2 ∨ n = 3) ∧ (stride = 1 ∨ stride = 2 ∨ stride = 3)) ∨ (h = 2 ∧ w = 2 ∧ n = 2 ∧ stride = 1)) : Is (mPool kind h w n stride) := by
  rcases hsz with ⟨rfl, rfl, rfl | rfl | rfl, rfl | rfl | rfl⟩ | ⟨rfl, rfl, rfl, rfl⟩ <;> rcases hk with rfl | rfl
  all_goals
    exact Is.mk' ⟨show 2 ≤ 255 by decide, show 1 ≤ 255 by decide, show 1 ≤ 255 by decide, mem2 (fit_in (by decide) (by decide) (by decide) ⟨by decide, by decide⟩) (fit_mid (by decide) (by decide) (by decide) ⟨by decide, by decide⟩),
      mem1 (fit_pool (by decide) b0 (B (by decide) (by decide)) (B (by decide) (by decide)) (B (by decide) (by decide)) wide.1 wide.2.1), mem1 (B (by decide) (by decide))⟩ 400 (show 5 + 4 * 0 + (5 + 4 * 0 + 0) ≤ 400 by decide) (show 27 * 1 + 1 + 400 ≤ 4089 by decide) (check_of rfl rfl rfl rfl)

theorem nums_ok : ∀ q ∈ nums, (-1073741824 ≤ q.1 ∧ q.1 ≤ 1073741824) ∧ (1073741824 ≤ q.2.1 ∧ q.2.1 ≤ 2147483647) ∧ (-31 ≤ q.2.2.1 ∧ q.2.2.1 ≤ 30) := by decide +kernel
theorem is_num (q : Int × Int × Int × Int) (hq : q ∈ nums) : Is (mNum q.1 ⟨q.2.1, q.2.2.1⟩) := by
  obtain ⟨h1, h2, h3⟩ := nums_ok q hq
  have hs : SOk ⟨q.2.1, q.2.2.1⟩ := ⟨h2.1, h2.2, h3.1, h3.2⟩
  have hb : BOk [q.1] := fun v hv => by rw [List.mem_singleton.mp hv]; exact h1
  exact Is.mk' ⟨show 4 ≤ 255 by decide, show 1 ≤ 255 by decide, show 1 ≤ 255 by decide, mem4 (fit_in (by decide) (by decide) (by decide) ⟨by decide, by decide⟩) (fit_const (by decide) (by decide) (by decide) rfl (fun v hv => by rw [List.mem_singleton.mp hv]; decide)) (fit_bias (by decide) rfl hb) (fit_mid (by decide) (by decide) (by decide) ⟨by decide, by decide⟩),
    mem1 (fit_dense b0 (B (by decide) (by decide)) (B (by decide) (by decide)) (B (by decide) (by decide)) wide.1 wide.2.1 hs.fit), mem1 (B (by decide) (by decide))⟩ 400 (show 5 + 4 * 0 + (5 + 4 * 1 + (5 + 4 * 1 + (5 + 4 * 0 + 0))) ≤ 400 by decide) (show 27 * 1 + 1 + 400 ≤ 4089 by decide) (nums_read q hq)

end D
end Go.Proofs.YtcnhfffgbamonaaGreat
