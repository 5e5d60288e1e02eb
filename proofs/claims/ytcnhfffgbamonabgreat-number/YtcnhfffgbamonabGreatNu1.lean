/-
  The law Number: known roundings.
-/
import Derived.Test.YtcnhfffgbamonabGreatLaA
namespace Go.Proofs.YtcnhfffgbamonabGreat
open Go.RowKit Go.Sort

def numRow (q : Int × Int × Int × Int) : List Value := [.int .i64 q.1, .int .i64 q.2.1, .int .i64 q.2.2.1, .int .i64 q.2.2.2]
def numArr : Array Value := (D.nums.flatMap numRow).toArray
theorem num_cell {w : World} {g T : Nat} (h : Blk w g T numArr) {i : Nat} {q : Int × Int × Int × Int} (hq : D.nums[i]? = some q) (j : Nat) (hj : j < 4) : w.cell? ⟨g, i * 4 + j, none⟩ = (numRow q)[j]? := by
  rw [h.cell]
  unfold numArr
  rw [List.getElem?_toArray]
  exact flat_get numRow 4 (fun _ => rfl) D.nums i j q hq hj

/-- A struct and a model, both new. -/
structure NS (w0 w1 : World) (X : Nat) (cs : Array Value) (b : Nat) (ts : List M.Tn) (os : List M.Op) (ov : Value) : Prop where
  B : Blk w1 X 28 cs
  P : MP w1 b ts os ov
  g : w0.grownBy w1 none
  lt : w0.heap.size ≤ X
  ne : X < b
theorem NS.mod {w0 w1 w2 : World} {X b : Nat} {cs : Array Value} {ts ts' : List M.Tn} {os os' : List M.Op} {ov ov' : Value} (h : NS w0 w1 X cs b ts os ov) (hP : MP w2 b ts' os' ov') (hg : w1.grownBy w2 (some b)) : NS w0 w2 X cs b ts' os' ov' :=
  ⟨h.B.kept hg (by have := h.ne; simp; omega), hP, gr_new h.g hg (by have := h.ne; have := h.lt; omega), h.lt, h.ne⟩
theorem NS.none {w0 w1 w2 : World} {X b : Nat} {cs : Array Value} {ts : List M.Tn} {os : List M.Op} {ov : Value} (h : NS w0 w1 X cs b ts os ov) (hg : w1.grownBy w2 none) : NS w0 w2 X cs b ts os ov :=
  ⟨h.B.kept hg (by simp), h.P.kept hg (by simp), gr_trans h.g hg, h.lt, h.ne⟩
set_option maxRecDepth 100000 in
set_option maxHeartbeats 4000000 in
theorem numbers_c (a : Int) (w : World) (ha : -9223372036854775808 ≤ a) (hb : a ≤ 9223372036854775807) :
    Calls Tryz.prog 6 #[.int .i64 a] w fun e w' => e = .returned (.bool true) ∧ w.grownBy w' none := by
  go_enter Tryz.func6, Tryz.ntmps6
  go_wp2_with fail
  refine (pick_c a 28 _ ha hb (by decide) (by decide)).mono ?_
  rintro e w1 ⟨rfl, hw1⟩
  have hw2 : w1 = w.alloc (.cells numArr 28) := by rw [hw1]; kernel_rfl
  have B1 : Blk w1 w.heap.size 28 numArr := by rw [hw2]; exact Blk.new _ _ _
  have G1 : w.grownBy w1 none := by rw [hw2]; exact World.grownBy_alloc _ _ _
  clear hw1 hw2
  obtain ⟨i, hi⟩ := Int.eq_ofNat_of_zero_le (show 0 ≤ pickOf a 28 from Int.emod_nonneg _ (by decide))
  have hi2 : i < 28 := by have : pickOf a 28 < 28 := Int.emod_lt_of_pos _ (by decide); omega
  rw [hi]
  obtain ⟨q, hq⟩ : ∃ q, D.nums[i]? = some q := ⟨_, List.getElem?_eq_getElem (show i < 28 from hi2)⟩
  have c0 : w1.cell? ⟨w.heap.size, i * 4, none⟩ = some (.int .i64 q.1) := num_cell B1 hq 0 (by decide)
  have c1 : w1.cell? ⟨w.heap.size, i * 4 + 1, none⟩ = some (.int .i64 q.2.1) := num_cell B1 hq 1 (by decide)
  have c2 : w1.cell? ⟨w.heap.size, i * 4 + 2, none⟩ = some (.int .i64 q.2.2.1) := num_cell B1 hq 2 (by decide)
  have c3 : w1.cell? ⟨w.heap.size, i * 4 + 3, none⟩ = some (.int .i64 q.2.2.2) := num_cell B1 hq 3 (by decide)
  have hsz := B1.lt
  have HG1 := hide G1
  have HIS := hide (D.is_num q (List.mem_of_getElem? hq))
  have HRU := hide (D.nums_hold q (List.mem_of_getElem? hq))
  clear B1 G1 hq hi ha hb
  obtain ⟨b, mu, sh, want⟩ := q
  simp only at c0 c1 c2 c3 HIS HRU
  have X0 : NS w ((w1.alloc (.cells #[.int .i64 b, .int .i64 mu, .int .i64 sh, .int .i64 want] 28)).alloc (.cells #[.string ⟨#[]⟩, .string ⟨#[]⟩, .int .i64 0, .int .i64 0, .slice none 0 0] 34)) w1.heap.size #[.int .i64 b, .int .i64 mu, .int .i64 sh, .int .i64 want] (w1.heap.size + 1) [] [] (.slice none 0 0) :=
    ⟨(Blk.new _ _ _).alloc _, (by have e := MP.new (w1.alloc (.cells #[.int .i64 b, .int .i64 mu, .int .i64 sh, .int .i64 want] 28)); rw [World.size_alloc] at e; exact e), gr_trans HG1.out (gr_alloc2 _ _ _ _), by omega, by omega⟩
  have HX0 := hide X0
  clear X0
  go_wp2_with fail
  refine (mten (w1.heap.size + 1) [] [] _ (D.tIn 1 1 1 0) none 0 0 _ HX0.out.P (Ints.nil _ _) (by decide) (show 0 ≤ 1000 by decide) (by decide)).mono ?_
  rintro e q1 ⟨rfl, P1, hg1⟩
  have X1 := HX0.out.mod P1 hg1
  have Y1 := hide (X1.none (World.grownBy_alloc q1 (.cells #[.int .i64 0] 3) none))
  clear P1 hg1 HX0 X1 c0 c1 c2 c3
  go_wp2_with fail
  refine (mten (w1.heap.size + 1) [D.tIn 1 1 1 0] [] _ (D.tConst 1 1 1 [0]) (some ⟨q1.heap.size, 0, none⟩) 1 1 _ Y1.out.P (Ints.of_blk (xs := [0]) (Nat.zero_le _) rfl (by decide) (Blk.new q1 3 _)) (show 5 ≤ 100000 by decide) (show 1 ≤ 1000 by decide) (show 1 ≤ 1000 by decide)).mono ?_
  rintro e q2 ⟨rfl, P2, hg2⟩
  have X2 := Y1.out.mod P2 hg2
  have k0 : q2.cell? ⟨w1.heap.size, 0, none⟩ = some (.int .i64 b) := X2.B.cell 0
  have Y2 := hide (X2.none (World.grownBy_alloc q2 (.cells #[.int .i64 b] 3) none))
  clear P2 hg2 Y1 X2
  go_wp2_with fail
  refine (mten (w1.heap.size + 1) ([D.tIn 1 1 1 0] ++ [D.tConst 1 1 1 [0]]) [] _ (D.tBias 1 [b]) (some ⟨q2.heap.size, 0, none⟩) 1 1 _ Y2.out.P (Ints.of_blk (xs := [b]) (Nat.zero_le _) rfl (by decide) (Blk.new q2 3 _)) (show 14 ≤ 100000 by decide) (show 1 ≤ 1000 by decide) (show 2 ≤ 1000 by decide)).mono ?_
  rintro e q3 ⟨rfl, P3, hg3⟩
  have X3 := hide (Y2.out.mod P3 hg3)
  clear P3 hg3 Y2 k0
  go_wp2_with fail
  refine (mten (w1.heap.size + 1) ([D.tIn 1 1 1 0] ++ [D.tConst 1 1 1 [0]] ++ [D.tBias 1 [b]]) [] _ (D.tMid 1 1 1 0) none 0 0 _ X3.out.P (Ints.nil _ _) (show 23 ≤ 100000 by decide) (show 0 ≤ 1000 by decide) (show 3 ≤ 1000 by decide)).mono ?_
  rintro e q4 ⟨rfl, P4, hg4⟩
  have X4 := hide (X3.out.mod P4 hg4)
  have k1 : q4.cell? ⟨w1.heap.size, 1, none⟩ = some (.int .i64 mu) := X4.out.B.cell 1
  have k2 : q4.cell? ⟨w1.heap.size, 2, none⟩ = some (.int .i64 sh) := X4.out.B.cell 2
  clear P4 hg4 X3
  go_wp2_with fail
  refine (scale2_c mu sh q4).mono ?_
  rintro e q5 ⟨rfl, hg5⟩
  have X5 := hide (X4.out.none hg5)
  clear hg5 X4 k1 k2
  go_wp2_with fail
  refine (span_c (-128) 127 q5).mono ?_
  rintro e q6 ⟨rfl, hg6⟩
  have X6 := X5.out.none hg6
  have Y6 := hide (X6.none (World.grownBy_alloc q6 (.cells #[.int .i64 0, .int .i64 1, .int .i64 2] 3) none))
  have I6 := hide (Ints.of_blk (base := 0) (xs := [0, 1, 2]) (n := 3) (Nat.zero_le _) rfl (by decide) (Blk.new q6 3 #[.int .i64 0, .int .i64 1, .int .i64 2]))
  clear hg6 X5 X6
  have hs1 : (S8 (w4 mu ++ [b8 sh])).size = 5 := by rw [s8_size]; rfl
  have hs2 : (S8 [b8 (-128), b8 127]).size = 2 := by rw [s8_size]; rfl
  have Hsn := hide (show S8 (w4 mu ++ [b8 sh]) ++ S8 [b8 (-128), b8 127] = S8 (ownBytes (D.oConv 3 0 1 2 3 0 false ⟨mu, sh⟩ (-128) 127)) by
    rw [s8_app]; rfl)
  go_wp2_with fail
  rw [Hsn.out]
  refine (mopr (w1.heap.size + 1) _ [] _ (D.oConv 3 0 1 2 3 0 false ⟨mu, sh⟩ (-128) 127) _ (some ⟨q6.heap.size, 0, none⟩) 3 3 _ Y6.out.P (fun o ho => absurd ho (by simp)) I6.out rfl (show 7 ≤ 1000 by decide) (by decide)).mono ?_
  rintro e q7 ⟨rfl, P7, hg7⟩
  have X7 := Y6.out.mod P7 hg7
  have hb7 := P7.lt
  have e4 : q7.cell? ⟨w1.heap.size + 1, 4, none⟩ = some (.slice none 0 0) := Blk.cell P7 4
  have f4 := Blk.free P7 4
  have HX7 := hide X7
  clear P7 hg7 Y6 I6 hs1 hs2 Hsn X7
  have MF : Hid (Mm ((q7.setCell ⟨w1.heap.size + 1, 4, none⟩ (.slice (some ⟨q7.heap.size, 0, none⟩) 1 1)).alloc (.cells #[.int .i64 3] 3)) (w1.heap.size + 1) (D.mNum b ⟨mu, sh⟩)) := by
    refine MP.done (m := D.mNum b ⟨mu, sh⟩) (Blk.alloc (Blk.set HX7.out.P 4 (.slice (some ⟨q7.heap.size, 0, none⟩) 1 1)) (.cells #[.int .i64 3] 3)) (Ints.of_blk (xs := [3]) (Nat.zero_le _) rfl (by decide) (by have e := Blk.new (q7.setCell ⟨w1.heap.size + 1, 4, none⟩ (.slice (some ⟨q7.heap.size, 0, none⟩) 1 1)) 3 #[.int .i64 3]; rw [World.size_setCell] at e; exact e)) HIS.out (show 28 ≤ 100000 by decide) (show 1 ≤ 100 by decide) (show 1 ≤ 1000 by decide)
  have GF := hide (gr_trans (gr_new HX7.out.g (gr_set q7 (w1.heap.size + 1) 4 (.slice (some ⟨q7.heap.size, 0, none⟩) 1 1)) (by omega)) (World.grownBy_alloc _ (.cells #[.int .i64 3] 3) none))
  have BF := hide ((HX7.out.B.other (a := ⟨w1.heap.size + 1, 4, none⟩) (by simp) (.slice (some ⟨q7.heap.size, 0, none⟩) 1 1)).alloc (.cells #[.int .i64 3] 3))
  have hsF : ((q7.setCell ⟨w1.heap.size + 1, 4, none⟩ (.slice (some ⟨q7.heap.size, 0, none⟩) 1 1)).alloc (.cells #[.int .i64 3] 3)).heap.size = q7.heap.size + 1 := by simp
  obtain ⟨q8, H8⟩ : ∃ q8, Hid (((q7.setCell ⟨w1.heap.size + 1, 4, none⟩ (.slice (some ⟨q7.heap.size, 0, none⟩) 1 1)).alloc (.cells #[.int .i64 3] 3)) = q8) := ⟨_, rfl⟩
  rw [H8.out] at MF GF BF hsF
  have LF : Hid (Lists ((q8.alloc (.cells #[.int .i64 7] 3)).alloc (.cells #[.slice (some ⟨q8.heap.size, 0, none⟩) 1 1] 32)) 0 (.slice (some ⟨q8.heap.size + 1, 0, none⟩) 1 1) [[7]]) :=
    lists_of (Blk.new1 _ _ _ _) rfl rfl (by decide) fun j u l hu hl => by
      match j with
      | 0 =>
        injection hu with hu
        injection hl with hl
        subst hu
        subst hl
        exact ⟨_, _, _, rfl, (Ints.of_blk (xs := [7]) (Nat.zero_le _) rfl (by decide) ((Blk.new q8 3 _).alloc _))⟩
      | j + 1 => simp at hu
  have Hq8 := hide hsF.symm
  clear hsF
  go_wp2_with fail
  rw [H8.out, Hq8.out]
  have G9 := gr_alloc2 q8 (.cells #[.int .i64 7] 3) (.cells #[.slice (some ⟨q8.heap.size, 0, none⟩) 1 1] 32) none
  refine (outputs_c (w1.heap.size + 1) (D.mNum b ⟨mu, sh⟩) (some ⟨q8.heap.size + 1, 0, none⟩) 1 1 [[7]] _ (MF.out.kept0 G9) LF.out (by intro l hl; simp at hl; subst hl; decide) (by decide) rfl).mono ?_
  rintro e w9 ⟨⟨g, rfl, hL⟩, hg9⟩
  rw [HRU.out] at hL
  have hol : (D.mNum b ⟨mu, sh⟩).outs.length = 1 := rfl
  rw [hol] at hL ⊢
  clear hol
  have hL2 : Lists w9 _ (.slice (some ⟨g, 0, none⟩) 1 1) [[want]] := hL
  obtain ⟨g1, a1, c1, e1, -, d0, I0⟩ := hL2.get 0 [want] rfl
  injection e1 with e1
  injection e1 with e1 _ _
  subst e1
  obtain ⟨g2, rfl, -, -, d1⟩ := I0.get 0 want rfl
  have k3 : w9.cell? ⟨w1.heap.size, 3, none⟩ = some (.int .i64 want) := ((BF.out.kept G9 (by simp)).kept hg9 (by simp)).cell 3
  have hbe : (want == want) = true := by simp
  have HGF := hide (gr_trans (gr_trans GF.out G9) hg9)
  clear hL hL2 I0 hg9 G9
  go_wp2
  go_quiet (fail)
  go_wp2
  go_ret
  exact ⟨rfl, gr_trans HGF.out (gr_drewN _ _ _)⟩

theorem number_c (a0 a1 a2 : Int) (w : World) (ha : -9223372036854775808 ≤ a0) (hb : a0 ≤ 9223372036854775807) :
    Calls Tryz.prog 3 #[.int .i64 a0, .int .i64 a1, .int .i64 a2] w fun e w' => e = .returned (.bool true) ∧ w.grownBy w' none := by
  go_enter Tryz.func3, Tryz.ntmps3
  go_wp2_with fail
  refine (numbers_c a0 w ha hb).mono ?_
  rintro e w1 ⟨rfl, hg1⟩
  go_wp2
  go_ret
  exact ⟨rfl, hg1⟩

end Go.Proofs.YtcnhfffgbamonabGreat
