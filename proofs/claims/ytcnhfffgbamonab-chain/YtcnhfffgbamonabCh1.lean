/-
  The law Chain: n operators, one behind the other, over k cells.
-/
import Derived.Test.YtcnhfffgbamonabLaA
import Derived.Test.YtcnhfffgbamonabLwB
import Derived.Test.YtcnhfffgbamonabSt2
namespace Go.Proofs.Ytcnhfffgbamonab
open Go.RowKit Go.Sort

def chT (k : Int) (j : Nat) : List M.Tn := D.tIn 1 k 1 0 :: (List.range j).map (fun _ => D.tMid 1 k 1 0)
def chO (j : Nat) : List M.Op := (List.range j).map (fun (i : Nat) => D.oPool 5 (i : Int) ((i + 1 : Nat) : Int) 1 1 (-128) 127)
theorem chT_succ (k : Int) (j : Nat) : chT k j ++ [D.tMid 1 k 1 0] = chT k (j + 1) := by
  unfold chT; rw [List.range_succ, List.map_append]; rfl
theorem chO_succ (j : Nat) : chO j ++ [D.oPool 5 (j : Int) ((j + 1 : Nat) : Int) 1 1 (-128) 127] = chO (j + 1) := by
  unfold chO; rw [List.range_succ, List.map_append]; rfl
theorem chT_len (k : Int) (j : Nat) : (chT k j).length = j + 1 := by simp [chT]
theorem chO_len (j : Nat) : (chO j).length = j := by simp [chO]
theorem chT_size (k : Int) (j : Nat) : sizeT (chT k j) = 5 * (j + 1) := by
  induction j with
  | zero => rfl
  | succ j ih =>
    rw [← chT_succ, sizeT_snoc, ih]
    show 5 * (j + 1) + (5 + 4 * 0) = 5 * (j + 1 + 1)
    omega
theorem chO_fit (k : Int) (j : Nat) (hj : j ≤ 16) (hk : 1 ≤ k ∧ k ≤ 255) : ∀ o ∈ chO j, FitO o := (D.fit_chain j k hj hk).os
theorem ch_enc (n : Nat) (k : Int) : mbytes ((chT k n).flatMap encT) ((chO n).flatMap encO) (chT k n).length (chO n).length [(n : Int)] = encM (D.mChain n k) := rfl

set_option maxRecDepth 100000 in
set_option maxHeartbeats 4000000 in
theorem chained_c (n k : Nat) (w : World) (h1 : 1 ≤ n) (h2 : n ≤ 16) (k1 : 1 ≤ k) (k2 : k ≤ 255) :
    Calls Try.prog 8 #[.int .i64 n, .int .i64 k] w fun e w' => e = .returned (.bool true) ∧ w.grownBy w' none := by
  have K : Hid (1 ≤ (k : Int) ∧ (k : Int) ≤ 255) := ⟨by omega, by omega⟩
  have HL := hide (D.long_chain n k h2 K.out)
  have HRd : Hid (M.read (S8 (encM (D.mChain n k))) = if (n : Int) * k + k ≤ 2048 then 0 else 3) := by
    rw [Hid, read_enc _ (D.fit_chain n k h2 K.out) HL.out, D.check_chain n k h1 h2 K.out]
  have HRa : Hid ((M.readAll (S8 (encM (D.mChain n k)))).1 = D.mChain n k) := by rw [Hid, readAll_enc _ (D.fit_chain n k h2 K.out)]
  have HAr := hide (D.arena_chain n k K.out.1)
  have HSt := hide (H.shrink_len (D.mChain n k))
  have hlo : 0 ≤ (n : Int) * k := Int.mul_nonneg (by omega) (by omega)
  have hhi : (n : Int) * k ≤ 16 * 255 := Int.mul_le_mul (by omega) (by omega) (by omega) (by omega)
  have X0 := hide (MP.new w)
  have G0 := hide (World.grownBy_alloc w (.cells #[.string ⟨#[]⟩, .string ⟨#[]⟩, .int .i64 0, .int .i64 0, .slice none 0 0] 37) none)
  go_enter Try.func8, Try.ntmps8
  go_wp2_with fail
  refine (mten w.heap.size [] [] _ (D.tIn 1 k 1 0) none 0 0 _ X0.out (Ints.nil _ _) (by decide) (show 0 ≤ 1000 by decide) (by decide)).mono ?_
  rintro e q1 ⟨rfl, P1, g1⟩
  have P1' : MP q1 w.heap.size (chT k 0) (chO 0) (.slice none 0 0) := P1
  have HP1 := hide P1'
  have HG1 := hide (gr_new G0.out g1 (Nat.le_refl _))
  clear P1 P1' g1 X0 G0
  go_wp2
  go_loopw [6, 7] (fun t i wr => ∃ j : Nat, j ≤ n ∧ i = .int .i64 j ∧ t = .int .i64 j ∧ Hid (MP wr w.heap.size (chT k j) (chO j) (.slice none 0 0)) ∧ w.grownBy wr none) (fun _ i _ => n - (intOf i).toNat)
  case atStart => exact ⟨0, Nat.zero_le _, rfl, rfl, HP1.out, HG1.out⟩
  case round =>
    clear HP1 HG1
    obtain ⟨j, hj, rfl, rfl, HP, hg⟩ := hrel
    by_cases hlt : j < n
    · have HG := hide hg
      clear hg
      go_wp2_with fail
      refine (mten w.heap.size (chT k j) (chO j) _ (D.tMid 1 k 1 0) none 0 0 wr HP.out (Ints.nil _ _) (by rw [chT_size]; omega) (show 0 ≤ 1000 by decide) (by rw [chT_len]; omega)).mono ?_
      rintro e q2 ⟨rfl, P2, g2⟩
      rw [chT_succ] at P2
      rw [chT_len]
      have HP2 := hide P2
      have HG2 := hide (gr_new HG.out g2 (Nat.le_refl _))
      clear P2 g2 HP HG
      go_wp2_with fail
      refine (span_c (-128) 127 q2).mono ?_
      rintro e q3 ⟨rfl, g3⟩
      have HY3 := hide ((HP2.out.kept g3 (by simp)).kept (World.grownBy_alloc q3 (.cells #[.int .i64 j] 3) none) (by simp))
      have HG3 := hide (gr_trans (gr_trans HG2.out g3) (World.grownBy_alloc q3 (.cells #[.int .i64 j] 3) none))
      have I3 := hide (Ints.of_blk (base := 0) (xs := [(j : Int)]) (n := 1) (Nat.zero_le _) rfl (by decide) (Blk.new q3 3 #[.int .i64 j]))
      clear HP2 HG2 g3
      have hs2 : (S8 [b8 (-128), b8 127]).size = 2 := by rw [s8_size]; rfl
      have hs1 : (⟨#[1, 1]⟩ : ByteArray).size = 2 := rfl
      have Hsn := hide (show (⟨#[1, 1]⟩ : ByteArray) ++ S8 [b8 (-128), b8 127] = S8 (ownBytes (D.oPool 5 (j : Int) ((j + 1 : Nat) : Int) 1 1 (-128) 127)) by
        show S8 [1, 1] ++ S8 [b8 (-128), b8 127] = _
        rw [s8_app]; rfl)
      go_wp2_with fail
      rw [Hsn.out]
      refine (mopr w.heap.size (chT k (j + 1)) (chO j) _ (D.oPool 5 (j : Int) ((j + 1 : Nat) : Int) 1 1 (-128) 127) _ (some ⟨q3.heap.size, 0, none⟩) 1 1 _ HY3.out (chO_fit k j (by omega) K.out) I3.out rfl (show 4 ≤ 1000 by decide) (by rw [chO_len]; omega)).mono ?_
      rintro e q4 ⟨rfl, P4, g4⟩
      rw [chO_succ] at P4
      have HP4 := hide P4
      have HG4 := hide (gr_new HG3.out g4 (Nat.le_refl _))
      clear P4 g4 HY3 HG3 I3 Hsn hs1 hs2
      go_wp2
      go_roundw
      case rel => exact ⟨j + 1, by omega, by go_num, rfl, HP4.out, HG4.out⟩
      case measure => simp [intOf]; omega
    · obtain rfl : j = n := by omega
      have hbl := HP.out.lt
      have e4 : wr.cell? ⟨w.heap.size, 4, none⟩ = some (.slice none 0 0) := Blk.cell HP.out 4
      have f4 := Blk.free HP.out 4
      have HG := hide hg
      have PF := hide (show MP ((wr.setCell ⟨w.heap.size, 4, none⟩ (.slice (some ⟨wr.heap.size, 0, none⟩) 1 1)).alloc (.cells #[.int .i64 j] 3)) w.heap.size (chT k j) (chO j) (.slice (some ⟨wr.heap.size, 0, none⟩) 1 1) from
        Blk.alloc (Blk.set HP.out 4 (.slice (some ⟨wr.heap.size, 0, none⟩) 1 1)) (.cells #[.int .i64 j] 3))
      have IF : Hid (Ints ((wr.setCell ⟨w.heap.size, 4, none⟩ (.slice (some ⟨wr.heap.size, 0, none⟩) 1 1)).alloc (.cells #[.int .i64 j] 3)) 0 (.slice (some ⟨wr.heap.size, 0, none⟩) 1 1) [(j : Int)]) :=
        Ints.of_blk (xs := [(j : Int)]) (Nat.zero_le _) rfl (by decide) (by have e := Blk.new (wr.setCell ⟨w.heap.size, 4, none⟩ (.slice (some ⟨wr.heap.size, 0, none⟩) 1 1)) 3 #[.int .i64 j]; rw [World.size_setCell] at e; exact e)
      have GF := hide (gr_trans (gr_new HG.out (gr_set wr w.heap.size 4 (.slice (some ⟨wr.heap.size, 0, none⟩) 1 1)) (Nat.le_refl _)) (World.grownBy_alloc _ (.cells #[.int .i64 j] 3) none))
      clear hg
      obtain ⟨q8, H8⟩ : ∃ q8, Hid (((wr.setCell ⟨w.heap.size, 4, none⟩ (.slice (some ⟨wr.heap.size, 0, none⟩) 1 1)).alloc (.cells #[.int .i64 j] 3)) = q8) := ⟨_, rfl⟩
      rw [H8.out] at PF IF GF
      have ZT : Hid (((chT k j).flatMap encT).length ≤ 100000) := Nat.le_trans (sizeT_le _) (by rw [chT_size]; omega)
      have ZO : Hid (((chO j).flatMap encO).length ≤ 100000) := by have := D.enc_os_len (chO j) (chO_fit k j (by omega) K.out); rw [chO_len] at this; unfold Hid; omega
      have HE := hide (ch_enc j k)
      clear HP HG
      go_wp2_with fail
      rw [H8.out]
      refine (mbytes_c w.heap.size 0 _ _ _ _ _ 1 1 [(j : Int)] q8 PF.out IF.out ZT.out ZO.out (show 1 ≤ 1000 by decide)).mono ?_
      rintro e q9 ⟨rfl, g9⟩
      rw [HE.out]
      have HG9 := hide (gr_trans GF.out g9)
      clear g9 GF PF IF ZT ZO HE H8 e4 f4 hbl
      go_wp2_with fail
      refine (compile_c (S8 (encM (D.mChain j k))) q9 (by rw [s8_size]; have := HL.out; omega)).mono ?_
      rintro e q10 ⟨g10, ⟨hr, rfl⟩ | ⟨hr, p, hp, rfl, hP⟩⟩
      · have HG10 := hide (gr_trans HG9.out g10)
        have hc : ¬ (j : Int) * k + k ≤ 2048 := by
          intro hc
          rw [HRd.out, if_pos hc] at hr
          exact hr rfl
        rw [HRd.out, if_neg hc]
        clear g10 hr HG9
        go_wp2
        go_ret
        exact ⟨rfl, HG10.out⟩
      · have HG10 := hide (gr_trans HG9.out g10)
        have hc : (j : Int) * k + k ≤ 2048 := by
          rcases Classical.em ((j : Int) * k + k ≤ 2048) with h' | h'
          · exact h'
          · rw [HRd.out, if_neg h'] at hr
            exact absurd hr (by decide)
        rw [HRa.out] at hP
        have HP := hide hP
        clear g10 hr HG9 hP hp
        go_wp2_with fail
        refine (arena_c p (D.mChain j k) q10 HP.out).mono ?_
        rintro e q11 ⟨rfl, g11⟩
        have hA : (k : Int) ≤ H.endOf (pB (D.mChain j k)) ∧ H.endOf (pB (D.mChain j k)) ≤ 2 * k := HAr.out
        have HP2 := hide (HP.out.kept0 g11)
        have HG11 := hide (gr_trans HG10.out g11)
        obtain ⟨ar, Har⟩ : ∃ ar, Hid (H.endOf (pB (D.mChain j k)) = ar) := ⟨_, rfl⟩
        rw [Har.out] at hA ⊢
        clear HP HG10 g11 HAr
        go_wp2_with fail
        refine (steps_c p (D.mChain j k) q11 HP2.out).mono ?_
        rintro e q12 ⟨⟨G, gs, rfl, -⟩, g12⟩
        have hS : (pM (D.mChain j k)).ops.length ≤ j := by
          have := HSt.out
          rw [show (D.mChain j k).ops.length = j from chO_len j] at this
          exact this
        have HG12 := hide (gr_trans HG11.out g12)
        obtain ⟨L, hLe⟩ : ∃ L, Hid ((pM (D.mChain j k)).ops.length = L) := ⟨_, rfl⟩
        rw [hLe.out] at hS ⊢
        clear HP2 HG11 g12 HSt
        go_wp2
        go_ret
        exact ⟨rfl, HG12.out⟩

theorem chain_c (a0 a1 a2 : Int) (w : World) (hb0 : -9223372036854775808 ≤ a1) (hb1 : a1 ≤ 9223372036854775807) (hc0 : -9223372036854775808 ≤ a2) (hc1 : a2 ≤ 9223372036854775807) :
    Calls Try.prog 4 #[.int .i64 a0, .int .i64 a1, .int .i64 a2] w fun e w' => e = .returned (.bool true) ∧ w.grownBy w' none := by
  have r0 : 0 ≤ pickOf a2 16 ∧ pickOf a2 16 < 16 := ⟨Int.emod_nonneg _ (by decide), Int.emod_lt_of_pos _ (by decide)⟩
  have r1 : 0 ≤ pickOf a1 255 ∧ pickOf a1 255 < 255 := ⟨Int.emod_nonneg _ (by decide), Int.emod_lt_of_pos _ (by decide)⟩
  go_enter Try.func4, Try.ntmps4
  go_wp2_with fail
  refine (pick_c a2 16 w hc0 hc1 (by decide) (by decide)).mono ?_
  rintro e w1 ⟨rfl, rfl⟩
  obtain ⟨x, Hx⟩ : ∃ x : Nat, Hid (pickOf a2 16 = (x : Int)) := ⟨(pickOf a2 16).toNat, by unfold Hid; omega⟩
  rw [Hx.out] at r0 ⊢
  go_wp2_with fail
  refine (pick_c a1 255 w1 hb0 hb1 (by decide) (by decide)).mono ?_
  rintro e w2 ⟨rfl, rfl⟩
  obtain ⟨y, Hy⟩ : ∃ y : Nat, Hid (pickOf a1 255 = (y : Int)) := ⟨(pickOf a1 255).toNat, by unfold Hid; omega⟩
  rw [Hy.out] at r1 ⊢
  have e1 : (1 : Int) + x = ((1 + x : Nat) : Int) := by omega
  have e2 : (1 : Int) + y = ((1 + y : Nat) : Int) := by omega
  have E1 := hide e1
  have E2 := hide e2
  clear e1 e2
  go_wp2_with fail
  rw [E1.out, E2.out]
  refine (chained_c (1 + x) (1 + y) w2 (by omega) (by omega) (by omega) (by omega)).mono ?_
  rintro e w3 ⟨rfl, g3⟩
  go_wp2
  go_ret
  exact ⟨rfl, g3⟩

end Go.Proofs.Ytcnhfffgbamonab
