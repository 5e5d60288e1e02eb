/-
  Make: all cells of an operator.
-/
import Derived.Test.YtcnhfffgbamonaaGreatOp6
namespace Go.Proofs.YtcnhfffgbamonaaGreat
open Go.RowKit

theorem grid_len (t : M.Tn) (f : Int → Int → Int → Int) (n : Nat) : (O.gridTo t f n).length = n := by unfold O.gridTo; simp
theorem grid_full (t : M.Tn) (f : Int → Int → Int → Int) : O.gridTo t f (M.cellsOf t).toNat = D.grid t f := rfl
theorem grid_step {t : M.Tn} {f : Int → Int → Int → Int} {W C y x k q : Nat} (hW : t.w = W) (hC : t.c = C) (hx : x < W) (hk : k < C) (hq : q = (y * W + x) * C + k) : O.gridTo t f (q + 1) = O.gridTo t f q ++ [f y x k] := by
  unfold O.gridTo
  rw [List.range_succ, List.map_append, List.map_singleton, hW, hC]
  have e1 : q / C = y * W + x := by
    rw [hq, Nat.add_comm, Nat.add_mul_div_right _ _ (by omega), Nat.div_eq_of_lt hk]; omega
  have e2 : q % C = k := by rw [hq, Nat.add_comm, Nat.add_mul_mod_self_right, Nat.mod_eq_of_lt hk]
  have e3 : q / (W * C) = y := by
    rw [Nat.mul_comm, ← Nat.div_div_eq_div_mul, e1, Nat.add_comm, Nat.add_mul_div_right _ _ (by omega), Nat.div_eq_of_lt hx]; omega
  have e4 : q / C % W = x := by rw [e1, Nat.add_comm, Nat.add_mul_mod_self_right, Nat.mod_eq_of_lt hx]
  have f1 : (q : Int) / ((W : Int) * C) = y := by rw [← Int.natCast_mul, ← Int.natCast_ediv, e3]
  have f2 : (q : Int) / (C : Int) % (W : Int) = x := by rw [← Int.natCast_ediv, ← Int.natCast_emod, e4]
  have f3 : (q : Int) % (C : Int) = k := by rw [← Int.natCast_emod, e2]
  rw [f1, f2, f3]
theorem place_lt {H W C y x k : Nat} (hy : y < H) (hx : x < W) (hk : k < C) : (y * W + x) * C + k < H * W * C := by
  have h1 : (y + 1) * W ≤ H * W := Nat.mul_le_mul_right _ (by omega)
  rw [Nat.add_mul, Nat.one_mul] at h1
  have h2 : (y * W + x + 1) * C ≤ H * W * C := Nat.mul_le_mul_right _ (by omega)
  rw [Nat.add_mul, Nat.one_mul] at h2
  omega

set_option maxRecDepth 100000 in
set_option maxHeartbeats 4000000 in
theorem make_c (m : Nat) (md : M.Md) (o : M.Op) (so : Option Addr) (sn sc : Nat) (a : Option Addr) (an ac : Nat) (la : List Int) (b : Option Addr) (bn bc : Nat) (lb : List Int) (w : World) (hM : Mod w m md) (hn : md.tensors.length ≤ 255)
    (hS : Scs w 0 (.slice so sn sc) o.scales) (hA : Row w (.slice a an ac) la) (hB : Row w (.slice b bn bc) lb) (F : O.Finds md o la lb) :
    Calls Tryz.prog 87 #[.pointer (some ⟨m, 0, none⟩), .agg (oval o (.slice so sn sc)), .slice a an ac, .slice b bn bc] w fun e w' => (∃ g c, e = .returned (.slice (some ⟨g, 0, none⟩) (O.make md o la lb).length c) ∧ Ints w' w.heap.size (.slice (some ⟨g, 0, none⟩) (O.make md o la lb).length c) (O.make md o la lb)) ∧ w.grownBy w' none := by
  obtain ⟨i0, hi, hz0, hz1, hz2⟩ := info_parts Tryz.info3
  have N0 := hide (Blk.new w 142 (oo o (.slice so sn sc)))
  have G0 := World.grownBy_alloc w (.cells (oo o (.slice so sn sc)) 142) none
  have HC := hide (start_c m md o so sn sc a an ac la b bn bc lb _ (hM.kept0 G0) hn (owns_kept0 hS G0) (hA.kept0 G0) (hB.kept0 G0))
  have Hok := hide F.ok
  have Hkd := hide (jkind F)
  have Hz := hide F.z
  have HE := hide (show O.make md o la lb = D.grid (M.tensorAt md o.to) (O.cell (O.start md o la lb)) from rfl)
  show Calls Tryz.prog 87 #[.pointer (some ⟨m, 0, none⟩), .agg (oo o (.slice so sn sc)), .slice a an ac, .slice b bn bc] w _
  clear hM hS hA hB F
  go_enter Tryz.func87, Tryz.ntmps87
  go_wp2_with (refine wpList_load_row rfl 142 _ rfl w.heap.size rfl 142 (oo o (.slice so sn sc)) (0, 0) _ N0.out Tryz.underlying142 rfl Tryz.size142 ?_)
  refine HC.out.mono ?_
  rintro e w1 ⟨g, A, rfl, hg, hJ, hg1⟩
  have G1 := hide (gr_trans G0 hg1)
  have HJ := hide hJ
  clear N0 HC G0 hg1 hJ
  obtain ⟨da, dn, dc, hd⟩ := HJ.out.mv
  generalize hj : O.start md o la lb = j at *
  have hz : j.made = M.tensorAt md o.to := by rw [← hj]; rfl
  rw [← hz] at Hz HE
  have HZ := hide hz
  clear hz hj
  have e0 := HJ.out.mki
  have e1 := HJ.out.mh
  have e2 := HJ.out.mw
  have e3 := HJ.out.mc
  have e4 := HJ.out.mz
  go_wp2_with fail
  refine (cellsOf_c j.made.kind j.made.h j.made.w j.made.c j.made.zero (.slice da dn dc) _ (by have := Hz.out.h0; omega) Hz.out.h1 (by have := Hz.out.w0; omega) Hz.out.w1 (by have := Hz.out.c0; omega) Hz.out.c1).mono ?_
  rintro e w2 ⟨rfl, hg2⟩
  have HJ2 := hide (HJ.out.kept hg2)
  have G2 := hide (gr_trans G1.out hg2)
  have hsz2 := G2.out.size
  obtain ⟨H, hH⟩ : ∃ H : Nat, j.made.h = H := ⟨j.made.h.toNat, (Int.toNat_of_nonneg (by have := Hz.out.h0; omega)).symm⟩
  obtain ⟨W, hW⟩ : ∃ W : Nat, j.made.w = W := ⟨j.made.w.toNat, (Int.toNat_of_nonneg (by have := Hz.out.w0; omega)).symm⟩
  obtain ⟨C, hC⟩ : ∃ C : Nat, j.made.c = C := ⟨j.made.c.toNat, (Int.toNat_of_nonneg (by have := Hz.out.c0; omega)).symm⟩
  have H1 : H ≤ 255 := by have := Hz.out.h1; omega
  have W1 : W ≤ 255 := by have := Hz.out.w1; omega
  have C1 : C ≤ 255 := by have := Hz.out.c1; omega
  obtain ⟨N, hN⟩ : ∃ N : Nat, N = H * W * C := ⟨_, rfl⟩
  have eN : j.made.h * j.made.w * j.made.c = (N : Int) := by rw [hH, hW, hC, hN, Int.natCast_mul, Int.natCast_mul]
  have N1 : N ≤ 512 := by have := Hz.out.most; unfold M.cellsOf at this; omega
  have HNN := hide hN
  have HHH := hide hH
  have HWW := hide hW
  have HCC := hide hC
  have HF := hide (show O.gridTo j.made (O.cell j) N = O.make md o la lb by
    rw [HE.out, ← grid_full]; congr 1; unfold M.cellsOf; omega)
  rw [eN]
  clear hg2 HJ G1 e0 e1 e2 e3 e4 hd hN eN hH hW hC HE
  go_wp2_with (at_make; refine wpList_make_own _ rfl _ _ 33 rfl w2.heap.size 3 i0 (.int .i64 0) 1 Tryz.underlying33 hi hz0 hz1 _ _ _ N rfl rfl rfl ?c1 ?c2 ?c3 ?_)
  case c1 => rw [hz2]; omega
  case c2 => unfold maxLen; omega
  case c3 => exact Nat.le_refl _
  intro w3 hown hg3
  have hI3 : Ints w3 w2.heap.size (.slice (some ⟨w2.heap.size, 0, none⟩) 0 N) [] := hown
  have hsz3 := hg3.size
  clear hown
  go_wp2
  go_loopw [11, 12] (fun v i wr => ∃ y q : Nat, y ≤ H ∧ Hid (q = y * W * C) ∧ i = .int .i64 y ∧ v = .slice (some ⟨w2.heap.size, 0, none⟩) q N ∧ Ints wr w2.heap.size (.slice (some ⟨w2.heap.size, 0, none⟩) q N) (O.gridTo j.made (O.cell j) q) ∧ w2.grownBy wr none) (fun _ i _ => H - (intOf i).toNat)
  case atStart => exact ⟨0, 0, Nat.zero_le _, (by simp [Hid]), rfl, rfl, hI3, hg3⟩
  case round =>
    obtain ⟨y, q, hy, Hq, rfl, rfl, hIq, hgq⟩ := hrel
    have e1 := (HJ2.out.kept hgq).mh
    rw [HHH.out] at e1
    by_cases hlt : y < H
    · go_wp2
      go_loopw [11, 13] (fun v i wr => ∃ x q : Nat, x ≤ W ∧ Hid (q = (y * W + x) * C) ∧ i = .int .i64 x ∧ v = .slice (some ⟨w2.heap.size, 0, none⟩) q N ∧ Ints wr w2.heap.size (.slice (some ⟨w2.heap.size, 0, none⟩) q N) (O.gridTo j.made (O.cell j) q) ∧ w2.grownBy wr none) (fun _ i _ => W - (intOf i).toNat)
      case atStart => exact ⟨0, q, Nat.zero_le _, Hq.out, rfl, rfl, hIq, hgq⟩
      case round =>
        clear hIq hgq Hq e1
        obtain ⟨x, q, hx, Hq, rfl, rfl, hIq, hgq⟩ := hrel
        have e2 := (HJ2.out.kept hgq).mw
        rw [HWW.out] at e2
        by_cases hlt2 : x < W
        · go_wp2
          go_loopw [11, 14] (fun v i wr => ∃ k q : Nat, k ≤ C ∧ Hid (q = (y * W + x) * C + k) ∧ i = .int .i64 k ∧ v = .slice (some ⟨w2.heap.size, 0, none⟩) q N ∧ Ints wr w2.heap.size (.slice (some ⟨w2.heap.size, 0, none⟩) q N) (O.gridTo j.made (O.cell j) q) ∧ w2.grownBy wr none) (fun _ i _ => C - (intOf i).toNat)
          case atStart => exact ⟨0, q, Nat.zero_le _, Hq.out, rfl, rfl, hIq, hgq⟩
          case round =>
            clear hIq hgq Hq e2
            obtain ⟨k, q, hk, Hq, rfl, rfl, hIq, hgq⟩ := hrel
            have e3 := (HJ2.out.kept hgq).mc
            rw [HCC.out] at e3
            by_cases hlt3 : k < C
            · have hqN : q < N := by rw [Hq.out, HNN.out]; exact place_lt hlt hlt2 hlt3
              have Hst := hide (grid_step (f := O.cell j) HWW.out HCC.out hlt2 hlt3 Hq.out)
              go_wp2_with fail
              refine (ocell_c g j A y x k _ (HJ2.out.kept hgq) Hok.out Hkd.out (by omega) (by omega) (by omega) (by omega) (by omega) (by omega)).mono ?_
              rintro e w4 ⟨rfl, hg4⟩
              have hI4 := hIq.kept0 hg4
              have hg24 := gr_trans hgq hg4
              have hsz4 := hg24.size
              clear hIq hgq hg4 e3
              generalize O.cell j y x k = c at *
              go_wp2_with (at_builtin; refine wpList_append_fits _ rfl _ _ 33 rfl w2.heap.size 3 i0 1 Tryz.underlying33 hi hz1 w2.heap.size q N _ rfl (World.ownsRow.alloc (by have e := hI4; unfold Ints at e; rw [grid_len] at e; exact e) _) ⟨w4.heap.size, 0, none⟩ 1 1 [.int .i64 c] rfl rfl ?c1 ?c2 ?c3 ?_)
              case c1 => exact news_at1 w4 3 #[.int .i64 c]
              case c2 => intro u hu; simp at hu; subst hu; rfl
              case c3 => omega
              intro w5 hown5 hg5
              have HI5 : Hid (Ints w5 w2.heap.size (.slice (some ⟨w2.heap.size, 0, none⟩) (q + 1) N) (O.gridTo j.made (O.cell j) (q + 1))) := by
                rw [Hst.out]; unfold Hid Ints; rw [List.length_append, grid_len, List.map_append]; exact hown5
              have HG5 := hide (gr_new (gr_trans hg24 (World.grownBy_alloc _ _ _)) hg5 (Nat.le_refl _))
              clear hown5 hg5 hI4 hg24
              go_wp2
              go_roundw
              case rel => exact ⟨k + 1, q + 1, by omega, (by have := Hq.out; unfold Hid; omega), by go_num, rfl, HI5.out, HG5.out⟩
              case measure => simp [intOf]; omega
            · obtain rfl : k = C := by omega
              have Hq2 := hide (show q = (y * W + (x + 1)) * k by rw [Hq.out, ← Nat.add_assoc, Nat.add_mul (y * W + x) 1 k, Nat.one_mul])
              go_wp2
              go_roundw
              case rel => exact ⟨x + 1, q, by omega, Hq2, by go_num, rfl, hIq, hgq⟩
              case measure => simp [intOf]; omega
        · obtain rfl : x = W := by omega
          have Hq2 := hide (show q = (y + 1) * x * C by rw [Hq.out, Nat.add_mul y 1 x, Nat.one_mul])
          go_wp2
          go_roundw
          case rel => exact ⟨y + 1, q, by omega, Hq2, by go_num, rfl, hIq, hgq⟩
          case measure => simp [intOf]; omega
    · obtain rfl : y = H := by omega
      have hqN : q = N := by rw [Hq.out, HNN.out]
      subst hqN
      have HIF : Hid (Ints wr w.heap.size (.slice (some ⟨w2.heap.size, 0, none⟩) (O.make md o la lb).length q) (O.make md o la lb)) := by
        have e := hIq.mono hsz2
        have l := grid_len j.made (O.cell j) q
        rw [HF.out] at e l
        rw [l]; exact e
      have HL := hide (show (O.make md o la lb).length = q by have l := grid_len j.made (O.cell j) q; rw [HF.out] at l; exact l)
      have HG := hide (gr_trans G2.out hgq)
      clear hIq hgq
      go_wp2
      go_ret
      exact ⟨⟨w2.heap.size, q, by rw [HL.out]; rfl, HIF.out⟩, HG.out⟩

end Go.Proofs.YtcnhfffgbamonaaGreat
