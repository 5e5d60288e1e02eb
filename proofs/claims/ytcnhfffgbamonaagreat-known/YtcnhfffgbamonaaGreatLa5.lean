/-
  The laws' own: two models that make the same.
-/
import Derived.Test.YtcnhfffgbamonaaGreatLaA
namespace Go.Proofs.YtcnhfffgbamonaaGreat
open Go.RowKit Go.Sort

theorem run_len (m : M.Md) (ins : List (List Int)) : (D.run m ins).length = m.outs.length := by unfold D.run; simp

theorem cells_le {m : M.Md} (his : D.Is m) {ins : List (List Int)} (hh : D.inputsHold m ins = true) : ∀ l ∈ D.run m ins, l.length ≤ 512 := by
  intro l hl
  obtain ⟨u, hu, rfl⟩ := List.mem_map.mp hl
  have h1 := is_one his
  have h := O.env_to h1 hh m.ops.length (Nat.le_refl _)
  rw [List.take_length] at h
  obtain ⟨a1, a2, -, a4⟩ := h.there (h1.outs u hu)
  have hd := (h1.dim _ a1).most
  show (D.cellsAt (D.env m ins) u).length ≤ 512
  have e : D.cellsAt (D.env m ins) u = D.cellsAt (m.ops.foldl (O.step m) (O.given m.tensors ins)) u := a4.symm
  rw [e]
  omega

set_option maxRecDepth 100000 in
set_option maxHeartbeats 1600000 in
theorem alike_m (ba bb : Nat) (ma mb : M.Md) (a : Option Addr) (n c : Nat) (ins : List (List Int)) (w : World) (hA : Mm w ba ma) (hB : Mm w bb mb) (hI : Lists w 0 (.slice a n c) ins) (hl : ∀ l ∈ ins, l.length ≤ 9223372036854775807) (hn : ins.length ≤ 9223372036854775807)
    (h1 : D.inputsHold ma ins = true) (h2 : D.inputsHold mb ins = true) (he : D.run ma ins = D.run mb ins) :
    Calls Tryz.prog 50 #[.pointer (some ⟨ba, 0, none⟩), .pointer (some ⟨bb, 0, none⟩), .slice a n c] w fun e w' => e = .returned (.bool true) ∧ w.grownBy w' none := by
  have HB := hide hB
  have HI := hide hI
  have Hc := hide (cells_le hA.is h1)
  have HC := hide (outputs_c ba ma a n c ins w hA hI hl hn h1)
  have Hlen : Hid (ma.outs.length = mb.outs.length) := by rw [← run_len ma ins, ← run_len mb ins, he]; rfl
  have hu : ma.outs.length ≤ 1000 := by obtain ⟨ts, ops, nt, no, aa, nn, cc, -, -, -, -, -, h⟩ := hA.at_; exact h
  have HE := hide he
  have H2 := hide h2
  have Hl := hide hl
  have Hn := hide hn
  clear hA hB hI h1 h2 he hl hn
  have hnil : ∀ (W : World) (ad : Addr) (n c : Nat), (binOp .eql 25 (.slice (some ad) n c) (.slice none 0 0)).run Tryz.prog W = .ok (.bool false) W := fun W ad n c => Lib.run_eql_slice_nil W 25 33 (some ad) n c 0 0 Tryz.underlying25
  go_enter Tryz.func50, Tryz.ntmps50
  go_wp2_with fail
  refine HC.out.mono ?_
  rintro e w1 ⟨⟨gx, rfl, hX⟩, hg1⟩
  have HX := hide hX
  have HG1 := hide hg1
  clear HC hX hg1
  go_wp2_with fail
  refine (outputs_c bb mb a n c ins w1 (HB.out.kept0 HG1.out) (HI.out.kept0 HG1.out) Hl.out Hn.out H2.out).mono ?_
  rintro e w2 ⟨⟨gy, rfl, hY⟩, hg2⟩
  have HX2 := hide (HX.out.kept0 hg2)
  have HY2 := hide hY
  have HG2 := hide (gr_trans HG1.out hg2)
  rw [← Hlen.out] at HY2 ⊢
  rw [← HE.out] at HY2
  clear HX hY hg2 HG1 HB
  obtain ⟨R, HR⟩ : ∃ R, Hid (D.run ma ins = R) := ⟨_, rfl⟩
  have HRl := hide (run_len ma ins)
  rw [HR.out] at HX2 HY2 HRl Hc
  obtain ⟨N, HN⟩ : ∃ N, Hid (ma.outs.length = N) := ⟨_, rfl⟩
  rw [HN.out] at HX2 HY2 HRl hu ⊢
  go_wp2
  clear hnil
  go_loopw [9] (fun i wr => ∃ k : Nat, k ≤ N ∧ i = .int .i64 k ∧ w2.grownBy wr none) (fun i _ => N - (intOf i).toNat)
  case atStart => exact ⟨0, Nat.zero_le _, rfl, World.grownBy.refl _ _⟩
  case round =>
    obtain ⟨k, hk, rfl, hgk⟩ := hrel
    by_cases hlt : k < N
    · obtain ⟨l, hl⟩ : ∃ l, R[k]? = some l := ⟨_, List.getElem?_eq_getElem (by rw [HRl.out]; exact hlt)⟩
      obtain ⟨g1, a1, c1, e1, -, d1, I1⟩ := (HX2.out.kept0 hgk).get k l hl
      obtain ⟨g2, a2, c2, e2, -, d2, I2⟩ := (HY2.out.kept0 hgk).get k l hl
      injection e1 with e1
      injection e1 with e1 _ _
      subst e1
      injection e2 with e2
      injection e2 with e2 _ _
      subst e2
      have hll := Hc.out l (List.mem_of_getElem? hl)
      have r1 := cell_regrown d1
      have r2 := cell_regrown d2
      have HC := hide (regrown_call (w := wr) fun W hW => (same_c 0 0 a1 a2 l.length c1 l.length c2 l l W (I1.kept0 hW) (I2.kept0 hW) (by omega) (by omega)))
      have HGk := hide hgk
      rw [show decide (l = l) = true from decide_eq_true rfl] at HC
      clear I1 I2 hl hgk d1 d2
      go_wp2
      refine wp_region_quiet_below (by kernel_rfl) (by kernel_rfl) ?_
      repeat (quiet_step (exact HC.out _ _))
      refine wpQuiet_nil ?_
      intro _ hw'
      obtain ⟨⟨dq, osq⟩, hw''⟩ := hw'
      subst hw''
      have HG3 := hide (gr_trans HGk.out (below_gr (below_regrown wr dq osq)))
      go_wp2
      go_roundw
      case rel => exact ⟨k + 1, by omega, by go_num, HG3.out⟩
      case measure => simp [intOf]; omega
    · obtain rfl : k = N := by omega
      have HG3 := hide (gr_trans HG2.out hgk)
      clear hgk
      go_wp2
      go_ret
      exact ⟨rfl, HG3.out⟩

end Go.Proofs.YtcnhfffgbamonaaGreat
