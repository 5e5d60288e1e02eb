/-
  Run: as the document says.
-/
import Derived.Test.YthfbllgbljimiaaOpB
import Derived.Deep.RegionWith
namespace Go.Proofs.Ythfbllgbljimiaa
open Go.RowKit

theorem lists_of {w : World} {G n : Nat} {cs : Array Value} {E : List (List Int)} (hB : Blk w G 35 cs) (hz : cs.size = n) (hE : E.length = n) (hm : n ≤ maxLen) (h : ∀ (j : Nat) u l, cs[j]? = some u → E[j]? = some l → IsInts w u l) : Lists w 0 (.slice (some ⟨G, 0, none⟩) n n) E := by
  refine ⟨cs.toList, by simp [hz, hE], ?_, fun j u l hu hl => ?_⟩
  · rw [hE]
    exact ⟨by simp [hz], .inr ⟨G, n, cs, rfl, Nat.zero_le _, hB, Nat.le_refl _, hm, by omega, by rw [List.take_of_length_le (by simp [hz])]⟩⟩
  · rw [Array.getElem?_toList] at hu
    exact h j u l hu hl

theorem envTo_step {m : M.Md} {ins : List (List Int)} {k : Nat} {o : M.Op} (h : m.ops[k]? = some o) : (m.ops.take (k + 1)).foldl (O.step m) (O.given m.tensors ins) = O.step m ((m.ops.take k).foldl (O.step m) (O.given m.tensors ins)) o := by
  rw [List.take_add_one, h, List.foldl_append]; rfl

theorem env_short {m : M.Md} {ins : List (List Int)} (h1 : O.One m) (hi : D.inputsHold m ins = true) : ∀ k, k ≤ m.ops.length → ∀ l ∈ (m.ops.take k).foldl (O.step m) (O.given m.tensors ins), l.length ≤ 512 := by
  intro k
  induction k with
  | zero =>
    intro _ l hl
    have hE := O.env_start h1 hi
    obtain ⟨n, hn⟩ := List.getElem?_of_mem hl
    have hlt : n < m.tensors.length := by
      rcases Nat.lt_or_ge n m.tensors.length with h' | h'
      · exact h'
      · have hn' : (O.given m.tensors ins)[n]? = some l := hn
        rw [List.getElem?_eq_none (by rw [O.given_len]; omega)] at hn'; exact absurd hn' (by simp)
    obtain ⟨t, ht⟩ : ∃ t, m.tensors[n]? = some t := ⟨_, List.getElem?_eq_getElem hlt⟩
    have hn2 : (O.given m.tensors ins)[n]? = some l := hn
    have hg := given_at m.tensors ins n t ht
    rw [hg] at hn2
    injection hn2 with hn2
    have hD := h1.dim t (List.mem_of_getElem? ht)
    have hm := hD.most
    by_cases k2 : t.kind = 2 ∨ t.kind = 3
    · rw [← hn2]; unfold givenAt; rw [if_neg (by omega), if_neg (by omega)]; simp
    · have := hE.full n t ht (by omega) (fun k3 => by omega)
      have e : (O.given m.tensors ins).getD n [] = l := by rw [List.getD, hg, ← hn2]; rfl
      rw [e] at this
      omega
  | succ k ih =>
    intro hk l hl
    have hx : m.ops[k]? = some m.ops[k] := List.getElem?_eq_getElem (by omega)
    rw [envTo_step hx] at hl
    unfold O.step at hl
    rcases List.mem_or_eq_of_mem_set hl with h | h
    · exact ih (by omega) l h
    · have F := (O.env_to h1 hi k (by omega)).finds h1 hx
      rw [h]
      unfold O.make
      rw [D.grid_length]
      have := F.z.most
      omega
theorem env_len {m : M.Md} {ins : List (List Int)} (k : Nat) : ((m.ops.take k).foldl (O.step m) (O.given m.tensors ins)).length = m.tensors.length := by
  induction k with
  | zero => exact O.given_len _ _
  | succ k ih =>
    cases h : m.ops[k]? with
    | none => rw [List.take_add_one, h]; simpa using ih
    | some o => rw [envTo_step h]; unfold O.step; rw [List.length_set]; exact ih

set_option maxRecDepth 100000 in
set_option maxHeartbeats 4000000 in
theorem run_c (p : Nat) (md : M.Md) (a : Option Addr) (n c : Nat) (ins : List (List Int)) (w : World) (hP : Pl w p md) (h1 : O.One md) (hI : Lists w 0 (.slice a n c) ins) (hl : ∀ l ∈ ins, l.length ≤ 9223372036854775807) (hn : ins.length ≤ 9223372036854775807) :
    Calls Try.prog 43 #[.pointer (some ⟨p, 0, none⟩), .slice a n c] w fun e w' => w.grownBy w' none ∧
      ((D.inputsHold md ins = false ∧ e = .returned (.tuple #[.slice none 0 0, .int .i64 7])) ∨
       (D.inputsHold md ins = true ∧ ∃ g, e = .returned (.tuple #[.slice (some ⟨g, 0, none⟩) md.outs.length md.outs.length, .int .i64 0]) ∧ Lists w' w.heap.size (.slice (some ⟨g, 0, none⟩) md.outs.length md.outs.length) (D.run md ins))) := by
  have HP := hide hP
  obtain ⟨m, av, cv, hB, hL, hM, hW⟩ := hP
  have hnt := hW.nt
  have hno := hW.no
  have q0 : w.cell? ⟨p, 0, none⟩ = some (.pointer (some ⟨m, 0, none⟩)) := hB.cell 0
  have Q0 := hide q0
  have HM := hide hM
  have HW := hide hW
  have HI := hide hI
  have H1 := hide h1
  have HC := hide (takes_c p md a n c ins w HP.out hI hl hn)
  clear hL hM hW h1 hI hl hn HP hB
  go_enter Try.func43, Try.ntmps43
  go_wp2_with fail
  refine HC.out.mono ?_
  rintro e w1 ⟨rfl, rfl⟩
  clear HC
  cases hh : D.inputsHold md ins with
  | false =>
    have Hh := hide hh
    clear hh
    go_wp2
    go_ret2
    exact ⟨World.grownBy.refl _ _, .inl ⟨Hh.out, rfl⟩⟩
  | true =>
    have Hh := hide hh
    have Hlen := hide (show ins.length = (lensOf md.tensors).length by
      unfold D.inputsHold at hh
      rw [Bool.and_eq_true, beq_iff_eq] at hh
      have := congrArg List.length hh.1
      rwa [List.length_map] at this)
    clear hh
    go_wp2_with fail
    refine (given_c m md a n c ins w1 HM.out HW.out HI.out Hlen.out).mono ?_
    rintro e w2 ⟨G, cs0, rfl, hG, hB0, hz0, hA0, hg2⟩
    have q2 : w2.cell? ⟨p, 0, none⟩ = some (.pointer (some ⟨m, 0, none⟩)) := cell_kept hg2 q0
    obtain ⟨a1, c1, a2, c2, a3, c3, hB, hT, hO, hU⟩ := HM.out
    have q3 : w2.cell? ⟨m, 1, none⟩ = some (.slice a2 md.ops.length c2) := cell_kept hg2 (hB.cell 1)
    have hmt : md.tensors.length ≤ maxLen := by unfold maxLen; omega
    clear hT hU
    go_wp2
    go_loopw [41] (fun i wr => ∃ (k : Nat) (cs : Array Value), k ≤ md.ops.length ∧ i = .int .i64 k ∧ Blk wr G 35 cs ∧ cs.size = md.tensors.length ∧ Hid (∀ (j : Nat) u l, cs[j]? = some u → ((md.ops.take k).foldl (O.step md) (O.given md.tensors ins))[j]? = some l → IsInts wr u l) ∧ w1.grownBy wr none) (fun i _ => md.ops.length - (intOf i).toNat)
    case atStart => exact ⟨0, cs0, Nat.zero_le _, rfl, hB0, hz0, hA0, hg2⟩
    case round =>
      obtain ⟨k, cs, hk, rfl, hBk, hsz, Hal, hgk⟩ := hrel
      have hGl := hBk.lt
      by_cases hlt : k < md.ops.length
      · obtain ⟨o, ho⟩ : ∃ o, md.ops[k]? = some o := ⟨_, List.getElem?_eq_getElem hlt⟩
        obtain ⟨g, ao, pn, cp, rfl, hgl, -, hS, hR⟩ := (hO.kept0 hgk).get k o ho
        have F := hide ((O.env_to H1.out Hh.out k hk).finds H1.out ho)
        have HEs := hide (envTo_step (ins := ins) ho)
        have Hto := hide (O.isKind_at (H1.out.to k o ho))
        obtain ⟨q, hq⟩ := Int.eq_ofNat_of_zero_le Hto.out.1
        have hqlt : q < md.tensors.length := by have := Hto.out.2.1; omega
        have Hq := hide hq
        clear hq
        have HE : Hid (((md.ops.take k).foldl (O.step md) (O.given md.tensors ins)).length = md.tensors.length) := env_len k
        have HL := hide (lists_of hBk hsz HE.out hmt Hal.out)
        obtain ⟨C, HC⟩ : ∃ C, Hid ((md.ops.take k).foldl (O.step md) (O.given md.tensors ins) = C) := ⟨_, rfl⟩
        rw [HC.out] at Hal F HEs HE HL
        have hS1 : Scs (wr.alloc (.cells (oval o (.slice ao pn cp)) 77)) 0 (.slice ao pn cp) o.scales := owns_mono (owns_kept0 hS (World.grownBy_alloc _ _ _)) (Nat.zero_le _)
        have HB1 := Blk.new wr 77 (oval o (.slice ao pn cp))
        have hg1 : wr.grownBy (wr.alloc (.cells (oval o (.slice ao pn cp)) 77)) none := World.grownBy_alloc _ _ _
        have HS1 := hide hS1
        have HBB := hide HB1
        have HG1 := hide hg1
        clear hS hS1 HB1 hg1 q0 q2 q3
        go_wp2_with (first | (refine wpList_load_mid rfl 77 _ rfl g (k * 16) rfl (oval o (.slice ao pn cp)).toList _ hR Try.underlying77 rfl Try.size77 ?_) | (refine wpList_store_row rfl 77 _ _ rfl wr.heap.size (oval o (.slice ao pn cp)) rfl rfl 77 (o16 0 0 0 0 0 0 0 0 false (.slice none 0 0) 0 0 0 0 0 0) (Blk.new wr 77 _) Try.size77 rfl (one16 ..) ?_; rw [World.setRow_alloc_new]; generalize wr.alloc (.cells (oval o (.slice ao pn cp)) 77) = w3 at *; have hc1 : w3.cell? ⟨wr.heap.size, 1, none⟩ = some (.int .i64 o.a) := HBB.out.cell 1; have hc2 : w3.cell? ⟨wr.heap.size, 2, none⟩ = some (.int .i64 o.b) := HBB.out.cell 2))
        refine (listed_c (some ⟨G, 0, none⟩) md.tensors.length md.tensors.length C o.a _ (HL.out.kept0 HG1.out) (by rw [HE.out]; omega)).mono ?_
        rintro e w4 ⟨⟨aa, ca, rfl, hIa⟩, rfl⟩
        have HIa := hide hIa
        clear hIa
        go_wp2_with fail
        refine (listed_c (some ⟨G, 0, none⟩) md.tensors.length md.tensors.length C o.b _ (HL.out.kept0 HG1.out) (by rw [HE.out]; omega)).mono ?_
        rintro e w5 ⟨⟨ab, cb, rfl, hIb⟩, rfl⟩
        have HIb := hide hIb
        clear hIb hc1 hc2
        have hgw := gr_trans hgk HG1.out
        have HGW := hide hgw
        have qp : w5.cell? ⟨p, 0, none⟩ = some (.pointer (some ⟨m, 0, none⟩)) := cell_kept hgw (Q0.out)
        obtain ⟨k0, k1, k2, k3, k4, k5, k6, k7, k8, k9, k10, k11, k12, k13, k14, k15⟩ := cells16 (show Blk w5 wr.heap.size 77 (oo o (.slice ao pn cp)) from HBB.out)
        have hBG := hBk.kept HG1.out (by simp)
        have HC := hide (make_c m md o ao pn cp aa (D.cellsAt C o.a).length ca (D.cellsAt C o.a) ab (D.cellsAt C o.b).length cb (D.cellsAt C o.b) w5.drew ((HM.out.kept0 hgw).kept0 (gr_drew _ _)) hnt (owns_kept0 HS1.out (gr_drew _ _)) (HIa.out.kept0 (gr_drew _ _)) (HIb.out.kept0 (gr_drew _ _)) F.out)
        clear hgw hR hgk HL
        go_wp2
        go_region_with (go_at_call 49; refine HC.out.mono ?_; rintro e w7 ⟨⟨g7, c7, rfl, hI7⟩, hg7⟩; have HI7 := hide hI7; have HG7 := hide (gr_trans (gr_drew _ _) hg7); clear hI7 hg7)
        all_goals
          have k5' : w7.cell? ⟨wr.heap.size, 5, none⟩ = some (.int .i64 q) := by rw [← Hq.out]; exact cell_kept HG7.out k5
          have hBG7 := hBG.kept HG7.out (by simp)
          have cG : ∃ v, w7.cell? ⟨G, q, none⟩ = some v := ⟨_, by rw [hBG7.cell q]; exact Array.getElem?_eq_getElem (by omega)⟩
          obtain ⟨vG, cG⟩ := cG
          have fG := hBG7.free q
          have HB2 := hide (hBG7.set q (.slice (some ⟨g7, 0, none⟩) (O.make md o (D.cellsAt C o.a) (D.cellsAt C o.b)).length c7))
          have HA2 : Hid (∀ (j : Nat) u l, (cs.setIfInBounds q (.slice (some ⟨g7, 0, none⟩) (O.make md o (D.cellsAt C o.a) (D.cellsAt C o.b)).length c7))[j]? = some u → ((md.ops.take (k + 1)).foldl (O.step md) (O.given md.tensors ins))[j]? = some l → IsInts (w7.setCell ⟨G, q, none⟩ (.slice (some ⟨g7, 0, none⟩) (O.make md o (D.cellsAt C o.a) (D.cellsAt C o.b)).length c7)) u l) := fun j u l hu hl => by
            rw [HEs.out] at hl
            unfold O.step at hl
            rw [Hq.out, Int.toNat_natCast, List.getElem?_set] at hl
            rw [Array.getElem?_setIfInBounds] at hu
            by_cases e : q = j
            · subst e
              rw [if_pos rfl, if_pos (by omega)] at hu
              rw [if_pos rfl, if_pos (by rw [HE.out]; omega)] at hl
              injection hu with hu
              injection hl with hl
              subst hu
              subst hl
              exact ⟨_, _, _, rfl, (HI7.out.mono (Nat.zero_le _)).apart hBG7 (by decide) (gr_set _ _ _ _)⟩
            · rw [if_neg e] at hu hl
              exact (((Hal.out j u l hu hl).kept0 HG1.out).kept0 HG7.out).apart hBG7 (by decide) (gr_set _ _ _ _)
          have HG2 := hide (gr_new (gr_trans HGW.out HG7.out) (gr_set w7 G q (.slice (some ⟨g7, 0, none⟩) (O.make md o (D.cellsAt C o.a) (D.cellsAt C o.b)).length c7)) hG)
          clear hBG7 hBk hBG k0 k1 k2 k3 k4 k5 k6 k7 k8 k9 k10 k11 k12 k13 k14 k15 qp
          generalize (O.make md o (D.cellsAt C o.a) (D.cellsAt C o.b)).length = ml at *
          go_wp2
          go_roundw
          case rel => exact ⟨k + 1, cs.setIfInBounds q (.slice (some ⟨g7, 0, none⟩) ml c7), by omega, by go_num, HB2.out, by simp [hsz], HA2.out, HG2.out⟩
          case measure => simp [intOf]; omega
      · obtain rfl : k = md.ops.length := by omega
        have HL := hide (lists_of hBk hsz (env_len md.ops.length) hmt Hal.out)
        have HS := hide (env_short H1.out Hh.out md.ops.length (Nat.le_refl _))
        have HLn : Hid (((md.ops.take md.ops.length).foldl (O.step md) (O.given md.tensors ins)).length = md.tensors.length) := env_len _
        have HR := hide (show md.outs.map (D.cellsAt ((md.ops.take md.ops.length).foldl (O.step md) (O.given md.tensors ins))) = D.run md ins by
          rw [List.take_length]; exact O.run_eq H1.out Hh.out)
        have qp : wr.cell? ⟨p, 0, none⟩ = some (.pointer (some ⟨m, 0, none⟩)) := cell_kept hgk Q0.out
        have HMr := hide (HM.out.kept0 hgk)
        have HGk := hide hgk
        clear hBk Hal hO hgk q0 q2 q3 hB
        go_wp2_with fail
        refine (answer_c m md (some ⟨G, 0, none⟩) md.tensors.length md.tensors.length _ wr HMr.out HW.out HL.out (by rw [HLn.out]; exact hnt) HS.out).mono ?_
        rintro e w8 ⟨g8, rfl, hL8, hg8⟩
        have HL8 := hide (hL8.mono HGk.out.size)
        have HG8 := hide (gr_trans HGk.out hg8)
        rw [HR.out] at HL8
        clear hL8 hg8
        go_wp2
        go_ret2
        exact ⟨HG8.out, .inr ⟨Hh.out, g8, rfl, HL8.out⟩⟩

end Go.Proofs.Ythfbllgbljimiaa
