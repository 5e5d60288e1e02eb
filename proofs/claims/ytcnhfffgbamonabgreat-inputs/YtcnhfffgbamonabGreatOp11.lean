/-
  Run: as the document says.
-/
import Derived.Test.YtcnhfffgbamonabGreatOpB
import Derived.Deep.RegionWith
namespace Go.Proofs.YtcnhfffgbamonabGreat
open Go.RowKit

theorem Lists.ints {w : World} {base : Nat} {a : Option Addr} {n c : Nat} {ls : List (List Int)} (h : Lists w base (.slice a n c) ls) (i : Nat) (l : List Int) (hi : ls[i]? = some l) :
    ∃ g ao c', a = some ⟨g, 0, none⟩ ∧ w.cell? ⟨g, i, none⟩ = some (.slice ao l.length c') ∧ Ints w 0 (.slice ao l.length c') l := by
  obtain ⟨g, ao, c', h1, -, h2, h3⟩ := h.get i l hi
  exact ⟨g, ao, c', h1, h2, h3⟩

theorem lists_of {w : World} {G n : Nat} {cs : Array Value} {E : List (List Int)} (hB : Blk w G 32 cs) (hz : cs.size = n) (hE : E.length = n) (hm : n ≤ maxLen) (h : ∀ (j : Nat) u l, cs[j]? = some u → E[j]? = some l → IsInts w u l) : Lists w 0 (.slice (some ⟨G, 0, none⟩) n n) E := by
  refine ⟨cs.toList, by simp [hz, hE], ?_, fun j u l hu hl => ?_⟩
  · rw [hE]
    exact ⟨by simp [hz], .inr ⟨G, n, cs, rfl, Nat.zero_le _, hB, Nat.le_refl _, hm, by omega, by rw [List.take_of_length_le (by simp [hz])]⟩⟩
  · rw [Array.getElem?_toList] at hu
    exact h j u l hu hl

theorem run_short {md : M.Md} (h1 : O.One md) {ins : List (List Int)} (hi : D.inputsHold md ins = true) : ∀ l ∈ D.run md ins, l.length ≤ 512 := by
  intro l hl
  have S := H.sol_of h1 hi
  rw [← O.run_eq h1 hi] at hl
  obtain ⟨n, hn, rfl⟩ := List.mem_map.mp hl
  obtain ⟨av, k2⟩ := S.outs n hn
  have e1 := S.full n av.1 av.2.1 k2
  have e2 := (S.dim n av.1 av.2.1).most
  omega

set_option maxRecDepth 100000 in
set_option maxHeartbeats 8000000 in
theorem run_f (p : Nat) (md : M.Md) (a : Option Addr) (n c : Nat) (ins : List (List Int)) (w : World) (hP : Pl w p md) (hI : Lsl w (.slice a n c) ins) (hl : ∀ l ∈ ins, l.length ≤ 9223372036854775807) (hn : ins.length ≤ 9223372036854775807) :
    Calls Tryz.prog 21 #[.pointer (some ⟨p, 0, none⟩), .slice a n c] w fun e w' => w.grownBy w' none ∧
      ((D.inputsHold md ins = false ∧ e = .returned (.tuple #[.slice none 0 0, .int .i64 7])) ∨
       (D.inputsHold md ins = true ∧ ∃ G gs, e = .returned (.tuple #[.slice (some ⟨G, 0, none⟩) md.outs.length md.outs.length, .int .i64 0]) ∧ Fresh w' w.heap.size G gs (D.run md ins))) := by
  obtain rfl := hI.len
  obtain ⟨j0, hj, hy0, hy1, hy2⟩ := info_parts Tryz.info3
  have HP := hide hP
  have HI := hide hI
  have HC := hide (takes_c p md a ins.length c ins w hP hI hl hn)
  have hP' := hP
  obtain ⟨m, an, cn, ab, cb, -, -, hB, hM, -, -, -, h1⟩ := hP'
  have q0 : w.cell? ⟨p, 0, none⟩ = some (.pointer (some ⟨m, 0, none⟩)) := hB.cell 0
  have Q0 := hide q0
  have HM := hide hM
  have H1 := hide h1
  have hpl := hB.lt
  clear hB hM h1 hP hI hl
  go_enter Tryz.func21, Tryz.ntmps21
  go_wp2_with fail
  refine HC.out.mono ?_
  rintro e w1 ⟨rfl, rfl⟩
  clear HC
  cases hh : D.inputsHold md ins with
  | false =>
    have Hh := hide hh
    clear hh
    go_wp2
    go_ret2
    exact ⟨World.grownBy.refl _ _, .inl ⟨Hh.out, rfl⟩⟩
  | true =>
    have Hh := hide hh
    have S := (H.sol_of H1.out hh).shrink
    have A := H.al_of S
    have HA : Hid (H.Al (pM md) (O.env md ins) (H.ins_ (pM md)) (pD md) (pB md)) := A
    have HIns : Hid (H.Ins (pM md) (O.env md ins) ins) := (H.ins_of H1.out hh).kept (H.kept_shrink (H.sol_of H1.out hh))
    have Hout : Hid ((pM md).outs.map (D.cellsAt (O.env md ins)) = D.run md ins) := H.outs_run H1.out hh
    have Hlen := hide (show ins.length = H.ins_ (pM md) by
      rw [ins_lens H1.out]
      unfold D.inputsHold at hh
      rw [Bool.and_eq_true, beq_iff_eq] at hh
      have := congrArg List.length hh.1
      rwa [List.length_map] at this)
    have hi24 := (pB_ok H1.out).2.2.2.2
    have hn1 : (pM md).tensors.length ≤ 24 := S.nt
    have hn2 : (pM md).ops.length ≤ 16 := S.no
    have hen : 0 ≤ H.endOf (pB md) ∧ H.endOf (pB md) ≤ 2000000 := end_bound (pB_ok H1.out).1 _
    have hen2 : H.endOf (pB md) ≤ 60000 := by
      have e1 := A.L.sum
      have hs : ∀ (l : List H.Bf), (∀ b ∈ l, 0 ≤ b.c ∧ b.c ≤ 512) → 0 ≤ H.sumC l ∧ H.sumC l ≤ 512 * (l.length : Int) := by
        intro l
        induction l with
        | nil => intro _; simp [H.sumC]
        | cons x l ih =>
          intro h
          have h1 := h x List.mem_cons_self
          have h2 := ih fun b hb => h b (List.mem_cons_of_mem _ hb)
          simp only [H.sumC, List.length_cons]
          omega
      have e2 := hs (pB md) fun b hb => by
        obtain ⟨i, hi⟩ := List.getElem?_of_mem hb
        have hil : i < (pD md).lv.length := by rw [← show (pB md).length = (pD md).lv.length from A.L.len]; exact M.lt_of_some hi
        obtain ⟨-, f2, f3, -⟩ := A.fits hil
        have g2 : 1 ≤ b.c := by rw [← getD_some (d := H.noB) hi]; exact f2
        have g3 : b.c ≤ 512 := by rw [← getD_some (d := H.noB) hi]; exact f3
        omega
      have e3 := (pB_ok H1.out).2.2.1
      have e4 : H.endOf (pB md) ≤ H.sumC (pB md) := e1
      omega
    clear hh S A
    go_wp2_with fail
    refine (arena_c p md w1 HP.out).mono ?_
    rintro e w2 ⟨rfl, hg2⟩
    obtain ⟨E, hE⟩ := Int.eq_ofNat_of_zero_le hen.1
    have HE := hide hE
    rw [hE]
    have hE1 : E ≤ 60000 := by omega
    have HG2 := hide hg2
    clear hg2 hE hen hen2
    go_wp2_with (at_make; refine wpList_make_full _ rfl _ _ 32 rfl w2.heap.size 3 j0 (.int .i64 0) 1 Tryz.underlying32 hj hy0 hy1 _ _ _ _ E rfl rfl rfl rfl ?c1 ?c2 ?c3 ?_)
    case c1 => rw [hy2]; omega
    case c2 => unfold maxLen; omega
    case c3 => exact Nat.le_refl _
    intro w3 hown hg3
    have hB3 := made_blk hown
    have hs2 := HG2.out.size
    have hs3 := hg3.size
    have hg4 := World.grownBy_alloc w3 (.cells #[.pointer (some ⟨p, 0, none⟩), .slice (some ⟨w2.heap.size, 0, none⟩) E E] 85) none
    have HR4 : Hid (Rw (w3.alloc (.cells #[.pointer (some ⟨p, 0, none⟩), .slice (some ⟨w2.heap.size, 0, none⟩) E E] 85)) w3.heap.size p w2.heap.size (List.replicate E 0)) := by
      refine ⟨?_, ?_, by rw [List.length_replicate]; omega⟩
      · rw [List.length_replicate]; exact Blk.new w3 85 _
      · have e := hB3.kept hg4 (by simp)
        rw [List.map_replicate]; exact e
    have HJ0 : Hid (H.AJ (pM md) (O.env md ins) (pB md) 0 (List.replicate E 0)) := by
      have e := H.AJ.start (pM md) (O.env md ins) (pB md)
      rw [HE.out, Int.toNat_natCast] at e
      exact e
    have HG4 := hide (gr_trans HG2.out (gr_trans hg3 hg4))
    have hs23 : w2.heap.size < w3.heap.size := hB3.lt
    clear hown hg3 hg4 hB3
    go_wp2
    go_loopw [40] (fun i wr => ∃ (k : Nat) (cells : List Int), k ≤ ins.length ∧ i = .int .i64 k ∧ Rw wr w3.heap.size p w2.heap.size cells ∧ Hid (H.AJ (pM md) (O.env md ins) (pB md) k cells) ∧ w1.grownBy wr none) (fun i _ => ins.length - (intOf i).toNat)
    case atStart => exact ⟨0, List.replicate E 0, Nat.zero_le _, rfl, HR4.out, HJ0, HG4.out⟩
    case round =>
      obtain ⟨k, cells, hk, rfl, hRk, HJ, hgk⟩ := hrel
      have HGk := hide hgk
      by_cases hlt : k < ins.length
      · obtain ⟨l, hv⟩ : ∃ l, ins[k]? = some l := ⟨_, List.getElem?_eq_getElem hlt⟩
        obtain ⟨g, ao, c', rfl, d1, hIl⟩ := (HI.out.kept0 hgk).get k l hv
        have hkI : k < H.ins_ (pM md) := by rw [← Hlen.out]; exact hlt
        obtain ⟨hbl, hcl⟩ := H.in_place HA.out HIns.out hkI hv
        obtain ⟨f1, f2, f3, f4⟩ := HA.out.fits hbl
        have hbB : k < (pB md).length := by rw [show (pB md).length = (pD md).lv.length from HA.out.L.len]; exact hbl
        obtain ⟨x, hx⟩ : ∃ x, (pB md)[k]? = some x := ⟨_, List.getElem?_eq_getElem hbB⟩
        have f1' : 0 ≤ x.a := by rw [← getD_some (d := H.noB) hx]; exact f1
        have f2' : 1 ≤ x.c := by rw [← getD_some (d := H.noB) hx]; exact f2
        have f4e : x.e ≤ H.endOf (pB md) := by rw [← getD_some (d := H.noB) hx]; exact f4
        have f4' : x.a + x.c ≤ cells.length := by rw [HJ.out.len]; exact f4e
        have hcl' : (l.length : Int) = x.c := by rw [← getD_some (d := H.noB) hx]; exact hcl
        have HS : Hid (H.AJ (pM md) (O.env md ins) (pB md) (k + 1) (H.wrt cells x.a.toNat l)) := by
          have e := H.AJ.step HA.out HIns.out HJ.out hkI hv
          rw [getD_some hx] at e
          exact e
        have HC := hide (write_c w3.heap.size p w2.heap.size md cells l k x ao l.length c' wr (HP.out.kept0 hgk) hRk hx f1' f2' f4' hcl' hIl)
        clear hv hIl hRk hx f1 f2 f3 f4 f4e f1' f2' f4' hcl hcl' hgk
        go_wp2_with fail
        refine HC.out.mono ?_
        rintro e w5 ⟨rfl, hR5, hg5⟩
        have HR5 := hide hR5
        have HG5 := hide (gr_new HGk.out hg5 hs2)
        clear hR5 hg5 HC d1
        go_wp2
        go_roundw
        case rel => exact ⟨k + 1, H.wrt cells x.a.toNat l, by omega, by go_num, HR5.out, HS, HG5.out⟩
        case measure => simp [intOf]; omega
      · obtain rfl : k = ins.length := by omega
        have HA0 : Hid (H.AI (pM md) (O.env md ins) (pD md) (pB md) 0 cells) := by
          have e := HJ.out
          rw [Hlen.out] at e
          exact H.AJ.done HA.out e
        have q0' := cell_kept hgk Q0.out
        obtain ⟨a1, c1, a2, c2, a3, c3, hBm, -, hO, -⟩ := HM.out
        have q1' := cell_kept hgk (show w1.cell? ⟨m, 1, none⟩ = some (.slice a2 (pM md).ops.length c2) from hBm.cell 1)
        have HO := hide hO
        have HRk := hide hRk
        clear hBm hO hRk hgk HJ HJ0 HR4 HG4
        go_wp2
        clear q0' q1'
        go_loopw [58] (fun i wr => ∃ (k : Nat) (cells : List Int), k ≤ (pM md).ops.length ∧ i = .int .i64 k ∧ Rw wr w3.heap.size p w2.heap.size cells ∧ Hid (H.AI (pM md) (O.env md ins) (pD md) (pB md) k cells) ∧ w1.grownBy wr none) (fun i _ => (pM md).ops.length - (intOf i).toNat)
        case atStart => exact ⟨0, cells, Nat.zero_le _, rfl, HRk.out, HA0, HGk.out⟩
        case round =>
          clear HRk HA0 HGk
          obtain ⟨k, cells, hk, rfl, hRk, HAk, hgk⟩ := hrel
          have HGk := hide hgk
          by_cases hlt : k < (pM md).ops.length
          · obtain ⟨o, ho⟩ : ∃ o, (pM md).ops[k]? = some o := ⟨_, List.getElem?_eq_getElem hlt⟩
            obtain ⟨g, ao, pn, cp, rfl, hgl, -, hSc, hR⟩ := (HO.out.kept0 hgk).get k o ho
            have HF := hide (H.op_finds HA.out HAk.out ho)
            have HPl := hide (H.op_place HA.out ho)
            have HSt := hide (H.AI.step HA.out HAk.out ho)
            have hcl : (cells.length : Int) = H.endOf (pB md) := HAk.out.len
            have Hcl := hide hcl
            have HRk := hide hRk
            have HSc := hide hSc
            have HBo := hide (Blk.new wr 93 (oval o (.slice ao pn cp)))
            have HG1 := hide (World.grownBy_alloc wr (.cells (oval o (.slice ao pn cp)) 93) none)
            clear ho hcl hRk hSc hgk
            go_wp2_with (first | (refine wpList_load_mid rfl 93 _ rfl g (k * 16) rfl (oval o (.slice ao pn cp)).toList _ hR Tryz.underlying93 rfl Tryz.size93 ?_) | (refine wpList_store_row rfl 93 _ _ rfl wr.heap.size (oval o (.slice ao pn cp)) rfl rfl 93 (o16 0 0 0 0 0 0 0 0 false (.slice none 0 0) 0 0 0 0 0 0) (Blk.new wr 93 _) Tryz.size93 rfl (one16 ..) ?_; rw [World.setRow_alloc_new]; generalize wr.alloc (.cells (oval o (.slice ao pn cp)) 93) = w6 at *; have hc1 : w6.cell? ⟨wr.heap.size, 1, none⟩ = some (.int .i64 o.a) := HBo.out.cell 1))
            refine (of_c w3.heap.size p w2.heap.size md cells o.a wr w6 (HP.out.kept0 HGk.out) HRk.out HG1.out Hcl.out).mono ?_
            rintro e w7 ⟨⟨aa, ca, rfl, hRa⟩, hg7⟩
            have HRa := hide hRa
            have HG7 := hide (gr_trans HG1.out hg7)
            have HB7 := hide (HBo.out.kept hg7 (by simp))
            have hc2 : w7.cell? ⟨wr.heap.size, 2, none⟩ = some (.int .i64 o.b) := HB7.out.cell 2
            clear hRa hg7 hc1 HBo HG1 hR
            go_wp2_with fail
            refine (of_c w3.heap.size p w2.heap.size md cells o.b wr w7 (HP.out.kept0 HGk.out) HRk.out HG7.out Hcl.out).mono ?_
            rintro e w8 ⟨⟨ab', cb', rfl, hRb⟩, hg8⟩
            have HRb := hide hRb
            have hg8' := gr_trans HG7.out hg8
            have HG8 := hide hg8'
            have hB8 := HB7.out.kept hg8 (by simp)
            have qp : w8.cell? ⟨p, 0, none⟩ = some (.pointer (some ⟨m, 0, none⟩)) := cell_kept (gr_trans HGk.out hg8') Q0.out
            obtain ⟨k0, k1, k2, k3, k4, k5, k6, k7, k8, k9, k10, k11, k12, k13, k14, k15⟩ := cells16 (show Blk w8 wr.heap.size 93 (oo o (.slice ao pn cp)) from hB8)
            have HB8 := hide hB8
            have hFo : O.Finds (pM md) o (ofP md cells o.a) (ofP md cells o.b) := HF.out.1
            have HC := hide (make_c m (pM md) o ao pn cp aa (ofP md cells o.a).length ca (ofP md cells o.a) ab' (ofP md cells o.b).length cb' (ofP md cells o.b) w8.drew ((HM.out.kept0 (gr_trans HGk.out hg8')).kept0 (gr_drew _ _)) (by omega) (owns_mono (owns_kept0 (owns_kept0 HSc.out hg8') (gr_drew _ none)) (Nat.zero_le _)) ((HRa.out.kept0 hg8').kept0 (gr_drew _ none)) ((HRb.out.kept0 hg8').kept0 (gr_drew _ none)) hFo)
            have Hmk : Hid (O.make (pM md) o (ofP md cells o.a) (ofP md cells o.b) = D.cellsAt (O.env md ins) o.to) := HF.out.2
            rw [Hmk.out] at HC
            clear hRb hg8 hg8' hB8 hc2 HB7 HG7 hFo HF HRa HRb HSc
            obtain ⟨t0, t1, hb, hl', hc'⟩ := HPl.out
            have hbB : H.ins_ (pM md) + k < (pB md).length := by rw [show (pB md).length = (pD md).lv.length from HA.out.L.len]; exact hl'
            obtain ⟨x, hx⟩ : ∃ x, (pB md)[H.ins_ (pM md) + k]? = some x := ⟨_, List.getElem?_eq_getElem hbB⟩
            obtain ⟨f1, f2, f3, f4⟩ := HA.out.fits hl'
            have f1' : 0 ≤ x.a := by rw [← getD_some (d := H.noB) hx]; exact f1
            have f2' : 1 ≤ x.c := by rw [← getD_some (d := H.noB) hx]; exact f2
            have f4e : x.e ≤ H.endOf (pB md) := by rw [← getD_some (d := H.noB) hx]; exact f4
            have f4' : x.a + x.c ≤ cells.length := by rw [Hcl.out]; exact f4e
            have hml : ((D.cellsAt (O.env md ins) o.to).length : Int) = x.c := by rw [← getD_some (d := H.noB) hx]; exact hc'
            have Hbuf : Hid (bufI md o.to = ((H.ins_ (pM md) + k : Nat) : Int)) := by unfold Hid bufI; rw [if_neg (by omega)]; exact hb
            have Hx : Hid ((pB md)[H.ins_ (pM md) + k]? = some x ∧ 0 ≤ x.a ∧ 1 ≤ x.c ∧ x.a + x.c ≤ cells.length ∧ ((D.cellsAt (O.env md ins) o.to).length : Int) = x.c) := ⟨hx, f1', f2', f4', hml⟩
            have HS2 : Hid (H.AI (pM md) (O.env md ins) (pD md) (pB md) (k + 1) (H.wrt cells x.a.toNat (D.cellsAt (O.env md ins) o.to))) := by
              have e := HSt.out
              rw [getD_some hx] at e
              exact e
            clear hb hl' hc' f1 f2 f3 f4 f1' f2' f4' f4e hml hx hbB HSt HPl t0 t1 Hmk
            generalize D.cellsAt (O.env md ins) o.to = made at *
            go_wp2
            go_region_with (go_at_call 38; refine HC.out.mono ?_; rintro e w9 ⟨⟨g9, c9, rfl, hI9⟩, hg9⟩; have HI9 := hide hI9; have HG9 := hide (gr_trans (gr_drew _ _) hg9); clear hI9 hg9)
            all_goals
              have k5' : w9.cell? ⟨wr.heap.size, 5, none⟩ = some (.int .i64 o.to) := cell_kept HG9.out k5
              have HGa := hide (gr_trans HG8.out HG9.out)
              have HGb := hide (gr_trans HGk.out HGa.out)
              clear k0 k1 k2 k3 k4 k5 k6 k7 k8 k9 k10 k11 k12 k13 k14 k15 qp HC
              have HCb := hide (bufferOf_c p md o.to w9 (HP.out.kept0 HGb.out))
              have HCw := hide (write_c w3.heap.size p w2.heap.size md cells made (H.ins_ (pM md) + k) x (some ⟨g9, 0, none⟩) made.length c9 w9 (HP.out.kept0 HGb.out) (HRk.out.kept0 HGa.out) Hx.out.1 Hx.out.2.1 Hx.out.2.2.1 Hx.out.2.2.2.1 Hx.out.2.2.2.2 HI9.out.sl)
              rw [Hbuf.out] at HCb
              go_wp2_with fail
              refine HCb.out.mono ?_
              rintro e w10 ⟨rfl, rfl⟩
              clear HCb
              go_wp2_with fail
              refine HCw.out.mono ?_
              rintro e w11 ⟨rfl, hR11, hg11⟩
              have HR11 := hide hR11
              have HG11 := hide (gr_new HGb.out hg11 hs2)
              clear hR11 hg11 HCw k5'
              go_wp2
              go_roundw
              case rel => exact ⟨k + 1, H.wrt cells x.a.toNat made, by omega, by go_num, HR11.out, HS2, HG11.out⟩
              case measure => simp [intOf]; omega
          · obtain rfl : k = (pM md).ops.length := by omega
            have hcl : (cells.length : Int) = H.endOf (pB md) := HAk.out.len
            have hof : ∀ n ∈ (pM md).outs, ofP md cells n = D.cellsAt (O.env md ins) n := fun n hn => H.out_finds HA.out HAk.out hn
            have hlo : ∀ n ∈ (pM md).outs, 1 ≤ (ofP md cells n).length ∧ (ofP md cells n).length ≤ 512 := fun n hn => by
              rw [hof n hn]
              obtain ⟨av, k2⟩ := HA.out.S.outs n hn
              have e1 := HA.out.S.full n av.1 av.2.1 k2
              have d := HA.out.S.dim n av.1 av.2.1
              have e2 := d.most
              have e3 : 1 ≤ M.cellsOf (M.tensorAt (pM md) n) := by
                unfold M.cellsOf
                have := Int.mul_le_mul d.h0 d.w0 (by decide) (by have := d.h0; omega)
                have := Int.mul_le_mul this d.c0 (by decide) (by have h1 := d.h0; have h2 := d.w0; exact Int.mul_nonneg (by omega) (by omega))
                omega
              omega
            have HO2 : Hid ((pM md).outs.map (ofP md cells) = D.run md ins) := by
              unfold Hid
              rw [← Hout.out]
              exact List.map_congr_left hof
            have Hol : Hid ((pM md).outs.length = md.outs.length) := by unfold Hid pM; rw [H.shrink_outs]
            have HC := hide (answer_c w3.heap.size p w2.heap.size md cells wr (HP.out.kept0 hgk) hRk hcl hlo)
            rw [HO2.out, Hol.out] at HC
            clear hRk hgk hcl hof hlo
            go_wp2_with fail
            refine HC.out.mono ?_
            rintro e w5 ⟨⟨G, gs, rfl, hF⟩, hg5⟩
            have HF : Hid (Fresh w5 w1.heap.size G gs (D.run md ins)) := ⟨hF.len, hF.out, Nat.le_trans HGk.out.size hF.base, hF.sorted, hF.above, hF.blk⟩
            have HG5 := hide (gr_trans HGk.out hg5)
            clear hF hg5 HC
            go_wp2
            go_ret2
            exact ⟨HG5.out, .inr ⟨Hh.out, G, gs, rfl, HF.out⟩⟩

/-- The same, by lists alone. -/
theorem run_c (p : Nat) (md : M.Md) (a : Option Addr) (n c : Nat) (ins : List (List Int)) (w : World) (hP : Pl w p md) (h1 : O.One md) (hI : Lists w 0 (.slice a n c) ins) (hl : ∀ l ∈ ins, l.length ≤ 9223372036854775807) (hn : ins.length ≤ 9223372036854775807) :
    Calls Tryz.prog 21 #[.pointer (some ⟨p, 0, none⟩), .slice a n c] w fun e w' => w.grownBy w' none ∧
      ((D.inputsHold md ins = false ∧ e = .returned (.tuple #[.slice none 0 0, .int .i64 7])) ∨
       (D.inputsHold md ins = true ∧ ∃ g, e = .returned (.tuple #[.slice (some ⟨g, 0, none⟩) md.outs.length md.outs.length, .int .i64 0]) ∧ Lists w' w.heap.size (.slice (some ⟨g, 0, none⟩) md.outs.length md.outs.length) (D.run md ins))) :=
  (run_f p md a n c ins w hP hI.lsl hl hn).mono fun _ _ ⟨hg, h⟩ => ⟨hg, h.imp id fun ⟨hh, G, gs, e, hF⟩ => ⟨hh, G, e, by
    have hl : (D.run md ins).length = md.outs.length := by unfold D.run; simp
    have hu := hP.wf.nu
    have hr := run_short h1 hh
    have e2 := hF.lists (by rw [hl]; unfold maxLen; omega) (fun l hl' => by have := hr l hl'; unfold maxLen; omega)
    rw [hl] at e2
    exact e2⟩⟩

end Go.Proofs.YtcnhfffgbamonabGreat
