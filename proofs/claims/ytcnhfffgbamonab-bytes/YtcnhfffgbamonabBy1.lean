/-
  The law Bytes: whatever bytes.
-/
import Derived.Test.YtcnhfffgbamonabBy0
namespace Go.Proofs.Ytcnhfffgbamonab
open Go.RowKit Go.Sort

theorem brun_len (m : M.Md) (ins : List (List Int)) : (D.run m ins).length = m.outs.length := by unfold D.run; simp

theorem bcells_le {m : M.Md} (h1 : O.One m) {ins : List (List Int)} (hh : D.inputsHold m ins = true) : ∀ l ∈ D.run m ins, l.length ≤ 512 := by
  intro l hl
  obtain ⟨u, hu, rfl⟩ := List.mem_map.mp hl
  have h := O.env_to h1 hh m.ops.length (Nat.le_refl _)
  rw [List.take_length] at h
  obtain ⟨a1, a2, -, a4⟩ := h.there (h1.outs u hu)
  have hd := (h1.dim _ a1).most
  show (D.cellsAt (D.env m ins) u).length ≤ 512
  have e : D.cellsAt (D.env m ins) u = D.cellsAt (m.ops.foldl (O.step m) (O.given m.tensors ins)) u := a4.symm
  rw [e]
  omega

set_option maxRecDepth 100000 in
set_option maxHeartbeats 4000000 in
theorem whatever_c (s : ByteArray) (a : Int) (w : World) (hs : s.size ≤ 9223372036854775807) (ha : -9223372036854775808 ≤ a) (hb : a ≤ 9223372036854775807) :
    Calls Try.prog 9 #[.string s, .int .i64 a] w fun e w' => e = .returned (.bool true) ∧ w.grownBy w' none := by
  go_enter Try.func9, Try.ntmps9
  go_wp2_with fail
  refine (compile_c s w hs).mono ?_
  rintro e w1 ⟨g1, ⟨h1, rfl⟩ | ⟨h1, p, hp, rfl, hP1⟩⟩
  · have H1 := hide h1
    have hne : (M.read s == 0) = false := by simpa using h1
    have hne' : (M.read s != 0) = true := by simpa using h1
    clear h1
    go_wp2_with fail
    refine (compile_c s w1 hs).mono ?_
    rintro e w2 ⟨g2, ⟨h2, rfl⟩ | ⟨h2, q, hq, rfl, hP2⟩⟩
    · have HG := hide (gr_trans g1 g2)
      have heq : (M.read s != M.read s) = false := by simp
      clear g1 g2 h2
      go_wp2
      go_ret
      exact ⟨rfl, HG.out⟩
    · exact absurd h2 H1.out
  · go_wp2_with fail
    refine (compile_c s w1 hs).mono ?_
    rintro e w2 ⟨g2, ⟨h2, rfl⟩ | ⟨h2, q, hq, rfl, hP2⟩⟩
    · exact absurd h1 h2
    · have G2 := hide (gr_trans g1 g2)
      have P2 := hide (hP1.kept0 g2)
      have Q2 := hide hP2
      have HR := hide h1
      have hs4 : s.size ≤ 4096 := by
        have : M.parse s = 0 := M.read_parse h1
        unfold M.parse at this
        by_cases c : 4096 < s.size
        · rw [if_pos c] at this; exact absurd this (by decide)
        · omega
      have hs1 : 1 ≤ s.size := by
        rcases Nat.lt_or_ge s.size 1 with h' | h'
        · exfalso
          have e : (M.readAll s).2.bad = false ∨ True := .inr trivial
          have h0 : s.size = 0 := by omega
          have hb : M.read s = M.read ⟨#[]⟩ := by
            have : s = ⟨#[]⟩ := by
              apply ByteArray.ext
              apply Array.eq_empty_of_size_eq_zero
              exact h0
            rw [this]
          rw [hb] at h1
          exact absurd h1 (by decide)
        · exact h'
      clear g1 g2 hP1 hP2 h1 h2
      have HF := hide (M.fit_read s HR.out)
      have HK := hide (M.check_read s HR.out)
      have HL2 := hide (M.read_less (pre_less s) (by
        have : (s.extract 0 (s.size - 1)).size = s.size - 1 := by simp
        omega) HR.out)
      have HM2 : Hid (∀ u : ByteArray, u.size = 1 → (s ++ u).size ≤ 9223372036854775807 ∧ (M.read (s ++ u) = 1 ∨ M.read (s ++ u) = 2)) := fun u hu => by
        have e : (s ++ u).size = s.size + 1 := by rw [ByteArray.size_append, hu]
        exact ⟨by omega, M.read_more (pre_more s u) (by omega) HR.out⟩
      have hz1 : (s.extract 0 (s.size - 1)).size ≤ 9223372036854775807 := by
        have : (s.extract 0 (s.size - 1)).size = s.size - 1 := by simp
        omega
      have HZ1 := hide hz1
      obtain ⟨md, Hmd⟩ : ∃ md, Hid ((M.readAll s).1 = md) := ⟨_, rfl⟩
      rw [Hmd.out] at P2 Q2 HF HK
      have HO := hide (O.one_of HF.out HK.out)
      clear hz1
      go_wp2_with fail
      refine (compile_c (s.extract 0 (s.size - 1)) w2 HZ1.out).mono ?_
      rintro e w3 ⟨g3, ⟨h3, rfl⟩ | ⟨h3, -⟩⟩
      · rw [HL2.out]
        have G3 := hide (gr_trans G2.out g3)
        have P3 := hide (P2.out.kept0 g3)
        have Q3 := hide (Q2.out.kept0 g3)
        clear g3 h3 G2 P2 Q2
        go_wp2_with fail
        refine Calls.mono (compile_c _ w3 ?hz) ?_
        case hz =>
          refine (HM2.out _ ?_).1
          rfl
        rintro e w4 ⟨g4, h4⟩
        have h5 : ∃ (o : Option Addr) (x : Int), (x = 1 ∨ x = 2) ∧ e = .returned (.tuple #[.pointer o, .int .i64 x]) := by
          rcases h4 with ⟨-, rfl⟩ | ⟨h, -⟩
          · refine ⟨none, _, (HM2.out _ ?_).2, rfl⟩; rfl
          · have h6 := (HM2.out ⟨#[1]⟩ rfl).2
            have h7 : M.read (s ++ ⟨#[1]⟩) = 0 := h
            rw [h7] at h6
            exact absurd h6 (by decide)
        obtain ⟨v, x, hx, rfl⟩ := h5
        have hc : (x != 2 && x != 1) = false := by rcases hx with rfl | rfl <;> decide
        have G4 := hide (gr_trans G3.out g4)
        have P4 := hide (P3.out.kept0 g4)
        have Q4 := hide (Q3.out.kept0 g4)
        clear g4 h4 G3 P3 Q3
        obtain ⟨y, Hy⟩ : ∃ y, Hid (pickOf a 2147483648 = y) := ⟨_, rfl⟩
        have R0 : 0 ≤ y ∧ y < 2147483648 := by rw [← Hy.out]; exact ⟨Int.emod_nonneg _ (by decide), Int.emod_lt_of_pos _ (by decide)⟩
        rcases hx with rfl | rfl
        all_goals
          clear hc
          go_wp2_with fail
          refine (seeded_c a w4 ha hb).mono ?_
          rintro e w5 ⟨rfl, D5, g5⟩
          rw [Hy.out] at D5
          have P5 := hide (P4.out.kept0 g5)
          have Q5 := hide (Q4.out.kept0 g5)
          have G5 := hide (gr_trans G4.out g5)
          have H45 := hide (And.intro g5.size G4.out.size)
          clear g5 P4 Q4 G4
          go_wp2_with fail
          refine (pinputs_c p md w5 P5.out).mono ?_
          rintro e w6 ⟨rfl, rfl⟩
          have hN := lens_le md.tensors
          have hNT := hide P5.out.wf
          have hN2 : (lensOf md.tensors).length ≤ 255 := by have := hNT.out.nt; omega
          have LEN : Hid (∀ (i : Nat) x, (lensOf md.tensors)[i]? = some x → ∃ k : Nat, x = (k : Int) ∧ k ≤ 512) := fun i x hx => by
            have hm := List.mem_of_getElem? hx
            unfold lensOf at hm
            obtain ⟨t, ht, rfl⟩ := List.mem_map.mp hm
            have hd := HO.out.dim t (List.mem_filter.mp ht).1
            have h0 : 0 ≤ M.cellsOf t := by
              unfold M.cellsOf
              exact Int.mul_nonneg (Int.mul_nonneg (by have := hd.h0; omega) (by have := hd.w0; omega)) (by have := hd.c0; omega)
            exact ⟨(M.cellsOf t).toNat, by omega, by have := hd.most; omega⟩
          clear hN
          obtain ⟨N, HN⟩ : ∃ N, Hid ((lensOf md.tensors).length = N) := ⟨_, rfl⟩
          rw [HN.out] at hN2 ⊢
          obtain ⟨i0, hi, hz0, hz1, hz2⟩ := info_parts Try.info35
          go_wp2_with (at_make; refine wpList_make_full _ rfl _ _ 46 rfl w6.heap.size 35 i0 (.slice none 0 0) 1 Try.underlying46 hi hz0 hz1 _ _ _ _ N rfl rfl rfl rfl ?c1 ?c2 ?c3 ?_)
          case c1 => rw [hz2]; omega
          case c2 => unfold maxLen; omega
          case c3 => exact Nat.le_refl _
          intro w7 hown hg7
          have hB7 := made_lists hown
          have D7 := Blk.kept D5 hg7 (by simp)
          have hw45 : w4.heap.size < w6.heap.size := Blk.lt D5
          have HD6 := hide D5
          have HZ : Hid (∀ j, j < N → ((List.replicate N (Value.slice none 0 0)).toArray)[j]? = some zs) := fun j hj => by simp [hj]
          have hZs : ((List.replicate N (Value.slice none 0 0)).toArray).size = N := by simp
          clear hown hi hz0 hz1 hz2 D5
          generalize (List.replicate N (Value.slice none 0 0)).toArray = cs0 at *
          go_wp2
          go_loopw [16] (fun i wr => ∃ (k : Nat) (cs : Array Value) (ins : List (List Int)) (y' : Int), k ≤ N ∧ i = .int .i64 k ∧ Hid (ins.length = k) ∧ Blk wr w6.heap.size 35 cs ∧ cs.size = N ∧ Hid (∀ (j : Nat) u l, cs[j]? = some u → ins[j]? = some l → IsInts wr u l) ∧ Hid (∀ j, k ≤ j → j < N → cs[j]? = some zs) ∧ Hid (∀ (j : Nat) l x, ins[j]? = some l → (lensOf md.tensors)[j]? = some x → (l.length : Int) = x ∧ l.all D.isCell = true) ∧ Die wr w4.heap.size y' ∧ Hid (0 ≤ y' ∧ y' < 2147483648) ∧ w6.grownBy wr (some w4.heap.size)) (fun i _ => N - (intOf i).toNat)
          case atStart => exact ⟨0, cs0, [], y, Nat.zero_le _, rfl, rfl, hB7, hZs, fun j u l _ h => by simp at h, fun j _ hj => HZ.out j hj, fun j l x h => by simp at h, D7, R0, gr_none hg7⟩
          case round =>
            clear HZ hZs hB7 D7
            obtain ⟨k, cs, ins, y', hk, rfl, Hln, hBk, hsz, Hal, Hzs, Hho, hDk, HRk, hgk⟩ := hrel
            have hPk := P5.out.unlike HD6.out hgk
            by_cases hlt : k < N
            · obtain ⟨x, hx⟩ : ∃ x, (lensOf md.tensors)[k]? = some x := ⟨_, List.getElem?_eq_getElem (by rw [HN.out]; exact hlt)⟩
              obtain ⟨kn, rfl, hkn⟩ := LEN.out k x hx
              have Hx := hide hx
              have HPk := hide hPk
              have HB := hide hBk
              have HD := hide hDk
              have HG := hide hgk
              clear hPk hBk hDk hgk hx
              go_wp2_with fail
              refine (plength_c p k kn md wr HPk.out Hx.out).mono ?_
              rintro e wa ⟨rfl, hwa⟩
              obtain ⟨na, rfl⟩ : ∃ na, wa = wr.drewN na := ⟨0, hwa⟩
              clear hwa
              go_wp2_with fail
              refine (dcells_c w4.heap.size y' kn (wr.drewN na) (HD.out.drewN _) HRk.out.1 HRk.out.2 (by omega)).mono ?_
              rintro e wb ⟨rfl, hI, hDb, hgb⟩
              have hgrb := gr_trans (gr_drewN wr na (some w4.heap.size)) hgb
              have hBb := HB.out.kept hgrb (by simp; omega)
              have cG : wb.cell? ⟨w6.heap.size, k, none⟩ = some zs := by rw [hBb.cell k]; exact Hzs.out k (Nat.le_refl _) hlt
              have fG := hBb.free k
              have hbl := hBb.lt
              have HB2 := hide (hBb.set k (.slice (some ⟨(wr.drewN na).heap.size, 0, none⟩) kn kn))
              have Hnl := hide (dcells_len kn y')
              have Hnc := hide (dcells_ok kn y')
              have Hnr := hide (dcells_range kn y' HRk.out.1 HRk.out.2)
              have hset := gr_set wb w6.heap.size k (.slice (some ⟨(wr.drewN na).heap.size, 0, none⟩) kn kn)
              have HA2 : Hid (∀ (j : Nat) u l, (cs.setIfInBounds k (.slice (some ⟨(wr.drewN na).heap.size, 0, none⟩) kn kn))[j]? = some u → (ins ++ [(dcells kn y').1])[j]? = some l → IsInts (wb.setCell ⟨w6.heap.size, k, none⟩ (.slice (some ⟨(wr.drewN na).heap.size, 0, none⟩) kn kn)) u l) := fun j u l hu hl => by
                rw [Array.getElem?_setIfInBounds] at hu
                have hlk := Hln.out
                by_cases e : k = j
                · subst e
                  rw [if_pos rfl, if_pos (by omega)] at hu
                  rw [List.getElem?_append_right (by omega), hlk, Nat.sub_self] at hl
                  injection hu with hu
                  injection hl with hl
                  subst hu
                  subst hl
                  exact ⟨_, _, _, rfl, (hI.mono (Nat.zero_le _)).apart hBb (by decide) hset⟩
                · rw [if_neg e] at hu
                  have hjk : j < ins.length := by
                    rcases Nat.lt_or_ge j ins.length with h' | h'
                    · exact h'
                    · rw [List.getElem?_eq_none (by simp; omega)] at hl; exact absurd hl (by simp)
                  rw [List.getElem?_append_left hjk] at hl
                  exact ((Hal.out j u l hu hl).apart HD.out (by decide) hgrb).apart hBb (by decide) hset
              have HZ2 : Hid (∀ j, k + 1 ≤ j → j < N → (cs.setIfInBounds k (.slice (some ⟨(wr.drewN na).heap.size, 0, none⟩) kn kn))[j]? = some zs) := fun j hj hj2 => by
                rw [Array.getElem?_setIfInBounds, if_neg (by omega)]; exact Hzs.out j (by omega) hj2
              have HH2 : Hid (∀ (j : Nat) l x, (ins ++ [(dcells kn y').1])[j]? = some l → (lensOf md.tensors)[j]? = some x → (l.length : Int) = x ∧ l.all D.isCell = true) := fun j l x hl hx => by
                have hlk := Hln.out
                rcases Nat.lt_or_ge j ins.length with h' | h'
                · rw [List.getElem?_append_left h'] at hl; exact Hho.out j l x hl hx
                · rw [List.getElem?_append_right h'] at hl
                  have hjk : j = k := by
                    rcases Nat.lt_or_ge (j - ins.length) 1 with h2 | h2
                    · omega
                    · rw [List.getElem?_eq_none (by simp; omega)] at hl; exact absurd hl (by simp)
                  subst hjk
                  rw [hlk, Nat.sub_self] at hl
                  injection hl with hl
                  subst hl
                  rw [Hx.out] at hx
                  injection hx with hx
                  subst hx
                  refine ⟨by rw [Hnl.out], cells_yes fun q v hv => ?_⟩
                  have := Hnc.out v (List.mem_of_getElem? hv)
                  unfold D.isCell
                  simp; omega
              have HD2 := hide (Blk.other hDb (a := ⟨w6.heap.size, k, none⟩) (by simp; omega) (.slice (some ⟨(wr.drewN na).heap.size, 0, none⟩) kn kn))
              have HG2 := hide (gr_new (gr_trans HG.out hgrb) hset (Nat.le_refl _))
              have hde : (wr.drewN na).heap.size = wr.heap.size := rfl
              clear hI hDb hgb hgrb hBb hset hde
              go_wp2
              go_roundw
              case rel => exact ⟨k + 1, cs.setIfInBounds k (.slice (some ⟨(wr.drewN na).heap.size, 0, none⟩) kn kn), ins ++ [(dcells kn y').1], (dcells kn y').2, by omega, by go_num, (by have := Hln.out; unfold Hid; simp; omega), HB2.out, by simp [hsz], HA2.out, HZ2.out, HH2.out, HD2.out, Hnr.out, HG2.out⟩
              case measure => simp [intOf]; omega
            · obtain rfl : k = N := by omega
              clear hlt
              have HHold := hide (hold_yes (md := md) (ins := ins) (by rw [Hln.out, HN.out]) fun j l x hl hx => Hho.out j l x hl hx)
              have HLin := hide (lists_of (n := k) hBk hsz Hln.out (by unfold maxLen; omega) fun j u l hu hl => Hal.out j u l hu hl)
              have HP := hide hPk
              have HQ := hide (Q5.out.unlike HD6.out hgk)
              have HGa := hide (gr_new G5.out hgk H45.out.2)
              have Hl5 : Hid (∀ l ∈ ins, l.length ≤ 9223372036854775807) := fun l hl => by
                obtain ⟨j, hj⟩ := List.getElem?_of_mem hl
                have hjl : j < ins.length := by
                  rcases Nat.lt_or_ge j ins.length with h' | h'
                  · exact h'
                  · rw [List.getElem?_eq_none h'] at hj; exact absurd hj (by simp)
                obtain ⟨x, hx⟩ : ∃ x, (lensOf md.tensors)[j]? = some x := ⟨_, List.getElem?_eq_getElem (by rw [HN.out, ← Hln.out]; exact hjl)⟩
                obtain ⟨kn, rfl, hkn⟩ := LEN.out j x hx
                have := (Hho.out j l _ hj hx).1
                omega
              have Hi5 : Hid (∀ l ∈ ins, D.Cells l) := fun l hl => by
                obtain ⟨j, hj⟩ := List.getElem?_of_mem hl
                have hjl : j < ins.length := by
                  rcases Nat.lt_or_ge j ins.length with h' | h'
                  · exact h'
                  · rw [List.getElem?_eq_none h'] at hj; exact absurd hj (by simp)
                obtain ⟨x, hx⟩ : ∃ x, (lensOf md.tensors)[j]? = some x := ⟨_, List.getElem?_eq_getElem (by rw [HN.out, ← Hln.out]; exact hjl)⟩
                have h2 := (Hho.out j l _ hj hx).2
                rw [List.all_eq_true] at h2
                intro v hv
                have := h2 v hv
                unfold D.isCell at this
                simpa using this
              have Hin : Hid (ins.length ≤ 9223372036854775807) := by have := Hln.out; unfold Hid; omega
              have HRC := hide (D.run_cells HF.out HK.out Hi5.out)
              have HRS := hide (D.run_some HK.out ins)
              have HRL := hide (brun_len md ins)
              have HRB := hide (bcells_le HO.out HHold.out)
              have HNO : Hid (md.outs.length ≤ 1000) := (by have := hNT.out.nu; unfold Hid; omega)
              clear hBk hsz Hal Hzs Hho hDk HRk hgk hPk LEN Hi5 P5 Q5 G5 HD6
              go_wp2_with fail
              refine (run_c p md _ k k ins wr HP.out HO.out HLin.out Hl5.out Hin.out).mono ?_
              rintro e wx ⟨hgx, ⟨ht, -⟩ | ⟨-, gx, rfl, hX⟩⟩
              · rw [HHold.out] at ht; exact Bool.noConfusion ht
              · have HQx := hide (HQ.out.kept0 hgx)
                have HLx := hide (HLin.out.kept0 hgx)
                have HGx := hide (gr_trans HGa.out hgx)
                have HX := hide hX
                clear hX hgx HQ HP HLin HGa
                go_wp2_with fail
                refine (run_c q md _ k k ins wx HQx.out HO.out HLx.out Hl5.out Hin.out).mono ?_
                rintro e wy ⟨hgy, ⟨ht, -⟩ | ⟨-, gy, rfl, hY⟩⟩
                · rw [HHold.out] at ht; exact Bool.noConfusion ht
                · have HX2 := hide (HX.out.kept0 hgy)
                  have HY2 := hide hY
                  have HGy := hide (gr_trans HGx.out hgy)
                  clear hY hgy HX HQx HLx HGx
                  obtain ⟨R, HR⟩ : ∃ R, Hid (D.run md ins = R) := ⟨_, rfl⟩
                  rw [HR.out] at HX2 HY2 HRL HRC HRS HRB
                  obtain ⟨K, HKn⟩ : ∃ K, Hid (md.outs.length = K) := ⟨_, rfl⟩
                  rw [HKn.out] at HX2 HY2 HRL HNO ⊢
                  have hK1 : K ≤ 1000 := HNO.out
                  have hK0 : (K == 0) = false := by have := HRS.out; have := HRL.out; simp; omega
                  have hK0' : ((K : Int) == 0) = false := by have := HRS.out; have := HRL.out; simp; omega
                  go_wp2
                  go_loopw [21] (fun i wz => ∃ j : Nat, j ≤ K ∧ i = .int .i64 j ∧ wy.grownBy wz none) (fun i _ => K - (intOf i).toNat)
                  case atStart => exact ⟨0, Nat.zero_le _, rfl, World.grownBy.refl _ _⟩
                  case round =>
                    obtain ⟨j, hj, rfl, hgj⟩ := hrel
                    by_cases hlt : j < K
                    · obtain ⟨l, hl⟩ : ∃ l, R[j]? = some l := ⟨_, List.getElem?_eq_getElem (by rw [HRL.out]; exact hlt)⟩
                      obtain ⟨g1, a1, c1, e1, -, d1, I1⟩ := (HX2.out.kept0 hgj).get j l hl
                      obtain ⟨g2, a2, c2, e2, -, d2, I2⟩ := (HY2.out.kept0 hgj).get j l hl
                      injection e1 with e1
                      injection e1 with e1 _ _
                      subst e1
                      injection e2 with e2
                      injection e2 with e2 _ _
                      subst e2
                      have hll := HRB.out l (List.mem_of_getElem? hl)
                      have HCl := hide (HRC.out l (List.mem_of_getElem? hl))
                      have r1 := cell_regrown d1
                      have r2 := cell_regrown d2
                      have HC := hide (regrown_call (w := wr) fun W hW => (same_c 0 0 a1 a2 l.length c1 l.length c2 l l W (I1.kept0 hW) (I2.kept0 hW) (by omega) (by omega)))
                      have HI1 := hide I1
                      have HD1 := hide d1
                      have HGj := hide hgj
                      rw [show decide (l = l) = true from decide_eq_true rfl] at HC
                      clear I1 I2 hl hgj d1 d2
                      go_wp2
                      refine wp_region_quiet_below (by kernel_rfl) (by kernel_rfl) ?_
                      repeat (quiet_step (exact HC.out _ _))
                      refine wpQuiet_nil ?_
                      intro _ hw'
                      obtain ⟨⟨dq, osq⟩, hw''⟩ := hw'
                      subst hw''
                      have HGb := hide (below_gr (below_regrown wr dq osq))
                      have HG3 := hide (gr_trans HGj.out HGb.out)
                      clear r1 r2 HC
                      generalize grow (redrawn wr dq) osq = wb at *
                      have dd : wb.cell? ⟨gx, j, none⟩ = some (.slice a1 l.length c1) := cell_kept HGb.out HD1.out
                      have HIb := hide (HI1.out.kept0 HGb.out)
                      have HDb := hide dd
                      clear dd
                      obtain ⟨L, HL⟩ : ∃ L, Hid (l.length = L) := ⟨_, rfl⟩
                      rw [HL.out] at HIb HDb hll
                      go_wp2
                      go_loopw [23] (fun i wq => ∃ t : Nat, t ≤ L ∧ i = .int .i64 t ∧ wb.grownBy wq none) (fun i _ => L - (intOf i).toNat)
                      case atStart => exact ⟨0, Nat.zero_le _, rfl, World.grownBy.refl _ _⟩
                      case round =>
                        obtain ⟨t, ht, rfl, hgt⟩ := hrel
                        have dt := cell_kept hgt HDb.out
                        by_cases hlt2 : t < L
                        · obtain ⟨v, hv⟩ : ∃ v, l[t]? = some v := ⟨_, List.getElem?_eq_getElem (by rw [HL.out]; exact hlt2)⟩
                          obtain ⟨g, rfl, -, -, dv⟩ := (HIb.out.kept0 hgt).get t v hv
                          have hvr := HCl.out v (List.mem_of_getElem? hv)
                          have HGt := hide hgt
                          have hlo : decide (v < -128) = false := decide_eq_false (by omega)
                          have hhi : decide (v > 127) = false := decide_eq_false (by omega)
                          clear hv hgt
                          go_wp2
                          go_roundw
                          case rel => exact ⟨t + 1, by omega, by go_num, HGt.out⟩
                          case measure => simp [intOf]; omega
                        · obtain rfl : t = L := by omega
                          have HG4 := hide (gr_trans HG3.out hgt)
                          clear hgt hlt2
                          go_wp2
                          go_roundw
                          case rel => exact ⟨j + 1, by omega, by go_num, HG4.out⟩
                          case measure => simp [intOf]; omega
                    · obtain rfl : j = K := by omega
                      have HG3 := hide (gr_trans HGy.out hgj)
                      clear hgj
                      go_wp2
                      go_ret
                      exact ⟨rfl, HG3.out⟩
      · rw [HL2.out] at h3; exact absurd h3 (by decide)

theorem bytes_c (s : ByteArray) (a : Int) (w : World) (hs : s.size ≤ 9223372036854775807) (ha : -9223372036854775808 ≤ a) (hb : a ≤ 9223372036854775807) :
    Calls Try.prog 5 #[.string s, .int .i64 a] w fun e w' => e = .returned (.bool true) ∧ w.grownBy w' none := by
  go_enter Try.func5, Try.ntmps5
  go_wp2_with fail
  refine (whatever_c s a w hs ha hb).mono ?_
  rintro e w1 ⟨rfl, hg1⟩
  go_wp2
  go_ret
  exact ⟨rfl, hg1⟩

end Go.Proofs.Ytcnhfffgbamonab
