import Derived.Test.YtcnhfffgbamonaaGreatSkA
import Derived.Test.YtcnhfffgbamonaaGreatHsA
import Derived.Deep.RegionWith
import Derived.Test.YtcnhfffgbamonaaGreatSkB
/-
  shrink: without, dropUnread.
-/
namespace Go.Proofs.YtcnhfffgbamonaaGreat
open Go.RowKit

theorem wot_step {os : List M.Op} {i k : Nat} {o : M.Op} (h : os[k]? = some o) (hk : k ≠ i) : (os.take (k + 1)).eraseIdx i = (os.take k).eraseIdx i ++ [o] := by
  have hl := M.lt_of_some h
  rw [H.take_snoc h]
  by_cases c : i < k
  · rw [List.eraseIdx_append_of_lt_length (by rw [List.length_take]; omega)]
  · rw [List.eraseIdx_of_length_le (by simp; omega), List.eraseIdx_of_length_le (by simp; omega)]
theorem wot_same {os : List M.Op} {i : Nat} {o : M.Op} (h : os[i]? = some o) : (os.take (i + 1)).eraseIdx i = (os.take i).eraseIdx i := by
  have hl := M.lt_of_some h
  rw [H.take_snoc h, List.eraseIdx_append_of_length_le (by simp; omega), List.eraseIdx_of_length_le (l := os.take i) (by simp; omega)]
  have : i - (os.take i).length = 0 := by simp; omega
  rw [this]; simp

set_option maxRecDepth 100000 in
set_option maxHeartbeats 8000000 in
theorem without_c (B : Nat) (a : Option Addr) (n c : Nat) (os : List M.Op) (i : Nat) (w : World) (h : Ops w B (.slice a n c) os) (hn : os.length ≤ 255) (_hi' : i ≤ 255) :
    Calls Tryz.prog 145 #[.slice a n c, .int .i64 i] w fun e w' => (∃ ao c', e = .returned (.slice ao (os.eraseIdx i).length c') ∧ Ops2 w' w.heap.size B (.slice ao (os.eraseIdx i).length c') (os.eraseIdx i)) ∧ w.grownBy w' none := by
  obtain ⟨i0, hi, hz0, hz1, hz2⟩ := info_parts Tryz.info142
  have Hz0 := hide hz0
  clear hz0
  obtain rfl := h.len
  have HO := hide h
  clear h
  go_enter Tryz.func145, Tryz.ntmps145
  go_wp2
  go_loopw [5, 10] (fun v j wr => ∃ k : Nat, k ≤ os.length ∧ j = .int .i64 k ∧ Ops2 wr w.heap.size B v ((os.take k).eraseIdx i) ∧ w.grownBy wr none) (fun _ j _ => os.length - (intOf j).toNat)
  case atStart => exact ⟨0, Nat.zero_le _, rfl, Ops2.nil _ _ _, World.grownBy.refl _ _⟩
  case round =>
    obtain ⟨k, hk, rfl, hLk, hgk⟩ := hrel
    have hszk := hgk.size
    by_cases hlt : k < os.length
    · obtain ⟨o, ho⟩ : ∃ o, os[k]? = some o := ⟨_, List.getElem?_eq_getElem hlt⟩
      obtain ⟨g, ao, p, cp, rfl, hgl, -, hSc, hR⟩ := (HO.out.kept0 hgk).get k o ho
      have hlen : ((os.take k).eraseIdx i).length ≤ k := by
        have := List.length_eraseIdx_le (os.take k) i
        rw [List.length_take] at this; omega
      have HLk := hide hLk
      have HGk := hide hgk
      have HSc := hide hSc
      have HBo := hide (Blk.new wr 142 (oval o (.slice ao p cp)))
      have HG1 := hide (World.grownBy_alloc wr (.cells (oval o (.slice ao p cp)) 142) none)
      clear hLk hgk hSc
      by_cases hki : k = i
      · have HS := hide (wot_same (os := os) (i := i) (by rw [← hki]; exact ho))
        have hki' : ((k : Int) != (i : Int)) = false := by simp [hki]
        have Hki := hide hki
        clear ho hki
        go_wp2_with (first | (refine wpList_load_mid rfl 142 _ rfl g (k * 16) rfl (oval o (.slice ao p cp)).toList _ hR Tryz.underlying142 rfl Tryz.size142 ?_) | (refine wpList_store_row rfl 142 _ _ rfl wr.heap.size (oval o (.slice ao p cp)) rfl rfl 142 (o16 0 0 0 0 0 0 0 0 false (.slice none 0 0) 0 0 0 0 0 0) (Blk.new wr 142 _) Tryz.size142 rfl (one16 ..) ?_; rw [World.setRow_alloc_new]; generalize wr.alloc (.cells (oval o (.slice ao p cp)) 142) = w3 at *))
        go_roundw
        case rel => exact ⟨k + 1, by omega, by go_num, by rw [Hki.out, HS.out]; have e := HLk.out.kept0 HG1.out; rw [Hki.out] at e; exact e, gr_trans HGk.out HG1.out⟩
        case measure => simp [intOf]; omega
      · have HS := hide (wot_step ho hki)
        have hki' : ((k : Int) != (i : Int)) = true := by simp; omega
        obtain ⟨L, HL⟩ : ∃ L, Hid ((os.take k).eraseIdx i = L) := ⟨_, rfl⟩
        rw [HL.out] at HLk HS hlen
        clear ho hki
        go_wp2_with (first | (refine wpList_load_mid rfl 142 _ rfl g (k * 16) rfl (oval o (.slice ao p cp)).toList _ hR Tryz.underlying142 rfl Tryz.size142 ?_) | (refine wpList_store_row rfl 142 _ _ rfl wr.heap.size (oval o (.slice ao p cp)) rfl rfl 142 (o16 0 0 0 0 0 0 0 0 false (.slice none 0 0) 0 0 0 0 0 0) (Blk.new wr 142 _) Tryz.size142 rfl (one16 ..) ?_; rw [World.setRow_alloc_new]; generalize wr.alloc (.cells (oval o (.slice ao p cp)) 142) = w3 at *) | (refine wpList_load_row rfl 142 _ rfl wr.heap.size rfl 142 #[.int .i64 o.kind, .int .i64 o.a, .int .i64 o.b, .int .i64 o.weights, .int .i64 o.biases, .int .i64 o.to, .int .i64 o.size, .int .i64 o.stride, .bool o.same, .slice ao p cp, .int .i64 o.lo, .int .i64 o.hi, .int .i64 o.above, .int .i64 o.below, .int .i64 o.left, .int .i64 o.right] (0, 0) _ HBo.out Tryz.underlying142 rfl Tryz.size142 ?_; refine hold ?_))
        refine hide ?_
        obtain ⟨ps, q1, q2, q3⟩ := HLk.out.kept0 HG1.out
        have hsz3 := HG1.out.size
        go_wp2_with (at_builtin; refine wpList_append_own _ rfl _ _ 137 rfl w.heap.size 142 i0 (.agg (o16 0 0 0 0 0 0 0 0 false (.slice none 0 0) 0 0 0 0 0 0)) 16 144 Tryz.underlying137 hi Hz0.out hz1 hz2 rfl (by decide) _ _ _ rfl (q2.alloc _) ⟨w3.heap.size, 0, none⟩ 1 1 (oval o (.slice ao p cp)).toList rfl rfl ?c1 ?c2 ?c3 ?c4 ?c5 ?_)
        case c1 => exact news_at1 w3 142 (oval o (.slice ao p cp))
        case c2 => intro u hu; simp [oval] at hu; rcases hu with rfl | rfl | rfl | rfl | rfl | rfl | rfl | rfl | rfl | rfl | rfl | rfl | rfl | rfl | rfl | rfl <;> rfl
        case c3 => unfold maxLen; omega
        case c4 => omega
        case c5 => simp; omega
        intro v' w4 hown' hgrow _
        have hga := gr_trans (World.grownBy_alloc w3 _ _) hgrow
        have hT4 := Ops2.snoc q1 q2 q3 (owns_kept0 HSc.out HG1.out) hga hown'
        have hlt4 := owns_row_lt q2
        have gw4 : w.grownBy w4 none := gr_own (gr_trans HGk.out HG1.out) hga hlt4
        have HT4 := hide hT4
        have HG4 := hide gw4
        clear hown' hgrow hga q2 q3 hT4 gw4 hlt4
        go_wp2
        go_roundw
        case rel => exact ⟨k + 1, by omega, by go_num, by rw [HS.out]; exact HT4.out, HG4.out⟩
        case measure => simp [intOf]; omega
    · obtain rfl : k = os.length := by omega
      rw [List.take_length] at hLk
      obtain ⟨ao, c2, rfl⟩ := hLk.shape
      have HLk := hide hLk
      have HGk := hide hgk
      clear hLk hgk
      go_wp2
      go_ret
      exact ⟨⟨ao, c2, rfl, HLk.out⟩, HGk.out⟩

theorem dropTo_step {md mk : M.Md} {j : Nat} (h : H.dropTo (j + 1) mk = H.drop md) : H.dropTo j (H.dropAt mk j) = H.drop md := h

set_option maxRecDepth 100000 in
set_option maxHeartbeats 2000000 in
theorem dropUnread_c (m : Nat) (md : M.Md) (w : World) (h : Mod w m md) (hn1 : md.ops.length ≤ 255) (hn2 : md.outs.length ≤ 255) :
    Calls Tryz.prog 102 #[.pointer (some ⟨m, 0, none⟩)] w fun e w' => e = .returned (.tuple #[]) ∧ Mod w' m (H.drop md) ∧ Below m w w' := by
  have HM := hide h
  obtain ⟨a1, c1, a2, c2, a3, c3, hB, hT, hO, hU⟩ := h
  have q1 : w.cell? ⟨m, 1, none⟩ = some (.slice a2 md.ops.length c2) := hB.cell 1
  have hml := hB.lt
  clear hB hT hO hU
  go_enter Tryz.func102, Tryz.ntmps102
  go_wp2
  clear q1
  go_loopw [2] (fun i wr => ∃ (j : Nat) (mk : M.Md), i = .int .i64 ((j : Int) - 1) ∧ j ≤ mk.ops.length ∧ mk.ops.length ≤ 255 ∧ Hid (mk.outs.length ≤ 255) ∧ Hid (H.dropTo j mk = H.drop md) ∧ Mod wr m mk ∧ Below m w wr) (fun i _ => (intOf i + 1).toNat)
  case atStart => exact ⟨md.ops.length, md, rfl, Nat.le_refl _, hn1, hn2, rfl, HM.out, Below.refl _ _⟩
  case round =>
    obtain ⟨j, mk, rfl, hj, hl1, Hl2, HD, hMk, hBk⟩ := hrel
    cases j with
    | zero =>
      have HMk := hide hMk
      have HBk := hide hBk
      have HD' := hide (show mk = H.drop md from HD.out)
      clear hMk hBk
      go_wp2
      go_end0
      exact ⟨rfl, by rw [← HD'.out]; exact HMk.out, HBk.out⟩
    | succ j =>
      obtain ⟨o, ho⟩ : ∃ o, mk.ops[j]? = some o := ⟨_, List.getElem?_eq_getElem (by omega)⟩
      have HMk := hide hMk
      have HBk := hide hBk
      obtain ⟨a1, c1, a2, c2, a3, c3, hB, hT, hO, hU⟩ := hMk
      obtain ⟨g, ao, p, cp, rfl, hgl, -, hSc, hR⟩ := hO.get j o ho
      have q1 : wr.cell? ⟨m, 1, none⟩ = some (.slice (some ⟨g, 0, none⟩) mk.ops.length c2) := hB.cell 1
      have d5 : wr.cell? ⟨g, j * 16 + 5, none⟩ = some (.int .i64 o.to) := hR 5 _ rfl
      have HO := hide hO
      have hml := hB.lt
      have e1 : (((j + 1 : Nat) : Int) - 1) = (j : Int) := by omega
      rw [e1]
      have HC := hide (uses_c m mk o.to wr HMk.out hl1 Hl2.out)
      clear hB hT hO hU hBk
      go_wp2_with fail
      refine HC.out.mono ?_
      rintro e w1 ⟨rfl, hg1⟩
      have q2 : w1.cell? ⟨m, 1, none⟩ = some (.slice (some ⟨g, 0, none⟩) mk.ops.length c2) := cell_kept hg1 q1
      have HM1 := hide (HMk.out.kept0 hg1)
      have HO1 := hide (HO.out.kept0 hg1)
      have hm1 : m < w1.heap.size := by have := hg1.size; omega
      have HB1 := hide (below_trans HBk.out (below_of0 hg1 (by omega)))
      clear hg1 q1 d5 HC hR
      by_cases hu : H.uses mk o.to = 0
      · have HE := hide (H.dropAt_yes ho hu)
        have HL := hide (H.dropAt_len mk j)
        have hu' : ((H.uses mk o.to : Int) == 0) = true := by simp [hu]
        clear ho hu
        generalize H.uses mk o.to = un at *
        have HC := hide (without_c (m + 1) (some ⟨g, 0, none⟩) mk.ops.length c2 mk.ops j w1 HO1.out hl1 (by omega))
        go_wp2_with fail
        refine HC.out.mono ?_
        rintro e w2 ⟨⟨ao2, c3', rfl, hL2⟩, hg2⟩
        have hm2 : m < w2.heap.size := by have := hg2.size; omega
        have HMs := hide (Mod.setOps (HM1.out.kept0 hg2) (hL2.ops (by omega)))
        have hf : w2.frozen? ⟨m, 1, none⟩ = false := by obtain ⟨_, _, _, _, _, _, hB, -⟩ := HM1.out.kept0 hg2; exact hB.free 1
        have q3 : w2.cell? ⟨m, 1, none⟩ = some (.slice (some ⟨g, 0, none⟩) mk.ops.length c2) := cell_kept hg2 q2
        have HBs := hide (below_trans HB1.out (below_trans (below_of0 hg2 (by omega)) (below_of (gr_set w2 m 1 (.slice ao2 (mk.ops.eraseIdx j).length c3')) (Nat.le_refl m) (by omega))))
        have HD2 := hide (dropTo_step HD.out)
        have HE2 : Hid (H.dropAt mk j = ⟨mk.tensors, mk.ops.eraseIdx j, mk.outs⟩) := HE.out
        clear hg2 hL2 q2 HC
        rw [HE2.out] at HD2 HL
        generalize mk.ops.eraseIdx j = L at *
        go_wp2
        go_roundw
        case rel => exact ⟨j, ⟨mk.tensors, L, mk.outs⟩, by go_num, by have := HL.out; simp at this ⊢; omega, by have := HL.out; simp at this ⊢; omega, Hl2.out, HD2.out, HMs.out, HBs.out⟩
        case measure => simp [intOf]; try omega
      · have HE := hide (H.dropAt_no ho hu)
        have hu' : ((H.uses mk o.to : Int) == 0) = false := by simp [hu]
        have HD2 := hide (dropTo_step HD.out)
        rw [HE.out] at HD2
        clear ho hu
        generalize H.uses mk o.to = un at *
        go_wp2
        go_roundw
        case rel => exact ⟨j, mk, by go_num, by omega, hl1, Hl2.out, HD2.out, HM1.out, HB1.out⟩
        case measure => simp [intOf]; try omega

end Go.Proofs.YtcnhfffgbamonaaGreat

/-
  shrink: joined, host.
-/
namespace Go.Proofs.YtcnhfffgbamonaaGreat
open Go.RowKit

/-- Inside joined: the step, the Clamp, the answer. -/
structure JI (w0 w1 : World) (o : M.Op) (sv : Value) (cs rs : Array Value) : Prop where
  g : w0.grownBy w1 none
  A : Blk w1 w0.heap.size 142 cs
  B : Blk w1 (w0.heap.size + 1) 142 (oo o sv)
  R : Blk w1 (w0.heap.size + 2) 142 rs

theorem JI.call {w0 w1 w2 : World} {o : M.Op} {sv : Value} {cs rs : Array Value} (h : JI w0 w1 o sv cs rs) (hg : w1.grownBy w2 none) : JI w0 w2 o sv cs rs :=
  ⟨gr_trans h.g hg, h.A.kept hg (by simp), h.B.kept hg (by simp), h.R.kept hg (by simp)⟩
theorem JI.put {w0 w1 : World} {o : M.Op} {sv : Value} {cs rs : Array Value} (h : JI w0 w1 o sv cs rs) (i : Nat) (v : Value) : JI w0 (w1.setCell ⟨w0.heap.size, i, none⟩ v) o sv (cs.setIfInBounds i v) rs :=
  ⟨gr_new h.g (gr_set _ _ _ _) (Nat.le_refl _), h.A.set i v, h.B.kept (gr_set _ _ _ _) (by simp), h.R.kept (gr_set _ _ _ _) (by simp)⟩
theorem JI.start (w : World) (s o : M.Op) (us sv : Value) (z : Array Value) : JI w (((w.alloc (.cells (oo s us) 142)).alloc (.cells (oo o sv) 142)).alloc (.cells z 142)) o sv (oo s us) z := by
  refine ⟨gr_trans (gr_alloc2 _ _ _ _) (World.grownBy_alloc _ _ _), ?_, ?_, ?_⟩
  · exact ((Blk.new w 142 (oo s us)).alloc _).alloc _
  · exact (Blk.new1 w _ 142 (oo o sv)).alloc _
  · have h := Blk.new ((w.alloc (.cells (oo s us) 142)).alloc (.cells (oo o sv) 142)) 142 z
    simpa using h

set_option maxRecDepth 100000 in
set_option maxHeartbeats 2000000 in
theorem joined_c (s o : M.Op) (sa ao : Option Addr) (ps cs p c : Nat) (w : World) :
    Calls Tryz.prog 147 #[.agg (oval s (.slice sa ps cs)), .agg (oval o (.slice ao p c))] w fun e w' => e = .returned (.agg (oval (H.joined s o) (.slice sa ps cs))) ∧ w.grownBy w' none := by
  show Calls Tryz.prog 147 #[.agg (oo s (.slice sa ps cs)), .agg (oo o (.slice ao p c))] w _
  have He : Hid (oval (H.joined s o) (.slice sa ps cs) = o16 s.kind s.a s.b s.weights s.biases o.to s.size s.stride s.same (.slice sa ps cs) (R.between s.lo o.lo o.hi) (R.between s.hi o.lo o.hi) s.above s.below s.left s.right) := rfl
  have I0 := hide (JI.start w { s with to := o.to } o (.slice sa ps cs) (.slice ao p c) (o16 0 0 0 0 0 0 0 0 false (.slice none 0 0) 0 0 0 0 0 0))
  go_enter Tryz.func147, Tryz.ntmps147
  go_wp2_with fail
  refine (swithin_c s.lo o ao p c _).mono ?_
  rintro e w1 ⟨rfl, hg1⟩
  have I1 : Hid (JI w w1 o (.slice ao p c) (o16 s.kind s.a s.b s.weights s.biases o.to s.size s.stride s.same (.slice sa ps cs) s.lo s.hi s.above s.below s.left s.right) (o16 0 0 0 0 0 0 0 0 false (.slice none 0 0) 0 0 0 0 0 0)) := I0.out.call hg1
  clear hg1 I0
  generalize R.between s.lo o.lo o.hi = x1 at *
  obtain ⟨k0, k1, k2, k3, k4, k5, k6, k7, k8, k9, k10, k11, k12, k13, k14, k15⟩ := cells16 I1.out.A
  have f10 := I1.out.A.free 10
  have I2 : Hid (JI w (w1.setCell ⟨w.heap.size, 10, none⟩ (.int .i64 x1)) o (.slice ao p c) (o16 s.kind s.a s.b s.weights s.biases o.to s.size s.stride s.same (.slice sa ps cs) x1 s.hi s.above s.below s.left s.right) (o16 0 0 0 0 0 0 0 0 false (.slice none 0 0) 0 0 0 0 0 0)) := I1.out.put 10 (.int .i64 x1)
  clear k0 k1 k2 k3 k4 k5 k6 k7 k8 k9 k12 k13 k14 k15 I1
  go_wp2_with (refine wpList_load_row rfl 142 _ rfl (w.heap.size + 1) rfl 142 (oo o (.slice ao p c)) (0, 0) _ I2.out.B Tryz.underlying142 rfl Tryz.size142 ?_)
  refine (swithin_c s.hi o ao p c _).mono ?_
  rintro e w2 ⟨rfl, hg2⟩
  have I3 : Hid (JI w w2 o (.slice ao p c) (o16 s.kind s.a s.b s.weights s.biases o.to s.size s.stride s.same (.slice sa ps cs) x1 s.hi s.above s.below s.left s.right) (o16 0 0 0 0 0 0 0 0 false (.slice none 0 0) 0 0 0 0 0 0)) := I2.out.call hg2
  clear hg2 I2 k10 k11 f10
  generalize R.between s.hi o.lo o.hi = x2 at *
  have k11 : w2.cell? ⟨w.heap.size, 11, none⟩ = some (.int .i64 s.hi) := I3.out.A.cell 11
  have f11 := I3.out.A.free 11
  have I4 : Hid (JI w (w2.setCell ⟨w.heap.size, 11, none⟩ (.int .i64 x2)) o (.slice ao p c) (o16 s.kind s.a s.b s.weights s.biases o.to s.size s.stride s.same (.slice sa ps cs) x1 x2 s.above s.below s.left s.right) (o16 0 0 0 0 0 0 0 0 false (.slice none 0 0) 0 0 0 0 0 0)) := I3.out.put 11 (.int .i64 x2)
  clear I3
  go_wp2_with (first | (refine wpList_load_row rfl 142 _ rfl w.heap.size rfl 142 (o16 s.kind s.a s.b s.weights s.biases o.to s.size s.stride s.same (.slice sa ps cs) x1 x2 s.above s.below s.left s.right) (0, 0) _ I4.out.A Tryz.underlying142 rfl Tryz.size142 ?_; generalize w2.setCell ⟨w.heap.size, 11, none⟩ (.int .i64 x2) = w3 at *) | (refine wpList_store_row rfl 142 _ _ rfl (w.heap.size + 2) (o16 s.kind s.a s.b s.weights s.biases o.to s.size s.stride s.same (.slice sa ps cs) x1 x2 s.above s.below s.left s.right) rfl rfl 142 (o16 0 0 0 0 0 0 0 0 false (.slice none 0 0) 0 0 0 0 0 0) I4.out.R Tryz.size142 rfl (one16 ..) ?_))
  have hR : Blk (w3.setRow (w.heap.size + 2) (o16 s.kind s.a s.b s.weights s.biases o.to s.size s.stride s.same (.slice sa ps cs) x1 x2 s.above s.below s.left s.right)) (w.heap.size + 2) 142 (o16 s.kind s.a s.b s.weights s.biases o.to s.size s.stride s.same (.slice sa ps cs) x1 x2 s.above s.below s.left s.right) := setRow_heap _ _ _ _ _ _ I4.out.R
  refine bodyPost_ret (v := .agg (o16 s.kind s.a s.b s.weights s.biases o.to s.size s.stride s.same (.slice sa ps cs) x1 x2 s.above s.below s.left s.right)) ?hr rfl ?_
  case hr => exact results_cell_row Tryz.results147 _ _ (w.heap.size + 2) 142 _ (0, 0) _ rfl hR Tryz.underlying142 rfl Tryz.size142
  exact ⟨by rw [He.out], gr_new I4.out.g (gr_setRow _ _ _) (by omega)⟩

def hostI (x : Option Nat) : Int := match x with
  | some i => (i : Int)
  | none => -1
theorem host_no7 {m : M.Md} {left : List M.Op} {o : M.Op} (h : o.kind ≠ 7) : H.host m left o = none := by unfold H.host; rw [if_neg fun c => h c.1]
theorem host_hit {m : M.Md} {left : List M.Op} {o s : M.Op} {k : Nat} (h7 : o.kind = 7) (hu : H.uses m o.a = 1) (hs : left[k]? = some s) (hp : H.isHost o s = true) (hb : ∀ (j : Nat) t, j < k → left[j]? = some t → H.isHost o t = false) : H.host m left o = some k := by
  unfold H.host
  rw [if_pos ⟨h7, hu⟩, List.findIdx?_eq_some_iff_getElem]
  have hl := M.lt_of_some hs
  refine ⟨hl, ?_, fun j hj => ?_⟩
  · rw [List.getElem?_eq_getElem hl] at hs; injection hs with hs; rw [hs]; exact hp
  · have := hb j left[j] hj (List.getElem?_eq_getElem (by omega))
    rw [this]; decide
theorem host_none {m : M.Md} {left : List M.Op} {o : M.Op} (h : H.uses m o.a = 1 → ∀ (j : Nat) t, left[j]? = some t → H.isHost o t = false) : H.host m left o = none := by
  unfold H.host
  split
  · rename_i c
    rw [List.findIdx?_eq_none_iff]
    intro t ht
    obtain ⟨j, hj⟩ := List.getElem?_of_mem ht
    exact h c.2 j t hj
  · rfl

set_option maxRecDepth 100000 in
set_option maxHeartbeats 4000000 in
theorem host_c (m : Nat) (md : M.Md) (B : Nat) (a : Option Addr) (n c : Nat) (left : List M.Op) (o : M.Op) (ao : Option Addr) (p cp : Nat) (w : World) (h : Mod w m md) (hO : Ops w B (.slice a n c) left) (hn1 : md.ops.length ≤ 255) (hn2 : md.outs.length ≤ 255) (hn3 : left.length ≤ 255) :
    Calls Tryz.prog 146 #[.pointer (some ⟨m, 0, none⟩), .slice a n c, .agg (oval o (.slice ao p cp))] w fun e w' => e = .returned (.int .i64 (hostI (H.host md left o))) ∧ w.grownBy w' none := by
  obtain rfl := hO.len
  have N0 := hide (Blk.new w 142 (oo o (.slice ao p cp)))
  have G0 := hide (World.grownBy_alloc w (.cells (oo o (.slice ao p cp)) 142) none)
  have HO := hide hO
  show Calls Tryz.prog 146 #[.pointer (some ⟨m, 0, none⟩), .slice a left.length c, .agg (oo o (.slice ao p cp))] w _
  by_cases h7 : o.kind = 7
  · have h7' : (o.kind != 7) = false := by simp [h7]
    have H7 := hide h7
    have HC := hide (uses_c m md o.a _ (h.kept0 G0.out) hn1 hn2)
    clear h7 h hO
    go_enter Tryz.func146, Tryz.ntmps146
    go_wp2_with fail
    refine HC.out.mono ?_
    rintro e w1 ⟨rfl, hg1⟩
    have HG1 := hide (gr_trans G0.out hg1)
    have N1 := hide (N0.out.kept hg1 (by simp))
    clear hg1 N0 G0 HC
    obtain ⟨un, Hun⟩ : ∃ un, Hid (H.uses md o.a = un) := ⟨_, rfl⟩
    rw [Hun.out]
    go_wp2
    go_loopw [20] (fun i wr => ∃ k : Nat, k ≤ left.length ∧ i = .int .i64 k ∧ Hid (un = 1 → ∀ (j : Nat) t, j < k → left[j]? = some t → H.isHost o t = false) ∧ Blk wr w.heap.size 142 (oo o (.slice ao p cp)) ∧ w.grownBy wr none) (fun i _ => left.length - (intOf i).toNat)
    case atStart => exact ⟨0, Nat.zero_le _, rfl, fun _ j t hj => absurd hj (by omega), N1.out, HG1.out⟩
    case round =>
      obtain ⟨k, hk, rfl, Hal, hBk, hgk⟩ := hrel
      have HBk := hide hBk
      have HGk := hide hgk
      clear N1 HG1 hBk
      by_cases hlt : k < left.length
      · obtain ⟨s, hs⟩ : ∃ s, left[k]? = some s := ⟨_, List.getElem?_eq_getElem hlt⟩
        obtain ⟨g, sa, sp, sc, rfl, hgl, -, hSc, hR⟩ := (HO.out.kept0 hgk).get k s hs
        have HBo := hide (Blk.new wr 142 (oval s (.slice sa sp sc)))
        have HG2 := hide (World.grownBy_alloc wr (.cells (oval s (.slice sa sp sc)) 142) none)
        have Hs := hide hs
        clear hs hSc hgk
        go_wp2_with (first | (refine wpList_load_mid rfl 142 _ rfl g (k * 16) rfl (oval s (.slice sa sp sc)).toList _ hR Tryz.underlying142 rfl Tryz.size142 ?_) | (refine wpList_store_row rfl 142 _ _ rfl wr.heap.size (oval s (.slice sa sp sc)) rfl rfl 142 (o16 0 0 0 0 0 0 0 0 false (.slice none 0 0) 0 0 0 0 0 0) (Blk.new wr 142 _) Tryz.size142 rfl (one16 ..) ?_; rw [World.setRow_alloc_new]; generalize wr.alloc (.cells (oval s (.slice sa sp sc)) 142) = w3 at *) | (refine wpList_load_row rfl 142 _ rfl wr.heap.size rfl 142 (oval s (.slice sa sp sc)) (0, 0) _ HBo.out Tryz.underlying142 rfl Tryz.size142 ?_))
        refine (hasRange_c s.kind _ _ _ _ _ _ _ _ _ _ _ _ _ _ _ (H.hasRange s) _ rfl).mono ?_
        rintro e w4 ⟨rfl, hg4⟩
        have HG4 := hide (gr_trans HG2.out hg4)
        have s5 : w4.cell? ⟨wr.heap.size, 5, none⟩ = some (.int .i64 s.to) := (HBo.out.kept hg4 (by simp)).cell 5
        have HB4 := hide (HBk.out.kept HG4.out (by simp))
        have o1 : w4.cell? ⟨w.heap.size, 1, none⟩ = some (.int .i64 o.a) := HB4.out.cell 1
        have HGW := hide (gr_trans HGk.out HG4.out)
        clear hg4 hR HBo
        have Hno : Hid ((un = 1 → H.isHost o s = false) → un = 1 → ∀ (j : Nat) t, j < k + 1 → left[j]? = some t → H.isHost o t = false) := fun hh h1 j t hj ht => by
          rcases Nat.lt_or_ge j k with h' | h'
          · exact Hal.out h1 j t h' ht
          · obtain rfl : j = k := by omega
            rw [Hs.out] at ht
            injection ht with ht
            rw [← ht]; exact hh h1
        by_cases hun : un = 1
        · have hun' : ((un : Int) == 1) = true := by simp [hun]
          cases hr : H.hasRange s with
          | true =>
            by_cases hto : s.to = o.a
            · have hto' : (s.to == o.a) = true := by simp [hto]
              have HE := hide (host_hit H7.out (by rw [Hun.out]; exact hun) Hs.out (by unfold H.isHost; rw [hr, hto']; rfl) (Hal.out hun))
              clear hun hr hto
              go_wp2
              go_ret
              exact ⟨ret_int (by rw [HE.out]; rfl), HGW.out⟩
            · have hto' : (s.to == o.a) = false := by simp [hto]
              have HN := hide (Hno.out fun _ => by unfold H.isHost; rw [hto', Bool.and_false])
              clear hun hr hto
              go_wp2
              go_roundw
              case rel => exact ⟨k + 1, by omega, by go_num, HN.out, HB4.out, HGW.out⟩
              case measure => simp [intOf]; omega
          | false =>
            have HN := hide (Hno.out fun _ => by unfold H.isHost; rw [hr, Bool.false_and])
            clear hun hr
            go_wp2
            go_roundw
            case rel => exact ⟨k + 1, by omega, by go_num, HN.out, HB4.out, HGW.out⟩
            case measure => simp [intOf]; omega
        · have hun' : ((un : Int) == 1) = false := by simp; omega
          have HN := hide (Hno.out fun h => absurd h hun)
          clear hun
          go_wp2
          go_roundw
          case rel => exact ⟨k + 1, by omega, by go_num, HN.out, HB4.out, HGW.out⟩
          case measure => simp [intOf]; omega
      · obtain rfl : k = left.length := by omega
        have HE := hide (host_none (m := md) (left := left) (o := o) fun h1 j t ht => Hal.out (by rw [← Hun.out]; exact h1) j t (M.lt_of_some ht) ht)
        clear hgk
        go_wp2
        go_ret
        exact ⟨ret_int (by rw [HE.out]; rfl), HGk.out⟩
  · have h7' : (o.kind != 7) = true := by simp [h7]
    have HE := hide (host_no7 (m := md) (left := left) h7)
    clear h7 h hO
    go_enter Tryz.func146, Tryz.ntmps146
    go_wp2
    go_ret
    exact ⟨ret_int (by rw [HE.out]; rfl), G0.out⟩

end Go.Proofs.YtcnhfffgbamonaaGreat

/-
  shrink: joinClamps.
-/
namespace Go.Proofs.YtcnhfffgbamonaaGreat
open Go.RowKit

theorem joined_l (s o : M.Op) (sa ao : Option Addr) (ps cs p c : Nat) (w : World) :
    Calls Tryz.prog 147 #[.agg (oo s (.slice sa ps cs)), .agg (oo o (.slice ao p c))] w fun e w' => e = .returned (.agg #[.int .i64 s.kind, .int .i64 s.a, .int .i64 s.b, .int .i64 s.weights, .int .i64 s.biases, .int .i64 o.to, .int .i64 s.size, .int .i64 s.stride, .bool s.same, .slice sa ps cs, .int .i64 (R.between s.lo o.lo o.hi), .int .i64 (R.between s.hi o.lo o.hi), .int .i64 s.above, .int .i64 s.below, .int .i64 s.left, .int .i64 s.right]) ∧ w.grownBy w' none := joined_c s o sa ao ps cs p c w
theorem range_kept {w w' : World} {b o : Nat} {cs : List Value} (h : w.rangeAt b o cs) (hg : w.grownBy w' none) : w'.rangeAt b o cs := fun j v hv => cell_kept hg (h j v hv)
theorem frozen_kept {w w' : World} {a : Addr} {v : Value} {x : Bool} (hg : w.grownBy w' none) (hc : w.cell? a = some v) (hf : w.frozen? a = x) : w'.frozen? a = x := by
  have hb := hg.block a.block (World.block_lt_of_cell? w _ hc) (by simp)
  rw [← hf]
  unfold World.frozen?
  simp only [hb]
theorem there_kept {w w' : World} {b o n : Nat} (h : w.there b o n) (hg : w.grownBy w' none) : w'.there b o n := fun j hj => by
  obtain ⟨h1, h2⟩ := h j hj
  obtain ⟨v, hv⟩ := Option.isSome_iff_exists.1 h1
  have hb := hg.block b (World.block_lt_of_cell? w _ hv) (by simp)
  refine ⟨by rw [cell_kept hg hv]; rfl, ?_⟩
  rw [← h2]
  unfold World.frozen?
  simp only [hb]
theorem Ops2.there {w : World} {B1 B2 g n c i : Nat} {os : List M.Op} (h : Ops2 w B1 B2 (.slice (some ⟨g, 0, none⟩) n c) os) (hi : i < os.length) : w.there g (i * 16) 16 := fun j hj => by
  obtain ⟨ps, h1, h2, h3⟩ := h
  obtain ⟨g', cur, e, -, -, hB, h4, h5, h6, h7⟩ := owns_blk h2 (by omega)
  simp only [Option.some.injEq, Addr.mk.injEq, and_true] at e
  subst e
  refine ⟨?_, hB.free _⟩
  rw [hB.cell, Array.getElem?_eq_getElem (by omega)]; rfl

def setAll (xs : List Value) (p : Nat) : List Value → List Value
  | [] => xs
  | v :: vs => setAll (xs.set p v) (p + 1) vs
theorem setAll_len : ∀ (vs xs : List Value) (p : Nat), (setAll xs p vs).length = xs.length
  | [], _, _ => rfl
  | v :: vs, xs, p => by rw [setAll, setAll_len vs, List.length_set]
theorem setAll_get : ∀ (vs xs : List Value) (p j : Nat), (setAll xs p vs)[j]? = if p ≤ j ∧ j < p + vs.length ∧ j < xs.length then vs[j - p]? else xs[j]?
  | [], xs, p, j => by rw [if_neg (by simp; omega)]; rfl
  | v :: vs, xs, p, j => by
    rw [setAll, setAll_get vs, List.length_set, List.getElem?_set]
    by_cases c : p = j
    · subst c
      rw [if_neg (by omega), if_pos rfl]
      by_cases c2 : p < xs.length
      · rw [if_pos c2, if_pos ⟨Nat.le_refl _, by simp, c2⟩, Nat.sub_self]; rfl
      · rw [if_neg c2, if_neg (by omega), List.getElem?_eq_none (by omega)]
    · rw [if_neg c]
      by_cases c2 : p + 1 ≤ j ∧ j < p + 1 + vs.length ∧ j < xs.length
      · rw [if_pos c2, if_pos ⟨by omega, by simp; omega, c2.2.2⟩]
        rw [show j - p = (j - (p + 1)) + 1 by omega]; rfl
      · rw [if_neg c2, if_neg (by simp; omega)]
theorem setAll_flat {α : Type} (f : α → List Value) (n : Nat) (hf : ∀ x, (f x).length = n) (xs : List α) (i : Nat) (y : α) (hi : i < xs.length) : setAll (xs.flatMap f) (i * n) (f y) = (xs.set i y).flatMap f := by
  have hl : ∀ l : List α, (l.flatMap f).length = l.length * n := by
    intro l
    induction l with
    | nil => simp
    | cons a l ih => rw [List.flatMap_cons, List.length_append, hf, ih, List.length_cons, Nat.add_mul, Nat.one_mul, Nat.add_comm]
  by_cases hn : n = 0
  · subst hn
    rw [List.eq_nil_of_length_eq_zero (show (setAll (xs.flatMap f) (i * 0) (f y)).length = 0 by rw [setAll_len, hl]; simp), List.eq_nil_of_length_eq_zero (show ((xs.set i y).flatMap f).length = 0 by rw [hl]; simp)]
  · apply List.ext_getElem?
    intro j
    rw [setAll_get, hl, hf]
    by_cases hj : j < xs.length * n
    · have hd : j / n < xs.length := by rw [Nat.div_lt_iff_lt_mul (by omega)]; exact hj
      have hm : j % n < n := Nat.mod_lt _ (by omega)
      have he : j / n * n + j % n = j := by rw [Nat.mul_comm]; exact Nat.div_add_mod j n
      obtain ⟨z, hz⟩ : ∃ z, (xs.set i y)[j / n]? = some z := ⟨_, List.getElem?_eq_getElem (by rw [List.length_set]; exact hd)⟩
      have e1 := flat_get f n hf (xs.set i y) (j / n) (j % n) z hz hm
      rw [he] at e1
      rw [e1]
      by_cases c : i = j / n
      · have c1 : i * n ≤ j ∧ j < i * n + n ∧ j < xs.length * n := by rw [c]; omega
        rw [if_pos c1]
        rw [← c, List.getElem?_set, if_pos rfl, if_pos hi] at hz
        injection hz with hz
        rw [← hz]
        congr 1
        rw [c]; omega
      · rw [if_neg]
        · rw [List.getElem?_set, if_neg c] at hz
          have e2 := flat_get f n hf xs (j / n) (j % n) z hz hm
          rw [he] at e2
          rw [e2]
        · rintro ⟨h1, h2, -⟩
          apply c
          have h3 : i ≤ j / n := (Nat.le_div_iff_mul_le (by omega)).mpr h1
          have h4 : j / n < i + 1 := by rw [Nat.div_lt_iff_lt_mul (by omega), Nat.add_mul, Nat.one_mul]; exact h2
          omega
    · rw [if_neg (by omega), List.getElem?_eq_none (by rw [hl]; omega), List.getElem?_eq_none (by rw [hl, List.length_set]; omega)]
theorem owns_setCells {base : Nat} {e : TypeId} {size n g c m : Nat} : ∀ (vs : List Value) (p : Nat) (w : World) (xs : List Value), w.ownsRow base e size (.slice (some ⟨g, 0, none⟩) m c) n xs → (w.setCells g p vs).ownsRow base e size (.slice (some ⟨g, 0, none⟩) m c) n (setAll xs p vs)
  | [], _, _, _, h => h
  | v :: vs, p, _, _, h => owns_setCells vs (p + 1) _ _ (owns_set h p v)
theorem gr_setCells (g : Nat) : ∀ (vs : List Value) (p : Nat) (w : World), w.grownBy (w.setCells g p vs) (some g)
  | [], _, _ => World.grownBy.refl _ _
  | v :: vs, p, w => gr_trans (gr_set w g p v) (gr_setCells g vs (p + 1) _)
/-- An operator of a row, and what becomes of the row when it becomes another. -/
theorem Ops2.at_ {w : World} {B1 B2 g n c i : Nat} {os : List M.Op} {o : M.Op} (h : Ops2 w B1 B2 (.slice (some ⟨g, 0, none⟩) n c) os) (hi : os[i]? = some o) :
    ∃ sa sp sc, B1 ≤ g ∧ w.rangeAt g (i * 16) (oval o (.slice sa sp sc)).toList ∧ w.there g (i * 16) 16 ∧ ∀ (o' : M.Op) w', o'.scales = o.scales → w.grownBy w' none → Ops2 (w'.setCells g (i * 16) (oval o' (.slice sa sp sc)).toList) B1 B2 (.slice (some ⟨g, 0, none⟩) n c) (os.set i o') := by
  have hil := M.lt_of_some hi
  have hth := h.there hil
  obtain ⟨ps, h1, h2, h3⟩ := h
  obtain ⟨g', cur, e, hmn, hbg, hB, -⟩ := owns_blk h2 (by omega)
  simp only [Option.some.injEq, Addr.mk.injEq, and_true] at e
  subst e
  subst h1
  rw [List.getElem?_map] at hi
  obtain ⟨p, hp, rfl⟩ := Option.map_eq_some_iff.1 hi
  obtain ⟨sa, sp, sc, hsh⟩ := (h3 p (List.mem_of_getElem? hp)).shape
  obtain ⟨g2, e2, -, -, hc⟩ := owns_some h2 (by omega)
  simp only [Option.some.injEq, Addr.mk.injEq, and_true] at e2
  subst e2
  refine ⟨sa, sp, sc, hbg, fun j v hv => ?_, hth, fun o' w' ho hg => ?_⟩
  · rw [← hsh] at hv
    have hj : j < 16 := by have := (List.getElem?_eq_some_iff.1 hv).1; simpa [oval] using this
    rw [hc _ (by simp at hil ⊢; omega), flat_get (fun p : M.Op × Value => (oval p.1 p.2).toList) 16 (fun a => rfl) ps i j p hp hj, hv]
  · have h4 := owns_setCells (oval o' (.slice sa sp sc)).toList (i * 16) w' _ (owns_kept0 h2 hg)
    have hip : i < ps.length := by simpa using hil
    have e3 := setAll_flat (fun p : M.Op × Value => (oval p.1 p.2).toList) 16 (fun a => rfl) ps i (o', .slice sa sp sc) hip
    have hB' := hB.kept hg (by simp)
    refine ⟨ps.set i (o', .slice sa sp sc), by rw [List.map_set], ?_, fun q hq => ?_⟩
    · rw [e3] at h4
      simpa using h4
    · have ap : ∀ v l, Scs w B2 v l → Scs (w'.setCells g (i * 16) (oval o' (.slice sa sp sc)).toList) B2 v l := fun v l hI => owns_apartT (owns_kept0 hI hg) hB' (by decide) (gr_setCells _ _ _ _)
      rcases set_mem hq with hq | rfl
      · exact ap _ _ (h3 q hq)
      · have := h3 p (List.mem_of_getElem? hp)
        rw [hsh, ← ho] at this
        exact ap _ _ this

theorem join_none {m : M.Md} {k : Nat} {o : M.Op} (h : m.ops[k]? = some o) (hh : H.host m (H.joinTo m k) o = none) : H.joinTo m (k + 1) = H.joinTo m k ++ [o] := by
  rw [H.joinTo_step h]; unfold H.joinStep; rw [hh]
theorem join_some {m : M.Md} {k i : Nat} {o s : M.Op} (h : m.ops[k]? = some o) (hh : H.host m (H.joinTo m k) o = some i) (hs : (H.joinTo m k)[i]? = some s) : H.joinTo m (k + 1) = (H.joinTo m k).set i (H.joined s o) := by
  rw [H.joinTo_step h]; unfold H.joinStep; rw [hh]
  apply List.ext_getElem?
  intro j
  rw [List.getElem?_modify, List.getElem?_set]
  by_cases c : i = j
  · subst c
    rw [hs, if_pos rfl, if_pos (M.lt_of_some hs)]; simp
  · rw [if_neg c]
    cases (H.joinTo m k)[j]? <;> simp [c]

set_option maxRecDepth 100000 in
set_option maxHeartbeats 8000000 in
theorem joinClamps_c (m : Nat) (md : M.Md) (w : World) (h : Mod w m md) (hn1 : md.ops.length ≤ 255) (hn2 : md.outs.length ≤ 255) :
    Calls Tryz.prog 103 #[.pointer (some ⟨m, 0, none⟩)] w fun e w' => e = .returned (.tuple #[]) ∧ Mod w' m (H.join md) ∧ Below m w w' := by
  obtain ⟨i0, hi, hz0, hz1, hz2⟩ := info_parts Tryz.info142
  have Hz0 := hide hz0
  clear hz0
  have HM := hide h
  obtain ⟨a1, c1, a2, c2, a3, c3, hB, hT, hO, hU⟩ := h
  have q1 : w.cell? ⟨m, 1, none⟩ = some (.slice a2 md.ops.length c2) := hB.cell 1
  have hml := hB.lt
  have HO := hide hO
  clear hB hT hO hU
  go_enter Tryz.func103, Tryz.ntmps103
  go_wp2
  clear q1
  go_loopw [2, 11] (fun v i wr => ∃ k : Nat, k ≤ md.ops.length ∧ i = .int .i64 k ∧ Ops2 wr w.heap.size (m + 1) v (H.joinTo md k) ∧ w.grownBy wr none) (fun _ i _ => md.ops.length - (intOf i).toNat)
  case atStart => exact ⟨0, Nat.zero_le _, rfl, Ops2.nil _ _ _, World.grownBy.refl _ _⟩
  case round =>
    obtain ⟨k, hk, rfl, hLk, hgk⟩ := hrel
    have hl4 := H.joinTo_len md k hk
    have hszk := hgk.size
    by_cases hlt : k < md.ops.length
    · obtain ⟨o, ho⟩ : ∃ o, md.ops[k]? = some o := ⟨_, List.getElem?_eq_getElem hlt⟩
      obtain ⟨g, ao, p, cp, rfl, hgl, -, hSc, hR⟩ := (HO.out.kept0 hgk).get k o ho
      obtain ⟨la, lc, rfl⟩ := hLk.shape
      have HNo := hide (fun hh => join_none ho hh)
      have HSo := hide (fun i hh s hs => join_some (i := i) (s := s) ho hh hs)
      have HLo := hide hLk
      have HGk := hide hgk
      clear hLk hgk ho
      obtain ⟨L, HL⟩ : ∃ L, Hid (H.joinTo md k = L) := ⟨_, rfl⟩
      rw [HL.out] at HLo hl4 HNo HSo ⊢
      have HBo := hide (Blk.new wr 142 (oval o (.slice ao p cp)))
      have HG1 := hide (World.grownBy_alloc wr (.cells (oval o (.slice ao p cp)) 142) none)
      have HSc := hide hSc
      have HC := hide (host_c m md (m + 1) la L.length lc L o ao p cp _ (HM.out.kept0 (gr_trans HGk.out HG1.out)) ((HLo.out.kept0 HG1.out).ops (by omega)) hn1 hn2 (by omega))
      clear hSc
      go_wp2_with (first | (refine wpList_load_mid rfl 142 _ rfl g (k * 16) rfl (oval o (.slice ao p cp)).toList _ hR Tryz.underlying142 rfl Tryz.size142 ?_) | (refine wpList_store_row rfl 142 _ _ rfl wr.heap.size (oval o (.slice ao p cp)) rfl rfl 142 (o16 0 0 0 0 0 0 0 0 false (.slice none 0 0) 0 0 0 0 0 0) (Blk.new wr 142 _) Tryz.size142 rfl (one16 ..) ?_; rw [World.setRow_alloc_new]; generalize wr.alloc (.cells (oval o (.slice ao p cp)) 142) = w3 at *) | (refine wpList_load_row rfl 142 _ rfl wr.heap.size rfl 142 (oval o (.slice ao p cp)) (0, 0) _ HBo.out Tryz.underlying142 rfl Tryz.size142 ?_))
      refine HC.out.mono ?_
      rintro e w4 ⟨rfl, hg4⟩
      have HG4 := hide (gr_trans HG1.out hg4)
      have HB4 := hide (HBo.out.kept hg4 (by simp))
      have HL4 := hide (HLo.out.kept0 HG4.out)
      have hsz4 := HG4.out.size
      clear hg4 hR HBo HG1 HC
      cases hh : H.host md L o with
      | none =>
        have HN := hide (HNo.out hh)
        obtain ⟨ps, q1, q2, q3⟩ := HL4.out
        have e0 : hostI none = -1 := rfl
        rw [e0]
        clear hh e0
        go_wp2_with (first | (refine wpList_load_row rfl 142 _ rfl wr.heap.size rfl 142 #[.int .i64 o.kind, .int .i64 o.a, .int .i64 o.b, .int .i64 o.weights, .int .i64 o.biases, .int .i64 o.to, .int .i64 o.size, .int .i64 o.stride, .bool o.same, .slice ao p cp, .int .i64 o.lo, .int .i64 o.hi, .int .i64 o.above, .int .i64 o.below, .int .i64 o.left, .int .i64 o.right] (0, 0) _ HB4.out Tryz.underlying142 rfl Tryz.size142 ?_) | (at_builtin; refine wpList_append_own _ rfl _ _ 137 rfl w.heap.size 142 i0 (.agg (o16 0 0 0 0 0 0 0 0 false (.slice none 0 0) 0 0 0 0 0 0)) 16 144 Tryz.underlying137 hi Hz0.out hz1 hz2 rfl (by decide) _ _ _ rfl (q2.alloc _) ⟨w4.heap.size, 0, none⟩ 1 1 (oval o (.slice ao p cp)).toList rfl rfl ?c1 ?c2 ?c3 ?c4 ?c5 ?_))
        case c1 => exact news_at1 w4 142 (oval o (.slice ao p cp))
        case c2 => intro u hu; simp [oval] at hu; rcases hu with rfl | rfl | rfl | rfl | rfl | rfl | rfl | rfl | rfl | rfl | rfl | rfl | rfl | rfl | rfl | rfl <;> rfl
        case c3 => unfold maxLen; omega
        case c4 => omega
        case c5 => simp; omega
        intro v' w5 hown' hgrow _
        have hga := gr_trans (World.grownBy_alloc w4 _ _) hgrow
        have hT5 := Ops2.snoc q1 q2 q3 (owns_kept0 HSc.out HG4.out) hga hown'
        have hlt5 := owns_row_lt q2
        have HG5 : Hid (w.grownBy w5 none) := gr_own (gr_trans HGk.out HG4.out) hga hlt5
        have HT5 := hide hT5
        clear hown' hgrow hga q2 q3 hT5 hlt5
        go_wp2
        go_roundw
        case rel => exact ⟨k + 1, by omega, by go_num, by rw [HN.out]; exact HT5.out, HG5.out⟩
        case measure => simp [intOf]; omega
      | some i =>
        obtain ⟨-, -, s, hs, -, -⟩ := H.host_some hh
        have hil := M.lt_of_some hs
        have HN := hide (HSo.out i hh s hs)
        have e0 : hostI (some i) = (i : Int) := rfl
        rw [e0]
        obtain ⟨gl, cur, rfl, -⟩ := (show ∃ gl cur, la = some ⟨gl, 0, none⟩ ∧ Blk w4 gl 142 cur by
          obtain ⟨ps, q1, q2, q3⟩ := HL4.out
          obtain ⟨gl, cur, e, -, -, hB, -⟩ := owns_blk q2 (by omega)
          exact ⟨gl, cur, e, hB⟩)
        obtain ⟨sa, sp, sc, hbl, hrl, hth, hput⟩ := HL4.out.at_ hs
        have Hput := hide hput
        clear hh e0 hs hput
        have a0 : w4.cell? ⟨gl, i * 16, none⟩ = some (.int .i64 s.kind) := hrl 0 _ rfl
        have a1 : w4.cell? ⟨gl, i * 16 + 1, none⟩ = some (.int .i64 s.a) := hrl 1 _ rfl
        have a2 : w4.cell? ⟨gl, i * 16 + 2, none⟩ = some (.int .i64 s.b) := hrl 2 _ rfl
        have a3 : w4.cell? ⟨gl, i * 16 + 3, none⟩ = some (.int .i64 s.weights) := hrl 3 _ rfl
        have a4 : w4.cell? ⟨gl, i * 16 + 4, none⟩ = some (.int .i64 s.biases) := hrl 4 _ rfl
        have a5 : w4.cell? ⟨gl, i * 16 + 5, none⟩ = some (.int .i64 s.to) := hrl 5 _ rfl
        have a6 : w4.cell? ⟨gl, i * 16 + 6, none⟩ = some (.int .i64 s.size) := hrl 6 _ rfl
        have a7 : w4.cell? ⟨gl, i * 16 + 7, none⟩ = some (.int .i64 s.stride) := hrl 7 _ rfl
        have a8 : w4.cell? ⟨gl, i * 16 + 8, none⟩ = some (.bool s.same) := hrl 8 _ rfl
        have a9 : w4.cell? ⟨gl, i * 16 + 9, none⟩ = some (.slice sa sp sc) := hrl 9 _ rfl
        have a10 : w4.cell? ⟨gl, i * 16 + 10, none⟩ = some (.int .i64 s.lo) := hrl 10 _ rfl
        have a11 : w4.cell? ⟨gl, i * 16 + 11, none⟩ = some (.int .i64 s.hi) := hrl 11 _ rfl
        have a12 : w4.cell? ⟨gl, i * 16 + 12, none⟩ = some (.int .i64 s.above) := hrl 12 _ rfl
        have a13 : w4.cell? ⟨gl, i * 16 + 13, none⟩ = some (.int .i64 s.below) := hrl 13 _ rfl
        have a14 : w4.cell? ⟨gl, i * 16 + 14, none⟩ = some (.int .i64 s.left) := hrl 14 _ rfl
        have a15 : w4.cell? ⟨gl, i * 16 + 15, none⟩ = some (.int .i64 s.right) := hrl 15 _ rfl
        obtain ⟨b0, b1, b2, b3, b4, b5, b6, b7, b8, b9, b10, b11, b12, b13, b14, b15⟩ := cells16 (show Blk w4 wr.heap.size 142 (oo o (.slice ao p cp)) from HB4.out)
        have f0 : w4.frozen? ⟨gl, i * 16, none⟩ = false := (hth 0 (by decide)).2
        have f1 : w4.frozen? ⟨gl, i * 16 + 1, none⟩ = false := (hth 1 (by decide)).2
        have f2 : w4.frozen? ⟨gl, i * 16 + 2, none⟩ = false := (hth 2 (by decide)).2
        have f3 : w4.frozen? ⟨gl, i * 16 + 3, none⟩ = false := (hth 3 (by decide)).2
        have f4 : w4.frozen? ⟨gl, i * 16 + 4, none⟩ = false := (hth 4 (by decide)).2
        have f5 : w4.frozen? ⟨gl, i * 16 + 5, none⟩ = false := (hth 5 (by decide)).2
        have f6 : w4.frozen? ⟨gl, i * 16 + 6, none⟩ = false := (hth 6 (by decide)).2
        have f7 : w4.frozen? ⟨gl, i * 16 + 7, none⟩ = false := (hth 7 (by decide)).2
        have f8 : w4.frozen? ⟨gl, i * 16 + 8, none⟩ = false := (hth 8 (by decide)).2
        have f9 : w4.frozen? ⟨gl, i * 16 + 9, none⟩ = false := (hth 9 (by decide)).2
        have f10 : w4.frozen? ⟨gl, i * 16 + 10, none⟩ = false := (hth 10 (by decide)).2
        have f11 : w4.frozen? ⟨gl, i * 16 + 11, none⟩ = false := (hth 11 (by decide)).2
        have f12 : w4.frozen? ⟨gl, i * 16 + 12, none⟩ = false := (hth 12 (by decide)).2
        have f13 : w4.frozen? ⟨gl, i * 16 + 13, none⟩ = false := (hth 13 (by decide)).2
        have f14 : w4.frozen? ⟨gl, i * 16 + 14, none⟩ = false := (hth 14 (by decide)).2
        have f15 : w4.frozen? ⟨gl, i * 16 + 15, none⟩ = false := (hth 15 (by decide)).2
        clear hrl hth
        go_wp2
        go_region_with (go_at_call 147; refine (joined_l s o sa ao sp sc p cp _).mono ?_; rintro e w6 ⟨rfl, hg6⟩; have hg7 := gr_trans (gr_drew w4 none) hg6; have c0 := cell_kept hg7 a0; have c1 := cell_kept hg7 a1; have c2 := cell_kept hg7 a2; have c3 := cell_kept hg7 a3; have c4 := cell_kept hg7 a4; have c5 := cell_kept hg7 a5; have c6 := cell_kept hg7 a6; have c7 := cell_kept hg7 a7; have c8 := cell_kept hg7 a8; have c9 := cell_kept hg7 a9; have c10 := cell_kept hg7 a10; have c11 := cell_kept hg7 a11; have c12 := cell_kept hg7 a12; have c13 := cell_kept hg7 a13; have c14 := cell_kept hg7 a14; have c15 := cell_kept hg7 a15; have e0 := frozen_kept hg7 a0 f0; have e1 := frozen_kept hg7 a1 f1; have e2 := frozen_kept hg7 a2 f2; have e3 := frozen_kept hg7 a3 f3; have e4 := frozen_kept hg7 a4 f4; have e5 := frozen_kept hg7 a5 f5; have e6 := frozen_kept hg7 a6 f6; have e7 := frozen_kept hg7 a7 f7; have e8 := frozen_kept hg7 a8 f8; have e9 := frozen_kept hg7 a9 f9; have e10 := frozen_kept hg7 a10 f10; have e11 := frozen_kept hg7 a11 f11; have e12 := frozen_kept hg7 a12 f12; have e13 := frozen_kept hg7 a13 f13; have e14 := frozen_kept hg7 a14 f14; have e15 := frozen_kept hg7 a15 f15; clear a0 a1 a2 a3 a4 a5 a6 a7 a8 a9 a10 a11 a12 a13 a14 a15 f0 f1 f2 f3 f4 f5 f6 f7 f8 f9 f10 f11 f12 f13 f14 f15 b0 b1 b2 b3 b4 b5 b6 b7 b8 b9 b10 b11 b12 b13 b14 b15)
        all_goals
          have HP := hide (Hput.out (H.joined s o) w6 rfl hg7)
          have HG8 := hide (gr_new (gr_trans (gr_trans HGk.out HG4.out) hg7) (gr_setCells gl (oval (H.joined s o) (.slice sa sp sc)).toList (i * 16) w6) hbl)
          obtain ⟨w8, hw8⟩ : ∃ w8, w8 = w6.setCells gl (i * 16) (oval (H.joined s o) (.slice sa sp sc)).toList := ⟨_, rfl⟩
          rw [← hw8] at HP HG8
          have hw9 : w8 = ((((((((((((((((w6.setCell ⟨gl, i * 16, none⟩ (.int .i64 s.kind)).setCell ⟨gl, i * 16 + 1, none⟩ (.int .i64 s.a)).setCell ⟨gl, i * 16 + 2, none⟩ (.int .i64 s.b)).setCell ⟨gl, i * 16 + 3, none⟩ (.int .i64 s.weights)).setCell ⟨gl, i * 16 + 4, none⟩ (.int .i64 s.biases)).setCell ⟨gl, i * 16 + 5, none⟩ (.int .i64 o.to)).setCell ⟨gl, i * 16 + 6, none⟩ (.int .i64 s.size)).setCell ⟨gl, i * 16 + 7, none⟩ (.int .i64 s.stride)).setCell ⟨gl, i * 16 + 8, none⟩ (.bool s.same)).setCell ⟨gl, i * 16 + 9, none⟩ (.slice sa sp sc)).setCell ⟨gl, i * 16 + 10, none⟩ (.int .i64 (R.between s.lo o.lo o.hi))).setCell ⟨gl, i * 16 + 11, none⟩ (.int .i64 (R.between s.hi o.lo o.hi))).setCell ⟨gl, i * 16 + 12, none⟩ (.int .i64 s.above)).setCell ⟨gl, i * 16 + 13, none⟩ (.int .i64 s.below)).setCell ⟨gl, i * 16 + 14, none⟩ (.int .i64 s.left)).setCell ⟨gl, i * 16 + 15, none⟩ (.int .i64 s.right)) := hw8.trans rfl
          rw [← hw9]
          clear hw8 hw9 hg6 hg7 c0 e0 c1 e1 c2 e2 c3 e3 c4 e4 c5 e5 c6 e6 c7 e7 c8 e8 c9 e9 c10 e10 c11 e11 c12 e12 c13 e13 c14 e14 c15 e15
          go_wp2
          go_roundw
          case rel => exact ⟨k + 1, by omega, by go_num, by rw [HN.out]; have e := HP.out; simpa using e, HG8.out⟩
          case measure => simp [intOf]; omega
    · obtain rfl : k = md.ops.length := by omega
      obtain ⟨la, lc, rfl⟩ := hLk.shape
      have HJ := hide (H.join_eq md)
      have HM1 := HM.out.kept0 hgk
      have HMs := hide (Mod.setOps HM1 (hLk.ops (by omega)))
      obtain ⟨b1, d1, b2, d2, b3, d3, hB, -⟩ := HM1
      have q1 : wr.cell? ⟨m, 1, none⟩ = some (.slice b2 md.ops.length d2) := hB.cell 1
      have f1 := hB.free 1
      have HBl := hide (below_trans (below_of0 hgk (by omega)) (below_of (gr_set wr m 1 (.slice la (H.joinTo md md.ops.length).length lc)) (Nat.le_refl m) (by omega)))
      clear hgk hLk hB
      generalize H.joinTo md md.ops.length = L at *
      go_wp2
      go_end0
      exact ⟨rfl, by rw [HJ.out]; exact HMs.out, HBl.out⟩

end Go.Proofs.YtcnhfffgbamonaaGreat

/-
  shrink: Shrink.
-/
namespace Go.Proofs.YtcnhfffgbamonaaGreat
open Go.RowKit

set_option maxHeartbeats 1000000 in
theorem shrink_c (m : Nat) (md : M.Md) (C : List (List Int)) (w : World) (h : Mod w m md) (S : H.Sol md C) :
    Calls Tryz.prog 63 #[.pointer (some ⟨m, 0, none⟩)] w fun e w' => e = .returned (.tuple #[]) ∧ Mod w' m (H.shrink md) ∧ Below m w w' := by
  have S1 := S.fold
  have S2 := S1.drop
  have S3 := S2.join
  have HS := hide S
  have HM := hide h
  have b1 := hide (show (H.fold md).ops.length ≤ 255 ∧ (H.fold md).outs.length ≤ 255 from ⟨by have := S1.no; omega, S1.nu⟩)
  have b2 := hide (show (H.drop (H.fold md)).ops.length ≤ 255 ∧ (H.drop (H.fold md)).outs.length ≤ 255 from ⟨by have := S2.no; omega, S2.nu⟩)
  have b3 := hide (show (H.join (H.drop (H.fold md))).tensors.length ≤ 255 ∧ (H.join (H.drop (H.fold md))).ops.length ≤ 255 ∧ (H.join (H.drop (H.fold md))).outs.length ≤ 255 from ⟨by have := S3.nt; omega, by have := S3.no; omega, S3.nu⟩)
  have HE : Hid (H.shrink md = H.forget (H.join (H.drop (H.fold md)))) := rfl
  clear S S1 S2 S3 h
  go_enter Tryz.func63, Tryz.ntmps63
  go_wp2_with fail
  refine (fold_c m md C w HM.out HS.out).mono ?_
  rintro e w1 ⟨rfl, hM1, hB1⟩
  have HM1 := hide hM1
  have HB1 := hide hB1
  clear hM1 hB1
  go_wp2_with fail
  refine (dropUnread_c m _ w1 HM1.out b1.out.1 b1.out.2).mono ?_
  rintro e w2 ⟨rfl, hM2, hB2⟩
  have HM2 := hide hM2
  have HB2 := hide (below_trans HB1.out hB2)
  clear hM2 hB2
  go_wp2_with fail
  refine (joinClamps_c m _ w2 HM2.out b2.out.1 b2.out.2).mono ?_
  rintro e w3 ⟨rfl, hM3, hB3⟩
  have HM3 := hide hM3
  have HB3 := hide (below_trans HB2.out hB3)
  clear hM3 hB3
  go_wp2_with fail
  refine (forget_c m _ w3 HM3.out b3.out.1 b3.out.2.1 b3.out.2.2).mono ?_
  rintro e w4 ⟨rfl, hM4, hB4⟩
  have HM4 := hide hM4
  have HB4 := hide (below_trans HB3.out hB4)
  clear hM4 hB4
  go_wp2
  go_end0
  exact ⟨rfl, by rw [HE.out]; exact HM4.out, HB4.out⟩

end Go.Proofs.YtcnhfffgbamonaaGreat
