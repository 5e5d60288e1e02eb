import Derived.Test.YtcnhfffgbamonaaGreatSkA
import Derived.StillTailTactics
/-
  shrink: fold.
-/
namespace Go.Proofs.YtcnhfffgbamonaaGreat
open Go.RowKit

theorem Tns.apart {w w' : World} {B G : Nat} {T : TypeId} {v : Value} {ts : List M.Tn} {cs : Array Value} (h : Tns w B v ts) (hB : Blk w G T cs) (hT : T ≠ 158) (h3 : T ≠ 3) (hg : w.grownBy w' (some G)) : Tns w' B v ts := by
  obtain ⟨ps, q1, q2, q3⟩ := h
  exact ⟨ps, q1, owns_apartT q2 hB hT hg, fun p hp => owns_apartT (q3 p hp) hB h3 hg⟩
theorem Ops.apart {w w' : World} {B G : Nat} {T : TypeId} {v : Value} {os : List M.Op} {cs : Array Value} (h : Ops w B v os) (hB : Blk w G T cs) (hT : T ≠ 142) (h3 : T ≠ 224) (hg : w.grownBy w' (some G)) : Ops w' B v os := by
  obtain ⟨ps, q1, q2, q3⟩ := h
  exact ⟨ps, q1, owns_apartT q2 hB hT hg, fun p hp => owns_apartT (q3 p hp) hB h3 hg⟩

theorem Ops2.apart {w w' : World} {B1 B2 G : Nat} {T : TypeId} {v : Value} {os : List M.Op} {cs : Array Value} (h : Ops2 w B1 B2 v os) (hB : Blk w G T cs) (hT : T ≠ 142) (h3 : T ≠ 224) (hg : w.grownBy w' (some G)) : Ops2 w' B1 B2 v os := by
  obtain ⟨ps, q1, q2, q3⟩ := h
  exact ⟨ps, q1, owns_apartT q2 hB hT hg, fun p hp => owns_apartT (q3 p hp) hB h3 hg⟩

/-- A row that grows is a block of its type, or none. -/
theorem own_row {w : World} {B : Nat} {E : TypeId} {size n : Nat} {v : Value} {xs : List Value} (h : w.ownsRow B E size v n xs) : v.ownBlock = none ∨ ∃ g cs, v.ownBlock = some g ∧ B ≤ g ∧ Blk w g E cs := by
  rcases h.2 with ⟨rfl, _⟩ | ⟨g, cap, cur, rfl, hb, hh, _⟩
  · exact .inl rfl
  · exact .inr ⟨g, cur, rfl, hb, hh⟩
theorem Tns.grow {w w' : World} {B B' : Nat} {E : TypeId} {size n : Nat} {v u : Value} {xs : List Value} {ts : List M.Tn} (h : Tns w B v ts) (ho : w.ownsRow B' E size u n xs) (hT : E ≠ 158) (h3 : E ≠ 3) (hg : w.grownBy w' u.ownBlock) : Tns w' B v ts := by
  rcases own_row ho with e | ⟨g, cs, e, -, hB⟩
  · rw [e] at hg; exact h.kept0 hg
  · rw [e] at hg; exact h.apart hB hT h3 hg

theorem ops_of {w wr : World} {m : Nat} {a1 a2 : Option Addr} {n1 c1 n2 c2 : Nat} {ts : List M.Tn} {os : List M.Op} (hT : Tns w (m + 1) (.slice a1 n1 c1) ts) (hO : Ops w (m + 1) (.slice a2 n2 c2) os) (hg : w.grownBy wr (Value.slice a1 n1 c1).ownBlock) : Ops wr (m + 1) (.slice a2 n2 c2) os := by
  obtain ⟨ps, h1, h2, h3⟩ := hT
  rcases own_row h2 with e | ⟨g, cs, e, hb, hB'⟩
  · rw [e] at hg; exact hO.kept0 hg
  · rw [e] at hg; exact hO.apart hB' (by decide) (by decide) hg

/-- A model whose tensors alone have been written. -/
theorem mod_of {w wr : World} {m : Nat} {md : M.Md} {a1 a2 a3 : Option Addr} {c1 c2 c3 : Nat} {ts : List M.Tn} (hB : Blk w m 139 #[.slice a1 md.tensors.length c1, .slice a2 md.ops.length c2, .slice a3 md.outs.length c3]) (hT : Tns w (m + 1) (.slice a1 md.tensors.length c1) md.tensors) (hO : Ops w (m + 1) (.slice a2 md.ops.length c2) md.ops) (hU : Ints w (m + 1) (.slice a3 md.outs.length c3) md.outs)
    (hl : ts.length = md.tensors.length) (hT' : Tns wr (m + 1) (.slice a1 md.tensors.length c1) ts) (hg : w.grownBy wr (Value.slice a1 md.tensors.length c1).ownBlock) : Mod wr m ⟨ts, md.ops, md.outs⟩ := by
  obtain ⟨ps, h1, h2, h3⟩ := hT
  rcases own_row h2 with e | ⟨g, cs, e, hb, hB'⟩
  · rw [e] at hg
    refine ⟨a1, c1, a2, c2, a3, c3, ?_, ?_, hO.kept0 hg, hU.kept0 hg⟩
    · show Blk wr m _ #[.slice a1 ts.length c1, _, _]; rw [hl]; exact hB.kept hg (by simp)
    · show Tns wr (m + 1) (.slice a1 ts.length c1) ts; rw [hl]; exact hT'
  · rw [e] at hg
    refine ⟨a1, c1, a2, c2, a3, c3, ?_, ?_, hO.apart hB' (by decide) (by decide) hg, owns_apartT hU hB' (by decide) hg⟩
    · show Blk wr m _ #[.slice a1 ts.length c1, _, _]; rw [hl]; exact hB.kept hg (by simp; omega)
    · show Tns wr (m + 1) (.slice a1 ts.length c1) ts; rw [hl]; exact hT'

theorem below_row {w wr : World} {m : Nat} {a1 : Option Addr} {n c1 : Nat} {ts : List M.Tn} (hT : Tns w (m + 1) (.slice a1 n c1) ts) (hm : m < w.heap.size) (hg : w.grownBy wr (Value.slice a1 n c1).ownBlock) : Below m w wr := by
  obtain ⟨ps, h1, h2, h3⟩ := hT
  rcases own_row h2 with e | ⟨g, cs, e, hb, hB'⟩
  · rw [e] at hg; exact below_of0 hg (by omega)
  · rw [e] at hg; exact below_of hg (by omega) (by omega)

theorem cell_other {w w' : World} {G : Nat} (hg : w.grownBy w' (some G)) {a : Addr} {v : Value} (h : w.cell? a = some v) (hne : a.block ≠ G) : w'.cell? a = some v := by
  rw [World.cell?_of_block (hg.block a.block (World.block_lt_of_cell? w _ h) (by intro e; injection e with e; exact hne e))]; exact h
theorem Ints.apartT {w w' : World} {B G : Nat} {T : TypeId} {v : Value} {l : List Int} {cs : Array Value} (h : Ints w B v l) (hB : Blk w G T cs) (hT : T ≠ 3) (hg : w.grownBy w' (some G)) : Ints w' B v l := owns_apartT h hB hT hg

theorem fold_yes {m : M.Md} {k : Nat} {o : M.Op} (h : m.ops[k]? = some o) (hk : H.isKnown (H.foldTo m k).1 o = true) {q : Nat} (hq : o.to = q) {t : M.Tn} (ht : (H.foldTo m k).1.tensors[q]? = some t) :
    (H.foldTo m (k + 1)).1.tensors = (H.foldTo m k).1.tensors.set q { t with kind := 1, data := O.make (H.foldTo m k).1 o (M.tensorAt (H.foldTo m k).1 o.a).data (M.tensorAt (H.foldTo m k).1 o.b).data } ∧ (H.foldTo m (k + 1)).2 = (H.foldTo m k).2 := by
  rw [H.foldTo_step h]
  unfold H.foldStep
  rw [if_pos hk]
  refine ⟨?_, rfl⟩
  unfold H.setTo
  have e : M.tensorAt (H.foldTo m k).1 o.to = t := by
    rw [hq]; exact tensorAt_yes ht
  rw [e, hq, Int.toNat_natCast]
theorem fold_no {m : M.Md} {k : Nat} {o : M.Op} (h : m.ops[k]? = some o) (hk : H.isKnown (H.foldTo m k).1 o = false) : (H.foldTo m (k + 1)).1 = (H.foldTo m k).1 ∧ (H.foldTo m (k + 1)).2 = (H.foldTo m k).2 ++ [o] := by
  rw [H.foldTo_step h]
  unfold H.foldStep
  rw [if_neg (by rw [hk]; decide)]
  exact ⟨rfl, rfl⟩
theorem foldTo_md {m : M.Md} {k : Nat} (hk : k ≤ m.ops.length) : (H.foldTo m k).1 = ⟨(H.foldTo m k).1.tensors, m.ops, m.outs⟩ := by
  obtain ⟨h1, h2, -, -⟩ := H.foldTo_ops m k hk
  rw [← h1, ← h2]
theorem fold_md (m : M.Md) : H.fold m = ⟨(H.foldTo m m.ops.length).1.tensors, (H.foldTo m m.ops.length).2, m.outs⟩ := by
  rw [H.fold_eq]
  obtain ⟨h1, h2, -, -⟩ := H.foldTo_ops m m.ops.length (Nat.le_refl _)
  show (⟨(H.foldTo m m.ops.length).1.tensors, (H.foldTo m m.ops.length).2, (H.foldTo m m.ops.length).1.outs⟩ : M.Md) = _
  rw [h2]

set_option maxRecDepth 100000 in
set_option maxHeartbeats 4000000 in
theorem fold_c (m : Nat) (md : M.Md) (C : List (List Int)) (w : World) (h : Mod w m md) (S : H.Sol md C) :
    Calls Tryz.prog 101 #[.pointer (some ⟨m, 0, none⟩)] w fun e w' => e = .returned (.tuple #[]) ∧ Mod w' m (H.fold md) ∧ Below m w w' := by
  obtain ⟨i0, hi, hz0, hz1, hz2⟩ := info_parts Tryz.info142
  have Hz0 := hide hz0
  clear hz0
  have hn1 := S.nt
  have hn2 := S.no
  have HS := hide S
  obtain ⟨a1, c1, a2, c2, a3, c3, hB, hT, hO, hU⟩ := h
  have q1 : w.cell? ⟨m, 1, none⟩ = some (.slice a2 md.ops.length c2) := hB.cell 1
  have hml := hB.lt
  have HB := hide hB
  have HT := hide hT
  have HO := hide hO
  have HU := hide hU
  clear hB hT hO hU S
  go_enter Tryz.func101, Tryz.ntmps101
  go_wp2
  clear q1
  go_loopw [2, 13] (fun v i wr => ∃ k : Nat, k ≤ md.ops.length ∧ i = .int .i64 k ∧ Tns wr (m + 1) (.slice a1 md.tensors.length c1) (H.foldTo md k).1.tensors ∧ Ops2 wr w.heap.size (m + 1) v (H.foldTo md k).2 ∧ w.grownBy wr (Value.slice a1 md.tensors.length c1).ownBlock) (fun _ i _ => md.ops.length - (intOf i).toNat)
  case atStart => exact ⟨0, Nat.zero_le _, rfl, HT.out, Ops2.nil _ _ _, World.grownBy.refl _ _⟩
  case round =>
    obtain ⟨k, hk, rfl, hTk, hLk, hgk⟩ := hrel
    obtain ⟨-, -, hl3, hl4⟩ := H.foldTo_ops md k hk
    have HMk := hide (mod_of HB.out HT.out HO.out HU.out hl3 hTk hgk)
    have HMe := hide (foldTo_md hk)
    have hszk := hgk.size
    by_cases hlt : k < md.ops.length
    · obtain ⟨o, ho⟩ : ∃ o, md.ops[k]? = some o := ⟨_, List.getElem?_eq_getElem hlt⟩
      obtain ⟨g, ao, p, cp, rfl, hgl, -, hSc, hR⟩ := (ops_of HT.out HO.out hgk).get k o ho
      rw [← HMe.out] at HMk
      have HSo := hide (fun hkn => H.foldTo_finds HS.out ho hkn)
      have Hyes := hide (fun hkn (q : Nat) hq (t : M.Tn) ht => fold_yes (q := q) (t := t) ho hkn hq ht)
      have Hno := hide (fun hkn => fold_no ho hkn)
      have Hto := hide (HS.out.to o (List.mem_of_getElem? ho))
      have HLo := hide hLk
      have HTo := hide hTk
      have HGk := hide hgk
      clear hLk hTk hgk ho
      obtain ⟨mk, Hmk⟩ : ∃ mk, Hid ((H.foldTo md k).1 = mk) := ⟨_, rfl⟩
      obtain ⟨L, HL⟩ : ∃ L, Hid ((H.foldTo md k).2 = L) := ⟨_, rfl⟩
      rw [Hmk.out] at HMk HSo Hyes Hno HTo hl3
      rw [HL.out] at HLo Hyes Hno hl4
      have HBo := hide (Blk.new wr 142 (oval o (.slice ao p cp)))
      have HG1 := hide (World.grownBy_alloc wr (.cells (oval o (.slice ao p cp)) 142) none)
      have HSc := hide hSc
      clear hSc
      go_wp2_with (first | (refine wpList_load_mid rfl 142 _ rfl g (k * 16) rfl (oval o (.slice ao p cp)).toList _ hR Tryz.underlying142 rfl Tryz.size142 ?_) | (refine wpList_store_row rfl 142 _ _ rfl wr.heap.size (oval o (.slice ao p cp)) rfl rfl 142 (o16 0 0 0 0 0 0 0 0 false (.slice none 0 0) 0 0 0 0 0 0) (Blk.new wr 142 _) Tryz.size142 rfl (one16 ..) ?_; rw [World.setRow_alloc_new]; generalize wr.alloc (.cells (oval o (.slice ao p cp)) 142) = w3 at *) | (refine wpList_load_row rfl 142 _ rfl wr.heap.size rfl 142 (oval o (.slice ao p cp)) (0, 0) _ HBo.out Tryz.underlying142 rfl Tryz.size142 ?_))
      refine (isKnown_c m mk o ao p cp _ (HMk.out.kept0 HG1.out) (by omega)).mono ?_
      rintro e w4 ⟨rfl, hg4⟩
      have HG4 := hide (gr_trans HG1.out hg4)
      have HB4 := hide (HBo.out.kept hg4 (by simp))
      clear hg4 hR HBo HG1
      cases hkn : H.isKnown mk o with
      | false =>
        have HN := hide (Hno.out hkn)
        obtain ⟨ps, q1, q2, q3⟩ := HLo.out.kept0 HG4.out
        have hsz4 := HG4.out.size
        clear hkn
        go_wp2_with (first | (refine wpList_load_row rfl 142 _ rfl wr.heap.size rfl 142 #[.int .i64 o.kind, .int .i64 o.a, .int .i64 o.b, .int .i64 o.weights, .int .i64 o.biases, .int .i64 o.to, .int .i64 o.size, .int .i64 o.stride, .bool o.same, .slice ao p cp, .int .i64 o.lo, .int .i64 o.hi, .int .i64 o.above, .int .i64 o.below, .int .i64 o.left, .int .i64 o.right] (0, 0) _ HB4.out Tryz.underlying142 rfl Tryz.size142 ?_) | (at_builtin; refine wpList_append_own _ rfl _ _ 137 rfl w.heap.size 142 i0 (.agg (o16 0 0 0 0 0 0 0 0 false (.slice none 0 0) 0 0 0 0 0 0)) 16 144 Tryz.underlying137 hi Hz0.out hz1 hz2 rfl (by decide) _ _ _ rfl (q2.alloc _) ⟨w4.heap.size, 0, none⟩ 1 1 (oval o (.slice ao p cp)).toList rfl rfl ?c1 ?c2 ?c3 ?c4 ?c5 ?_))
        case c1 => exact news_at1 w4 142 (oval o (.slice ao p cp))
        case c2 => intro u hu; simp [oval] at hu; rcases hu with rfl | rfl | rfl | rfl | rfl | rfl | rfl | rfl | rfl | rfl | rfl | rfl | rfl | rfl | rfl | rfl <;> rfl
        case c3 => unfold maxLen; omega
        case c4 => omega
        case c5 => simp; omega
        intro v' w5 hown' hgrow _
        have hga := gr_trans (World.grownBy_alloc w4 _ _) hgrow
        have hT5 := Ops2.snoc q1 q2 q3 (owns_kept0 HSc.out HG4.out) hga hown'
        have hlt5 := owns_row_lt q2
        have HTs := hide ((HTo.out.kept0 HG4.out).grow q2 (by decide) (by decide) hga)
        have HG5 : Hid (w.grownBy w5 (Value.slice a1 md.tensors.length c1).ownBlock) := gr_own (gr_trans HGk.out (gr_none HG4.out)) hga hlt5
        have HT5 := hide hT5
        clear hown' hgrow hga q2 q3 hT5 hlt5
        go_wp2
        go_roundw
        case rel => exact ⟨k + 1, by omega, by go_num, by rw [HN.out.1]; exact HTs.out, by rw [HN.out.2]; exact HT5.out, HG5.out⟩
        case measure => simp [intOf]; omega
      | true =>
        have HF := hide (HSo.out hkn)
        have HY := hide (Hyes.out hkn)
        clear hkn
        have k1 : w4.cell? ⟨wr.heap.size, 1, none⟩ = some (.int .i64 o.a) := HB4.out.cell 1
        have HM4 := hide (HMk.out.kept0 HG4.out)
        go_wp2_with fail
        refine (tensorD_c m mk o.a w4 _ HM4.out (World.grownBy.refl _ _) (by omega)).mono ?_
        rintro e w5 ⟨ta, hta, ⟨aa, ca, rfl, hIa⟩, hg5⟩
        have HG5 := hide (gr_trans hg5 (World.grownBy_alloc w5 (.cells #[.int .i64 ta.kind, .int .i64 ta.h, .int .i64 ta.w, .int .i64 ta.c, .int .i64 ta.zero, .slice aa ta.data.length ca] 158) none))
        have k2 : w5.cell? ⟨wr.heap.size, 2, none⟩ = some (.int .i64 o.b) := (HB4.out.kept hg5 (by simp)).cell 2
        have hlt5 : wr.heap.size < w5.heap.size := (HB4.out.kept hg5 (by simp)).lt
        have HIa := hide hIa
        clear k1 hIa hg5
        go_wp2_with fail
        refine (tensorD_c m mk o.b w4 _ HM4.out HG5.out (by omega)).mono ?_
        rintro e w6 ⟨tb, htb, ⟨ab, cb, rfl, hIb⟩, hg6⟩
        have HG6 := hide (gr_trans (gr_trans HG5.out hg6) (World.grownBy_alloc w6 (.cells #[.int .i64 tb.kind, .int .i64 tb.h, .int .i64 tb.w, .int .i64 tb.c, .int .i64 tb.zero, .slice ab tb.data.length cb] 158) none))
        have HB6 := hide (HB4.out.kept HG6.out (by simp))
        have s5 : w6.cell? ⟨w5.heap.size, 5, none⟩ = some (.slice aa ta.data.length ca) := ((Blk.new w5 158 #[.int .i64 ta.kind, .int .i64 ta.h, .int .i64 ta.w, .int .i64 ta.c, .int .i64 ta.zero, .slice aa ta.data.length ca]).kept hg6 (by simp)).cell 5
        have hlt6 : wr.heap.size < w6.heap.size := by have := hg6.size; simp at this; omega
        have hs56 : w5.heap.size < w6.heap.size := by have := hg6.size; simp at this; omega
        have HIb := hide hIb
        have HF2 := HF.out
        rw [hta.out, htb.out] at HF2
        have HFF := hide HF2
        rw [hta.out, htb.out] at HY
        have HC := hide (make_c m mk o ao p cp aa ta.data.length ca ta.data ab tb.data.length cb tb.data _ (HM4.out.kept0 HG6.out) (by omega) (owns_mono (owns_kept0 (owns_kept0 HSc.out HG4.out) HG6.out) (Nat.zero_le _)) (HIa.out.kept0 HG6.out).row (HIb.out.kept0 HG6.out).row HFF.out)
        clear k2 hIb hg6 HF2 HF HFF
        go_wp2_with (refine wpList_load_row rfl 142 _ rfl wr.heap.size rfl 142 (oval o (.slice ao p cp)) (0, 0) _ HB6.out Tryz.underlying142 rfl Tryz.size142 ?_)
        refine HC.out.mono ?_
        rintro e w8 ⟨⟨g8, c8, rfl, hI8⟩, hg8⟩
        have HG8 := hide (gr_trans (gr_trans HG4.out HG6.out) hg8)
        have HB8 := hide (HB6.out.kept hg8 (by simp))
        obtain ⟨t0, t1, t3⟩ := Hto.out
        obtain ⟨q, hq⟩ := Int.eq_ofNat_of_zero_le t0
        have hql : q < md.tensors.length := by omega
        obtain ⟨t, ht⟩ : ∃ t, mk.tensors[q]? = some t := ⟨_, List.getElem?_eq_getElem (by omega)⟩
        have k5 : w8.cell? ⟨wr.heap.size, 5, none⟩ = some (.int .i64 (q : Int)) := by rw [← hq]; exact HB8.out.cell 5
        have HYY := hide (HY.out q hq t ht)
        have hTr := HTo.out
        obtain ⟨psr, r1, r2, r3⟩ := hTr
        obtain ⟨gt, cur, rfl, -, hbt, hBt, -⟩ := owns_blk r2 (by rw [hl3]; omega)
        have hgtl := hBt.lt
        have HT8 := hide (HTo.out.kept0 HG8.out)
        have HBt := hide (hBt.kept HG8.out (by simp))
        obtain ⟨gt', ao', m', cp', e', -, -, -, x0, -, -, -, -, x5⟩ := HT8.out.get q t ht
        simp only [Option.some.injEq, Addr.mk.injEq, and_true] at e'
        subst e'
        have q0 : w8.cell? ⟨m, 0, none⟩ = some (.slice (some ⟨gt, 0, none⟩) md.tensors.length c1) := by
          refine Blk.cell (HB.out.kept (gr_trans HGk.out (gr_none HG8.out)) ?_) 0
          intro e; simp [Value.ownBlock] at e; omega
        have fx0 := HBt.out.free (q * 6)
        have fx5 := HBt.out.free (q * 6 + 5)
        have HI8 := hide (hI8.mono (show m + 1 ≤ _ by have := HG6.out.size; have := HG4.out.size; omega))
        have HL8 := hide (HLo.out.kept0 HG8.out)
        generalize O.make mk o ta.data tb.data = made at *
        clear s5 hg8 hI8 HC r2 r3 hBt t0 t1 t3 hq HB6 HIa HIb HG5 HG6
        have hd1 : decide ((0 : Int) ≤ (q : Int)) = true := by simp
        have hd2 : decide ((q : Int) < (md.tensors.length : Int)) = true := by simp; omega
        go_wp2
        go_quiet (fail)
        obtain ⟨wq, hwq⟩ : ∃ wq, wq = w8.drewN nq := ⟨_, rfl⟩
        rw [← hwq]
        have hgq : w8.grownBy wq none := by rw [hwq]; exact gr_drewN _ _ _
        clear hwq
        have y0 := cell_kept hgq x0
        have y5 := cell_kept hgq x5
        have y1 := cell_kept hgq q0
        have y2 := cell_kept hgq k5
        have HBq := hide (HBt.out.kept hgq (by simp))
        have fy0 := HBq.out.free (q * 6)
        have fy5 := HBq.out.free (q * 6 + 5)
        have HTq := hide (HT8.out.kept0 hgq)
        have HLq := hide (HL8.out.kept0 hgq)
        have HIq := hide (HI8.out.kept0 hgq)
        have HGq := hide (gr_trans HGk.out (gr_none (gr_trans HG8.out hgq)))
        have hmt : m ≠ gt := by omega
        have hwt : wr.heap.size ≠ gt := by omega
        clear x0 x5 q0 k5 fx0 fx5 HBt HT8 HL8 HI8 hgq HG8
        go_wp2
        go_still_tail 6, (by kernel_rfl)
        show wpList _ _ _ _ _ wq.drew
        have hgd := gr_drew wq none
        have z0 := cell_kept hgd y0
        have z5 := cell_kept hgd y5
        have z1 := cell_kept hgd y1
        have z2 := cell_kept hgd y2
        have HBd := hide (HBq.out.kept hgd (by simp))
        have fz0 := HBd.out.free (q * 6)
        have HTd := hide (HTq.out.kept0 hgd)
        have HLd := hide (HLq.out.kept0 hgd)
        have HId := hide (HIq.out.kept0 hgd)
        have HGd := hide (gr_trans HGq.out (gr_none hgd))
        clear y0 y5 y1 y2 fy0 fy5 HBq HTq HLq HIq HGq hgd
        generalize wq.drew = wd at *
        have HPs : Hid (Tns (wd.setCell ⟨gt, q * 6, none⟩ (.int .i64 1)) (m + 1) (.slice (some ⟨gt, 0, none⟩) md.tensors.length c1) (mk.tensors.set q { t with kind := 1 })) := HTd.out.put ht 0 (by decide) (.int .i64 1) id (fun _ => rfl) (fun _ h => h)
        have hgs := gr_set wd gt (q * 6) (.int .i64 1)
        have HLs := hide (HLd.out.apart HBd.out (by decide) (by decide) hgs)
        have HIs := hide (HId.out.apartT HBd.out (by decide) hgs)
        have HGs := hide (gr_trans HGd.out (show wd.grownBy _ (Value.slice (some ⟨gt, 0, none⟩) md.tensors.length c1).ownBlock from hgs))
        have HBs := hide (HBd.out.set (q * 6) (.int .i64 1))
        have v5 : (wd.setCell ⟨gt, q * 6, none⟩ (.int .i64 1)).cell? ⟨gt, q * 6 + 5, none⟩ = some (.slice ao' m' cp') := by
          rw [HBs.out.cell, Array.getElem?_setIfInBounds, if_neg (by omega), ← HBd.out.cell]; exact z5
        have v1 := cell_other hgs z1 (by simpa using hmt)
        have v2 := cell_other hgs z2 (by simpa using hwt)
        have hgs2 := hide hgs
        clear hgs HLd HId HGd HTd z5 z1 z2
        go_wp2
        clear z0 fz0
        generalize wd.setCell ⟨gt, q * 6, none⟩ (.int .i64 1) = we at *
        have fv5 := HBs.out.free (q * 6 + 5)
        go_still_tail 7, (by kernel_rfl)
        show wpList _ _ _ _ _ we.drew
        have hgd := gr_drew we none
        have z5 := cell_kept hgd v5
        have HBd2 := hide (HBs.out.kept hgd (by simp))
        have fz5 := HBd2.out.free (q * 6 + 5)
        have HTd := hide (HPs.out.kept0 hgd)
        have HLd := hide (HLs.out.kept0 hgd)
        have HId := hide (HIs.out.kept0 hgd)
        have HGd := hide (gr_trans HGs.out (gr_none hgd))
        clear v5 v1 v2 fv5 HBs HPs HLs HIs HGs hgd hgs2 HBd
        generalize we.drew = wf at *
        have ht2 : (mk.tensors.set q { t with kind := 1 })[q]? = some { t with kind := 1 } := by rw [List.getElem?_set, if_pos rfl, if_pos (by omega)]
        have HPf : Hid (Tns (wf.setCell ⟨gt, q * 6 + 5, none⟩ (.slice (some ⟨g8, 0, none⟩) made.length c8)) (m + 1) (.slice (some ⟨gt, 0, none⟩) md.tensors.length c1) ((mk.tensors.set q { t with kind := 1 }).set q { t with kind := 1, data := made })) := HTd.out.put ht2 5 (by decide) (.slice (some ⟨g8, 0, none⟩) made.length c8) (fun _ => .slice (some ⟨g8, 0, none⟩) made.length c8) (fun _ => rfl) (fun _ _ => HId.out)
        have hgs := gr_set wf gt (q * 6 + 5) (.slice (some ⟨g8, 0, none⟩) made.length c8)
        have HLf := hide (HLd.out.apart HBd2.out (by decide) (by decide) hgs)
        have HGf := hide (gr_trans HGd.out (show wf.grownBy _ (Value.slice (some ⟨gt, 0, none⟩) md.tensors.length c1).ownBlock from hgs))
        clear hgs HTd HLd HId HGd ht2 ht
        go_wp2
        go_roundw
        case rel => exact ⟨k + 1, by omega, by go_num, by rw [HYY.out.1]; have e := HPf.out; rw [List.set_set] at e; exact e, by rw [HYY.out.2]; exact HLf.out, HGf.out⟩
        case measure => simp [intOf]; omega
    · obtain rfl : k = md.ops.length := by omega
      have HF := hide (fold_md md)
      obtain ⟨la, lc, rfl⟩ := hLk.shape
      have HMs := hide (Mod.setOps HMk.out (hLk.ops (by omega)))
      have HM1 := HMk.out
      obtain ⟨b1, d1, b2, d2, b3, d3, hB, -⟩ := HM1
      have q1 : wr.cell? ⟨m, 1, none⟩ = some (.slice b2 md.ops.length d2) := hB.cell 1
      have f1 := hB.free 1
      have HBl := hide (below_trans (below_row HT.out hml hgk) (below_of (gr_set wr m 1 (.slice la (H.foldTo md md.ops.length).2.length lc)) (Nat.le_refl m) (by omega)))
      clear hgk hLk hB hTk HMk HMe
      generalize (H.foldTo md md.ops.length).2 = L at *
      go_wp2
      go_end0
      exact ⟨rfl, by rw [HF.out]; exact HMs.out, HBl.out⟩

end Go.Proofs.YtcnhfffgbamonaaGreat

/-
  shrink: forget.
-/
namespace Go.Proofs.YtcnhfffgbamonaaGreat
open Go.RowKit

set_option maxRecDepth 100000 in
set_option maxHeartbeats 2000000 in
theorem forget_c (m : Nat) (md : M.Md) (w : World) (h : Mod w m md) (hn0 : md.tensors.length ≤ 255) (hn1 : md.ops.length ≤ 255) (hn2 : md.outs.length ≤ 255) :
    Calls Tryz.prog 104 #[.pointer (some ⟨m, 0, none⟩)] w fun e w' => e = .returned (.tuple #[]) ∧ Mod w' m (H.forget md) ∧ Below m w w' := by
  obtain ⟨a1, c1, a2, c2, a3, c3, hB, hT, hO, hU⟩ := h
  have q0 : w.cell? ⟨m, 0, none⟩ = some (.slice a1 md.tensors.length c1) := hB.cell 0
  have hml := hB.lt
  have HB := hide hB
  have HT := hide hT
  have HO := hide hO
  have HU := hide hU
  clear hB hT hO hU
  go_enter Tryz.func104, Tryz.ntmps104
  go_wp2
  clear q0
  go_loopw [9] (fun i wr => ∃ k : Nat, k ≤ md.tensors.length ∧ i = .int .i64 k ∧ Tns wr (m + 1) (.slice a1 md.tensors.length c1) (H.forgetTo md k) ∧ w.grownBy wr (Value.slice a1 md.tensors.length c1).ownBlock) (fun i _ => md.tensors.length - (intOf i).toNat)
  case atStart => exact ⟨0, Nat.zero_le _, rfl, by rw [H.forgetTo_zero]; exact HT.out, World.grownBy.refl _ _⟩
  case round =>
    obtain ⟨k, hk, rfl, hTk, hgk⟩ := hrel
    have hlF : (H.forgetTo md k).length = md.tensors.length := by unfold H.forgetTo; rw [List.length_mapIdx]
    have HMk := hide (mod_of HB.out HT.out HO.out HU.out hlF hTk hgk)
    have HTk := hide hTk
    have HGk := hide hgk
    have hszk := hgk.size
    clear hgk
    by_cases hlt : k < md.tensors.length
    · obtain ⟨t, ht⟩ : ∃ t, md.tensors[k]? = some t := ⟨_, List.getElem?_eq_getElem hlt⟩
      have HC := hide (uses_c m ⟨H.forgetTo md k, md.ops, md.outs⟩ k wr HMk.out hn1 hn2)
      have HU : Hid (H.uses ⟨H.forgetTo md k, md.ops, md.outs⟩ k = H.uses md k) := rfl
      rw [HU.out] at HC
      obtain ⟨g, ao, m', cp, rfl, -, hgb, -, -, -, -, -, -, d5⟩ := hTk.get k t (H.forgetTo_get ht)
      clear hTk
      go_wp2_with fail
      refine HC.out.mono ?_
      rintro e w1 ⟨rfl, hg1⟩
      have HT1 := hide (HTk.out.kept0 hg1)
      have HG1 := hide (gr_trans HGk.out (gr_none hg1))
      have d5' := cell_kept hg1 d5
      have hBm := HMk.out.kept0 hg1
      obtain ⟨b1, e1, _, _, _, _, hBm', -⟩ := hBm
      have hbm := HB.out.kept (gr_trans HGk.out (gr_none hg1)) (by intro e; simp [Value.ownBlock] at e; omega)
      have q1 : w1.cell? ⟨m, 0, none⟩ = some (.slice (some ⟨g, 0, none⟩) md.tensors.length c1) := hbm.cell 0
      clear hg1 d5 HC hBm' hbm
      by_cases hu : H.uses md k = 0
      · have HS := hide (H.forgetTo_yes ht hu)
        have hu' : ((H.uses md k : Int) == 0) = true := by simp [hu]
        obtain ⟨ps, r1, r2, r3⟩ := HT1.out
        obtain ⟨g', cur, e', -, -, hBg, -⟩ := owns_blk r2 (by rw [hlF]; omega)
        simp only [Option.some.injEq, Addr.mk.injEq, and_true] at e'
        subst e'
        have f5 := hBg.free (k * 6 + 5)
        have HP := hide (HT1.out.put (H.forgetTo_get ht) 5 (by decide) (.slice none 0 0) (fun _ => .slice none 0 0) (t' := { t with data := [] }) (fun _ => rfl) (fun _ _ => Ints.nil _ _))
        have HG2 := hide (gr_trans HG1.out (gr_set w1 g (k * 6 + 5) (.slice none 0 0)))
        clear r2 r3 hBg hu ht
        generalize H.uses md k = un at *
        go_wp2
        go_roundw
        case rel => exact ⟨k + 1, by omega, by go_num, by rw [HS.out]; exact HP.out, HG2.out⟩
        case measure => simp [intOf]; omega
      · have HS := hide (H.forgetTo_no hu)
        have hu' : ((H.uses md k : Int) == 0) = false := by simp [hu]
        clear hu ht
        generalize H.uses md k = un at *
        go_wp2
        go_roundw
        case rel => exact ⟨k + 1, by omega, by go_num, by rw [HS.out]; exact HT1.out, HG1.out⟩
        case measure => simp [intOf]; omega
    · obtain rfl : k = md.tensors.length := by omega
      have HF := hide (H.forgetTo_all md)
      have HBl := hide (below_row HT.out hml HGk.out)
      clear hTk
      go_wp2
      go_end0
      exact ⟨rfl, by rw [← HF.out]; exact HMk.out, HBl.out⟩

end Go.Proofs.YtcnhfffgbamonaaGreat
