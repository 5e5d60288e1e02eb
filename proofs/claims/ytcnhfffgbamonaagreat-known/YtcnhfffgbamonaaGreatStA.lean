import Derived.Test.YtcnhfffgbamonaaGreatOp11
import Derived.Deep.RegionWith
/-
  plan: buffersOf, Steps.
-/
namespace Go.Proofs.YtcnhfffgbamonaaGreat
open Go.RowKit

theorem map_set_int (xs : List Int) (k : Nat) (v : Int) : ((xs.map (Value.int .i64)).toArray).setIfInBounds k (.int .i64 v) = ((xs.set k v).map (Value.int .i64)).toArray := by simp [List.map_set]
/-- The first k of a list turned, then noughts. -/
def fillTo (f : Int → Int) (ns : List Int) (k : Nat) : List Int := (ns.take k).map f ++ List.replicate (ns.length - k) 0
theorem fillTo_zero (f : Int → Int) (ns : List Int) : fillTo f ns 0 = List.replicate ns.length 0 := by simp [fillTo]
theorem fillTo_all (f : Int → Int) (ns : List Int) : fillTo f ns ns.length = ns.map f := by simp [fillTo]
theorem fillTo_len (f : Int → Int) (ns : List Int) (k : Nat) (h : k ≤ ns.length) : (fillTo f ns k).length = ns.length := by simp [fillTo]; omega
theorem fillTo_step {f : Int → Int} {ns : List Int} {k : Nat} {x : Int} (h : ns[k]? = some x) : (fillTo f ns k).set k (f x) = fillTo f ns (k + 1) := by
  have hl := M.lt_of_some h
  unfold fillTo
  rw [H.take_snoc h, List.set_append_right _ _ (by simp; omega)]
  have e : k - ((ns.take k).map f).length = 0 := by simp; omega
  rw [e, show ns.length - k = (ns.length - (k + 1)) + 1 by omega, List.replicate_succ]
  simp

set_option maxRecDepth 100000 in
set_option maxHeartbeats 1600000 in
theorem buffersOf_c (p : Nat) (md : M.Md) (B : Nat) (a : Option Addr) (n c : Nat) (ns : List Int) (w : World) (hP : Pl w p md) (hI : Ints w B (.slice a n c) ns) (hn : ns.length ≤ 255) :
    Calls Tryz.prog 134 #[.pointer (some ⟨p, 0, none⟩), .slice a n c] w fun e w' => e = .returned (own w.heap.size (ns.map (bufI md))) ∧ Blk w' w.heap.size 3 ((ns.map (bufI md)).map (Value.int .i64)).toArray ∧ w.grownBy w' none := by
  obtain rfl := hI.len
  obtain ⟨j0, hj, hy0, hy1, hy2⟩ := info_parts Tryz.info3
  have HP := hide hP
  have HI := hide hI
  clear hP hI
  go_enter Tryz.func134, Tryz.ntmps134
  go_wp2_with (at_make; refine wpList_make_full _ rfl _ _ 33 rfl w.heap.size 3 j0 (.int .i64 0) 1 Tryz.underlying33 hj hy0 hy1 _ _ _ _ ns.length rfl rfl rfl rfl ?c1 ?c2 ?c3 ?_)
  case c1 => rw [hy2]; omega
  case c2 => unfold maxLen; omega
  case c3 => exact Nat.le_refl _
  intro w2 hown hg2
  have hB2 : Blk w2 w.heap.size 3 ((fillTo (bufI md) ns 0).map (Value.int .i64)).toArray := by
    rw [fillTo_zero, List.map_replicate]; exact made_blk hown
  clear hown
  go_wp2
  go_loopw [13] (fun i wr => ∃ k : Nat, k ≤ ns.length ∧ i = .int .i64 k ∧ Blk wr w.heap.size 3 ((fillTo (bufI md) ns k).map (Value.int .i64)).toArray ∧ w.grownBy wr none) (fun i _ => ns.length - (intOf i).toNat)
  case atStart => exact ⟨0, Nat.zero_le _, rfl, hB2, hg2⟩
  case round =>
    clear hB2 hg2
    obtain ⟨k, hk, rfl, hBk, hgk⟩ := hrel
    by_cases hlt : k < ns.length
    · obtain ⟨x, hx⟩ : ∃ x, ns[k]? = some x := ⟨_, List.getElem?_eq_getElem hlt⟩
      obtain ⟨g, rfl, -, -, d0⟩ := (HI.out.kept0 hgk).get k x hx
      have HC := hide (bufferOf_c p md x wr (HP.out.kept0 hgk))
      have HS := hide (fillTo_step (f := bufI md) hx)
      have hl := fillTo_len (bufI md) ns k hk
      obtain ⟨b, Hb⟩ : ∃ b, Hid (bufI md x = b) := ⟨_, rfl⟩
      rw [Hb.out] at HC HS
      obtain ⟨v0, hv0⟩ : ∃ v0, (fillTo (bufI md) ns k)[k]? = some v0 := ⟨_, List.getElem?_eq_getElem (by omega)⟩
      have c0 : wr.cell? ⟨w.heap.size, k, none⟩ = some (.int .i64 v0) := by rw [hBk.cell k]; simp [hv0]
      have f0 := hBk.free k
      have HB2 := hide (hBk.set k (.int .i64 b))
      rw [map_set_int, HS.out] at HB2
      have HG2 := hide (gr_new hgk (gr_set wr w.heap.size k (.int .i64 b)) (Nat.le_refl _))
      have hwl := hBk.lt
      clear hx hBk hgk hv0 hl
      go_wp2_with fail
      refine HC.out.mono ?_
      rintro e w3 ⟨rfl, rfl⟩
      clear HC
      go_wp2
      go_roundw
      case rel => exact ⟨k + 1, by omega, by go_num, HB2.out, HG2.out⟩
      case measure => simp [intOf]; omega
    · obtain rfl : k = ns.length := by omega
      rw [fillTo_all] at hBk
      have HBk := hide hBk
      have HGk := hide hgk
      have Ho : Hid (own w.heap.size (ns.map (bufI md)) = .slice (some ⟨w.heap.size, 0, none⟩) ns.length ns.length) := by unfold Hid own; rw [List.length_map]
      clear hBk hgk
      go_wp2
      go_ret
      exact ⟨by rw [Ho.out]; rfl, HBk.out, HGk.out⟩

/-- A step as it is told. -/
structure Sp where
  kind : Int
  frm : List Int
  to : Int
def spOf (md : M.Md) (o : M.Op) : Sp := ⟨o.kind, (H.readsL o).map (bufI md), bufI md o.to⟩
def stepsOf (md : M.Md) : List Sp := (pM md).ops.map (spOf md)
def spval (g : Nat) (s : Sp) : List Value := [.int .i64 s.kind, own g s.frm, .int .i64 s.to]
def spz : List Value := [.int .i64 0, .slice none 0 0, .int .i64 0]
def spCells (gs : List Nat) (ss : List Sp) (n : Nat) : List Value := (List.zipWith spval gs ss).flatten ++ (List.replicate n spz).flatten

theorem flat3_len : ∀ (gs : List Nat) (ss : List Sp), gs.length = ss.length → (List.zipWith spval gs ss).flatten.length = gs.length * 3
  | [], [], _ => rfl
  | g :: gs, s :: ss, h => by
    have ih := flat3_len gs ss (by simpa using h)
    rw [List.zipWith_cons_cons, List.flatten_cons, List.length_append, ih, List.length_cons]
    show 3 + _ = _; omega
  | [], _ :: _, h => absurd h (by simp)
  | _ :: _, [], h => absurd h (by simp)
theorem spCells_len {gs : List Nat} {ss : List Sp} {n : Nat} (h : gs.length = ss.length) : (spCells gs ss n).length = (gs.length + n) * 3 := by
  unfold spCells
  rw [List.length_append, flat3_len gs ss h]
  have : (List.replicate n spz).flatten.length = n * 3 := by simp [spz]
  rw [this]; omega
theorem spCells_get {gs : List Nat} {ss : List Sp} {n : Nat} (h : gs.length = ss.length) (hn : 0 < n) (j : Nat) (hj : j < 3) : (spCells gs ss n)[gs.length * 3 + j]? = spz[j]? := by
  unfold spCells
  rw [List.getElem?_append_right (by rw [flat3_len gs ss h]; omega), flat3_len gs ss h, Nat.add_sub_cancel_left]
  obtain ⟨n, rfl⟩ : ∃ k, n = k + 1 := ⟨n - 1, by omega⟩
  rw [List.replicate_succ, List.flatten_cons, List.getElem?_append_left (by simpa [spz] using hj)]
theorem spCells_set {gs : List Nat} {ss : List Sp} {n g : Nat} {s : Sp} (h : gs.length = ss.length) :
    (((spCells gs ss (n + 1)).set (gs.length * 3) (.int .i64 s.kind)).set (gs.length * 3 + 1) (own g s.frm)).set (gs.length * 3 + 2) (.int .i64 s.to) = spCells (gs ++ [g]) (ss ++ [s]) n := by
  unfold spCells
  have hl := flat3_len gs ss h
  rw [List.zipWith_append h, List.replicate_succ, List.flatten_cons, List.flatten_append]
  generalize (List.zipWith spval gs ss).flatten = A at *
  generalize (List.replicate n spz).flatten = Z at *
  have e : ∀ (X : List Value) (j : Nat) (v : Value), (A ++ X).set (gs.length * 3 + j) v = A ++ X.set j v := fun X j v => by
    rw [List.set_append_right _ _ (by omega), hl, Nat.add_sub_cancel_left]
  have e0 := e (spz ++ Z) 0 (.int .i64 s.kind)
  rw [Nat.add_zero] at e0
  rw [e0, e, e]
  simp [spz, spval]

/-- Steps that were just told: the outer list in block G, what they read in blocks gs, all of their own. -/
structure FreshS (w : World) (B G : Nat) (gs : List Nat) (ss : List Sp) : Prop where
  len : gs.length = ss.length
  out : Blk w G 152 ((List.zipWith spval gs ss).flatten).toArray
  base : B ≤ G
  sorted : gs.Pairwise (· < ·)
  above : ∀ g ∈ gs, G < g
  blk : ∀ (i : Nat) g s, gs[i]? = some g → ss[i]? = some s → Blk w g 3 (s.frm.map (Value.int .i64)).toArray

theorem Tryz.info152 : (Tryz.prog.info? 152).map (fun i => (i.zero, i.size, i.bytes)) = some (some (.agg #[.int .i64 0, .slice none 0 0, .int .i64 0]), 3, 40) := by kernel_rfl

end Go.Proofs.YtcnhfffgbamonaaGreat

/-
  plan: Steps; the laws' own steps.
-/
namespace Go.Proofs.YtcnhfffgbamonaaGreat
open Go.RowKit

theorem arr_set3 (xs : List Value) (i : Nat) (a b c : Value) : (((xs.toArray.setIfInBounds i a).setIfInBounds (i + 1) b).setIfInBounds (i + 2) c) = (((xs.set i a).set (i + 1) b).set (i + 2) c).toArray := by simp
theorem made_steps (n : Nat) : (madeCells #[.int .i64 0, .slice none 0 0, .int .i64 0] (n * 3)).toList = (List.replicate n spz).flatten := by
  apply List.ext_getElem?
  intro i
  have hfl : ∀ n : Nat, (List.replicate n spz).flatten = (List.replicate n ()).flatMap fun _ => spz := by
    intro n
    induction n with
    | zero => rfl
    | succ n ih => rw [List.replicate_succ, List.flatten_cons, ih, List.replicate_succ, List.flatMap_cons]
  rw [hfl]
  by_cases h : i < n * 3
  · have e1 := flat_get (fun _ : Unit => spz) 3 (fun _ => rfl) (List.replicate n ()) (i / 3) (i % 3) () (by rw [List.getElem?_replicate, if_pos (by omega)]) (by omega)
    rw [show i / 3 * 3 + i % 3 = i by omega] at e1
    rw [e1]
    rcases (show i % 3 = 0 ∨ i % 3 = 1 ∨ i % 3 = 2 by omega) with e | e | e <;> rw [e] <;> simp [madeCells, h, spz, e]
  · rw [List.getElem?_eq_none, List.getElem?_eq_none]
    · simp [List.length_flatMap, spz]; omega
    · simp [madeCells]; omega

set_option maxRecDepth 100000 in
set_option maxHeartbeats 4000000 in
theorem steps_c (p : Nat) (md : M.Md) (w : World) (hP : Pl w p md) :
    Calls Tryz.prog 96 #[.pointer (some ⟨p, 0, none⟩)] w fun e w' => (∃ G gs, e = .returned (.slice (some ⟨G, 0, none⟩) (pM md).ops.length (pM md).ops.length) ∧ FreshS w' w.heap.size G gs (stepsOf md)) ∧ w.grownBy w' none := by
  obtain ⟨i0, hi, hz0, hz1, hz2⟩ := info_parts Tryz.info152
  have HP := hide hP
  obtain ⟨m, an, cn, ab, cb, -, -, hB, hM, -, -, -, h1⟩ := hP
  obtain ⟨C, S⟩ := sol_pM h1
  have hno := S.no
  have q0 : w.cell? ⟨p, 0, none⟩ = some (.pointer (some ⟨m, 0, none⟩)) := hB.cell 0
  obtain ⟨a1, c1, a2, c2, a3, c3, hBm, -, hO, -⟩ := hM
  have m1 : w.cell? ⟨m, 1, none⟩ = some (.slice a2 (pM md).ops.length c2) := hBm.cell 1
  have HO := hide hO
  have hpl := hB.lt
  have hml := hBm.lt
  have HE : Hid (stepsOf md = (pM md).ops.map (spOf md)) := rfl
  clear hB hBm hO S h1
  generalize hN : (pM md).ops = os at *
  clear hN
  go_enter Tryz.func96, Tryz.ntmps96
  go_wp2_with (at_make; refine wpList_make_full _ rfl _ _ 117 rfl w.heap.size 152 i0 (.agg #[.int .i64 0, .slice none 0 0, .int .i64 0]) 3 Tryz.underlying117 hi hz0 hz1 _ _ _ _ os.length rfl rfl rfl rfl ?c1 ?c2 ?c3 ?_)
  case c1 => rw [hz2]; omega
  case c2 => unfold maxLen; omega
  case c3 => exact Nat.le_refl _
  intro w2 hown hg2
  have hB2 : Blk w2 w.heap.size 152 (spCells [] [] os.length).toArray := by
    rcases hown.2 with ⟨h', _⟩ | ⟨g', cap', cur, h', _, hg, _, _, hz, ht⟩
    · simp at h'
    · simp only [Value.slice.injEq, Option.some.injEq, Addr.mk.injEq, and_true, true_and] at h'
      obtain ⟨rfl, rfl⟩ := h'
      unfold Blk
      rw [hg]
      have e : cur.toList = spCells [] [] os.length := by
        rw [List.take_of_length_le (by simp [hz])] at ht
        rw [ht]
        exact made_steps os.length
      rw [← e]
  have q0' := cell_kept hg2 q0
  have m1' := cell_kept hg2 m1
  clear hown q0 m1
  go_wp2
  clear q0' m1'
  go_loopw [35] (fun i wr => ∃ (k : Nat) (gs : List Nat), k ≤ os.length ∧ i = .int .i64 k ∧ gs.length = k ∧ Blk wr w.heap.size 152 (spCells gs ((os.take k).map (spOf md)) (os.length - k)).toArray ∧ Hid (gs.Pairwise (· < ·)) ∧ Hid (∀ g' ∈ gs, w.heap.size < g' ∧ g' < wr.heap.size) ∧ Hid (∀ (j : Nat) g' s, gs[j]? = some g' → ((os.take k).map (spOf md))[j]? = some s → Blk wr g' 3 (s.frm.map (Value.int .i64)).toArray) ∧ w.grownBy wr none) (fun i _ => os.length - (intOf i).toNat)
  case atStart => exact ⟨0, [], Nat.zero_le _, rfl, rfl, by simpa using hB2, List.Pairwise.nil, fun _ h => absurd h (by simp), fun _ _ _ h => absurd h (by simp), hg2⟩
  case round =>
    clear hB2 hg2
    obtain ⟨k, gs, hk, rfl, hgl, hBk, Hsd, Hab, Hbl, hgk⟩ := hrel
    have HGk := hide hgk
    have hszk := hgk.size
    have hGl := hBk.lt
    have Hlm : Hid (((os.take k).map (spOf md)).length = k) := by unfold Hid; simp; omega
    have Hgl := hide hgl
    by_cases hlt : k < os.length
    · obtain ⟨o, ho⟩ : ∃ o, os[k]? = some o := ⟨_, List.getElem?_eq_getElem hlt⟩
      obtain ⟨g, ao, pp, cp, rfl, hgl', -, -, hR⟩ := (HO.out.kept0 hgk).get k o ho
      have HTk : Hid ((os.take (k + 1)).map (spOf md) = (os.take k).map (spOf md) ++ [spOf md o]) := by unfold Hid; rw [H.take_snoc ho]; simp
      have HBo := hide (Blk.new wr 142 (oval o (.slice ao pp cp)))
      have HG1 := hide (World.grownBy_alloc wr (.cells (oval o (.slice ao pp cp)) 142) none)
      have HBk := hide hBk
      have HL := hide (readsL_len o)
      clear ho hBk hgk hgl
      go_wp2_with (first | (refine wpList_load_mid rfl 142 _ rfl g (k * 16) rfl (oval o (.slice ao pp cp)).toList _ hR Tryz.underlying142 rfl Tryz.size142 ?_) | (refine wpList_store_row rfl 142 _ _ rfl wr.heap.size (oval o (.slice ao pp cp)) rfl rfl 142 (o16 0 0 0 0 0 0 0 0 false (.slice none 0 0) 0 0 0 0 0 0) (Blk.new wr 142 _) Tryz.size142 rfl (one16 ..) ?_; rw [World.setRow_alloc_new]; generalize wr.alloc (.cells (oval o (.slice ao pp cp)) 142) = w3 at *) | (refine wpList_load_row rfl 142 _ rfl wr.heap.size rfl 142 (oval o (.slice ao pp cp)) (0, 0) _ HBo.out Tryz.underlying142 rfl Tryz.size142 ?_))
      refine (reads_o o ao pp cp _).mono ?_
      rintro e w4 ⟨⟨g4, rfl, hI4⟩, hg4⟩
      have hg4' := gr_trans HG1.out hg4
      have HB4 := hide (HBo.out.kept hg4 (by simp))
      have HGw4 := hide (gr_trans HGk.out hg4')
      have HG4 := hide hg4'
      have HC := hide (buffersOf_c p md w3.heap.size (some ⟨g4, 0, none⟩) (H.readsL o).length (H.readsL o).length (H.readsL o) w4 (HP.out.kept0 HGw4.out) hI4 (by have := HL.out; omega))
      clear hg4 hg4' hI4 hR HBo HG1
      go_wp2_with fail
      refine HC.out.mono ?_
      rintro e w5 ⟨rfl, hB5, hg5⟩
      have HB5 := hide hB5
      have hg45 := gr_trans HG4.out hg5
      have HG5 := hide hg45
      have HGw5 := hide (gr_trans HGk.out hg45)
      have hBo5 := HB4.out.kept hg5 (by simp)
      have o5 : w5.cell? ⟨wr.heap.size, 5, none⟩ = some (.int .i64 o.to) := hBo5.cell 5
      have o0 : w5.cell? ⟨wr.heap.size, 0, none⟩ = some (.int .i64 o.kind) := hBo5.cell 0
      have hs4 := HG4.out.size
      have hs5 := HB5.out.lt
      have HCb := hide (bufferOf_c p md o.to w5 (HP.out.kept0 HGw5.out))
      have Hfr : Hid ((spOf md o).frm = (H.readsL o).map (bufI md)) := rfl
      have Hto : Hid ((spOf md o).to = bufI md o.to) := rfl
      have Hki : Hid ((spOf md o).kind = o.kind) := rfl
      obtain ⟨s, Hs⟩ : ∃ s, Hid (spOf md o = s) := ⟨_, rfl⟩
      rw [Hs.out] at Hfr Hto Hki HTk
      rw [← Hfr.out] at HB5 ⊢
      rw [← Hto.out] at HCb
      have Hown : Hid (own w4.heap.size s.frm = .slice (some ⟨w4.heap.size, 0, none⟩) s.frm.length s.frm.length) := rfl
      rw [Hown.out]
      clear hB5 hg5 hg45 HC hBo5 HB4
      go_wp2_with fail
      refine HCb.out.mono ?_
      rintro e w6 ⟨rfl, rfl⟩
      clear HCb
      rw [← Hki.out] at o0
      have hBk6 := HBk.out.kept HG5.out (by simp)
      have c0 : w6.cell? ⟨w.heap.size, k * 3, none⟩ = some (.int .i64 0) := by
        rw [hBk6.cell]
        have e := spCells_get (gs := gs) (ss := (os.take k).map (spOf md)) (n := os.length - k) (by rw [Hlm.out, Hgl.out]) (by omega) 0 (by decide)
        rw [Hgl.out, Nat.add_zero] at e
        simpa [spz] using e
      have c1' : w6.cell? ⟨w.heap.size, k * 3 + 1, none⟩ = some (.slice none 0 0) := by
        rw [hBk6.cell]
        have e := spCells_get (gs := gs) (ss := (os.take k).map (spOf md)) (n := os.length - k) (by rw [Hlm.out, Hgl.out]) (by omega) 1 (by decide)
        rw [Hgl.out] at e
        simpa [spz] using e
      have c2' : w6.cell? ⟨w.heap.size, k * 3 + 2, none⟩ = some (.int .i64 0) := by
        rw [hBk6.cell]
        have e := spCells_get (gs := gs) (ss := (os.take k).map (spOf md)) (n := os.length - k) (by rw [Hlm.out, Hgl.out]) (by omega) 2 (by decide)
        rw [Hgl.out] at e
        simpa [spz] using e
      have f0 := hBk6.free (k * 3)
      have f1 := hBk6.free (k * 3 + 1)
      have f2 := hBk6.free (k * 3 + 2)
      have HB7 : Hid (Blk (((w6.setCell ⟨w.heap.size, k * 3, none⟩ (.int .i64 s.kind)).setCell ⟨w.heap.size, k * 3 + 1, none⟩ (.slice (some ⟨w4.heap.size, 0, none⟩) s.frm.length s.frm.length)).setCell ⟨w.heap.size, k * 3 + 2, none⟩ (.int .i64 s.to)) w.heap.size 152 (spCells (gs ++ [w4.heap.size]) ((os.take (k + 1)).map (spOf md)) (os.length - (k + 1))).toArray) := by
        have e := ((hBk6.set (k * 3) (.int .i64 s.kind)).set (k * 3 + 1) (own w4.heap.size s.frm)).set (k * 3 + 2) (.int .i64 s.to)
        have e2 := spCells_set (gs := gs) (ss := (os.take k).map (spOf md)) (n := os.length - (k + 1)) (g := w4.heap.size) (s := s) (by rw [Hlm.out, Hgl.out])
        rw [show os.length - (k + 1) + 1 = os.length - k by omega, Hgl.out, ← HTk.out] at e2
        rw [arr_set3, e2] at e
        exact e
      have hgs : w6.grownBy (((w6.setCell ⟨w.heap.size, k * 3, none⟩ (.int .i64 s.kind)).setCell ⟨w.heap.size, k * 3 + 1, none⟩ (.slice (some ⟨w4.heap.size, 0, none⟩) s.frm.length s.frm.length)).setCell ⟨w.heap.size, k * 3 + 2, none⟩ (.int .i64 s.to)) (some w.heap.size) := gr_trans (gr_trans (gr_set _ _ _ _) (gr_set _ _ _ _)) (gr_set _ _ _ _)
      have HG7 := hide (gr_new HGw5.out hgs (Nat.le_refl _))
      have hk7 := gr_trans (gr_none (row := some w.heap.size) HG5.out) hgs
      have hsz7 := hgs.size
      have Hab7 : Hid (∀ g' ∈ gs ++ [w4.heap.size], w.heap.size < g' ∧ g' < (((w6.setCell ⟨w.heap.size, k * 3, none⟩ (.int .i64 s.kind)).setCell ⟨w.heap.size, k * 3 + 1, none⟩ (.slice (some ⟨w4.heap.size, 0, none⟩) s.frm.length s.frm.length)).setCell ⟨w.heap.size, k * 3 + 2, none⟩ (.int .i64 s.to)).heap.size) := fun g' hg' => by
        rcases List.mem_append.mp hg' with h' | h'
        · have := Hab.out g' h'; have := hk7.size; omega
        · rw [List.mem_singleton.mp h']; omega
      have Hsd7 : Hid ((gs ++ [w4.heap.size]).Pairwise (· < ·)) := List.pairwise_append.mpr ⟨Hsd.out, List.pairwise_singleton _ _, fun a ha b hb => by
        rw [List.mem_singleton.mp hb]; have := Hab.out a ha; omega⟩
      have Hbl7 : Hid (∀ (j : Nat) g' s', (gs ++ [w4.heap.size])[j]? = some g' → ((os.take (k + 1)).map (spOf md))[j]? = some s' → Blk (((w6.setCell ⟨w.heap.size, k * 3, none⟩ (.int .i64 s.kind)).setCell ⟨w.heap.size, k * 3 + 1, none⟩ (.slice (some ⟨w4.heap.size, 0, none⟩) s.frm.length s.frm.length)).setCell ⟨w.heap.size, k * 3 + 2, none⟩ (.int .i64 s.to)) g' 3 (s'.frm.map (Value.int .i64)).toArray) := fun j g' s' hg' hs' => by
        rw [HTk.out] at hs'
        by_cases cj : j < k
        · rw [List.getElem?_append_left (by rw [Hgl.out]; exact cj)] at hg'
          rw [List.getElem?_append_left (by rw [Hlm.out]; exact cj)] at hs'
          have hb := Hab.out g' (List.mem_of_getElem? hg')
          exact (Hbl.out j g' s' hg' hs').kept hk7 (by simp; omega)
        · rw [List.getElem?_append_right (by rw [Hgl.out]; omega), Hgl.out] at hg'
          rw [List.getElem?_append_right (by rw [Hlm.out]; omega), Hlm.out] at hs'
          have ej : j - k = 0 := by
            rcases Nat.eq_zero_or_pos (j - k) with h' | h'
            · exact h'
            · rw [List.getElem?_eq_none (by simp; omega)] at hg'; exact absurd hg' (by simp)
          rw [ej] at hg' hs'
          simp at hg' hs'
          subst hg' hs'
          exact HB5.out.kept hgs (by simp; omega)
      clear hgs hk7 hBk6 o5 HB5 HBk
      go_wp2
      go_roundw
      case rel => exact ⟨k + 1, gs ++ [w4.heap.size], by omega, by go_num, by simp [Hgl.out], HB7.out, Hsd7.out, Hab7.out, Hbl7.out, HG7.out⟩
      case measure => simp [intOf]; omega
    · obtain rfl : k = os.length := by omega
      have HF : Hid (FreshS wr w.heap.size w.heap.size gs (stepsOf md)) := by
        rw [List.take_length, Nat.sub_self] at hBk
        have e := Hbl.out
        rw [List.take_length, ← HE.out] at e
        rw [← HE.out] at hBk
        exact ⟨by rw [hgl, HE.out, List.length_map], by simpa [spCells] using hBk, Nat.le_refl _, Hsd.out, fun g' hg' => (Hab.out g' hg').1, e⟩
      clear hBk hgk
      go_wp2
      go_ret
      exact ⟨⟨w.heap.size, gs, rfl, HF.out⟩, HGk.out⟩

end Go.Proofs.YtcnhfffgbamonaaGreat
