/-
  plan: buffersOf, Steps.
-/
import Derived.Test.YtcnhfffgbamonabOp11
namespace Go.Proofs.Ytcnhfffgbamonab
open Go.RowKit

theorem map_set_int (xs : List Int) (k : Nat) (v : Int) : ((xs.map (Value.int .i64)).toArray).setIfInBounds k (.int .i64 v) = ((xs.set k v).map (Value.int .i64)).toArray := by simp [List.map_set]
/-- The first k of a list turned, then noughts. -/
def fillTo (f : Int → Int) (ns : List Int) (k : Nat) : List Int := (ns.take k).map f ++ List.replicate (ns.length - k) 0
theorem fillTo_zero (f : Int → Int) (ns : List Int) : fillTo f ns 0 = List.replicate ns.length 0 := by simp [fillTo]
theorem fillTo_all (f : Int → Int) (ns : List Int) : fillTo f ns ns.length = ns.map f := by simp [fillTo]
theorem fillTo_len (f : Int → Int) (ns : List Int) (k : Nat) (h : k ≤ ns.length) : (fillTo f ns k).length = ns.length := by simp [fillTo]; omega
theorem fillTo_step {f : Int → Int} {ns : List Int} {k : Nat} {x : Int} (h : ns[k]? = some x) : (fillTo f ns k).set k (f x) = fillTo f ns (k + 1) := by
  have hl := M.lt_of_some h
  unfold fillTo
  rw [H.take_snoc h, List.set_append_right _ _ (by simp; omega)]
  have e : k - ((ns.take k).map f).length = 0 := by simp; omega
  rw [e, show ns.length - k = (ns.length - (k + 1)) + 1 by omega, List.replicate_succ]
  simp

set_option maxRecDepth 100000 in
set_option maxHeartbeats 1600000 in
theorem buffersOf_c (p : Nat) (md : M.Md) (B : Nat) (a : Option Addr) (n c : Nat) (ns : List Int) (w : World) (hP : Pl w p md) (hI : Ints w B (.slice a n c) ns) (hn : ns.length ≤ 255) :
    Calls Try.prog 33 #[.pointer (some ⟨p, 0, none⟩), .slice a n c] w fun e w' => e = .returned (own w.heap.size (ns.map (bufI md))) ∧ Blk w' w.heap.size 3 ((ns.map (bufI md)).map (Value.int .i64)).toArray ∧ w.grownBy w' none := by
  obtain rfl := hI.len
  obtain ⟨j0, hj, hy0, hy1, hy2⟩ := info_parts Try.info3
  have HP := hide hP
  have HI := hide hI
  clear hP hI
  go_enter Try.func33, Try.ntmps33
  go_wp2_with (at_make; refine wpList_make_full _ rfl _ _ 35 rfl w.heap.size 3 j0 (.int .i64 0) 1 Try.underlying35 hj hy0 hy1 _ _ _ _ ns.length rfl rfl rfl rfl ?c1 ?c2 ?c3 ?_)
  case c1 => rw [hy2]; omega
  case c2 => unfold maxLen; omega
  case c3 => exact Nat.le_refl _
  intro w2 hown hg2
  have hB2 : Blk w2 w.heap.size 3 ((fillTo (bufI md) ns 0).map (Value.int .i64)).toArray := by
    rw [fillTo_zero, List.map_replicate]; exact made_blk hown
  clear hown
  go_wp2
  go_loopw [13] (fun i wr => ∃ k : Nat, k ≤ ns.length ∧ i = .int .i64 k ∧ Blk wr w.heap.size 3 ((fillTo (bufI md) ns k).map (Value.int .i64)).toArray ∧ w.grownBy wr none) (fun i _ => ns.length - (intOf i).toNat)
  case atStart => exact ⟨0, Nat.zero_le _, rfl, hB2, hg2⟩
  case round =>
    clear hB2 hg2
    obtain ⟨k, hk, rfl, hBk, hgk⟩ := hrel
    by_cases hlt : k < ns.length
    · obtain ⟨x, hx⟩ : ∃ x, ns[k]? = some x := ⟨_, List.getElem?_eq_getElem hlt⟩
      obtain ⟨g, rfl, -, -, d0⟩ := (HI.out.kept0 hgk).get k x hx
      have HC := hide (bufferOf_c p md x wr (HP.out.kept0 hgk))
      have HS := hide (fillTo_step (f := bufI md) hx)
      have hl := fillTo_len (bufI md) ns k hk
      obtain ⟨b, Hb⟩ : ∃ b, Hid (bufI md x = b) := ⟨_, rfl⟩
      rw [Hb.out] at HC HS
      obtain ⟨v0, hv0⟩ : ∃ v0, (fillTo (bufI md) ns k)[k]? = some v0 := ⟨_, List.getElem?_eq_getElem (by omega)⟩
      have c0 : wr.cell? ⟨w.heap.size, k, none⟩ = some (.int .i64 v0) := by rw [hBk.cell k]; simp [hv0]
      have f0 := hBk.free k
      have HB2 := hide (hBk.set k (.int .i64 b))
      rw [map_set_int, HS.out] at HB2
      have HG2 := hide (gr_new hgk (gr_set wr w.heap.size k (.int .i64 b)) (Nat.le_refl _))
      have hwl := hBk.lt
      clear hx hBk hgk hv0 hl
      go_wp2_with fail
      refine HC.out.mono ?_
      rintro e w3 ⟨rfl, rfl⟩
      clear HC
      go_wp2
      go_roundw
      case rel => exact ⟨k + 1, by omega, by go_num, HB2.out, HG2.out⟩
      case measure => simp [intOf]; omega
    · obtain rfl : k = ns.length := by omega
      rw [fillTo_all] at hBk
      have HBk := hide hBk
      have HGk := hide hgk
      have Ho : Hid (own w.heap.size (ns.map (bufI md)) = .slice (some ⟨w.heap.size, 0, none⟩) ns.length ns.length) := by unfold Hid own; rw [List.length_map]
      clear hBk hgk
      go_wp2
      go_ret
      exact ⟨by rw [Ho.out]; rfl, HBk.out, HGk.out⟩

/-- A step as it is told. -/
structure Sp where
  kind : Int
  frm : List Int
  to : Int
def spOf (md : M.Md) (o : M.Op) : Sp := ⟨o.kind, (H.readsL o).map (bufI md), bufI md o.to⟩
def stepsOf (md : M.Md) : List Sp := (pM md).ops.map (spOf md)
def spval (g : Nat) (s : Sp) : List Value := [.int .i64 s.kind, own g s.frm, .int .i64 s.to]
def spz : List Value := [.int .i64 0, .slice none 0 0, .int .i64 0]
def spCells (gs : List Nat) (ss : List Sp) (n : Nat) : List Value := (List.zipWith spval gs ss).flatten ++ (List.replicate n spz).flatten

theorem flat3_len : ∀ (gs : List Nat) (ss : List Sp), gs.length = ss.length → (List.zipWith spval gs ss).flatten.length = gs.length * 3
  | [], [], _ => rfl
  | g :: gs, s :: ss, h => by
    have ih := flat3_len gs ss (by simpa using h)
    rw [List.zipWith_cons_cons, List.flatten_cons, List.length_append, ih, List.length_cons]
    show 3 + _ = _; omega
  | [], _ :: _, h => absurd h (by simp)
  | _ :: _, [], h => absurd h (by simp)
theorem spCells_len {gs : List Nat} {ss : List Sp} {n : Nat} (h : gs.length = ss.length) : (spCells gs ss n).length = (gs.length + n) * 3 := by
  unfold spCells
  rw [List.length_append, flat3_len gs ss h]
  have : (List.replicate n spz).flatten.length = n * 3 := by simp [spz]
  rw [this]; omega
theorem spCells_get {gs : List Nat} {ss : List Sp} {n : Nat} (h : gs.length = ss.length) (hn : 0 < n) (j : Nat) (hj : j < 3) : (spCells gs ss n)[gs.length * 3 + j]? = spz[j]? := by
  unfold spCells
  rw [List.getElem?_append_right (by rw [flat3_len gs ss h]; omega), flat3_len gs ss h, Nat.add_sub_cancel_left]
  obtain ⟨n, rfl⟩ : ∃ k, n = k + 1 := ⟨n - 1, by omega⟩
  rw [List.replicate_succ, List.flatten_cons, List.getElem?_append_left (by simpa [spz] using hj)]
theorem spCells_set {gs : List Nat} {ss : List Sp} {n g : Nat} {s : Sp} (h : gs.length = ss.length) :
    (((spCells gs ss (n + 1)).set (gs.length * 3) (.int .i64 s.kind)).set (gs.length * 3 + 1) (own g s.frm)).set (gs.length * 3 + 2) (.int .i64 s.to) = spCells (gs ++ [g]) (ss ++ [s]) n := by
  unfold spCells
  have hl := flat3_len gs ss h
  rw [List.zipWith_append h, List.replicate_succ, List.flatten_cons, List.flatten_append]
  generalize (List.zipWith spval gs ss).flatten = A at *
  generalize (List.replicate n spz).flatten = Z at *
  have e : ∀ (X : List Value) (j : Nat) (v : Value), (A ++ X).set (gs.length * 3 + j) v = A ++ X.set j v := fun X j v => by
    rw [List.set_append_right _ _ (by omega), hl, Nat.add_sub_cancel_left]
  have e0 := e (spz ++ Z) 0 (.int .i64 s.kind)
  rw [Nat.add_zero] at e0
  rw [e0, e, e]
  simp [spz, spval]

/-- Steps that were just told: the outer list in block G, what they read in blocks gs, all of their own. -/
structure FreshS (w : World) (B G : Nat) (gs : List Nat) (ss : List Sp) : Prop where
  len : gs.length = ss.length
  out : Blk w G 78 ((List.zipWith spval gs ss).flatten).toArray
  base : B ≤ G
  sorted : gs.Pairwise (· < ·)
  above : ∀ g ∈ gs, G < g
  blk : ∀ (i : Nat) g s, gs[i]? = some g → ss[i]? = some s → Blk w g 3 (s.frm.map (Value.int .i64)).toArray

theorem Try.info78 : (Try.prog.info? 78).map (fun i => (i.zero, i.size, i.bytes)) = some (some (.agg #[.int .i64 0, .slice none 0 0, .int .i64 0]), 3, 40) := by kernel_rfl

end Go.Proofs.Ytcnhfffgbamonab
