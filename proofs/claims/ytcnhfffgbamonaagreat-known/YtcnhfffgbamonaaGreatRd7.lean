/-
  The reader's operators. (Written by a small program of ours: wip/gen/rd7.py.)
-/
import Derived.Test.YtcnhfffgbamonaaGreatRd6a
import Derived.Test.YtcnhfffgbamonaaGreatRd6b
import Derived.Test.YtcnhfffgbamonaaGreatRd6c
namespace Go.Proofs.YtcnhfffgbamonaaGreat
open Go.RowKit

theorem Tryz.size142 : (Tryz.prog.info? 142).map (·.size) = some 16 := by kernel_rfl

theorem one16 (kind a b we bi to size stride : Int) (same : Bool) (ao : Option Addr) (m c : Nat) (lo hi above below left right : Int) : (o16 kind a b we bi to size stride same (.slice ao m c) lo hi above below left right).all (·.oneCell') = true := by
  simp [Value.oneCell']

theorem gr_setRow (w : World) (g : Nat) (cs : Array Value) : w.grownBy (w.setRow g cs) (some g) :=
  ⟨rfl, rfl, rfl, by simp, fun k _ hk => setRow_other w g k _ (fun e => hk (by simp [e]))⟩

theorem setRow16 {T : TypeId} {z : Array Value} {w0 w1 : World} {b : Nat} {s : ByteArray} {r : M.RS} {cs : Array Value} (h : LInv T z w0 w1 b s r cs) (vs : Array Value) :
    Rd (w1.setRow w0.heap.size vs) b s r ∧ w1.grownBy (w1.setRow w0.heap.size vs) (some w0.heap.size) ∧ Blk (w1.setRow w0.heap.size vs) w0.heap.size T vs := by
  have hb := h.hb
  exact ⟨Blk.kept h.R (gr_setRow _ _ _) (by simp; omega), gr_setRow _ _ _, setRow_heap _ _ _ _ _ _ h.G⟩

theorem own_c (k : Int) (hk : 0 ≤ k ∧ k ≤ 10) (b L : Nat) (s : ByteArray) (r : M.RS) (a bb we bi to : Int) (w : World) (h : Rd w b s r) (hB : Blk w L 142 (o16 k a bb we bi to 0 0 false (.slice none 0 0) 0 0 0 0 0 0)) (ne : b ≠ L) (hp : r.pos ≤ s.size) (hs : s.size ≤ 4096) :
    Calls Tryz.prog 185 #[.pointer (some ⟨b, 0, none⟩), .pointer (some ⟨L, 0, none⟩)] w fun e w' => ∃ size stride same ao m c xs lo hi above below left right r', Hid (M.ownNumbers s ⟨k, a, bb, we, bi, to, 0, 0, false, [], 0, 0, 0, 0, 0, 0⟩ r = (⟨k, a, bb, we, bi, to, size, stride, same, xs, lo, hi, above, below, left, right⟩, r')) ∧
      (0 ≤ size ∧ size ≤ 255) ∧ (0 ≤ stride ∧ stride ≤ 255) ∧ (-128 ≤ lo ∧ lo ≤ 127) ∧ (-128 ≤ hi ∧ hi ≤ 127) ∧ (0 ≤ above ∧ above ≤ 255) ∧ (0 ≤ below ∧ below ≤ 255) ∧ (0 ≤ left ∧ left ≤ 255) ∧ (0 ≤ right ∧ right ≤ 255) ∧ (∀ c ∈ xs, WfS c) ∧
      r'.pos ≤ s.size ∧ e = .returned (.tuple #[]) ∧ Blk w' L 142 (o16 k a bb we bi to size stride same (.slice ao m c) lo hi above below left right) ∧ Scs w' w.heap.size (.slice ao m c) xs ∧ Rd w' b s r' ∧ Gr2 w w' b L := by
  rcases (show k = 0 ∨ k = 1 ∨ k = 2 ∨ k = 3 ∨ k = 4 ∨ k = 5 ∨ k = 6 ∨ k = 7 ∨ k = 8 ∨ k = 9 ∨ k = 10 from by omega) with rfl | rfl | rfl | rfl | rfl | rfl | rfl | rfl | rfl | rfl | rfl
  · exact own_0 b L s r a bb we bi to w h hB ne hp hs
  · exact own_1 b L s r a bb we bi to w h hB ne hp hs
  · exact own_2 b L s r a bb we bi to w h hB ne hp hs
  · exact own_3 b L s r a bb we bi to w h hB ne hp hs
  · exact own_4 b L s r a bb we bi to w h hB ne hp hs
  · exact own_5 b L s r a bb we bi to w h hB ne hp hs
  · exact own_6 b L s r a bb we bi to w h hB ne hp hs
  · exact own_7 b L s r a bb we bi to w h hB ne hp hs
  · exact own_8 b L s r a bb we bi to w h hB ne hp hs
  · exact own_9 b L s r a bb we bi to w h hB ne hp hs
  · exact own_10 b L s r a bb we bi to w h hB ne hp hs

theorem LInv.own {z : Array Value} {w0 w1 w2 : World} {b : Nat} {s : ByteArray} {r r' : M.RS} {cs cs' : Array Value} (h : LInv 142 z w0 w1 b s r cs) (hR : Rd w2 b s r') (hB : Blk w2 (w0.heap.size + 1) 142 cs') (hg : Gr2 w1 w2 b (w0.heap.size + 1)) : LInv 142 z w0 w2 b s r' cs' := by
  have hb := h.hb
  refine ⟨hR, hB, ?_, Gr2.grown h.g hg (by omega), hb⟩
  have hG := h.G
  have hlt := hG.lt
  unfold Blk at hG ⊢
  rw [hg.block _ hlt (by omega) (by omega)]
  exact hG

theorem op_eq {s : ByteArray} {r r1 r2 r3 r4 r5 : M.RS} {k a we bi b2 to : Int} {o : M.Op × M.RS} (h1 : M.within s 1 10 r = (k, r1)) (h2 : M.plain s r1 = (a, r2))
    (h3 : (if M.hasWeights k = true then (((M.plain s r2).1, (M.plain s (M.plain s r2).2).1), (M.plain s (M.plain s r2).2).2) else ((0, 0), r2)) = (((we, bi), r3) : (Int × Int) × M.RS))
    (h4 : (if M.readsTwo k = true then M.plain s r3 else (0, r3)) = (b2, r4)) (h5 : M.plain s r4 = (to, r5)) (h6 : M.ownNumbers s ⟨k, a, b2, we, bi, to, 0, 0, false, [], 0, 0, 0, 0, 0, 0⟩ r5 = o) : M.op s r = o := by
  simp only [M.op, h1, h2, h3, h4, h5, h6]

theorem two_of_hw {k : Int} (h : M.hasWeights k = true) : M.readsTwo k = false := by
  unfold M.hasWeights at h; unfold M.readsTwo
  simp only [Bool.or_eq_true, beq_iff_eq] at h
  rcases h with (rfl | rfl) | rfl <;> rfl

end Go.Proofs.YtcnhfffgbamonaaGreat
