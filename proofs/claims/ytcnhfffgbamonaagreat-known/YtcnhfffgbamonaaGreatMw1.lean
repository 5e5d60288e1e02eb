/-
  How many steps a law's model has; a model whose tensors, operators and outputs are known.
-/
import Derived.Test.YtcnhfffgbamonaaGreatLaB
import Derived.Test.YtcnhfffgbamonaaGreatLwB
import Derived.Test.YtcnhfffgbamonaaGreatStA
namespace Go.Proofs.YtcnhfffgbamonaaGreat
open Go.RowKit

set_option maxRecDepth 100000 in
set_option maxHeartbeats 800000 in
theorem lsteps_c (b : Nat) (m : M.Md) (w : World) (hM : Mm w b m) :
    Calls Tryz.prog 51 #[.pointer (some ⟨b, 0, none⟩)] w fun e w' => e = .returned (.int .i64 (H.shrink m).ops.length) ∧ w.grownBy w' none := by
  obtain ⟨his, ts, ops, nt, no, oa, on, oc, hB, hO, hE, b1, b2, b3⟩ := hM
  have HC := hide (mbytes_c b 0 ts ops nt no oa on oc m.outs w hB hO b1 b2 b3)
  rw [hE] at HC
  have HR := hide his.read
  have HA := hide his.all
  have HLg := hide his.long
  clear hB hO hE b1 b2 b3 his
  go_enter Tryz.func51, Tryz.ntmps51
  go_wp2_with fail
  refine HC.out.mono ?_
  rintro e w1 ⟨rfl, g1⟩
  have HG1 := hide g1
  clear HC g1
  go_wp2_with fail
  refine (compile_c (S8 (encM m)) w1 (by rw [s8_size]; have := HLg.out; omega)).mono ?_
  rintro e w2 ⟨g2, ⟨hr, rfl⟩ | ⟨hr, p, hp, rfl, hP⟩⟩
  · exact absurd HR.out hr
  · rw [HA.out] at hP
    have HP := hide hP
    have HG2 := hide (gr_trans HG1.out g2)
    clear hP g2 HG1 hr hp
    go_wp2_with fail
    refine (steps_c p m w2 HP.out).mono ?_
    rintro e w3 ⟨⟨G, gs, rfl, -⟩, g3⟩
    have HG3 := hide (gr_trans HG2.out g3)
    have HL := hide (show (pM m).ops.length = (H.shrink m).ops.length from rfl)
    rw [HL.out]
    clear g3 HG2 HP
    go_wp2
    go_ret
    exact ⟨rfl, HG3.out⟩

theorem Blk.unlike2 {w w' : World} {b G : Nat} {t T : TypeId} {cs cs' : Array Value} (h : Blk w b t cs) (hB : Blk w G T cs') (hT : T ≠ t) (hg : w.grownBy w' (some G)) : Blk w' b t cs := by
  refine h.kept hg ?_
  intro e
  injection e with e
  subst e
  unfold Blk at h hB
  rw [h] at hB
  injection hB with hB
  injection hB with _ hB _
  exact hT hB.symm

/-- A model with one output. -/
structure Mw (w : World) (b G : Nat) (m : M.Md) (v : Int) : Prop where
  is : D.Is m
  sz : sizeT m.tensors ≤ 100000
  P : MP w b m.tensors m.ops (.slice (some ⟨G, 0, none⟩) 1 1)
  O : Blk w G 3 #[.int .i64 v]
theorem Mw.mm {w : World} {b G : Nat} {m : M.Md} {v : Int} (h : Mw w b G m v) (hu : m.outs = [v]) (ho : m.ops.length ≤ 100) : Mm w b m :=
  MP.done h.P (by rw [hu]; exact Ints.of_blk (xs := [v]) (Nat.zero_le _) rfl (by decide) h.O) h.is h.sz ho (by rw [hu]; show 1 ≤ 1000; decide)

end Go.Proofs.YtcnhfffgbamonaaGreat
