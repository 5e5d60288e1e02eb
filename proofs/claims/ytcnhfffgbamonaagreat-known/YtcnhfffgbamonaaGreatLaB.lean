import Derived.Test.YtcnhfffgbamonaaGreatLa4
import Derived.Test.YtcnhfffgbamonaaGreatLa5
/-
  A scene of two dice, a model that is done and one that is being written.
-/
namespace Go.Proofs.YtcnhfffgbamonaaGreat
open Go.RowKit

theorem Mm.apart {w w' : World} {b X : Nat} {T : TypeId} {cs : Array Value} {m : M.Md} (h : Mm w b m) (hX : Blk w X T cs) (hT : T ≠ 3) (hne : b ≠ X) (hg : w.grownBy w' (some X)) : Mm w' b m := by
  obtain ⟨i, ts, ops, nt, no, a, n, c, h1, h2, h3⟩ := h
  exact ⟨i, ts, ops, nt, no, a, n, c, Blk.kept h1 hg (by simpa using hne), h2.apart hX hT hg, h3⟩

structure S4 (w0 w1 : World) (d : Nat) (x : Int) (b : Nat) (m : M.Md) (e : Nat) (y : Int) (n : Nat) (ts : List M.Tn) (os : List M.Op) (ov : Value) : Prop where
  g : w0.grownBy w1 none
  D : Die w1 d x
  M : Mm w1 b m
  E : Die w1 e y
  P : MP w1 n ts os ov
  ld : w0.heap.size ≤ d
  db : d < b
  be : b < e
  en : e < n

theorem S4.none {w0 w1 w2 : World} {d b e n : Nat} {x y : Int} {m : M.Md} {ts : List M.Tn} {os : List M.Op} {ov : Value} (h : S4 w0 w1 d x b m e y n ts os ov) (hg : w1.grownBy w2 none) : S4 w0 w2 d x b m e y n ts os ov :=
  ⟨gr_trans h.g hg, Blk.kept h.D hg (by simp), h.M.kept0 hg, Blk.kept h.E hg (by simp), h.P.kept hg (by simp), h.ld, h.db, h.be, h.en⟩
theorem S4.dieE {w0 w1 w2 : World} {d b e n : Nat} {x y y' : Int} {m : M.Md} {ts : List M.Tn} {os : List M.Op} {ov : Value} (h : S4 w0 w1 d x b m e y n ts os ov) (hE : Die w2 e y') (hg : w1.grownBy w2 (some e)) : S4 w0 w2 d x b m e y' n ts os ov :=
  have h1 := h.ld; have h2 := h.db; have h3 := h.be; have h4 := h.en
  ⟨gr_new h.g hg (by omega), Blk.kept h.D hg (by simp; omega), h.M.apart h.E (by decide) (by omega) hg, hE, h.P.kept hg (by simp; omega), h.ld, h.db, h.be, h.en⟩
theorem S4.dieD {w0 w1 w2 : World} {d b e n : Nat} {x x' y : Int} {m : M.Md} {ts : List M.Tn} {os : List M.Op} {ov : Value} (h : S4 w0 w1 d x b m e y n ts os ov) (hD : Die w2 d x') (hg : w1.grownBy w2 (some d)) : S4 w0 w2 d x' b m e y n ts os ov :=
  have h1 := h.ld; have h2 := h.db; have h3 := h.be; have h4 := h.en
  ⟨gr_new h.g hg (by omega), hD, h.M.apart h.D (by decide) (by omega) hg, Blk.kept h.E hg (by simp; omega), h.P.kept hg (by simp; omega), h.ld, h.db, h.be, h.en⟩
theorem S4.mod {w0 w1 w2 : World} {d b e n : Nat} {x y : Int} {m : M.Md} {ts ts' : List M.Tn} {os os' : List M.Op} {ov ov' : Value} (h : S4 w0 w1 d x b m e y n ts os ov) (hP : MP w2 n ts' os' ov') (hg : w1.grownBy w2 (some n)) : S4 w0 w2 d x b m e y n ts' os' ov' :=
  have h1 := h.ld; have h2 := h.db; have h3 := h.be; have h4 := h.en
  ⟨gr_new h.g hg (by omega), Blk.kept h.D hg (by simp; omega), h.M.apart h.P (by decide) (by omega) hg, Blk.kept h.E hg (by simp; omega), hP, h.ld, h.db, h.be, h.en⟩

/-- The outputs of a model, set. -/
theorem outs_set {q : World} {b : Nat} {v : Int} {ts : List M.Tn} {os : List M.Op} {ov : Value} {m : M.Md} (h : MP q b ts os ov) (ht : m.tensors = ts) (ho : m.ops = os) (hu : m.outs = [v]) (hi : D.Is m) (hs : sizeT ts ≤ 100000) (hl : os.length ≤ 100) :
    Mm ((q.setCell ⟨b, 4, none⟩ (.slice (some ⟨q.heap.size, 0, none⟩) 1 1)).alloc (.cells #[.int .i64 v] 3)) b m := by
  subst ht ho
  refine MP.done (Blk.alloc (Blk.set h 4 (.slice (some ⟨q.heap.size, 0, none⟩) 1 1)) (.cells #[.int .i64 v] 3)) ?_ hi hs hl (by rw [hu]; show 1 ≤ 1000; decide)
  rw [hu]
  exact Ints.of_blk (xs := [v]) (Nat.zero_le _) rfl (by decide) (by have e := Blk.new (q.setCell ⟨b, 4, none⟩ (.slice (some ⟨q.heap.size, 0, none⟩) 1 1)) 3 #[.int .i64 v]; rw [World.size_setCell] at e; exact e)

/-- One list, as a list of lists. -/
theorem one_list {q : World} {a : Option Addr} {n c : Nat} {l : List Int} (h : Ints q 0 (.slice a n c) l) : Lists (q.alloc (.cells #[.slice a n c] 33)) 0 (.slice (some ⟨q.heap.size, 0, none⟩) 1 1) [l] :=
  lists_of (Blk.new _ _ _) rfl rfl (by decide) fun j u v hu hv => by
    match j with
    | 0 =>
      injection hu with hu
      injection hv with hv
      subst hu
      subst hv
      exact ⟨_, _, _, rfl, h.kept0 (World.grownBy_alloc _ _ _)⟩
    | j + 1 => simp at hu

/-- One input of n cells. -/
theorem in_hold (m : M.Md) (l : List Int) (n : Nat) (h : D.lengths m = [(n : Int)]) (hl : l.length = n) (hc : D.Cells l) : D.inputsHold m [l] = true := by
  unfold D.inputsHold
  rw [h]
  simp only [List.map_cons, List.map_nil, List.all_cons, List.all_nil, Bool.and_true, Bool.and_eq_true, beq_iff_eq, List.all_eq_true]
  refine ⟨by rw [hl], fun v hv => ?_⟩
  have := hc v hv
  unfold D.isCell
  simp; omega

end Go.Proofs.YtcnhfffgbamonaaGreat

/-
  Scenes of one die: with a model that is being written; with one that is done; with both.
-/
namespace Go.Proofs.YtcnhfffgbamonaaGreat
open Go.RowKit

/-- A die and a model that is being written, both new. -/
structure DP (w0 w1 : World) (d : Nat) (x : Int) (n : Nat) (ts : List M.Tn) (os : List M.Op) (ov : Value) : Prop where
  g : w0.grownBy w1 none
  D : Die w1 d x
  P : MP w1 n ts os ov
  ld : w0.heap.size ≤ d
  dn : d < n
theorem DP.none {w0 w1 w2 : World} {d n : Nat} {x : Int} {ts : List M.Tn} {os : List M.Op} {ov : Value} (h : DP w0 w1 d x n ts os ov) (hg : w1.grownBy w2 none) : DP w0 w2 d x n ts os ov :=
  ⟨gr_trans h.g hg, Blk.kept h.D hg (by simp), h.P.kept hg (by simp), h.ld, h.dn⟩
theorem DP.dieD {w0 w1 w2 : World} {d n : Nat} {x x' : Int} {ts : List M.Tn} {os : List M.Op} {ov : Value} (h : DP w0 w1 d x n ts os ov) (hD : Die w2 d x') (hg : w1.grownBy w2 (some d)) : DP w0 w2 d x' n ts os ov :=
  ⟨gr_new h.g hg h.ld, hD, h.P.kept hg (by have := h.dn; simp; omega), h.ld, h.dn⟩
theorem DP.mod {w0 w1 w2 : World} {d n : Nat} {x : Int} {ts ts' : List M.Tn} {os os' : List M.Op} {ov ov' : Value} (h : DP w0 w1 d x n ts os ov) (hP : MP w2 n ts' os' ov') (hg : w1.grownBy w2 (some n)) : DP w0 w2 d x n ts' os' ov' :=
  have h1 := h.ld; have h2 := h.dn
  ⟨gr_new h.g hg (by omega), Blk.kept h.D hg (by simp; omega), hP, h.ld, h.dn⟩

/-- A die, a model that is done, one that is being written. -/
structure S3 (w0 w1 : World) (d : Nat) (x : Int) (b : Nat) (m : M.Md) (n : Nat) (ts : List M.Tn) (os : List M.Op) (ov : Value) : Prop where
  g : w0.grownBy w1 none
  D : Die w1 d x
  M : Mm w1 b m
  P : MP w1 n ts os ov
  ld : w0.heap.size ≤ d
  db : d < b
  bn : b < n
theorem S3.none {w0 w1 w2 : World} {d b n : Nat} {x : Int} {m : M.Md} {ts : List M.Tn} {os : List M.Op} {ov : Value} (h : S3 w0 w1 d x b m n ts os ov) (hg : w1.grownBy w2 none) : S3 w0 w2 d x b m n ts os ov :=
  ⟨gr_trans h.g hg, Blk.kept h.D hg (by simp), h.M.kept0 hg, h.P.kept hg (by simp), h.ld, h.db, h.bn⟩
theorem S3.mod {w0 w1 w2 : World} {d b n : Nat} {x : Int} {m : M.Md} {ts ts' : List M.Tn} {os os' : List M.Op} {ov ov' : Value} (h : S3 w0 w1 d x b m n ts os ov) (hP : MP w2 n ts' os' ov') (hg : w1.grownBy w2 (some n)) : S3 w0 w2 d x b m n ts' os' ov' :=
  have h1 := h.ld; have h2 := h.db; have h3 := h.bn
  ⟨gr_new h.g hg (by omega), Blk.kept h.D hg (by simp; omega), h.M.apart h.P (by decide) (by omega) hg, hP, h.ld, h.db, h.bn⟩

end Go.Proofs.YtcnhfffgbamonaaGreat
