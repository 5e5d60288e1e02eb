/-
  Scenes of one die: with a model that is being written; with one that is done; with both.
-/
import Derived.Test.YtcnhfffgbamonaaGreatLa6
namespace Go.Proofs.YtcnhfffgbamonaaGreat
open Go.RowKit

/-- A die and a model that is being written, both new. -/
structure DP (w0 w1 : World) (d : Nat) (x : Int) (n : Nat) (ts : List M.Tn) (os : List M.Op) (ov : Value) : Prop where
  g : w0.grownBy w1 none
  D : Die w1 d x
  P : MP w1 n ts os ov
  ld : w0.heap.size ≤ d
  dn : d < n
theorem DP.none {w0 w1 w2 : World} {d n : Nat} {x : Int} {ts : List M.Tn} {os : List M.Op} {ov : Value} (h : DP w0 w1 d x n ts os ov) (hg : w1.grownBy w2 none) : DP w0 w2 d x n ts os ov :=
  ⟨gr_trans h.g hg, Blk.kept h.D hg (by simp), h.P.kept hg (by simp), h.ld, h.dn⟩
theorem DP.dieD {w0 w1 w2 : World} {d n : Nat} {x x' : Int} {ts : List M.Tn} {os : List M.Op} {ov : Value} (h : DP w0 w1 d x n ts os ov) (hD : Die w2 d x') (hg : w1.grownBy w2 (some d)) : DP w0 w2 d x' n ts os ov :=
  ⟨gr_new h.g hg h.ld, hD, h.P.kept hg (by have := h.dn; simp; omega), h.ld, h.dn⟩
theorem DP.mod {w0 w1 w2 : World} {d n : Nat} {x : Int} {ts ts' : List M.Tn} {os os' : List M.Op} {ov ov' : Value} (h : DP w0 w1 d x n ts os ov) (hP : MP w2 n ts' os' ov') (hg : w1.grownBy w2 (some n)) : DP w0 w2 d x n ts' os' ov' :=
  have h1 := h.ld; have h2 := h.dn
  ⟨gr_new h.g hg (by omega), Blk.kept h.D hg (by simp; omega), hP, h.ld, h.dn⟩

/-- A die, a model that is done, one that is being written. -/
structure S3 (w0 w1 : World) (d : Nat) (x : Int) (b : Nat) (m : M.Md) (n : Nat) (ts : List M.Tn) (os : List M.Op) (ov : Value) : Prop where
  g : w0.grownBy w1 none
  D : Die w1 d x
  M : Mm w1 b m
  P : MP w1 n ts os ov
  ld : w0.heap.size ≤ d
  db : d < b
  bn : b < n
theorem S3.none {w0 w1 w2 : World} {d b n : Nat} {x : Int} {m : M.Md} {ts : List M.Tn} {os : List M.Op} {ov : Value} (h : S3 w0 w1 d x b m n ts os ov) (hg : w1.grownBy w2 none) : S3 w0 w2 d x b m n ts os ov :=
  ⟨gr_trans h.g hg, Blk.kept h.D hg (by simp), h.M.kept0 hg, h.P.kept hg (by simp), h.ld, h.db, h.bn⟩
theorem S3.mod {w0 w1 w2 : World} {d b n : Nat} {x : Int} {m : M.Md} {ts ts' : List M.Tn} {os os' : List M.Op} {ov ov' : Value} (h : S3 w0 w1 d x b m n ts os ov) (hP : MP w2 n ts' os' ov') (hg : w1.grownBy w2 (some n)) : S3 w0 w2 d x b m n ts' os' ov' :=
  have h1 := h.ld; have h2 := h.db; have h3 := h.bn
  ⟨gr_new h.g hg (by omega), Blk.kept h.D hg (by simp; omega), h.M.apart h.P (by decide) (by omega) hg, hP, h.ld, h.db, h.bn⟩

end Go.Proofs.YtcnhfffgbamonaaGreat
