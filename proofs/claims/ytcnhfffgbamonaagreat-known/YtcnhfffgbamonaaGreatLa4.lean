/-
  What windowed of the laws draws; a scene of one die and one model.
-/
import Derived.Test.YtcnhfffgbamonaaGreatLaA
namespace Go.Proofs.YtcnhfffgbamonaaGreat
open Go.RowKit

def wcells (n : Nat) (x : Int) : List Int := (dcells n (dnext x)).1
def wbias (n o : Nat) (x : Int) : List Int := (dbias o (dcells n (dnext x)).2).1
def wx3 (n o : Nat) (x : Int) : Int := (dbias o (dcells n (dnext x)).2).2
def wzo (n o : Nat) (x : Int) : Int := dzero (wx3 n o x)
def wsc (n o : Nat) (x : Int) : M.Sc := ⟨dmult (dnext (wx3 n o x)), dshift (dnext (dnext (wx3 n o x)))⟩
def wend (n o : Nat) (x : Int) : Int := dnext (dnext (dnext (wx3 n o x)))
/-- What windowed writes. -/
def mW (h w c k o : Int) (nn oo : Nat) (same : Bool) (lo hi x : Int) : M.Md := D.mWin h w c k o same lo hi (dzero x) (wcells nn x) (wbias nn oo x) (wzo nn oo x) (wsc nn oo x)

theorem wsc_ok (n o : Nat) (x : Int) : D.SOk (wsc n o x) := by
  have h1 := dmult_rg (dnext (wx3 n o x))
  have h2 := dshift_rg (dnext (dnext (wx3 n o x)))
  exact ⟨h1.1, h1.2, by show -31 ≤ dshift _; omega, by show dshift _ ≤ 30; omega⟩

/-- A die that was there, a model that is new. -/
structure WS (w0 w1 : World) (db : Nat) (x : Int) (b : Nat) (ts : List M.Tn) (os : List M.Op) (ov : Value) : Prop where
  D : Die w1 db x
  P : MP w1 b ts os ov
  g : w0.grownBy w1 (some db)
  lt : db < w0.heap.size

theorem WS.die {w0 w1 w2 : World} {db : Nat} {x y : Int} {ts : List M.Tn} {os : List M.Op} {ov : Value} (h : WS w0 w1 db x w0.heap.size ts os ov) (hD : Die w2 db y) (hg : w1.grownBy w2 (some db)) : WS w0 w2 db y w0.heap.size ts os ov :=
  ⟨hD, h.P.kept hg (by have := h.lt; simp; omega), gr_trans h.g hg, h.lt⟩
theorem WS.mod {w0 w1 w2 : World} {db : Nat} {x : Int} {ts ts' : List M.Tn} {os os' : List M.Op} {ov ov' : Value} (h : WS w0 w1 db x w0.heap.size ts os ov) (hP : MP w2 w0.heap.size ts' os' ov') (hg : w1.grownBy w2 (some w0.heap.size)) : WS w0 w2 db x w0.heap.size ts' os' ov' :=
  ⟨Blk.kept h.D hg (by have := h.lt; simp; omega), hP, gr_new h.g hg (Nat.le_refl _), h.lt⟩
theorem WS.none {w0 w1 w2 : World} {db : Nat} {x : Int} {ts : List M.Tn} {os : List M.Op} {ov : Value} (h : WS w0 w1 db x w0.heap.size ts os ov) (hg : w1.grownBy w2 none) : WS w0 w2 db x w0.heap.size ts os ov :=
  ⟨Blk.kept h.D hg (by simp), h.P.kept hg (by simp), gr_trans h.g (gr_none hg), h.lt⟩

end Go.Proofs.YtcnhfffgbamonaaGreat
