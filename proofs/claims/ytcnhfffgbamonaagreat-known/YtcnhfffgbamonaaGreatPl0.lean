/-
  Bytes, as they are written: plain words.
-/
import Derived.Test.YtcnhfffgbamonaaGreatSpec
namespace Go.Proofs.YtcnhfffgbamonaaGreat

/-- A number's lowest byte. -/
def b8 (v : Int) : UInt8 := UInt8.ofNat (v % 256).toNat
theorem b8_toNat (v : Int) : ((b8 v).toNat : Int) = v % 256 := by
  have h0 : 0 ≤ v % 256 := Int.emod_nonneg _ (by decide)
  have h1 : v % 256 < 256 := Int.emod_lt_of_pos _ (by decide)
  unfold b8
  rw [UInt8.toNat_ofNat']
  omega

/-- Bytes as a string. -/
def S8 (l : List UInt8) : ByteArray := ⟨l.toArray⟩

def w4 (v : Int) : List UInt8 := [b8 v, b8 (v / 256), b8 (v / 65536), b8 (v / 16777216)]

theorem s8_app (a b : List UInt8) : S8 a ++ S8 b = S8 (a ++ b) := by
  unfold S8
  apply ByteArray.ext
  rw [ByteArray.data_append]
  simp
theorem s8_size (a : List UInt8) : (S8 a).size = a.length := by
  unfold S8; simp [ByteArray.size]

theorem w4_len (v : Int) : (w4 v).length = 4 := rfl
def dataBytes (kind : Int) (xs : List Int) : List UInt8 := xs.flatMap fun x => if kind = 2 then w4 x else [b8 x]

def tbytes (kind h w c z : Int) (xs : List Int) : List UInt8 := [b8 kind, b8 h, b8 w, b8 c, b8 z] ++ dataBytes kind xs

def obytes (kind : Int) (ins : List Int) (out : Int) (ns : List UInt8) : List UInt8 := (([b8 kind] ++ ins.map b8) ++ [b8 out]) ++ ns

theorem s8_app4 (a b c d : List UInt8) : ((S8 a ++ S8 b) ++ S8 c) ++ S8 d = S8 (a ++ ((b ++ c) ++ d)) := by
  rw [s8_app, s8_app, s8_app]; simp

def mbytes (ts ops : List UInt8) (nt no : Nat) (outs : List Int) : List UInt8 := (((((M.headL ++ [b8 nt]) ++ ts) ++ [b8 no]) ++ ops) ++ [b8 outs.length]) ++ outs.map b8

theorem data_len (kind : Int) (xs : List Int) (k : Nat) : (dataBytes kind (xs.take k)).length ≤ 4 * k := by
  unfold dataBytes
  induction k generalizing xs with
  | zero => simp
  | succ k ih =>
    cases xs with
    | nil => simp
    | cons a l =>
      rw [List.take_succ_cons, List.flatMap_cons, List.length_append]
      have := ih l
      have h4 : (if kind = 2 then w4 a else [b8 a]).length ≤ 4 := by split <;> simp [w4]
      omega

end Go.Proofs.YtcnhfffgbamonaaGreat
