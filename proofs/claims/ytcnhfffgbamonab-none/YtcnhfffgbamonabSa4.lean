/-
  What Compile answers at the law's own bytes.
-/
import Derived.Test.YtcnhfffgbamonabSa3a
import Derived.Test.YtcnhfffgbamonabSa3b
import Derived.Test.YtcnhfffgbamonabSa3c
import Derived.Test.YtcnhfffgbamonabSa3d
import Derived.Test.YtcnhfffgbamonabSa3e
namespace Go.Proofs.Ytcnhfffgbamonab
open Go.RowKit

theorem compile_no (l : List UInt8) (v : Int) (w : World) (hl : l.length ≤ 9223372036854775807) (hv : M.read (S8 l) = v) (h0 : v ≠ 0) :
    Calls Try.prog 12 #[.string (S8 l)] w fun e w' => e = .returned (.tuple #[.pointer none, .int .i64 v]) ∧ w.grownBy w' none :=
  (compile_c (S8 l) w (by rw [s8_size]; exact hl)).mono fun e w' ⟨hg, h⟩ => by
    rcases h with ⟨_, rfl⟩ | ⟨h1, _⟩
    · exact ⟨by rw [hv], hg⟩
    · exact absurd (hv.symm.trans h1) h0
theorem compile_ok (l : List UInt8) (w : World) (hl : l.length ≤ 9223372036854775807) (hv : M.read (S8 l) = 0) :
    Calls Try.prog 12 #[.string (S8 l)] w fun e w' => (∃ q, e = .returned (.tuple #[.pointer (some q), .int .i64 0])) ∧ w.grownBy w' none :=
  (compile_c (S8 l) w (by rw [s8_size]; exact hl)).mono fun e w' ⟨hg, h⟩ => by
    rcases h with ⟨h1, _⟩ | ⟨_, q, -, rfl, -⟩
    · exact absurd hv h1
    · exact ⟨⟨_, rfl⟩, hg⟩

theorem s8_ext {s : ByteArray} {l : List UInt8} (h : s.data.toList = l) : s = S8 l := by
  subst h
  rfl
theorem s8_extract (l : List UInt8) (a b : Nat) : (S8 l).extract a b = S8 ((l.drop a).take (b - a)) := by
  apply s8_ext
  rw [Lib.extract_data]
  rfl

def by0 : List UInt8 := mbytes ts0 op0 4 1 [3]

theorem rd0 : M.read (S8 (mbytes ts0 op0 4 1 [3])) = 0 := by decide +kernel
theorem rd1 : M.read (S8 (mbytes ts1 op1 4 1 [3])) = 6 := by decide +kernel
theorem rd2 : M.read (S8 (mbytes ts2 op2 4 1 [3])) = 5 := by decide +kernel
theorem rd3 : M.read (S8 (mbytes ts3 op3 4 1 [3])) = 6 := by decide +kernel
theorem rd4 : M.read (S8 (mbytes ts4 op4 4 1 [3])) = 6 := by decide +kernel
theorem rd5 : M.read (S8 (mbytes ts5 op5 4 1 [3])) = 6 := by decide +kernel
theorem rd6 : M.read (S8 (mbytes ts6 op6 4 1 [3])) = 6 := by decide +kernel
theorem rd7 : M.read (S8 (mbytes ts7 op7 4 1 [3])) = 4 := by decide +kernel
theorem rd8 : M.read (S8 (mbytes ts8 op8 4 1 [3])) = 4 := by decide +kernel
theorem rd9 : M.read (S8 (mbytes ts9 op9 4 1 [9])) = 4 := by decide +kernel
theorem rd10 : M.read (S8 (mbytes ts10 op10 4 1 [3])) = 6 := by decide +kernel
theorem rd11 : M.read (S8 (mbytes ts11 op11 4 1 [])) = 3 := by decide +kernel
theorem len0 : by0.length = 47 := by decide +kernel
theorem rd12 : M.read (S8 ((by0.drop 0).take 46)) = 2 := by decide +kernel
theorem rd13 : M.read (S8 (by0 ++ [0])) = 2 := by decide +kernel
theorem rd14 : M.read (S8 ([116, 102, 108, 50] ++ (by0.drop 4).take 43)) = 2 := by decide +kernel
theorem rd15 : M.read (S8 (((by0.drop 0).take 5 ++ [4]) ++ (by0.drop 6).take 41)) = 2 := by decide +kernel
theorem rd_long {l : List UInt8} (h : 4096 < l.length) : M.read (S8 l) = 1 := by
  unfold M.read M.parse
  rw [if_pos (by rw [if_pos (by rw [s8_size]; exact h)]; decide), if_pos (by rw [s8_size]; exact h)]

end Go.Proofs.Ytcnhfffgbamonab
