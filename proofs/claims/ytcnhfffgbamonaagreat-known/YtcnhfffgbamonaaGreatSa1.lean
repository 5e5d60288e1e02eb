/-
  The law's own small calls: pick, one, word, scale, span.
-/
import Derived.Test.YtcnhfffgbamonaaGreatCp1
import Derived.Test.YtcnhfffgbamonaaGreatPl0
namespace Go.Proofs.YtcnhfffgbamonaaGreat
open Go.RowKit

def pickOf (a n : Int) : Int := (if a < 0 then -(a + 1) else a) % n

set_option maxHeartbeats 400000 in
theorem pick_c (a n : Int) (w : World) (_ha : -9223372036854775808 ≤ a) (_hb : a ≤ 9223372036854775807) (_h0 : 1 ≤ n) (_hn : n ≤ 1099511627776) :
    Calls Tryz.prog 23 #[.int .i64 a, .int .i64 n] w fun e w' => e = .returned (.int .i64 (pickOf a n)) ∧ w' = w := by
  by_cases h : a < 0
  · have He := hide (show pickOf a n = -(a + 1) % n by unfold pickOf; rw [if_pos h])
    go_enter Tryz.func23, Tryz.ntmps23
    go_wp2
    go_ret
    exact ⟨ret_int (by rw [He.out, ← Int.neg_tmod, Int.tmod_eq_emod_of_nonneg (by omega)]), rfl⟩
  · have He := hide (show pickOf a n = a % n by unfold pickOf; rw [if_neg h])
    go_enter Tryz.func23, Tryz.ntmps23
    go_wp2
    go_ret
    exact ⟨ret_int (by rw [He.out]), rfl⟩

theorem conv_list (w : World) (vs : List Int) : (convert 41 9 (.slice (some ⟨w.heap.size, 0, none⟩) vs.length vs.length)).run Tryz.prog (w.alloc (.cells (vs.map (fun v => Value.int .u8 (v % 256))).toArray 5)) =
    .ok (.string ⟨(vs.map b8).toArray⟩) (w.alloc (.cells (vs.map (fun v => Value.int .u8 (v % 256))).toArray 5)) := by
  have h := run_convert_bytes_back (P := Tryz.prog) (w.alloc (.cells (vs.map (fun v => Value.int .u8 (v % 256))).toArray 5)) 41 9 5 ⟨w.heap.size, 0, none⟩ vs.length (vs.map b8) Tryz.underlying41 Tryz.underlying5 Tryz.underlying9 (by
    intro j hj
    rw [add_zero_addr, (Blk.new w 5 _).cell j]
    simp at hj
    simp [hj, b8_toNat])
  simpa using h

set_option maxRecDepth 100000 in
set_option maxHeartbeats 400000 in
theorem one_c (v : Int) (w : World) :
    Calls Tryz.prog 93 #[.int .i64 v] w fun e w' => e = .returned (.string (S8 [b8 v])) ∧ w.grownBy w' none := by
  have hcv : (convert 41 9 (.slice (some ⟨w.heap.size, 0, none⟩) 1 1)).run Tryz.prog (w.alloc (.cells #[.int .u8 (v % 256)] 5)) = .ok (.string (S8 [b8 v])) (w.alloc (.cells #[.int .u8 (v % 256)] 5)) := conv_list w [v]
  go_enter Tryz.func93, Tryz.ntmps93
  go_wp2
  go_ret
  exact ⟨rfl, World.grownBy_alloc _ _ _⟩

set_option maxRecDepth 100000 in
set_option maxHeartbeats 400000 in
theorem word4_c (v : Int) (w : World) :
    Calls Tryz.prog 94 #[.int .i64 v] w fun e w' => e = .returned (.string (S8 (w4 v))) ∧ w.grownBy w' none := by
  have hcv : (convert 41 9 (.slice (some ⟨w.heap.size, 0, none⟩) 4 4)).run Tryz.prog (w.alloc (.cells #[.int .u8 (v % 256), .int .u8 (v / 256 % 256), .int .u8 (v / 65536 % 256), .int .u8 (v / 16777216 % 256)] 5)) = .ok (.string (S8 (w4 v))) (w.alloc (.cells #[.int .u8 (v % 256), .int .u8 (v / 256 % 256), .int .u8 (v / 65536 % 256), .int .u8 (v / 16777216 % 256)] 5)) := conv_list w [v, v / 256, v / 65536, v / 16777216]
  go_enter Tryz.func94, Tryz.ntmps94
  go_wp2
  go_ret
  exact ⟨rfl, World.grownBy_alloc _ _ _⟩

set_option maxRecDepth 100000 in
set_option maxHeartbeats 400000 in
theorem span_c (lo hi : Int) (w : World) :
    Calls Tryz.prog 46 #[.int .i64 lo, .int .i64 hi] w fun e w' => e = .returned (.string (S8 [b8 lo, b8 hi])) ∧ w.grownBy w' none := by
  have hcv : (convert 41 9 (.slice (some ⟨w.heap.size, 0, none⟩) 2 2)).run Tryz.prog (w.alloc (.cells #[.int .u8 (lo % 256), .int .u8 (hi % 256)] 5)) = .ok (.string (S8 [b8 lo, b8 hi])) (w.alloc (.cells #[.int .u8 (lo % 256), .int .u8 (hi % 256)] 5)) := conv_list w [lo, hi]
  go_enter Tryz.func46, Tryz.ntmps46
  go_wp2
  go_ret
  exact ⟨rfl, World.grownBy_alloc _ _ _⟩

theorem ret_str {a b : ByteArray} (h : a = b) : Ending.returned (.string a) = .returned (.string b) := by rw [h]

set_option maxRecDepth 100000 in
set_option maxHeartbeats 400000 in
theorem scale2_c (m s : Int) (w : World) :
    Calls Tryz.prog 55 #[.int .i64 m, .int .i64 s] w fun e w' => e = .returned (.string (S8 (w4 m ++ [b8 s]))) ∧ w.grownBy w' none := by
  have Ha := hide (s8_app (w4 m) [b8 s])
  go_enter Tryz.func55, Tryz.ntmps55
  go_wp2_with fail
  refine (word4_c m w).mono ?_
  rintro e w1 ⟨rfl, hg1⟩
  go_wp2_with fail
  refine (one_c s w1).mono ?_
  rintro e w2 ⟨rfl, hg2⟩
  have hs1 : (S8 (w4 m)).size = 4 := by rw [s8_size]; rfl
  have hs2 : (S8 [b8 s]).size = 1 := by rw [s8_size]; rfl
  have G := gr_trans hg1 hg2
  clear hg1 hg2
  go_wp2
  go_ret
  exact ⟨ret_str Ha.out, G⟩

/-- Block b is the law's model. -/
def MB (w : World) (b : Nat) (ts ops : List UInt8) (nt no : Nat) (ov : Value) : Prop := Blk w b 81 #[.string (S8 ts), .string (S8 ops), .int .i64 nt, .int .i64 no, ov]

theorem data_snoc (kind : Int) (xs : List Int) (k : Nat) (x : Int) (h : xs[k]? = some x) : dataBytes kind (xs.take (k + 1)) = dataBytes kind (xs.take k) ++ (if kind = 2 then w4 x else [b8 x]) := by
  rw [take_snoc_get h]; unfold dataBytes; rw [List.flatMap_append]; simp
set_option maxRecDepth 100000 in
set_option maxHeartbeats 1000000 in
theorem mtensor_c (b B : Nat) (ts ops : List UInt8) (nt no : Nat) (ov : Value) (kind h wd c z : Int) (a : Option Addr) (n cp : Nat) (xs : List Int) (w : World) (hM : MB w b ts ops nt no ov) (hI : Ints w B (.slice a n cp) xs) (ht : ts.length ≤ 100000) (hx : xs.length ≤ 1000) (hnt : nt ≤ 1000) :
    Calls Tryz.prog 45 #[.pointer (some ⟨b, 0, none⟩), .int .i64 kind, .int .i64 h, .int .i64 wd, .int .i64 c, .int .i64 z, .slice a n cp] w fun e w' =>
      e = .returned (.int .i64 nt) ∧ MB w' b (ts ++ tbytes kind h wd c z xs) ops (nt + 1) no ov ∧ w.grownBy w' (some b) := by
  have hn := hI.len
  subst hn
  have hbl := hM.lt
  have hcv : (convert 41 9 (.slice (some ⟨w.heap.size, 0, none⟩) 5 5)).run Tryz.prog (w.alloc (.cells #[.int .u8 (kind % 256), .int .u8 (h % 256), .int .u8 (wd % 256), .int .u8 (c % 256), .int .u8 (z % 256)] 5)) = .ok (.string (S8 [b8 kind, b8 h, b8 wd, b8 c, b8 z])) (w.alloc (.cells #[.int .u8 (kind % 256), .int .u8 (h % 256), .int .u8 (wd % 256), .int .u8 (c % 256), .int .u8 (z % 256)] 5)) := conv_list w [kind, h, wd, c, z]
  go_enter Tryz.func45, Tryz.ntmps45
  go_wp2
  clear hcv
  go_loopw [15, 16] (fun s i wr => ∃ (k : Nat) (L : List UInt8), k ≤ xs.length ∧ i = .int .i64 k ∧ s = .string (S8 L) ∧ Hid (L = [b8 kind, b8 h, b8 wd, b8 c, b8 z] ++ dataBytes kind (xs.take k)) ∧ L.length ≤ 5 + 4 * k ∧ w.grownBy wr none) (fun _ i _ => xs.length - (intOf i).toNat)
  case atStart => exact ⟨0, _, Nat.zero_le _, rfl, rfl, by simp [Hid, dataBytes], by simp, World.grownBy_alloc _ _ _⟩
  case round =>
    obtain ⟨k, L, hk, rfl, rfl, HL, hL, hgk⟩ := hrel
    have hsz : (S8 L).size = L.length := s8_size L
    by_cases hlt : k < xs.length
    · obtain ⟨x, hxk⟩ : ∃ x, xs[k]? = some x := ⟨_, List.getElem?_eq_getElem hlt⟩
      obtain ⟨g, rfl, hgl, -, d0⟩ := (hI.kept0 hgk).get k x hxk
      have Hs := hide (data_snoc kind xs k x hxk)
      clear hxk
      go_wp2_with fail
      refine (one_c x wr).mono ?_
      rintro e w1 ⟨rfl, hg1⟩
      have G1 := gr_trans hgk hg1
      have d1 : w1.cell? ⟨g, k, none⟩ = some (.int .i64 x) := by rw [(gr_below hg1).cell hgl]; exact d0
      by_cases hk2 : kind = 2
      · have hk2' : (kind == 2) = true := by simp [hk2]
        have Hk := hide hk2
        clear hk2
        go_wp2_with fail
        refine (word4_c x w1).mono ?_
        rintro e w2 ⟨rfl, hg2⟩
        have G2 := gr_trans G1 hg2
        have hs4 : (S8 (w4 x)).size = 4 := by rw [s8_size]; rfl
        clear d0 d1 hg1 hg2 G1 hI
        go_wp2
        go_roundw
        case rel =>
          refine ⟨k + 1, L ++ w4 x, by omega, by go_num, by rw [s8_app], ?_, by rw [List.length_append, w4_len]; omega, G2⟩
          unfold Hid; rw [Hs.out, if_pos Hk.out, HL.out, List.append_assoc]
        case measure => simp [intOf]; omega
      · have hk2' : (kind == 2) = false := by simp [hk2]
        have Hk := hide hk2
        have hs1 : (S8 [b8 x]).size = 1 := by rw [s8_size]; rfl
        clear hk2 d0 d1 hg1 hI
        go_wp2
        go_roundw
        case rel =>
          refine ⟨k + 1, L ++ [b8 x], by omega, by go_num, by rw [s8_app], ?_, by rw [List.length_append]; simp; omega, G1⟩
          unfold Hid; rw [Hs.out, if_neg Hk.out, HL.out, List.append_assoc]
        case measure => simp [intOf]; omega
    · obtain rfl : k = xs.length := by omega
      rw [List.take_length] at HL
      have hMr : MB wr b ts ops nt no ov := Blk.kept hM hgk (by simp)
      have hts : (S8 ts).size = ts.length := s8_size ts
      have e0 : wr.cell? ⟨b, 0, none⟩ = some (.string (S8 ts)) := Blk.cell hMr 0
      have e2 : wr.cell? ⟨b, 2, none⟩ = some (.int .i64 nt) := Blk.cell hMr 2
      have f0 := Blk.free hMr 0
      have f2 := Blk.free hMr 2
      have HM := hide hMr
      clear hMr hI hM
      go_wp2
      go_ret
      refine ⟨rfl, ?_, gr_trans (gr_none hgk) (gr_trans (gr_set _ _ _ _) (gr_set _ _ _ _))⟩
      have e : tbytes kind h wd c z xs = L := HL.out.symm
      rw [e]
      unfold MB
      rw [← s8_app]
      exact (Blk.set (Blk.set HM.out 0 (.string (S8 ts ++ S8 L))) 2 (.int .i64 (nt + 1)) : Blk _ _ _ _)

end Go.Proofs.YtcnhfffgbamonaaGreat
