/-
  The law's model: op, bytes.
-/
import Derived.Test.YtcnhfffgbamonaaGreatSa1
namespace Go.Proofs.YtcnhfffgbamonaaGreat
open Go.RowKit

theorem mapb_snoc {xs : List Int} {k : Nat} {x : Int} (h : xs[k]? = some x) : (xs.take (k + 1)).map b8 = (xs.take k).map b8 ++ [b8 x] := by
  rw [take_snoc_get h]; simp

set_option maxRecDepth 100000 in
set_option maxHeartbeats 1000000 in
theorem mop_c (b B : Nat) (ts ops : List UInt8) (nt no : Nat) (ov : Value) (kind out : Int) (ns : List UInt8) (a : Option Addr) (n cp : Nat) (xs : List Int) (w : World) (hM : MB w b ts ops nt no ov) (hI : Ints w B (.slice a n cp) xs) (ht : ops.length ≤ 100000) (hx : xs.length ≤ 1000) (hn1 : ns.length ≤ 1000) (hno : no ≤ 1000) :
    Calls Tryz.prog 47 #[.pointer (some ⟨b, 0, none⟩), .int .i64 kind, .slice a n cp, .int .i64 out, .string (S8 ns)] w fun e w' =>
      e = .returned (.tuple #[]) ∧ MB w' b ts (ops ++ obytes kind xs out ns) nt (no + 1) ov ∧ w.grownBy w' (some b) := by
  have hn := hI.len
  subst hn
  have hbl := hM.lt
  go_enter Tryz.func47, Tryz.ntmps47
  go_wp2_with fail
  refine (one_c kind w).mono ?_
  rintro e w1 ⟨rfl, hg1⟩
  go_wp2
  go_loopw [10, 11] (fun s i wr => ∃ (k : Nat) (L : List UInt8), k ≤ xs.length ∧ i = .int .i64 k ∧ s = .string (S8 L) ∧ Hid (L = [b8 kind] ++ (xs.take k).map b8) ∧ L.length = 1 + k ∧ w.grownBy wr none) (fun _ i _ => xs.length - (intOf i).toNat)
  case atStart => exact ⟨0, _, Nat.zero_le _, rfl, rfl, by simp [Hid], by simp, hg1⟩
  case round =>
    obtain ⟨k, L, hk, rfl, rfl, HL, hL, hgk⟩ := hrel
    have hsz : (S8 L).size = 1 + k := by rw [s8_size]; exact hL
    have HLl := hide hL
    clear hL
    by_cases hlt : k < xs.length
    · obtain ⟨x, hxk⟩ : ∃ x, xs[k]? = some x := ⟨_, List.getElem?_eq_getElem hlt⟩
      obtain ⟨g, rfl, hgl, -, d0⟩ := (hI.kept0 hgk).get k x hxk
      have Hs := hide (mapb_snoc hxk)
      clear hxk
      go_wp2_with fail
      refine (one_c x wr).mono ?_
      rintro e w2 ⟨rfl, hg2⟩
      have G1 := gr_trans hgk hg2
      have hs1 : (S8 [b8 x]).size = 1 := by rw [s8_size]; rfl
      clear d0 hg2 hI
      go_wp2
      go_roundw
      case rel =>
        refine ⟨k + 1, L ++ [b8 x], by omega, by go_num, by rw [s8_app], ?_, by rw [List.length_append, HLl.out]; simp; omega, G1⟩
        unfold Hid; rw [Hs.out, HL.out, List.append_assoc]
      case measure => simp [intOf]; omega
    · obtain rfl : k = xs.length := by omega
      rw [List.take_length] at HL
      clear hI
      go_wp2_with fail
      refine (one_c out wr).mono ?_
      rintro e w3 ⟨rfl, hg3⟩
      have G3 := gr_trans hgk hg3
      have hMr : MB w3 b ts ops nt no ov := Blk.kept hM G3 (by simp)
      have hs1 : (S8 [b8 out]).size = 1 := by rw [s8_size]; rfl
      have hs2 : (S8 ops).size = ops.length := s8_size _
      have hs3 : (S8 ns).size = ns.length := s8_size _
      have e1 : w3.cell? ⟨b, 1, none⟩ = some (.string (S8 ops)) := Blk.cell hMr 1
      have e3 : w3.cell? ⟨b, 3, none⟩ = some (.int .i64 no) := Blk.cell hMr 3
      have f1 := Blk.free hMr 1
      have f3 := Blk.free hMr 3
      have HM := hide hMr
      clear hMr hM hg3 hgk
      go_wp2
      go_end0
      refine ⟨rfl, ?_, gr_trans (gr_none G3) (gr_trans (gr_set _ _ _ _) (gr_set _ _ _ _))⟩
      have e : obytes kind xs out ns = (L ++ [b8 out]) ++ ns := by unfold obytes; rw [HL.out]
      rw [e]
      unfold MB
      rw [← s8_app4]
      exact (Blk.set (Blk.set HM.out 1 _) 3 (.int .i64 (no + 1)) : Blk _ _ _ _)

set_option maxRecDepth 100000 in
set_option maxHeartbeats 1000000 in
theorem mbytes_c (b B : Nat) (ts ops : List UInt8) (nt no : Nat) (a : Option Addr) (n cp : Nat) (xs : List Int) (w : World) (hM : MB w b ts ops nt no (.slice a n cp)) (hI : Ints w B (.slice a n cp) xs) (ht : ts.length ≤ 100000) (ho : ops.length ≤ 100000) (hx : xs.length ≤ 1000) :
    Calls Tryz.prog 95 #[.pointer (some ⟨b, 0, none⟩)] w fun e w' => e = .returned (.string (S8 (mbytes ts ops nt no xs))) ∧ w.grownBy w' none := by
  have hn := hI.len
  subst hn
  have hbl := hM.lt
  have c0 : w.cell? ⟨b, 2, none⟩ = some (.int .i64 nt) := Blk.cell hM 2
  go_enter Tryz.func95, Tryz.ntmps95
  go_wp2_with fail
  refine (one_c nt w).mono ?_
  rintro e w1 ⟨rfl, hg1⟩
  have M1 : MB w1 b ts ops nt no (.slice a xs.length cp) := Blk.kept hM hg1 (by simp)
  have c1 : w1.cell? ⟨b, 3, none⟩ = some (.int .i64 no) := Blk.cell M1 3
  clear c0
  go_wp2_with fail
  refine (one_c no w1).mono ?_
  rintro e w2 ⟨rfl, hg2⟩
  have M2 : MB w2 b ts ops nt no (.slice a xs.length cp) := Blk.kept M1 hg2 (by simp)
  have c2 : w2.cell? ⟨b, 4, none⟩ = some (.slice a xs.length cp) := Blk.cell M2 4
  have G2 := gr_trans hg1 hg2
  clear c1 hg1 hg2 M1
  go_wp2_with fail
  refine (one_c (xs.length : Int) w2).mono ?_
  rintro e w3 ⟨rfl, hg3⟩
  have M3 : MB w3 b ts ops nt no (.slice a xs.length cp) := Blk.kept M2 hg3 (by simp)
  have G3 := gr_trans G2 hg3
  have d0 : w3.cell? ⟨b, 0, none⟩ = some (.string (S8 ts)) := Blk.cell M3 0
  have d1 : w3.cell? ⟨b, 1, none⟩ = some (.string (S8 ops)) := Blk.cell M3 1
  have hs1 : (S8 [b8 nt]).size = 1 := by rw [s8_size]; rfl
  have hs2 : (S8 [b8 no]).size = 1 := by rw [s8_size]; rfl
  have hs3 : (S8 [b8 (xs.length : Int)]).size = 1 := by rw [s8_size]; rfl
  have hs4 : (S8 ts).size = ts.length := s8_size _
  have hs5 : (S8 ops).size = ops.length := s8_size _
  clear c2 hg3 G2 M2
  go_wp2
  go_quiet (fail)
  go_wp2
  clear d0 d1
  go_loopw [6, 7] (fun s i wr => ∃ (k : Nat) (L : List UInt8), k ≤ xs.length ∧ i = .int .i64 k ∧ s = .string (S8 L) ∧ Hid (L = (((((M.headL ++ [b8 nt]) ++ ts) ++ [b8 no]) ++ ops) ++ [b8 xs.length]) ++ (xs.take k).map b8) ∧ L.length ≤ 7 + ts.length + ops.length + k ∧ w.grownBy wr none) (fun _ i _ => xs.length - (intOf i).toNat)
  case atStart =>
    refine ⟨0, (((((M.headL ++ [b8 nt]) ++ ts) ++ [b8 no]) ++ ops) ++ [b8 xs.length]), Nat.zero_le _, rfl, ?_, by simp [Hid], ?_, gr_trans G3 (gr_drewN _ _ _)⟩
    · rw [← s8_app, ← s8_app, ← s8_app, ← s8_app, ← s8_app]; rfl
    · simp [M.headL]; omega
  case round =>
    obtain ⟨k, L, hk, rfl, rfl, HL, hL, hgk⟩ := hrel
    have hsz : (S8 L).size = L.length := s8_size L
    have Mr : MB wr b ts ops nt no (.slice a xs.length cp) := Blk.kept hM hgk (by simp)
    have e4 : wr.cell? ⟨b, 4, none⟩ = some (.slice a xs.length cp) := Blk.cell Mr 4
    clear Mr M3 G3
    by_cases hlt : k < xs.length
    · obtain ⟨x, hxk⟩ : ∃ x, xs[k]? = some x := ⟨_, List.getElem?_eq_getElem hlt⟩
      obtain ⟨g, rfl, hgl, -, d0⟩ := (hI.kept0 hgk).get k x hxk
      have Hs := hide (mapb_snoc hxk)
      clear hxk hM hI
      go_wp2_with fail
      refine (one_c x wr).mono ?_
      rintro e w4 ⟨rfl, hg4⟩
      have G1 := gr_trans hgk hg4
      have hs1 : (S8 [b8 x]).size = 1 := by rw [s8_size]; rfl
      clear d0 hg4 e4
      go_wp2
      go_roundw
      case rel =>
        refine ⟨k + 1, L ++ [b8 x], by omega, by go_num, by rw [s8_app], ?_, by rw [List.length_append]; simp; omega, G1⟩
        unfold Hid; rw [Hs.out, HL.out, List.append_assoc]
      case measure => simp [intOf]; omega
    · obtain rfl : k = xs.length := by omega
      rw [List.take_length] at HL
      clear hM hI
      go_wp2
      go_ret
      exact ⟨ret_str (by rw [HL.out]; rfl), hgk⟩

end Go.Proofs.YtcnhfffgbamonaaGreat
