/-
  The reader's head; the whole of the bytes: parse.
-/
import Derived.Test.YtcnhfffgbamonaaGreatRd8
import Derived.Lib.Strings
namespace Go.Proofs.YtcnhfffgbamonaaGreat
open Go.RowKit

theorem head_list (s : ByteArray) : (s.extract 0 4).toList = s.data.toList.take 4 := by
  rw [Lib.toList_data, Lib.extract_data]; simp

theorem skip_eq_bad {s : ByteArray} (h : s.size < 4 ∨ (!(s.extract 0 4).toList == [116, 102, 108, 49]) = true) : M.skipHead s = ⟨0, true⟩ := by
  rw [head_list] at h
  unfold M.skipHead M.headL
  rw [if_pos]
  rcases h with h | h
  · simp [h]
  · simp at h; simp [h]
theorem skip_eq_go {s : ByteArray} (h4 : 4 ≤ s.size) (h : (!(s.extract 0 4).toList == [116, 102, 108, 49]) = false) : M.skipHead s = ⟨4, false⟩ := by
  rw [head_list] at h
  unfold M.skipHead M.headL
  rw [if_neg]
  simp at h
  simp [h]; omega

set_option maxHeartbeats 400000 in
theorem skip_c (b : Nat) (s : ByteArray) (w : World) (h : Rd w b s ⟨0, false⟩) (hm : s.size ≤ 4096) :
    Calls Tryz.prog 135 #[.pointer (some ⟨b, 0, none⟩)] w fun e w' => e = .returned (.tuple #[]) ∧ Rd w' b s (M.skipHead s) ∧ (M.skipHead s).pos ≤ s.size ∧ w.grownBy w' (some b) := by
  obtain ⟨c0, c1, c2, f1, f2⟩ := h.cells
  by_cases hs : s.size < 4
  · go_enter Tryz.func135, Tryz.ntmps135
    go_wp2
    refine bodyPost_ret (v := .tuple #[]) (by simp [results, Tryz.results135, go_sem]) rfl ?_
    rw [skip_eq_bad (.inl hs)]
    exact ⟨rfl, Blk.set h 2 _, Nat.zero_le _, gr_set _ _ _ _⟩
  · have hs4 : 4 ≤ s.size := by omega
    cases hh : (!(s.extract 0 4).toList == [116, 102, 108, 49]) with
    | true =>
      have e := skip_eq_bad (.inr hh)
      have He := hide e
      clear e
      go_enter Tryz.func135, Tryz.ntmps135
      go_wp2
      refine bodyPost_ret (v := .tuple #[]) (by simp [results, Tryz.results135, go_sem]) rfl ?_
      rw [He.out]
      exact ⟨rfl, Blk.set h 2 _, Nat.zero_le _, gr_set _ _ _ _⟩
    | false =>
      have e := skip_eq_go hs4 hh
      have He := hide e
      clear e
      go_enter Tryz.func135, Tryz.ntmps135
      go_wp2
      go_end0
      rw [He.out]
      exact ⟨rfl, Blk.set h 1 _, hs4, gr_set _ _ _ _⟩

theorem owns_shape {w : World} {base : Nat} {e : TypeId} {size n : Nat} {v : Value} {xs : List Value} (h : w.ownsRow base e size v n xs) : ∃ ao c, v = .slice ao n c := by
  rcases h.2 with ⟨rfl, rfl⟩ | ⟨g, cap, cur, rfl, _⟩
  · exact ⟨_, _, rfl⟩
  · exact ⟨_, _, rfl⟩

/-- Block m is the model md; what it leads to lies behind it. -/
def Mod (w : World) (m : Nat) (md : M.Md) : Prop :=
  ∃ a1 c1 a2 c2 a3 c3, Blk w m 139 #[.slice a1 md.tensors.length c1, .slice a2 md.ops.length c2, .slice a3 md.outs.length c3] ∧
    Tns w (m + 1) (.slice a1 md.tensors.length c1) md.tensors ∧ Ops w (m + 1) (.slice a2 md.ops.length c2) md.ops ∧ Ints w (m + 1) (.slice a3 md.outs.length c3) md.outs

structure WfM (md : M.Md) : Prop where
  ts : ∀ t ∈ md.tensors, WfT t
  os : ∀ o ∈ md.ops, WfO o
  nt : md.tensors.length ≤ 255
  no : md.ops.length ≤ 255
  nu : md.outs.length ≤ 255

theorem outs_len {s : ByteArray} {r r' : M.RS} {l : List Int} (hp : r.pos ≤ s.size) (h : M.outs s r = (l, r')) : l.length ≤ 255 := by
  have h1 := (plain_le s r hp).2
  have e : l = (M.outs s r).1 := by rw [h]
  rw [e]
  simp only [M.outs]
  split
  · rw [rep_len]; omega
  · simp

theorem parse_err {s : ByteArray} (h : s.size ≤ 4096) (hb : (M.readAll s).2.bad = true ∨ (M.readAll s).2.pos ≠ s.size) : M.parse s = 2 := by
  unfold M.parse
  rw [if_neg (by omega), if_pos]
  rcases hb with hb | hb <;> simp [hb]
theorem parse_good {s : ByteArray} (h : s.size ≤ 4096) (hb : (M.readAll s).2.bad = false) (hp : (M.readAll s).2.pos = s.size) : M.parse s = 0 := by
  unfold M.parse
  rw [if_neg (by omega), if_neg]
  simp [hb, hp]

set_option maxHeartbeats 400000 in
theorem parse_long (s : ByteArray) (w : World) (hs : 4096 < s.size) (hm : s.size ≤ 9223372036854775807) :
    Calls Tryz.prog 99 #[.string s] w fun e w' => e = .returned (.tuple #[.pointer none, .int .i64 1]) ∧ w.grownBy w' none := by
  go_enter Tryz.func99, Tryz.ntmps99
  go_wp2
  go_ret2
  exact ⟨rfl, World.grownBy.refl _ _⟩

theorem tensors_s (b : Nat) (s : ByteArray) (r : M.RS) (w : World) (h : Rd w b s r) (hp : r.pos ≤ s.size) (hs : s.size ≤ 4096) :
    Calls Tryz.prog 136 #[.pointer (some ⟨b, 0, none⟩)] w fun e w' => ∃ ao c ts r', Hid (M.tensors s r = (ts, r')) ∧ (∀ t ∈ ts, WfT t) ∧ ts.length ≤ 255 ∧ r'.pos ≤ s.size ∧ e = .returned (.slice ao ts.length c) ∧ Tns w' w.heap.size (.slice ao ts.length c) ts ∧ Rd w' b s r' ∧ w.grownBy w' (some b) :=
  (tensors_c b s r w h hp hs).mono fun e w' ⟨v, ts, r', h1, h2, h3, h4, h5, h6, h7, h8⟩ => by
    have h6' := h6
    obtain ⟨ps, q1, q2, q3⟩ := h6
    obtain ⟨ao, c, rfl⟩ := owns_shape q2
    exact ⟨ao, c, ts, r', h1, h2, h3, h4, h5, h6', h7, h8⟩
theorem ops_s (b : Nat) (s : ByteArray) (r : M.RS) (w : World) (h : Rd w b s r) (hp : r.pos ≤ s.size) (hs : s.size ≤ 4096) :
    Calls Tryz.prog 137 #[.pointer (some ⟨b, 0, none⟩)] w fun e w' => ∃ ao c os r', Hid (M.ops s r = (os, r')) ∧ (∀ o ∈ os, WfO o) ∧ os.length ≤ 255 ∧ r'.pos ≤ s.size ∧ e = .returned (.slice ao os.length c) ∧ Ops w' w.heap.size (.slice ao os.length c) os ∧ Rd w' b s r' ∧ w.grownBy w' (some b) :=
  (ops_c b s r w h hp hs).mono fun e w' ⟨v, ts, r', h1, h2, h3, h4, h5, h6, h7, h8⟩ => by
    have h6' := h6
    obtain ⟨ps, q1, q2, q3⟩ := h6
    obtain ⟨ao, c, rfl⟩ := owns_shape q2
    exact ⟨ao, c, ts, r', h1, h2, h3, h4, h5, h6', h7, h8⟩
theorem outs_s (b : Nat) (s : ByteArray) (r : M.RS) (w : World) (h : Rd w b s r) (hp : r.pos ≤ s.size) (hs : s.size ≤ 4096) :
    Calls Tryz.prog 138 #[.pointer (some ⟨b, 0, none⟩)] w fun e w' => ∃ ao c l r', Hid (M.outs s r = (l, r')) ∧ r'.pos ≤ s.size ∧ e = .returned (.slice ao l.length c) ∧ Ints w' w.heap.size (.slice ao l.length c) l ∧ Rd w' b s r' ∧ w.grownBy w' (some b) :=
  (outs_c b s r w h hp hs).mono fun e w' ⟨v, l, r', h1, h2, h3, h4, h5, h6⟩ => by
    obtain ⟨ao, c, rfl⟩ := owns_shape h4
    exact ⟨ao, c, l, r', h1, h2, h3, h4, h5, h6⟩

/-- Inside parse: the reader, the model. -/
structure MInv (w0 w1 : World) (s : ByteArray) (r : M.RS) (cs : Array Value) : Prop where
  R : Rd w1 w0.heap.size s r
  B : Blk w1 (w0.heap.size + 1) 139 cs
  g : w0.grownBy w1 none

theorem MInv.call {w0 w1 w2 : World} {s : ByteArray} {r r' : M.RS} {cs : Array Value} (h : MInv w0 w1 s r cs) (hR : Rd w2 w0.heap.size s r') (hg : w1.grownBy w2 (some w0.heap.size)) : MInv w0 w2 s r' cs :=
  ⟨hR, h.B.kept hg (by simp), gr_new h.g hg (Nat.le_refl _)⟩
theorem MInv.put {w0 w1 : World} {s : ByteArray} {r : M.RS} {cs : Array Value} (h : MInv w0 w1 s r cs) (i : Nat) (v : Value) : MInv w0 (w1.setCell ⟨w0.heap.size + 1, i, none⟩ v) s r (cs.setIfInBounds i v) :=
  ⟨Blk.other h.R (by simp) _, h.B.set i v, gr_new h.g (gr_set _ _ _ _) (by omega)⟩

set_option maxHeartbeats 1000000 in
theorem parse_c (s : ByteArray) (w : World) (hs : s.size ≤ 4096) :
    Calls Tryz.prog 99 #[.string s] w fun e w' => w.grownBy w' none ∧ ((M.parse s = 2 ∧ e = .returned (.tuple #[.pointer none, .int .i64 2])) ∨
      (M.parse s = 0 ∧ ∃ m, w.heap.size ≤ m ∧ e = .returned (.tuple #[.pointer (some ⟨m, 0, none⟩), .int .i64 0]) ∧ Mod w' m (M.readAll s).1 ∧ WfM (M.readAll s).1)) := by
  have I0 : MInv w ((w.alloc (.cells #[.string s, .int .i64 0, .bool false] 187)).alloc (.cells #[.slice none 0 0, .slice none 0 0, .slice none 0 0] 139)) s ⟨0, false⟩ #[.slice none 0 0, .slice none 0 0, .slice none 0 0] :=
    ⟨Blk.alloc (Blk.new w 187 _) _, Blk.new1 w _ _ _, gr_alloc2 w _ _ _⟩
  go_enter Tryz.func99, Tryz.ntmps99
  go_wp2_with fail
  refine (skip_c w.heap.size s _ I0.R hs).mono ?_
  rintro e w1 ⟨rfl, hR1, hp1, hg1⟩
  have I1 := I0.call hR1 hg1
  clear hR1 hg1 I0
  go_wp2_with fail
  refine (tensors_s w.heap.size s _ _ I1.R hp1 hs).mono ?_
  rintro e w2 ⟨a2, c2, ts, r2, hx2, hwt, hlt, hp2, rfl, hT2, hR2, hg2⟩
  have I2 := I1.call hR2 hg2
  have hT2' := hT2.mono (base' := w.heap.size + 2) (by have := I1.B.lt; omega)
  clear hR2 hg2 hT2 I1
  have d2 : w2.cell? ⟨w.heap.size + 1, 0, none⟩ = some (.slice none 0 0) := I2.B.cell 0
  have b2 := I2.B.free 0
  go_wp2_with fail
  have J2 := I2.put 0 (.slice a2 ts.length c2)
  have hT3 := hT2'.kept (gr_set w2 (w.heap.size + 1) 0 (.slice a2 ts.length c2)) (by omega)
  refine (ops_s w.heap.size s _ _ J2.R hp2 hs).mono ?_
  rintro e w4 ⟨a4, c4, os, r4, hx4, hwo, hlo, hp4, rfl, hO4, hR4, hg4⟩
  have I4 := J2.call hR4 hg4
  have hT4 := hT3.kept hg4 (by omega)
  have hO4' := hO4.mono (base' := w.heap.size + 2) (by have := J2.B.lt; omega)
  clear hR4 hg4 hT3 hT2' hO4 J2 I2 d2 b2
  have d4 : w4.cell? ⟨w.heap.size + 1, 1, none⟩ = some (.slice none 0 0) := I4.B.cell 1
  have b4 := I4.B.free 1
  go_wp2_with fail
  have J4 := I4.put 1 (.slice a4 os.length c4)
  have hT5 := hT4.kept (gr_set w4 (w.heap.size + 1) 1 (.slice a4 os.length c4)) (by omega)
  have hO5 := hO4'.kept (gr_set w4 (w.heap.size + 1) 1 (.slice a4 os.length c4)) (by omega)
  refine (outs_s w.heap.size s _ _ J4.R hp4 hs).mono ?_
  rintro e w6 ⟨a6, c6, us, r6, hx6, hp6, rfl, hU6, hR6, hg6⟩
  have I6 := J4.call hR6 hg6
  have hT6 := hT5.kept hg6 (by omega)
  have hO6 := hO5.kept hg6 (by omega)
  have hU6' := hU6.mono (base' := w.heap.size + 2) (by have := J4.B.lt; omega)
  clear hR6 hg6 hT5 hO5 hT4 hO4' hU6 J4 I4 d4 b4
  have d6 : w6.cell? ⟨w.heap.size + 1, 2, none⟩ = some (.slice none 0 0) := I6.B.cell 2
  have b6 := I6.B.free 2
  have J6 := I6.put 2 (.slice a6 us.length c6)
  have hT7 := hT6.kept (gr_set w6 (w.heap.size + 1) 2 (.slice a6 us.length c6)) (by omega)
  have hO7 := hO6.kept (gr_set w6 (w.heap.size + 1) 2 (.slice a6 us.length c6)) (by omega)
  have hU7 := hU6'.kept (gr_set w6 (w.heap.size + 1) 2 (.slice a6 us.length c6)) (by omega)
  have hwu := outs_len hp4 hx6.out
  clear hT6 hO6 hU6'
  obtain ⟨c0, c1, c2', f1, f2⟩ := I6.R.cells
  have hall : M.readAll s = (⟨ts, os, us⟩, r6) := by simp only [M.readAll, hx2.out, hx4.out, hx6.out]
  have Hall := hide hall
  clear hall c0 f1 f2 hx2 hx4 hx6
  have gz := J6.g
  cases hbad : r6.bad with
  | true =>
    have hpe := parse_err hs (by rw [Hall.out]; exact .inl hbad)
    have Hpe := hide hpe
    have Hb := hide hbad
    rw [hbad] at c2'
    clear hpe hbad
    go_wp2
    go_ret2
    exact ⟨gz, .inl ⟨Hpe.out, rfl⟩⟩
  | false =>
    by_cases hpos : r6.pos = s.size
    · have hpe := parse_good hs (by rw [Hall.out]; exact hbad) (by rw [Hall.out]; exact hpos)
      have Hpe := hide hpe
      rw [hbad] at c2'
      rw [hpos] at c1
      clear hpe hbad hpos
      go_wp2
      go_ret2
      refine ⟨gz, .inr ⟨Hpe.out, w.heap.size + 1, by omega, rfl, ?_, ?_⟩⟩
      · rw [Hall.out]; exact ⟨a2, c2, a4, c4, a6, c6, J6.B, hT7, hO7, hU7⟩
      · rw [Hall.out]; exact ⟨hwt, hwo, hlt, hlo, hwu⟩
    · have hpe := parse_err hs (by rw [Hall.out]; exact .inr hpos)
      have Hpe := hide hpe
      have hn : ((r6.pos : Int) != (s.size : Int)) = true := by simp; omega
      rw [hbad] at c2'
      clear hpe hbad hpos
      go_wp2
      go_ret2
      exact ⟨gz, .inl ⟨Hpe.out, rfl⟩⟩

end Go.Proofs.YtcnhfffgbamonaaGreat
