import Derived.Test.YtcnhfffgbamonaaGreatRows
import Derived.WalkKit
import Derived.ProofKit
import Derived.OpenShut
import Derived.SizedLaws
import Derived.ChangeSlices
import Derived.Carry
import Derived.Test.YtcnhfffgbamonaaGreatZ57
set_option maxRecDepth 100000
set_option maxHeartbeats 6400000
namespace Go.Proofs.YtcnhfffgbamonaaGreat.raw
open Go.Proofs.Tryz
open ChangeShapes WideShapes ChangeAt RowKit
open Go.ChangeMaps (open_string shut_string)
theorem cT : ownKnob prog.godebug = none := by kernel_rfl
theorem awb : prog.cellsOf 33 = 1 := by kernel_rfl
theorem Ic : prog.cellsOf 3 = 1 := by kernel_rfl
theorem by3 : prog.bytesOf 3 = 8 := by kernel_rfl
theorem by33 : prog.bytesOf 33 = 24 := by kernel_rfl
theorem LP : laidOutB prog = true := by kernel_rfl
theorem allOf {H : Type} {P : Program} {e : TypeId} {d : DataW H} {l : List (DataW H)} (h : d ∈ l) {n : Nat} (hn : n ∈ d.weights P e) : n ∈ DataW.weightsAll P e l := by
  induction l with
  | nil => cases h
  | cons x r ih =>
    simp only [DataW.weightsAll]
    rcases List.mem_cons.1 h with e1 | e1
    · subst e1; exact List.mem_append_left _ hn
    · exact List.mem_append_right _ (ih e1)
theorem openList {H : Type} {enc : TypeId × Value → H} {W : World} {n : Nat} {v : Value} {x : DataW H × List MemPlace} (h : DataW.trod enc prog W 0 (fun _ => true) true n 33 [v] = some x) (hw : ∀ m ∈ x.1.weights prog 33, m ≤ reachBytes) :
    ∃ ao cp, ∃ l : List Int, v = .slice ao l.length cp ∧ Sl W v l ∧ l.length ≤ 17592186043904 := by
  rcases open_ints underlying33 underlying3 Ic h with ⟨hcs, hx⟩ | ⟨a, len, cap, zs, hcs, -, hl, -, hz, hx, hcell, -⟩
  · have e : v = .slice none 0 0 := by simpa using hcs
    exact ⟨none, 0, [], e, ⟨none, 0, e, fun i y hy => by cases hy⟩, by simp⟩
  · have e : v = .slice (some a) len cap := by simpa using hcs
    have hz' : zs.length = cap := by simpa using hz
    have hlen : (zs.take len).length = len := by rw [List.length_take]; omega
    refine ⟨some a, cap, zs.take len, by rw [hlen]; exact e, ⟨some a, cap, by rw [hlen]; exact e, fun i y hy => ⟨a, rfl, ?_⟩⟩, ?_⟩
    · have hi : i < len := by have := M.bP hy; omega
      rw [List.getElem?_take_of_lt hi] at hy
      rw [hcell i (by omega)]
      simp [List.getD, hy]
    · have hm := hw (((lits (H := H) .i64 (zs.take len)).length + (lits (H := H) .i64 (zs.drop len)).length) * prog.bytesOf 3) (by rw [hx]; simp only [DataW.weights, underlying33]; exact List.mem_cons_self)
      have e2 : (lits (H := H) .i64 (zs.take len)).length = (zs.take len).length := by simp [lits]
      rw [by3, e2] at hm
      have e3 : reachBytes = 140737488351232 := rfl
      omega
theorem openLists {H : Type} {enc : TypeId × Value → H} {W : World} {v : Value} {d : DataW H} {p : List MemPlace} (hv : ∃ a len cap, v = .slice a len cap) (h : DataW.Trod enc prog W 0 (fun _ => true) true 25 v d p) (hw : ∀ m ∈ d.weights prog 25, m ≤ reachBytes) :
    ∃ ao cp, ∃ ins : List (List Int), v = .slice ao ins.length cp ∧ rD W W v ins ∧ ins.length ≤ 5864062014634 ∧ ∀ l ∈ ins, l.length ≤ 17592186043904 := by
  obtain ⟨n, h⟩ := h
  obtain ⟨a0, l0, c0, rfl⟩ := hv
  rcases DataW.trod_slice underlying25 h with ⟨hcs, hx⟩ | ⟨a, len, cap, elems, rest, n', -, hcs, hx, -, hl, -, hlen, hel, -, -⟩
  · have e : Value.slice a0 l0 c0 = .slice none 0 0 := by simpa [Value.cells] using hcs
    exact ⟨none, 0, [], e, ⟨none, 0, e, fun i l hl => by cases hl⟩, by simp, by simp⟩
  · have e : Value.slice a0 l0 c0 = .slice (some a) len cap := by simpa [Value.cells] using hcs
    have hd : d = .slice (elems.map (·.1)) (rest.map (·.1)) := by have := congrArg Prod.fst hx; simpa using this
    have hw1 := hw (((elems.map (·.1)).length + (rest.map (·.1)).length) * prog.bytesOf 33) (by rw [hd]; simp only [DataW.weights, underlying25]; exact List.mem_cons_self)
    rw [by33, List.length_map] at hw1
    have e3 : reachBytes = 140737488351232 := rfl
    have hw2 : ∀ y ∈ elems, ∀ m ∈ y.1.weights prog 33, m ≤ reachBytes := fun y hy m hm =>
      hw m (by rw [hd]; simp only [DataW.weights, underlying25]; exact List.mem_cons_of_mem _ (List.mem_append_left _ (allOf (List.mem_map.2 ⟨y, hy, rfl⟩) hm)))
    have key : ∀ (i : Nat) y, elems[i]? = some y → ∃ ao cp, ∃ l : List Int, W.cell? (a.add i) = some (.slice ao l.length cp) ∧ Sl W (.slice ao l.length cp) l ∧ l.length ≤ 17592186043904 := fun i y hy => by
      have hi : i < len := by have := M.bP hy; omega
      have h1 := hel i hi
      rw [hy, awb, Nat.mul_one, Option.bind_eq_some_iff] at h1
      obtain ⟨cs', hc, ht⟩ := h1
      have h2 := (World.cells?_some hc).2.2 0 (by omega)
      obtain ⟨u, rfl⟩ : ∃ u, cs' = [u] := by
        have := (World.cells?_some hc).2.1
        rcases cs' with _ | ⟨u, _ | _⟩
        · simp at this
        · exact ⟨u, rfl⟩
        · simp at this
      obtain ⟨ao, cp, l, rfl, hS, hb⟩ := openList ht (hw2 y (List.mem_of_getElem? hy))
      exact ⟨ao, cp, l, by simpa [Addr.add] using h2, hS, hb⟩
    obtain ⟨ins, hil, hin⟩ : ∃ ins : List (List Int), ins.length = elems.length ∧ ∀ (i : Nat) l, ins[i]? = some l → ∃ ao cp, W.cell? (a.add i) = some (.slice ao l.length cp) ∧ Sl W (.slice ao l.length cp) l ∧ l.length ≤ 17592186043904 := by
      have gen : ∀ (es : List (DataW H × List MemPlace)) (o : Nat), (∀ (i : Nat) y, es[i]? = some y → ∃ ao cp, ∃ l : List Int, W.cell? (a.add (o + i)) = some (.slice ao l.length cp) ∧ Sl W (.slice ao l.length cp) l ∧ l.length ≤ 17592186043904) →
          ∃ ins : List (List Int), ins.length = es.length ∧ ∀ (i : Nat) l, ins[i]? = some l → ∃ ao cp, W.cell? (a.add (o + i)) = some (.slice ao l.length cp) ∧ Sl W (.slice ao l.length cp) l ∧ l.length ≤ 17592186043904 := fun es => by
        induction es with
        | nil => exact fun o _ => ⟨[], rfl, fun i l hl => by cases hl⟩
        | cons y es ih =>
          intro o hk
          obtain ⟨ao, cp, l, h1, h2, h3⟩ := hk 0 y rfl
          obtain ⟨ins, h4, h5⟩ := ih (o + 1) (fun i y hy => by have := hk (i + 1) y (by simpa using hy); rwa [show o + 1 + i = o + (i + 1) by omega])
          refine ⟨l :: ins, by simp [h4], fun i l' hl' => ?_⟩
          cases i with
          | zero => simp at hl'; subst hl'; exact ⟨ao, cp, h1, h2, h3⟩
          | succ i =>
            have e2 := h5 i l' (by simpa using hl')
            rwa [show o + (i + 1) = o + 1 + i by omega]
      obtain ⟨ins, h4, h5⟩ := gen elems 0 (fun i y hy => by rw [Nat.zero_add]; exact key i y hy)
      exact ⟨ins, h4, fun i l hl => by have := h5 i l hl; rwa [Nat.zero_add] at this⟩
    have e1 : ins.length = len := by omega
    refine ⟨some a, cap, ins, by rw [e1]; exact e, ⟨some a, cap, by rw [e1]; exact e, fun i l hl => ?_⟩, ?_, fun l hl => ?_⟩
    · obtain ⟨ao, cp, h1, h2, -⟩ := hin i l hl
      exact ⟨a, ao, cp, rfl, h1, .inl h2⟩
    · omega
    · obtain ⟨i, hi⟩ := List.mem_iff_getElem?.1 hl
      obtain ⟨ao, cp, -, -, hb⟩ := hin i l hi
      exact hb
theorem contract (H : Type) (enc : TypeId × Value → H) (W : World) (base : Nat) (args : Array Value) (ds gs : List (DataW H)) (before : List MemPlace)
    (hval : ∀ (j : Nat) t v, Tryz.f6.params[j]? = some t → args[j]? = some v → Value.okWide prog W .any base t v)
    (hW : DataW.Whole enc prog Tryz.f6.params.toList Rows.rawSpec.vars false W args.toList ds gs before) (hz : (DataW.weightsEach prog (Tryz.f6.params.toList ++ Rows.rawSpec.plain.varTypes prog) (ds ++ gs)).all (· ≤ reachBytes) = true) :
    Calls prog 6 args W fun e W' => ∃ v, e = .returned v ∧ Rows.rawSpec.post enc prog Tryz.f6 false true false false W args v W' := by
  have hW' := hW
  obtain ⟨p, q, hA0, hV, rfl, hfz, hnd⟩ := hW
  have hA : DataW.TrodAll enc prog W 0 (fun _ => true) true Tryz.f6.params.toList args.toList ds p := hA0
  rw [Tryz.params6] at hA hval hz
  obtain ⟨v0, vs0, d0, ds0, p0, q0, hargs, rfl, rfl, h0, r0⟩ := trodAll_cons hA
  obtain ⟨v1, vs1, d1, ds1, p1, q1, rfl, rfl, rfl, h1, r1⟩ := trodAll_cons r0
  obtain ⟨rfl, rfl, rfl⟩ := trodAll_nil r1
  obtain rfl : args = #[v0, v1] := by cases args; simp_all
  obtain ⟨rfl, rfl⟩ := trodVars_none hV
  obtain ⟨s, rfl, rfl, rfl, hmax⟩ := open_string underlying9 (hval 0 9 v0 rfl rfl) h0
  have hw : ∀ m ∈ d1.weights prog 25, m ≤ reachBytes := fun m hm => by
    have := List.all_eq_true.1 hz m (DataW.weights_mem_each (j := 1) (t := 25) (d := d1) rfl rfl m hm)
    simpa using this
  obtain ⟨ao, cp, ins, rfl, hI, hn, hl⟩ := openLists (okWide_slice underlying25 (hval 1 25 v1 rfl rfl)) h1 hw
  clear hA0
  simp only [List.append_nil] at hW'
  have hs : s.size ≤ 9223372036854775807 := by
    have := hmax
    unfold maxLen at this
    omega
  refine (avYw s ao ins.length cp ins W hs hI hl hn).mono fun e W' ⟨he, hg⟩ => ?_
  subst he
  refine ⟨_, rfl, _, _, _, [], p1, [], hW', ?_, ?_, ?_, (xj hg).frame _, fun h => by cases h⟩
  · exact trodAll_cons_mk (shut_bool underlying4 _) trodAll_mk0
  · have e := trodAll_cons_mk (shut_string underlying9 hmax) (trodAll_cons_mk (Below.trod LP (by kernel_rfl) (of_decide_eq_true (by kernel_rfl)) h1 (xj hg) (fun x hx => by simpa using hW'.lt x (by simpa using hx))) trodAll_mk0)
    have e2 : DataW.TrodAll enc prog W' 0 (fun b => decide (b < W.heap.size)) true [9, 25] [Value.string s, Value.slice ao ins.length cp] [DataW.lit (Lit.string s.data.toList), d1] p1 := by simpa using e
    exact e2
  · rfl
theorem lifted (os : Os) (started : os.Started) (H : Type) (enc : TypeId × Value → H) :
    ReturnsInHanded {} Tryz.checked os 6 .any (Rows.rawSpec.pre6 enc prog Tryz.f6 Rows.rawRow.domain false) (Rows.rawSpec.post enc prog Tryz.f6 false true false false) := by
  refine returnsInHanded_of_change_sized (C := Tryz.checked) cT started (by kernel_rfl) func6
    (ChangeSpec.witness6 (enc := enc) (C := Tryz.checked) false ⟨#[], #[.string .empty, .slice none 0 0], []⟩ 8 (by kernel_rfl) (by kernel_rfl) (by kernel_rfl) (by kernel_rfl)) ?_
  intro W base args ds gs before hval hW _ hz _
  exact contract H enc W base args ds gs before hval hW hz
theorem proved : Rows.RawSaid :=
  OpenClaim.holds_of_wide 6 Tryz.f6 rfl rfl rfl rfl rfl rfl rfl ⟨rfl, rfl, rfl, rfl, rfl⟩ rfl rfl rfl rfl rfl (by kernel_rfl) func6 (by kernel_rfl)
    (of_decide_eq_true (by kernel_rfl)) (by unfold Func.isWrapper; first | (rw [if_pos (by decide +kernel)]; kernel_rfl) | (rw [if_neg (by decide +kernel)]; exact ⟨rfl, rfl⟩))
    (fun os started H enc _ => lifted os started H enc)
end Go.Proofs.YtcnhfffgbamonaaGreat.raw
namespace Go.Proofs.YtcnhfffgbamonaaGreat
theorem raw_holds : Rows.RawSaid := raw.proved
#print axioms raw_holds
end Go.Proofs.YtcnhfffgbamonaaGreat
