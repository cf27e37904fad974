/-
  New, Cells.
-/
import Derived.Test.YtdpinmlbccolnaiDoorCRep
import Derived.Test.YtdpinmlbccolnaiDoorCFill
import Derived.Laws.AppendOwn
namespace Go.Proofs.YtdpinmlbccolnaiDoor
open Go.RowKit Go.Sort
set_option linter.unusedVariables false

/-- What is not mine stays; what is new lies behind B. -/
theorem Cv.below {T : TypeId} {Q Q' : World} {M W H : Nat} {c : Nat → Nat → Ce} (h : Cv T Q M W H c) (g : Below Q.heap.size Q Q') : Cv T Q' M W H c := h.keep (g.block M h.lt)
theorem CS.below {TK T : TypeId} {Q Q' : World} {K M cap W H : Nat} {c : Nat → Nat → Ce} (h : CS TK T Q K M cap W H c) (g : Below Q.heap.size Q Q') : CS TK T Q' K M cap W H c := ⟨(g.block K h.klt).trans h.kb, h.cv.below g, h.ne, h.hc⟩
theorem cv_of_fl {T : TypeId} {Q : World} {M W H : Nat} {e : Ce} {L : List Value} (h : Q.heap[M]? = some (.cells L.toArray T (0, 0))) (hf : Fl L (W * H) (W * H) e) : Cv T Q M W H (fun _ _ => e) := by
  refine ⟨⟨_, h⟩, fun y x hy hx k u hu => ?_⟩
  have hi : y * W + x < W * H := by
    have : (y + 1) * W ≤ H * W := Nat.mul_le_mul_right _ (by omega)
    rw [Nat.add_mul] at this
    rw [Nat.mul_comm W H]; omega
  have := hf.2 (y * W + x) k u hi hu
  rw [show (y * W + x) * 5 + k = y * W * 5 + x * 5 + k by rw [Nat.add_mul]] at this
  simp [World.cell?, h, this]

theorem r5_cells {T : TypeId} {Q : World} {b : Nat} {e : Ce} (h : R5 T Q b e) (k : Nat) (u : Value) (hu : (c5 e)[k]? = some u) : Q.cell? ⟨b, k, none⟩ = some u := by
  unfold R5 at h
  have : (#[.string e.t, .int .i64 e.f, .int .i64 e.g, .int .i64 e.b, .int .i64 e.p] : Array Value)[k]? = some u := by
    rw [← hu]; unfold c5; simp
  simp [World.cell?, h, this]

set_option maxRecDepth 100000 in
set_option maxHeartbeats 2000000 in
theorem new_bad (W H : Int) (w : World) (h : ¬ ((1 ≤ W ∧ W ≤ 400) ∧ (1 ≤ H ∧ H ≤ 400))) : Calls Tryd.prog 40 #[.int .i64 W, .int .i64 H] w fun e w' => e = .returned (.tuple #[.pointer none, .int .i64 6]) ∧ w' = w := by
  have SD : Hid (∀ n w, Calls Tryd.prog 60 #[.int .i64 n] w fun e w' => e = .returned (.bool (decide (1 ≤ n ∧ n ≤ 400))) ∧ w' = w) := side_any
  have S1 := SD.out W
  have S2 := SD.out H
  by_cases h1 : 1 ≤ W ∧ W ≤ 400
  · have h2 : ¬ (1 ≤ H ∧ H ≤ 400) := fun q => h ⟨h1, q⟩
    rw [decide_eq_true h1] at S1
    rw [decide_eq_false h2] at S2
    clear h
    go_enter Tryd.func40, Tryd.ntmps40
    go_wp2_with fail
    refine Calls.mono (S1 _) ?_
    rintro e w1 ⟨rfl, hw1⟩
    obtain rfl := hw1.symm
    go_wp2_with fail
    refine Calls.mono (S2 _) ?_
    rintro e w2 ⟨rfl, hw2⟩
    obtain rfl := hw2.symm
    go_wp2
    go_ret2
    exact ⟨rfl, rfl⟩
  · rw [decide_eq_false h1] at S1
    clear h
    go_enter Tryd.func40, Tryd.ntmps40
    go_wp2_with fail
    refine Calls.mono (S1 _) ?_
    rintro e w1 ⟨rfl, hw1⟩
    obtain rfl := hw1.symm
    go_wp2
    go_ret2
    exact ⟨rfl, rfl⟩

set_option maxRecDepth 100000 in
set_option maxHeartbeats 2000000 in
theorem new_ok (W H : Nat) (w : World) (hW : 1 ≤ W ∧ W ≤ 400) (hH : 1 ≤ H ∧ H ≤ 400) : Calls Tryd.prog 40 #[.int .i64 W, .int .i64 H] w fun e w' => ∃ K M, e = .returned (.tuple #[.pointer (some ⟨K, 0, none⟩), .int .i64 0]) ∧ CS 105 36 w' K M (W * H) W H (fun _ _ => bk 0 0 0) ∧ w.heap.size ≤ K ∧ w.heap.size ≤ M ∧ Below w.heap.size w w' := by
  have SD : Hid (∀ n w, Calls Tryd.prog 60 #[.int .i64 n] w fun e w' => e = .returned (.bool (decide (1 ≤ n ∧ n ≤ 400))) ∧ w' = w) := side_any
  have S1 := SD.out W
  have S2 := SD.out H
  rw [decide_eq_true (by omega)] at S1 S2
  have BL : Hid (∀ w, Calls Tryd.prog 61 #[sv 0 0 0] w fun e w' => e = .returned (cev (bk 0 0 0)) ∧ Gr w w') := blank_any 0 0 0
  obtain ⟨e, he⟩ : ∃ e, bk 0 0 0 = e := ⟨_, rfl⟩
  rw [he] at BL ⊢
  unfold sv cev at BL
  obtain ⟨n, hn⟩ : ∃ n, W * H = n := ⟨_, rfl⟩
  have nb : 1 ≤ n ∧ n ≤ 160000 := by rw [← hn]; exact ⟨Nat.mul_le_mul hW.1 hH.1, Nat.mul_le_mul hW.2 hH.2⟩
  have e1 : (W : Int) * (H : Int) = (n : Int) := by rw [← hn]; simp
  have HN : Hid (W * H = n) := hn
  rw [hn]
  clear hn he
  go_enter Tryd.func40, Tryd.ntmps40
  go_wp2_with fail
  refine Calls.mono (S1 _) ?_
  rintro e1 w1 ⟨rfl, hw1⟩
  obtain rfl := hw1.symm
  go_wp2_with fail
  refine Calls.mono (S2 _) ?_
  rintro e2 w2 ⟨rfl, hw2⟩
  obtain rfl := hw2.symm
  go_wp2_with fail
  refine Calls.mono (BL.out _) ?_
  rintro e3 w3 ⟨rfl, g3⟩
  have G3 : Hid (Gr w w3) := g3
  clear g3
  have B0 : Hid (R5 36 (w3.alloc (.cells #[.string e.t, .int .i64 e.f, .int .i64 e.g, .int .i64 e.b, .int .i64 e.p] 36)) w3.heap.size e) := R5.new w3 e _
  go_wp2_with fail
  refine Calls.mono (repeat_any _ e w3.heap.size n nb B0.out.lt (r5_cells B0.out)) ?_
  rintro e4 w4 ⟨rfl, ⟨L, hL, hF⟩, b4⟩
  have HL : Hid (w4.heap[w3.heap.size + 1]? = some (.cells L.toArray 36 (0, 0)) ∧ Fl L n n e ∧ Below (w3.heap.size + 1) (w3.alloc (.cells #[.string e.t, .int .i64 e.f, .int .i64 e.g, .int .i64 e.b, .int .i64 e.p] 36)) w4) := by
    simp only [World.size_alloc] at hL b4
    exact ⟨hL, hF, b4⟩
  clear hL hF b4
  simp only [World.size_alloc]
  obtain ⟨M, hM⟩ : ∃ z, w3.heap.size + 1 = z := ⟨_, rfl⟩
  rw [hM] at HL
  rw [hM]
  have HM : Hid (w3.heap.size + 1 = M) := hM
  clear hM
  go_wp2
  go_ret2
  refine ⟨w4.heap.size, M, rfl, ?_, ?_, ?_, ?_⟩
  · have hlt : M < w4.heap.size := (Array.getElem?_eq_some_iff.1 HL.out.1).1
    refine ⟨?_, ?_, by omega, by rw [HN.out]; exact Nat.le_refl _⟩
    · rw [HN.out]; exact heap_alloc_new _ _
    · refine Cv.gr ?_ ((Gr.refl w4).alloc _)
      refine cv_of_fl HL.out.1 ?_
      rw [HN.out]; exact HL.out.2.1
  · have := G3.out.size; have := HL.out.2.2.size; simp only [World.size_alloc] at this; omega
  · have := G3.out.size; have := HM.out; omega
  · have hz := G3.out.size
    have b1 : Below w.heap.size w (w3.alloc (.cells #[.string e.t, .int .i64 e.f, .int .i64 e.g, .int .i64 e.b, .int .i64 e.p] 36)) := (G3.out.alloc _).below
    have b2 : Below w.heap.size w w4 := b1.trans (HL.out.2.2.mono (by have := HM.out; omega))
    exact b2.alloc (by have := HL.out.2.2.size; simp only [World.size_alloc] at this; omega) _
end Go.Proofs.YtdpinmlbccolnaiDoor
