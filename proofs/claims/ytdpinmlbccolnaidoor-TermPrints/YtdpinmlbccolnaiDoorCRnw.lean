/-
  The reference's canvas: NewCanvas.
-/
import Derived.Test.YtdpinmlbccolnaiDoorCCel
namespace Go.Proofs.YtdpinmlbccolnaiDoor
open Go.RowKit Go.Sort
set_option linter.unusedVariables false

theorem infoRC : (Tryd.prog.info? 78).map (fun i => (i.zero, i.size, i.bytes)) = some (some (.agg #[.string ⟨#[]⟩, .int .i64 0, .int .i64 0, .int .i64 0, .int .i64 0]), 5, 48) := by kernel_rfl
/-- Blank cells, one behind another. -/
def rows5 : Nat → List Value
  | 0 => []
  | n + 1 => rows5 n ++ c5 (bk 0 0 0)
theorem rows5_len (n : Nat) : (rows5 n).length = n * 5 := by
  induction n with
  | zero => rfl
  | succ n ih => rw [rows5, List.length_append, ih, c5_len]; omega
theorem rows5_get {n i k : Nat} {u : Value} (hi : i < n) (hu : (c5 (bk 0 0 0))[k]? = some u) : (rows5 n)[i * 5 + k]? = some u := by
  induction n with
  | zero => omega
  | succ n ih =>
    have hk : k < 5 := (List.getElem?_eq_some_iff.1 hu).1
    rw [rows5]
    by_cases h : i < n
    · rw [List.getElem?_append_left (by rw [rows5_len]; omega)]; exact ih h
    · obtain rfl : i = n := by omega
      rw [List.getElem?_append_right (by rw [rows5_len]; omega), rows5_len, show i * 5 + k - i * 5 = k by omega]; exact hu
/-- The struct of a canvas that is being made. -/
def KB (T : TypeId) (Q : World) (K W H : Nat) (v : Value) : Prop := Q.heap[K]? = some (.cells #[.int .i64 W, .int .i64 H, v] T (0, 0))
theorem KB.lt {T : TypeId} {Q : World} {K W H : Nat} {v : Value} (h : KB T Q K W H v) : K < Q.heap.size := (Array.getElem?_eq_some_iff.1 h).1
theorem KB.c2 {T : TypeId} {Q : World} {K W H : Nat} {v : Value} (h : KB T Q K W H v) : Q.cell? ⟨K, 2, none⟩ = some v := by unfold KB at h; simp [World.cell?, h]
theorem KB.fz {T : TypeId} {Q : World} {K W H : Nat} {v : Value} (h : KB T Q K W H v) (j : Nat) : Q.frozen? ⟨K, j, none⟩ = false := frozen_of_row _ _ _ _ _ h
theorem KB.set {T : TypeId} {Q : World} {K W H : Nat} {v : Value} (h : KB T Q K W H v) (v' : Value) : KB T (Q.setCell ⟨K, 2, none⟩ v') K W H v' := heap_setCell_same _ K 2 _ T _ h
theorem cell_five_new (w : World) (e : Ce) (T : TypeId) (j : Nat) (u : Value) (hj : (c5 e)[j]? = some u) : (w.alloc (.cells #[.string e.t, .int .i64 e.f, .int .i64 e.g, .int .i64 e.b, .int .i64 e.p] T)).cell? ((⟨w.heap.size, 0, none⟩ : Addr).add j) = some u := by
  have h := R5.new w e T
  have hk : j < 5 := (List.getElem?_eq_some_iff.1 hj).1
  rcases (by omega : j = 0 ∨ j = 1 ∨ j = 2 ∨ j = 3 ∨ j = 4) with rfl | rfl | rfl | rfl | rfl
  · exact h.c0.trans hj
  · exact h.c1.trans hj
  · exact h.c2.trans hj
  · exact h.c3.trans hj
  · exact h.c4.trans hj

theorem own_set {w : World} {B n size k : Nat} {e : TypeId} {v : Value} {xs : List Value} (h : w.ownsRow B e size v n xs) (hk : k < B) (o : Nat) (u : Value) : (w.setCell ⟨k, o, none⟩ u).ownsRow B e size v n xs := by
  refine ⟨h.1, ?_⟩
  rcases h.2 with h2 | ⟨g, cap, cur, a, b, c, d⟩
  · exact .inl h2
  · exact .inr ⟨g, cap, cur, a, b, (Below.heap_setCell w ⟨k, o, none⟩ u g (by show g ≠ k; omega)).trans c, d⟩
/-- A new canvas of the reference's stands at K. -/
def RN (w w' : World) (W H K : Nat) : Prop := w.heap.size ≤ K ∧ ∃ M cap, CS 54 78 w' K M cap W H (fun _ _ => bk 0 0 0) ∧ w.heap.size ≤ M ∧ Below w.heap.size w w'

set_option maxRecDepth 100000 in
set_option maxHeartbeats 4000000 in
theorem rnew_ok (W H : Nat) (hW : 1 ≤ W ∧ W ≤ 400) (hH : 1 ≤ H ∧ H ≤ 400) (w : World) : Calls Tryd.prog 42 #[.int .i64 W, .int .i64 H] w fun e w' => ∃ K, e = .returned (.tuple #[.pointer (some ⟨K, 0, none⟩), .int .i64 0]) ∧ RN w w' W H K := by
  obtain ⟨i0, hi0, hz0, hz1, hz2⟩ := info_parts infoRC
  obtain ⟨n, hnn⟩ : ∃ n, W * H = n := ⟨_, rfl⟩
  have nb : 1 ≤ n ∧ n ≤ 160000 := by rw [← hnn]; exact ⟨Nat.mul_le_mul hW.1 hH.1, Nat.mul_le_mul hW.2 hH.2⟩
  have eN : (W : Int) * (H : Int) = (n : Int) := by rw [← hnn]; simp
  have HN : Hid (W * H = n) := hnn
  clear hnn
  obtain ⟨S, hS⟩ : ∃ z, w.heap.size = z := ⟨_, rfl⟩
  have HS : Hid (w.heap.size = S) := hS
  go_enter Tryd.func42, Tryd.ntmps42
  go_wp2_with fail
  obtain ⟨W0, hW0⟩ : ∃ z, w.alloc (.cells #[.int .i64 W, .int .i64 H, .slice none 0 0] 54) = z := ⟨_, rfl⟩
  have B0 : Hid (Below w.heap.size w W0 ∧ S + 1 ≤ W0.heap.size) := by
    rw [← hW0]; exact ⟨((Gr.refl w).alloc _).below, by rw [World.size_alloc, hS]; omega⟩
  have R0 : Hid (KB 54 W0 S W H (.slice none 0 0)) := by rw [← hW0, ← hS]; exact heap_alloc_new _ _
  try rw [hW0]
  try rw [hS]
  clear hW0 hS
  go_loopw [7] (fun iv wi => ∃ i : Nat, i ≤ n ∧ iv = .int .i64 i ∧ ∃ v, Hid (KB 54 wi S W H v ∧ wi.ownsRow (S + 1) 78 5 v i (rows5 i) ∧ Below w.heap.size w wi ∧ S + 1 ≤ wi.heap.size)) (fun iv _ => n - (intOf iv).toNat)
  case atStart => exact ⟨0, by omega, rfl, _, R0.out, World.ownsRow_nil _ _ _ _, B0.out.1, B0.out.2⟩
  case round =>
    obtain ⟨i, hi, rfl, v, HI⟩ := hrel
    by_cases hil : i < n
    · have hil' : (i : Int) < (n : Int) := by omega
      have k2 := HI.out.1.c2
      have hsz := HI.out.2.2.2
      go_wp2_with (at_builtin; refine wpList_append_own _ rfl _ _ 44 rfl (S + 1) 78 i0 (.agg #[.string ⟨#[]⟩, .int .i64 0, .int .i64 0, .int .i64 0, .int .i64 0]) 5 48 Tryd.underlying44 hi0 hz0 hz1 hz2 rfl (by decide) _ _ _ rfl (HI.out.2.1.alloc _) _ 1 1 (c5 (bk 0 0 0)) rfl rfl ?c1 ?c2 ?c3 ?c4 ?c5 ?_)
      case c1 => exact cell_five_new _ (bk 0 0 0) _
      case c2 => intro u hu; unfold c5 at hu; simp at hu; rcases hu with rfl | rfl | rfl | rfl | rfl <;> rfl
      case c3 => unfold maxLen; omega
      case c4 => omega
      case c5 => simp; omega
      intro v' w6 hown' hg _
      have hrow : ∀ q, Value.ownBlock v = some q → S + 1 ≤ q ∧ q < wr.heap.size := fun q hq => HI.out.2.1.lt q hq
      have kl := HI.out.1.lt
      have K6 : KB 54 w6 S W H v := by
        refine (hg.block S (by rw [World.size_alloc]; omega) (fun e => by have := hrow _ e.symm; omega)).trans ?_
        exact (((Gr.refl wr).alloc _).block kl).trans HI.out.1
      have hb6 : Below w.heap.size w w6 := (HI.out.2.2.1.alloc (by rw [HS.out]; omega) _).grown hg (by rw [World.size_alloc, HS.out]; omega) (fun q hq => by have := hrow q hq; rw [HS.out]; omega)
      have hs6 : S + 1 ≤ w6.heap.size := by have := hg.size; rw [World.size_alloc] at this; omega
      have HK : Hid (KB 54 w6 S W H v ∧ w6.ownsRow (S + 1) 78 5 v' (i + 1) (rows5 (i + 1)) ∧ Below w.heap.size w w6 ∧ S + 1 ≤ w6.heap.size) := ⟨K6, hown', hb6, hs6⟩
      rcases hown'.2 with ⟨_, h0⟩ | ⟨g, cp, cur, hvv, _⟩
      · omega
      subst hvv
      have k2' := K6.c2
      have fz := K6.fz
      clear K6 hb6 hs6 hg hown' hrow k2
      go_wp2
      go_roundw
      case rel =>
        refine ⟨i + 1, by omega, by go_num, _, HK.out.1.set _, own_set HK.out.2.1 (by omega) _ _, ?_, ?_⟩
        · exact HK.out.2.2.1.setCell (p := ⟨S, 2, none⟩) (by show w.heap.size ≤ S; rw [HS.out]; omega) _
        · simpa [World.setCell] using HK.out.2.2.2
      case measure => simp [intOf]; omega
    · have hil' : ¬ (i : Int) < (n : Int) := by omega
      obtain rfl : i = n := by omega
      rcases HI.out.2.1.2 with ⟨_, h0⟩ | ⟨M, cap, cur, hv, hM, hcur, hc1, hc2, hc3, hc4⟩
      · omega
      have hce := HI.out.2.1.cells (g := M) (by rw [hv]; rfl)
      have HCS : Hid (CS 54 78 wr S M cap W H (fun _ _ => bk 0 0 0)) := by
        refine ⟨?_, ⟨⟨cur, hcur⟩, fun y x hy hx k u hu => ?_⟩, by omega, by rw [HN.out]; exact hc1⟩
        · have := HI.out.1; rw [hv, ← HN.out] at this; exact this
        · have hl := lin_lt hy hx
          rw [HN.out] at hl
          have := hce _ u (rows5_get hl hu)
          rw [show (⟨M, 0, none⟩ : Addr).add ((y * W + x) * 5 + k) = ⟨M, y * W * 5 + x * 5 + k, none⟩ by unfold Addr.add; split <;> simp_all [Nat.add_mul]] at this
          exact this
      have HF : Hid (S + 1 ≤ M) := hM
      clear hv hcur hc1 hc2 hc3 hc4 hM hce
      go_wp2
      refine bodyPost_ret (results_tmp2 rfl _ _ _) rfl ?_
      exact ⟨S, rfl, by rw [HS.out]; omega, M, cap, HCS.out, by rw [HS.out]; have := HF.out; omega, HI.out.2.2.1⟩
end Go.Proofs.YtdpinmlbccolnaiDoor
