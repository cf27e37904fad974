/-
  panelaw.painting.
-/
import Derived.Test.YtepeepipgkejiaiDoorDRow
import Derived.Test.YtepeepipgkejiaiDoorCCel
import Derived.Deep.RegionLaw
namespace Go.Proofs.YtepeepipgkejiaiDoor
open Go.RowKit Go.Sort
set_option linter.unusedVariables false

theorem infoCell : (Tryd.prog.info? 36).map (fun i => (i.zero, i.size, i.bytes)) = some (some (.agg #[.string ⟨#[]⟩, .int .i64 0, .int .i64 0, .int .i64 0, .int .i64 0]), 5, 48) := by kernel_rfl

/-- Cells, laid one behind the other. -/
def lay5 (C : Nat → Ce) : Nat → List Value
  | 0 => []
  | k + 1 => lay5 C k ++ c5 (C k)
theorem lay5_len (C : Nat → Ce) : ∀ k, (lay5 C k).length = k * 5
  | 0 => rfl
  | k + 1 => by rw [lay5, List.length_append, lay5_len C k, c5_len]; omega
theorem lay5_at (C : Nat → Ce) : ∀ k j, j < k → ∀ (q : Nat) u, (c5 (C j))[q]? = some u → (lay5 C k)[j * 5 + q]? = some u
  | 0, j, h => by omega
  | k + 1, j, h => by
    intro q u hu
    have hq : q < 5 := by have := (List.getElem?_eq_some_iff.1 hu).1; rw [c5_len] at this; exact this
    have hl := lay5_len C k
    by_cases e : j < k
    · have := lay5_at C k j e q u hu
      simp only [lay5]
      rw [List.getElem?_append_left (by omega)]
      exact this
    · obtain rfl : j = k := by omega
      simp only [lay5]
      rw [List.getElem?_append_right (by omega), hl, show j * 5 + q - j * 5 = q by omega]
      exact hu
/-- What painting answers. -/
def Pic (W : World) (v : Value) (n : Nat) (C : Nat → Ce) : Prop := ∃ p cap, v = .slice p n cap ∧ n ≤ cap ∧ cap ≤ 9223372036854775807 ∧ (n = 0 ∨ ∃ g, p = some ⟨g, 0, none⟩ ∧ CL W g 0 n C)
theorem pic_own {W : World} {B n : Nat} {e : TypeId} {v : Value} {C : Nat → Ce} (h : W.ownsRow B e 5 v n (lay5 C n)) : Pic W v n C := by
  have h0 := h
  rcases h.2 with ⟨rfl, rfl⟩ | ⟨g, cap, cur, rfl, hb, hg, h1, h2, _⟩
  · exact ⟨none, 0, rfl, Nat.le_refl _, by omega, .inl rfl⟩
  · refine ⟨some ⟨g, 0, none⟩, cap, rfl, h1, by unfold maxLen at h2; omega, .inr ⟨g, rfl, (Array.getElem?_eq_some_iff.1 hg).1, fun i hi k u hu => ?_⟩⟩
    have hk : k < 5 := by have := (List.getElem?_eq_some_iff.1 hu).1; rw [c5_len] at this; exact this
    rw [Nat.zero_add, h0.cellAt _ (by omega)]
    exact lay5_at C n i hi k u hu
theorem cell_five_new (w : World) (e : Ce) (t : TypeId) : ∀ j u, (c5 e)[j]? = some u → (w.alloc (.cells #[.string e.t, .int .i64 e.f, .int .i64 e.g, .int .i64 e.b, .int .i64 e.p] t)).cell? ((⟨w.heap.size, 0, none⟩ : Addr).add j) = some u := by
  intro j u h
  have e' : (⟨w.heap.size, 0, none⟩ : Addr).add j = ⟨w.heap.size, 0 + j, none⟩ := by unfold Addr.add; split <;> simp_all
  rw [e', Nat.zero_add, World.cell?_alloc_at _ _ _ _ rfl]
  rw [← h]
  match j with
  | 0 => rfl
  | 1 => rfl
  | 2 => rfl
  | 3 => rfl
  | 4 => rfl
  | _ + 5 => rfl

set_option maxRecDepth 100000 in
set_option maxHeartbeats 8000000 in
theorem painting_some (n blk off cap : Nat) (C : Nat → Ce) (w : World) (h : CL w blk off n C) (hn : n ≤ 1048576) :
    Calls Tryd.prog 18 #[.slice (some ⟨blk, off, none⟩) n cap] w fun e w' => ∃ v, e = .returned v ∧ Pic w' v n C ∧ Below w.heap.size w w' := by
  have hmix : Tryd.prog.follows .mixedOrders = true := by kernel_rfl
  obtain ⟨i0, hi, hz0, hz1, hz2⟩ := info_parts infoCell
  have HW : Hid (CL w blk off n C) := h
  have HL : Hid (∀ e w, Calls Tryd.prog 31 #[cev e] w fun r w' => r = .returned (cev e) ∧ Gr w w') := cell_any
  clear h
  go_enter Tryd.func18, Tryd.ntmps18
  go_wp2
  go_loopw [3, 4] (fun v i wr => ∃ k : Nat, i = .int .i64 k ∧ k ≤ n ∧ Hid (wr.ownsRow w.heap.size 36 5 v k (lay5 C k)) ∧ Hid (Below w.heap.size w wr)) (fun _ i _ => n - (intOf i).toNat)
  case atStart => exact ⟨0, rfl, Nat.zero_le _, World.ownsRow_nil _ _ _ _, Below.refl _ _⟩
  case round =>
    obtain ⟨k, rfl, hk, HO, HB⟩ := hrel
    by_cases hlt : k < n
    · have hlt' : (k : Int) < (n : Int) := by omega
      have V := HW.out.below HB.out
      obtain ⟨e, he⟩ : ∃ e, C k = e := ⟨_, rfl⟩
      have hC1 : ∀ (q : Nat) u, (c5 e)[q]? = some u → wr.cell? ⟨blk, off + k * 5 + q, none⟩ = some u := fun q u h => V.cell k hlt q u (by rw [he]; exact h)
      have HS : Hid (lay5 C (k + 1) = lay5 C k ++ c5 e) := by show _ = _; rw [lay5, he]
      obtain ⟨t, f, g, b, p⟩ := e
      have d0 : wr.cell? ⟨blk, off + k * 5, none⟩ = some (.string t) := hC1 0 _ rfl
      have d1 := hC1 1 (.int .i64 f) rfl
      have d2 := hC1 2 (.int .i64 g) rfl
      have d3 := hC1 3 (.int .i64 b) rfl
      have d4 := hC1 4 (.int .i64 p) rfl
      have CA : Hid (∀ w, Calls Tryd.prog 31 #[.agg #[.string t, .int .i64 f, .int .i64 g, .int .i64 b, .int .i64 p]] w fun r w' => r = .returned (.agg #[.string t, .int .i64 f, .int .i64 g, .int .i64 b, .int .i64 p]) ∧ Gr w w') := fun w => HL.out ⟨t, f, g, b, p⟩ w
      clear hC1 V he
      go_wp2_with fail
      refine (CA.out wr).mono ?_
      rintro e w1 ⟨rfl, g1⟩
      have HB1 : Hid (Below w.heap.size w w1) := HB.out.trans (g1.below.mono HB.out.size)
      have HO1 : Hid (w1.ownsRow w.heap.size 36 5 u3 k (lay5 C k)) := own_below2 HO.out g1.below
      clear d0 d1 d2 d3 d4 g1 CA
      have hzr := HB1.out.size
      go_wp2_with (at_builtin; refine wpList_append_own _ rfl _ _ 28 rfl w.heap.size 36 i0 (.agg #[.string ⟨#[]⟩, .int .i64 0, .int .i64 0, .int .i64 0, .int .i64 0]) 5 48 Tryd.underlying28 hi hz0 hz1 hz2 rfl (by decide) _ _ _ rfl (World.ownsRow.alloc (w := w1) HO1.out _) _ 1 1 [.string t, .int .i64 f, .int .i64 g, .int .i64 b, .int .i64 p] rfl rfl ?c1 ?c2 ?c3 ?c4 ?c5 ?_)
      case c1 => exact cell_five_new w1 ⟨t, f, g, b, p⟩ _
      case c2 => intro u hu; simp at hu; rcases hu with rfl | rfl | rfl | rfl | rfl <;> rfl
      case c3 => unfold maxLen; omega
      case c4 => omega
      case c5 => simp; omega
      intro v' w3 hown' hg _
      have HB3 : Hid (Below w.heap.size w w3) := (HB1.out.alloc (by omega) _).grown hg (by simp; omega) (fun q hq => (HO1.out.lt q hq).1)
      have HO3 : Hid (w3.ownsRow w.heap.size 36 5 v' (k + 1) (lay5 C (k + 1))) := by show World.ownsRow _ _ _ _ _ _ _; rw [HS.out]; exact hown'
      clear hown' hg
      go_wp2
      go_roundw
      case rel => exact ⟨k + 1, by go_num, by omega, HO3.out, HB3.out⟩
      case measure => simp [intOf]; omega
    · have hge : ¬ (k : Int) < (n : Int) := by omega
      obtain rfl : n = k := by omega
      have HV := pic_own HO.out
      go_wp2
      go_ret
      exact ⟨_, rfl, HV, HB.out⟩

set_option maxRecDepth 100000 in
set_option maxHeartbeats 1000000 in
theorem painting_none (p : Option Addr) (cap : Nat) (C : Nat → Ce) (w : World) :
    Calls Tryd.prog 18 #[.slice p 0 cap] w fun e w' => ∃ v, e = .returned v ∧ Pic w' v 0 C ∧ Below w.heap.size w w' := by
  go_enter Tryd.func18, Tryd.ntmps18
  go_wp2
  go_loop [3, 4] (fun v i => v = .slice none 0 0 ∧ i = .int .i64 0) (fun _ _ => 0)
  case atStart => exact ⟨rfl, rfl⟩
  case round =>
    obtain ⟨rfl, rfl⟩ := hrel
    go_wp2
    go_ret
    exact ⟨_, rfl, ⟨none, 0, rfl, Nat.le_refl _, by omega, .inl rfl⟩, Below.refl _ _⟩

end Go.Proofs.YtepeepipgkejiaiDoor
