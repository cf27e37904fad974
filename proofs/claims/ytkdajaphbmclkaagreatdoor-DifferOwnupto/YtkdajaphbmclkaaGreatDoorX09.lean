/-
  The walk of paneref.Width.
-/
import Derived.Test.YtkdajaphbmclkaaGreatDoorWid
import Derived.Test.YtkdajaphbmclkaaGreatDoorEnc
namespace Go.Proofs.YtkdajaphbmclkaaGreatDoor
open Go.RowKit
set_option linter.unusedVariables false

/-- A new row of numbers. -/
theorem ints_lit (w : World) (zs : List Int) (cs : Array Value) (cap : Nat) (h : cs = (zs.map (Value.int .i64)).toArray) : Ints (w.alloc (.cells cs 3)) (.slice (some ⟨w.heap.size, 0, none⟩) zs.length cap) zs := by
  subst h
  refine ⟨_, cap, rfl, .inr ⟨w.heap.size, 0, rfl, by simp, fun j hj => ?_⟩⟩
  rw [World.cell?_alloc_mark]
  simp [hj]

set_option maxRecDepth 100000 in
set_option maxHeartbeats 1000000 in
theorem zeros_any (w : World) :
    Calls Tryz.prog 43 #[] w fun e w' => ∃ v, e = .returned v ∧ Ints w' v (flat zerosL) ∧ Below w.heap.size w w' := by
  go_enter Tryz.func43, Tryz.ntmps43
  go_wp2
  go_ret
  exact ⟨_, rfl, ints_lit w (flat zerosL) _ 26 rfl, (Below.refl _ _).alloc (Nat.le_refl _) _⟩
set_option maxRecDepth 100000 in
set_option maxHeartbeats 1000000 in
theorem wides_any (w : World) :
    Calls Tryz.prog 44 #[] w fun e w' => ∃ v, e = .returned v ∧ Ints w' v (flat widesL) ∧ Below w.heap.size w w' := by
  go_enter Tryz.func44, Tryz.ntmps44
  go_wp2
  go_ret
  exact ⟨_, rfl, ints_lit w (flat widesL) _ 28 rfl, (Below.refl _ _).alloc (Nat.le_refl _) _⟩

set_option maxRecDepth 100000 in
set_option maxHeartbeats 1000000 in
theorem inside_some (r : Int) (l : List (Int × Int)) (hl : l.length ≤ 1000) (b off cap : Nat) (w : World) (hc : ∀ j, j < (flat l).length → w.cell? ⟨b, off + j, none⟩ = some (.int .i64 ((flat l)[j]?.getD 0))) :
    Calls Tryz.prog 42 #[.int .i64 r, .slice (some ⟨b, off, none⟩) (flat l).length cap] w fun e w' => e = .returned (.bool (inL r l)) ∧ w' = w := by
  have HC : Hid (∀ j, j < (flat l).length → w.cell? ⟨b, off + j, none⟩ = some (.int .i64 ((flat l)[j]?.getD 0))) := hc
  clear hc
  have hfl := flat_length l
  have HFL : Hid ((flat l).length = 2 * l.length) := hfl
  rw [hfl]
  clear hfl
  go_enter Tryz.func42, Tryz.ntmps42
  go_wp2
  go_loop [5] (fun i => ∃ k : Nat, k ≤ l.length ∧ i = .int .i64 (2 * k : Nat) ∧ Hid (∀ j, j < k → ¬ ((l.getD j (0, 0)).1 ≤ r ∧ r ≤ (l.getD j (0, 0)).2))) (fun i => 2 * l.length - (intOf i).toNat)
  case atStart => exact ⟨0, Nat.zero_le _, rfl, fun j h => by omega⟩
  case round =>
    obtain ⟨k, hk, rfl, hno⟩ := hrel
    by_cases hlt : k < l.length
    · have hlt' : (2 * (k : Int)) + 1 < 2 * (l.length : Int) := by omega
      obtain ⟨p, q, hp⟩ : ∃ p q, l.getD k (0, 0) = (p, q) := ⟨_, _, rfl⟩
      have f := flat_at l k
      rw [hp] at f
      have c0 : w.cell? ⟨b, off + 2 * k, none⟩ = some (.int .i64 p) := by rw [HC.out (2 * k) (by rw [HFL.out]; omega), f.1]
      have c1 : w.cell? ⟨b, off + (2 * k + 1), none⟩ = some (.int .i64 q) := by rw [HC.out (2 * k + 1) (by rw [HFL.out]; omega), f.2]
      have HP : Hid (l.getD k (0, 0) = (p, q)) := hp
      have hmem : (p, q) ∈ l := by
        rw [← hp, List.getD_eq_getElem?_getD, List.getElem?_eq_getElem hlt]; exact List.getElem_mem hlt
      have HM : Hid ((p, q) ∈ l) := hmem
      clear f hp hmem
      by_cases h1 : p ≤ r
      · by_cases h2 : r ≤ q
        · have e : Hid (inL r l = true) := (inL_iff r l).2 ⟨_, HM.out, h1, h2⟩
          go_wp2
          go_ret
          rw [e.out]
          exact ⟨rfl, rfl⟩
        · go_wp2
          go_round
          case rel =>
            refine ⟨k + 1, by omega, by go_num, fun j hj => ?_⟩
            by_cases ej : j = k
            · subst ej; rw [HP.out]; omega
            · exact hno.out j (by omega)
          case measure => simp [intOf]; omega
      · go_wp2
        go_round
        case rel =>
          refine ⟨k + 1, by omega, by go_num, fun j hj => ?_⟩
          by_cases ej : j = k
          · subst ej; rw [HP.out]; omega
          · exact hno.out j (by omega)
        case measure => simp [intOf]; omega
    · have hlt' : ¬ (2 * (k : Int)) + 1 < 2 * (l.length : Int) := by omega
      have e : Hid (inL r l = false) := by
        show _ = _
        rw [Bool.eq_false_iff]
        intro h
        obtain ⟨p, hp, a⟩ := (inL_iff r l).1 h
        obtain ⟨j, hj, rfl⟩ := List.mem_iff_getElem.1 hp
        have := hno.out j (by omega)
        rw [List.getD_eq_getElem?_getD, List.getElem?_eq_getElem hj] at this
        exact this a
      go_wp2
      go_ret
      rw [e.out]
      exact ⟨rfl, rfl⟩

theorem inside_any (r : Int) (l : List (Int × Int)) (hl : l.length ≤ 1000) (hl0 : 0 < l.length) (v : Value) (w : World) (h : Ints w v (flat l)) :
    Calls Tryz.prog 42 #[.int .i64 r, v] w fun e w' => e = .returned (.bool (inL r l)) ∧ w' = w := by
  obtain ⟨a, cap, rfl, hh⟩ := h
  have hne : flat l ≠ [] := fun e => by have := flat_length l; rw [e] at this; simp at this; omega
  obtain ⟨b, off, rfl, hb, hc⟩ := hh.resolve_left hne
  exact inside_some r l hl b off cap w hc

set_option maxRecDepth 100000 in
set_option maxHeartbeats 1000000 in
theorem rWidth_any (r : Int) (w : World) :
    Calls Tryz.prog 25 #[.int .i64 r] w fun e w' => e = .returned (.int .i64 (wid r)) ∧ Below w.heap.size w w' := by
  unfold wid
  by_cases hz : inL r zerosL = true
  · rw [if_pos hz]
    have HZ : Hid (inL r zerosL = true) := hz
    clear hz
    go_enter Tryz.func25, Tryz.ntmps25
    go_wp2_with fail
    refine (zeros_any _).mono ?_
    rintro e w1 ⟨v1, rfl, I1, b1⟩
    go_wp2_with fail
    refine (inside_any r zerosL (by decide) (by decide) _ _ I1).mono ?_
    rintro e w2 ⟨rfl, rfl⟩
    rw [HZ.out]
    go_wp2
    go_ret
    exact ⟨rfl, b1⟩
  · have HZ : Hid (inL r zerosL = false) := by show _ = _; simpa using hz
    rw [if_neg hz]
    clear hz
    by_cases hw : inL r widesL = true
    · rw [if_pos hw]
      have HW : Hid (inL r widesL = true) := hw
      clear hw
      go_enter Tryz.func25, Tryz.ntmps25
      go_wp2_with fail
      refine (zeros_any _).mono ?_
      rintro e w1 ⟨v1, rfl, I1, b1⟩
      go_wp2_with fail
      refine (inside_any r zerosL (by decide) (by decide) _ _ I1).mono ?_
      rintro e w2 ⟨rfl, rfl⟩
      rw [HZ.out]
      clear I1
      go_wp2_with fail
      refine (wides_any _).mono ?_
      rintro e w3 ⟨v3, rfl, I3, b3⟩
      go_wp2_with fail
      refine (inside_any r widesL (by decide) (by decide) _ _ I3).mono ?_
      rintro e w4 ⟨rfl, rfl⟩
      rw [HW.out]
      go_wp2
      go_ret
      exact ⟨rfl, b1.trans (b3.mono b1.size)⟩
    · rw [if_neg hw]
      have HW : Hid (inL r widesL = false) := by show _ = _; simpa using hw
      clear hw
      go_enter Tryz.func25, Tryz.ntmps25
      go_wp2_with fail
      refine (zeros_any _).mono ?_
      rintro e w1 ⟨v1, rfl, I1, b1⟩
      go_wp2_with fail
      refine (inside_any r zerosL (by decide) (by decide) _ _ I1).mono ?_
      rintro e w2 ⟨rfl, rfl⟩
      rw [HZ.out]
      clear I1
      go_wp2_with fail
      refine (wides_any _).mono ?_
      rintro e w3 ⟨v3, rfl, I3, b3⟩
      go_wp2_with fail
      refine (inside_any r widesL (by decide) (by decide) _ _ I3).mono ?_
      rintro e w4 ⟨rfl, rfl⟩
      rw [HW.out]
      go_wp2
      go_ret
      exact ⟨rfl, b1.trans (b3.mono b1.size)⟩

end Go.Proofs.YtkdajaphbmclkaaGreatDoor
