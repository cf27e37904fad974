/-
  differ.Sound.
-/
import Derived.Test.YtepeepipgkejiaiDoorDRow
namespace Go.Proofs.YtepeepipgkejiaiDoor
open Go.RowKit Go.Sort
set_option linter.unusedVariables false

theorem not_scr {C : Nat → Ce} {n : Nat} {v : Int} (h : ¬ (1 ≤ v ∧ v ≤ 400)) : ¬ Scr C n v := fun ⟨W, H, h1, _, h3, h4, _⟩ => h (by omega)
theorem not_scr_rem {C : Nat → Ce} {n W : Nat} (h : ¬ n % W = 0) : ¬ Scr C n (W : Int) := fun ⟨W', H, h1, h2, _⟩ => by
  obtain rfl : W = W' := by omega
  exact h (by rw [h2]; exact Nat.mul_mod_left _ _)
theorem not_scr_quo {C : Nat → Ce} {W H : Nat} (hW : 1 ≤ W) (h : ¬ (1 ≤ H ∧ H ≤ 400)) : ¬ Scr C (H * W) (W : Int) := fun ⟨W', H', h1, h2, _, _, h3, h4, _⟩ => by
  obtain rfl : W = W' := by omega
  have : H = H' := Nat.eq_of_mul_eq_mul_right hW h2
  subst this
  exact h ⟨h3, h4⟩
theorem scr_iff {C : Nat → Ce} {W H : Nat} (hW : 1 ≤ W) (hW4 : W ≤ 400) (hH : 1 ≤ H) (hH4 : H ≤ 400) : Scr C (H * W) (W : Int) ↔ ∀ y, y < H → RowOk C (y * W) (y * W + W) := by
  constructor
  · rintro ⟨W', H', h1, h2, _, _, _, _, h5⟩
    obtain rfl : W = W' := by omega
    have : H = H' := Nat.eq_of_mul_eq_mul_right hW h2
    subst this
    exact h5
  · intro h
    exact ⟨W, H, rfl, rfl, hW, hW4, hH, hH4, h⟩

set_option maxRecDepth 100000 in
set_option maxHeartbeats 8000000 in
theorem dSound_any (C : Nat → Ce) (v : Int) (p : Option Addr) (n cap : Nat) (hb : n ≤ 1048576) (hc1 : n ≤ cap) (hc2 : cap ≤ 9223372036854775807) (w : World) (hC : n = 0 ∨ ∃ g, p = some ⟨g, 0, none⟩ ∧ CL w g 0 n C) (ht : TabAt w) (hs : ∀ i, i < n → (C i).t.size ≤ 1099511627776) :
    Calls Tryd.prog 17 #[.slice p n cap, .int .i64 v] w fun r w' => Tells w w' r (Scr C n v) := by
  have DS : Hid (∀ n w, Calls Tryd.prog 29 #[.int .i64 n] w fun e w' => e = .returned (.bool (decide (1 ≤ n ∧ n ≤ 400))) ∧ w' = w) := dSide_any
  by_cases hv : 1 ≤ v ∧ v ≤ 400
  · obtain ⟨W, rfl⟩ : ∃ W : Nat, v = (W : Int) := ⟨v.toNat, by omega⟩
    have DS1 : Hid (∀ w, Calls Tryd.prog 29 #[.int .i64 (W : Int)] w fun e w' => e = .returned (.bool true) ∧ w' = w) := fun w => by have := DS.out (W : Int) w; rw [decide_eq_true hv] at this; exact this
    have hW0 : ¬ (W : Int) = 0 := by omega
    by_cases hr : n % W = 0
    · have hr' : ((n : Int) % (W : Int) != 0) = false := by
        have : (n : Int) % (W : Int) = ((n % W : Nat) : Int) := by omega
        rw [this, hr]; rfl
      obtain ⟨H, hH⟩ : ∃ H, n = H * W := ⟨n / W, by have := Nat.div_add_mod n W; rw [hr, Nat.mul_comm] at this; omega⟩
      have hq : (n : Int) / (W : Int) = (H : Int) := by
        rw [hH, Int.natCast_mul]
        exact Int.mul_ediv_cancel _ hW0
      have HSC : Hid (n = H * W) := hH
      have hHn : H ≤ n := by rw [hH]; exact Nat.le_mul_of_pos_right _ (by omega)
      have hq2 : wrap64 ((n : Int) / (W : Int)) = (H : Int) := by rw [hq]; unfold wrap64; omega
      by_cases hh : 1 ≤ H ∧ H ≤ 400
      · have DS2 : Hid (∀ w, Calls Tryd.prog 29 #[.int .i64 (H : Int)] w fun e w' => e = .returned (.bool true) ∧ w' = w) := fun w => by have := DS.out (H : Int) w; rw [decide_eq_true (by omega)] at this; exact this
        obtain ⟨g, rfl, hCL⟩ : ∃ g, p = some ⟨g, 0, none⟩ ∧ CL w g 0 n C := by
          rcases hC with h | h
          · have : H * W = 0 := by omega
            rcases Nat.mul_eq_zero.1 this with h | h <;> omega
          · exact h
        have HC : Hid (CL w g 0 n C) := hCL
        have HT : Hid (TabAt w) := ht
        have HZ : Hid (∀ i, i < n → (C i).t.size ≤ 1099511627776) := hs
        have HSI : Hid (Scr C n (W : Int) ↔ ∀ y, y < H → RowOk C (y * W) (y * W + W)) := by show _ ↔ _; rw [hH]; exact scr_iff (by omega) (by omega) hh.1 hh.2
        clear hCL hC ht hs hq hr hH
        go_enter Tryd.func17, Tryd.ntmps17
        go_wp2_with fail
        refine (DS1.out _).mono ?_
        rintro e w1 ⟨rfl, hw⟩
        obtain rfl := hw.symm
        go_wp2_with fail
        refine (DS2.out _).mono ?_
        rintro e w1 ⟨rfl, hw⟩
        obtain rfl := hw.symm
        go_wp2
        go_loopw [0] (fun rv wr => ∃ (y x m c : Nat) (p : Option Addr), y ≤ H ∧ Hid (x = y * W) ∧ Hid (∀ y', y' < y → RowOk C (y' * W) (y' * W + W)) ∧ x + m = n ∧ rv = .slice p m c ∧ m ≤ c ∧ c ≤ 9223372036854775807 ∧ (x < n → p = some ⟨g, x * 5, none⟩) ∧ Hid (Below w.heap.size w wr)) (fun rv _ => lenOf rv)
        case atStart => exact ⟨0, 0, n, cap, _, Nat.zero_le _, by show 0 = 0 * W; rw [Nat.zero_mul], fun y' h => absurd h (by omega), by omega, rfl, hc1, hc2, fun _ => rfl, Below.refl _ _⟩
        case round =>
          obtain ⟨y, x, m, c, p, hy, HX, HR, hm, rfl, hmc, hc3, hp, HB⟩ := hrel
          by_cases hlt : x < n
          · obtain rfl := hp hlt
            have hm0 : (0 : Int) < (m : Int) := by omega
            have hy1 : y < H := by
              rcases Nat.lt_or_ge y H with h | h
              · exact h
              · have h1 : y = H := by omega
                have h2 := HX.out
                have h3 := HSC.out
                rw [h1] at h2
                omega
            have hxW : x + W ≤ n := by
              have h1 : (y + 1) * W ≤ H * W := Nat.mul_le_mul_right _ hy1
              rw [Nat.add_mul, Nat.one_mul, ← HX.out, ← HSC.out] at h1
              exact h1
            have hWm : W ≤ m := by omega
            have IR : Hid (∀ cap, W ≤ cap → cap ≤ 9223372036854775807 → Calls Tryd.prog 30 #[.slice (some ⟨g, x * 5, none⟩) W cap] wr fun r w' => ∃ bb : Bool, r = .returned (.bool bb) ∧ Hid (bb = true ↔ RowOk C (y * W) (y * W + W)) ∧ Hid (Below w.heap.size w w')) := fun cap h1 h2 => (isRow_any C g x W (x + W) cap n rfl hxW hb h1 h2 wr (HC.out.below HB.out) (HT.out.below HB.out) HZ.out).mono fun r w' h => by
              obtain ⟨bb, h1, h2, h3⟩ := h
              rw [← HX.out]
              exact ⟨bb, h1, h2, HB.out.trans (h3.mono HB.out.size)⟩
            have hWc : W ≤ c := by omega
            go_wp2_with fail
            refine (IR.out _ (by omega) (by omega)).mono ?_
            rintro r w2 ⟨bb, rfl, HI, HB2⟩
            cases bb with
            | false =>
              go_wp2
              go_ret
              exact ⟨false, rfl, ⟨fun h => (nomatch h), fun h => (nomatch HI.out.2 (HSI.out.1 h y hy1))⟩, HB2.out⟩
            | true =>
              have HR2 : Hid (∀ y', y' < y + 1 → RowOk C (y' * W) (y' * W + W)) := fun y' h => by
                by_cases e : y' = y
                · subst e; exact HI.out.1 rfl
                · exact HR.out y' (by omega)
              go_wp2
              refine ⟨⟨y + 1, x + W, m - W, c - W, _, hy1, by show _ = _; rw [HX.out, Nat.add_mul, Nat.one_mul], HR2.out, by omega, rfl, by omega, by omega, fun hx => ?_, HB2.out⟩, by simp only [lenOf]; omega⟩
              rw [if_neg (by omega), Nat.add_mul]
          · have hm0 : ¬ (0 : Int) < (m : Int) := by omega
            have hyH : y = H := by
              have h2 := HX.out
              have h3 := HSC.out
              have h4 : y * W = H * W := by omega
              exact Nat.eq_of_mul_eq_mul_right (by omega) h4
            subst hyH
            go_wp2
            go_ret
            exact ⟨true, rfl, ⟨fun _ => HSI.out.2 HR.out, fun _ => rfl⟩, HB.out⟩
      · have DS2 : Hid (∀ w, Calls Tryd.prog 29 #[.int .i64 (H : Int)] w fun e w' => e = .returned (.bool false) ∧ w' = w) := fun w => by have := DS.out (H : Int) w; rw [decide_eq_false (by omega)] at this; exact this
        have HNS : Hid (¬ Scr C n (W : Int)) := by show ¬ _; rw [hH]; exact not_scr_quo (by omega) hh
        clear hq hH hr
        go_enter Tryd.func17, Tryd.ntmps17
        go_wp2_with fail
        refine (DS1.out _).mono ?_
        rintro e w1 ⟨rfl, hw⟩
        obtain rfl := hw.symm
        go_wp2_with fail
        refine (DS2.out _).mono ?_
        rintro e w1 ⟨rfl, hw⟩
        obtain rfl := hw.symm
        go_wp2
        go_ret
        exact ⟨false, rfl, ⟨fun h => (nomatch h), fun h => absurd h HNS.out⟩, Below.refl _ _⟩
    · have hr' : ((n : Int) % (W : Int) != 0) = true := by
        have : (n : Int) % (W : Int) = ((n % W : Nat) : Int) := by omega
        rw [this]; simp; omega
      have HNS : Hid (¬ Scr C n (W : Int)) := not_scr_rem hr
      clear hr
      go_enter Tryd.func17, Tryd.ntmps17
      go_wp2_with fail
      refine (DS1.out _).mono ?_
      rintro e w1 ⟨rfl, hw⟩
      obtain rfl := hw.symm
      go_wp2
      go_ret
      exact ⟨false, rfl, ⟨fun h => (nomatch h), fun h => absurd h HNS.out⟩, Below.refl _ _⟩
  · have DS1 : Hid (∀ w, Calls Tryd.prog 29 #[.int .i64 v] w fun e w' => e = .returned (.bool false) ∧ w' = w) := fun w => by have := DS.out v w; rw [decide_eq_false hv] at this; exact this
    go_enter Tryd.func17, Tryd.ntmps17
    go_wp2_with fail
    refine (DS1.out _).mono ?_
    rintro e w1 ⟨rfl, hw⟩
    obtain rfl := hw.symm
    go_wp2
    go_ret
    exact ⟨false, rfl, ⟨fun h => (nomatch h), fun h => absurd h (not_scr hv)⟩, Below.refl _ _⟩

end Go.Proofs.YtepeepipgkejiaiDoor
