/-
  paneref.Clamped, Held, Room.
-/
import Derived.Test.YtmlicipdkbeihacSSplit
namespace Go.Proofs.Ytmlicipdkbeihac
open Go.RowKit Go.Sort
set_option linter.unusedVariables false

set_option maxRecDepth 100000 in
set_option maxHeartbeats 1000000 in
theorem rClamped_any (x : Int) (w : World) :
    Calls Try.prog 22 #[.int .i64 x] w fun e w' => e = .returned (.int .i64 (cl x)) ∧ w' = w := by
  obtain ⟨y, hy⟩ : ∃ y, cl x = y := ⟨_, rfl⟩
  rw [hy]
  unfold cl at hy
  by_cases h1 : x < 0
  · rw [if_pos h1] at hy
    subst hy
    go_enter Try.func22, Try.ntmps22
    go_wp2
    go_ret
    exact ⟨rfl, rfl⟩
  · rw [if_neg h1] at hy
    by_cases h2 : 100000 < x
    · rw [if_pos h2] at hy
      subst hy
      go_enter Try.func22, Try.ntmps22
      go_wp2
      go_ret
      exact ⟨rfl, rfl⟩
    · rw [if_neg h2] at hy
      subst hy
      go_enter Try.func22, Try.ntmps22
      go_wp2
      go_ret
      exact ⟨rfl, rfl⟩

theorem below3 (w : World) (a b c : Obj) : Below w.heap.size w (((w.alloc a).alloc b).alloc c) := (((Below.refl _ _).alloc (Nat.le_refl _) _).alloc (by simp) _).alloc (by simp; omega) _

set_option maxRecDepth 100000 in
set_option maxHeartbeats 1000000 in
theorem rHeld_any (a b c : Int) (w : World) :
    Calls Try.prog 14 #[.agg #[.int .i64 a, .int .i64 b, .int .i64 c]] w fun e w' => e = .returned (.agg #[.int .i64 (cl a), .int .i64 (hMax a b), .int .i64 (cl c)]) ∧ Below w.heap.size w w' := by
  have CC : Hid (∀ x w, Calls Try.prog 22 #[.int .i64 x] w fun e w' => e = .returned (.int .i64 (cl x)) ∧ w' = w) := rClamped_any
  have ba := cl_bd a
  have ba1 := ba.1
  have ba2 := ba.2
  have HE : Hid (∀ y, y = hMax a b → Ending.returned (.agg #[.int .i64 (cl a), .int .i64 y, .int .i64 (cl c)]) = .returned (.agg #[.int .i64 (cl a), .int .i64 (hMax a b), .int .i64 (cl c)])) := fun y h => by rw [h]
  clear ba
  by_cases h1 : b < 0
  · have HY : Hid (100000 = hMax a b) := by show _ = _; unfold hMax; rw [if_pos h1]
    have h2 : ¬ 0 ≤ b := by omega
    have h3 : ¬ 100000 < cl a := by omega
    go_enter Try.func14, Try.ntmps14
    go_wp2_with (go_at_call 22; refine (CC.out _ _).mono ?_; rintro e w5 ⟨rfl, rfl⟩)
    exact bodyPost_ret (v := .agg #[.int .i64 (cl a), .int .i64 100000, .int .i64 (cl c)]) (by simp [results, Try.results14, go_sem]) rfl ⟨HE.out _ HY.out, below3 _ _ _ _⟩
  · have h2 : 0 ≤ b := by omega
    by_cases h3 : cl b < cl a
    · have HY : Hid (cl a = hMax a b) := by show _ = _; unfold hMax; rw [if_neg h1, if_pos h3]
      go_enter Try.func14, Try.ntmps14
      go_wp2_with (go_at_call 22; refine (CC.out _ _).mono ?_; rintro e w5 ⟨rfl, rfl⟩)
      exact bodyPost_ret (v := .agg #[.int .i64 (cl a), .int .i64 (cl a), .int .i64 (cl c)]) (by simp [results, Try.results14, go_sem]) rfl ⟨HE.out _ HY.out, below3 _ _ _ _⟩
    · have HY : Hid (cl b = hMax a b) := by show _ = _; unfold hMax; rw [if_neg h1, if_neg h3]
      go_enter Try.func14, Try.ntmps14
      go_wp2_with (go_at_call 22; refine (CC.out _ _).mono ?_; rintro e w5 ⟨rfl, rfl⟩)
      exact bodyPost_ret (v := .agg #[.int .i64 (cl a), .int .i64 (cl b), .int .i64 (cl c)]) (by simp [results, Try.results14, go_sem]) rfl ⟨HE.out _ HY.out, below3 _ _ _ _⟩

set_option maxRecDepth 100000 in
set_option maxHeartbeats 1000000 in
theorem rRoom_one (room gap : Int) (n : Nat) (hn : n ≤ 1) (w : World) :
    Calls Try.prog 13 #[.int .i64 room, .int .i64 gap, .int .i64 n] w fun e w' => e = .returned (.int .i64 (cl room)) ∧ w' = w := by
  have C1 : Hid (∀ w, Calls Try.prog 22 #[.int .i64 room] w fun e w' => e = .returned (.int .i64 (cl room)) ∧ w' = w) := fun w => rClamped_any room w
  obtain ⟨cr, hcr⟩ : ∃ x, cl room = x := ⟨_, rfl⟩
  have b := cl_bd room
  rw [hcr] at C1 b ⊢
  have b1 := b.1
  have h1 : ¬ (1 : Int) < (n : Int) := by omega
  have h2 : ¬ cr < 0 := by omega
  clear b hcr
  go_enter Try.func13, Try.ntmps13
  go_wp2_with (go_at_call 22; refine (C1.out _).mono ?_; rintro e w5 ⟨rfl, rfl⟩)
  go_ret
  exact ⟨rfl, rfl⟩

set_option maxRecDepth 100000 in
set_option maxHeartbeats 1000000 in
theorem rRoom_any (room gap : Int) (n : Nat) (hn0 : 0 < n) (hn : n ≤ 200) (w : World) :
    Calls Try.prog 13 #[.int .i64 room, .int .i64 gap, .int .i64 n] w fun e w' => e = .returned (.int .i64 (rm room gap n)) ∧ w' = w := by
  by_cases hn1 : n ≤ 1
  · obtain rfl : n = 1 := by omega
    have := rRoom_one room gap 1 (by omega) w
    have e : rm room gap 1 = cl room := by unfold rm; have := cl_bd room; omega
    rw [e]; exact this
  · have C1 : Hid (∀ w, Calls Try.prog 22 #[.int .i64 room] w fun e w' => e = .returned (.int .i64 (cl room)) ∧ w' = w) := fun w => rClamped_any room w
    have C2 : Hid (∀ w, Calls Try.prog 22 #[.int .i64 gap] w fun e w' => e = .returned (.int .i64 (cl gap)) ∧ w' = w) := fun w => rClamped_any gap w
    obtain ⟨rr, hrr⟩ : ∃ x, rm room gap n = x := ⟨_, rfl⟩
    rw [hrr]
    unfold rm at hrr
    obtain ⟨cr, hcr⟩ : ∃ x, cl room = x := ⟨_, rfl⟩
    obtain ⟨cg, hcg⟩ : ∃ x, cl gap = x := ⟨_, rfl⟩
    have b := cl_bd room
    have d := cl_bd gap
    rw [hcr] at C1 b hrr
    rw [hcg] at C2 d hrr
    have b1 := b.1
    have b2 := b.2
    have d1 := d.1
    have d2 := d.2
    have hn2 : (1 : Int) < (n : Int) := by omega
    have HR : Hid (max 0 (cr - cg * ((n : Int) - 1)) = rr) := hrr
    clear b hcr d hcg hrr
    go_enter Try.func13, Try.ntmps13
    go_wp2_with (go_at_call 22; first | (refine (C1.out _).mono ?_; rintro e w5 ⟨rfl, rfl⟩) | (refine (C2.out _).mono ?_; rintro e w5 ⟨rfl, rfl⟩))
    go_loop [7, 9] (fun r k => ∃ (j : Nat) (x : Int), r = .int .i64 x ∧ k = .int .i64 j ∧ 1 ≤ j ∧ j ≤ n ∧ -100000 ≤ x ∧ x ≤ 100000 ∧ Hid (x = cr - cg * ((j : Int) - 1))) (fun _ k => n - (intOf k).toNat)
    case atStart => exact ⟨1, cr, rfl, rfl, by omega, by omega, by omega, by omega, by simp [Hid]⟩
    case round =>
      obtain ⟨j, x, rfl, rfl, hj1, hj2, hx1, hx2, HX⟩ := hrel
      by_cases hlt : j < n
      · have hlt' : (j : Int) < (n : Int) := by omega
        by_cases hpos : 0 < x
        · have HX2 : Hid (x - cg = cr - cg * (((j + 1 : Nat) : Int) - 1)) := by
            show _ = _
            rw [HX.out, show (((j + 1 : Nat) : Int) - 1) = ((j : Int) - 1) + 1 by omega, Int.mul_add, Int.mul_one]; omega
          clear HX
          go_wp2
          go_round
          case rel => exact ⟨j + 1, x - cg, rfl, by go_num, by omega, by omega, by omega, by omega, HX2.out⟩
          case measure => simp [intOf]; omega
        · have hrr : rr = 0 := by
            rw [← HR.out]
            have e := HX.out
            have : cg * ((j : Int) - 1) ≤ cg * ((n : Int) - 1) := Int.mul_le_mul_of_nonneg_left (by omega) d1
            omega
          subst hrr
          clear HX
          by_cases hz : x < 0
          · go_wp2
            go_ret
            exact ⟨rfl, rfl⟩
          · obtain rfl : x = 0 := by omega
            go_wp2
            go_ret
            exact ⟨rfl, rfl⟩
      · have hlt' : ¬ (j : Int) < (n : Int) := by omega
        obtain rfl : n = j := by omega
        by_cases hz : x < 0
        · have hrr : rr = 0 := by rw [← HR.out, ← HX.out]; omega
          subst hrr
          clear HX
          go_wp2
          go_ret
          exact ⟨rfl, rfl⟩
        · have hrr : rr = x := by rw [← HR.out, ← HX.out]; omega
          subst hrr
          clear HX
          go_wp2
          go_ret
          exact ⟨rfl, rfl⟩

end Go.Proofs.Ytmlicipdkbeihac
