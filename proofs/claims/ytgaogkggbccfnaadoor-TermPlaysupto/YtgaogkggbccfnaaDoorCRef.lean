/-
  The reference's canvas: screen, blank.
-/
import Derived.Test.YtgaogkggbccfnaaDoorCPut
import Derived.Test.YtgaogkggbccfnaaDoorBRfa
namespace Go.Proofs.YtgaogkggbccfnaaDoor
open Go.RowKit Go.Sort
set_option linter.unusedVariables false

section
variable {K M cap W H : Nat} {c : Nat → Nat → Ce}
def scrB (W H : Nat) (x y : Int) : Bool := decide (0 ≤ x ∧ x < W ∧ 0 ≤ y ∧ y < H)
theorem scrB_yes {W H : Nat} {x y : Int} (h : 0 ≤ x ∧ x < W ∧ 0 ≤ y ∧ y < H) : scrB W H x y = true := decide_eq_true h
theorem scrB_no {W H : Nat} {x y : Int} (h : ¬ (0 ≤ x ∧ x < W ∧ 0 ≤ y ∧ y < H)) : scrB W H x y = false := decide_eq_false h
set_option maxRecDepth 100000 in
set_option maxHeartbeats 2000000 in
theorem screen_any (w : World) (h : CS 72 85 w K M cap W H c) (x y : Int) : Calls Tryd.prog 64 #[.pointer (some ⟨K, 0, none⟩), .int .i64 x, .int .i64 y] w fun e w' => e = .returned (.bool (scrB W H x y)) ∧ w' = w := by
  have k0 := h.k0
  have k1 := h.k1
  clear h
  have hc : x < 0 ∨ (0 ≤ x ∧ (W : Int) ≤ x) ∨ (0 ≤ x ∧ x < W ∧ y < 0) ∨ (0 ≤ x ∧ x < W ∧ 0 ≤ y ∧ (H : Int) ≤ y) ∨ (0 ≤ x ∧ x < W ∧ 0 ≤ y ∧ y < H) := by omega
  rcases hc with h1 | ⟨h1, h2⟩ | ⟨h1, h2, h3⟩ | ⟨h1, h2, h3, h4⟩ | ⟨h1, h2, h3, h4⟩
  · rw [scrB_no (by omega)]
    go_enter Tryd.func64, Tryd.ntmps64
    go_wp2
    go_ret
    exact ⟨rfl, rfl⟩
  · rw [scrB_no (by omega)]
    have e1 : decide (x < (W : Int)) = false := decide_eq_false (by omega)
    go_enter Tryd.func64, Tryd.ntmps64
    go_wp2
    go_ret
    exact ⟨rfl, rfl⟩
  · rw [scrB_no (by omega)]
    have e1 : decide (x < (W : Int)) = true := decide_eq_true (by omega)
    have e2 : decide (0 ≤ y) = false := decide_eq_false (by omega)
    go_enter Tryd.func64, Tryd.ntmps64
    go_wp2
    go_ret
    exact ⟨rfl, rfl⟩
  · rw [scrB_no (by omega)]
    have e1 : decide (x < (W : Int)) = true := decide_eq_true (by omega)
    have e2 : decide (0 ≤ y) = true := decide_eq_true (by omega)
    have e3 : decide (y < (H : Int)) = false := decide_eq_false (by omega)
    go_enter Tryd.func64, Tryd.ntmps64
    go_wp2
    go_ret
    exact ⟨rfl, rfl⟩
  · rw [scrB_yes (by omega)]
    have e1 : decide (x < (W : Int)) = true := decide_eq_true (by omega)
    have e2 : decide (0 ≤ y) = true := decide_eq_true (by omega)
    have e3 : decide (y < (H : Int)) = true := decide_eq_true (by omega)
    go_enter Tryd.func64, Tryd.ntmps64
    go_wp2
    go_ret
    exact ⟨rfl, rfl⟩

theorem lin_lt {W H y x : Nat} (hy : y < H) (hx : x < W) : y * W + x < W * H := by
  have : (y + 1) * W ≤ H * W := Nat.mul_le_mul_right _ (by omega)
  rw [Nat.add_mul] at this
  rw [Nat.mul_comm W H]; omega
set_option maxRecDepth 100000 in
set_option maxHeartbeats 4000000 in
theorem rblank_any (w : World) (h : CS 72 85 w K M cap W H c) (hW : W ≤ 400) (hH : H ≤ 400) (y x : Nat) (hy : y < H) (hx : x < W) (i : Nat) (hi : i = y * W + x) : Calls Tryd.prog 81 #[.pointer (some ⟨K, 0, none⟩), .int .i64 i] w fun e w' => e = .returned (.tuple #[]) ∧ Cv 85 w' M W H (upd c y x (bl (c y x))) ∧ Ch M w w' := by
  have k2 := h.k2
  have kl := h.klt
  have hn : i < W * H := by rw [hi]; exact lin_lt hy hx
  have hc := h.hc
  obtain ⟨n, hnn⟩ : ∃ n, W * H = n := ⟨_, rfl⟩
  have nb : n ≤ 160000 := by rw [← hnn]; exact Nat.mul_le_mul hW hH
  rw [hnn] at k2 hn hc
  have eo : y * W * 5 + x * 5 = i * 5 := by rw [hi, Nat.add_mul]
  have HEO : Hid (y * W * 5 + x * 5 = i * 5) := eo
  have HV : Hid (Cv 85 w M W H c) := h.cv
  have d0 := HV.out.c0 hy hx
  have d1 := HV.out.c1 hy hx
  have d2 := HV.out.c2 hy hx
  have d3 := HV.out.c3 hy hx
  have d4 := HV.out.c4 hy hx
  rw [eo] at d0 d1 d2 d3 d4
  have fz := HV.out.fz
  have hi' : (i : Int) < (n : Int) := by omega
  clear h hnn eo hi
  go_enter Tryd.func81, Tryd.ntmps81
  go_wp2_with fail
  go_region
  all_goals
    go_wp2
    go_end0
    refine ⟨rfl, ?_, ((Ch.gr ((Gr.refl w).drew))).set5 _ _ _ _ _⟩
    have := (HV.out.gr ((Gr.refl w).drew)).set hy hx (bl (c y x))
    rw [HEO.out] at this
    exact this
end
end Go.Proofs.YtgaogkggbccfnaaDoor
