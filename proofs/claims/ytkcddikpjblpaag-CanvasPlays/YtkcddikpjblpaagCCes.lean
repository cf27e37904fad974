/-
  The law's own: cells.
-/
import Derived.Test.YtkcddikpjblpaagCCel
namespace Go.Proofs.Ytkcddikpjblpaag
open Go.RowKit Go.Sort
set_option linter.unusedVariables false

section
variable {M M' cap cap' W H : Nat} {c : Nat → Nat → Ce}
set_option maxRecDepth 100000 in
set_option maxHeartbeats 4000000 in
theorem lcells_any (w : World) (h : Cv 58 w M W H c) (h' : Cv 71 w M' W H c) (n : Nat) (hn : W * H = n) (nb : n ≤ 160000) : Calls Try.prog 18 #[.slice (some ⟨M, 0, none⟩) n cap, .slice (some ⟨M', 0, none⟩) n cap'] w fun e w' => e = .returned (.bool true) ∧ Gr w w' := by
  have HL : Hid (∀ e w, Calls Try.prog 38 #[cev e] w fun r w' => r = .returned (cev e) ∧ Gr w w') := cell_any
  have HV : Hid (Cv 58 w M W H c) := h
  have HV' : Hid (Cv 71 w M' W H c) := h'
  have HN : Hid (W * H = n) := hn
  clear h h' hn
  go_enter Try.func18, Try.ntmps18
  go_wp2_with fail
  go_loopw [5] (fun iv wi => ∃ i : Nat, i ≤ n ∧ iv = .int .i64 i ∧ Hid (Gr w wi)) (fun iv _ => n - (intOf iv).toNat)
  case atStart => exact ⟨0, by omega, rfl, Gr.refl w⟩
  case round =>
    obtain ⟨i, hi, rfl, HI⟩ := hrel
    by_cases hil : i < n
    · obtain ⟨y, x, hy, hx, hix⟩ := lin_split (by rw [HN.out]; exact hil)
      have eo : y * W * 5 + x * 5 = i * 5 := by rw [hix, Nat.add_mul]
      have V1 := HV.out.gr HI.out
      have V2 := HV'.out.gr HI.out
      have d0 := V1.c0 hy hx
      have d1 := V1.c1 hy hx
      have d2 := V1.c2 hy hx
      have d3 := V1.c3 hy hx
      have d4 := V1.c4 hy hx
      have q0 := V2.c0 hy hx
      have q1 := V2.c1 hy hx
      have q2 := V2.c2 hy hx
      have q3 := V2.c3 hy hx
      have q4 := V2.c4 hy hx
      rw [eo] at d0 d1 d2 d3 d4 q0 q1 q2 q3 q4
      have hil' : (i : Int) < (n : Int) := by omega
      obtain ⟨e, he⟩ : ∃ e, c y x = e := ⟨_, rfl⟩
      rw [he] at d0 d1 d2 d3 d4 q0 q1 q2 q3 q4
      obtain ⟨t, f, g, b, p⟩ := e
      have CA : Hid (∀ w, Calls Try.prog 38 #[.agg #[.string t, .int .i64 f, .int .i64 g, .int .i64 b, .int .i64 p]] w fun r w' => r = .returned (.agg #[.string t, .int .i64 f, .int .i64 g, .int .i64 b, .int .i64 p]) ∧ Gr w w') := fun w => HL.out ⟨t, f, g, b, p⟩ w
      have a0 := cell_grown V1.lt d0
      have a1 := cell_grown V1.lt d1
      have a2 := cell_grown V1.lt d2
      have a3 := cell_grown V1.lt d3
      have a4 := cell_grown V1.lt d4
      have b0 := cell_grown V2.lt q0
      have b1 := cell_grown V2.lt q1
      have b2 := cell_grown V2.lt q2
      have b3 := cell_grown V2.lt q3
      have b4 := cell_grown V2.lt q4
      clear eo hix V1 V2 he d0 d1 d2 d3 d4 q0 q1 q2 q3 q4
      go_wp2_with fail
      have hmix : Try.prog.follows .mixedOrders = true := by kernel_rfl
      go_quiet_grown (first | (go_at_call 38; exact Calls.grown_of (CA.out _)))
      have HG : Hid (Gr w (grow (wr.drewN nq) osq)) := HI.out.trans ⟨nq, osq, rfl⟩
      go_wp2
      go_roundw
      case rel => exact ⟨i + 1, by omega, by go_num, HG.out⟩
      case measure => simp [intOf]; omega
    · have hil' : ¬ (i : Int) < (n : Int) := by omega
      go_wp2
      go_ret
      exact ⟨rfl, HI.out⟩
end
end Go.Proofs.Ytkcddikpjblpaag
