/-
  panelaw.paired.
-/
import Derived.Test.YtdpinmlbccolnaiDoorCClo
namespace Go.Proofs.YtdpinmlbccolnaiDoor
open Go.RowKit Go.Sort
set_option linter.unusedVariables false

section
variable {N cap W H : Nat} {c : Nat → Nat → Ce}
set_option maxRecDepth 100000 in
set_option maxHeartbeats 4000000 in
theorem paired_yes (w : World) (h : Cv 36 w N W H c) (hp : PAll W H c) (hW : 1 ≤ W ∧ W ≤ 400) (hH : 1 ≤ H ∧ H ≤ 400) : Calls Tryd.prog 14 #[.slice (some ⟨N, 0, none⟩) (W * H) cap, .int .i64 W] w fun e w' => e = .returned (.bool true) ∧ Gr w w' := by
  obtain ⟨n, hn⟩ : ∃ n, W * H = n := ⟨_, rfl⟩
  have nb : 1 ≤ n ∧ n ≤ 160000 := by rw [← hn]; exact ⟨Nat.mul_le_mul hW.1 hH.1, Nat.mul_le_mul hW.2 hH.2⟩
  have HN : Hid (W * H = n) := hn
  rw [hn]
  have HV : Hid (Cv 36 w N W H c) := h
  have HP : Hid (PAll W H c) := hp
  clear hn h hp
  go_enter Tryd.func14, Tryd.ntmps14
  go_wp2_with fail
  go_loopw [5] (fun iv wr => ∃ i : Nat, i ≤ n ∧ iv = .int .i64 i ∧ Hid (Gr w wr)) (fun iv _ => n - (intOf iv).toNat)
  case atStart => exact ⟨0, by omega, rfl, Gr.refl w⟩
  case round =>
    obtain ⟨i, hi, rfl, HG⟩ := hrel
    by_cases hlt : i < n
    · have hlt' : (i : Int) < (n : Int) := by omega
      have HI : Hid (i < W * H) := by rw [HN.out]; exact hlt
      obtain ⟨y, hy⟩ : ∃ y, i / W = y := ⟨_, rfl⟩
      obtain ⟨x, hx⟩ : ∃ x, i % W = x := ⟨_, rfl⟩
      have hyH : y < H := by rw [← hy]; exact div_lt HI.out
      have hxW : x < W := by rw [← hx]; exact Nat.mod_lt _ (by omega)
      have eo : y * W * 5 + x * 5 = i * 5 := by rw [← hy, ← hx]; exact lin_off i W
      have er : (i : Int) % (W : Int) = (x : Int) := by rw [← hx]; omega
      have V1 := HV.out.gr HG.out
      have PR := HP.out y hyH
      obtain ⟨e, he⟩ : ∃ e, c y x = e := ⟨_, rfl⟩
      have c4 := V1.c4 hyH hxW
      rw [eo, he] at c4
      rcases PR.part x hxW with h0 | h1 | h2
      · rw [he] at h0
        rw [h0] at c4
        clear hy hx eo V1 PR he
        go_wp2_with fail
        go_quiet (fail)
        go_wp2
        go_roundw
        case rel => exact ⟨i + 1, by omega, by go_num, HG.out.drewN _⟩
        case measure => simp [intOf]; omega
      · obtain ⟨q1, q2, q3, q4, q5⟩ := PR.head x hxW h1
        rw [he] at h1 q3 q4 q5
        rw [h1] at c4
        have en1 : y * W * 5 + (x + 1) * 5 = (i + 1) * 5 := by omega
        have il : i + 1 < n := by
          rw [← HN.out]
          have hm : (y + 1) * W ≤ H * W := Nat.mul_le_mul_right _ (by omega)
          rw [Nat.add_mul, Nat.mul_comm H W] at hm
          have : i = y * W + x := by omega
          omega
        have s1 := V1.c1 hyH hxW
        have s2 := V1.c2 hyH hxW
        have s3 := V1.c3 hyH hxW
        rw [eo, he] at s1 s2 s3
        have t1 := V1.c1 hyH q1
        have t2 := V1.c2 hyH q1
        have t3 := V1.c3 hyH q1
        have t4 := V1.c4 hyH q1
        rw [en1] at t1 t2 t3 t4
        rw [q2] at t4
        rw [q3] at t1
        rw [q4] at t2
        rw [q5] at t3
        have nw : ((x : Int) == (W : Int) - 1) = false := by simp; omega
        have il' : (i : Int) + 1 < (n : Int) := by omega
        clear hy hx eo V1 PR he en1 q2 q3 q4 q5
        obtain ⟨f, hf⟩ : ∃ z, e.f = z := ⟨_, rfl⟩
        obtain ⟨g, hg⟩ : ∃ z, e.g = z := ⟨_, rfl⟩
        obtain ⟨b, hb⟩ : ∃ z, e.b = z := ⟨_, rfl⟩
        rw [hf] at s1 t1
        rw [hg] at s2 t2
        rw [hb] at s3 t3
        clear hf hg hb h1
        go_wp2_with fail
        go_quiet (fail)
        go_wp2
        go_roundw
        case rel => exact ⟨i + 1, by omega, by go_num, HG.out.drewN _⟩
        case measure => simp [intOf]; omega
      · obtain ⟨k, hk, q1, q2⟩ := PR.tail x hxW h2
        rw [he] at h2 q2
        rw [h2] at c4
        subst hk
        obtain ⟨j, rfl⟩ : ∃ j, i = j + 1 := ⟨i - 1, by omega⟩
        have en1 : y * W * 5 + k * 5 = j * 5 := by omega
        have t4 := V1.c4 hyH (show k < W by omega)
        rw [en1, q1] at t4
        have s0 := V1.c0 hyH hxW
        rw [eo, he, q2] at s0
        unfold ept at s0
        have nw : (((k : Int) + 1) == 0) = false := by simp; omega
        have er' : ((j : Int) + 1) % (W : Int) = (k : Int) + 1 := er
        clear er
        clear hy hx eo V1 PR he en1 q1 q2 h2
        go_wp2_with fail
        go_quiet (fail)
        go_wp2
        go_roundw
        case rel => exact ⟨j + 1 + 1, by omega, by go_num, HG.out.drewN _⟩
        case measure => simp [intOf]; omega
    · have hlt' : ¬ (i : Int) < (n : Int) := by omega
      go_wp2
      go_ret
      exact ⟨rfl, HG.out⟩
end
end Go.Proofs.YtdpinmlbccolnaiDoor
