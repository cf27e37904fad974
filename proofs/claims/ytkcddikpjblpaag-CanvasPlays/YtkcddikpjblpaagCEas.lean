/-
  panelaw.easel.
-/
import Derived.Test.YtkcddikpjblpaagCClo
namespace Go.Proofs.Ytkcddikpjblpaag
open Go.RowKit Go.Sort
set_option linter.unusedVariables false

set_option maxRecDepth 100000 in
theorem num_any (n : Int) (w : World) : Calls Try.prog 28 #[.int .i64 n] w fun e w' => e = .returned (.int .i64 n) ∧ w' = w := by
  go_enter Try.func28, Try.ntmps28
  go_wp2
  go_ret
  exact ⟨rfl, rfl⟩

set_option maxRecDepth 100000 in
set_option maxHeartbeats 2000000 in
theorem easel_bad (W H : Int) (w : World) (h : ¬ ((1 ≤ W ∧ W ≤ 400) ∧ (1 ≤ H ∧ H ≤ 400))) : Calls Try.prog 13 #[.int .i64 W, .int .i64 H] w fun e w' => e = .returned (.tuple #[.pointer none, .bool true]) ∧ w' = w := by
  have NB : Hid (Calls Try.prog 27 #[.int .i64 W, .int .i64 H] w fun e w' => e = .returned (.tuple #[.pointer none, .int .i64 6]) ∧ w' = w) := new_bad W H w h
  have NU : Hid (∀ n w, Calls Try.prog 28 #[.int .i64 n] w fun e w' => e = .returned (.int .i64 n) ∧ w' = w) := num_any
  have hc : W < 1 ∨ (1 ≤ W ∧ 400 < W) ∨ ((1 ≤ W ∧ W ≤ 400) ∧ H < 1) ∨ ((1 ≤ W ∧ W ≤ 400) ∧ 1 ≤ H ∧ 400 < H) := by omega
  clear h
  rcases hc with h1 | ⟨h1, h2⟩ | ⟨⟨h1, h2⟩, h3⟩ | ⟨⟨h1, h2⟩, h3, h4⟩
  all_goals
    (try have e4 : decide (H ≤ 400) = false := decide_eq_false (by omega))
    go_enter Try.func13, Try.ntmps13
    go_wp2_with (first | (go_at_call 27; refine Calls.mono NB.out ?_; rintro e w1 ⟨rfl, hw1⟩; obtain rfl := hw1.symm) | (go_at_call 28; refine Calls.mono (NU.out _ _) ?_; rintro e w2 ⟨rfl, hw2⟩; obtain rfl := hw2.symm))
    go_ret2
    exact ⟨rfl, rfl⟩

set_option maxRecDepth 100000 in
set_option maxHeartbeats 2000000 in
theorem easel_ok (W H : Nat) (w : World) (hW : 1 ≤ W ∧ W ≤ 400) (hH : 1 ≤ H ∧ H ≤ 400) : Calls Try.prog 13 #[.int .i64 W, .int .i64 H] w fun e w' => ∃ K M, e = .returned (.tuple #[.pointer (some ⟨K, 0, none⟩), .bool true]) ∧ CS 85 58 w' K M (W * H) W H (fun _ _ => bk 0 0 0) ∧ w.heap.size ≤ K ∧ w.heap.size ≤ M ∧ Below w.heap.size w w' := by
  have NO : Hid (Calls Try.prog 27 #[.int .i64 W, .int .i64 H] w fun e w' => ∃ K M, e = .returned (.tuple #[.pointer (some ⟨K, 0, none⟩), .int .i64 0]) ∧ CS 85 58 w' K M (W * H) W H (fun _ _ => bk 0 0 0) ∧ w.heap.size ≤ K ∧ w.heap.size ≤ M ∧ Below w.heap.size w w') := new_ok W H w hW hH
  have NU : Hid (∀ n w, Calls Try.prog 28 #[.int .i64 n] w fun e w' => e = .returned (.int .i64 n) ∧ w' = w) := num_any
  have h1 : (1 : Int) ≤ W := by omega
  have h2 : (W : Int) ≤ 400 := by omega
  have h3 : (1 : Int) ≤ H := by omega
  have h4 : (H : Int) ≤ 400 := by omega
  go_enter Try.func13, Try.ntmps13
  go_wp2_with fail
  refine Calls.mono NO.out ?_
  rintro e w1 ⟨K, M, rfl, hcs, hk, hm, hb⟩
  have SZ : Hid (∀ w0, CS 85 58 w0 K M (W * H) W H (fun _ _ => bk 0 0 0) → Calls Try.prog 29 #[.pointer (some ⟨K, 0, none⟩)] w0 fun e w' => e = .returned (.tuple #[.int .i64 W, .int .i64 H]) ∧ Gr w0 w') := fun w0 h0 => size_any w0 h0
  have HC : Hid (CS 85 58 w1 K M (W * H) W H (fun _ _ => bk 0 0 0) ∧ w.heap.size ≤ K ∧ w.heap.size ≤ M ∧ Below w.heap.size w w1) := ⟨hcs, hk, hm, hb⟩
  clear hcs hk hm hb NO
  go_wp2_with (first | (go_at_call 29; refine Calls.mono (SZ.out _ HC.out.1) ?_; rintro e w2 ⟨rfl, g2⟩; have G2 : Hid (Gr w1 w2) := g2; clear g2) | (go_at_call 28; refine Calls.mono (NU.out _ _) ?_; rintro e w3 ⟨rfl, hw3⟩; obtain rfl := hw3.symm))
  go_ret2
  exact ⟨K, M, rfl, HC.out.1.gr G2.out, HC.out.2.1, HC.out.2.2.1, HC.out.2.2.2.trans (G2.out.below.mono HC.out.2.2.2.size)⟩
end Go.Proofs.Ytkcddikpjblpaag
