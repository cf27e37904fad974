/-
  The comparison of dealOut: the greater fraction first.
-/
import Derived.Test.YtmlicipdkbeihacSStf
namespace Go.Proofs.Ytmlicipdkbeihac
open Go.RowKit Go.Sort
set_option linter.unusedVariables false

set_option maxRecDepth 100000 in
set_option maxHeartbeats 2000000 in
theorem frac_any (F : List Int) (bx fb fo fc : Nat) (W : World) (hb : W.cell? ⟨bx, 0, none⟩ = some (.slice (some ⟨fb, fo, none⟩) F.length fc)) (hF : ∀ j, j < F.length → W.cell? ⟨fb, fo + j, none⟩ = some (.int .i64 (F[j]?.getD 0))) (i k : Nat) (hi : i < F.length) (hk : k < F.length) (hlen : F.length ≤ 1099511627776) :
    Calls Try.prog 31 #[.int .i64 i, .int .i64 k, .pointer (some ⟨bx, 0, none⟩)] W fun e W' => e = .returned (.int .i64 (cmpI (F[k]?.getD 0) (F[i]?.getD 0))) ∧ ∃ q os, W' = grow (W.drewN q) os := by
  obtain ⟨n, hn⟩ : ∃ n, F.length = n := ⟨_, rfl⟩
  obtain ⟨x, hx⟩ : ∃ x, F[i]?.getD 0 = x := ⟨_, rfl⟩
  obtain ⟨y, hy⟩ : ∃ y, F[k]?.getD 0 = y := ⟨_, rfl⟩
  have c0 : W.cell? ⟨fb, fo + i, none⟩ = some (.int .i64 x) := by rw [hF i hi, hx]
  have c1 : W.cell? ⟨fb, fo + k, none⟩ = some (.int .i64 y) := by rw [hF k hk, hy]
  have hmx : Try.prog.follows .mixedOrders = true := by kernel_rfl
  rw [hn] at hb hi hk hlen
  rw [hx, hy]
  have hi' : (i : Int) < (n : Int) := by omega
  have hk' : (k : Int) < (n : Int) := by omega
  obtain ⟨z, hz⟩ : ∃ z, cmpI y x = z := ⟨_, rfl⟩
  have HC : Hid (∀ m, Calls Try.prog 29 #[.int .i64 y, .int .i64 x] (W.drewN m) fun e w' => e = .returned (.int .i64 z) ∧ w' = W.drewN m) := fun m => by
    have := compare_any y x (W.drewN m); rw [hz] at this; exact this
  rw [hz]
  clear hF hn hx hy hz
  go_enter Try.func31, Try.ntmps31
  go_wp2_with fail
  go_quiet (first | (go_at_call 29; exact (HC.out _).mono (fun e w' h => ⟨h.1, _, h.2⟩)))
  go_wp2
  go_ret
  exact ⟨rfl, _, #[], (grow_empty _).symm⟩

end Go.Proofs.Ytmlicipdkbeihac
