/-
  The comparison of inOrderOfFilling: who is full first.
-/
import Derived.Test.YtmlicipdkbeihacSStf
namespace Go.Proofs.Ytmlicipdkbeihac
open Go.RowKit Go.Sort
set_option linter.unusedVariables false

theorem two_grow (W : World) (o1 o2 : Obj) : ∃ q os, ((W.alloc o1).alloc o2).drew = grow (W.drewN q) os :=
  ⟨1, #[o1] ++ #[o2], by rw [alloc_eq_grow, alloc_eq_grow, grow_grow]; rfl⟩

set_option maxRecDepth 100000 in
set_option maxHeartbeats 4000000 in
theorem fill_any (n bx wb wo wc : Nat) (W : World) (hb : W.cell? ⟨bx, 0, none⟩ = some (.slice (some ⟨wb, wo, none⟩) n wc)) (i k : Nat) (a1 a2 a3 b1 b2 b3 : Int)
    (ca1 : W.cell? ⟨wb, wo + i * 3, none⟩ = some (.int .i64 a1)) (ca2 : W.cell? ⟨wb, wo + i * 3 + 1, none⟩ = some (.int .i64 a2)) (ca3 : W.cell? ⟨wb, wo + i * 3 + 2, none⟩ = some (.int .i64 a3))
    (cb1 : W.cell? ⟨wb, wo + k * 3, none⟩ = some (.int .i64 b1)) (cb2 : W.cell? ⟨wb, wo + k * 3 + 1, none⟩ = some (.int .i64 b2)) (cb3 : W.cell? ⟨wb, wo + k * 3 + 2, none⟩ = some (.int .i64 b3))
    (ha : 0 ≤ a2 - a1 ∧ a2 - a1 ≤ 1073741824 ∧ 0 ≤ a3 ∧ a3 ≤ 1073741824) (hb' : 0 ≤ b2 - b1 ∧ b2 - b1 ≤ 1073741824 ∧ 0 ≤ b3 ∧ b3 ≤ 1073741824) (hi : i < n) (hk : k < n) (hlen : n ≤ 1099511627776) (hbx : bx < W.heap.size) (hwb : wb < W.heap.size) :
    Calls Try.prog 28 #[.int .i64 i, .int .i64 k, .pointer (some ⟨bx, 0, none⟩)] W fun e W' => e = .returned (.int .i64 (cmpI ((a2 - a1) * b3) ((b2 - b1) * a3))) ∧ ∃ q os, W' = grow (W.drewN q) os := by
  have hmx : Try.prog.follows .mixedOrders = true := by kernel_rfl
  have hi' : (i : Int) < (n : Int) := by omega
  have hk' : (k : Int) < (n : Int) := by omega
  obtain ⟨da, hda⟩ : ∃ d, a2 - a1 = d := ⟨_, rfl⟩
  obtain ⟨db, hdb⟩ : ∃ d, b2 - b1 = d := ⟨_, rfl⟩
  rw [hda] at ha ⊢
  rw [hdb] at hb' ⊢
  obtain ⟨p, hp⟩ : ∃ p, da * b3 = p := ⟨_, rfl⟩
  obtain ⟨q, hq⟩ : ∃ q, db * a3 = q := ⟨_, rfl⟩
  have hpb : 0 ≤ p ∧ p ≤ 1152921504606846976 := by
    rw [← hp]
    refine ⟨Int.mul_nonneg ha.1 hb'.2.2.1, ?_⟩
    exact Int.le_trans (Int.mul_le_mul ha.2.1 hb'.2.2.2 hb'.2.2.1 (by omega)) (by decide)
  have hqb : 0 ≤ q ∧ q ≤ 1152921504606846976 := by
    rw [← hq]
    refine ⟨Int.mul_nonneg hb'.1 ha.2.2.1, ?_⟩
    exact Int.le_trans (Int.mul_le_mul hb'.2.1 ha.2.2.2 ha.2.2.1 (by omega)) (by decide)
  have w1 : IntKind.i64.wrap da = da := IntWalk.i64_in _ ⟨by omega, by omega⟩
  have w2 : IntKind.i64.wrap db = db := IntWalk.i64_in _ ⟨by omega, by omega⟩
  have w3 : IntKind.i64.wrap p = p := IntWalk.i64_in _ ⟨by omega, by omega⟩
  have w4 : IntKind.i64.wrap q = q := IntWalk.i64_in _ ⟨by omega, by omega⟩
  obtain ⟨z, hz⟩ : ∃ z, cmpI p q = z := ⟨_, rfl⟩
  have HC : Hid (∀ w', Calls Try.prog 29 #[.int .i64 p, .int .i64 q] w' fun e w'' => e = .returned (.int .i64 z) ∧ w'' = w') := fun w' => by
    have := compare_any p q w'; rw [hz] at this; exact this
  rw [hp, hq, hz]
  clear hz hpb hqb ha hb'
  go_enter Try.func28, Try.ntmps28
  go_wp2_with fail
  go_big_region
  all_goals (go_wp2_with (go_at_call 29; refine (HC.out _).mono ?_; rintro e w5 ⟨rfl, rfl⟩))
  all_goals go_ret
  all_goals exact ⟨rfl, two_grow _ _ _⟩

end Go.Proofs.Ytmlicipdkbeihac
