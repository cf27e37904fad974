/-
  The walk of panelaw.part.
-/
import Derived.Test.YtbjfckhijjjnkabDoorClsMem
import Derived.Test.YtbjfckhijjjnkabDoorFNrm
namespace Go.Proofs.YtbjfckhijjjnkabDoor
open Go.RowKit
set_option linter.unusedVariables false

set_option maxRecDepth 100000 in
set_option maxHeartbeats 2000000 in
theorem part_any (l : List (List UInt8 × Int)) (v : Value) (a n : Nat) (w : World) (hcl : Cls w v l) (hn : a + n ≤ l.length) (hlen : l.length ≤ 1099511627776) (hj : (joined ((l.drop a).take n)).length ≤ 70368744177664) :
    Calls Tryd.prog 19 #[v, .int .i64 a, .int .i64 n] w fun e w' => e = .returned (.string ⟨(joined ((l.drop a).take n)).toArray⟩) ∧ w' = w := by
  obtain ⟨p, cap, rfl, hh⟩ := hcl
  have HJT : Hid (∀ k, k ≤ n → (joined ((l.drop a).take k)).length ≤ (joined ((l.drop a).take n)).length) := by
    intro k hk
    have := joined_take_le ((l.drop a).take n) k
    rw [List.take_take, Nat.min_eq_left hk] at this
    exact this
  go_enter Tryd.func19, Tryd.ntmps19
  go_wp2
  go_loop [7, 8] (fun t i => ∃ k : Nat, k ≤ n ∧ i = .int .i64 ((a + k : Nat) : Int) ∧ t = .string ⟨(joined ((l.drop a).take k)).toArray⟩) (fun _ i => a + n - (intOf i).toNat)
  case atStart => exact ⟨0, Nat.zero_le _, rfl, by simp [joined]⟩
  case round =>
    obtain ⟨k, hk, rfl, rfl⟩ := hrel
    by_cases hlt : k < n
    · have h1 : ((a + k : Nat) : Int) < (a : Int) + (n : Int) := by omega
      have h2 : ((a + k : Nat) : Int) < (l.length : Int) := by omega
      have hne : l ≠ [] := fun e => by rw [e] at hn; simp at hn; omega
      obtain ⟨b, off, rfl, hb, hc⟩ := hh.resolve_left hne
      have hak : a + k < l.length := by omega
      obtain ⟨T, V, hTV⟩ : ∃ T V, l[a + k] = (T, V) := ⟨_, _, rfl⟩
      have HS : Hid (joined ((l.drop a).take (k + 1)) = joined ((l.drop a).take k) ++ T) := by
        show _ = _
        have hk' : k < (l.drop a).length := by rw [List.length_drop]; omega
        rw [joined_snoc (l.drop a) k hk', List.getElem_drop, hTV]
      have hj1 := HJT.out (k + 1) (by omega)
      rw [HS.out, List.length_append] at hj1
      obtain ⟨Y, hY⟩ : ∃ Y, joined ((l.drop a).take k) = Y := ⟨_, rfl⟩
      rw [hY] at HS hj1
      rw [hY]
      obtain ⟨q, hq⟩ : ∃ q, a + k = q := ⟨_, rfl⟩
      have c0 : w.cell? ⟨b, off + q * 2, none⟩ = some (.string ⟨T.toArray⟩) := by have := (hc (a + k) hak).1; rw [hTV] at this; rw [← hq]; exact this
      rw [hq] at h1 h2 hak ⊢
      have hqk : q + 1 = a + (k + 1) := by omega
      have HQK : Hid (q + 1 = a + (k + 1)) := hqk
      have HQ : Hid (a + k = q) := hq
      clear hh hc hTV hne hY hqk hq
      go_wp2
      go_round
      case rel => exact ⟨k + 1, by omega, by rw [← HQK.out]; go_num, by rw [HS.out, ← str_app]⟩
      case measure => have := HQ.out; simp [intOf]; omega
    · obtain rfl : k = n := by omega
      have h1 : ¬ ((a + k : Nat) : Int) < (a : Int) + (k : Int) := by omega
      obtain ⟨Y, hY⟩ : ∃ Y, joined ((l.drop a).take k) = Y := ⟨_, rfl⟩
      have HY : Hid (joined ((l.drop a).take k) = Y) := hY
      rw [hY]
      clear hh hY
      go_wp2
      go_ret
      rw [HY.out]
      exact ⟨rfl, rfl⟩

end Go.Proofs.YtbjfckhijjjnkabDoor
