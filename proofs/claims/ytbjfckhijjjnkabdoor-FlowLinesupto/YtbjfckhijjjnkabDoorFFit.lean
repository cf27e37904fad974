/-
  The walks of flow.fitting and flow.lastBlank.
-/
import Derived.Test.YtbjfckhijjjnkabDoorClsMem
import Derived.Test.YtbjfckhijjjnkabDoorFMath
namespace Go.Proofs.YtbjfckhijjjnkabDoor
open Go.RowKit
set_option linter.unusedVariables false

set_option maxHeartbeats 2000000 in
theorem fitting_any (l : List (List UInt8 × Int)) (v : Value) (W : Int) (w : World) (hcl : Cls w v l) (hbd : ∀ c ∈ l, 0 ≤ c.2 ∧ c.2 ≤ 2) (hlen : l.length ≤ 1099511627776) (hW0 : -9223372036854775808 ≤ W) (hW1 : W ≤ 9223372036854775807) :
    Calls Tryd.prog 30 #[v, .int .i64 W] w fun e w' => e = .returned (.int .i64 (fitN l W)) ∧ Below w.heap.size w w' := by
  obtain ⟨a, cap, rfl, hh⟩ := hcl
  have HBD : Hid (∀ c ∈ l, 0 ≤ c.2 ∧ c.2 ≤ 2) := hbd
  clear hbd
  go_enter Tryd.func30, Tryd.ntmps30
  go_wp2
  go_loopw [1, 9] (fun x i wr => ∃ k : Nat, k ≤ l.length ∧ i = .int .i64 k ∧ x = .int .i64 (W - wideSum (l.take k)) ∧ Hid (Fit l W k) ∧ Below w.heap.size w wr) (fun _ i _ => l.length - (intOf i).toNat)
  case atStart => exact ⟨0, Nat.zero_le _, rfl, by simp [wideSum], fun j hj => by omega, Below.refl _ _⟩
  case round =>
    obtain ⟨k, hk, rfl, rfl, hfit, hbw⟩ := hrel
    have hwb := wideSum_bd l HBD.out k
    have hwW : k = 0 ∨ wideSum (l.take k) ≤ W := by
      cases k with
      | zero => exact .inl rfl
      | succ k => exact .inr (hfit.out k (by omega)).2
    have hw0 : k = 0 → wideSum (l.take k) = 0 := fun e => by subst e; rfl
    have hsz := hbw.size
    by_cases hlt : k < l.length
    · have hlt' : (k : Int) < (l.length : Int) := by omega
      have hne : l ≠ [] := fun e => by rw [e] at hlt; simp at hlt
      obtain ⟨b, off, rfl, hb, hc⟩ := hh.resolve_left hne
      obtain ⟨T, V, hTV⟩ : ∃ T V, l[k] = (T, V) := ⟨_, _, rfl⟩
      have hV := HBD.out l[k] (List.getElem_mem hlt)
      have c0 : wr.cell? ⟨b, off + k * 2, none⟩ = some (.string ⟨T.toArray⟩) := by
        have := (hc k hlt).1; rw [hTV] at this; exact (hbw.cell (p := ⟨b, off + k * 2, none⟩) hb).trans this
      have c1 : wr.cell? ⟨b, off + k * 2 + 1, none⟩ = some (.int .i64 V) := by
        have := (hc k hlt).2; rw [hTV] at this; exact (hbw.cell (p := ⟨b, off + k * 2 + 1, none⟩) hb).trans this
      have HS : Hid (wideSum (l.take (k + 1)) = wideSum (l.take k) + V) := by show _ = _; rw [wideSum_snoc l k hlt, hTV]
      have HX : Hid (tx l k = T) := by show _ = _; rw [tx_at hlt, hTV]
      rw [hTV] at hV
      obtain ⟨X, hX⟩ : ∃ X, wideSum (l.take k) = X := ⟨_, rfl⟩
      rw [hX] at HS hwb hwW hw0
      rw [hX]
      simp only at hV
      have hr0 : -9223372036854775808 ≤ W - X := by omega
      have hr1 : W - X ≤ 9223372036854775807 := by omega
      clear hh hc hTV hX hne
      by_cases h10 : T = [10]
      · have HE : Hid (fitN l W = k) := fitN_stop l W k hk hfit.out (fun _ => .inl (by rw [HX.out, h10]))
        have h10' : (T == [10]) = true := by rw [h10]; rfl
        go_wp2
        go_ret
        rw [HE.out]
        exact ⟨rfl, hbw.alloc hsz _⟩
      · have h10' : (T == [10]) = false := by simpa using h10
        by_cases hgt : W - X < V
        · have HE : Hid (fitN l W = k) := fitN_stop l W k hk hfit.out (fun _ => .inr (by rw [HS.out]; omega))
          go_wp2
          go_ret
          rw [HE.out]
          exact ⟨rfl, hbw.alloc hsz _⟩
        · have HF : Hid (Fit l W (k + 1)) := fun j hj => by
            by_cases e : j = k
            · subst e; rw [HX.out, HS.out]; exact ⟨h10, by omega⟩
            · exact hfit.out j (by omega)
          go_wp2
          go_roundw
          case rel => exact ⟨k + 1, by omega, by go_num, by rw [HS.out]; congr 1; omega, HF, hbw.alloc hsz _⟩
          case measure => simp [intOf]; omega
    · have hlt' : ¬ (k : Int) < (l.length : Int) := by omega
      have HE : Hid (fitN l W = k) := fitN_stop l W k hk hfit.out (fun h => absurd h hlt)
      have hkl : k = l.length := by omega
      clear hh
      go_wp2
      go_ret
      rw [HE.out]
      exact ⟨by rw [hkl]; rfl, hbw⟩

set_option maxHeartbeats 2000000 in
theorem lastBlank_any (l : List (List UInt8 × Int)) (v : Value) (w : World) (hcl : Cls w v l) (hlen : l.length ≤ 1099511627776) :
    Calls Tryd.prog 53 #[v] w fun e w' => e = .returned (.int .i64 (lastB l l.length)) ∧ Below w.heap.size w w' := by
  obtain ⟨a, cap, rfl, hh⟩ := hcl
  go_enter Tryd.func53, Tryd.ntmps53
  go_wp2
  go_loopw [3] (fun i wr => ∃ k : Nat, k ≤ l.length ∧ i = .int .i64 ((k : Int) - 1) ∧ Hid (lastB l l.length = lastB l k) ∧ Below w.heap.size w wr) (fun i _ => (intOf i + 1).toNat)
  case atStart => exact ⟨l.length, Nat.le_refl _, rfl, rfl, Below.refl _ _⟩
  case round =>
    obtain ⟨k, hk, rfl, hE, hbw⟩ := hrel
    have hsz := hbw.size
    cases k with
    | zero =>
      clear hh
      go_wp2
      go_ret
      rw [hE.out]
      exact ⟨rfl, hbw⟩
    | succ k =>
      have hlt : k < l.length := by omega
      have hne : l ≠ [] := fun e => by rw [e] at hlt; simp at hlt
      obtain ⟨b, off, rfl, hb, hc⟩ := hh.resolve_left hne
      obtain ⟨T, V, hTV⟩ : ∃ T V, l[k] = (T, V) := ⟨_, _, rfl⟩
      have c0 : wr.cell? ⟨b, off + k * 2, none⟩ = some (.string ⟨T.toArray⟩) := by
        have := (hc k hlt).1; rw [hTV] at this; exact (hbw.cell (p := ⟨b, off + k * 2, none⟩) hb).trans this
      have HX : Hid (tx l k = T) := by show _ = _; rw [tx_at hlt, hTV]
      have hki : ((k + 1 : Nat) : Int) - 1 = (k : Int) := by omega
      rw [hki]
      clear hh hc hTV hne
      by_cases h32 : T = [32]
      · have HE : Hid (lastB l l.length = k) := by show _ = _; rw [hE.out]; simp only [lastB]; rw [if_pos (by rw [HX.out, h32])]
        have h32' : (T == [32]) = true := by rw [h32]; rfl
        go_wp2
        go_ret
        rw [HE.out]
        exact ⟨rfl, hbw⟩
      · have h32' : (T == [32]) = false := by simpa using h32
        have HE : Hid (lastB l l.length = lastB l k) := by show _ = _; rw [hE.out]; simp only [lastB]; rw [if_neg (by rw [HX.out]; exact h32)]
        go_wp2
        go_roundw
        case rel => exact ⟨k, by omega, by go_num, HE, hbw⟩
        case measure => simp [intOf]

end Go.Proofs.YtbjfckhijjjnkabDoor
