/-
  The walks of paneref's leaves: least, blanks, text, fitting, Wide, Columns.
-/
import Derived.Test.YtbjfckhijjjnkabDoorRClus
import Derived.Test.YtbjfckhijjjnkabDoorFNrm
namespace Go.Proofs.YtbjfckhijjjnkabDoor
open Go.RowKit
set_option linter.unusedVariables false

theorem rleast_any (a b : Int) (w : World) :
    Calls Tryd.prog 27 #[.int .i64 a, .int .i64 b] w fun e w' => e = .returned (.int .i64 (min a b)) ∧ w' = w := by
  by_cases h : a < b
  · have HE : Hid (min a b = a) := by show _ = _; omega
    go_enter Tryd.func27, Tryd.ntmps27
    go_wp2
    go_ret
    rw [HE.out]; exact ⟨rfl, rfl⟩
  · have HE : Hid (min a b = b) := by show _ = _; omega
    go_enter Tryd.func27, Tryd.ntmps27
    go_wp2
    go_ret
    rw [HE.out]; exact ⟨rfl, rfl⟩

set_option maxRecDepth 100000 in
set_option maxHeartbeats 2000000 in
theorem rblanks_any (n : Nat) (w : World) (hn : n ≤ 1099511627776) :
    Calls Tryd.prog 28 #[.int .i64 n] w fun e w' => e = .returned (.string ⟨(List.replicate n 32).toArray⟩) ∧ w' = w := by
  go_enter Tryd.func28, Tryd.ntmps28
  go_wp2
  go_loop [3, 4] (fun t i => ∃ k : Nat, k ≤ n ∧ i = .int .i64 k ∧ ∃ Y, t = .string ⟨Y⟩ ∧ Hid (Y = (List.replicate k 32).toArray) ∧ Y.size = k) (fun _ i => n - (intOf i).toNat)
  case atStart => exact ⟨0, Nat.zero_le _, rfl, _, rfl, rfl, rfl⟩
  case round =>
    obtain ⟨k, hk, rfl, Y, rfl, HY, hY⟩ := hrel
    by_cases hlt : k < n
    · have hlt' : (k : Int) < (n : Int) := by omega
      go_wp2
      go_round
      case rel =>
        refine ⟨k + 1, by omega, by go_num, _, rfl, ?_, ?_⟩
        · show _ = _
          rw [HY.out]
          simp [List.replicate_succ']
        · simp [hY]
      case measure => simp [intOf]; omega
    · have hlt' : ¬ (k : Int) < (n : Int) := by omega
      obtain rfl : k = n := by omega
      go_wp2
      go_ret
      rw [HY.out]; exact ⟨rfl, rfl⟩

set_option maxRecDepth 100000 in
set_option maxHeartbeats 2000000 in
theorem rtext_any (l : List (List UInt8 × Int)) (v : Value) (w : World) (hcl : Cls w v l) (hlen : l.length ≤ 1099511627776) (hj : (joined l).length ≤ 70368744177664) :
    Calls Tryd.prog 33 #[v] w fun e w' => e = .returned (.string ⟨(joined l).toArray⟩) ∧ w' = w := by
  obtain ⟨a, cap, rfl, hh⟩ := hcl
  have HJT : Hid (∀ k, (joined (l.take k)).length ≤ (joined l).length) := fun k => joined_take_le l k
  go_enter Tryd.func33, Tryd.ntmps33
  go_wp2
  go_loop [3, 4] (fun t i => ∃ k : Nat, k ≤ l.length ∧ i = .int .i64 k ∧ t = .string ⟨(joined (l.take k)).toArray⟩) (fun _ i => l.length - (intOf i).toNat)
  case atStart => exact ⟨0, Nat.zero_le _, rfl, rfl⟩
  case round =>
    obtain ⟨k, hk, rfl, rfl⟩ := hrel
    by_cases hlt : k < l.length
    · have hlt' : (k : Int) < (l.length : Int) := by omega
      have hne : l ≠ [] := fun e => by rw [e] at hlt; simp at hlt
      obtain ⟨b, off, rfl, hb, hc⟩ := hh.resolve_left hne
      obtain ⟨T, V, hTV⟩ : ∃ T V, l[k] = (T, V) := ⟨_, _, rfl⟩
      have c0 : w.cell? ⟨b, off + k * 2, none⟩ = some (.string ⟨T.toArray⟩) := by have := (hc k hlt).1; rw [hTV] at this; exact this
      have HS : Hid (joined (l.take (k + 1)) = joined (l.take k) ++ T) := by show _ = _; rw [joined_snoc l k hlt, hTV]
      have hj1 := HJT.out (k + 1)
      rw [HS.out, List.length_append] at hj1
      obtain ⟨Y, hY⟩ : ∃ Y, joined (l.take k) = Y := ⟨_, rfl⟩
      rw [hY] at HS hj1
      rw [hY]
      clear hh hc hTV hne hY
      go_wp2
      go_round
      case rel => exact ⟨k + 1, by omega, by go_num, by rw [HS.out, ← str_app]⟩
      case measure => simp [intOf]; omega
    · have hlt' : ¬ (k : Int) < (l.length : Int) := by omega
      have HE : Hid (l.take k = l) := List.take_of_length_le (by omega)
      clear hh
      go_wp2
      go_ret
      rw [HE.out]
      exact ⟨rfl, rfl⟩

set_option maxRecDepth 100000 in
set_option maxHeartbeats 2000000 in
theorem rfitting_any (l : List (List UInt8 × Int)) (v : Value) (W : Int) (w : World) (hcl : Cls w v l) (hbd : ∀ c ∈ l, 0 ≤ c.2 ∧ c.2 ≤ 2) (hlen : l.length ≤ 1099511627776) :
    Calls Tryd.prog 34 #[v, .int .i64 W] w fun e w' => e = .returned (.int .i64 (fitN l W)) ∧ w' = w := by
  obtain ⟨a, cap, rfl, hh⟩ := hcl
  have HBD : Hid (∀ c ∈ l, 0 ≤ c.2 ∧ c.2 ≤ 2) := hbd
  clear hbd
  go_enter Tryd.func34, Tryd.ntmps34
  go_wp2
  go_loop [5, 6] (fun i x => ∃ k : Nat, k ≤ l.length ∧ i = .int .i64 k ∧ x = .int .i64 (wideSum (l.take k)) ∧ Hid (Fit l W k)) (fun i _ => l.length - (intOf i).toNat)
  case atStart => exact ⟨0, Nat.zero_le _, rfl, rfl, fun j hj => by omega⟩
  case round =>
    obtain ⟨k, hk, rfl, rfl, hfit⟩ := hrel
    have hwb := wideSum_bd l HBD.out k
    by_cases hlt : k < l.length
    · have hlt' : (k : Int) < (l.length : Int) := by omega
      have hne : l ≠ [] := fun e => by rw [e] at hlt; simp at hlt
      obtain ⟨b, off, rfl, hb, hc⟩ := hh.resolve_left hne
      obtain ⟨T, V, hTV⟩ : ∃ T V, l[k] = (T, V) := ⟨_, _, rfl⟩
      have hV := HBD.out l[k] (List.getElem_mem hlt)
      have c0 : w.cell? ⟨b, off + k * 2, none⟩ = some (.string ⟨T.toArray⟩) := by have := (hc k hlt).1; rw [hTV] at this; exact this
      have c1 : w.cell? ⟨b, off + k * 2 + 1, none⟩ = some (.int .i64 V) := by have := (hc k hlt).2; rw [hTV] at this; exact this
      have HS : Hid (wideSum (l.take (k + 1)) = wideSum (l.take k) + V) := by show _ = _; rw [wideSum_snoc l k hlt, hTV]
      have HX : Hid (tx l k = T) := by show _ = _; rw [tx_at hlt, hTV]
      rw [hTV] at hV
      obtain ⟨X, hX⟩ : ∃ X, wideSum (l.take k) = X := ⟨_, rfl⟩
      rw [hX] at HS hwb
      rw [hX]
      simp only at hV
      clear hh hc hTV hX hne
      by_cases h10 : T = [10]
      · have HE : Hid (fitN l W = k) := fitN_stop l W k hk hfit.out (fun _ => .inl (by rw [HX.out, h10]))
        have h10' : (T == [10]) = true := by rw [h10]; rfl
        go_wp2
        go_ret
        rw [HE.out]
        exact ⟨rfl, rfl⟩
      · have h10' : (T == [10]) = false := by simpa using h10
        by_cases hgt : X + V ≤ W
        · have HF : Hid (Fit l W (k + 1)) := fun j hj => by
            by_cases e : j = k
            · subst e; rw [HX.out, HS.out]; exact ⟨h10, by omega⟩
            · exact hfit.out j (by omega)
          go_wp2
          go_round
          case rel => exact ⟨k + 1, by omega, by go_num, by rw [HS.out], HF⟩
          case measure => simp [intOf]; omega
        · have HE : Hid (fitN l W = k) := fitN_stop l W k hk hfit.out (fun _ => .inr (by rw [HS.out]; omega))
          go_wp2
          go_ret
          rw [HE.out]
          exact ⟨rfl, rfl⟩
    · have hlt' : ¬ (k : Int) < (l.length : Int) := by omega
      have HE : Hid (fitN l W = k) := fitN_stop l W k hk hfit.out (fun h => absurd h hlt)
      clear hh
      go_wp2
      go_ret
      rw [HE.out]
      exact ⟨rfl, rfl⟩

set_option maxRecDepth 100000 in
set_option maxHeartbeats 2000000 in
theorem rwide_any (l : List (List UInt8 × Int)) (v : Value) (w : World) (hcl : Cls w v l) (hbd : ∀ c ∈ l, 0 ≤ c.2 ∧ c.2 ≤ 2) (hlen : l.length ≤ 1099511627776) :
    Calls Tryd.prog 32 #[v] w fun e w' => e = .returned (.int .i64 (wideSum l)) ∧ w' = w := by
  obtain ⟨a, cap, rfl, hh⟩ := hcl
  have HBD : Hid (∀ c ∈ l, 0 ≤ c.2 ∧ c.2 ≤ 2) := hbd
  clear hbd
  go_enter Tryd.func32, Tryd.ntmps32
  go_wp2
  go_loop [3, 4] (fun t i => ∃ k : Nat, k ≤ l.length ∧ i = .int .i64 k ∧ t = .int .i64 (wideSum (l.take k))) (fun _ i => l.length - (intOf i).toNat)
  case atStart => exact ⟨0, Nat.zero_le _, rfl, rfl⟩
  case round =>
    obtain ⟨k, hk, rfl, rfl⟩ := hrel
    have hwb := wideSum_bd l HBD.out k
    by_cases hlt : k < l.length
    · have hlt' : (k : Int) < (l.length : Int) := by omega
      have hne : l ≠ [] := fun e => by rw [e] at hlt; simp at hlt
      obtain ⟨b, off, rfl, hb, hc⟩ := hh.resolve_left hne
      obtain ⟨T, V, hTV⟩ : ∃ T V, l[k] = (T, V) := ⟨_, _, rfl⟩
      have hV := HBD.out l[k] (List.getElem_mem hlt)
      have c1 : w.cell? ⟨b, off + k * 2 + 1, none⟩ = some (.int .i64 V) := by have := (hc k hlt).2; rw [hTV] at this; exact this
      have HS : Hid (wideSum (l.take (k + 1)) = wideSum (l.take k) + V) := by show _ = _; rw [wideSum_snoc l k hlt, hTV]
      rw [hTV] at hV
      obtain ⟨X, hX⟩ : ∃ X, wideSum (l.take k) = X := ⟨_, rfl⟩
      rw [hX] at HS hwb
      rw [hX]
      simp only at hV
      clear hh hc hTV hX hne
      go_wp2
      go_round
      case rel => exact ⟨k + 1, by omega, by go_num, by rw [HS.out]⟩
      case measure => simp [intOf]; omega
    · have hlt' : ¬ (k : Int) < (l.length : Int) := by omega
      have HE : Hid (l.take k = l) := List.take_of_length_le (by omega)
      clear hh
      go_wp2
      go_ret
      rw [HE.out]
      exact ⟨rfl, rfl⟩

set_option maxHeartbeats 1000000 in
theorem rcolumns_any (s : ByteArray) (w : World) (hs : s.size ≤ 1099511627776) :
    Calls Tryd.prog 26 #[.string s] w fun e w' => e = .returned (.int .i64 (wideSum (clus (runes s.data.toList)))) ∧ Below w.heap.size w w' := by
  have hsl : s.data.toList.length = s.size := by rw [Array.length_toList]; rfl
  have hR := runes_length s.data.toList
  have hC := clus_length (runes s.data.toList)
  rw [hsl] at hR
  have hbd := clus_wide (runes s.data.toList)
  have G : Hid (Calls Tryd.prog 23 #[.string s] w fun e w' => ∃ v, e = .returned v ∧ Cls w' v (clus (runes s.data.toList)) ∧ Below w.heap.size w w') := by
    refine (rClusters_any s w hs).mono ?_
    rintro e w1 ⟨v, rfl, o, b⟩
    exact ⟨v, rfl, cls_own o, b⟩
  obtain ⟨l, hl⟩ : ∃ l, clus (runes s.data.toList) = l := ⟨_, rfl⟩
  rw [hl] at G hC hbd ⊢
  have HBD : Hid (∀ c ∈ l, 0 ≤ c.2 ∧ c.2 ≤ 2) := hbd
  clear hl hsl hbd
  go_enter Tryd.func26, Tryd.ntmps26
  go_wp2_with fail
  refine G.out.mono ?_
  rintro e w1 ⟨v1, rfl, c1, b1⟩
  have HC : Hid (Cls w1 v1 l) := c1
  clear c1 G
  go_wp2_with fail
  refine (rwide_any l v1 w1 HC.out HBD.out (by omega)).mono ?_
  rintro e w2 ⟨rfl, rfl⟩
  go_wp2
  go_ret
  exact ⟨rfl, b1⟩

end Go.Proofs.YtbjfckhijjjnkabDoor
