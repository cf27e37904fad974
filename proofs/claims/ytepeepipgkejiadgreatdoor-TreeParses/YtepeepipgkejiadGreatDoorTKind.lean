/-
  The program's kinds: kindOf.
-/
import Derived.Test.YtepeepipgkejiadGreatDoorTPrg
namespace Go.Proofs.YtepeepipgkejiadGreatDoor
open Go.RowKit
set_option linter.unusedVariables false

/-- What kindOf answers. -/
def kindV (i : Int) : Value := if i < 0 then .tuple #[.int .i64 0, .bool false] else .tuple #[.int .i64 i, .bool true]

set_option maxRecDepth 100000 in
set_option maxHeartbeats 4000000 in
theorem kindOf_at (t : ByteArray) (w : World) (n0 n1 n2 n3 n4 n5 n6 : ByteArray)
    (h0 : w.cell? ⟨6, 0, none⟩ = some (.string n0))
    (h1 : w.cell? ⟨6, 1, none⟩ = some (.string n1))
    (h2 : w.cell? ⟨6, 2, none⟩ = some (.string n2))
    (h3 : w.cell? ⟨6, 3, none⟩ = some (.string n3))
    (h4 : w.cell? ⟨6, 4, none⟩ = some (.string n4))
    (h5 : w.cell? ⟨6, 5, none⟩ = some (.string n5))
    (h6 : w.cell? ⟨6, 6, none⟩ = some (.string n6)) :
    Calls Tryz.prog 65 #[.string t] w fun e w' => e = .returned (kindV (findF [n0, n1, n2, n3, n4, n5, n6] t 0)) ∧ w' = w := by
  have i0 : ∀ w, (Instr.index 87 (.agg #[.string n0, .string n1, .string n2, .string n3, .string n4, .string n5, .string n6]) (.int .i64 0)).run Tryz.prog w = .ok (.string n0) w := fun _ => by kernel_rfl
  have i1 : ∀ w, (Instr.index 87 (.agg #[.string n0, .string n1, .string n2, .string n3, .string n4, .string n5, .string n6]) (.int .i64 1)).run Tryz.prog w = .ok (.string n1) w := fun _ => by kernel_rfl
  have i2 : ∀ w, (Instr.index 87 (.agg #[.string n0, .string n1, .string n2, .string n3, .string n4, .string n5, .string n6]) (.int .i64 2)).run Tryz.prog w = .ok (.string n2) w := fun _ => by kernel_rfl
  have i3 : ∀ w, (Instr.index 87 (.agg #[.string n0, .string n1, .string n2, .string n3, .string n4, .string n5, .string n6]) (.int .i64 3)).run Tryz.prog w = .ok (.string n3) w := fun _ => by kernel_rfl
  have i4 : ∀ w, (Instr.index 87 (.agg #[.string n0, .string n1, .string n2, .string n3, .string n4, .string n5, .string n6]) (.int .i64 4)).run Tryz.prog w = .ok (.string n4) w := fun _ => by kernel_rfl
  have i5 : ∀ w, (Instr.index 87 (.agg #[.string n0, .string n1, .string n2, .string n3, .string n4, .string n5, .string n6]) (.int .i64 5)).run Tryz.prog w = .ok (.string n5) w := fun _ => by kernel_rfl
  have i6 : ∀ w, (Instr.index 87 (.agg #[.string n0, .string n1, .string n2, .string n3, .string n4, .string n5, .string n6]) (.int .i64 6)).run Tryz.prog w = .ok (.string n6) w := fun _ => by kernel_rfl
  go_enter Tryz.func65, Tryz.ntmps65
  go_wp2
  clear h0 h1 h2 h3 h4 h5 h6
  go_loop [7] (fun i => ∃ k : Nat, k ≤ 7 ∧ i = .int .i64 k ∧ Hid (findF [n0, n1, n2, n3, n4, n5, n6] t 0 = findF ([n0, n1, n2, n3, n4, n5, n6].drop k) t k)) (fun i => 7 - (intOf i).toNat)
  case atStart => exact ⟨0, Nat.zero_le _, rfl, by show _ = _; rw [List.drop_zero]⟩
  case round =>
    obtain ⟨k, hk, rfl, HF⟩ := hrel
    have hc : k = 0 ∨ k = 1 ∨ k = 2 ∨ k = 3 ∨ k = 4 ∨ k = 5 ∨ k = 6 ∨ k = 7 := by omega
    rcases hc with rfl | rfl | rfl | rfl | rfl | rfl | rfl | rfl
    · by_cases e : n0 = t
      · have HE : Hid (kindV (findF [n0, n1, n2, n3, n4, n5, n6] t 0) = .tuple #[.int .i64 0, .bool true]) := by
          show _ = _; rw [HF.out]; simp [findF, e, kindV]
        subst e
        clear HF
        go_wp2
        go_ret2
        exact ⟨by rw [HE.out]; rfl, rfl⟩
      · have HE : Hid (findF [n0, n1, n2, n3, n4, n5, n6] t 0 = findF ([n0, n1, n2, n3, n4, n5, n6].drop 1) t 1) := by
          show _ = _; rw [HF.out]; simp [findF, e]
        have e1 : (n0.toList == t.toList) = false := str_ne e
        clear HF
        go_wp2
        go_round
        case rel => exact ⟨1, by omega, by go_num, HE.out⟩
        case measure => simp [intOf]
    · by_cases e : n1 = t
      · have HE : Hid (kindV (findF [n0, n1, n2, n3, n4, n5, n6] t 0) = .tuple #[.int .i64 1, .bool true]) := by
          show _ = _; rw [HF.out]; simp [findF, e, kindV]
        subst e
        clear HF
        go_wp2
        go_ret2
        exact ⟨by rw [HE.out]; rfl, rfl⟩
      · have HE : Hid (findF [n0, n1, n2, n3, n4, n5, n6] t 0 = findF ([n0, n1, n2, n3, n4, n5, n6].drop 2) t 2) := by
          show _ = _; rw [HF.out]; simp [findF, e]
        have e1 : (n1.toList == t.toList) = false := str_ne e
        clear HF
        go_wp2
        go_round
        case rel => exact ⟨2, by omega, by go_num, HE.out⟩
        case measure => simp [intOf]
    · by_cases e : n2 = t
      · have HE : Hid (kindV (findF [n0, n1, n2, n3, n4, n5, n6] t 0) = .tuple #[.int .i64 2, .bool true]) := by
          show _ = _; rw [HF.out]; simp [findF, e, kindV]
        subst e
        clear HF
        go_wp2
        go_ret2
        exact ⟨by rw [HE.out]; rfl, rfl⟩
      · have HE : Hid (findF [n0, n1, n2, n3, n4, n5, n6] t 0 = findF ([n0, n1, n2, n3, n4, n5, n6].drop 3) t 3) := by
          show _ = _; rw [HF.out]; simp [findF, e]
        have e1 : (n2.toList == t.toList) = false := str_ne e
        clear HF
        go_wp2
        go_round
        case rel => exact ⟨3, by omega, by go_num, HE.out⟩
        case measure => simp [intOf]
    · by_cases e : n3 = t
      · have HE : Hid (kindV (findF [n0, n1, n2, n3, n4, n5, n6] t 0) = .tuple #[.int .i64 3, .bool true]) := by
          show _ = _; rw [HF.out]; simp [findF, e, kindV]
        subst e
        clear HF
        go_wp2
        go_ret2
        exact ⟨by rw [HE.out]; rfl, rfl⟩
      · have HE : Hid (findF [n0, n1, n2, n3, n4, n5, n6] t 0 = findF ([n0, n1, n2, n3, n4, n5, n6].drop 4) t 4) := by
          show _ = _; rw [HF.out]; simp [findF, e]
        have e1 : (n3.toList == t.toList) = false := str_ne e
        clear HF
        go_wp2
        go_round
        case rel => exact ⟨4, by omega, by go_num, HE.out⟩
        case measure => simp [intOf]
    · by_cases e : n4 = t
      · have HE : Hid (kindV (findF [n0, n1, n2, n3, n4, n5, n6] t 0) = .tuple #[.int .i64 4, .bool true]) := by
          show _ = _; rw [HF.out]; simp [findF, e, kindV]
        subst e
        clear HF
        go_wp2
        go_ret2
        exact ⟨by rw [HE.out]; rfl, rfl⟩
      · have HE : Hid (findF [n0, n1, n2, n3, n4, n5, n6] t 0 = findF ([n0, n1, n2, n3, n4, n5, n6].drop 5) t 5) := by
          show _ = _; rw [HF.out]; simp [findF, e]
        have e1 : (n4.toList == t.toList) = false := str_ne e
        clear HF
        go_wp2
        go_round
        case rel => exact ⟨5, by omega, by go_num, HE.out⟩
        case measure => simp [intOf]
    · by_cases e : n5 = t
      · have HE : Hid (kindV (findF [n0, n1, n2, n3, n4, n5, n6] t 0) = .tuple #[.int .i64 5, .bool true]) := by
          show _ = _; rw [HF.out]; simp [findF, e, kindV]
        subst e
        clear HF
        go_wp2
        go_ret2
        exact ⟨by rw [HE.out]; rfl, rfl⟩
      · have HE : Hid (findF [n0, n1, n2, n3, n4, n5, n6] t 0 = findF ([n0, n1, n2, n3, n4, n5, n6].drop 6) t 6) := by
          show _ = _; rw [HF.out]; simp [findF, e]
        have e1 : (n5.toList == t.toList) = false := str_ne e
        clear HF
        go_wp2
        go_round
        case rel => exact ⟨6, by omega, by go_num, HE.out⟩
        case measure => simp [intOf]
    · by_cases e : n6 = t
      · have HE : Hid (kindV (findF [n0, n1, n2, n3, n4, n5, n6] t 0) = .tuple #[.int .i64 6, .bool true]) := by
          show _ = _; rw [HF.out]; simp [findF, e, kindV]
        subst e
        clear HF
        go_wp2
        go_ret2
        exact ⟨by rw [HE.out]; rfl, rfl⟩
      · have HE : Hid (findF [n0, n1, n2, n3, n4, n5, n6] t 0 = findF ([n0, n1, n2, n3, n4, n5, n6].drop 7) t 7) := by
          show _ = _; rw [HF.out]; simp [findF, e]
        have e1 : (n6.toList == t.toList) = false := str_ne e
        clear HF
        go_wp2
        go_round
        case rel => exact ⟨7, by omega, by go_num, HE.out⟩
        case measure => simp [intOf]
    · have HE : Hid (kindV (findF [n0, n1, n2, n3, n4, n5, n6] t 0) = .tuple #[.int .i64 0, .bool false]) := by
        show _ = _; rw [HF.out]; simp [findF, kindV]
      clear HF
      go_wp2
      go_ret2
      exact ⟨by rw [HE.out]; rfl, rfl⟩

end Go.Proofs.YtepeepipgkejiadGreatDoor
