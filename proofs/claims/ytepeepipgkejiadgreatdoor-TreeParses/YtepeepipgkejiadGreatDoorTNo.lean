/-
  The program's reader: readNumber, where it gives up.
-/
import Derived.Test.YtepeepipgkejiadGreatDoorTRc
namespace Go.Proofs.YtepeepipgkejiadGreatDoor
open Go.RowKit
set_option linter.unusedVariables false

set_option maxRecDepth 100000 in
set_option maxHeartbeats 2000000 in
theorem isDigit_any (b : Nat) (w : World) (hb : b < 256) :
    Calls Tryz.prog 109 #[.int .u8 (b : Int)] w fun e w' => e = .returned (.bool (digit b)) ∧ w' = w := by
  by_cases h1 : 48 ≤ b
  · have h1' : (48 : Int) ≤ (b : Int) := by omega
    by_cases h2 : b ≤ 57
    · have h2' : (b : Int) ≤ 57 := by omega
      have HL : Hid (digit b = true) := by show _ = _; simp [digit, h1, h2]
      have e1 : decide ((48 : Int) ≤ (b : Int)) = true := decide_eq_true h1'
      have e2 : decide ((b : Int) ≤ 57) = true := decide_eq_true h2'
      go_enter Tryz.func109, Tryz.ntmps109
      go_wp2
      go_ret
      exact ⟨by rw [HL.out]; rfl, rfl⟩
    · have h2' : ¬ (b : Int) ≤ 57 := by omega
      have HL : Hid (digit b = false) := by show _ = _; simp [digit, h2]
      have e1 : decide ((48 : Int) ≤ (b : Int)) = true := decide_eq_true h1'
      have e2 : decide ((b : Int) ≤ 57) = false := decide_eq_false h2'
      go_enter Tryz.func109, Tryz.ntmps109
      go_wp2
      go_ret
      exact ⟨by rw [HL.out]; rfl, rfl⟩
  · have h1' : ¬ (48 : Int) ≤ (b : Int) := by omega
    have HL : Hid (digit b = false) := by show _ = _; simp [digit, h1]
    have e1 : decide ((48 : Int) ≤ (b : Int)) = false := decide_eq_false h1'
    go_enter Tryz.func109, Tryz.ntmps109
    go_wp2
    go_ret
    exact ⟨by rw [HL.out]; rfl, rfl⟩

/-- The digits that stand there. -/
theorem digits_any (rb : Nat) (s : ByteArray) (i : Nat) (av nv fv : Value) (w : World) (h : PR w rb s i av nv fv) (hs : s.size ≤ 1099511627776) (hi : i ≤ s.size) :
    Calls Tryz.prog 89 #[.pointer (some ⟨rb, 0, none⟩), .func (.func 109) #[] #[]] w fun e w' => e = .returned (.tuple #[.string (s.extract (sk s i) (run digit s (sk s i))), .int .i64 (sk s i : Int)]) ∧ PR w' rb s (run digit s (sk s i)) av nv fv ∧ w.grownBy w' (some rb) :=
  readAll_any 109 (enters_of Tryz.func109 (by kernel_rfl) rfl) digit (by rfl) (fun b w hb => isDigit_any b w hb) rb s i av nv fv w h hs hi

end Go.Proofs.YtepeepipgkejiadGreatDoor
