/-
  The program's reader: readWord, readByte.
-/
import Derived.Test.YtepeepipgkejiadGreatDoorTRead
namespace Go.Proofs.YtepeepipgkejiadGreatDoor
open Go.RowKit
set_option linter.unusedVariables false

set_option maxRecDepth 100000 in
set_option maxHeartbeats 2000000 in
theorem isLetter_any (b : Nat) (w : World) (hb : b < 256) :
    Calls Tryz.prog 90 #[.int .u8 (b : Int)] w fun e w' => e = .returned (.bool (letter b)) ∧ w' = w := by
  by_cases h1 : 97 ≤ b
  · have h1' : (97 : Int) ≤ (b : Int) := by omega
    by_cases h2 : b ≤ 122
    · have h2' : (b : Int) ≤ 122 := by omega
      have HL : Hid (letter b = true) := by show _ = _; simp [letter, h1, h2]
      have e1 : decide ((97 : Int) ≤ (b : Int)) = true := decide_eq_true h1'
      have e2 : decide ((b : Int) ≤ 122) = true := decide_eq_true h2'
      go_enter Tryz.func90, Tryz.ntmps90
      go_wp2
      go_ret
      exact ⟨by rw [HL.out]; rfl, rfl⟩
    · have h2' : ¬ (b : Int) ≤ 122 := by omega
      have HL : Hid (letter b = false) := by show _ = _; simp [letter, h2]
      have e1 : decide ((97 : Int) ≤ (b : Int)) = true := decide_eq_true h1'
      have e2 : decide ((b : Int) ≤ 122) = false := decide_eq_false h2'
      go_enter Tryz.func90, Tryz.ntmps90
      go_wp2
      go_ret
      exact ⟨by rw [HL.out]; rfl, rfl⟩
  · have h1' : ¬ (97 : Int) ≤ (b : Int) := by omega
    have HL : Hid (letter b = false) := by show _ = _; simp [letter, h1]
    have e1 : decide ((97 : Int) ≤ (b : Int)) = false := decide_eq_false h1'
    go_enter Tryz.func90, Tryz.ntmps90
    go_wp2
    go_ret
    exact ⟨by rw [HL.out]; rfl, rfl⟩

set_option maxRecDepth 100000 in
set_option maxHeartbeats 2000000 in
theorem readWord_any (rb : Nat) (s : ByteArray) (i : Nat) (av nv fv : Value) (w : World) (h : PR w rb s i av nv fv) (hs : s.size ≤ 1099511627776) (hi : i ≤ s.size) :
    Calls Tryz.prog 64 #[.pointer (some ⟨rb, 0, none⟩)] w fun e w' => e = .returned (.tuple #[.string (s.extract (sk s i) (run letter s (sk s i))), .int .i64 (sk s i : Int)]) ∧ PR w' rb s (run letter s (sk s i)) av nv fv ∧ w.grownBy w' (some rb) := by
  have CA : Hid (Calls Tryz.prog 89 #[.pointer (some ⟨rb, 0, none⟩), .func (.func 90) #[] #[]] w fun e w' => e = .returned (.tuple #[.string (s.extract (sk s i) (run letter s (sk s i))), .int .i64 (sk s i : Int)]) ∧ PR w' rb s (run letter s (sk s i)) av nv fv ∧ w.grownBy w' (some rb)) :=
    readAll_any 90 (enters_of Tryz.func90 (by kernel_rfl) rfl) letter (by rfl) (fun b w hb => isLetter_any b w hb) rb s i av nv fv w h hs hi
  obtain ⟨j, hj⟩ : ∃ j, sk s i = j := ⟨_, rfl⟩
  rw [hj] at CA ⊢
  obtain ⟨t, ht⟩ : ∃ t, s.extract j (run letter s j) = t := ⟨_, rfl⟩
  rw [ht] at CA ⊢
  clear h hj ht
  go_enter Tryz.func64, Tryz.ntmps64
  go_wp2_with fail
  refine CA.out.mono ?_
  rintro e w1 ⟨rfl, h1, g1⟩
  have HR : Hid (PR w1 rb s (run letter s j) av nv fv) := h1
  have HG : Hid (w.grownBy w1 (some rb)) := g1
  clear h1 g1 CA
  go_wp2
  go_ret2
  exact ⟨rfl, HR.out, HG.out⟩

end Go.Proofs.YtepeepipgkejiadGreatDoor
