/-
  The program's reader: readString.
-/
import Derived.Test.YtepeepipgkejiadGreatDoorTBld
namespace Go.Proofs.YtepeepipgkejiadGreatDoor
open Go.RowKit
set_option linter.unusedVariables false

/-- What readString leaves. -/
def SOut (w w' : World) (e : Ending) (rb : Nat) (s : ByteArray) (av nv fv : Value) (eb : Addr) (r : Except Nat (Nat × List UInt8)) : Prop :=
  w.grownBy w' (some rb) ∧ match r with
    | .ok (p, t) => e = .returned (.string ⟨t.toArray⟩) ∧ PR w' rb s p av nv fv
    | .error b => e = .panicked [{ v := faultV (b : Int) (errV eb), recovered := false }]
theorem gr_belowB {A B C : World} {b : Nat} (h : A.grownBy B (some b)) (k : Below A.heap.size B C) : A.grownBy C (some b) :=
  ⟨k.os.trans h.os, k.tape.trans h.tape, k.output.trans h.output, Nat.le_trans h.size k.size, fun i hi hn => (k.block i hi).trans (h.block i hi hn)⟩
theorem qF_end {s : ByteArray} {f p : Nat} {acc : List UInt8} (h : bat s p = 256) : qF s (f + 1) p acc = .error p := by unfold qF; rw [if_pos h]
theorem qF_close {s : ByteArray} {f p : Nat} {acc : List UInt8} (h : bat s p = 34) : qF s (f + 1) p acc = .ok (p + 1, acc) := by
  unfold qF; rw [if_neg (by omega), if_pos h]
theorem qF_esc {s : ByteArray} {f p c : Nat} {acc : List UInt8} (h : bat s p = 92) (hc : escB (bat s (p + 1)) = some c) : qF s (f + 1) p acc = qF s f (p + 2) (acc ++ [c.toUInt8]) := by
  conv => lhs; unfold qF
  rw [if_neg (by omega), if_neg (by omega), if_pos h]
  unfold escB at hc
  by_cases h1 : bat s (p + 1) = 34
  · rw [if_pos h1] at hc; cases hc; rw [if_pos (.inl h1), h1]
  · rw [if_neg h1] at hc
    by_cases h2 : bat s (p + 1) = 92
    · rw [if_pos h2] at hc; cases hc; rw [if_pos (.inr h2), h2]
    · rw [if_neg h2] at hc
      by_cases h3 : bat s (p + 1) = 110
      · rw [if_pos h3] at hc; cases hc; rw [if_neg (by omega), if_pos h3]; rfl
      · rw [if_neg h3] at hc; cases hc
theorem qF_bad {s : ByteArray} {f p : Nat} {acc : List UInt8} (h : bat s p = 92) (hc : escB (bat s (p + 1)) = none) : qF s (f + 1) p acc = .error (p + 1) := by
  unfold qF
  rw [if_neg (by omega), if_neg (by omega), if_pos h]
  unfold escB at hc
  by_cases h1 : bat s (p + 1) = 34
  · rw [if_pos h1] at hc; cases hc
  · rw [if_neg h1] at hc
    by_cases h2 : bat s (p + 1) = 92
    · rw [if_pos h2] at hc; cases hc
    · rw [if_neg h2] at hc
      by_cases h3 : bat s (p + 1) = 110
      · rw [if_pos h3] at hc; cases hc
      · rw [if_neg (by omega), if_neg h3]
theorem qF_byte {s : ByteArray} {f p : Nat} {acc : List UInt8} (h0 : bat s p ≠ 256) (h1 : bat s p ≠ 34) (h2 : bat s p ≠ 92) : qF s (f + 1) p acc = qF s f (p + 1) (acc ++ [(bat s p).toUInt8]) := by
  conv => lhs; unfold qF
  rw [if_neg h0, if_neg h1, if_neg h2]
theorem cells_more (acc : List UInt8) (c : Nat) (hc : c < 256) : Lib.byteCells (acc ++ [c.toUInt8]) = Lib.byteCells acc ++ [.int .u8 (c : Int)] := by
  simp [Lib.byteCells]; omega

end Go.Proofs.YtepeepipgkejiadGreatDoor
