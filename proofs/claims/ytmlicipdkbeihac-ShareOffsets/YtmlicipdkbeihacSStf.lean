/-
  slices.SortStableFunc over []int, of a row and of nil; cmp.Compare.
-/
import Derived.Test.YtmlicipdkbeihacSStab
namespace Go.Proofs.Ytmlicipdkbeihac
open Go.RowKit Go.Sort
set_option linter.unusedVariables false

set_option maxRecDepth 100000 in
set_option maxHeartbeats 1000000 in
theorem sortStable_any (g : Nat) (lb : Array Value) (eg : ∀ args w, (callFunc g args).run Try.prog w = .ok (.enter g args) w) (cf : Int → Int → Int) (D : List Int) (R : Int → Int → Prop) (hO : Ord cf D R) (w0 : World) (blk off cap : Nat) (hcmp : CmpG g lb cf D w0 blk) (L : List Int) (w : World) (n : Nat) (hw0 : w0.grownBy w (some blk)) (h : IRow w blk off L) (hD : ∀ x ∈ L, x ∈ D) (hasc : L.Pairwise (· < ·)) (hn : L.length = n) (hlen : n ≤ 1099511627776) :
    Calls Try.prog 27 #[.slice (some ⟨blk, off, none⟩) n cap, .func (.func g) #[] lb] w fun e w' => e = .returned (.tuple #[]) ∧ Sorted w w' blk off R [] L [] := by
  have C : Hid (Calls Try.prog 32 #[.slice (some ⟨blk, off, none⟩) n cap, .int .i64 n, .func (.func g) #[] lb] w fun e w' => e = .returned (.tuple #[]) ∧ Sorted w w' blk off R [] L []) :=
    stable_any g lb eg cf D R hO w0 blk off cap hcmp L w n hw0 h hD hasc hn hlen
  clear h hO hw0 hcmp hD hasc hn
  go_enter Try.func27, Try.ntmps27
  go_wp2_with fail
  refine C.out.mono ?_
  rintro e w2 ⟨rfl, s2⟩
  have S2 : Hid (Sorted w w2 blk off R [] L []) := s2
  clear s2 C
  go_wp2
  go_end0
  exact ⟨rfl, S2.out⟩

set_option maxRecDepth 100000 in
set_option maxHeartbeats 1000000 in
theorem ins_nil (fv : Value) (w : World) :
    Calls Try.prog 36 #[.slice none 0 0, .int .i64 0, .int .i64 0, fv] w fun e w' => e = .returned (.tuple #[]) ∧ w' = w := by
  go_enter Try.func36, Try.ntmps36
  go_wp2
  go_loopw [8] (fun i wr => i = .int .i64 1 ∧ wr = w) (fun i _ => 0)
  case atStart => exact ⟨rfl, rfl⟩
  case round =>
    obtain ⟨rfl, rfl⟩ := hrel
    go_wp2
    go_end0
    exact ⟨rfl, rfl⟩

set_option maxRecDepth 100000 in
set_option maxHeartbeats 1000000 in
theorem stable_nil (fv : Value) (w : World) :
    Calls Try.prog 32 #[.slice none 0 0, .int .i64 0, fv] w fun e w' => e = .returned (.tuple #[]) ∧ w' = w := by
  go_enter Try.func32, Try.ntmps32
  go_wp2
  go_loopw [7, 8] (fun i j wr => i = .int .i64 0 ∧ j = .int .i64 20 ∧ wr = w) (fun i _ _ => 0)
  case atStart => exact ⟨rfl, rfl, rfl⟩
  case round =>
    obtain ⟨rfl, rfl, rfl⟩ := hrel
    go_wp2_with fail
    refine (ins_nil fv wr).mono ?_
    rintro e w2 ⟨rfl, rfl⟩
    go_wp2
    go_loopw [6] (fun i wr => i = .int .i64 20 ∧ wr = w2) (fun i _ => 0)
    case atStart => exact ⟨rfl, rfl⟩
    case round =>
      obtain ⟨rfl, rfl⟩ := hrel
      go_wp2
      go_end0
      exact ⟨rfl, rfl⟩

set_option maxRecDepth 100000 in
set_option maxHeartbeats 1000000 in
theorem sortStable_nil (fv : Value) (w : World) :
    Calls Try.prog 27 #[.slice none 0 0, fv] w fun e w' => e = .returned (.tuple #[]) ∧ w' = w := by
  go_enter Try.func27, Try.ntmps27
  go_wp2_with fail
  refine (stable_nil fv w).mono ?_
  rintro e w2 ⟨rfl, rfl⟩
  go_wp2
  go_end0
  exact ⟨rfl, rfl⟩

/-- What cmp.Compare answers. -/
def cmpI (x y : Int) : Int := if x < y then -1 else if y < x then 1 else 0

set_option maxRecDepth 100000 in
set_option maxHeartbeats 1000000 in
theorem isNaN_no (x : Int) (w : World) :
    Calls Try.prog 33 #[.int .i64 x] w fun e w' => e = .returned (.bool false) ∧ w' = w := by
  go_enter Try.func33, Try.ntmps33
  go_wp2
  go_ret
  exact ⟨rfl, rfl⟩

set_option maxRecDepth 100000 in
set_option maxHeartbeats 1000000 in
theorem compare_any (x y : Int) (w : World) :
    Calls Try.prog 29 #[.int .i64 x, .int .i64 y] w fun e w' => e = .returned (.int .i64 (cmpI x y)) ∧ w' = w := by
  obtain ⟨z, hz⟩ : ∃ z, cmpI x y = z := ⟨_, rfl⟩
  have HZ : Hid (cmpI x y = z) := hz
  rw [hz]
  clear hz
  by_cases h1 : x < y
  · have hz1 : z = -1 := by have := HZ.out; unfold cmpI at this; rw [if_pos h1] at this; exact this.symm
    subst hz1
    go_enter Try.func29, Try.ntmps29
    go_wp2_with (refine (isNaN_no _ _).mono ?_; rintro e w2 ⟨rfl, rfl⟩)
    try go_wp2
    go_ret
    exact ⟨rfl, rfl⟩
  · by_cases h2 : y < x
    · have hz1 : z = 1 := by have := HZ.out; unfold cmpI at this; rw [if_neg h1, if_pos h2] at this; exact this.symm
      subst hz1
      go_enter Try.func29, Try.ntmps29
      go_wp2_with (refine (isNaN_no _ _).mono ?_; rintro e w2 ⟨rfl, rfl⟩)
      go_ret
      exact ⟨rfl, rfl⟩
    · have hz1 : z = 0 := by have := HZ.out; unfold cmpI at this; rw [if_neg h1, if_neg h2] at this; exact this.symm
      subst hz1
      go_enter Try.func29, Try.ntmps29
      go_wp2_with (refine (isNaN_no _ _).mono ?_; rintro e w2 ⟨rfl, rfl⟩)
      go_ret
      exact ⟨rfl, rfl⟩

end Go.Proofs.Ytmlicipdkbeihac
