/-
  The program's reader: noTree, expect.
-/
import Derived.Test.YtepeepipgkejiadGreatDoorTPrg
namespace Go.Proofs.YtepeepipgkejiadGreatDoor
open Go.RowKit
set_option linter.unusedVariables false

/-- An error made by errors.New at eb. -/
def errV (eb : Addr) : Value := .iface 242 (.pointer (some eb))
/-- A fault at a place, as an error. -/
def faultV (place : Int) (ev : Value) : Value := .iface 66 (.agg #[.int .i64 place, ev])

set_option maxRecDepth 100000 in
set_option maxHeartbeats 2000000 in
theorem noTree_any (place : Int) (w : World) (eb : Addr) (he : w.cell? ⟨8, 0, none⟩ = some (errV eb)) :
    Calls Tryz.prog 31 #[.int .i64 place] w fun e w' => e = .returned (faultV place (errV eb)) ∧ w' = w := by
  have he' : w.cell? ⟨8, 0, none⟩ = some (.iface 242 (.pointer (some eb))) := he
  clear he
  go_enter Tryz.func31, Tryz.ntmps31
  go_wp2
  go_ret
  exact ⟨rfl, rfl⟩

set_option maxRecDepth 100000 in
set_option maxHeartbeats 2000000 in
theorem expect_yes (rb : Nat) (s : ByteArray) (i : Nat) (av nv fv : Value) (c : Nat) (w : World) (h : PR w rb s i av nv fv) (hs : s.size ≤ 1099511627776) (hi : i ≤ s.size) (hc : c < 256) (hat : isAt s i c = true) :
    Calls Tryz.prog 72 #[.pointer (some ⟨rb, 0, none⟩), .int .u8 (c : Int)] w fun e w' => e = .returned (.tuple #[]) ∧ PR w' rb s (gotI s i c) av nv fv ∧ w.grownBy w' (some rb) := by
  have CT : Hid (Calls Tryz.prog 69 #[.pointer (some ⟨rb, 0, none⟩), .int .u8 (c : Int)] w fun e w' => e = .returned (.bool true) ∧ PR w' rb s (gotI s i c) av nv fv ∧ w.grownBy w' (some rb)) := by
    have := takes_any rb s i av nv fv c w h hs hi hc
    rw [hat] at this; exact this
  clear h hat
  go_enter Tryz.func72, Tryz.ntmps72
  go_wp2_with fail
  refine CT.out.mono ?_
  rintro e w1 ⟨rfl, h1, g1⟩
  have HR : Hid (PR w1 rb s (gotI s i c) av nv fv) := h1
  have HG : Hid (w.grownBy w1 (some rb)) := g1
  clear h1 g1 CT
  go_wp2
  go_end0
  exact ⟨rfl, HR.out, HG.out⟩

set_option maxRecDepth 100000 in
set_option maxHeartbeats 2000000 in
theorem expect_no (rb : Nat) (s : ByteArray) (i : Nat) (av nv fv : Value) (eb : Addr) (c : Nat) (w : World) (h : PR w rb s i av nv fv) (hs : s.size ≤ 1099511627776) (hi : i ≤ s.size) (hc : c < 256) (hat : isAt s i c = false) (hg : 8 ≠ rb) (he : w.cell? ⟨8, 0, none⟩ = some (errV eb)) :
    Calls Tryz.prog 72 #[.pointer (some ⟨rb, 0, none⟩), .int .u8 (c : Int)] w fun e w' => e = .panicked [{ v := faultV (sk s i : Int) (errV eb), recovered := false }] ∧ w.grownBy w' (some rb) := by
  have CT : Hid (Calls Tryz.prog 69 #[.pointer (some ⟨rb, 0, none⟩), .int .u8 (c : Int)] w fun e w' => e = .returned (.bool false) ∧ PR w' rb s (sk s i) av nv fv ∧ w.grownBy w' (some rb)) := by
    have := takes_any rb s i av nv fv c w h hs hi hc
    have e2 : gotI s i c = sk s i := by
      unfold gotI; unfold isAt at hat
      rw [if_neg (by simpa using hat)]
    rw [hat, e2] at this; exact this
  have HN : Hid (∀ w, w.cell? ⟨8, 0, none⟩ = some (errV eb) → Calls Tryz.prog 31 #[.int .i64 (sk s i : Int)] w fun e w' => e = .returned (.iface 66 (.agg #[.int .i64 (sk s i : Int), .iface 242 (.pointer (some eb))])) ∧ w' = w) := fun w he => noTree_any _ w eb he
  have HE : Hid (w.cell? ⟨8, 0, none⟩ = some (errV eb)) := he
  obtain ⟨j, hj⟩ : ∃ j, sk s i = j := ⟨_, rfl⟩
  rw [hj] at CT HN ⊢
  clear h hat he hj
  go_enter Tryz.func72, Tryz.ntmps72
  go_wp2_with fail
  refine CT.out.mono ?_
  rintro e w1 ⟨rfl, h1, g1⟩
  have HG : Hid (w.grownBy w1 (some rb)) := g1
  have c1 := h1.c1
  have HE1 : Hid (w1.cell? ⟨8, 0, none⟩ = some (errV eb)) := g1.cell HE.out (by simpa using hg)
  clear h1 g1 CT
  go_wp2_with fail
  refine (HN.out _ HE1.out).mono ?_
  rintro e w2 ⟨rfl, hw⟩
  obtain rfl := hw.symm
  go_wp2
  exact ⟨rfl, rfl, HG.out⟩

end Go.Proofs.YtepeepipgkejiadGreatDoor
