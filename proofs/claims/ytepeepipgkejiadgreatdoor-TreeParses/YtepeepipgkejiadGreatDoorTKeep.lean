/-
  The program's reader: keep, roomFor.
-/
import Derived.Test.YtepeepipgkejiadGreatDoorTExp
namespace Go.Proofs.YtepeepipgkejiadGreatDoor
open Go.RowKit
set_option linter.unusedVariables false

theorem PR.setF {W : World} {rb : Nat} {s : ByteArray} {i : Nat} {av nv fv : Value} (h : PR W rb s i av nv fv) (fv' : Value) : PR (W.setCell ⟨rb, 4, none⟩ fv') rb s i av nv fv' :=
  ⟨by simpa using h.lt, rs_other (by omega) h.c0, rs_other (by omega) h.c1, rs_other (by omega) h.c2, rs_other (by omega) h.c3, rs_same h.c4, fun j => by rw [World.frozen?_setCell]; exact h.fz j⟩

set_option maxRecDepth 100000 in
set_option maxHeartbeats 2000000 in
theorem keep_nil (rb : Nat) (s : ByteArray) (i : Nat) (av nv fv : Value) (place : Int) (w : World) (h : PR w rb s i av nv fv) :
    Calls Tryz.prog 66 #[.pointer (some ⟨rb, 0, none⟩), .nilIface, .int .i64 place] w fun e w' => e = .returned (.tuple #[]) ∧ PR w' rb s i av nv fv ∧ w.grownBy w' (some rb) := by
  have HR : Hid (PR w rb s i av nv fv) := h
  clear h
  go_enter Tryz.func66, Tryz.ntmps66
  go_wp2
  go_end0
  exact ⟨rfl, HR.out, gr_refl _ _⟩

set_option maxRecDepth 100000 in
set_option maxHeartbeats 2000000 in
theorem keep_first (rb : Nat) (s : ByteArray) (i : Nat) (av nv : Value) (eb : Addr) (place : Int) (w : World) (h : PR w rb s i av nv .nilIface) :
    Calls Tryz.prog 66 #[.pointer (some ⟨rb, 0, none⟩), errV eb, .int .i64 place] w fun e w' => e = .returned (.tuple #[]) ∧ PR w' rb s i av nv (faultV place (errV eb)) ∧ w.grownBy w' (some rb) := by
  have HR : Hid (PR w rb s i av nv .nilIface) := h
  have c4 := h.c4
  have f4 := h.fz 4
  have HN : Hid (PR (w.setCell ⟨rb, 4, none⟩ (faultV place (errV eb))) rb s i av nv (faultV place (errV eb))) := h.setF _
  clear h
  show Calls Tryz.prog 66 #[.pointer (some ⟨rb, 0, none⟩), .iface 242 (.pointer (some eb)), .int .i64 place] w _
  go_enter Tryz.func66, Tryz.ntmps66
  go_wp2
  go_end0
  exact ⟨rfl, HN.out, gr_set _ _ _ _⟩

set_option maxRecDepth 100000 in
set_option maxHeartbeats 2000000 in
theorem keep_later (rb : Nat) (s : ByteArray) (i : Nat) (av nv : Value) (eb eb2 : Addr) (place place2 : Int) (w : World) (h : PR w rb s i av nv (faultV place2 (errV eb2))) :
    Calls Tryz.prog 66 #[.pointer (some ⟨rb, 0, none⟩), errV eb, .int .i64 place] w fun e w' => e = .returned (.tuple #[]) ∧ PR w' rb s i av nv (faultV place2 (errV eb2)) ∧ w.grownBy w' (some rb) := by
  have HR : Hid (PR w rb s i av nv (faultV place2 (errV eb2))) := h
  have c4 : w.cell? ⟨rb, 4, none⟩ = some (.iface 66 (.agg #[.int .i64 place2, .iface 242 (.pointer (some eb2))])) := h.c4
  clear h
  show Calls Tryz.prog 66 #[.pointer (some ⟨rb, 0, none⟩), .iface 242 (.pointer (some eb)), .int .i64 place] w _
  go_enter Tryz.func66, Tryz.ntmps66
  go_wp2
  go_end0
  exact ⟨rfl, HR.out, gr_refl _ _⟩

/-- What roomFor answers. -/
def roomV (n depth : Nat) (m d : Addr) : Value := if 100 ≤ n then errV m else if 12 ≤ depth then errV d else .nilIface

set_option maxRecDepth 100000 in
set_option maxHeartbeats 2000000 in
theorem roomFor_any (rb : Nat) (s : ByteArray) (i : Nat) (av fv : Value) (p : Option Addr) (n cp depth : Nat) (m d : Addr) (w : World) (h : PR w rb s i av (.slice p n cp) fv)
    (hm : w.cell? ⟨1, 0, none⟩ = some (errV m)) (hd : w.cell? ⟨2, 0, none⟩ = some (errV d)) :
    Calls Tryz.prog 67 #[.pointer (some ⟨rb, 0, none⟩), .int .i64 (depth : Int)] w fun e w' => e = .returned (roomV n depth m d) ∧ w' = w := by
  have c3 := h.c3
  have em : w.cell? ⟨1, 0, none⟩ = some (.iface 242 (.pointer (some m))) := hm
  have ed : w.cell? ⟨2, 0, none⟩ = some (.iface 242 (.pointer (some d))) := hd
  clear h hm hd
  by_cases h1 : 100 ≤ n
  · have h1' : (100 : Int) ≤ (n : Int) := by omega
    have e1 : decide ((100 : Int) ≤ (n : Int)) = true := decide_eq_true h1'
    have HV : Hid (roomV n depth m d = .iface 242 (.pointer (some m))) := by show _ = _; unfold roomV; rw [if_pos h1]; rfl
    go_enter Tryz.func67, Tryz.ntmps67
    go_wp2
    go_ret
    exact ⟨by rw [HV.out]; rfl, rfl⟩
  · have h1' : ¬ (100 : Int) ≤ (n : Int) := by omega
    have e1 : decide ((100 : Int) ≤ (n : Int)) = false := decide_eq_false h1'
    by_cases h2 : 12 ≤ depth
    · have h2' : (12 : Int) ≤ (depth : Int) := by omega
      have e2 : decide ((12 : Int) ≤ (depth : Int)) = true := decide_eq_true h2'
      have HV : Hid (roomV n depth m d = .iface 242 (.pointer (some d))) := by show _ = _; unfold roomV; rw [if_neg h1, if_pos h2]; rfl
      go_enter Tryz.func67, Tryz.ntmps67
      go_wp2
      go_ret
      exact ⟨by rw [HV.out]; rfl, rfl⟩
    · have h2' : ¬ (12 : Int) ≤ (depth : Int) := by omega
      have e2 : decide ((12 : Int) ≤ (depth : Int)) = false := decide_eq_false h2'
      have HV : Hid (roomV n depth m d = .nilIface) := by show _ = _; unfold roomV; rw [if_neg h1, if_neg h2]
      go_enter Tryz.func67, Tryz.ntmps67
      go_wp2
      go_ret
      exact ⟨by rw [HV.out]; rfl, rfl⟩

end Go.Proofs.YtepeepipgkejiadGreatDoor
