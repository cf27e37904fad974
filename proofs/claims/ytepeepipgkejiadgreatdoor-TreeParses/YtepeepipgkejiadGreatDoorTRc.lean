/-
  The program's reader: readByte, readEscaped.
-/
import Derived.Test.YtepeepipgkejiadGreatDoorTRb
namespace Go.Proofs.YtepeepipgkejiadGreatDoor
open Go.RowKit
set_option linter.unusedVariables false

set_option maxRecDepth 100000 in
set_option maxHeartbeats 2000000 in
theorem readByte_yes (rb : Nat) (s : ByteArray) (i : Nat) (av nv fv : Value) (w : World) (h : PR w rb s i av nv fv) (hs : s.size ≤ 1099511627776) (hi : i < s.size) :
    Calls Tryz.prog 92 #[.pointer (some ⟨rb, 0, none⟩)] w fun e w' => e = .returned (.int .u8 (bat s i : Int)) ∧ PR w' rb s (i + 1) av nv fv ∧ w.grownBy w' (some rb) := by
  have HR : Hid (PR w rb s i av nv fv) := h
  have c0 := h.c0
  have c1 := h.c1
  have f1 := h.fz 1
  have el : ((i : Int) == (s.size : Int)) = false := by simp; omega
  have hlt' : (i : Int) < (s.size : Int) := by omega
  obtain ⟨x, hx⟩ : ∃ x, s[i].toNat = x := ⟨_, rfl⟩
  have hbx : bat s i = x := by rw [bat_in hi, hx]
  rw [hbx]
  have HN : Hid (∀ q, PR ((w.drewN q).setCell ⟨rb, 1, none⟩ (.int .i64 ((i : Int) + 1))) rb s (i + 1) av nv fv) := fun q => by
    have := (HR.out.drewN q).setI (i + 1)
    rw [show ((i + 1 : Nat) : Int) = (i : Int) + 1 by omega] at this; exact this
  clear h hbx
  go_enter Tryz.func92, Tryz.ntmps92
  go_wp2_with fail
  go_quiet (fail)
  go_wp2_with fail
  go_quiet (fail)
  go_wp2
  go_ret
  exact ⟨rfl, (HN.out _).drewN _, gr_trans (gr_trans (gr_drewN _ _ _) (gr_set _ _ _ _)) (gr_drewN _ _ _)⟩

set_option maxRecDepth 100000 in
set_option maxHeartbeats 2000000 in
theorem readByte_no (rb : Nat) (s : ByteArray) (i : Nat) (av nv fv : Value) (eb : Addr) (w : World) (h : PR w rb s i av nv fv) (hi : i = s.size) (he : w.cell? ⟨8, 0, none⟩ = some (errV eb)) :
    Calls Tryz.prog 92 #[.pointer (some ⟨rb, 0, none⟩)] w fun e w' => e = .panicked [{ v := faultV (i : Int) (errV eb), recovered := false }] ∧ w.grownBy w' (some rb) := by
  have HN : Hid (∀ w, w.cell? ⟨8, 0, none⟩ = some (errV eb) → Calls Tryz.prog 31 #[.int .i64 (i : Int)] w fun e w' => e = .returned (.iface 66 (.agg #[.int .i64 (i : Int), .iface 242 (.pointer (some eb))])) ∧ w' = w) := fun w he => noTree_any _ w eb he
  have HE : Hid (w.cell? ⟨8, 0, none⟩ = some (errV eb)) := he
  have c0 := h.c0
  have c1 := h.c1
  have el : ((i : Int) == (s.size : Int)) = true := by simp; omega
  clear h he hi
  go_enter Tryz.func92, Tryz.ntmps92
  go_wp2_with fail
  go_quiet (fail)
  go_wp2_with fail
  refine (HN.out (w.drewN _) HE.out).mono ?_
  rintro e w2 ⟨rfl, hw⟩
  obtain rfl := hw.symm
  go_wp2
  exact ⟨rfl, rfl, gr_drewN _ _ _⟩

/-- What an escaped byte stands for. -/
def escB (x : Nat) : Option Nat := if x = 34 then some 34 else if x = 92 then some 92 else if x = 110 then some 10 else none

set_option maxRecDepth 100000 in
set_option maxHeartbeats 2000000 in
theorem readEscaped_yes (rb : Nat) (s : ByteArray) (i : Nat) (av nv fv : Value) (w : World) (h : PR w rb s i av nv fv) (hs : s.size ≤ 1099511627776) (hi : i < s.size) (c : Nat) (hc : escB (bat s i) = some c) :
    Calls Tryz.prog 93 #[.pointer (some ⟨rb, 0, none⟩)] w fun e w' => e = .returned (.int .u8 (c : Int)) ∧ PR w' rb s (i + 1) av nv fv ∧ w.grownBy w' (some rb) := by
  have CB : Hid (Calls Tryz.prog 92 #[.pointer (some ⟨rb, 0, none⟩)] w fun e w' => e = .returned (.int .u8 (bat s i : Int)) ∧ PR w' rb s (i + 1) av nv fv ∧ w.grownBy w' (some rb)) := readByte_yes rb s i av nv fv w h hs hi
  obtain ⟨x, hx⟩ : ∃ x, bat s i = x := ⟨_, rfl⟩
  rw [hx] at CB hc
  clear h hx
  by_cases h1 : x = 34
  · have e0 : c = 34 := by subst h1; simp [escB] at hc; exact hc.symm
    subst h1; subst e0
    clear hc
    go_enter Tryz.func93, Tryz.ntmps93
    go_wp2_with fail
    refine CB.out.mono ?_
    rintro e w1 ⟨rfl, h1, g1⟩
    have HR : Hid (PR w1 rb s (i + 1) av nv fv) := h1
    have HG : Hid (w.grownBy w1 (some rb)) := g1
    clear h1 g1 CB
    go_wp2
    go_ret
    exact ⟨rfl, HR.out, HG.out⟩
  · by_cases h2 : x = 92
    · have e0 : c = 92 := by subst h2; simp [escB] at hc; exact hc.symm
      subst h2; subst e0
      clear hc
      go_enter Tryz.func93, Tryz.ntmps93
      go_wp2_with fail
      refine CB.out.mono ?_
      rintro e w1 ⟨rfl, h1, g1⟩
      have HR : Hid (PR w1 rb s (i + 1) av nv fv) := h1
      have HG : Hid (w.grownBy w1 (some rb)) := g1
      clear h1 g1 CB
      go_wp2
      go_ret
      exact ⟨rfl, HR.out, HG.out⟩
    · have h3 : x = 110 := by
        by_cases h3 : x = 110
        · exact h3
        · simp [escB, h1, h2, h3] at hc
      have e0 : c = 10 := by subst h3; simp [escB] at hc; exact hc.symm
      subst h3; subst e0
      clear hc h1 h2
      go_enter Tryz.func93, Tryz.ntmps93
      go_wp2_with fail
      refine CB.out.mono ?_
      rintro e w1 ⟨rfl, h1, g1⟩
      have HR : Hid (PR w1 rb s (i + 1) av nv fv) := h1
      have HG : Hid (w.grownBy w1 (some rb)) := g1
      clear h1 g1 CB
      go_wp2
      go_ret
      exact ⟨rfl, HR.out, HG.out⟩

set_option maxRecDepth 100000 in
set_option maxHeartbeats 2000000 in
theorem readEscaped_no (rb : Nat) (s : ByteArray) (i : Nat) (av nv fv : Value) (eb : Addr) (w : World) (h : PR w rb s i av nv fv) (hs : s.size ≤ 1099511627776) (hi : i < s.size) (hc : escB (bat s i) = none) (hg : 8 ≠ rb) (he : w.cell? ⟨8, 0, none⟩ = some (errV eb)) :
    Calls Tryz.prog 93 #[.pointer (some ⟨rb, 0, none⟩)] w fun e w' => e = .panicked [{ v := faultV (i : Int) (errV eb), recovered := false }] ∧ w.grownBy w' (some rb) := by
  have CB : Hid (Calls Tryz.prog 92 #[.pointer (some ⟨rb, 0, none⟩)] w fun e w' => e = .returned (.int .u8 (bat s i : Int)) ∧ PR w' rb s (i + 1) av nv fv ∧ w.grownBy w' (some rb)) := readByte_yes rb s i av nv fv w h hs hi
  have HN : Hid (∀ w, w.cell? ⟨8, 0, none⟩ = some (errV eb) → Calls Tryz.prog 31 #[.int .i64 (i : Int)] w fun e w' => e = .returned (.iface 66 (.agg #[.int .i64 (i : Int), .iface 242 (.pointer (some eb))])) ∧ w' = w) := fun w he => noTree_any _ w eb he
  have HE : Hid (w.cell? ⟨8, 0, none⟩ = some (errV eb)) := he
  obtain ⟨x, hx⟩ : ∃ x, bat s i = x := ⟨_, rfl⟩
  rw [hx] at CB hc
  have n1 : x ≠ 34 := by intro hh; subst hh; simp [escB] at hc
  have n2 : x ≠ 92 := by intro hh; subst hh; simp [escB] at hc
  have n3 : x ≠ 110 := by intro hh; subst hh; simp [escB] at hc
  have e1 : ((x : Int) == 34) = false := by simp; omega
  have e2 : ((x : Int) == 92) = false := by simp; omega
  have e3 : ((x : Int) == 110) = false := by simp; omega
  clear h hx hc he n1 n2 n3
  go_enter Tryz.func93, Tryz.ntmps93
  go_wp2_with fail
  refine CB.out.mono ?_
  rintro e w1 ⟨rfl, h1, g1⟩
  have HG : Hid (w.grownBy w1 (some rb)) := g1
  have c1 : w1.cell? ⟨rb, 1, none⟩ = some (.int .i64 ((i : Int) + 1)) := by have := h1.c1; rw [show ((i + 1 : Nat) : Int) = (i : Int) + 1 by omega] at this; exact this
  have HE1 : Hid (w1.cell? ⟨8, 0, none⟩ = some (errV eb)) := g1.cell HE.out (by simpa using hg)
  clear h1 g1 CB
  go_wp2_with fail
  refine (HN.out w1 HE1.out).mono ?_
  rintro e w2 ⟨rfl, hw⟩
  obtain rfl := hw.symm
  go_wp2
  exact ⟨rfl, rfl, HG.out⟩

end Go.Proofs.YtepeepipgkejiadGreatDoor
