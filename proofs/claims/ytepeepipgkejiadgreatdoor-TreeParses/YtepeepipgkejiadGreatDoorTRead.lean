/-
  The program's reader: readAll, readWord.
-/
import Derived.Test.YtepeepipgkejiadGreatDoorTExp
import Derived.Shelf.Abstract
namespace Go.Proofs.YtepeepipgkejiadGreatDoor
open Go.RowKit
set_option linter.unusedVariables false

set_option maxRecDepth 100000 in
set_option maxHeartbeats 4000000 in
theorem readAll_any (g : Nat) (eg : ∀ args w, (callFunc g args).run Tryz.prog w = .ok (.enter g args) w) (p : Nat → Bool) (hp : p 256 = false) (hg : ∀ (b : Nat) w, b < 256 → Calls Tryz.prog g #[.int .u8 (b : Int)] w fun e w' => e = .returned (.bool (p b)) ∧ w' = w)
    (rb : Nat) (s : ByteArray) (i : Nat) (av nv fv : Value) (w : World) (h : PR w rb s i av nv fv) (hs : s.size ≤ 1099511627776) (hi : i ≤ s.size) :
    Calls Tryz.prog 89 #[.pointer (some ⟨rb, 0, none⟩), .func (.func g) #[] #[]] w fun e w' => e = .returned (.tuple #[.string (s.extract (sk s i) (run p s (sk s i))), .int .i64 (sk s i : Int)]) ∧ PR w' rb s (run p s (sk s i)) av nv fv ∧ w.grownBy w' (some rb) := by
  have CS : Hid (Calls Tryz.prog 30 #[.pointer (some ⟨rb, 0, none⟩)] w fun e w' => e = .returned (.tuple #[]) ∧ PR w' rb s (sk s i) av nv fv ∧ w.grownBy w' (some rb)) := skipBlanks_any rb s i av nv fv w h hs hi
  have HP : Hid (∀ (b : Nat) w, b < 256 → Calls Tryz.prog g #[.int .u8 (b : Int)] w fun e w' => e = .returned (.bool (p b)) ∧ w' = w) := hg
  obtain ⟨j, hj⟩ : ∃ j, sk s i = j := ⟨_, rfl⟩
  have hjs := sk_le s i hi
  rw [hj] at CS hjs ⊢
  clear h hj hg
  go_enter Tryz.func89, Tryz.ntmps89
  go_wp2_with fail
  refine CS.out.mono ?_
  rintro e w1 ⟨rfl, h1, g1⟩
  have HR : Hid (PR w1 rb s j av nv fv) := h1
  have HG1 : Hid (w.grownBy w1 (some rb)) := g1
  have d1 := h1.c1
  clear h1 g1 CS
  go_wp2
  clear d1
  go_loopw [13] (fun _ wr => ∃ k : Nat, j ≤ k ∧ k ≤ s.size ∧ Hid (run p s k = run p s j) ∧ Hid (PR wr rb s k av nv fv) ∧ Hid (w.grownBy wr (some rb))) (fun _ wr => s.size - prI wr rb)
  case atStart => exact ⟨j, Nat.le_refl _, hjs, rfl, HR.out, HG1.out⟩
  case round =>
    obtain ⟨k, hjk, hk, HK, HS, HG⟩ := hrel
    have hs1 := HS.out
    have c0 := hs1.c0
    have c1 := hs1.c1
    have f1 := hs1.fz 1
    have HRD : Hid (prI wr rb = k) := hs1.prI
    by_cases hlt : k < s.size
    · have hlt' : (k : Int) < (s.size : Int) := by omega
      have el : decide ((k : Int) < (s.size : Int)) = true := decide_eq_true hlt'
      obtain ⟨x, hx⟩ : ∃ x, s[k].toNat = x := ⟨_, rfl⟩
      have hbx : bat s k = x := by rw [bat_in hlt, hx]
      have hx2 : x < 256 := by rw [← hbx]; exact bat_lt hlt
      by_cases hpx : p x = true
      · have HQ : Hid (∀ w, Calls Tryz.prog g #[.int .u8 (x : Int)] w fun e w' => e = .returned (.bool true) ∧ w' = w) := fun w => by have := HP.out x w hx2; rw [hpx] at this; exact this
        have HK2 : Hid (run p s (k + 1) = run p s j) := by rw [← HK.out]; exact (run_step hlt (by rw [hbx]; exact hpx)).symm
        have HN : Hid (∀ q, PR ((wr.drewN q).setCell ⟨rb, 1, none⟩ (.int .i64 ((k : Int) + 1))) rb s (k + 1) av nv fv) := fun q => by
          have := (HS.out.drewN q).setI (k + 1)
          rw [show ((k + 1 : Nat) : Int) = (k : Int) + 1 by omega] at this; exact this
        clear hs1 HK HS hbx hpx
        go_wp2_with fail
        go_quiet (first | (go_at_fn g; exact Calls.quiet_of_same (HQ.out _)))
        go_wp2
        go_roundw
        case rel => exact ⟨k + 1, by omega, by omega, HK2.out, HN.out _, gr_trans (gr_trans HG.out (gr_drewN _ _ _)) (gr_set _ _ _ _)⟩
        case measure => rw [(HN.out _).prI, HRD.out]; omega
      · have HQ : Hid (∀ w, Calls Tryz.prog g #[.int .u8 (x : Int)] w fun e w' => e = .returned (.bool false) ∧ w' = w) := fun w => by have := HP.out x w hx2; rw [show p x = false by simpa using hpx] at this; exact this
        have HRK : Hid (run p s j = k) := by show _ = _; rw [← HK.out]; exact run_stop (by rw [hbx]; simpa using hpx)
        have hjk' : (j : Int) ≤ (k : Int) := by omega
        have hks : (k : Int) ≤ (s.size : Int) := by omega
        clear hs1 HK hbx hpx
        go_wp2_with fail
        go_quiet (first | (go_at_fn g; exact Calls.quiet_of_same (HQ.out _)))
        go_wp2_with fail
        go_quiet (fail)
        go_wp2
        go_ret2
        exact ⟨by rw [HRK.out]; rfl, by rw [HRK.out]; exact (HS.out.drewN _).drewN _, gr_trans (gr_trans HG.out (gr_drewN _ _ _)) (gr_drewN _ _ _)⟩
    · have hlt' : ¬ (k : Int) < (s.size : Int) := by omega
      have el : decide ((k : Int) < (s.size : Int)) = false := decide_eq_false hlt'
      have HRK : Hid (run p s j = k) := by show _ = _; rw [← HK.out]; exact run_out hlt
      have hjk' : (j : Int) ≤ (k : Int) := by omega
      have hks : (k : Int) ≤ (s.size : Int) := by omega
      clear hs1 HK
      go_wp2_with fail
      go_quiet (fail)
      go_wp2_with fail
      go_quiet (fail)
      go_wp2
      go_ret2
      exact ⟨by rw [HRK.out]; rfl, by rw [HRK.out]; exact (HS.out.drewN _).drewN _, gr_trans (gr_trans HG.out (gr_drewN _ _ _)) (gr_drewN _ _ _)⟩

end Go.Proofs.YtepeepipgkejiadGreatDoor
