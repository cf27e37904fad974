/-
  The reference's reader: word.
-/
import Derived.Test.YtepeepipgkejiadGreatDoorTWord
namespace Go.Proofs.YtepeepipgkejiadGreatDoor
open Go.RowKit
set_option linter.unusedVariables false

theorem ext_self (s : ByteArray) (k : Nat) : s.extract k k = ByteArray.empty := by
  apply ByteArray.ext
  simp
/-- The fault behind a word: where none stands. -/
def wordB (s : ByteArray) (i : Nat) (bad : Int) : Int := if run letter s (sk s i) = sk s i then (sk s i : Int) else bad

set_option maxRecDepth 100000 in
set_option maxHeartbeats 4000000 in
theorem word_any (rb : Nat) (s : ByteArray) (i : Nat) (lv : Value) (bad er at_ dep : Int) (w : World) (h : RS w rb s i lv bad er at_ dep) (hs : s.size ≤ 1099511627776) (hi : i ≤ s.size) (hb : bad < 0) :
    Calls Tryz.prog 32 #[.pointer (some ⟨rb, 0, none⟩)] w fun e w' => e = .returned (.string (s.extract (sk s i) (run letter s (sk s i)))) ∧ RS w' rb s (run letter s (sk s i)) lv (wordB s i bad) er at_ dep ∧ w.grownBy w' (some rb) := by
  have CS : Hid (Calls Tryz.prog 20 #[.pointer (some ⟨rb, 0, none⟩)] w fun e w' => e = .returned (.tuple #[]) ∧ RS w' rb s (sk s i) lv bad er at_ dep ∧ w.grownBy w' (some rb)) := skip_any rb s i lv bad er at_ dep w h hs hi
  obtain ⟨j, hj⟩ : ∃ j, sk s i = j := ⟨_, rfl⟩
  have hjs := sk_le s i hi
  have HWB : Hid (wordB s i bad = if run letter s j = j then (j : Int) else bad) := by show _ = _; unfold wordB; rw [hj]
  rw [hj] at CS hjs ⊢
  clear h hj
  go_enter Tryz.func32, Tryz.ntmps32
  go_wp2_with fail
  refine CS.out.mono ?_
  rintro e w1 ⟨rfl, h1, g1⟩
  have HR : Hid (RS w1 rb s j lv bad er at_ dep) := h1
  have HG1 : Hid (w.grownBy w1 (some rb)) := g1
  have d1 := h1.c1
  have eb : decide (bad < 0) = true := decide_eq_true hb
  clear h1 g1 CS
  go_wp2
  clear d1
  go_loopw [10] (fun _ wr => ∃ k : Nat, j ≤ k ∧ k ≤ s.size ∧ Hid (run letter s k = run letter s j) ∧ Hid (RS wr rb s k lv bad er at_ dep) ∧ Hid (w.grownBy wr (some rb))) (fun _ wr => s.size - rdI wr rb)
  case atStart => exact ⟨j, Nat.le_refl _, hjs, rfl, HR.out, HG1.out⟩
  case round =>
    obtain ⟨k, hjk, hk, HK, HS, HG⟩ := hrel
    have hs1 := HS.out
    have c0 := hs1.c0
    have c1 := hs1.c1
    have c3 := hs1.c3
    have f1 := hs1.fz 1
    have HRD : Hid (rdI wr rb = k) := hs1.rdI
    by_cases hgo : letter (bat s k) = true
    · have hlt : k < s.size := by
        by_cases e : k < s.size
        · exact e
        · rw [bat_out e] at hgo; cases hgo
      have hlt' : (k : Int) < (s.size : Int) := by omega
      have el : decide ((k : Int) < (s.size : Int)) = true := decide_eq_true hlt'
      obtain ⟨x, hx⟩ : ∃ x, s[k].toNat = x := ⟨_, rfl⟩
      have hbx : bat s k = x := by rw [bat_in hlt, hx]
      have HK2 : Hid (run letter s (k + 1) = run letter s j) := by rw [← HK.out]; exact (run_step hlt hgo).symm
      rw [hbx] at hgo
      unfold letter at hgo
      simp only [Bool.and_eq_true, decide_eq_true_eq] at hgo
      obtain ⟨l1, l2⟩ := hgo
      have e1 : decide ((97 : Int) ≤ (x : Int)) = true := decide_eq_true (by omega)
      have e2 : decide ((x : Int) ≤ 122) = true := decide_eq_true (by omega)
      have HN : Hid (∀ q, RS ((wr.drewN q).setCell ⟨rb, 1, none⟩ (.int .i64 ((k : Int) + 1))) rb s (k + 1) lv bad er at_ dep) := fun q => by
        have := (HS.out.drewN q).setI (k + 1)
        rw [show ((k + 1 : Nat) : Int) = (k : Int) + 1 by omega] at this; exact this
      clear hs1 HK HS hbx
      go_wp2_with fail
      go_quiet (fail)
      go_wp2
      go_roundw
      case rel => exact ⟨k + 1, by omega, by omega, HK2.out, HN.out _, gr_trans (gr_trans HG.out (gr_drewN _ _ _)) (gr_set _ _ _ _)⟩
      case measure => rw [(HN.out _).rdI, HRD.out]; omega
    · have hrk : run letter s j = k := by rw [← HK.out]; exact run_stop (by simpa using hgo)
      have HRK : Hid (run letter s j = k) := hrk
      have CF : Hid (∀ (g : Nat) W, RS W rb s g lv bad er at_ dep → Calls Tryz.prog 21 #[.pointer (some ⟨rb, 0, none⟩), .int .i64 (g : Int)] W fun e w' => e = .returned (.tuple #[]) ∧ RS w' rb s g lv (badI bad g) er at_ dep ∧ W.grownBy w' (some rb)) := fun g W h => fail_any rb s g lv bad er at_ dep g W h
      clear hrk hs1 HK
      by_cases hlt : k < s.size
      · have hlt' : (k : Int) < (s.size : Int) := by omega
        have el : decide ((k : Int) < (s.size : Int)) = true := decide_eq_true hlt'
        obtain ⟨x, hx⟩ : ∃ x, s[k].toNat = x := ⟨_, rfl⟩
        have hbx : bat s k = x := by rw [bat_in hlt, hx]
        rw [hbx] at hgo
        unfold letter at hgo
        simp only [Bool.and_eq_true, decide_eq_true_eq] at hgo
        clear hbx
        by_cases l1 : 97 ≤ x
        · have l2 : ¬ x ≤ 122 := fun e => hgo ⟨l1, e⟩
          have e1 : decide ((97 : Int) ≤ (x : Int)) = true := decide_eq_true (by omega)
          have e2 : decide ((x : Int) ≤ 122) = false := decide_eq_false (by omega)
          clear hgo
          go_wp2_with fail
          go_quiet (fail)
          by_cases hkj : k = j
          · subst hkj
            have HE : Hid (badI bad (k : Int) = wordB s i bad) := by show _ = _; rw [HWB.out, if_pos HRK.out]; unfold badI; rw [if_pos hb]
            go_wp2_with fail
            refine (CF.out k _ (HS.out.drewN _)).mono ?_
            rintro e w2 ⟨rfl, h2, g2⟩
            have H2 : Hid (RS w2 rb s k lv (wordB s i bad) er at_ dep) := by have := h2; rw [HE.out] at this; exact this
            have HG2 : Hid (w.grownBy w2 (some rb)) := gr_trans (gr_trans HG.out (gr_drewN _ _ _)) g2
            have d0 := h2.c0
            have d1 := h2.c1
            clear h2 g2 c0 c1 c3 f1
            go_wp2_with fail
            go_quiet (fail)
            go_wp2
            go_ret
            exact ⟨by rw [HRK.out, ext_self]; rfl, by rw [HRK.out]; exact H2.out.drewN _, gr_trans HG2.out (gr_drewN _ _ _)⟩
          · have ewb : wordB s i bad = bad := by rw [HWB.out, if_neg (by rw [HRK.out]; exact hkj)]
            have HE : Hid (RS wr rb s k lv (wordB s i bad) er at_ dep) := by rw [ewb]; exact HS.out
            clear ewb
            have hkj' : ((k : Int) == (j : Int)) = false := by simp; omega
            have hjk' : (j : Int) ≤ (k : Int) := by omega
            have hks : (k : Int) ≤ (s.size : Int) := by omega
            go_wp2_with fail
            go_quiet (fail)
            go_wp2
            go_ret
            exact ⟨by rw [HRK.out]; rfl, by rw [HRK.out]; exact (HE.out.drewN _).drewN _, gr_trans (gr_trans HG.out (gr_drewN _ _ _)) (gr_drewN _ _ _)⟩
        · have e1 : decide ((97 : Int) ≤ (x : Int)) = false := decide_eq_false (by omega)
          clear hgo
          go_wp2_with fail
          go_quiet (fail)
          by_cases hkj : k = j
          · subst hkj
            have HE : Hid (badI bad (k : Int) = wordB s i bad) := by show _ = _; rw [HWB.out, if_pos HRK.out]; unfold badI; rw [if_pos hb]
            go_wp2_with fail
            refine (CF.out k _ (HS.out.drewN _)).mono ?_
            rintro e w2 ⟨rfl, h2, g2⟩
            have H2 : Hid (RS w2 rb s k lv (wordB s i bad) er at_ dep) := by have := h2; rw [HE.out] at this; exact this
            have HG2 : Hid (w.grownBy w2 (some rb)) := gr_trans (gr_trans HG.out (gr_drewN _ _ _)) g2
            have d0 := h2.c0
            have d1 := h2.c1
            clear h2 g2 c0 c1 c3 f1
            go_wp2_with fail
            go_quiet (fail)
            go_wp2
            go_ret
            exact ⟨by rw [HRK.out, ext_self]; rfl, by rw [HRK.out]; exact H2.out.drewN _, gr_trans HG2.out (gr_drewN _ _ _)⟩
          · have ewb : wordB s i bad = bad := by rw [HWB.out, if_neg (by rw [HRK.out]; exact hkj)]
            have HE : Hid (RS wr rb s k lv (wordB s i bad) er at_ dep) := by rw [ewb]; exact HS.out
            clear ewb
            have hkj' : ((k : Int) == (j : Int)) = false := by simp; omega
            have hjk' : (j : Int) ≤ (k : Int) := by omega
            have hks : (k : Int) ≤ (s.size : Int) := by omega
            go_wp2_with fail
            go_quiet (fail)
            go_wp2
            go_ret
            exact ⟨by rw [HRK.out]; rfl, by rw [HRK.out]; exact (HE.out.drewN _).drewN _, gr_trans (gr_trans HG.out (gr_drewN _ _ _)) (gr_drewN _ _ _)⟩
      · have hlt' : ¬ (k : Int) < (s.size : Int) := by omega
        have el : decide ((k : Int) < (s.size : Int)) = false := decide_eq_false hlt'
        clear hgo
        go_wp2_with fail
        go_quiet (fail)
        by_cases hkj : k = j
        · subst hkj
          have HE : Hid (badI bad (k : Int) = wordB s i bad) := by show _ = _; rw [HWB.out, if_pos HRK.out]; unfold badI; rw [if_pos hb]
          go_wp2_with fail
          refine (CF.out k _ (HS.out.drewN _)).mono ?_
          rintro e w2 ⟨rfl, h2, g2⟩
          have H2 : Hid (RS w2 rb s k lv (wordB s i bad) er at_ dep) := by have := h2; rw [HE.out] at this; exact this
          have HG2 : Hid (w.grownBy w2 (some rb)) := gr_trans (gr_trans HG.out (gr_drewN _ _ _)) g2
          have d0 := h2.c0
          have d1 := h2.c1
          clear h2 g2 c0 c1 c3 f1
          go_wp2_with fail
          go_quiet (fail)
          go_wp2
          go_ret
          exact ⟨by rw [HRK.out, ext_self]; rfl, by rw [HRK.out]; exact H2.out.drewN _, gr_trans HG2.out (gr_drewN _ _ _)⟩
        · have ewb : wordB s i bad = bad := by rw [HWB.out, if_neg (by rw [HRK.out]; exact hkj)]
          have HE : Hid (RS wr rb s k lv (wordB s i bad) er at_ dep) := by rw [ewb]; exact HS.out
          clear ewb
          have hkj' : ((k : Int) == (j : Int)) = false := by simp; omega
          have hjk' : (j : Int) ≤ (k : Int) := by omega
          have hks : (k : Int) ≤ (s.size : Int) := by omega
          go_wp2_with fail
          go_quiet (fail)
          go_wp2
          go_ret
          exact ⟨by rw [HRK.out]; rfl, by rw [HRK.out]; exact (HE.out.drewN _).drewN _, gr_trans (gr_trans HG.out (gr_drewN _ _ _)) (gr_drewN _ _ _)⟩

end Go.Proofs.YtepeepipgkejiadGreatDoor
