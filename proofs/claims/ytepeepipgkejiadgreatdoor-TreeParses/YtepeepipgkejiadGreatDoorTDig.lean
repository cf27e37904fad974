/-
  The reference's reader: number.
-/
import Derived.Test.YtepeepipgkejiadGreatDoorTNum
namespace Go.Proofs.YtepeepipgkejiadGreatDoor
open Go.RowKit
set_option linter.unusedVariables false

/-- The number of the first c digits at j; of no more than six. -/
def dv (s : ByteArray) (j : Nat) : Nat → Int
  | 0 => 0
  | c + 1 => if c < 6 then 10 * dv s j c + ((bat s (j + c) : Int) - 48) else dv s j c
theorem dv_bd (s : ByteArray) (j : Nat) : ∀ c, (∀ t, t < c → 48 ≤ bat s (j + t) ∧ bat s (j + t) ≤ 57) → 0 ≤ dv s j c ∧ dv s j c ≤ 999999 ∧ (c ≤ 5 → dv s j c ≤ 99999) ∧ (c ≤ 4 → dv s j c ≤ 9999) ∧ (c ≤ 3 → dv s j c ≤ 999) ∧ (c ≤ 2 → dv s j c ≤ 99) ∧ (c ≤ 1 → dv s j c ≤ 9) ∧ (c = 0 → dv s j c = 0)
  | 0, _ => by simp [dv]
  | c + 1, h => by
    have ih := dv_bd s j c (fun t ht => h t (by omega))
    have hd := h c (by omega)
    unfold dv
    split <;> omega
theorem run_all {p : Nat → Bool} (s : ByteArray) : ∀ f i t, runF p s f i > i + t → p (bat s (i + t)) = true
  | 0, i, t, h => by simp [runF] at h; omega
  | f + 1, i, t, h => by
    rw [runF] at h
    by_cases c : p (bat s i) = true
    · rw [if_pos c] at h
      match t with
      | 0 => exact c
      | t + 1 =>
        have := run_all (p := p) s f (i + 1) t (by omega)
        rw [show i + (t + 1) = i + 1 + t by omega]; exact this
    · rw [if_neg c] at h; omega

/-- The fault behind a number: no digit, more than six, or a needless zero. -/
def numB (s : ByteArray) (j k : Nat) (bad : Int) : Int := if k = j ∨ j + 6 < k ∨ (j + 1 < k ∧ bat s j = 48) then (j : Int) else bad

set_option maxRecDepth 100000 in
set_option maxHeartbeats 8000000 in
theorem number_any (rb : Nat) (s : ByteArray) (i : Nat) (lv : Value) (bad er at_ dep : Int) (w : World) (h : RS w rb s i lv bad er at_ dep) (hs : s.size ≤ 1099511627776) (hi : i ≤ s.size) (hb : bad < 0) :
    Calls Tryz.prog 76 #[.pointer (some ⟨rb, 0, none⟩)] w fun e w' => e = .returned (.tuple #[.int .i64 (dv s (sk s i) (run digit s (sk s i) - sk s i)), .int .i64 (sk s i : Int)]) ∧ RS w' rb s (run digit s (sk s i)) lv (numB s (sk s i) (run digit s (sk s i)) bad) er at_ dep ∧ w.grownBy w' (some rb) := by
  have CS : Hid (Calls Tryz.prog 20 #[.pointer (some ⟨rb, 0, none⟩)] w fun e w' => e = .returned (.tuple #[]) ∧ RS w' rb s (sk s i) lv bad er at_ dep ∧ w.grownBy w' (some rb)) := skip_any rb s i lv bad er at_ dep w h hs hi
  obtain ⟨j, hj⟩ : ∃ j, sk s i = j := ⟨_, rfl⟩
  have hjs := sk_le s i hi
  rw [hj] at CS hjs ⊢
  have HDG : Hid (∀ t, j + t < run digit s j → 48 ≤ bat s (j + t) ∧ bat s (j + t) ≤ 57) := fun t ht => by
    have := run_all (p := digit) s (s.size - j) j t ht
    unfold digit at this
    simpa using this
  clear h hj
  go_enter Tryz.func76, Tryz.ntmps76
  go_wp2_with fail
  refine CS.out.mono ?_
  rintro e w1 ⟨rfl, h1, g1⟩
  have HR : Hid (RS w1 rb s j lv bad er at_ dep) := h1
  have HG1 : Hid (w.grownBy w1 (some rb)) := g1
  have d1 := h1.c1
  have eb : decide (bad < 0) = true := decide_eq_true hb
  clear h1 g1 CS
  go_wp2
  clear d1
  go_loopw [5, 13] (fun v _ wr => ∃ (k : Nat) (n : Int), v = .int .i64 n ∧ j ≤ k ∧ k ≤ s.size ∧ 0 ≤ n ∧ n ≤ 999999 ∧ Hid (n = dv s j (k - j)) ∧ Hid (run digit s k = run digit s j) ∧ Hid (RS wr rb s k lv bad er at_ dep) ∧ Hid (w.grownBy wr (some rb))) (fun _ _ wr => s.size - rdI wr rb)
  case atStart => exact ⟨j, 0, rfl, Nat.le_refl _, hjs, by omega, by omega, by show _ = _; rw [Nat.sub_self]; rfl, rfl, HR.out, HG1.out⟩
  case round =>
    obtain ⟨k, n, rfl, hjk, hk, n0, n1, HN0, HK, HS, HG⟩ := hrel
    have hs1 := HS.out
    have c0 := hs1.c0
    have c1 := hs1.c1
    have c3 := hs1.c3
    have f1 := hs1.fz 1
    have HRD : Hid (rdI wr rb = k) := hs1.rdI
    by_cases hgo : digit (bat s k) = true
    · have hlt : k < s.size := by
        by_cases e : k < s.size
        · exact e
        · rw [bat_out e] at hgo; cases hgo
      have hlt' : (k : Int) < (s.size : Int) := by omega
      have el : decide ((k : Int) < (s.size : Int)) = true := decide_eq_true hlt'
      obtain ⟨x, hx⟩ : ∃ x, s[k].toNat = x := ⟨_, rfl⟩
      have hbx : bat s k = x := by rw [bat_in hlt, hx]
      have hrk : run digit s k = run digit s (k + 1) := run_step hlt hgo
      have HK2 : Hid (run digit s (k + 1) = run digit s j) := by rw [← HK.out]; exact hrk.symm
      have hreach : k < run digit s j := by rw [← HK.out, hrk]; exact run_ge _ _ _
      have hnew : dv s j (k + 1 - j) = if k - j < 6 then 10 * n + ((x : Int) - 48) else n := by
        rw [show k + 1 - j = (k - j) + 1 by omega, dv, ← HN0.out, show j + (k - j) = k by omega, hbx]
      have hbnd := dv_bd s j (k - j) (fun t ht => HDG.out t (by omega))
      have hbnd2 := dv_bd s j (k + 1 - j) (fun t ht => HDG.out t (by omega))
      rw [← HN0.out] at hbnd
      rw [hbx] at hgo
      unfold digit at hgo
      simp only [Bool.and_eq_true, decide_eq_true_eq] at hgo
      obtain ⟨l1, l2⟩ := hgo
      have e1 : decide ((48 : Int) ≤ (x : Int)) = true := decide_eq_true (by omega)
      have e2 : decide ((x : Int) ≤ 57) = true := decide_eq_true (by omega)
      have HN : Hid (∀ q, RS ((wr.drewN q).setCell ⟨rb, 1, none⟩ (.int .i64 ((k : Int) + 1))) rb s (k + 1) lv bad er at_ dep) := fun q => by
        have := (HS.out.drewN q).setI (k + 1)
        rw [show ((k + 1 : Nat) : Int) = (k : Int) + 1 by omega] at this; exact this
      by_cases h6 : k - j < 6
      · rw [if_pos h6] at hnew
        have h6' : (k : Int) - (j : Int) < 6 := by omega
        have HND : Hid (10 * n + (x : Int) - 48 = dv s j (k + 1 - j)) := by show _ = _; rw [hnew]; omega
        have nb0 : 0 ≤ 10 * n + (x : Int) - 48 := by omega
        have nb1 : 10 * n + (x : Int) - 48 ≤ 999999 := by rw [HND.out]; exact hbnd2.2.1
        clear hs1 HK HS hbx hnew hbnd hbnd2 hrk hreach HN0
        go_wp2_with fail
        go_quiet (fail)
        go_wp2_with fail
        go_quiet (fail)
        go_wp2
        go_roundw
        case rel => exact ⟨k + 1, _, rfl, by omega, by omega, nb0, nb1, HND.out, HK2.out, HN.out _, gr_trans (gr_trans HG.out (gr_drewN _ _ _)) (gr_set _ _ _ _)⟩
        case measure => rw [(HN.out _).rdI, HRD.out]; omega
      · rw [if_neg h6] at hnew
        have h6' : ¬ (k : Int) - (j : Int) < 6 := by omega
        have HND : Hid (n = dv s j (k + 1 - j)) := by show _ = _; rw [hnew]
        clear hs1 HK HS hbx hnew hbnd hbnd2 hrk hreach HN0
        go_wp2_with fail
        go_quiet (fail)
        go_wp2
        go_roundw
        case rel => exact ⟨k + 1, n, rfl, by omega, by omega, n0, n1, HND.out, HK2.out, HN.out _, gr_trans (gr_trans HG.out (gr_drewN _ _ _)) (gr_set _ _ _ _)⟩
        case measure => rw [(HN.out _).rdI, HRD.out]; omega
    · have hrk : run digit s j = k := by rw [← HK.out]; exact run_stop (by simpa using hgo)
      have HRK : Hid (run digit s j = k) := hrk
      have CF : Hid (∀ W, RS W rb s k lv bad er at_ dep → Calls Tryz.prog 21 #[.pointer (some ⟨rb, 0, none⟩), .int .i64 (j : Int)] W fun e w' => e = .returned (.tuple #[]) ∧ RS w' rb s k lv (badI bad j) er at_ dep ∧ W.grownBy w' (some rb)) := fun W h => fail_any rb s k lv bad er at_ dep j W h
      clear hrk hs1 HK
      by_cases hlt : k < s.size
      · have hlt' : (k : Int) < (s.size : Int) := by omega
        have el : decide ((k : Int) < (s.size : Int)) = true := decide_eq_true hlt'
        obtain ⟨x, hx⟩ : ∃ x, s[k].toNat = x := ⟨_, rfl⟩
        have hbx : bat s k = x := by rw [bat_in hlt, hx]
        rw [hbx] at hgo
        unfold digit at hgo
        simp only [Bool.and_eq_true, decide_eq_true_eq] at hgo
        clear hbx
        by_cases l1 : 48 ≤ x
        · have l2 : ¬ x ≤ 57 := fun e => hgo ⟨l1, e⟩
          have e1 : decide ((48 : Int) ≤ (x : Int)) = true := decide_eq_true (by omega)
          have e2 : decide ((x : Int) ≤ 57) = false := decide_eq_false (by omega)
          clear hgo
          go_wp2_with fail
          go_quiet (fail)
          by_cases t0 : k = j
          · have HE : Hid (badI bad (j : Int) = numB s j k bad) := by show _ = _; unfold numB badI; rw [if_pos hb, if_pos (.inl t0)]
            have u0 : (k : Int) - (j : Int) = 0 := by omega
            go_wp2_with fail
            refine (CF.out _ (HS.out.drewN _)).mono ?_
            rintro e w2 ⟨rfl, h2, g2⟩
            have H2 : Hid (RS w2 rb s k lv (numB s j k bad) er at_ dep) := by have := h2; rw [HE.out] at this; exact this
            have HG2 : Hid (w.grownBy w2 (some rb)) := gr_trans (gr_trans HG.out (gr_drewN _ _ _)) g2
            clear h2 g2
            go_wp2
            go_ret2
            exact ⟨by rw [HRK.out, ← HN0.out]; rfl, by rw [HRK.out]; exact H2.out, HG2.out⟩
          · by_cases t6 : j + 6 < k
            · have HE : Hid (badI bad (j : Int) = numB s j k bad) := by show _ = _; unfold numB badI; rw [if_pos hb, if_pos (.inr (.inl t6))]
              have u0 : ¬ (k : Int) - (j : Int) = 0 := by omega
              have u1 : ((k : Int) - (j : Int) == 0) = false := by simp; omega
              have u6 : (6 : Int) < (k : Int) - (j : Int) := by omega
              go_wp2_with fail
              refine (CF.out _ (HS.out.drewN _)).mono ?_
              rintro e w2 ⟨rfl, h2, g2⟩
              have H2 : Hid (RS w2 rb s k lv (numB s j k bad) er at_ dep) := by have := h2; rw [HE.out] at this; exact this
              have HG2 : Hid (w.grownBy w2 (some rb)) := gr_trans (gr_trans HG.out (gr_drewN _ _ _)) g2
              clear h2 g2
              go_wp2
              go_ret2
              exact ⟨by rw [HRK.out, ← HN0.out]; rfl, by rw [HRK.out]; exact H2.out, HG2.out⟩
            · have u0 : ¬ (k : Int) - (j : Int) = 0 := by omega
              have u1 : ((k : Int) - (j : Int) == 0) = false := by simp; omega
              have u6 : ¬ (6 : Int) < (k : Int) - (j : Int) := by omega
              by_cases t1 : j + 1 < k
              · have v1 : (1 : Int) < (k : Int) - (j : Int) := by omega
                have hjl : j < s.size := by omega
                have hjl' : (j : Int) < (s.size : Int) := by omega
                obtain ⟨z, hz⟩ : ∃ z, s[j].toNat = z := ⟨_, rfl⟩
                have hbz : bat s j = z := by rw [bat_in hjl, hz]
                by_cases tz : z = 48
                · have HE : Hid (badI bad (j : Int) = numB s j k bad) := by show _ = _; unfold numB badI; rw [if_pos hb, if_pos (.inr (.inr ⟨t1, by rw [hbz]; exact tz⟩))]
                  subst tz
                  clear hbz
                  go_wp2_with fail
                  refine (CF.out _ (HS.out.drewN _)).mono ?_
                  rintro e w2 ⟨rfl, h2, g2⟩
                  have H2 : Hid (RS w2 rb s k lv (numB s j k bad) er at_ dep) := by have := h2; rw [HE.out] at this; exact this
                  have HG2 : Hid (w.grownBy w2 (some rb)) := gr_trans (gr_trans HG.out (gr_drewN _ _ _)) g2
                  clear h2 g2
                  go_wp2
                  go_ret2
                  exact ⟨by rw [HRK.out, ← HN0.out]; rfl, by rw [HRK.out]; exact H2.out, HG2.out⟩
                · have HE : Hid (numB s j k bad = bad) := by show _ = _; unfold numB; rw [if_neg (by rw [hbz]; omega)]
                  have ez : ((z : Int) == 48) = false := by simp; omega
                  clear hbz
                  go_wp2
                  go_ret2
                  exact ⟨by rw [HRK.out, ← HN0.out]; rfl, by rw [HRK.out, HE.out]; exact HS.out.drewN _, gr_trans HG.out (gr_drewN _ _ _)⟩
              · have v1 : ¬ (1 : Int) < (k : Int) - (j : Int) := by omega
                have HE : Hid (numB s j k bad = bad) := by show _ = _; unfold numB; rw [if_neg (by omega)]
                go_wp2
                go_ret2
                exact ⟨by rw [HRK.out, ← HN0.out]; rfl, by rw [HRK.out, HE.out]; exact HS.out.drewN _, gr_trans HG.out (gr_drewN _ _ _)⟩
        · have e1 : decide ((48 : Int) ≤ (x : Int)) = false := decide_eq_false (by omega)
          clear hgo
          go_wp2_with fail
          go_quiet (fail)
          by_cases t0 : k = j
          · have HE : Hid (badI bad (j : Int) = numB s j k bad) := by show _ = _; unfold numB badI; rw [if_pos hb, if_pos (.inl t0)]
            have u0 : (k : Int) - (j : Int) = 0 := by omega
            go_wp2_with fail
            refine (CF.out _ (HS.out.drewN _)).mono ?_
            rintro e w2 ⟨rfl, h2, g2⟩
            have H2 : Hid (RS w2 rb s k lv (numB s j k bad) er at_ dep) := by have := h2; rw [HE.out] at this; exact this
            have HG2 : Hid (w.grownBy w2 (some rb)) := gr_trans (gr_trans HG.out (gr_drewN _ _ _)) g2
            clear h2 g2
            go_wp2
            go_ret2
            exact ⟨by rw [HRK.out, ← HN0.out]; rfl, by rw [HRK.out]; exact H2.out, HG2.out⟩
          · by_cases t6 : j + 6 < k
            · have HE : Hid (badI bad (j : Int) = numB s j k bad) := by show _ = _; unfold numB badI; rw [if_pos hb, if_pos (.inr (.inl t6))]
              have u0 : ¬ (k : Int) - (j : Int) = 0 := by omega
              have u1 : ((k : Int) - (j : Int) == 0) = false := by simp; omega
              have u6 : (6 : Int) < (k : Int) - (j : Int) := by omega
              go_wp2_with fail
              refine (CF.out _ (HS.out.drewN _)).mono ?_
              rintro e w2 ⟨rfl, h2, g2⟩
              have H2 : Hid (RS w2 rb s k lv (numB s j k bad) er at_ dep) := by have := h2; rw [HE.out] at this; exact this
              have HG2 : Hid (w.grownBy w2 (some rb)) := gr_trans (gr_trans HG.out (gr_drewN _ _ _)) g2
              clear h2 g2
              go_wp2
              go_ret2
              exact ⟨by rw [HRK.out, ← HN0.out]; rfl, by rw [HRK.out]; exact H2.out, HG2.out⟩
            · have u0 : ¬ (k : Int) - (j : Int) = 0 := by omega
              have u1 : ((k : Int) - (j : Int) == 0) = false := by simp; omega
              have u6 : ¬ (6 : Int) < (k : Int) - (j : Int) := by omega
              by_cases t1 : j + 1 < k
              · have v1 : (1 : Int) < (k : Int) - (j : Int) := by omega
                have hjl : j < s.size := by omega
                have hjl' : (j : Int) < (s.size : Int) := by omega
                obtain ⟨z, hz⟩ : ∃ z, s[j].toNat = z := ⟨_, rfl⟩
                have hbz : bat s j = z := by rw [bat_in hjl, hz]
                by_cases tz : z = 48
                · have HE : Hid (badI bad (j : Int) = numB s j k bad) := by show _ = _; unfold numB badI; rw [if_pos hb, if_pos (.inr (.inr ⟨t1, by rw [hbz]; exact tz⟩))]
                  subst tz
                  clear hbz
                  go_wp2_with fail
                  refine (CF.out _ (HS.out.drewN _)).mono ?_
                  rintro e w2 ⟨rfl, h2, g2⟩
                  have H2 : Hid (RS w2 rb s k lv (numB s j k bad) er at_ dep) := by have := h2; rw [HE.out] at this; exact this
                  have HG2 : Hid (w.grownBy w2 (some rb)) := gr_trans (gr_trans HG.out (gr_drewN _ _ _)) g2
                  clear h2 g2
                  go_wp2
                  go_ret2
                  exact ⟨by rw [HRK.out, ← HN0.out]; rfl, by rw [HRK.out]; exact H2.out, HG2.out⟩
                · have HE : Hid (numB s j k bad = bad) := by show _ = _; unfold numB; rw [if_neg (by rw [hbz]; omega)]
                  have ez : ((z : Int) == 48) = false := by simp; omega
                  clear hbz
                  go_wp2
                  go_ret2
                  exact ⟨by rw [HRK.out, ← HN0.out]; rfl, by rw [HRK.out, HE.out]; exact HS.out.drewN _, gr_trans HG.out (gr_drewN _ _ _)⟩
              · have v1 : ¬ (1 : Int) < (k : Int) - (j : Int) := by omega
                have HE : Hid (numB s j k bad = bad) := by show _ = _; unfold numB; rw [if_neg (by omega)]
                go_wp2
                go_ret2
                exact ⟨by rw [HRK.out, ← HN0.out]; rfl, by rw [HRK.out, HE.out]; exact HS.out.drewN _, gr_trans HG.out (gr_drewN _ _ _)⟩
      · have hlt' : ¬ (k : Int) < (s.size : Int) := by omega
        have el : decide ((k : Int) < (s.size : Int)) = false := decide_eq_false hlt'
        clear hgo
        go_wp2_with fail
        go_quiet (fail)
        by_cases t0 : k = j
        · have HE : Hid (badI bad (j : Int) = numB s j k bad) := by show _ = _; unfold numB badI; rw [if_pos hb, if_pos (.inl t0)]
          have u0 : (k : Int) - (j : Int) = 0 := by omega
          go_wp2_with fail
          refine (CF.out _ (HS.out.drewN _)).mono ?_
          rintro e w2 ⟨rfl, h2, g2⟩
          have H2 : Hid (RS w2 rb s k lv (numB s j k bad) er at_ dep) := by have := h2; rw [HE.out] at this; exact this
          have HG2 : Hid (w.grownBy w2 (some rb)) := gr_trans (gr_trans HG.out (gr_drewN _ _ _)) g2
          clear h2 g2
          go_wp2
          go_ret2
          exact ⟨by rw [HRK.out, ← HN0.out]; rfl, by rw [HRK.out]; exact H2.out, HG2.out⟩
        · by_cases t6 : j + 6 < k
          · have HE : Hid (badI bad (j : Int) = numB s j k bad) := by show _ = _; unfold numB badI; rw [if_pos hb, if_pos (.inr (.inl t6))]
            have u0 : ¬ (k : Int) - (j : Int) = 0 := by omega
            have u1 : ((k : Int) - (j : Int) == 0) = false := by simp; omega
            have u6 : (6 : Int) < (k : Int) - (j : Int) := by omega
            go_wp2_with fail
            refine (CF.out _ (HS.out.drewN _)).mono ?_
            rintro e w2 ⟨rfl, h2, g2⟩
            have H2 : Hid (RS w2 rb s k lv (numB s j k bad) er at_ dep) := by have := h2; rw [HE.out] at this; exact this
            have HG2 : Hid (w.grownBy w2 (some rb)) := gr_trans (gr_trans HG.out (gr_drewN _ _ _)) g2
            clear h2 g2
            go_wp2
            go_ret2
            exact ⟨by rw [HRK.out, ← HN0.out]; rfl, by rw [HRK.out]; exact H2.out, HG2.out⟩
          · have u0 : ¬ (k : Int) - (j : Int) = 0 := by omega
            have u1 : ((k : Int) - (j : Int) == 0) = false := by simp; omega
            have u6 : ¬ (6 : Int) < (k : Int) - (j : Int) := by omega
            by_cases t1 : j + 1 < k
            · have v1 : (1 : Int) < (k : Int) - (j : Int) := by omega
              have hjl : j < s.size := by omega
              have hjl' : (j : Int) < (s.size : Int) := by omega
              obtain ⟨z, hz⟩ : ∃ z, s[j].toNat = z := ⟨_, rfl⟩
              have hbz : bat s j = z := by rw [bat_in hjl, hz]
              by_cases tz : z = 48
              · have HE : Hid (badI bad (j : Int) = numB s j k bad) := by show _ = _; unfold numB badI; rw [if_pos hb, if_pos (.inr (.inr ⟨t1, by rw [hbz]; exact tz⟩))]
                subst tz
                clear hbz
                go_wp2_with fail
                refine (CF.out _ (HS.out.drewN _)).mono ?_
                rintro e w2 ⟨rfl, h2, g2⟩
                have H2 : Hid (RS w2 rb s k lv (numB s j k bad) er at_ dep) := by have := h2; rw [HE.out] at this; exact this
                have HG2 : Hid (w.grownBy w2 (some rb)) := gr_trans (gr_trans HG.out (gr_drewN _ _ _)) g2
                clear h2 g2
                go_wp2
                go_ret2
                exact ⟨by rw [HRK.out, ← HN0.out]; rfl, by rw [HRK.out]; exact H2.out, HG2.out⟩
              · have HE : Hid (numB s j k bad = bad) := by show _ = _; unfold numB; rw [if_neg (by rw [hbz]; omega)]
                have ez : ((z : Int) == 48) = false := by simp; omega
                clear hbz
                go_wp2
                go_ret2
                exact ⟨by rw [HRK.out, ← HN0.out]; rfl, by rw [HRK.out, HE.out]; exact HS.out.drewN _, gr_trans HG.out (gr_drewN _ _ _)⟩
            · have v1 : ¬ (1 : Int) < (k : Int) - (j : Int) := by omega
              have HE : Hid (numB s j k bad = bad) := by show _ = _; unfold numB; rw [if_neg (by omega)]
              go_wp2
              go_ret2
              exact ⟨by rw [HRK.out, ← HN0.out]; rfl, by rw [HRK.out, HE.out]; exact HS.out.drewN _, gr_trans HG.out (gr_drewN _ _ _)⟩

end Go.Proofs.YtepeepipgkejiadGreatDoor
