/-
  The reference's reader: number.
-/
import Derived.Test.YtnkebfmlaliddaaGreatDoorP01
import Derived.Laws.IdiomStrings
namespace Go.Proofs.YtnkebfmlaliddaaGreatDoor
open Go.RowKit
set_option linter.unusedVariables false

/-- The number of the first c digits at j; of no more than six. -/
def dv (s : ByteArray) (j : Nat) : Nat → Int
  | 0 => 0
  | c + 1 => if c < 6 then 10 * dv s j c + ((bat s (j + c) : Int) - 48) else dv s j c
theorem dv_bd (s : ByteArray) (j : Nat) : ∀ c, (∀ t, t < c → 48 ≤ bat s (j + t) ∧ bat s (j + t) ≤ 57) → 0 ≤ dv s j c ∧ dv s j c ≤ 999999 ∧ (c ≤ 5 → dv s j c ≤ 99999) ∧ (c ≤ 4 → dv s j c ≤ 9999) ∧ (c ≤ 3 → dv s j c ≤ 999) ∧ (c ≤ 2 → dv s j c ≤ 99) ∧ (c ≤ 1 → dv s j c ≤ 9) ∧ (c = 0 → dv s j c = 0)
  | 0, _ => by simp [dv]
  | c + 1, h => by
    have ih := dv_bd s j c (fun t ht => h t (by omega))
    have hd := h c (by omega)
    unfold dv
    split <;> omega
theorem run_all {p : Nat → Bool} (s : ByteArray) : ∀ f i t, runF p s f i > i + t → p (bat s (i + t)) = true
  | 0, i, t, h => by simp [runF] at h; omega
  | f + 1, i, t, h => by
    rw [runF] at h
    by_cases c : p (bat s i) = true
    · rw [if_pos c] at h
      match t with
      | 0 => exact c
      | t + 1 =>
        have := run_all (p := p) s f (i + 1) t (by omega)
        rw [show i + (t + 1) = i + 1 + t by omega]; exact this
    · rw [if_neg c] at h; omega

/-- The fault behind a number: no digit, more than six, or a needless zero. -/
def numB (s : ByteArray) (j k : Nat) (bad : Int) : Int := if k = j ∨ j + 6 < k ∨ (j + 1 < k ∧ bat s j = 48) then (j : Int) else bad

set_option maxRecDepth 100000 in
set_option maxHeartbeats 8000000 in
theorem number_any (rb : Nat) (s : ByteArray) (i : Nat) (lv : Value) (bad er at_ dep : Int) (w : World) (h : RS w rb s i lv bad er at_ dep) (hs : s.size ≤ 1099511627776) (hi : i ≤ s.size) (hb : bad < 0) :
    Calls Tryz.prog 79 #[.pointer (some ⟨rb, 0, none⟩)] w fun e w' => e = .returned (.tuple #[.int .i64 (dv s (sk s i) (run digit s (sk s i) - sk s i)), .int .i64 (sk s i : Int)]) ∧ RS w' rb s (run digit s (sk s i)) lv (numB s (sk s i) (run digit s (sk s i)) bad) er at_ dep ∧ w.grownBy w' (some rb) := by
  have CS : Hid (Calls Tryz.prog 20 #[.pointer (some ⟨rb, 0, none⟩)] w fun e w' => e = .returned (.tuple #[]) ∧ RS w' rb s (sk s i) lv bad er at_ dep ∧ w.grownBy w' (some rb)) := skip_any rb s i lv bad er at_ dep w h hs hi
  obtain ⟨j, hj⟩ : ∃ j, sk s i = j := ⟨_, rfl⟩
  have hjs := sk_le s i hi
  rw [hj] at CS hjs ⊢
  have HDG : Hid (∀ t, j + t < run digit s j → 48 ≤ bat s (j + t) ∧ bat s (j + t) ≤ 57) := fun t ht => by
    have := run_all (p := digit) s (s.size - j) j t ht
    unfold digit at this
    simpa using this
  clear h hj
  go_enter Tryz.func79, Tryz.ntmps79
  go_wp2_with fail
  refine CS.out.mono ?_
  rintro e w1 ⟨rfl, h1, g1⟩
  have HR : Hid (RS w1 rb s j lv bad er at_ dep) := h1
  have HG1 : Hid (w.grownBy w1 (some rb)) := g1
  have d1 := h1.c1
  have eb : decide (bad < 0) = true := decide_eq_true hb
  clear h1 g1 CS
  go_wp2
  clear d1
  go_loopw [5, 13] (fun v _ wr => ∃ (k : Nat) (n : Int), v = .int .i64 n ∧ j ≤ k ∧ k ≤ s.size ∧ 0 ≤ n ∧ n ≤ 999999 ∧ Hid (n = dv s j (k - j)) ∧ Hid (run digit s k = run digit s j) ∧ Hid (RS wr rb s k lv bad er at_ dep) ∧ Hid (w.grownBy wr (some rb))) (fun _ _ wr => s.size - rdI wr rb)
  case atStart => exact ⟨j, 0, rfl, Nat.le_refl _, hjs, by omega, by omega, by show _ = _; rw [Nat.sub_self]; rfl, rfl, HR.out, HG1.out⟩
  case round =>
    obtain ⟨k, n, rfl, hjk, hk, n0, n1, HN0, HK, HS, HG⟩ := hrel
    have hs1 := HS.out
    have c0 := hs1.c0
    have c1 := hs1.c1
    have c3 := hs1.c3
    have f1 := hs1.fz 1
    have HRD : Hid (rdI wr rb = k) := hs1.rdI
    by_cases hgo : digit (bat s k) = true
    · have hlt : k < s.size := by
        by_cases e : k < s.size
        · exact e
        · rw [bat_out e] at hgo; cases hgo
      have hlt' : (k : Int) < (s.size : Int) := by omega
      have el : decide ((k : Int) < (s.size : Int)) = true := decide_eq_true hlt'
      obtain ⟨x, hx⟩ : ∃ x, s[k].toNat = x := ⟨_, rfl⟩
      have hbx : bat s k = x := by rw [bat_in hlt, hx]
      have hrk : run digit s k = run digit s (k + 1) := run_step hlt hgo
      have HK2 : Hid (run digit s (k + 1) = run digit s j) := by rw [← HK.out]; exact hrk.symm
      have hreach : k < run digit s j := by rw [← HK.out, hrk]; exact run_ge _ _ _
      have hnew : dv s j (k + 1 - j) = if k - j < 6 then 10 * n + ((x : Int) - 48) else n := by
        rw [show k + 1 - j = (k - j) + 1 by omega, dv, ← HN0.out, show j + (k - j) = k by omega, hbx]
      have hbnd := dv_bd s j (k - j) (fun t ht => HDG.out t (by omega))
      have hbnd2 := dv_bd s j (k + 1 - j) (fun t ht => HDG.out t (by omega))
      rw [← HN0.out] at hbnd
      rw [hbx] at hgo
      unfold digit at hgo
      simp only [Bool.and_eq_true, decide_eq_true_eq] at hgo
      obtain ⟨l1, l2⟩ := hgo
      have e1 : decide ((48 : Int) ≤ (x : Int)) = true := decide_eq_true (by omega)
      have e2 : decide ((x : Int) ≤ 57) = true := decide_eq_true (by omega)
      have HN : Hid (∀ q, RS ((wr.drewN q).setCell ⟨rb, 1, none⟩ (.int .i64 ((k : Int) + 1))) rb s (k + 1) lv bad er at_ dep) := fun q => by
        have := (HS.out.drewN q).setI (k + 1)
        rw [show ((k + 1 : Nat) : Int) = (k : Int) + 1 by omega] at this; exact this
      by_cases h6 : k - j < 6
      · rw [if_pos h6] at hnew
        have h6' : (k : Int) - (j : Int) < 6 := by omega
        have HND : Hid (10 * n + (x : Int) - 48 = dv s j (k + 1 - j)) := by show _ = _; rw [hnew]; omega
        have nb0 : 0 ≤ 10 * n + (x : Int) - 48 := by omega
        have nb1 : 10 * n + (x : Int) - 48 ≤ 999999 := by rw [HND.out]; exact hbnd2.2.1
        clear hs1 HK HS hbx hnew hbnd hbnd2 hrk hreach HN0
        go_wp2_with fail
        go_quiet (fail)
        go_wp2_with fail
        go_quiet (fail)
        go_wp2
        go_roundw
        case rel => exact ⟨k + 1, _, rfl, by omega, by omega, nb0, nb1, HND.out, HK2.out, HN.out _, gr_trans (gr_trans HG.out (gr_drewN _ _ _)) (gr_set _ _ _ _)⟩
        case measure => rw [(HN.out _).rdI, HRD.out]; omega
      · rw [if_neg h6] at hnew
        have h6' : ¬ (k : Int) - (j : Int) < 6 := by omega
        have HND : Hid (n = dv s j (k + 1 - j)) := by show _ = _; rw [hnew]
        clear hs1 HK HS hbx hnew hbnd hbnd2 hrk hreach HN0
        go_wp2_with fail
        go_quiet (fail)
        go_wp2
        go_roundw
        case rel => exact ⟨k + 1, n, rfl, by omega, by omega, n0, n1, HND.out, HK2.out, HN.out _, gr_trans (gr_trans HG.out (gr_drewN _ _ _)) (gr_set _ _ _ _)⟩
        case measure => rw [(HN.out _).rdI, HRD.out]; omega
    · have hrk : run digit s j = k := by rw [← HK.out]; exact run_stop (by simpa using hgo)
      have HRK : Hid (run digit s j = k) := hrk
      have CF : Hid (∀ W, RS W rb s k lv bad er at_ dep → Calls Tryz.prog 21 #[.pointer (some ⟨rb, 0, none⟩), .int .i64 (j : Int)] W fun e w' => e = .returned (.tuple #[]) ∧ RS w' rb s k lv (badI bad j) er at_ dep ∧ W.grownBy w' (some rb)) := fun W h => fail_any rb s k lv bad er at_ dep j W h
      clear hrk hs1 HK
      by_cases hlt : k < s.size
      · have hlt' : (k : Int) < (s.size : Int) := by omega
        have el : decide ((k : Int) < (s.size : Int)) = true := decide_eq_true hlt'
        obtain ⟨x, hx⟩ : ∃ x, s[k].toNat = x := ⟨_, rfl⟩
        have hbx : bat s k = x := by rw [bat_in hlt, hx]
        rw [hbx] at hgo
        unfold digit at hgo
        simp only [Bool.and_eq_true, decide_eq_true_eq] at hgo
        clear hbx
        by_cases l1 : 48 ≤ x
        · have l2 : ¬ x ≤ 57 := fun e => hgo ⟨l1, e⟩
          have e1 : decide ((48 : Int) ≤ (x : Int)) = true := decide_eq_true (by omega)
          have e2 : decide ((x : Int) ≤ 57) = false := decide_eq_false (by omega)
          clear hgo
          go_wp2_with fail
          go_quiet (fail)
          by_cases t0 : k = j
          · have HE : Hid (badI bad (j : Int) = numB s j k bad) := by show _ = _; unfold numB badI; rw [if_pos hb, if_pos (.inl t0)]
            have u0 : (k : Int) - (j : Int) = 0 := by omega
            go_wp2_with fail
            refine (CF.out _ (HS.out.drewN _)).mono ?_
            rintro e w2 ⟨rfl, h2, g2⟩
            have H2 : Hid (RS w2 rb s k lv (numB s j k bad) er at_ dep) := by have := h2; rw [HE.out] at this; exact this
            have HG2 : Hid (w.grownBy w2 (some rb)) := gr_trans (gr_trans HG.out (gr_drewN _ _ _)) g2
            clear h2 g2
            go_wp2
            go_ret2
            exact ⟨by rw [HRK.out, ← HN0.out]; rfl, by rw [HRK.out]; exact H2.out, HG2.out⟩
          · by_cases t6 : j + 6 < k
            · have HE : Hid (badI bad (j : Int) = numB s j k bad) := by show _ = _; unfold numB badI; rw [if_pos hb, if_pos (.inr (.inl t6))]
              have u0 : ¬ (k : Int) - (j : Int) = 0 := by omega
              have u1 : ((k : Int) - (j : Int) == 0) = false := by simp; omega
              have u6 : (6 : Int) < (k : Int) - (j : Int) := by omega
              go_wp2_with fail
              refine (CF.out _ (HS.out.drewN _)).mono ?_
              rintro e w2 ⟨rfl, h2, g2⟩
              have H2 : Hid (RS w2 rb s k lv (numB s j k bad) er at_ dep) := by have := h2; rw [HE.out] at this; exact this
              have HG2 : Hid (w.grownBy w2 (some rb)) := gr_trans (gr_trans HG.out (gr_drewN _ _ _)) g2
              clear h2 g2
              go_wp2
              go_ret2
              exact ⟨by rw [HRK.out, ← HN0.out]; rfl, by rw [HRK.out]; exact H2.out, HG2.out⟩
            · have u0 : ¬ (k : Int) - (j : Int) = 0 := by omega
              have u1 : ((k : Int) - (j : Int) == 0) = false := by simp; omega
              have u6 : ¬ (6 : Int) < (k : Int) - (j : Int) := by omega
              by_cases t1 : j + 1 < k
              · have v1 : (1 : Int) < (k : Int) - (j : Int) := by omega
                have hjl : j < s.size := by omega
                have hjl' : (j : Int) < (s.size : Int) := by omega
                obtain ⟨z, hz⟩ : ∃ z, s[j].toNat = z := ⟨_, rfl⟩
                have hbz : bat s j = z := by rw [bat_in hjl, hz]
                by_cases tz : z = 48
                · have HE : Hid (badI bad (j : Int) = numB s j k bad) := by show _ = _; unfold numB badI; rw [if_pos hb, if_pos (.inr (.inr ⟨t1, by rw [hbz]; exact tz⟩))]
                  subst tz
                  clear hbz
                  go_wp2_with fail
                  refine (CF.out _ (HS.out.drewN _)).mono ?_
                  rintro e w2 ⟨rfl, h2, g2⟩
                  have H2 : Hid (RS w2 rb s k lv (numB s j k bad) er at_ dep) := by have := h2; rw [HE.out] at this; exact this
                  have HG2 : Hid (w.grownBy w2 (some rb)) := gr_trans (gr_trans HG.out (gr_drewN _ _ _)) g2
                  clear h2 g2
                  go_wp2
                  go_ret2
                  exact ⟨by rw [HRK.out, ← HN0.out]; rfl, by rw [HRK.out]; exact H2.out, HG2.out⟩
                · have HE : Hid (numB s j k bad = bad) := by show _ = _; unfold numB; rw [if_neg (by rw [hbz]; omega)]
                  have ez : ((z : Int) == 48) = false := by simp; omega
                  clear hbz
                  go_wp2
                  go_ret2
                  exact ⟨by rw [HRK.out, ← HN0.out]; rfl, by rw [HRK.out, HE.out]; exact HS.out.drewN _, gr_trans HG.out (gr_drewN _ _ _)⟩
              · have v1 : ¬ (1 : Int) < (k : Int) - (j : Int) := by omega
                have HE : Hid (numB s j k bad = bad) := by show _ = _; unfold numB; rw [if_neg (by omega)]
                go_wp2
                go_ret2
                exact ⟨by rw [HRK.out, ← HN0.out]; rfl, by rw [HRK.out, HE.out]; exact HS.out.drewN _, gr_trans HG.out (gr_drewN _ _ _)⟩
        · have e1 : decide ((48 : Int) ≤ (x : Int)) = false := decide_eq_false (by omega)
          clear hgo
          go_wp2_with fail
          go_quiet (fail)
          by_cases t0 : k = j
          · have HE : Hid (badI bad (j : Int) = numB s j k bad) := by show _ = _; unfold numB badI; rw [if_pos hb, if_pos (.inl t0)]
            have u0 : (k : Int) - (j : Int) = 0 := by omega
            go_wp2_with fail
            refine (CF.out _ (HS.out.drewN _)).mono ?_
            rintro e w2 ⟨rfl, h2, g2⟩
            have H2 : Hid (RS w2 rb s k lv (numB s j k bad) er at_ dep) := by have := h2; rw [HE.out] at this; exact this
            have HG2 : Hid (w.grownBy w2 (some rb)) := gr_trans (gr_trans HG.out (gr_drewN _ _ _)) g2
            clear h2 g2
            go_wp2
            go_ret2
            exact ⟨by rw [HRK.out, ← HN0.out]; rfl, by rw [HRK.out]; exact H2.out, HG2.out⟩
          · by_cases t6 : j + 6 < k
            · have HE : Hid (badI bad (j : Int) = numB s j k bad) := by show _ = _; unfold numB badI; rw [if_pos hb, if_pos (.inr (.inl t6))]
              have u0 : ¬ (k : Int) - (j : Int) = 0 := by omega
              have u1 : ((k : Int) - (j : Int) == 0) = false := by simp; omega
              have u6 : (6 : Int) < (k : Int) - (j : Int) := by omega
              go_wp2_with fail
              refine (CF.out _ (HS.out.drewN _)).mono ?_
              rintro e w2 ⟨rfl, h2, g2⟩
              have H2 : Hid (RS w2 rb s k lv (numB s j k bad) er at_ dep) := by have := h2; rw [HE.out] at this; exact this
              have HG2 : Hid (w.grownBy w2 (some rb)) := gr_trans (gr_trans HG.out (gr_drewN _ _ _)) g2
              clear h2 g2
              go_wp2
              go_ret2
              exact ⟨by rw [HRK.out, ← HN0.out]; rfl, by rw [HRK.out]; exact H2.out, HG2.out⟩
            · have u0 : ¬ (k : Int) - (j : Int) = 0 := by omega
              have u1 : ((k : Int) - (j : Int) == 0) = false := by simp; omega
              have u6 : ¬ (6 : Int) < (k : Int) - (j : Int) := by omega
              by_cases t1 : j + 1 < k
              · have v1 : (1 : Int) < (k : Int) - (j : Int) := by omega
                have hjl : j < s.size := by omega
                have hjl' : (j : Int) < (s.size : Int) := by omega
                obtain ⟨z, hz⟩ : ∃ z, s[j].toNat = z := ⟨_, rfl⟩
                have hbz : bat s j = z := by rw [bat_in hjl, hz]
                by_cases tz : z = 48
                · have HE : Hid (badI bad (j : Int) = numB s j k bad) := by show _ = _; unfold numB badI; rw [if_pos hb, if_pos (.inr (.inr ⟨t1, by rw [hbz]; exact tz⟩))]
                  subst tz
                  clear hbz
                  go_wp2_with fail
                  refine (CF.out _ (HS.out.drewN _)).mono ?_
                  rintro e w2 ⟨rfl, h2, g2⟩
                  have H2 : Hid (RS w2 rb s k lv (numB s j k bad) er at_ dep) := by have := h2; rw [HE.out] at this; exact this
                  have HG2 : Hid (w.grownBy w2 (some rb)) := gr_trans (gr_trans HG.out (gr_drewN _ _ _)) g2
                  clear h2 g2
                  go_wp2
                  go_ret2
                  exact ⟨by rw [HRK.out, ← HN0.out]; rfl, by rw [HRK.out]; exact H2.out, HG2.out⟩
                · have HE : Hid (numB s j k bad = bad) := by show _ = _; unfold numB; rw [if_neg (by rw [hbz]; omega)]
                  have ez : ((z : Int) == 48) = false := by simp; omega
                  clear hbz
                  go_wp2
                  go_ret2
                  exact ⟨by rw [HRK.out, ← HN0.out]; rfl, by rw [HRK.out, HE.out]; exact HS.out.drewN _, gr_trans HG.out (gr_drewN _ _ _)⟩
              · have v1 : ¬ (1 : Int) < (k : Int) - (j : Int) := by omega
                have HE : Hid (numB s j k bad = bad) := by show _ = _; unfold numB; rw [if_neg (by omega)]
                go_wp2
                go_ret2
                exact ⟨by rw [HRK.out, ← HN0.out]; rfl, by rw [HRK.out, HE.out]; exact HS.out.drewN _, gr_trans HG.out (gr_drewN _ _ _)⟩
      · have hlt' : ¬ (k : Int) < (s.size : Int) := by omega
        have el : decide ((k : Int) < (s.size : Int)) = false := decide_eq_false hlt'
        clear hgo
        go_wp2_with fail
        go_quiet (fail)
        by_cases t0 : k = j
        · have HE : Hid (badI bad (j : Int) = numB s j k bad) := by show _ = _; unfold numB badI; rw [if_pos hb, if_pos (.inl t0)]
          have u0 : (k : Int) - (j : Int) = 0 := by omega
          go_wp2_with fail
          refine (CF.out _ (HS.out.drewN _)).mono ?_
          rintro e w2 ⟨rfl, h2, g2⟩
          have H2 : Hid (RS w2 rb s k lv (numB s j k bad) er at_ dep) := by have := h2; rw [HE.out] at this; exact this
          have HG2 : Hid (w.grownBy w2 (some rb)) := gr_trans (gr_trans HG.out (gr_drewN _ _ _)) g2
          clear h2 g2
          go_wp2
          go_ret2
          exact ⟨by rw [HRK.out, ← HN0.out]; rfl, by rw [HRK.out]; exact H2.out, HG2.out⟩
        · by_cases t6 : j + 6 < k
          · have HE : Hid (badI bad (j : Int) = numB s j k bad) := by show _ = _; unfold numB badI; rw [if_pos hb, if_pos (.inr (.inl t6))]
            have u0 : ¬ (k : Int) - (j : Int) = 0 := by omega
            have u1 : ((k : Int) - (j : Int) == 0) = false := by simp; omega
            have u6 : (6 : Int) < (k : Int) - (j : Int) := by omega
            go_wp2_with fail
            refine (CF.out _ (HS.out.drewN _)).mono ?_
            rintro e w2 ⟨rfl, h2, g2⟩
            have H2 : Hid (RS w2 rb s k lv (numB s j k bad) er at_ dep) := by have := h2; rw [HE.out] at this; exact this
            have HG2 : Hid (w.grownBy w2 (some rb)) := gr_trans (gr_trans HG.out (gr_drewN _ _ _)) g2
            clear h2 g2
            go_wp2
            go_ret2
            exact ⟨by rw [HRK.out, ← HN0.out]; rfl, by rw [HRK.out]; exact H2.out, HG2.out⟩
          · have u0 : ¬ (k : Int) - (j : Int) = 0 := by omega
            have u1 : ((k : Int) - (j : Int) == 0) = false := by simp; omega
            have u6 : ¬ (6 : Int) < (k : Int) - (j : Int) := by omega
            by_cases t1 : j + 1 < k
            · have v1 : (1 : Int) < (k : Int) - (j : Int) := by omega
              have hjl : j < s.size := by omega
              have hjl' : (j : Int) < (s.size : Int) := by omega
              obtain ⟨z, hz⟩ : ∃ z, s[j].toNat = z := ⟨_, rfl⟩
              have hbz : bat s j = z := by rw [bat_in hjl, hz]
              by_cases tz : z = 48
              · have HE : Hid (badI bad (j : Int) = numB s j k bad) := by show _ = _; unfold numB badI; rw [if_pos hb, if_pos (.inr (.inr ⟨t1, by rw [hbz]; exact tz⟩))]
                subst tz
                clear hbz
                go_wp2_with fail
                refine (CF.out _ (HS.out.drewN _)).mono ?_
                rintro e w2 ⟨rfl, h2, g2⟩
                have H2 : Hid (RS w2 rb s k lv (numB s j k bad) er at_ dep) := by have := h2; rw [HE.out] at this; exact this
                have HG2 : Hid (w.grownBy w2 (some rb)) := gr_trans (gr_trans HG.out (gr_drewN _ _ _)) g2
                clear h2 g2
                go_wp2
                go_ret2
                exact ⟨by rw [HRK.out, ← HN0.out]; rfl, by rw [HRK.out]; exact H2.out, HG2.out⟩
              · have HE : Hid (numB s j k bad = bad) := by show _ = _; unfold numB; rw [if_neg (by rw [hbz]; omega)]
                have ez : ((z : Int) == 48) = false := by simp; omega
                clear hbz
                go_wp2
                go_ret2
                exact ⟨by rw [HRK.out, ← HN0.out]; rfl, by rw [HRK.out, HE.out]; exact HS.out.drewN _, gr_trans HG.out (gr_drewN _ _ _)⟩
            · have v1 : ¬ (1 : Int) < (k : Int) - (j : Int) := by omega
              have HE : Hid (numB s j k bad = bad) := by show _ = _; unfold numB; rw [if_neg (by omega)]
              go_wp2
              go_ret2
              exact ⟨by rw [HRK.out, ← HN0.out]; rfl, by rw [HRK.out, HE.out]; exact HS.out.drewN _, gr_trans HG.out (gr_drewN _ _ _)⟩

end Go.Proofs.YtnkebfmlaliddaaGreatDoor

namespace Go.Proofs.YtnkebfmlaliddaaGreatDoor
open Go.RowKit
set_option linter.unusedVariables false

/-- A new row of bytes, made a string. -/
theorem conv_new (xs : List Int) (hx : ∀ x ∈ xs, 0 ≤ x ∧ x < 256) (w : World) :
    (convert 42 9 (.slice (some ⟨w.heap.size, 0, none⟩) xs.length xs.length)).run Tryz.prog (w.alloc (.cells (xs.map (Value.int .u8)).toArray 5)) =
      .ok (.string ⟨(xs.map fun x => x.toNat.toUInt8).toArray⟩) (w.alloc (.cells (xs.map (Value.int .u8)).toArray 5)) := by
  have h := run_convert_bytes_back (P := Tryz.prog) (w.alloc (.cells (xs.map (Value.int .u8)).toArray 5)) 42 9 5 ⟨w.heap.size, 0, none⟩ xs.length (xs.map fun x => x.toNat.toUInt8) Tryz.underlying42 Tryz.underlying5 Tryz.underlying9 (by
    intro j hj
    simp only [List.length_map] at hj
    have e : (⟨w.heap.size, 0, none⟩ : Addr).add j = ⟨w.heap.size, j, none⟩ := by unfold Addr.add; split <;> simp_all
    rw [e, World.cell?_alloc_mark]
    have hb := hx xs[j] (List.getElem_mem hj)
    simp [hj]
    omega)
  simpa using h
theorem conv1 (a : Int) (ha : 0 ≤ a ∧ a < 256) (w : World) :
    (convert 42 9 (.slice (some ⟨w.heap.size, 0, none⟩) 1 1)).run Tryz.prog (w.alloc (.cells #[.int .u8 a] 5)) = .ok (.string ⟨#[a.toNat.toUInt8]⟩) (w.alloc (.cells #[.int .u8 a] 5)) :=
  conv_new [a] (by simpa using ha) w

theorem conv_at (a : Int) (ha : 0 ≤ a ∧ a < 256) (w : World) (rb : Nat) (z : Int) : ∀ q, (convert 42 9 (.slice (some ⟨w.heap.size, 0, none⟩) 1 1)).run Tryz.prog (((w.drewN q).setCell ⟨rb, 1, none⟩ (.int .i64 z)).alloc (.cells #[.int .u8 a] 5)) = .ok (.string ⟨#[a.toNat.toUInt8]⟩) (((w.drewN q).setCell ⟨rb, 1, none⟩ (.int .i64 z)).alloc (.cells #[.int .u8 a] 5)) := fun q => by
  have := conv1 a ha ((w.drewN q).setCell ⟨rb, 1, none⟩ (.int .i64 z))
  have e : ((w.drewN q).setCell ⟨rb, 1, none⟩ (.int .i64 z)).heap.size = w.heap.size := by simp
  rw [e] at this; exact this

theorem conv_at2 (a : Int) (ha : 0 ≤ a ∧ a < 256) (w : World) (rb : Nat) (z y : Int) : ∀ q q', (convert 42 9 (.slice (some ⟨w.heap.size, 0, none⟩) 1 1)).run Tryz.prog (((((w.drewN q).setCell ⟨rb, 1, none⟩ (.int .i64 z)).drewN q').setCell ⟨rb, 1, none⟩ (.int .i64 y)).alloc (.cells #[.int .u8 a] 5)) = .ok (.string ⟨#[a.toNat.toUInt8]⟩) (((((w.drewN q).setCell ⟨rb, 1, none⟩ (.int .i64 z)).drewN q').setCell ⟨rb, 1, none⟩ (.int .i64 y)).alloc (.cells #[.int .u8 a] 5)) := fun q q' => by
  have := conv1 a ha ((((w.drewN q).setCell ⟨rb, 1, none⟩ (.int .i64 z)).drewN q').setCell ⟨rb, 1, none⟩ (.int .i64 y))
  have e : ((((w.drewN q).setCell ⟨rb, 1, none⟩ (.int .i64 z)).drewN q').setCell ⟨rb, 1, none⟩ (.int .i64 y)).heap.size = w.heap.size := by simp
  rw [e] at this; exact this

/-- What a string means: from p on, acc ahead; or the place of the fault. -/
def qF (s : ByteArray) : Nat → Nat → List UInt8 → Except Nat (Nat × List UInt8)
  | 0, p, _ => .error p
  | f + 1, p, acc =>
    if bat s p = 256 then .error p
    else if bat s p = 34 then .ok (p + 1, acc)
    else if bat s p = 92 then
      if bat s (p + 1) = 34 ∨ bat s (p + 1) = 92 then qF s f (p + 2) (acc ++ [(bat s (p + 1)).toUInt8])
      else if bat s (p + 1) = 110 then qF s f (p + 2) (acc ++ [10])
      else .error (p + 1)
    else qF s f (p + 1) (acc ++ [(bat s p).toUInt8])
/-- The string at i. -/
def quoR (s : ByteArray) (i : Nat) : Except Nat (Nat × List UInt8) := if isAt s i 34 then qF s (s.size + 2) (gotI s i 34) [] else .error (sk s i)

/-- What quoted leaves. -/
def QOut (w w' : World) (e : Ending) (rb : Nat) (s : ByteArray) (lv : Value) (bad er at_ dep : Int) (r : Except Nat (Nat × List UInt8)) : Prop :=
  w.grownBy w' (some rb) ∧ match r with
    | .ok (p, t) => e = .returned (.string ⟨t.toArray⟩) ∧ RS w' rb s p lv bad er at_ dep
    | .error b => e = .returned (.string ByteArray.empty) ∧ ∃ p, p ≤ s.size ∧ RS w' rb s p lv (b : Int) er at_ dep

set_option maxRecDepth 100000 in
set_option maxHeartbeats 8000000 in
theorem quoted_any (rb : Nat) (s : ByteArray) (i : Nat) (lv : Value) (bad er at_ dep : Int) (w : World) (h : RS w rb s i lv bad er at_ dep) (hs : s.size ≤ 1073741824) (hi : i ≤ s.size) (hb : bad < 0) :
    Calls Tryz.prog 52 #[.pointer (some ⟨rb, 0, none⟩)] w fun e w' => QOut w w' e rb s lv bad er at_ dep (quoR s i) := by
  have CM : Hid (Calls Tryz.prog 51 #[.pointer (some ⟨rb, 0, none⟩), .int .u8 34] w fun e w' => e = .returned (.tuple #[]) ∧ RS w' rb s (gotI s i 34) lv (mustB s i 34 bad) er at_ dep ∧ w.grownBy w' (some rb)) := must_any rb s i lv bad er at_ dep 34 w h (by omega) hi (by omega) hb
  clear h
  by_cases hia : isAt s i 34 = true
  · have hmb : mustB s i 34 bad = bad := by unfold mustB; rw [if_pos hia]
    have HQ : Hid (quoR s i = qF s (s.size + 2) (gotI s i 34) []) := by show _ = _; unfold quoR; rw [if_pos hia]
    have hgs : gotI s i 34 ≤ s.size := by
      unfold isAt at hia
      have e : bat s (sk s i) = 34 := by simpa using hia
      unfold gotI; rw [if_pos e]
      by_cases c : sk s i < s.size
      · omega
      · rw [bat_out c] at e; omega
    obtain ⟨j, hj⟩ : ∃ j, gotI s i 34 = j := ⟨_, rfl⟩
    rw [hmb, hj] at CM
    rw [hj] at HQ hgs
    clear hmb hj hia
    go_enter Tryz.func52, Tryz.ntmps52
    go_wp2_with fail
    refine CM.out.mono ?_
    rintro e w1 ⟨rfl, h1, g1⟩
    have HR : Hid (RS w1 rb s j lv bad er at_ dep) := h1
    have HG1 : Hid (w.grownBy w1 (some rb)) := g1
    clear h1 g1 CM
    go_wp2
    go_loopw [3, 7] (fun v _ wr => ∃ (k f : Nat) (Y : Array UInt8), v = .string ⟨Y⟩ ∧ k ≤ s.size ∧ Y.size ≤ k ∧ s.size < k + f ∧ Hid (qF s f k Y.toList = quoR s i) ∧ Hid (RS wr rb s k lv bad er at_ dep) ∧ Hid (w.grownBy wr (some rb))) (fun _ _ wr => s.size - rdI wr rb)
    case atStart => exact ⟨j, s.size + 2, #[], rfl, hgs, by simp, by omega, by rw [HQ.out]; rfl, HR.out, HG1.out⟩
    case round =>
      obtain ⟨k, f, Y, rfl, hk, hY, hf, HF, HS, HG⟩ := hrel
      have hs1 := HS.out
      have c0 := hs1.c0
      have c1 := hs1.c1
      have c3 := hs1.c3
      have f1 := hs1.fz 1
      have HRD : Hid (rdI wr rb = k) := hs1.rdI
      have CF : Hid (∀ (g : Nat) W, RS W rb s g lv bad er at_ dep → Calls Tryz.prog 21 #[.pointer (some ⟨rb, 0, none⟩), .int .i64 (g : Int)] W fun e w' => e = .returned (.tuple #[]) ∧ RS w' rb s g lv (badI bad g) er at_ dep ∧ W.grownBy w' (some rb)) := fun g W h => fail_any rb s g lv bad er at_ dep g W h
      have HBI : Hid (∀ a, badI bad a = a) := fun a => by unfold badI; rw [if_pos hb]
      obtain ⟨f, rfl⟩ : ∃ f', f = f' + 1 := ⟨f - 1, by omega⟩
      clear hs1
      by_cases hlt : k < s.size
      · have hlt' : (k : Int) < (s.size : Int) := by omega
        have hlt2 : ¬ (s.size : Int) ≤ (k : Int) := by omega
        obtain ⟨x, hx⟩ : ∃ x, s[k].toNat = x := ⟨_, rfl⟩
        have hbx : bat s k = x := by rw [bat_in hlt, hx]
        have hx256 : x < 256 := by rw [← hbx]; exact bat_lt hlt
        have HF1 : Hid (quoR s i = if x = 34 then .ok (k + 1, Y.toList) else if x = 92 then (if bat s (k + 1) = 34 ∨ bat s (k + 1) = 92 then qF s f (k + 2) (Y.toList ++ [(bat s (k + 1)).toUInt8]) else if bat s (k + 1) = 110 then qF s f (k + 2) (Y.toList ++ [10]) else .error (k + 1)) else qF s f (k + 1) (Y.toList ++ [x.toUInt8])) := by
          show _ = _
          rw [← HF.out, qF, hbx, if_neg (by omega)]
        clear HF hbx
        by_cases q34 : x = 34
        · have HE : Hid (quoR s i = .ok (k + 1, Y.toList)) := by show _ = _; rw [HF1.out, if_pos q34]
          have HN : Hid (∀ q, RS ((wr.drewN q).setCell ⟨rb, 1, none⟩ (.int .i64 ((k : Int) + 1))) rb s (k + 1) lv bad er at_ dep) := fun q => by
            have := (HS.out.drewN q).setI (k + 1)
            rw [show ((k + 1 : Nat) : Int) = (k : Int) + 1 by omega] at this; exact this
          subst q34
          clear HF1 HS
          go_wp2_with fail
          go_quiet (fail)
          go_wp2_with fail
          go_quiet (fail)
          go_wp2
          go_ret
          exact ⟨gr_trans (gr_trans HG.out (gr_drewN _ _ _)) (gr_set _ _ _ _), by rw [HE.out]; exact ⟨rfl, HN.out _⟩⟩
        · by_cases q92 : x = 92
          · rw [if_neg q34, if_pos q92] at HF1
            have HN1 : Hid (∀ q, RS ((wr.drewN q).setCell ⟨rb, 1, none⟩ (.int .i64 ((k : Int) + 1))) rb s (k + 1) lv bad er at_ dep) := fun q => by
              have := (HS.out.drewN q).setI (k + 1)
              rw [show ((k + 1 : Nat) : Int) = (k : Int) + 1 by omega] at this; exact this
            subst q92
            have CF1 : Hid (∀ W, RS W rb s (k + 1) lv bad er at_ dep → Calls Tryz.prog 21 #[.pointer (some ⟨rb, 0, none⟩), .int .i64 ((k : Int) + 1)] W fun e w' => e = .returned (.tuple #[]) ∧ RS w' rb s (k + 1) lv (badI bad ((k : Int) + 1)) er at_ dep ∧ W.grownBy w' (some rb)) := fun W h => by have := CF.out (k + 1) W h; rw [show ((k + 1 : Nat) : Int) = (k : Int) + 1 by omega] at this; exact this
            by_cases hlt2 : k + 1 < s.size
            · have hlt3 : (k : Int) + 1 < (s.size : Int) := by omega
              have hgd : decide ((s.size : Int) ≤ (k : Int) + 1) = false := decide_eq_false (by omega)
              obtain ⟨y, hy⟩ : ∃ y, s[k + 1].toNat = y := ⟨_, rfl⟩
              have hby : bat s (k + 1) = y := by rw [bat_in hlt2, hy]
              have hy256 : y < 256 := by rw [← hby]; exact bat_lt hlt2
              rw [hby] at HF1
              clear hby
              by_cases ok : y = 34 ∨ y = 92 ∨ y = 110
              · have HN2 : Hid (∀ q q', RS ((((wr.drewN q).setCell ⟨rb, 1, none⟩ (.int .i64 ((k : Int) + 1))).drewN q').setCell ⟨rb, 1, none⟩ (.int .i64 ((k : Int) + 1 + 1))) rb s (k + 2) lv bad er at_ dep) := fun q q' => by
                  have := ((HN1.out q).drewN q').setI (k + 2)
                  rw [show ((k + 2 : Nat) : Int) = (k : Int) + 1 + 1 by omega] at this; exact this
                rcases ok with ok | ok | ok
                · have HF2 : Hid (qF s f (k + 2) (Y.toList ++ [34]) = quoR s i) := by show _ = _; rw [HF1.out, if_pos (.inl ok), ok]; rfl
                  subst ok
                  have hcv := conv_at2 34 (by omega) wr rb ((k : Int) + 1) ((k : Int) + 1 + 1)
                  clear HF1 HS
                  go_wp2_with fail
                  go_quiet (fail)
                  go_wp2_with fail
                  go_quiet (fail)
                  go_wp2_with fail
                  go_quiet (fail)
                  go_wp2_with fail
                  go_quiet (fail)
                  go_wp2
                  go_roundw
                  case rel => exact ⟨k + 2, f, _, rfl, by omega, by simp; omega, by omega, by show _ = _; rw [← HF2.out], (HN2.out _ _).below ((Below.refl _ _).alloc (Nat.le_refl _) _), gr_trans (gr_trans (gr_trans (gr_trans (gr_trans HG.out (gr_drewN _ _ _)) (gr_set _ _ _ _)) (gr_drewN _ _ _)) (gr_set _ _ _ _)) (gr_below ((Below.refl _ _).alloc (Nat.le_refl _) _))⟩
                  case measure => rw [((HN2.out _ _).below ((Below.refl _ _).alloc (Nat.le_refl _) _)).rdI, HRD.out]; omega
                · have HF2 : Hid (qF s f (k + 2) (Y.toList ++ [92]) = quoR s i) := by show _ = _; rw [HF1.out, if_pos (.inr ok), ok]; rfl
                  subst ok
                  have hcv := conv_at2 92 (by omega) wr rb ((k : Int) + 1) ((k : Int) + 1 + 1)
                  clear HF1 HS
                  go_wp2_with fail
                  go_quiet (fail)
                  go_wp2_with fail
                  go_quiet (fail)
                  go_wp2_with fail
                  go_quiet (fail)
                  go_wp2_with fail
                  go_quiet (fail)
                  go_wp2
                  go_roundw
                  case rel => exact ⟨k + 2, f, _, rfl, by omega, by simp; omega, by omega, by show _ = _; rw [← HF2.out], (HN2.out _ _).below ((Below.refl _ _).alloc (Nat.le_refl _) _), gr_trans (gr_trans (gr_trans (gr_trans (gr_trans HG.out (gr_drewN _ _ _)) (gr_set _ _ _ _)) (gr_drewN _ _ _)) (gr_set _ _ _ _)) (gr_below ((Below.refl _ _).alloc (Nat.le_refl _) _))⟩
                  case measure => rw [((HN2.out _ _).below ((Below.refl _ _).alloc (Nat.le_refl _) _)).rdI, HRD.out]; omega
                · have HF2 : Hid (qF s f (k + 2) (Y.toList ++ [10]) = quoR s i) := by show _ = _; rw [HF1.out, if_neg (by omega), if_pos ok]
                  subst ok
                  have hcv := conv_at2 10 (by omega) wr rb ((k : Int) + 1) ((k : Int) + 1 + 1)
                  clear HF1 HS
                  go_wp2_with fail
                  go_quiet (fail)
                  go_wp2_with fail
                  go_quiet (fail)
                  go_wp2_with fail
                  go_quiet (fail)
                  go_wp2_with fail
                  go_quiet (fail)
                  go_wp2
                  go_roundw
                  case rel => exact ⟨k + 2, f, _, rfl, by omega, by simp; omega, by omega, by show _ = _; rw [← HF2.out], (HN2.out _ _).below ((Below.refl _ _).alloc (Nat.le_refl _) _), gr_trans (gr_trans (gr_trans (gr_trans (gr_trans HG.out (gr_drewN _ _ _)) (gr_set _ _ _ _)) (gr_drewN _ _ _)) (gr_set _ _ _ _)) (gr_below ((Below.refl _ _).alloc (Nat.le_refl _) _))⟩
                  case measure => rw [((HN2.out _ _).below ((Below.refl _ _).alloc (Nat.le_refl _) _)).rdI, HRD.out]; omega
              · have e1 : ((y : Int) != 34) = true := by simp; omega
                have e2 : ((y : Int) != 92) = true := by simp; omega
                have e3 : ((y : Int) != 110) = true := by simp; omega
                have HE : Hid (quoR s i = .error (k + 1)) := by show _ = _; rw [HF1.out, if_neg (by omega), if_neg (by omega)]
                clear HF1 HS ok
                go_wp2_with fail
                go_quiet (fail)
                go_wp2_with fail
                go_quiet (fail)
                go_wp2_with fail
                go_quiet (fail)
                go_wp2_with fail
                refine (CF1.out _ (by first | exact HN1.out _ | exact (HN1.out _).drewN _)).mono ?_
                rintro e w2 ⟨rfl, h2, g2⟩
                have H2 : Hid (RS w2 rb s (k + 1) lv ((k + 1 : Nat) : Int) er at_ dep) := by have := h2; rw [HBI.out] at this; rw [show ((k + 1 : Nat) : Int) = (k : Int) + 1 by omega]; exact this
                have HG2 : Hid (w.grownBy w2 (some rb)) := by first | exact gr_trans (gr_trans (gr_trans HG.out (gr_drewN _ _ _)) (gr_set _ _ _ _)) g2 | exact gr_trans (gr_trans (gr_trans (gr_trans HG.out (gr_drewN _ _ _)) (gr_set _ _ _ _)) (gr_drewN _ _ _)) g2
                clear h2 g2
                go_wp2
                go_ret
                exact ⟨HG2.out, by rw [HE.out]; exact ⟨rfl, k + 1, by omega, H2.out⟩⟩
            · have hge : (s.size : Int) ≤ (k : Int) + 1 := by omega
              have hgd : decide ((s.size : Int) ≤ (k : Int) + 1) = true := decide_eq_true hge
              have HE : Hid (quoR s i = .error (k + 1)) := by show _ = _; rw [HF1.out, bat_out hlt2, if_neg (by omega), if_neg (by omega)]
              clear HF1 HS
              go_wp2_with fail
              go_quiet (fail)
              go_wp2_with fail
              go_quiet (fail)
              go_wp2_with fail
              go_quiet (fail)
              go_wp2_with fail
              refine (CF1.out _ (by first | exact HN1.out _ | exact (HN1.out _).drewN _)).mono ?_
              rintro e w2 ⟨rfl, h2, g2⟩
              have H2 : Hid (RS w2 rb s (k + 1) lv ((k + 1 : Nat) : Int) er at_ dep) := by have := h2; rw [HBI.out] at this; rw [show ((k + 1 : Nat) : Int) = (k : Int) + 1 by omega]; exact this
              have HG2 : Hid (w.grownBy w2 (some rb)) := by first | exact gr_trans (gr_trans (gr_trans HG.out (gr_drewN _ _ _)) (gr_set _ _ _ _)) g2 | exact gr_trans (gr_trans (gr_trans (gr_trans HG.out (gr_drewN _ _ _)) (gr_set _ _ _ _)) (gr_drewN _ _ _)) g2
              clear h2 g2
              go_wp2
              go_ret
              exact ⟨HG2.out, by rw [HE.out]; exact ⟨rfl, k + 1, by omega, H2.out⟩⟩
          · have HF2 : Hid (qF s f (k + 1) (Y.toList ++ [x.toUInt8]) = quoR s i) := by show _ = _; rw [HF1.out, if_neg q34, if_neg q92]
            have HN : Hid (∀ q, RS ((wr.drewN q).setCell ⟨rb, 1, none⟩ (.int .i64 ((k : Int) + 1))) rb s (k + 1) lv bad er at_ dep) := fun q => by
              have := (HS.out.drewN q).setI (k + 1)
              rw [show ((k + 1 : Nat) : Int) = (k : Int) + 1 by omega] at this; exact this
            have e1 : ((x : Int) == 34) = false := by simp; omega
            have e2 : ((x : Int) == 92) = false := by simp; omega
            have hcv := conv_at (x : Int) ⟨by omega, by omega⟩ wr rb ((k : Int) + 1)
            have hxx : ((x : Int).toNat).toUInt8 = x.toUInt8 := by simp
            rw [hxx] at hcv
            clear hxx
            clear HF1 HS
            go_wp2_with fail
            go_quiet (fail)
            go_wp2_with fail
            go_quiet (fail)
            go_wp2
            go_roundw
            case rel => exact ⟨k + 1, f, _, rfl, by omega, by simp; omega, by omega, by show _ = _; rw [← HF2.out], (HN.out _).below ((Below.refl _ _).alloc (Nat.le_refl _) _), gr_trans (gr_trans (gr_trans HG.out (gr_drewN _ _ _)) (gr_set _ _ _ _)) (gr_below ((Below.refl _ _).alloc (Nat.le_refl _) _))⟩
            case measure => rw [((HN.out _).below ((Below.refl _ _).alloc (Nat.le_refl _) _)).rdI, HRD.out]; omega
      · have hge : (s.size : Int) ≤ (k : Int) := by omega
        have HE : Hid (quoR s i = .error k) := by show _ = _; rw [← HF.out, qF, if_pos (bat_out hlt)]
        clear HF
        go_wp2_with fail
        go_quiet (fail)
        go_wp2_with fail
        refine (CF.out k _ (HS.out.drewN _)).mono ?_
        rintro e w2 ⟨rfl, h2, g2⟩
        have H2 : Hid (RS w2 rb s k lv (k : Int) er at_ dep) := by have := h2; rw [HBI.out] at this; exact this
        have HG2 : Hid (w.grownBy w2 (some rb)) := gr_trans (gr_trans HG.out (gr_drewN _ _ _)) g2
        clear h2 g2
        go_wp2
        go_ret
        exact ⟨HG2.out, by rw [HE.out]; exact ⟨rfl, k, hk, H2.out⟩⟩
  · have hmb : mustB s i 34 bad = (sk s i : Int) := by unfold mustB; rw [if_neg hia]
    have HQ : Hid (quoR s i = .error (sk s i)) := by show _ = _; unfold quoR; rw [if_neg hia]
    have hgs : gotI s i 34 ≤ s.size := by
      unfold isAt at hia
      unfold gotI; rw [if_neg (by simpa using hia)]; exact sk_le s i hi
    rw [hmb] at CM
    obtain ⟨j, hj⟩ : ∃ j, gotI s i 34 = j := ⟨_, rfl⟩
    obtain ⟨b, hbe⟩ : ∃ b : Int, (sk s i : Int) = b := ⟨_, rfl⟩
    have HBE : Hid ((sk s i : Int) = b) := hbe
    have hb0 : ¬ b < 0 := by omega
    rw [hj, hbe] at CM
    rw [hj] at hgs
    clear hmb hj hia hbe
    go_enter Tryz.func52, Tryz.ntmps52
    go_wp2_with fail
    refine CM.out.mono ?_
    rintro e w1 ⟨rfl, h1, g1⟩
    have HR : Hid (RS w1 rb s j lv b er at_ dep) := h1
    have HG1 : Hid (w.grownBy w1 (some rb)) := g1
    have c3 := h1.c3
    clear h1 g1 CM
    go_wp2
    go_loopw [3, 7] (fun v _ wr => v = .string ByteArray.empty ∧ wr = w1) (fun _ _ _ => 0)
    case atStart => exact ⟨rfl, rfl⟩
    case round =>
      obtain ⟨rfl, hw⟩ := hrel
      obtain rfl := hw.symm
      go_wp2
      go_ret
      exact ⟨HG1.out, by rw [HQ.out]; exact ⟨rfl, j, hgs, by rw [HBE.out]; exact HR.out⟩⟩

end Go.Proofs.YtnkebfmlaliddaaGreatDoor

namespace Go.Proofs.YtnkebfmlaliddaaGreatDoor
open Go.RowKit
set_option linter.unusedVariables false

/-- kinds, as texts. -/
def kindsL : List ByteArray := [⟨#[114, 111, 119]⟩, ⟨#[99, 111, 108]⟩, ⟨#[115, 116, 97, 99, 107]⟩, ⟨#[98, 111, 120]⟩, ⟨#[115, 99, 114, 111, 108, 108]⟩, ⟨#[116, 101, 120, 116]⟩, ⟨#[103, 97, 112]⟩]
set_option maxRecDepth 100000 in
set_option maxHeartbeats 1000000 in
theorem kinds_any (w : World) : Calls Tryz.prog 39 #[] w fun e w' => e = .returned (.slice (some ⟨w.heap.size, 0, none⟩) 7 7) ∧ (∀ j, j < 7 → w'.cell? ⟨w.heap.size, 0 + j, none⟩ = some (.string (kindsL[j]?.getD ByteArray.empty))) ∧ w.heap.size < w'.heap.size ∧ Below w.heap.size w w' := by
  have HC : Hid (∀ j, j < 7 → (w.alloc (.cells #[.string ⟨#[114, 111, 119]⟩, .string ⟨#[99, 111, 108]⟩, .string ⟨#[115, 116, 97, 99, 107]⟩, .string ⟨#[98, 111, 120]⟩, .string ⟨#[115, 99, 114, 111, 108, 108]⟩, .string ⟨#[116, 101, 120, 116]⟩, .string ⟨#[103, 97, 112]⟩] 9)).cell? ⟨w.heap.size, 0 + j, none⟩ = some (.string (kindsL[j]?.getD ByteArray.empty))) := fun j hj => by
    rw [Nat.zero_add, World.cell?_alloc_at _ _ _ _ rfl]
    match j, hj with
    | 0, _ => rfl
    | 1, _ => rfl
    | 2, _ => rfl
    | 3, _ => rfl
    | 4, _ => rfl
    | 5, _ => rfl
    | 6, _ => rfl
  go_enter Tryz.func39, Tryz.ntmps39
  go_wp2
  go_ret
  exact ⟨rfl, HC.out, by simp, (Below.refl _ _).alloc (Nat.le_refl _) _⟩

/-- names, as texts. -/
def namesL : List ByteArray := [⟨#[105, 100]⟩, ⟨#[109, 105, 110]⟩, ⟨#[109, 97, 120]⟩, ⟨#[119, 101, 105, 103, 104, 116]⟩, ⟨#[103, 97, 112]⟩, ⟨#[112, 97, 100]⟩, ⟨#[98, 111, 114, 100, 101, 114]⟩, ⟨#[97, 108, 105, 103, 110]⟩, ⟨#[119, 114, 97, 112]⟩, ⟨#[102, 103]⟩, ⟨#[98, 103]⟩, ⟨#[98, 111, 108, 100]⟩]
set_option maxRecDepth 100000 in
set_option maxHeartbeats 1000000 in
theorem names_any (w : World) : Calls Tryz.prog 61 #[] w fun e w' => e = .returned (.slice (some ⟨w.heap.size, 0, none⟩) 12 12) ∧ (∀ j, j < 12 → w'.cell? ⟨w.heap.size, 0 + j, none⟩ = some (.string (namesL[j]?.getD ByteArray.empty))) ∧ w.heap.size < w'.heap.size ∧ Below w.heap.size w w' := by
  have HC : Hid (∀ j, j < 12 → (w.alloc (.cells #[.string ⟨#[105, 100]⟩, .string ⟨#[109, 105, 110]⟩, .string ⟨#[109, 97, 120]⟩, .string ⟨#[119, 101, 105, 103, 104, 116]⟩, .string ⟨#[103, 97, 112]⟩, .string ⟨#[112, 97, 100]⟩, .string ⟨#[98, 111, 114, 100, 101, 114]⟩, .string ⟨#[97, 108, 105, 103, 110]⟩, .string ⟨#[119, 114, 97, 112]⟩, .string ⟨#[102, 103]⟩, .string ⟨#[98, 103]⟩, .string ⟨#[98, 111, 108, 100]⟩] 9)).cell? ⟨w.heap.size, 0 + j, none⟩ = some (.string (namesL[j]?.getD ByteArray.empty))) := fun j hj => by
    rw [Nat.zero_add, World.cell?_alloc_at _ _ _ _ rfl]
    match j, hj with
    | 0, _ => rfl
    | 1, _ => rfl
    | 2, _ => rfl
    | 3, _ => rfl
    | 4, _ => rfl
    | 5, _ => rfl
    | 6, _ => rfl
    | 7, _ => rfl
    | 8, _ => rfl
    | 9, _ => rfl
    | 10, _ => rfl
    | 11, _ => rfl
  go_enter Tryz.func61, Tryz.ntmps61
  go_wp2
  go_ret
  exact ⟨rfl, HC.out, by simp, (Below.refl _ _).alloc (Nat.le_refl _) _⟩

/-- most, as numbers. -/
def mostL : List Int := [999999, 100000, 100000, 100000, 100, 20, 1, 2, 1, 8, 8, 1]
set_option maxRecDepth 100000 in
set_option maxHeartbeats 1000000 in
theorem most_any (w : World) : Calls Tryz.prog 81 #[] w fun e w' => e = .returned (.slice (some ⟨w.heap.size, 0, none⟩) 12 12) ∧ (∀ j, j < 12 → w'.cell? ⟨w.heap.size, 0 + j, none⟩ = some (.int .i64 (mostL[j]?.getD 0)) ∧ w'.frozen? ⟨w.heap.size, 0 + j, none⟩ = false) ∧ w.heap.size < w'.heap.size ∧ Below w.heap.size w w' := by
  have HC : Hid (∀ j, j < 12 → (w.alloc (.cells #[.int .i64 (999999), .int .i64 (100000), .int .i64 (100000), .int .i64 (100000), .int .i64 (100), .int .i64 (20), .int .i64 (1), .int .i64 (2), .int .i64 (1), .int .i64 (8), .int .i64 (8), .int .i64 (1)] 3)).cell? ⟨w.heap.size, 0 + j, none⟩ = some (.int .i64 (mostL[j]?.getD 0)) ∧ (w.alloc (.cells #[.int .i64 (999999), .int .i64 (100000), .int .i64 (100000), .int .i64 (100000), .int .i64 (100), .int .i64 (20), .int .i64 (1), .int .i64 (2), .int .i64 (1), .int .i64 (8), .int .i64 (8), .int .i64 (1)] 3)).frozen? ⟨w.heap.size, 0 + j, none⟩ = false) := fun j hj => by
    rw [Nat.zero_add, World.cell?_alloc_at _ _ _ _ rfl, World.frozen?_alloc_at _ _ _ _ rfl]
    match j, hj with
    | 0, _ => exact ⟨rfl, rfl⟩
    | 1, _ => exact ⟨rfl, rfl⟩
    | 2, _ => exact ⟨rfl, rfl⟩
    | 3, _ => exact ⟨rfl, rfl⟩
    | 4, _ => exact ⟨rfl, rfl⟩
    | 5, _ => exact ⟨rfl, rfl⟩
    | 6, _ => exact ⟨rfl, rfl⟩
    | 7, _ => exact ⟨rfl, rfl⟩
    | 8, _ => exact ⟨rfl, rfl⟩
    | 9, _ => exact ⟨rfl, rfl⟩
    | 10, _ => exact ⟨rfl, rfl⟩
    | 11, _ => exact ⟨rfl, rfl⟩
  go_enter Tryz.func81, Tryz.ntmps81
  go_wp2
  go_ret
  exact ⟨rfl, HC.out, by simp, (Below.refl _ _).alloc (Nat.le_refl _) _⟩

/-- without, as numbers. -/
def withoutL : List Int := [0, 0, -1, 1, 0, 0, 1, 0, 1, 0, 0, 0]
set_option maxRecDepth 100000 in
set_option maxHeartbeats 1000000 in
theorem without_any (w : World) : Calls Tryz.prog 59 #[] w fun e w' => e = .returned (.slice (some ⟨w.heap.size, 0, none⟩) 12 12) ∧ (∀ j, j < 12 → w'.cell? ⟨w.heap.size, 0 + j, none⟩ = some (.int .i64 (withoutL[j]?.getD 0)) ∧ w'.frozen? ⟨w.heap.size, 0 + j, none⟩ = false) ∧ w.heap.size < w'.heap.size ∧ Below w.heap.size w w' := by
  have HC : Hid (∀ j, j < 12 → (w.alloc (.cells #[.int .i64 (0), .int .i64 (0), .int .i64 (-1), .int .i64 (1), .int .i64 (0), .int .i64 (0), .int .i64 (1), .int .i64 (0), .int .i64 (1), .int .i64 (0), .int .i64 (0), .int .i64 (0)] 3)).cell? ⟨w.heap.size, 0 + j, none⟩ = some (.int .i64 (withoutL[j]?.getD 0)) ∧ (w.alloc (.cells #[.int .i64 (0), .int .i64 (0), .int .i64 (-1), .int .i64 (1), .int .i64 (0), .int .i64 (0), .int .i64 (1), .int .i64 (0), .int .i64 (1), .int .i64 (0), .int .i64 (0), .int .i64 (0)] 3)).frozen? ⟨w.heap.size, 0 + j, none⟩ = false) := fun j hj => by
    rw [Nat.zero_add, World.cell?_alloc_at _ _ _ _ rfl, World.frozen?_alloc_at _ _ _ _ rfl]
    match j, hj with
    | 0, _ => exact ⟨rfl, rfl⟩
    | 1, _ => exact ⟨rfl, rfl⟩
    | 2, _ => exact ⟨rfl, rfl⟩
    | 3, _ => exact ⟨rfl, rfl⟩
    | 4, _ => exact ⟨rfl, rfl⟩
    | 5, _ => exact ⟨rfl, rfl⟩
    | 6, _ => exact ⟨rfl, rfl⟩
    | 7, _ => exact ⟨rfl, rfl⟩
    | 8, _ => exact ⟨rfl, rfl⟩
    | 9, _ => exact ⟨rfl, rfl⟩
    | 10, _ => exact ⟨rfl, rfl⟩
    | 11, _ => exact ⟨rfl, rfl⟩
  go_enter Tryz.func59, Tryz.ntmps59
  go_wp2
  go_ret
  exact ⟨rfl, HC.out, by simp, (Below.refl _ _).alloc (Nat.le_refl _) _⟩

/-- Does the kind have the attribute? -/
def ownsB (kind attr : Nat) : Bool := if attr = 4 then (kind == 0 || kind == 1) else if attr = 5 ∨ attr = 6 then kind == 3 else if attr = 7 ∨ attr = 8 then kind == 5 else true

set_option maxRecDepth 100000 in
set_option maxHeartbeats 4000000 in
theorem owns_any (kind attr : Nat) (hk : kind < 7) (ha : attr < 12) (w : World) : Calls Tryz.prog 80 #[.int .i64 (kind : Int), .int .i64 (attr : Int)] w fun e w' => e = .returned (.bool (ownsB kind attr)) ∧ w' = w := by
  obtain ⟨r, hr⟩ : ∃ r, ownsB kind attr = r := ⟨_, rfl⟩
  rw [hr]
  have HK : kind = 0 ∨ kind = 1 ∨ kind = 2 ∨ kind = 3 ∨ kind = 4 ∨ kind = 5 ∨ kind = 6 := by omega
  have HA : attr = 0 ∨ attr = 1 ∨ attr = 2 ∨ attr = 3 ∨ attr = 4 ∨ attr = 5 ∨ attr = 6 ∨ attr = 7 ∨ attr = 8 ∨ attr = 9 ∨ attr = 10 ∨ attr = 11 := by omega
  rcases HA with rfl | rfl | rfl | rfl | rfl | rfl | rfl | rfl | rfl | rfl | rfl | rfl <;> rcases HK with rfl | rfl | rfl | rfl | rfl | rfl | rfl <;>
    (simp [ownsB] at hr; subst hr; go_enter Tryz.func80, Tryz.ntmps80; go_wp2; go_ret; exact ⟨rfl, rfl⟩)

end Go.Proofs.YtnkebfmlaliddaaGreatDoor
