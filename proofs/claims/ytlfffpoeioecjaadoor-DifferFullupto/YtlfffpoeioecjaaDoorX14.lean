/-
  The reference's Put, on the screen.
-/
import Derived.Test.YtlfffpoeioecjaaDoorX11
import Derived.Deep.CutBlock
namespace Go.Proofs.YtlfffpoeioecjaaDoor
open Go.RowKit Go.Sort
set_option linter.unusedVariables false
theorem not_next {P : Int → Prop} {x k : Int} (h : ∀ p, x ≤ p → p < k → ¬ P p) (hk : ¬ P k) : ∀ p, x ≤ p → p < k + 1 → ¬ P p := fun p h1 h2 => by
  by_cases hp : p < k
  · exact h p h1 hp
  · obtain rfl : p = k := by omega
    exact hk
theorem not_prev {P : Int → Prop} {z q : Int} (h : ∀ p, q < p → p < z → ¬ P p) (hk : ¬ P q) : ∀ p, q - 1 < p → p < z → ¬ P p := fun p h1 h2 => by
  by_cases hp : q < p
  · exact h p hp h2
  · obtain rfl : p = q := by omega
    exact hk
/-- Where both loops end. -/
theorem ends {W H : Nat} {x y wd cx cy ca cb l t u v k q : Int} (h : Seen W H x y wd 1 cx cy ca cb l t u v) (hw : wd = 1 ∨ wd = 2) (hx : -1 ≤ x ∧ x < 400)
    (k1 : x ≤ k) (k2 : k ≤ x + wd) (k3 : ∀ p, x ≤ p → p < k → ¬ (l ≤ p ∧ p < l + u)) (k4 : k < x + wd → l ≤ k ∧ k < l + u)
    (q1 : k - 1 ≤ q) (q2 : q < x + wd) (q3 : ∀ p, q < p → p < x + wd → ¬ (l ≤ p ∧ p < l + u)) (q4 : k ≤ q → l ≤ q ∧ q < l + u) :
    (0 < u ∧ k = l ∧ q = l + u - 1 ∧ x ≤ l ∧ l + u ≤ x + wd) ∨ (u = 0 ∧ k = x + wd ∧ q = k - 1) := by
  have u0 := h.u0
  by_cases hu : 0 < u
  · obtain ⟨a1, a2⟩ := h.within hw hx hu
    left
    have b1 : k ≤ l := by
      by_cases hk : k ≤ l
      · exact hk
      · exact absurd ⟨Int.le_refl _, by omega⟩ (k3 l a1 (by omega))
    have b2 := k4 (by omega)
    have b3 : l + u - 1 ≤ q := by
      by_cases hk : l + u - 1 ≤ q
      · exact hk
      · exact absurd ⟨by omega, by omega⟩ (q3 (l + u - 1) (by omega) (by omega))
    have b4 := q4 (by omega)
    omega
  · right
    have b1 : k = x + wd := by
      by_cases hk : k < x + wd
      · have := k4 hk; omega
      · omega
    omega
theorem stC_at {c : Nat → Nat → Ce} {y a q j : Nat} (h1 : a ≤ j) (h2 : j ≤ q) : stC c y a q j y j = c y j := by
  unfold stC
  by_cases h : j ≤ a
  · rw [if_pos h]
  · rw [if_neg h, if_pos h2, cutL_at h1]
theorem upd_part {c : Nat → Nat → Ce} {y a q i j : Nat} {X : Nat → Ce} {e : Ce} (h : a ≤ j ∧ j < a + i) : upd (part c y a q i X) y j e = part c y a q i (fun k => if k = j then e else X k) := by
  funext y' x'
  unfold upd part
  by_cases h1 : y' = y ∧ x' = j
  · rw [if_pos h1, if_pos (by omega)]; exact (if_pos h1.2).symm
  · rw [if_neg h1]
    by_cases h2 : y' = y ∧ a ≤ x' ∧ x' < a + i
    · rw [if_pos h2, if_pos h2]; exact (if_neg (fun e => h1 ⟨h2.1, e⟩)).symm
    · rw [if_neg h2, if_neg h2]
theorem part_same {c : Nat → Nat → Ce} {y a q i : Nat} {X Y : Nat → Ce} (h : ∀ k, a ≤ k → k < a + i → X k = Y k) : part c y a q i X = part c y a q i Y := by
  funext y' x'
  unfold part
  by_cases h2 : y' = y ∧ a ≤ x' ∧ x' < a + i
  · rw [if_pos h2, if_pos h2]; exact h x' h2.2.1 h2.2.2
  · rw [if_neg h2, if_neg h2]
theorem part_in {c : Nat → Nat → Ce} {y a q i j : Nat} {X : Nat → Ce} (h : a ≤ j ∧ j < a + i) : part c y a q i X y j = X j := if_pos ⟨rfl, h⟩
section
variable {K M cap W H : Nat} {c : Nat → Nat → Ce}
set_option maxRecDepth 100000 in
set_option maxHeartbeats 8000000 in
theorem rput_in (w : World) (h : CS 48 57 w K M cap W H c) (hW : 1 ≤ W ∧ W ≤ 400) (hH : 1 ≤ H ∧ H ≤ 400) (hp : PAll W H c) (x : Int) (y : Nat) (txt : ByteArray) (wd f g b cx cy ca cb : Int) (hw : wd = 1 ∨ wd = 2) (hy : y < H) (hx : -1 ≤ x ∧ x < W) (l t u v : Int) (SF : Seen W H x y wd 1 cx cy ca cb l t u v) :
    Calls Tryd.prog 73 #[.pointer (some ⟨K, 0, none⟩), .int .i64 x, .int .i64 y, .agg #[.string txt, .int .i64 wd], sv f g b, rv cx cy ca cb] w fun e w' => e = .returned (.tuple #[]) ∧ Cv 57 w' M W H (fill c l.toNat (l + u).toNat t.toNat (t + v).toNat (putX l u wd txt f g b)) ∧ Ch M w w' := by
  have SND : Hid (∀ w, Calls Tryd.prog 30 #[sv f g b] w fun e w' => e = .returned (sv (kn f) (kn g) (bo b)) ∧ Gr w w') := sound_any f g b
  have HO : Hid (∀ p w, Calls Tryd.prog 90 #[rv cx cy ca cb, .int .i64 p, .int .i64 y] w fun e w' => e = .returned (.bool (holdB cx cy ca cb p y)) ∧ Gr w w') := fun p w => rHolds_any _ _ _ _ _ _ w
  have HV : Hid (∀ p : Int, x ≤ p → p < x + wd → (scrB W H p y && holdB cx cy ca cb p y) = decide (l ≤ p ∧ p < l + u)) := fun p h1 h2 => vis_b SF hw (by omega) (by omega) p h1 h2
  have HC : Hid (CS 48 57 w K M cap W H c) := h
  have HF : Hid (Seen W H x y wd 1 cx cy ca cb l t u v) := SF
  have HP : Hid (PAll W H c) := hp
  obtain ⟨S, hS⟩ : ∃ z, w.heap.size = z := ⟨_, rfl⟩
  have HKM : Hid (K < S ∧ M < S ∧ w.heap.size ≤ S ∧ K ≠ M) := ⟨by rw [← hS]; exact h.klt, by rw [← hS]; exact h.cv.lt, by omega, h.ne⟩
  have B00 := PB.new h txt wd f g b cx cy ca cb hS
  obtain ⟨W0, hW0⟩ : ∃ z, ((w.alloc (.cells #[.string txt, .int .i64 wd] 91)).alloc (.cells #[.int .i64 f, .int .i64 g, .int .i64 b] 50)).alloc (.cells #[.int .i64 cx, .int .i64 cy, .int .i64 ca, .int .i64 cb] 136) = z := ⟨_, rfl⟩
  rw [hW0] at B00
  have B0 : Hid (PB w W0 K M cap W H c S txt wd f g b cx cy ca cb) := B00
  have k0 := B0.out.cs.k0
  have k1 := B0.out.cs.k1
  have g1 := B0.out.cl.c1
  have s0 := B0.out.st.c0
  have s1 := B0.out.st.c1
  have s2 := B0.out.st.c2
  clear h hp SF B00
  obtain ⟨kf, hkf⟩ : ∃ z, kn f = z := ⟨_, rfl⟩
  obtain ⟨kg, hkg⟩ : ∃ z, kn g = z := ⟨_, rfl⟩
  obtain ⟨kb, hkb⟩ : ∃ z, bo b = z := ⟨_, rfl⟩
  have HKK : Hid (kn f = kf ∧ kn g = kg ∧ bo b = kb) := ⟨hkf, hkg, hkb⟩
  rw [hkf, hkg, hkb] at SND
  clear hkf hkg hkb
  unfold sv at SND ⊢
  unfold rv at HO ⊢
  have wb : 1 ≤ wd ∧ wd ≤ 2 := by omega
  go_enter Tryd.func73, Tryd.ntmps73
  go_upto_region 1 with fail
  clear hW0
  go_cut [47] from 16 to 46 (fun s wx => s = .bool false ∧ Hid (PB w wx K M cap W H c S txt wd f g b cx cy ca cb))
  case first =>
    rcases hw with rfl | rfl
    all_goals
      go_wp2_with fail
      go_meet
      exact ⟨congrArg Value.bool (by simp only [Bool.or_eq_false_iff, decide_eq_false_iff_not]; omega), B0.out⟩
  case rest =>
    obtain ⟨rfl, B1⟩ := hcut
    clear k0 k1 g1 s0 s1 s2
    have s0 := B1.out.st.c0
    have s1 := B1.out.st.c1
    have s2 := B1.out.st.c2
    go_wp2_with fail
    refine Calls.mono (SND.out _) ?_
    rintro e w1 ⟨rfl, gg⟩
    have B2 : Hid (PB w w1 K M cap W H c S txt wd f g b cx cy ca cb) := B1.out.more gg
    clear gg s0 s1 s2
    have g1 := B2.out.cl.c1
    have s0 := B2.out.st.c0
    have s1 := B2.out.st.c1
    have s2 := B2.out.st.c2
    have sf := B2.out.st.fz
    obtain ⟨w2, hw2⟩ : ∃ z, (((w1.setCell ⟨S + 1, 0, none⟩ (.int .i64 kf)).setCell ⟨S + 1, 1, none⟩ (.int .i64 kg)).setCell ⟨S + 1, 2, none⟩ (.int .i64 kb)) = z := ⟨_, rfl⟩
    have B3' := B2.out.style HKM.out.1 HKM.out.2.1 HKM.out.2.2.1 kf kg kb
    rw [hw2] at B3'
    have B3 : Hid (PB w w2 K M cap W H c S txt wd kf kg kb cx cy ca cb) := B3'
    have g1' := B3'.cl.c1
    clear B3'
    go_upto_block 0 with fail
    clear g1 s0 s1 s2 sf hw2 g1'
    go_cut [12] from 56 to 73 (fun fv wx => ∃ k : Int, fv = .int .i64 k ∧ Hid ((x ≤ k ∧ k ≤ x + wd ∧ (∀ p, x ≤ p → p < k → ¬ (l ≤ p ∧ p < l + u)) ∧ (k < x + wd → l ≤ k ∧ k < l + u)) ∧ PB w wx K M cap W H c S txt wd kf kg kb cx cy ca cb))
    case first =>
      go_wp2_with fail
      go_loopw [12] (fun fv wi => ∃ k : Int, x ≤ k ∧ k ≤ x + wd ∧ fv = .int .i64 k ∧ Hid ((∀ p, x ≤ p → p < k → ¬ (l ≤ p ∧ p < l + u)) ∧ PB w wi K M cap W H c S txt wd kf kg kb cx cy ca cb)) (fun fv _ => (x + wd - intOf fv).toNat)
      case atStart => exact ⟨x, by omega, by omega, rfl, fun p h1 h2 => by omega, B3.out⟩
      case round =>
        obtain ⟨k, hk1, hk2, rfl, HR⟩ := hrel
        by_cases hk : k ≤ x + wd - 1
        · have SC : Hid (Calls Tryd.prog 89 #[.pointer (some ⟨K, 0, none⟩), .int .i64 k, .int .i64 y] wr fun e w' => e = .returned (.bool (scrB W H k y)) ∧ w' = wr) := screen_any wr HR.out.2.cs k y
          have HOk : Hid (∀ w, Calls Tryd.prog 90 #[.agg #[.int .i64 cx, .int .i64 cy, .int .i64 ca, .int .i64 cb], .int .i64 k, .int .i64 y] w fun e w' => e = .returned (.bool (holdB cx cy ca cb k y)) ∧ Gr w w') := HO.out k
          have HVk : Hid ((scrB W H k y && holdB cx cy ca cb k y) = decide (l ≤ k ∧ k < l + u)) := HV.out k hk1 (by omega)
          obtain ⟨sb, hsb⟩ : ∃ z, scrB W H k y = z := ⟨_, rfl⟩
          obtain ⟨hb, hhb⟩ : ∃ z, holdB cx cy ca cb k y = z := ⟨_, rfl⟩
          rw [hsb] at SC HVk
          rw [hhb] at HOk HVk
          clear hsb hhb
          have r0 := HR.out.2.rc.c0
          have r1 := HR.out.2.rc.c1
          have r2 := HR.out.2.rc.c2
          have r3 := HR.out.2.rc.c3
          cases sb with
          | false =>
            have HNV : Hid (¬ (l ≤ k ∧ k < l + u)) := of_decide_eq_false HVk.out.symm
            go_wp2_with (go_at_call 89; refine Calls.mono SC.out ?_; rintro e1 w3 ⟨rfl, hw3⟩; obtain rfl := hw3.symm)
            go_roundw
            case rel => exact ⟨k + 1, by omega, by omega, by go_num, not_next (P := fun p => l ≤ p ∧ p < l + u) HR.out.1 HNV.out, HR.out.2⟩
            case measure => simp [intOf]; omega
          | true =>
            cases hb with
            | false =>
              have HNV : Hid (¬ (l ≤ k ∧ k < l + u)) := of_decide_eq_false HVk.out.symm
              go_wp2_with (first | (go_at_call 89; refine Calls.mono SC.out ?_; rintro e1 w3 ⟨rfl, hw3⟩; obtain rfl := hw3.symm) | (go_at_call 90; refine Calls.mono (HOk.out _) ?_; rintro e1 w4 ⟨rfl, g4⟩; have B4 : Hid (PB w w4 K M cap W H c S txt wd kf kg kb cx cy ca cb) := HR.out.2.more g4; clear g4))
              go_roundw
              case rel => exact ⟨k + 1, by omega, by omega, by go_num, not_next (P := fun p => l ≤ p ∧ p < l + u) HR.out.1 HNV.out, B4.out⟩
              case measure => simp [intOf]; omega
            | true =>
              have HNV : Hid (l ≤ k ∧ k < l + u) := (of_decide_eq_true HVk.out.symm : l ≤ k ∧ k < l + u)
              go_wp2_with (first | (go_at_call 89; refine Calls.mono SC.out ?_; rintro e1 w3 ⟨rfl, hw3⟩; obtain rfl := hw3.symm) | (go_at_call 90; refine Calls.mono (HOk.out _) ?_; rintro e1 w4 ⟨rfl, g4⟩; have B4 : Hid (PB w w4 K M cap W H c S txt wd kf kg kb cx cy ca cb) := HR.out.2.more g4; clear g4))
              go_meet
              exact ⟨k, rfl, ⟨hk1, hk2, HR.out.1, fun _ => HNV.out⟩, B4.out⟩
        · have hkx : ¬ k ≤ x + wd - 1 := hk
          go_wp2_with fail
          go_meet
          exact ⟨k, rfl, ⟨hk1, hk2, HR.out.1, fun q => by omega⟩, HR.out.2⟩
    case rest =>
      obtain ⟨k, rfl, HR⟩ := hcut
      have HRK : Hid ((x ≤ k ∧ k ≤ x + wd ∧ (∀ p, x ≤ p → p < k → ¬ (l ≤ p ∧ p < l + u)) ∧ (k < x + wd → l ≤ k ∧ k < l + u))) := HR.out.1
      have kb1 : x ≤ k ∧ k ≤ x + wd := ⟨HR.out.1.1, HR.out.1.2.1⟩
      go_upto_block 2 with fail
      go_cut [13] from 74 to 91 (fun tv wx => ∃ q : Int, tv = .int .i64 q ∧ Hid ((k - 1 ≤ q ∧ q < x + wd ∧ (∀ p, q < p → p < x + wd → ¬ (l ≤ p ∧ p < l + u)) ∧ (k ≤ q → l ≤ q ∧ q < l + u)) ∧ PB w wx K M cap W H c S txt wd kf kg kb cx cy ca cb))
      case first =>
        go_wp2_with fail
        go_loopw [13] (fun tv wi => ∃ q : Int, k - 1 ≤ q ∧ q < x + wd ∧ tv = .int .i64 q ∧ Hid ((∀ p, q < p → p < x + wd → ¬ (l ≤ p ∧ p < l + u)) ∧ PB w wi K M cap W H c S txt wd kf kg kb cx cy ca cb)) (fun tv _ => (intOf tv - x + 2).toNat)
        case atStart => exact ⟨x + wd - 1, by omega, by omega, by first | rfl | go_num, fun p h1 h2 => by omega, HR.out.2⟩
        case round =>
          obtain ⟨q, hk1, hk2, rfl, HR⟩ := hrel
          by_cases hk : k ≤ q
          · have SC : Hid (Calls Tryd.prog 89 #[.pointer (some ⟨K, 0, none⟩), .int .i64 q, .int .i64 y] wr fun e w' => e = .returned (.bool (scrB W H q y)) ∧ w' = wr) := screen_any wr HR.out.2.cs q y
            have HOk : Hid (∀ w, Calls Tryd.prog 90 #[.agg #[.int .i64 cx, .int .i64 cy, .int .i64 ca, .int .i64 cb], .int .i64 q, .int .i64 y] w fun e w' => e = .returned (.bool (holdB cx cy ca cb q y)) ∧ Gr w w') := HO.out q
            have HVk : Hid ((scrB W H q y && holdB cx cy ca cb q y) = decide (l ≤ q ∧ q < l + u)) := HV.out q (by omega) (by omega)
            obtain ⟨sb, hsb⟩ : ∃ z, scrB W H q y = z := ⟨_, rfl⟩
            obtain ⟨hb, hhb⟩ : ∃ z, holdB cx cy ca cb q y = z := ⟨_, rfl⟩
            rw [hsb] at SC HVk
            rw [hhb] at HOk HVk
            clear hsb hhb
            have r0 := HR.out.2.rc.c0
            have r1 := HR.out.2.rc.c1
            have r2 := HR.out.2.rc.c2
            have r3 := HR.out.2.rc.c3
            cases sb with
            | false =>
              have HNV : Hid (¬ (l ≤ q ∧ q < l + u)) := of_decide_eq_false HVk.out.symm
              go_wp2_with (go_at_call 89; refine Calls.mono SC.out ?_; rintro e1 w3 ⟨rfl, hw3⟩; obtain rfl := hw3.symm)
              go_roundw
              case rel => exact ⟨q - 1, by omega, by omega, by go_num, not_prev (P := fun p => l ≤ p ∧ p < l + u) HR.out.1 HNV.out, HR.out.2⟩
              case measure => simp [intOf]; omega
            | true =>
              cases hb with
              | false =>
                have HNV : Hid (¬ (l ≤ q ∧ q < l + u)) := of_decide_eq_false HVk.out.symm
                go_wp2_with (first | (go_at_call 89; refine Calls.mono SC.out ?_; rintro e1 w3 ⟨rfl, hw3⟩; obtain rfl := hw3.symm) | (go_at_call 90; refine Calls.mono (HOk.out _) ?_; rintro e1 w4 ⟨rfl, g4⟩; have B4 : Hid (PB w w4 K M cap W H c S txt wd kf kg kb cx cy ca cb) := HR.out.2.more g4; clear g4))
                go_roundw
                case rel => exact ⟨q - 1, by omega, by omega, by go_num, not_prev (P := fun p => l ≤ p ∧ p < l + u) HR.out.1 HNV.out, B4.out⟩
                case measure => simp [intOf]; omega
              | true =>
                have HNV : Hid (l ≤ q ∧ q < l + u) := (of_decide_eq_true HVk.out.symm : l ≤ q ∧ q < l + u)
                go_wp2_with (first | (go_at_call 89; refine Calls.mono SC.out ?_; rintro e1 w3 ⟨rfl, hw3⟩; obtain rfl := hw3.symm) | (go_at_call 90; refine Calls.mono (HOk.out _) ?_; rintro e1 w4 ⟨rfl, g4⟩; have B4 : Hid (PB w w4 K M cap W H c S txt wd kf kg kb cx cy ca cb) := HR.out.2.more g4; clear g4))
                go_meet
                exact ⟨q, rfl, ⟨hk1, hk2, HR.out.1, fun _ => HNV.out⟩, B4.out⟩
          · have hkx : ¬ k ≤ q := hk
            go_wp2_with fail
            go_meet
            exact ⟨q, rfl, ⟨hk1, hk2, HR.out.1, fun q => by omega⟩, HR.out.2⟩
      case rest =>
        obtain ⟨q, rfl, HQ⟩ := hcut
        have EN := ends HF.out hw (by omega) HRK.out.1 HRK.out.2.1 HRK.out.2.2.1 HRK.out.2.2.2 HQ.out.1.1 HQ.out.1.2.1 HQ.out.1.2.2.1 HQ.out.1.2.2.2
        have BQ : Hid (PB w wc K M cap W H c S txt wd kf kg kb cx cy ca cb) := HQ.out.2
        clear HR HRK HQ HV HO SND kb1
        rcases EN with ⟨hu, hkl, hql, hxl, hlu⟩ | ⟨rfl, rfl, rfl⟩
        · have SL := HF.out.lu
          have SL0 := HF.out.l0
          have SR := HF.out.row (by omega) hu
          obtain ⟨a, rfl⟩ : ∃ a : Nat, k = a := ⟨k.toNat, by omega⟩
          obtain ⟨z, rfl⟩ : ∃ z : Nat, q = z := ⟨q.toNat, by omega⟩
          obtain ⟨p, hp⟩ : ∃ p, y * W = p := ⟨_, rfl⟩
          obtain ⟨n, hn⟩ : ∃ n, W * H = n := ⟨_, rfl⟩
          have e1 : (y : Int) * (W : Int) = (p : Int) := by rw [← hp]; simp
          have pn : p + W ≤ n := by
            rw [← hp, ← hn, Nat.mul_comm W H, ← Nat.succ_mul]; exact Nat.mul_le_mul_right _ (by omega)
          have nb : n ≤ 160000 := by rw [← hn]; exact Nat.mul_le_mul hW.2 hH.2
          have az : a ≤ z ∧ z ≤ a + 1 ∧ z < W := by omega
          have HPN : Hid (y * W = p ∧ W * H = n) := ⟨hp, hn⟩
          have HLU : Hid ((a : Int) = l ∧ (z : Int) = l + u - 1 ∧ 0 < u ∧ x ≤ l ∧ l + u ≤ x + wd ∧ t = y ∧ v = 1) := ⟨hkl, hql, hu, hxl, hlu, SR.1, SR.2⟩
          have HPR : Hid (PRow W (c y)) := HP.out y hy
          clear hp hn hu hkl hql hxl hlu SL SL0 SR
          go_upto_block 4 with fail
          go_cut [14] from 93 to 123 (fun _ wx => Hid (PB w wx K M cap W H (cut c y a z) S txt wd kf kg kb cx cy ca cb))
          case first =>
            go_wp2_with fail
            go_loopw [14] (fun iv wi => ∃ j : Nat, a ≤ j ∧ j ≤ z + 1 ∧ iv = .int .i64 j ∧ Hid (PB w wi K M cap W H (stC c y a z j) S txt wd kf kg kb cx cy ca cb)) (fun iv _ => z + 1 - (intOf iv).toNat)
            case atStart => exact ⟨a, Nat.le_refl _, by omega, rfl, by have e : stC c y a z a = c := if_pos (Nat.le_refl _); rw [e]; exact BQ.out⟩
            case round =>
              obtain ⟨j, hj1, hj2, rfl, HR⟩ := hrel
              by_cases hj : j ≤ z
              · have hj' : (j : Int) ≤ (z : Int) := by omega
                have k0 := HR.out.cs.k0
                have CL : Hid (∀ wq, Gr wr wq → Calls Tryd.prog 91 #[.pointer (some ⟨K, 0, none⟩), .int .i64 ((p : Int) + j), .int .i64 ((p : Int) + a), .int .i64 ((p : Int) + z)] wq fun e w' => e = .returned (.tuple #[]) ∧ Cv 57 w' M W H (stC c y a z (j + 1)) ∧ Ch M wq w') := by
                  intro wq gq
                  have := clear_any wq (HR.out.cs.gr gq) hW.2 hH.2 y j a z hy (by omega) hj1 hj (by rw [stC_at hj1 hj]; exact fun e => (HPR.out.head j (by omega) e).1) (by rw [stC_at hj1 hj]; exact fun e => by obtain ⟨k, hk, _⟩ := HPR.out.tail j (by omega) e; omega) (p + j) (p + a) (p + z) (by rw [HPN.out.1]) (by rw [HPN.out.1]) (by rw [HPN.out.1])
                  rw [clw_next HPR.out az.1 az.2.1 az.2.2 hj1 hj] at this
                  exact this
                have f1 : IntKind.i64.wrap ((p : Int) + j) = (p : Int) + j := IntWalk.i64_in _ (by omega)
                have f2 : IntKind.i64.wrap ((p : Int) + a) = (p : Int) + a := IntWalk.i64_in _ (by omega)
                have f3 : IntKind.i64.wrap ((p : Int) + z) = (p : Int) + z := IntWalk.i64_in _ (by omega)
                have f4 : IntKind.i64.wrap (p : Int) = (p : Int) := IntWalk.i64_in _ (by omega)
                go_wp2_with fail
                go_region_with (go_at_call 91; refine Calls.mono (CL.out _ (by first | exact Gr.refl _ | exact (Gr.refl wr).drew)) ?_; rintro e1 w3 ⟨rfl, V3, C3⟩; have B4 : Hid (PB w w3 K M cap W H (stC c y a z (j + 1)) S txt wd kf kg kb cx cy ca cb) := (HR.out.more (by first | exact Gr.refl _ | exact (Gr.refl wr).drew)).cells HKM.out.2.1 C3 V3; clear V3 C3)
                all_goals
                  go_wp2_with fail
                  go_roundw
                  case rel => exact ⟨j + 1, by omega, by omega, by go_num, B4.out⟩
                  case measure => simp [intOf]; omega
              · have hj' : ¬ (j : Int) ≤ (z : Int) := by omega
                have hjz : j = z + 1 := by omega
                go_wp2_with fail
                go_meet
                subst hjz
                have e : stC c y a z (z + 1) = cut c y a z := by unfold stC; rw [if_neg (by omega), if_neg (by omega)]
                have := HR.out
                rw [e] at this
                exact this
          case rest =>
            have B5 : Hid (PB w wc K M cap W H (cut c y a z) S txt wd kf kg kb cx cy ca cb) := hcut
            clear hcut BQ
            go_upto_block 6 with fail
            go_cut [15] from 125 to 144 (fun _ wx => Hid (PB w wx K M cap W H (part c y a z (z + 1 - a) (fun _ => bk kf kg kb)) S txt wd kf kg kb cx cy ca cb))
            case first =>
              go_wp2_with fail
              go_loopw [15] (fun iv wi => ∃ j : Nat, a ≤ j ∧ j ≤ z + 1 ∧ iv = .int .i64 j ∧ Hid (PB w wi K M cap W H (part c y a z (j - a) (fun _ => bk kf kg kb)) S txt wd kf kg kb cx cy ca cb)) (fun iv _ => z + 1 - (intOf iv).toNat)
              case atStart => exact ⟨a, Nat.le_refl _, by omega, rfl, by rw [Nat.sub_self, part_zero]; exact B5.out⟩
              case round =>
                obtain ⟨j, hj1, hj2, rfl, HR⟩ := hrel
                by_cases hj : j ≤ z
                · have hj' : (j : Int) ≤ (z : Int) := by omega
                  have k0 := HR.out.cs.k0
                  have k2 := HR.out.cs.k2
                  have kc := HR.out.cs.hc
                  rw [HPN.out.2] at k2 kc
                  have s0 := HR.out.st.c0
                  have s1 := HR.out.st.c1
                  have s2 := HR.out.st.c2
                  have jW : j < W := by omega
                  have HEO : Hid (y * W * 5 + j * 5 = (p + j) * 5) := by show _ = _; rw [HPN.out.1]; omega
                  have d0 := HR.out.cs.cv.c0 hy jW
                  have d1 := HR.out.cs.cv.c1 hy jW
                  have d2 := HR.out.cs.cv.c2 hy jW
                  have d3 := HR.out.cs.cv.c3 hy jW
                  have d4 := HR.out.cs.cv.c4 hy jW
                  rw [HEO.out] at d0 d1 d2 d3 d4
                  have fz := HR.out.cs.cv.fz
                  have pj : (p : Int) + j < (n : Int) := by omega
                  have f1 : IntKind.i64.wrap ((p : Int) + j) = (p : Int) + j := IntWalk.i64_in _ (by omega)
                  have f4 : IntKind.i64.wrap (p : Int) = (p : Int) := IntWalk.i64_in _ (by omega)
                  go_wp2_with fail
                  go_region
                  all_goals
                    go_wp2_with fail
                    go_roundw
                    case rel =>
                      have VS := HR.out.cs.cv.set hy jW (bk kf kg kb)
                      rw [HEO.out] at VS
                      have EO : upd (part c y a z (j - a) (fun _ => bk kf kg kb)) y j (bk kf kg kb) = part c y a z (j + 1 - a) (fun _ => bk kf kg kb) := by
                        have := part_next c y a z (j - a) (fun _ => bk kf kg kb)
                        rw [show a + (j - a) = j by omega, show j - a + 1 = j + 1 - a by omega] at this
                        exact this
                      rw [EO] at VS
                      exact ⟨j + 1, by omega, by omega, by go_num, (HR.out.cells HKM.out.2.1 ((Ch.refl M wr).set5 _ _ _ _ _) VS).more ((Gr.refl _).drew)⟩
                    case measure => simp [intOf]; omega
                · have hj' : ¬ (j : Int) ≤ (z : Int) := by omega
                  have hjz : j = z + 1 := by omega
                  go_wp2_with fail
                  go_meet
                  subst hjz
                  exact HR.out
            case rest =>
              have B6 : Hid (PB w wc K M cap W H (part c y a z (z + 1 - a) (fun _ => bk kf kg kb)) S txt wd kf kg kb cx cy ca cb) := hcut
              clear hcut B5
              have HFI : Hid (∀ X, fill c l.toNat (l + u).toNat t.toNat (t + v).toNat X = part c y a z (z + 1 - a) X) := fun X => by
                obtain ⟨q1, q2, q3, q4, q5, q6, q7⟩ := HLU.out
                rw [part_done c y a z X az.1, show l.toNat = a by omega, show (l + u).toNat = z + 1 by omega, show t.toNat = y by omega, show (t + v).toNat = y + 1 by omega]
              have g1 := B6.out.cl.c1
              by_cases huw : u < wd
              · have HX : Hid (putX l u wd txt f g b = fun _ => bk kf kg kb) := by show _ = _; rw [← HKK.out.1, ← HKK.out.2.1, ← HKK.out.2.2]; exact if_pos huw
                have cc : ((a : Int) == x) = false ∨ (((a : Int) == x) = true ∧ ((z : Int) == x + wd - 1) = false) := by
                  obtain ⟨q1, q2, q3, q4, q5, q6, q7⟩ := HLU.out
                  simp only [beq_eq_false_iff_ne, beq_iff_eq]; omega
                rcases cc with t1 | ⟨t1, t2⟩
                all_goals
                  go_wp2_with fail
                  go_end0
                  exact ⟨rfl, by rw [HFI.out, HX.out]; exact B6.out.cs.cv, B6.out.gr⟩
              · have HX : Hid (putX l u wd txt f g b = gly a wd txt kf kg kb) := by show _ = _; rw [← HKK.out.1, ← HKK.out.2.1, ← HKK.out.2.2, show a = l.toNat by have := HLU.out.1; omega]; exact if_neg huw
                have hax : (a : Int) = x ∧ (z : Int) = x + wd - 1 := by
                  obtain ⟨q1, q2, q3, q4, q5, q6, q7⟩ := HLU.out
                  omega
                obtain ⟨rfl, hzz⟩ := hax
                have t2 : ((z : Int) == (a : Int) + wd - 1) = true := by rw [beq_iff_eq]; exact hzz
                have HZZ : Hid ((z : Int) = (a : Int) + wd - 1) := hzz
                clear hzz
                have aW : a < W := by omega
                have HEO : Hid (y * W * 5 + a * 5 = (p + a) * 5) := by show _ = _; rw [HPN.out.1]; omega
                have pa : (p : Int) + a < (n : Int) := by omega
                have f1 : IntKind.i64.wrap ((p : Int) + a) = (p : Int) + a := IntWalk.i64_in _ (by omega)
                have f4 : IntKind.i64.wrap (p : Int) = (p : Int) := IntWalk.i64_in _ (by omega)
                go_upto_region 18 with fail
                clear t2
                go_cut [172] from 157 to 171 (fun _ wx => Hid (PB w wx K M cap W H (part c y a z (z + 1 - a) (fun k => if k = a then ⟨txt, kf, kg, kb, 0⟩ else bk kf kg kb)) S txt wd kf kg kb cx cy ca cb))
                case first =>
                  have k0 := B6.out.cs.k0
                  have k2 := B6.out.cs.k2
                  have kc := B6.out.cs.hc
                  rw [HPN.out.2] at k2 kc
                  have g0 := B6.out.cl.c0
                  have d0 := B6.out.cs.cv.c0 hy aW
                  rw [HEO.out] at d0
                  have fz := B6.out.cs.cv.fz
                  have HV0 := B6.out.cs.cv.setText hy aW txt
                  rw [HEO.out, part_in (by omega), upd_part (by omega)] at HV0
                  have HV : Hid (Cv 57 (wc.setCell ⟨M, (p + a) * 5, none⟩ (.string txt)) M W H (part c y a z (z + 1 - a) (fun k => if k = a then ⟨txt, kf, kg, kb, 0⟩ else bk kf kg kb))) := HV0
                  clear HV0
                  go_region
                  all_goals
                    go_wp2_with fail
                    go_meet
                    exact (B6.out.cells HKM.out.2.1 ((Ch.refl M wc).set (.inl rfl) _ _) HV.out).more ((Gr.refl _).drew)
                case rest =>
                  have B7 : Hid (PB w wc K M cap W H (part c y a z (z + 1 - a) (fun k => if k = a then ⟨txt, kf, kg, kb, 0⟩ else bk kf kg kb)) S txt wd kf kg kb cx cy ca cb) := hcut
                  clear hcut B6 g1
                  have g1 := B7.out.cl.c1
                  rcases hw with rfl | rfl
                  · go_wp2_with fail
                    go_end0
                    have hza : z = a := by have := HZZ.out; omega
                    subst hza
                    refine ⟨rfl, ?_, B7.out.gr⟩
                    rw [HFI.out, HX.out]
                    have e : part c y z z (z + 1 - z) (fun k => if k = z then ⟨txt, kf, kg, kb, 0⟩ else bk kf kg kb) = part c y z z (z + 1 - z) (gly z 1 txt kf kg kb) := part_same (fun k h1 h2 => by
                      obtain rfl : k = z := by omega
                      rw [if_pos rfl]
                      unfold gly
                      rw [if_neg (by omega)])
                    rw [← e]
                    exact B7.out.cs.cv
                  · have HZA : Hid (z = a + 1) := by have := HZZ.out; show _ = _; omega
                    go_upto_region 20 with fail
                    clear g1
                    go_cut [189] from 176 to 188 (fun _ wx => Hid (PB w wx K M cap W H (part c y a z (z + 1 - a) (fun k => if k = a then ⟨txt, kf, kg, kb, 1⟩ else bk kf kg kb)) S txt 2 kf kg kb cx cy ca cb))
                    case first =>
                      have k0 := B7.out.cs.k0
                      have k2 := B7.out.cs.k2
                      have kc := B7.out.cs.hc
                      rw [HPN.out.2] at k2 kc
                      have d4 := B7.out.cs.cv.c4 hy aW
                      rw [HEO.out] at d4
                      have fz := B7.out.cs.cv.fz
                      have HV0 := B7.out.cs.cv.setPart hy aW 1
                      rw [HEO.out, part_in (by omega), upd_part (by omega)] at HV0
                      have HV : Hid (Cv 57 (wc.setCell ⟨M, (p + a) * 5 + 4, none⟩ (.int .i64 1)) M W H (part c y a z (z + 1 - a) (fun k => if k = a then ⟨txt, kf, kg, kb, 1⟩ else bk kf kg kb))) := by
                        have e : part c y a z (z + 1 - a) (fun k => if k = a then ⟨txt, kf, kg, kb, 1⟩ else bk kf kg kb) = part c y a z (z + 1 - a) (fun k => if k = a then { (if a = a then (⟨txt, kf, kg, kb, 0⟩ : Ce) else bk kf kg kb) with p := 1 } else if k = a then ⟨txt, kf, kg, kb, 0⟩ else bk kf kg kb) := part_same (fun k h1 h2 => by
                          by_cases hk : k = a
                          · rw [if_pos hk, if_pos hk, if_pos rfl]
                          · rw [if_neg hk, if_neg hk, if_neg hk])
                        show Cv _ _ _ _ _ _
                        rw [e]
                        exact HV0
                      clear HV0
                      go_region
                      all_goals
                        go_wp2_with fail
                        go_meet
                        exact (B7.out.cells HKM.out.2.1 ((Ch.refl M wc).set (.inl rfl) _ _) HV.out).more ((Gr.refl _).drew)
                    case rest =>
                      have B8 : Hid (PB w wc K M cap W H (part c y a z (z + 1 - a) (fun k => if k = a then ⟨txt, kf, kg, kb, 1⟩ else bk kf kg kb)) S txt 2 kf kg kb cx cy ca cb) := hcut
                      clear hcut B7
                      have aW1 : a + 1 < W := by have := HZA.out; omega
                      have HE1 : Hid (y * W * 5 + (a + 1) * 5 = (p + a + 1) * 5) := by show _ = _; rw [HPN.out.1]; omega
                      have pa1 : (p : Int) + a + 1 < (n : Int) := by have := HZA.out; omega
                      have f5 : IntKind.i64.wrap ((p : Int) + a + 1) = (p : Int) + a + 1 := IntWalk.i64_in _ (by omega)
                      have k0 := B8.out.cs.k0
                      have k2 := B8.out.cs.k2
                      have kc := B8.out.cs.hc
                      rw [HPN.out.2] at k2 kc
                      have s0 := B8.out.st.c0
                      have s1 := B8.out.st.c1
                      have s2 := B8.out.st.c2
                      have d0 := B8.out.cs.cv.c0 hy aW1
                      have d1 := B8.out.cs.cv.c1 hy aW1
                      have d2 := B8.out.cs.cv.c2 hy aW1
                      have d3 := B8.out.cs.cv.c3 hy aW1
                      have d4 := B8.out.cs.cv.c4 hy aW1
                      rw [HE1.out] at d0 d1 d2 d3 d4
                      have fz := B8.out.cs.cv.fz
                      go_wp2_with fail
                      go_region
                      all_goals
                        go_wp2_with fail
                        go_end0
                        have VS := B8.out.cs.cv.set hy aW1 ⟨ept, kf, kg, kb, 2⟩
                        rw [HE1.out, upd_part (by have := HZA.out; omega)] at VS
                        have e : part c y a z (z + 1 - a) (fun k => if k = a + 1 then ⟨ept, kf, kg, kb, 2⟩ else if k = a then ⟨txt, kf, kg, kb, 1⟩ else bk kf kg kb) = part c y a z (z + 1 - a) (gly a 2 txt kf kg kb) := part_same (fun k h1 h2 => by
                          have := HZA.out
                          unfold gly
                          rw [if_pos rfl]
                          by_cases hk : k = a
                          · rw [if_neg (by omega), if_pos hk, if_pos hk]
                          · rw [if_pos (by omega), if_neg hk])
                        rw [e] at VS
                        have BF := (B8.out.cells HKM.out.2.1 ((Ch.refl M wc).set5 _ _ _ _ _) VS).more ((Gr.refl _).drew)
                        refine ⟨rfl, ?_, BF.gr⟩
                        rw [HFI.out, HX.out]
                        exact BF.cs.cv
        · have HE : Hid (fill c l.toNat (l + 0).toNat t.toNat (t + v).toNat (putX l 0 wd txt f g b) = c) := fill_none (by omega)
          have g1 := BQ.out.cl.c1
          have h1 : ¬ x + wd ≤ x + wd - 1 := by omega
          have h2 : (x + wd == x) = false := by rw [beq_eq_false_iff_ne]; omega
          go_wp2_with fail
          go_loopw [14] (fun iv wi => iv = .int .i64 (x + wd) ∧ wi = wc) (fun _ _ => 0)
          case atStart => exact ⟨rfl, rfl⟩
          case round =>
            obtain ⟨rfl, rfl⟩ := hrel
            go_wp2_with fail
            go_loopw [15] (fun iv wi => iv = .int .i64 (x + wd) ∧ wi = wr) (fun _ _ => 0)
            case atStart => exact ⟨rfl, rfl⟩
            case round =>
              obtain ⟨rfl, rfl⟩ := hrel
              go_wp2_with fail
              go_end0
              exact ⟨rfl, by rw [HE.out]; exact BQ.out.cs.cv, BQ.out.gr⟩
end
end Go.Proofs.YtlfffpoeioecjaaDoor

namespace Go.Proofs.YtlfffpoeioecjaaDoor
open Go.RowKit Go.Sort
set_option linter.unusedVariables false

section
variable {K M cap W H : Nat} {c : Nat → Nat → Ce}
theorem rput_any (w : World) (h : CS 48 57 w K M cap W H c) (hW : 1 ≤ W ∧ W ≤ 400) (hH : 1 ≤ H ∧ H ≤ 400) (hp : PAll W H c) (x y : Int) (txt : ByteArray) (wd f g b cx cy ca cb : Int) :
    Calls Tryd.prog 73 #[.pointer (some ⟨K, 0, none⟩), .int .i64 x, .int .i64 y, .agg #[.string txt, .int .i64 wd], sv f g b, rv cx cy ca cb] w fun e w' => e = .returned (.tuple #[]) ∧ Cv 57 w' M W H (putC W H c x y txt wd f g b cx cy ca cb) ∧ Ch M w w' := by
  by_cases ho : ¬ (wd = 1 ∨ wd = 2) ∨ y < 0 ∨ (H : Int) ≤ y ∨ x < -1 ∨ (W : Int) ≤ x
  · rw [putC_out hW hH c x y txt wd f g b cx cy ca cb ho]
    exact Calls.mono (rput_out w h hW hH x y txt wd f g b cx cy ca cb ho) (fun e w' hh => ⟨hh.1, h.cv.gr hh.2, Ch.gr hh.2⟩)
  · have hw : wd = 1 ∨ wd = 2 := by omega
    have hy : 0 ≤ y ∧ y < H := by omega
    have hx : -1 ≤ x ∧ x < W := by omega
    obtain ⟨y, rfl⟩ : ∃ n : Nat, y = n := ⟨y.toNat, by omega⟩
    have SF := seen_facts (W := W) (H := H) (by omega) (by omega) x y wd 1 cx cy ca cb
    have := rput_in w h hW hH hp x y txt wd f g b cx cy ca cb hw (by omega) hx _ _ _ _ SF
    unfold putC putQ
    rw [if_pos hw]
    exact this
end

end Go.Proofs.YtlfffpoeioecjaaDoor
