/-
  The reference's canvas: clear.
-/
import Derived.Test.YtgaogkggbccfnaaDoorCRef
namespace Go.Proofs.YtgaogkggbccfnaaDoor
open Go.RowKit Go.Sort
set_option linter.unusedVariables false

/-- A place is about to be written, within those from a to q. -/
def clw (c : Nat → Nat → Ce) (y x a q : Nat) : Nat → Nat → Ce :=
  if (c y x).p = 1 ∧ x = q then upd c y (x + 1) (bl (c y (x + 1))) else if (c y x).p = 2 ∧ x = a then upd c y (x - 1) (bl (c y (x - 1))) else c
/-- How far the halves are cleared, ahead of place k. -/
def stC (c : Nat → Nat → Ce) (y a q k : Nat) : Nat → Nat → Ce := if k ≤ a then c else if k ≤ q then cutL c y a else cut c y a q
theorem clw_next {W : Nat} {c : Nat → Nat → Ce} {y a q k : Nat} (hp : PRow W (c y)) (haq : a ≤ q) (hw : q ≤ a + 1) (hq : q < W) (h1 : a ≤ k) (h2 : k ≤ q) : clw (stC c y a q k) y k a q = stC c y a q (k + 1) := by
  by_cases hk : k = a
  · subst hk
    have e0 : stC c y k q k = c := if_pos (Nat.le_refl _)
    rw [e0]
    have e1 : stC c y k q (k + 1) = if k + 1 ≤ q then cutL c y k else cut c y k q := if_neg (by omega)
    rw [e1]
    unfold clw
    by_cases hq2 : k + 1 ≤ q
    · rw [if_pos hq2, if_neg (c := (c y k).p = 1 ∧ k = q) (by omega)]
      by_cases h3 : (c y k).p = 2
      · obtain ⟨j, rfl, _⟩ := hp.tail k (by omega) h3
        rw [if_pos ⟨h3, rfl⟩, cutL_some h3]
        rfl
      · rw [if_neg (fun m => h3 m.1), cutL_none h3]
    · rw [if_neg hq2]
      obtain rfl : q = k := by omega
      unfold cut
      by_cases h3 : (c y q).p = 2
      · obtain ⟨j, rfl, _⟩ := hp.tail q (by omega) h3
        rw [if_neg (c := (c y (j + 1)).p = 1 ∧ j + 1 = j + 1) (by omega), if_pos ⟨h3, rfl⟩, cutR_none (by rw [cutL_at (Nat.le_refl _)]; omega), cutL_some h3]
        rfl
      · rw [cutL_none h3]
        by_cases h4 : (c y q).p = 1
        · rw [if_pos ⟨h4, rfl⟩, cutR_some h4]
        · rw [if_neg (fun m => h4 m.1), if_neg (fun m => h3 m.1), cutR_none h4]
  · obtain rfl : k = q := by omega
    have e0 : stC c y a k k = cutL c y a := by unfold stC; rw [if_neg (by omega), if_pos (Nat.le_refl _)]
    have e1 : stC c y a k (k + 1) = cut c y a k := by unfold stC; rw [if_neg (by omega), if_neg (by omega)]
    rw [e0, e1]
    unfold clw cut
    by_cases h4 : (cutL c y a y k).p = 1
    · rw [if_pos ⟨h4, rfl⟩, cutR_some h4]
    · rw [if_neg (fun m => h4 m.1), if_neg (fun m => hk m.2), cutR_none h4]

section
variable {K M cap W H : Nat} {c : Nat → Nat → Ce}
set_option maxRecDepth 100000 in
set_option maxHeartbeats 4000000 in
theorem clear_any (w : World) (h : CS 72 85 w K M cap W H c) (hW : W ≤ 400) (hH : H ≤ 400) (y x a q : Nat) (hy : y < H) (hx : x < W) (hax : a ≤ x) (hxq : x ≤ q) (h1 : (c y x).p = 1 → x + 1 < W) (h2 : (c y x).p = 2 → 0 < x) (i i1 i2 : Nat) (hi : i = y * W + x) (hi1 : i1 = y * W + a) (hi2 : i2 = y * W + q) :
    Calls Tryd.prog 66 #[.pointer (some ⟨K, 0, none⟩), .int .i64 i, .int .i64 i1, .int .i64 i2] w fun e w' => e = .returned (.tuple #[]) ∧ Cv 85 w' M W H (clw c y x a q) ∧ Ch M w w' := by
  have BLK : Hid (∀ (x' : Nat), x' < W → ∀ (i' : Nat), i' = y * W + x' → Calls Tryd.prog 81 #[.pointer (some ⟨K, 0, none⟩), .int .i64 i'] w fun e w' => e = .returned (.tuple #[]) ∧ Cv 85 w' M W H (upd c y x' (bl (c y x'))) ∧ Ch M w w') := fun x' hx' i' hi' => rblank_any w h hW hH y x' hy hx' i' hi'
  have k2 := h.k2
  have hn : i < W * H := by rw [hi]; exact lin_lt hy hx
  have HC : Hid (CS 72 85 w K M cap W H c) := h
  have HI : Hid (i = y * W + x) := hi
  obtain ⟨n, hnn⟩ : ∃ n, W * H = n := ⟨_, rfl⟩
  have HN : Hid (W * H = n) := hnn
  have nb : n ≤ 160000 := by rw [← hnn]; exact Nat.mul_le_mul hW hH
  rw [hnn] at k2 hn
  have d4 := h.cv.c4 hy hx
  rw [show y * W * 5 + x * 5 = i * 5 by rw [hi, Nat.add_mul]] at d4
  obtain ⟨p, hp⟩ : ∃ z, (c y x).p = z := ⟨_, rfl⟩
  rw [hp] at d4
  have HP : Hid ((c y x).p = p) := hp
  rw [hp] at h1 h2
  have hi' : (i : Int) < (n : Int) := by omega
  have t1 : i1 ≤ i := by omega
  have t2 : i ≤ i2 := by omega
  have e1 : decide ((i : Int) + 1 < i1) = false := decide_eq_false (by omega)
  rcases (by omega : (p = 1 ∧ x = q) ∨ (p = 1 ∧ x < q) ∨ (p = 2 ∧ x = a) ∨ (p = 2 ∧ a < x) ∨ (p ≠ 1 ∧ p ≠ 2)) with ⟨rfl, rfl⟩ | ⟨rfl, hlt⟩ | ⟨rfl, rfl⟩ | ⟨rfl, hlt⟩ | ⟨n1, n2⟩
  · have HR : Hid (clw c y x a x = upd c y (x + 1) (bl (c y (x + 1)))) := if_pos ⟨HP.out, rfl⟩
    have HB : Hid (∀ iv : Int, iv = (i : Int) + 1 → Calls Tryd.prog 81 #[.pointer (some ⟨K, 0, none⟩), .int .i64 iv] w fun e w' => e = .returned (.tuple #[]) ∧ Cv 85 w' M W H (upd c y (x + 1) (bl (c y (x + 1)))) ∧ Ch M w w') := by
      rintro iv rfl; exact BLK.out (x + 1) (h1 rfl) (i + 1) (by omega)
    have e2 : decide ((i2 : Int) < (i : Int) + 1) = true := decide_eq_true (by omega)
    clear h hnn hi hi1 hi2 h1 h2 hp
    go_enter Tryd.func66, Tryd.ntmps66
    go_wp2_with fail
    refine Calls.mono (HB.out _ rfl) ?_
    rintro e w1 ⟨rfl, V1, C1⟩
    have S1 := HC.out.put C1 V1
    have k2' := S1.k2
    rw [HN.out] at k2'
    have d4' := V1.c4 hy hx
    rw [show y * W * 5 + x * 5 = i * 5 by rw [HI.out, Nat.add_mul], show upd c y (x + 1) (bl (c y (x + 1))) y x = c y x from if_neg (by omega), HP.out] at d4'
    have HV : Hid (Cv 85 w1 M W H (upd c y (x + 1) (bl (c y (x + 1)))) ∧ Ch M w w1) := (⟨V1, C1⟩ : Cv 85 w1 M W H (upd c y (x + 1) (bl (c y (x + 1)))) ∧ Ch M w w1)
    clear V1 C1 S1 k2 d4
    go_wp2_with fail
    go_end0
    exact ⟨rfl, by rw [HR.out]; exact HV.out.1, HV.out.2⟩
  · have HR : Hid (clw c y x a q = c) := (if_neg (fun m => by have := m.2; omega)).trans (if_neg (fun m => by have := HP.out.symm.trans m.1; omega))
    have e2 : decide ((i2 : Int) < (i : Int) + 1) = false := decide_eq_false (by omega)
    clear h hnn hi hi1 hi2 h1 h2 hp
    go_enter Tryd.func66, Tryd.ntmps66
    go_wp2_with fail
    go_end0
    exact ⟨rfl, by rw [HR.out]; exact HC.out.cv, Ch.gr (Gr.refl w)⟩
  · have HR : Hid (clw c y x x q = upd c y (x - 1) (bl (c y (x - 1)))) := (if_neg (fun m => by have := HP.out.symm.trans m.1; omega)).trans (if_pos ⟨HP.out, rfl⟩)
    have HB : Hid (∀ iv : Int, iv = (i : Int) - 1 → Calls Tryd.prog 81 #[.pointer (some ⟨K, 0, none⟩), .int .i64 iv] w fun e w' => e = .returned (.tuple #[]) ∧ Cv 85 w' M W H (upd c y (x - 1) (bl (c y (x - 1)))) ∧ Ch M w w') := by
      rintro iv rfl
      have := h2 rfl
      rw [show (i : Int) - 1 = ((i - 1 : Nat) : Int) by omega]
      exact BLK.out (x - 1) (by omega) (i - 1) (by omega)
    have e2 : decide ((i : Int) - 1 < (i1 : Int)) = true := decide_eq_true (by omega)
    clear h hnn hi hi1 hi2 h1 h2 hp
    go_enter Tryd.func66, Tryd.ntmps66
    go_wp2_with fail
    refine Calls.mono (HB.out _ rfl) ?_
    rintro e w1 ⟨rfl, V1, C1⟩
    have HV : Hid (Cv 85 w1 M W H (upd c y (x - 1) (bl (c y (x - 1)))) ∧ Ch M w w1) := (⟨V1, C1⟩ : Cv 85 w1 M W H (upd c y (x - 1) (bl (c y (x - 1)))) ∧ Ch M w w1)
    clear V1 C1
    go_wp2_with fail
    go_end0
    exact ⟨rfl, by rw [HR.out]; exact HV.out.1, HV.out.2⟩
  · have HR : Hid (clw c y x a q = c) := (if_neg (fun m => by have := HP.out.symm.trans m.1; omega)).trans (if_neg (fun m => by have := m.2; omega))
    have e2 : decide ((i : Int) - 1 < (i1 : Int)) = false := decide_eq_false (by omega)
    have e3 : decide ((i2 : Int) < (i : Int) - 1) = false := decide_eq_false (by omega)
    clear h hnn hi hi1 hi2 h1 h2 hp
    go_enter Tryd.func66, Tryd.ntmps66
    go_wp2_with fail
    go_end0
    exact ⟨rfl, by rw [HR.out]; exact HC.out.cv, Ch.gr (Gr.refl w)⟩
  · have m1 : (p == 1) = false := by simpa using n1
    have m2 : (p == 2) = false := by simpa using n2
    have HR : Hid (clw c y x a q = c) := (if_neg (fun m => n1 (HP.out.symm.trans m.1))).trans (if_neg (fun m => n2 (HP.out.symm.trans m.1)))
    clear h hnn hi hi1 hi2 h1 h2 hp
    go_enter Tryd.func66, Tryd.ntmps66
    go_wp2_with fail
    go_end0
    exact ⟨rfl, by rw [HR.out]; exact HC.out.cv, Ch.gr (Gr.refl w)⟩
end
end Go.Proofs.YtgaogkggbccfnaaDoor
