/-
  Plain mathematics of GlyphParted: clusters of two texts are those of both.
-/
import Derived.Test.YtlioofikfgdnmabDoorNorm
namespace Go.Proofs.YtlioofikfgdnmabDoor
set_option linter.unusedVariables false

theorem byt_left (A B : List UInt8) (k : Nat) (h : k < A.length) : byt (A ++ B) k = byt A k := by
  unfold byt; rw [List.getD_eq_getElem?_getD, List.getD_eq_getElem?_getD, List.getElem?_append_left h]
theorem cnt_left (A B : List UInt8) (k : Nat) (h : k < A.length) : cnt (A ++ B) k = cnt A k := by
  unfold cnt; rw [byt_left A B k h]
  congr 1
  exact decide_eq_decide.2 (by rw [List.length_append]; omega)
theorem cnt_out (A : List UInt8) (k : Nat) (h : ¬ k < A.length) : cnt A k = false := by unfold cnt; rw [decide_eq_false h]; rfl
theorem byt_mid (A B : List UInt8) : byt (A ++ B) A.length = byt B 0 := by
  unfold byt; rw [List.getD_eq_getElem?_getD, List.getD_eq_getElem?_getD, List.getElem?_append_right (Nat.le_refl _), Nat.sub_self]
theorem cnt_mid (A B : List UInt8) (hB : byt B 0 < 0x80) : cnt (A ++ B) A.length = false := by
  unfold cnt; rw [byt_mid]
  have : (byt B 0 / 64 == 2) = false := by simp; omega
  rw [this, Bool.and_false]

theorem dec_left (A B : List UInt8) (hA : A ≠ []) (hB : byt B 0 < 0x80) : dec (A ++ B) = dec A := by
  have hl : 0 < A.length := List.length_pos_iff.2 hA
  have b0 := byt_left A B 0 hl
  by_cases h1 : A.length = 1
  · have c1 : cnt (A ++ B) 1 = false := by have := cnt_mid A B hB; rw [h1] at this; exact this
    have d1 : cnt A 1 = false := cnt_out A 1 (by omega)
    unfold dec
    simp only [b0, c1, d1, Bool.and_false, Bool.false_and, Bool.false_eq_true, if_false]
  · have b1 := byt_left A B 1 (by omega)
    have c1 := cnt_left A B 1 (by omega)
    by_cases h2 : A.length = 2
    · have c2 : cnt (A ++ B) 2 = false := by have := cnt_mid A B hB; rw [h2] at this; exact this
      have d2 : cnt A 2 = false := cnt_out A 2 (by omega)
      unfold dec
      simp only [b0, b1, c1, c2, d2, Bool.and_false, Bool.false_and, Bool.false_eq_true, if_false]
    · have b2 := byt_left A B 2 (by omega)
      have c2 := cnt_left A B 2 (by omega)
      by_cases h3 : A.length = 3
      · have c3 : cnt (A ++ B) 3 = false := by have := cnt_mid A B hB; rw [h3] at this; exact this
        have d3 : cnt A 3 = false := cnt_out A 3 (by omega)
        unfold dec
        simp only [b0, b1, b2, c1, c2, c3, d3, Bool.and_false, Bool.false_eq_true, if_false]
      · have b3 := byt_left A B 3 (by omega)
        have c3 := cnt_left A B 3 (by omega)
        unfold dec
        simp only [b0, b1, b2, b3, c1, c2, c3]

theorem dec_within (A : List UInt8) (hA : A ≠ []) : (dec A).2 ≤ A.length := by
  have hl : 0 < A.length := List.length_pos_iff.2 hA
  unfold dec
  by_cases a : byt A 0 < 0x80
  · rw [if_pos a]; simp only; omega
  rw [if_neg a]
  by_cases g2 : (byt A 0 / 32 == 6 && cnt A 1) = true
  · rw [if_pos g2]
    simp only [Bool.and_eq_true] at g2
    have := ((cnt_iff A 1).1 g2.2).1
    split <;> simp only <;> omega
  rw [if_neg g2]
  by_cases g3 : (byt A 0 / 16 == 14 && cnt A 1 && cnt A 2) = true
  · rw [if_pos g3]
    simp only [Bool.and_eq_true] at g3
    have := ((cnt_iff A 2).1 g3.2).1
    split <;> simp only <;> omega
  rw [if_neg g3]
  by_cases g4 : (byt A 0 / 8 == 30 && cnt A 1 && cnt A 2 && cnt A 3) = true
  · rw [if_pos g4]
    simp only [Bool.and_eq_true] at g4
    have := ((cnt_iff A 3).1 g4.2).1
    split <;> simp only <;> omega
  rw [if_neg g4]; simp only; omega

theorem runes_app (A B : List UInt8) (hB : byt B 0 < 0x80) : runes (A ++ B) = runes A ++ runes B := by
  generalize hn : A.length = n
  induction n using Nat.strongRecOn generalizing A with
  | _ n ih =>
    by_cases h : A = []
    · subst h; rw [runes_nil]; rfl
    · have hp := dec_pos A
      have hw := dec_within A h
      have hl : 0 < A.length := List.length_pos_iff.2 h
      have hAB : A ++ B ≠ [] := by simp [h]
      rw [runes_step hAB, dec_left A B h hB, List.drop_append_of_le_length hw, ih (A.drop (dec A).2).length (by rw [List.length_drop]; omega) _ rfl, runes_step h]
      rfl

theorem mks_left (L X : List Int) (hX : NoMk X) : mks (L ++ X) = mks L := by
  induction L with
  | nil =>
    cases X with
    | nil => rfl
    | cons x X => have := hX x rfl; simp [mks, this]
  | cons a L ih =>
    unfold mks at *
    by_cases ha : isMk a = true
    · rw [List.cons_append, List.takeWhile_cons, if_pos ha, ih, List.takeWhile_cons, if_pos ha]
    · rw [List.cons_append, List.takeWhile_cons, if_neg ha, List.takeWhile_cons, if_neg ha]

theorem clus_parted (R X : List Int) (hX : NoMk X) : clus (R ++ X) = clus R ++ clus X := by
  generalize hn : R.length = n
  induction n using Nat.strongRecOn generalizing R with
  | _ n ih =>
    by_cases h : R = []
    · subst h; rw [clus_nil]; rfl
    · have hp := cNum_pos h
      have hle := cNum_le R
      have hl : 0 < R.length := List.length_pos_iff.2 h
      have e := ih (R.drop (cNum R)).length (by rw [List.length_drop]; omega) _ rfl
      match R, h with
      | r :: t, h =>
        have o1 : cOwn (r :: (t ++ X)) = cOwn (r :: t) := rfl
        have o2 : cBase (r :: (t ++ X)) = cBase (r :: t) := rfl
        have hown : cOwn (r :: t) ≤ (r :: t).length := by simp only [cOwn, List.length_cons]; split <;> omega
        have o3 : cMarks (r :: (t ++ X)) = cMarks (r :: t) := by
          unfold cMarks
          rw [o1, ← List.cons_append, List.drop_append_of_le_length hown, mks_left _ _ hX]
        have o4 : cNum (r :: (t ++ X)) = cNum (r :: t) := by simp only [cNum, o1, o3]
        have o5 : cText (r :: (t ++ X)) = cText (r :: t) := by simp only [cText, o2, o3]
        have o6 : cWide (r :: (t ++ X)) = cWide (r :: t) := by simp only [cWide, o2]
        rw [List.cons_append, clus_step (by simp), clus_step h, o4, o5, o6, ← List.cons_append, List.drop_append_of_le_length hle, e]
        rfl

theorem wid_ascii : ∀ c : Fin 127, 32 < c.val → wid (c.val : Int) = 1 := by decide +kernel
theorem runes_head (B : List UInt8) (h0 : 32 < byt B 0) (h1 : byt B 0 < 127) : NoMk (runes B) ∧ runes B ≠ [] := by
  have hne : B ≠ [] := fun e => by rw [e] at h0; simp [byt] at h0
  have hd := dec_one B (by omega)
  have hs : shownI ((byt B 0 : Nat) : Int) = (byt B 0 : Int) := by unfold shownI; rw [if_neg (by omega)]
  rw [runes_step hne, hd]
  refine ⟨fun x hx => ?_, by simp⟩
  simp only [List.head?_cons, Option.some.injEq] at hx
  rw [hs] at hx
  subst hx
  rw [isMk_false, wid_ascii ⟨byt B 0, h1⟩ h0]
  simp

/-- GlyphParted's heart. -/
theorem parted (A B : List UInt8) (h0 : 32 < byt B 0) (h1 : byt B 0 < 127) : clus (runes (A ++ B)) = clus (runes A) ++ clus (runes B) := by
  rw [runes_app A B (by omega), clus_parted _ _ (runes_head B h0 h1).1]

end Go.Proofs.YtlioofikfgdnmabDoor
