/-
  Plain mathematics: what is decoded, written and decoded again is the same.
-/
import Derived.Test.YtkdajaphbmclkaaGreatDoorEnc
namespace Go.Proofs.YtkdajaphbmclkaaGreatDoor
set_option linter.unusedVariables false

/-- A rune: no surrogate, not beyond U+10FFFF. -/
def Sc (r : Int) : Prop := (0 ≤ r ∧ r < 55296) ∨ (57343 < r ∧ r ≤ 1114111)
/-- A rune that Decode answers. -/
def Good (r : Int) : Prop := Sc r ∧ shownI r = r

theorem byt_app (l t : List UInt8) (k : Nat) (h : k < l.length) : byt (l ++ t) k = (l.getD k 0).toNat := by
  unfold byt; rw [List.getD_eq_getElem?_getD, List.getD_eq_getElem?_getD, List.getElem?_append_left h]
theorem u8n (x : Int) (h0 : 0 ≤ x) (h1 : x < 256) : (x.toNat.toUInt8).toNat = x.toNat := by
  simp; omega

theorem dec_enc (r : Int) (h : Sc r) (t : List UInt8) : dec (Lib.encodeRune r ++ t) = (r.toNat, (Lib.encodeRune r).length) := by
  unfold Sc at h
  by_cases a : 0 ≤ r ∧ r ≤ 127
  · have e : Lib.encodeRune r = [r.toNat.toUInt8] := by unfold Lib.encodeRune; rw [Lib.encodeRuneZ_one a.1 a.2]; rfl
    rw [e]
    have b0 : byt ([r.toNat.toUInt8] ++ t) 0 = r.toNat := by rw [byt_app _ _ _ (by simp)]; exact u8n r (by omega) (by omega)
    rw [dec_one _ (by rw [b0]; omega), b0]; rfl
  by_cases b : 128 ≤ r ∧ r ≤ 2047
  · have e : Lib.encodeRune r = [(192 + r / 64).toNat.toUInt8, (128 + r % 64).toNat.toUInt8] := by unfold Lib.encodeRune; rw [Lib.encodeRuneZ_two b.1 b.2]; rfl
    rw [e]
    generalize hl : [(192 + r / 64).toNat.toUInt8, (128 + r % 64).toNat.toUInt8] ++ t = l
    have b0 : byt l 0 = (192 + r / 64).toNat := by rw [← hl, byt_app _ _ _ (by simp)]; exact u8n _ (by omega) (by omega)
    have b1 : byt l 1 = (128 + r % 64).toNat := by rw [← hl, byt_app _ _ _ (by simp)]; exact u8n _ (by omega) (by omega)
    have c1 : cnt l 1 = true := (cnt_iff l 1).2 ⟨by rw [← hl]; simp, by omega, by omega⟩
    unfold dec
    rw [if_neg (by omega), if_pos (by rw [c1, b0]; simp; omega), if_pos (by omega), b0, b1]
    simp; omega
  by_cases c : (2048 ≤ r ∧ r < 55296) ∨ (57343 < r ∧ r ≤ 65535)
  · have e : Lib.encodeRune r = [(224 + r / 4096).toNat.toUInt8, (128 + r / 64 % 64).toNat.toUInt8, (128 + r % 64).toNat.toUInt8] := by unfold Lib.encodeRune; rw [Lib.encodeRuneZ_three c]; rfl
    rw [e]
    generalize hl : [(224 + r / 4096).toNat.toUInt8, (128 + r / 64 % 64).toNat.toUInt8, (128 + r % 64).toNat.toUInt8] ++ t = l
    have b0 : byt l 0 = (224 + r / 4096).toNat := by rw [← hl, byt_app _ _ _ (by simp)]; exact u8n _ (by omega) (by omega)
    have b1 : byt l 1 = (128 + r / 64 % 64).toNat := by rw [← hl, byt_app _ _ _ (by simp)]; exact u8n _ (by omega) (by omega)
    have b2 : byt l 2 = (128 + r % 64).toNat := by rw [← hl, byt_app _ _ _ (by simp)]; exact u8n _ (by omega) (by omega)
    have c1 : cnt l 1 = true := (cnt_iff l 1).2 ⟨by rw [← hl]; simp, by omega, by omega⟩
    have c2 : cnt l 2 = true := (cnt_iff l 2).2 ⟨by rw [← hl]; simp, by omega, by omega⟩
    have hv : byt l 0 % 16 * 4096 + byt l 1 % 64 * 64 + byt l 2 % 64 = r.toNat := by omega
    have g2 : ¬ (byt l 0 / 32 == 6 && cnt l 1) = true := by simp; omega
    have g3 : (byt l 0 / 16 == 14 && cnt l 1 && cnt l 2) = true := by simp [c1, c2]; omega
    unfold dec
    rw [if_neg (by omega), if_neg g2, if_pos g3, hv, if_pos]
    · rfl
    · simp only [Bool.and_eq_true, decide_eq_true_eq, valid_nat]; omega
  · have d : 65536 ≤ r ∧ r ≤ 1114111 := by omega
    have e : Lib.encodeRune r = [(240 + r / 262144).toNat.toUInt8, (128 + r / 4096 % 64).toNat.toUInt8, (128 + r / 64 % 64).toNat.toUInt8, (128 + r % 64).toNat.toUInt8] := by unfold Lib.encodeRune; rw [Lib.encodeRuneZ_four d.1 d.2]; rfl
    rw [e]
    generalize hl : [(240 + r / 262144).toNat.toUInt8, (128 + r / 4096 % 64).toNat.toUInt8, (128 + r / 64 % 64).toNat.toUInt8, (128 + r % 64).toNat.toUInt8] ++ t = l
    have b0 : byt l 0 = (240 + r / 262144).toNat := by rw [← hl, byt_app _ _ _ (by simp)]; exact u8n _ (by omega) (by omega)
    have b1 : byt l 1 = (128 + r / 4096 % 64).toNat := by rw [← hl, byt_app _ _ _ (by simp)]; exact u8n _ (by omega) (by omega)
    have b2 : byt l 2 = (128 + r / 64 % 64).toNat := by rw [← hl, byt_app _ _ _ (by simp)]; exact u8n _ (by omega) (by omega)
    have b3 : byt l 3 = (128 + r % 64).toNat := by rw [← hl, byt_app _ _ _ (by simp)]; exact u8n _ (by omega) (by omega)
    have c1 : cnt l 1 = true := (cnt_iff l 1).2 ⟨by rw [← hl]; simp, by omega, by omega⟩
    have c2 : cnt l 2 = true := (cnt_iff l 2).2 ⟨by rw [← hl]; simp, by omega, by omega⟩
    have c3 : cnt l 3 = true := (cnt_iff l 3).2 ⟨by rw [← hl]; simp, by omega, by omega⟩
    have hv : byt l 0 % 8 * 262144 + byt l 1 % 64 * 4096 + byt l 2 % 64 * 64 + byt l 3 % 64 = r.toNat := by omega
    have g2 : ¬ (byt l 0 / 32 == 6 && cnt l 1) = true := by simp; omega
    have g3 : ¬ (byt l 0 / 16 == 14 && cnt l 1 && cnt l 2) = true := by simp; omega
    have g4 : (byt l 0 / 8 == 30 && cnt l 1 && cnt l 2 && cnt l 3) = true := by simp [c1, c2, c3]; omega
    unfold dec
    rw [if_neg (by omega), if_neg g2, if_neg g3, if_pos g4, hv, if_pos]
    · rfl
    · simp only [Bool.and_eq_true, decide_eq_true_eq, valid_nat]; omega

theorem enc_cons (r : Int) (R : List Int) : enc (r :: R) = Lib.encodeRune r ++ enc R := by simp [enc]
theorem encodeRune_ne (r : Int) (t : List UInt8) : Lib.encodeRune r ++ t ≠ [] := by
  intro e
  have := (Lib.runeCells_le r).1
  rw [Lib.runeCells_length] at this
  have h := congrArg List.length e
  simp only [List.length_append, List.length_nil] at h
  omega

theorem runes_enc (R : List Int) (h : ∀ r ∈ R, Good r) : runes (enc R) = R := by
  induction R with
  | nil => simp [enc, runes_nil]
  | cons r R ih =>
    have hr := h r (by simp)
    have hd := dec_enc r hr.1 (enc R)
    have h0 : 0 ≤ r := by rcases hr.1 with a | a <;> omega
    rw [enc_cons, runes_step (encodeRune_ne r _), hd, List.drop_left, ih (fun x hx => h x (by simp [hx]))]
    have e : shownI ((r.toNat : Nat) : Int) = r := by rw [Int.toNat_of_nonneg h0]; exact hr.2
    rw [e]

/-- What the decoder answers is a rune. -/
theorem dec_sc (l : List UInt8) : Sc ((dec l).1 : Int) := by
  have hb := byt_lt l 0
  have hb1 := byt_lt l 1
  have hb2 := byt_lt l 2
  have hb3 := byt_lt l 3
  unfold Sc dec
  by_cases a : byt l 0 < 0x80
  · rw [if_pos a]; simp only; omega
  rw [if_neg a]
  by_cases g2 : (byt l 0 / 32 == 6 && cnt l 1) = true
  · rw [if_pos g2]
    by_cases k : byt l 0 % 32 * 64 + byt l 1 % 64 ≥ 0x80
    · rw [if_pos k]; simp only; omega
    · rw [if_neg k]; simp only; omega
  rw [if_neg g2]
  by_cases g3 : (byt l 0 / 16 == 14 && cnt l 1 && cnt l 2) = true
  · rw [if_pos g3]
    split
    · rename_i k
      simp only [Bool.and_eq_true, decide_eq_true_eq, valid_nat] at k
      simp only; omega
    · simp only; omega
  rw [if_neg g3]
  by_cases g4 : (byt l 0 / 8 == 30 && cnt l 1 && cnt l 2 && cnt l 3) = true
  · rw [if_pos g4]
    split
    · rename_i k
      simp only [Bool.and_eq_true, decide_eq_true_eq, valid_nat] at k
      simp only; omega
    · simp only; omega
  rw [if_neg g4]; simp only; omega

theorem shown_good (r : Int) (h : Sc r) : Good (shownI r) := by
  unfold Good Sc at *
  by_cases a : (r < 32 ∧ r ≠ 10) ∨ (127 ≤ r ∧ r ≤ 159)
  · have e : shownI r = 65533 := by unfold shownI; rw [if_pos a]
    rw [e]; exact ⟨by omega, rfl⟩
  · have e : shownI r = r := by unfold shownI; rw [if_neg a]
    rw [e]; exact ⟨h, e⟩

theorem runes_good (l : List UInt8) : ∀ r ∈ runes l, Good r := by
  generalize hn : l.length = n
  induction n using Nat.strongRecOn generalizing l with
  | _ n ih =>
    by_cases h : l = []
    · subst h; rw [runes_nil]; simp
    · rw [runes_step h]
      have hp := dec_pos l
      have hl : 0 < l.length := List.length_pos_iff.2 h
      intro r hr
      rcases List.mem_cons.1 hr with rfl | hr
      · exact shown_good _ (dec_sc l)
      · exact ih (l.drop (dec l).2).length (by rw [List.length_drop]; omega) _ rfl r hr

theorem runes_again (l : List UInt8) : runes (enc (runes l)) = runes l := runes_enc _ (runes_good l)
theorem runes_pos {l : List UInt8} (h : l ≠ []) : 0 < (runes l).length := by rw [runes_step h]; simp

end Go.Proofs.YtkdajaphbmclkaaGreatDoor
