/-
  Plain mathematics: what is decoded, written and decoded again is the same.
-/
import Derived.Test.YtlfffpoeioecjaaDoorG04
import Derived.Test.YtlfffpoeioecjaaDoorG03
import Derived.Test.YtlfffpoeioecjaaDoorG00
import Derived.Test.YtlfffpoeioecjaaDoorRows
import Derived.ProofKit
import Derived.OpenShut
import Derived.Lib.LaidTab
namespace Go.Proofs.YtlfffpoeioecjaaDoor
set_option linter.unusedVariables false

/-- A rune: no surrogate, not beyond U+10FFFF. -/
def Sc (r : Int) : Prop := (0 ≤ r ∧ r < 55296) ∨ (57343 < r ∧ r ≤ 1114111)
/-- A rune that Decode answers. -/
def Good (r : Int) : Prop := Sc r ∧ shownI r = r

theorem byt_app (l t : List UInt8) (k : Nat) (h : k < l.length) : byt (l ++ t) k = (l.getD k 0).toNat := by
  unfold byt; rw [List.getD_eq_getElem?_getD, List.getD_eq_getElem?_getD, List.getElem?_append_left h]
theorem u8n (x : Int) (h0 : 0 ≤ x) (h1 : x < 256) : (x.toNat.toUInt8).toNat = x.toNat := by
  simp; omega

theorem dec_enc (r : Int) (h : Sc r) (t : List UInt8) : dec (Lib.encodeRune r ++ t) = (r.toNat, (Lib.encodeRune r).length) := by
  unfold Sc at h
  by_cases a : 0 ≤ r ∧ r ≤ 127
  · have e : Lib.encodeRune r = [r.toNat.toUInt8] := by unfold Lib.encodeRune; rw [Lib.encodeRuneZ_one a.1 a.2]; rfl
    rw [e]
    have b0 : byt ([r.toNat.toUInt8] ++ t) 0 = r.toNat := by rw [byt_app _ _ _ (by simp)]; exact u8n r (by omega) (by omega)
    rw [dec_one _ (by rw [b0]; omega), b0]; rfl
  by_cases b : 128 ≤ r ∧ r ≤ 2047
  · have e : Lib.encodeRune r = [(192 + r / 64).toNat.toUInt8, (128 + r % 64).toNat.toUInt8] := by unfold Lib.encodeRune; rw [Lib.encodeRuneZ_two b.1 b.2]; rfl
    rw [e]
    generalize hl : [(192 + r / 64).toNat.toUInt8, (128 + r % 64).toNat.toUInt8] ++ t = l
    have b0 : byt l 0 = (192 + r / 64).toNat := by rw [← hl, byt_app _ _ _ (by simp)]; exact u8n _ (by omega) (by omega)
    have b1 : byt l 1 = (128 + r % 64).toNat := by rw [← hl, byt_app _ _ _ (by simp)]; exact u8n _ (by omega) (by omega)
    have c1 : cnt l 1 = true := (cnt_iff l 1).2 ⟨by rw [← hl]; simp, by omega, by omega⟩
    unfold dec
    rw [if_neg (by omega), if_pos (by rw [c1, b0]; simp; omega), if_pos (by omega), b0, b1]
    simp; omega
  by_cases c : (2048 ≤ r ∧ r < 55296) ∨ (57343 < r ∧ r ≤ 65535)
  · have e : Lib.encodeRune r = [(224 + r / 4096).toNat.toUInt8, (128 + r / 64 % 64).toNat.toUInt8, (128 + r % 64).toNat.toUInt8] := by unfold Lib.encodeRune; rw [Lib.encodeRuneZ_three c]; rfl
    rw [e]
    generalize hl : [(224 + r / 4096).toNat.toUInt8, (128 + r / 64 % 64).toNat.toUInt8, (128 + r % 64).toNat.toUInt8] ++ t = l
    have b0 : byt l 0 = (224 + r / 4096).toNat := by rw [← hl, byt_app _ _ _ (by simp)]; exact u8n _ (by omega) (by omega)
    have b1 : byt l 1 = (128 + r / 64 % 64).toNat := by rw [← hl, byt_app _ _ _ (by simp)]; exact u8n _ (by omega) (by omega)
    have b2 : byt l 2 = (128 + r % 64).toNat := by rw [← hl, byt_app _ _ _ (by simp)]; exact u8n _ (by omega) (by omega)
    have c1 : cnt l 1 = true := (cnt_iff l 1).2 ⟨by rw [← hl]; simp, by omega, by omega⟩
    have c2 : cnt l 2 = true := (cnt_iff l 2).2 ⟨by rw [← hl]; simp, by omega, by omega⟩
    have hv : byt l 0 % 16 * 4096 + byt l 1 % 64 * 64 + byt l 2 % 64 = r.toNat := by omega
    have g2 : ¬ (byt l 0 / 32 == 6 && cnt l 1) = true := by simp; omega
    have g3 : (byt l 0 / 16 == 14 && cnt l 1 && cnt l 2) = true := by simp [c1, c2]; omega
    unfold dec
    rw [if_neg (by omega), if_neg g2, if_pos g3, hv, if_pos]
    · rfl
    · simp only [Bool.and_eq_true, decide_eq_true_eq, valid_nat]; omega
  · have d : 65536 ≤ r ∧ r ≤ 1114111 := by omega
    have e : Lib.encodeRune r = [(240 + r / 262144).toNat.toUInt8, (128 + r / 4096 % 64).toNat.toUInt8, (128 + r / 64 % 64).toNat.toUInt8, (128 + r % 64).toNat.toUInt8] := by unfold Lib.encodeRune; rw [Lib.encodeRuneZ_four d.1 d.2]; rfl
    rw [e]
    generalize hl : [(240 + r / 262144).toNat.toUInt8, (128 + r / 4096 % 64).toNat.toUInt8, (128 + r / 64 % 64).toNat.toUInt8, (128 + r % 64).toNat.toUInt8] ++ t = l
    have b0 : byt l 0 = (240 + r / 262144).toNat := by rw [← hl, byt_app _ _ _ (by simp)]; exact u8n _ (by omega) (by omega)
    have b1 : byt l 1 = (128 + r / 4096 % 64).toNat := by rw [← hl, byt_app _ _ _ (by simp)]; exact u8n _ (by omega) (by omega)
    have b2 : byt l 2 = (128 + r / 64 % 64).toNat := by rw [← hl, byt_app _ _ _ (by simp)]; exact u8n _ (by omega) (by omega)
    have b3 : byt l 3 = (128 + r % 64).toNat := by rw [← hl, byt_app _ _ _ (by simp)]; exact u8n _ (by omega) (by omega)
    have c1 : cnt l 1 = true := (cnt_iff l 1).2 ⟨by rw [← hl]; simp, by omega, by omega⟩
    have c2 : cnt l 2 = true := (cnt_iff l 2).2 ⟨by rw [← hl]; simp, by omega, by omega⟩
    have c3 : cnt l 3 = true := (cnt_iff l 3).2 ⟨by rw [← hl]; simp, by omega, by omega⟩
    have hv : byt l 0 % 8 * 262144 + byt l 1 % 64 * 4096 + byt l 2 % 64 * 64 + byt l 3 % 64 = r.toNat := by omega
    have g2 : ¬ (byt l 0 / 32 == 6 && cnt l 1) = true := by simp; omega
    have g3 : ¬ (byt l 0 / 16 == 14 && cnt l 1 && cnt l 2) = true := by simp; omega
    have g4 : (byt l 0 / 8 == 30 && cnt l 1 && cnt l 2 && cnt l 3) = true := by simp [c1, c2, c3]; omega
    unfold dec
    rw [if_neg (by omega), if_neg g2, if_neg g3, if_pos g4, hv, if_pos]
    · rfl
    · simp only [Bool.and_eq_true, decide_eq_true_eq, valid_nat]; omega

theorem enc_cons (r : Int) (R : List Int) : enc (r :: R) = Lib.encodeRune r ++ enc R := by simp [enc]
theorem encodeRune_ne (r : Int) (t : List UInt8) : Lib.encodeRune r ++ t ≠ [] := by
  intro e
  have := (Lib.runeCells_le r).1
  rw [Lib.runeCells_length] at this
  have h := congrArg List.length e
  simp only [List.length_append, List.length_nil] at h
  omega

theorem runes_enc (R : List Int) (h : ∀ r ∈ R, Good r) : runes (enc R) = R := by
  induction R with
  | nil => simp [enc, runes_nil]
  | cons r R ih =>
    have hr := h r (by simp)
    have hd := dec_enc r hr.1 (enc R)
    have h0 : 0 ≤ r := by rcases hr.1 with a | a <;> omega
    rw [enc_cons, runes_step (encodeRune_ne r _), hd, List.drop_left, ih (fun x hx => h x (by simp [hx]))]
    have e : shownI ((r.toNat : Nat) : Int) = r := by rw [Int.toNat_of_nonneg h0]; exact hr.2
    rw [e]

/-- What the decoder answers is a rune. -/
theorem dec_sc (l : List UInt8) : Sc ((dec l).1 : Int) := by
  have hb := byt_lt l 0
  have hb1 := byt_lt l 1
  have hb2 := byt_lt l 2
  have hb3 := byt_lt l 3
  unfold Sc dec
  by_cases a : byt l 0 < 0x80
  · rw [if_pos a]; simp only; omega
  rw [if_neg a]
  by_cases g2 : (byt l 0 / 32 == 6 && cnt l 1) = true
  · rw [if_pos g2]
    by_cases k : byt l 0 % 32 * 64 + byt l 1 % 64 ≥ 0x80
    · rw [if_pos k]; simp only; omega
    · rw [if_neg k]; simp only; omega
  rw [if_neg g2]
  by_cases g3 : (byt l 0 / 16 == 14 && cnt l 1 && cnt l 2) = true
  · rw [if_pos g3]
    split
    · rename_i k
      simp only [Bool.and_eq_true, decide_eq_true_eq, valid_nat] at k
      simp only; omega
    · simp only; omega
  rw [if_neg g3]
  by_cases g4 : (byt l 0 / 8 == 30 && cnt l 1 && cnt l 2 && cnt l 3) = true
  · rw [if_pos g4]
    split
    · rename_i k
      simp only [Bool.and_eq_true, decide_eq_true_eq, valid_nat] at k
      simp only; omega
    · simp only; omega
  rw [if_neg g4]; simp only; omega

theorem shown_good (r : Int) (h : Sc r) : Good (shownI r) := by
  unfold Good Sc at *
  by_cases a : (r < 32 ∧ r ≠ 10) ∨ (127 ≤ r ∧ r ≤ 159)
  · have e : shownI r = 65533 := by unfold shownI; rw [if_pos a]
    rw [e]; exact ⟨by omega, rfl⟩
  · have e : shownI r = r := by unfold shownI; rw [if_neg a]
    rw [e]; exact ⟨h, e⟩

theorem runes_good (l : List UInt8) : ∀ r ∈ runes l, Good r := by
  generalize hn : l.length = n
  induction n using Nat.strongRecOn generalizing l with
  | _ n ih =>
    by_cases h : l = []
    · subst h; rw [runes_nil]; simp
    · rw [runes_step h]
      have hp := dec_pos l
      have hl : 0 < l.length := List.length_pos_iff.2 h
      intro r hr
      rcases List.mem_cons.1 hr with rfl | hr
      · exact shown_good _ (dec_sc l)
      · exact ih (l.drop (dec l).2).length (by rw [List.length_drop]; omega) _ rfl r hr

theorem runes_again (l : List UInt8) : runes (enc (runes l)) = runes l := runes_enc _ (runes_good l)
theorem runes_pos {l : List UInt8} (h : l ≠ []) : 0 < (runes l).length := by rw [runes_step h]; simp

end Go.Proofs.YtlfffpoeioecjaaDoor

namespace Go.Proofs.YtlfffpoeioecjaaDoor
set_option linter.unusedVariables false

/-- A mark: width 0, no newline. -/
def isMk (r : Int) : Bool := decide (r ≠ 10 ∧ wid r = 0)
theorem isMk_iff (r : Int) : isMk r = true ↔ r ≠ 10 ∧ wid r = 0 := by simp [isMk]
theorem isMk_false (r : Int) : isMk r = false ↔ ¬ (r ≠ 10 ∧ wid r = 0) := by rw [← isMk_iff]; cases isMk r <;> simp

theorem takeWhile_stop {α : Type} (p : α → Bool) (l : List α) (k : Nat) (hk : k ≤ l.length) (h : ∀ j (hj : j < l.length), j < k → p l[j] = true) (he : ∀ hj : k < l.length, p l[k] = false) : l.takeWhile p = l.take k := by
  induction l generalizing k with
  | nil => simp
  | cons a l ih =>
    cases k with
    | zero =>
      have := he (by simp)
      simp at this
      simp [this]
    | succ k =>
      have h0 := h 0 (by simp) (by omega)
      simp at h0
      simp only [List.takeWhile_cons, h0, if_true, List.take_succ_cons]
      rw [ih k (by simpa using hk) (fun j hj hjk => by have := h (j + 1) (by simpa using hj) (by omega); simpa using this) (fun hj => by have := he (by simpa using hj); simpa using this)]

/-- The marks at a list's head. -/
def mks (R : List Int) : List Int := R.takeWhile isMk
theorem mks_le (R : List Int) : (mks R).length ≤ R.length := (List.takeWhile_sublist _).length_le

/-- The first cluster of a list of runes: its base, whether the base is one of them, how many runes it takes. -/
def cBase (R : List Int) : Int := match R with | [] => 32 | r :: _ => if isMk r = true then 32 else r
def cOwn (R : List Int) : Nat := match R with | [] => 0 | r :: _ => if isMk r = true then 0 else 1
def cMarks (R : List Int) : List Int := mks (R.drop (cOwn R))
def cNum (R : List Int) : Nat := match R with | [] => 0 | r :: _ => if r = 10 then 1 else cOwn R + (cMarks R).length
def cText (R : List Int) : List UInt8 := match R with | [] => [] | r :: _ => if r = 10 then [10] else enc (cBase R :: (cMarks R).take 4)
def cWide (R : List Int) : Int := match R with | [] => 0 | r :: _ => if r = 10 then 0 else wid (cBase R)

theorem cNum_pos {R : List Int} (h : R ≠ []) : 1 ≤ cNum R := by
  match R, h with
  | r :: t, _ =>
    simp only [cNum]
    split
    · omega
    · by_cases hm : isMk r = true
      · have e : cOwn (r :: t) = 0 := by simp [cOwn, hm]
        have : cMarks (r :: t) = r :: mks t := by simp [cMarks, e, mks, hm]
        rw [this]; simp; omega
      · have e : cOwn (r :: t) = 1 := by simp [cOwn, hm]
        omega
theorem cNum_le (R : List Int) : cNum R ≤ R.length := by
  match R with
  | [] => simp [cNum]
  | r :: t =>
    simp only [cNum]
    split
    · simp
    · have h1 := mks_le ((r :: t).drop (cOwn (r :: t)))
      rw [List.length_drop] at h1
      have h2 : cOwn (r :: t) ≤ 1 := by simp only [cOwn]; split <;> omega
      simp only [cMarks, List.length_cons] at *
      omega

/-- G4, by at most so many. -/
def clusF : Nat → List Int → List (List UInt8 × Int)
  | 0, _ => []
  | _ + 1, [] => []
  | f + 1, r :: t => (cText (r :: t), cWide (r :: t)) :: clusF f ((r :: t).drop (cNum (r :: t)))
theorem clusF_enough : ∀ (f g : Nat) (l : List Int), l.length ≤ f → l.length ≤ g → clusF f l = clusF g l
  | 0, 0, _, _, _ => rfl
  | 0, g + 1, l, h, _ => by
    have : l = [] := List.length_eq_zero_iff.1 (by omega)
    subst this; rfl
  | f + 1, 0, l, _, h => by
    have : l = [] := List.length_eq_zero_iff.1 (by omega)
    subst this; rfl
  | f + 1, g + 1, [], _, _ => rfl
  | f + 1, g + 1, r :: t, hf, hg => by
    have hp := cNum_pos (R := r :: t) (by simp)
    simp only [List.length_cons] at hf hg
    simp only [clusF]
    rw [clusF_enough f g _ (by rw [List.length_drop, List.length_cons]; omega) (by rw [List.length_drop, List.length_cons]; omega)]
/-- G4. -/
def clus (R : List Int) : List (List UInt8 × Int) := clusF R.length R

theorem clus_nil : clus [] = [] := rfl
theorem clus_step {R : List Int} (h : R ≠ []) : clus R = (cText R, cWide R) :: clus (R.drop (cNum R)) := by
  cases R with
  | nil => exact absurd rfl h
  | cons r t =>
    have hp := cNum_pos (R := r :: t) (by simp)
    show clusF (t.length + 1) (r :: t) = _
    simp only [clusF, clus]
    rw [clusF_enough t.length _ _ (by rw [List.length_drop, List.length_cons]; omega) (Nat.le_refl _)]
theorem clus_length (R : List Int) : (clus R).length ≤ R.length := by
  generalize hn : R.length = n
  induction n using Nat.strongRecOn generalizing R with
  | _ n ih =>
    by_cases h : R = []
    · subst h; rw [clus_nil]; simp
    · rw [clus_step h]
      have hp := cNum_pos h
      have hl : 0 < R.length := List.length_pos_iff.2 h
      have := ih (R.drop (cNum R)).length (by rw [List.length_drop]; omega) _ rfl
      rw [List.length_drop] at this
      simp only [List.length_cons]; omega

theorem wid_blank : wid 32 = 1 := by decide +kernel
theorem cWide_bd (R : List Int) : 0 ≤ cWide R ∧ cWide R ≤ 2 := by
  match R with
  | [] => simp [cWide]
  | r :: t =>
    simp only [cWide]
    split
    · omega
    · exact wid_bd _
theorem clus_wide (R : List Int) : ∀ c ∈ clus R, 0 ≤ c.2 ∧ c.2 ≤ 2 := by
  generalize hn : R.length = n
  induction n using Nat.strongRecOn generalizing R with
  | _ n ih =>
    by_cases h : R = []
    · subst h; rw [clus_nil]; simp
    · rw [clus_step h]
      have hp := cNum_pos h
      have hl : 0 < R.length := List.length_pos_iff.2 h
      intro c hc
      rcases List.mem_cons.1 hc with rfl | hc
      · exact cWide_bd R
      · exact ih (R.drop (cNum R)).length (by rw [List.length_drop]; omega) _ rfl c hc

/-- Columns: the sum of the widths. -/
def wideSum (l : List (List UInt8 × Int)) : Int := (l.map (·.2)).sum
theorem wideSum_snoc (l : List (List UInt8 × Int)) (k : Nat) (h : k < l.length) : wideSum (l.take (k + 1)) = wideSum (l.take k) + (l[k]'h).2 := by
  unfold wideSum
  rw [List.take_succ_eq_append_getElem h, List.map_append, List.sum_append]
  simp only [List.map_cons, List.map_nil, List.sum_cons, List.sum_nil]; omega
theorem wideSum_bd (l : List (List UInt8 × Int)) (h : ∀ c ∈ l, 0 ≤ c.2 ∧ c.2 ≤ 2) (k : Nat) : 0 ≤ wideSum (l.take k) ∧ wideSum (l.take k) ≤ 2 * k := by
  induction k with
  | zero => simp [wideSum]
  | succ k ih =>
    by_cases hk : k < l.length
    · rw [wideSum_snoc l k hk]
      have := h l[k] (List.getElem_mem hk)
      omega
    · rw [List.take_of_length_le (by omega)] at *
      omega

end Go.Proofs.YtlfffpoeioecjaaDoor

namespace Go.Proofs.YtlfffpoeioecjaaDoor
set_option linter.unusedVariables false

def Sty (e : Ce) : Prop := kn e.f = e.f ∧ kn e.g = e.g ∧ bo e.b = e.b
def Txt (e : Ce) (n : Int) : Prop := clus (runes e.t.data.toList) = [(e.t.data.toList, n)]
/-- A cell, in a row from lo up to hi. -/
structure Ok1 (C : Nat → Ce) (lo hi i : Nat) : Prop where
  sty : Sty (C i)
  part : (C i).p = 0 ∨ (C i).p = 1 ∨ (C i).p = 2
  head : (C i).p = 1 → i + 1 < hi ∧ (C (i + 1)).p = 2 ∧ (C (i + 1)).f = (C i).f ∧ (C (i + 1)).g = (C i).g ∧ (C (i + 1)).b = (C i).b
  tail : (C i).p = 2 → lo < i ∧ (C (i - 1)).p = 1 ∧ (C i).t = ⟨#[]⟩
  text : (C i).p ≠ 2 → Txt (C i) ((C i).p + 1)
def RowOk (C : Nat → Ce) (lo hi : Nat) : Prop := ∀ i, lo ≤ i → i < hi → Ok1 C lo hi i
/-- All up to x is right, and no head is ahead of it. -/
structure Upto (C : Nat → Ce) (lo hi x : Nat) : Prop where
  low : lo ≤ x
  high : x ≤ hi
  ok : ∀ i, lo ≤ i → i < x → Ok1 C lo hi i
  no : x = lo ∨ (C (x - 1)).p ≠ 1
section
variable {C : Nat → Ce} {lo hi x : Nat}
theorem Upto.start (h : lo ≤ hi) : Upto C lo hi lo := ⟨Nat.le_refl _, h, fun i h1 h2 => absurd h2 (by omega), .inl rfl⟩
theorem Upto.all (h : Upto C lo hi hi) : RowOk C lo hi := h.ok
theorem Upto.one (h : Upto C lo hi x) (hx : x < hi) (h0 : (C x).p = 0) (hs : Sty (C x)) (ht : Txt (C x) 1) : Upto C lo hi (x + 1) := by
  refine ⟨by have := h.low; omega, hx, fun i h1 h2 => ?_, .inr (by rw [Nat.add_sub_cancel, h0]; decide)⟩
  by_cases e : i = x
  · subst e
    exact ⟨hs, .inl h0, fun q => (by rw [h0] at q; cases q), fun q => (by rw [h0] at q; cases q), fun _ => by rw [h0]; exact ht⟩
  · exact h.ok i h1 (by omega)
theorem Upto.two (h : Upto C lo hi x) (hx : x + 2 ≤ hi) (h0 : (C x).p = 1) (hs : Sty (C x)) (ht : Txt (C x) 2) (h1 : C (x + 1) = ⟨⟨#[]⟩, (C x).f, (C x).g, (C x).b, 2⟩) : Upto C lo hi (x + 2) := by
  have hp : (C (x + 1)).p = 2 := by rw [h1]
  refine ⟨by have := h.low; omega, hx, fun i g1 g2 => ?_, .inr (by rw [show x + 2 - 1 = x + 1 by omega, hp]; decide)⟩
  by_cases e : i = x
  · subst e
    exact ⟨hs, .inr (.inl h0), fun _ => ⟨by omega, hp, by rw [h1], by rw [h1], by rw [h1]⟩, fun q => (by rw [h0] at q; cases q), fun _ => by rw [h0]; exact ht⟩
  · by_cases e2 : i = x + 1
    · subst e2
      exact ⟨by unfold Sty; rw [h1]; exact hs, .inr (.inr hp), fun q => (by rw [hp] at q; cases q), fun _ => ⟨by have := h.low; omega, by rw [Nat.add_sub_cancel]; exact h0, by rw [h1]⟩, fun q => absurd hp q⟩
    · exact h.ok i g1 (by omega)
theorem Upto.bad0 (h : Upto C lo hi x) (hx : x < hi) (h0 : (C x).p = 0) (hn : ¬ (Sty (C x) ∧ Txt (C x) 1)) : ¬ RowOk C lo hi := fun r => by
  have q := r x h.low hx
  refine hn ⟨q.sty, ?_⟩
  have := q.text (by rw [h0]; decide)
  rw [h0] at this
  exact this
theorem Upto.bad1 (h : Upto C lo hi x) (hx : x < hi) (h0 : (C x).p = 1) (hn : ¬ (Sty (C x) ∧ Txt (C x) 2)) : ¬ RowOk C lo hi := fun r => by
  have q := r x h.low hx
  refine hn ⟨q.sty, ?_⟩
  have := q.text (by rw [h0]; decide)
  rw [h0] at this
  exact this
theorem Upto.bad2 (h : Upto C lo hi x) (hx : x < hi) (h0 : (C x).p = 1) (hn : ¬ (x + 2 ≤ hi ∧ C (x + 1) = ⟨⟨#[]⟩, (C x).f, (C x).g, (C x).b, 2⟩)) : ¬ RowOk C lo hi := fun r => by
  have q := r x h.low hx
  obtain ⟨q1, q2, q3, q4, q5⟩ := q.head h0
  have t := r (x + 1) (by have := h.low; omega) q1
  have t2 := (t.tail q2).2.2
  refine hn ⟨q1, ?_⟩
  obtain ⟨e, hc⟩ : ∃ e, C (x + 1) = e := ⟨_, rfl⟩
  rw [hc] at q2 q3 q4 q5 t2
  rw [hc]
  obtain ⟨t, f, g, b, p⟩ := e
  simp only at q2 q3 q4 q5 t2
  rw [q2, q3, q4, q5, t2]
theorem Upto.bad3 (h : Upto C lo hi x) (hx : x < hi) (h0 : (C x).p ≠ 0) (h1 : (C x).p ≠ 1) : ¬ RowOk C lo hi := fun r => by
  have q := r x h.low hx
  have h2 : (C x).p = 2 := by rcases q.part with e | e | e
                              · exact absurd e h0
                              · exact absurd e h1
                              · exact e
  obtain ⟨t1, t2, _⟩ := q.tail h2
  rcases h.no with e | e
  · omega
  · exact e t2
end
/-- Cells in rows of w, n of them, are a screen. -/
def Scr (C : Nat → Ce) (n : Nat) (w : Int) : Prop := ∃ W H : Nat, w = (W : Int) ∧ n = H * W ∧ 1 ≤ W ∧ W ≤ 400 ∧ 1 ≤ H ∧ H ≤ 400 ∧ ∀ y, y < H → RowOk C (y * W) (y * W + W)

end Go.Proofs.YtlfffpoeioecjaaDoor

namespace Go.Proofs.YtlfffpoeioecjaaDoor
open Go.RowKit
set_option linter.unusedVariables false

/-- The table as it lies in memory. -/
def TabAt (w : World) : Prop := ∀ i, i < 26 → w.cell? ⟨2, i * 3, none⟩ = some (.int .i64 (spanAt i).1) ∧ w.cell? ⟨2, i * 3 + 1, none⟩ = some (.int .i64 (spanAt i).2.1) ∧ w.cell? ⟨2, i * 3 + 2, none⟩ = some (.int .i64 (spanAt i).2.2)

set_option maxRecDepth 100000 in
set_option maxHeartbeats 1000000 in
theorem gWidth_any (r : Int) (w : World) (ht : TabAt w) :
    Calls Tryd.prog 98 #[.int .i64 r] w fun e w' => e = .returned (.int .i64 (wid r)) ∧ w' = w := by
  have HT : Hid (TabAt w) := ht
  clear ht
  by_cases h10 : r = 10
  · subst h10
    rw [wid_ten]
    go_enter Tryd.func98, Tryd.ntmps98
    go_wp2
    go_ret
    exact ⟨rfl, rfl⟩
  · have h10' : (r == 10) = false := by simp [h10]
    have H10 : Hid (r ≠ 10) := h10
    clear h10
    go_enter Tryd.func98, Tryd.ntmps98
    go_wp2
    go_loop [3, 4] (fun a b => ∃ lo hi : Nat, lo ≤ hi ∧ hi ≤ 26 ∧ a = .int .i64 lo ∧ b = .int .i64 hi ∧ Hid (Half r lo hi)) (fun a b => (intOf b - intOf a).toNat)
    case atStart => exact ⟨0, 26, by omega, by omega, rfl, rfl, half_start r⟩
    case round =>
      obtain ⟨lo, hi, hle, h26, rfl, rfl, hh⟩ := hrel
      by_cases hlt : lo < hi
      · have hlt' : (lo : Int) < (hi : Int) := by omega
        obtain ⟨mid, hm⟩ : ∃ mid : Nat, mid = (lo + hi) / 2 := ⟨_, rfl⟩
        have hmid : ((lo : Int) + (hi : Int)) / 2 = (mid : Int) := by omega
        have hm26 : mid < 26 := by omega
        have hmlo : lo ≤ mid := by omega
        have hmhi : mid < hi := by omega
        clear hm
        obtain ⟨c0, c1, c2⟩ := HT.out mid hm26
        obtain ⟨a, b, c, hs⟩ : ∃ a b c, spanAt mid = (a, b, c) := ⟨_, _, _, rfl⟩
        rw [hs] at c0 c1 c2
        have HS : Hid (spanAt mid = (a, b, c)) := hs
        clear hs
        have fin1 : r < a → Hid (Half r lo mid) := fun h => half_high hh.out hm26 (by rw [HS.out]; exact h)
        have fin2 : b < r → Hid (Half r (mid + 1) hi) := fun h => half_low hh.out hm26 (by rw [HS.out]; exact h)
        have fin3 : Hid (a ≤ r → r ≤ b → wid r = c) := fun h k => by
          have := wid_span r _ (spanAt_mem hm26) (by rw [HS.out]; exact h) (by rw [HS.out]; exact k)
          rw [HS.out] at this; exact this
        by_cases ha : r < a
        · have h1 := fin1 ha
          clear fin1 fin2 fin3 hh
          go_wp2
          go_round
          case rel => exact ⟨lo, mid, by omega, by omega, rfl, by first | rfl | rw [hmid], h1⟩
          case measure => simp [intOf]; omega
        · by_cases hb : b < r
          · have h2 := fin2 hb
            clear fin1 fin2 fin3 hh
            go_wp2
            go_round
            case rel => exact ⟨mid + 1, hi, by omega, by omega, by first | rfl | go_num | (rw [hmid]; go_num), rfl, h2⟩
            case measure => simp [intOf]; omega
          · have h3 : Hid (wid r = c) := fin3.out (by omega) (by omega)
            clear fin1 fin2 fin3 hh
            go_wp2
            go_ret
            rw [h3.out]
            exact ⟨rfl, rfl⟩
      · have hlt' : ¬ (lo : Int) < (hi : Int) := by omega
        have h3 : Hid (wid r = 1) := half_end hh.out (by omega) H10.out
        clear hh
        go_wp2
        go_ret
        rw [h3.out]
        exact ⟨rfl, rfl⟩

end Go.Proofs.YtlfffpoeioecjaaDoor

namespace Go.Proofs.YtlfffpoeioecjaaDoor
open Go.RowKit
set_option linter.unusedVariables false

set_option maxRecDepth 100000 in
set_option maxHeartbeats 1000000 in
theorem gEncode_none' (a : Option Addr) (cap : Nat) (w : World) :
    Calls Tryd.prog 97 #[.slice a 0 cap] w fun e w' => e = .returned (.string ⟨#[]⟩) ∧ Below w.heap.size w w' := by
  have hcv := conv_own (l := []) (show w.ownsRow w.heap.size 5 1 (.slice none 0 0) 0 (Lib.byteCells []) from World.ownsRow_nil w w.heap.size 5 1)
  go_enter Tryd.func97, Tryd.ntmps97
  go_wp2
  go_loop [3, 8] (fun v i => v = .slice none 0 0 ∧ i = .int .i64 0) (fun _ _ => 0)
  case atStart => exact ⟨rfl, rfl⟩
  case round =>
    obtain ⟨rfl, rfl⟩ := hrel
    go_wp2
    go_ret
    exact ⟨rfl, Below.refl _ _⟩

theorem gEncode_all (zs : List Int) (v : Value) (w : World) (h : Ints w v zs) (hlen : zs.length ≤ 17592186044416) :
    Calls Tryd.prog 97 #[v] w fun e w' => e = .returned (.string ⟨(enc zs).toArray⟩) ∧ Below w.heap.size w w' := by
  obtain ⟨a, cap, rfl, rfl | ⟨b, off, rfl, hb, hc⟩⟩ := h
  · exact gEncode_none' a cap w
  · exact gEncode_some zs b off cap w hb hc hlen

theorem Ints.below' {w w' : World} {v : Value} {zs : List Int} (h : Ints w v zs) (hb : Below w.heap.size w w') : Ints w' v zs := by
  obtain ⟨a, cap, rfl, hh⟩ := h
  refine ⟨a, cap, rfl, ?_⟩
  rcases hh with rfl | ⟨b, off, rfl, hl, hc⟩
  · exact .inl rfl
  · exact .inr ⟨b, off, rfl, Nat.lt_of_lt_of_le hl hb.size, fun j hj => (hb.cell (p := ⟨b, off + j, none⟩) hl).trans (hc j hj)⟩

theorem ints_own' {w : World} {B n : Nat} {v : Value} {zs : List Int} (h : w.ownsRow B 3 1 v n (zs.map (Value.int .i64))) : Ints w v zs := by
  have hl : zs.length = n := by have := h.1; simpa using this
  rcases h.2 with ⟨rfl, rfl⟩ | ⟨g, cap, cur, rfl, _, hg, _⟩
  · have hz : zs = [] := List.length_eq_zero_iff.1 hl
    subst hz
    exact ⟨none, 0, rfl, .inl rfl⟩
  · refine ⟨some ⟨g, 0, none⟩, cap, by rw [hl], .inr ⟨g, 0, rfl, (Array.getElem?_eq_some_iff.1 hg).1, fun j hj => ?_⟩⟩
    have := h.cells (g := g) rfl j (.int .i64 (zs[j]?.getD 0)) (by simp [hj])
    have e : (⟨g, 0, none⟩ : Addr).add j = ⟨g, 0 + j, none⟩ := by unfold Addr.add; split <;> simp_all
    rwa [e] at this

end Go.Proofs.YtlfffpoeioecjaaDoor

namespace Go.Proofs.YtlfffpoeioecjaaDoor
open Go.RowKit
set_option linter.unusedVariables false

theorem gSpansType : (Tryd.prog.globals[2]?).map (·.type) = some 176 := by kernel_rfl
theorem cellsSpan : Tryd.prog.cellsOf 175 = 3 := by kernel_rfl
theorem cellsInt : Tryd.prog.cellsOf 3 = 1 := by kernel_rfl

theorem laid_eq {H : Type} : (Rows.laid_pane_glyph_spans : DataW H) = .agg (spansL.map fun s => .agg [.lit (.int .i64 s.1), .lit (.int .i64 s.2.1), .lit (.int .i64 s.2.2)]) := rfl

theorem one_of {α : Type} {l : List α} {k : Nat} {x : α} (h : (l.drop k).take 1 = [x]) : l[k]? = some x := by
  have := congrArg (·[0]?) h
  simpa [List.getElem?_take, List.getElem?_drop] using this

theorem span_cells {W : World} {base : Nat} {sp : Nat → Bool} {held : Bool} {fuel : Nat} {cs : List Value} {a b c : Int} {p : List MemPlace}
    (h : DataW.trod (fun _ => ()) Tryd.prog W base sp held fuel 175 cs = some (.agg [.lit (.int .i64 a), .lit (.int .i64 b), .lit (.int .i64 c)], p)) :
    cs[0]? = some (.int .i64 a) ∧ cs[1]? = some (.int .i64 b) ∧ cs[2]? = some (.int .i64 c) := by
  obtain ⟨xs, n, _, hx, _, hl, hf⟩ := DataW.trod_struct Tryd.underlying175 h
  have hl3 : xs.length = 3 := hl
  match xs, hl3 with
  | [x0, x1, x2], _ =>
    have hx' := congrArg Prod.fst hx
    simp only [List.map_cons, List.map_nil, DataW.agg.injEq, List.cons.injEq, and_true] at hx'
    obtain ⟨e0, e1, e2⟩ := hx'
    have f0 : DataW.trod (fun _ => ()) Tryd.prog W base sp held n 3 ((cs.drop 0).take (Tryd.prog.cellsOf 3)) = some x0 := hf 0 _ rfl
    have f1 : DataW.trod (fun _ => ()) Tryd.prog W base sp held n 3 ((cs.drop 1).take (Tryd.prog.cellsOf 3)) = some x1 := hf 1 _ rfl
    have f2 : DataW.trod (fun _ => ()) Tryd.prog W base sp held n 3 ((cs.drop 2).take (Tryd.prog.cellsOf 3)) = some x2 := hf 2 _ rfl
    rw [cellsInt] at f0 f1 f2
    obtain ⟨z0, h0, y0, _⟩ := DataW.trod_int Tryd.underlying3 f0
    obtain ⟨z1, h1, y1, _⟩ := DataW.trod_int Tryd.underlying3 f1
    obtain ⟨z2, h2, y2, _⟩ := DataW.trod_int Tryd.underlying3 f2
    have g0 := one_of h0
    have g1 := one_of h1
    have g2 := one_of h2
    rw [y0] at e0; rw [y1] at e1; rw [y2] at e2
    simp only [DataW.lit.injEq, Lit.int.injEq, true_and] at e0 e1 e2
    subst e0 e1 e2
    exact ⟨g0, g1, g2⟩

theorem tab_of {W : World} {nm : String} (gSpans : Tryd.prog.globalNamed nm = some 2) (h : laidMet Tryd.prog [(nm, Rows.laid_pane_glyph_spans)] W) : TabAt W := by
  obtain ⟨ps, ⟨g', t', cs, fuel, p, q, hg', ht', hvar, hd, _, _⟩, _⟩ := h
  obtain rfl := Option.some.inj (gSpans.symm.trans hg')
  obtain rfl := Option.some.inj (gSpansType.symm.trans ht')
  rw [laid_eq] at hd
  obtain ⟨xs, n, _, hx, _, hl, hf⟩ := DataW.trod_array Tryd.underlying176 hd
  have hx' : xs.map (·.1) = spansL.map fun s => (.agg [.lit (.int .i64 s.1), .lit (.int .i64 s.2.1), .lit (.int .i64 s.2.2)] : DataW Unit) := by
    have := congrArg Prod.fst hx
    simp only [DataW.agg.injEq] at this
    exact this.symm
  intro i hi
  have f := hf i hi
  rw [cellsSpan] at f
  have hs : spansL[i]? = some (spanAt i) := by
    unfold spanAt
    have : i < spansL.length := hi
    rw [List.getD_eq_getElem?_getD, List.getElem?_eq_getElem this]; rfl
  have e : (xs.map (·.1))[i]? = some (.agg [.lit (.int .i64 (spanAt i).1), .lit (.int .i64 (spanAt i).2.1), .lit (.int .i64 (spanAt i).2.2)] : DataW Unit) := by
    rw [hx', List.getElem?_map, hs]; rfl
  rw [List.getElem?_map] at e
  obtain ⟨y, hy, ey⟩ := Option.map_eq_some_iff.1 e
  rw [hy] at f
  obtain ⟨d, pl⟩ := y
  simp only at ey
  subst ey
  obtain ⟨k0, k1, k2⟩ := span_cells f
  have at' : ∀ k v, k < 3 → ((cs.toList.drop (i * 3)).take 3)[k]? = some v → cs[i * 3 + k]? = some v := by
    intro k v hk hv
    rw [List.getElem?_take, if_pos hk, List.getElem?_drop, Array.getElem?_toList] at hv
    exact hv
  have c := fun k => World.var?_cell gSpans hvar k
  exact ⟨(c (i * 3)).trans (at' 0 _ (by omega) k0), (c (i * 3 + 1)).trans (at' 1 _ (by omega) k1), (c (i * 3 + 2)).trans (at' 2 _ (by omega) k2)⟩

/-- The table stays where memory below stays. -/
theorem TabAt.below {w w' : World} (h : TabAt w) (hb : Below w.heap.size w w') : TabAt w' := by
  intro i hi
  obtain ⟨a, b, c⟩ := h i hi
  have ha := World.block_lt_of_cell? w _ a
  exact ⟨(hb.cell ha).trans a, (hb.cell (p := ⟨2, i * 3 + 1, none⟩) ha).trans b, (hb.cell (p := ⟨2, i * 3 + 2, none⟩) ha).trans c⟩

/-- For the witness: a world whose table holds what its initialiser lays. -/
def tabObj : Obj → Obj
  | .cells _ t frozen => .cells ((spansL.flatMap fun s => [Value.int .i64 s.1, .int .i64 s.2.1, .int .i64 s.2.2]).toArray) t frozen
  | o => o
def withTab (w : World) : World := { w with heap := w.heap.modify 2 tabObj }

end Go.Proofs.YtlfffpoeioecjaaDoor
