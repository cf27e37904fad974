/-
  Plain mathematics of G4, G5: a list of runes in clusters.
-/
import Derived.Test.YtkdajaphbmclkaaGreatDoorWid
import Derived.Test.YtkdajaphbmclkaaGreatDoorAgain
namespace Go.Proofs.YtkdajaphbmclkaaGreatDoor
set_option linter.unusedVariables false

/-- A mark: width 0, no newline. -/
def isMk (r : Int) : Bool := decide (r ≠ 10 ∧ wid r = 0)
theorem isMk_iff (r : Int) : isMk r = true ↔ r ≠ 10 ∧ wid r = 0 := by simp [isMk]
theorem isMk_false (r : Int) : isMk r = false ↔ ¬ (r ≠ 10 ∧ wid r = 0) := by rw [← isMk_iff]; cases isMk r <;> simp

theorem takeWhile_stop {α : Type} (p : α → Bool) (l : List α) (k : Nat) (hk : k ≤ l.length) (h : ∀ j (hj : j < l.length), j < k → p l[j] = true) (he : ∀ hj : k < l.length, p l[k] = false) : l.takeWhile p = l.take k := by
  induction l generalizing k with
  | nil => simp
  | cons a l ih =>
    cases k with
    | zero =>
      have := he (by simp)
      simp at this
      simp [this]
    | succ k =>
      have h0 := h 0 (by simp) (by omega)
      simp at h0
      simp only [List.takeWhile_cons, h0, if_true, List.take_succ_cons]
      rw [ih k (by simpa using hk) (fun j hj hjk => by have := h (j + 1) (by simpa using hj) (by omega); simpa using this) (fun hj => by have := he (by simpa using hj); simpa using this)]

/-- The marks at a list's head. -/
def mks (R : List Int) : List Int := R.takeWhile isMk
theorem mks_le (R : List Int) : (mks R).length ≤ R.length := (List.takeWhile_sublist _).length_le

/-- The first cluster of a list of runes: its base, whether the base is one of them, how many runes it takes. -/
def cBase (R : List Int) : Int := match R with | [] => 32 | r :: _ => if isMk r = true then 32 else r
def cOwn (R : List Int) : Nat := match R with | [] => 0 | r :: _ => if isMk r = true then 0 else 1
def cMarks (R : List Int) : List Int := mks (R.drop (cOwn R))
def cNum (R : List Int) : Nat := match R with | [] => 0 | r :: _ => if r = 10 then 1 else cOwn R + (cMarks R).length
def cText (R : List Int) : List UInt8 := match R with | [] => [] | r :: _ => if r = 10 then [10] else enc (cBase R :: (cMarks R).take 4)
def cWide (R : List Int) : Int := match R with | [] => 0 | r :: _ => if r = 10 then 0 else wid (cBase R)

theorem cNum_pos {R : List Int} (h : R ≠ []) : 1 ≤ cNum R := by
  match R, h with
  | r :: t, _ =>
    simp only [cNum]
    split
    · omega
    · by_cases hm : isMk r = true
      · have e : cOwn (r :: t) = 0 := by simp [cOwn, hm]
        have : cMarks (r :: t) = r :: mks t := by simp [cMarks, e, mks, hm]
        rw [this]; simp; omega
      · have e : cOwn (r :: t) = 1 := by simp [cOwn, hm]
        omega
theorem cNum_le (R : List Int) : cNum R ≤ R.length := by
  match R with
  | [] => simp [cNum]
  | r :: t =>
    simp only [cNum]
    split
    · simp
    · have h1 := mks_le ((r :: t).drop (cOwn (r :: t)))
      rw [List.length_drop] at h1
      have h2 : cOwn (r :: t) ≤ 1 := by simp only [cOwn]; split <;> omega
      simp only [cMarks, List.length_cons] at *
      omega

/-- G4, by at most so many. -/
def clusF : Nat → List Int → List (List UInt8 × Int)
  | 0, _ => []
  | _ + 1, [] => []
  | f + 1, r :: t => (cText (r :: t), cWide (r :: t)) :: clusF f ((r :: t).drop (cNum (r :: t)))
theorem clusF_enough : ∀ (f g : Nat) (l : List Int), l.length ≤ f → l.length ≤ g → clusF f l = clusF g l
  | 0, 0, _, _, _ => rfl
  | 0, g + 1, l, h, _ => by
    have : l = [] := List.length_eq_zero_iff.1 (by omega)
    subst this; rfl
  | f + 1, 0, l, _, h => by
    have : l = [] := List.length_eq_zero_iff.1 (by omega)
    subst this; rfl
  | f + 1, g + 1, [], _, _ => rfl
  | f + 1, g + 1, r :: t, hf, hg => by
    have hp := cNum_pos (R := r :: t) (by simp)
    simp only [List.length_cons] at hf hg
    simp only [clusF]
    rw [clusF_enough f g _ (by rw [List.length_drop, List.length_cons]; omega) (by rw [List.length_drop, List.length_cons]; omega)]
/-- G4. -/
def clus (R : List Int) : List (List UInt8 × Int) := clusF R.length R

theorem clus_nil : clus [] = [] := rfl
theorem clus_step {R : List Int} (h : R ≠ []) : clus R = (cText R, cWide R) :: clus (R.drop (cNum R)) := by
  cases R with
  | nil => exact absurd rfl h
  | cons r t =>
    have hp := cNum_pos (R := r :: t) (by simp)
    show clusF (t.length + 1) (r :: t) = _
    simp only [clusF, clus]
    rw [clusF_enough t.length _ _ (by rw [List.length_drop, List.length_cons]; omega) (Nat.le_refl _)]
theorem clus_length (R : List Int) : (clus R).length ≤ R.length := by
  generalize hn : R.length = n
  induction n using Nat.strongRecOn generalizing R with
  | _ n ih =>
    by_cases h : R = []
    · subst h; rw [clus_nil]; simp
    · rw [clus_step h]
      have hp := cNum_pos h
      have hl : 0 < R.length := List.length_pos_iff.2 h
      have := ih (R.drop (cNum R)).length (by rw [List.length_drop]; omega) _ rfl
      rw [List.length_drop] at this
      simp only [List.length_cons]; omega

theorem wid_blank : wid 32 = 1 := by decide +kernel
theorem cWide_bd (R : List Int) : 0 ≤ cWide R ∧ cWide R ≤ 2 := by
  match R with
  | [] => simp [cWide]
  | r :: t =>
    simp only [cWide]
    split
    · omega
    · exact wid_bd _
theorem clus_wide (R : List Int) : ∀ c ∈ clus R, 0 ≤ c.2 ∧ c.2 ≤ 2 := by
  generalize hn : R.length = n
  induction n using Nat.strongRecOn generalizing R with
  | _ n ih =>
    by_cases h : R = []
    · subst h; rw [clus_nil]; simp
    · rw [clus_step h]
      have hp := cNum_pos h
      have hl : 0 < R.length := List.length_pos_iff.2 h
      intro c hc
      rcases List.mem_cons.1 hc with rfl | hc
      · exact cWide_bd R
      · exact ih (R.drop (cNum R)).length (by rw [List.length_drop]; omega) _ rfl c hc

/-- Columns: the sum of the widths. -/
def wideSum (l : List (List UInt8 × Int)) : Int := (l.map (·.2)).sum
theorem wideSum_snoc (l : List (List UInt8 × Int)) (k : Nat) (h : k < l.length) : wideSum (l.take (k + 1)) = wideSum (l.take k) + (l[k]'h).2 := by
  unfold wideSum
  rw [List.take_succ_eq_append_getElem h, List.map_append, List.sum_append]
  simp only [List.map_cons, List.map_nil, List.sum_cons, List.sum_nil]; omega
theorem wideSum_bd (l : List (List UInt8 × Int)) (h : ∀ c ∈ l, 0 ≤ c.2 ∧ c.2 ≤ 2) (k : Nat) : 0 ≤ wideSum (l.take k) ∧ wideSum (l.take k) ≤ 2 * k := by
  induction k with
  | zero => simp [wideSum]
  | succ k ih =>
    by_cases hk : k < l.length
    · rw [wideSum_snoc l k hk]
      have := h l[k] (List.getElem_mem hk)
      omega
    · rw [List.take_of_length_le (by omega)] at *
      omega

end Go.Proofs.YtkdajaphbmclkaaGreatDoor
