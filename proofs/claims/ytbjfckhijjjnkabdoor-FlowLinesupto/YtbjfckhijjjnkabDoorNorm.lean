/-
  Plain mathematics of GlyphJoined and GlyphParted.
-/
import Derived.Test.YtbjfckhijjjnkabDoorClus
namespace Go.Proofs.YtbjfckhijjjnkabDoor
set_option linter.unusedVariables false

theorem isMk_ten : isMk 10 = false := by rw [isMk_false]; simp
theorem isMk_blank : isMk 32 = false := by rw [isMk_false, wid_blank]; simp

/-- The runes that a list's first cluster keeps. -/
def cRunes (R : List Int) : List Int := match R with | [] => [] | r :: _ => if r = 10 then [10] else cBase R :: (cMarks R).take 4
theorem enc_ten : enc [10] = [10] := by decide +kernel
theorem cText_enc (R : List Int) : cText R = enc (cRunes R) := by
  match R with
  | [] => rfl
  | r :: t =>
    simp only [cText, cRunes]
    split
    · rw [enc_ten]
    · rfl

def normF : Nat → List Int → List Int
  | 0, _ => []
  | _ + 1, [] => []
  | f + 1, r :: t => cRunes (r :: t) ++ normF f ((r :: t).drop (cNum (r :: t)))
theorem normF_enough : ∀ (f g : Nat) (l : List Int), l.length ≤ f → l.length ≤ g → normF f l = normF g l
  | 0, 0, _, _, _ => rfl
  | 0, g + 1, l, h, _ => by
    have : l = [] := List.length_eq_zero_iff.1 (by omega)
    subst this; rfl
  | f + 1, 0, l, _, h => by
    have : l = [] := List.length_eq_zero_iff.1 (by omega)
    subst this; rfl
  | f + 1, g + 1, [], _, _ => rfl
  | f + 1, g + 1, r :: t, hf, hg => by
    have hp := cNum_pos (R := r :: t) (by simp)
    simp only [List.length_cons] at hf hg
    simp only [normF]
    rw [normF_enough f g _ (by rw [List.length_drop, List.length_cons]; omega) (by rw [List.length_drop, List.length_cons]; omega)]
/-- The runes that the clusters keep. -/
def norm (R : List Int) : List Int := normF R.length R
theorem norm_nil : norm [] = [] := rfl
theorem norm_step {R : List Int} (h : R ≠ []) : norm R = cRunes R ++ norm (R.drop (cNum R)) := by
  cases R with
  | nil => exact absurd rfl h
  | cons r t =>
    have hp := cNum_pos (R := r :: t) (by simp)
    show normF (t.length + 1) (r :: t) = _
    simp only [normF, norm]
    rw [normF_enough t.length _ _ (by rw [List.length_drop, List.length_cons]; omega) (Nat.le_refl _)]

theorem enc_app (a b : List Int) : enc (a ++ b) = enc a ++ enc b := by simp [enc]

/-- The clusters' texts one behind the other. -/
def joined (l : List (List UInt8 × Int)) : List UInt8 := l.flatMap (·.1)
theorem joined_enc (R : List Int) : joined (clus R) = enc (norm R) := by
  generalize hn : R.length = n
  induction n using Nat.strongRecOn generalizing R with
  | _ n ih =>
    by_cases h : R = []
    · subst h; rw [clus_nil, norm_nil]; rfl
    · have hp := cNum_pos h
      have hl : 0 < R.length := List.length_pos_iff.2 h
      have e := ih (R.drop (cNum R)).length (by rw [List.length_drop]; omega) _ rfl
      rw [clus_step h, norm_step h, enc_app, ← e, ← cText_enc]
      rfl

/-- No mark begins it. -/
def NoMk (X : List Int) : Prop := ∀ x, X.head? = some x → isMk x = false
theorem mks_app (M X : List Int) (hM : ∀ m ∈ M, isMk m = true) (hX : NoMk X) : mks (M ++ X) = M := by
  unfold mks
  rw [List.takeWhile_append_of_pos (fun a ha => hM a ha)]
  cases X with
  | nil => simp
  | cons x X =>
    have := hX x rfl
    simp [this]

theorem mks_mem (L : List Int) : ∀ m ∈ mks L, isMk m = true := by
  unfold mks
  induction L with
  | nil => simp
  | cons a L ih =>
    intro m hm
    by_cases ha : isMk a = true
    · rw [List.takeWhile_cons, if_pos ha] at hm
      rcases List.mem_cons.1 hm with rfl | hm
      · exact ha
      · exact ih m hm
    · rw [List.takeWhile_cons, if_neg ha] at hm; cases hm

theorem cBase_no (r : Int) (t : List Int) : isMk (cBase (r :: t)) = false := by
  simp only [cBase]
  split
  · exact isMk_blank
  · rename_i h; simpa using h
theorem cRunes_no {R : List Int} (h : R ≠ []) (X : List Int) : NoMk (cRunes R ++ X) := by
  match R, h with
  | r :: t, _ =>
    intro x hx
    simp only [cRunes] at hx
    split at hx
    · simp at hx; subst hx; exact isMk_ten
    · simp at hx; subst hx; exact cBase_no r t
theorem norm_no (R : List Int) : NoMk (norm R) := by
  by_cases h : R = []
  · subst h; rw [norm_nil]; intro x hx; simp at hx
  · rw [norm_step h]; exact cRunes_no h _

theorem cBase_ten {r : Int} {t : List Int} (h : r ≠ 10) : cBase (r :: t) ≠ 10 := by
  simp only [cBase]; split
  · omega
  · exact h

theorem clus_app {R : List Int} (h : R ≠ []) (X : List Int) (hX : NoMk X) : clus (cRunes R ++ X) = (cText R, cWide R) :: clus X := by
  match R, h with
  | r :: t, _ =>
    by_cases h10 : r = 10
    · have e1 : cRunes (r :: t) = [10] := by simp only [cRunes, if_pos h10]
      have e2 : cText (r :: t) = [10] := by simp only [cText, if_pos h10]
      have e3 : cWide (r :: t) = 0 := by simp only [cWide, if_pos h10]
      rw [e1, e2, e3]
      show clus (10 :: X) = _
      rw [clus_step (by simp)]
      simp [cText, cWide, cNum]
    · have e1 : cRunes (r :: t) = cBase (r :: t) :: (cMarks (r :: t)).take 4 := by simp only [cRunes, if_neg h10]
      have e2 : cText (r :: t) = enc (cBase (r :: t) :: (cMarks (r :: t)).take 4) := by simp only [cText, if_neg h10]
      have e3 : cWide (r :: t) = wid (cBase (r :: t)) := by simp only [cWide, if_neg h10]
      have hb := cBase_no r t
      have hb10 := cBase_ten (t := t) h10
      have hM : ∀ m ∈ (cMarks (r :: t)).take 4, isMk m = true := fun m hm => mks_mem _ m (List.mem_of_mem_take hm)
      have hM4 : ((cMarks (r :: t)).take 4).length ≤ 4 := by rw [List.length_take]; omega
      rw [e1, e2, e3]
      generalize cBase (r :: t) = B at *
      generalize (cMarks (r :: t)).take 4 = M at *
      have hb' : ¬ isMk B = true := by rw [hb]; simp
      rw [List.cons_append, clus_step (by simp)]
      have o1 : cOwn (B :: (M ++ X)) = 1 := by simp only [cOwn, if_neg hb']
      have o2 : cBase (B :: (M ++ X)) = B := by simp only [cBase, if_neg hb']
      have o3 : cMarks (B :: (M ++ X)) = M := by unfold cMarks; rw [o1]; exact mks_app M X hM hX
      have o4 : cNum (B :: (M ++ X)) = 1 + M.length := by simp only [cNum, if_neg hb10, o1, o3]
      have o5 : cText (B :: (M ++ X)) = enc (B :: M) := by simp only [cText, if_neg hb10, o2, o3]; rw [List.take_of_length_le hM4]
      have o6 : cWide (B :: (M ++ X)) = wid B := by simp only [cWide, if_neg hb10, o2]
      rw [o4, o5, o6, Nat.add_comm, List.drop_succ_cons, List.drop_left]

theorem clus_norm (R : List Int) : clus (norm R) = clus R := by
  generalize hn : R.length = n
  induction n using Nat.strongRecOn generalizing R with
  | _ n ih =>
    by_cases h : R = []
    · subst h; rw [norm_nil]
    · have hp := cNum_pos h
      have hl : 0 < R.length := List.length_pos_iff.2 h
      have e := ih (R.drop (cNum R)).length (by rw [List.length_drop]; omega) _ rfl
      rw [norm_step h, clus_app h _ (norm_no _), e, clus_step h]

theorem good_blank : Good 32 := ⟨.inl (by omega), rfl⟩
theorem good_ten : Good 10 := ⟨.inl (by omega), rfl⟩
theorem cRunes_good (R : List Int) (h : ∀ r ∈ R, Good r) : ∀ r ∈ cRunes R, Good r := by
  match R with
  | [] => intro r hr; simp [cRunes] at hr
  | r :: t =>
    intro x hx
    simp only [cRunes] at hx
    split at hx
    · simp at hx; subst hx; exact good_ten
    · rcases List.mem_cons.1 hx with rfl | hx
      · simp only [cBase]
        split
        · exact good_blank
        · exact h r (by simp)
      · have h1 := List.mem_of_mem_take hx
        unfold cMarks mks at h1
        have h2 := (List.takeWhile_sublist _).subset h1
        exact h x (List.mem_of_mem_drop h2)
theorem norm_good (R : List Int) (h : ∀ r ∈ R, Good r) : ∀ r ∈ norm R, Good r := by
  generalize hn : R.length = n
  induction n using Nat.strongRecOn generalizing R with
  | _ n ih =>
    by_cases he : R = []
    · subst he; rw [norm_nil]; simp
    · have hp := cNum_pos he
      have hl : 0 < R.length := List.length_pos_iff.2 he
      intro r hr
      rw [norm_step he] at hr
      rcases List.mem_append.1 hr with hr | hr
      · exact cRunes_good R h r hr
      · exact ih (R.drop (cNum R)).length (by rw [List.length_drop]; omega) _ (fun x hx => h x (List.mem_of_mem_drop hx)) rfl r hr

theorem cRunes_length (R : List Int) : (cRunes R).length ≤ 5 := by
  match R with
  | [] => simp [cRunes]
  | r :: t =>
    simp only [cRunes]
    split
    · simp
    · simp only [List.length_cons, List.length_take]; omega
theorem norm_length (R : List Int) : (norm R).length ≤ 5 * R.length := by
  generalize hn : R.length = n
  induction n using Nat.strongRecOn generalizing R with
  | _ n ih =>
    by_cases h : R = []
    · subst h; rw [norm_nil]; simp
    · have hp := cNum_pos h
      have hle := cNum_le R
      have hl : 0 < R.length := List.length_pos_iff.2 h
      have e := ih (R.drop (cNum R)).length (by rw [List.length_drop]; omega) _ rfl
      rw [List.length_drop] at e
      have c := cRunes_length R
      rw [norm_step h, List.length_append]
      omega

/-- GlyphJoined's heart. -/
theorem joined_again (s : List UInt8) : clus (runes (joined (clus (runes s)))) = clus (runes s) := by
  rw [joined_enc, runes_enc _ (norm_good _ (runes_good s)), clus_norm]
theorem joined_length (s : List UInt8) : (joined (clus (runes s))).length ≤ 20 * s.length := by
  have a := enc_le (norm (runes s))
  have b := norm_length (runes s)
  have c := runes_length s
  rw [joined_enc]
  omega
theorem clus_pos {R : List Int} (h : R ≠ []) : 0 < (clus R).length := by rw [clus_step h]; simp

theorem joined_snoc (l : List (List UInt8 × Int)) (k : Nat) (h : k < l.length) : joined (l.take (k + 1)) = joined (l.take k) ++ (l[k]'h).1 := by
  unfold joined
  rw [List.take_succ_eq_append_getElem h, List.flatMap_append]
  simp
theorem joined_take_le (l : List (List UInt8 × Int)) (k : Nat) : (joined (l.take k)).length ≤ (joined l).length := by
  unfold joined
  have e : l = l.take k ++ l.drop k := (List.take_append_drop k l).symm
  have : (l.flatMap (·.1)).length = ((l.take k).flatMap (·.1)).length + ((l.drop k).flatMap (·.1)).length := by
    rw [← List.length_append, ← List.flatMap_append, List.take_append_drop]
  omega

end Go.Proofs.YtbjfckhijjjnkabDoor
