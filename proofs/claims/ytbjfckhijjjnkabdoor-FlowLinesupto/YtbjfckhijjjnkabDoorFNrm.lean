/-
  Plain mathematics: runs of clusters are read again as they are.
-/
import Derived.Test.YtbjfckhijjjnkabDoorFMath
namespace Go.Proofs.YtbjfckhijjjnkabDoor
set_option linter.unusedVariables false

theorem str_app (a b : List UInt8) : (⟨a.toArray⟩ : ByteArray) ++ (⟨b.toArray⟩ : ByteArray) = ⟨(a ++ b).toArray⟩ := by
  apply ByteArray.ext
  simp

/-- A cluster that is read as it is, whatever is behind it. -/
def Nrm (c : List UInt8 × Int) : Prop := ∃ X, (∀ r ∈ X, Good r) ∧ X ≠ [] ∧ NoMk X ∧ enc X = c.1 ∧ ∀ Y, NoMk Y → clus (X ++ Y) = c :: clus Y
theorem nomk_nil : NoMk [] := fun x hx => by simp at hx
theorem nomk_app {X : List Int} (h : X ≠ []) (hX : NoMk X) (Y : List Int) : NoMk (X ++ Y) := by
  match X, h with
  | x :: t, _ => intro y hy; exact hX y (by simpa using hy)
theorem clus_nrm (R : List Int) (hg : ∀ r ∈ R, Good r) : ∀ c ∈ clus R, Nrm c := by
  generalize hn : R.length = n
  induction n using Nat.strongRecOn generalizing R with
  | _ n ih =>
    by_cases h : R = []
    · subst h; rw [clus_nil]; simp
    · have hp := cNum_pos h
      have hl : 0 < R.length := List.length_pos_iff.2 h
      rw [clus_step h]
      intro c hc
      rcases List.mem_cons.1 hc with rfl | hc
      · have hne : cRunes R ≠ [] := by
          match R, h with
          | r :: t, _ => simp only [cRunes]; split <;> simp
        exact ⟨cRunes R, cRunes_good R hg, hne, by simpa using cRunes_no h [], (cText_enc R).symm, fun Y hY => clus_app h Y hY⟩
      · exact ih (R.drop (cNum R)).length (by rw [List.length_drop]; omega) _ (fun x hx => hg x (List.mem_of_mem_drop hx)) rfl c hc
theorem nrm_join : ∀ (L : List (List UInt8 × Int)), (∀ c ∈ L, Nrm c) → ∃ X, (∀ r ∈ X, Good r) ∧ NoMk X ∧ enc X = joined L ∧ clus X = L
  | [], _ => ⟨[], by simp, nomk_nil, rfl, rfl⟩
  | c :: L, h => by
    obtain ⟨Y, hYg, hYm, hYe, hYc⟩ := nrm_join L (fun x hx => h x (by simp [hx]))
    obtain ⟨X, hXg, hX0, hXm, hXe, hXc⟩ := h c (by simp)
    refine ⟨X ++ Y, fun r hr => ?_, nomk_app hX0 hXm Y, ?_, ?_⟩
    · rcases List.mem_append.1 hr with hr | hr
      · exact hXg r hr
      · exact hYg r hr
    · rw [enc_app, hXe, hYe, joined_cons]
    · rw [hXc Y hYm, hYc]
/-- The text of a run of such clusters has just these clusters. -/
theorem nrm_again (L : List (List UInt8 × Int)) (h : ∀ c ∈ L, Nrm c) : clus (runes (joined L)) = L := by
  obtain ⟨X, hg, _, he, hc⟩ := nrm_join L h
  rw [← he, runes_enc X hg, hc]
theorem nrm_one (r : Int) (hg : Good r) (hm : isMk r = false) (h10 : r ≠ 10) : Nrm (enc [r], wid r) := by
  refine ⟨[r], by simpa using hg, by simp, fun x hx => by simp at hx; subst hx; exact hm, rfl, fun Y hY => ?_⟩
  have hm' : ¬ isMk r = true := by rw [hm]; simp
  show clus (r :: Y) = _
  rw [clus_step (by simp)]
  have o1 : cOwn (r :: Y) = 1 := by simp only [cOwn, if_neg hm']
  have o2 : cBase (r :: Y) = r := by simp only [cBase, if_neg hm']
  have o3 : cMarks (r :: Y) = [] := by unfold cMarks; rw [o1]; exact mks_app [] Y (by simp) hY
  have o4 : cNum (r :: Y) = 1 := by simp only [cNum, if_neg h10, o1, o3]; rfl
  have o5 : cText (r :: Y) = enc [r] := by simp only [cText, if_neg h10, o2, o3]; rfl
  have o6 : cWide (r :: Y) = wid r := by simp only [cWide, if_neg h10, o2]
  rw [o4, o5, o6]; rfl
theorem enc_blank : enc [32] = [32] := by decide +kernel
theorem wid_dots : wid 8230 = 1 := by decide +kernel
theorem enc_dots : enc [8230] = [226, 128, 166] := by decide +kernel
theorem good_dots : Good 8230 := ⟨.inl (by omega), rfl⟩
theorem nrm_blank : Nrm ([32], 1) := by
  have := nrm_one 32 good_blank isMk_blank (by omega)
  rw [enc_blank, wid_blank] at this; exact this
theorem nrm_dots : Nrm ([226, 128, 166], 1) := by
  have := nrm_one 8230 good_dots (by rw [isMk_false, wid_dots]; simp) (by omega)
  rw [enc_dots, wid_dots] at this; exact this
theorem nrm_text {c : List UInt8 × Int} (h : Nrm c) : c.1 ≠ [] := by
  obtain ⟨X, hg, h0, _, he, _⟩ := h
  match X, h0 with
  | x :: t, _ =>
    rw [← he, enc_cons]
    exact encodeRune_ne x _
theorem nrm_uniq {c d : List UInt8 × Int} (h : Nrm c) (h' : Nrm d) (e : c.1 = d.1) : c = d := by
  have a := nrm_again [c] (by simpa using h)
  have b := nrm_again [d] (by simpa using h')
  have : joined [c] = joined [d] := by simp [joined, e]
  rw [this, b] at a
  simpa using a.symm
theorem nrm_blank_one {c : List UInt8 × Int} (h : Nrm c) (e : c.1 = [32]) : c.2 = 1 := by
  rw [nrm_uniq h nrm_blank e]
theorem good_bd {r : Int} (h : Good r) : 0 ≤ r ∧ r ≤ 1114111 := by
  rcases h.1 with h | h <;> omega
theorem ten_encode (r : Int) (h : Good r) (hr : r ≠ 10) : (10 : UInt8) ∉ Lib.encodeRune r := by
  intro hm
  have hs := h.1
  unfold Lib.encodeRune at hm
  obtain ⟨x, hx, hx10⟩ := List.mem_map.1 hm
  have hb := Lib.encodeRuneZ_byte r x hx
  have e10 : x = 10 := by
    have := congrArg UInt8.toNat hx10
    rw [u8n x hb.1 hb.2] at this
    have e : (10 : UInt8).toNat = 10 := rfl
    rw [e] at this
    omega
  subst e10
  by_cases h1 : r ≤ 127
  · rw [Lib.encodeRuneZ_one (by unfold Sc at hs; omega) h1] at hx
    simp at hx; omega
  · by_cases h2 : r ≤ 2047
    · rw [Lib.encodeRuneZ_two (by omega) h2] at hx
      simp at hx; omega
    · by_cases h3 : r ≤ 65535
      · rw [Lib.encodeRuneZ_three (by unfold Sc at hs; omega)] at hx
        simp at hx; omega
      · rw [Lib.encodeRuneZ_four (by omega) (by unfold Sc at hs; omega)] at hx
        simp at hx; omega
theorem ten_enc (X : List Int) (h : ∀ r ∈ X, Good r ∧ r ≠ 10) : (10 : UInt8) ∉ enc X := by
  intro hm
  obtain ⟨r, hr, hx⟩ := List.mem_flatMap.1 hm
  exact ten_encode r (h r hr).1 (h r hr).2 hx
/-- A newline stands in no cluster but its own. -/
theorem clus_noten (R : List Int) (hg : ∀ r ∈ R, Good r) : ∀ c ∈ clus R, c.1 = [10] ∨ (10 : UInt8) ∉ c.1 := by
  generalize hn : R.length = n
  induction n using Nat.strongRecOn generalizing R with
  | _ n ih =>
    by_cases h : R = []
    · subst h; rw [clus_nil]; simp
    · have hp := cNum_pos h
      have hl : 0 < R.length := List.length_pos_iff.2 h
      rw [clus_step h]
      intro c hc
      rcases List.mem_cons.1 hc with rfl | hc
      · have hgood := cRunes_good R hg
        show cText R = [10] ∨ (10 : UInt8) ∉ cText R
        rw [cText_enc]
        match R, h with
        | r :: t, _ =>
          by_cases h10 : r = 10
          · left
            simp only [cRunes, if_pos h10, enc_ten]
          · right
            refine ten_enc _ fun x hx => ⟨hgood x hx, ?_⟩
            simp only [cRunes, if_neg h10] at hx
            rcases List.mem_cons.1 hx with rfl | hx
            · exact cBase_ten h10
            · have := mks_mem _ x (List.mem_of_mem_take hx)
              rw [isMk_iff] at this
              exact this.1
      · exact ih (R.drop (cNum R)).length (by rw [List.length_drop]; omega) _ (fun x hx => hg x (List.mem_of_mem_drop hx)) rfl c hc

/-- A text in one line: a blank for each newline. -/
def one (l : List (List UInt8 × Int)) : List (List UInt8 × Int) := l.map fun c => if c.1 = [10] then ([32], 1) else c
theorem one_length (l : List (List UInt8 × Int)) : (one l).length = l.length := by simp [one]
theorem one_nrm {l : List (List UInt8 × Int)} (h : ∀ c ∈ l, Nrm c) : ∀ c ∈ one l, Nrm c := by
  intro c hc
  obtain ⟨d, hd, rfl⟩ := List.mem_map.1 hc
  split
  · exact nrm_blank
  · exact h d hd
theorem one_ten (l : List (List UInt8 × Int)) : ∀ c ∈ one l, c.1 ≠ [10] := by
  intro c hc
  obtain ⟨d, hd, rfl⟩ := List.mem_map.1 hc
  split
  · decide
  · assumption
theorem one_self {l : List (List UInt8 × Int)} (h : ∀ c ∈ l, c.1 ≠ [10]) : one l = l := by
  unfold one
  conv => rhs; rw [← List.map_id l]
  exact List.map_congr_left fun c hc => by rw [if_neg (h c hc)]; rfl

theorem clus_short (R : List Int) : ∀ c ∈ clus R, c.1.length ≤ 20 := by
  generalize hn : R.length = n
  induction n using Nat.strongRecOn generalizing R with
  | _ n ih =>
    by_cases h : R = []
    · subst h; rw [clus_nil]; simp
    · have hp := cNum_pos h
      have hl : 0 < R.length := List.length_pos_iff.2 h
      rw [clus_step h]
      intro c hc
      rcases List.mem_cons.1 hc with rfl | hc
      · show (cText R).length ≤ 20
        rw [cText_enc]
        have a := enc_le (cRunes R)
        have b := cRunes_length R
        omega
      · exact ih (R.drop (cNum R)).length (by rw [List.length_drop]; omega) _ rfl c hc
theorem joined_bd : ∀ (l : List (List UInt8 × Int)), (∀ c ∈ l, c.1.length ≤ 20) → (joined l).length ≤ 20 * l.length
  | [], _ => by simp [joined]
  | c :: l, h => by
    have a := joined_bd l (fun x hx => h x (by simp [hx]))
    have b := h c (by simp)
    rw [joined_cons, List.length_append, List.length_cons]; omega
theorem one_short {l : List (List UInt8 × Int)} (h : ∀ c ∈ l, c.1.length ≤ 20) : ∀ c ∈ one l, c.1.length ≤ 20 := by
  intro c hc
  obtain ⟨d, hd, rfl⟩ := List.mem_map.1 hc
  split
  · simp
  · exact h d hd
theorem one_wide {l : List (List UInt8 × Int)} (h : ∀ c ∈ l, 0 ≤ c.2 ∧ c.2 ≤ 2) : ∀ c ∈ one l, 0 ≤ c.2 ∧ c.2 ≤ 2 := by
  intro c hc
  obtain ⟨d, hd, rfl⟩ := List.mem_map.1 hc
  split
  · simp
  · exact h d hd
theorem wideSum_take_le (l : List (List UInt8 × Int)) (h : ∀ c ∈ l, 0 ≤ c.2 ∧ c.2 ≤ 2) (k : Nat) : wideSum (l.take k) ≤ wideSum l := by
  have e : wideSum l = wideSum (l.take k) + wideSum (l.drop k) := by rw [← wideSum_app, List.take_append_drop]
  have := wideSum_bd (l.drop k) (fun c hc => h c (List.mem_of_mem_drop hc)) (l.drop k).length
  rw [List.take_length] at this
  omega
/-- Where no newline stands, all of them fit just if they are not too wide. -/
theorem fit_all (l : List (List UInt8 × Int)) (W : Int) (h : ∀ c ∈ l, 0 ≤ c.2 ∧ c.2 ≤ 2) (h10 : ∀ c ∈ l, c.1 ≠ [10]) (hW : 0 ≤ W) : fitN l W = l.length ↔ wideSum l ≤ W := by
  have sp := fitN_spec l W h
  have hle := fitN_le l W
  constructor
  · intro e
    cases hl : l.length with
    | zero =>
      have : l = [] := List.length_eq_zero_iff.1 hl
      subst this; exact hW
    | succ n =>
      have := (sp.1 n (by omega)).2
      rw [← hl, List.take_length] at this; exact this
  · intro e
    by_cases hlt : fitN l W < l.length
    · rcases sp.2 hlt with h2 | h2
      · rw [tx_at hlt] at h2
        exact absurd h2 (h10 _ (List.getElem_mem hlt))
      · have := wideSum_take_le l h (fitN l W + 1); omega
    · omega


end Go.Proofs.YtbjfckhijjjnkabDoor
