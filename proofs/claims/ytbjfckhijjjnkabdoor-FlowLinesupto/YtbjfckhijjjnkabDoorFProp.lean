/-
  Plain mathematics: what holds of each line.
-/
import Derived.Test.YtbjfckhijjjnkabDoorFNrm
namespace Go.Proofs.YtbjfckhijjjnkabDoor
set_option linter.unusedVariables false

theorem take_wide_le (l : List (List UInt8 × Int)) (h : ∀ c ∈ l, 0 ≤ c.2 ∧ c.2 ≤ 2) {j k : Nat} (hjk : j ≤ k) : wideSum (l.take j) ≤ wideSum (l.take k) := by
  induction k with
  | zero => have : j = 0 := by omega
            subst this; exact Int.le_refl _
  | succ k ih =>
    by_cases e : j = k + 1
    · subst e; exact Int.le_refl _
    · have := ih (by omega)
      by_cases hk : k < l.length
      · rw [wideSum_snoc l k hk]
        have := h l[k] (List.getElem_mem hk)
        omega
      · rw [List.take_of_length_le (show l.length ≤ k + 1 by omega)]
        rw [List.take_of_length_le (show l.length ≤ k by omega)] at this
        exact this
theorem fit_wide (r : List (List UInt8 × Int)) (w : Int) (h : ∀ c ∈ r, 0 ≤ c.2 ∧ c.2 ≤ 2) (hw : 1 ≤ w) : wideSum (r.take (fitN r w)) ≤ w := by
  have sp := (fitN_spec r w h).1
  cases hf : fitN r w with
  | zero => show (0 : Int) ≤ w; omega
  | succ n => exact (sp n (by omega)).2

/-- What the line that begins at r's head is. -/
inductive LineKind (r : List (List UInt8 × Int)) (w : Int) : Nat → Nat → Int → Prop
  | all (n : Nat) (hn : n = r.length) (hw : wideSum (r.take n) ≤ w) (h10 : ∀ j, j < n → tx r j ≠ [10]) : LineKind r w n 0 3
  | newline (n : Nat) (hn : n < r.length) (hw : wideSum (r.take n) ≤ w) (h10 : ∀ j, j < n → tx r j ≠ [10]) (ht : tx r n = [10]) : LineKind r w n 1 2
  | wide (hn : 0 < r.length) (hw : w = 1) (h2 : w < wideSum (r.take 1)) (h10 : tx r 0 ≠ [10]) : LineKind r w 1 0 1
  | blank (n m : Nat) (hn : n < r.length) (hw : wideSum (r.take n) ≤ w) (h10 : ∀ j, j < n → tx r j ≠ [10]) (ht : tx r n = [32]) (hm : n ≤ m) (hml : m < r.length) (hno : ∀ j, n < j → j ≤ m → tx r j ≠ [32] ∧ tx r j ≠ [10]) (hg : w < wideSum (r.take (m + 1))) : LineKind r w n 1 0
  | word (n : Nat) (hn : n < r.length) (h1 : 1 ≤ n) (hw : wideSum (r.take n) ≤ w) (h10 : ∀ j, j < n → tx r j ≠ [10]) (h32 : ∀ j, j < n → tx r j ≠ [32]) (hg : w < wideSum (r.take (n + 1))) : LineKind r w n 0 1

theorem take1_bd (r : List (List UInt8 × Int)) (h : ∀ c ∈ r, 0 ≤ c.2 ∧ c.2 ≤ 2) : wideSum (r.take 1) ≤ 2 := by
  have := (wideSum_bd r h 1).2; omega

theorem firstL_kind (r : List (List UInt8 × Int)) (w : Int) (h : ∀ c ∈ r, 0 ≤ c.2 ∧ c.2 ≤ 2) (hw : 1 ≤ w) : LineKind r w (firstL r w).n (firstL r w).d (firstL r w).e := by
  have sp := fitN_spec r w h
  have hle := fitN_le r w
  have hfw := fit_wide r w h hw
  have h10 : ∀ j, j < fitN r w → tx r j ≠ [10] := fun j hj => (sp.1 j hj).1
  have hb := lastB_lt r (fitN r w)
  have hbi := lastB_is r (fitN r w)
  have hbn := lastB_no r (fitN r w)
  unfold firstL
  split
  · rename_i e; exact .all _ e hfw h10
  · rename_i ne
    have hlt : fitN r w < r.length := by omega
    split
    · rename_i e; exact .newline _ hlt hfw h10 e
    · rename_i n10
      have hgt : w < wideSum (r.take (fitN r w + 1)) := (sp.2 hlt).resolve_left n10
      split
      · rename_i e
        rw [e] at hgt n10
        have := take1_bd r h
        exact .wide (by omega) (by simp at hgt; omega) (by simpa using hgt) n10
      · rename_i n0
        split
        · rename_i e; exact .blank _ _ hlt hfw h10 e (Nat.le_refl _) hlt (fun j a b => by omega) hgt
        · rename_i n32
          split
          · rename_i e
            have ht := hbi e
            have hkl : (lastB r (fitN r w)).toNat < fitN r w := by omega
            show LineKind r w (lastB r (fitN r w)).toNat 1 0
            refine .blank _ (fitN r w) (by omega) (Int.le_trans (take_wide_le r h (by omega)) hfw) (fun j hj => h10 j (by omega)) ht (by omega) hlt (fun j a b => ?_) hgt
            by_cases ej : j = fitN r w
            · subst ej; exact ⟨n32, n10⟩
            · exact ⟨by have := hbn (j : Int) (by omega) (by omega); simpa using this, h10 j (by omega)⟩
          · rename_i e
            show LineKind r w (fitN r w) 0 1
            refine .word _ hlt (by omega) hfw h10 (fun j hj => ?_) hgt
            have := hbn (j : Int) (by omega) (by omega)
            simpa using this

theorem kind_n_le {r : List (List UInt8 × Int)} {w : Int} {n d : Nat} {e : Int} (h : LineKind r w n d e) : n + d ≤ r.length := by
  cases h <;> omega

/-- The line itself, by its kind. -/
theorem lnAt_is (l : List (List UInt8 × Int)) (w : Int) (a : Nat) (h : ∀ c ∈ l, 0 ≤ c.2 ∧ c.2 ≤ 2) (hw : 1 ≤ w) (ha : a ≤ l.length) :
    ∃ n d, LineKind (l.drop a) w n d (lnAt l w a).E ∧ nxt l w a = a + n + d ∧ (lnAt l w a).F = a ∧ (lnAt l w a).N = n ∧ a + n + d ≤ l.length ∧
      ((w < wideSum ((l.drop a).take n) ∧ n = 1 ∧ w = 1 ∧ (lnAt l w a).T = [32] ∧ (lnAt l w a).W = 1) ∨
       (wideSum ((l.drop a).take n) ≤ w ∧ (lnAt l w a).T = joined ((l.drop a).take n) ∧ (lnAt l w a).W = wideSum ((l.drop a).take n))) := by
  have hr : ∀ c ∈ l.drop a, 0 ≤ c.2 ∧ c.2 ≤ 2 := fun c hc => h c (List.mem_of_mem_drop hc)
  have k := firstL_kind (l.drop a) w hr hw
  have hle := kind_n_le k
  rw [List.length_drop] at hle
  refine ⟨(firstL (l.drop a) w).n, (firstL (l.drop a) w).d, by rw [lnAt_E]; exact k, rfl, ?_, ?_, by omega, ?_⟩
  · simp only [lnAt]; split <;> rfl
  · have : ((l.drop a).take (firstL (l.drop a) w).n).length = (firstL (l.drop a) w).n := by rw [List.length_take, List.length_drop]; omega
    simp only [lnAt]
    split
    · rename_i hwd
      generalize (firstL (l.drop a) w).n = n at *
      generalize (firstL (l.drop a) w).d = d at *
      generalize (firstL (l.drop a) w).e = e at *
      cases k with
      | wide => rfl
      | all => omega
      | newline => omega
      | blank => omega
      | word => omega
    · exact this
  · by_cases hwd : w < wideSum ((l.drop a).take (firstL (l.drop a) w).n)
    · left
      have e1 : (firstL (l.drop a) w).n = 1 ∧ w = 1 := by
        generalize (firstL (l.drop a) w).n = n at *
        generalize (firstL (l.drop a) w).d = d at *
        generalize (firstL (l.drop a) w).e = e at *
        cases k with
        | wide => exact ⟨rfl, by assumption⟩
        | all => omega
        | newline => omega
        | blank => omega
        | word => omega
      refine ⟨hwd, e1.1, e1.2, ?_, ?_⟩
      · simp only [lnAt, if_pos hwd]; rw [e1.2]; rfl
      · simp only [lnAt, if_pos hwd]; exact e1.2
    · right
      exact ⟨by omega, by simp only [lnAt, if_neg hwd], by simp only [lnAt, if_neg hwd]⟩

theorem cols_blank : wideSum (clus (runes [32])) = 1 := by decide +kernel
/-- Its text is as wide as it says. -/
theorem lnAt_cols (l : List (List UInt8 × Int)) (w : Int) (a : Nat) (h : ∀ c ∈ l, 0 ≤ c.2 ∧ c.2 ≤ 2) (hn : ∀ c ∈ l, Nrm c) (hw : 1 ≤ w) (ha : a ≤ l.length) :
    wideSum (clus (runes (lnAt l w a).T)) = (lnAt l w a).W ∧ (lnAt l w a).W ≤ w := by
  obtain ⟨n, d, _, _, _, _, _, hc⟩ := lnAt_is l w a h hw ha
  rcases hc with ⟨_, _, e1, e2, e3⟩ | ⟨h1, h2, h3⟩
  · rw [e2, e3, cols_blank]; omega
  · rw [h2, h3, nrm_again _ (fun c hc => hn c (List.mem_of_mem_drop (List.mem_of_mem_take hc)))]
    exact ⟨rfl, h1⟩

end Go.Proofs.YtbjfckhijjjnkabDoor
