/-
  Plain mathematics of chapter 2: lines of clusters.
-/
import Derived.Test.YtbjfckhijjjnkabDoorNorm
namespace Go.Proofs.YtbjfckhijjjnkabDoor
set_option linter.unusedVariables false

/-- The text of the cluster at n. -/
def tx (l : List (List UInt8 × Int)) (n : Nat) : List UInt8 := (l[n]?.map (·.1)).getD []
theorem tx_at {l : List (List UInt8 × Int)} {n : Nat} (h : n < l.length) : tx l n = (l[n]).1 := by simp [tx, h]
theorem tx_drop (l : List (List UInt8 × Int)) (a n : Nat) : tx (l.drop a) n = tx l (a + n) := by simp [tx, List.getElem?_drop]

theorem wideSum_app (a b : List (List UInt8 × Int)) : wideSum (a ++ b) = wideSum a + wideSum b := by simp [wideSum, List.sum_append]
theorem wideSum_cons (c : List UInt8 × Int) (b : List (List UInt8 × Int)) : wideSum (c :: b) = c.2 + wideSum b := by simp [wideSum]
theorem joined_cons (c : List UInt8 × Int) (b : List (List UInt8 × Int)) : joined (c :: b) = c.1 ++ joined b := by simp [joined]
theorem joined_app (a b : List (List UInt8 × Int)) : joined (a ++ b) = joined a ++ joined b := by simp [joined]

/-- How many clusters from the beginning on are at most w wide together; a newline ends them. -/
def fitN : List (List UInt8 × Int) → Int → Nat
  | [], _ => 0
  | c :: t, w => if c.1 = [10] ∨ w < c.2 then 0 else fitN t (w - c.2) + 1
theorem fitN_le : ∀ (l : List (List UInt8 × Int)) (w : Int), fitN l w ≤ l.length
  | [], _ => Nat.le_refl _
  | c :: t, w => by
    simp only [fitN]
    split
    · simp
    · have := fitN_le t (w - c.2); simp; omega
/-- The first k of them pass. -/
def Fit (l : List (List UInt8 × Int)) (w : Int) (k : Nat) : Prop := ∀ j, j < k → tx l j ≠ [10] ∧ wideSum (l.take (j + 1)) ≤ w
theorem fitN_stop : ∀ (l : List (List UInt8 × Int)) (w : Int) (k : Nat), k ≤ l.length → Fit l w k → (k < l.length → tx l k = [10] ∨ w < wideSum (l.take (k + 1))) → fitN l w = k
  | [], w, k, hk, _, _ => by simp only [List.length_nil] at hk; simp only [fitN]; omega
  | c :: t, w, 0, _, _, he => by
    have := he (by simp)
    simp only [tx, List.take_succ_cons, List.take_zero, wideSum_cons, List.getElem?_cons_zero, Option.map_some, Option.getD_some, show wideSum [] = 0 from rfl, Int.add_zero] at this
    simp only [fitN, if_pos this]
  | c :: t, w, k + 1, hk, hf, he => by
    have h0 := hf 0 (by omega)
    simp only [tx, List.take_succ_cons, List.take_zero, wideSum_cons, List.getElem?_cons_zero, Option.map_some, Option.getD_some, show wideSum [] = 0 from rfl, Int.add_zero] at h0
    have hn : ¬ (c.1 = [10] ∨ w < c.2) := by rintro (h | h); exact h0.1 h; omega
    simp only [fitN, if_neg hn]
    rw [fitN_stop t (w - c.2) k (by simpa using hk) (fun j hj => by
      have := hf (j + 1) (by omega)
      rw [List.take_succ_cons, wideSum_cons] at this
      exact ⟨by simpa [tx] using this.1, by omega⟩) (fun h => by
      have := he (by simpa using h)
      rw [List.take_succ_cons, wideSum_cons] at this
      rcases this with h | h
      · exact .inl (by simpa [tx] using h)
      · exact .inr (by omega))]
theorem fitN_spec : ∀ (l : List (List UInt8 × Int)) (w : Int), (∀ c ∈ l, 0 ≤ c.2 ∧ c.2 ≤ 2) → Fit l w (fitN l w) ∧ (fitN l w < l.length → tx l (fitN l w) = [10] ∨ w < wideSum (l.take (fitN l w + 1)))
  | [], w, _ => ⟨fun j hj => by simp [fitN] at hj, fun h => by simp at h⟩
  | c :: t, w, hb => by
    by_cases h : c.1 = [10] ∨ w < c.2
    · simp only [fitN, if_pos h]
      refine ⟨fun j hj => by omega, fun _ => ?_⟩
      simpa [tx, wideSum] using h
    · have ih := fitN_spec t (w - c.2) (fun x hx => hb x (by simp [hx]))
      simp only [fitN, if_neg h]
      have h' := not_or.1 h
      refine ⟨fun j hj => ?_, fun hl => ?_⟩
      · cases j with
        | zero => simp [tx, wideSum]; exact ⟨h'.1, by omega⟩
        | succ j =>
          have := ih.1 j (by omega)
          rw [List.take_succ_cons, wideSum_cons]
          exact ⟨by simpa [tx] using this.1, by omega⟩
      · have := ih.2 (by simpa using hl)
        rw [List.take_succ_cons, wideSum_cons]
        rcases this with h | h
        · exact .inl (by simpa [tx] using h)
        · exact .inr (by omega)

/-- The last blank among the first n; -1: none. -/
def lastB (l : List (List UInt8 × Int)) : Nat → Int
  | 0 => -1
  | n + 1 => if tx l n = [32] then n else lastB l n
theorem lastB_lt (l : List (List UInt8 × Int)) : ∀ n, lastB l n < n ∧ -1 ≤ lastB l n
  | 0 => by simp [lastB]
  | n + 1 => by
    have := lastB_lt l n
    simp only [lastB]; split <;> omega
theorem lastB_is (l : List (List UInt8 × Int)) : ∀ n, 0 ≤ lastB l n → tx l (lastB l n).toNat = [32]
  | 0, h => by simp [lastB] at h
  | n + 1, h => by
    simp only [lastB] at h ⊢
    split
    · rename_i e; simpa using e
    · rename_i e; rw [if_neg e] at h; exact lastB_is l n h
theorem lastB_no (l : List (List UInt8 × Int)) : ∀ n j, lastB l n < j → j < n → tx l j.toNat ≠ [32]
  | 0, j, h1, h2 => by simp [lastB] at h1; omega
  | n + 1, j, h1, h2 => by
    simp only [lastB] at h1
    split at h1
    · omega
    · rename_i e
      by_cases hj : j = n
      · subst hj; simpa using e
      · exact lastB_no l n j h1 (by omega)

/-- A line's End and how many clusters it takes, and how many behind it are dropped. -/
structure Cutt where
  n : Nat
  d : Nat
  e : Int
def firstL (r : List (List UInt8 × Int)) (w : Int) : Cutt :=
  if fitN r w = r.length then ⟨fitN r w, 0, 3⟩
  else if tx r (fitN r w) = [10] then ⟨fitN r w, 1, 2⟩
  else if fitN r w = 0 then ⟨1, 0, 1⟩
  else if tx r (fitN r w) = [32] then ⟨fitN r w, 1, 0⟩
  else if 0 ≤ lastB r (fitN r w) then ⟨(lastB r (fitN r w)).toNat, 1, 0⟩
  else ⟨fitN r w, 0, 1⟩
theorem firstL_le (r : List (List UInt8 × Int)) (w : Int) : (firstL r w).n + (firstL r w).d ≤ r.length := by
  have h := fitN_le r w
  have hb := lastB_lt r (fitN r w)
  unfold firstL
  repeat' split
  all_goals (simp only; omega)
theorem firstL_pos (r : List (List UInt8 × Int)) (w : Int) : (firstL r w).e = 3 ∨ 1 ≤ (firstL r w).n + (firstL r w).d := by
  unfold firstL
  repeat' split
  all_goals (first | exact .inl rfl | (refine .inr ?_; simp only; omega))

/-- A line. -/
structure Ln where
  T : List UInt8
  W : Int
  F : Nat
  N : Nat
  E : Int
/-- The line that begins at a. -/
def lnAt (l : List (List UInt8 × Int)) (w : Int) (a : Nat) : Ln :=
  let c := firstL (l.drop a) w
  let r := (l.drop a).take c.n
  if w < wideSum r then ⟨List.replicate w.toNat 32, w, a, 1, c.e⟩ else ⟨joined r, wideSum r, a, r.length, c.e⟩
/-- Where the next one begins. -/
def nxt (l : List (List UInt8 × Int)) (w : Int) (a : Nat) : Nat := a + (firstL (l.drop a) w).n + (firstL (l.drop a) w).d
theorem nxt_le (l : List (List UInt8 × Int)) (w : Int) (a : Nat) (h : a ≤ l.length) : nxt l w a ≤ l.length := by
  have := firstL_le (l.drop a) w
  rw [List.length_drop] at this
  unfold nxt; omega
theorem lnAt_E (l : List (List UInt8 × Int)) (w : Int) (a : Nat) : (lnAt l w a).E = (firstL (l.drop a) w).e := by
  simp only [lnAt]; split <;> rfl
theorem nxt_lt (l : List (List UInt8 × Int)) (w : Int) (a : Nat) (h : (lnAt l w a).E ≠ 3) : a < nxt l w a := by
  rw [lnAt_E] at h
  have := (firstL_pos (l.drop a) w).resolve_left h
  unfold nxt; omega
/-- The lines from a on, at most f of them. -/
def linesF : Nat → List (List UInt8 × Int) → Int → Nat → List Ln
  | 0, _, _, _ => []
  | f + 1, l, w, a => if (lnAt l w a).E = 3 then [lnAt l w a] else lnAt l w a :: linesF f l w (nxt l w a)
theorem linesF_enough : ∀ (f g : Nat) (l : List (List UInt8 × Int)) (w : Int) (a : Nat), a ≤ l.length → l.length < f + a → l.length < g + a → linesF f l w a = linesF g l w a
  | 0, _, _, _, _, _, h, _ => by omega
  | _ + 1, 0, _, _, _, _, _, h => by omega
  | f + 1, g + 1, l, w, a, ha, hf, hg => by
    simp only [linesF]
    split
    · rfl
    · rename_i he
      have := nxt_lt l w a he
      rw [linesF_enough f g l w (nxt l w a) (nxt_le l w a ha) (by omega) (by omega)]
/-- The lines from a on. -/
def linesA (l : List (List UInt8 × Int)) (w : Int) (a : Nat) : List Ln := linesF (l.length + 1 - a) l w a
theorem linesA_end {l : List (List UInt8 × Int)} {w : Int} {a : Nat} (ha : a ≤ l.length) (h : (lnAt l w a).E = 3) : linesA l w a = [lnAt l w a] := by
  unfold linesA
  rw [show l.length + 1 - a = (l.length - a) + 1 by omega]
  simp only [linesF, if_pos h]
theorem linesA_step {l : List (List UInt8 × Int)} {w : Int} {a : Nat} (ha : a ≤ l.length) (h : (lnAt l w a).E ≠ 3) : linesA l w a = lnAt l w a :: linesA l w (nxt l w a) := by
  have h1 := nxt_lt l w a h
  have h2 := nxt_le l w a ha
  unfold linesA
  rw [show l.length + 1 - a = (l.length - a) + 1 by omega]
  simp only [linesF, if_neg h]
  rw [linesF_enough (l.length - a) (l.length + 1 - nxt l w a) l w (nxt l w a) h2 (by omega) (by omega)]
theorem linesA_length (l : List (List UInt8 × Int)) (w : Int) (a : Nat) (ha : a ≤ l.length) : 1 ≤ (linesA l w a).length ∧ (linesA l w a).length ≤ l.length + 1 - a := by
  generalize hn : l.length - a = n
  induction n using Nat.strongRecOn generalizing a with
  | _ n ih =>
    by_cases h : (lnAt l w a).E = 3
    · rw [linesA_end ha h]; simp; omega
    · have h1 := nxt_lt l w a h
      have h2 := nxt_le l w a ha
      rw [linesA_step ha h]
      have := ih (l.length - nxt l w a) (by omega) (nxt l w a) h2 rfl
      simp only [List.length_cons]; omega
/-- F1. -/
def linesOf (l : List (List UInt8 × Int)) (w : Int) : List Ln := if w < 1 then [] else linesA l w 0

end Go.Proofs.YtbjfckhijjjnkabDoor
