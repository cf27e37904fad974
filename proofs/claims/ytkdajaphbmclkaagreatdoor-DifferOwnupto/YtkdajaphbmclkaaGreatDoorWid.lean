/-
  Plain mathematics of G3: the ranges, and what a search by halves over them finds.
-/
import Derived.Test.YtkdajaphbmclkaaGreatDoorBase
namespace Go.Proofs.YtkdajaphbmclkaaGreatDoor
set_option linter.unusedVariables false

def zerosL : List (Int × Int) := [(10, 10), (0x300, 0x36F), (0x483, 0x489), (0x591, 0x5BD), (0x610, 0x61A), (0x64B, 0x65F), (0x1AB0, 0x1AFF), (0x1DC0, 0x1DFF), (0x200B, 0x200F), (0x20D0, 0x20FF), (0xFE00, 0xFE0F), (0xFE20, 0xFE2F), (0xE0100, 0xE01EF)]
def widesL : List (Int × Int) := [(0x1100, 0x115F), (0x2E80, 0x303E), (0x3041, 0x33FF), (0x3400, 0x4DBF), (0x4E00, 0x9FFF), (0xA000, 0xA4CF), (0xAC00, 0xD7A3), (0xF900, 0xFAFF), (0xFE30, 0xFE6F), (0xFF00, 0xFF60), (0xFFE0, 0xFFE6), (0x1F300, 0x1F64F), (0x1F900, 0x1F9FF), (0x20000, 0x3FFFD)]
/-- The program's own table. -/
def spansL : List (Int × Int × Int) := [(0x300, 0x36F, 0), (0x483, 0x489, 0), (0x591, 0x5BD, 0), (0x610, 0x61A, 0), (0x64B, 0x65F, 0), (0x1100, 0x115F, 2), (0x1AB0, 0x1AFF, 0), (0x1DC0, 0x1DFF, 0), (0x200B, 0x200F, 0), (0x20D0, 0x20FF, 0), (0x2E80, 0x303E, 2), (0x3041, 0x33FF, 2), (0x3400, 0x4DBF, 2), (0x4E00, 0x9FFF, 2), (0xA000, 0xA4CF, 2), (0xAC00, 0xD7A3, 2), (0xF900, 0xFAFF, 2), (0xFE00, 0xFE0F, 0), (0xFE20, 0xFE2F, 0), (0xFE30, 0xFE6F, 2), (0xFF00, 0xFF60, 2), (0xFFE0, 0xFFE6, 2), (0x1F300, 0x1F64F, 2), (0x1F900, 0x1F9FF, 2), (0x20000, 0x3FFFD, 2), (0xE0100, 0xE01EF, 0)]

def inL (r : Int) (l : List (Int × Int)) : Bool := l.any fun p => decide (p.1 ≤ r ∧ r ≤ p.2)
theorem inL_iff (r : Int) (l : List (Int × Int)) : inL r l = true ↔ ∃ p ∈ l, p.1 ≤ r ∧ r ≤ p.2 := by simp [inL]
/-- G3. -/
def wid (r : Int) : Int := if inL r zerosL = true then 0 else if inL r widesL = true then 2 else 1
theorem wid_bd (r : Int) : 0 ≤ wid r ∧ wid r ≤ 2 := by
  unfold wid; split
  · omega
  · split <;> omega

theorem zw_apart : ∀ z ∈ zerosL, ∀ q ∈ widesL, z.2 < q.1 ∨ q.2 < z.1 := by decide +kernel
theorem spans_kind : ∀ s ∈ spansL, (s.2.2 = 0 ∧ (s.1, s.2.1) ∈ zerosL) ∨ (s.2.2 = 2 ∧ (s.1, s.2.1) ∈ widesL) := by decide +kernel
theorem zeros_in : ∀ z ∈ zerosL, z = (10, 10) ∨ (z.1, z.2, 0) ∈ spansL := by decide +kernel
theorem wides_in : ∀ z ∈ widesL, (z.1, z.2, 2) ∈ spansL := by decide +kernel

theorem wid_span (r : Int) (s : Int × Int × Int) (hs : s ∈ spansL) (h0 : s.1 ≤ r) (h1 : r ≤ s.2.1) : wid r = s.2.2 := by
  unfold wid
  rcases spans_kind s hs with ⟨e, hz⟩ | ⟨e, hz⟩
  · rw [if_pos ((inL_iff r zerosL).2 ⟨_, hz, h0, h1⟩), e]
  · rw [if_neg, if_pos ((inL_iff r widesL).2 ⟨_, hz, h0, h1⟩), e]
    intro h
    obtain ⟨p, hp, a, b⟩ := (inL_iff r zerosL).1 h
    have := zw_apart p hp _ hz
    simp only at this
    omega
theorem wid_none (r : Int) (h10 : r ≠ 10) (h : ∀ s ∈ spansL, ¬ (s.1 ≤ r ∧ r ≤ s.2.1)) : wid r = 1 := by
  unfold wid
  rw [if_neg, if_neg]
  · intro k
    obtain ⟨p, hp, a, b⟩ := (inL_iff r widesL).1 k
    exact h _ (wides_in p hp) ⟨a, b⟩
  · intro k
    obtain ⟨p, hp, a, b⟩ := (inL_iff r zerosL).1 k
    rcases zeros_in p hp with e | e
    · subst e; simp only at a b; omega
    · exact h _ e ⟨a, b⟩
theorem wid_ten : wid 10 = 0 := by decide +kernel

/-- The i-th range of the table. -/
def spanAt (i : Nat) : Int × Int × Int := spansL.getD i (0, 0, 0)
theorem spanAt_mem {i : Nat} (h : i < 26) : spanAt i ∈ spansL := by
  have hl : i < spansL.length := h
  unfold spanAt
  rw [List.getD_eq_getElem?_getD, List.getElem?_eq_getElem hl]
  exact List.getElem_mem hl
theorem mem_spanAt {s : Int × Int × Int} (h : s ∈ spansL) : ∃ i, i < 26 ∧ spanAt i = s := by
  obtain ⟨i, hi, e⟩ := List.mem_iff_getElem.1 h
  refine ⟨i, hi, ?_⟩
  unfold spanAt
  rw [List.getD_eq_getElem?_getD, List.getElem?_eq_getElem hi]
  exact e
theorem spans_rise : ∀ i : Fin 26, ∀ j : Fin 26, i < j → (spanAt i).2.1 < (spanAt j).1 := by decide +kernel
theorem spans_fit : ∀ i : Fin 26, (spanAt i).1 ≤ (spanAt i).2.1 := by decide +kernel
theorem rise {i j : Nat} (hi : i < j) (hj : j < 26) : (spanAt i).2.1 < (spanAt j).1 := spans_rise ⟨i, by omega⟩ ⟨j, hj⟩ hi
theorem fit {i : Nat} (hi : i < 26) : (spanAt i).1 ≤ (spanAt i).2.1 := spans_fit ⟨i, hi⟩

/-- What the search knows: all before lo end ahead of r, all from hi on begin behind it. -/
def Half (r : Int) (lo hi : Nat) : Prop := (∀ i, i < lo → (spanAt i).2.1 < r) ∧ ∀ i, hi ≤ i → i < 26 → r < (spanAt i).1
theorem half_start (r : Int) : Half r 0 26 := ⟨fun i h => by omega, fun i h k => by omega⟩
theorem half_low {r : Int} {lo hi mid : Nat} (h : Half r lo hi) (hm : mid < 26) (hr : (spanAt mid).2.1 < r) : Half r (mid + 1) hi := by
  refine ⟨fun i hi => ?_, h.2⟩
  by_cases e : i = mid
  · subst e; exact hr
  · have := rise (i := i) (j := mid) (by omega) hm
    have := fit (i := mid) hm
    omega
theorem half_high {r : Int} {lo hi mid : Nat} (h : Half r lo hi) (hm : mid < 26) (hr : r < (spanAt mid).1) : Half r lo mid := by
  refine ⟨h.1, fun i hi hk => ?_⟩
  by_cases e : i = mid
  · subst e; exact hr
  · have := rise (i := mid) (j := i) (by omega) hk
    have := fit (i := mid) hm
    omega
theorem half_end {r : Int} {lo hi : Nat} (h : Half r lo hi) (hl : hi ≤ lo) (h10 : r ≠ 10) : wid r = 1 := by
  refine wid_none r h10 fun s hs => ?_
  obtain ⟨i, hi, rfl⟩ := mem_spanAt hs
  rintro ⟨a, b⟩
  by_cases e : i < lo
  · have := h.1 i e; omega
  · have := h.2 i (by omega) hi; omega

/-- Pairs laid one behind the other. -/
def flat (l : List (Int × Int)) : List Int := l.flatMap fun p => [p.1, p.2]
theorem flat_length (l : List (Int × Int)) : (flat l).length = 2 * l.length := by
  induction l with
  | nil => rfl
  | cons p l ih => simp only [flat, List.flatMap_cons, List.length_append, List.length_cons] at *; simp at *; omega
theorem flat_at (l : List (Int × Int)) (k : Nat) : (flat l)[2 * k]?.getD 0 = (l.getD k (0, 0)).1 ∧ (flat l)[2 * k + 1]?.getD 0 = (l.getD k (0, 0)).2 := by
  induction l generalizing k with
  | nil => simp [flat]
  | cons p l ih =>
    cases k with
    | zero => simp [flat]
    | succ k =>
      have := ih k
      have e : flat (p :: l) = p.1 :: p.2 :: flat l := rfl
      rw [e, show 2 * (k + 1) = 2 * k + 1 + 1 by omega]
      simpa using this

end Go.Proofs.YtkdajaphbmclkaaGreatDoor
