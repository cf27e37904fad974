/-
  Cells of a canvas, by row and column: what is written, and the halves beside it.
-/
import Derived.Test.YtkdajaphbmclkaaGreatDoorBMath
namespace Go.Proofs.YtkdajaphbmclkaaGreatDoor
set_option linter.unusedVariables false

structure Ce where
  t : ByteArray
  f : Int
  g : Int
  b : Int
  p : Int
def spc : ByteArray := ⟨#[32]⟩
def ept : ByteArray := ⟨#[]⟩
/-- A cell becomes a blank; its style stays. -/
def bl (c : Ce) : Ce := ⟨spc, c.f, c.g, c.b, 0⟩
def bk (f g b : Int) : Ce := ⟨spc, f, g, b, 0⟩
theorem bl_p (c : Ce) : (bl c).p = 0 := rfl
theorem bl_bl (c : Ce) : bl (bl c) = bl c := rfl

/-- A row whose places from a up to z are written. -/
def span (r : Nat → Ce) (a z : Nat) (x : Nat → Ce) : Nat → Ce := fun j =>
  if a ≤ j ∧ j < z then x j
  else if a < z ∧ j + 1 = a ∧ (r a).p = 2 then bl (r j)
  else if a < z ∧ j = z ∧ (r (z - 1)).p = 1 then bl (r j)
  else r j
theorem span_in {r : Nat → Ce} {a z : Nat} {x : Nat → Ce} {j : Nat} (h : a ≤ j ∧ j < z) : span r a z x j = x j := if_pos h
theorem span_none {r : Nat → Ce} {a z : Nat} {x : Nat → Ce} (h : ¬ a < z) : span r a z x = r := by
  funext j; unfold span
  rw [if_neg (by omega), if_neg (fun q => h q.1), if_neg (fun q => h q.1)]
/-- Outside of what is written a cell stays, or becomes a blank. -/
theorem span_out {r : Nat → Ce} {a z : Nat} {x : Nat → Ce} {j : Nat} (h : ¬ (a ≤ j ∧ j < z)) :
    (span r a z x j = r j ∧ ¬ (a < z ∧ j + 1 = a ∧ (r a).p = 2) ∧ ¬ (a < z ∧ j = z ∧ (r (z - 1)).p = 1)) ∨ (span r a z x j = bl (r j) ∧ ((a < z ∧ j + 1 = a ∧ (r a).p = 2) ∨ (a < z ∧ j = z ∧ (r (z - 1)).p = 1))) := by
  unfold span
  rw [if_neg h]
  by_cases h1 : a < z ∧ j + 1 = a ∧ (r a).p = 2
  · right; rw [if_pos h1]; exact ⟨rfl, .inl h1⟩
  · rw [if_neg h1]
    by_cases h2 : a < z ∧ j = z ∧ (r (z - 1)).p = 1
    · right; rw [if_pos h2]; exact ⟨rfl, .inr h2⟩
    · left; rw [if_neg h2]; exact ⟨rfl, h1, h2⟩

/-- In a row every head has its tail, every tail its head. -/
structure PRow (W : Nat) (r : Nat → Ce) : Prop where
  part : ∀ i, i < W → (r i).p = 0 ∨ (r i).p = 1 ∨ (r i).p = 2
  head : ∀ i, i < W → (r i).p = 1 → i + 1 < W ∧ (r (i + 1)).p = 2 ∧ (r (i + 1)).f = (r i).f ∧ (r (i + 1)).g = (r i).g ∧ (r (i + 1)).b = (r i).b
  tail : ∀ i, i < W → (r i).p = 2 → ∃ k, i = k + 1 ∧ (r k).p = 1 ∧ (r i).t = ept

section
variable {W a z : Nat} {r x : Nat → Ce}
/-- What is beside stays in pairs, whatever is written in whole. -/
theorem PRow.beside (h : PRow W r) (zW : z ≤ W) {i : Nat} (hi : i < W) (ho : ¬ (a ≤ i ∧ i < z)) :
    ((span r a z x i).p = 0 ∨ (span r a z x i).p = 1 ∨ (span r a z x i).p = 2)
    ∧ ((span r a z x i).p = 1 → span r a z x i = r i ∧ span r a z x (i + 1) = r (i + 1) ∧ (r i).p = 1)
    ∧ ((span r a z x i).p = 2 → span r a z x i = r i ∧ (r i).p = 2 ∧ ∃ k, i = k + 1 ∧ span r a z x k = r k) := by
  rcases span_out (r := r) (x := x) ho with ⟨e, n1, n2⟩ | ⟨e, hh⟩
  · rw [e]
    refine ⟨h.part i hi, fun hp => ⟨rfl, ?_, hp⟩, fun hp => ⟨rfl, hp, ?_⟩⟩
    · obtain ⟨h1, h2, _⟩ := h.head i hi hp
      by_cases hin : a ≤ i + 1 ∧ i + 1 < z
      · exfalso
        have : i + 1 = a := by omega
        subst this
        exact n1 ⟨by omega, rfl, h2⟩
      · rcases span_out (r := r) (x := x) hin with ⟨e2, _⟩ | ⟨e2, h3 | h3⟩
        · exact e2
        · exfalso
          obtain ⟨k, hk, hk1, _⟩ := h.tail a (by omega) h3.2.2
          have : k = i + 1 := by omega
          subst this
          rw [h2] at hk1; omega
        · exfalso
          omega
    · obtain ⟨k, hk, hk1, _⟩ := h.tail i hi hp
      refine ⟨k, hk, ?_⟩
      by_cases hin : a ≤ k ∧ k < z
      · exfalso
        have : i = z := by omega
        subst this
        refine n2 ⟨by omega, rfl, ?_⟩
        rw [hk, show k + 1 - 1 = k by omega]; exact hk1
      · rcases span_out (r := r) (x := x) hin with ⟨e2, _⟩ | ⟨e2, h3 | h3⟩
        · exact e2
        · exfalso
          omega
        · exfalso
          obtain ⟨q1, q2, _⟩ := h.head (z - 1) (by omega) h3.2.2
          have : z - 1 + 1 = k := by omega
          rw [this, hk1] at q2
          omega
  · rw [e]
    refine ⟨.inl rfl, fun hp => ?_, fun hp => ?_⟩ <;> (rw [bl_p] at hp; omega)
theorem PRow.span0 (h : PRow W r) (zW : z ≤ W) (hx : ∀ j, a ≤ j → j < z → (x j).p = 0) : PRow W (span r a z x) := by
  refine ⟨fun i hi => ?_, fun i hi hp => ?_, fun i hi hp => ?_⟩ <;> by_cases hin : a ≤ i ∧ i < z
  · rw [span_in hin]; exact .inl (hx i hin.1 hin.2)
  · exact (h.beside zW hi hin).1
  · rw [span_in hin, hx i hin.1 hin.2] at hp; omega
  · obtain ⟨e1, e2, e3⟩ := (h.beside zW hi hin).2.1 hp
    rw [e1, e2]; exact h.head i hi e3
  · rw [span_in hin, hx i hin.1 hin.2] at hp; omega
  · obtain ⟨e1, e2, k, hk, e3⟩ := (h.beside zW hi hin).2.2 hp
    obtain ⟨k', hk', h1, h2⟩ := h.tail i hi e2
    obtain rfl : k = k' := by omega
    exact ⟨k, hk, by rw [e3]; exact h1, by rw [e1]; exact h2⟩
theorem PRow.span2 (h : PRow W r) (zW : a + 2 ≤ W) (h1 : (x a).p = 1) (h2 : (x (a + 1)).p = 2) (hf : (x (a + 1)).f = (x a).f) (hg : (x (a + 1)).g = (x a).g) (hb : (x (a + 1)).b = (x a).b) (ht : (x (a + 1)).t = ept) : PRow W (span r a (a + 2) x) := by
  have e0 : span r a (a + 2) x a = x a := span_in (by omega)
  have e1 : span r a (a + 2) x (a + 1) = x (a + 1) := span_in (by omega)
  refine ⟨fun i hi => ?_, fun i hi hp => ?_, fun i hi hp => ?_⟩ <;> by_cases hin : a ≤ i ∧ i < a + 2
  · rcases (by omega : i = a ∨ i = a + 1) with rfl | rfl
    · rw [e0]; exact .inr (.inl h1)
    · rw [e1]; exact .inr (.inr h2)
  · exact (h.beside zW hi hin).1
  · rcases (by omega : i = a ∨ i = a + 1) with rfl | rfl
    · rw [e0, e1]; exact ⟨by omega, h2, hf, hg, hb⟩
    · rw [e1, h2] at hp; omega
  · obtain ⟨q1, q2, q3⟩ := (h.beside zW hi hin).2.1 hp
    rw [q1, q2]; exact h.head i hi q3
  · rcases (by omega : i = a ∨ i = a + 1) with rfl | rfl
    · rw [e0, h1] at hp; omega
    · exact ⟨a, rfl, by rw [e0]; exact h1, by rw [e1]; exact ht⟩
  · obtain ⟨q1, q2, k, hk, q3⟩ := (h.beside zW hi hin).2.2 hp
    obtain ⟨k', hk', r1, r2⟩ := h.tail i hi q2
    obtain rfl : k = k' := by omega
    exact ⟨k, hk, by rw [q3]; exact r1, by rw [q1]; exact r2⟩
/-- Blanks that are put one by one. -/
theorem PRow.next (h : PRow W r) {m : Nat} (am : a ≤ m) (mW : m < W) (hx : ∀ j, (x j).p = 0) : span (span r a m x) m (m + 1) x = span r a (m + 1) x := by
  by_cases e : a = m
  · subst e
    rw [span_none (r := r) (a := a) (z := a) (by omega)]
  have am' : a < m := by omega
  -- the cell at m, as it is before
  have hm : (span r a m x m).p ≠ 2 ∧ ((span r a m x m).p = 1 ↔ (r m).p = 1) := by
    rcases span_out (r := r) (a := a) (z := m) (x := x) (j := m) (by omega) with ⟨e1, _, n2⟩ | ⟨e1, h3 | h3⟩
    · rw [e1]
      refine ⟨fun h2 => ?_, Iff.rfl⟩
      obtain ⟨k, hk, hk1, _⟩ := h.tail m mW h2
      exact n2 ⟨am', rfl, by rw [hk, show k + 1 - 1 = k by omega]; exact hk1⟩
    · omega
    · rw [e1, bl_p]
      refine ⟨by omega, fun q => by omega, fun q => ?_⟩
      obtain ⟨_, q2, _⟩ := h.head (m - 1) (by omega) h3.2.2
      rw [show m - 1 + 1 = m by omega] at q2
      omega
  funext j
  by_cases h1 : a ≤ j ∧ j < m + 1
  · rw [span_in (r := r) h1]
    by_cases h2 : j = m
    · rw [span_in (by omega)]
    · unfold span
      rw [if_neg (by omega), if_neg, if_neg (by omega), if_pos (by omega)]
      rintro ⟨_, _, q⟩
      exact hm.1 q
  · unfold span
    rw [if_neg (by omega), if_neg (by omega), if_neg h1]
    by_cases h2 : j = m + 1
    · subst h2
      have c1 : (m + 1 - 1) = m := by omega
      rw [c1]
      have e0 : span r a m x (m + 1) = r (m + 1) := by
        unfold span; rw [if_neg (by omega), if_neg (by omega), if_neg (by omega)]
      change (if m < m + 1 ∧ m + 1 = m + 1 ∧ (span r a m x m).p = 1 then bl (span r a m x (m + 1)) else span r a m x (m + 1)) = _
      rw [e0, if_neg (c := a < m + 1 ∧ m + 1 + 1 = a ∧ (r a).p = 2) (by omega)]
      by_cases h3 : (r m).p = 1
      · rw [if_pos ⟨by omega, rfl, hm.2.2 h3⟩, if_pos ⟨by omega, rfl, h3⟩]
      · rw [if_neg (fun q => h3 (hm.2.1 q.2.2)), if_neg (fun q => h3 q.2.2)]
    · rw [if_neg (by omega), if_neg (by omega)]
      by_cases h3 : j + 1 = a ∧ (r a).p = 2
      · rw [if_pos ⟨am', h3⟩, if_pos ⟨by omega, h3⟩]
      · rw [if_neg (c := a < m ∧ j + 1 = a ∧ (r a).p = 2) (fun q => h3 q.2), if_neg (c := a < m + 1 ∧ j + 1 = a ∧ (r a).p = 2) (fun q => h3 q.2), if_neg (by omega), if_neg (by omega)]
/-- Written once more with the same, nothing changes. -/
theorem span_again (h0 : (x a).p ≠ 2) (h1 : (x (z - 1)).p ≠ 1) : span (span r a z x) a z x = span r a z x := by
  by_cases haz : a < z
  · funext j
    by_cases hin : a ≤ j ∧ j < z
    · rw [span_in hin, span_in hin]
    · rcases span_out (r := span r a z x) (x := x) hin with ⟨e, _⟩ | ⟨e, hh | hh⟩
      · exact e
      · rw [span_in (by omega)] at hh; exact absurd hh.2.2 h0
      · rw [span_in (by omega)] at hh; exact absurd hh.2.2 h1
  · rw [span_none haz, span_none haz]
end

/-- The places of a rectangle are written, row by row. -/
def fill (c : Nat → Nat → Ce) (l r t d : Nat) (x : Nat → Ce) : Nat → Nat → Ce := fun y => if t ≤ y ∧ y < d then span (c y) l r x else c y
def PAll (W H : Nat) (c : Nat → Nat → Ce) : Prop := ∀ y, y < H → PRow W (c y)
section
variable {W H l r t d : Nat} {c : Nat → Nat → Ce} {x : Nat → Ce}
theorem fill_none (h : ¬ (l < r ∧ t < d)) : fill c l r t d x = c := by
  funext y; unfold fill
  split
  · rw [span_none (by omega)]
  · rfl
theorem PAll.fill0 (h : PAll W H c) (hr : r ≤ W) (hx : ∀ j, (x j).p = 0) : PAll W H (fill c l r t d x) := by
  intro y hy; unfold fill
  split
  · exact (h y hy).span0 hr (fun j _ _ => hx j)
  · exact h y hy
theorem PAll.fill2 (h : PAll W H c) (zW : l + 2 ≤ W) (h1 : (x l).p = 1) (h2 : (x (l + 1)).p = 2) (hf : (x (l + 1)).f = (x l).f) (hg : (x (l + 1)).g = (x l).g) (hb : (x (l + 1)).b = (x l).b) (ht : (x (l + 1)).t = ept) : PAll W H (fill c l (l + 2) t d x) := by
  intro y hy; unfold fill
  split
  · exact (h y hy).span2 zW h1 h2 hf hg hb ht
  · exact h y hy
theorem fill_next (htd : t ≤ d) : fill (fill c l r t d x) l r d (d + 1) x = fill c l r t (d + 1) x := by
  funext y; unfold fill
  by_cases h : y = d
  · subst h
    rw [if_pos (by omega), if_neg (by omega), if_pos (by omega)]
  · rw [if_neg (by omega)]
    by_cases h2 : t ≤ y ∧ y < d
    · rw [if_pos h2, if_pos (by omega)]
    · rw [if_neg h2, if_neg (by omega)]
theorem fill_again (h0 : (x l).p ≠ 2) (h1 : (x (r - 1)).p ≠ 1) : fill (fill c l r t d x) l r t d x = fill c l r t d x := by
  funext y; unfold fill
  split
  · exact span_again h0 h1
  · rfl
/-- A cell beyond what is written stays, or was a half and is a blank now. -/
theorem fill_out (h : PAll W H c) (hr : r ≤ W) {y j : Nat} (hy : y < H) (hj : j < W) (ho : ¬ (t ≤ y ∧ y < d ∧ l ≤ j ∧ j < r)) : fill c l r t d x y j = c y j ∨ (fill c l r t d x y j = bl (c y j) ∧ (c y j).p ≠ 0) := by
  unfold fill
  by_cases h1 : t ≤ y ∧ y < d
  · rw [if_pos h1]
    rcases span_out (r := c y) (a := l) (z := r) (x := x) (j := j) (by omega) with ⟨e, _⟩ | ⟨e, hh | hh⟩
    · exact .inl e
    · refine .inr ⟨e, ?_⟩
      obtain ⟨k, hk, hk1, _⟩ := (h y hy).tail l (by omega) hh.2.2
      have : k = j := by omega
      rw [← this, hk1]; omega
    · refine .inr ⟨e, ?_⟩
      obtain ⟨_, q, _⟩ := (h y hy).head (r - 1) (by omega) hh.2.2
      rw [show r - 1 + 1 = j by omega] at q
      rw [q]; omega
  · rw [if_neg h1]; exact .inl rfl
end
end Go.Proofs.YtkdajaphbmclkaaGreatDoor
