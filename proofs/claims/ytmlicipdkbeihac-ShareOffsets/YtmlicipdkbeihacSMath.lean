/-
  The mathematics of pouring: sums, who is full, what is missing.
-/
import Derived.Test.YtmlicipdkbeihacSBack
namespace Go.Proofs.Ytmlicipdkbeihac
set_option linter.unusedVariables false
/-- The sum of f over a list. -/
def sumL (f : Nat → Int) (l : List Nat) : Int := (l.map f).sum
theorem sumL_nil (f : Nat → Int) : sumL f [] = 0 := rfl
theorem sumL_cons (f : Nat → Int) (j : Nat) (l : List Nat) : sumL f (j :: l) = f j + sumL f l := by simp [sumL]
theorem sumL_append (f : Nat → Int) (l m : List Nat) : sumL f (l ++ m) = sumL f l + sumL f m := by simp [sumL]
theorem sumL_snoc (f : Nat → Int) (l : List Nat) (j : Nat) : sumL f (l ++ [j]) = sumL f l + f j := by simp [sumL]
theorem sumL_perm {f : Nat → Int} {l m : List Nat} (h : l.Perm m) : sumL f l = sumL f m := by
  induction h with
  | nil => rfl
  | cons x _ ih => rw [sumL_cons, sumL_cons, ih]
  | swap x y l => simp only [sumL_cons]; omega
  | trans _ _ a b => exact a.trans b
theorem sumL_le {f g : Nat → Int} {l : List Nat} (h : ∀ j ∈ l, f j ≤ g j) : sumL f l ≤ sumL g l := by
  induction l with
  | nil => exact Int.le_refl _
  | cons a l ih =>
    have := h a (by simp)
    have := ih fun j hj => h j (by simp [hj])
    rw [sumL_cons, sumL_cons]; omega
theorem sumL_congr {f g : Nat → Int} {l : List Nat} (h : ∀ j ∈ l, f j = g j) : sumL f l = sumL g l :=
  Int.le_antisymm (sumL_le fun j hj => Int.le_of_eq (h j hj)) (sumL_le fun j hj => Int.le_of_eq (h j hj).symm)
theorem sumL_add (f g : Nat → Int) (l : List Nat) : sumL (fun j => f j + g j) l = sumL f l + sumL g l := by
  induction l with
  | nil => rfl
  | cons a l ih => simp only [sumL_cons, ih]; omega
theorem sumL_mul (c : Int) (f : Nat → Int) (l : List Nat) : sumL (fun j => c * f j) l = c * sumL f l := by
  induction l with
  | nil => simp [sumL]
  | cons a l ih => simp only [sumL_cons, ih, Int.mul_add]
theorem sumL_nonneg {f : Nat → Int} {l : List Nat} (h : ∀ j ∈ l, 0 ≤ f j) : 0 ≤ sumL f l := by
  induction l with
  | nil => exact Int.le_refl _
  | cons a l ih =>
    have := h a (by simp)
    have := ih fun j hj => h j (by simp [hj])
    rw [sumL_cons]; omega
theorem sumL_bound {f : Nat → Int} {l : List Nat} {b : Int} (h : ∀ j ∈ l, f j ≤ b) : sumL f l ≤ (l.length : Int) * b := by
  induction l with
  | nil => simp [sumL]
  | cons a l ih =>
    have := h a (by simp)
    have := ih fun j hj => h j (by simp [hj])
    rw [sumL_cons, List.length_cons, Int.natCast_add, Int.add_mul]; omega
theorem sumL_mem {f : Nat → Int} {l : List Nat} (h : ∀ j ∈ l, 0 ≤ f j) {i : Nat} (hi : i ∈ l) : f i ≤ sumL f l := by
  induction l with
  | nil => simp at hi
  | cons a l ih =>
    have h1 := h a (by simp)
    have h2 : 0 ≤ sumL f l := sumL_nonneg fun j hj => h j (by simp [hj])
    rw [sumL_cons]
    rcases List.mem_cons.1 hi with rfl | hi
    · omega
    · have := ih (fun j hj => h j (by simp [hj])) hi; omega
/-- Where f is nothing off A: the sum over all is the sum over A. -/
theorem sumL_sub {f : Nat → Int} {l A : List Nat} (hl : l.Nodup) (hA : A.Nodup) (hs : ∀ j ∈ A, j ∈ l) (h0 : ∀ j ∈ l, j ∉ A → f j = 0) : sumL f l = sumL f A := by
  induction A generalizing l with
  | nil =>
    rw [sumL_nil]
    have : sumL f l = sumL (fun _ => 0) l := sumL_congr fun j hj => h0 j hj (by simp)
    rw [this]
    clear this h0 hs hl
    induction l with
    | nil => rfl
    | cons a l ih => rw [sumL_cons, ih]; rfl
  | cons a A ih =>
    have ha : a ∈ l := hs a (by simp)
    have hp := List.perm_cons_erase ha
    rw [sumL_perm hp, sumL_cons, sumL_cons]
    have hna := List.nodup_cons.1 hA
    have := ih (l := l.erase a) (hl.erase a) hna.2 (fun j hj => (List.mem_erase_of_ne (fun e => hna.1 (by rw [← e]; exact hj))).2 (hs j (by simp [hj]))) (fun j hj hjA => by
      have h1 : j ≠ a := fun e => by subst e; exact (List.Nodup.not_mem_erase hl) hj
      exact h0 j (List.mem_of_mem_erase hj) (by simp [h1, hjA]))
    rw [this]

variable {Mn Mx Wt : Nat → Int}

/-- One more is full: all that are full stay so at the new t. -/
theorem full_next {A B : List Nat} {i : Nat} {L W : Int} (hm : ∀ j, 0 ≤ Mx j - Mn j) (hA : ∀ j ∈ A, 0 < Wt j ∧ (Mx j - Mn j) * Wt i ≤ (Mx i - Mn i) * Wt j) (hi : 0 < Wt i) (hB : ∀ j ∈ B, 0 < Wt j) (hW : W = sumL Wt (i :: B)) (hle : (Mx i - Mn i) * W ≤ L * Wt i) :
    0 ≤ L - (Mx i - Mn i) ∧ ∀ j ∈ A ++ [i], (Mx j - Mn j) * (W - Wt i) ≤ (L - (Mx i - Mn i)) * Wt j := by
  have hB0 : 0 ≤ sumL Wt B := sumL_nonneg fun j hj => Int.le_of_lt (hB j hj)
  rw [sumL_cons] at hW
  have hmi := hm i
  have h1 : (Mx i - Mn i) * Wt i ≤ (Mx i - Mn i) * W := Int.mul_le_mul_of_nonneg_left (by omega) hmi
  have h2 : (Mx i - Mn i) ≤ L := Int.le_of_mul_le_mul_right (Int.le_trans h1 hle) hi
  have hW0 : 0 ≤ W - Wt i := by omega
  have hii : (Mx i - Mn i) * (W - Wt i) ≤ (L - (Mx i - Mn i)) * Wt i := by
    rw [Int.mul_sub (Mx i - Mn i) W (Wt i), Int.sub_mul L (Mx i - Mn i) (Wt i)]; omega
  refine ⟨by omega, fun j hj => ?_⟩
  rcases List.mem_append.1 hj with hj | hj
  · obtain ⟨hj1, hj2⟩ := hA j hj
    have e1 : (Mx j - Mn j) * Wt i * (W - Wt i) ≤ (Mx i - Mn i) * Wt j * (W - Wt i) := Int.mul_le_mul_of_nonneg_right hj2 hW0
    have e2 : (Mx i - Mn i) * (W - Wt i) * Wt j ≤ (L - (Mx i - Mn i)) * Wt i * Wt j := Int.mul_le_mul_of_nonneg_right hii (by omega)
    have e3 : (Mx j - Mn j) * (W - Wt i) * Wt i ≤ (L - (Mx i - Mn i)) * Wt j * Wt i := by
      rw [Int.mul_right_comm (Mx j - Mn j), Int.mul_right_comm (L - (Mx i - Mn i))]
      refine Int.le_trans e1 ?_
      rw [Int.mul_right_comm (Mx i - Mn i)]; exact e2
    exact Int.le_of_mul_le_mul_right e3 hi
  · simp only [List.mem_singleton] at hj
    subst hj; exact hii

/-- The next one gets not full: none of those behind it does. -/
theorem none_full {B : List Nat} {i : Nat} {L W : Int} (hi : 0 < Wt i) (hW : 0 < W) (hB : ∀ k ∈ B, 0 < Wt k ∧ (Mx i - Mn i) * Wt k ≤ (Mx k - Mn k) * Wt i) (hgt : L * Wt i < (Mx i - Mn i) * W) : ∀ k ∈ i :: B, L * Wt k < (Mx k - Mn k) * W := by
  intro k hk
  rcases List.mem_cons.1 hk with rfl | hk
  · exact hgt
  · obtain ⟨h1, h2⟩ := hB k hk
    have e1 : L * Wt i * Wt k < (Mx i - Mn i) * W * Wt k := Int.mul_lt_mul_of_pos_right hgt h1
    have e2 : (Mx i - Mn i) * Wt k * W ≤ (Mx k - Mn k) * Wt i * W := Int.mul_le_mul_of_nonneg_right h2 (by omega)
    have e3 : L * Wt k * Wt i < (Mx k - Mn k) * W * Wt i := by
      rw [Int.mul_right_comm L, Int.mul_right_comm (Mx k - Mn k)]
      refine Int.lt_of_lt_of_le e1 ?_
      rw [Int.mul_right_comm (Mx i - Mn i)]; exact e2
    exact Int.lt_of_mul_lt_mul_right e3 (by omega)

/-- What is missing behind the whole parts: fewer than all. -/
theorem missing_bd {S : List Nat} {L W : Int} (hW : W = sumL Wt S) (hpos : 0 < W) : 0 ≤ L - sumL (fun j => L * Wt j / W) S ∧ L - sumL (fun j => L * Wt j / W) S < S.length := by
  have e : sumL (fun j => L * Wt j) S = W * sumL (fun j => L * Wt j / W) S + sumL (fun j => L * Wt j % W) S := by
    rw [← sumL_mul, ← sumL_add]
    exact sumL_congr fun j _ => (Int.mul_ediv_add_emod _ _).symm
  rw [sumL_mul, ← hW] at e
  have f0 : 0 ≤ sumL (fun j => L * Wt j % W) S := sumL_nonneg fun j _ => Int.emod_nonneg _ (by omega)
  have f1 : sumL (fun j => L * Wt j % W) S ≤ (S.length : Int) * (W - 1) := sumL_bound fun j _ => by have := Int.emod_lt_of_pos (L * Wt j) hpos; omega
  have hS : S ≠ [] := by intro h; rw [h, sumL_nil] at hW; omega
  have hS1 : (0 : Int) < S.length := by have := List.length_pos_iff.2 hS; omega
  obtain ⟨q, hq⟩ : ∃ q, sumL (fun j => L * Wt j / W) S = q := ⟨_, rfl⟩
  rw [hq] at e ⊢
  have e2 : W * (L - q) = sumL (fun j => L * Wt j % W) S := by rw [Int.mul_sub, Int.mul_comm W L]; omega
  refine ⟨?_, ?_⟩
  · exact Int.le_of_mul_le_mul_left (by rw [e2]; simpa using f0) hpos
  · refine Int.lt_of_mul_lt_mul_left (a := W) ?_ (by omega)
    rw [e2, Int.mul_comm W]
    rw [Int.mul_sub, Int.mul_one] at f1
    omega

/-- What comes of pouring r: A are full, S (in the order of their fractions) are not. -/
structure Poured (n : Nat) (Mn Mx Wt : Nat → Int) (r : Int) (a : Nat → Int) (A S : List Nat) (L W : Int) (m : Nat) : Prop where
  perm : (A ++ S).Perm ((List.range n).filter fun j => decide (0 < Wt j))
  left : L = r - sumL Mn (List.range n) - sumL (fun j => Mx j - Mn j) A
  pos : 0 ≤ L
  weight : W = sumL Wt S
  full : ∀ j ∈ A, (Mx j - Mn j) * W ≤ L * Wt j
  open_ : ∀ j ∈ S, L * Wt j < (Mx j - Mn j) * W
  miss : S ≠ [] → (m : Int) = L - sumL (fun j => L * Wt j / W) S
  none_ : S = [] → m = 0
  sorted : S.Pairwise fun i k => L * Wt k % W < L * Wt i % W ∨ (L * Wt i % W = L * Wt k % W ∧ i < k)
  is : ∀ j, j < n → a j = if j ∈ A then Mx j else if j ∈ S then Mn j + L * Wt j / W + (if j ∈ S.take m then 1 else 0) else Mn j


theorem Poured.facts {n : Nat} {r : Int} {a : Nat → Int} {A S : List Nat} {L W : Int} {m : Nat} (h : Poured n Mn Mx Wt r a A S L W m) :
    A.Nodup ∧ S.Nodup ∧ (∀ j ∈ A, j ∉ S) ∧ (∀ j ∈ A, j < n ∧ 0 < Wt j) ∧ (∀ j ∈ S, j < n ∧ 0 < Wt j) ∧ (∀ j, j < n → 0 < Wt j → j ∈ A ∨ j ∈ S) := by
  have hf : ((List.range n).filter fun j => decide (0 < Wt j)).Nodup := List.nodup_range.filter _
  have hn := h.perm.nodup_iff.2 hf
  rw [List.nodup_append] at hn
  have hm : ∀ j, j ∈ A ++ S ↔ j < n ∧ 0 < Wt j := fun j => by rw [h.perm.mem_iff]; simp
  refine ⟨hn.1, hn.2.1, fun j hA hS => hn.2.2 j hA j hS rfl, fun j hj => (hm j).1 (by simp [hj]), fun j hj => (hm j).1 (by simp [hj]), fun j h1 h2 => by simpa using (hm j).2 ⟨h1, h2⟩⟩

theorem div_lt_of {x y W : Int} (hW : 0 < W) (h : x < y * W) : x / W + 1 ≤ y := by
  have := Int.ediv_lt_of_lt_mul hW h
  omega

/-- Each is at least its Min and at most its Max. -/
theorem Poured.bds {n : Nat} {r : Int} {a : Nat → Int} {A S : List Nat} {L W : Int} {m : Nat} (h : Poured n Mn Mx Wt r a A S L W m) (hw : ∀ j, Mn j ≤ Mx j) (hp : ∀ j, 0 ≤ Wt j) :
    ∀ j, j < n → Mn j ≤ a j ∧ a j ≤ Mx j ∧ (Wt j = 0 → a j = Mn j) := by
  obtain ⟨hA, hS, hd, fA, fS, hall⟩ := h.facts
  intro j hj
  rw [h.is j hj]
  have := hw j
  have := hp j
  by_cases h1 : j ∈ A
  · rw [if_pos h1]; have := (fA j h1).2; exact ⟨by omega, by omega, fun e => by omega⟩
  · rw [if_neg h1]
    by_cases h2 : j ∈ S
    · rw [if_pos h2]
      have hpos : 0 < W := by rw [h.weight]; exact Int.lt_of_lt_of_le (fS j h2).2 (sumL_mem (fun k _ => hp k) h2)
      have := div_lt_of hpos (h.open_ j h2)
      have h0 : 0 ≤ L * Wt j / W := Int.ediv_nonneg (Int.mul_nonneg h.pos (hp j)) (by omega)
      have := (fS j h2).2
      split <;> exact ⟨by omega, by omega, fun e => by omega⟩
    · rw [if_neg h2]; exact ⟨by omega, by omega, fun _ => rfl⟩

theorem take_sum (S : List Nat) (hS : S.Nodup) (m : Nat) (hm : m ≤ S.length) : sumL (fun j => if j ∈ S.take m then 1 else 0) S = m := by
  have e : sumL (fun j => if j ∈ S.take m then (1 : Int) else 0) S = sumL (fun j => if j ∈ S.take m then (1 : Int) else 0) (S.take m) :=
    sumL_sub hS (hS.sublist (List.take_sublist _ _)) (fun j hj => List.mem_of_mem_take hj) (fun j _ hj => if_neg hj)
  rw [e, sumL_congr (g := fun _ => 1) (fun j hj => if_pos hj)]
  have : ∀ l : List Nat, sumL (fun _ => (1 : Int)) l = l.length := by
    intro l; induction l with
    | nil => rfl
    | cons a l ih => rw [sumL_cons, ih, List.length_cons]; omega
  rw [this, List.length_take]; omega

theorem Poured.sum {n : Nat} {r : Int} {a : Nat → Int} {A S : List Nat} {L W : Int} {m : Nat} (h : Poured n Mn Mx Wt r a A S L W m) (hp : ∀ j, 0 ≤ Wt j) :
    (S ≠ [] → sumL a (List.range n) = r) ∧ (S = [] → sumL a (List.range n) = sumL (fun j => if 0 < Wt j then Mx j else Mn j) (List.range n) ∧ L = r - sumL a (List.range n)) := by
  obtain ⟨hA, hS, hd, fA, fS, hall⟩ := h.facts
  have hr : (List.range n).Nodup := List.nodup_range
  have e0 : sumL a (List.range n) = sumL Mn (List.range n) + sumL (fun j => (if j ∈ A then Mx j - Mn j else 0) + (if j ∈ S then L * Wt j / W + (if j ∈ S.take m then 1 else 0) else 0)) (List.range n) := by
    rw [← sumL_add]
    refine sumL_congr fun j hj => ?_
    rw [h.is j (by simpa using hj)]
    by_cases h1 : j ∈ A
    · have := hd j h1
      simp only [if_pos h1, if_neg this]; omega
    · by_cases h2 : j ∈ S
      · simp only [if_neg h1, if_pos h2]; omega
      · simp only [if_neg h1, if_neg h2]; omega
  have eA : sumL (fun j => if j ∈ A then Mx j - Mn j else 0) (List.range n) = sumL (fun j => Mx j - Mn j) A := by
    rw [sumL_sub (A := A) hr hA (fun j hj => by simpa using (fA j hj).1) (fun j _ hj => if_neg hj)]
    exact sumL_congr fun j hj => if_pos hj
  have eS : sumL (fun j => if j ∈ S then L * Wt j / W + (if j ∈ S.take m then 1 else 0) else 0) (List.range n) = sumL (fun j => L * Wt j / W) S + sumL (fun j => if j ∈ S.take m then 1 else 0) S := by
    rw [sumL_sub (A := S) hr hS (fun j hj => by simpa using (fS j hj).1) (fun j _ hj => if_neg hj), ← sumL_add]
    exact sumL_congr fun j hj => if_pos hj
  rw [sumL_add, eA, eS] at e0
  have hl := h.left
  refine ⟨fun hne => ?_, fun he => ?_⟩
  · have hpos : 0 < W := by
      obtain ⟨x, hx⟩ := List.exists_mem_of_ne_nil S hne
      rw [h.weight]; exact Int.lt_of_lt_of_le (fS x hx).2 (sumL_mem (fun k _ => hp k) hx)
    have hm := h.miss hne
    have hb := missing_bd (L := L) h.weight hpos
    rw [← hm] at hb
    rw [take_sum S hS m (by omega)] at e0
    omega
  · subst he
    simp only [sumL_nil] at e0
    refine ⟨?_, by omega⟩
    refine sumL_congr fun j hj => ?_
    rw [h.is j (by simpa using hj)]
    by_cases h1 : j ∈ A
    · rw [if_pos h1, if_pos (fA j h1).2]
    · rw [if_neg h1, if_neg (by simp), if_neg]
      intro h2
      rcases hall j (by simpa using hj) h2 with h3 | h3
      · exact h1 h3
      · simp at h3

/-- ShareTiles' heart. -/
theorem Poured.tiles {n : Nat} {r : Int} {a : Nat → Int} {A S : List Nat} {L W : Int} {m : Nat} (h : Poured n Mn Mx Wt r a A S L W m) (hw : ∀ j, Mn j ≤ Mx j) (hp : ∀ j, 0 ≤ Wt j) :
    sumL a (List.range n) = min r (sumL (fun j => if 0 < Wt j then Mx j else Mn j) (List.range n)) := by
  have hs := h.sum hp
  have hb := h.bds hw hp
  by_cases he : S = []
  · have := hs.2 he
    have := h.pos
    omega
  · have h1 := hs.1 he
    have : sumL a (List.range n) ≤ sumL (fun j => if 0 < Wt j then Mx j else Mn j) (List.range n) := sumL_le fun j hj => by
      have := hb j (by simpa using hj)
      have := hp j
      split
      · omega
      · have := this; have h3 := (hb j (by simpa using hj)).2.2 (by omega); omega
    omega

/-- ShareFair's heart. -/
theorem Poured.fair {n : Nat} {r : Int} {a : Nat → Int} {A S : List Nat} {L W : Int} {m : Nat} (h : Poured n Mn Mx Wt r a A S L W m) (hw : ∀ j, Mn j ≤ Mx j) (hp : ∀ j, 0 ≤ Wt j) (i k : Nat) (hi : i < n) (hk : k < n) (wi : 0 < Wt i) (wk : 0 < Wt k) (hlt : a i < Mx i) : (a k - Mn k - 1) * Wt i < (a i - Mn i + 1) * Wt k := by
  obtain ⟨hA, hS, hd, fA, fS, hall⟩ := h.facts
  have hiA : i ∉ A := fun hA => by have := h.is i hi; rw [if_pos hA] at this; omega
  have hiS : i ∈ S := by rcases hall i hi wi with h1 | h1; exact (hiA h1).elim; exact h1
  have hpos : 0 < W := by rw [h.weight]; exact Int.lt_of_lt_of_le wi (sumL_mem (fun k _ => hp k) hiS)
  have h1 : L * Wt i < (a i - Mn i + 1) * W := by
    have e := h.is i hi
    rw [if_neg hiA, if_pos hiS] at e
    have q : L * Wt i / W ≤ a i - Mn i := by split at e <;> omega
    have := Int.lt_ediv_add_one_mul_self (L * Wt i) hpos
    exact Int.lt_of_lt_of_le this (Int.mul_le_mul_of_nonneg_right (by omega) (by omega))
  have h2 : (a k - Mn k - 1) * W ≤ L * Wt k := by
    have e := h.is k hk
    rcases hall k hk wk with hkA | hkS
    · rw [if_pos hkA] at e
      rw [e]
      have := h.full k hkA
      have : (Mx k - Mn k - 1) * W = (Mx k - Mn k) * W - W := by rw [Int.sub_mul (Mx k - Mn k), Int.one_mul]
      omega
    · rw [if_neg (fun hA => hd k hA hkS), if_pos hkS] at e
      have q : a k - Mn k - 1 ≤ L * Wt k / W := by split at e <;> omega
      have h3 := Int.ediv_mul_le (L * Wt k) (show W ≠ 0 by omega)
      exact Int.le_trans (Int.mul_le_mul_of_nonneg_right q (by omega)) h3
  have e1 : (a k - Mn k - 1) * W * Wt i ≤ L * Wt k * Wt i := Int.mul_le_mul_of_nonneg_right h2 (by omega)
  have e2 : L * Wt i * Wt k < (a i - Mn i + 1) * W * Wt k := Int.mul_lt_mul_of_pos_right h1 wk
  have e3 : (a k - Mn k - 1) * Wt i * W < (a i - Mn i + 1) * Wt k * W := by
    rw [Int.mul_right_comm (a k - Mn k - 1), Int.mul_right_comm (a i - Mn i + 1)]
    refine Int.lt_of_le_of_lt e1 ?_
    rw [Int.mul_right_comm L]; exact e2
  exact Int.lt_of_mul_lt_mul_right e3 (by omega)

theorem gb_facts (d : List Int) (hd : ∀ i, i < d.length → 0 ≤ d[i]?.getD 0) : ∀ (c : Nat) (m : Int) (Y : List Int), c ≤ d.length → 0 ≤ m → m ≤ (d.take c).sum →
    ∃ X, gb d c m Y = X ++ Y ∧ X.length = c ∧ (∀ i, i < c → 0 ≤ X[i]?.getD 0 ∧ X[i]?.getD 0 ≤ d[i]?.getD 0) ∧ X.sum = (d.take c).sum - m ∧ (∀ i k, i < k → k < c → X[i]?.getD 0 < d[i]?.getD 0 → X[k]?.getD 0 = 0) ∧ (m = 0 → ∀ i, i < c → X[i]?.getD 0 = d[i]?.getD 0)
  | 0, m, Y, _, h0, hm => ⟨[], rfl, rfl, fun i hi => by omega, by simp at hm ⊢; omega, fun i k _ hk => by omega, fun _ i hi => by omega⟩
  | c + 1, m, Y, hc, h0, hm => by
    have hx := hd c (by omega)
    have ht : (d.take (c + 1)).sum = (d.take c).sum + d[c]?.getD 0 := by
      rw [List.take_succ_eq_append_getElem (by omega), List.getElem?_eq_getElem (by omega), List.sum_append]; simp only [List.sum_cons, List.sum_nil, Option.getD_some]; omega
    have hs0 : 0 ≤ (d.take c).sum := by
      have : ∀ k, k ≤ d.length → 0 ≤ (d.take k).sum := by
        intro k hk
        induction k with
        | zero => simp
        | succ k ih =>
          have h1 := ih (by omega)
          have h2 := hd k (by omega)
          rw [List.take_succ_eq_append_getElem (by omega)]
          rw [List.getElem?_eq_getElem (by omega)] at h2
          rw [List.sum_append]; simp only [List.sum_cons, List.sum_nil, Option.getD_some] at h2 ⊢; omega
      exact this c (by omega)
    obtain ⟨x, hxe⟩ : ∃ x, d[c]?.getD 0 = x := ⟨_, rfl⟩
    rw [hxe] at hx ht
    obtain ⟨X, e, hl, hb, hs, hk, hz⟩ := gb_facts d hd c (m - min m x) ((x - min m x) :: Y) (by omega) (by omega) (by omega)
    refine ⟨X ++ [x - min m x], by rw [gb, hxe, e]; simp, by simp [hl], ?_, ?_, ?_, ?_⟩
    · intro i hi
      by_cases h1 : i < c
      · rw [List.getElem?_append_left (by omega)]; exact hb i h1
      · obtain rfl : i = c := by omega
        rw [List.getElem?_append_right (by omega), hl, Nat.sub_self, hxe]; simp; omega
    · rw [List.sum_append, hs, ht]; simp; omega
    · intro i k hik hkc hlt
      rw [List.getElem?_append_left (by omega)] at hlt
      by_cases h1 : k < c
      · rw [List.getElem?_append_left (by omega)]; exact hk i k hik h1 hlt
      · obtain rfl : k = c := by omega
        rw [List.getElem?_append_right (by omega), hl, Nat.sub_self]
        simp only [List.getElem?_cons_zero, Option.getD_some]
        by_cases h2 : m ≤ x
        · have := hz (by omega) i (by omega); omega
        · omega
    · intro h1 i hi
      by_cases h2 : i < c
      · rw [List.getElem?_append_left (by omega)]; exact hz (by omega) i h2
      · obtain rfl : i = c := by omega
        rw [List.getElem?_append_right (by omega), hl, Nat.sub_self, hxe]; simp; omega

end Go.Proofs.Ytmlicipdkbeihac
