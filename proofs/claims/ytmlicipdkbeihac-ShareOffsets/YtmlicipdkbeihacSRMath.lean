/-
  The reference's side of Split: levels, bends, the first of the greatest.
-/
import Derived.Test.YtmlicipdkbeihacSSplit
namespace Go.Proofs.Ytmlicipdkbeihac
set_option linter.unusedVariables false
variable {Mn Mx Wt : Nat → Int}

/-- The level of a want at p by q, times q. -/
def levI (mn mx wt p q : Int) : Int := if mx * q < mn * q + p * wt then mx * q else mn * q + p * wt
theorem lev_le1 (mn mx wt p q : Int) : levI mn mx wt p q ≤ mx * q ∧ levI mn mx wt p q ≤ mn * q + p * wt := by unfold levI; split <;> omega
theorem le_lev {mn mx wt p q x : Int} (h1 : x ≤ mx * q) (h2 : x ≤ mn * q + p * wt) : x ≤ levI mn mx wt p q := by unfold levI; split <;> omega
def totI (n : Nat) (Mn Mx Wt : Nat → Int) (p q : Int) : Int := sumL (fun j => levI (Mn j) (Mx j) (Wt j) p q) (List.range n)

theorem lev_mono {mn mx wt p q L V : Int} (hw : 0 ≤ wt) (hq : 0 < q) (hV : 0 < V) (h : p * V ≤ L * q) : levI mn mx wt p q * V ≤ levI mn mx wt L V * q := by
  have h1 := (lev_le1 mn mx wt p q).1
  have h2 := (lev_le1 mn mx wt p q).2
  have a1 : levI mn mx wt p q * V ≤ mx * q * V := Int.mul_le_mul_of_nonneg_right h1 (by omega)
  have a2 : levI mn mx wt p q * V ≤ (mn * q + p * wt) * V := Int.mul_le_mul_of_nonneg_right h2 (by omega)
  have a3 : p * V * wt ≤ L * q * wt := Int.mul_le_mul_of_nonneg_right h hw
  have e1 : mx * q * V = mx * V * q := Int.mul_right_comm _ _ _
  have e2 : (mn * q + p * wt) * V = mn * V * q + p * V * wt := by rw [Int.add_mul, Int.mul_right_comm mn, Int.mul_right_comm p]
  have e3 : (mn * V + L * wt) * q = mn * V * q + L * q * wt := by rw [Int.add_mul, Int.mul_right_comm L]
  unfold levI at *
  by_cases c : mx * V < mn * V + L * wt
  · rw [if_pos c]; omega
  · rw [if_neg c]; omega

theorem sumL_eq_of_le {f g : Nat → Int} {l : List Nat} (h : ∀ j ∈ l, f j ≤ g j) (e : sumL f l = sumL g l) : ∀ j ∈ l, f j = g j := by
  induction l with
  | nil => intro j hj; simp at hj
  | cons a l ih =>
    have h1 := h a (by simp)
    have h2 : sumL f l ≤ sumL g l := sumL_le fun j hj => h j (by simp [hj])
    rw [sumL_cons, sumL_cons] at e
    intro j hj
    rcases List.mem_cons.1 hj with rfl | hj
    · omega
    · exact ih (fun j hj => h j (by simp [hj])) (by omega) j hj

theorem Poured.levs {n : Nat} {r : Int} {a : Nat → Int} {A S : List Nat} {L W : Int} {m : Nat} (h : Poured n Mn Mx Wt r a A S L W m) (hw : ∀ j, Mn j ≤ Mx j) (hp : ∀ j, 0 ≤ Wt j) (hW : 0 ≤ W) :
    ∀ j, j < n → levI (Mn j) (Mx j) (Wt j) L W = if j ∈ A then Mx j * W else if j ∈ S then Mn j * W + L * Wt j else Mn j * W := by
  obtain ⟨hA, hS, hd, fA, fS, hall⟩ := h.facts
  intro j hj
  unfold levI
  by_cases h1 : j ∈ A
  · rw [if_pos h1]
    have := h.full j h1
    rw [Int.sub_mul] at this
    split <;> omega
  · rw [if_neg h1]
    by_cases h2 : j ∈ S
    · rw [if_pos h2]
      have := h.open_ j h2
      rw [Int.sub_mul] at this
      rw [if_neg (by omega)]
    · rw [if_neg h2]
      have h0 : Wt j = 0 := by
        have := hp j
        by_cases e : 0 < Wt j
        · rcases hall j hj e with h | h
          · exact (h1 h).elim
          · exact (h2 h).elim
        · omega
      have hm : Mn j * W ≤ Mx j * W := Int.mul_le_mul_of_nonneg_right (hw j) hW
      rw [h0, Int.mul_zero]
      rw [if_neg (by omega)]; omega

theorem sumL_if {f : Nat → Int} {n : Nat} {A : List Nat} (hA : A.Nodup) (fA : ∀ j ∈ A, j < n) : sumL (fun j => if j ∈ A then f j else 0) (List.range n) = sumL f A := by
  rw [sumL_sub (A := A) List.nodup_range hA (fun j hj => by simpa using fA j hj) (fun j _ hj => if_neg hj)]
  exact sumL_congr fun j hj => if_pos hj

theorem Poured.tots {n : Nat} {r : Int} {a : Nat → Int} {A S : List Nat} {L W : Int} {m : Nat} (h : Poured n Mn Mx Wt r a A S L W m) (hw : ∀ j, Mn j ≤ Mx j) (hp : ∀ j, 0 ≤ Wt j) (hW : 0 ≤ W) : totI n Mn Mx Wt L W = r * W := by
  obtain ⟨hA, hS, hd, fA, fS, hall⟩ := h.facts
  have hl := h.levs hw hp hW
  have e0 : totI n Mn Mx Wt L W = W * sumL Mn (List.range n) + (W * sumL (fun j => Mx j - Mn j) A + L * sumL Wt S) := by
    unfold totI
    rw [← sumL_mul W, ← sumL_mul W, ← sumL_mul L, ← sumL_if (f := fun j => W * (Mx j - Mn j)) hA (fun j hj => (fA j hj).1), ← sumL_if (f := fun j => L * Wt j) hS (fun j hj => (fS j hj).1), ← sumL_add, ← sumL_add]
    refine sumL_congr fun j hj => ?_
    rw [hl j (by simpa using hj)]
    by_cases h1 : j ∈ A
    · have := hd j h1
      simp only [if_pos h1, if_neg this]
      rw [Int.mul_sub, Int.mul_comm W (Mx j), Int.mul_comm W (Mn j)]; omega
    · by_cases h2 : j ∈ S
      · simp only [if_neg h1, if_pos h2]
        rw [Int.mul_comm W (Mn j)]; omega
      · simp only [if_neg h1, if_neg h2]
        rw [Int.mul_comm W (Mn j)]; omega
  rw [e0, ← h.weight, h.left]
  obtain ⟨x, hx⟩ : ∃ x, sumL Mn (List.range n) = x := ⟨_, rfl⟩
  obtain ⟨y, hy⟩ : ∃ y, sumL (fun j => Mx j - Mn j) A = y := ⟨_, rfl⟩
  rw [hx, hy, Int.sub_mul, Int.sub_mul, Int.mul_comm W x, Int.mul_comm W y]; omega

/-- At any t at which the levels are r together they are the same. -/
theorem Poured.same {n : Nat} {r : Int} {a : Nat → Int} {A S : List Nat} {L W : Int} {m : Nat} (h : Poured n Mn Mx Wt r a A S L W m) (hw : ∀ j, Mn j ≤ Mx j) (hp : ∀ j, 0 ≤ Wt j) (hW : 0 < W) {p q : Int} (hq : 0 < q) (ht : totI n Mn Mx Wt p q = r * q) :
    ∀ j, j < n → levI (Mn j) (Mx j) (Wt j) p q * W = levI (Mn j) (Mx j) (Wt j) L W * q := by
  have h2 := h.tots hw hp (by omega)
  have e1 : sumL (fun j => levI (Mn j) (Mx j) (Wt j) p q * W) (List.range n) = r * q * W := by
    rw [← ht]; unfold totI
    rw [Int.mul_comm _ W, ← sumL_mul]
    exact sumL_congr fun j _ => Int.mul_comm _ _
  have e2 : sumL (fun j => levI (Mn j) (Mx j) (Wt j) L W * q) (List.range n) = r * W * q := by
    rw [← h2]; unfold totI
    rw [Int.mul_comm _ q, ← sumL_mul]
    exact sumL_congr fun j _ => Int.mul_comm _ _
  have e3 : r * q * W = r * W * q := Int.mul_right_comm _ _ _
  intro j hj
  by_cases c : p * W ≤ L * q
  · exact sumL_eq_of_le (fun j _ => lev_mono (hp j) hq hW c) (by rw [e1, e2, e3]) j (by simpa using hj)
  · exact (sumL_eq_of_le (fun j _ => lev_mono (hp j) hW hq (by omega)) (by rw [e1, e2, e3]) j (by simpa using hj)).symm

theorem cross_div {a N q V : Int} (hq : 0 < q) (hV : 0 < V) (h : a * V = N * q) : a / q = N / V ∧ a % q * V = N % V * q := by
  refine ⟨?_, ?_⟩
  · rw [← Int.mul_ediv_mul_of_pos_left a q hV, h, Int.mul_comm q V, Int.mul_ediv_mul_of_pos_left N V hq]
  · rw [Int.mul_comm (a % q) V, ← Int.mul_emod_mul_of_pos a q hV, Int.mul_comm V a, h, Int.mul_comm (N % V) q, ← Int.mul_emod_mul_of_pos N V hq, Int.mul_comm V q, Int.mul_comm q N]

/-- What each has of whole ones; what is left of it as a fraction. -/
def bse (Mn Mx Wt : Nat → Int) (A S : List Nat) (L W : Int) (j : Nat) : Int := if j ∈ A then Mx j else if j ∈ S then Mn j + L * Wt j / W else Mn j
def frc (Wt : Nat → Int) (S : List Nat) (L W : Int) (j : Nat) : Int := if j ∈ S then L * Wt j % W else 0

theorem Poured.parts {n : Nat} {r : Int} {a : Nat → Int} {A S : List Nat} {L W : Int} {m : Nat} (h : Poured n Mn Mx Wt r a A S L W m) (hw : ∀ j, Mn j ≤ Mx j) (hp : ∀ j, 0 ≤ Wt j) (hW : 0 < W) {p q : Int} (hq : 0 < q) (ht : totI n Mn Mx Wt p q = r * q) :
    ∀ j, j < n → levI (Mn j) (Mx j) (Wt j) p q / q = bse Mn Mx Wt A S L W j ∧ levI (Mn j) (Mx j) (Wt j) p q % q * W = frc Wt S L W j * q := by
  obtain ⟨hA, hS, hd, fA, fS, hall⟩ := h.facts
  intro j hj
  have h1 := h.same hw hp hW hq ht j hj
  have h2 := h.levs hw hp (by omega) j hj
  have h3 := cross_div hq hW h1
  rw [h3.1, h3.2, h2]
  unfold bse frc
  have hW0 : W ≠ 0 := by omega
  by_cases c1 : j ∈ A
  · rw [if_pos c1, if_pos c1, if_neg (hd j c1)]
    exact ⟨Int.mul_ediv_cancel _ hW0, by rw [Int.mul_emod_left]⟩
  · rw [if_neg c1, if_neg c1]
    by_cases c2 : j ∈ S
    · rw [if_pos c2, if_pos c2, if_pos c2]
      refine ⟨?_, ?_⟩
      · rw [Int.add_comm, Int.add_mul_ediv_right _ _ hW0, Int.add_comm]
      · rw [Int.add_comm, Int.add_mul_emod_self_right]
    · rw [if_neg c2, if_neg c2, if_neg c2]
      exact ⟨Int.mul_ediv_cancel _ hW0, by rw [Int.mul_emod_left]⟩

theorem Poured.is_bse {n : Nat} {r : Int} {a : Nat → Int} {A S : List Nat} {L W : Int} {m : Nat} (h : Poured n Mn Mx Wt r a A S L W m) (j : Nat) (hj : j < n) : a j = bse Mn Mx Wt A S L W j + (if j ∈ S.take m then 1 else 0) := by
  obtain ⟨hA, hS, hd, fA, fS, hall⟩ := h.facts
  rw [h.is j hj]
  unfold bse
  by_cases c1 : j ∈ A
  · rw [if_pos c1, if_pos c1, if_neg (fun e => hd j c1 (List.mem_of_mem_take e))]; omega
  · rw [if_neg c1, if_neg c1]
    by_cases c2 : j ∈ S
    · rw [if_pos c2, if_pos c2]
    · rw [if_neg c2, if_neg c2, if_neg (fun e => c2 (List.mem_of_mem_take e))]; omega

theorem Poured.left_m {n : Nat} {r : Int} {a : Nat → Int} {A S : List Nat} {L W : Int} {m : Nat} (h : Poured n Mn Mx Wt r a A S L W m) (hp : ∀ j, 0 ≤ Wt j) (hne : S ≠ []) : m ≤ S.length ∧ r - sumL (bse Mn Mx Wt A S L W) (List.range n) = m := by
  obtain ⟨hA, hS, hd, fA, fS, hall⟩ := h.facts
  have hpos : 0 < W := by
    obtain ⟨x, hx⟩ := List.exists_mem_of_ne_nil S hne
    rw [h.weight]; exact Int.lt_of_lt_of_le (fS x hx).2 (sumL_mem (fun k _ => hp k) hx)
  have hb := missing_bd (L := L) h.weight hpos
  rw [← h.miss hne] at hb
  have hm : m ≤ S.length := by omega
  refine ⟨hm, ?_⟩
  have e := (h.sum hp).1 hne
  rw [sumL_congr (fun j hj => h.is_bse j (by simpa using hj)), sumL_add] at e
  have e2 : sumL (fun j => if j ∈ S.take m then (1 : Int) else 0) (List.range n) = m := by
    rw [sumL_sub (A := S) List.nodup_range hS (fun j hj => by simpa using (fS j hj).1) (fun j _ hj => if_neg (fun e => hj (List.mem_of_mem_take e))), take_sum S hS m hm]
  rw [e2] at e; omega

/-- Who gets one more has a fraction. -/
theorem Poured.frac_pos {n : Nat} {r : Int} {a : Nat → Int} {A S : List Nat} {L W : Int} {m : Nat} (h : Poured n Mn Mx Wt r a A S L W m) (hp : ∀ j, 0 ≤ Wt j) (hW : 0 < W) (t : Nat) (ht : t < m) (hm : m ≤ S.length) : 0 < L * Wt (S[t]?.getD 0) % W := by
  have hne : S ≠ [] := by intro e; rw [e] at hm; simp at hm; omega
  have htS : t < S.length := by omega
  obtain ⟨i, hi⟩ : ∃ i, S[t]?.getD 0 = i := ⟨_, rfl⟩
  rw [hi]
  have hge : 0 ≤ L * Wt i % W := Int.emod_nonneg _ (by omega)
  by_cases hz : L * Wt i % W = 0
  · exfalso
    have e : sumL (fun j => L * Wt j) S = W * sumL (fun j => L * Wt j / W) S + sumL (fun j => L * Wt j % W) S := by
      rw [← sumL_mul, ← sumL_add]
      exact sumL_congr fun j _ => (Int.mul_ediv_add_emod _ _).symm
    rw [sumL_mul, ← h.weight] at e
    have hmm := h.miss hne
    have hsplit : S = S.take t ++ (i :: S.drop (t + 1)) := by
      rw [← hi, List.getElem?_eq_getElem htS]
      show S = S.take t ++ (S[t] :: S.drop (t + 1))
      rw [← List.drop_eq_getElem_cons htS, List.take_append_drop]
    have hpw := h.sorted
    rw [hsplit, List.pairwise_append] at hpw
    have hlater : ∀ k ∈ S.drop (t + 1), L * Wt k % W = 0 := fun k hk => by
      have := (List.pairwise_cons.1 hpw.2.1).1 k hk
      have h0 : 0 ≤ L * Wt k % W := Int.emod_nonneg _ (by omega)
      omega
    have hsum : sumL (fun j => L * Wt j % W) S = sumL (fun j => L * Wt j % W) (S.take t) := by
      conv => lhs; rw [hsplit]
      rw [sumL_append, sumL_cons, hz]
      have : sumL (fun j => L * Wt j % W) (S.drop (t + 1)) = 0 := by
        rw [sumL_congr (g := fun _ => 0) hlater]
        have : ∀ l : List Nat, sumL (fun _ => (0 : Int)) l = 0 := by
          intro l; induction l with
          | nil => rfl
          | cons a l ih => rw [sumL_cons, ih]; rfl
        exact this _
      omega
    have hbd : sumL (fun j => L * Wt j % W) (S.take t) ≤ ((S.take t).length : Int) * W := sumL_bound fun j _ => Int.le_of_lt (Int.emod_lt_of_pos _ hW)
    have hlen : (S.take t).length = t := by rw [List.length_take]; omega
    rw [hlen] at hbd
    have e4 : W * (m : Int) = sumL (fun j => L * Wt j % W) S := by rw [hmm, Int.mul_sub, Int.mul_comm W L]; omega
    have h6 : W * (t + 1 : Int) ≤ W * (m : Int) := Int.mul_le_mul_of_nonneg_left (by omega) (by omega)
    rw [Int.mul_add, Int.mul_one, Int.mul_comm W (t : Int)] at h6
    -- W * (t+1) ≤ W*m = Σ ≤ t*W, so W ≤ 0
    rw [e4, hsum] at h6
    omega
  · omega

/-- Whether a want still rises just behind p by q. -/
def risB (mn mx wt p q : Int) : Bool := decide (0 < wt ∧ mn * q + p * wt < mx * q)
def opW (n : Nat) (Mn Mx Wt : Nat → Int) (p q : Int) : Int := sumL (fun j => if risB (Mn j) (Mx j) (Wt j) p q then Wt j else 0) (List.range n)
def opB (n : Nat) (Mn Mx Wt : Nat → Int) (p q : Int) : Int := sumL (fun j => if risB (Mn j) (Mx j) (Wt j) p q then Mn j else if 0 < Wt j then Mx j else Mn j) (List.range n)
/-- The bend of the i-th want is where the levels are r together. -/
def goodAt (n : Nat) (Mn Mx Wt : Nat → Int) (r p q : Int) : Prop := opW n Mn Mx Wt p q ≠ 0 ∧ 0 ≤ r - opB n Mn Mx Wt p q ∧ p * opW n Mn Mx Wt p q ≤ (r - opB n Mn Mx Wt p q) * q ∧ totI n Mn Mx Wt (r - opB n Mn Mx Wt p q) (opW n Mn Mx Wt p q) = r * opW n Mn Mx Wt p q

theorem good_of {n : Nat} {r : Int} {a : Nat → Int} {A S : List Nat} {L W : Int} {m : Nat} (h : Poured n Mn Mx Wt r a A S L W m) (hw : ∀ j, Mn j ≤ Mx j) (hp : ∀ j, 0 ≤ Wt j) (hW : 0 < W) (p q : Int) (hpq : p * W ≤ L * q) (hA : ∀ j ∈ A, risB (Mn j) (Mx j) (Wt j) p q = false) (hS : ∀ j ∈ S, risB (Mn j) (Mx j) (Wt j) p q = true) : goodAt n Mn Mx Wt r p q := by
  obtain ⟨nA, nS, hd, fA, fS, hall⟩ := h.facts
  have hlight : ∀ j, j < n → j ∉ A → j ∉ S → Wt j = 0 ∧ risB (Mn j) (Mx j) (Wt j) p q = false := fun j hj h1 h2 => by
    have h0 : Wt j = 0 := by
      have := hp j
      by_cases e : 0 < Wt j
      · rcases hall j hj e with h | h
        · exact (h1 h).elim
        · exact (h2 h).elim
      · omega
    exact ⟨h0, by unfold risB; rw [h0]; simp⟩
  have eW : opW n Mn Mx Wt p q = W := by
    unfold opW
    rw [h.weight, ← sumL_if nS (fun j hj => (fS j hj).1)]
    refine sumL_congr fun j hj => ?_
    have hj : j < n := by simpa using hj
    by_cases h2 : j ∈ S
    · rw [if_pos h2, hS j h2]; rfl
    · rw [if_neg h2]
      by_cases h1 : j ∈ A
      · rw [hA j h1]; rfl
      · rw [(hlight j hj h1 h2).2]; rfl
  have eB : opB n Mn Mx Wt p q = sumL Mn (List.range n) + sumL (fun j => Mx j - Mn j) A := by
    unfold opB
    rw [← sumL_if (f := fun j => Mx j - Mn j) nA (fun j hj => (fA j hj).1), ← sumL_add]
    refine sumL_congr fun j hj => ?_
    have hj : j < n := by simpa using hj
    by_cases h1 : j ∈ A
    · rw [hA j h1, if_pos h1, if_pos (fA j h1).2]; simp; omega
    · rw [if_neg h1]
      by_cases h2 : j ∈ S
      · rw [hS j h2]; simp
      · rw [(hlight j hj h1 h2).2, (hlight j hj h1 h2).1]; simp
  have eL : r - opB n Mn Mx Wt p q = L := by rw [eB, h.left]; omega
  unfold goodAt
  rw [eW, eL]
  exact ⟨by omega, h.pos, hpq, h.tots hw hp (by omega)⟩

theorem exists_max (A : List Nat) (hA : A ≠ []) (M V : Nat → Int) (hV : ∀ j ∈ A, 0 < V j) : ∃ i ∈ A, ∀ j ∈ A, M j * V i ≤ M i * V j := by
  induction A with
  | nil => exact (hA rfl).elim
  | cons a A ih =>
    by_cases e : A = []
    · subst e; exact ⟨a, by simp, fun j hj => by simp at hj; subst hj; exact Int.le_refl _⟩
    · obtain ⟨i, hi, hmax⟩ := ih e (fun j hj => hV j (by simp [hj]))
      by_cases c : M a * V i ≤ M i * V a
      · exact ⟨i, by simp [hi], fun j hj => by
          rcases List.mem_cons.1 hj with rfl | hj
          · exact c
          · exact hmax j hj⟩
      · refine ⟨a, by simp, fun j hj => ?_⟩
        rcases List.mem_cons.1 hj with rfl | hj
        · exact Int.le_refl _
        · have h1 := hmax j hj
          have va := hV a (by simp)
          have vi := hV i (by simp [hi])
          have vj := hV j (by simp [hj])
          -- M j / V j ≤ M i / V i ≤ M a / V a
          have e1 : M j * V i * V a ≤ M i * V j * V a := Int.mul_le_mul_of_nonneg_right h1 (by omega)
          have e2 : M i * V a * V j ≤ M a * V i * V j := Int.mul_le_mul_of_nonneg_right (by omega) (by omega)
          have e3 : M j * V a * V i ≤ M a * V j * V i := by
            rw [Int.mul_right_comm (M j) (V a) (V i), Int.mul_right_comm (M a) (V j) (V i)]
            refine Int.le_trans e1 ?_
            rw [Int.mul_right_comm (M i) (V j) (V a)]; exact e2
          exact Int.le_of_mul_le_mul_right e3 vi

/-- Where some are open, one of the bends (or t = 0) is good. -/
theorem Poured.cand {n : Nat} {r : Int} {a : Nat → Int} {A S : List Nat} {L W : Int} {m : Nat} (h : Poured n Mn Mx Wt r a A S L W m) (hw : ∀ j, Mn j ≤ Mx j) (hp : ∀ j, 0 ≤ Wt j) (hne : S ≠ []) :
    goodAt n Mn Mx Wt r 0 1 ∨ ∃ i, i < n ∧ 0 < Wt i ∧ goodAt n Mn Mx Wt r (Mx i - Mn i) (Wt i) := by
  obtain ⟨nA, nS, hd, fA, fS, hall⟩ := h.facts
  have hW : 0 < W := by
    obtain ⟨x, hx⟩ := List.exists_mem_of_ne_nil S hne
    rw [h.weight]; exact Int.lt_of_lt_of_le (fS x hx).2 (sumL_mem (fun k _ => hp k) hx)
  by_cases hA : A = []
  · subst hA
    left
    refine good_of h hw hp hW 0 1 (by have := h.pos; omega) (by simp) fun j hj => ?_
    unfold risB
    have h1 := h.open_ j hj
    have h2 : 0 ≤ L * Wt j := Int.mul_nonneg h.pos (hp j)
    have h3 : 0 < Mx j - Mn j := by
      by_cases e : 0 < Mx j - Mn j
      · exact e
      · have : (Mx j - Mn j) * W ≤ 0 := Int.mul_nonpos_of_nonpos_of_nonneg (by omega) (by omega)
        omega
    simp only [decide_eq_true_eq]
    exact ⟨(fS j hj).2, by omega⟩
  · right
    obtain ⟨i, hi, hmax⟩ := exists_max A hA (fun j => Mx j - Mn j) Wt (fun j hj => (fA j hj).2)
    refine ⟨i, (fA i hi).1, (fA i hi).2, good_of h hw hp hW _ _ (h.full i hi) (fun j hj => ?_) (fun j hj => ?_)⟩
    · unfold risB
      have := hmax j hj
      simp only [decide_eq_false_iff_not]
      rintro ⟨_, h2⟩
      have e1 : (Mx j - Mn j) * Wt i = Mx j * Wt i - Mn j * Wt i := Int.sub_mul _ _ _
      omega
    · unfold risB
      simp only [decide_eq_true_eq]
      refine ⟨(fS j hj).2, ?_⟩
      have h1 := h.full i hi
      have h2 := h.open_ j hj
      have wi := (fA i hi).2
      have wj := (fS j hj).2
      have e1 : (Mx i - Mn i) * W * Wt j ≤ L * Wt i * Wt j := Int.mul_le_mul_of_nonneg_right h1 (by omega)
      have e2 : L * Wt j * Wt i < (Mx j - Mn j) * W * Wt i := Int.mul_lt_mul_of_pos_right h2 wi
      have e3 : (Mx i - Mn i) * Wt j * W < (Mx j - Mn j) * Wt i * W := by
        rw [Int.mul_right_comm (Mx i - Mn i) (Wt j) W, Int.mul_right_comm (Mx j - Mn j) (Wt i) W]
        refine Int.lt_of_le_of_lt e1 ?_
        rw [Int.mul_right_comm L]; exact e2
      have e4 := Int.lt_of_mul_lt_mul_right e3 (by omega)
      have e5 : (Mx j - Mn j) * Wt i = Mx j * Wt i - Mn j * Wt i := Int.sub_mul _ _ _
      omega

/-- Where all are full: levels that are r together are all at their ends. -/
theorem Poured.all_full {n : Nat} {r : Int} {a : Nat → Int} {A : List Nat} {L W : Int} {m : Nat} (h : Poured n Mn Mx Wt r a A [] L W m) (hw : ∀ j, Mn j ≤ Mx j) (hp : ∀ j, 0 ≤ Wt j) {p q : Int} (hq : 0 < q) (ht : totI n Mn Mx Wt p q = r * q) :
    (∀ j, j < n → levI (Mn j) (Mx j) (Wt j) p q = a j * q) ∧ r = sumL a (List.range n) := by
  obtain ⟨nA, nS, hd, fA, fS, hall⟩ := h.facts
  have hs := (h.sum hp).2 rfl
  have hle : ∀ j ∈ List.range n, levI (Mn j) (Mx j) (Wt j) p q ≤ a j * q := fun j hj => by
    have hj : j < n := by simpa using hj
    rw [h.is j hj]
    have h1 := (lev_le1 (Mn j) (Mx j) (Wt j) p q)
    by_cases c : j ∈ A
    · rw [if_pos c]; exact h1.1
    · rw [if_neg c, if_neg (by simp)]
      have h0 : Wt j = 0 := by
        have := hp j
        by_cases e : 0 < Wt j
        · rcases hall j hj e with h | h
          · exact (c h).elim
          · simp at h
        · omega
      rw [h0, Int.mul_zero] at h1
      rw [h0]; omega
  have e1 : sumL (fun j => a j * q) (List.range n) = sumL a (List.range n) * q := by
    rw [Int.mul_comm, ← sumL_mul]; exact sumL_congr fun j _ => Int.mul_comm _ _
  have hsum := sumL_le hle
  have ht' : sumL (fun j => levI (Mn j) (Mx j) (Wt j) p q) (List.range n) = r * q := ht
  rw [ht', e1] at hsum
  have h3 : r ≤ sumL a (List.range n) := Int.le_of_mul_le_mul_right hsum hq
  have hr : r = sumL a (List.range n) := by have := h.pos; omega
  refine ⟨fun j hj => sumL_eq_of_le hle (by rw [ht', e1, ← hr]) j (by simpa using hj), hr⟩

/-- The first of the greatest. -/
structure Best (n : Nat) (f : Nat → Int) (b : Nat) : Prop where
  lt : b < n
  top : ∀ j, j < n → f j ≤ f b
  first : ∀ j, j < b → f j < f b
theorem Best.uniq {n : Nat} {f : Nat → Int} {b c : Nat} (h : Best n f b) (k : Best n f c) : b = c := by
  rcases Nat.lt_trichotomy b c with e | e | e
  · have := k.first b e
    have := h.top c k.lt
    omega
  · exact e
  · have := h.first c e
    have := k.top b h.lt
    omega

/-- While t of S have one more, the next of S is the first of the greatest. -/
theorem Poured.best {n : Nat} {r : Int} {a : Nat → Int} {A S : List Nat} {L W : Int} {m : Nat} (h : Poured n Mn Mx Wt r a A S L W m) (hp : ∀ j, 0 ≤ Wt j) (hW : 0 < W) (t : Nat) (ht : t < m) (hm : m ≤ S.length) (rest : Nat → Int) {q : Int} (hq : 0 < q) (hr : ∀ j, j < n → rest j * W = frc Wt S L W j * q) :
    Best n (fun j => if j ∈ S.take t then -1 else rest j) (S[t]?.getD 0) := by
  obtain ⟨nA, nS, hd, fA, fS, hall⟩ := h.facts
  have hpos := h.frac_pos hp hW t ht hm
  have htS : t < S.length := by omega
  obtain ⟨i, hi⟩ : ∃ i, S[t]?.getD 0 = i := ⟨_, rfl⟩
  rw [hi] at hpos ⊢
  have hiS : i ∈ S := by rw [← hi, List.getElem?_eq_getElem htS]; exact List.getElem_mem htS
  have hsplit : S = S.take t ++ (i :: S.drop (t + 1)) := by
    rw [← hi, List.getElem?_eq_getElem htS]
    show S = S.take t ++ (S[t] :: S.drop (t + 1))
    rw [← List.drop_eq_getElem_cons htS, List.take_append_drop]
  have hnt : i ∉ S.take t := by
    have := nS
    rw [hsplit, List.nodup_append] at this
    exact fun hm => this.2.2 i hm i (by simp) rfl
  have hpw := h.sorted
  rw [hsplit, List.pairwise_append] at hpw
  have hlater := (List.pairwise_cons.1 hpw.2.1).1
  have hri := hr i (fS i hiS).1
  have hfi : frc Wt S L W i = L * Wt i % W := by unfold frc; rw [if_pos hiS]
  rw [hfi] at hri
  have hposr : 0 < rest i := by
    have h1 : 0 < L * Wt i % W * q := Int.mul_pos hpos hq
    rw [← hri] at h1
    by_cases e : 0 < rest i
    · exact e
    · have : rest i * W ≤ 0 := Int.mul_nonpos_of_nonpos_of_nonneg (by omega) (by omega)
      omega
  have key : ∀ j, j < n → j ∉ S.take t → j ≠ i → (rest j < rest i ∨ (rest j = rest i ∧ i < j)) := by
    intro j hj hnt' hji
    have hrj := hr j hj
    by_cases hjS : j ∈ S
    · have hjl : j ∈ S.drop (t + 1) := by
        rw [hsplit] at hjS
        rcases List.mem_append.1 hjS with h1 | h1
        · exact (hnt' h1).elim
        · rcases List.mem_cons.1 h1 with h1 | h1
          · exact (hji h1).elim
          · exact h1
      have hfj : frc Wt S L W j = L * Wt j % W := by unfold frc; rw [if_pos hjS]
      rw [hfj] at hrj
      rcases hlater j hjl with h1 | ⟨h1, h2⟩
      · left
        have h3 : L * Wt j % W * q < L * Wt i % W * q := Int.mul_lt_mul_of_pos_right h1 hq
        rw [← hri, ← hrj] at h3
        exact Int.lt_of_mul_lt_mul_right h3 (by omega)
      · right
        refine ⟨?_, h2⟩
        rw [← h1, ← hri] at hrj
        exact Int.eq_of_mul_eq_mul_right (by omega) hrj
    · left
      have hfj : frc Wt S L W j = 0 := by unfold frc; rw [if_neg hjS]
      rw [hfj, Int.zero_mul] at hrj
      have : rest j = 0 := by
        rcases Int.mul_eq_zero.1 hrj with h | h
        · exact h
        · omega
      omega
  refine ⟨(fS i hiS).1, fun j hj => ?_, fun j hj => ?_⟩
  · rw [if_neg hnt]
    by_cases c : j ∈ S.take t
    · rw [if_pos c]; omega
    · rw [if_neg c]
      by_cases e : j = i
      · rw [e]; exact Int.le_refl _
      · rcases key j hj c e with h | ⟨h, _⟩ <;> omega
  · rw [if_neg hnt]
    have hjn : j < n := by have := (fS i hiS).1; omega
    by_cases c : j ∈ S.take t
    · rw [if_pos c]; omega
    · rw [if_neg c]
      rcases key j hjn c (by omega) with h | ⟨_, h⟩ <;> omega

theorem sum_tail (f : Nat → Int) (n k : Nat) (hk : k ≤ n) : sumL f (List.range n) = sumL f (List.range k) + sumL f ((List.range n).drop k) := by
  rw [← sumL_append]
  congr 1
  have : List.range k = (List.range n).take k := by rw [List.take_range, Nat.min_eq_left hk]
  rw [this, List.take_append_drop]
theorem mem_tail {n k j : Nat} (h : j ∈ (List.range n).drop k) : k ≤ j ∧ j < n := by
  obtain ⟨i, hi, e⟩ := List.mem_iff_getElem.1 h
  rw [List.getElem_drop, List.getElem_range] at e
  rw [List.length_drop, List.length_range] at hi
  omega

theorem Back.le_of {n : Nat} {mn : Nat → Int} {r : Int} {g g' : Nat → Int} (h : Back n mn r g) (h' : Back n mn r g') (k : Nat) (hk : k < n) (e : ∀ j, j < k → g j = g' j) : g' k ≤ g k := by
  by_cases c : g' k ≤ g k
  · exact c
  · exfalso
    have hb := h'.bd k hk
    have s1 := sum_tail g n (k + 1) (by omega)
    have s2 := sum_tail g' n (k + 1) (by omega)
    have t1 : sumL g ((List.range n).drop (k + 1)) ≤ 0 := by
      have : sumL g ((List.range n).drop (k + 1)) ≤ sumL (fun _ => 0) ((List.range n).drop (k + 1)) := sumL_le fun j hj => by
        have := mem_tail hj
        rw [h.behind k j (by omega) (by omega) (by omega)]; exact Int.le_refl _
      refine Int.le_trans this ?_
      have z : ∀ l : List Nat, sumL (fun _ => (0 : Int)) l = 0 := by
        intro l; induction l with
        | nil => rfl
        | cons a l ih => rw [sumL_cons, ih]; rfl
      rw [z]; exact Int.le_refl _
    have t2 : 0 ≤ sumL g' ((List.range n).drop (k + 1)) := sumL_nonneg fun j hj => (h'.bd j (mem_tail hj).2).1
    have t3 : sumL g (List.range k) = sumL g' (List.range k) := sumL_congr fun j hj => e j (by simpa using hj)
    rw [List.range_succ, sumL_snoc] at s1 s2
    have := h.sum
    have := h'.sum
    omega
theorem Back.uniq {n : Nat} {mn : Nat → Int} {r : Int} {g g' : Nat → Int} (h : Back n mn r g) (h' : Back n mn r g') : ∀ j, j < n → g j = g' j := by
  have : ∀ k, k ≤ n → ∀ j, j < k → g j = g' j := by
    intro k
    induction k with
    | zero => intro _ j hj; omega
    | succ k ih =>
      intro hk j hj
      have ihk := ih (by omega)
      by_cases e : j < k
      · exact ihk j e
      · obtain rfl : j = k := by omega
        have a1 := h.le_of h' j (by omega) ihk
        have a2 := h'.le_of h j (by omega) (fun i hi => (ihk i hi).symm)
        omega
  exact this n (Nat.le_refl _)

end Go.Proofs.Ytmlicipdkbeihac
