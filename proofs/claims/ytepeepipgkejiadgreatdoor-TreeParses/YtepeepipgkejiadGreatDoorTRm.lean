/-
  The reference's attributes: what its steps come to, and the document's. Plain mathematics.
-/
import Derived.Test.YtepeepipgkejiadGreatDoorTAll
namespace Go.Proofs.YtepeepipgkejiadGreatDoor
open Go.RowKit
set_option linter.unusedVariables false

/-- The reference's first other fault, as two numbers; it stands no further on than i. -/
def FL (er at_ : Int) (f : Flt) (i : Nat) : Prop := match f with
  | none => at_ < 0
  | some (c, p) => er = c ∧ at_ = p ∧ p ≤ i
theorem FL.on {er at_ : Int} {f : Flt} {i j : Nat} (h : FL er at_ f i) (hij : i ≤ j) : FL er at_ f j := by
  cases f with
  | none => exact h
  | some x => obtain ⟨c, p⟩ := x; exact ⟨h.1, h.2.1, Nat.le_trans h.2.2 hij⟩
theorem FL.add {er at_ : Int} {f : Flt} {i : Nat} (h : FL er at_ f i) (c p : Nat) (hp : i ≤ p) : FL (wrE er at_ c p) (wrA at_ p) (addF f c p) p := by
  cases f with
  | none =>
    have h' : at_ < 0 := h
    unfold wrE wrA
    rw [if_pos (.inl h'), if_pos (.inl h')]
    exact ⟨rfl, rfl, Nat.le_refl _⟩
  | some x =>
    obtain ⟨c', p'⟩ := x
    obtain ⟨h1, h2, h3⟩ := h
    have hn : ¬ (at_ < 0 ∨ (p : Int) < at_) := by omega
    unfold wrE wrA
    rw [if_neg hn, if_neg hn]
    exact ⟨h1, h2, Nat.le_trans h3 hp⟩

/-- What an attribute that reads well does. -/
def fa (kind : Nat) (L : List Nd) (er : Flt) (a : List Int) (seen : List Nat) (st : Step) : Flt × List Int × List Nat :=
  if st.ix < 0 ∨ ownsB kind st.ix.toNat = false then (addF er 7 st.at_, a, seen)
  else (addIf (decide (st.ix = 0 ∧ 0 < st.n) && hasId L st.n) (addIf (decide (mostL[st.ix.toNat]?.getD 0 < st.n)) (addIf (seen.contains st.ix.toNat) er 5 st.at_) 6 st.p) 5 st.p, a.set st.ix.toNat st.n, st.ix.toNat :: seen)

theorem step1_places (s : ByteArray) (i : Nat) (bad : Int) : i ≤ (step1 s i bad).at_ ∧ (step1 s i bad).at_ ≤ (step1 s i bad).p ∧ (step1 s i bad).p ≤ (step1 s i bad).i := by
  have h1 := sk_ge s i
  have w1 : sk s i ≤ wI s (sk s i) bad := by unfold wI; split; exact Nat.le_trans (sk_ge s (sk s i)) (run_ge _ _ _); exact sk_ge _ _
  have m1 : wI s (sk s i) bad ≤ mI s (wI s (sk s i) bad) 61 (wB s (sk s i) bad) := by
    unfold mI; split
    · unfold gotI; have := sk_ge s (wI s (sk s i) bad); split <;> omega
    · exact sk_ge _ _
  have n1 : sk s (mI s (wI s (sk s i) bad) 61 (wB s (sk s i) bad)) ≤ nI s (mI s (wI s (sk s i) bad) 61 (wB s (sk s i) bad)) (mB s (wI s (sk s i) bad) 61 (wB s (sk s i) bad)) := by
    unfold nI; split; exact run_ge _ _ _; exact Nat.le_refl _
  have s2 := sk_ge s (mI s (wI s (sk s i) bad) 61 (wB s (sk s i) bad))
  unfold step1
  simp only
  omega
theorem step1_size (s : ByteArray) (i : Nat) (bad : Int) (hi : i ≤ s.size) : (step1 s i bad).i ≤ s.size := by
  unfold step1
  exact nI_le _ (mI_le _ (by omega) (wI_le _ (sk_le s i hi)))
theorem step1_ix (s : ByteArray) (i : Nat) (bad : Int) : (step1 s i bad).ix = -1 ∨ (0 ≤ (step1 s i bad).ix ∧ (step1 s i bad).ix < 12) := by
  have := findF_bd (wS s (sk s i) bad) namesL 0
  have hl : namesL.length = 12 := rfl
  unfold step1
  simp only
  omega
theorem step1_n (s : ByteArray) (i : Nat) (bad : Int) : 0 ≤ (step1 s i bad).n ∧ (step1 s i bad).n ≤ 999999 := nV_bd s _ _

/-- One attribute: the document's, and the steps'. -/
theorem attr1_step (s : ByteArray) (kind : Nat) (L : List Nd) (i : Nat) (er : Flt) (a : List Int) (seen : List Nat) (bad : Int) (hb : bad < 0) :
    ((step1 s i bad).bad = bad ∧ attr1 s kind L i er a seen = .ok ((step1 s i bad).i, fa kind L er a seen (step1 s i bad)))
    ∨ (0 ≤ (step1 s i bad).bad ∧ attr1 s kind L i er a seen = .error (step1 s i bad).bad.toNat) := by
  unfold attr1
  simp only
  have e0 : sk s (sk s i) = sk s i := sk_sk s i
  have hw : wI s (sk s i) bad = run letter s (sk s i) := by unfold wI; rw [if_pos hb, e0]
  by_cases h1 : run letter s (sk s i) = sk s i
  · right
    have hB : wB s (sk s i) bad = (sk s i : Int) := by unfold wB; rw [if_pos hb]; unfold wordB; rw [e0, if_pos h1]
    have hx : (step1 s i bad).bad = (sk s i : Int) := by
      unfold step1
      simp only
      rw [hB]
      have hm : mB s (wI s (sk s i) bad) 61 (sk s i : Int) = (sk s i : Int) := by unfold mB; rw [if_neg (by omega)]
      rw [hm]
      unfold nB
      rw [if_neg (by omega)]
    rw [hx, if_pos h1]
    exact ⟨by omega, rfl⟩
  · have hB : wB s (sk s i) bad = bad := by unfold wB; rw [if_pos hb]; unfold wordB; rw [e0, if_neg h1]
    rw [if_neg h1]
    by_cases h2 : isAt s (run letter s (sk s i)) 61 = true
    · have hm : mB s (run letter s (sk s i)) 61 bad = bad := by unfold mB; rw [if_pos hb]; unfold mustB; rw [if_pos h2]
      have hmi : mI s (run letter s (sk s i)) 61 bad = gotI s (run letter s (sk s i)) 61 := by unfold mI; rw [if_pos hb]
      have hmr : mustR s (run letter s (sk s i)) 61 = .ok (gotI s (run letter s (sk s i)) 61) := by unfold mustR; rw [if_pos h2]
      rw [hmr]
      simp only
      have hs : step1 s i bad = { i := run digit s (sk s (gotI s (run letter s (sk s i)) 61)), bad := numB s (sk s (gotI s (run letter s (sk s i)) 61)) (run digit s (sk s (gotI s (run letter s (sk s i)) 61))) bad, n := dv s (sk s (gotI s (run letter s (sk s i)) 61)) (run digit s (sk s (gotI s (run letter s (sk s i)) 61)) - sk s (gotI s (run letter s (sk s i)) 61)), p := sk s (gotI s (run letter s (sk s i)) 61), at_ := sk s i, ix := findF namesL (s.extract (sk s i) (run letter s (sk s i))) 0 } := by
        unfold step1
        simp only
        rw [hw, hB, hm, hmi]
        have a1 : nI s (gotI s (run letter s (sk s i)) 61) bad = run digit s (sk s (gotI s (run letter s (sk s i)) 61)) := by unfold nI; rw [if_pos hb]
        have a2 : nB s (gotI s (run letter s (sk s i)) 61) bad = numB s (sk s (gotI s (run letter s (sk s i)) 61)) (run digit s (sk s (gotI s (run letter s (sk s i)) 61))) bad := by unfold nB; rw [if_pos hb]
        have a3 : nV s (gotI s (run letter s (sk s i)) 61) bad = dv s (sk s (gotI s (run letter s (sk s i)) 61)) (run digit s (sk s (gotI s (run letter s (sk s i)) 61)) - sk s (gotI s (run letter s (sk s i)) 61)) := by unfold nV; rw [if_pos hb]
        have a4 : wS s (sk s i) bad = s.extract (sk s i) (run letter s (sk s i)) := by unfold wS; rw [if_pos hb, e0]
        rw [a1, a2, a3, a4]
      generalize sk s (gotI s (run letter s (sk s i)) 61) = j at hs ⊢
      generalize run digit s j = e at hs ⊢
      by_cases h3 : numBad s j e = true
      · right
        have hx : (step1 s i bad).bad = (j : Int) := by
          rw [hs]
          show numB s j e bad = _
          unfold numB
          rw [if_pos (of_decide_eq_true h3)]
        rw [hx, if_pos h3]
        exact ⟨by omega, rfl⟩
      · left
        have h3' : numBad s j e = false := by simpa using h3
        have hx : (step1 s i bad).bad = bad := by
          rw [hs]
          show numB s j e bad = _
          unfold numB
          rw [if_neg (of_decide_eq_false h3')]
        refine ⟨hx, ?_⟩
        rw [if_neg h3, hs]
        unfold fa
        simp only
        split <;> rfl
    · right
      have h2' : isAt s (run letter s (sk s i)) 61 = false := by simpa using h2
      have hm : mB s (run letter s (sk s i)) 61 bad = (sk s (run letter s (sk s i)) : Int) := by unfold mB; rw [if_pos hb]; unfold mustB; rw [if_neg h2]
      have hmr : mustR s (run letter s (sk s i)) 61 = .error (sk s (run letter s (sk s i))) := by unfold mustR; rw [if_neg h2]
      have hx : (step1 s i bad).bad = (sk s (run letter s (sk s i)) : Int) := by
        unfold step1
        simp only
        rw [hw, hB, hm]
        unfold nB
        rw [if_neg (by omega)]
      rw [hx, hmr]
      exact ⟨by omega, rfl⟩
/-- Attributes from place i on come to R. -/
theorem attrsF_err {s : ByteArray} {kind : Nat} {L : List Nd} {f i : Nat} {er : Flt} {a : List Int} {seen : List Nat} {b : Nat} (h : attr1 s kind L i er a seen = .error b) : attrsF s kind L (f + 1) i er a seen = .error b := by
  rw [attrsF, h]
theorem attrsF_more {s : ByteArray} {kind : Nat} {L : List Nd} {f i i2 : Nat} {er er2 : Flt} {a a2 : List Int} {seen seen2 : List Nat} (h : attr1 s kind L i er a seen = .ok (i2, er2, a2, seen2)) (hm : isAt s i2 59 = true) : attrsF s kind L (f + 1) i er a seen = attrsF s kind L f (gotI s i2 59) er2 a2 seen2 := by
  rw [attrsF, h]
  simp only
  rw [if_pos hm]
def closeR (s : ByteArray) (i : Nat) (er : Flt) (a : List Int) : Except Nat (Nat × Flt × List Int) := match mustR s i 125 with
  | .error b => .error b
  | .ok i3 => .ok (i3, er, a)
theorem attrsF_last {s : ByteArray} {kind : Nat} {L : List Nd} {f i i2 : Nat} {er er2 : Flt} {a a2 : List Int} {seen seen2 : List Nat} (h : attr1 s kind L i er a seen = .ok (i2, er2, a2, seen2)) (hm : ¬ isAt s i2 59 = true) : attrsF s kind L (f + 1) i er a seen = closeR s i2 er2 a2 := by
  rw [attrsF, h]
  simp only
  rw [if_neg hm]
  rfl
theorem isAt_sk (s : ByteArray) (i c : Nat) : isAt s (sk s i) c = isAt s i c := by unfold isAt; rw [sk_sk]
theorem gotI_sk (s : ByteArray) (i c : Nat) : gotI s (sk s i) c = gotI s i c := by unfold gotI; rw [sk_sk]
theorem closeR_sk (s : ByteArray) (i : Nat) (er : Flt) (a : List Int) : closeR s (sk s i) er a = closeR s i er a := by
  unfold closeR mustR; rw [isAt_sk, gotI_sk, sk_sk]
end Go.Proofs.YtepeepipgkejiadGreatDoor
