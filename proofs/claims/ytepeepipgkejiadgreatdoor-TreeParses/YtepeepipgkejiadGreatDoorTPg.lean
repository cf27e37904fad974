/-
  What holds of the states of a node that is read.
-/
import Derived.Test.YtepeepipgkejiadGreatDoorTPn
namespace Go.Proofs.YtepeepipgkejiadGreatDoor
open Go.RowKit
set_option linter.unusedVariables false

section
variable {s : ByteArray} {N : Nat} {node : PS → Except Nat PS}
theorem list_fwd (hnode : ∀ a b, Good s a → N ≤ a.L.length → node a = .ok b → Fwd s a b ∧ a.i < b.i) {st st' : PS} (h : Good s st) (hN : N ≤ st.L.length) (e : pList s node st = .ok st') : Fwd s st st' := by
  unfold pList at e
  have h1 := h.at (c := 91) (by omega)
  have h2 := h1.at (c := 93) (by omega)
  have g1 := gotI_ge s st.i 91
  have g2 := gotI_ge s (gotI s st.i 91) 93
  have f2 : Fwd s st { st with i := gotI s (gotI s st.i 91) 93 } := ⟨h2, Nat.le_trans g1 g2, Nat.le_refl _⟩
  split at e
  · split at e
    · injection e with e; subst e; exact f2
    · exact f2.trans (kids_fwd hnode _ _ _ h2 hN e).1
  · cases e
theorem one_fwd (hnode : ∀ a b, Good s a → N ≤ a.L.length → node a = .ok b → Fwd s a b ∧ a.i < b.i) {st st' : PS} (h : Good s st) (hN : N ≤ st.L.length) (e : pOne s node st = .ok st') : Fwd s st st' := by
  unfold pOne at e
  have h1 := h.at (c := 91) (by omega)
  have f1 : Fwd s st { st with i := gotI s st.i 91 } := ⟨h1, gotI_ge _ _ _, Nat.le_refl _⟩
  split at e
  · unfold pThen at e
    split at e
    · cases e
    · rename_i st2 he
      obtain ⟨h2, _⟩ := hnode _ _ h1 hN he
      exact f1.trans (h2.trans (pEnd_fwd (by omega) h2.good e).1)
  · cases e
theorem qF_bd : ∀ f p acc i t, p ≤ s.size → qF s f p acc = .ok (i, t) → p < i ∧ i ≤ s.size
  | 0, p, acc, i, t, hp, h => by cases h
  | f + 1, p, acc, i, t, hp, h => by
    have hin : ∀ q, bat s q ≠ 256 → q < s.size := fun q hq => by
      by_cases hh : q < s.size
      · exact hh
      · exact absurd (bat_out hh) hq
    unfold qF at h
    split at h
    · cases h
    · rename_i h0
      have := hin p h0
      split at h
      · injection h with h; injection h with h1 h2; omega
      · split at h
        · split at h
          · rename_i hq
            have := hin (p + 1) (by omega)
            have := qF_bd f (p + 2) _ i t (by omega) h; omega
          · split at h
            · rename_i hq
              have := hin (p + 1) (by omega)
              have := qF_bd f (p + 2) _ i t (by omega) h; omega
            · cases h
        · have := qF_bd f (p + 1) _ i t (by omega) h; omega
theorem nth_text_kids (L : List Nd) (k j : Nat) (t : List UInt8) : (nth (withText L k t) j).kids = (nth L j).kids := by
  unfold withText
  by_cases e : j = k
  · subst e
    by_cases h : j < L.length
    · rw [nth_mod_same _ h]
    · unfold nth; rw [List.getElem?_modify]; simp [h]
  · rw [nth_mod_other _ e]
theorem text_fwd {idx : Nat} {st st' : PS} (h : Good s st) (e : pText s idx st = .ok st') : Fwd s st st' := by
  unfold pText quoR at e
  split at e
  · cases e
  · rename_i i2 t he
    injection e with e
    subst e
    split at he
    · have g := qF_bd _ _ _ _ _ (gotI_le (by omega) h.il) he
      have g2 := gotI_ge s st.i 34
      refine ⟨⟨g.2, ?_, fun j => ?_⟩, by show st.i ≤ i2; omega, by show st.L.length ≤ (withText st.L idx t).length; unfold withText; simp⟩
      · show (withText st.L idx t).length ≤ i2
        unfold withText; have := h.ll; simp; omega
      · show (nth (withText st.L idx t) j).kids.length ≤ (withText st.L idx t).length
        rw [nth_text_kids]; unfold withText; simpa using h.kl j
    · cases he
theorem body_fwd (hnode : ∀ a b, Good s a → N ≤ a.L.length → node a = .ok b → Fwd s a b ∧ a.i < b.i) {kind idx : Nat} {st st' : PS} (h : Good s st) (hN : N ≤ st.L.length) (e : pBody s kind idx node st = .ok st') : Fwd s st st' := by
  unfold pBody at e
  split at e
  · exact text_fwd h e
  · split at e
    · injection e with e; subst e; exact ⟨h, Nat.le_refl _, Nat.le_refl _⟩
    · split at e
      · exact one_fwd hnode h hN e
      · exact list_fwd hnode h hN e
end
theorem setL_kids (L : List Nd) (j k q : Nat) (n : Int) : (nth (setL L j k n) q).kids = (nth L q).kids := by
  unfold setL
  split
  · rfl
  · by_cases e : q = j
    · subst e
      by_cases h : q < L.length
      · rw [nth_mod_same _ h]
      · unfold nth; rw [List.getElem?_modify]; simp [h]
    · rw [nth_mod_other _ e]
theorem pAttr_kids {s : ByteArray} {kind : Nat} {ws : List ByteArray} {L : List Nd} {j i : Nat} {er : Flt} {i2 : Nat} {er2 : Flt} {L2 : List Nd} {t : ByteArray} (h : pAttr s kind ws L j i er = .ok (i2, er2, L2, t)) : ∀ q, (nth L2 q).kids = (nth L q).kids := by
  unfold pAttr at h
  split at h
  · cases h
  · split at h
    · unfold pNum at h
      split at h
      · cases h
      · unfold pSet at h
        split at h
        · injection h with h; injection h with e1 h; injection h with e2 h; injection h with e3 e4
          subst e3
          exact fun _ => rfl
        · injection h with h; injection h with e1 h; injection h with e2 h; injection h with e3 e4
          subst e3
          exact fun q => setL_kids _ _ _ _ _
    · cases h
theorem attrs_bd {s : ByteArray} {kind j : Nat} : ∀ f i er L ws i2 er2 L2, i ≤ s.size → pAttrsF s kind j f i er L ws = .ok (i2, er2, L2) → i < i2 ∧ i2 ≤ s.size ∧ L2.length = L.length ∧ ∀ q, (nth L2 q).kids = (nth L q).kids
  | 0, i, er, L, ws, i2, er2, L2, hi, h => by cases h
  | f + 1, i, er, L, ws, i2, er2, L2, hi, h => by
    unfold pAttrsF at h
    split at h
    · cases h
    · rename_i i3 er3 L3 t he
      obtain ⟨b1, b2, b3, _⟩ := pAttr_bd hi he
      have b5 := pAttr_kids he
      have g1 := gotI_ge s i3 59
      have g2 := gotI_le (s := s) (i := i3) (c := 59) (by omega) b2
      split at h
      · obtain ⟨c1, c2, c3, c4⟩ := attrs_bd f _ _ _ _ _ _ _ g2 h
        exact ⟨by omega, c2, c3.trans b3, fun q => (c4 q).trans (b5 q)⟩
      · unfold pClose at h
        split at h
        · injection h with h; injection h with e1 h; injection h with e2 e3
          subst e1 e3
          have g3 := gotI_ge s (gotI s i3 59) 125
          exact ⟨by omega, gotI_le (by omega) g2, b3, b5⟩
        · cases h
theorem grown_len (L : List Nd) (d : Nd) : (grown L d).length = L.length + 1 := by unfold grown; split <;> simp
theorem grown_kids (L : List Nd) (d : Nd) (hd : d.kids = []) (hup : d.up < L.length) (h : ∀ j, (nth L j).kids.length ≤ L.length) (j : Nat) : (nth (grown L d) j).kids.length ≤ L.length + 1 := by
  have hap : ∀ q, (nth (L ++ [d]) q).kids.length ≤ L.length := fun q => by
    by_cases e : q < L.length
    · rw [nth_app_old e]; exact h q
    · by_cases e2 : q = L.length
      · subst e2; rw [nth_app_new, hd]; exact Nat.zero_le _
      · unfold nth; rw [List.getElem?_eq_none (by simp; omega)]; exact Nat.zero_le _
  by_cases hu : d.up < 0
  · unfold grown; rw [if_pos hu]; have := hap j; omega
  · rw [grown_eq L d d.up.toNat (by omega) (by omega)]
    by_cases e : j = d.up.toNat
    · subst e; rw [nth_mod_same _ (by simp; omega)]; have := hap d.up.toNat; simp; omega
    · rw [nth_mod_other _ e]; have := hap j; omega
theorem br_fwd {s : ByteArray} {kind idx i : Nat} {er : Flt} {L : List Nd} {st : PS} (hi : i ≤ s.size) (e : pBr s kind idx i er L = .ok st) : i ≤ st.i ∧ st.i ≤ s.size ∧ st.L.length = L.length ∧ ∀ q, (nth st.L q).kids = (nth L q).kids := by
  unfold pBr at e
  have g1 := gotI_ge s i 123
  have g2 := gotI_le (s := s) (i := i) (c := 123) (by omega) hi
  split at e
  · split at e
    · cases e
    · rename_i i2 er2 L2 he
      obtain ⟨b1, b2, b3, b4⟩ := attrs_bd _ _ _ _ _ _ _ _ g2 he
      injection e with e; subst e
      exact ⟨by show i ≤ i2; omega, b2, b3, b4⟩
  · injection e with e; subst e
    exact ⟨g1, g2, rfl, fun _ => rfl⟩
theorem kindAt_word {s : ByteArray} {i : Nat} (h : ¬ kindAt s i < 0) (hi : i ≤ s.size) : sk s i < run letter s (sk s i) := by
  by_cases e : sk s i < run letter s (sk s i)
  · exact e
  · exfalso
    have h3 := run_ge letter s (sk s i)
    have : wordAt s i = ByteArray.empty := by
      unfold wordAt
      rw [show run letter s (sk s i) = sk s i by omega]
      apply ByteArray.ext
      simp
    unfold kindAt at h
    rw [this] at h
    exact h (by decide)
theorem node_fwd {s : ByteArray} : ∀ f (up : Int) depth st st', (up < st.L.length) → Good s st → pNodeF s f up depth st = .ok st' → Fwd s st st' ∧ st.i < st'.i ∧ st.L.length < st'.L.length
  | 0, up, depth, st, st', hup, h, e => by cases e
  | f + 1, up, depth, st, st', hup, h, e => by
    unfold pNodeF at e
    split at e
    · cases e
    · rename_i hk
      have hw := kindAt_word hk h.il
      have s1 := sk_ge s st.i
      have s2 := run_le letter s _ (sk_le s st.i h.il)
      unfold pThen at e
      split at e
      · cases e
      · rename_i st1 he
        obtain ⟨b1, b2, b3, b4⟩ := br_fwd s2 he
        rw [grown_len] at b3
        have g1 : Good s st1 := ⟨b2, by have := h.ll; omega, fun j => by rw [b4, b3]; exact grown_kids _ _ rfl hup h.kl j⟩
        have f1 : Fwd s st st1 := ⟨g1, by omega, by omega⟩
        have f2 := body_fwd (N := st.L.length + 1) (fun a b ga hN hab => by
          obtain ⟨q1, q2, _⟩ := node_fwd f (st.L.length : Int) (depth + 1) a b (by omega) ga hab
          exact ⟨q1, q2⟩) g1 (by omega) e
        exact ⟨f1.trans f2, by have := f2.ge; omega, by have := f2.lg; omega⟩

end Go.Proofs.YtepeepipgkejiadGreatDoor
