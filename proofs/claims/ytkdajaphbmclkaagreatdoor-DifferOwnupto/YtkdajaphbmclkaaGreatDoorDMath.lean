/-
  D1, of cells by their number: which cells are a row, and which a screen.
-/
import Derived.Test.YtkdajaphbmclkaaGreatDoorCMath
import Derived.Test.YtkdajaphbmclkaaGreatDoorClus
import Derived.Test.YtkdajaphbmclkaaGreatDoorYMem
namespace Go.Proofs.YtkdajaphbmclkaaGreatDoor
set_option linter.unusedVariables false

def Sty (e : Ce) : Prop := kn e.f = e.f ∧ kn e.g = e.g ∧ bo e.b = e.b
def Txt (e : Ce) (n : Int) : Prop := clus (runes e.t.data.toList) = [(e.t.data.toList, n)]
/-- A cell, in a row from lo up to hi. -/
structure Ok1 (C : Nat → Ce) (lo hi i : Nat) : Prop where
  sty : Sty (C i)
  part : (C i).p = 0 ∨ (C i).p = 1 ∨ (C i).p = 2
  head : (C i).p = 1 → i + 1 < hi ∧ (C (i + 1)).p = 2 ∧ (C (i + 1)).f = (C i).f ∧ (C (i + 1)).g = (C i).g ∧ (C (i + 1)).b = (C i).b
  tail : (C i).p = 2 → lo < i ∧ (C (i - 1)).p = 1 ∧ (C i).t = ⟨#[]⟩
  text : (C i).p ≠ 2 → Txt (C i) ((C i).p + 1)
def RowOk (C : Nat → Ce) (lo hi : Nat) : Prop := ∀ i, lo ≤ i → i < hi → Ok1 C lo hi i
/-- All up to x is right, and no head is ahead of it. -/
structure Upto (C : Nat → Ce) (lo hi x : Nat) : Prop where
  low : lo ≤ x
  high : x ≤ hi
  ok : ∀ i, lo ≤ i → i < x → Ok1 C lo hi i
  no : x = lo ∨ (C (x - 1)).p ≠ 1
section
variable {C : Nat → Ce} {lo hi x : Nat}
theorem Upto.start (h : lo ≤ hi) : Upto C lo hi lo := ⟨Nat.le_refl _, h, fun i h1 h2 => absurd h2 (by omega), .inl rfl⟩
theorem Upto.all (h : Upto C lo hi hi) : RowOk C lo hi := h.ok
theorem Upto.one (h : Upto C lo hi x) (hx : x < hi) (h0 : (C x).p = 0) (hs : Sty (C x)) (ht : Txt (C x) 1) : Upto C lo hi (x + 1) := by
  refine ⟨by have := h.low; omega, hx, fun i h1 h2 => ?_, .inr (by rw [Nat.add_sub_cancel, h0]; decide)⟩
  by_cases e : i = x
  · subst e
    exact ⟨hs, .inl h0, fun q => (by rw [h0] at q; cases q), fun q => (by rw [h0] at q; cases q), fun _ => by rw [h0]; exact ht⟩
  · exact h.ok i h1 (by omega)
theorem Upto.two (h : Upto C lo hi x) (hx : x + 2 ≤ hi) (h0 : (C x).p = 1) (hs : Sty (C x)) (ht : Txt (C x) 2) (h1 : C (x + 1) = ⟨⟨#[]⟩, (C x).f, (C x).g, (C x).b, 2⟩) : Upto C lo hi (x + 2) := by
  have hp : (C (x + 1)).p = 2 := by rw [h1]
  refine ⟨by have := h.low; omega, hx, fun i g1 g2 => ?_, .inr (by rw [show x + 2 - 1 = x + 1 by omega, hp]; decide)⟩
  by_cases e : i = x
  · subst e
    exact ⟨hs, .inr (.inl h0), fun _ => ⟨by omega, hp, by rw [h1], by rw [h1], by rw [h1]⟩, fun q => (by rw [h0] at q; cases q), fun _ => by rw [h0]; exact ht⟩
  · by_cases e2 : i = x + 1
    · subst e2
      exact ⟨by unfold Sty; rw [h1]; exact hs, .inr (.inr hp), fun q => (by rw [hp] at q; cases q), fun _ => ⟨by have := h.low; omega, by rw [Nat.add_sub_cancel]; exact h0, by rw [h1]⟩, fun q => absurd hp q⟩
    · exact h.ok i g1 (by omega)
theorem Upto.bad0 (h : Upto C lo hi x) (hx : x < hi) (h0 : (C x).p = 0) (hn : ¬ (Sty (C x) ∧ Txt (C x) 1)) : ¬ RowOk C lo hi := fun r => by
  have q := r x h.low hx
  refine hn ⟨q.sty, ?_⟩
  have := q.text (by rw [h0]; decide)
  rw [h0] at this
  exact this
theorem Upto.bad1 (h : Upto C lo hi x) (hx : x < hi) (h0 : (C x).p = 1) (hn : ¬ (Sty (C x) ∧ Txt (C x) 2)) : ¬ RowOk C lo hi := fun r => by
  have q := r x h.low hx
  refine hn ⟨q.sty, ?_⟩
  have := q.text (by rw [h0]; decide)
  rw [h0] at this
  exact this
theorem Upto.bad2 (h : Upto C lo hi x) (hx : x < hi) (h0 : (C x).p = 1) (hn : ¬ (x + 2 ≤ hi ∧ C (x + 1) = ⟨⟨#[]⟩, (C x).f, (C x).g, (C x).b, 2⟩)) : ¬ RowOk C lo hi := fun r => by
  have q := r x h.low hx
  obtain ⟨q1, q2, q3, q4, q5⟩ := q.head h0
  have t := r (x + 1) (by have := h.low; omega) q1
  have t2 := (t.tail q2).2.2
  refine hn ⟨q1, ?_⟩
  obtain ⟨e, hc⟩ : ∃ e, C (x + 1) = e := ⟨_, rfl⟩
  rw [hc] at q2 q3 q4 q5 t2
  rw [hc]
  obtain ⟨t, f, g, b, p⟩ := e
  simp only at q2 q3 q4 q5 t2
  rw [q2, q3, q4, q5, t2]
theorem Upto.bad3 (h : Upto C lo hi x) (hx : x < hi) (h0 : (C x).p ≠ 0) (h1 : (C x).p ≠ 1) : ¬ RowOk C lo hi := fun r => by
  have q := r x h.low hx
  have h2 : (C x).p = 2 := by rcases q.part with e | e | e
                              · exact absurd e h0
                              · exact absurd e h1
                              · exact e
  obtain ⟨t1, t2, _⟩ := q.tail h2
  rcases h.no with e | e
  · omega
  · exact e t2
end
/-- Cells in rows of w, n of them, are a screen. -/
def Scr (C : Nat → Ce) (n : Nat) (w : Int) : Prop := ∃ W H : Nat, w = (W : Int) ∧ n = H * W ∧ 1 ≤ W ∧ W ≤ 400 ∧ 1 ≤ H ∧ H ≤ 400 ∧ ∀ y, y < H → RowOk C (y * W) (y * W + W)

end Go.Proofs.YtkdajaphbmclkaaGreatDoor
