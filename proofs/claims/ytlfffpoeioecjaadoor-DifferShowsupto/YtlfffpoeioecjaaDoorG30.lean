/-
  Behind the bytes of an update: plain mathematics.
-/
import Derived.Test.YtlfffpoeioecjaaDoorG29
import Derived.Test.YtlfffpoeioecjaaDoorG25
import Derived.Test.YtlfffpoeioecjaaDoorG08
import Derived.BigQuiet
import Derived.Deep.QuietTactic
namespace Go.Proofs.YtlfffpoeioecjaaDoor
set_option linter.unusedVariables false

theorem run_ok : ∀ (l : List UInt8) (p : Tm × St), Ti p.1 → Si p.2 → 1 ≤ p.1.W → 1 ≤ p.1.H → Ti (runT p l).1 ∧ Si (runT p l).2 ∧ (runT p l).1.W = p.1.W ∧ (runT p l).1.H = p.1.H
  | [], p, h1, h2, _, _ => ⟨h1, h2, rfl, rfl⟩
  | b :: l, p, h1, h2, h3, h4 => by
    have hw := wh_step p.1 b p.2
    have e1 : (stepT p.1 b p.2).1.W = p.1.W := congrArg Prod.fst hw
    have e2 : (stepT p.1 b p.2).1.H = p.1.H := congrArg Prod.snd hw
    have k := step_ok h1 h2 h3 h4 b
    have r := run_ok l (stepT p.1 b p.2) k.1 k.2 (by rw [e1]; exact h3) (by rw [e2]; exact h4)
    exact ⟨r.1, r.2.1, r.2.2.1.trans e1, r.2.2.2.trans e2⟩
/-- The end: it shows new, plain. -/
structure Ended (p : Tm × St) (W H : Nat) (new : Nat → Ce) : Prop where
  out : p.2 = .out
  eW : p.1.W = W
  eH : p.1.H = H
  sh : Shows p.1.c W H new
  f : p.1.r.f = 0
  g : p.1.r.g = 0
  b : p.1.r.b = 0
section
variable {W H : Nat} {old new : Nat → Ce} {t : Tm}
theorem pen_at (hf : t.r.f = 0) (hg : t.r.g = 0) (hb : t.r.b = 0) : PenAt W t pn0 := ⟨hf, hg, hb, ⟨by decide, by decide, by decide⟩, fun j hj => by have : (-1 : Int) = j := hj; omega⟩
theorem ended_one (hW : 1 ≤ W ∧ W ≤ 400) (hH : 1 ≤ H ∧ H ≤ 400) (ho : Rws old W H) (hn : Rws new W H) (h1 : t.W = W) (h2 : t.H = H) (hs : Shows t.c W H old) (hf : t.r.f = 0) (hg : t.r.g = 0) (hb : t.r.b = 0) : Ended (runT (t, .out) (allB nms W (H * W) old new pn0)) W H new := by
  obtain ⟨t', e, a1, a2, a3, a4, a5, a6⟩ := all_run turns_nms hW hH ho hn h1 h2 (pen_at hf hg hb) hs
  rw [e]
  exact ⟨rfl, a1, a2, a3, a4, a5, a6⟩
theorem blank_txt : Txt bl0 1 := by unfold Txt bl0; decide
theorem blank_rws : Rws (fun _ => bl0) W H := fun y hy i h1 h2 => ⟨⟨by decide, by decide, by decide⟩, .inl rfl, fun q => (by cases q), fun q => (by cases q), fun _ => blank_txt⟩
/-- Made plain. -/
theorem run_plain (s : Tm) (st : St) (h : Si st) : ∃ t, runT (s, st) [109, 27, 91, 109] = (t, .out) ∧ t.W = s.W ∧ t.H = s.H ∧ t.r.f = 0 ∧ t.r.g = 0 ∧ t.r.b = 0 := by
  have e0 : stepT s 109 st = ((stepT s 109 st).1, .out) := Prod.ext rfl (step_m s st h)
  obtain ⟨s1, h1⟩ : ∃ z, (stepT s 109 st).1 = z := ⟨_, rfl⟩
  have hw : wh s1 = wh s := by rw [← h1]; exact wh_step s 109 st
  rw [h1] at e0
  have hsW : s1.W = s.W := congrArg Prod.fst hw
  have hsH : s1.H = s.H := congrArg Prod.snd hw
  have e1 : runT (s, st) [109, 27, 91, 109] = runT (stepT s 109 st) [27, 91, 109] := rfl
  rw [e1, e0]
  have e : runT (s1, .out) [27, 91, 109] = (⟨s1.W, s1.H, s1.c, ⟨s1.r.x, s1.r.y, 0, 0, 0, 0, 0, ⟨#[]⟩, 0, 0⟩⟩, .out) := rfl
  exact ⟨_, e, hsW, hsH, rfl, rfl, rfl⟩
theorem run_erase (hW : 1 ≤ t.W ∧ t.W ≤ 400) (hH : 1 ≤ t.H ∧ t.H ≤ 400) (hf : t.r.f = 0) (hg : t.r.g = 0) (hb : t.r.b = 0) : ∃ t', runT (t, .out) [27, 91, 50, 74] = (t', .out) ∧ t'.W = t.W ∧ t'.H = t.H ∧ Shows t'.c t.W t.H (fun _ => bl0) ∧ t'.r.f = 0 ∧ t'.r.g = 0 ∧ t'.r.b = 0 := by
  have e : runT (t, .out) [27, 91, 50, 74] = ({ t with c := filC t.W t.H t.c 0 0 t.W t.H 0 0 0 0 0 t.W t.H, r := clr t.r }, .out) := rfl
  exact ⟨_, e, rfl, rfl, fun y x hy hx => fil_whole hW hH t.c hy hx, hf, hg, hb⟩
theorem ended_all (hW : 1 ≤ W ∧ W ≤ 400) (hH : 1 ≤ H ∧ H ≤ 400) (hn : Rws new W H) (h1 : t.W = W) (h2 : t.H = H) (hf : t.r.f = 0) (hg : t.r.g = 0) (hb : t.r.b = 0) : Ended (runT (t, .out) ([27, 91, 50, 74] ++ allB nms W (H * W) (fun _ => bl0) new pn0)) W H new := by
  obtain ⟨t', e, a1, a2, a3, a4, a5, a6⟩ := run_erase (t := t) (by rw [h1]; exact hW) (by rw [h2]; exact hH) hf hg hb
  rw [h1, h2] at a3
  rw [runT_cat, e]
  exact ended_one hW hH blank_rws hn (a1.trans h1) (a2.trans h2) a3 a4 a5 a6
end

end Go.Proofs.YtlfffpoeioecjaaDoor

namespace Go.Proofs.YtlfffpoeioecjaaDoor
open Go.RowKit
set_option linter.unusedVariables false

/-- A list of clusters in memory. -/
def Cls (w : World) (v : Value) (l : List (List UInt8 × Int)) : Prop :=
  ∃ a cap, v = .slice a l.length cap ∧ (l = [] ∨ ∃ b off, a = some ⟨b, off, none⟩ ∧ b < w.heap.size ∧ ∀ j (hj : j < l.length), w.cell? ⟨b, off + j * 2, none⟩ = some (.string ⟨(l[j]).1.toArray⟩) ∧ w.cell? ⟨b, off + j * 2 + 1, none⟩ = some (.int .i64 (l[j]).2))

theorem Cls.below {w w' : World} {v : Value} {l : List (List UInt8 × Int)} (h : Cls w v l) (hb : Below w.heap.size w w') : Cls w' v l := by
  obtain ⟨a, cap, rfl, hh⟩ := h
  refine ⟨a, cap, rfl, ?_⟩
  rcases hh with rfl | ⟨b, off, rfl, hl, hc⟩
  · exact .inl rfl
  · exact .inr ⟨b, off, rfl, Nat.lt_of_lt_of_le hl hb.size, fun j hj => ⟨(hb.cell (p := ⟨b, off + j * 2, none⟩) hl).trans (hc j hj).1, (hb.cell (p := ⟨b, off + j * 2 + 1, none⟩) hl).trans (hc j hj).2⟩⟩

theorem cCells_length (l : List (List UInt8 × Int)) : (cCells l).length = l.length * 2 := by
  induction l with
  | nil => rfl
  | cons c l ih => simp only [cCells, List.flatMap_cons, List.length_append, List.length_cons, List.length_nil] at *; omega
theorem cCells_at (l : List (List UInt8 × Int)) (j : Nat) (hj : j < l.length) : (cCells l)[j * 2]? = some (.string ⟨(l[j]).1.toArray⟩) ∧ (cCells l)[j * 2 + 1]? = some (.int .i64 (l[j]).2) := by
  induction l generalizing j with
  | nil => simp at hj
  | cons c l ih =>
    have e : cCells (c :: l) = .string ⟨c.1.toArray⟩ :: .int .i64 c.2 :: cCells l := rfl
    cases j with
    | zero => rw [e]; simp
    | succ j =>
      have := ih j (by simpa using hj)
      rw [e, show (j + 1) * 2 = j * 2 + 1 + 1 by omega]
      simpa using this

theorem cls_own {w : World} {B n : Nat} {e : TypeId} {v : Value} {l : List (List UInt8 × Int)} (h : w.ownsRow B e 2 v n (cCells l)) : Cls w v l := by
  have hl : l.length = n := by have := h.1; rw [cCells_length] at this; omega
  rcases h.2 with ⟨rfl, rfl⟩ | ⟨g, cap, cur, rfl, _, hg, _⟩
  · have hz : l = [] := List.length_eq_zero_iff.1 hl
    subst hz
    exact ⟨none, 0, rfl, .inl rfl⟩
  · refine ⟨some ⟨g, 0, none⟩, cap, by rw [hl], .inr ⟨g, 0, rfl, (Array.getElem?_eq_some_iff.1 hg).1, fun j hj => ?_⟩⟩
    have c := cCells_at l j hj
    have a0 := h.cells (g := g) rfl (j * 2) _ c.1
    have a1 := h.cells (g := g) rfl (j * 2 + 1) _ c.2
    have e0 : (⟨g, 0, none⟩ : Addr).add (j * 2) = ⟨g, 0 + j * 2, none⟩ := by unfold Addr.add; split <;> simp_all
    have e1 : (⟨g, 0, none⟩ : Addr).add (j * 2 + 1) = ⟨g, 0 + j * 2 + 1, none⟩ := by unfold Addr.add; split <;> simp_all
    rw [e0] at a0
    rw [e1] at a1
    exact ⟨a0, a1⟩

end Go.Proofs.YtlfffpoeioecjaaDoor
