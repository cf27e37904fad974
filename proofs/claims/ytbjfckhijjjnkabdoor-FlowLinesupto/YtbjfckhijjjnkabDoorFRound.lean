/-
  A list of lines, line by line; and lines in memory.
-/
import Derived.Test.YtbjfckhijjjnkabDoorFProp
import Derived.Test.YtbjfckhijjjnkabDoorFLines
namespace Go.Proofs.YtbjfckhijjjnkabDoor
open Go.RowKit
set_option linter.unusedVariables false

theorem round_facts (l : List (List UInt8 × Int)) (w : Int) (h : ∀ c ∈ l, 0 ≤ c.2 ∧ c.2 ≤ 2) (hn : ∀ c ∈ l, Nrm c) (hsh : ∀ c ∈ l, c.1.length ≤ 20) (hw : 1 ≤ w) (L : List Ln) (k a : Nat) (hk : k < L.length) (ha : a ≤ l.length) (hd : L.drop k = linesA l w a) :
    ∃ (x : Ln) (n d : Nat), L[k] = x ∧ LineKind (l.drop a) w n d x.E ∧ x.F = a ∧ x.N = n ∧ a + n + d ≤ l.length ∧ wideSum (clus (runes x.T)) = x.W ∧ x.W ≤ w ∧ 0 ≤ x.W ∧ x.W ≤ 2 * l.length + 1 ∧ x.T.length ≤ 20 * l.length + 1 ∧
      (x.E = 3 → k + 1 = L.length ∧ a + n + d = l.length) ∧ (x.E ≠ 3 → k + 1 < L.length ∧ L.drop (k + 1) = linesA l w (a + n + d)) ∧
      ((w < wideSum ((l.drop a).take n) ∧ n = 1 ∧ w = 1 ∧ x.T = [32] ∧ x.W = 1) ∨ (wideSum ((l.drop a).take n) ≤ w ∧ x.T = joined ((l.drop a).take n) ∧ x.W = wideSum ((l.drop a).take n))) := by
  obtain ⟨n, d, hkd, hnx, hF, hN, hle, hc⟩ := lnAt_is l w a h hw ha
  have hcol := lnAt_cols l w a h hn hw ha
  have hx : L[k] = lnAt l w a := by
    have h1 : (L.drop k)[0]? = L[k]? := by simp
    rw [hd] at h1
    have h2 : (linesA l w a)[0]? = some (lnAt l w a) := by
      by_cases e : (lnAt l w a).E = 3
      · rw [linesA_end ha e]; rfl
      · rw [linesA_step ha e]; rfl
    rw [h2] at h1
    have h3 := List.getElem?_eq_getElem hk
    rw [h3] at h1
    exact (Option.some.inj h1).symm
  have hW0 : 0 ≤ (lnAt l w a).W ∧ (lnAt l w a).W ≤ 2 * l.length + 1 ∧ (lnAt l w a).T.length ≤ 20 * l.length + 1 := by
    have hlen : ((l.drop a).take n).length ≤ l.length := by rw [List.length_take, List.length_drop]; omega
    have hb2 : ∀ c ∈ (l.drop a).take n, 0 ≤ c.2 ∧ c.2 ≤ 2 := fun c hc => h c (List.mem_of_mem_drop (List.mem_of_mem_take hc))
    have hs2 := wideSum_bd _ hb2 ((l.drop a).take n).length
    rw [List.take_length] at hs2
    have hj2 := joined_bd _ (fun c hc => hsh c (List.mem_of_mem_drop (List.mem_of_mem_take hc)) : ∀ c ∈ (l.drop a).take n, c.1.length ≤ 20)
    rcases hc with ⟨_, _, e1, e2, e3⟩ | ⟨_, e2, e3⟩
    · rw [e2, e3]; simp; omega
    · rw [e2, e3]; refine ⟨by omega, by omega, by omega⟩
  have hll : (L.drop k).length = L.length - k := List.length_drop
  refine ⟨lnAt l w a, n, d, hx, hkd, hF, hN, hle, hcol.1, hcol.2, hW0.1, hW0.2.1, hW0.2.2, fun e => ?_, fun e => ?_, hc⟩
  · rw [hd, linesA_end ha e] at hll
    simp at hll
    refine ⟨by omega, ?_⟩
    rw [e] at hkd
    cases hkd with
    | all _ hn' => rw [hn', List.length_drop]; omega
  · have h1 := nxt_le l w a ha
    have h2 := (linesA_length l w (nxt l w a) h1).1
    rw [linesA_step ha e] at hd
    have h3 := congrArg List.length hd
    rw [hll, List.length_cons] at h3
    refine ⟨by omega, ?_⟩
    rw [← hnx]
    have h4 : (L.drop k).drop 1 = L.drop (k + 1) := by rw [List.drop_drop]
    rw [← h4, hd]; rfl

/-- Lines in memory. -/
def Lns (w : World) (v : Value) (L : List Ln) : Prop :=
  ∃ a cap, v = .slice a L.length cap ∧ (L = [] ∨ ∃ b, a = some ⟨b, 0, none⟩ ∧ b < w.heap.size ∧ ∀ j (hj : j < L.length), w.cell? ⟨b, j * 5, none⟩ = some (.string ⟨(L[j]).T.toArray⟩) ∧ w.cell? ⟨b, j * 5 + 1, none⟩ = some (.int .i64 (L[j]).W) ∧ w.cell? ⟨b, j * 5 + 2, none⟩ = some (.int .i64 (L[j]).F) ∧ w.cell? ⟨b, j * 5 + 3, none⟩ = some (.int .i64 (L[j]).N) ∧ w.cell? ⟨b, j * 5 + 4, none⟩ = some (.int .i64 (L[j]).E))
theorem lCells_length (L : List Ln) : (lCells L).length = L.length * 5 := by
  induction L with
  | nil => rfl
  | cons x L ih => simp only [lCells, List.flatMap_cons, List.length_append, List.length_cons, lnCells, List.length_nil] at *; omega
theorem lCells_at (L : List Ln) (j : Nat) (hj : j < L.length) : (lCells L)[j * 5]? = some (.string ⟨(L[j]).T.toArray⟩) ∧ (lCells L)[j * 5 + 1]? = some (.int .i64 (L[j]).W) ∧ (lCells L)[j * 5 + 2]? = some (.int .i64 (L[j]).F) ∧ (lCells L)[j * 5 + 3]? = some (.int .i64 (L[j]).N) ∧ (lCells L)[j * 5 + 4]? = some (.int .i64 (L[j]).E) := by
  induction L generalizing j with
  | nil => simp at hj
  | cons x L ih =>
    have e : lCells (x :: L) = .string ⟨x.T.toArray⟩ :: .int .i64 x.W :: .int .i64 x.F :: .int .i64 x.N :: .int .i64 x.E :: lCells L := rfl
    cases j with
    | zero => rw [e]; simp
    | succ j =>
      have := ih j (by simpa using hj)
      rw [e, show (j + 1) * 5 = j * 5 + 1 + 1 + 1 + 1 + 1 by omega]
      simpa using this
theorem lns_own {w : World} {B n : Nat} {e : TypeId} {v : Value} {L : List Ln} (h : w.ownsRow B e 5 v n (lCells L)) : Lns w v L := by
  have hl : L.length = n := by have := h.1; rw [lCells_length] at this; omega
  rcases h.2 with ⟨rfl, rfl⟩ | ⟨g, cap, cur, rfl, _, hg, _⟩
  · have hz : L = [] := List.length_eq_zero_iff.1 hl
    subst hz
    exact ⟨none, 0, rfl, .inl rfl⟩
  · refine ⟨some ⟨g, 0, none⟩, cap, by rw [hl], .inr ⟨g, rfl, (Array.getElem?_eq_some_iff.1 hg).1, fun j hj => ?_⟩⟩
    have c := lCells_at L j hj
    have e0 : ∀ i, (⟨g, 0, none⟩ : Addr).add i = ⟨g, i, none⟩ := by intro i; unfold Addr.add; split <;> simp_all
    have a0 := h.cells (g := g) rfl (j * 5) _ c.1
    have a1 := h.cells (g := g) rfl (j * 5 + 1) _ c.2.1
    have a2 := h.cells (g := g) rfl (j * 5 + 2) _ c.2.2.1
    have a3 := h.cells (g := g) rfl (j * 5 + 3) _ c.2.2.2.1
    have a4 := h.cells (g := g) rfl (j * 5 + 4) _ c.2.2.2.2
    rw [e0] at a0 a1 a2 a3 a4
    exact ⟨a0, a1, a2, a3, a4⟩
theorem Lns.below {w w' : World} {v : Value} {L : List Ln} (h : Lns w v L) (hb : Below w.heap.size w w') : Lns w' v L := by
  obtain ⟨a, cap, rfl, hh⟩ := h
  refine ⟨a, cap, rfl, hh.imp id ?_⟩
  rintro ⟨b, rfl, hl, hc⟩
  refine ⟨b, rfl, Nat.lt_of_lt_of_le hl hb.size, fun j hj => ?_⟩
  have := hc j hj
  exact ⟨(hb.cell (p := ⟨b, j * 5, none⟩) hl).trans this.1, (hb.cell (p := ⟨b, j * 5 + 1, none⟩) hl).trans this.2.1, (hb.cell (p := ⟨b, j * 5 + 2, none⟩) hl).trans this.2.2.1, (hb.cell (p := ⟨b, j * 5 + 3, none⟩) hl).trans this.2.2.2.1, (hb.cell (p := ⟨b, j * 5 + 4, none⟩) hl).trans this.2.2.2.2⟩

end Go.Proofs.YtbjfckhijjjnkabDoor
