/-
  A canvas in memory: a struct of two numbers and a list, and the list's cells.
-/
import Derived.Test.YtgaogkggbccfnaaDoorCMath
import Derived.Laws.AppendOwn
namespace Go.Proofs.YtgaogkggbccfnaaDoor
open Go.RowKit
set_option linter.unusedVariables false

/-- Blocks but M are as they were. -/
structure Ch (M : Nat) (W W' : World) : Prop where
  os : W'.os = W.os
  tape : W'.tape = W.tape
  output : W'.output = W.output
  size : W.heap.size ≤ W'.heap.size
  block : ∀ b, b < W.heap.size → b ≠ M → W'.heap[b]? = W.heap[b]?
section
variable {M : Nat} {W W' W2 : World}
theorem Ch.refl (M : Nat) (W : World) : Ch M W W := ⟨rfl, rfl, rfl, Nat.le_refl _, fun _ _ _ => rfl⟩
theorem Ch.trans (h : Ch M W W') (k : Ch M W' W2) : Ch M W W2 :=
  ⟨k.os.trans h.os, k.tape.trans h.tape, k.output.trans h.output, Nat.le_trans h.size k.size, fun b h1 h2 => (k.block b (Nat.lt_of_lt_of_le h1 h.size) h2).trans (h.block b h1 h2)⟩
theorem Ch.below (h : Below W.heap.size W W') : Ch M W W' := ⟨h.os, h.tape, h.output, h.size, fun b h1 _ => h.block b h1⟩
theorem Ch.gr (h : Gr W W') : Ch M W W' := Ch.below h.below
theorem Ch.thenGr (h : Ch M W W') (k : Gr W' W2) : Ch M W W2 := h.trans (Ch.gr k)
theorem Ch.set (h : Ch M W W') {k : Nat} (hk : k = M ∨ W.heap.size ≤ k) (o : Nat) (v : Value) : Ch M W (W'.setCell ⟨k, o, none⟩ v) :=
  ⟨h.os, h.tape, h.output, by simpa [World.setCell] using h.size, fun b h1 h2 => (Below.heap_setCell W' ⟨k, o, none⟩ v b (by show b ≠ k; omega)).trans (h.block b h1 h2)⟩
theorem Ch.low (h : Ch M W W') {B : Nat} (hM : B ≤ M) (hB : B ≤ W.heap.size) {W0 : World} (k : Below B W0 W) : Below B W0 W' :=
  ⟨h.os.trans k.os, h.tape.trans k.tape, h.output.trans k.output, Nat.le_trans k.size h.size, fun b hb => (h.block b (by omega) (by omega)).trans (k.block b hb)⟩
end

def c5 (e : Ce) : List Value := [.string e.t, .int .i64 e.f, .int .i64 e.g, .int .i64 e.b, .int .i64 e.p]
theorem c5_len (e : Ce) : (c5 e).length = 5 := rfl

/-- Cells in a block, row by row. -/
structure Cv (T : TypeId) (Q : World) (M W H : Nat) (c : Nat → Nat → Ce) : Prop where
  arr : ∃ a, Q.heap[M]? = some (.cells a T (0, 0))
  cell : ∀ y x, y < H → x < W → ∀ (k : Nat) u, (c5 (c y x))[k]? = some u → Q.cell? ⟨M, y * W * 5 + x * 5 + k, none⟩ = some u
def upd (c : Nat → Nat → Ce) (y x : Nat) (e : Ce) : Nat → Nat → Ce := fun y' x' => if y' = y ∧ x' = x then e else c y' x'

theorem idx_inj {W y x y' x' : Nat} (hx : x < W) (hx' : x' < W) (h : y * W + x = y' * W + x') : y = y' ∧ x = x' := by
  have h1 : (y * W + x) / W = y := by rw [Nat.mul_comm, Nat.mul_add_div (by omega), Nat.div_eq_of_lt hx, Nat.add_zero]
  have h2 : (y' * W + x') / W = y' := by rw [Nat.mul_comm, Nat.mul_add_div (by omega), Nat.div_eq_of_lt hx', Nat.add_zero]
  have : y = y' := by rw [← h1, ← h2, h]
  subst this
  exact ⟨rfl, by omega⟩
theorem off_inj {W y x k y' x' k' : Nat} (hx : x < W) (hx' : x' < W) (hk : k < 5) (hk' : k' < 5) (h : y * W * 5 + x * 5 + k = y' * W * 5 + x' * 5 + k') : y = y' ∧ x = x' ∧ k = k' := by
  generalize hp : y * W = p at *
  generalize hq : y' * W = q at *
  have h1 : p + x = q + x' ∧ k = k' := by omega
  have := idx_inj (y := y) (y' := y') hx hx' (by rw [hp, hq]; exact h1.1)
  exact ⟨this.1, this.2, h1.2⟩

section
variable {T : TypeId} {Q Q' : World} {M W H : Nat} {c c' : Nat → Nat → Ce}
theorem Cv.lt (h : Cv T Q M W H c) : M < Q.heap.size := by obtain ⟨a, ha⟩ := h.arr; exact (Array.getElem?_eq_some_iff.1 ha).1
theorem Cv.fz (h : Cv T Q M W H c) (j : Nat) : Q.frozen? ⟨M, j, none⟩ = false := by obtain ⟨a, ha⟩ := h.arr; exact frozen_of_row _ _ _ _ _ ha
theorem Cv.keep (h : Cv T Q M W H c) (hb : Q'.heap[M]? = Q.heap[M]?) : Cv T Q' M W H c := by
  obtain ⟨a, ha⟩ := h.arr
  exact ⟨⟨a, hb.trans ha⟩, fun y x hy hx k u hu => (World.cell?_of_block (a := ⟨M, _, none⟩) hb).trans (h.cell y x hy hx k u hu)⟩
theorem Cv.gr (h : Cv T Q M W H c) (g : Gr Q Q') : Cv T Q' M W H c := h.keep (g.block h.lt)
theorem Cv.ch {N : Nat} (h : Cv T Q M W H c) (g : Ch N Q Q') (hN : M ≠ N) : Cv T Q' M W H c := h.keep (g.block M h.lt hN)
theorem Cv.other {k : Nat} (h : Cv T Q M W H c) (hk : M ≠ k) (o : Nat) (v : Value) : Cv T (Q.setCell ⟨k, o, none⟩ v) M W H c := h.keep (Below.heap_setCell Q ⟨k, o, none⟩ v M hk)
theorem Cv.same (h : Cv T Q M W H c) (hc : ∀ y x, y < H → x < W → c y x = c' y x) : Cv T Q M W H c' :=
  ⟨h.arr, fun y x hy hx k u hu => h.cell y x hy hx k u (by rw [hc y x hy hx]; exact hu)⟩
/-- One part of one cell written. -/
theorem Cv.set1 (h : Cv T Q M W H c) {y x k : Nat} (hy : y < H) (hx : x < W) (hk : k < 5) (v : Value) (hc : ∀ y' x', c' y' x' = if y' = y ∧ x' = x then c' y x else c y' x') (he : c5 (c' y x) = (c5 (c y x)).set k v) :
    Cv T (Q.setCell ⟨M, y * W * 5 + x * 5 + k, none⟩ v) M W H c' := by
  obtain ⟨a, ha⟩ := h.arr
  refine ⟨⟨_, heap_setCell_same _ M _ _ _ _ ha⟩, fun y' x' hy' hx' k' u hu => ?_⟩
  have hk' : k' < 5 := (List.getElem?_eq_some_iff.1 hu).1
  have old := h.cell y x hy hx k _ (List.getElem?_eq_getElem (show k < (c5 (c y x)).length from hk))
  by_cases e : y' = y ∧ x' = x
  · obtain ⟨rfl, rfl⟩ := e
    rw [he] at hu
    by_cases e2 : k' = k
    · subst e2
      rw [List.getElem?_set_self (show k' < (c5 (c y' x')).length from hk)] at hu
      injection hu with hu
      subst hu
      exact World.cell?_setCell_same _ _ _ old
    · rw [List.getElem?_set_ne (by omega)] at hu
      rw [World.cell?_setCell_other _ _ _ _ (fun q => by injection q with _ q _; omega)]
      exact h.cell y' x' hy' hx' k' u hu
  · rw [hc y' x', if_neg e] at hu
    rw [World.cell?_setCell_other _ _ _ _]
    · exact h.cell y' x' hy' hx' k' u hu
    · intro q
      injection q with _ q _
      have := off_inj hx hx' hk hk' q
      exact e ⟨this.1.symm, this.2.1.symm⟩
/-- One cell written. -/
theorem Cv.set (h : Cv T Q M W H c) {y x : Nat} (hy : y < H) (hx : x < W) (e : Ce) :
    Cv T (((((Q.setCell ⟨M, y * W * 5 + x * 5, none⟩ (.string e.t)).setCell ⟨M, y * W * 5 + x * 5 + 1, none⟩ (.int .i64 e.f)).setCell ⟨M, y * W * 5 + x * 5 + 2, none⟩ (.int .i64 e.g)).setCell ⟨M, y * W * 5 + x * 5 + 3, none⟩ (.int .i64 e.b)).setCell ⟨M, y * W * 5 + x * 5 + 4, none⟩ (.int .i64 e.p)) M W H (upd c y x e) := by
  have u0 : ∀ e, upd c y x e y x = e := fun e => by unfold upd; rw [if_pos ⟨rfl, rfl⟩]
  have nx : ∀ e e', ∀ y' x', upd c y x e' y' x' = if y' = y ∧ x' = x then upd c y x e' y x else upd c y x e y' x' := fun e e' y' x' => by
    rw [u0]; unfold upd; split <;> rfl
  have h0 := h.set1 (c' := upd c y x { c y x with t := e.t }) (k := 0) hy hx (by omega) (.string e.t) (fun y' x' => by rw [u0]; rfl) (by rw [u0]; rfl)
  have h1 := h0.set1 (c' := upd c y x { c y x with t := e.t, f := e.f }) (k := 1) hy hx (by omega) (.int .i64 e.f) (nx _ _) (by rw [u0, u0]; rfl)
  have h2 := h1.set1 (c' := upd c y x { c y x with t := e.t, f := e.f, g := e.g }) (k := 2) hy hx (by omega) (.int .i64 e.g) (nx _ _) (by rw [u0, u0]; rfl)
  have h3 := h2.set1 (c' := upd c y x { c y x with t := e.t, f := e.f, g := e.g, b := e.b }) (k := 3) hy hx (by omega) (.int .i64 e.b) (nx _ _) (by rw [u0, u0]; rfl)
  exact h3.set1 (c' := upd c y x e) (k := 4) hy hx (by omega) (.int .i64 e.p) (nx _ _) (by rw [u0, u0]; rfl)
theorem Cv.setPart (h : Cv T Q M W H c) {y x : Nat} (hy : y < H) (hx : x < W) (p : Int) :
    Cv T (Q.setCell ⟨M, y * W * 5 + x * 5 + 4, none⟩ (.int .i64 p)) M W H (upd c y x { c y x with p := p }) :=
  h.set1 (k := 4) hy hx (by omega) _ (fun y' x' => by unfold upd; simp) (by unfold upd; rw [if_pos ⟨rfl, rfl⟩]; rfl)
theorem Cv.setText (h : Cv T Q M W H c) {y x : Nat} (hy : y < H) (hx : x < W) (s : ByteArray) :
    Cv T (Q.setCell ⟨M, y * W * 5 + x * 5 + 0, none⟩ (.string s)) M W H (upd c y x { c y x with t := s }) :=
  h.set1 (k := 0) hy hx (by omega) _ (fun y' x' => by unfold upd; simp) (by unfold upd; rw [if_pos ⟨rfl, rfl⟩]; rfl)
theorem Cv.c0 (h : Cv T Q M W H c) {y x : Nat} (hy : y < H) (hx : x < W) : Q.cell? ⟨M, y * W * 5 + x * 5, none⟩ = some (.string (c y x).t) := h.cell y x hy hx 0 _ rfl
theorem Cv.c1 (h : Cv T Q M W H c) {y x : Nat} (hy : y < H) (hx : x < W) : Q.cell? ⟨M, y * W * 5 + x * 5 + 1, none⟩ = some (.int .i64 (c y x).f) := h.cell y x hy hx 1 _ rfl
theorem Cv.c2 (h : Cv T Q M W H c) {y x : Nat} (hy : y < H) (hx : x < W) : Q.cell? ⟨M, y * W * 5 + x * 5 + 2, none⟩ = some (.int .i64 (c y x).g) := h.cell y x hy hx 2 _ rfl
theorem Cv.c3 (h : Cv T Q M W H c) {y x : Nat} (hy : y < H) (hx : x < W) : Q.cell? ⟨M, y * W * 5 + x * 5 + 3, none⟩ = some (.int .i64 (c y x).b) := h.cell y x hy hx 3 _ rfl
theorem Cv.c4 (h : Cv T Q M W H c) {y x : Nat} (hy : y < H) (hx : x < W) : Q.cell? ⟨M, y * W * 5 + x * 5 + 4, none⟩ = some (.int .i64 (c y x).p) := h.cell y x hy hx 4 _ rfl
end

/-- A canvas at K, its cells at M. -/
structure CS (TK T : TypeId) (Q : World) (K M cap W H : Nat) (c : Nat → Nat → Ce) : Prop where
  kb : Q.heap[K]? = some (.cells #[.int .i64 W, .int .i64 H, .slice (some ⟨M, 0, none⟩) (W * H) cap] TK (0, 0))
  cv : Cv T Q M W H c
  ne : K ≠ M
  hc : W * H ≤ cap
section
variable {TK T : TypeId} {Q Q' : World} {K M cap W H : Nat} {c c' : Nat → Nat → Ce}
theorem CS.klt (h : CS TK T Q K M cap W H c) : K < Q.heap.size := (Array.getElem?_eq_some_iff.1 h.kb).1
theorem CS.k0 (h : CS TK T Q K M cap W H c) : Q.cell? ⟨K, 0, none⟩ = some (.int .i64 W) := by have := h.kb; simp [World.cell?, this]
theorem CS.k1 (h : CS TK T Q K M cap W H c) : Q.cell? ⟨K, 1, none⟩ = some (.int .i64 H) := by have := h.kb; simp [World.cell?, this]
theorem CS.k2 (h : CS TK T Q K M cap W H c) : Q.cell? ⟨K, 2, none⟩ = some (.slice (some ⟨M, 0, none⟩) (W * H) cap) := by have := h.kb; simp [World.cell?, this]
theorem CS.ch {N : Nat} (h : CS TK T Q K M cap W H c) (g : Ch N Q Q') (h1 : K ≠ N) (h2 : M ≠ N) : CS TK T Q' K M cap W H c := ⟨(g.block K h.klt h1).trans h.kb, h.cv.ch g h2, h.ne, h.hc⟩
theorem CS.gr (h : CS TK T Q K M cap W H c) (g : Gr Q Q') : CS TK T Q' K M cap W H c := ⟨(g.block h.klt).trans h.kb, h.cv.gr g, h.ne, h.hc⟩
/-- The cells are others now. -/
theorem CS.put (h : CS TK T Q K M cap W H c) (g : Ch M Q Q') (hc : Cv T Q' M W H c') : CS TK T Q' K M cap W H c' := ⟨(g.block K h.klt h.ne).trans h.kb, hc, h.ne, h.hc⟩
end
end Go.Proofs.YtgaogkggbccfnaaDoor
