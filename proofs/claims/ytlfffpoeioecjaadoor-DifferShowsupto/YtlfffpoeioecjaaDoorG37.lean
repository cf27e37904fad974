/-
  The reference's Put, as a function of the cells.
-/
import Derived.Test.YtlfffpoeioecjaaDoorG36
import Derived.Test.YtlfffpoeioecjaaDoorG15
import Derived.Test.YtlfffpoeioecjaaDoorG32
namespace Go.Proofs.YtlfffpoeioecjaaDoor
open Go.RowKit Go.Sort
set_option linter.unusedVariables false

section
variable {K M cap W H : Nat} {c : Nat → Nat → Ce}
theorem rput_any (w : World) (h : CS 48 57 w K M cap W H c) (hW : 1 ≤ W ∧ W ≤ 400) (hH : 1 ≤ H ∧ H ≤ 400) (hp : PAll W H c) (x y : Int) (txt : ByteArray) (wd f g b cx cy ca cb : Int) :
    Calls Tryd.prog 73 #[.pointer (some ⟨K, 0, none⟩), .int .i64 x, .int .i64 y, .agg #[.string txt, .int .i64 wd], sv f g b, rv cx cy ca cb] w fun e w' => e = .returned (.tuple #[]) ∧ Cv 57 w' M W H (putC W H c x y txt wd f g b cx cy ca cb) ∧ Ch M w w' := by
  by_cases ho : ¬ (wd = 1 ∨ wd = 2) ∨ y < 0 ∨ (H : Int) ≤ y ∨ x < -1 ∨ (W : Int) ≤ x
  · rw [putC_out hW hH c x y txt wd f g b cx cy ca cb ho]
    exact Calls.mono (rput_out w h hW hH x y txt wd f g b cx cy ca cb ho) (fun e w' hh => ⟨hh.1, h.cv.gr hh.2, Ch.gr hh.2⟩)
  · have hw : wd = 1 ∨ wd = 2 := by omega
    have hy : 0 ≤ y ∧ y < H := by omega
    have hx : -1 ≤ x ∧ x < W := by omega
    obtain ⟨y, rfl⟩ : ∃ n : Nat, y = n := ⟨y.toNat, by omega⟩
    have SF := seen_facts (W := W) (H := H) (by omega) (by omega) x y wd 1 cx cy ca cb
    have := rput_in w h hW hH hp x y txt wd f g b cx cy ca cb hw (by omega) hx _ _ _ _ SF
    unfold putC putQ
    rw [if_pos hw]
    exact this
end

end Go.Proofs.YtlfffpoeioecjaaDoor

namespace Go.Proofs.YtlfffpoeioecjaaDoor
open Go.RowKit Go.Sort
set_option linter.unusedVariables false

/-- What it keeps: its cells, the cursor, the style, what is half come, the last cell and its marks, what has been written. -/
structure Rm where
  W : Nat
  H : Nat
  c : Nat → Nat → Ce
  x : Int
  y : Int
  f : Int
  g : Int
  b : Int
  q : ByteArray
  la : Int
  mks : Int
  wv : Nat → Bool
def rtc (K B bc : Nat) (s : Rm) : Array Value := #[.pointer (some ⟨K, 0, none⟩), .int .i64 s.x, .int .i64 s.y, .int .i64 s.f, .int .i64 s.g, .int .i64 s.b, .string s.q, .int .i64 s.la, .int .i64 s.mks, .slice (some ⟨B, 0, none⟩) (s.W * s.H) bc]
/-- Truths in a block. -/
structure BR (Q : World) (B n : Nat) (wv : Nat → Bool) : Prop where
  arr : ∃ a, Q.heap[B]? = some (.cells a 4 (0, 0))
  cell : ∀ i, i < n → Q.cell? ⟨B, i, none⟩ = some (.bool (wv i))
theorem BR.lt {Q : World} {B n : Nat} {wv : Nat → Bool} (h : BR Q B n wv) : B < Q.heap.size := by obtain ⟨a, ha⟩ := h.arr; exact (Array.getElem?_eq_some_iff.1 ha).1
theorem BR.fz {Q : World} {B n : Nat} {wv : Nat → Bool} (h : BR Q B n wv) (j : Nat) : Q.frozen? ⟨B, j, none⟩ = false := by obtain ⟨a, ha⟩ := h.arr; exact frozen_of_row _ _ _ _ _ ha
theorem BR.keep {Q Q' : World} {B n : Nat} {wv : Nat → Bool} (h : BR Q B n wv) (hb : Q'.heap[B]? = Q.heap[B]?) : BR Q' B n wv := by
  refine ⟨by rw [hb]; exact h.arr, fun i hi => ?_⟩
  rw [← h.cell i hi]
  simp [World.cell?, hb]
theorem BR.set {Q : World} {B n : Nat} {wv : Nat → Bool} (h : BR Q B n wv) {i : Nat} (hi : i < n) : BR (Q.setCell ⟨B, i, none⟩ (.bool true)) B n (fun j => if j = i then true else wv j) := by
  obtain ⟨a, ha⟩ := h.arr
  refine ⟨⟨_, heap_setCell_same Q B i _ _ _ ha⟩, fun j hj => ?_⟩
  by_cases e : j = i
  · subst e
    rw [if_pos rfl]
    exact World.cell?_setCell_same' _ _ _ (by rw [h.cell j hj]; rfl)
  · rw [if_neg e, World.cell?_setCell_other _ _ _ _ (fun q => by injection q with _ q _; exact e q.symm)]
    exact h.cell j hj
/-- All blocks but T, M and B stay. -/
structure C3 (T M B : Nat) (W W' : World) : Prop where
  os : W'.os = W.os
  tape : W'.tape = W.tape
  output : W'.output = W.output
  size : W.heap.size ≤ W'.heap.size
  block : ∀ b, b < W.heap.size → b ≠ T → b ≠ M → b ≠ B → W'.heap[b]? = W.heap[b]?
section
variable {T K M cap B bc : Nat} {s : Rm} {Q Q' Q2 : World}
theorem C3.refl (T M B : Nat) (W : World) : C3 T M B W W := ⟨rfl, rfl, rfl, Nat.le_refl _, fun _ _ _ _ _ => rfl⟩
theorem C3.trans (h : C3 T M B Q Q') (k : C3 T M B Q' Q2) : C3 T M B Q Q2 := ⟨k.os.trans h.os, k.tape.trans h.tape, k.output.trans h.output, Nat.le_trans h.size k.size, fun b h1 h2 h3 h4 => (k.block b (Nat.lt_of_lt_of_le h1 h.size) h2 h3 h4).trans (h.block b h1 h2 h3 h4)⟩
/-- The cells may lie elsewhere since. -/
theorem C3.transM {M' : Nat} (h : C3 T M B Q Q') (k : C3 T M' B Q' Q2) (hM : M' = M ∨ Q.heap.size ≤ M') : C3 T M B Q Q2 := ⟨k.os.trans h.os, k.tape.trans h.tape, k.output.trans h.output, Nat.le_trans h.size k.size, fun b h1 h2 h3 h4 => (k.block b (Nat.lt_of_lt_of_le h1 h.size) h2 (by rcases hM with rfl | hM <;> omega) h4).trans (h.block b h1 h2 h3 h4)⟩
theorem C3.below (g : Below Q.heap.size Q Q') : C3 T M B Q Q' := ⟨g.os, g.tape, g.output, g.size, fun b h1 _ _ _ => g.block b h1⟩
theorem C3.gr (g : Gr Q Q') : C3 T M B Q Q' := C3.below g.below
theorem C3.ch (g : Ch M Q Q') : C3 T M B Q Q' := ⟨g.os, g.tape, g.output, g.size, fun b h1 _ h3 _ => g.block b h1 h3⟩
theorem C3.set (h : C3 T M B Q Q') (o : Nat) (v : Value) : C3 T M B Q (Q'.setCell ⟨T, o, none⟩ v) :=
  ⟨h.os, h.tape, h.output, by simpa [World.setCell] using h.size, fun b h1 h2 h3 h4 => (Below.heap_setCell Q' ⟨T, o, none⟩ v b h2).trans (h.block b h1 h2 h3 h4)⟩
theorem C3.setB (h : C3 T M B Q Q') (o : Nat) (v : Value) : C3 T M B Q (Q'.setCell ⟨B, o, none⟩ v) :=
  ⟨h.os, h.tape, h.output, by simpa [World.setCell] using h.size, fun b h1 h2 h3 h4 => (Below.heap_setCell Q' ⟨B, o, none⟩ v b h4).trans (h.block b h1 h2 h3 h4)⟩
theorem C3.setM (h : C3 T M B Q Q') (o : Nat) (v : Value) : C3 T M B Q (Q'.setCell ⟨M, o, none⟩ v) :=
  ⟨h.os, h.tape, h.output, by simpa [World.setCell] using h.size, fun b h1 h2 h3 h4 => (Below.heap_setCell Q' ⟨M, o, none⟩ v b h3).trans (h.block b h1 h2 h3 h4)⟩
/-- The terminal. -/
structure RT (Q : World) (T K M cap B bc : Nat) (s : Rm) : Prop where
  tb : Q.heap[T]? = some (.cells (rtc K B bc s) 53 (0, 0))
  cs : CS 48 57 Q K M cap s.W s.H s.c
  bv : BR Q B (s.W * s.H) s.wv
  tk : T ≠ K
  tm : T ≠ M
  tB : T ≠ B
  kB : K ≠ B
  mB : M ≠ B
  hb : s.W * s.H ≤ bc
  hW : 1 ≤ s.W ∧ s.W ≤ 400
  hH : 1 ≤ s.H ∧ s.H ≤ 400
  pa : PAll s.W s.H s.c
theorem RT.lt (h : RT Q T K M cap B bc s) : T < Q.heap.size := (Array.getElem?_eq_some_iff.1 h.tb).1
theorem RT.fz (h : RT Q T K M cap B bc s) (j : Nat) : Q.frozen? ⟨T, j, none⟩ = false := frozen_of_row _ _ _ _ _ h.tb
theorem RT.at (h : RT Q T K M cap B bc s) {j : Nat} {v : Value} (hv : (rtc K B bc s)[j]? = some v) : Q.cell? ⟨T, j, none⟩ = some v := by rw [cell_of_row Q T j _ _ _ h.tb]; exact hv
theorem RT.below (h : RT Q T K M cap B bc s) (g : Below Q.heap.size Q Q') : RT Q' T K M cap B bc s :=
  ⟨(g.block T h.lt).trans h.tb, ⟨(g.block K h.cs.klt).trans h.cs.kb, h.cs.cv.keep (g.block M h.cs.cv.lt), h.cs.ne, h.cs.hc⟩, h.bv.keep (g.block B h.bv.lt), h.tk, h.tm, h.tB, h.kB, h.mB, h.hb, h.hW, h.hH, h.pa⟩
theorem RT.gr (h : RT Q T K M cap B bc s) (g : Gr Q Q') : RT Q' T K M cap B bc s := h.below g.below
/-- A cell of its block is another one now. -/
theorem RT.set (h : RT Q T K M cap B bc s) (o : Nat) (v : Value) (s' : Rm) (e : (rtc K B bc s).setIfInBounds o v = rtc K B bc s') (hw : s'.W = s.W ∧ s'.H = s.H ∧ s'.c = s.c ∧ s'.wv = s.wv) : RT (Q.setCell ⟨T, o, none⟩ v) T K M cap B bc s' := by
  obtain ⟨W, H, c, x, y, f, g, b, q, la, mks, wv⟩ := s
  obtain ⟨W', H', c', x', y', f', g', b', q', la', mks', wv'⟩ := s'
  obtain ⟨rfl, rfl, rfl, rfl⟩ : W' = W ∧ H' = H ∧ c' = c ∧ wv' = wv := hw
  exact ⟨by rw [← e]; exact heap_setCell_same Q T o _ _ v h.tb,
   ⟨(Below.heap_setCell Q ⟨T, o, none⟩ v K (fun e => h.tk e.symm)).trans h.cs.kb, h.cs.cv.other (fun e => h.tm e.symm) o v, h.cs.ne, h.cs.hc⟩, h.bv.keep (Below.heap_setCell Q ⟨T, o, none⟩ v B (fun e => h.tB e.symm)), h.tk, h.tm, h.tB, h.kB, h.mB, h.hb, h.hW, h.hH, h.pa⟩
/-- Its cells are others now. -/
theorem RT.cells {c' : Nat → Nat → Ce} (h : RT Q T K M cap B bc s) (v : Cv 57 Q' M s.W s.H c') (g : Ch M Q Q') (pa : PAll s.W s.H c') : RT Q' T K M cap B bc { s with c := c' } :=
  ⟨(g.block T h.lt h.tm).trans h.tb, ⟨(g.block K h.cs.klt h.cs.ne).trans h.cs.kb, v, h.cs.ne, h.cs.hc⟩, h.bv.keep (g.block B h.bv.lt (fun e => h.mB e.symm)), h.tk, h.tm, h.tB, h.kB, h.mB, h.hb, h.hW, h.hH, pa⟩
/-- One more is written. -/
theorem RT.wrote (h : RT Q T K M cap B bc s) {i : Nat} (hi : i < s.W * s.H) : RT (Q.setCell ⟨B, i, none⟩ (.bool true)) T K M cap B bc { s with wv := fun j => if j = i then true else s.wv j } :=
  ⟨(Below.heap_setCell Q ⟨B, i, none⟩ _ T h.tB).trans h.tb, ⟨(Below.heap_setCell Q ⟨B, i, none⟩ _ K h.kB).trans h.cs.kb, h.cs.cv.other h.mB i _, h.cs.ne, h.cs.hc⟩, h.bv.set hi, h.tk, h.tm, h.tB, h.kB, h.mB, h.hb, h.hW, h.hH, h.pa⟩
/-- What the cells beyond the screen are told to be does not matter; nor what is told of truths beyond. -/
theorem RT.same {c' : Nat → Nat → Ce} (h : RT Q T K M cap B bc s) (hc : ∀ y x, y < s.H → x < s.W → s.c y x = c' y x) (hp : PAll s.W s.H c') : RT Q T K M cap B bc { s with c := c' } :=
  ⟨h.tb, ⟨h.cs.kb, h.cs.cv.same hc, h.cs.ne, h.cs.hc⟩, h.bv, h.tk, h.tm, h.tB, h.kB, h.mB, h.hb, h.hW, h.hH, hp⟩
theorem RT.sameW {wv' : Nat → Bool} (h : RT Q T K M cap B bc s) (hc : ∀ i, i < s.W * s.H → s.wv i = wv' i) : RT Q T K M cap B bc { s with wv := wv' } :=
  ⟨h.tb, h.cs, ⟨h.bv.arr, fun i hi => by show Q.cell? _ = some (.bool (wv' i)); rw [← hc i hi]; exact h.bv.cell i hi⟩, h.tk, h.tm, h.tB, h.kB, h.mB, h.hb, h.hW, h.hH, h.pa⟩
end
theorem written_gr (r : Int) (w : World) : Calls Tryd.prog 50 #[.int .i64 r] w fun e w' => e = .returned (.string ⟨(Lib.encodeRune r).toArray⟩) ∧ Gr w w' :=
  (written_new r w).mono fun e w' q => ⟨q.1, by obtain ⟨o, rfl⟩ := q.2; exact (Gr.refl w).alloc o⟩

end Go.Proofs.YtlfffpoeioecjaaDoor
