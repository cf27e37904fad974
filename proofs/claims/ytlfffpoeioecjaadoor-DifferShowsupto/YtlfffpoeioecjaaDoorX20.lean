/-
  The document's terminal in memory.
-/
import Derived.Test.YtlfffpoeioecjaaDoorX14
import Derived.Test.YtlfffpoeioecjaaDoorX04
import Derived.Test.YtlfffpoeioecjaaDoorX18
import Derived.Test.YtlfffpoeioecjaaDoorX11
namespace Go.Proofs.YtlfffpoeioecjaaDoor
open Go.RowKit Go.Sort
set_option linter.unusedVariables false

/-- What it keeps: its cells, the cursor, the style, what is half come, the last cell and its marks, what has been written. -/
structure Rm where
  W : Nat
  H : Nat
  c : Nat → Nat → Ce
  x : Int
  y : Int
  f : Int
  g : Int
  b : Int
  q : ByteArray
  la : Int
  mks : Int
  wv : Nat → Bool
def rtc (K B bc : Nat) (s : Rm) : Array Value := #[.pointer (some ⟨K, 0, none⟩), .int .i64 s.x, .int .i64 s.y, .int .i64 s.f, .int .i64 s.g, .int .i64 s.b, .string s.q, .int .i64 s.la, .int .i64 s.mks, .slice (some ⟨B, 0, none⟩) (s.W * s.H) bc]
/-- Truths in a block. -/
structure BR (Q : World) (B n : Nat) (wv : Nat → Bool) : Prop where
  arr : ∃ a, Q.heap[B]? = some (.cells a 4 (0, 0))
  cell : ∀ i, i < n → Q.cell? ⟨B, i, none⟩ = some (.bool (wv i))
theorem BR.lt {Q : World} {B n : Nat} {wv : Nat → Bool} (h : BR Q B n wv) : B < Q.heap.size := by obtain ⟨a, ha⟩ := h.arr; exact (Array.getElem?_eq_some_iff.1 ha).1
theorem BR.fz {Q : World} {B n : Nat} {wv : Nat → Bool} (h : BR Q B n wv) (j : Nat) : Q.frozen? ⟨B, j, none⟩ = false := by obtain ⟨a, ha⟩ := h.arr; exact frozen_of_row _ _ _ _ _ ha
theorem BR.keep {Q Q' : World} {B n : Nat} {wv : Nat → Bool} (h : BR Q B n wv) (hb : Q'.heap[B]? = Q.heap[B]?) : BR Q' B n wv := by
  refine ⟨by rw [hb]; exact h.arr, fun i hi => ?_⟩
  rw [← h.cell i hi]
  simp [World.cell?, hb]
theorem BR.set {Q : World} {B n : Nat} {wv : Nat → Bool} (h : BR Q B n wv) {i : Nat} (hi : i < n) : BR (Q.setCell ⟨B, i, none⟩ (.bool true)) B n (fun j => if j = i then true else wv j) := by
  obtain ⟨a, ha⟩ := h.arr
  refine ⟨⟨_, heap_setCell_same Q B i _ _ _ ha⟩, fun j hj => ?_⟩
  by_cases e : j = i
  · subst e
    rw [if_pos rfl]
    exact World.cell?_setCell_same' _ _ _ (by rw [h.cell j hj]; rfl)
  · rw [if_neg e, World.cell?_setCell_other _ _ _ _ (fun q => by injection q with _ q _; exact e q.symm)]
    exact h.cell j hj
/-- All blocks but T, M and B stay. -/
structure C3 (T M B : Nat) (W W' : World) : Prop where
  os : W'.os = W.os
  tape : W'.tape = W.tape
  output : W'.output = W.output
  size : W.heap.size ≤ W'.heap.size
  block : ∀ b, b < W.heap.size → b ≠ T → b ≠ M → b ≠ B → W'.heap[b]? = W.heap[b]?
section
variable {T K M cap B bc : Nat} {s : Rm} {Q Q' Q2 : World}
theorem C3.refl (T M B : Nat) (W : World) : C3 T M B W W := ⟨rfl, rfl, rfl, Nat.le_refl _, fun _ _ _ _ _ => rfl⟩
theorem C3.trans (h : C3 T M B Q Q') (k : C3 T M B Q' Q2) : C3 T M B Q Q2 := ⟨k.os.trans h.os, k.tape.trans h.tape, k.output.trans h.output, Nat.le_trans h.size k.size, fun b h1 h2 h3 h4 => (k.block b (Nat.lt_of_lt_of_le h1 h.size) h2 h3 h4).trans (h.block b h1 h2 h3 h4)⟩
/-- The cells may lie elsewhere since. -/
theorem C3.transM {M' : Nat} (h : C3 T M B Q Q') (k : C3 T M' B Q' Q2) (hM : M' = M ∨ Q.heap.size ≤ M') : C3 T M B Q Q2 := ⟨k.os.trans h.os, k.tape.trans h.tape, k.output.trans h.output, Nat.le_trans h.size k.size, fun b h1 h2 h3 h4 => (k.block b (Nat.lt_of_lt_of_le h1 h.size) h2 (by rcases hM with rfl | hM <;> omega) h4).trans (h.block b h1 h2 h3 h4)⟩
theorem C3.below (g : Below Q.heap.size Q Q') : C3 T M B Q Q' := ⟨g.os, g.tape, g.output, g.size, fun b h1 _ _ _ => g.block b h1⟩
theorem C3.gr (g : Gr Q Q') : C3 T M B Q Q' := C3.below g.below
theorem C3.ch (g : Ch M Q Q') : C3 T M B Q Q' := ⟨g.os, g.tape, g.output, g.size, fun b h1 _ h3 _ => g.block b h1 h3⟩
theorem C3.set (h : C3 T M B Q Q') (o : Nat) (v : Value) : C3 T M B Q (Q'.setCell ⟨T, o, none⟩ v) :=
  ⟨h.os, h.tape, h.output, by simpa [World.setCell] using h.size, fun b h1 h2 h3 h4 => (Below.heap_setCell Q' ⟨T, o, none⟩ v b h2).trans (h.block b h1 h2 h3 h4)⟩
theorem C3.setB (h : C3 T M B Q Q') (o : Nat) (v : Value) : C3 T M B Q (Q'.setCell ⟨B, o, none⟩ v) :=
  ⟨h.os, h.tape, h.output, by simpa [World.setCell] using h.size, fun b h1 h2 h3 h4 => (Below.heap_setCell Q' ⟨B, o, none⟩ v b h4).trans (h.block b h1 h2 h3 h4)⟩
theorem C3.setM (h : C3 T M B Q Q') (o : Nat) (v : Value) : C3 T M B Q (Q'.setCell ⟨M, o, none⟩ v) :=
  ⟨h.os, h.tape, h.output, by simpa [World.setCell] using h.size, fun b h1 h2 h3 h4 => (Below.heap_setCell Q' ⟨M, o, none⟩ v b h3).trans (h.block b h1 h2 h3 h4)⟩
/-- The terminal. -/
structure RT (Q : World) (T K M cap B bc : Nat) (s : Rm) : Prop where
  tb : Q.heap[T]? = some (.cells (rtc K B bc s) 53 (0, 0))
  cs : CS 48 57 Q K M cap s.W s.H s.c
  bv : BR Q B (s.W * s.H) s.wv
  tk : T ≠ K
  tm : T ≠ M
  tB : T ≠ B
  kB : K ≠ B
  mB : M ≠ B
  hb : s.W * s.H ≤ bc
  hW : 1 ≤ s.W ∧ s.W ≤ 400
  hH : 1 ≤ s.H ∧ s.H ≤ 400
  pa : PAll s.W s.H s.c
theorem RT.lt (h : RT Q T K M cap B bc s) : T < Q.heap.size := (Array.getElem?_eq_some_iff.1 h.tb).1
theorem RT.fz (h : RT Q T K M cap B bc s) (j : Nat) : Q.frozen? ⟨T, j, none⟩ = false := frozen_of_row _ _ _ _ _ h.tb
theorem RT.at (h : RT Q T K M cap B bc s) {j : Nat} {v : Value} (hv : (rtc K B bc s)[j]? = some v) : Q.cell? ⟨T, j, none⟩ = some v := by rw [cell_of_row Q T j _ _ _ h.tb]; exact hv
theorem RT.below (h : RT Q T K M cap B bc s) (g : Below Q.heap.size Q Q') : RT Q' T K M cap B bc s :=
  ⟨(g.block T h.lt).trans h.tb, ⟨(g.block K h.cs.klt).trans h.cs.kb, h.cs.cv.keep (g.block M h.cs.cv.lt), h.cs.ne, h.cs.hc⟩, h.bv.keep (g.block B h.bv.lt), h.tk, h.tm, h.tB, h.kB, h.mB, h.hb, h.hW, h.hH, h.pa⟩
theorem RT.gr (h : RT Q T K M cap B bc s) (g : Gr Q Q') : RT Q' T K M cap B bc s := h.below g.below
/-- A cell of its block is another one now. -/
theorem RT.set (h : RT Q T K M cap B bc s) (o : Nat) (v : Value) (s' : Rm) (e : (rtc K B bc s).setIfInBounds o v = rtc K B bc s') (hw : s'.W = s.W ∧ s'.H = s.H ∧ s'.c = s.c ∧ s'.wv = s.wv) : RT (Q.setCell ⟨T, o, none⟩ v) T K M cap B bc s' := by
  obtain ⟨W, H, c, x, y, f, g, b, q, la, mks, wv⟩ := s
  obtain ⟨W', H', c', x', y', f', g', b', q', la', mks', wv'⟩ := s'
  obtain ⟨rfl, rfl, rfl, rfl⟩ : W' = W ∧ H' = H ∧ c' = c ∧ wv' = wv := hw
  exact ⟨by rw [← e]; exact heap_setCell_same Q T o _ _ v h.tb,
   ⟨(Below.heap_setCell Q ⟨T, o, none⟩ v K (fun e => h.tk e.symm)).trans h.cs.kb, h.cs.cv.other (fun e => h.tm e.symm) o v, h.cs.ne, h.cs.hc⟩, h.bv.keep (Below.heap_setCell Q ⟨T, o, none⟩ v B (fun e => h.tB e.symm)), h.tk, h.tm, h.tB, h.kB, h.mB, h.hb, h.hW, h.hH, h.pa⟩
/-- Its cells are others now. -/
theorem RT.cells {c' : Nat → Nat → Ce} (h : RT Q T K M cap B bc s) (v : Cv 57 Q' M s.W s.H c') (g : Ch M Q Q') (pa : PAll s.W s.H c') : RT Q' T K M cap B bc { s with c := c' } :=
  ⟨(g.block T h.lt h.tm).trans h.tb, ⟨(g.block K h.cs.klt h.cs.ne).trans h.cs.kb, v, h.cs.ne, h.cs.hc⟩, h.bv.keep (g.block B h.bv.lt (fun e => h.mB e.symm)), h.tk, h.tm, h.tB, h.kB, h.mB, h.hb, h.hW, h.hH, pa⟩
/-- One more is written. -/
theorem RT.wrote (h : RT Q T K M cap B bc s) {i : Nat} (hi : i < s.W * s.H) : RT (Q.setCell ⟨B, i, none⟩ (.bool true)) T K M cap B bc { s with wv := fun j => if j = i then true else s.wv j } :=
  ⟨(Below.heap_setCell Q ⟨B, i, none⟩ _ T h.tB).trans h.tb, ⟨(Below.heap_setCell Q ⟨B, i, none⟩ _ K h.kB).trans h.cs.kb, h.cs.cv.other h.mB i _, h.cs.ne, h.cs.hc⟩, h.bv.set hi, h.tk, h.tm, h.tB, h.kB, h.mB, h.hb, h.hW, h.hH, h.pa⟩
/-- What the cells beyond the screen are told to be does not matter; nor what is told of truths beyond. -/
theorem RT.same {c' : Nat → Nat → Ce} (h : RT Q T K M cap B bc s) (hc : ∀ y x, y < s.H → x < s.W → s.c y x = c' y x) (hp : PAll s.W s.H c') : RT Q T K M cap B bc { s with c := c' } :=
  ⟨h.tb, ⟨h.cs.kb, h.cs.cv.same hc, h.cs.ne, h.cs.hc⟩, h.bv, h.tk, h.tm, h.tB, h.kB, h.mB, h.hb, h.hW, h.hH, hp⟩
theorem RT.sameW {wv' : Nat → Bool} (h : RT Q T K M cap B bc s) (hc : ∀ i, i < s.W * s.H → s.wv i = wv' i) : RT Q T K M cap B bc { s with wv := wv' } :=
  ⟨h.tb, h.cs, ⟨h.bv.arr, fun i hi => by show Q.cell? _ = some (.bool (wv' i)); rw [← hc i hi]; exact h.bv.cell i hi⟩, h.tk, h.tm, h.tB, h.kB, h.mB, h.hb, h.hW, h.hH, h.pa⟩
end
theorem written_gr (r : Int) (w : World) : Calls Tryd.prog 50 #[.int .i64 r] w fun e w' => e = .returned (.string ⟨(Lib.encodeRune r).toArray⟩) ∧ Gr w w' :=
  (written_new r w).mono fun e w' q => ⟨q.1, by obtain ⟨o, rfl⟩ := q.2; exact (Gr.refl w).alloc o⟩

end Go.Proofs.YtlfffpoeioecjaaDoor

namespace Go.Proofs.YtlfffpoeioecjaaDoor
open Go.RowKit Go.Sort
set_option linter.unusedVariables false

/-- The text of the last cell, with a mark more. -/
def addT (c : Nat → Nat → Ce) (W : Nat) (la : Int) (t : ByteArray) : Nat → Nat → Ce := upd c (la.toNat / W) (la.toNat % W) { c (la.toNat / W) (la.toNat % W) with t := (c (la.toNat / W) (la.toNat % W)).t ++ t }
def encB (r : Int) : ByteArray := ⟨(Lib.encodeRune r).toArray⟩
theorem encB_size (r : Int) : (encB r).size ≤ 4 := encodeRune_le r
/-- What holds at all times. -/
structure Ri (s : Rm) : Prop where
  x0 : 0 ≤ s.x
  x1 : s.x ≤ s.W
  y0 : 0 ≤ s.y
  y1 : s.y < s.H
  la : s.la = -1 ∨ (0 ≤ s.la ∧ s.la < ((s.W * s.H : Nat) : Int) ∧ 0 ≤ s.mks ∧ s.mks ≤ 4 ∧ ((s.c (s.la.toNat / s.W) (s.la.toNat % s.W)).t.size : Int) ≤ 4 + 4 * s.mks ∧ (s.c (s.la.toNat / s.W) (s.la.toNat % s.W)).p ≠ 2)

/-- What lies in a block lies there still. -/
theorem keepc {w w' : World} {p : Addr} {v : Value} (g : Gr w w') (h : w.cell? p = some v) : w'.cell? p = some v := (g.below.cell (World.block_lt_of_cell? w p h)).trans h
theorem keepo {w : World} {p q : Addr} {v u : Value} (h : w.cell? p = some v) (hb : p.block ≠ q.block) : (w.setCell q u).cell? p = some v := by rw [World.cell?_setCell_other _ _ _ _ (fun e => hb (by rw [e]))]; exact h
theorem keepf {w w' : World} {p : Addr} {v : Value} (g : Gr w w') (h : w.cell? p = some v) (f : w.frozen? p = false) : w'.frozen? p = false := (g.below.frozen (World.block_lt_of_cell? w p h)).trans f

theorem PAll.text {W H : Nat} {c : Nat → Nat → Ce} (h : PAll W H c) (yy xx : Nat) (t : ByteArray) (hp : (c yy xx).p ≠ 2) : PAll W H (upd c yy xx { c yy xx with t := t }) := by
  have e : ∀ y x, (upd c yy xx { c yy xx with t := t } y x).p = (c y x).p ∧ (upd c yy xx { c yy xx with t := t } y x).f = (c y x).f ∧ (upd c yy xx { c yy xx with t := t } y x).g = (c y x).g ∧ (upd c yy xx { c yy xx with t := t } y x).b = (c y x).b ∧ ((c y x).p = 2 → (upd c yy xx { c yy xx with t := t } y x).t = (c y x).t) := by
    intro y x
    unfold upd
    by_cases q : y = yy ∧ x = xx
    · obtain ⟨rfl, rfl⟩ := q
      rw [if_pos ⟨rfl, rfl⟩]
      exact ⟨rfl, rfl, rfl, rfl, fun h => absurd h hp⟩
    · rw [if_neg q]
      exact ⟨rfl, rfl, rfl, rfl, fun _ => rfl⟩
  intro y hy
  have r := h y hy
  refine ⟨fun i hi => by rw [(e y i).1]; exact r.part i hi, fun i hi h1 => ?_, fun i hi h2 => ?_⟩
  · rw [(e y i).1] at h1
    rw [(e y (i + 1)).1, (e y (i + 1)).2.1, (e y (i + 1)).2.2.1, (e y (i + 1)).2.2.2.1, (e y i).2.1, (e y i).2.2.1, (e y i).2.2.2.1]
    exact r.head i hi h1
  · rw [(e y i).1] at h2
    obtain ⟨k, q1, q2, q3⟩ := r.tail i hi h2
    exact ⟨k, q1, by rw [(e y k).1]; exact q2, by rw [(e y i).2.2.2.2 h2]; exact q3⟩
/-- A mark more, in memory. -/
theorem RT.mark {Q : World} {T K M cap B bc : Nat} {s : Rm} (h : RT Q T K M cap B bc s) {l : Nat} (hl : l < s.W * s.H) (hla : s.la = (l : Int)) (hp : (s.c (l / s.W) (l % s.W)).p ≠ 2) (ex : ByteArray) :
    RT ((Q.setCell ⟨M, l * 5, none⟩ (.string ((s.c (l / s.W) (l % s.W)).t ++ ex))).setCell ⟨T, 8, none⟩ (.int .i64 (s.mks + 1))) T K M cap B bc { s with c := addT s.c s.W s.la ex, mks := s.mks + 1 } := by
  have hW0 : 1 ≤ s.W := h.hW.1
  have hx : l % s.W < s.W := Nat.mod_lt _ (by omega)
  have hy : l / s.W < s.H := Nat.div_lt_of_lt_mul (by rw [Nat.mul_comm]; rw [Nat.mul_comm] at hl; rw [Nat.mul_comm] at hl; rw [Nat.mul_comm]; exact hl)
  have eo : l / s.W * s.W * 5 + l % s.W * 5 + 0 = l * 5 := by have := Nat.div_add_mod l s.W; rw [Nat.mul_comm] at this; omega
  have v := h.cs.cv.setText hy hx ((s.c (l / s.W) (l % s.W)).t ++ ex)
  rw [eo] at v
  have h2 := h.cells v ((Ch.refl M Q).set (.inl rfl) _ _) (h.pa.text _ _ _ hp)
  have h3 := h2.set 8 (.int .i64 (s.mks + 1)) { s with c := addT s.c s.W s.la ex, mks := s.mks + 1 } rfl ⟨rfl, rfl, by unfold addT; rw [hla, Int.toNat_natCast], rfl⟩
  exact h3

def markR (s : Rm) (r : Int) : Rm := if 0 ≤ s.la ∧ s.mks < 4 then { s with c := addT s.c s.W s.la (encB r), mks := s.mks + 1 } else s
/-- What print leaves. -/
def PrOut (w w' : World) (e : Ending) (T K M cap B bc : Nat) (s : Rm) : Prop := e = .returned (.tuple #[]) ∧ RT w' T K M cap B bc s ∧ C3 T M B w w'
section
variable {T K M cap B bc : Nat} {s : Rm}
set_option maxRecDepth 100000 in
set_option maxHeartbeats 8000000 in
theorem rmark_any (w : World) (h : RT w T K M cap B bc s) (hi : Ri s) (r : Int) (hr : wid r = 0) : Calls Tryd.prog 53 #[.pointer (some ⟨T, 0, none⟩), .int .i64 r] w fun e w' => PrOut w w' e T K M cap B bc (markR s r) := by
  have hmix : Tryd.prog.follows .mixedOrders = true := by kernel_rfl
  have WI : Hid (Calls Tryd.prog 49 #[.int .i64 r] w fun e w' => e = .returned (.int .i64 0) ∧ Below w.heap.size w w') := by have := rWidth_any r w; rw [hr] at this; exact this
  have WG : Hid (∀ w, Calls Tryd.prog 50 #[.int .i64 r] w fun e w' => e = .returned (.string (encB r)) ∧ Gr w w') := written_gr r
  have HR : Hid (RT w T K M cap B bc s) := h
  have HI : Hid (Ri s) := hi
  clear h hi
  go_enter Tryd.func53, Tryd.ntmps53
  go_wp2_with fail
  refine WI.out.mono ?_
  rintro e w1 ⟨rfl, b1⟩
  have H1 : Hid (RT w1 T K M cap B bc s) := HR.out.below b1
  have B1 : Hid (C3 T M B w w1) := C3.below b1
  clear b1 HR WI
  obtain ⟨la, hla⟩ : ∃ z, s.la = z := ⟨_, rfl⟩
  obtain ⟨mk, hmk⟩ : ∃ z, s.mks = z := ⟨_, rfl⟩
  have d7 : w1.cell? ⟨T, 7, none⟩ = some (.int .i64 la) := by rw [← hla]; exact H1.out.at rfl
  have d8 : w1.cell? ⟨T, 8, none⟩ = some (.int .i64 mk) := by rw [← hmk]; exact H1.out.at rfl
  have HLA : Hid (s.la = la ∧ s.mks = mk) := ⟨hla, hmk⟩
  have hil := HI.out.la
  rw [hla, hmk] at hil
  clear hla hmk
  by_cases h0 : 0 ≤ la
  · by_cases h4 : mk < 4
    · rcases hil with h | ⟨_, hl2, hm0, hm4, hts, hp2⟩
      · omega
      obtain ⟨l, rfl⟩ : ∃ n : Nat, la = (n : Int) := ⟨la.toNat, by omega⟩
      have hWH : 1 ≤ s.W := H1.out.hW.1
      have hlW : l < s.W * s.H := by exact_mod_cast hl2
      obtain ⟨yy, xx, hy, hx, hix⟩ := lin_split hlW
      have e1 : l / s.W = yy := by rw [hix, Nat.mul_comm, Nat.mul_add_div (by omega), Nat.div_eq_of_lt hx, Nat.add_zero]
      have e2 : l % s.W = xx := by rw [hix, Nat.mul_comm, Nat.mul_add_mod, Nat.mod_eq_of_lt hx]
      obtain ⟨n, hn⟩ : ∃ n, s.W * s.H = n := ⟨_, rfl⟩
      rw [Int.toNat_natCast, e1, e2] at hts hp2
      have HE : Hid ((l / s.W = yy ∧ l % s.W = xx) ∧ yy * s.W * 5 + xx * 5 = l * 5 ∧ (s.c yy xx).p ≠ 2) := ⟨⟨e1, e2⟩, by rw [hix, Nat.add_mul], hp2⟩
      have c0 : w1.cell? ⟨T, 0, none⟩ = some (.pointer (some ⟨K, 0, none⟩)) := H1.out.at rfl
      have k2 : w1.cell? ⟨K, 2, none⟩ = some (.slice (some ⟨M, 0, none⟩) n cap) := by rw [← hn]; exact H1.out.cs.k2
      have eo : yy * s.W * 5 + xx * 5 = l * 5 := by rw [hix, Nat.add_mul]
      have t0 : w1.cell? ⟨M, l * 5, none⟩ = some (.string (s.c yy xx).t) := by rw [← eo]; exact H1.out.cs.cv.c0 hy hx
      have fM := H1.out.cs.cv.fz
      have fT := H1.out.fz
      obtain ⟨tx, htx⟩ : ∃ z, (s.c yy xx).t = z := ⟨_, rfl⟩
      obtain ⟨ex, hex⟩ : ∃ z, encB r = z := ⟨_, rfl⟩
      have hes : ex.size ≤ 4 := by rw [← hex]; exact encB_size r
      have hnb : n ≤ 160000 := by rw [← hn]; exact Nat.le_trans (Nat.mul_le_mul H1.out.hW.2 H1.out.hH.2) (by decide)
      have hln : (l : Int) < (n : Int) := by rw [← hn]; exact_mod_cast hlW
      rw [htx] at t0 hts
      rw [hex] at WG
      clear eo e1 e2 hn hix hl2
      go_wp2_with fail
      have f0 : w1.frozen? ⟨M, l * 5, none⟩ = false := fM _
      have tk : T ≠ M := H1.out.tm
      have hcc : ¬ 9223372036854775807 < tx.size + ex.size := by omega
      have kk : K ≠ M := H1.out.cs.ne
      refine wp_region_held_drew (S := fun W_ => W_.cell? ⟨T, 0, none⟩ = some (.pointer (some ⟨K, 0, none⟩)) ∧ W_.cell? ⟨K, 2, none⟩ = some (.slice (some ⟨M, 0, none⟩) n cap) ∧ W_.cell? ⟨T, 7, none⟩ = some (.int .i64 (l : Int))) hmix ⟨c0, k2, d7⟩ (fun hS0 => ?_)
      refine wpAnyH_take (i := 0) (v := ?v0) rfl (by kernel_rfl) (by kernel_rfl) (by kernel_rfl) (fun _ _ _ h => h) (Or.inl ⟨by rfl, ?hy⟩) (by assumption) ?_
      case hy => intro w hSw; (try dsimp only at hSw); go_simp <;> with_reducible rfl
      try simp only [Act.put]
      refine wpAnyH_take (i := 1) (v := ?v1) rfl (by kernel_rfl) (by kernel_rfl) (by kernel_rfl) (fun _ _ _ h => h) (Or.inl ⟨by rfl, ?hy⟩) (by assumption) ?_
      case hy => intro w hSw; (try dsimp only at hSw); go_simp <;> with_reducible rfl
      try simp only [Act.put]
      refine wpAnyH_take (i := 2) (v := ?v2) rfl (by kernel_rfl) (by kernel_rfl) (by kernel_rfl) (fun _ _ _ h => h) (Or.inl ⟨by rfl, ?hy⟩) (by assumption) ?_
      case hy => intro w hSw; (try dsimp only at hSw); go_simp <;> with_reducible rfl
      try simp only [Act.put]
      refine wpAnyH_take (i := 3) (v := ?v3) rfl (by kernel_rfl) (by kernel_rfl) (by kernel_rfl) (fun _ _ _ h => h) (Or.inl ⟨by rfl, ?hy⟩) (by assumption) ?_
      case hy => intro w hSw; (try dsimp only at hSw); go_simp <;> with_reducible rfl
      try simp only [Act.put]
      refine wpAnyH_take (i := 4) (v := ?v4) rfl (by kernel_rfl) (by kernel_rfl) (by kernel_rfl) (fun _ _ _ h => h) (Or.inl ⟨by rfl, ?hy⟩) (by assumption) ?_
      case hy => intro w hSw; (try dsimp only at hSw); go_simp <;> with_reducible rfl
      try simp only [Act.put]
      refine wpAnyH_take (i := 5) (v := ?v5) rfl (by kernel_rfl) (by kernel_rfl) (by kernel_rfl) (fun _ _ _ h => h) (Or.inl ⟨by rfl, ?hy⟩) (by assumption) ?_
      case hy => intro w hSw; (try dsimp only at hSw); go_simp <;> with_reducible rfl
      try simp only [Act.put]
      refine wpAnyH_take (i := 6) (v := ?v6) rfl (by kernel_rfl) (by kernel_rfl) (by kernel_rfl) (fun _ _ _ h => h) (Or.inl ⟨by rfl, ?hy⟩) (by assumption) ?_
      case hy => intro w hSw; (try dsimp only at hSw); go_simp <;> with_reducible rfl
      try simp only [Act.put]
      refine wpAnyH_take (i := 7) (v := ?v7) rfl (by kernel_rfl) (by kernel_rfl) (by kernel_rfl) (fun _ _ _ h => h) (Or.inl ⟨by rfl, ?hy⟩) (by assumption) ?_
      case hy => intro w hSw; (try dsimp only at hSw); go_simp <;> with_reducible rfl
      try simp only [Act.put]
      refine wpAnyH_take (i := 8) (v := ?v8) rfl (by kernel_rfl) (by kernel_rfl) (by kernel_rfl) (fun _ _ _ h => h) (Or.inl ⟨by rfl, ?hy⟩) (by assumption) ?_
      case hy => intro w hSw; (try dsimp only at hSw); go_simp <;> with_reducible rfl
      try simp only [Act.put]
      refine wpAnyH_take (i := 9) (v := ?v9) rfl (by kernel_rfl) (by kernel_rfl) (by kernel_rfl) (fun _ _ _ h => h) (Or.inl ⟨by rfl, ?hy⟩) (by assumption) ?_
      case hy => intro w hSw; (try dsimp only at hSw); go_simp <;> with_reducible rfl
      try simp only [Act.put]
      refine wpAnyH_take (i := 10) (v := ?v10) rfl (by kernel_rfl) (by kernel_rfl) (by kernel_rfl) (fun _ _ _ h => h) (Or.inl ⟨by rfl, ?hy⟩) (by assumption) ?_
      case hy => intro w hSw; (try dsimp only at hSw); go_simp <;> with_reducible rfl
      try simp only [Act.put]
      refine wpAnyH_take (i := 11) (v := ?v11) rfl (by kernel_rfl) (by kernel_rfl) (by kernel_rfl) (fun _ _ _ h => h) (Or.inl ⟨by rfl, ?hy⟩) (by assumption) ?_
      case hy => intro w hSw; (try dsimp only at hSw); go_simp <;> with_reducible rfl
      try simp only [Act.put]
      refine wpAnyH_take (i := 12) (v := ?v12) rfl (by kernel_rfl) (by kernel_rfl) (by kernel_rfl) (fun _ _ _ h => h) (Or.inl ⟨by rfl, ?hy⟩) (by assumption) ?_
      case hy => intro w hSw; (try dsimp only at hSw); go_simp <;> with_reducible rfl
      try simp only [Act.put]
      refine wpAnyH_take (i := 13) (v := ?v13) rfl (by kernel_rfl) (by kernel_rfl) (by kernel_rfl) (fun _ _ _ h => h) (Or.inl ⟨by rfl, ?hy⟩) (by assumption) ?_
      case hy => intro w hSw; (try dsimp only at hSw); go_simp <;> with_reducible rfl
      try simp only [Act.put]
      refine wpAnyH_take (i := 14) (v := ?v14) rfl (by kernel_rfl) (by kernel_rfl) (by kernel_rfl) (fun _ _ _ h => h) (Or.inl ⟨by rfl, ?hy⟩) (by assumption) ?_
      case hy => intro w hSw; (try dsimp only at hSw); go_simp <;> with_reducible rfl
      try simp only [Act.put]
      refine wpAnyH_take (i := 15) (v := ?v15) rfl (by kernel_rfl) (by kernel_rfl) (by kernel_rfl) (fun _ _ _ h => h) (Or.inl ⟨by rfl, ?hy⟩) (by assumption) ?_
      case hy => intro w hSw; (try dsimp only at hSw); go_simp <;> with_reducible rfl
      try simp only [Act.put]
      refine wpAnyH_take (i := 16) (v := ?v16) rfl (by kernel_rfl) (by kernel_rfl) (by kernel_rfl) (fun _ _ _ h => h) (Or.inl ⟨by rfl, ?hy⟩) (by assumption) ?_
      case hy => intro w hSw; (try dsimp only at hSw); go_simp <;> with_reducible rfl
      try simp only [Act.put]
      refine wpAnyH_take (i := 17) (v := ?v17) rfl (by kernel_rfl) (by kernel_rfl) (by kernel_rfl) (fun _ _ _ h => h) (Or.inl ⟨by rfl, ?hy⟩) (by assumption) ?_
      case hy => intro w hSw; (try dsimp only at hSw); go_simp <;> with_reducible rfl
      try simp only [Act.put]
      refine wpAnyH_take (i := 18) (v := ?v18) rfl (by kernel_rfl) (by kernel_rfl) (by kernel_rfl) (fun _ _ _ h => h) (Or.inl ⟨by rfl, ?hy⟩) (by assumption) ?_
      case hy => intro w hSw; (try dsimp only at hSw); go_simp <;> with_reducible rfl
      try simp only [Act.put]
      refine wpAnyH_take (i := 19) (v := ?v19) rfl (by kernel_rfl) (by kernel_rfl) (by kernel_rfl) (fun _ _ _ h => h) (Or.inl ⟨by rfl, ?hy⟩) (by assumption) ?_
      case hy => intro w hSw; (try dsimp only at hSw); go_simp <;> with_reducible rfl
      try simp only [Act.put]
      refine wpAnyH_take (i := 20) (v := ?v20) rfl (by kernel_rfl) (by kernel_rfl) (by kernel_rfl) (fun _ _ _ h => h) (Or.inl ⟨by rfl, ?hy⟩) (by assumption) ?_
      case hy => intro w hSw; (try dsimp only at hSw); go_simp <;> with_reducible rfl
      try simp only [Act.put]
      refine wpAnyH_take (i := 21) (v := ?v21) rfl (by kernel_rfl) (by kernel_rfl) (by kernel_rfl) (fun _ _ _ h => h) (Or.inl ⟨by rfl, ?hy⟩) (by assumption) ?_
      case hy => intro w hSw; (try dsimp only at hSw); go_simp <;> with_reducible rfl
      try simp only [Act.put]
      refine wpAnyH_take (i := 22) (v := ?v22) rfl (by kernel_rfl) (by kernel_rfl) (by kernel_rfl) (fun _ _ _ h => h) (Or.inl ⟨by rfl, ?hy⟩) (by assumption) ?_
      case hy => intro w hSw; (try dsimp only at hSw); go_simp <;> with_reducible rfl
      try simp only [Act.put]
      refine wpAnyH_take (i := 23) (v := ?v23) rfl (by kernel_rfl) (by kernel_rfl) (by kernel_rfl) (fun _ _ _ h => h) (Or.inl ⟨by rfl, ?hy⟩) (by assumption) ?_
      case hy => intro w hSw; (try dsimp only at hSw); go_simp <;> with_reducible rfl
      try simp only [Act.put]
      refine wpAnyH_take (i := 25) (v := ?v25) rfl (by kernel_rfl) (by kernel_rfl) (by kernel_rfl) (fun _ _ _ h => h) (Or.inl ⟨by rfl, ?hy⟩) (by assumption) ?_
      case hy => intro w hSw; (try dsimp only at hSw); go_simp <;> with_reducible rfl
      try simp only [Act.put]
      refine wpAnyH_ready (rs := [24, 26]) (by kernel_rfl) (by simp) ?_
      refine AllReadyH.cons rfl (fun K' hK => ?_) (AllReadyH.cons rfl (fun K' hK => ?_) AllReadyH.nil)
      · go_simp
        refine hK.out _ _ ⟨c0, k2, d7⟩ (fun hS1 => ?_)
        clear hK K'
        refine wpAnyH_ready (rs := [26]) (by kernel_rfl) (by simp) ?_
        refine AllReadyH.cons rfl (fun K' hK => ?_) AllReadyH.nil
        go_simp
        go_wp2_with (first | (go_at_call 50; refine Calls.mono (WG.out _) ?_; rintro e1 w2 ⟨rfl, g2⟩))
        have c0' := keepc g2 c0
        have k2' := keepc g2 k2
        have d7' := keepc g2 d7
        have t0' := keepc g2 t0
        have f0' := keepf g2 t0 f0
        refine hK.out _ _ ⟨c0', k2', d7'⟩ (fun hS2 => ?_)
        clear hK K'
        refine wpAnyH_take (i := 27) (v := ?v27) rfl (by kernel_rfl) (by kernel_rfl) (by kernel_rfl) (fun _ _ _ h => h) (Or.inl ⟨by rfl, ?hy⟩) (by assumption) ?_
        case hy => intro w hSw; (try dsimp only at hSw); go_simp <;> with_reducible rfl
        try simp only [Act.put]
        refine wpAnyH_take (i := 28) (v := ?v28) rfl (by kernel_rfl) (by kernel_rfl) (by kernel_rfl) (fun _ _ _ h => h) (Or.inl ⟨by rfl, ?hy⟩) (by assumption) ?_
        case hy => intro w hSw; (try dsimp only at hSw); go_simp <;> with_reducible rfl
        try simp only [Act.put]
        refine wpAnyH_take (i := 29) (v := ?v29) rfl (by kernel_rfl) (by kernel_rfl) (by kernel_rfl) (fun _ _ _ h => h) (Or.inl ⟨by rfl, ?hy⟩) (by assumption) ?_
        case hy => intro w hSw; (try dsimp only at hSw); go_simp <;> with_reducible rfl
        try simp only [Act.put]
        refine wpAnyH_ready (rs := [30]) (by kernel_rfl) (by simp) ?_
        refine AllReadyH.cons rfl (fun K' hK => ?_) AllReadyH.nil
        go_simp
        refine hK.out _ _ ⟨keepo c0' tk, keepo k2' kk, keepo d7' tk⟩ (fun _ => ?_)
        clear hK K'
        refine wpAnyH_done (by kernel_rfl) ?_ _
        skip
        have d8' := keepo (q := ⟨M, l * 5, none⟩) (u := .string (tx ++ ex)) (keepc g2 d8) tk
        have f8 : (w2.setCell ⟨M, l * 5, none⟩ (.string (tx ++ ex))).frozen? ⟨T, 8, none⟩ = false := by rw [World.frozen?_setCell]; exact keepf g2 d8 (fT 8)
        have HF : Hid (RT ((w2.setCell ⟨M, l * 5, none⟩ (.string (tx ++ ex))).setCell ⟨T, 8, none⟩ (.int .i64 (mk + 1))) T K M cap B bc { s with c := addT s.c s.W s.la (encB r), mks := s.mks + 1 } ∧ C3 T M B w ((w2.setCell ⟨M, l * 5, none⟩ (.string (tx ++ ex))).setCell ⟨T, 8, none⟩ (.int .i64 (mk + 1)))) := by
          refine ⟨?_, ((B1.out.trans (C3.gr ((Gr.refl _).drew.trans g2))).setM _ _).set _ _⟩
          have q := RT.mark (H1.out.gr ((Gr.refl _).drew.trans g2)) hlW HLA.out.1 (by rw [HE.out.1.1, HE.out.1.2]; exact HE.out.2.2) (encB r)
          rw [HE.out.1.1, HE.out.1.2, htx, hex, HLA.out.2] at q
          rw [hex, HLA.out.2]
          exact q
        clear hS0 hS1 hS2 t0' f0' k2' d7' c0' g2 t0 c0 k2 d7
        go_wp2
        refine bodyPost_ret (v := .tuple #[]) (by simp [results, Tryd.results53, go_sem]) rfl ?_
        exact ⟨rfl, by unfold markR; rw [if_pos ⟨by have := HLA.out.1; omega, by have := HLA.out.2; omega⟩]; exact HF.out.1, HF.out.2⟩
      · go_simp
        go_wp2_with (first | (go_at_call 50; refine Calls.mono (WG.out _) ?_; rintro e1 w2 ⟨rfl, g2⟩))
        have c0' := keepc g2 c0
        have k2' := keepc g2 k2
        have d7' := keepc g2 d7
        have t0' := keepc g2 t0
        have f0' := keepf g2 t0 f0
        refine hK.out _ _ ⟨c0', k2', d7'⟩ (fun hS2 => ?_)
        clear hK K'
        refine wpAnyH_ready (rs := [24]) (by kernel_rfl) (by simp) ?_
        refine AllReadyH.cons rfl (fun K' hK => ?_) AllReadyH.nil
        go_simp
        refine hK.out _ _ ⟨c0', k2', d7'⟩ (fun hS1 => ?_)
        clear hK K'
        refine wpAnyH_take (i := 27) (v := ?v27) rfl (by kernel_rfl) (by kernel_rfl) (by kernel_rfl) (fun _ _ _ h => h) (Or.inl ⟨by rfl, ?hy⟩) (by assumption) ?_
        case hy => intro w hSw; (try dsimp only at hSw); go_simp <;> with_reducible rfl
        try simp only [Act.put]
        refine wpAnyH_take (i := 28) (v := ?v28) rfl (by kernel_rfl) (by kernel_rfl) (by kernel_rfl) (fun _ _ _ h => h) (Or.inl ⟨by rfl, ?hy⟩) (by assumption) ?_
        case hy => intro w hSw; (try dsimp only at hSw); go_simp <;> with_reducible rfl
        try simp only [Act.put]
        refine wpAnyH_take (i := 29) (v := ?v29) rfl (by kernel_rfl) (by kernel_rfl) (by kernel_rfl) (fun _ _ _ h => h) (Or.inl ⟨by rfl, ?hy⟩) (by assumption) ?_
        case hy => intro w hSw; (try dsimp only at hSw); go_simp <;> with_reducible rfl
        try simp only [Act.put]
        refine wpAnyH_ready (rs := [30]) (by kernel_rfl) (by simp) ?_
        refine AllReadyH.cons rfl (fun K' hK => ?_) AllReadyH.nil
        go_simp
        refine hK.out _ _ ⟨keepo c0' tk, keepo k2' kk, keepo d7' tk⟩ (fun _ => ?_)
        clear hK K'
        refine wpAnyH_done (by kernel_rfl) ?_ _
        skip
        have d8' := keepo (q := ⟨M, l * 5, none⟩) (u := .string (tx ++ ex)) (keepc g2 d8) tk
        have f8 : (w2.setCell ⟨M, l * 5, none⟩ (.string (tx ++ ex))).frozen? ⟨T, 8, none⟩ = false := by rw [World.frozen?_setCell]; exact keepf g2 d8 (fT 8)
        have HF : Hid (RT ((w2.setCell ⟨M, l * 5, none⟩ (.string (tx ++ ex))).setCell ⟨T, 8, none⟩ (.int .i64 (mk + 1))) T K M cap B bc { s with c := addT s.c s.W s.la (encB r), mks := s.mks + 1 } ∧ C3 T M B w ((w2.setCell ⟨M, l * 5, none⟩ (.string (tx ++ ex))).setCell ⟨T, 8, none⟩ (.int .i64 (mk + 1)))) := by
          refine ⟨?_, ((B1.out.trans (C3.gr ((Gr.refl _).drew.trans g2))).setM _ _).set _ _⟩
          have q := RT.mark (H1.out.gr ((Gr.refl _).drew.trans g2)) hlW HLA.out.1 (by rw [HE.out.1.1, HE.out.1.2]; exact HE.out.2.2) (encB r)
          rw [HE.out.1.1, HE.out.1.2, htx, hex, HLA.out.2] at q
          rw [hex, HLA.out.2]
          exact q
        clear hS0 hS1 hS2 t0' f0' k2' d7' c0' g2 t0 c0 k2 d7
        go_wp2
        refine bodyPost_ret (v := .tuple #[]) (by simp [results, Tryd.results53, go_sem]) rfl ?_
        exact ⟨rfl, by unfold markR; rw [if_pos ⟨by have := HLA.out.1; omega, by have := HLA.out.2; omega⟩]; exact HF.out.1, HF.out.2⟩
    · go_wp2
      refine bodyPost_ret (v := .tuple #[]) (by simp [results, Tryd.results53, go_sem]) rfl ?_
      exact ⟨rfl, by unfold markR; rw [if_neg (fun q => by have := HLA.out.2; omega)]; exact H1.out, B1.out⟩
  · go_wp2
    refine bodyPost_ret (v := .tuple #[]) (by simp [results, Tryd.results53, go_sem]) rfl ?_
    exact ⟨rfl, by unfold markR; rw [if_neg (fun q => by have := HLA.out.1; omega)]; exact H1.out, B1.out⟩
end

end Go.Proofs.YtlfffpoeioecjaaDoor
