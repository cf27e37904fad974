/-
  A canvas in memory: a struct of two numbers and a list, and the list's cells.
-/
import Derived.Test.YtlfffpoeioecjaaDoorG03
import Derived.Laws.AppendOwn
import Derived.Test.YtlfffpoeioecjaaDoorG08
namespace Go.Proofs.YtlfffpoeioecjaaDoor
open Go.RowKit
set_option linter.unusedVariables false

/-- Blocks but M are as they were. -/
structure Ch (M : Nat) (W W' : World) : Prop where
  os : W'.os = W.os
  tape : W'.tape = W.tape
  output : W'.output = W.output
  size : W.heap.size ≤ W'.heap.size
  block : ∀ b, b < W.heap.size → b ≠ M → W'.heap[b]? = W.heap[b]?
section
variable {M : Nat} {W W' W2 : World}
theorem Ch.refl (M : Nat) (W : World) : Ch M W W := ⟨rfl, rfl, rfl, Nat.le_refl _, fun _ _ _ => rfl⟩
theorem Ch.trans (h : Ch M W W') (k : Ch M W' W2) : Ch M W W2 :=
  ⟨k.os.trans h.os, k.tape.trans h.tape, k.output.trans h.output, Nat.le_trans h.size k.size, fun b h1 h2 => (k.block b (Nat.lt_of_lt_of_le h1 h.size) h2).trans (h.block b h1 h2)⟩
theorem Ch.below (h : Below W.heap.size W W') : Ch M W W' := ⟨h.os, h.tape, h.output, h.size, fun b h1 _ => h.block b h1⟩
theorem Ch.gr (h : Gr W W') : Ch M W W' := Ch.below h.below
theorem Ch.thenGr (h : Ch M W W') (k : Gr W' W2) : Ch M W W2 := h.trans (Ch.gr k)
theorem Ch.set (h : Ch M W W') {k : Nat} (hk : k = M ∨ W.heap.size ≤ k) (o : Nat) (v : Value) : Ch M W (W'.setCell ⟨k, o, none⟩ v) :=
  ⟨h.os, h.tape, h.output, by simpa [World.setCell] using h.size, fun b h1 h2 => (Below.heap_setCell W' ⟨k, o, none⟩ v b (by show b ≠ k; omega)).trans (h.block b h1 h2)⟩
theorem Ch.low (h : Ch M W W') {B : Nat} (hM : B ≤ M) (hB : B ≤ W.heap.size) {W0 : World} (k : Below B W0 W) : Below B W0 W' :=
  ⟨h.os.trans k.os, h.tape.trans k.tape, h.output.trans k.output, Nat.le_trans k.size h.size, fun b hb => (h.block b (by omega) (by omega)).trans (k.block b hb)⟩
end

def c5 (e : Ce) : List Value := [.string e.t, .int .i64 e.f, .int .i64 e.g, .int .i64 e.b, .int .i64 e.p]
theorem c5_len (e : Ce) : (c5 e).length = 5 := rfl

/-- Cells in a block, row by row. -/
structure Cv (T : TypeId) (Q : World) (M W H : Nat) (c : Nat → Nat → Ce) : Prop where
  arr : ∃ a, Q.heap[M]? = some (.cells a T (0, 0))
  cell : ∀ y x, y < H → x < W → ∀ (k : Nat) u, (c5 (c y x))[k]? = some u → Q.cell? ⟨M, y * W * 5 + x * 5 + k, none⟩ = some u
def upd (c : Nat → Nat → Ce) (y x : Nat) (e : Ce) : Nat → Nat → Ce := fun y' x' => if y' = y ∧ x' = x then e else c y' x'

theorem idx_inj {W y x y' x' : Nat} (hx : x < W) (hx' : x' < W) (h : y * W + x = y' * W + x') : y = y' ∧ x = x' := by
  have h1 : (y * W + x) / W = y := by rw [Nat.mul_comm, Nat.mul_add_div (by omega), Nat.div_eq_of_lt hx, Nat.add_zero]
  have h2 : (y' * W + x') / W = y' := by rw [Nat.mul_comm, Nat.mul_add_div (by omega), Nat.div_eq_of_lt hx', Nat.add_zero]
  have : y = y' := by rw [← h1, ← h2, h]
  subst this
  exact ⟨rfl, by omega⟩
theorem off_inj {W y x k y' x' k' : Nat} (hx : x < W) (hx' : x' < W) (hk : k < 5) (hk' : k' < 5) (h : y * W * 5 + x * 5 + k = y' * W * 5 + x' * 5 + k') : y = y' ∧ x = x' ∧ k = k' := by
  generalize hp : y * W = p at *
  generalize hq : y' * W = q at *
  have h1 : p + x = q + x' ∧ k = k' := by omega
  have := idx_inj (y := y) (y' := y') hx hx' (by rw [hp, hq]; exact h1.1)
  exact ⟨this.1, this.2, h1.2⟩

section
variable {T : TypeId} {Q Q' : World} {M W H : Nat} {c c' : Nat → Nat → Ce}
theorem Cv.lt (h : Cv T Q M W H c) : M < Q.heap.size := by obtain ⟨a, ha⟩ := h.arr; exact (Array.getElem?_eq_some_iff.1 ha).1
theorem Cv.fz (h : Cv T Q M W H c) (j : Nat) : Q.frozen? ⟨M, j, none⟩ = false := by obtain ⟨a, ha⟩ := h.arr; exact frozen_of_row _ _ _ _ _ ha
theorem Cv.keep (h : Cv T Q M W H c) (hb : Q'.heap[M]? = Q.heap[M]?) : Cv T Q' M W H c := by
  obtain ⟨a, ha⟩ := h.arr
  exact ⟨⟨a, hb.trans ha⟩, fun y x hy hx k u hu => (World.cell?_of_block (a := ⟨M, _, none⟩) hb).trans (h.cell y x hy hx k u hu)⟩
theorem Cv.gr (h : Cv T Q M W H c) (g : Gr Q Q') : Cv T Q' M W H c := h.keep (g.block h.lt)
theorem Cv.ch {N : Nat} (h : Cv T Q M W H c) (g : Ch N Q Q') (hN : M ≠ N) : Cv T Q' M W H c := h.keep (g.block M h.lt hN)
theorem Cv.other {k : Nat} (h : Cv T Q M W H c) (hk : M ≠ k) (o : Nat) (v : Value) : Cv T (Q.setCell ⟨k, o, none⟩ v) M W H c := h.keep (Below.heap_setCell Q ⟨k, o, none⟩ v M hk)
theorem Cv.same (h : Cv T Q M W H c) (hc : ∀ y x, y < H → x < W → c y x = c' y x) : Cv T Q M W H c' :=
  ⟨h.arr, fun y x hy hx k u hu => h.cell y x hy hx k u (by rw [hc y x hy hx]; exact hu)⟩
/-- One part of one cell written. -/
theorem Cv.set1 (h : Cv T Q M W H c) {y x k : Nat} (hy : y < H) (hx : x < W) (hk : k < 5) (v : Value) (hc : ∀ y' x', c' y' x' = if y' = y ∧ x' = x then c' y x else c y' x') (he : c5 (c' y x) = (c5 (c y x)).set k v) :
    Cv T (Q.setCell ⟨M, y * W * 5 + x * 5 + k, none⟩ v) M W H c' := by
  obtain ⟨a, ha⟩ := h.arr
  refine ⟨⟨_, heap_setCell_same _ M _ _ _ _ ha⟩, fun y' x' hy' hx' k' u hu => ?_⟩
  have hk' : k' < 5 := (List.getElem?_eq_some_iff.1 hu).1
  have old := h.cell y x hy hx k _ (List.getElem?_eq_getElem (show k < (c5 (c y x)).length from hk))
  by_cases e : y' = y ∧ x' = x
  · obtain ⟨rfl, rfl⟩ := e
    rw [he] at hu
    by_cases e2 : k' = k
    · subst e2
      rw [List.getElem?_set_self (show k' < (c5 (c y' x')).length from hk)] at hu
      injection hu with hu
      subst hu
      exact World.cell?_setCell_same _ _ _ old
    · rw [List.getElem?_set_ne (by omega)] at hu
      rw [World.cell?_setCell_other _ _ _ _ (fun q => by injection q with _ q _; omega)]
      exact h.cell y' x' hy' hx' k' u hu
  · rw [hc y' x', if_neg e] at hu
    rw [World.cell?_setCell_other _ _ _ _]
    · exact h.cell y' x' hy' hx' k' u hu
    · intro q
      injection q with _ q _
      have := off_inj hx hx' hk hk' q
      exact e ⟨this.1.symm, this.2.1.symm⟩
/-- One cell written. -/
theorem Cv.set (h : Cv T Q M W H c) {y x : Nat} (hy : y < H) (hx : x < W) (e : Ce) :
    Cv T (((((Q.setCell ⟨M, y * W * 5 + x * 5, none⟩ (.string e.t)).setCell ⟨M, y * W * 5 + x * 5 + 1, none⟩ (.int .i64 e.f)).setCell ⟨M, y * W * 5 + x * 5 + 2, none⟩ (.int .i64 e.g)).setCell ⟨M, y * W * 5 + x * 5 + 3, none⟩ (.int .i64 e.b)).setCell ⟨M, y * W * 5 + x * 5 + 4, none⟩ (.int .i64 e.p)) M W H (upd c y x e) := by
  have u0 : ∀ e, upd c y x e y x = e := fun e => by unfold upd; rw [if_pos ⟨rfl, rfl⟩]
  have nx : ∀ e e', ∀ y' x', upd c y x e' y' x' = if y' = y ∧ x' = x then upd c y x e' y x else upd c y x e y' x' := fun e e' y' x' => by
    rw [u0]; unfold upd; split <;> rfl
  have h0 := h.set1 (c' := upd c y x { c y x with t := e.t }) (k := 0) hy hx (by omega) (.string e.t) (fun y' x' => by rw [u0]; rfl) (by rw [u0]; rfl)
  have h1 := h0.set1 (c' := upd c y x { c y x with t := e.t, f := e.f }) (k := 1) hy hx (by omega) (.int .i64 e.f) (nx _ _) (by rw [u0, u0]; rfl)
  have h2 := h1.set1 (c' := upd c y x { c y x with t := e.t, f := e.f, g := e.g }) (k := 2) hy hx (by omega) (.int .i64 e.g) (nx _ _) (by rw [u0, u0]; rfl)
  have h3 := h2.set1 (c' := upd c y x { c y x with t := e.t, f := e.f, g := e.g, b := e.b }) (k := 3) hy hx (by omega) (.int .i64 e.b) (nx _ _) (by rw [u0, u0]; rfl)
  exact h3.set1 (c' := upd c y x e) (k := 4) hy hx (by omega) (.int .i64 e.p) (nx _ _) (by rw [u0, u0]; rfl)
theorem Cv.setPart (h : Cv T Q M W H c) {y x : Nat} (hy : y < H) (hx : x < W) (p : Int) :
    Cv T (Q.setCell ⟨M, y * W * 5 + x * 5 + 4, none⟩ (.int .i64 p)) M W H (upd c y x { c y x with p := p }) :=
  h.set1 (k := 4) hy hx (by omega) _ (fun y' x' => by unfold upd; simp) (by unfold upd; rw [if_pos ⟨rfl, rfl⟩]; rfl)
theorem Cv.setText (h : Cv T Q M W H c) {y x : Nat} (hy : y < H) (hx : x < W) (s : ByteArray) :
    Cv T (Q.setCell ⟨M, y * W * 5 + x * 5 + 0, none⟩ (.string s)) M W H (upd c y x { c y x with t := s }) :=
  h.set1 (k := 0) hy hx (by omega) _ (fun y' x' => by unfold upd; simp) (by unfold upd; rw [if_pos ⟨rfl, rfl⟩]; rfl)
theorem Cv.c0 (h : Cv T Q M W H c) {y x : Nat} (hy : y < H) (hx : x < W) : Q.cell? ⟨M, y * W * 5 + x * 5, none⟩ = some (.string (c y x).t) := h.cell y x hy hx 0 _ rfl
theorem Cv.c1 (h : Cv T Q M W H c) {y x : Nat} (hy : y < H) (hx : x < W) : Q.cell? ⟨M, y * W * 5 + x * 5 + 1, none⟩ = some (.int .i64 (c y x).f) := h.cell y x hy hx 1 _ rfl
theorem Cv.c2 (h : Cv T Q M W H c) {y x : Nat} (hy : y < H) (hx : x < W) : Q.cell? ⟨M, y * W * 5 + x * 5 + 2, none⟩ = some (.int .i64 (c y x).g) := h.cell y x hy hx 2 _ rfl
theorem Cv.c3 (h : Cv T Q M W H c) {y x : Nat} (hy : y < H) (hx : x < W) : Q.cell? ⟨M, y * W * 5 + x * 5 + 3, none⟩ = some (.int .i64 (c y x).b) := h.cell y x hy hx 3 _ rfl
theorem Cv.c4 (h : Cv T Q M W H c) {y x : Nat} (hy : y < H) (hx : x < W) : Q.cell? ⟨M, y * W * 5 + x * 5 + 4, none⟩ = some (.int .i64 (c y x).p) := h.cell y x hy hx 4 _ rfl
end

/-- A canvas at K, its cells at M. -/
structure CS (TK T : TypeId) (Q : World) (K M cap W H : Nat) (c : Nat → Nat → Ce) : Prop where
  kb : Q.heap[K]? = some (.cells #[.int .i64 W, .int .i64 H, .slice (some ⟨M, 0, none⟩) (W * H) cap] TK (0, 0))
  cv : Cv T Q M W H c
  ne : K ≠ M
  hc : W * H ≤ cap
section
variable {TK T : TypeId} {Q Q' : World} {K M cap W H : Nat} {c c' : Nat → Nat → Ce}
theorem CS.klt (h : CS TK T Q K M cap W H c) : K < Q.heap.size := (Array.getElem?_eq_some_iff.1 h.kb).1
theorem CS.k0 (h : CS TK T Q K M cap W H c) : Q.cell? ⟨K, 0, none⟩ = some (.int .i64 W) := by have := h.kb; simp [World.cell?, this]
theorem CS.k1 (h : CS TK T Q K M cap W H c) : Q.cell? ⟨K, 1, none⟩ = some (.int .i64 H) := by have := h.kb; simp [World.cell?, this]
theorem CS.k2 (h : CS TK T Q K M cap W H c) : Q.cell? ⟨K, 2, none⟩ = some (.slice (some ⟨M, 0, none⟩) (W * H) cap) := by have := h.kb; simp [World.cell?, this]
theorem CS.ch {N : Nat} (h : CS TK T Q K M cap W H c) (g : Ch N Q Q') (h1 : K ≠ N) (h2 : M ≠ N) : CS TK T Q' K M cap W H c := ⟨(g.block K h.klt h1).trans h.kb, h.cv.ch g h2, h.ne, h.hc⟩
theorem CS.gr (h : CS TK T Q K M cap W H c) (g : Gr Q Q') : CS TK T Q' K M cap W H c := ⟨(g.block h.klt).trans h.kb, h.cv.gr g, h.ne, h.hc⟩
/-- The cells are others now. -/
theorem CS.put (h : CS TK T Q K M cap W H c) (g : Ch M Q Q') (hc : Cv T Q' M W H c') : CS TK T Q' K M cap W H c' := ⟨(g.block K h.klt h.ne).trans h.kb, hc, h.ne, h.hc⟩
end
end Go.Proofs.YtlfffpoeioecjaaDoor

namespace Go.Proofs.YtlfffpoeioecjaaDoor
open Go.RowKit Go.Sort
set_option linter.unusedVariables false

def cev (e : Ce) : Value := .agg #[.string e.t, .int .i64 e.f, .int .i64 e.g, .int .i64 e.b, .int .i64 e.p]

set_option maxRecDepth 100000 in
theorem blank_any (f g b : Int) (w : World) : Calls Tryd.prog 56 #[sv f g b] w fun e w' => e = .returned (cev (bk f g b)) ∧ Gr w w' := by
  unfold sv
  go_enter Tryd.func56, Tryd.ntmps56
  go_wp2
  refine bodyPost_ret (v := cev (bk f g b)) (by simp [results, Tryd.results56, go_sem, cev, bk, spc]) rfl ?_
  exact ⟨rfl, ((Gr.refl w).alloc _).alloc _⟩

set_option maxRecDepth 100000 in
theorem counts_any (f g b : Int) (w : World) : Calls Tryd.prog 127 #[sv f g b] w fun e w' => e = .returned (sv (kn f) (kn g) (bo b)) ∧ Gr w w' := by
  have OV : Hid (∀ f g b f2 g2 b2 w, Calls Tryd.prog 80 #[sv f g b, sv f2 g2 b2] w fun e w' => e = .returned (sv (ov f f2) (ov g g2) (obo b b2)) ∧ Gr w w') := over_any
  have O1 := OV.out 0 0 0 f g b
  rw [ov_zero, ov_zero, obo_zero] at O1
  unfold sv at O1 ⊢
  go_enter Tryd.func127, Tryd.ntmps127
  go_wp2_with (go_at_call 80; refine Calls.mono (O1 _) ?_; rintro e w1 ⟨rfl, g1⟩; have RC : Hid (R3 32 w1 (w.heap.size + 1) 0 0 0) := ((by have := R3.new (w.alloc (.cells #[.int .i64 f, .int .i64 g, .int .i64 b] 32)) 0 0 0 32; simp only [World.size_alloc] at this; exact this) : R3 32 _ (w.heap.size + 1) 0 0 0).gr g1; have c0 := RC.out.c0; have c1 := RC.out.c1; have c2 := RC.out.c2; have f0 := RC.out.fz 0; have f1 := RC.out.fz 1; have f2 := RC.out.fz 2; have GG : Hid (Gr w w1) := (((Gr.refl w).alloc _).alloc _).trans g1; clear g1)
  refine bodyPost_ret (results_cell_row rfl _ _ (w.heap.size + 1) _ _ _ _ rfl (RC.out.set _ _ _) Tryd.underlying32 rfl (by kernel_rfl)) rfl ?_
  exact ⟨rfl, GG.out.set3 (by omega) _ _ _⟩

set_option maxRecDepth 100000 in
theorem side_any (n : Int) (w : World) : Calls Tryd.prog 55 #[.int .i64 n] w fun e w' => e = .returned (.bool (decide (1 ≤ n ∧ n ≤ 400))) ∧ w' = w := by
  by_cases h1 : 1 ≤ n
  · by_cases h2 : n ≤ 400
    · rw [show decide (1 ≤ n ∧ n ≤ 400) = true from decide_eq_true ⟨h1, h2⟩]
      go_enter Tryd.func55, Tryd.ntmps55
      go_wp2
      go_ret
      exact ⟨rfl, rfl⟩
    · rw [show decide (1 ≤ n ∧ n ≤ 400) = false from decide_eq_false (by omega)]
      go_enter Tryd.func55, Tryd.ntmps55
      go_wp2
      go_ret
      exact ⟨by first | rfl | simp; omega, rfl⟩
  · rw [show decide (1 ≤ n ∧ n ≤ 400) = false from decide_eq_false (by omega)]
    go_enter Tryd.func55, Tryd.ntmps55
    go_wp2
    go_ret
    exact ⟨rfl, rfl⟩

section
variable {K M cap W H : Nat} {c : Nat → Nat → Ce}
set_option maxRecDepth 100000 in
set_option maxHeartbeats 2000000 in
theorem row_any (w : World) (h : CS 101 34 w K M cap W H c) (h0 : 0 < W) (hW : W ≤ 400) (hH : H ≤ 400) (y : Nat) (hy : y < H) : Calls Tryd.prog 139 #[.pointer (some ⟨K, 0, none⟩), .int .i64 y] w fun e w' => e = .returned (.slice (some ⟨M, y * W * 5, none⟩) W W) ∧ Gr w w' := by
  have k0 := h.k0
  have k2 := h.k2
  have hc := h.hc
  obtain ⟨p, hp⟩ : ∃ p, y * W = p := ⟨_, rfl⟩
  obtain ⟨n, hn⟩ : ∃ n, W * H = n := ⟨_, rfl⟩
  have e1 : (y : Int) * (W : Int) = (p : Int) := by rw [← hp]; simp
  have e2 : ((y : Int) + 1) * (W : Int) = (p : Int) + (W : Int) := by rw [Int.add_mul, e1]; omega
  have pn : p + W ≤ n := by
    rw [← hp, ← hn, Nat.mul_comm W H, ← Nat.succ_mul]; exact Nat.mul_le_mul_right _ (by omega)
  have nb : n ≤ 160000 := by rw [← hn]; exact Nat.mul_le_mul hW hH
  rw [hn] at k2 hc
  rw [hp]
  have w0 : ¬ W = 0 := by omega
  have w1 : ¬ p + W = p := by omega
  clear h hn hp
  go_enter Tryd.func139, Tryd.ntmps139
  go_wp2_with fail
  go_quiet (fail)
  go_wp2
  go_ret
  refine ⟨?_, (Gr.refl w).drewN _⟩
  first
    | rfl
    | (show Ending.returned (.slice (some ⟨M, p * 5, none⟩) (p + W - p) (p + W - p)) = _; rw [Nat.add_sub_cancel_left])
end

section
variable {K M cap W H : Nat} {c : Nat → Nat → Ce}
set_option maxRecDepth 100000 in
theorem size_any (w : World) (h : CS 101 34 w K M cap W H c) : Calls Tryd.prog 117 #[.pointer (some ⟨K, 0, none⟩)] w fun e w' => e = .returned (.tuple #[.int .i64 W, .int .i64 H]) ∧ Gr w w' := by
  have k0 := h.k0
  have k1 := h.k1
  clear h
  go_enter Tryd.func117, Tryd.ntmps117
  go_wp2_with fail
  go_quiet (fail)
  go_wp2
  go_ret2
  exact ⟨rfl, (Gr.refl w).drewN _⟩
end
end Go.Proofs.YtlfffpoeioecjaaDoor

namespace Go.Proofs.YtlfffpoeioecjaaDoor
open Go.RowKit Go.Sort
set_option linter.unusedVariables false

/-- The half on the left, and the one on the right, of the places from a up to z become blanks. -/
def cutL (c : Nat → Nat → Ce) (y a : Nat) : Nat → Nat → Ce := fun y' x' => if y' = y ∧ x' + 1 = a ∧ (c y a).p = 2 then bl (c y' x') else c y' x'
def cutR (c : Nat → Nat → Ce) (y q : Nat) : Nat → Nat → Ce := fun y' x' => if y' = y ∧ x' = q + 1 ∧ (c y q).p = 1 then bl (c y' x') else c y' x'
def cut (c : Nat → Nat → Ce) (y a q : Nat) : Nat → Nat → Ce := cutR (cutL c y a) y q
theorem cutL_none {c : Nat → Nat → Ce} {y a : Nat} (h : ¬ (c y a).p = 2) : cutL c y a = c := by
  funext y' x'; unfold cutL; rw [if_neg (fun q => h q.2.2)]
theorem cutR_none {c : Nat → Nat → Ce} {y a : Nat} (h : ¬ (c y a).p = 1) : cutR c y a = c := by
  funext y' x'; unfold cutR; rw [if_neg (fun q => h q.2.2)]
theorem cutL_some {c : Nat → Nat → Ce} {y k : Nat} (h : (c y (k + 1)).p = 2) : cutL c y (k + 1) = upd c y k (bl (c y k)) := by
  funext y' x'; unfold cutL upd
  by_cases e : y' = y ∧ x' = k
  · obtain ⟨rfl, rfl⟩ := e
    rw [if_pos ⟨rfl, rfl, h⟩, if_pos ⟨rfl, rfl⟩]
  · rw [if_neg e, if_neg (fun q => e ⟨q.1, by omega⟩)]
theorem cutR_some {c : Nat → Nat → Ce} {y q : Nat} (h : (c y q).p = 1) : cutR c y q = upd c y (q + 1) (bl (c y (q + 1))) := by
  funext y' x'; unfold cutR upd
  by_cases e : y' = y ∧ x' = q + 1
  · obtain ⟨rfl, rfl⟩ := e
    rw [if_pos ⟨rfl, rfl, h⟩, if_pos ⟨rfl, rfl⟩]
  · rw [if_neg e, if_neg (fun k => e ⟨k.1, k.2.1⟩)]
theorem cutL_at {c : Nat → Nat → Ce} {y a x : Nat} (h : a ≤ x) (y' : Nat) : cutL c y a y' x = c y' x := by
  unfold cutL; rw [if_neg (by omega)]
theorem cutL_q {c : Nat → Nat → Ce} {y a x : Nat} (h : a ≤ x) : cutL c y a y (x + 1) = c y (x + 1) := cutL_at (by omega) y

section
variable {K M cap W H : Nat} {c : Nat → Nat → Ce}
set_option maxRecDepth 100000 in
set_option maxHeartbeats 2000000 in
theorem stretch_any (w : World) (h : CS 101 34 w K M cap W H c) (h0 : 0 < W) (hW : W ≤ 400) (hH : H ≤ 400) (y a q : Nat) (hy : y < H) (haq : a ≤ q) (hq : q < W) (hp : PRow W (c y)) : Calls Tryd.prog 128 #[.pointer (some ⟨K, 0, none⟩), .int .i64 y, .int .i64 a, .int .i64 ((q : Int) + 1)] w fun e w' => e = .returned (.slice (some ⟨M, y * W * 5 + a * 5, none⟩) (q + 1 - a) (q + 1 - a)) ∧ Cv 34 w' M W H (cut c y a q) ∧ Ch M w w' := by
  have RC : Hid (Calls Tryd.prog 139 #[.pointer (some ⟨K, 0, none⟩), .int .i64 y] w fun e w' => e = .returned (.slice (some ⟨M, y * W * 5, none⟩) W W) ∧ Gr w w') := row_any w h h0 hW hH y hy
  have BC : Hid (∀ f g b w, Calls Tryd.prog 56 #[sv f g b] w fun e w' => e = .returned (cev (bk f g b)) ∧ Gr w w') := blank_any
  have HV : Hid (Cv 34 w M W H c) := h.cv
  have HP : Hid (PRow W (c y)) := hp
  obtain ⟨o, ho⟩ : ∃ o, y * W * 5 = o := ⟨_, rfl⟩
  have HO : Hid (y * W * 5 = o) := ho
  unfold sv cev bk at BC
  rw [ho] at RC
  clear h hp
  rw [ho]
  clear ho
  go_enter Tryd.func128, Tryd.ntmps128
  go_wp2_with fail
  refine Calls.mono RC.out ?_
  rintro e w1 ⟨rfl, g1⟩
  have V1 : Hid (Cv 34 w1 M W H c) := HV.out.gr g1
  have C1 : Hid (Ch M w w1) := Ch.gr g1
  clear g1 HV RC
  have ca := V1.out.c4 hy (show a < W by omega)
  rw [HO.out] at ca
  obtain ⟨pa, hpa⟩ : ∃ z, (c y a).p = z := ⟨_, rfl⟩
  rw [hpa] at ca
  have HA : Hid ((c y a).p = pa) := hpa
  clear hpa
  go_upto_if 18 with fail
  go_cut [9] from 13 to 29 (fun u wx => u = .slice (some ⟨M, o, none⟩) W W ∧ Hid (Cv 34 wx M W H (cutL c y a) ∧ Ch M w wx))
  case first =>
    by_cases ht : pa = 2
    · obtain ⟨k, hka, hk1, _⟩ := HP.out.tail a (by omega) (HA.out.trans ht)
      subst hka
      have HC : Hid (cutL c y (k + 1) = upd c y k (bl (c y k))) := cutL_some (HA.out.trans ht)
      subst ht
      clear hk1
      have b1 := V1.out.c1 hy (show k < W by omega)
      have b2 := V1.out.c2 hy (show k < W by omega)
      have b3 := V1.out.c3 hy (show k < W by omega)
      rw [HO.out] at b1 b2 b3
      go_wp2_with (go_at_call 56; refine Calls.mono (BC.out _ _ _ _) ?_; rintro e w2 ⟨rfl, g2⟩; have V2 : Hid (Cv 34 w2 M W H c) := V1.out.gr g2; have C2 : Hid (Ch M w w2) := C1.out.thenGr g2; clear g2; have d0 := V2.out.c0 hy (show k < W by omega); have d1 := V2.out.c1 hy (show k < W by omega); have d2 := V2.out.c2 hy (show k < W by omega); have d3 := V2.out.c3 hy (show k < W by omega); have d4 := V2.out.c4 hy (show k < W by omega); rw [HO.out] at d0 d1 d2 d3 d4; have f0 := V2.out.fz; have fl := V2.out.lt)
      go_meet
      refine ⟨rfl, ?_, ?_⟩
      · rw [HC.out, ← HO.out]; exact V2.out.set hy (show k < W by omega) (bl (c y k))
      · exact ((((C2.out.set (.inl rfl) _ _).set (.inl rfl) _ _).set (.inl rfl) _ _).set (.inl rfl) _ _).set (.inl rfl) _ _
    · have ht' : (pa == 2) = false := by simpa using ht
      go_wp2_with fail
      go_meet
      exact ⟨rfl, by rw [cutL_none (by rw [HA.out]; exact ht)]; exact V1.out, C1.out⟩
  case rest =>
    obtain ⟨rfl, HR⟩ := hcut
    clear V1 C1 ca
    have cq := HR.out.1.c4 hy hq
    rw [HO.out] at cq
    obtain ⟨pq, hpq⟩ : ∃ z, (cutL c y a y q).p = z := ⟨_, rfl⟩
    rw [hpq] at cq
    have HQ : Hid ((cutL c y a y q).p = pq) := hpq
    clear hpq
    have hcc : Hid ((c y q).p = pq) := by have := HQ.out; rw [cutL_at haq] at this; exact this
    go_upto_if 36 with fail
    go_cut [9] from 13 to 45 (fun u wx => u = .slice (some ⟨M, o, none⟩) W W ∧ Hid (Cv 34 wx M W H (cut c y a q) ∧ Ch M w wx))
    case first =>
      by_cases ht : pq = 1
      · obtain ⟨hl, _⟩ := HP.out.head q hq (hcc.out.trans ht)
        have HC : Hid (cut c y a q = upd (cutL c y a) y (q + 1) (bl (cutL c y a y (q + 1)))) := cutR_some (HQ.out.trans ht)
        subst ht
        have b1 := HR.out.1.c1 hy hl
        have b2 := HR.out.1.c2 hy hl
        have b3 := HR.out.1.c3 hy hl
        rw [HO.out] at b1 b2 b3
        go_wp2_with (go_at_call 56; refine Calls.mono (BC.out _ _ _ _) ?_; rintro e w2 ⟨rfl, g2⟩; have V2 : Hid (Cv 34 w2 M W H (cutL c y a)) := HR.out.1.gr g2; have C2 : Hid (Ch M w w2) := HR.out.2.thenGr g2; clear g2; have d0 := V2.out.c0 hy hl; have d1 := V2.out.c1 hy hl; have d2 := V2.out.c2 hy hl; have d3 := V2.out.c3 hy hl; have d4 := V2.out.c4 hy hl; rw [HO.out] at d0 d1 d2 d3 d4; have f0 := V2.out.fz; have fl := V2.out.lt)
        go_meet
        refine ⟨rfl, ?_, ?_⟩
        · rw [HC.out, ← HO.out]; exact V2.out.set hy hl (bl (cutL c y a y (q + 1)))
        · exact ((((C2.out.set (.inl rfl) _ _).set (.inl rfl) _ _).set (.inl rfl) _ _).set (.inl rfl) _ _).set (.inl rfl) _ _
      · have ht' : (pq == 1) = false := by simpa using ht
        go_wp2_with fail
        go_meet
        exact ⟨rfl, by unfold cut; rw [cutR_none (by rw [HQ.out]; exact ht)]; exact HR.out.1, HR.out.2⟩
    case rest =>
      obtain ⟨rfl, HZ⟩ := hcut
      have hl1 : a ≤ W := by omega
      have nz : ¬ q + 1 = a := by omega
      go_wp2
      go_ret
      exact ⟨rfl, HZ.out.1, HZ.out.2⟩
end
end Go.Proofs.YtlfffpoeioecjaaDoor
