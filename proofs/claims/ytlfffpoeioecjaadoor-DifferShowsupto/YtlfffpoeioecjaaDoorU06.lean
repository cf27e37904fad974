/-
  A canvas in memory: a struct of two numbers and a list, and the list's cells.
-/
import Derived.Test.YtlfffpoeioecjaaDoorU05
import Derived.Laws.AppendOwn
import Derived.Test.YtlfffpoeioecjaaDoorU00
import Derived.Test.YtlfffpoeioecjaaDoorU01
import Derived.OwnWalk
import Derived.Lib.ItoaNum
import Derived.Lib.Join
namespace Go.Proofs.YtlfffpoeioecjaaDoor
open Go.RowKit
set_option linter.unusedVariables false

/-- Blocks but M are as they were. -/
structure Ch (M : Nat) (W W' : World) : Prop where
  os : W'.os = W.os
  tape : W'.tape = W.tape
  output : W'.output = W.output
  size : W.heap.size ≤ W'.heap.size
  block : ∀ b, b < W.heap.size → b ≠ M → W'.heap[b]? = W.heap[b]?
section
variable {M : Nat} {W W' W2 : World}
theorem Ch.refl (M : Nat) (W : World) : Ch M W W := ⟨rfl, rfl, rfl, Nat.le_refl _, fun _ _ _ => rfl⟩
theorem Ch.trans (h : Ch M W W') (k : Ch M W' W2) : Ch M W W2 :=
  ⟨k.os.trans h.os, k.tape.trans h.tape, k.output.trans h.output, Nat.le_trans h.size k.size, fun b h1 h2 => (k.block b (Nat.lt_of_lt_of_le h1 h.size) h2).trans (h.block b h1 h2)⟩
theorem Ch.below (h : Below W.heap.size W W') : Ch M W W' := ⟨h.os, h.tape, h.output, h.size, fun b h1 _ => h.block b h1⟩
theorem Ch.gr (h : Gr W W') : Ch M W W' := Ch.below h.below
theorem Ch.thenGr (h : Ch M W W') (k : Gr W' W2) : Ch M W W2 := h.trans (Ch.gr k)
theorem Ch.set (h : Ch M W W') {k : Nat} (hk : k = M ∨ W.heap.size ≤ k) (o : Nat) (v : Value) : Ch M W (W'.setCell ⟨k, o, none⟩ v) :=
  ⟨h.os, h.tape, h.output, by simpa [World.setCell] using h.size, fun b h1 h2 => (Below.heap_setCell W' ⟨k, o, none⟩ v b (by show b ≠ k; omega)).trans (h.block b h1 h2)⟩
theorem Ch.low (h : Ch M W W') {B : Nat} (hM : B ≤ M) (hB : B ≤ W.heap.size) {W0 : World} (k : Below B W0 W) : Below B W0 W' :=
  ⟨h.os.trans k.os, h.tape.trans k.tape, h.output.trans k.output, Nat.le_trans k.size h.size, fun b hb => (h.block b (by omega) (by omega)).trans (k.block b hb)⟩
end

def c5 (e : Ce) : List Value := [.string e.t, .int .i64 e.f, .int .i64 e.g, .int .i64 e.b, .int .i64 e.p]
theorem c5_len (e : Ce) : (c5 e).length = 5 := rfl

/-- Cells in a block, row by row. -/
structure Cv (T : TypeId) (Q : World) (M W H : Nat) (c : Nat → Nat → Ce) : Prop where
  arr : ∃ a, Q.heap[M]? = some (.cells a T (0, 0))
  cell : ∀ y x, y < H → x < W → ∀ (k : Nat) u, (c5 (c y x))[k]? = some u → Q.cell? ⟨M, y * W * 5 + x * 5 + k, none⟩ = some u
def upd (c : Nat → Nat → Ce) (y x : Nat) (e : Ce) : Nat → Nat → Ce := fun y' x' => if y' = y ∧ x' = x then e else c y' x'

theorem idx_inj {W y x y' x' : Nat} (hx : x < W) (hx' : x' < W) (h : y * W + x = y' * W + x') : y = y' ∧ x = x' := by
  have h1 : (y * W + x) / W = y := by rw [Nat.mul_comm, Nat.mul_add_div (by omega), Nat.div_eq_of_lt hx, Nat.add_zero]
  have h2 : (y' * W + x') / W = y' := by rw [Nat.mul_comm, Nat.mul_add_div (by omega), Nat.div_eq_of_lt hx', Nat.add_zero]
  have : y = y' := by rw [← h1, ← h2, h]
  subst this
  exact ⟨rfl, by omega⟩
theorem off_inj {W y x k y' x' k' : Nat} (hx : x < W) (hx' : x' < W) (hk : k < 5) (hk' : k' < 5) (h : y * W * 5 + x * 5 + k = y' * W * 5 + x' * 5 + k') : y = y' ∧ x = x' ∧ k = k' := by
  generalize hp : y * W = p at *
  generalize hq : y' * W = q at *
  have h1 : p + x = q + x' ∧ k = k' := by omega
  have := idx_inj (y := y) (y' := y') hx hx' (by rw [hp, hq]; exact h1.1)
  exact ⟨this.1, this.2, h1.2⟩

section
variable {T : TypeId} {Q Q' : World} {M W H : Nat} {c c' : Nat → Nat → Ce}
theorem Cv.lt (h : Cv T Q M W H c) : M < Q.heap.size := by obtain ⟨a, ha⟩ := h.arr; exact (Array.getElem?_eq_some_iff.1 ha).1
theorem Cv.fz (h : Cv T Q M W H c) (j : Nat) : Q.frozen? ⟨M, j, none⟩ = false := by obtain ⟨a, ha⟩ := h.arr; exact frozen_of_row _ _ _ _ _ ha
theorem Cv.keep (h : Cv T Q M W H c) (hb : Q'.heap[M]? = Q.heap[M]?) : Cv T Q' M W H c := by
  obtain ⟨a, ha⟩ := h.arr
  exact ⟨⟨a, hb.trans ha⟩, fun y x hy hx k u hu => (World.cell?_of_block (a := ⟨M, _, none⟩) hb).trans (h.cell y x hy hx k u hu)⟩
theorem Cv.gr (h : Cv T Q M W H c) (g : Gr Q Q') : Cv T Q' M W H c := h.keep (g.block h.lt)
theorem Cv.ch {N : Nat} (h : Cv T Q M W H c) (g : Ch N Q Q') (hN : M ≠ N) : Cv T Q' M W H c := h.keep (g.block M h.lt hN)
theorem Cv.other {k : Nat} (h : Cv T Q M W H c) (hk : M ≠ k) (o : Nat) (v : Value) : Cv T (Q.setCell ⟨k, o, none⟩ v) M W H c := h.keep (Below.heap_setCell Q ⟨k, o, none⟩ v M hk)
theorem Cv.same (h : Cv T Q M W H c) (hc : ∀ y x, y < H → x < W → c y x = c' y x) : Cv T Q M W H c' :=
  ⟨h.arr, fun y x hy hx k u hu => h.cell y x hy hx k u (by rw [hc y x hy hx]; exact hu)⟩
/-- One part of one cell written. -/
theorem Cv.set1 (h : Cv T Q M W H c) {y x k : Nat} (hy : y < H) (hx : x < W) (hk : k < 5) (v : Value) (hc : ∀ y' x', c' y' x' = if y' = y ∧ x' = x then c' y x else c y' x') (he : c5 (c' y x) = (c5 (c y x)).set k v) :
    Cv T (Q.setCell ⟨M, y * W * 5 + x * 5 + k, none⟩ v) M W H c' := by
  obtain ⟨a, ha⟩ := h.arr
  refine ⟨⟨_, heap_setCell_same _ M _ _ _ _ ha⟩, fun y' x' hy' hx' k' u hu => ?_⟩
  have hk' : k' < 5 := (List.getElem?_eq_some_iff.1 hu).1
  have old := h.cell y x hy hx k _ (List.getElem?_eq_getElem (show k < (c5 (c y x)).length from hk))
  by_cases e : y' = y ∧ x' = x
  · obtain ⟨rfl, rfl⟩ := e
    rw [he] at hu
    by_cases e2 : k' = k
    · subst e2
      rw [List.getElem?_set_self (show k' < (c5 (c y' x')).length from hk)] at hu
      injection hu with hu
      subst hu
      exact World.cell?_setCell_same _ _ _ old
    · rw [List.getElem?_set_ne (by omega)] at hu
      rw [World.cell?_setCell_other _ _ _ _ (fun q => by injection q with _ q _; omega)]
      exact h.cell y' x' hy' hx' k' u hu
  · rw [hc y' x', if_neg e] at hu
    rw [World.cell?_setCell_other _ _ _ _]
    · exact h.cell y' x' hy' hx' k' u hu
    · intro q
      injection q with _ q _
      have := off_inj hx hx' hk hk' q
      exact e ⟨this.1.symm, this.2.1.symm⟩
/-- One cell written. -/
theorem Cv.set (h : Cv T Q M W H c) {y x : Nat} (hy : y < H) (hx : x < W) (e : Ce) :
    Cv T (((((Q.setCell ⟨M, y * W * 5 + x * 5, none⟩ (.string e.t)).setCell ⟨M, y * W * 5 + x * 5 + 1, none⟩ (.int .i64 e.f)).setCell ⟨M, y * W * 5 + x * 5 + 2, none⟩ (.int .i64 e.g)).setCell ⟨M, y * W * 5 + x * 5 + 3, none⟩ (.int .i64 e.b)).setCell ⟨M, y * W * 5 + x * 5 + 4, none⟩ (.int .i64 e.p)) M W H (upd c y x e) := by
  have u0 : ∀ e, upd c y x e y x = e := fun e => by unfold upd; rw [if_pos ⟨rfl, rfl⟩]
  have nx : ∀ e e', ∀ y' x', upd c y x e' y' x' = if y' = y ∧ x' = x then upd c y x e' y x else upd c y x e y' x' := fun e e' y' x' => by
    rw [u0]; unfold upd; split <;> rfl
  have h0 := h.set1 (c' := upd c y x { c y x with t := e.t }) (k := 0) hy hx (by omega) (.string e.t) (fun y' x' => by rw [u0]; rfl) (by rw [u0]; rfl)
  have h1 := h0.set1 (c' := upd c y x { c y x with t := e.t, f := e.f }) (k := 1) hy hx (by omega) (.int .i64 e.f) (nx _ _) (by rw [u0, u0]; rfl)
  have h2 := h1.set1 (c' := upd c y x { c y x with t := e.t, f := e.f, g := e.g }) (k := 2) hy hx (by omega) (.int .i64 e.g) (nx _ _) (by rw [u0, u0]; rfl)
  have h3 := h2.set1 (c' := upd c y x { c y x with t := e.t, f := e.f, g := e.g, b := e.b }) (k := 3) hy hx (by omega) (.int .i64 e.b) (nx _ _) (by rw [u0, u0]; rfl)
  exact h3.set1 (c' := upd c y x e) (k := 4) hy hx (by omega) (.int .i64 e.p) (nx _ _) (by rw [u0, u0]; rfl)
theorem Cv.setPart (h : Cv T Q M W H c) {y x : Nat} (hy : y < H) (hx : x < W) (p : Int) :
    Cv T (Q.setCell ⟨M, y * W * 5 + x * 5 + 4, none⟩ (.int .i64 p)) M W H (upd c y x { c y x with p := p }) :=
  h.set1 (k := 4) hy hx (by omega) _ (fun y' x' => by unfold upd; simp) (by unfold upd; rw [if_pos ⟨rfl, rfl⟩]; rfl)
theorem Cv.setText (h : Cv T Q M W H c) {y x : Nat} (hy : y < H) (hx : x < W) (s : ByteArray) :
    Cv T (Q.setCell ⟨M, y * W * 5 + x * 5 + 0, none⟩ (.string s)) M W H (upd c y x { c y x with t := s }) :=
  h.set1 (k := 0) hy hx (by omega) _ (fun y' x' => by unfold upd; simp) (by unfold upd; rw [if_pos ⟨rfl, rfl⟩]; rfl)
theorem Cv.c0 (h : Cv T Q M W H c) {y x : Nat} (hy : y < H) (hx : x < W) : Q.cell? ⟨M, y * W * 5 + x * 5, none⟩ = some (.string (c y x).t) := h.cell y x hy hx 0 _ rfl
theorem Cv.c1 (h : Cv T Q M W H c) {y x : Nat} (hy : y < H) (hx : x < W) : Q.cell? ⟨M, y * W * 5 + x * 5 + 1, none⟩ = some (.int .i64 (c y x).f) := h.cell y x hy hx 1 _ rfl
theorem Cv.c2 (h : Cv T Q M W H c) {y x : Nat} (hy : y < H) (hx : x < W) : Q.cell? ⟨M, y * W * 5 + x * 5 + 2, none⟩ = some (.int .i64 (c y x).g) := h.cell y x hy hx 2 _ rfl
theorem Cv.c3 (h : Cv T Q M W H c) {y x : Nat} (hy : y < H) (hx : x < W) : Q.cell? ⟨M, y * W * 5 + x * 5 + 3, none⟩ = some (.int .i64 (c y x).b) := h.cell y x hy hx 3 _ rfl
theorem Cv.c4 (h : Cv T Q M W H c) {y x : Nat} (hy : y < H) (hx : x < W) : Q.cell? ⟨M, y * W * 5 + x * 5 + 4, none⟩ = some (.int .i64 (c y x).p) := h.cell y x hy hx 4 _ rfl
end

/-- A canvas at K, its cells at M. -/
structure CS (TK T : TypeId) (Q : World) (K M cap W H : Nat) (c : Nat → Nat → Ce) : Prop where
  kb : Q.heap[K]? = some (.cells #[.int .i64 W, .int .i64 H, .slice (some ⟨M, 0, none⟩) (W * H) cap] TK (0, 0))
  cv : Cv T Q M W H c
  ne : K ≠ M
  hc : W * H ≤ cap
section
variable {TK T : TypeId} {Q Q' : World} {K M cap W H : Nat} {c c' : Nat → Nat → Ce}
theorem CS.klt (h : CS TK T Q K M cap W H c) : K < Q.heap.size := (Array.getElem?_eq_some_iff.1 h.kb).1
theorem CS.k0 (h : CS TK T Q K M cap W H c) : Q.cell? ⟨K, 0, none⟩ = some (.int .i64 W) := by have := h.kb; simp [World.cell?, this]
theorem CS.k1 (h : CS TK T Q K M cap W H c) : Q.cell? ⟨K, 1, none⟩ = some (.int .i64 H) := by have := h.kb; simp [World.cell?, this]
theorem CS.k2 (h : CS TK T Q K M cap W H c) : Q.cell? ⟨K, 2, none⟩ = some (.slice (some ⟨M, 0, none⟩) (W * H) cap) := by have := h.kb; simp [World.cell?, this]
theorem CS.ch {N : Nat} (h : CS TK T Q K M cap W H c) (g : Ch N Q Q') (h1 : K ≠ N) (h2 : M ≠ N) : CS TK T Q' K M cap W H c := ⟨(g.block K h.klt h1).trans h.kb, h.cv.ch g h2, h.ne, h.hc⟩
theorem CS.gr (h : CS TK T Q K M cap W H c) (g : Gr Q Q') : CS TK T Q' K M cap W H c := ⟨(g.block h.klt).trans h.kb, h.cv.gr g, h.ne, h.hc⟩
/-- The cells are others now. -/
theorem CS.put (h : CS TK T Q K M cap W H c) (g : Ch M Q Q') (hc : Cv T Q' M W H c') : CS TK T Q' K M cap W H c' := ⟨(g.block K h.klt h.ne).trans h.kb, hc, h.ne, h.hc⟩
end
end Go.Proofs.YtlfffpoeioecjaaDoor

namespace Go.Proofs.YtlfffpoeioecjaaDoor
open Go.RowKit Go.Sort
set_option linter.unusedVariables false

/-- A colour's number. -/
def hue (n base own : Int) : Int := if n = 0 then own else base + n
def cBold (z z2 : Int) : List Int := if z < z2 then [1] else []
def cFg (x x2 : Int) : List Int := if x2 = x then [] else [hue x2 29 39]
def cBg (y y2 : Int) : List Int := if y2 = y then [] else [hue y2 39 49]
def chg (x y z x2 y2 z2 : Int) : List Int := cBold z z2 ++ (cFg x x2 ++ cBg y y2)
/-- The numbers of Codes. -/
def nms (x y z x2 y2 z2 : Int) : List Int :=
  if x = x2 ∧ y = y2 ∧ z = z2 then [] else if x2 = 0 ∧ y2 = 0 ∧ z2 = 0 then [0] else if z2 < z then 0 :: chg 0 0 0 x2 y2 z2 else chg x y z x2 y2 z2
def dc (n : Int) : List UInt8 := Lib.decDigits n.toNat
/-- A sequence that a terminal reads. -/
def sq (ns : List Int) : List UInt8 := [27, 91] ++ (Lib.join (ns.map dc) [59] ++ [109])
/-- What Codes answers. -/
def cds (ns : List Int) : List UInt8 := if ns = [] then [] else sq ns
theorem hue_bd {n b o : Int} (h : 0 ≤ n ∧ n ≤ 8) (hb : 0 ≤ b ∧ b ≤ 80) (ho : 0 ≤ o ∧ o < 100) : 0 ≤ hue n b o ∧ hue n b o < 100 := by unfold hue; split <;> omega
def Small (ns : List Int) : Prop := ∀ n ∈ ns, 0 ≤ n ∧ n < 100
theorem Small.app {a b : List Int} (h : Small a) (k : Small b) : Small (a ++ b) := fun n hn => by rcases List.mem_append.1 hn with h1 | h1; exact h n h1; exact k n h1
theorem chg_small {x y z x2 y2 z2 : Int} (hx : 0 ≤ x2 ∧ x2 ≤ 8) (hy : 0 ≤ y2 ∧ y2 ≤ 8) : Small (chg x y z x2 y2 z2) := by
  refine Small.app ?_ (Small.app ?_ ?_)
  · unfold cBold; split
    · intro n hn; simp at hn; omega
    · intro n hn; simp at hn
  · unfold cFg; split
    · intro n hn; simp at hn
    · intro n hn; simp only [List.mem_singleton] at hn; subst hn; exact hue_bd hx (by decide) (by decide)
  · unfold cBg; split
    · intro n hn; simp at hn
    · intro n hn; simp only [List.mem_singleton] at hn; subst hn; exact hue_bd hy (by decide) (by decide)
theorem chg_len (x y z x2 y2 z2 : Int) : (chg x y z x2 y2 z2).length ≤ 3 := by
  unfold chg cBold cFg cBg; (repeat' split) <;> simp
theorem nms_small {x y z x2 y2 z2 : Int} (hx : 0 ≤ x2 ∧ x2 ≤ 8) (hy : 0 ≤ y2 ∧ y2 ≤ 8) : Small (nms x y z x2 y2 z2) := by
  unfold nms; split
  · intro n hn; simp at hn
  · split
    · intro n hn; simp at hn; omega
    · split
      · intro n hn
        rcases List.mem_cons.1 hn with rfl | h
        · omega
        · exact chg_small hx hy n h
      · exact chg_small hx hy
theorem nms_len (x y z x2 y2 z2 : Int) : (nms x y z x2 y2 z2).length ≤ 4 := by
  unfold nms; have := chg_len x y z x2 y2 z2; have := chg_len 0 0 0 x2 y2 z2; (repeat' split) <;> simp <;> omega

theorem ownsRow_low {w : World} {B B' : Nat} {e : TypeId} {size : Nat} {v : Value} {n : Nat} {xs : List Value} (h : w.ownsRow B e size v n xs) (hB : B' ≤ B) : w.ownsRow B' e size v n xs := by
  refine ⟨h.1, ?_⟩
  rcases h.2 with h2 | ⟨g, cap, cur, a, b, c⟩
  · exact .inl h2
  · exact .inr ⟨g, cap, cur, a, Nat.le_trans hB b, c⟩
theorem one_new (w : World) (u : Value) (T : TypeId) (j : Nat) (x : Value) (h : [u][j]? = some x) : (w.alloc (.cells #[u] T)).cell? ((⟨w.heap.size, 0, none⟩ : Addr).add j) = some x := by
  rcases j with _ | j
  · simp at h; subst h; show (w.alloc (.cells #[u] T)).cell? ⟨w.heap.size, 0, none⟩ = _; unfold World.cell?; rw [show (w.alloc (.cells #[u] T)).heap[w.heap.size]? = some (.cells #[u] T) from heap_alloc_new _ _]; rfl
  · simp at h
theorem one_cell (n : Int) (u : Value) (h : u ∈ [Value.int .i64 n]) : u.oneCell' = true := by simp at h; subst h; rfl
theorem yinfo3 : (Tryd.prog.info? 3).map (fun i => (i.zero, i.size, i.bytes)) = some (some (.int .i64 0), 1, 8) := by kernel_rfl

/-- Numbers are appended to v; beside them lie a style at A, and one at C. -/
structure ST (T : TypeId) (w : World) (A C B : Nat) (cur : World) (v : Value) (xs : List Int) (a0 a1 a2 c0 c1 c2 : Int) : Prop where
  own : cur.ownsRow B 3 1 v xs.length (xs.map (Value.int .i64))
  ra : R3 T cur A a0 a1 a2
  rc : R3 T cur C c0 c1 c2
  bel : Below w.heap.size w cur
  hA : w.heap.size ≤ A ∧ A < B ∧ w.heap.size ≤ C ∧ C < B ∧ A ≠ C ∧ B ≤ cur.heap.size
section
variable {T : TypeId} {w cur : World} {A C B : Nat} {v : Value} {xs : List Int} {a0 a1 a2 c0 c1 c2 : Int}
theorem ST.next (h : ST T w A C B cur v xs a0 a1 a2 c0 c1 c2) {o : Obj} {v' : Value} {w' : World} {x : Int} (ho : w'.ownsRow B 3 1 v' (xs.length + 1) (xs.map (Value.int .i64) ++ [.int .i64 x])) (hg : (cur.alloc o).grownBy w' v.ownBlock) : ST T w A C B w' v' (xs ++ [x]) a0 a1 a2 c0 c1 c2 := by
  have hlt : ∀ k, v.ownBlock = some k → B ≤ k := fun k hk => (h.own.lt k hk).1
  obtain ⟨q1, q2, q3, q4, q5, q6⟩ := h.hA
  have keep : ∀ k, k < B → w'.heap[k]? = cur.heap[k]? := fun k hk => by
    rw [hg.block k (by rw [World.size_alloc]; omega) (fun e => by have := hlt k e.symm; omega), Below.heap_alloc _ _ _ (by omega)]
  refine ⟨by rw [List.length_append, List.map_append]; exact ho, (keep A q2).trans h.ra, (keep C q4).trans h.rc, ?_, q1, q2, q3, q4, q5, ?_⟩
  · exact (h.bel.alloc (by omega) o).grown hg (by rw [World.size_alloc]; omega) (fun k hk => by have := hlt k hk; omega)
  · have := hg.size; rw [World.size_alloc] at this; omega
theorem ST.bd (h : ST T w A C B cur v xs a0 a1 a2 c0 c1 c2) (o : Obj) : B ≤ (cur.alloc o).heap.size := by have := h.hA; rw [World.size_alloc]; omega
theorem ST.zero (h : ST T w A C B cur v xs a0 a1 a2 c0 c1 c2) : ST T w A C B (((cur.setCell ⟨A, 0, none⟩ (.int .i64 0)).setCell ⟨A, 1, none⟩ (.int .i64 0)).setCell ⟨A, 2, none⟩ (.int .i64 0)) v xs 0 0 0 c0 c1 c2 := by
  obtain ⟨q1, q2, q3, q4, q5, q6⟩ := h.hA
  refine ⟨ownsRow_setCell_below (ownsRow_setCell_below (ownsRow_setCell_below h.own q2 _) q2 _) q2 _, h.ra.set 0 0 0, h.rc.others (fun e => q5 e.symm) _ _ _, ?_, q1, q2, q3, q4, q5, by simpa [World.setCell] using q6⟩
  exact ((h.bel.setCell q1 _).setCell q1 _).setCell q1 _
end
set_option maxRecDepth 100000 in
theorem colour_any (n b o : Int) (w : World) (h : 0 ≤ n ∧ n ≤ 8) (hb : 0 ≤ b ∧ b ≤ 80) : Calls Tryd.prog 105 #[.int .i64 n, .int .i64 b, .int .i64 o] w fun e w' => e = .returned (.int .i64 (hue n b o)) ∧ w' = w := by
  go_enter Tryd.func105, Tryd.ntmps105
  by_cases h1 : n = 0
  · subst h1
    go_wp2
    go_ret
    exact ⟨rfl, rfl⟩
  · go_wp2
    go_ret
    exact ⟨by unfold hue; rw [if_neg h1]; rfl, rfl⟩

theorem new2 (w : World) (T : TypeId) (f g b f2 g2 b2 : Int) (hw : True) : ST T w w.heap.size (w.heap.size + 1) (w.heap.size + 2) ((w.alloc (.cells #[.int .i64 f, .int .i64 g, .int .i64 b] T)).alloc (.cells #[.int .i64 f2, .int .i64 g2, .int .i64 b2] T)) (.slice none 0 0) [] f g b f2 g2 b2 := by
  refine ⟨World.ownsRow_nil _ _ _ _, (R3.new w _ _ _ _).gr ((Gr.refl _).alloc _), ?_, (((Gr.refl w).alloc _).alloc _).below, ?_⟩
  · have := R3.new (w.alloc (.cells #[.int .i64 f, .int .i64 g, .int .i64 b] T)) f2 g2 b2 T
    simp only [World.size_alloc] at this
    exact this
  · simp only [World.size_alloc]; omega

set_option maxRecDepth 100000 in
set_option maxHeartbeats 4000000 in
theorem changes_any (x y z x2 y2 z2 : Int) (w : World) (hx2 : 0 ≤ x2 ∧ x2 ≤ 8) (hy2 : 0 ≤ y2 ∧ y2 ≤ 8) : Calls Tryd.prog 84 #[sv x y z, sv x2 y2 z2] w fun e w' => ∃ v, e = .returned v ∧ w'.ownsRow w.heap.size 3 1 v (chg x y z x2 y2 z2).length ((chg x y z x2 y2 z2).map (Value.int .i64)) ∧ Below w.heap.size w w' := by
  have CF : Hid (∀ w, Calls Tryd.prog 105 #[.int .i64 x2, .int .i64 29, .int .i64 39] w fun e w' => e = .returned (.int .i64 (hue x2 29 39)) ∧ w' = w) := fun w => colour_any _ _ _ w hx2 (by decide)
  have CG : Hid (∀ w, Calls Tryd.prog 105 #[.int .i64 y2, .int .i64 39, .int .i64 49] w fun e w' => e = .returned (.int .i64 (hue y2 39 49)) ∧ w' = w) := fun w => colour_any _ _ _ w hy2 (by decide)
  obtain ⟨i0, hi, hz0, hz1, hz2⟩ := info_parts yinfo3
  obtain ⟨A, hA⟩ : ∃ q, w.heap.size = q := ⟨_, rfl⟩
  obtain ⟨W0, hW0⟩ : ∃ q, (w.alloc (.cells #[.int .i64 x, .int .i64 y, .int .i64 z] 32)).alloc (.cells #[.int .i64 x2, .int .i64 y2, .int .i64 z2] 32) = q := ⟨_, rfl⟩
  have HL : Hid (ST 32 w A (A + 1) (A + 2) W0 (.slice none 0 0) [] x y z x2 y2 z2) := by rw [← hW0, ← hA]; exact new2 w 32 x y z x2 y2 z2 trivial
  obtain ⟨p, hp⟩ : ∃ q, hue x2 29 39 = q := ⟨_, rfl⟩
  obtain ⟨q, hq⟩ : ∃ r, hue y2 39 49 = r := ⟨_, rfl⟩
  rw [hp] at CF
  rw [hq] at CG
  have HP : Hid (hue x2 29 39 = p) := hp
  have HQ : Hid (hue y2 39 49 = q) := hq
  have HA : Hid (w.heap.size = A) := hA
  clear hp hq
  unfold sv
  go_enter Tryd.func84, Tryd.ntmps84
  have r0 := HL.out.ra.c0
  have r1 := HL.out.ra.c1
  have r2 := HL.out.ra.c2
  have s0 := HL.out.rc.c0
  have s1 := HL.out.rc.c1
  have s2 := HL.out.rc.c2
  have rl := HL.out.ra.lt
  have sl := HL.out.rc.lt
  go_upto_if 10 with (fail)
  clear hW0 hA
  have E : Hid (∀ l, chg x y z x2 y2 z2 = l → ∀ w' v a0 a1 a2 b0 b1 b2, ST 32 w A (A + 1) (A + 2) w' v l a0 a1 a2 b0 b1 b2 → w'.ownsRow w.heap.size 3 1 v (chg x y z x2 y2 z2).length ((chg x y z x2 y2 z2).map (Value.int .i64)) ∧ Below w.heap.size w w') := fun l hl w' v a0 a1 a2 b0 b1 b2 h => by rw [hl]; exact ⟨ownsRow_low h.own (by rw [HA.out]; omega), h.bel⟩
  by_cases h1 : z < z2
  · by_cases h2 : x2 = x
    · have t2 : (x2 != x) = false := by simp [h2]
      have H2 : Hid ((x2 = x)) := h2
      clear h2
      by_cases h3 : y2 = y
      · have t3 : (y2 != y) = false := by simp [h3]
        have H3 : Hid ((y2 = y)) := h3
        clear h3
        go_wp2_with (first | (go_at_call 105; (with_reducible refine Calls.mono (CF.out _) ?_); rintro e w2 ⟨rfl, rfl⟩) | (go_at_call 105; (with_reducible refine Calls.mono (CG.out _) ?_); rintro e w2 ⟨rfl, rfl⟩) | (at_builtin; refine wpList_append_own _ rfl _ _ 113 rfl (A + 2) 3 i0 (.int .i64 0) 1 8 Tryd.underlying113 hi hz0 hz1 hz2 rfl (by decide) _ _ _ rfl (HL.out.own.alloc _) _ 1 1 [.int .i64 _] rfl rfl (one_new _ _ _) (one_cell _) (by simp [maxLen]) (by simp) (HL.out.bd _) ?_; intro v1 w1 o1 g1 _; have HL : Hid (ST 32 w A (A + 1) (A + 2) w1 v1 _ _ _ _ _ _ _) := HL.out.next o1 g1; clear o1 g1; have r0 := HL.out.ra.c0; have r1 := HL.out.ra.c1; have r2 := HL.out.ra.c2; have s0 := HL.out.rc.c0; have s1 := HL.out.rc.c1; have s2 := HL.out.rc.c2; have rl := HL.out.ra.lt; have sl := HL.out.rc.lt))
        go_ret
        exact ⟨_, rfl, E.out [1] (by unfold chg cBold cFg cBg; rw [if_pos h1, if_pos H2.out, if_pos H3.out]; rfl) _ _ _ _ _ _ _ _ HL.out⟩
      · have t3 : (y2 != y) = true := by simp [h3]
        have H3 : Hid (¬ (y2 = y)) := h3
        clear h3
        go_wp2_with (first | (go_at_call 105; (with_reducible refine Calls.mono (CF.out _) ?_); rintro e w2 ⟨rfl, rfl⟩) | (go_at_call 105; (with_reducible refine Calls.mono (CG.out _) ?_); rintro e w2 ⟨rfl, rfl⟩) | (at_builtin; refine wpList_append_own _ rfl _ _ 113 rfl (A + 2) 3 i0 (.int .i64 0) 1 8 Tryd.underlying113 hi hz0 hz1 hz2 rfl (by decide) _ _ _ rfl (HL.out.own.alloc _) _ 1 1 [.int .i64 _] rfl rfl (one_new _ _ _) (one_cell _) (by simp [maxLen]) (by simp) (HL.out.bd _) ?_; intro v1 w1 o1 g1 _; have HL : Hid (ST 32 w A (A + 1) (A + 2) w1 v1 _ _ _ _ _ _ _) := HL.out.next o1 g1; clear o1 g1; have r0 := HL.out.ra.c0; have r1 := HL.out.ra.c1; have r2 := HL.out.ra.c2; have s0 := HL.out.rc.c0; have s1 := HL.out.rc.c1; have s2 := HL.out.rc.c2; have rl := HL.out.ra.lt; have sl := HL.out.rc.lt))
        go_ret
        exact ⟨_, rfl, E.out [1, q] (by unfold chg cBold cFg cBg; rw [if_pos h1, if_pos H2.out, if_neg H3.out, HQ.out]; rfl) _ _ _ _ _ _ _ _ HL.out⟩
    · have t2 : (x2 != x) = true := by simp [h2]
      have H2 : Hid (¬ (x2 = x)) := h2
      clear h2
      by_cases h3 : y2 = y
      · have t3 : (y2 != y) = false := by simp [h3]
        have H3 : Hid ((y2 = y)) := h3
        clear h3
        go_wp2_with (first | (go_at_call 105; (with_reducible refine Calls.mono (CF.out _) ?_); rintro e w2 ⟨rfl, rfl⟩) | (go_at_call 105; (with_reducible refine Calls.mono (CG.out _) ?_); rintro e w2 ⟨rfl, rfl⟩) | (at_builtin; refine wpList_append_own _ rfl _ _ 113 rfl (A + 2) 3 i0 (.int .i64 0) 1 8 Tryd.underlying113 hi hz0 hz1 hz2 rfl (by decide) _ _ _ rfl (HL.out.own.alloc _) _ 1 1 [.int .i64 _] rfl rfl (one_new _ _ _) (one_cell _) (by simp [maxLen]) (by simp) (HL.out.bd _) ?_; intro v1 w1 o1 g1 _; have HL : Hid (ST 32 w A (A + 1) (A + 2) w1 v1 _ _ _ _ _ _ _) := HL.out.next o1 g1; clear o1 g1; have r0 := HL.out.ra.c0; have r1 := HL.out.ra.c1; have r2 := HL.out.ra.c2; have s0 := HL.out.rc.c0; have s1 := HL.out.rc.c1; have s2 := HL.out.rc.c2; have rl := HL.out.ra.lt; have sl := HL.out.rc.lt))
        go_ret
        exact ⟨_, rfl, E.out [1, p] (by unfold chg cBold cFg cBg; rw [if_pos h1, if_neg H2.out, if_pos H3.out, HP.out]; rfl) _ _ _ _ _ _ _ _ HL.out⟩
      · have t3 : (y2 != y) = true := by simp [h3]
        have H3 : Hid (¬ (y2 = y)) := h3
        clear h3
        go_wp2_with (first | (go_at_call 105; (with_reducible refine Calls.mono (CF.out _) ?_); rintro e w2 ⟨rfl, rfl⟩) | (go_at_call 105; (with_reducible refine Calls.mono (CG.out _) ?_); rintro e w2 ⟨rfl, rfl⟩) | (at_builtin; refine wpList_append_own _ rfl _ _ 113 rfl (A + 2) 3 i0 (.int .i64 0) 1 8 Tryd.underlying113 hi hz0 hz1 hz2 rfl (by decide) _ _ _ rfl (HL.out.own.alloc _) _ 1 1 [.int .i64 _] rfl rfl (one_new _ _ _) (one_cell _) (by simp [maxLen]) (by simp) (HL.out.bd _) ?_; intro v1 w1 o1 g1 _; have HL : Hid (ST 32 w A (A + 1) (A + 2) w1 v1 _ _ _ _ _ _ _) := HL.out.next o1 g1; clear o1 g1; have r0 := HL.out.ra.c0; have r1 := HL.out.ra.c1; have r2 := HL.out.ra.c2; have s0 := HL.out.rc.c0; have s1 := HL.out.rc.c1; have s2 := HL.out.rc.c2; have rl := HL.out.ra.lt; have sl := HL.out.rc.lt))
        go_ret
        exact ⟨_, rfl, E.out [1, p, q] (by unfold chg cBold cFg cBg; rw [if_pos h1, if_neg H2.out, if_neg H3.out, HP.out, HQ.out]; rfl) _ _ _ _ _ _ _ _ HL.out⟩
  · replace h1 : z2 ≤ z := by omega
    by_cases h2 : x2 = x
    · have t2 : (x2 != x) = false := by simp [h2]
      have H2 : Hid ((x2 = x)) := h2
      clear h2
      by_cases h3 : y2 = y
      · have t3 : (y2 != y) = false := by simp [h3]
        have H3 : Hid ((y2 = y)) := h3
        clear h3
        go_wp2_with (first | (go_at_call 105; (with_reducible refine Calls.mono (CF.out _) ?_); rintro e w2 ⟨rfl, rfl⟩) | (go_at_call 105; (with_reducible refine Calls.mono (CG.out _) ?_); rintro e w2 ⟨rfl, rfl⟩) | (at_builtin; refine wpList_append_own _ rfl _ _ 113 rfl (A + 2) 3 i0 (.int .i64 0) 1 8 Tryd.underlying113 hi hz0 hz1 hz2 rfl (by decide) _ _ _ rfl (HL.out.own.alloc _) _ 1 1 [.int .i64 _] rfl rfl (one_new _ _ _) (one_cell _) (by simp [maxLen]) (by simp) (HL.out.bd _) ?_; intro v1 w1 o1 g1 _; have HL : Hid (ST 32 w A (A + 1) (A + 2) w1 v1 _ _ _ _ _ _ _) := HL.out.next o1 g1; clear o1 g1; have r0 := HL.out.ra.c0; have r1 := HL.out.ra.c1; have r2 := HL.out.ra.c2; have s0 := HL.out.rc.c0; have s1 := HL.out.rc.c1; have s2 := HL.out.rc.c2; have rl := HL.out.ra.lt; have sl := HL.out.rc.lt))
        go_ret
        exact ⟨_, rfl, E.out [] (by unfold chg cBold cFg cBg; rw [if_neg (show ¬ z < z2 by omega), if_pos H2.out, if_pos H3.out]; rfl) _ _ _ _ _ _ _ _ HL.out⟩
      · have t3 : (y2 != y) = true := by simp [h3]
        have H3 : Hid (¬ (y2 = y)) := h3
        clear h3
        go_wp2_with (first | (go_at_call 105; (with_reducible refine Calls.mono (CF.out _) ?_); rintro e w2 ⟨rfl, rfl⟩) | (go_at_call 105; (with_reducible refine Calls.mono (CG.out _) ?_); rintro e w2 ⟨rfl, rfl⟩) | (at_builtin; refine wpList_append_own _ rfl _ _ 113 rfl (A + 2) 3 i0 (.int .i64 0) 1 8 Tryd.underlying113 hi hz0 hz1 hz2 rfl (by decide) _ _ _ rfl (HL.out.own.alloc _) _ 1 1 [.int .i64 _] rfl rfl (one_new _ _ _) (one_cell _) (by simp [maxLen]) (by simp) (HL.out.bd _) ?_; intro v1 w1 o1 g1 _; have HL : Hid (ST 32 w A (A + 1) (A + 2) w1 v1 _ _ _ _ _ _ _) := HL.out.next o1 g1; clear o1 g1; have r0 := HL.out.ra.c0; have r1 := HL.out.ra.c1; have r2 := HL.out.ra.c2; have s0 := HL.out.rc.c0; have s1 := HL.out.rc.c1; have s2 := HL.out.rc.c2; have rl := HL.out.ra.lt; have sl := HL.out.rc.lt))
        go_ret
        exact ⟨_, rfl, E.out [q] (by unfold chg cBold cFg cBg; rw [if_neg (show ¬ z < z2 by omega), if_pos H2.out, if_neg H3.out, HQ.out]; rfl) _ _ _ _ _ _ _ _ HL.out⟩
    · have t2 : (x2 != x) = true := by simp [h2]
      have H2 : Hid (¬ (x2 = x)) := h2
      clear h2
      by_cases h3 : y2 = y
      · have t3 : (y2 != y) = false := by simp [h3]
        have H3 : Hid ((y2 = y)) := h3
        clear h3
        go_wp2_with (first | (go_at_call 105; (with_reducible refine Calls.mono (CF.out _) ?_); rintro e w2 ⟨rfl, rfl⟩) | (go_at_call 105; (with_reducible refine Calls.mono (CG.out _) ?_); rintro e w2 ⟨rfl, rfl⟩) | (at_builtin; refine wpList_append_own _ rfl _ _ 113 rfl (A + 2) 3 i0 (.int .i64 0) 1 8 Tryd.underlying113 hi hz0 hz1 hz2 rfl (by decide) _ _ _ rfl (HL.out.own.alloc _) _ 1 1 [.int .i64 _] rfl rfl (one_new _ _ _) (one_cell _) (by simp [maxLen]) (by simp) (HL.out.bd _) ?_; intro v1 w1 o1 g1 _; have HL : Hid (ST 32 w A (A + 1) (A + 2) w1 v1 _ _ _ _ _ _ _) := HL.out.next o1 g1; clear o1 g1; have r0 := HL.out.ra.c0; have r1 := HL.out.ra.c1; have r2 := HL.out.ra.c2; have s0 := HL.out.rc.c0; have s1 := HL.out.rc.c1; have s2 := HL.out.rc.c2; have rl := HL.out.ra.lt; have sl := HL.out.rc.lt))
        go_ret
        exact ⟨_, rfl, E.out [p] (by unfold chg cBold cFg cBg; rw [if_neg (show ¬ z < z2 by omega), if_neg H2.out, if_pos H3.out, HP.out]; rfl) _ _ _ _ _ _ _ _ HL.out⟩
      · have t3 : (y2 != y) = true := by simp [h3]
        have H3 : Hid (¬ (y2 = y)) := h3
        clear h3
        go_wp2_with (first | (go_at_call 105; (with_reducible refine Calls.mono (CF.out _) ?_); rintro e w2 ⟨rfl, rfl⟩) | (go_at_call 105; (with_reducible refine Calls.mono (CG.out _) ?_); rintro e w2 ⟨rfl, rfl⟩) | (at_builtin; refine wpList_append_own _ rfl _ _ 113 rfl (A + 2) 3 i0 (.int .i64 0) 1 8 Tryd.underlying113 hi hz0 hz1 hz2 rfl (by decide) _ _ _ rfl (HL.out.own.alloc _) _ 1 1 [.int .i64 _] rfl rfl (one_new _ _ _) (one_cell _) (by simp [maxLen]) (by simp) (HL.out.bd _) ?_; intro v1 w1 o1 g1 _; have HL : Hid (ST 32 w A (A + 1) (A + 2) w1 v1 _ _ _ _ _ _ _) := HL.out.next o1 g1; clear o1 g1; have r0 := HL.out.ra.c0; have r1 := HL.out.ra.c1; have r2 := HL.out.ra.c2; have s0 := HL.out.rc.c0; have s1 := HL.out.rc.c1; have s2 := HL.out.rc.c2; have rl := HL.out.ra.lt; have sl := HL.out.rc.lt))
        go_ret
        exact ⟨_, rfl, E.out [p, q] (by unfold chg cBold cFg cBg; rw [if_neg (show ¬ z < z2 by omega), if_neg H2.out, if_neg H3.out, HP.out, HQ.out]; rfl) _ _ _ _ _ _ _ _ HL.out⟩

end Go.Proofs.YtlfffpoeioecjaaDoor
