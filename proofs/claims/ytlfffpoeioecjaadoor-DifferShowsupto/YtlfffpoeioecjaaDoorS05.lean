/-
  Cells of a canvas, by row and column: what is written, and the halves beside it.
-/
import Derived.Test.YtlfffpoeioecjaaDoorS04
import Derived.Laws.AppendOwn
import Derived.OwnWalk
import Derived.Lib.ItoaNum
import Derived.Lib.Join
namespace Go.Proofs.YtlfffpoeioecjaaDoor
set_option linter.unusedVariables false

structure Ce where
  t : ByteArray
  f : Int
  g : Int
  b : Int
  p : Int
def spc : ByteArray := ⟨#[32]⟩
def ept : ByteArray := ⟨#[]⟩
/-- A cell becomes a blank; its style stays. -/
def bl (c : Ce) : Ce := ⟨spc, c.f, c.g, c.b, 0⟩
def bk (f g b : Int) : Ce := ⟨spc, f, g, b, 0⟩
theorem bl_p (c : Ce) : (bl c).p = 0 := rfl
theorem bl_bl (c : Ce) : bl (bl c) = bl c := rfl

/-- A row whose places from a up to z are written. -/
def span (r : Nat → Ce) (a z : Nat) (x : Nat → Ce) : Nat → Ce := fun j =>
  if a ≤ j ∧ j < z then x j
  else if a < z ∧ j + 1 = a ∧ (r a).p = 2 then bl (r j)
  else if a < z ∧ j = z ∧ (r (z - 1)).p = 1 then bl (r j)
  else r j
theorem span_in {r : Nat → Ce} {a z : Nat} {x : Nat → Ce} {j : Nat} (h : a ≤ j ∧ j < z) : span r a z x j = x j := if_pos h
theorem span_none {r : Nat → Ce} {a z : Nat} {x : Nat → Ce} (h : ¬ a < z) : span r a z x = r := by
  funext j; unfold span
  rw [if_neg (by omega), if_neg (fun q => h q.1), if_neg (fun q => h q.1)]
/-- Outside of what is written a cell stays, or becomes a blank. -/
theorem span_out {r : Nat → Ce} {a z : Nat} {x : Nat → Ce} {j : Nat} (h : ¬ (a ≤ j ∧ j < z)) :
    (span r a z x j = r j ∧ ¬ (a < z ∧ j + 1 = a ∧ (r a).p = 2) ∧ ¬ (a < z ∧ j = z ∧ (r (z - 1)).p = 1)) ∨ (span r a z x j = bl (r j) ∧ ((a < z ∧ j + 1 = a ∧ (r a).p = 2) ∨ (a < z ∧ j = z ∧ (r (z - 1)).p = 1))) := by
  unfold span
  rw [if_neg h]
  by_cases h1 : a < z ∧ j + 1 = a ∧ (r a).p = 2
  · right; rw [if_pos h1]; exact ⟨rfl, .inl h1⟩
  · rw [if_neg h1]
    by_cases h2 : a < z ∧ j = z ∧ (r (z - 1)).p = 1
    · right; rw [if_pos h2]; exact ⟨rfl, .inr h2⟩
    · left; rw [if_neg h2]; exact ⟨rfl, h1, h2⟩

/-- In a row every head has its tail, every tail its head. -/
structure PRow (W : Nat) (r : Nat → Ce) : Prop where
  part : ∀ i, i < W → (r i).p = 0 ∨ (r i).p = 1 ∨ (r i).p = 2
  head : ∀ i, i < W → (r i).p = 1 → i + 1 < W ∧ (r (i + 1)).p = 2 ∧ (r (i + 1)).f = (r i).f ∧ (r (i + 1)).g = (r i).g ∧ (r (i + 1)).b = (r i).b
  tail : ∀ i, i < W → (r i).p = 2 → ∃ k, i = k + 1 ∧ (r k).p = 1 ∧ (r i).t = ept

section
variable {W a z : Nat} {r x : Nat → Ce}
/-- What is beside stays in pairs, whatever is written in whole. -/
theorem PRow.beside (h : PRow W r) (zW : z ≤ W) {i : Nat} (hi : i < W) (ho : ¬ (a ≤ i ∧ i < z)) :
    ((span r a z x i).p = 0 ∨ (span r a z x i).p = 1 ∨ (span r a z x i).p = 2)
    ∧ ((span r a z x i).p = 1 → span r a z x i = r i ∧ span r a z x (i + 1) = r (i + 1) ∧ (r i).p = 1)
    ∧ ((span r a z x i).p = 2 → span r a z x i = r i ∧ (r i).p = 2 ∧ ∃ k, i = k + 1 ∧ span r a z x k = r k) := by
  rcases span_out (r := r) (x := x) ho with ⟨e, n1, n2⟩ | ⟨e, hh⟩
  · rw [e]
    refine ⟨h.part i hi, fun hp => ⟨rfl, ?_, hp⟩, fun hp => ⟨rfl, hp, ?_⟩⟩
    · obtain ⟨h1, h2, _⟩ := h.head i hi hp
      by_cases hin : a ≤ i + 1 ∧ i + 1 < z
      · exfalso
        have : i + 1 = a := by omega
        subst this
        exact n1 ⟨by omega, rfl, h2⟩
      · rcases span_out (r := r) (x := x) hin with ⟨e2, _⟩ | ⟨e2, h3 | h3⟩
        · exact e2
        · exfalso
          obtain ⟨k, hk, hk1, _⟩ := h.tail a (by omega) h3.2.2
          have : k = i + 1 := by omega
          subst this
          rw [h2] at hk1; omega
        · exfalso
          omega
    · obtain ⟨k, hk, hk1, _⟩ := h.tail i hi hp
      refine ⟨k, hk, ?_⟩
      by_cases hin : a ≤ k ∧ k < z
      · exfalso
        have : i = z := by omega
        subst this
        refine n2 ⟨by omega, rfl, ?_⟩
        rw [hk, show k + 1 - 1 = k by omega]; exact hk1
      · rcases span_out (r := r) (x := x) hin with ⟨e2, _⟩ | ⟨e2, h3 | h3⟩
        · exact e2
        · exfalso
          omega
        · exfalso
          obtain ⟨q1, q2, _⟩ := h.head (z - 1) (by omega) h3.2.2
          have : z - 1 + 1 = k := by omega
          rw [this, hk1] at q2
          omega
  · rw [e]
    refine ⟨.inl rfl, fun hp => ?_, fun hp => ?_⟩ <;> (rw [bl_p] at hp; omega)
theorem PRow.span0 (h : PRow W r) (zW : z ≤ W) (hx : ∀ j, a ≤ j → j < z → (x j).p = 0) : PRow W (span r a z x) := by
  refine ⟨fun i hi => ?_, fun i hi hp => ?_, fun i hi hp => ?_⟩ <;> by_cases hin : a ≤ i ∧ i < z
  · rw [span_in hin]; exact .inl (hx i hin.1 hin.2)
  · exact (h.beside zW hi hin).1
  · rw [span_in hin, hx i hin.1 hin.2] at hp; omega
  · obtain ⟨e1, e2, e3⟩ := (h.beside zW hi hin).2.1 hp
    rw [e1, e2]; exact h.head i hi e3
  · rw [span_in hin, hx i hin.1 hin.2] at hp; omega
  · obtain ⟨e1, e2, k, hk, e3⟩ := (h.beside zW hi hin).2.2 hp
    obtain ⟨k', hk', h1, h2⟩ := h.tail i hi e2
    obtain rfl : k = k' := by omega
    exact ⟨k, hk, by rw [e3]; exact h1, by rw [e1]; exact h2⟩
theorem PRow.span2 (h : PRow W r) (zW : a + 2 ≤ W) (h1 : (x a).p = 1) (h2 : (x (a + 1)).p = 2) (hf : (x (a + 1)).f = (x a).f) (hg : (x (a + 1)).g = (x a).g) (hb : (x (a + 1)).b = (x a).b) (ht : (x (a + 1)).t = ept) : PRow W (span r a (a + 2) x) := by
  have e0 : span r a (a + 2) x a = x a := span_in (by omega)
  have e1 : span r a (a + 2) x (a + 1) = x (a + 1) := span_in (by omega)
  refine ⟨fun i hi => ?_, fun i hi hp => ?_, fun i hi hp => ?_⟩ <;> by_cases hin : a ≤ i ∧ i < a + 2
  · rcases (by omega : i = a ∨ i = a + 1) with rfl | rfl
    · rw [e0]; exact .inr (.inl h1)
    · rw [e1]; exact .inr (.inr h2)
  · exact (h.beside zW hi hin).1
  · rcases (by omega : i = a ∨ i = a + 1) with rfl | rfl
    · rw [e0, e1]; exact ⟨by omega, h2, hf, hg, hb⟩
    · rw [e1, h2] at hp; omega
  · obtain ⟨q1, q2, q3⟩ := (h.beside zW hi hin).2.1 hp
    rw [q1, q2]; exact h.head i hi q3
  · rcases (by omega : i = a ∨ i = a + 1) with rfl | rfl
    · rw [e0, h1] at hp; omega
    · exact ⟨a, rfl, by rw [e0]; exact h1, by rw [e1]; exact ht⟩
  · obtain ⟨q1, q2, k, hk, q3⟩ := (h.beside zW hi hin).2.2 hp
    obtain ⟨k', hk', r1, r2⟩ := h.tail i hi q2
    obtain rfl : k = k' := by omega
    exact ⟨k, hk, by rw [q3]; exact r1, by rw [q1]; exact r2⟩
/-- Blanks that are put one by one. -/
theorem PRow.next (h : PRow W r) {m : Nat} (am : a ≤ m) (mW : m < W) (hx : ∀ j, (x j).p = 0) : span (span r a m x) m (m + 1) x = span r a (m + 1) x := by
  by_cases e : a = m
  · subst e
    rw [span_none (r := r) (a := a) (z := a) (by omega)]
  have am' : a < m := by omega
  -- the cell at m, as it is before
  have hm : (span r a m x m).p ≠ 2 ∧ ((span r a m x m).p = 1 ↔ (r m).p = 1) := by
    rcases span_out (r := r) (a := a) (z := m) (x := x) (j := m) (by omega) with ⟨e1, _, n2⟩ | ⟨e1, h3 | h3⟩
    · rw [e1]
      refine ⟨fun h2 => ?_, Iff.rfl⟩
      obtain ⟨k, hk, hk1, _⟩ := h.tail m mW h2
      exact n2 ⟨am', rfl, by rw [hk, show k + 1 - 1 = k by omega]; exact hk1⟩
    · omega
    · rw [e1, bl_p]
      refine ⟨by omega, fun q => by omega, fun q => ?_⟩
      obtain ⟨_, q2, _⟩ := h.head (m - 1) (by omega) h3.2.2
      rw [show m - 1 + 1 = m by omega] at q2
      omega
  funext j
  by_cases h1 : a ≤ j ∧ j < m + 1
  · rw [span_in (r := r) h1]
    by_cases h2 : j = m
    · rw [span_in (by omega)]
    · unfold span
      rw [if_neg (by omega), if_neg, if_neg (by omega), if_pos (by omega)]
      rintro ⟨_, _, q⟩
      exact hm.1 q
  · unfold span
    rw [if_neg (by omega), if_neg (by omega), if_neg h1]
    by_cases h2 : j = m + 1
    · subst h2
      have c1 : (m + 1 - 1) = m := by omega
      rw [c1]
      have e0 : span r a m x (m + 1) = r (m + 1) := by
        unfold span; rw [if_neg (by omega), if_neg (by omega), if_neg (by omega)]
      change (if m < m + 1 ∧ m + 1 = m + 1 ∧ (span r a m x m).p = 1 then bl (span r a m x (m + 1)) else span r a m x (m + 1)) = _
      rw [e0, if_neg (c := a < m + 1 ∧ m + 1 + 1 = a ∧ (r a).p = 2) (by omega)]
      by_cases h3 : (r m).p = 1
      · rw [if_pos ⟨by omega, rfl, hm.2.2 h3⟩, if_pos ⟨by omega, rfl, h3⟩]
      · rw [if_neg (fun q => h3 (hm.2.1 q.2.2)), if_neg (fun q => h3 q.2.2)]
    · rw [if_neg (by omega), if_neg (by omega)]
      by_cases h3 : j + 1 = a ∧ (r a).p = 2
      · rw [if_pos ⟨am', h3⟩, if_pos ⟨by omega, h3⟩]
      · rw [if_neg (c := a < m ∧ j + 1 = a ∧ (r a).p = 2) (fun q => h3 q.2), if_neg (c := a < m + 1 ∧ j + 1 = a ∧ (r a).p = 2) (fun q => h3 q.2), if_neg (by omega), if_neg (by omega)]
/-- Written once more with the same, nothing changes. -/
theorem span_again (h0 : (x a).p ≠ 2) (h1 : (x (z - 1)).p ≠ 1) : span (span r a z x) a z x = span r a z x := by
  by_cases haz : a < z
  · funext j
    by_cases hin : a ≤ j ∧ j < z
    · rw [span_in hin, span_in hin]
    · rcases span_out (r := span r a z x) (x := x) hin with ⟨e, _⟩ | ⟨e, hh | hh⟩
      · exact e
      · rw [span_in (by omega)] at hh; exact absurd hh.2.2 h0
      · rw [span_in (by omega)] at hh; exact absurd hh.2.2 h1
  · rw [span_none haz, span_none haz]
end

/-- The places of a rectangle are written, row by row. -/
def fill (c : Nat → Nat → Ce) (l r t d : Nat) (x : Nat → Ce) : Nat → Nat → Ce := fun y => if t ≤ y ∧ y < d then span (c y) l r x else c y
def PAll (W H : Nat) (c : Nat → Nat → Ce) : Prop := ∀ y, y < H → PRow W (c y)
section
variable {W H l r t d : Nat} {c : Nat → Nat → Ce} {x : Nat → Ce}
theorem fill_none (h : ¬ (l < r ∧ t < d)) : fill c l r t d x = c := by
  funext y; unfold fill
  split
  · rw [span_none (by omega)]
  · rfl
theorem PAll.fill0 (h : PAll W H c) (hr : r ≤ W) (hx : ∀ j, (x j).p = 0) : PAll W H (fill c l r t d x) := by
  intro y hy; unfold fill
  split
  · exact (h y hy).span0 hr (fun j _ _ => hx j)
  · exact h y hy
theorem PAll.fill2 (h : PAll W H c) (zW : l + 2 ≤ W) (h1 : (x l).p = 1) (h2 : (x (l + 1)).p = 2) (hf : (x (l + 1)).f = (x l).f) (hg : (x (l + 1)).g = (x l).g) (hb : (x (l + 1)).b = (x l).b) (ht : (x (l + 1)).t = ept) : PAll W H (fill c l (l + 2) t d x) := by
  intro y hy; unfold fill
  split
  · exact (h y hy).span2 zW h1 h2 hf hg hb ht
  · exact h y hy
theorem fill_next (htd : t ≤ d) : fill (fill c l r t d x) l r d (d + 1) x = fill c l r t (d + 1) x := by
  funext y; unfold fill
  by_cases h : y = d
  · subst h
    rw [if_pos (by omega), if_neg (by omega), if_pos (by omega)]
  · rw [if_neg (by omega)]
    by_cases h2 : t ≤ y ∧ y < d
    · rw [if_pos h2, if_pos (by omega)]
    · rw [if_neg h2, if_neg (by omega)]
theorem fill_again (h0 : (x l).p ≠ 2) (h1 : (x (r - 1)).p ≠ 1) : fill (fill c l r t d x) l r t d x = fill c l r t d x := by
  funext y; unfold fill
  split
  · exact span_again h0 h1
  · rfl
/-- A cell beyond what is written stays, or was a half and is a blank now. -/
theorem fill_out (h : PAll W H c) (hr : r ≤ W) {y j : Nat} (hy : y < H) (hj : j < W) (ho : ¬ (t ≤ y ∧ y < d ∧ l ≤ j ∧ j < r)) : fill c l r t d x y j = c y j ∨ (fill c l r t d x y j = bl (c y j) ∧ (c y j).p ≠ 0) := by
  unfold fill
  by_cases h1 : t ≤ y ∧ y < d
  · rw [if_pos h1]
    rcases span_out (r := c y) (a := l) (z := r) (x := x) (j := j) (by omega) with ⟨e, _⟩ | ⟨e, hh | hh⟩
    · exact .inl e
    · refine .inr ⟨e, ?_⟩
      obtain ⟨k, hk, hk1, _⟩ := (h y hy).tail l (by omega) hh.2.2
      have : k = j := by omega
      rw [← this, hk1]; omega
    · refine .inr ⟨e, ?_⟩
      obtain ⟨_, q, _⟩ := (h y hy).head (r - 1) (by omega) hh.2.2
      rw [show r - 1 + 1 = j by omega] at q
      rw [q]; omega
  · rw [if_neg h1]; exact .inl rfl
end
end Go.Proofs.YtlfffpoeioecjaaDoor

namespace Go.Proofs.YtlfffpoeioecjaaDoor
open Go.RowKit Go.Sort
set_option linter.unusedVariables false

/-- A colour's number. -/
def hue (n base own : Int) : Int := if n = 0 then own else base + n
def cBold (z z2 : Int) : List Int := if z < z2 then [1] else []
def cFg (x x2 : Int) : List Int := if x2 = x then [] else [hue x2 29 39]
def cBg (y y2 : Int) : List Int := if y2 = y then [] else [hue y2 39 49]
def chg (x y z x2 y2 z2 : Int) : List Int := cBold z z2 ++ (cFg x x2 ++ cBg y y2)
/-- The numbers of Codes. -/
def nms (x y z x2 y2 z2 : Int) : List Int :=
  if x = x2 ∧ y = y2 ∧ z = z2 then [] else if x2 = 0 ∧ y2 = 0 ∧ z2 = 0 then [0] else if z2 < z then 0 :: chg 0 0 0 x2 y2 z2 else chg x y z x2 y2 z2
def dc (n : Int) : List UInt8 := Lib.decDigits n.toNat
/-- A sequence that a terminal reads. -/
def sq (ns : List Int) : List UInt8 := [27, 91] ++ (Lib.join (ns.map dc) [59] ++ [109])
/-- What Codes answers. -/
def cds (ns : List Int) : List UInt8 := if ns = [] then [] else sq ns
theorem hue_bd {n b o : Int} (h : 0 ≤ n ∧ n ≤ 8) (hb : 0 ≤ b ∧ b ≤ 80) (ho : 0 ≤ o ∧ o < 100) : 0 ≤ hue n b o ∧ hue n b o < 100 := by unfold hue; split <;> omega
def Small (ns : List Int) : Prop := ∀ n ∈ ns, 0 ≤ n ∧ n < 100
theorem Small.app {a b : List Int} (h : Small a) (k : Small b) : Small (a ++ b) := fun n hn => by rcases List.mem_append.1 hn with h1 | h1; exact h n h1; exact k n h1
theorem chg_small {x y z x2 y2 z2 : Int} (hx : 0 ≤ x2 ∧ x2 ≤ 8) (hy : 0 ≤ y2 ∧ y2 ≤ 8) : Small (chg x y z x2 y2 z2) := by
  refine Small.app ?_ (Small.app ?_ ?_)
  · unfold cBold; split
    · intro n hn; simp at hn; omega
    · intro n hn; simp at hn
  · unfold cFg; split
    · intro n hn; simp at hn
    · intro n hn; simp only [List.mem_singleton] at hn; subst hn; exact hue_bd hx (by decide) (by decide)
  · unfold cBg; split
    · intro n hn; simp at hn
    · intro n hn; simp only [List.mem_singleton] at hn; subst hn; exact hue_bd hy (by decide) (by decide)
theorem chg_len (x y z x2 y2 z2 : Int) : (chg x y z x2 y2 z2).length ≤ 3 := by
  unfold chg cBold cFg cBg; (repeat' split) <;> simp
theorem nms_small {x y z x2 y2 z2 : Int} (hx : 0 ≤ x2 ∧ x2 ≤ 8) (hy : 0 ≤ y2 ∧ y2 ≤ 8) : Small (nms x y z x2 y2 z2) := by
  unfold nms; split
  · intro n hn; simp at hn
  · split
    · intro n hn; simp at hn; omega
    · split
      · intro n hn
        rcases List.mem_cons.1 hn with rfl | h
        · omega
        · exact chg_small hx hy n h
      · exact chg_small hx hy
theorem nms_len (x y z x2 y2 z2 : Int) : (nms x y z x2 y2 z2).length ≤ 4 := by
  unfold nms; have := chg_len x y z x2 y2 z2; have := chg_len 0 0 0 x2 y2 z2; (repeat' split) <;> simp <;> omega

theorem ownsRow_low {w : World} {B B' : Nat} {e : TypeId} {size : Nat} {v : Value} {n : Nat} {xs : List Value} (h : w.ownsRow B e size v n xs) (hB : B' ≤ B) : w.ownsRow B' e size v n xs := by
  refine ⟨h.1, ?_⟩
  rcases h.2 with h2 | ⟨g, cap, cur, a, b, c⟩
  · exact .inl h2
  · exact .inr ⟨g, cap, cur, a, Nat.le_trans hB b, c⟩
theorem one_new (w : World) (u : Value) (T : TypeId) (j : Nat) (x : Value) (h : [u][j]? = some x) : (w.alloc (.cells #[u] T)).cell? ((⟨w.heap.size, 0, none⟩ : Addr).add j) = some x := by
  rcases j with _ | j
  · simp at h; subst h; show (w.alloc (.cells #[u] T)).cell? ⟨w.heap.size, 0, none⟩ = _; unfold World.cell?; rw [show (w.alloc (.cells #[u] T)).heap[w.heap.size]? = some (.cells #[u] T) from heap_alloc_new _ _]; rfl
  · simp at h
theorem one_cell (n : Int) (u : Value) (h : u ∈ [Value.int .i64 n]) : u.oneCell' = true := by simp at h; subst h; rfl
theorem yinfo3 : (Tryd.prog.info? 3).map (fun i => (i.zero, i.size, i.bytes)) = some (some (.int .i64 0), 1, 8) := by kernel_rfl

/-- Numbers are appended to v; beside them lie a style at A, and one at C. -/
structure ST (T : TypeId) (w : World) (A C B : Nat) (cur : World) (v : Value) (xs : List Int) (a0 a1 a2 c0 c1 c2 : Int) : Prop where
  own : cur.ownsRow B 3 1 v xs.length (xs.map (Value.int .i64))
  ra : R3 T cur A a0 a1 a2
  rc : R3 T cur C c0 c1 c2
  bel : Below w.heap.size w cur
  hA : w.heap.size ≤ A ∧ A < B ∧ w.heap.size ≤ C ∧ C < B ∧ A ≠ C ∧ B ≤ cur.heap.size
section
variable {T : TypeId} {w cur : World} {A C B : Nat} {v : Value} {xs : List Int} {a0 a1 a2 c0 c1 c2 : Int}
theorem ST.next (h : ST T w A C B cur v xs a0 a1 a2 c0 c1 c2) {o : Obj} {v' : Value} {w' : World} {x : Int} (ho : w'.ownsRow B 3 1 v' (xs.length + 1) (xs.map (Value.int .i64) ++ [.int .i64 x])) (hg : (cur.alloc o).grownBy w' v.ownBlock) : ST T w A C B w' v' (xs ++ [x]) a0 a1 a2 c0 c1 c2 := by
  have hlt : ∀ k, v.ownBlock = some k → B ≤ k := fun k hk => (h.own.lt k hk).1
  obtain ⟨q1, q2, q3, q4, q5, q6⟩ := h.hA
  have keep : ∀ k, k < B → w'.heap[k]? = cur.heap[k]? := fun k hk => by
    rw [hg.block k (by rw [World.size_alloc]; omega) (fun e => by have := hlt k e.symm; omega), Below.heap_alloc _ _ _ (by omega)]
  refine ⟨by rw [List.length_append, List.map_append]; exact ho, (keep A q2).trans h.ra, (keep C q4).trans h.rc, ?_, q1, q2, q3, q4, q5, ?_⟩
  · exact (h.bel.alloc (by omega) o).grown hg (by rw [World.size_alloc]; omega) (fun k hk => by have := hlt k hk; omega)
  · have := hg.size; rw [World.size_alloc] at this; omega
theorem ST.bd (h : ST T w A C B cur v xs a0 a1 a2 c0 c1 c2) (o : Obj) : B ≤ (cur.alloc o).heap.size := by have := h.hA; rw [World.size_alloc]; omega
theorem ST.zero (h : ST T w A C B cur v xs a0 a1 a2 c0 c1 c2) : ST T w A C B (((cur.setCell ⟨A, 0, none⟩ (.int .i64 0)).setCell ⟨A, 1, none⟩ (.int .i64 0)).setCell ⟨A, 2, none⟩ (.int .i64 0)) v xs 0 0 0 c0 c1 c2 := by
  obtain ⟨q1, q2, q3, q4, q5, q6⟩ := h.hA
  refine ⟨ownsRow_setCell_below (ownsRow_setCell_below (ownsRow_setCell_below h.own q2 _) q2 _) q2 _, h.ra.set 0 0 0, h.rc.others (fun e => q5 e.symm) _ _ _, ?_, q1, q2, q3, q4, q5, by simpa [World.setCell] using q6⟩
  exact ((h.bel.setCell q1 _).setCell q1 _).setCell q1 _
end
set_option maxRecDepth 100000 in
theorem colour_any (n b o : Int) (w : World) (h : 0 ≤ n ∧ n ≤ 8) (hb : 0 ≤ b ∧ b ≤ 80) : Calls Tryd.prog 105 #[.int .i64 n, .int .i64 b, .int .i64 o] w fun e w' => e = .returned (.int .i64 (hue n b o)) ∧ w' = w := by
  go_enter Tryd.func105, Tryd.ntmps105
  by_cases h1 : n = 0
  · subst h1
    go_wp2
    go_ret
    exact ⟨rfl, rfl⟩
  · go_wp2
    go_ret
    exact ⟨by unfold hue; rw [if_neg h1]; rfl, rfl⟩

theorem new2 (w : World) (T : TypeId) (f g b f2 g2 b2 : Int) (hw : True) : ST T w w.heap.size (w.heap.size + 1) (w.heap.size + 2) ((w.alloc (.cells #[.int .i64 f, .int .i64 g, .int .i64 b] T)).alloc (.cells #[.int .i64 f2, .int .i64 g2, .int .i64 b2] T)) (.slice none 0 0) [] f g b f2 g2 b2 := by
  refine ⟨World.ownsRow_nil _ _ _ _, (R3.new w _ _ _ _).gr ((Gr.refl _).alloc _), ?_, (((Gr.refl w).alloc _).alloc _).below, ?_⟩
  · have := R3.new (w.alloc (.cells #[.int .i64 f, .int .i64 g, .int .i64 b] T)) f2 g2 b2 T
    simp only [World.size_alloc] at this
    exact this
  · simp only [World.size_alloc]; omega

set_option maxRecDepth 100000 in
set_option maxHeartbeats 4000000 in
theorem changes_any (x y z x2 y2 z2 : Int) (w : World) (hx2 : 0 ≤ x2 ∧ x2 ≤ 8) (hy2 : 0 ≤ y2 ∧ y2 ≤ 8) : Calls Tryd.prog 84 #[sv x y z, sv x2 y2 z2] w fun e w' => ∃ v, e = .returned v ∧ w'.ownsRow w.heap.size 3 1 v (chg x y z x2 y2 z2).length ((chg x y z x2 y2 z2).map (Value.int .i64)) ∧ Below w.heap.size w w' := by
  have CF : Hid (∀ w, Calls Tryd.prog 105 #[.int .i64 x2, .int .i64 29, .int .i64 39] w fun e w' => e = .returned (.int .i64 (hue x2 29 39)) ∧ w' = w) := fun w => colour_any _ _ _ w hx2 (by decide)
  have CG : Hid (∀ w, Calls Tryd.prog 105 #[.int .i64 y2, .int .i64 39, .int .i64 49] w fun e w' => e = .returned (.int .i64 (hue y2 39 49)) ∧ w' = w) := fun w => colour_any _ _ _ w hy2 (by decide)
  obtain ⟨i0, hi, hz0, hz1, hz2⟩ := info_parts yinfo3
  obtain ⟨A, hA⟩ : ∃ q, w.heap.size = q := ⟨_, rfl⟩
  obtain ⟨W0, hW0⟩ : ∃ q, (w.alloc (.cells #[.int .i64 x, .int .i64 y, .int .i64 z] 32)).alloc (.cells #[.int .i64 x2, .int .i64 y2, .int .i64 z2] 32) = q := ⟨_, rfl⟩
  have HL : Hid (ST 32 w A (A + 1) (A + 2) W0 (.slice none 0 0) [] x y z x2 y2 z2) := by rw [← hW0, ← hA]; exact new2 w 32 x y z x2 y2 z2 trivial
  obtain ⟨p, hp⟩ : ∃ q, hue x2 29 39 = q := ⟨_, rfl⟩
  obtain ⟨q, hq⟩ : ∃ r, hue y2 39 49 = r := ⟨_, rfl⟩
  rw [hp] at CF
  rw [hq] at CG
  have HP : Hid (hue x2 29 39 = p) := hp
  have HQ : Hid (hue y2 39 49 = q) := hq
  have HA : Hid (w.heap.size = A) := hA
  clear hp hq
  unfold sv
  go_enter Tryd.func84, Tryd.ntmps84
  have r0 := HL.out.ra.c0
  have r1 := HL.out.ra.c1
  have r2 := HL.out.ra.c2
  have s0 := HL.out.rc.c0
  have s1 := HL.out.rc.c1
  have s2 := HL.out.rc.c2
  have rl := HL.out.ra.lt
  have sl := HL.out.rc.lt
  go_upto_if 10 with (fail)
  clear hW0 hA
  have E : Hid (∀ l, chg x y z x2 y2 z2 = l → ∀ w' v a0 a1 a2 b0 b1 b2, ST 32 w A (A + 1) (A + 2) w' v l a0 a1 a2 b0 b1 b2 → w'.ownsRow w.heap.size 3 1 v (chg x y z x2 y2 z2).length ((chg x y z x2 y2 z2).map (Value.int .i64)) ∧ Below w.heap.size w w') := fun l hl w' v a0 a1 a2 b0 b1 b2 h => by rw [hl]; exact ⟨ownsRow_low h.own (by rw [HA.out]; omega), h.bel⟩
  by_cases h1 : z < z2
  · by_cases h2 : x2 = x
    · have t2 : (x2 != x) = false := by simp [h2]
      have H2 : Hid ((x2 = x)) := h2
      clear h2
      by_cases h3 : y2 = y
      · have t3 : (y2 != y) = false := by simp [h3]
        have H3 : Hid ((y2 = y)) := h3
        clear h3
        go_wp2_with (first | (go_at_call 105; (with_reducible refine Calls.mono (CF.out _) ?_); rintro e w2 ⟨rfl, rfl⟩) | (go_at_call 105; (with_reducible refine Calls.mono (CG.out _) ?_); rintro e w2 ⟨rfl, rfl⟩) | (at_builtin; refine wpList_append_own _ rfl _ _ 113 rfl (A + 2) 3 i0 (.int .i64 0) 1 8 Tryd.underlying113 hi hz0 hz1 hz2 rfl (by decide) _ _ _ rfl (HL.out.own.alloc _) _ 1 1 [.int .i64 _] rfl rfl (one_new _ _ _) (one_cell _) (by simp [maxLen]) (by simp) (HL.out.bd _) ?_; intro v1 w1 o1 g1 _; have HL : Hid (ST 32 w A (A + 1) (A + 2) w1 v1 _ _ _ _ _ _ _) := HL.out.next o1 g1; clear o1 g1; have r0 := HL.out.ra.c0; have r1 := HL.out.ra.c1; have r2 := HL.out.ra.c2; have s0 := HL.out.rc.c0; have s1 := HL.out.rc.c1; have s2 := HL.out.rc.c2; have rl := HL.out.ra.lt; have sl := HL.out.rc.lt))
        go_ret
        exact ⟨_, rfl, E.out [1] (by unfold chg cBold cFg cBg; rw [if_pos h1, if_pos H2.out, if_pos H3.out]; rfl) _ _ _ _ _ _ _ _ HL.out⟩
      · have t3 : (y2 != y) = true := by simp [h3]
        have H3 : Hid (¬ (y2 = y)) := h3
        clear h3
        go_wp2_with (first | (go_at_call 105; (with_reducible refine Calls.mono (CF.out _) ?_); rintro e w2 ⟨rfl, rfl⟩) | (go_at_call 105; (with_reducible refine Calls.mono (CG.out _) ?_); rintro e w2 ⟨rfl, rfl⟩) | (at_builtin; refine wpList_append_own _ rfl _ _ 113 rfl (A + 2) 3 i0 (.int .i64 0) 1 8 Tryd.underlying113 hi hz0 hz1 hz2 rfl (by decide) _ _ _ rfl (HL.out.own.alloc _) _ 1 1 [.int .i64 _] rfl rfl (one_new _ _ _) (one_cell _) (by simp [maxLen]) (by simp) (HL.out.bd _) ?_; intro v1 w1 o1 g1 _; have HL : Hid (ST 32 w A (A + 1) (A + 2) w1 v1 _ _ _ _ _ _ _) := HL.out.next o1 g1; clear o1 g1; have r0 := HL.out.ra.c0; have r1 := HL.out.ra.c1; have r2 := HL.out.ra.c2; have s0 := HL.out.rc.c0; have s1 := HL.out.rc.c1; have s2 := HL.out.rc.c2; have rl := HL.out.ra.lt; have sl := HL.out.rc.lt))
        go_ret
        exact ⟨_, rfl, E.out [1, q] (by unfold chg cBold cFg cBg; rw [if_pos h1, if_pos H2.out, if_neg H3.out, HQ.out]; rfl) _ _ _ _ _ _ _ _ HL.out⟩
    · have t2 : (x2 != x) = true := by simp [h2]
      have H2 : Hid (¬ (x2 = x)) := h2
      clear h2
      by_cases h3 : y2 = y
      · have t3 : (y2 != y) = false := by simp [h3]
        have H3 : Hid ((y2 = y)) := h3
        clear h3
        go_wp2_with (first | (go_at_call 105; (with_reducible refine Calls.mono (CF.out _) ?_); rintro e w2 ⟨rfl, rfl⟩) | (go_at_call 105; (with_reducible refine Calls.mono (CG.out _) ?_); rintro e w2 ⟨rfl, rfl⟩) | (at_builtin; refine wpList_append_own _ rfl _ _ 113 rfl (A + 2) 3 i0 (.int .i64 0) 1 8 Tryd.underlying113 hi hz0 hz1 hz2 rfl (by decide) _ _ _ rfl (HL.out.own.alloc _) _ 1 1 [.int .i64 _] rfl rfl (one_new _ _ _) (one_cell _) (by simp [maxLen]) (by simp) (HL.out.bd _) ?_; intro v1 w1 o1 g1 _; have HL : Hid (ST 32 w A (A + 1) (A + 2) w1 v1 _ _ _ _ _ _ _) := HL.out.next o1 g1; clear o1 g1; have r0 := HL.out.ra.c0; have r1 := HL.out.ra.c1; have r2 := HL.out.ra.c2; have s0 := HL.out.rc.c0; have s1 := HL.out.rc.c1; have s2 := HL.out.rc.c2; have rl := HL.out.ra.lt; have sl := HL.out.rc.lt))
        go_ret
        exact ⟨_, rfl, E.out [1, p] (by unfold chg cBold cFg cBg; rw [if_pos h1, if_neg H2.out, if_pos H3.out, HP.out]; rfl) _ _ _ _ _ _ _ _ HL.out⟩
      · have t3 : (y2 != y) = true := by simp [h3]
        have H3 : Hid (¬ (y2 = y)) := h3
        clear h3
        go_wp2_with (first | (go_at_call 105; (with_reducible refine Calls.mono (CF.out _) ?_); rintro e w2 ⟨rfl, rfl⟩) | (go_at_call 105; (with_reducible refine Calls.mono (CG.out _) ?_); rintro e w2 ⟨rfl, rfl⟩) | (at_builtin; refine wpList_append_own _ rfl _ _ 113 rfl (A + 2) 3 i0 (.int .i64 0) 1 8 Tryd.underlying113 hi hz0 hz1 hz2 rfl (by decide) _ _ _ rfl (HL.out.own.alloc _) _ 1 1 [.int .i64 _] rfl rfl (one_new _ _ _) (one_cell _) (by simp [maxLen]) (by simp) (HL.out.bd _) ?_; intro v1 w1 o1 g1 _; have HL : Hid (ST 32 w A (A + 1) (A + 2) w1 v1 _ _ _ _ _ _ _) := HL.out.next o1 g1; clear o1 g1; have r0 := HL.out.ra.c0; have r1 := HL.out.ra.c1; have r2 := HL.out.ra.c2; have s0 := HL.out.rc.c0; have s1 := HL.out.rc.c1; have s2 := HL.out.rc.c2; have rl := HL.out.ra.lt; have sl := HL.out.rc.lt))
        go_ret
        exact ⟨_, rfl, E.out [1, p, q] (by unfold chg cBold cFg cBg; rw [if_pos h1, if_neg H2.out, if_neg H3.out, HP.out, HQ.out]; rfl) _ _ _ _ _ _ _ _ HL.out⟩
  · replace h1 : z2 ≤ z := by omega
    by_cases h2 : x2 = x
    · have t2 : (x2 != x) = false := by simp [h2]
      have H2 : Hid ((x2 = x)) := h2
      clear h2
      by_cases h3 : y2 = y
      · have t3 : (y2 != y) = false := by simp [h3]
        have H3 : Hid ((y2 = y)) := h3
        clear h3
        go_wp2_with (first | (go_at_call 105; (with_reducible refine Calls.mono (CF.out _) ?_); rintro e w2 ⟨rfl, rfl⟩) | (go_at_call 105; (with_reducible refine Calls.mono (CG.out _) ?_); rintro e w2 ⟨rfl, rfl⟩) | (at_builtin; refine wpList_append_own _ rfl _ _ 113 rfl (A + 2) 3 i0 (.int .i64 0) 1 8 Tryd.underlying113 hi hz0 hz1 hz2 rfl (by decide) _ _ _ rfl (HL.out.own.alloc _) _ 1 1 [.int .i64 _] rfl rfl (one_new _ _ _) (one_cell _) (by simp [maxLen]) (by simp) (HL.out.bd _) ?_; intro v1 w1 o1 g1 _; have HL : Hid (ST 32 w A (A + 1) (A + 2) w1 v1 _ _ _ _ _ _ _) := HL.out.next o1 g1; clear o1 g1; have r0 := HL.out.ra.c0; have r1 := HL.out.ra.c1; have r2 := HL.out.ra.c2; have s0 := HL.out.rc.c0; have s1 := HL.out.rc.c1; have s2 := HL.out.rc.c2; have rl := HL.out.ra.lt; have sl := HL.out.rc.lt))
        go_ret
        exact ⟨_, rfl, E.out [] (by unfold chg cBold cFg cBg; rw [if_neg (show ¬ z < z2 by omega), if_pos H2.out, if_pos H3.out]; rfl) _ _ _ _ _ _ _ _ HL.out⟩
      · have t3 : (y2 != y) = true := by simp [h3]
        have H3 : Hid (¬ (y2 = y)) := h3
        clear h3
        go_wp2_with (first | (go_at_call 105; (with_reducible refine Calls.mono (CF.out _) ?_); rintro e w2 ⟨rfl, rfl⟩) | (go_at_call 105; (with_reducible refine Calls.mono (CG.out _) ?_); rintro e w2 ⟨rfl, rfl⟩) | (at_builtin; refine wpList_append_own _ rfl _ _ 113 rfl (A + 2) 3 i0 (.int .i64 0) 1 8 Tryd.underlying113 hi hz0 hz1 hz2 rfl (by decide) _ _ _ rfl (HL.out.own.alloc _) _ 1 1 [.int .i64 _] rfl rfl (one_new _ _ _) (one_cell _) (by simp [maxLen]) (by simp) (HL.out.bd _) ?_; intro v1 w1 o1 g1 _; have HL : Hid (ST 32 w A (A + 1) (A + 2) w1 v1 _ _ _ _ _ _ _) := HL.out.next o1 g1; clear o1 g1; have r0 := HL.out.ra.c0; have r1 := HL.out.ra.c1; have r2 := HL.out.ra.c2; have s0 := HL.out.rc.c0; have s1 := HL.out.rc.c1; have s2 := HL.out.rc.c2; have rl := HL.out.ra.lt; have sl := HL.out.rc.lt))
        go_ret
        exact ⟨_, rfl, E.out [q] (by unfold chg cBold cFg cBg; rw [if_neg (show ¬ z < z2 by omega), if_pos H2.out, if_neg H3.out, HQ.out]; rfl) _ _ _ _ _ _ _ _ HL.out⟩
    · have t2 : (x2 != x) = true := by simp [h2]
      have H2 : Hid (¬ (x2 = x)) := h2
      clear h2
      by_cases h3 : y2 = y
      · have t3 : (y2 != y) = false := by simp [h3]
        have H3 : Hid ((y2 = y)) := h3
        clear h3
        go_wp2_with (first | (go_at_call 105; (with_reducible refine Calls.mono (CF.out _) ?_); rintro e w2 ⟨rfl, rfl⟩) | (go_at_call 105; (with_reducible refine Calls.mono (CG.out _) ?_); rintro e w2 ⟨rfl, rfl⟩) | (at_builtin; refine wpList_append_own _ rfl _ _ 113 rfl (A + 2) 3 i0 (.int .i64 0) 1 8 Tryd.underlying113 hi hz0 hz1 hz2 rfl (by decide) _ _ _ rfl (HL.out.own.alloc _) _ 1 1 [.int .i64 _] rfl rfl (one_new _ _ _) (one_cell _) (by simp [maxLen]) (by simp) (HL.out.bd _) ?_; intro v1 w1 o1 g1 _; have HL : Hid (ST 32 w A (A + 1) (A + 2) w1 v1 _ _ _ _ _ _ _) := HL.out.next o1 g1; clear o1 g1; have r0 := HL.out.ra.c0; have r1 := HL.out.ra.c1; have r2 := HL.out.ra.c2; have s0 := HL.out.rc.c0; have s1 := HL.out.rc.c1; have s2 := HL.out.rc.c2; have rl := HL.out.ra.lt; have sl := HL.out.rc.lt))
        go_ret
        exact ⟨_, rfl, E.out [p] (by unfold chg cBold cFg cBg; rw [if_neg (show ¬ z < z2 by omega), if_neg H2.out, if_pos H3.out, HP.out]; rfl) _ _ _ _ _ _ _ _ HL.out⟩
      · have t3 : (y2 != y) = true := by simp [h3]
        have H3 : Hid (¬ (y2 = y)) := h3
        clear h3
        go_wp2_with (first | (go_at_call 105; (with_reducible refine Calls.mono (CF.out _) ?_); rintro e w2 ⟨rfl, rfl⟩) | (go_at_call 105; (with_reducible refine Calls.mono (CG.out _) ?_); rintro e w2 ⟨rfl, rfl⟩) | (at_builtin; refine wpList_append_own _ rfl _ _ 113 rfl (A + 2) 3 i0 (.int .i64 0) 1 8 Tryd.underlying113 hi hz0 hz1 hz2 rfl (by decide) _ _ _ rfl (HL.out.own.alloc _) _ 1 1 [.int .i64 _] rfl rfl (one_new _ _ _) (one_cell _) (by simp [maxLen]) (by simp) (HL.out.bd _) ?_; intro v1 w1 o1 g1 _; have HL : Hid (ST 32 w A (A + 1) (A + 2) w1 v1 _ _ _ _ _ _ _) := HL.out.next o1 g1; clear o1 g1; have r0 := HL.out.ra.c0; have r1 := HL.out.ra.c1; have r2 := HL.out.ra.c2; have s0 := HL.out.rc.c0; have s1 := HL.out.rc.c1; have s2 := HL.out.rc.c2; have rl := HL.out.ra.lt; have sl := HL.out.rc.lt))
        go_ret
        exact ⟨_, rfl, E.out [p, q] (by unfold chg cBold cFg cBg; rw [if_neg (show ¬ z < z2 by omega), if_neg H2.out, if_neg H3.out, HP.out, HQ.out]; rfl) _ _ _ _ _ _ _ _ HL.out⟩

end Go.Proofs.YtlfffpoeioecjaaDoor
