/-
  The reference's Put, on the screen: what lies in memory, and which places count.
-/
import Derived.Test.YtgaogkggbccfnaaDoorCRpo
import Derived.Test.YtgaogkggbccfnaaDoorBRfa
namespace Go.Proofs.YtgaogkggbccfnaaDoor
open Go.RowKit Go.Sort
set_option linter.unusedVariables false

/-- What Put's own blocks and the canvas hold. -/
structure PB (w wi : World) (K M cap W H : Nat) (c : Nat → Nat → Ce) (S : Nat) (txt : ByteArray) (wd kf kg kb cx cy ca cb : Int) : Prop where
  cs : CS 72 85 wi K M cap W H c
  cl : RCl 98 wi S txt wd
  st : R3 64 wi (S + 1) kf kg kb
  rc : R4 100 wi (S + 1 + 1) cx cy ca cb
  gr : Ch M w wi
section
variable {w wi wj : World} {K M cap W H S : Nat} {c c' : Nat → Nat → Ce} {txt : ByteArray} {wd kf kg kb cx cy ca cb : Int}
/-- Put's parameters laid. -/
theorem PB.new (h : CS 72 85 w K M cap W H c) (txt : ByteArray) (wd f g b cx cy ca cb : Int) (hS : w.heap.size = S) :
    PB w (((w.alloc (.cells #[.string txt, .int .i64 wd] 98)).alloc (.cells #[.int .i64 f, .int .i64 g, .int .i64 b] 64)).alloc (.cells #[.int .i64 cx, .int .i64 cy, .int .i64 ca, .int .i64 cb] 100)) K M cap W H c S txt wd f g b cx cy ca cb := by
  have G0 := (((Gr.refl w).alloc (.cells #[.string txt, .int .i64 wd] 98)).alloc (.cells #[.int .i64 f, .int .i64 g, .int .i64 b] 64)).alloc (.cells #[.int .i64 cx, .int .i64 cy, .int .i64 ca, .int .i64 cb] 100)
  refine ⟨h.gr G0, ?_, ?_, ?_, Ch.gr G0⟩
  · rw [← hS]; exact (RCl.new w _ _ _).gr (((Gr.refl _).alloc _).alloc _)
  · rw [← hS]; have := (R3.new (w.alloc (.cells #[.string txt, .int .i64 wd] 98)) f g b 64).gr ((Gr.refl _).alloc (.cells #[.int .i64 cx, .int .i64 cy, .int .i64 ca, .int .i64 cb] 100)); rw [World.size_alloc] at this; exact this
  · rw [← hS]; have := R4.new ((w.alloc (.cells #[.string txt, .int .i64 wd] 98)).alloc (.cells #[.int .i64 f, .int .i64 g, .int .i64 b] 64)) cx cy ca cb 100; rw [World.size_alloc, World.size_alloc] at this; exact this
theorem PB.more (h : PB w wi K M cap W H c S txt wd kf kg kb cx cy ca cb) (g : Gr wi wj) : PB w wj K M cap W H c S txt wd kf kg kb cx cy ca cb :=
  ⟨h.cs.gr g, h.cl.gr g, h.st.gr g, h.rc.gr g, h.gr.thenGr g⟩
/-- The style is another one. -/
theorem PB.style (h : PB w wi K M cap W H c S txt wd kf kg kb cx cy ca cb) (hK : K < S) (hM : M < S) (hw : w.heap.size ≤ S) (f g b : Int) : PB w (((wi.setCell ⟨S + 1, 0, none⟩ (.int .i64 f)).setCell ⟨S + 1, 1, none⟩ (.int .i64 g)).setCell ⟨S + 1, 2, none⟩ (.int .i64 b)) K M cap W H c S txt wd f g b cx cy ca cb := by
  have G : Ch (S + 1) wi (((wi.setCell ⟨S + 1, 0, none⟩ (.int .i64 f)).setCell ⟨S + 1, 1, none⟩ (.int .i64 g)).setCell ⟨S + 1, 2, none⟩ (.int .i64 b)) := (((Ch.refl (S + 1) wi).set (.inl rfl) _ _).set (.inl rfl) _ _).set (.inl rfl) _ _
  exact ⟨h.cs.ch G (by omega) (by omega), h.cl.ch G (by omega), h.st.set _ _ _, h.rc.ch G (by omega), ((h.gr.set (.inr (by omega)) _ _).set (.inr (by omega)) _ _).set (.inr (by omega)) _ _⟩
/-- The cells are others. -/
theorem PB.cells (h : PB w wi K M cap W H c S txt wd kf kg kb cx cy ca cb) (hM : M < S) (g : Ch M wi wj) (v : Cv 85 wj M W H c') : PB w wj K M cap W H c' S txt wd kf kg kb cx cy ca cb :=
  ⟨h.cs.put g v, h.cl.ch g (by omega), h.st.ch g (by omega), h.rc.ch g (by omega), h.gr.trans g⟩
end
/-- The loops' question, of a place of the cluster. -/
theorem vis_b {W H : Nat} {x y wd cx cy ca cb l t u v : Int} (h : Seen W H x y wd 1 cx cy ca cb l t u v) (hw : wd = 1 ∨ wd = 2) (hy : 0 ≤ y ∧ y < 400) (hx : -1 ≤ x ∧ x < 400) (p : Int) (h1 : x ≤ p) (h2 : p < x + wd) : (scrB W H p y && holdB cx cy ca cb p y) = decide (l ≤ p ∧ p < l + u) := by
  have m := h.vis hw hy hx p h1 h2
  by_cases hs : 0 ≤ p ∧ p < (W : Int) ∧ 0 ≤ y ∧ y < (H : Int)
  · rw [scrB_yes (by omega), Bool.true_and]
    unfold holdB
    exact decide_eq_decide.2 ⟨fun q => m.1 ⟨hs, q⟩, fun q => (m.2 q).2⟩
  · rw [scrB_no (by omega), Bool.false_and]
    exact (decide_eq_false (fun q => hs (m.2 q).1)).symm
end Go.Proofs.YtgaogkggbccfnaaDoor
