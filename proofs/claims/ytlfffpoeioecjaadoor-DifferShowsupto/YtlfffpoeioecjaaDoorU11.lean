/-
  The reference's canvas: clear.
-/
import Derived.Test.YtlfffpoeioecjaaDoorU10
import Derived.Test.YtlfffpoeioecjaaDoorU09
import Derived.Test.YtlfffpoeioecjaaDoorU07
namespace Go.Proofs.YtlfffpoeioecjaaDoor
open Go.RowKit Go.Sort
set_option linter.unusedVariables false

/-- A place is about to be written, within those from a to q. -/
def clw (c : Nat → Nat → Ce) (y x a q : Nat) : Nat → Nat → Ce :=
  if (c y x).p = 1 ∧ x = q then upd c y (x + 1) (bl (c y (x + 1))) else if (c y x).p = 2 ∧ x = a then upd c y (x - 1) (bl (c y (x - 1))) else c
/-- How far the halves are cleared, ahead of place k. -/
def stC (c : Nat → Nat → Ce) (y a q k : Nat) : Nat → Nat → Ce := if k ≤ a then c else if k ≤ q then cutL c y a else cut c y a q
theorem clw_next {W : Nat} {c : Nat → Nat → Ce} {y a q k : Nat} (hp : PRow W (c y)) (haq : a ≤ q) (hw : q ≤ a + 1) (hq : q < W) (h1 : a ≤ k) (h2 : k ≤ q) : clw (stC c y a q k) y k a q = stC c y a q (k + 1) := by
  by_cases hk : k = a
  · subst hk
    have e0 : stC c y k q k = c := if_pos (Nat.le_refl _)
    rw [e0]
    have e1 : stC c y k q (k + 1) = if k + 1 ≤ q then cutL c y k else cut c y k q := if_neg (by omega)
    rw [e1]
    unfold clw
    by_cases hq2 : k + 1 ≤ q
    · rw [if_pos hq2, if_neg (c := (c y k).p = 1 ∧ k = q) (by omega)]
      by_cases h3 : (c y k).p = 2
      · obtain ⟨j, rfl, _⟩ := hp.tail k (by omega) h3
        rw [if_pos ⟨h3, rfl⟩, cutL_some h3]
        rfl
      · rw [if_neg (fun m => h3 m.1), cutL_none h3]
    · rw [if_neg hq2]
      obtain rfl : q = k := by omega
      unfold cut
      by_cases h3 : (c y q).p = 2
      · obtain ⟨j, rfl, _⟩ := hp.tail q (by omega) h3
        rw [if_neg (c := (c y (j + 1)).p = 1 ∧ j + 1 = j + 1) (by omega), if_pos ⟨h3, rfl⟩, cutR_none (by rw [cutL_at (Nat.le_refl _)]; omega), cutL_some h3]
        rfl
      · rw [cutL_none h3]
        by_cases h4 : (c y q).p = 1
        · rw [if_pos ⟨h4, rfl⟩, cutR_some h4]
        · rw [if_neg (fun m => h4 m.1), if_neg (fun m => h3 m.1), cutR_none h4]
  · obtain rfl : k = q := by omega
    have e0 : stC c y a k k = cutL c y a := by unfold stC; rw [if_neg (by omega), if_pos (Nat.le_refl _)]
    have e1 : stC c y a k (k + 1) = cut c y a k := by unfold stC; rw [if_neg (by omega), if_neg (by omega)]
    rw [e0, e1]
    unfold clw cut
    by_cases h4 : (cutL c y a y k).p = 1
    · rw [if_pos ⟨h4, rfl⟩, cutR_some h4]
    · rw [if_neg (fun m => h4 m.1), if_neg (fun m => hk m.2), cutR_none h4]

section
variable {K M cap W H : Nat} {c : Nat → Nat → Ce}
set_option maxRecDepth 100000 in
set_option maxHeartbeats 4000000 in
theorem clear_any (w : World) (h : CS 48 57 w K M cap W H c) (hW : W ≤ 400) (hH : H ≤ 400) (y x a q : Nat) (hy : y < H) (hx : x < W) (hax : a ≤ x) (hxq : x ≤ q) (h1 : (c y x).p = 1 → x + 1 < W) (h2 : (c y x).p = 2 → 0 < x) (i i1 i2 : Nat) (hi : i = y * W + x) (hi1 : i1 = y * W + a) (hi2 : i2 = y * W + q) :
    Calls Tryd.prog 91 #[.pointer (some ⟨K, 0, none⟩), .int .i64 i, .int .i64 i1, .int .i64 i2] w fun e w' => e = .returned (.tuple #[]) ∧ Cv 57 w' M W H (clw c y x a q) ∧ Ch M w w' := by
  have BLK : Hid (∀ (x' : Nat), x' < W → ∀ (i' : Nat), i' = y * W + x' → Calls Tryd.prog 109 #[.pointer (some ⟨K, 0, none⟩), .int .i64 i'] w fun e w' => e = .returned (.tuple #[]) ∧ Cv 57 w' M W H (upd c y x' (bl (c y x'))) ∧ Ch M w w') := fun x' hx' i' hi' => rblank_any w h hW hH y x' hy hx' i' hi'
  have k2 := h.k2
  have hn : i < W * H := by rw [hi]; exact lin_lt hy hx
  have HC : Hid (CS 48 57 w K M cap W H c) := h
  have HI : Hid (i = y * W + x) := hi
  obtain ⟨n, hnn⟩ : ∃ n, W * H = n := ⟨_, rfl⟩
  have HN : Hid (W * H = n) := hnn
  have nb : n ≤ 160000 := by rw [← hnn]; exact Nat.mul_le_mul hW hH
  rw [hnn] at k2 hn
  have d4 := h.cv.c4 hy hx
  rw [show y * W * 5 + x * 5 = i * 5 by rw [hi, Nat.add_mul]] at d4
  obtain ⟨p, hp⟩ : ∃ z, (c y x).p = z := ⟨_, rfl⟩
  rw [hp] at d4
  have HP : Hid ((c y x).p = p) := hp
  rw [hp] at h1 h2
  have hi' : (i : Int) < (n : Int) := by omega
  have t1 : i1 ≤ i := by omega
  have t2 : i ≤ i2 := by omega
  have e1 : decide ((i : Int) + 1 < i1) = false := decide_eq_false (by omega)
  rcases (by omega : (p = 1 ∧ x = q) ∨ (p = 1 ∧ x < q) ∨ (p = 2 ∧ x = a) ∨ (p = 2 ∧ a < x) ∨ (p ≠ 1 ∧ p ≠ 2)) with ⟨rfl, rfl⟩ | ⟨rfl, hlt⟩ | ⟨rfl, rfl⟩ | ⟨rfl, hlt⟩ | ⟨n1, n2⟩
  · have HR : Hid (clw c y x a x = upd c y (x + 1) (bl (c y (x + 1)))) := if_pos ⟨HP.out, rfl⟩
    have HB : Hid (∀ iv : Int, iv = (i : Int) + 1 → Calls Tryd.prog 109 #[.pointer (some ⟨K, 0, none⟩), .int .i64 iv] w fun e w' => e = .returned (.tuple #[]) ∧ Cv 57 w' M W H (upd c y (x + 1) (bl (c y (x + 1)))) ∧ Ch M w w') := by
      rintro iv rfl; exact BLK.out (x + 1) (h1 rfl) (i + 1) (by omega)
    have e2 : decide ((i2 : Int) < (i : Int) + 1) = true := decide_eq_true (by omega)
    clear h hnn hi hi1 hi2 h1 h2 hp
    go_enter Tryd.func91, Tryd.ntmps91
    go_wp2_with fail
    refine Calls.mono (HB.out _ rfl) ?_
    rintro e w1 ⟨rfl, V1, C1⟩
    have S1 := HC.out.put C1 V1
    have k2' := S1.k2
    rw [HN.out] at k2'
    have d4' := V1.c4 hy hx
    rw [show y * W * 5 + x * 5 = i * 5 by rw [HI.out, Nat.add_mul], show upd c y (x + 1) (bl (c y (x + 1))) y x = c y x from if_neg (by omega), HP.out] at d4'
    have HV : Hid (Cv 57 w1 M W H (upd c y (x + 1) (bl (c y (x + 1)))) ∧ Ch M w w1) := (⟨V1, C1⟩ : Cv 57 w1 M W H (upd c y (x + 1) (bl (c y (x + 1)))) ∧ Ch M w w1)
    clear V1 C1 S1 k2 d4
    go_wp2_with fail
    go_end0
    exact ⟨rfl, by rw [HR.out]; exact HV.out.1, HV.out.2⟩
  · have HR : Hid (clw c y x a q = c) := (if_neg (fun m => by have := m.2; omega)).trans (if_neg (fun m => by have := HP.out.symm.trans m.1; omega))
    have e2 : decide ((i2 : Int) < (i : Int) + 1) = false := decide_eq_false (by omega)
    clear h hnn hi hi1 hi2 h1 h2 hp
    go_enter Tryd.func91, Tryd.ntmps91
    go_wp2_with fail
    go_end0
    exact ⟨rfl, by rw [HR.out]; exact HC.out.cv, Ch.gr (Gr.refl w)⟩
  · have HR : Hid (clw c y x x q = upd c y (x - 1) (bl (c y (x - 1)))) := (if_neg (fun m => by have := HP.out.symm.trans m.1; omega)).trans (if_pos ⟨HP.out, rfl⟩)
    have HB : Hid (∀ iv : Int, iv = (i : Int) - 1 → Calls Tryd.prog 109 #[.pointer (some ⟨K, 0, none⟩), .int .i64 iv] w fun e w' => e = .returned (.tuple #[]) ∧ Cv 57 w' M W H (upd c y (x - 1) (bl (c y (x - 1)))) ∧ Ch M w w') := by
      rintro iv rfl
      have := h2 rfl
      rw [show (i : Int) - 1 = ((i - 1 : Nat) : Int) by omega]
      exact BLK.out (x - 1) (by omega) (i - 1) (by omega)
    have e2 : decide ((i : Int) - 1 < (i1 : Int)) = true := decide_eq_true (by omega)
    clear h hnn hi hi1 hi2 h1 h2 hp
    go_enter Tryd.func91, Tryd.ntmps91
    go_wp2_with fail
    refine Calls.mono (HB.out _ rfl) ?_
    rintro e w1 ⟨rfl, V1, C1⟩
    have HV : Hid (Cv 57 w1 M W H (upd c y (x - 1) (bl (c y (x - 1)))) ∧ Ch M w w1) := (⟨V1, C1⟩ : Cv 57 w1 M W H (upd c y (x - 1) (bl (c y (x - 1)))) ∧ Ch M w w1)
    clear V1 C1
    go_wp2_with fail
    go_end0
    exact ⟨rfl, by rw [HR.out]; exact HV.out.1, HV.out.2⟩
  · have HR : Hid (clw c y x a q = c) := (if_neg (fun m => by have := HP.out.symm.trans m.1; omega)).trans (if_neg (fun m => by have := m.2; omega))
    have e2 : decide ((i : Int) - 1 < (i1 : Int)) = false := decide_eq_false (by omega)
    have e3 : decide ((i2 : Int) < (i : Int) - 1) = false := decide_eq_false (by omega)
    clear h hnn hi hi1 hi2 h1 h2 hp
    go_enter Tryd.func91, Tryd.ntmps91
    go_wp2_with fail
    go_end0
    exact ⟨rfl, by rw [HR.out]; exact HC.out.cv, Ch.gr (Gr.refl w)⟩
  · have m1 : (p == 1) = false := by simpa using n1
    have m2 : (p == 2) = false := by simpa using n2
    have HR : Hid (clw c y x a q = c) := (if_neg (fun m => n1 (HP.out.symm.trans m.1))).trans (if_neg (fun m => n2 (HP.out.symm.trans m.1)))
    clear h hnn hi hi1 hi2 h1 h2 hp
    go_enter Tryd.func91, Tryd.ntmps91
    go_wp2_with fail
    go_end0
    exact ⟨rfl, by rw [HR.out]; exact HC.out.cv, Ch.gr (Gr.refl w)⟩
end
end Go.Proofs.YtlfffpoeioecjaaDoor

namespace Go.Proofs.YtlfffpoeioecjaaDoor
open Go.RowKit Go.Sort
set_option linter.unusedVariables false

section
variable {K M cap W H : Nat} {c : Nat → Nat → Ce}
set_option maxRecDepth 100000 in
set_option maxHeartbeats 4000000 in
theorem rput_out (w : World) (h : CS 48 57 w K M cap W H c) (hW : 1 ≤ W ∧ W ≤ 400) (hH : 1 ≤ H ∧ H ≤ 400) (x y : Int) (txt : ByteArray) (wd f g b cx cy ca cb : Int) (ho : ¬ (wd = 1 ∨ wd = 2) ∨ y < 0 ∨ (H : Int) ≤ y ∨ x < -1 ∨ (W : Int) ≤ x) :
    Calls Tryd.prog 73 #[.pointer (some ⟨K, 0, none⟩), .int .i64 x, .int .i64 y, .agg #[.string txt, .int .i64 wd], sv f g b, rv cx cy ca cb] w fun e w' => e = .returned (.tuple #[]) ∧ Gr w w' := by
  have h3 := h.gr ((((Gr.refl w).alloc (.cells #[.string txt, .int .i64 wd] 91)).alloc (.cells #[.int .i64 f, .int .i64 g, .int .i64 b] 50)).alloc (.cells #[.int .i64 cx, .int .i64 cy, .int .i64 ca, .int .i64 cb] 136))
  have k0 := h3.k0
  have k1 := h3.k1
  clear h h3
  unfold sv rv
  rcases (by omega : (¬ (wd = 1) ∧ ¬ (wd = 2)) ∨ ((wd = 1 ∨ wd = 2) ∧ y < 0) ∨ ((wd = 1 ∨ wd = 2) ∧ 0 ≤ y ∧ (H : Int) ≤ y) ∨ ((wd = 1 ∨ wd = 2) ∧ 0 ≤ y ∧ y < H ∧ x < -1) ∨ ((wd = 1 ∨ wd = 2) ∧ 0 ≤ y ∧ y < H ∧ -1 ≤ x ∧ (W : Int) ≤ x)) with ⟨a1, a2⟩ | ⟨a1 | a1, a2⟩ | ⟨a1 | a1, a2, a3⟩ | ⟨a1 | a1, a2, a3, a4⟩ | ⟨a1 | a1, a2, a3, a4, a5⟩
  all_goals
    clear ho
    try subst a1
    go_enter Tryd.func73, Tryd.ntmps73
    go_wp2
    refine bodyPost_ret (results_none rfl _ _ _) rfl ?_
    exact ⟨rfl, (((Gr.refl w).alloc _).alloc _).alloc _⟩
end
end Go.Proofs.YtlfffpoeioecjaaDoor

namespace Go.Proofs.YtlfffpoeioecjaaDoor
open Go.RowKit Go.Sort
set_option linter.unusedVariables false

/-- What Put's own blocks and the canvas hold. -/
structure PB (w wi : World) (K M cap W H : Nat) (c : Nat → Nat → Ce) (S : Nat) (txt : ByteArray) (wd kf kg kb cx cy ca cb : Int) : Prop where
  cs : CS 48 57 wi K M cap W H c
  cl : RCl 91 wi S txt wd
  st : R3 50 wi (S + 1) kf kg kb
  rc : R4 136 wi (S + 1 + 1) cx cy ca cb
  gr : Ch M w wi
section
variable {w wi wj : World} {K M cap W H S : Nat} {c c' : Nat → Nat → Ce} {txt : ByteArray} {wd kf kg kb cx cy ca cb : Int}
/-- Put's parameters laid. -/
theorem PB.new (h : CS 48 57 w K M cap W H c) (txt : ByteArray) (wd f g b cx cy ca cb : Int) (hS : w.heap.size = S) :
    PB w (((w.alloc (.cells #[.string txt, .int .i64 wd] 91)).alloc (.cells #[.int .i64 f, .int .i64 g, .int .i64 b] 50)).alloc (.cells #[.int .i64 cx, .int .i64 cy, .int .i64 ca, .int .i64 cb] 136)) K M cap W H c S txt wd f g b cx cy ca cb := by
  have G0 := (((Gr.refl w).alloc (.cells #[.string txt, .int .i64 wd] 91)).alloc (.cells #[.int .i64 f, .int .i64 g, .int .i64 b] 50)).alloc (.cells #[.int .i64 cx, .int .i64 cy, .int .i64 ca, .int .i64 cb] 136)
  refine ⟨h.gr G0, ?_, ?_, ?_, Ch.gr G0⟩
  · rw [← hS]; exact (RCl.new w _ _ _).gr (((Gr.refl _).alloc _).alloc _)
  · rw [← hS]; have := (R3.new (w.alloc (.cells #[.string txt, .int .i64 wd] 91)) f g b 50).gr ((Gr.refl _).alloc (.cells #[.int .i64 cx, .int .i64 cy, .int .i64 ca, .int .i64 cb] 136)); rw [World.size_alloc] at this; exact this
  · rw [← hS]; have := R4.new ((w.alloc (.cells #[.string txt, .int .i64 wd] 91)).alloc (.cells #[.int .i64 f, .int .i64 g, .int .i64 b] 50)) cx cy ca cb 136; rw [World.size_alloc, World.size_alloc] at this; exact this
theorem PB.more (h : PB w wi K M cap W H c S txt wd kf kg kb cx cy ca cb) (g : Gr wi wj) : PB w wj K M cap W H c S txt wd kf kg kb cx cy ca cb :=
  ⟨h.cs.gr g, h.cl.gr g, h.st.gr g, h.rc.gr g, h.gr.thenGr g⟩
/-- The style is another one. -/
theorem PB.style (h : PB w wi K M cap W H c S txt wd kf kg kb cx cy ca cb) (hK : K < S) (hM : M < S) (hw : w.heap.size ≤ S) (f g b : Int) : PB w (((wi.setCell ⟨S + 1, 0, none⟩ (.int .i64 f)).setCell ⟨S + 1, 1, none⟩ (.int .i64 g)).setCell ⟨S + 1, 2, none⟩ (.int .i64 b)) K M cap W H c S txt wd f g b cx cy ca cb := by
  have G : Ch (S + 1) wi (((wi.setCell ⟨S + 1, 0, none⟩ (.int .i64 f)).setCell ⟨S + 1, 1, none⟩ (.int .i64 g)).setCell ⟨S + 1, 2, none⟩ (.int .i64 b)) := (((Ch.refl (S + 1) wi).set (.inl rfl) _ _).set (.inl rfl) _ _).set (.inl rfl) _ _
  exact ⟨h.cs.ch G (by omega) (by omega), h.cl.ch G (by omega), h.st.set _ _ _, h.rc.ch G (by omega), ((h.gr.set (.inr (by omega)) _ _).set (.inr (by omega)) _ _).set (.inr (by omega)) _ _⟩
/-- The cells are others. -/
theorem PB.cells (h : PB w wi K M cap W H c S txt wd kf kg kb cx cy ca cb) (hM : M < S) (g : Ch M wi wj) (v : Cv 57 wj M W H c') : PB w wj K M cap W H c' S txt wd kf kg kb cx cy ca cb :=
  ⟨h.cs.put g v, h.cl.ch g (by omega), h.st.ch g (by omega), h.rc.ch g (by omega), h.gr.trans g⟩
end
/-- The loops' question, of a place of the cluster. -/
theorem vis_b {W H : Nat} {x y wd cx cy ca cb l t u v : Int} (h : Seen W H x y wd 1 cx cy ca cb l t u v) (hw : wd = 1 ∨ wd = 2) (hy : 0 ≤ y ∧ y < 400) (hx : -1 ≤ x ∧ x < 400) (p : Int) (h1 : x ≤ p) (h2 : p < x + wd) : (scrB W H p y && holdB cx cy ca cb p y) = decide (l ≤ p ∧ p < l + u) := by
  have m := h.vis hw hy hx p h1 h2
  by_cases hs : 0 ≤ p ∧ p < (W : Int) ∧ 0 ≤ y ∧ y < (H : Int)
  · rw [scrB_yes (by omega), Bool.true_and]
    unfold holdB
    exact decide_eq_decide.2 ⟨fun q => m.1 ⟨hs, q⟩, fun q => (m.2 q).2⟩
  · rw [scrB_no (by omega), Bool.false_and]
    exact (decide_eq_false (fun q => hs (m.2 q).1)).symm
end Go.Proofs.YtlfffpoeioecjaaDoor

namespace Go.Proofs.YtlfffpoeioecjaaDoor
open Go.RowKit Go.Sort
set_option linter.unusedVariables false

theorem infoRC : (Tryd.prog.info? 57).map (fun i => (i.zero, i.size, i.bytes)) = some (some (.agg #[.string ⟨#[]⟩, .int .i64 0, .int .i64 0, .int .i64 0, .int .i64 0]), 5, 48) := by kernel_rfl
/-- Blank cells, one behind another. -/
def rows5 : Nat → List Value
  | 0 => []
  | n + 1 => rows5 n ++ c5 (bk 0 0 0)
theorem rows5_len (n : Nat) : (rows5 n).length = n * 5 := by
  induction n with
  | zero => rfl
  | succ n ih => rw [rows5, List.length_append, ih, c5_len]; omega
theorem rows5_get {n i k : Nat} {u : Value} (hi : i < n) (hu : (c5 (bk 0 0 0))[k]? = some u) : (rows5 n)[i * 5 + k]? = some u := by
  induction n with
  | zero => omega
  | succ n ih =>
    have hk : k < 5 := (List.getElem?_eq_some_iff.1 hu).1
    rw [rows5]
    by_cases h : i < n
    · rw [List.getElem?_append_left (by rw [rows5_len]; omega)]; exact ih h
    · obtain rfl : i = n := by omega
      rw [List.getElem?_append_right (by rw [rows5_len]; omega), rows5_len, show i * 5 + k - i * 5 = k by omega]; exact hu
/-- The struct of a canvas that is being made. -/
def KB (T : TypeId) (Q : World) (K W H : Nat) (v : Value) : Prop := Q.heap[K]? = some (.cells #[.int .i64 W, .int .i64 H, v] T (0, 0))
theorem KB.lt {T : TypeId} {Q : World} {K W H : Nat} {v : Value} (h : KB T Q K W H v) : K < Q.heap.size := (Array.getElem?_eq_some_iff.1 h).1
theorem KB.c2 {T : TypeId} {Q : World} {K W H : Nat} {v : Value} (h : KB T Q K W H v) : Q.cell? ⟨K, 2, none⟩ = some v := by unfold KB at h; simp [World.cell?, h]
theorem KB.fz {T : TypeId} {Q : World} {K W H : Nat} {v : Value} (h : KB T Q K W H v) (j : Nat) : Q.frozen? ⟨K, j, none⟩ = false := frozen_of_row _ _ _ _ _ h
theorem KB.set {T : TypeId} {Q : World} {K W H : Nat} {v : Value} (h : KB T Q K W H v) (v' : Value) : KB T (Q.setCell ⟨K, 2, none⟩ v') K W H v' := heap_setCell_same _ K 2 _ T _ h
theorem cell_five_new (w : World) (e : Ce) (T : TypeId) (j : Nat) (u : Value) (hj : (c5 e)[j]? = some u) : (w.alloc (.cells #[.string e.t, .int .i64 e.f, .int .i64 e.g, .int .i64 e.b, .int .i64 e.p] T)).cell? ((⟨w.heap.size, 0, none⟩ : Addr).add j) = some u := by
  have h := R5.new w e T
  have hk : j < 5 := (List.getElem?_eq_some_iff.1 hj).1
  rcases (by omega : j = 0 ∨ j = 1 ∨ j = 2 ∨ j = 3 ∨ j = 4) with rfl | rfl | rfl | rfl | rfl
  · exact h.c0.trans hj
  · exact h.c1.trans hj
  · exact h.c2.trans hj
  · exact h.c3.trans hj
  · exact h.c4.trans hj

theorem own_set {w : World} {B n size k : Nat} {e : TypeId} {v : Value} {xs : List Value} (h : w.ownsRow B e size v n xs) (hk : k < B) (o : Nat) (u : Value) : (w.setCell ⟨k, o, none⟩ u).ownsRow B e size v n xs := by
  refine ⟨h.1, ?_⟩
  rcases h.2 with h2 | ⟨g, cap, cur, a, b, c, d⟩
  · exact .inl h2
  · exact .inr ⟨g, cap, cur, a, b, (Below.heap_setCell w ⟨k, o, none⟩ u g (by show g ≠ k; omega)).trans c, d⟩
/-- A new canvas of the reference's stands at K. -/
def RN (w w' : World) (W H K : Nat) : Prop := w.heap.size ≤ K ∧ ∃ M cap, CS 48 57 w' K M cap W H (fun _ _ => bk 0 0 0) ∧ w.heap.size ≤ M ∧ Below w.heap.size w w'

set_option maxRecDepth 100000 in
set_option maxHeartbeats 4000000 in
theorem rnew_ok (W H : Nat) (hW : 1 ≤ W ∧ W ≤ 400) (hH : 1 ≤ H ∧ H ≤ 400) (w : World) : Calls Tryd.prog 37 #[.int .i64 W, .int .i64 H] w fun e w' => ∃ K, e = .returned (.tuple #[.pointer (some ⟨K, 0, none⟩), .int .i64 0]) ∧ RN w w' W H K := by
  obtain ⟨i0, hi0, hz0, hz1, hz2⟩ := info_parts infoRC
  obtain ⟨n, hnn⟩ : ∃ n, W * H = n := ⟨_, rfl⟩
  have nb : 1 ≤ n ∧ n ≤ 160000 := by rw [← hnn]; exact ⟨Nat.mul_le_mul hW.1 hH.1, Nat.mul_le_mul hW.2 hH.2⟩
  have eN : (W : Int) * (H : Int) = (n : Int) := by rw [← hnn]; simp
  have HN : Hid (W * H = n) := hnn
  clear hnn
  obtain ⟨S, hS⟩ : ∃ z, w.heap.size = z := ⟨_, rfl⟩
  have HS : Hid (w.heap.size = S) := hS
  go_enter Tryd.func37, Tryd.ntmps37
  go_wp2_with fail
  obtain ⟨W0, hW0⟩ : ∃ z, w.alloc (.cells #[.int .i64 W, .int .i64 H, .slice none 0 0] 48) = z := ⟨_, rfl⟩
  have B0 : Hid (Below w.heap.size w W0 ∧ S + 1 ≤ W0.heap.size) := by
    rw [← hW0]; exact ⟨((Gr.refl w).alloc _).below, by rw [World.size_alloc, hS]; omega⟩
  have R0 : Hid (KB 48 W0 S W H (.slice none 0 0)) := by rw [← hW0, ← hS]; exact heap_alloc_new _ _
  try rw [hW0]
  try rw [hS]
  clear hW0 hS
  go_loopw [7] (fun iv wi => ∃ i : Nat, i ≤ n ∧ iv = .int .i64 i ∧ ∃ v, Hid (KB 48 wi S W H v ∧ wi.ownsRow (S + 1) 57 5 v i (rows5 i) ∧ Below w.heap.size w wi ∧ S + 1 ≤ wi.heap.size)) (fun iv _ => n - (intOf iv).toNat)
  case atStart => exact ⟨0, by omega, rfl, _, R0.out, World.ownsRow_nil _ _ _ _, B0.out.1, B0.out.2⟩
  case round =>
    obtain ⟨i, hi, rfl, v, HI⟩ := hrel
    by_cases hil : i < n
    · have hil' : (i : Int) < (n : Int) := by omega
      have k2 := HI.out.1.c2
      have hsz := HI.out.2.2.2
      go_wp2_with (at_builtin; refine wpList_append_own _ rfl _ _ 36 rfl (S + 1) 57 i0 (.agg #[.string ⟨#[]⟩, .int .i64 0, .int .i64 0, .int .i64 0, .int .i64 0]) 5 48 Tryd.underlying36 hi0 hz0 hz1 hz2 rfl (by decide) _ _ _ rfl (HI.out.2.1.alloc _) _ 1 1 (c5 (bk 0 0 0)) rfl rfl ?c1 ?c2 ?c3 ?c4 ?c5 ?_)
      case c1 => exact cell_five_new _ (bk 0 0 0) _
      case c2 => intro u hu; unfold c5 at hu; simp at hu; rcases hu with rfl | rfl | rfl | rfl | rfl <;> rfl
      case c3 => unfold maxLen; omega
      case c4 => omega
      case c5 => simp; omega
      intro v' w6 hown' hg _
      have hrow : ∀ q, Value.ownBlock v = some q → S + 1 ≤ q ∧ q < wr.heap.size := fun q hq => HI.out.2.1.lt q hq
      have kl := HI.out.1.lt
      have K6 : KB 48 w6 S W H v := by
        refine (hg.block S (by rw [World.size_alloc]; omega) (fun e => by have := hrow _ e.symm; omega)).trans ?_
        exact (((Gr.refl wr).alloc _).block kl).trans HI.out.1
      have hb6 : Below w.heap.size w w6 := (HI.out.2.2.1.alloc (by rw [HS.out]; omega) _).grown hg (by rw [World.size_alloc, HS.out]; omega) (fun q hq => by have := hrow q hq; rw [HS.out]; omega)
      have hs6 : S + 1 ≤ w6.heap.size := by have := hg.size; rw [World.size_alloc] at this; omega
      have HK : Hid (KB 48 w6 S W H v ∧ w6.ownsRow (S + 1) 57 5 v' (i + 1) (rows5 (i + 1)) ∧ Below w.heap.size w w6 ∧ S + 1 ≤ w6.heap.size) := ⟨K6, hown', hb6, hs6⟩
      rcases hown'.2 with ⟨_, h0⟩ | ⟨g, cp, cur, hvv, _⟩
      · omega
      subst hvv
      have k2' := K6.c2
      have fz := K6.fz
      clear K6 hb6 hs6 hg hown' hrow k2
      go_wp2
      go_roundw
      case rel =>
        refine ⟨i + 1, by omega, by go_num, _, HK.out.1.set _, own_set HK.out.2.1 (by omega) _ _, ?_, ?_⟩
        · exact HK.out.2.2.1.setCell (p := ⟨S, 2, none⟩) (by show w.heap.size ≤ S; rw [HS.out]; omega) _
        · simpa [World.setCell] using HK.out.2.2.2
      case measure => simp [intOf]; omega
    · have hil' : ¬ (i : Int) < (n : Int) := by omega
      obtain rfl : i = n := by omega
      rcases HI.out.2.1.2 with ⟨_, h0⟩ | ⟨M, cap, cur, hv, hM, hcur, hc1, hc2, hc3, hc4⟩
      · omega
      have hce := HI.out.2.1.cells (g := M) (by rw [hv]; rfl)
      have HCS : Hid (CS 48 57 wr S M cap W H (fun _ _ => bk 0 0 0)) := by
        refine ⟨?_, ⟨⟨cur, hcur⟩, fun y x hy hx k u hu => ?_⟩, by omega, by rw [HN.out]; exact hc1⟩
        · have := HI.out.1; rw [hv, ← HN.out] at this; exact this
        · have hl := lin_lt hy hx
          rw [HN.out] at hl
          have := hce _ u (rows5_get hl hu)
          rw [show (⟨M, 0, none⟩ : Addr).add ((y * W + x) * 5 + k) = ⟨M, y * W * 5 + x * 5 + k, none⟩ by unfold Addr.add; split <;> simp_all [Nat.add_mul]] at this
          exact this
      have HF : Hid (S + 1 ≤ M) := hM
      clear hv hcur hc1 hc2 hc3 hc4 hM hce
      go_wp2
      refine bodyPost_ret (results_tmp2 rfl _ _ _) rfl ?_
      exact ⟨S, rfl, by rw [HS.out]; omega, M, cap, HCS.out, by rw [HS.out]; have := HF.out; omega, HI.out.2.2.1⟩
end Go.Proofs.YtlfffpoeioecjaaDoor
