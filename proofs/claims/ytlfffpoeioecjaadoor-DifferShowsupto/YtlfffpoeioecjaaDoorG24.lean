/-
  paneref's least, greatest, Clamped, Firm, Holds.
-/
import Derived.Test.YtlfffpoeioecjaaDoorG03
import Derived.Test.YtlfffpoeioecjaaDoorG14
import Derived.Test.YtlfffpoeioecjaaDoorG23
import Derived.Deep.OwnRows
namespace Go.Proofs.YtlfffpoeioecjaaDoor
open Go.RowKit Go.Sort
set_option linter.unusedVariables false

set_option maxRecDepth 100000 in
theorem least_any (a b : Int) (w : World) : Calls Tryd.prog 87 #[.int .i64 a, .int .i64 b] w fun e w' => e = .returned (.int .i64 (min a b)) ∧ w' = w := by
  go_enter Tryd.func87, Tryd.ntmps87
  by_cases h : a < b
  · go_wp2
    go_ret
    exact ⟨by rw [show min a b = a by omega]; rfl, rfl⟩
  · have h' : b ≤ a := by omega
    go_wp2
    go_ret
    exact ⟨by rw [show min a b = b by omega]; rfl, rfl⟩
set_option maxRecDepth 100000 in
theorem greatest_any (a b : Int) (w : World) : Calls Tryd.prog 86 #[.int .i64 a, .int .i64 b] w fun e w' => e = .returned (.int .i64 (max a b)) ∧ w' = w := by
  go_enter Tryd.func86, Tryd.ntmps86
  by_cases h : b < a
  · go_wp2
    go_ret
    exact ⟨by rw [show max a b = a by omega]; rfl, rfl⟩
  · have h' : a ≤ b := by omega
    go_wp2
    go_ret
    exact ⟨by rw [show max a b = b by omega]; rfl, rfl⟩
set_option maxRecDepth 100000 in
theorem rClamped_any (n : Int) (w : World) : Calls Tryd.prog 125 #[.int .i64 n] w fun e w' => e = .returned (.int .i64 (lenI n)) ∧ w' = w := by
  go_enter Tryd.func125, Tryd.ntmps125
  by_cases h : n < 0
  · go_wp2
    go_ret
    exact ⟨by rw [show lenI n = 0 by unfold lenI; omega]; rfl, rfl⟩
  · by_cases h2 : 100000 < n
    · have h' : ¬ n < 0 := h
      go_wp2
      go_ret
      exact ⟨by rw [show lenI n = 100000 by unfold lenI; omega]; rfl, rfl⟩
    · have h' : n ≤ 100000 := by omega
      have h0 : 0 ≤ n := by omega
      go_wp2
      go_ret
      exact ⟨by rw [show lenI n = n by unfold lenI; omega]; rfl, rfl⟩

set_option maxRecDepth 100000 in
set_option maxHeartbeats 2000000 in
theorem firm_any (x y a b : Int) (w : World) : Calls Tryd.prog 108 #[rv x y a b] w fun e w' => e = .returned (rv (posI x) (posI y) (lenI a) (lenI b)) ∧ Gr w w' := by
  have LS : Hid (∀ a b w, Calls Tryd.prog 87 #[.int .i64 a, .int .i64 b] w fun e w' => e = .returned (.int .i64 (min a b)) ∧ w' = w) := least_any
  have GS : Hid (∀ a b w, Calls Tryd.prog 86 #[.int .i64 a, .int .i64 b] w fun e w' => e = .returned (.int .i64 (max a b)) ∧ w' = w) := greatest_any
  have CS : Hid (∀ n w, Calls Tryd.prog 125 #[.int .i64 n] w fun e w' => e = .returned (.int .i64 (lenI n)) ∧ w' = w) := rClamped_any
  obtain ⟨px, hpx⟩ : ∃ z, max (-100000) (min 100000 x) = z := ⟨_, rfl⟩
  obtain ⟨py, hpy⟩ : ∃ z, max (-100000) (min 100000 y) = z := ⟨_, rfl⟩
  have ex : posI x = px := by unfold posI; omega
  have ey : posI y = py := by unfold posI; omega
  rw [ex, ey]
  obtain ⟨la, hla⟩ : ∃ z, lenI a = z := ⟨_, rfl⟩
  obtain ⟨lb, hlb⟩ : ∃ z, lenI b = z := ⟨_, rfl⟩
  unfold rv
  rw [hla, hlb]
  go_enter Tryd.func108, Tryd.ntmps108
  go_wp2_with (first | (go_at_call 87; refine (LS.out _ _ _).mono ?_; rintro e w2 ⟨rfl, rfl⟩) | (go_at_call 86; refine (GS.out _ _ _).mono ?_; rintro e w2 ⟨rfl, rfl⟩))
  go_region_held (fun W => W.cell? ⟨w.heap.size, 2, none⟩ = some (.int .i64 a) ∧ W.cell? ⟨w.heap.size, 3, none⟩ = some (.int .i64 b)) (go_keep) (first | (go_at_call 125; refine (CS.out _ _).mono ?_; rintro e w2 ⟨rfl, rfl⟩))
  all_goals
    try rw [hla, hlb]
    go_wp2
    refine bodyPost_ret (v := rv px py la lb) (by simp [results, Tryd.results108, go_sem, rv]) rfl ?_
    exact ⟨rfl, (((Gr.refl w).alloc _).alloc _).drew⟩

set_option maxRecDepth 100000 in
set_option maxHeartbeats 2000000 in
theorem rHolds_any (x y a b px py : Int) (w : World) : Calls Tryd.prog 90 #[rv x y a b, .int .i64 px, .int .i64 py] w fun e w' => e = .returned (.bool (holdB x y a b px py)) ∧ Gr w w' := by
  have CC : Hid (∀ x y a b w, Calls Tryd.prog 108 #[rv x y a b] w fun e w' => e = .returned (rv (posI x) (posI y) (lenI a) (lenI b)) ∧ Gr w w') := firm_any
  have HY : Hid ((posI x ≤ px ∧ px < posI x + lenI a ∧ posI y ≤ py ∧ py < posI y + lenI b) → holdB x y a b px py = true) := holdB_yes
  have HN : Hid (¬ (posI x ≤ px ∧ px < posI x + lenI a ∧ posI y ≤ py ∧ py < posI y + lenI b) → holdB x y a b px py = false) := holdB_no
  have b1 := posI_bd x
  have b2 := posI_bd y
  have b3 := lenI_bd a
  have b4 := lenI_bd b
  obtain ⟨A, hA⟩ : ∃ z, posI x = z := ⟨_, rfl⟩
  obtain ⟨B, hB⟩ : ∃ z, posI y = z := ⟨_, rfl⟩
  obtain ⟨C, hC⟩ : ∃ z, lenI a = z := ⟨_, rfl⟩
  obtain ⟨D, hD⟩ : ∃ z, lenI b = z := ⟨_, rfl⟩
  rw [hA, hB, hC, hD] at HY HN
  rw [hA] at b1
  rw [hB] at b2
  rw [hC] at b3
  rw [hD] at b4
  unfold rv at CC ⊢
  go_enter Tryd.func90, Tryd.ntmps90
  go_wp2_with (go_at_call 108; refine (CC.out _ _ _ _ _).mono ?_; rintro e w2 ⟨rfl, hg2⟩; have HG : Hid (Gr w w2) := ((Gr.refl w).alloc _).trans hg2; have HR : Hid (R4 136 w2 w.heap.size x y a b) := (R4.new w x y a b _).gr hg2; clear hg2; have c0 := HR.out.c0; have c1 := HR.out.c1; have c2 := HR.out.c2; have c3 := HR.out.c3; have f0 := HR.out.fz 0; have f1 := HR.out.fz 1; have f2 := HR.out.fz 2; have f3 := HR.out.fz 3; rw [hA, hB, hC, hD]; by_cases h1 : A ≤ px; by_cases h2 : B ≤ py; by_cases h3 : px < A + C; by_cases h4 : py < B + D)
  all_goals
    go_ret
    first
      | exact ⟨by rw [HY.out (by omega)]; rfl, HG.out.set4 (Nat.le_refl _) _ _ _ _⟩
      | exact ⟨by rw [HN.out (by omega)]; rfl, HG.out.set4 (Nat.le_refl _) _ _ _ _⟩
      | exact ⟨by rw [HY.out (by omega)]; exact congrArg (fun z => Ending.returned (Value.bool z)) (decide_eq_true (by omega)), HG.out.set4 (Nat.le_refl _) _ _ _ _⟩
      | exact ⟨by rw [HN.out (by omega)]; exact congrArg (fun z => Ending.returned (Value.bool z)) (decide_eq_false (by omega)), HG.out.set4 (Nat.le_refl _) _ _ _ _⟩

end Go.Proofs.YtlfffpoeioecjaaDoor

namespace Go.Proofs.YtlfffpoeioecjaaDoor
open Go.RowKit Go.Sort
set_option linter.unusedVariables false

section
variable {K M cap W H : Nat} {c : Nat → Nat → Ce}
def scrB (W H : Nat) (x y : Int) : Bool := decide (0 ≤ x ∧ x < W ∧ 0 ≤ y ∧ y < H)
theorem scrB_yes {W H : Nat} {x y : Int} (h : 0 ≤ x ∧ x < W ∧ 0 ≤ y ∧ y < H) : scrB W H x y = true := decide_eq_true h
theorem scrB_no {W H : Nat} {x y : Int} (h : ¬ (0 ≤ x ∧ x < W ∧ 0 ≤ y ∧ y < H)) : scrB W H x y = false := decide_eq_false h
set_option maxRecDepth 100000 in
set_option maxHeartbeats 2000000 in
theorem screen_any (w : World) (h : CS 48 57 w K M cap W H c) (x y : Int) : Calls Tryd.prog 89 #[.pointer (some ⟨K, 0, none⟩), .int .i64 x, .int .i64 y] w fun e w' => e = .returned (.bool (scrB W H x y)) ∧ w' = w := by
  have k0 := h.k0
  have k1 := h.k1
  clear h
  have hc : x < 0 ∨ (0 ≤ x ∧ (W : Int) ≤ x) ∨ (0 ≤ x ∧ x < W ∧ y < 0) ∨ (0 ≤ x ∧ x < W ∧ 0 ≤ y ∧ (H : Int) ≤ y) ∨ (0 ≤ x ∧ x < W ∧ 0 ≤ y ∧ y < H) := by omega
  rcases hc with h1 | ⟨h1, h2⟩ | ⟨h1, h2, h3⟩ | ⟨h1, h2, h3, h4⟩ | ⟨h1, h2, h3, h4⟩
  · rw [scrB_no (by omega)]
    go_enter Tryd.func89, Tryd.ntmps89
    go_wp2
    go_ret
    exact ⟨rfl, rfl⟩
  · rw [scrB_no (by omega)]
    have e1 : decide (x < (W : Int)) = false := decide_eq_false (by omega)
    go_enter Tryd.func89, Tryd.ntmps89
    go_wp2
    go_ret
    exact ⟨rfl, rfl⟩
  · rw [scrB_no (by omega)]
    have e1 : decide (x < (W : Int)) = true := decide_eq_true (by omega)
    have e2 : decide (0 ≤ y) = false := decide_eq_false (by omega)
    go_enter Tryd.func89, Tryd.ntmps89
    go_wp2
    go_ret
    exact ⟨rfl, rfl⟩
  · rw [scrB_no (by omega)]
    have e1 : decide (x < (W : Int)) = true := decide_eq_true (by omega)
    have e2 : decide (0 ≤ y) = true := decide_eq_true (by omega)
    have e3 : decide (y < (H : Int)) = false := decide_eq_false (by omega)
    go_enter Tryd.func89, Tryd.ntmps89
    go_wp2
    go_ret
    exact ⟨rfl, rfl⟩
  · rw [scrB_yes (by omega)]
    have e1 : decide (x < (W : Int)) = true := decide_eq_true (by omega)
    have e2 : decide (0 ≤ y) = true := decide_eq_true (by omega)
    have e3 : decide (y < (H : Int)) = true := decide_eq_true (by omega)
    go_enter Tryd.func89, Tryd.ntmps89
    go_wp2
    go_ret
    exact ⟨rfl, rfl⟩

theorem lin_lt {W H y x : Nat} (hy : y < H) (hx : x < W) : y * W + x < W * H := by
  have : (y + 1) * W ≤ H * W := Nat.mul_le_mul_right _ (by omega)
  rw [Nat.add_mul] at this
  rw [Nat.mul_comm W H]; omega
set_option maxRecDepth 100000 in
set_option maxHeartbeats 4000000 in
theorem rblank_any (w : World) (h : CS 48 57 w K M cap W H c) (hW : W ≤ 400) (hH : H ≤ 400) (y x : Nat) (hy : y < H) (hx : x < W) (i : Nat) (hi : i = y * W + x) : Calls Tryd.prog 109 #[.pointer (some ⟨K, 0, none⟩), .int .i64 i] w fun e w' => e = .returned (.tuple #[]) ∧ Cv 57 w' M W H (upd c y x (bl (c y x))) ∧ Ch M w w' := by
  have k2 := h.k2
  have kl := h.klt
  have hn : i < W * H := by rw [hi]; exact lin_lt hy hx
  have hc := h.hc
  obtain ⟨n, hnn⟩ : ∃ n, W * H = n := ⟨_, rfl⟩
  have nb : n ≤ 160000 := by rw [← hnn]; exact Nat.mul_le_mul hW hH
  rw [hnn] at k2 hn hc
  have eo : y * W * 5 + x * 5 = i * 5 := by rw [hi, Nat.add_mul]
  have HEO : Hid (y * W * 5 + x * 5 = i * 5) := eo
  have HV : Hid (Cv 57 w M W H c) := h.cv
  have d0 := HV.out.c0 hy hx
  have d1 := HV.out.c1 hy hx
  have d2 := HV.out.c2 hy hx
  have d3 := HV.out.c3 hy hx
  have d4 := HV.out.c4 hy hx
  rw [eo] at d0 d1 d2 d3 d4
  have fz := HV.out.fz
  have hi' : (i : Int) < (n : Int) := by omega
  clear h hnn eo hi
  go_enter Tryd.func109, Tryd.ntmps109
  go_wp2_with fail
  go_region
  all_goals
    go_wp2
    go_end0
    refine ⟨rfl, ?_, ((Ch.gr ((Gr.refl w).drew))).set5 _ _ _ _ _⟩
    have := (HV.out.gr ((Gr.refl w).drew)).set hy hx (bl (c y x))
    rw [HEO.out] at this
    exact this
end
end Go.Proofs.YtlfffpoeioecjaaDoor

namespace Go.Proofs.YtlfffpoeioecjaaDoor
open Go.RowKit Go.Sort
set_option linter.unusedVariables false

theorem R5.fz {T : TypeId} {Q : World} {b : Nat} {e : Ce} (h : R5 T Q b e) (j : Nat) : Q.frozen? ⟨b, j, none⟩ = false := frozen_of_row _ _ _ _ _ h
theorem R5.set {T : TypeId} {Q : World} {b : Nat} {e : Ce} (h : R5 T Q b e) (e' : Ce) : R5 T (((((Q.setCell ⟨b, 0, none⟩ (.string e'.t)).setCell ⟨b, 1, none⟩ (.int .i64 e'.f)).setCell ⟨b, 2, none⟩ (.int .i64 e'.g)).setCell ⟨b, 3, none⟩ (.int .i64 e'.b)).setCell ⟨b, 4, none⟩ (.int .i64 e'.p)) b e' := by
  have h0 : R5 T (Q.setCell ⟨b, 0, none⟩ (.string e'.t)) b ⟨e'.t, e.f, e.g, e.b, e.p⟩ := heap_setCell_same _ b 0 _ T _ h
  have h1 : R5 T _ b ⟨e'.t, e'.f, e.g, e.b, e.p⟩ := heap_setCell_same _ b 1 _ T (.int .i64 e'.f) h0
  have h2 : R5 T _ b ⟨e'.t, e'.f, e'.g, e.b, e.p⟩ := heap_setCell_same _ b 2 _ T (.int .i64 e'.g) h1
  have h3 : R5 T _ b ⟨e'.t, e'.f, e'.g, e'.b, e.p⟩ := heap_setCell_same _ b 3 _ T (.int .i64 e'.b) h2
  exact heap_setCell_same _ b 4 _ T (.int .i64 e'.p) h3

theorem Gr.set5 {Q Q' : World} {k o0 o1 o2 o3 o4 : Nat} (h : Gr Q Q') (hk : Q.heap.size ≤ k) (v0 v1 v2 v3 v4 : Value) : Gr Q (((((Q'.setCell ⟨k, o0, none⟩ v0).setCell ⟨k, o1, none⟩ v1).setCell ⟨k, o2, none⟩ v2).setCell ⟨k, o3, none⟩ v3).setCell ⟨k, o4, none⟩ v4) := ((((h.set hk v0).set hk v1).set hk v2).set hk v3).set hk v4

set_option maxRecDepth 100000 in
set_option maxHeartbeats 2000000 in
theorem cell_any (e : Ce) (w : World) : Calls Tryd.prog 24 #[cev e] w fun r w' => r = .returned (cev e) ∧ Gr w w' := by
  have LA : Hid (∀ f g b w, Calls Tryd.prog 39 #[sv f g b] w fun e w' => e = .returned (sv f g b) ∧ Gr w w') := look_any
  obtain ⟨t, f, g, b, p⟩ := e
  unfold cev
  unfold sv at LA
  go_enter Tryd.func24, Tryd.ntmps24
  go_wp2_with fail
  obtain ⟨S, hS⟩ : ∃ z, w.heap.size = z := ⟨_, rfl⟩
  obtain ⟨W0, hW0⟩ : ∃ z, (w.alloc (.cells #[.string t, .int .i64 f, .int .i64 g, .int .i64 b, .int .i64 p] 57)).alloc (.cells #[.string ⟨#[]⟩, .int .i64 0, .int .i64 0, .int .i64 0, .int .i64 0] 34) = z := ⟨_, rfl⟩
  have G0 : Hid (Gr w W0) := by rw [← hW0]; exact ((Gr.refl w).alloc _).alloc _
  have R0 : Hid (R5 57 W0 S ⟨t, f, g, b, p⟩) := by rw [← hW0, ← hS]; exact (R5.new w ⟨t, f, g, b, p⟩ _).gr ((Gr.refl _).alloc _)
  have R1 : Hid (R5 34 W0 (S + 1) ⟨⟨#[]⟩, 0, 0, 0, 0⟩) := by
    have := R5.new (w.alloc (.cells #[.string t, .int .i64 f, .int .i64 g, .int .i64 b, .int .i64 p] 57)) ⟨⟨#[]⟩, 0, 0, 0, 0⟩ 34
    rw [World.size_alloc, hS] at this
    rw [← hW0]; exact this
  rw [hW0, hS]
  have HS : Hid (w.heap.size = S) := hS
  clear hW0 hS
  have q0 := R0.out.c0
  have q1 := R0.out.c1
  have q2 := R0.out.c2
  have q3 := R0.out.c3
  have q4 := R0.out.c4
  go_region_with (go_at_call 39; refine Calls.mono (LA.out _ _ _ _) ?_; rintro e1 w1 ⟨rfl, g1⟩; have G1 : Hid (Gr W0 w1) := (by first | exact ((Gr.refl W0).drew).trans g1 | exact g1); clear g1; have o0 := (R0.out.gr G1.out).c0; have o4 := (R0.out.gr G1.out).c4; have u0 := (R1.out.gr G1.out).c0; have u1 := (R1.out.gr G1.out).c1; have u2 := (R1.out.gr G1.out).c2; have u3 := (R1.out.gr G1.out).c3; have u4 := (R1.out.gr G1.out).c4; have uf := (R1.out.gr G1.out).fz)
  all_goals
    go_wp2
    refine bodyPost_ret (results_cell_row rfl _ _ (S + 1) _ _ _ _ rfl ((R1.out.gr G1.out).set ⟨t, f, g, b, p⟩) Tryd.underlying34 rfl (by kernel_rfl)) rfl ?_
    exact ⟨rfl, (G0.out.trans G1.out).set5 (by rw [HS.out]; omega) _ _ _ _ _⟩

/-- A place in the list is a row and a column. -/
theorem lin_split {W H i : Nat} (hi : i < W * H) : ∃ y x, y < H ∧ x < W ∧ i = y * W + x := by
  have h0 : 0 < W := by
    rcases Nat.eq_zero_or_pos W with h | h
    · subst h; simp at hi
    · exact h
  refine ⟨i / W, i % W, ?_, Nat.mod_lt _ h0, ?_⟩
  · exact Nat.div_lt_of_lt_mul hi
  · rw [Nat.mul_comm]; exact (Nat.div_add_mod i W).symm

end Go.Proofs.YtlfffpoeioecjaaDoor

namespace Go.Proofs.YtlfffpoeioecjaaDoor
open Go.RowKit Go.Sort
set_option linter.unusedVariables false

theorem infoRC : (Tryd.prog.info? 57).map (fun i => (i.zero, i.size, i.bytes)) = some (some (.agg #[.string ⟨#[]⟩, .int .i64 0, .int .i64 0, .int .i64 0, .int .i64 0]), 5, 48) := by kernel_rfl
/-- Blank cells, one behind another. -/
def rows5 : Nat → List Value
  | 0 => []
  | n + 1 => rows5 n ++ c5 (bk 0 0 0)
theorem rows5_len (n : Nat) : (rows5 n).length = n * 5 := by
  induction n with
  | zero => rfl
  | succ n ih => rw [rows5, List.length_append, ih, c5_len]; omega
theorem rows5_get {n i k : Nat} {u : Value} (hi : i < n) (hu : (c5 (bk 0 0 0))[k]? = some u) : (rows5 n)[i * 5 + k]? = some u := by
  induction n with
  | zero => omega
  | succ n ih =>
    have hk : k < 5 := (List.getElem?_eq_some_iff.1 hu).1
    rw [rows5]
    by_cases h : i < n
    · rw [List.getElem?_append_left (by rw [rows5_len]; omega)]; exact ih h
    · obtain rfl : i = n := by omega
      rw [List.getElem?_append_right (by rw [rows5_len]; omega), rows5_len, show i * 5 + k - i * 5 = k by omega]; exact hu
/-- The struct of a canvas that is being made. -/
def KB (T : TypeId) (Q : World) (K W H : Nat) (v : Value) : Prop := Q.heap[K]? = some (.cells #[.int .i64 W, .int .i64 H, v] T (0, 0))
theorem KB.lt {T : TypeId} {Q : World} {K W H : Nat} {v : Value} (h : KB T Q K W H v) : K < Q.heap.size := (Array.getElem?_eq_some_iff.1 h).1
theorem KB.c2 {T : TypeId} {Q : World} {K W H : Nat} {v : Value} (h : KB T Q K W H v) : Q.cell? ⟨K, 2, none⟩ = some v := by unfold KB at h; simp [World.cell?, h]
theorem KB.fz {T : TypeId} {Q : World} {K W H : Nat} {v : Value} (h : KB T Q K W H v) (j : Nat) : Q.frozen? ⟨K, j, none⟩ = false := frozen_of_row _ _ _ _ _ h
theorem KB.set {T : TypeId} {Q : World} {K W H : Nat} {v : Value} (h : KB T Q K W H v) (v' : Value) : KB T (Q.setCell ⟨K, 2, none⟩ v') K W H v' := heap_setCell_same _ K 2 _ T _ h
theorem cell_five_new (w : World) (e : Ce) (T : TypeId) (j : Nat) (u : Value) (hj : (c5 e)[j]? = some u) : (w.alloc (.cells #[.string e.t, .int .i64 e.f, .int .i64 e.g, .int .i64 e.b, .int .i64 e.p] T)).cell? ((⟨w.heap.size, 0, none⟩ : Addr).add j) = some u := by
  have h := R5.new w e T
  have hk : j < 5 := (List.getElem?_eq_some_iff.1 hj).1
  rcases (by omega : j = 0 ∨ j = 1 ∨ j = 2 ∨ j = 3 ∨ j = 4) with rfl | rfl | rfl | rfl | rfl
  · exact h.c0.trans hj
  · exact h.c1.trans hj
  · exact h.c2.trans hj
  · exact h.c3.trans hj
  · exact h.c4.trans hj

theorem own_set {w : World} {B n size k : Nat} {e : TypeId} {v : Value} {xs : List Value} (h : w.ownsRow B e size v n xs) (hk : k < B) (o : Nat) (u : Value) : (w.setCell ⟨k, o, none⟩ u).ownsRow B e size v n xs := by
  refine ⟨h.1, ?_⟩
  rcases h.2 with h2 | ⟨g, cap, cur, a, b, c, d⟩
  · exact .inl h2
  · exact .inr ⟨g, cap, cur, a, b, (Below.heap_setCell w ⟨k, o, none⟩ u g (by show g ≠ k; omega)).trans c, d⟩
/-- A new canvas of the reference's stands at K. -/
def RN (w w' : World) (W H K : Nat) : Prop := w.heap.size ≤ K ∧ ∃ M cap, CS 48 57 w' K M cap W H (fun _ _ => bk 0 0 0) ∧ w.heap.size ≤ M ∧ Below w.heap.size w w'

set_option maxRecDepth 100000 in
set_option maxHeartbeats 4000000 in
theorem rnew_ok (W H : Nat) (hW : 1 ≤ W ∧ W ≤ 400) (hH : 1 ≤ H ∧ H ≤ 400) (w : World) : Calls Tryd.prog 37 #[.int .i64 W, .int .i64 H] w fun e w' => ∃ K, e = .returned (.tuple #[.pointer (some ⟨K, 0, none⟩), .int .i64 0]) ∧ RN w w' W H K := by
  obtain ⟨i0, hi0, hz0, hz1, hz2⟩ := info_parts infoRC
  obtain ⟨n, hnn⟩ : ∃ n, W * H = n := ⟨_, rfl⟩
  have nb : 1 ≤ n ∧ n ≤ 160000 := by rw [← hnn]; exact ⟨Nat.mul_le_mul hW.1 hH.1, Nat.mul_le_mul hW.2 hH.2⟩
  have eN : (W : Int) * (H : Int) = (n : Int) := by rw [← hnn]; simp
  have HN : Hid (W * H = n) := hnn
  clear hnn
  obtain ⟨S, hS⟩ : ∃ z, w.heap.size = z := ⟨_, rfl⟩
  have HS : Hid (w.heap.size = S) := hS
  go_enter Tryd.func37, Tryd.ntmps37
  go_wp2_with fail
  obtain ⟨W0, hW0⟩ : ∃ z, w.alloc (.cells #[.int .i64 W, .int .i64 H, .slice none 0 0] 48) = z := ⟨_, rfl⟩
  have B0 : Hid (Below w.heap.size w W0 ∧ S + 1 ≤ W0.heap.size) := by
    rw [← hW0]; exact ⟨((Gr.refl w).alloc _).below, by rw [World.size_alloc, hS]; omega⟩
  have R0 : Hid (KB 48 W0 S W H (.slice none 0 0)) := by rw [← hW0, ← hS]; exact heap_alloc_new _ _
  try rw [hW0]
  try rw [hS]
  clear hW0 hS
  go_loopw [7] (fun iv wi => ∃ i : Nat, i ≤ n ∧ iv = .int .i64 i ∧ ∃ v, Hid (KB 48 wi S W H v ∧ wi.ownsRow (S + 1) 57 5 v i (rows5 i) ∧ Below w.heap.size w wi ∧ S + 1 ≤ wi.heap.size)) (fun iv _ => n - (intOf iv).toNat)
  case atStart => exact ⟨0, by omega, rfl, _, R0.out, World.ownsRow_nil _ _ _ _, B0.out.1, B0.out.2⟩
  case round =>
    obtain ⟨i, hi, rfl, v, HI⟩ := hrel
    by_cases hil : i < n
    · have hil' : (i : Int) < (n : Int) := by omega
      have k2 := HI.out.1.c2
      have hsz := HI.out.2.2.2
      go_wp2_with (at_builtin; refine wpList_append_own _ rfl _ _ 36 rfl (S + 1) 57 i0 (.agg #[.string ⟨#[]⟩, .int .i64 0, .int .i64 0, .int .i64 0, .int .i64 0]) 5 48 Tryd.underlying36 hi0 hz0 hz1 hz2 rfl (by decide) _ _ _ rfl (HI.out.2.1.alloc _) _ 1 1 (c5 (bk 0 0 0)) rfl rfl ?c1 ?c2 ?c3 ?c4 ?c5 ?_)
      case c1 => exact cell_five_new _ (bk 0 0 0) _
      case c2 => intro u hu; unfold c5 at hu; simp at hu; rcases hu with rfl | rfl | rfl | rfl | rfl <;> rfl
      case c3 => unfold maxLen; omega
      case c4 => omega
      case c5 => simp; omega
      intro v' w6 hown' hg _
      have hrow : ∀ q, Value.ownBlock v = some q → S + 1 ≤ q ∧ q < wr.heap.size := fun q hq => HI.out.2.1.lt q hq
      have kl := HI.out.1.lt
      have K6 : KB 48 w6 S W H v := by
        refine (hg.block S (by rw [World.size_alloc]; omega) (fun e => by have := hrow _ e.symm; omega)).trans ?_
        exact (((Gr.refl wr).alloc _).block kl).trans HI.out.1
      have hb6 : Below w.heap.size w w6 := (HI.out.2.2.1.alloc (by rw [HS.out]; omega) _).grown hg (by rw [World.size_alloc, HS.out]; omega) (fun q hq => by have := hrow q hq; rw [HS.out]; omega)
      have hs6 : S + 1 ≤ w6.heap.size := by have := hg.size; rw [World.size_alloc] at this; omega
      have HK : Hid (KB 48 w6 S W H v ∧ w6.ownsRow (S + 1) 57 5 v' (i + 1) (rows5 (i + 1)) ∧ Below w.heap.size w w6 ∧ S + 1 ≤ w6.heap.size) := ⟨K6, hown', hb6, hs6⟩
      rcases hown'.2 with ⟨_, h0⟩ | ⟨g, cp, cur, hvv, _⟩
      · omega
      subst hvv
      have k2' := K6.c2
      have fz := K6.fz
      clear K6 hb6 hs6 hg hown' hrow k2
      go_wp2
      go_roundw
      case rel =>
        refine ⟨i + 1, by omega, by go_num, _, HK.out.1.set _, own_set HK.out.2.1 (by omega) _ _, ?_, ?_⟩
        · exact HK.out.2.2.1.setCell (p := ⟨S, 2, none⟩) (by show w.heap.size ≤ S; rw [HS.out]; omega) _
        · simpa [World.setCell] using HK.out.2.2.2
      case measure => simp [intOf]; omega
    · have hil' : ¬ (i : Int) < (n : Int) := by omega
      obtain rfl : i = n := by omega
      rcases HI.out.2.1.2 with ⟨_, h0⟩ | ⟨M, cap, cur, hv, hM, hcur, hc1, hc2, hc3, hc4⟩
      · omega
      have hce := HI.out.2.1.cells (g := M) (by rw [hv]; rfl)
      have HCS : Hid (CS 48 57 wr S M cap W H (fun _ _ => bk 0 0 0)) := by
        refine ⟨?_, ⟨⟨cur, hcur⟩, fun y x hy hx k u hu => ?_⟩, by omega, by rw [HN.out]; exact hc1⟩
        · have := HI.out.1; rw [hv, ← HN.out] at this; exact this
        · have hl := lin_lt hy hx
          rw [HN.out] at hl
          have := hce _ u (rows5_get hl hu)
          rw [show (⟨M, 0, none⟩ : Addr).add ((y * W + x) * 5 + k) = ⟨M, y * W * 5 + x * 5 + k, none⟩ by unfold Addr.add; split <;> simp_all [Nat.add_mul]] at this
          exact this
      have HF : Hid (S + 1 ≤ M) := hM
      clear hv hcur hc1 hc2 hc3 hc4 hM hce
      go_wp2
      refine bodyPost_ret (results_tmp2 rfl _ _ _) rfl ?_
      exact ⟨S, rfl, by rw [HS.out]; omega, M, cap, HCS.out, by rw [HS.out]; have := HF.out; omega, HI.out.2.2.1⟩
end Go.Proofs.YtlfffpoeioecjaaDoor

namespace Go.Proofs.YtlfffpoeioecjaaDoor
open Go.RowKit Go.Sort
set_option linter.unusedVariables false

theorem infoBool : (Tryd.prog.info? 4).map (fun i => (i.zero, i.size, i.bytes)) = some (some (.bool false), 1, 1) := by kernel_rfl
set_option maxRecDepth 100000 in
theorem tnum_any (n : Int) (w : World) : Calls Tryd.prog 14 #[.int .i64 n] w fun e w' => e = .returned (.int .i64 n) ∧ w' = w := by
  go_enter Tryd.func14, Tryd.ntmps14
  go_wp2
  go_ret
  exact ⟨rfl, rfl⟩

set_option maxRecDepth 100000 in
theorem rnew_bad (W H : Int) (w : World) (h : ¬ ((1 ≤ W ∧ W ≤ 400) ∧ (1 ≤ H ∧ H ≤ 400))) : Calls Tryd.prog 37 #[.int .i64 W, .int .i64 H] w fun e w' => e = .returned (.tuple #[.pointer none, .int .i64 6]) ∧ w' = w := by
  have hc : W < 1 ∨ ¬ W < 1 ∧ (400 < W ∨ ¬ 400 < W ∧ (H < 1 ∨ ¬ H < 1 ∧ 400 < H)) := by omega
  clear h
  rcases hc with h1 | ⟨h1, h2 | ⟨h2, h3 | ⟨h3, h4⟩⟩⟩ <;>
  · go_enter Tryd.func37, Tryd.ntmps37
    go_wp2
    refine bodyPost_ret (v := .tuple #[.pointer none, .int .i64 6]) (by simp [results, Tryd.results37, go_sem]) rfl ?_
    exact ⟨rfl, rfl⟩

set_option maxRecDepth 100000 in
theorem rterm_bad (W H : Int) (w : World) (h : ¬ ((1 ≤ W ∧ W ≤ 400) ∧ (1 ≤ H ∧ H ≤ 400))) : Calls Tryd.prog 22 #[.int .i64 W, .int .i64 H] w fun e w' => e = .returned (.tuple #[.pointer none, .int .i64 6]) ∧ w' = w := by
  have NB : Hid (Calls Tryd.prog 37 #[.int .i64 W, .int .i64 H] w fun e w' => e = .returned (.tuple #[.pointer none, .int .i64 6]) ∧ w' = w) := rnew_bad W H w h
  clear h
  go_enter Tryd.func22, Tryd.ntmps22
  go_wp2_with fail
  refine NB.out.mono ?_
  rintro e w1 ⟨rfl, hw⟩
  obtain rfl := hw.symm
  go_wp2
  refine bodyPost_ret (v := .tuple #[.pointer none, .int .i64 6]) (by simp [results, Tryd.results22, go_sem]) rfl ?_
  exact ⟨rfl, rfl⟩

set_option maxRecDepth 100000 in
set_option maxHeartbeats 2000000 in
theorem rterm_ok (W H : Nat) (w : World) (hW : 1 ≤ W ∧ W ≤ 400) (hH : 1 ≤ H ∧ H ≤ 400) : Calls Tryd.prog 22 #[.int .i64 W, .int .i64 H] w fun e w' => ∃ T, e = .returned (.tuple #[.pointer (some ⟨T, 0, none⟩), .int .i64 0]) ∧ Below w.heap.size w w' := by
  have NO : Hid (Calls Tryd.prog 37 #[.int .i64 W, .int .i64 H] w fun e w' => ∃ K, e = .returned (.tuple #[.pointer (some ⟨K, 0, none⟩), .int .i64 0]) ∧ RN w w' W H K) := rnew_ok W H hW hH w
  have hwh : W * H ≤ 160000 := Nat.le_trans (Nat.mul_le_mul hW.2 hH.2) (by decide)
  obtain ⟨n, hn⟩ : ∃ n, W * H = n := ⟨_, rfl⟩
  have hn' : (W : Int) * (H : Int) = (n : Int) := by rw [← hn, Int.natCast_mul]
  rw [hn] at hwh
  clear hn
  obtain ⟨C, hmk⟩ : ∃ C, ∀ u : World, (Instr.makeSlice 51 (.int .i64 (n : Int)) (.int .i64 (n : Int))).run Tryd.prog u = .ok (.slice (some ⟨u.heap.size, 0, none⟩) n n) (u.alloc (.cells C 4)) := ⟨_, fun u => by
    have := run_make_row' (P := Tryd.prog) 51 4 (.bool false) 1 Tryd.underlying51 infoBool rfl .i64 .i64 n (by omega) (by omega) u
    simpa using this⟩
  go_enter Tryd.func22, Tryd.ntmps22
  go_wp2_with fail
  refine NO.out.mono ?_
  rintro e w1 ⟨K, rfl, hk, M, cap, hcs, hm, b1⟩
  have HB : Hid (Below w.heap.size w w1) := b1
  clear hk hcs hm b1
  go_wp2
  refine bodyPost_ret (v := .tuple #[.pointer (some ⟨w1.heap.size + 1, 0, none⟩), .int .i64 0]) (by simp [results, Tryd.results22, go_sem]) rfl ?_
  have h1 := HB.out.size
  exact ⟨_, rfl, (HB.out.alloc h1 _).alloc (by simp; omega) _⟩

set_option maxRecDepth 100000 in
set_option maxHeartbeats 2000000 in
theorem twin_bad (W H : Int) (w : World) (h : ¬ ((1 ≤ W ∧ W ≤ 400) ∧ (1 ≤ H ∧ H ≤ 400))) : Calls Tryd.prog 7 #[.int .i64 W, .int .i64 H] w fun e w' => e = .returned (.tuple #[.pointer none, .pointer none, .bool true]) ∧ w' = w := by
  have N1 : Hid (Calls Tryd.prog 21 #[.int .i64 W, .int .i64 H] w fun e w' => e = .returned (.tuple #[.pointer none, .int .i64 6]) ∧ w' = w) := tnew_bad W H w h
  have N2 : Hid (Calls Tryd.prog 22 #[.int .i64 W, .int .i64 H] w fun e w' => e = .returned (.tuple #[.pointer none, .int .i64 6]) ∧ w' = w) := rterm_bad W H w h
  clear h
  go_enter Tryd.func7, Tryd.ntmps7
  go_wp2_with fail
  refine N1.out.mono ?_
  rintro e w1 ⟨rfl, hw⟩
  obtain rfl := hw.symm
  go_wp2_with fail
  refine N2.out.mono ?_
  rintro e w1 ⟨rfl, hw⟩
  obtain rfl := hw.symm
  go_wp2_with fail
  refine (tnum_any _ _).mono ?_
  rintro e w1 ⟨rfl, hw⟩
  obtain rfl := hw.symm
  go_wp2
  refine bodyPost_ret (v := .tuple #[.pointer none, .pointer none, .bool true]) (by simp [results, Tryd.results7, go_sem]) rfl ?_
  exact ⟨rfl, rfl⟩

set_option maxRecDepth 100000 in
set_option maxHeartbeats 2000000 in
theorem twin_ok (W H : Nat) (w : World) (hW : 1 ≤ W ∧ W ≤ 400) (hH : 1 ≤ H ∧ H ≤ 400) (hp : PAll W H (fun _ _ => bk 0 0 0)) : Calls Tryd.prog 7 #[.int .i64 W, .int .i64 H] w fun e w' => ∃ T K M T2, e = .returned (.tuple #[.pointer (some ⟨T, 0, none⟩), .pointer (some ⟨T2, 0, none⟩), .bool true]) ∧ TM w' T K M (W * H) (tm0 W H) (fnV 36 #[]) ∧ w.heap.size ≤ T ∧ w.heap.size ≤ K ∧ w.heap.size ≤ M ∧ Below w.heap.size w w' := by
  have N1 : Hid (Calls Tryd.prog 21 #[.int .i64 W, .int .i64 H] w fun e w' => ∃ T K M, e = .returned (.tuple #[.pointer (some ⟨T, 0, none⟩), .int .i64 0]) ∧ TM w' T K M (W * H) (tm0 W H) (fnV 36 #[]) ∧ w.heap.size ≤ T ∧ w.heap.size ≤ K ∧ w.heap.size ≤ M ∧ Below w.heap.size w w') := tnew_ok W H w hW hH hp
  have N2 : Hid (∀ w, Calls Tryd.prog 22 #[.int .i64 W, .int .i64 H] w fun e w' => ∃ T, e = .returned (.tuple #[.pointer (some ⟨T, 0, none⟩), .int .i64 0]) ∧ Below w.heap.size w w') := fun w => rterm_ok W H w hW hH
  go_enter Tryd.func7, Tryd.ntmps7
  go_wp2_with fail
  refine N1.out.mono ?_
  rintro e w1 ⟨T, K, M, rfl, hq⟩
  have HQ : Hid (TM w1 T K M (W * H) (tm0 W H) (fnV 36 #[]) ∧ w.heap.size ≤ T ∧ w.heap.size ≤ K ∧ w.heap.size ≤ M ∧ Below w.heap.size w w1) := hq
  clear hq
  go_wp2_with fail
  refine (N2.out w1).mono ?_
  rintro e w2 ⟨T2, rfl, b2⟩
  have HR : Hid (TM w2 T K M (W * H) (tm0 W H) (fnV 36 #[]) ∧ w.heap.size ≤ T ∧ w.heap.size ≤ K ∧ w.heap.size ≤ M ∧ Below w.heap.size w w2) := ⟨HQ.out.1.below b2, HQ.out.2.1, HQ.out.2.2.1, HQ.out.2.2.2.1, HQ.out.2.2.2.2.trans (b2.mono HQ.out.2.2.2.2.size)⟩
  clear b2 HQ
  go_wp2_with fail
  refine (tnum_any _ _).mono ?_
  rintro e w3 ⟨rfl, hw⟩
  obtain rfl := hw.symm
  go_wp2
  refine bodyPost_ret (v := .tuple #[.pointer (some ⟨T, 0, none⟩), .pointer (some ⟨T2, 0, none⟩), .bool true]) (by simp [results, Tryd.results7, go_sem]) rfl ?_
  exact ⟨T, K, M, T2, rfl, HR.out.1, HR.out.2.1, HR.out.2.2.1, HR.out.2.2.2.1, HR.out.2.2.2.2⟩

end Go.Proofs.YtlfffpoeioecjaaDoor
