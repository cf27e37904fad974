/-
  D1, of cells by their number: which cells are a row, and which a screen.
-/
import Derived.Test.YtlfffpoeioecjaaDoorU05
import Derived.Test.YtlfffpoeioecjaaDoorU16
import Derived.Test.YtlfffpoeioecjaaDoorU00
import Derived.Test.YtlfffpoeioecjaaDoorRows
import Derived.ProofKit
import Derived.OpenShut
import Derived.Lib.LaidTab
import Derived.Test.YtlfffpoeioecjaaDoorU09
import Derived.Test.YtlfffpoeioecjaaDoorU10
namespace Go.Proofs.YtlfffpoeioecjaaDoor
set_option linter.unusedVariables false

def Sty (e : Ce) : Prop := kn e.f = e.f ∧ kn e.g = e.g ∧ bo e.b = e.b
def Txt (e : Ce) (n : Int) : Prop := clus (runes e.t.data.toList) = [(e.t.data.toList, n)]
/-- A cell, in a row from lo up to hi. -/
structure Ok1 (C : Nat → Ce) (lo hi i : Nat) : Prop where
  sty : Sty (C i)
  part : (C i).p = 0 ∨ (C i).p = 1 ∨ (C i).p = 2
  head : (C i).p = 1 → i + 1 < hi ∧ (C (i + 1)).p = 2 ∧ (C (i + 1)).f = (C i).f ∧ (C (i + 1)).g = (C i).g ∧ (C (i + 1)).b = (C i).b
  tail : (C i).p = 2 → lo < i ∧ (C (i - 1)).p = 1 ∧ (C i).t = ⟨#[]⟩
  text : (C i).p ≠ 2 → Txt (C i) ((C i).p + 1)
def RowOk (C : Nat → Ce) (lo hi : Nat) : Prop := ∀ i, lo ≤ i → i < hi → Ok1 C lo hi i
/-- All up to x is right, and no head is ahead of it. -/
structure Upto (C : Nat → Ce) (lo hi x : Nat) : Prop where
  low : lo ≤ x
  high : x ≤ hi
  ok : ∀ i, lo ≤ i → i < x → Ok1 C lo hi i
  no : x = lo ∨ (C (x - 1)).p ≠ 1
section
variable {C : Nat → Ce} {lo hi x : Nat}
theorem Upto.start (h : lo ≤ hi) : Upto C lo hi lo := ⟨Nat.le_refl _, h, fun i h1 h2 => absurd h2 (by omega), .inl rfl⟩
theorem Upto.all (h : Upto C lo hi hi) : RowOk C lo hi := h.ok
theorem Upto.one (h : Upto C lo hi x) (hx : x < hi) (h0 : (C x).p = 0) (hs : Sty (C x)) (ht : Txt (C x) 1) : Upto C lo hi (x + 1) := by
  refine ⟨by have := h.low; omega, hx, fun i h1 h2 => ?_, .inr (by rw [Nat.add_sub_cancel, h0]; decide)⟩
  by_cases e : i = x
  · subst e
    exact ⟨hs, .inl h0, fun q => (by rw [h0] at q; cases q), fun q => (by rw [h0] at q; cases q), fun _ => by rw [h0]; exact ht⟩
  · exact h.ok i h1 (by omega)
theorem Upto.two (h : Upto C lo hi x) (hx : x + 2 ≤ hi) (h0 : (C x).p = 1) (hs : Sty (C x)) (ht : Txt (C x) 2) (h1 : C (x + 1) = ⟨⟨#[]⟩, (C x).f, (C x).g, (C x).b, 2⟩) : Upto C lo hi (x + 2) := by
  have hp : (C (x + 1)).p = 2 := by rw [h1]
  refine ⟨by have := h.low; omega, hx, fun i g1 g2 => ?_, .inr (by rw [show x + 2 - 1 = x + 1 by omega, hp]; decide)⟩
  by_cases e : i = x
  · subst e
    exact ⟨hs, .inr (.inl h0), fun _ => ⟨by omega, hp, by rw [h1], by rw [h1], by rw [h1]⟩, fun q => (by rw [h0] at q; cases q), fun _ => by rw [h0]; exact ht⟩
  · by_cases e2 : i = x + 1
    · subst e2
      exact ⟨by unfold Sty; rw [h1]; exact hs, .inr (.inr hp), fun q => (by rw [hp] at q; cases q), fun _ => ⟨by have := h.low; omega, by rw [Nat.add_sub_cancel]; exact h0, by rw [h1]⟩, fun q => absurd hp q⟩
    · exact h.ok i g1 (by omega)
theorem Upto.bad0 (h : Upto C lo hi x) (hx : x < hi) (h0 : (C x).p = 0) (hn : ¬ (Sty (C x) ∧ Txt (C x) 1)) : ¬ RowOk C lo hi := fun r => by
  have q := r x h.low hx
  refine hn ⟨q.sty, ?_⟩
  have := q.text (by rw [h0]; decide)
  rw [h0] at this
  exact this
theorem Upto.bad1 (h : Upto C lo hi x) (hx : x < hi) (h0 : (C x).p = 1) (hn : ¬ (Sty (C x) ∧ Txt (C x) 2)) : ¬ RowOk C lo hi := fun r => by
  have q := r x h.low hx
  refine hn ⟨q.sty, ?_⟩
  have := q.text (by rw [h0]; decide)
  rw [h0] at this
  exact this
theorem Upto.bad2 (h : Upto C lo hi x) (hx : x < hi) (h0 : (C x).p = 1) (hn : ¬ (x + 2 ≤ hi ∧ C (x + 1) = ⟨⟨#[]⟩, (C x).f, (C x).g, (C x).b, 2⟩)) : ¬ RowOk C lo hi := fun r => by
  have q := r x h.low hx
  obtain ⟨q1, q2, q3, q4, q5⟩ := q.head h0
  have t := r (x + 1) (by have := h.low; omega) q1
  have t2 := (t.tail q2).2.2
  refine hn ⟨q1, ?_⟩
  obtain ⟨e, hc⟩ : ∃ e, C (x + 1) = e := ⟨_, rfl⟩
  rw [hc] at q2 q3 q4 q5 t2
  rw [hc]
  obtain ⟨t, f, g, b, p⟩ := e
  simp only at q2 q3 q4 q5 t2
  rw [q2, q3, q4, q5, t2]
theorem Upto.bad3 (h : Upto C lo hi x) (hx : x < hi) (h0 : (C x).p ≠ 0) (h1 : (C x).p ≠ 1) : ¬ RowOk C lo hi := fun r => by
  have q := r x h.low hx
  have h2 : (C x).p = 2 := by rcases q.part with e | e | e
                              · exact absurd e h0
                              · exact absurd e h1
                              · exact e
  obtain ⟨t1, t2, _⟩ := q.tail h2
  rcases h.no with e | e
  · omega
  · exact e t2
end
/-- Cells in rows of w, n of them, are a screen. -/
def Scr (C : Nat → Ce) (n : Nat) (w : Int) : Prop := ∃ W H : Nat, w = (W : Int) ∧ n = H * W ∧ 1 ≤ W ∧ W ≤ 400 ∧ 1 ≤ H ∧ H ≤ 400 ∧ ∀ y, y < H → RowOk C (y * W) (y * W + W)

end Go.Proofs.YtlfffpoeioecjaaDoor

namespace Go.Proofs.YtlfffpoeioecjaaDoor
open Go.RowKit
set_option linter.unusedVariables false

theorem gSpansType : (Tryd.prog.globals[2]?).map (·.type) = some 176 := by kernel_rfl
theorem cellsSpan : Tryd.prog.cellsOf 175 = 3 := by kernel_rfl
theorem cellsInt : Tryd.prog.cellsOf 3 = 1 := by kernel_rfl

theorem laid_eq {H : Type} : (Rows.laid_pane_glyph_spans : DataW H) = .agg (spansL.map fun s => .agg [.lit (.int .i64 s.1), .lit (.int .i64 s.2.1), .lit (.int .i64 s.2.2)]) := rfl

theorem one_of {α : Type} {l : List α} {k : Nat} {x : α} (h : (l.drop k).take 1 = [x]) : l[k]? = some x := by
  have := congrArg (·[0]?) h
  simpa [List.getElem?_take, List.getElem?_drop] using this

theorem span_cells {W : World} {base : Nat} {sp : Nat → Bool} {held : Bool} {fuel : Nat} {cs : List Value} {a b c : Int} {p : List MemPlace}
    (h : DataW.trod (fun _ => ()) Tryd.prog W base sp held fuel 175 cs = some (.agg [.lit (.int .i64 a), .lit (.int .i64 b), .lit (.int .i64 c)], p)) :
    cs[0]? = some (.int .i64 a) ∧ cs[1]? = some (.int .i64 b) ∧ cs[2]? = some (.int .i64 c) := by
  obtain ⟨xs, n, _, hx, _, hl, hf⟩ := DataW.trod_struct Tryd.underlying175 h
  have hl3 : xs.length = 3 := hl
  match xs, hl3 with
  | [x0, x1, x2], _ =>
    have hx' := congrArg Prod.fst hx
    simp only [List.map_cons, List.map_nil, DataW.agg.injEq, List.cons.injEq, and_true] at hx'
    obtain ⟨e0, e1, e2⟩ := hx'
    have f0 : DataW.trod (fun _ => ()) Tryd.prog W base sp held n 3 ((cs.drop 0).take (Tryd.prog.cellsOf 3)) = some x0 := hf 0 _ rfl
    have f1 : DataW.trod (fun _ => ()) Tryd.prog W base sp held n 3 ((cs.drop 1).take (Tryd.prog.cellsOf 3)) = some x1 := hf 1 _ rfl
    have f2 : DataW.trod (fun _ => ()) Tryd.prog W base sp held n 3 ((cs.drop 2).take (Tryd.prog.cellsOf 3)) = some x2 := hf 2 _ rfl
    rw [cellsInt] at f0 f1 f2
    obtain ⟨z0, h0, y0, _⟩ := DataW.trod_int Tryd.underlying3 f0
    obtain ⟨z1, h1, y1, _⟩ := DataW.trod_int Tryd.underlying3 f1
    obtain ⟨z2, h2, y2, _⟩ := DataW.trod_int Tryd.underlying3 f2
    have g0 := one_of h0
    have g1 := one_of h1
    have g2 := one_of h2
    rw [y0] at e0; rw [y1] at e1; rw [y2] at e2
    simp only [DataW.lit.injEq, Lit.int.injEq, true_and] at e0 e1 e2
    subst e0 e1 e2
    exact ⟨g0, g1, g2⟩

theorem tab_of {W : World} {nm : String} (gSpans : Tryd.prog.globalNamed nm = some 2) (h : laidMet Tryd.prog [(nm, Rows.laid_pane_glyph_spans)] W) : TabAt W := by
  obtain ⟨ps, ⟨g', t', cs, fuel, p, q, hg', ht', hvar, hd, _, _⟩, _⟩ := h
  obtain rfl := Option.some.inj (gSpans.symm.trans hg')
  obtain rfl := Option.some.inj (gSpansType.symm.trans ht')
  rw [laid_eq] at hd
  obtain ⟨xs, n, _, hx, _, hl, hf⟩ := DataW.trod_array Tryd.underlying176 hd
  have hx' : xs.map (·.1) = spansL.map fun s => (.agg [.lit (.int .i64 s.1), .lit (.int .i64 s.2.1), .lit (.int .i64 s.2.2)] : DataW Unit) := by
    have := congrArg Prod.fst hx
    simp only [DataW.agg.injEq] at this
    exact this.symm
  intro i hi
  have f := hf i hi
  rw [cellsSpan] at f
  have hs : spansL[i]? = some (spanAt i) := by
    unfold spanAt
    have : i < spansL.length := hi
    rw [List.getD_eq_getElem?_getD, List.getElem?_eq_getElem this]; rfl
  have e : (xs.map (·.1))[i]? = some (.agg [.lit (.int .i64 (spanAt i).1), .lit (.int .i64 (spanAt i).2.1), .lit (.int .i64 (spanAt i).2.2)] : DataW Unit) := by
    rw [hx', List.getElem?_map, hs]; rfl
  rw [List.getElem?_map] at e
  obtain ⟨y, hy, ey⟩ := Option.map_eq_some_iff.1 e
  rw [hy] at f
  obtain ⟨d, pl⟩ := y
  simp only at ey
  subst ey
  obtain ⟨k0, k1, k2⟩ := span_cells f
  have at' : ∀ k v, k < 3 → ((cs.toList.drop (i * 3)).take 3)[k]? = some v → cs[i * 3 + k]? = some v := by
    intro k v hk hv
    rw [List.getElem?_take, if_pos hk, List.getElem?_drop, Array.getElem?_toList] at hv
    exact hv
  have c := fun k => World.var?_cell gSpans hvar k
  exact ⟨(c (i * 3)).trans (at' 0 _ (by omega) k0), (c (i * 3 + 1)).trans (at' 1 _ (by omega) k1), (c (i * 3 + 2)).trans (at' 2 _ (by omega) k2)⟩

/-- The table stays where memory below stays. -/
theorem TabAt.below {w w' : World} (h : TabAt w) (hb : Below w.heap.size w w') : TabAt w' := by
  intro i hi
  obtain ⟨a, b, c⟩ := h i hi
  have ha := World.block_lt_of_cell? w _ a
  exact ⟨(hb.cell ha).trans a, (hb.cell (p := ⟨2, i * 3 + 1, none⟩) ha).trans b, (hb.cell (p := ⟨2, i * 3 + 2, none⟩) ha).trans c⟩

/-- For the witness: a world whose table holds what its initialiser lays. -/
def tabObj : Obj → Obj
  | .cells _ t frozen => .cells ((spansL.flatMap fun s => [Value.int .i64 s.1, .int .i64 s.2.1, .int .i64 s.2.2]).toArray) t frozen
  | o => o
def withTab (w : World) : World := { w with heap := w.heap.modify 2 tabObj }

end Go.Proofs.YtlfffpoeioecjaaDoor

namespace Go.Proofs.YtlfffpoeioecjaaDoor
set_option linter.unusedVariables false

def Rws (C : Nat → Ce) (W H : Nat) : Prop := ∀ y, y < H → RowOk C (y * W) (y * W + W)
theorem row_of {W H j : Nat} (hj : j < H * W) : ∃ y x, y < H ∧ x < W ∧ j = y * W + x := by
  have hW : 0 < W := by rcases Nat.eq_zero_or_pos W with h | h; subst h; simp at hj; exact h
  exact ⟨j / W, j % W, Nat.div_lt_of_lt_mul (by rw [Nat.mul_comm]; exact hj), Nat.mod_lt _ hW, by rw [Nat.mul_comm]; exact (Nat.div_add_mod j W).symm⟩
theorem row_lt {W H y x : Nat} (hy : y < H) (hx : x < W) : y * W + x < H * W := by
  have : (y + 1) * W ≤ H * W := Nat.mul_le_mul_right W hy
  rw [Nat.add_mul, Nat.one_mul] at this
  omega
theorem row_other {W y Y x X : Nat} (h : y ≠ Y) (hx : x < W) (hX : X < W) : y * W + x ≠ Y * W + X ∧ (Y * W + X < y * W + x → Y * W + W ≤ y * W + x) := by
  rcases Nat.lt_or_gt_of_ne h with g | g
  · have : (y + 1) * W ≤ Y * W := Nat.mul_le_mul_right W g
    rw [Nat.add_mul, Nat.one_mul] at this
    exact ⟨by omega, by omega⟩
  · have : (Y + 1) * W ≤ y * W := Nat.mul_le_mul_right W g
    rw [Nat.add_mul, Nat.one_mul] at this
    exact ⟨by omega, by omega⟩
section
variable {C : Nat → Ce} {W H : Nat}
theorem Rws.ok (h : Rws C W H) {y x : Nat} (hy : y < H) (hx : x < W) : Ok1 C (y * W) (y * W + W) (y * W + x) := h y hy _ (by omega) (by omega)
theorem Rws.next (h : Rws C W H) {j : Nat} (hj : j + 1 < H * W) : (C (j + 1)).p = 2 ↔ (C j).p = 1 := by
  constructor
  · intro q
    obtain ⟨y, x, hy, hx, e⟩ := row_of hj
    have := ((h.ok hy hx).tail (by rw [← e]; exact q)).2.1
    rw [← e, Nat.add_sub_cancel] at this
    exact this
  · intro q
    obtain ⟨y, x, hy, hx, e⟩ := row_of (Nat.lt_of_succ_lt hj)
    have := ((h.ok hy hx).head (by rw [← e]; exact q)).2.1
    rw [← e] at this
    exact this
theorem Rws.start (h : Rws C W H) {y : Nat} (hy : y < H) (hW : 0 < W) : (C (y * W)).p ≠ 2 := fun q => by
  have := ((h.ok hy hW).tail q).1
  omega
theorem Rws.head (h : Rws C W H) {j : Nat} (hj : j < H * W) (hp : (C j).p = 1) : j + 1 < H * W ∧ C (j + 1) = ⟨⟨#[]⟩, (C j).f, (C j).g, (C j).b, 2⟩ := by
  obtain ⟨y, x, hy, hx, rfl⟩ := row_of hj
  obtain ⟨q1, q2, q3, q4, q5⟩ := (h.ok hy hx).head hp
  have q0 : x + 1 < W := by omega
  have t := ((h.ok hy q0).tail q2).2.2
  refine ⟨row_lt hy q0, ?_⟩
  obtain ⟨e, he⟩ : ∃ e, C (y * W + x + 1) = e := ⟨_, rfl⟩
  have t : (C (y * W + x + 1)).t = ⟨#[]⟩ := t
  rw [he] at q2 q3 q4 q5 t ⊢
  obtain ⟨t, f, g, b, p⟩ := e
  simp only at q2 q3 q4 q5 t
  rw [q2, q3, q4, q5, t]
theorem Rws.part (h : Rws C W H) {j : Nat} (hj : j < H * W) : (C j).p = 0 ∨ (C j).p = 1 ∨ (C j).p = 2 := by
  obtain ⟨y, x, hy, hx, rfl⟩ := row_of hj
  exact (h.ok hy hx).part
end
/-- The cells behind k cells. -/
def Mid (old new : Nat → Ce) (k j : Nat) : Ce := if j < k then new j else if j = k ∧ (old j).p = 2 then bl (old j) else old j
/-- How far the cells are new, at cell i. -/
def kf (new : Nat → Ce) (n i : Nat) : Nat := if i < n ∧ (new i).p = 2 then i + 1 else i
def Shows (c : Nat → Nat → Ce) (W H : Nat) (F : Nat → Ce) : Prop := ∀ y x, y < H → x < W → c y x = F (y * W + x)
section
variable {old new : Nat → Ce} {W H : Nat}
theorem kf_tail (hn : Rws new W H) {i : Nat} (hi : i < H * W) (h : (new i).p = 2) : kf new (H * W) (i + 1) = kf new (H * W) i := by
  have e1 : kf new (H * W) i = i + 1 := if_pos ⟨hi, h⟩
  have e2 : kf new (H * W) (i + 1) = i + 1 := if_neg fun q => by
    have := (hn.next q.1).1 q.2
    rw [h] at this; exact absurd this (by decide)
  rw [e1, e2]
theorem kf_at {i : Nat} (h : (new i).p ≠ 2) : kf new (H * W) i = i := if_neg fun q => h q.2
theorem kf_head (hn : Rws new W H) {i : Nat} (hi : i < H * W) (h : (new i).p = 1) : kf new (H * W) (i + 1) = i + 2 := if_pos ⟨(hn.head hi h).1, (hn.next (hn.head hi h).1).2 h⟩
theorem kf_one (hn : Rws new W H) {i : Nat} (hi : i < H * W) (h : (new i).p = 0) : kf new (H * W) (i + 1) = i + 1 := if_neg fun q => by
  have := (hn.next q.1).1 q.2
  rw [h] at this; exact absurd this (by decide)
theorem mid_lt {k j : Nat} (h : j < k) : Mid old new k j = new j := if_pos h
theorem mid_gt {k j : Nat} (h : k < j) : Mid old new k j = old j := by unfold Mid; rw [if_neg (by omega), if_neg (by omega)]
theorem mid_eq {k : Nat} (h : (old k).p ≠ 2) : Mid old new k k = old k := by unfold Mid; rw [if_neg (by omega), if_neg (fun q => h q.2)]
theorem mid_bl {k : Nat} (h : (old k).p = 2) : Mid old new k k = bl (old k) := by unfold Mid; rw [if_neg (by omega), if_pos ⟨rfl, h⟩]
theorem mid_start (ho : Rws old W H) (hn : Rws new W H) (hW : 0 < W) (hH : 0 < H) (j : Nat) : Mid old new (kf new (H * W) 0) j = old j := by
  have h0 : (new 0).p ≠ 2 := by have := hn.start hH hW; rwa [Nat.zero_mul] at this
  have h1 : (old 0).p ≠ 2 := by have := ho.start hH hW; rwa [Nat.zero_mul] at this
  rw [kf_at h0]
  rcases Nat.eq_zero_or_pos j with e | e
  · rw [e]; exact mid_eq h1
  · exact mid_gt e
theorem mid_end {j : Nat} (hj : j < H * W) : Mid old new (kf new (H * W) (H * W)) j = new j := by
  have : kf new (H * W) (H * W) = H * W := if_neg fun q => by omega
  rw [this]; exact mid_lt hj
/-- A cell that stays. -/
theorem mid_same (ho : Rws old W H) (hn : Rws new W H) {i : Nat} (hi : i < H * W) (h2 : (new i).p ≠ 2) (he : new i = old i) (j : Nat) (hj : j < H * W) : Mid old new (kf new (H * W) (i + 1)) j = Mid old new (kf new (H * W) i) j := by
  rw [kf_at h2]
  have h2o : (old i).p ≠ 2 := he ▸ h2
  have ei : Mid old new i i = new i := (mid_eq h2o).trans he.symm
  rcases hn.part hi with h | h | h
  · rw [kf_one hn hi h]
    rcases Nat.lt_trichotomy j i with g | g | g
    · rw [mid_lt g, mid_lt (by omega)]
    · subst g; rw [ei, mid_lt (by omega)]
    · rw [mid_gt g]
      by_cases e : j = i + 1
      · subst e
        refine mid_eq fun q => ?_
        have := (ho.next hj).1 q
        rw [← he, h] at this; exact absurd this (by decide)
      · exact mid_gt (by omega)
  · rw [kf_head hn hi h]
    rcases Nat.lt_trichotomy j i with g | g | g
    · rw [mid_lt g, mid_lt (by omega)]
    · subst g; rw [ei, mid_lt (by omega)]
    · rw [mid_gt g]
      by_cases e : j = i + 1
      · subst e
        rw [mid_lt (by omega), (hn.head hi h).2, (ho.head hi (he ▸ h)).2, he]
      · by_cases e2 : j = i + 2
        · subst e2
          refine mid_eq fun q => ?_
          have := (ho.next hj).1 q
          rw [(ho.head hi (he ▸ h)).2] at this
          have this : (2 : Int) = 1 := this
          exact absurd this (by decide)
        · exact mid_gt (by omega)
  · exact absurd h h2
/-- A cell that is written. -/
theorem mid_put (ho : Rws old W H) (hn : Rws new W H) {c : Nat → Nat → Ce} {Y X : Nat} (hY : Y < H) (hX : X < W) (h2 : (new (Y * W + X)).p ≠ 2) (hc : Shows c W H (Mid old new (kf new (H * W) (Y * W + X)))) :
    Shows (fill c X (X + ((new (Y * W + X)).p + 1).toNat) Y (Y + 1) (gly X ((new (Y * W + X)).p + 1) (new (Y * W + X)).t (new (Y * W + X)).f (new (Y * W + X)).g (new (Y * W + X)).b)) W H (Mid old new (kf new (H * W) (Y * W + X + 1))) := by
  have hi : Y * W + X < H * W := row_lt hY hX
  obtain ⟨i, hei⟩ : ∃ i, Y * W + X = i := ⟨_, rfl⟩
  rw [hei] at h2 hc hi ⊢
  rw [kf_at h2] at hc
  obtain ⟨n, hnn, hn12, hkf, hnW, hg⟩ : ∃ n, ((new i).p + 1).toNat = n ∧ (n = 1 ∨ n = 2) ∧ kf new (H * W) (i + 1) = i + n ∧ X + n ≤ W ∧ ∀ x, X ≤ x → x < X + n → gly X ((new i).p + 1) (new i).t (new i).f (new i).g (new i).b x = new (Y * W + x) := by
    rcases hn.part hi with h | h | h
    · refine ⟨1, by rw [h]; rfl, .inl rfl, kf_one hn hi h, hX, fun x h1 h3 => ?_⟩
      obtain rfl : x = X := by omega
      unfold gly
      rw [if_neg (by rw [h]; decide), hei]
      obtain ⟨e, he⟩ : ∃ e, new i = e := ⟨_, rfl⟩
      rw [he] at h ⊢
      obtain ⟨t, f, g, b, p⟩ := e
      simp only at h
      rw [h]
    · have hd := hn.head hi h
      have hx2 : X + 1 < W := by
        have q := ((hn.ok hY hX).head (by rw [hei]; exact h)).1
        omega
      refine ⟨2, by rw [h]; rfl, .inr rfl, kf_head hn hi h, hx2, fun x h1 h3 => ?_⟩
      unfold gly
      rw [if_pos (by rw [h]; decide)]
      by_cases ex : x = X
      · subst ex
        rw [if_pos rfl, hei]
        obtain ⟨e, he⟩ : ∃ e, new i = e := ⟨_, rfl⟩
        rw [he] at h ⊢
        obtain ⟨t, f, g, b, p⟩ := e
        simp only at h
        rw [h]
      · obtain rfl : x = X + 1 := by omega
        rw [if_neg ex, ← Nat.add_assoc, hei, hd.2]
        rfl
    · exact absurd h h2
  rw [hnn, hkf]
  generalize hgl : gly X ((new i).p + 1) (new i).t (new i).f (new i).g (new i).b = G at hg ⊢
  intro y x hy hx
  by_cases hyY : y = Y
  · subst hyY
    unfold fill
    rw [if_pos ⟨Nat.le_refl _, by omega⟩]
    by_cases hin : X ≤ x ∧ x < X + n
    · rw [span_in hin, hg x hin.1 hin.2, mid_lt (by omega)]
    · unfold span
      rw [if_neg hin]
      have cX : c y X = Mid old new i i := by rw [hc y X hy hX, hei]
      have hcX : (c y X).p ≠ 2 := by
        rw [cX]
        by_cases q : (old i).p = 2
        · rw [mid_bl q, bl_p]; decide
        · rw [mid_eq q]; exact q
      rw [if_neg (fun q => hcX q.2.2)]
      by_cases hb : x = X + n
      · subst hb
        have hj : i + n < H * W := by have := row_lt (W := W) hy hx; omega
        have ej : y * W + (X + n) = i + n := by omega
        have eL : (c y (X + n - 1)).p = 1 ↔ (old (i + n)).p = 2 := by
          rw [hc y (X + n - 1) hy (by omega), show y * W + (X + n - 1) = i + n - 1 by omega]
          obtain ⟨m, rfl⟩ : ∃ m, n = m + 1 := ⟨n - 1, by omega⟩
          rw [← Nat.add_assoc, Nat.add_sub_cancel]
          rw [← Nat.add_assoc] at hj
          rw [ho.next hj]
          rcases Nat.eq_zero_or_pos m with e0 | e0
          · subst e0
            rw [Nat.add_zero]
            by_cases q : (old i).p = 2
            · rw [mid_bl q, bl_p, q]; decide
            · rw [mid_eq q]
          · rw [mid_gt (by omega)]
        have cX2 : c y (X + n) = old (i + n) := by rw [hc y (X + n) hy hx, ej, mid_gt (by omega)]
        rw [cX2, ej]
        by_cases q : (old (i + n)).p = 2
        · rw [if_pos ⟨by omega, rfl, eL.2 q⟩, mid_bl q]
        · rw [if_neg (fun z => q (eL.1 z.2.2)), mid_eq q]
      · rw [if_neg (fun q => hb q.2.1), hc y x hy hx]
        rcases Nat.lt_or_ge x X with g | g
        · rw [mid_lt (by omega), mid_lt (by omega)]
        · rw [mid_gt (by omega), mid_gt (by omega)]
  · unfold fill
    rw [if_neg (by omega), hc y x hy hx]
    have ho' := row_other (W := W) hyY hx hX
    rw [hei] at ho'
    rcases Nat.lt_or_ge (y * W + x) i with g | g
    · rw [mid_lt g, mid_lt (by omega)]
    · have g2 : i < y * W + x := by omega
      have g3 := ho'.2 g2
      rw [mid_gt g2]
      by_cases e : y * W + x = i + n
      · have hs : (old (y * W + x)).p ≠ 2 := by
          intro q
          have q1 := ((ho.ok hy hx).tail q)
          have hx0 : 0 < x := by omega
          have : Y * W + W = y * W + x := by omega
          have e2 : y * W + x < (y + 1) * W := by rw [Nat.add_mul, Nat.one_mul]; omega
          have e3 : (Y + 1) * W = y * W + x := by rw [Nat.add_mul, Nat.one_mul]; exact this
          have e4 : y * W < (Y + 1) * W := by omega
          have e5 : (Y + 1) * W < (y + 1) * W := by omega
          have := Nat.lt_of_mul_lt_mul_right e4
          have := Nat.lt_of_mul_lt_mul_right e5
          omega
        rw [← e]
        exact (mid_eq hs).symm
      · exact (mid_gt (by omega)).symm
end
end Go.Proofs.YtlfffpoeioecjaaDoor

namespace Go.Proofs.YtlfffpoeioecjaaDoor
open Go.RowKit Go.Sort
set_option linter.unusedVariables false

/-- What holds of a terminal at all times. -/
structure Ti (s : Tm) : Prop where
  x0 : 0 ≤ s.r.x
  x1 : s.r.x ≤ s.W
  y0 : 0 ≤ s.r.y
  y1 : s.r.y < s.H
  m0 : 0 ≤ s.r.lm
  m1 : s.r.lm ≤ 4
  ts : (s.r.lt.size : Int) ≤ 4 + 4 * s.r.lm
def markT (s : Tm) (mk : ByteArray) : Tm := if s.r.lw = 0 ∨ s.r.lm = 4 then s else putL { s with r := { s.r with lm := s.r.lm + 1, lt := s.r.lt ++ mk } }
def prT (s : Tm) (r : Int) : Tm :=
  if wid r = 0 then markT s ⟨(enc [r]).toArray⟩
  else if s.r.x + wid r > s.W then { s with r := clr s.r }
  else
    { putL { s with r := { clr s.r with lx := s.r.x, ly := s.r.y, lt := ⟨(enc [r]).toArray⟩, lw := wid r } } with r := { clr s.r with lx := s.r.x, ly := s.r.y, lt := ⟨(enc [r]).toArray⟩, lw := wid r, x := s.r.x + wid r } }

section
variable {T K M cap : Nat} {s : Tm} {nv : Value}
set_option maxRecDepth 100000 in
set_option maxHeartbeats 2000000 in
theorem printMark_any (w : World) (h : TM w T K M cap s nv) (hi : Ti s) (mk : ByteArray) (hm : mk.size ≤ 4) : Calls Tryd.prog 99 #[.pointer (some ⟨T, 0, none⟩), .string mk] w fun e w' => e = .returned (.tuple #[]) ∧ TM w' T K M cap (markT s mk) nv ∧ C2 T M w w' := by
  have c8 : w.cell? ⟨T, 8, none⟩ = some (.string s.r.lt) := h.at rfl
  have c9 : w.cell? ⟨T, 9, none⟩ = some (.int .i64 s.r.lw) := h.at rfl
  have c10 : w.cell? ⟨T, 10, none⟩ = some (.int .i64 s.r.lm) := h.at rfl
  have fz := h.fz
  have HM : Hid (TM w T K M cap s nv) := h
  have hts := hi.ts
  have hm0 := hi.m0
  have hm1 := hi.m1
  clear h hi
  obtain ⟨lw, hlw⟩ : ∃ z, s.r.lw = z := ⟨_, rfl⟩
  obtain ⟨lm, hlm⟩ : ∃ z, s.r.lm = z := ⟨_, rfl⟩
  obtain ⟨lt, hlt⟩ : ∃ z, s.r.lt = z := ⟨_, rfl⟩
  have HLW : Hid (s.r.lw = lw) := hlw
  have HLM : Hid (s.r.lm = lm) := hlm
  have HLT : Hid (s.r.lt = lt) := hlt
  rw [hlw] at c9
  rw [hlm] at c10 hts hm0 hm1
  rw [hlt] at c8 hts
  clear hlw hlm hlt
  go_enter Tryd.func99, Tryd.ntmps99
  by_cases h0 : lw = 0
  · have HE : Hid (markT s mk = s) := by show _ = _; unfold markT; rw [if_pos (.inl (HLW.out.trans h0))]
    subst h0
    go_wp2
    refine bodyPost_ret (v := .tuple #[]) (by simp [results, Tryd.results99, go_sem]) rfl ?_
    rw [HE.out]
    exact ⟨rfl, HM.out, C2.refl _ _ _⟩
  · have e0 : (lw == 0) = false := by simpa using h0
    by_cases h4 : lm = 4
    · have HE : Hid (markT s mk = s) := by show _ = _; unfold markT; rw [if_pos (.inr (HLM.out.trans h4))]
      subst h4
      go_wp2
      refine bodyPost_ret (v := .tuple #[]) (by simp [results, Tryd.results99, go_sem]) rfl ?_
      rw [HE.out]
      exact ⟨rfl, HM.out, C2.refl _ _ _⟩
    · have e4 : (lm == 4) = false := by simpa using h4
      have HE : Hid (markT s mk = putL { s with r := { s.r with lm := s.r.lm + 1, lt := s.r.lt ++ mk } }) := by show _ = _; unfold markT; rw [if_neg (by rw [HLW.out, HLM.out]; omega)]
      have H1 : Hid (TM ((w.setCell ⟨T, 10, none⟩ (.int .i64 (lm + 1))).setCell ⟨T, 8, none⟩ (.string (lt ++ mk))) T K M cap { s with r := { s.r with lm := s.r.lm + 1, lt := s.r.lt ++ mk } } nv) := by
        have h1 := HM.out.set 10 (.int .i64 (lm + 1)) { s.r with lm := s.r.lm + 1 } nv (by rw [HLM.out]; rfl)
        exact h1.set 8 (.string (lt ++ mk)) { s.r with lm := s.r.lm + 1, lt := s.r.lt ++ mk } nv (by rw [HLT.out]; rfl)
      have HC1 : Hid (C2 T M w ((w.setCell ⟨T, 10, none⟩ (.int .i64 (lm + 1))).setCell ⟨T, 8, none⟩ (.string (lt ++ mk)))) := ((C2.refl T M w).set _ _).set _ _
      go_wp2_with fail
      refine (putLast_any _ H1.out).mono ?_
      rintro e w1 ⟨rfl, h1, g1⟩
      have H2 : Hid (TM w1 T K M cap (markT s mk) nv ∧ C2 T M w w1) := by show _ ∧ _; rw [HE.out]; exact ⟨h1, HC1.out.trans g1⟩
      clear h1 g1
      go_wp2
      go_end0
      exact ⟨rfl, H2.out.1, H2.out.2⟩

theorem enc_one_size (r : Int) : (⟨(enc [r]).toArray⟩ : ByteArray).size ≤ 4 := by
  have h := enc_le [r]
  have e : (⟨(enc [r]).toArray⟩ : ByteArray).size = (enc [r]).length := by show (enc [r]).toArray.size = _; simp
  rw [e]
  simpa using h
theorem wid_cases (r : Int) : wid r = 0 ∨ wid r = 1 ∨ wid r = 2 := by
  have := wid_bd r
  omega
/-- A block of a text and a number. -/
def R2c (T : TypeId) (Q : World) (b : Nat) (t : ByteArray) (n : Int) : Prop := Q.heap[b]? = some (.cells #[.string t, .int .i64 n] T (0, 0))
theorem R2c.lt {T : TypeId} {Q : World} {b : Nat} {t : ByteArray} {n : Int} (h : R2c T Q b t n) : b < Q.heap.size := (Array.getElem?_eq_some_iff.1 h).1
theorem R2c.c0 {T : TypeId} {Q : World} {b : Nat} {t : ByteArray} {n : Int} (h : R2c T Q b t n) : Q.cell? ⟨b, 0, none⟩ = some (.string t) := by unfold R2c at h; simp [World.cell?, h]
theorem R2c.c1 {T : TypeId} {Q : World} {b : Nat} {t : ByteArray} {n : Int} (h : R2c T Q b t n) : Q.cell? ⟨b, 1, none⟩ = some (.int .i64 n) := by unfold R2c at h; simp [World.cell?, h]
theorem R2c.c2 {T : TypeId} {Q Q' : World} {b X M : Nat} {t : ByteArray} {n : Int} (h : R2c T Q b t n) (g : C2 X M Q Q') (h1 : b ≠ X) (h2 : b ≠ M) : R2c T Q' b t n := (g.block b h.lt h1 h2).trans h

set_option maxRecDepth 100000 in
set_option maxHeartbeats 8000000 in
theorem print_any (w : World) (h : TM w T K M cap s nv) (hi : Ti s) (ht : TabAt w) (r : Int) : Calls Tryd.prog 79 #[.pointer (some ⟨T, 0, none⟩), .int .i64 r] w fun e w' => e = .returned (.tuple #[]) ∧ TM w' T K M cap (prT s r) nv ∧ C2 T M w w' := by
  have hmix : Tryd.prog.follows .mixedOrders = true := by kernel_rfl
  have HM : Hid (TM w T K M cap s nv) := h
  have HT : Hid (TabAt w) := ht
  have HI : Hid (Ti s) := hi
  have hx0 := hi.x0
  have hx1 := hi.x1
  have hWb := h.hW.2
  clear h hi ht
  obtain ⟨tx, htx⟩ : ∃ z, (⟨(enc [r]).toArray⟩ : ByteArray) = z := ⟨_, rfl⟩
  obtain ⟨wd, hwd⟩ : ∃ z, wid r = z := ⟨_, rfl⟩
  have HPR : Hid (prT s r = if wd = 0 then markT s tx else if s.r.x + wd > s.W then { s with r := clr s.r } else { putL { s with r := { clr s.r with lx := s.r.x, ly := s.r.y, lt := tx, lw := wd } } with r := { clr s.r with lx := s.r.x, ly := s.r.y, lt := tx, lw := wd, x := s.r.x + wd } }) := by show _ = _; unfold prT; rw [htx, hwd]
  have hts : tx.size ≤ 4 := by rw [← htx]; exact enc_one_size r
  have hwc : wd = 0 ∨ wd = 1 ∨ wd = 2 := by rw [← hwd]; exact wid_cases r
  have EN : Hid (∀ v w, Ints w v [r] → Calls Tryd.prog 97 #[v] w fun e w' => e = .returned (.string tx) ∧ Below w.heap.size w w') := fun v w hv => by have := gEncode_all [r] v w hv (by simp); rw [htx] at this; exact this
  have WI : Hid (∀ w, TabAt w → Calls Tryd.prog 98 #[.int .i64 r] w fun e w' => e = .returned (.int .i64 wd) ∧ w' = w) := fun w ht => by have := gWidth_any r w ht; rw [hwd] at this; exact this
  clear htx hwd
  go_enter Tryd.func79, Tryd.ntmps79
  go_wp2_with fail
  have hin : Ints (w.alloc (.cells #[.int .i64 r] 3)) (.slice (some ⟨w.heap.size, 0, none⟩) 1 1) [r] := ⟨some ⟨w.heap.size, 0, none⟩, 1, rfl, .inr ⟨w.heap.size, 0, rfl, by simp, fun j hj => by
    obtain rfl : j = 0 := by simp at hj; omega
    rw [World.cell?_alloc_at _ _ _ _ rfl]; rfl⟩⟩
  refine (EN.out _ _ hin).mono ?_
  rintro e w1 ⟨rfl, b1⟩
  have HB1 : Hid (Below w.heap.size w w1) := ((Gr.refl w).alloc (.cells #[.int .i64 r] 3)).below.trans (b1.mono (by simp))
  clear b1 hin
  go_wp2_with fail
  refine (WI.out _ (HT.out.below HB1.out)).mono ?_
  rintro e w2 ⟨rfl, hw⟩
  obtain rfl := hw.symm
  by_cases h0 : wd = 0
  · subst h0
    have H1 : Hid (TM (w1.alloc (.cells #[.string tx, .int .i64 0] 67)) T K M cap s nv) := (HM.out.below HB1.out).gr ((Gr.refl _).alloc _)
    have HC1 : Hid (C2 T M w (w1.alloc (.cells #[.string tx, .int .i64 0] 67))) := (C2.below HB1.out).trans (C2.gr ((Gr.refl _).alloc _))
    have HPE : Hid (prT s r = markT s tx) := by show _ = _; rw [HPR.out, if_pos rfl]
    go_wp2_with fail
    refine (printMark_any _ H1.out HI.out tx hts).mono ?_
    rintro e w3 ⟨rfl, h3, g3⟩
    have H3 : Hid (TM w3 T K M cap (prT s r) nv ∧ C2 T M w w3) := by show _ ∧ _; rw [HPE.out]; exact ⟨h3, HC1.out.trans g3⟩
    clear h3 g3
    go_wp2
    refine bodyPost_ret (v := .tuple #[]) (by simp [results, Tryd.results79, go_sem]) rfl ?_
    exact ⟨rfl, H3.out.1, H3.out.2⟩
  · have e0 : (wd == 0) = false := by simpa using h0
    go_wp2_with fail
    obtain ⟨S, hS⟩ : ∃ z, w1.heap.size = z := ⟨_, rfl⟩
    obtain ⟨W2, hW2⟩ : ∃ z, w1.alloc (.cells #[.string tx, .int .i64 wd] 67) = z := ⟨_, rfl⟩
    have H1 : Hid (TM W2 T K M cap s nv) := by rw [← hW2]; exact (HM.out.below HB1.out).gr ((Gr.refl _).alloc _)
    have HC1 : Hid (C2 T M w W2) := by rw [← hW2]; exact (C2.below HB1.out).trans (C2.gr ((Gr.refl _).alloc _))
    have R1 : Hid (R2c 67 W2 S tx wd) := by rw [← hW2, ← hS]; exact heap_alloc_new _ _
    have hST : S ≠ T := by have h1 := HM.out.lt; have h2 := HB1.out.size; omega
    have hSM : S ≠ M := by have h1 := HM.out.cs.cv.lt; have h2 := HB1.out.size; omega
    have HPE : Hid (prT s r = if s.r.x + wd > s.W then { s with r := clr s.r } else { putL { s with r := { clr s.r with lx := s.r.x, ly := s.r.y, lt := tx, lw := wd } } with r := { clr s.r with lx := s.r.x, ly := s.r.y, lt := tx, lw := wd, x := s.r.x + wd } }) := by show _ = _; rw [HPR.out, if_neg h0]
    rw [hW2, hS]
    clear hW2 hS
    refine (forget_any _ H1.out).mono ?_
    rintro e w3 ⟨rfl, h3, g3⟩
    have H3 : Hid (TM w3 T K M cap { s with r := clr s.r } nv) := h3
    have HC3 : Hid (C2 T M w w3) := HC1.out.trans g3
    have R3' : Hid (R2c 67 w3 S tx wd) := R1.out.c2 g3 hST hSM
    clear h3 g3 R1 H1 HC1
    go_wp2_with fail
    refine (tsize_any _ H3.out).mono ?_
    rintro e w4 ⟨rfl, g4⟩
    have H4 : Hid (TM w4 T K M cap { s with r := clr s.r } nv) := H3.out.gr g4
    have HC4 : Hid (C2 T M w w4) := HC3.out.trans (C2.gr g4)
    have R4' : Hid (R2c 67 w4 S tx wd) := R3'.out.c2 (C2.gr (T := T) (M := M) g4) hST hSM
    clear g4 R3' H3 HC3
    have c1 : w4.cell? ⟨T, 1, none⟩ = some (.int .i64 s.r.x) := H4.out.at rfl
    have c2 : w4.cell? ⟨T, 2, none⟩ = some (.int .i64 s.r.y) := H4.out.at rfl
    have d0 := R4'.out.c0
    have d1 := R4'.out.c1
    obtain ⟨x, hx⟩ : ∃ z, s.r.x = z := ⟨_, rfl⟩
    obtain ⟨y, hy⟩ : ∃ z, s.r.y = z := ⟨_, rfl⟩
    have HX : Hid (s.r.x = x) := hx
    have HY : Hid (s.r.y = y) := hy
    rw [hx] at c1 hx0 hx1
    rw [hy] at c2
    clear hx hy
    by_cases hf : (s.W : Int) < x + wd
    · have hf' : decide ((s.W : Int) < x + wd) = true := decide_eq_true hf
      have HPF : Hid (prT s r = { s with r := clr s.r }) := by show _ = _; rw [HPE.out, if_pos (by rw [HX.out]; exact hf)]
      go_wp2_with fail
      go_quiet (fail)
      go_wp2
      refine bodyPost_ret (v := .tuple #[]) (by simp [results, Tryd.results79, go_sem]) rfl ?_
      rw [HPF.out]
      exact ⟨rfl, H4.out.gr ((Gr.refl _).drewN _), HC4.out.trans (C2.gr ((Gr.refl _).drewN _))⟩
    · have hf' : decide ((s.W : Int) < x + wd) = false := decide_eq_false hf
      have HPF : Hid (prT s r = { putL { s with r := { clr s.r with lx := s.r.x, ly := s.r.y, lt := tx, lw := wd } } with r := { clr s.r with lx := s.r.x, ly := s.r.y, lt := tx, lw := wd, x := s.r.x + wd } }) := by show _ = _; rw [HPE.out, if_neg (by rw [HX.out]; exact hf)]
      go_wp2_with fail
      go_quiet (fail)
      go_wp2_with fail
      obtain ⟨W5, hW5⟩ : ∃ z, w4.drewN nq = z := ⟨_, rfl⟩
      have H5 : Hid (TM W5 T K M cap { s with r := clr s.r } nv) := by rw [← hW5]; exact H4.out.gr ((Gr.refl _).drewN _)
      have HC5 : Hid (C2 T M w W5) := by rw [← hW5]; exact HC4.out.trans (C2.gr ((Gr.refl _).drewN _))
      have R5' : Hid (R2c 67 W5 S tx wd) := by rw [← hW5]; exact R4'.out.c2 (C2.gr (T := T) (M := M) ((Gr.refl _).drewN _)) hST hSM
      rw [hW5]
      clear hW5 c1 c2 d0 d1 R4' H4 HC4
      have c1 : W5.cell? ⟨T, 1, none⟩ = some (.int .i64 x) := by rw [← HX.out]; exact H5.out.at rfl
      have c2 : W5.cell? ⟨T, 2, none⟩ = some (.int .i64 y) := by rw [← HY.out]; exact H5.out.at rfl
      have c6 : W5.cell? ⟨T, 6, none⟩ = some (.int .i64 0) := H5.out.at rfl
      have c7 : W5.cell? ⟨T, 7, none⟩ = some (.int .i64 0) := H5.out.at rfl
      have c8 : W5.cell? ⟨T, 8, none⟩ = some (.string ⟨#[]⟩) := H5.out.at rfl
      have c9 : W5.cell? ⟨T, 9, none⟩ = some (.int .i64 0) := H5.out.at rfl
      have c10 : W5.cell? ⟨T, 10, none⟩ = some (.int .i64 0) := H5.out.at rfl
      have fz := H5.out.fz
      have d0 := R5'.out.c0
      have d1 := R5'.out.c1
      go_region
      go_wp2_with fail
      obtain ⟨W6, hW6⟩ : ∃ z, (((((W5.setCell ⟨T, 6, none⟩ (.int .i64 x)).setCell ⟨T, 7, none⟩ (.int .i64 y)).setCell ⟨T, 8, none⟩ (.string tx)).setCell ⟨T, 9, none⟩ (.int .i64 wd)).setCell ⟨T, 10, none⟩ (.int .i64 0)).drew = z := ⟨_, rfl⟩
      have H6 : Hid (TM W6 T K M cap { s with r := { clr s.r with lx := s.r.x, ly := s.r.y, lt := tx, lw := wd } } nv) := by
        rw [← hW6]
        have h1 := H5.out.set 6 (.int .i64 x) { clr s.r with lx := x } nv rfl
        have h2 := h1.set 7 (.int .i64 y) { clr s.r with lx := x, ly := y } nv rfl
        have h3 := h2.set 8 (.string tx) { clr s.r with lx := x, ly := y, lt := tx } nv rfl
        have h4 := h3.set 9 (.int .i64 wd) { clr s.r with lx := x, ly := y, lt := tx, lw := wd } nv rfl
        have h5 := h4.set 10 (.int .i64 0) { clr s.r with lx := x, ly := y, lt := tx, lw := wd } nv rfl
        rw [HX.out, HY.out]
        exact h5.gr (Gr.refl _).drew
      have HC6 : Hid (C2 T M w W6) := by
        rw [← hW6]
        exact (((((HC5.out.set _ _).set _ _).set _ _).set _ _).set _ _).trans (C2.gr (Gr.refl _).drew)
      have R6 : Hid (R2c 67 W6 S tx wd) := by
        rw [← hW6]
        exact R5'.out.c2 ((((((C2.refl T M W5).set _ _).set _ _).set _ _).set _ _).set _ _ |>.trans (C2.gr (Gr.refl _).drew)) hST hSM
      rw [hW6]
      clear hW6 c1 c2 c6 c7 c8 c9 c10 fz d0 d1 R5' H5 HC5
      refine (putLast_any _ H6.out).mono ?_
      rintro e w7 ⟨rfl, h7, g7⟩
      have H7 : Hid (TM w7 T K M cap (putL { s with r := { clr s.r with lx := s.r.x, ly := s.r.y, lt := tx, lw := wd } }) nv) := h7
      have HC7 : Hid (C2 T M w w7) := HC6.out.trans g7
      have R7 : Hid (R2c 67 w7 S tx wd) := R6.out.c2 g7 hST hSM
      clear h7 g7 H6 HC6 R6
      have c1 : w7.cell? ⟨T, 1, none⟩ = some (.int .i64 x) := by rw [← HX.out]; exact H7.out.at rfl
      have fz := H7.out.fz
      have d1 := R7.out.c1
      go_wp2_with fail
      go_region
      have H8 : Hid (TM ((w7.setCell ⟨T, 1, none⟩ (.int .i64 (x + wd))).drew) T K M cap (prT s r) nv) := by
        have h1 := H7.out.set 1 (.int .i64 (x + wd)) { clr s.r with lx := s.r.x, ly := s.r.y, lt := tx, lw := wd, x := s.r.x + wd } nv (by rw [HX.out]; rfl)
        show TM _ _ _ _ _ _ _
        rw [HPF.out]
        exact h1.gr (Gr.refl _).drew
      have HC8 : Hid (C2 T M w ((w7.setCell ⟨T, 1, none⟩ (.int .i64 (x + wd))).drew)) := (HC7.out.set _ _).trans (C2.gr (Gr.refl _).drew)
      go_wp2
      go_end0
      exact ⟨rfl, H8.out, HC8.out⟩
end

end Go.Proofs.YtlfffpoeioecjaaDoor
