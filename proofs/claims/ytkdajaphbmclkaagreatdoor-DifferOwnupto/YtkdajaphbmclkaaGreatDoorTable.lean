/-
  The table of widths, out of what the row lists.
-/
import Derived.Test.YtkdajaphbmclkaaGreatDoorGWidth
import Derived.Test.YtkdajaphbmclkaaGreatDoorRows
import Derived.ProofKit
import Derived.OpenShut
import Derived.Lib.LaidTab
namespace Go.Proofs.YtkdajaphbmclkaaGreatDoor
open Go.RowKit
set_option linter.unusedVariables false

theorem gSpansType : (Tryz.prog.globals[2]?).map (·.type) = some 139 := by kernel_rfl
theorem cellsSpan : Tryz.prog.cellsOf 138 = 3 := by kernel_rfl
theorem cellsInt : Tryz.prog.cellsOf 3 = 1 := by kernel_rfl

theorem laid_eq {H : Type} : (Rows.laid_pane_glyph_spans : DataW H) = .agg (spansL.map fun s => .agg [.lit (.int .i64 s.1), .lit (.int .i64 s.2.1), .lit (.int .i64 s.2.2)]) := rfl

theorem one_of {α : Type} {l : List α} {k : Nat} {x : α} (h : (l.drop k).take 1 = [x]) : l[k]? = some x := by
  have := congrArg (·[0]?) h
  simpa [List.getElem?_take, List.getElem?_drop] using this

theorem span_cells {W : World} {base : Nat} {sp : Nat → Bool} {held : Bool} {fuel : Nat} {cs : List Value} {a b c : Int} {p : List MemPlace}
    (h : DataW.trod (fun _ => ()) Tryz.prog W base sp held fuel 138 cs = some (.agg [.lit (.int .i64 a), .lit (.int .i64 b), .lit (.int .i64 c)], p)) :
    cs[0]? = some (.int .i64 a) ∧ cs[1]? = some (.int .i64 b) ∧ cs[2]? = some (.int .i64 c) := by
  obtain ⟨xs, n, _, hx, _, hl, hf⟩ := DataW.trod_struct Tryz.underlying138 h
  have hl3 : xs.length = 3 := hl
  match xs, hl3 with
  | [x0, x1, x2], _ =>
    have hx' := congrArg Prod.fst hx
    simp only [List.map_cons, List.map_nil, DataW.agg.injEq, List.cons.injEq, and_true] at hx'
    obtain ⟨e0, e1, e2⟩ := hx'
    have f0 : DataW.trod (fun _ => ()) Tryz.prog W base sp held n 3 ((cs.drop 0).take (Tryz.prog.cellsOf 3)) = some x0 := hf 0 _ rfl
    have f1 : DataW.trod (fun _ => ()) Tryz.prog W base sp held n 3 ((cs.drop 1).take (Tryz.prog.cellsOf 3)) = some x1 := hf 1 _ rfl
    have f2 : DataW.trod (fun _ => ()) Tryz.prog W base sp held n 3 ((cs.drop 2).take (Tryz.prog.cellsOf 3)) = some x2 := hf 2 _ rfl
    rw [cellsInt] at f0 f1 f2
    obtain ⟨z0, h0, y0, _⟩ := DataW.trod_int Tryz.underlying3 f0
    obtain ⟨z1, h1, y1, _⟩ := DataW.trod_int Tryz.underlying3 f1
    obtain ⟨z2, h2, y2, _⟩ := DataW.trod_int Tryz.underlying3 f2
    have g0 := one_of h0
    have g1 := one_of h1
    have g2 := one_of h2
    rw [y0] at e0; rw [y1] at e1; rw [y2] at e2
    simp only [DataW.lit.injEq, Lit.int.injEq, true_and] at e0 e1 e2
    subst e0 e1 e2
    exact ⟨g0, g1, g2⟩

theorem tab_of {W : World} {nm : String} (gSpans : Tryz.prog.globalNamed nm = some 2) (h : laidMet Tryz.prog [(nm, Rows.laid_pane_glyph_spans)] W) : TabAt W := by
  obtain ⟨ps, ⟨g', t', cs, fuel, p, q, hg', ht', hvar, hd, _, _⟩, _⟩ := h
  obtain rfl := Option.some.inj (gSpans.symm.trans hg')
  obtain rfl := Option.some.inj (gSpansType.symm.trans ht')
  rw [laid_eq] at hd
  obtain ⟨xs, n, _, hx, _, hl, hf⟩ := DataW.trod_array Tryz.underlying139 hd
  have hx' : xs.map (·.1) = spansL.map fun s => (.agg [.lit (.int .i64 s.1), .lit (.int .i64 s.2.1), .lit (.int .i64 s.2.2)] : DataW Unit) := by
    have := congrArg Prod.fst hx
    simp only [DataW.agg.injEq] at this
    exact this.symm
  intro i hi
  have f := hf i hi
  rw [cellsSpan] at f
  have hs : spansL[i]? = some (spanAt i) := by
    unfold spanAt
    have : i < spansL.length := hi
    rw [List.getD_eq_getElem?_getD, List.getElem?_eq_getElem this]; rfl
  have e : (xs.map (·.1))[i]? = some (.agg [.lit (.int .i64 (spanAt i).1), .lit (.int .i64 (spanAt i).2.1), .lit (.int .i64 (spanAt i).2.2)] : DataW Unit) := by
    rw [hx', List.getElem?_map, hs]; rfl
  rw [List.getElem?_map] at e
  obtain ⟨y, hy, ey⟩ := Option.map_eq_some_iff.1 e
  rw [hy] at f
  obtain ⟨d, pl⟩ := y
  simp only at ey
  subst ey
  obtain ⟨k0, k1, k2⟩ := span_cells f
  have at' : ∀ k v, k < 3 → ((cs.toList.drop (i * 3)).take 3)[k]? = some v → cs[i * 3 + k]? = some v := by
    intro k v hk hv
    rw [List.getElem?_take, if_pos hk, List.getElem?_drop, Array.getElem?_toList] at hv
    exact hv
  have c := fun k => World.var?_cell gSpans hvar k
  exact ⟨(c (i * 3)).trans (at' 0 _ (by omega) k0), (c (i * 3 + 1)).trans (at' 1 _ (by omega) k1), (c (i * 3 + 2)).trans (at' 2 _ (by omega) k2)⟩

/-- The table stays where memory below stays. -/
theorem TabAt.below {w w' : World} (h : TabAt w) (hb : Below w.heap.size w w') : TabAt w' := by
  intro i hi
  obtain ⟨a, b, c⟩ := h i hi
  have ha := World.block_lt_of_cell? w _ a
  exact ⟨(hb.cell ha).trans a, (hb.cell (p := ⟨2, i * 3 + 1, none⟩) ha).trans b, (hb.cell (p := ⟨2, i * 3 + 2, none⟩) ha).trans c⟩

/-- For the witness: a world whose table holds what its initialiser lays. -/
def tabObj : Obj → Obj
  | .cells _ t frozen => .cells ((spansL.flatMap fun s => [Value.int .i64 s.1, .int .i64 s.2.1, .int .i64 s.2.2]).toArray) t frozen
  | o => o
def withTab (w : World) : World := { w with heap := w.heap.modify 2 tabObj }

end Go.Proofs.YtkdajaphbmclkaaGreatDoor
