/-
  The tables that the rows of the differ's laws list.
-/
import Derived.Test.YtlfffpoeioecjaaDoorRows
import Derived.Test.YtlfffpoeioecjaaDoorX23
import Derived.Test.YtlfffpoeioecjaaDoorX25
import Derived.LaidLaws
import Derived.LaidSub
import Derived.Lib.LaidTab
namespace Go.Proofs.YtlfffpoeioecjaaDoor
open Go.ChangeShapes Go.WideShapes Go.RowKit
set_option linter.unusedVariables false

theorem dlaid_mem {P : Program} {w : World} : ∀ {l : List (String × DataW Unit)} {ps : List MemPlace}, DataW.LaidVars P w l ps → ∀ x ∈ l, ∃ g t cs fuel p, P.globalNamed x.1 = some g ∧ (P.globals[g]?).map (·.type) = some t ∧ w.var? P x.1 = some cs ∧ DataW.trod (fun _ => ()) P w 0 (fun _ => true) false fuel t cs.toList = some (x.2, p) ∧ ∀ y ∈ MemPlace.row ⟨g, 0, none⟩ cs.size ++ p, y ∈ ps
  | [], ps, _, x, hx => by cases hx
  | (n, d) :: r, ps, h, x, hx => by
    obtain ⟨g, t, cs, fuel, p, q, h1, h2, h3, h4, h5, rfl⟩ := h
    rcases List.mem_cons.1 hx with rfl | hx'
    · exact ⟨g, t, cs, fuel, p, h1, h2, h3, h4, fun y hy => List.mem_append.2 (.inl hy)⟩
    · obtain ⟨g', t', cs', fuel', p', a1, a2, a3, a4, a5⟩ := dlaid_mem h5 x hx'
      exact ⟨g', t', cs', fuel', p', a1, a2, a3, a4, fun y hy => List.mem_append.2 (.inr (a5 y hy))⟩
def dlaids : List (String × DataW Unit) := Rows.differShowsUptoRow.laid
def dlay (i : Nat) : String × DataW Unit := (dlaids[i]?).getD ("", .nil)
theorem dlay_in (i : Nat) (h : dlaids[i]? = some (dlay i)) : dlay i ∈ dlaids := List.mem_of_getElem? h
set_option maxRecDepth 100000 in
theorem tens_of {W : World} (h : laidMet Tryd.prog dlaids W) : TensAt W ∧ 3 < W.heap.size := by
  obtain ⟨ps, hl, hnd, hall⟩ := h
  obtain ⟨g, t, cs, fuel, p, a1, a2, a3, a4, a5⟩ := dlaid_mem hl (dlay 2) (dlay_in 2 (by kernel_rfl))
  have hg : Tryd.prog.globalNamed (dlay 2).1 = some 3 := by kernel_rfl
  have ht : (Tryd.prog.globals[3]?).map (·.type) = some 188 := by kernel_rfl
  obtain rfl := Option.some.inj (hg.symm.trans a1)
  obtain rfl := Option.some.inj (ht.symm.trans a2)
  have hd : (dlay 2).2 = .agg (Lib.pow10Tab.map fun z => .lit (.int .u64 z)) := by kernel_rfl
  rw [hd] at a4
  have key := Lib.cells_of_tab (P := Tryd.prog) Tryd.underlying188 Tryd.underlying126 (by kernel_rfl) (by kernel_rfl) a4
  have hv : W.var? Tryd.prog (dlay 2).1 = some (Lib.pow10Tab.map fun z => Value.int .u64 z).toArray := by
    rw [a3, ← key]
  refine ⟨⟨(dlay 2).1, hg, hv⟩, ?_⟩
  have c := World.var?_cell hg a3 0
  refine World.block_lt_of_cell? W ⟨3, 0, none⟩ (u := .int .u64 1) ?_
  rw [c, ← Array.getElem?_toList, key]
  rfl
set_option maxRecDepth 100000 in
theorem dtab_of {W : World} (h : laidMet Tryd.prog dlaids W) : TabAt W := by
  obtain ⟨ps, hl, hnd, hall⟩ := h
  obtain ⟨g', t', cs, fuel, p, hg', ht', hvar, hd, _⟩ := dlaid_mem hl (dlay 3) (dlay_in 3 (by kernel_rfl))
  have gSpans : Tryd.prog.globalNamed (dlay 3).1 = some 2 := by kernel_rfl
  obtain rfl := Option.some.inj (gSpans.symm.trans hg')
  obtain rfl := Option.some.inj (gSpansType.symm.trans ht')
  have hd' : DataW.trod (fun _ => ()) Tryd.prog W 0 (fun _ => true) false fuel 176 cs.toList = some ((Rows.laid_pane_glyph_spans : DataW Unit), p) := hd
  clear hd
  have hd := hd'
  rw [laid_eq] at hd
  obtain ⟨xs, n, _, hx, _, hl, hf⟩ := DataW.trod_array Tryd.underlying176 hd
  have hx' : xs.map (·.1) = spansL.map fun s => (.agg [.lit (.int .i64 s.1), .lit (.int .i64 s.2.1), .lit (.int .i64 s.2.2)] : DataW Unit) := by
    have := congrArg Prod.fst hx
    simp only [DataW.agg.injEq] at this
    exact this.symm
  intro i hi
  have f := hf i hi
  rw [cellsSpan] at f
  have hs : spansL[i]? = some (spanAt i) := by
    unfold spanAt
    have : i < spansL.length := hi
    rw [List.getD_eq_getElem?_getD, List.getElem?_eq_getElem this]; rfl
  have e : (xs.map (·.1))[i]? = some (.agg [.lit (.int .i64 (spanAt i).1), .lit (.int .i64 (spanAt i).2.1), .lit (.int .i64 (spanAt i).2.2)] : DataW Unit) := by
    rw [hx', List.getElem?_map, hs]; rfl
  rw [List.getElem?_map] at e
  obtain ⟨y, hy, ey⟩ := Option.map_eq_some_iff.1 e
  rw [hy] at f
  obtain ⟨d, pl⟩ := y
  simp only at ey
  subst ey
  obtain ⟨k0, k1, k2⟩ := span_cells f
  have at' : ∀ k v, k < 3 → ((cs.toList.drop (i * 3)).take 3)[k]? = some v → cs[i * 3 + k]? = some v := by
    intro k v hk hv
    rw [List.getElem?_take, if_pos hk, List.getElem?_drop, Array.getElem?_toList] at hv
    exact hv
  have c := fun k => World.var?_cell gSpans hvar k
  exact ⟨(c (i * 3)).trans (at' 0 _ (by omega) k0), (c (i * 3 + 1)).trans (at' 1 _ (by omega) k1), (c (i * 3 + 2)).trans (at' 2 _ (by omega) k2)⟩

end Go.Proofs.YtlfffpoeioecjaaDoor
