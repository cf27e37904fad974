/-
  The tables that DifferOwn's row lists.
-/
import Derived.Test.YtkdajaphbmclkaaGreatDoorRows
import Derived.Test.YtkdajaphbmclkaaGreatDoorTable
import Derived.Test.YtkdajaphbmclkaaGreatDoorX07
import Derived.Test.YtkdajaphbmclkaaGreatDoorX12
import Derived.LaidLaws
import Derived.LaidSub
import Derived.Lib.LaidTab
namespace Go.Proofs.YtkdajaphbmclkaaGreatDoor
open Go.ChangeShapes Go.WideShapes Go.RowKit
set_option linter.unusedVariables false

theorem dlaid_mem {P : Program} {w : World} : ∀ {l : List (String × DataW Unit)} {ps : List MemPlace}, DataW.LaidVars P w l ps → ∀ x ∈ l, ∃ g t cs fuel p, P.globalNamed x.1 = some g ∧ (P.globals[g]?).map (·.type) = some t ∧ w.var? P x.1 = some cs ∧ DataW.trod (fun _ => ()) P w 0 (fun _ => true) false fuel t cs.toList = some (x.2, p) ∧ ∀ y ∈ MemPlace.row ⟨g, 0, none⟩ cs.size ++ p, y ∈ ps
  | [], ps, _, x, hx => by cases hx
  | (n, d) :: r, ps, h, x, hx => by
    obtain ⟨g, t, cs, fuel, p, q, h1, h2, h3, h4, h5, rfl⟩ := h
    rcases List.mem_cons.1 hx with rfl | hx'
    · exact ⟨g, t, cs, fuel, p, h1, h2, h3, h4, fun y hy => List.mem_append.2 (.inl hy)⟩
    · obtain ⟨g', t', cs', fuel', p', a1, a2, a3, a4, a5⟩ := dlaid_mem h5 x hx'
      exact ⟨g', t', cs', fuel', p', a1, a2, a3, a4, fun y hy => List.mem_append.2 (.inr (a5 y hy))⟩
theorem lt_of_cell {W : World} {g : Nat} (h : W.cell? ⟨g, 0, none⟩ ≠ none) : g < W.heap.size := by
  by_cases e : g < W.heap.size
  · exact e
  · exact absurd (by simp [World.cell?, Array.getElem?_eq_none (Nat.le_of_not_lt e)]) h
def dlaids : List (String × DataW Unit) := Rows.differOwnUptoRow.laid
def dlay (i : Nat) : String × DataW Unit := (dlaids[i]?).getD ("", .nil)
theorem dlay_in (i : Nat) (h : dlaids[i]? = some (dlay i)) : dlay i ∈ dlaids := List.mem_of_getElem? h
def firZ : List Int := (List.range 256).map fun c => (fir c : Int)

set_option maxRecDepth 100000 in
theorem first_of {W : World} (h : laidMet Tryz.prog dlaids W) : ∀ c, c < 256 → W.cell? ⟨0, c, none⟩ = some (.int .u8 (fir c)) := by
  obtain ⟨ps, hl, hnd, hall⟩ := h
  obtain ⟨g, t, cs, fuel, p, a1, a2, a3, a4, a5⟩ := dlaid_mem hl (dlay 5) (dlay_in 5 (by kernel_rfl))
  have hg : Tryz.prog.globalNamed (dlay 5).1 = some 0 := by kernel_rfl
  have ht : (Tryz.prog.globals[0]?).map (·.type) = some 116 := by kernel_rfl
  obtain rfl := Option.some.inj (hg.symm.trans a1)
  obtain rfl := Option.some.inj (ht.symm.trans a2)
  have hd : (dlay 5).2 = .agg (firZ.map fun z => .lit (.int .u8 z)) := by kernel_rfl
  rw [hd] at a4
  have key := Lib.cells_of_tab (P := Tryz.prog) Tryz.underlying116 Tryz.underlying5 (by kernel_rfl) (by kernel_rfl) a4
  intro c hc
  rw [World.var?_cell hg a3 c, ← Array.getElem?_toList, key]
  simp [firZ, hc]

theorem one_of' {α : Type} {l : List α} {k : Nat} {x : α} (h : (l.drop k).take 1 = [x]) : l[k]? = some x := by
  have := congrArg (·[0]?) h
  simpa [List.getElem?_take, List.getElem?_drop] using this
theorem cellsU8 : Tryz.prog.cellsOf 5 = 1 := by kernel_rfl
theorem cellsAcc : Tryz.prog.cellsOf 118 = 2 := by kernel_rfl
theorem pair_cells {W : World} {base : Nat} {sp : Nat → Bool} {held : Bool} {fuel : Nat} {cs : List Value} {a b : Int} {p : List MemPlace}
    (h : DataW.trod (fun _ => ()) Tryz.prog W base sp held fuel 118 cs = some (.agg [.lit (.int .u8 a), .lit (.int .u8 b)], p)) :
    cs[0]? = some (.int .u8 a) ∧ cs[1]? = some (.int .u8 b) := by
  obtain ⟨xs, n, _, hx, _, hl, hf⟩ := DataW.trod_struct Tryz.underlying118 h
  have hl2 : xs.length = 2 := hl
  match xs, hl2 with
  | [x0, x1], _ =>
    have hx' := congrArg Prod.fst hx
    simp only [List.map_cons, List.map_nil, DataW.agg.injEq, List.cons.injEq, and_true] at hx'
    obtain ⟨e0, e1⟩ := hx'
    have f0 : DataW.trod (fun _ => ()) Tryz.prog W base sp held n 5 ((cs.drop 0).take (Tryz.prog.cellsOf 5)) = some x0 := hf 0 _ rfl
    have f1 : DataW.trod (fun _ => ()) Tryz.prog W base sp held n 5 ((cs.drop 1).take (Tryz.prog.cellsOf 5)) = some x1 := hf 1 _ rfl
    rw [cellsU8] at f0 f1
    obtain ⟨z0, h0, y0, _⟩ := DataW.trod_int Tryz.underlying5 f0
    obtain ⟨z1, h1, y1, _⟩ := DataW.trod_int Tryz.underlying5 f1
    have g0 := one_of' h0
    have g1 := one_of' h1
    rw [y0] at e0; rw [y1] at e1
    simp only [DataW.lit.injEq, Lit.int.injEq, true_and] at e0 e1
    subst e0 e1
    exact ⟨g0, g1⟩
def accD (i : Nat) : DataW Unit := .agg [.lit (.int .u8 (accL i)), .lit (.int .u8 (accH i))]

set_option maxRecDepth 100000 in
theorem accept_of {W : World} (h : laidMet Tryz.prog dlaids W) : ∀ i, i < 5 → W.cell? ⟨1, i * 2, none⟩ = some (.int .u8 (accL i)) ∧ W.cell? ⟨1, i * 2 + 1, none⟩ = some (.int .u8 (accH i)) := by
  obtain ⟨ps, hl, hnd, hall⟩ := h
  obtain ⟨g, t, cs, fuel, p, a1, a2, a3, a4, a5⟩ := dlaid_mem hl (dlay 3) (dlay_in 3 (by kernel_rfl))
  have hg : Tryz.prog.globalNamed (dlay 3).1 = some 1 := by kernel_rfl
  have ht : (Tryz.prog.globals[1]?).map (·.type) = some 119 := by kernel_rfl
  obtain rfl := Option.some.inj (hg.symm.trans a1)
  obtain rfl := Option.some.inj (ht.symm.trans a2)
  obtain ⟨ys, hys⟩ : ∃ ys, (dlay 3).2 = .agg ys := ⟨_, rfl⟩
  have hy5 : ∀ i, i < 5 → ys[i]? = some (accD i) := by
    have e : (match (dlay 3).2 with | .agg l => l | _ => []) = ys := by rw [hys]
    intro i hi
    rw [← e]
    have : i = 0 ∨ i = 1 ∨ i = 2 ∨ i = 3 ∨ i = 4 := by omega
    rcases this with rfl | rfl | rfl | rfl | rfl <;> rfl
  rw [hys] at a4
  obtain ⟨xs, n, _, hx, _, hxl, hf⟩ := DataW.trod_array Tryz.underlying119 a4
  have hx' : xs.map (·.1) = ys := by
    have := congrArg Prod.fst hx
    simp only [DataW.agg.injEq] at this
    exact this.symm
  intro i hi
  have f := hf i (by omega)
  rw [cellsAcc] at f
  have e : (xs.map (·.1))[i]? = some (accD i) := by rw [hx']; exact hy5 i hi
  rw [List.getElem?_map] at e
  obtain ⟨y, hy, ey⟩ := Option.map_eq_some_iff.1 e
  rw [hy] at f
  obtain ⟨d, pl⟩ := y
  simp only at ey
  subst ey
  obtain ⟨k0, k1⟩ := pair_cells f
  have at' : ∀ k v, k < 2 → ((cs.toList.drop (i * 2)).take 2)[k]? = some v → cs[i * 2 + k]? = some v := by
    intro k v hk hv
    rw [List.getElem?_take, if_pos hk, List.getElem?_drop, Array.getElem?_toList] at hv
    exact hv
  have c := fun k => World.var?_cell hg a3 k
  exact ⟨(c (i * 2)).trans (at' 0 _ (by omega) k0), (c (i * 2 + 1)).trans (at' 1 _ (by omega) k1)⟩

theorem utf_of {W : World} (h : laidMet Tryz.prog dlaids W) : Utf W := by
  have h1 := first_of h
  have h2 := accept_of h
  exact ⟨⟨lt_of_cell (by rw [h1 0 (by decide)]; simp), lt_of_cell (by rw [show (⟨1, 0, none⟩ : Addr) = ⟨1, 0 * 2, none⟩ from rfl, (h2 0 (by decide)).1]; simp)⟩, h1, fun i hi => (h2 i hi).1, fun i hi => (h2 i hi).2⟩
theorem dtab_of {W : World} (h : laidMet Tryz.prog dlaids W) : TabAt W := by
  obtain ⟨ps, hl, hnd, hall⟩ := h
  obtain ⟨g', t', cs, fuel, p, hg', ht', hvar, hd, _⟩ := dlaid_mem hl (dlay 4) (dlay_in 4 (by kernel_rfl))
  have gSpans : Tryz.prog.globalNamed (dlay 4).1 = some 2 := by kernel_rfl
  obtain rfl := Option.some.inj (gSpans.symm.trans hg')
  obtain rfl := Option.some.inj (gSpansType.symm.trans ht')
  have hd' : DataW.trod (fun _ => ()) Tryz.prog W 0 (fun _ => true) false fuel 139 cs.toList = some ((Rows.laid_pane_glyph_spans : DataW Unit), p) := hd
  clear hd
  have hd := hd'
  rw [laid_eq] at hd
  obtain ⟨xs, n, _, hx, _, hl, hf⟩ := DataW.trod_array Tryz.underlying139 hd
  have hx' : xs.map (·.1) = spansL.map fun s => (.agg [.lit (.int .i64 s.1), .lit (.int .i64 s.2.1), .lit (.int .i64 s.2.2)] : DataW Unit) := by
    have := congrArg Prod.fst hx
    simp only [DataW.agg.injEq] at this
    exact this.symm
  intro i hi
  have f := hf i hi
  rw [cellsSpan] at f
  have hs : spansL[i]? = some (spanAt i) := by
    unfold spanAt
    have : i < spansL.length := hi
    rw [List.getD_eq_getElem?_getD, List.getElem?_eq_getElem this]; rfl
  have e : (xs.map (·.1))[i]? = some (.agg [.lit (.int .i64 (spanAt i).1), .lit (.int .i64 (spanAt i).2.1), .lit (.int .i64 (spanAt i).2.2)] : DataW Unit) := by
    rw [hx', List.getElem?_map, hs]; rfl
  rw [List.getElem?_map] at e
  obtain ⟨y, hy, ey⟩ := Option.map_eq_some_iff.1 e
  rw [hy] at f
  obtain ⟨d, pl⟩ := y
  simp only at ey
  subst ey
  obtain ⟨k0, k1, k2⟩ := span_cells f
  have at' : ∀ k v, k < 3 → ((cs.toList.drop (i * 3)).take 3)[k]? = some v → cs[i * 3 + k]? = some v := by
    intro k v hk hv
    rw [List.getElem?_take, if_pos hk, List.getElem?_drop, Array.getElem?_toList] at hv
    exact hv
  have c := fun k => World.var?_cell gSpans hvar k
  exact ⟨(c (i * 3)).trans (at' 0 _ (by omega) k0), (c (i * 3 + 1)).trans (at' 1 _ (by omega) k1), (c (i * 3 + 2)).trans (at' 2 _ (by omega) k2)⟩

set_option maxRecDepth 100000 in
theorem tens_of {W : World} (h : laidMet Tryz.prog dlaids W) : TensAt W ∧ 3 < W.heap.size := by
  obtain ⟨ps, hl, hnd, hall⟩ := h
  obtain ⟨g, t, cs, fuel, p, a1, a2, a3, a4, a5⟩ := dlaid_mem hl (dlay 2) (dlay_in 2 (by kernel_rfl))
  have hg : Tryz.prog.globalNamed (dlay 2).1 = some 3 := by kernel_rfl
  have ht : (Tryz.prog.globals[3]?).map (·.type) = some 158 := by kernel_rfl
  obtain rfl := Option.some.inj (hg.symm.trans a1)
  obtain rfl := Option.some.inj (ht.symm.trans a2)
  have hd : (dlay 2).2 = .agg (Lib.pow10Tab.map fun z => .lit (.int .u64 z)) := by kernel_rfl
  rw [hd] at a4
  have key := Lib.cells_of_tab (P := Tryz.prog) Tryz.underlying158 Tryz.underlying108 (by kernel_rfl) (by kernel_rfl) a4
  have hv : W.var? Tryz.prog (dlay 2).1 = some (Lib.pow10Tab.map fun z => Value.int .u64 z).toArray := by
    rw [a3, ← key]
  refine ⟨⟨(dlay 2).1, hg, hv⟩, ?_⟩
  have c := World.var?_cell hg a3 0
  refine World.block_lt_of_cell? W ⟨3, 0, none⟩ (u := .int .u64 1) ?_
  rw [c, ← Array.getElem?_toList, key]
  rfl

end Go.Proofs.YtkdajaphbmclkaaGreatDoor
