/-
  The tables that the rows of the differ's laws list.
-/
import Derived.Test.YtlfffpoeioecjaaDoorRows
import Derived.Test.YtlfffpoeioecjaaDoorG05
import Derived.Test.YtlfffpoeioecjaaDoorG11
import Derived.LaidLaws
import Derived.LaidSub
import Derived.Lib.LaidTab
import Derived.Test.YtlfffpoeioecjaaDoorG27
import Derived.Deep.Slices
import Derived.ChangeSame
import Derived.ProofKit
import Derived.OpenShut
import Derived.ShutString
import Derived.ChangeOld
import Derived.Below
import Derived.SizedLaws
namespace Go.Proofs.YtlfffpoeioecjaaDoor
open Go.ChangeShapes Go.WideShapes Go.RowKit
set_option linter.unusedVariables false

theorem dlaid_mem {P : Program} {w : World} : ∀ {l : List (String × DataW Unit)} {ps : List MemPlace}, DataW.LaidVars P w l ps → ∀ x ∈ l, ∃ g t cs fuel p, P.globalNamed x.1 = some g ∧ (P.globals[g]?).map (·.type) = some t ∧ w.var? P x.1 = some cs ∧ DataW.trod (fun _ => ()) P w 0 (fun _ => true) false fuel t cs.toList = some (x.2, p) ∧ ∀ y ∈ MemPlace.row ⟨g, 0, none⟩ cs.size ++ p, y ∈ ps
  | [], ps, _, x, hx => by cases hx
  | (n, d) :: r, ps, h, x, hx => by
    obtain ⟨g, t, cs, fuel, p, q, h1, h2, h3, h4, h5, rfl⟩ := h
    rcases List.mem_cons.1 hx with rfl | hx'
    · exact ⟨g, t, cs, fuel, p, h1, h2, h3, h4, fun y hy => List.mem_append.2 (.inl hy)⟩
    · obtain ⟨g', t', cs', fuel', p', a1, a2, a3, a4, a5⟩ := dlaid_mem h5 x hx'
      exact ⟨g', t', cs', fuel', p', a1, a2, a3, a4, fun y hy => List.mem_append.2 (.inr (a5 y hy))⟩
def dlaids : List (String × DataW Unit) := Rows.differShowsUptoRow.laid
def dlay (i : Nat) : String × DataW Unit := (dlaids[i]?).getD ("", .nil)
theorem dlay_in (i : Nat) (h : dlaids[i]? = some (dlay i)) : dlay i ∈ dlaids := List.mem_of_getElem? h
set_option maxRecDepth 100000 in
theorem tens_of {W : World} (h : laidMet Tryd.prog dlaids W) : TensAt W ∧ 3 < W.heap.size := by
  obtain ⟨ps, hl, hnd, hall⟩ := h
  obtain ⟨g, t, cs, fuel, p, a1, a2, a3, a4, a5⟩ := dlaid_mem hl (dlay 2) (dlay_in 2 (by kernel_rfl))
  have hg : Tryd.prog.globalNamed (dlay 2).1 = some 3 := by kernel_rfl
  have ht : (Tryd.prog.globals[3]?).map (·.type) = some 188 := by kernel_rfl
  obtain rfl := Option.some.inj (hg.symm.trans a1)
  obtain rfl := Option.some.inj (ht.symm.trans a2)
  have hd : (dlay 2).2 = .agg (Lib.pow10Tab.map fun z => .lit (.int .u64 z)) := by kernel_rfl
  rw [hd] at a4
  have key := Lib.cells_of_tab (P := Tryd.prog) Tryd.underlying188 Tryd.underlying126 (by kernel_rfl) (by kernel_rfl) a4
  have hv : W.var? Tryd.prog (dlay 2).1 = some (Lib.pow10Tab.map fun z => Value.int .u64 z).toArray := by
    rw [a3, ← key]
  refine ⟨⟨(dlay 2).1, hg, hv⟩, ?_⟩
  have c := World.var?_cell hg a3 0
  refine World.block_lt_of_cell? W ⟨3, 0, none⟩ (u := .int .u64 1) ?_
  rw [c, ← Array.getElem?_toList, key]
  rfl
set_option maxRecDepth 100000 in
theorem dtab_of {W : World} (h : laidMet Tryd.prog dlaids W) : TabAt W := by
  obtain ⟨ps, hl, hnd, hall⟩ := h
  obtain ⟨g', t', cs, fuel, p, hg', ht', hvar, hd, _⟩ := dlaid_mem hl (dlay 3) (dlay_in 3 (by kernel_rfl))
  have gSpans : Tryd.prog.globalNamed (dlay 3).1 = some 2 := by kernel_rfl
  obtain rfl := Option.some.inj (gSpans.symm.trans hg')
  obtain rfl := Option.some.inj (gSpansType.symm.trans ht')
  have hd' : DataW.trod (fun _ => ()) Tryd.prog W 0 (fun _ => true) false fuel 176 cs.toList = some ((Rows.laid_pane_glyph_spans : DataW Unit), p) := hd
  clear hd
  have hd := hd'
  rw [laid_eq] at hd
  obtain ⟨xs, n, _, hx, _, hl, hf⟩ := DataW.trod_array Tryd.underlying176 hd
  have hx' : xs.map (·.1) = spansL.map fun s => (.agg [.lit (.int .i64 s.1), .lit (.int .i64 s.2.1), .lit (.int .i64 s.2.2)] : DataW Unit) := by
    have := congrArg Prod.fst hx
    simp only [DataW.agg.injEq] at this
    exact this.symm
  intro i hi
  have f := hf i hi
  rw [cellsSpan] at f
  have hs : spansL[i]? = some (spanAt i) := by
    unfold spanAt
    have : i < spansL.length := hi
    rw [List.getD_eq_getElem?_getD, List.getElem?_eq_getElem this]; rfl
  have e : (xs.map (·.1))[i]? = some (.agg [.lit (.int .i64 (spanAt i).1), .lit (.int .i64 (spanAt i).2.1), .lit (.int .i64 (spanAt i).2.2)] : DataW Unit) := by
    rw [hx', List.getElem?_map, hs]; rfl
  rw [List.getElem?_map] at e
  obtain ⟨y, hy, ey⟩ := Option.map_eq_some_iff.1 e
  rw [hy] at f
  obtain ⟨d, pl⟩ := y
  simp only at ey
  subst ey
  obtain ⟨k0, k1, k2⟩ := span_cells f
  have at' : ∀ k v, k < 3 → ((cs.toList.drop (i * 3)).take 3)[k]? = some v → cs[i * 3 + k]? = some v := by
    intro k v hk hv
    rw [List.getElem?_take, if_pos hk, List.getElem?_drop, Array.getElem?_toList] at hv
    exact hv
  have c := fun k => World.var?_cell gSpans hvar k
  exact ⟨(c (i * 3)).trans (at' 0 _ (by omega) k0), (c (i * 3 + 1)).trans (at' 1 _ (by omega) k1), (c (i * 3 + 2)).trans (at' 2 _ (by omega) k2)⟩

end Go.Proofs.YtlfffpoeioecjaaDoor

namespace Go.Proofs.YtlfffpoeioecjaaDoor
open Go.ChangeShapes Go.WideShapes Go.ChangeAt Go.RowKit Go.Deep
set_option linter.unusedVariables false

theorem dcellsC : Tryd.prog.cellsOf 57 = 5 := by kernel_rfl
theorem dcellsS : Tryd.prog.cellsOf 50 = 3 := by kernel_rfl
theorem dcells3 : Tryd.prog.cellsOf 3 = 1 := by kernel_rfl
theorem dcells9 : Tryd.prog.cellsOf 9 = 1 := by kernel_rfl

theorem bulk_pos {H : Type} (d : DataW H) : 1 ≤ Rows.uptoBulk d := by
  cases d with
  | lit l => cases l <;> simp [Rows.uptoBulk]
  | _ => simp [Rows.uptoBulk]
theorem bulk_len {H : Type} : ∀ l : List (DataW H), l.length ≤ Rows.uptoBulkAll l
  | [] => Nat.zero_le _
  | d :: r => by
    have h1 := bulk_pos d
    have h2 := bulk_len r
    simp only [Rows.uptoBulkAll, List.length_cons]
    omega
theorem bulk_mem {H : Type} : ∀ {l : List (DataW H)} {d : DataW H}, d ∈ l → Rows.uptoBulk d ≤ Rows.uptoBulkAll l
  | d' :: r, d, h => by
    simp only [Rows.uptoBulkAll]
    rcases List.mem_cons.1 h with rfl | h
    · omega
    · have := bulk_mem h; omega

section
variable {H : Type} {enc : TypeId × Value → H} {w : World} {base : Nat} {spare : Nat → Bool} {held : Bool}

theorem dint_of {v : Value} {n : Nat} {y : DataW H × List MemPlace} (h : DataW.trod enc Tryd.prog w base spare held n 3 [v] = some y) : ∃ x : Int, v = .int .i64 x := by
  obtain ⟨x, e, _⟩ := DataW.trod_int Tryd.underlying3 h
  injection e with e
  exact ⟨x, e⟩
theorem dstr_of {v : Value} {n : Nat} {y : DataW H × List MemPlace} (h : DataW.trod enc Tryd.prog w base spare held n 9 [v] = some y) : ∃ s : ByteArray, v = .string s ∧ y.1 = .lit (.string s.data.toList) := by
  obtain ⟨x, e, e2, _⟩ := DataW.trod_string Tryd.underlying9 h
  injection e with e
  exact ⟨x, e, by rw [e2]⟩
set_option maxRecDepth 100000 in
/-- What is handed in is a cell. -/
theorem cell_of {cs : List Value} {n : Nat} {y : DataW H × List MemPlace} (hlen : cs.length = 5) (h : DataW.trod enc Tryd.prog w base spare held n 57 cs = some y) :
    ∃ r : Ce, cs = c5 r ∧ r.t.size ≤ Rows.uptoBulk y.1 := by
  obtain ⟨xs, k, hk, hxy, _, hxl, hf⟩ := DataW.trod_struct Tryd.underlying57 h
  match xs, hxl, cs, hlen with
  | [y0, y1, y2], _, [v0, v1, v2, v3, v4], _ =>
    have g0 := hf 0 _ rfl
    have g1 := hf 1 _ rfl
    have g2 := hf 2 _ rfl
    simp [dcells3, dcells9, dcellsS] at g0 g1 g2
    obtain ⟨x0, rfl, e0⟩ := dstr_of g0
    obtain ⟨x4, rfl⟩ := dint_of g2
    obtain ⟨zs, k2, hk2, hxy2, _, hxl2, hf2⟩ := DataW.trod_struct Tryd.underlying50 g1
    match zs, hxl2 with
    | [z0, z1, z2], _ =>
      have f0 := hf2 0 _ rfl
      have f1 := hf2 1 _ rfl
      have f2 := hf2 2 _ rfl
      simp [dcells3] at f0 f1 f2
      obtain ⟨x1, rfl⟩ := dint_of f0
      obtain ⟨x2, rfl⟩ := dint_of f1
      obtain ⟨x3, rfl⟩ := dint_of f2
      refine ⟨⟨x0, x1, x2, x3, x4⟩, rfl, ?_⟩
      rw [hxy]
      have e : x0.data.toList.length = x0.size := by rw [Array.length_toList]; rfl
      simp only [List.map_cons, List.map_nil, e0, Rows.uptoBulk, Rows.uptoBulkAll]
      omega

/-- What is handed in is a list of cells. -/
theorem open_cells {fuel : Nat} {p : Option Addr} {len cap : Nat} {x : DataW H × List MemPlace} (h : DataW.trod enc Tryd.prog w base spare held fuel 36 [.slice p len cap] = some x) :
    ∃ C : Nat → Ce, (len = 0 ∨ ∃ g off, p = some ⟨g, off, none⟩ ∧ CL w g off len C) ∧ len ≤ Rows.uptoBulk x.1 ∧ ∀ i, i < len → (C i).t.size ≤ Rows.uptoBulk x.1 := by
  rcases open_slice Tryd.underlying36 h with ⟨h0, hx⟩ | ⟨ad, l, cp, m, n, D, Pl, h0, hb, hl, hm, hmm, rfl, hx⟩
  · injection h0 with h0
    injection h0 with h1 h2 h3
    subst h1 h2 h3
    exact ⟨fun _ => ⟨⟨#[]⟩, 0, 0, 0, 0⟩, .inl rfl, Nat.zero_le _, fun i hi => absurd hi (by omega)⟩
  · injection h0 with h0
    injection h0 with h1 h2 h3
    subst h1 h2 h3
    have hlm : len ≤ m := by rw [hmm]; split <;> omega
    have each : ∀ i, i < m → ∃ r : Ce, (∀ (k : Nat) u, (c5 r)[k]? = some u → w.cell? (ad.add (i * 5 + k)) = some u) ∧ r.t.size ≤ Rows.uptoBulk (D i) := by
      intro i hi
      obtain ⟨cs', h1, h2⟩ := hx i hi
      rw [dcellsC] at h1
      obtain ⟨_, hlen, hcell⟩ := World.cells?_some h1
      obtain ⟨r, hr, hin⟩ := cell_of hlen h2
      subst hr
      refine ⟨r, fun k u hu => ?_, hin⟩
      have hk := (List.getElem?_eq_some_iff.1 hu).1
      rw [c5_len] at hk
      have e0 := hcell k (by omega)
      rw [add_add] at e0
      rw [e0, ← hu]
    have inh : Inhabited Ce := ⟨⟨⟨#[]⟩, 0, 0, 0, 0⟩⟩
    obtain ⟨q, hq⟩ := choose_lt each
    have hbulk : Rows.uptoBulkAll ((List.range len).map D) ≤ Rows.uptoBulk (DataW.slice ((List.range len).map D) ((List.range (m - len)).map fun j => D (len + j))) := by simp only [Rows.uptoBulk]; omega
    refine ⟨q, ?_, ?_, fun i hi => ?_⟩
    · by_cases hz : len = 0
      · exact .inl hz
      · right
        obtain ⟨b, off, spot⟩ := ad
        have hspot : spot = none := by simpa [Addr.add] using World.cell?_spot ((hq 0 (by omega)).1 0 _ rfl)
        subst hspot
        have hc : ∀ i, i < len → ∀ (k : Nat) u, (c5 (q i))[k]? = some u → w.cell? ⟨b, off + i * 5 + k, none⟩ = some u := fun i hi k u hu => by
          have := (hq i (by omega)).1 k u hu
          rw [Go.WideShapes.add_plain, ← Nat.add_assoc] at this
          exact this
        exact ⟨b, off, rfl, World.block_lt_of_cell? w ⟨b, off + 0 * 5 + 0, none⟩ (hc 0 (by omega) 0 _ rfl), hc⟩
    · have := bulk_len ((List.range len).map D)
      simp only [List.length_map, List.length_range] at this
      exact Nat.le_trans this hbulk
    · refine Nat.le_trans (hq i (by omega)).2 (Nat.le_trans (bulk_mem ?_) hbulk)
      exact List.mem_map.2 ⟨i, List.mem_range.2 hi, rfl⟩
end

end Go.Proofs.YtlfffpoeioecjaaDoor
