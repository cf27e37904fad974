/-
  DifferOwn, for all that is of bulk at most 1048576.
-/
import Derived.Test.YtkdajaphbmclkaaGreatDoorRows
import Derived.Test.YtkdajaphbmclkaaGreatDoorX14
import Derived.Deep.Slices
import Derived.ChangeSame
import Derived.ProofKit
import Derived.OpenShut
import Derived.ShutString
import Derived.ChangeOld
import Derived.Below
import Derived.SizedLaws
import Derived.Test.YtkdajaphbmclkaaGreatDoorTable
import Derived.Test.YtkdajaphbmclkaaGreatDoorX07
import Derived.Test.YtkdajaphbmclkaaGreatDoorX12
import Derived.LaidLaws
import Derived.LaidSub
import Derived.Lib.LaidTab
import Derived.Test.YtkdajaphbmclkaaGreatDoorCards
import Derived.Test.YtkdajaphbmclkaaGreatDoorTie
import Derived.Test.YtkdajaphbmclkaaGreatDoorX23
import Derived.WalkKit
import Derived.Lay
import Derived.Deep.DeepHandedRow
namespace Go.Proofs.YtkdajaphbmclkaaGreatDoor
open Go.ChangeShapes Go.WideShapes Go.ChangeAt Go.RowKit Go.Deep
set_option linter.unusedVariables false

theorem dcellsC : Tryz.prog.cellsOf 40 = 5 := by kernel_rfl
theorem dcellsS : Tryz.prog.cellsOf 38 = 3 := by kernel_rfl
theorem dcells3 : Tryz.prog.cellsOf 3 = 1 := by kernel_rfl
theorem dcells9 : Tryz.prog.cellsOf 9 = 1 := by kernel_rfl

theorem bulk_pos {H : Type} (d : DataW H) : 1 ≤ Rows.uptoBulk d := by
  cases d with
  | lit l => cases l <;> simp [Rows.uptoBulk]
  | _ => simp [Rows.uptoBulk]
theorem bulk_len {H : Type} : ∀ l : List (DataW H), l.length ≤ Rows.uptoBulkAll l
  | [] => Nat.zero_le _
  | d :: r => by
    have h1 := bulk_pos d
    have h2 := bulk_len r
    simp only [Rows.uptoBulkAll, List.length_cons]
    omega
theorem bulk_mem {H : Type} : ∀ {l : List (DataW H)} {d : DataW H}, d ∈ l → Rows.uptoBulk d ≤ Rows.uptoBulkAll l
  | d' :: r, d, h => by
    simp only [Rows.uptoBulkAll]
    rcases List.mem_cons.1 h with rfl | h
    · omega
    · have := bulk_mem h; omega

section
variable {H : Type} {enc : TypeId × Value → H} {w : World} {base : Nat} {spare : Nat → Bool} {held : Bool}

theorem dint_of {v : Value} {n : Nat} {y : DataW H × List MemPlace} (h : DataW.trod enc Tryz.prog w base spare held n 3 [v] = some y) : ∃ x : Int, v = .int .i64 x := by
  obtain ⟨x, e, _⟩ := DataW.trod_int Tryz.underlying3 h
  injection e with e
  exact ⟨x, e⟩
theorem dstr_of {v : Value} {n : Nat} {y : DataW H × List MemPlace} (h : DataW.trod enc Tryz.prog w base spare held n 9 [v] = some y) : ∃ s : ByteArray, v = .string s ∧ y.1 = .lit (.string s.data.toList) := by
  obtain ⟨x, e, e2, _⟩ := DataW.trod_string Tryz.underlying9 h
  injection e with e
  exact ⟨x, e, by rw [e2]⟩
set_option maxRecDepth 100000 in
/-- What is handed in is a cell. -/
theorem cell_of {cs : List Value} {n : Nat} {y : DataW H × List MemPlace} (hlen : cs.length = 5) (h : DataW.trod enc Tryz.prog w base spare held n 40 cs = some y) :
    ∃ r : Ce, cs = c5 r ∧ r.t.size ≤ Rows.uptoBulk y.1 := by
  obtain ⟨xs, k, hk, hxy, _, hxl, hf⟩ := DataW.trod_struct Tryz.underlying40 h
  match xs, hxl, cs, hlen with
  | [y0, y1, y2], _, [v0, v1, v2, v3, v4], _ =>
    have g0 := hf 0 _ rfl
    have g1 := hf 1 _ rfl
    have g2 := hf 2 _ rfl
    simp [dcells3, dcells9, dcellsS] at g0 g1 g2
    obtain ⟨x0, rfl, e0⟩ := dstr_of g0
    obtain ⟨x4, rfl⟩ := dint_of g2
    obtain ⟨zs, k2, hk2, hxy2, _, hxl2, hf2⟩ := DataW.trod_struct Tryz.underlying38 g1
    match zs, hxl2 with
    | [z0, z1, z2], _ =>
      have f0 := hf2 0 _ rfl
      have f1 := hf2 1 _ rfl
      have f2 := hf2 2 _ rfl
      simp [dcells3] at f0 f1 f2
      obtain ⟨x1, rfl⟩ := dint_of f0
      obtain ⟨x2, rfl⟩ := dint_of f1
      obtain ⟨x3, rfl⟩ := dint_of f2
      refine ⟨⟨x0, x1, x2, x3, x4⟩, rfl, ?_⟩
      rw [hxy]
      have e : x0.data.toList.length = x0.size := by rw [Array.length_toList]; rfl
      simp only [List.map_cons, List.map_nil, e0, Rows.uptoBulk, Rows.uptoBulkAll]
      omega

/-- What is handed in is a list of cells. -/
theorem open_cells {fuel : Nat} {p : Option Addr} {len cap : Nat} {x : DataW H × List MemPlace} (h : DataW.trod enc Tryz.prog w base spare held fuel 22 [.slice p len cap] = some x) :
    ∃ C : Nat → Ce, (len = 0 ∨ ∃ g off, p = some ⟨g, off, none⟩ ∧ CL w g off len C) ∧ len ≤ Rows.uptoBulk x.1 ∧ ∀ i, i < len → (C i).t.size ≤ Rows.uptoBulk x.1 := by
  rcases open_slice Tryz.underlying22 h with ⟨h0, hx⟩ | ⟨ad, l, cp, m, n, D, Pl, h0, hb, hl, hm, hmm, rfl, hx⟩
  · injection h0 with h0
    injection h0 with h1 h2 h3
    subst h1 h2 h3
    exact ⟨fun _ => ⟨⟨#[]⟩, 0, 0, 0, 0⟩, .inl rfl, Nat.zero_le _, fun i hi => absurd hi (by omega)⟩
  · injection h0 with h0
    injection h0 with h1 h2 h3
    subst h1 h2 h3
    have hlm : len ≤ m := by rw [hmm]; split <;> omega
    have each : ∀ i, i < m → ∃ r : Ce, (∀ (k : Nat) u, (c5 r)[k]? = some u → w.cell? (ad.add (i * 5 + k)) = some u) ∧ r.t.size ≤ Rows.uptoBulk (D i) := by
      intro i hi
      obtain ⟨cs', h1, h2⟩ := hx i hi
      rw [dcellsC] at h1
      obtain ⟨_, hlen, hcell⟩ := World.cells?_some h1
      obtain ⟨r, hr, hin⟩ := cell_of hlen h2
      subst hr
      refine ⟨r, fun k u hu => ?_, hin⟩
      have hk := (List.getElem?_eq_some_iff.1 hu).1
      rw [c5_len] at hk
      have e0 := hcell k (by omega)
      rw [add_add] at e0
      rw [e0, ← hu]
    have inh : Inhabited Ce := ⟨⟨⟨#[]⟩, 0, 0, 0, 0⟩⟩
    obtain ⟨q, hq⟩ := choose_lt each
    have hbulk : Rows.uptoBulkAll ((List.range len).map D) ≤ Rows.uptoBulk (DataW.slice ((List.range len).map D) ((List.range (m - len)).map fun j => D (len + j))) := by simp only [Rows.uptoBulk]; omega
    refine ⟨q, ?_, ?_, fun i hi => ?_⟩
    · by_cases hz : len = 0
      · exact .inl hz
      · right
        obtain ⟨b, off, spot⟩ := ad
        have hspot : spot = none := by simpa [Addr.add] using World.cell?_spot ((hq 0 (by omega)).1 0 _ rfl)
        subst hspot
        have hc : ∀ i, i < len → ∀ (k : Nat) u, (c5 (q i))[k]? = some u → w.cell? ⟨b, off + i * 5 + k, none⟩ = some u := fun i hi k u hu => by
          have := (hq i (by omega)).1 k u hu
          rw [Go.WideShapes.add_plain, ← Nat.add_assoc] at this
          exact this
        exact ⟨b, off, rfl, World.block_lt_of_cell? w ⟨b, off + 0 * 5 + 0, none⟩ (hc 0 (by omega) 0 _ rfl), hc⟩
    · have := bulk_len ((List.range len).map D)
      simp only [List.length_map, List.length_range] at this
      exact Nat.le_trans this hbulk
    · refine Nat.le_trans (hq i (by omega)).2 (Nat.le_trans (bulk_mem ?_) hbulk)
      exact List.mem_map.2 ⟨i, List.mem_range.2 hi, rfl⟩
end

end Go.Proofs.YtkdajaphbmclkaaGreatDoor

namespace Go.Proofs.YtkdajaphbmclkaaGreatDoor
open Go.ChangeShapes Go.WideShapes Go.RowKit
set_option linter.unusedVariables false

theorem dlaid_mem {P : Program} {w : World} : ∀ {l : List (String × DataW Unit)} {ps : List MemPlace}, DataW.LaidVars P w l ps → ∀ x ∈ l, ∃ g t cs fuel p, P.globalNamed x.1 = some g ∧ (P.globals[g]?).map (·.type) = some t ∧ w.var? P x.1 = some cs ∧ DataW.trod (fun _ => ()) P w 0 (fun _ => true) false fuel t cs.toList = some (x.2, p) ∧ ∀ y ∈ MemPlace.row ⟨g, 0, none⟩ cs.size ++ p, y ∈ ps
  | [], ps, _, x, hx => by cases hx
  | (n, d) :: r, ps, h, x, hx => by
    obtain ⟨g, t, cs, fuel, p, q, h1, h2, h3, h4, h5, rfl⟩ := h
    rcases List.mem_cons.1 hx with rfl | hx'
    · exact ⟨g, t, cs, fuel, p, h1, h2, h3, h4, fun y hy => List.mem_append.2 (.inl hy)⟩
    · obtain ⟨g', t', cs', fuel', p', a1, a2, a3, a4, a5⟩ := dlaid_mem h5 x hx'
      exact ⟨g', t', cs', fuel', p', a1, a2, a3, a4, fun y hy => List.mem_append.2 (.inr (a5 y hy))⟩
theorem lt_of_cell {W : World} {g : Nat} (h : W.cell? ⟨g, 0, none⟩ ≠ none) : g < W.heap.size := by
  by_cases e : g < W.heap.size
  · exact e
  · exact absurd (by simp [World.cell?, Array.getElem?_eq_none (Nat.le_of_not_lt e)]) h
def dlaids : List (String × DataW Unit) := Rows.differOwnUptoRow.laid
def dlay (i : Nat) : String × DataW Unit := (dlaids[i]?).getD ("", .nil)
theorem dlay_in (i : Nat) (h : dlaids[i]? = some (dlay i)) : dlay i ∈ dlaids := List.mem_of_getElem? h
def firZ : List Int := (List.range 256).map fun c => (fir c : Int)

set_option maxRecDepth 100000 in
theorem first_of {W : World} (h : laidMet Tryz.prog dlaids W) : ∀ c, c < 256 → W.cell? ⟨0, c, none⟩ = some (.int .u8 (fir c)) := by
  obtain ⟨ps, hl, hnd, hall⟩ := h
  obtain ⟨g, t, cs, fuel, p, a1, a2, a3, a4, a5⟩ := dlaid_mem hl (dlay 5) (dlay_in 5 (by kernel_rfl))
  have hg : Tryz.prog.globalNamed (dlay 5).1 = some 0 := by kernel_rfl
  have ht : (Tryz.prog.globals[0]?).map (·.type) = some 116 := by kernel_rfl
  obtain rfl := Option.some.inj (hg.symm.trans a1)
  obtain rfl := Option.some.inj (ht.symm.trans a2)
  have hd : (dlay 5).2 = .agg (firZ.map fun z => .lit (.int .u8 z)) := by kernel_rfl
  rw [hd] at a4
  have key := Lib.cells_of_tab (P := Tryz.prog) Tryz.underlying116 Tryz.underlying5 (by kernel_rfl) (by kernel_rfl) a4
  intro c hc
  rw [World.var?_cell hg a3 c, ← Array.getElem?_toList, key]
  simp [firZ, hc]

theorem one_of' {α : Type} {l : List α} {k : Nat} {x : α} (h : (l.drop k).take 1 = [x]) : l[k]? = some x := by
  have := congrArg (·[0]?) h
  simpa [List.getElem?_take, List.getElem?_drop] using this
theorem cellsU8 : Tryz.prog.cellsOf 5 = 1 := by kernel_rfl
theorem cellsAcc : Tryz.prog.cellsOf 118 = 2 := by kernel_rfl
theorem pair_cells {W : World} {base : Nat} {sp : Nat → Bool} {held : Bool} {fuel : Nat} {cs : List Value} {a b : Int} {p : List MemPlace}
    (h : DataW.trod (fun _ => ()) Tryz.prog W base sp held fuel 118 cs = some (.agg [.lit (.int .u8 a), .lit (.int .u8 b)], p)) :
    cs[0]? = some (.int .u8 a) ∧ cs[1]? = some (.int .u8 b) := by
  obtain ⟨xs, n, _, hx, _, hl, hf⟩ := DataW.trod_struct Tryz.underlying118 h
  have hl2 : xs.length = 2 := hl
  match xs, hl2 with
  | [x0, x1], _ =>
    have hx' := congrArg Prod.fst hx
    simp only [List.map_cons, List.map_nil, DataW.agg.injEq, List.cons.injEq, and_true] at hx'
    obtain ⟨e0, e1⟩ := hx'
    have f0 : DataW.trod (fun _ => ()) Tryz.prog W base sp held n 5 ((cs.drop 0).take (Tryz.prog.cellsOf 5)) = some x0 := hf 0 _ rfl
    have f1 : DataW.trod (fun _ => ()) Tryz.prog W base sp held n 5 ((cs.drop 1).take (Tryz.prog.cellsOf 5)) = some x1 := hf 1 _ rfl
    rw [cellsU8] at f0 f1
    obtain ⟨z0, h0, y0, _⟩ := DataW.trod_int Tryz.underlying5 f0
    obtain ⟨z1, h1, y1, _⟩ := DataW.trod_int Tryz.underlying5 f1
    have g0 := one_of' h0
    have g1 := one_of' h1
    rw [y0] at e0; rw [y1] at e1
    simp only [DataW.lit.injEq, Lit.int.injEq, true_and] at e0 e1
    subst e0 e1
    exact ⟨g0, g1⟩
def accD (i : Nat) : DataW Unit := .agg [.lit (.int .u8 (accL i)), .lit (.int .u8 (accH i))]

set_option maxRecDepth 100000 in
theorem accept_of {W : World} (h : laidMet Tryz.prog dlaids W) : ∀ i, i < 5 → W.cell? ⟨1, i * 2, none⟩ = some (.int .u8 (accL i)) ∧ W.cell? ⟨1, i * 2 + 1, none⟩ = some (.int .u8 (accH i)) := by
  obtain ⟨ps, hl, hnd, hall⟩ := h
  obtain ⟨g, t, cs, fuel, p, a1, a2, a3, a4, a5⟩ := dlaid_mem hl (dlay 3) (dlay_in 3 (by kernel_rfl))
  have hg : Tryz.prog.globalNamed (dlay 3).1 = some 1 := by kernel_rfl
  have ht : (Tryz.prog.globals[1]?).map (·.type) = some 119 := by kernel_rfl
  obtain rfl := Option.some.inj (hg.symm.trans a1)
  obtain rfl := Option.some.inj (ht.symm.trans a2)
  obtain ⟨ys, hys⟩ : ∃ ys, (dlay 3).2 = .agg ys := ⟨_, rfl⟩
  have hy5 : ∀ i, i < 5 → ys[i]? = some (accD i) := by
    have e : (match (dlay 3).2 with | .agg l => l | _ => []) = ys := by rw [hys]
    intro i hi
    rw [← e]
    have : i = 0 ∨ i = 1 ∨ i = 2 ∨ i = 3 ∨ i = 4 := by omega
    rcases this with rfl | rfl | rfl | rfl | rfl <;> rfl
  rw [hys] at a4
  obtain ⟨xs, n, _, hx, _, hxl, hf⟩ := DataW.trod_array Tryz.underlying119 a4
  have hx' : xs.map (·.1) = ys := by
    have := congrArg Prod.fst hx
    simp only [DataW.agg.injEq] at this
    exact this.symm
  intro i hi
  have f := hf i (by omega)
  rw [cellsAcc] at f
  have e : (xs.map (·.1))[i]? = some (accD i) := by rw [hx']; exact hy5 i hi
  rw [List.getElem?_map] at e
  obtain ⟨y, hy, ey⟩ := Option.map_eq_some_iff.1 e
  rw [hy] at f
  obtain ⟨d, pl⟩ := y
  simp only at ey
  subst ey
  obtain ⟨k0, k1⟩ := pair_cells f
  have at' : ∀ k v, k < 2 → ((cs.toList.drop (i * 2)).take 2)[k]? = some v → cs[i * 2 + k]? = some v := by
    intro k v hk hv
    rw [List.getElem?_take, if_pos hk, List.getElem?_drop, Array.getElem?_toList] at hv
    exact hv
  have c := fun k => World.var?_cell hg a3 k
  exact ⟨(c (i * 2)).trans (at' 0 _ (by omega) k0), (c (i * 2 + 1)).trans (at' 1 _ (by omega) k1)⟩

theorem utf_of {W : World} (h : laidMet Tryz.prog dlaids W) : Utf W := by
  have h1 := first_of h
  have h2 := accept_of h
  exact ⟨⟨lt_of_cell (by rw [h1 0 (by decide)]; simp), lt_of_cell (by rw [show (⟨1, 0, none⟩ : Addr) = ⟨1, 0 * 2, none⟩ from rfl, (h2 0 (by decide)).1]; simp)⟩, h1, fun i hi => (h2 i hi).1, fun i hi => (h2 i hi).2⟩
theorem dtab_of {W : World} (h : laidMet Tryz.prog dlaids W) : TabAt W := by
  obtain ⟨ps, hl, hnd, hall⟩ := h
  obtain ⟨g', t', cs, fuel, p, hg', ht', hvar, hd, _⟩ := dlaid_mem hl (dlay 4) (dlay_in 4 (by kernel_rfl))
  have gSpans : Tryz.prog.globalNamed (dlay 4).1 = some 2 := by kernel_rfl
  obtain rfl := Option.some.inj (gSpans.symm.trans hg')
  obtain rfl := Option.some.inj (gSpansType.symm.trans ht')
  have hd' : DataW.trod (fun _ => ()) Tryz.prog W 0 (fun _ => true) false fuel 139 cs.toList = some ((Rows.laid_pane_glyph_spans : DataW Unit), p) := hd
  clear hd
  have hd := hd'
  rw [laid_eq] at hd
  obtain ⟨xs, n, _, hx, _, hl, hf⟩ := DataW.trod_array Tryz.underlying139 hd
  have hx' : xs.map (·.1) = spansL.map fun s => (.agg [.lit (.int .i64 s.1), .lit (.int .i64 s.2.1), .lit (.int .i64 s.2.2)] : DataW Unit) := by
    have := congrArg Prod.fst hx
    simp only [DataW.agg.injEq] at this
    exact this.symm
  intro i hi
  have f := hf i hi
  rw [cellsSpan] at f
  have hs : spansL[i]? = some (spanAt i) := by
    unfold spanAt
    have : i < spansL.length := hi
    rw [List.getD_eq_getElem?_getD, List.getElem?_eq_getElem this]; rfl
  have e : (xs.map (·.1))[i]? = some (.agg [.lit (.int .i64 (spanAt i).1), .lit (.int .i64 (spanAt i).2.1), .lit (.int .i64 (spanAt i).2.2)] : DataW Unit) := by
    rw [hx', List.getElem?_map, hs]; rfl
  rw [List.getElem?_map] at e
  obtain ⟨y, hy, ey⟩ := Option.map_eq_some_iff.1 e
  rw [hy] at f
  obtain ⟨d, pl⟩ := y
  simp only at ey
  subst ey
  obtain ⟨k0, k1, k2⟩ := span_cells f
  have at' : ∀ k v, k < 3 → ((cs.toList.drop (i * 3)).take 3)[k]? = some v → cs[i * 3 + k]? = some v := by
    intro k v hk hv
    rw [List.getElem?_take, if_pos hk, List.getElem?_drop, Array.getElem?_toList] at hv
    exact hv
  have c := fun k => World.var?_cell gSpans hvar k
  exact ⟨(c (i * 3)).trans (at' 0 _ (by omega) k0), (c (i * 3 + 1)).trans (at' 1 _ (by omega) k1), (c (i * 3 + 2)).trans (at' 2 _ (by omega) k2)⟩

set_option maxRecDepth 100000 in
theorem tens_of {W : World} (h : laidMet Tryz.prog dlaids W) : TensAt W ∧ 3 < W.heap.size := by
  obtain ⟨ps, hl, hnd, hall⟩ := h
  obtain ⟨g, t, cs, fuel, p, a1, a2, a3, a4, a5⟩ := dlaid_mem hl (dlay 2) (dlay_in 2 (by kernel_rfl))
  have hg : Tryz.prog.globalNamed (dlay 2).1 = some 3 := by kernel_rfl
  have ht : (Tryz.prog.globals[3]?).map (·.type) = some 158 := by kernel_rfl
  obtain rfl := Option.some.inj (hg.symm.trans a1)
  obtain rfl := Option.some.inj (ht.symm.trans a2)
  have hd : (dlay 2).2 = .agg (Lib.pow10Tab.map fun z => .lit (.int .u64 z)) := by kernel_rfl
  rw [hd] at a4
  have key := Lib.cells_of_tab (P := Tryz.prog) Tryz.underlying158 Tryz.underlying108 (by kernel_rfl) (by kernel_rfl) a4
  have hv : W.var? Tryz.prog (dlay 2).1 = some (Lib.pow10Tab.map fun z => Value.int .u64 z).toArray := by
    rw [a3, ← key]
  refine ⟨⟨(dlay 2).1, hg, hv⟩, ?_⟩
  have c := World.var?_cell hg a3 0
  refine World.block_lt_of_cell? W ⟨3, 0, none⟩ (u := .int .u64 1) ?_
  rw [c, ← Array.getElem?_toList, key]
  rfl

end Go.Proofs.YtkdajaphbmclkaaGreatDoor

namespace Go.Proofs.YtkdajaphbmclkaaGreatDoor.differOwn
open Go.ChangeShapes Go.WideShapes Go.ChangeAt Go.RowKit
open Go.ChangeMaps (open_string shut_string)
set_option linter.unusedVariables false

theorem own : ownKnob Tryz.prog.godebug = none := by kernel_rfl
theorem laidOut : laidOutB Tryz.prog = true := by kernel_rfl
theorem short {H : Type} {d0 : DataW H} {d1 : DataW H} {d2 : DataW H} {x3 : Int} (hk : Rows.uptoSmall H [d0, d1, d2, .lit (.int .i64 x3)] = true) : Rows.uptoBulk d0 ≤ 1048576 ∧ Rows.uptoBulk d1 ≤ 1048576 ∧ Rows.uptoBulk d2 ≤ 1048576 := by
  have h : Rows.uptoBulkAll [(d0 : DataW H), (d1 : DataW H), (d2 : DataW H), (.lit (.int .i64 x3) : DataW H)] ≤ 1048576 := of_decide_eq_true hk
  simp only [Rows.uptoBulkAll, Rows.uptoBulk] at h
  omega

set_option maxRecDepth 100000 in
theorem contract (H : Type) (enc : TypeId × Value → H) (W : World) (base : Nat) (args : Array Value) (ds gs : List (DataW H)) (before : List MemPlace)
    (hval : ∀ (j : Nat) t v, Tryz.f3.params[j]? = some t → args[j]? = some v → Value.okWide Tryz.prog W .any base t v)
    (hW : DataW.Whole enc Tryz.prog Tryz.f3.params.toList Rows.differOwnSpec.vars false W args.toList ds gs before) (hk : Rows.uptoSmall H (ds ++ gs) = true) (hL : laidMetH Tryz.prog Rows.differOwnUptoRow.laid W) :
    Calls Tryz.prog 3 args W fun e W' => ∃ v, e = .returned v ∧ Rows.differOwnSpec.post enc Tryz.prog Tryz.f3 false true false false W args v W' := by
  have hW' := hW
  obtain ⟨p, q, hA0, hV, rfl, hfz, hnd⟩ := hW
  have hA : DataW.TrodAll enc Tryz.prog W 0 (fun _ => true) true Tryz.f3.params.toList args.toList ds p := hA0
  rw [Tryz.params3] at hA hval
  obtain ⟨v0, vs0, d0, ds0, p0, q0, hargs, rfl, rfl, h0, r0⟩ := trodAll_cons hA
  obtain ⟨v1, vs1, d1, ds1, p1, q1, rfl, rfl, rfl, h1, r1⟩ := trodAll_cons r0
  obtain ⟨v2, vs2, d2, ds2, p2, q2, rfl, rfl, rfl, h2, r2⟩ := trodAll_cons r1
  obtain ⟨v3, vs3, d3, ds3, p3, q3, rfl, rfl, rfl, h3, r3⟩ := trodAll_cons r2
  obtain ⟨rfl, rfl, rfl⟩ := trodAll_nil r3
  obtain rfl : args = #[v0, v1, v2, v3] := by cases args; simp_all
  obtain ⟨rfl, rfl⟩ := trodVars_none hV
  obtain ⟨a0, len0, cap0, rfl⟩ := okWide_slice Tryz.underlying22 (hval 0 22 v0 rfl rfl)
  have k0 := h0
  have lt0 : ∀ x ∈ p0, x.block < W.heap.size := by obtain ⟨m, hm⟩ := k0; exact DataW.trod_lt m _ _ _ hm
  obtain ⟨a1, len1, cap1, rfl⟩ := okWide_slice Tryz.underlying22 (hval 1 22 v1 rfl rfl)
  have k1 := h1
  have lt1 : ∀ x ∈ p1, x.block < W.heap.size := by obtain ⟨m, hm⟩ := k1; exact DataW.trod_lt m _ _ _ hm
  obtain ⟨a2, len2, cap2, rfl⟩ := okWide_slice Tryz.underlying22 (hval 2 22 v2 rfl rfl)
  have k2 := h2
  have lt2 : ∀ x ∈ p2, x.block < W.heap.size := by obtain ⟨m, hm⟩ := k2; exact DataW.trod_lt m _ _ _ hm
  obtain ⟨x3, rfl, rfl, rfl, m3⟩ := open_int Tryz.underlying3 (hval 3 3 v3 rfl rfl) h3
  clear hA0
  simp only [List.append_nil] at hW' hk
  have hbk := short hk
  have hLm : laidMet Tryz.prog dlaids W := hL
  have hT := dtab_of hLm
  obtain ⟨hTens, hTensLt⟩ := tens_of hLm
  have hU := utf_of hLm
  have hGs := World.block_lt_of_cell? W _ (hT 0 (by decide)).1
  have main : Calls Tryz.prog 3 #[.slice a0 len0 cap0, .slice a1 len1 cap1, .slice a2 len2 cap2, .int .i64 x3] W fun e w' => e = .returned (.bool true) ∧ Below W.heap.size W w' := by
    obtain ⟨fuel0, hf0⟩ := h0
    have hf0' : DataW.trod enc Tryz.prog W 0 (fun _ => true) true fuel0 22 [.slice a0 len0 cap0] = some (d0, p0) := by simpa [Value.cells] using hf0
    obtain ⟨C0, hC0, hl0, hz0⟩ := open_cells hf0'
    have l0 : len0 ≤ 1048576 := by have h1 : len0 ≤ Rows.uptoBulk d0 := hl0; omega
    have z0 : ∀ i, i < len0 → (C0 i).t.size ≤ 1099511627776 := fun i hi => by have h1 : (C0 i).t.size ≤ Rows.uptoBulk d0 := hz0 i hi; omega
    obtain ⟨fuel1, hf1⟩ := h1
    have hf1' : DataW.trod enc Tryz.prog W 0 (fun _ => true) true fuel1 22 [.slice a1 len1 cap1] = some (d1, p1) := by simpa [Value.cells] using hf1
    obtain ⟨C1, hC1, hl1, hz1⟩ := open_cells hf1'
    have l1 : len1 ≤ 1048576 := by have h1 : len1 ≤ Rows.uptoBulk d1 := hl1; omega
    have z1 : ∀ i, i < len1 → (C1 i).t.size ≤ 1099511627776 := fun i hi => by have h1 : (C1 i).t.size ≤ Rows.uptoBulk d1 := hz1 i hi; omega
    obtain ⟨fuel2, hf2⟩ := h2
    have hf2' : DataW.trod enc Tryz.prog W 0 (fun _ => true) true fuel2 22 [.slice a2 len2 cap2] = some (d2, p2) := by simpa [Value.cells] using hf2
    obtain ⟨C2, hC2, hl2, hz2⟩ := open_cells hf2'
    have l2 : len2 ≤ 1048576 := by have h1 : len2 ≤ Rows.uptoBulk d2 := hl2; omega
    have z2 : ∀ i, i < len2 → (C2 i).t.size ≤ 1099511627776 := fun i hi => by have h1 : (C2 i).t.size ≤ Rows.uptoBulk d2 := hz2 i hi; omega
    exact down_any C0 a0 len0 cap0 C1 a1 len1 cap1 C2 a2 len2 cap2 x3 W hC0 l0 z0 hC1 l1 z1 hC2 l2 z2 hT hU hGs hTens hTensLt
  refine main.mono fun e W' ⟨he, bel⟩ => ?_
  subst he
  exact ⟨_, rfl, _, _, _, [], _, [], hW', trodAll_mk1 (shut_bool Tryz.underlying4 _), (trodAll_cons_mk (Below.trod laidOut (by kernel_rfl) (of_decide_eq_true (by kernel_rfl)) k0 bel lt0) (trodAll_cons_mk (Below.trod laidOut (by kernel_rfl) (of_decide_eq_true (by kernel_rfl)) k1 bel lt1) (trodAll_cons_mk (Below.trod laidOut (by kernel_rfl) (of_decide_eq_true (by kernel_rfl)) k2 bel lt2) (trodAll_cons_mk (shut_int Tryz.underlying3 m3) trodAll_mk0)))), rfl, bel.frame _, fun h => by cases h⟩

/-- For the witness: a world whose variables hold what their initialisers lay. -/
theorem laid_met (os : Os) : laidMet Tryz.prog Rows.differOwnUptoRow.laid (((World.holding Tryz.prog os ⟨#[], #[], []⟩).layVars Tryz.prog dlaids).forCall (fun _ _ => 0) ⟨#[], #[.slice none 0 0, .slice none 0 0, .slice none 0 0, .int .i64 0], []⟩).memory := by
  have hd : laidMet Tryz.prog dlaids ((World.holding Tryz.prog os ⟨#[], #[], []⟩).layVars Tryz.prog dlaids) := by
    have e1 : (dlaids.filter fun x => (dlaids.map (·.1)).contains x.1) = dlaids := List.filter_eq_self.2 fun x hx => List.contains_iff_mem.2 (List.mem_map.2 ⟨x, hx, rfl⟩)
    have e2 : (dlaids.filter fun x => !(dlaids.map (·.1)).contains x.1) = [] := List.filter_eq_nil_iff.2 fun x hx => by rw [List.contains_iff_mem.2 (List.mem_map.2 ⟨x, hx, rfl⟩)]; simp
    exact laidMet_layVars (w0 := World.holding Tryz.prog os ⟨#[], #[], []⟩) (dlaids.map (·.1)) [] (by rw [e1]) (by rw [e1]; kernel_rfl) (by rw [e1]; kernel_rfl) (by rw [e2]; exact LaidIn.none)
  exact hd.of_heap (by simp [World.memory, World.forCall, Input.heap])
theorem reads (os : Os) {H : Type} (enc : TypeId × Value → H) : ∃ places, DataW.whole enc Tryz.prog (((World.holding Tryz.prog os ⟨#[], #[], []⟩).layVars Tryz.prog dlaids).forCall (fun _ _ => 0) ⟨#[], #[.slice none 0 0, .slice none 0 0, .slice none 0 0, .int .i64 0], []⟩).memory Tryz.f3.params.toList Rows.differOwnSpec.vars false #[Value.slice none 0 0, Value.slice none 0 0, Value.slice none 0 0, Value.int .i64 0].toList 8 = some ([.nil, .nil, .nil, .lit (.int .i64 0)], [], places) :=
  ⟨[], by kernel_rfl⟩

set_option maxRecDepth 100000 in
theorem lifted (os : Os) (started : os.Started) (H : Type) (enc : TypeId × Value → H) (F : Stop.Interp) :
    ReturnsInHanded {} Tryz.checked os 3 .any ((Rows.OpenSpec.upto Rows.differOwnSpec).preRow enc Tryz.prog Tryz.f3 Rows.differOwnUptoRow.domain false Rows.differOwnUptoRow.laid) (((Rows.OpenSpec.upto Rows.differOwnSpec).at F).post enc Tryz.prog Tryz.f3 false true false false) := by
  obtain ⟨places, hx⟩ := reads os enc
  refine returnsInHanded_of_row (C := Tryz.checked) (s := Rows.OpenSpec.upto Rows.differOwnSpec) own started (by kernel_rfl) Tryz.func3
    (witness_row_at (enc := enc) (C := Tryz.checked) false ((World.holding Tryz.prog os ⟨#[], #[], []⟩).layVars Tryz.prog dlaids) #[.slice none 0 0, .slice none 0 0, .slice none 0 0, .int .i64 0] (World.layVars_os _ _ _) (by kernel_rfl) (by kernel_rfl) (by kernel_rfl)
      (OpenSpec.preRow_of_cond 8 hx (by kernel_rfl) (fun k hk => by cases hk; kernel_rfl) (by kernel_rfl) (laid_met os))) ?_
  intro W base args ds gs before hval hW _ hcond _ hL _ _
  exact contract H enc W base args ds gs before hval hW (hcond _ rfl) hL

theorem said : Rows.DifferOwnUptoSaid :=
  OpenClaim.holds_of_cond 3 Tryz.f3 rfl rfl rfl rfl rfl rfl rfl ⟨rfl, rfl, rfl, rfl, rfl⟩ rfl rfl rfl rfl rfl (by kernel_rfl) Tryz.func3 (by kernel_rfl)
    (of_decide_eq_true (by kernel_rfl)) (by unfold Func.isWrapper; first | (rw [if_pos (by decide +kernel)]; kernel_rfl) | (rw [if_neg (by decide +kernel)]; exact ⟨rfl, rfl⟩))
    (fun os started H enc _ F => by rw [OpenClaim.pre_eq_preRow]; exact lifted os started H enc F)

theorem plain (f : FuncId) (fn : Func) (hf : Tryz.pinned.checked.prog.funcNamed Rows.differOwnUptoRow.func = some f) (hfn : Tryz.pinned.checked.prog.funcs[f]? = some fn) :
    false = Tryz.pinned.checked.prog.looks [] ∧ ∀ (j : Nat) t, fn.params[j]? = some t → Tryz.pinned.checked.prog.wantsStandIn t = false := by
  obtain rfl : f = 3 := Option.some.inj ((show Tryz.prog.funcNamed Rows.differOwnUptoRow.func = some 3 by kernel_rfl).symm.trans hf) |>.symm
  obtain rfl : fn = Tryz.f3 := (Option.some.inj (Tryz.func3.symm.trans hfn)).symm
  refine ⟨by kernel_rfl, fun j t ht => ?_⟩
  rw [Tryz.params3] at ht
  have hq := Array.mem_of_getElem? ht
  simp only [List.mem_toArray, List.mem_cons, List.not_mem_nil, or_false] at hq
  rcases hq with rfl | rfl | rfl | rfl
  · exact (show Tryz.prog.wantsStandIn 22 = false by kernel_rfl)
  · exact (show Tryz.prog.wantsStandIn 22 = false by kernel_rfl)
  · exact (show Tryz.prog.wantsStandIn 22 = false by kernel_rfl)
  · exact (show Tryz.prog.wantsStandIn 3 = false by kernel_rfl)

theorem proved : Rows.DifferOwnUptoCardSaid :=
  Claim7.holds_tied_plain_at .later [] _ _ _ _ said (fun _ h => by cases h) (by kernel_rfl) (fun _ h => by cases h) differOwnUpto_row_tie rfl ⟨rfl, rfl⟩ (by kernel_rfl) rfl plain (by kernel_rfl)
#print axioms proved
end Go.Proofs.YtkdajaphbmclkaaGreatDoor.differOwn
