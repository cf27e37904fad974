/-
  A list of cells that is handed in, opened at every index; how long it and its texts are.
-/
import Derived.Test.YtkdajaphbmclkaaGreatDoorRows
import Derived.Test.YtkdajaphbmclkaaGreatDoorX14
import Derived.Deep.Slices
import Derived.ChangeSame
import Derived.ProofKit
import Derived.OpenShut
import Derived.ShutString
import Derived.ChangeOld
import Derived.Below
import Derived.SizedLaws
namespace Go.Proofs.YtkdajaphbmclkaaGreatDoor
open Go.ChangeShapes Go.WideShapes Go.ChangeAt Go.RowKit Go.Deep
set_option linter.unusedVariables false

theorem dcellsC : Tryz.prog.cellsOf 40 = 5 := by kernel_rfl
theorem dcellsS : Tryz.prog.cellsOf 38 = 3 := by kernel_rfl
theorem dcells3 : Tryz.prog.cellsOf 3 = 1 := by kernel_rfl
theorem dcells9 : Tryz.prog.cellsOf 9 = 1 := by kernel_rfl

theorem bulk_pos {H : Type} (d : DataW H) : 1 ≤ Rows.uptoBulk d := by
  cases d with
  | lit l => cases l <;> simp [Rows.uptoBulk]
  | _ => simp [Rows.uptoBulk]
theorem bulk_len {H : Type} : ∀ l : List (DataW H), l.length ≤ Rows.uptoBulkAll l
  | [] => Nat.zero_le _
  | d :: r => by
    have h1 := bulk_pos d
    have h2 := bulk_len r
    simp only [Rows.uptoBulkAll, List.length_cons]
    omega
theorem bulk_mem {H : Type} : ∀ {l : List (DataW H)} {d : DataW H}, d ∈ l → Rows.uptoBulk d ≤ Rows.uptoBulkAll l
  | d' :: r, d, h => by
    simp only [Rows.uptoBulkAll]
    rcases List.mem_cons.1 h with rfl | h
    · omega
    · have := bulk_mem h; omega

section
variable {H : Type} {enc : TypeId × Value → H} {w : World} {base : Nat} {spare : Nat → Bool} {held : Bool}

theorem dint_of {v : Value} {n : Nat} {y : DataW H × List MemPlace} (h : DataW.trod enc Tryz.prog w base spare held n 3 [v] = some y) : ∃ x : Int, v = .int .i64 x := by
  obtain ⟨x, e, _⟩ := DataW.trod_int Tryz.underlying3 h
  injection e with e
  exact ⟨x, e⟩
theorem dstr_of {v : Value} {n : Nat} {y : DataW H × List MemPlace} (h : DataW.trod enc Tryz.prog w base spare held n 9 [v] = some y) : ∃ s : ByteArray, v = .string s ∧ y.1 = .lit (.string s.data.toList) := by
  obtain ⟨x, e, e2, _⟩ := DataW.trod_string Tryz.underlying9 h
  injection e with e
  exact ⟨x, e, by rw [e2]⟩
set_option maxRecDepth 100000 in
/-- What is handed in is a cell. -/
theorem cell_of {cs : List Value} {n : Nat} {y : DataW H × List MemPlace} (hlen : cs.length = 5) (h : DataW.trod enc Tryz.prog w base spare held n 40 cs = some y) :
    ∃ r : Ce, cs = c5 r ∧ r.t.size ≤ Rows.uptoBulk y.1 := by
  obtain ⟨xs, k, hk, hxy, _, hxl, hf⟩ := DataW.trod_struct Tryz.underlying40 h
  match xs, hxl, cs, hlen with
  | [y0, y1, y2], _, [v0, v1, v2, v3, v4], _ =>
    have g0 := hf 0 _ rfl
    have g1 := hf 1 _ rfl
    have g2 := hf 2 _ rfl
    simp [dcells3, dcells9, dcellsS] at g0 g1 g2
    obtain ⟨x0, rfl, e0⟩ := dstr_of g0
    obtain ⟨x4, rfl⟩ := dint_of g2
    obtain ⟨zs, k2, hk2, hxy2, _, hxl2, hf2⟩ := DataW.trod_struct Tryz.underlying38 g1
    match zs, hxl2 with
    | [z0, z1, z2], _ =>
      have f0 := hf2 0 _ rfl
      have f1 := hf2 1 _ rfl
      have f2 := hf2 2 _ rfl
      simp [dcells3] at f0 f1 f2
      obtain ⟨x1, rfl⟩ := dint_of f0
      obtain ⟨x2, rfl⟩ := dint_of f1
      obtain ⟨x3, rfl⟩ := dint_of f2
      refine ⟨⟨x0, x1, x2, x3, x4⟩, rfl, ?_⟩
      rw [hxy]
      have e : x0.data.toList.length = x0.size := by rw [Array.length_toList]; rfl
      simp only [List.map_cons, List.map_nil, e0, Rows.uptoBulk, Rows.uptoBulkAll]
      omega

/-- What is handed in is a list of cells. -/
theorem open_cells {fuel : Nat} {p : Option Addr} {len cap : Nat} {x : DataW H × List MemPlace} (h : DataW.trod enc Tryz.prog w base spare held fuel 22 [.slice p len cap] = some x) :
    ∃ C : Nat → Ce, (len = 0 ∨ ∃ g off, p = some ⟨g, off, none⟩ ∧ CL w g off len C) ∧ len ≤ Rows.uptoBulk x.1 ∧ ∀ i, i < len → (C i).t.size ≤ Rows.uptoBulk x.1 := by
  rcases open_slice Tryz.underlying22 h with ⟨h0, hx⟩ | ⟨ad, l, cp, m, n, D, Pl, h0, hb, hl, hm, hmm, rfl, hx⟩
  · injection h0 with h0
    injection h0 with h1 h2 h3
    subst h1 h2 h3
    exact ⟨fun _ => ⟨⟨#[]⟩, 0, 0, 0, 0⟩, .inl rfl, Nat.zero_le _, fun i hi => absurd hi (by omega)⟩
  · injection h0 with h0
    injection h0 with h1 h2 h3
    subst h1 h2 h3
    have hlm : len ≤ m := by rw [hmm]; split <;> omega
    have each : ∀ i, i < m → ∃ r : Ce, (∀ (k : Nat) u, (c5 r)[k]? = some u → w.cell? (ad.add (i * 5 + k)) = some u) ∧ r.t.size ≤ Rows.uptoBulk (D i) := by
      intro i hi
      obtain ⟨cs', h1, h2⟩ := hx i hi
      rw [dcellsC] at h1
      obtain ⟨_, hlen, hcell⟩ := World.cells?_some h1
      obtain ⟨r, hr, hin⟩ := cell_of hlen h2
      subst hr
      refine ⟨r, fun k u hu => ?_, hin⟩
      have hk := (List.getElem?_eq_some_iff.1 hu).1
      rw [c5_len] at hk
      have e0 := hcell k (by omega)
      rw [add_add] at e0
      rw [e0, ← hu]
    have inh : Inhabited Ce := ⟨⟨⟨#[]⟩, 0, 0, 0, 0⟩⟩
    obtain ⟨q, hq⟩ := choose_lt each
    have hbulk : Rows.uptoBulkAll ((List.range len).map D) ≤ Rows.uptoBulk (DataW.slice ((List.range len).map D) ((List.range (m - len)).map fun j => D (len + j))) := by simp only [Rows.uptoBulk]; omega
    refine ⟨q, ?_, ?_, fun i hi => ?_⟩
    · by_cases hz : len = 0
      · exact .inl hz
      · right
        obtain ⟨b, off, spot⟩ := ad
        have hspot : spot = none := by simpa [Addr.add] using World.cell?_spot ((hq 0 (by omega)).1 0 _ rfl)
        subst hspot
        have hc : ∀ i, i < len → ∀ (k : Nat) u, (c5 (q i))[k]? = some u → w.cell? ⟨b, off + i * 5 + k, none⟩ = some u := fun i hi k u hu => by
          have := (hq i (by omega)).1 k u hu
          rw [Go.WideShapes.add_plain, ← Nat.add_assoc] at this
          exact this
        exact ⟨b, off, rfl, World.block_lt_of_cell? w ⟨b, off + 0 * 5 + 0, none⟩ (hc 0 (by omega) 0 _ rfl), hc⟩
    · have := bulk_len ((List.range len).map D)
      simp only [List.length_map, List.length_range] at this
      exact Nat.le_trans this hbulk
    · refine Nat.le_trans (hq i (by omega)).2 (Nat.le_trans (bulk_mem ?_) hbulk)
      exact List.mem_map.2 ⟨i, List.mem_range.2 hi, rfl⟩
end

end Go.Proofs.YtkdajaphbmclkaaGreatDoor
