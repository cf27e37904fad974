/-
  A script that is handed in: opened at every index.
-/
import Derived.Test.YtkcddikpjblpaagCScr
import Derived.Deep.Slices
import Derived.ChangeSame
import Derived.ProofKit
import Derived.OpenShut
import Derived.ShutString
import Derived.ChangeOld
import Derived.Below
import Derived.SizedLaws
namespace Go.Proofs.Ytkcddikpjblpaag
open Go.ChangeShapes Go.WideShapes Go.ChangeAt Go.RowKit Go.Deep
set_option linter.unusedVariables false

theorem laidOut : laidOutB Try.prog = true := by kernel_rfl
theorem own : ownKnob Try.prog.godebug = none := by kernel_rfl
theorem bytesO : Try.prog.bytesOf 42 = 80 := by kernel_rfl
theorem cellsO : Try.prog.cellsOf 42 = 6 := by kernel_rfl
theorem cells3 : Try.prog.cellsOf 3 = 1 := by kernel_rfl
theorem cells9 : Try.prog.cellsOf 9 = 1 := by kernel_rfl
theorem cellsI : Try.prog.cellsOf 24 = 1 := by kernel_rfl

section
variable {H : Type} {enc : TypeId × Value → H} {w : World} {base : Nat} {spare : Nat → Bool} {held : Bool}

theorem int_of {v : Value} {n : Nat} {y : DataW H × List MemPlace} (h : DataW.trod enc Try.prog w base spare held n 3 [v] = some y) : ∃ x : Int, v = .int .i64 x := by
  obtain ⟨x, e, _⟩ := DataW.trod_int Try.underlying3 h
  injection e with e
  exact ⟨x, e⟩
theorem str_of {v : Value} {n : Nat} {y : DataW H × List MemPlace} (h : DataW.trod enc Try.prog w base spare held n 9 [v] = some y) : ∃ s : ByteArray, v = .string s := by
  obtain ⟨x, e, _⟩ := DataW.trod_string Try.underlying9 h
  injection e with e
  exact ⟨x, e⟩
theorem ints_of {v : Value} {n : Nat} {y : DataW H × List MemPlace} (h : DataW.trod enc Try.prog w base spare held n 24 [v] = some y) : ∃ (p : Option Addr) (m : Nat) (zs : List Int), v = .slice p zs.length m ∧ Ints w v zs := by
  rcases open_ints Try.underlying24 Try.underlying3 cells3 h with ⟨hcs, _⟩ | ⟨x, l, c, zs, hcs, _, hl, hm, hz, hd, hcell, hwz⟩
  · injection hcs with hcs
    subst hcs
    exact ⟨none, 0, [], rfl, none, 0, rfl, .inl rfl⟩
  · injection hcs with hcs
    subst hcs
    have hlz : l ≤ zs.length := by rw [hz]; split <;> omega
    have hL : (zs.take l).length = l := by rw [List.length_take]; omega
    refine ⟨some x, c, zs.take l, by rw [hL], some x, c, by rw [hL], ?_⟩
    have hc : ∀ i, i < (zs.take l).length → w.cell? (x.add i) = some (.int .i64 ((zs.take l)[i]?.getD 0)) := by
      intro i hi
      rw [List.length_take] at hi
      rw [hcell i (by omega), List.getElem?_take, if_pos (by omega), List.getD_eq_getElem?_getD]
    by_cases h0 : zs.take l = []
    · exact .inl h0
    · have hp : 0 < (zs.take l).length := List.length_pos_iff.2 h0
      obtain ⟨b, off, rfl, hc'⟩ := ints_at (zs := zs.take l) (fun i hi => by rw [List.getD_eq_getElem?_getD]; exact hc i hi) hp
      refine .inr ⟨b, off, rfl, World.block_lt_of_cell? w ⟨b, off + 0, none⟩ (hc' 0 hp), fun j hj => ?_⟩
      rw [← List.getD_eq_getElem?_getD]; exact hc' j hj
set_option maxRecDepth 100000 in
/-- What is handed in is a step. -/
theorem op_of {cs : List Value} {n : Nat} {y : DataW H × List MemPlace} (hlen : cs.length = 6) (h : DataW.trod enc Try.prog w base spare held n 42 cs = some y) :
    ∃ r : OpR, cs = [.int .i64 r.kd, .int .i64 r.a, .int .i64 r.b, .string r.s, .string r.t, .slice r.p r.zs.length r.m] ∧ Ints w (.slice r.p r.zs.length r.m) r.zs := by
  obtain ⟨xs, k, hk, hxy, _, hxl, hf⟩ := DataW.trod_struct Try.underlying42 h
  match xs, hxl, cs, hlen with
  | [y0, y1, y2, y3, y4, y5], _, [v0, v1, v2, v3, v4, v5], _ =>
    have g0 := hf 0 _ rfl
    have g1 := hf 1 _ rfl
    have g2 := hf 2 _ rfl
    have g3 := hf 3 _ rfl
    have g4 := hf 4 _ rfl
    have g5 := hf 5 _ rfl
    simp [cells3, cells9, cellsI] at g0 g1 g2 g3 g4 g5
    obtain ⟨x0, rfl⟩ := int_of g0
    obtain ⟨x1, rfl⟩ := int_of g1
    obtain ⟨x2, rfl⟩ := int_of g2
    obtain ⟨x3, rfl⟩ := str_of g3
    obtain ⟨x4, rfl⟩ := str_of g4
    obtain ⟨p, m, zs, rfl, hi⟩ := ints_of g5
    exact ⟨⟨x0, x1, x2, x3, x4, p, m, zs⟩, rfl, hi⟩

/-- What is handed in is a script. -/
theorem open_ops {fuel : Nat} {p : Option Addr} {len cap : Nat} {x : DataW H × List MemPlace} (h : DataW.trod enc Try.prog w base spare held fuel 33 [.slice p len cap] = some x) :
    ∃ op : Nat → OpR, OpsIn w (.slice p len cap) len op ∧ (x.1 = .nil ∧ len = 0 ∨ ∃ e s, x.1 = .slice e s ∧ e.length = len) := by
  rcases open_slice Try.underlying33 h with ⟨h0, hx⟩ | ⟨ad, l, cp, m, n, D, Pl, h0, hb, hl, hm, hmm, rfl, hx⟩
  · injection h0 with h0
    injection h0 with h1 h2 h3
    subst h1 h2 h3
    exact ⟨fun _ => ⟨0, 0, 0, ept, ept, none, 0, []⟩, ⟨none, 0, rfl, .inl rfl⟩, .inl ⟨by rw [hx], rfl⟩⟩
  · injection h0 with h0
    injection h0 with h1 h2 h3
    subst h1 h2 h3
    have hlm : len ≤ m := by rw [hmm]; split <;> omega
    have each : ∀ i, i < m → ∃ r : OpR, w.cell? (ad.add (i * 6)) = some (.int .i64 r.kd) ∧ w.cell? (ad.add (i * 6 + 1)) = some (.int .i64 r.a) ∧ w.cell? (ad.add (i * 6 + 2)) = some (.int .i64 r.b) ∧ w.cell? (ad.add (i * 6 + 3)) = some (.string r.s) ∧ w.cell? (ad.add (i * 6 + 4)) = some (.string r.t) ∧ w.cell? (ad.add (i * 6 + 5)) = some (.slice r.p r.zs.length r.m) ∧ Ints w (.slice r.p r.zs.length r.m) r.zs := by
      intro i hi
      obtain ⟨cs', h1, h2⟩ := hx i hi
      rw [cellsO] at h1
      obtain ⟨_, hlen, hcell⟩ := World.cells?_some h1
      obtain ⟨r, hr, hin⟩ := op_of hlen h2
      subst hr
      have e0 := hcell 0 (by omega)
      have e1 := hcell 1 (by omega)
      have e2 := hcell 2 (by omega)
      have e3 := hcell 3 (by omega)
      have e4 := hcell 4 (by omega)
      have e5 := hcell 5 (by omega)
      rw [add_add] at e0 e1 e2 e3 e4 e5
      exact ⟨r, by simpa using e0, by simpa using e1, by simpa using e2, by simpa using e3, by simpa using e4, by simpa using e5, hin⟩
    have inh : Inhabited OpR := ⟨⟨0, 0, 0, ept, ept, none, 0, []⟩⟩
    obtain ⟨q, hq⟩ := choose_lt each
    refine ⟨q, ⟨some ad, cap, rfl, ?_⟩, .inr ⟨_, _, rfl, by simp⟩⟩
    by_cases hz : len = 0
    · exact .inl hz
    · right
      obtain ⟨b, off, spot⟩ := ad
      have hspot : spot = none := by simpa [Addr.add] using World.cell?_spot (hq 0 (by omega)).1
      subst hspot
      refine ⟨b, off, rfl, World.block_lt_of_cell? w ⟨b, off + 0 * 6, none⟩ (by rw [← Go.WideShapes.add_plain]; exact (hq 0 (by omega)).1), fun j hj => ?_⟩
      have := hq j (by omega)
      rw [Go.WideShapes.add_plain, Go.WideShapes.add_plain, Go.WideShapes.add_plain, Go.WideShapes.add_plain, Go.WideShapes.add_plain, Go.WideShapes.add_plain] at this
      simpa only [Nat.add_assoc] using this
set_option maxRecDepth 100000 in
/-- A step by value. -/
theorem op_arg {r : Reach} {b0 : Nat} {v : Value} {d : DataW H} {p : List MemPlace} (hv : Value.okWide Try.prog w r b0 42 v) (h : DataW.Trod enc Try.prog w base spare held 42 v d p) :
    ∃ r : OpR, v = opv r.kd r.a r.b r.s r.t (.slice r.p r.zs.length r.m) ∧ Ints w (.slice r.p r.zs.length r.m) r.zs := by
  obtain ⟨cs, rfl, hsz⟩ := okWide_struct Try.underlying42 hv
  obtain ⟨fuel, hf⟩ := h
  have hf' : DataW.trod enc Try.prog w base spare held fuel 42 cs.toList = some (d, p) := by simpa [Value.cells] using hf
  obtain ⟨r, hr, hi⟩ := op_of (by rw [Array.length_toList, hsz, cellsO]) hf'
  refine ⟨r, ?_, hi⟩
  have : cs = #[.int .i64 r.kd, .int .i64 r.a, .int .i64 r.b, .string r.s, .string r.t, .slice r.p r.zs.length r.m] := by
    apply Array.ext'; rw [hr]
  rw [this]; rfl
end
end Go.Proofs.Ytkcddikpjblpaag
