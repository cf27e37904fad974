/-
  FlowLines, for every input of bulk at most 1048576.
-/
import Derived.Test.YtbjfckhijjjnkabDoorCards
import Derived.Test.YtbjfckhijjjnkabDoorTie
import Derived.Test.YtbjfckhijjjnkabDoorTable
import Derived.Test.YtbjfckhijjjnkabDoorFRLines
import Derived.WalkKit
import Derived.ShutString
import Derived.Deep.DeepHandedRow
namespace Go.Proofs.YtbjfckhijjjnkabDoor.flowLines
open Go.ChangeShapes Go.WideShapes Go.ChangeAt Go.RowKit
open Go.ChangeMaps (open_string shut_string)
set_option linter.unusedVariables false

theorem own : ownKnob Tryd.prog.godebug = none := by kernel_rfl
theorem short {H : Type} {s0 : ByteArray} {x1 : Int} (hk : Rows.uptoSmall H [.lit (.string s0.data.toList), .lit (.int .i64 x1)] = true) : s0.size ≤ 1048576 := by
  have h : Rows.uptoBulkAll [DataW.lit (H := H) (.string s0.data.toList), DataW.lit (.int .i64 x1)] ≤ 1048576 := of_decide_eq_true hk
  simp only [Rows.uptoBulkAll, Rows.uptoBulk] at h
  have e_s0 : s0.data.toList.length = s0.size := by rw [Array.length_toList]; rfl
  omega
theorem bounds {x : Int} (h : (Lit.int .i64 x).wf = true) : -9223372036854775808 ≤ x ∧ x ≤ 9223372036854775807 := bounds_i64 h

set_option maxRecDepth 100000 in
set_option maxHeartbeats 4000000 in
theorem walk (s : ByteArray) (W : Int) (w : World) (ht : TabAt w) (hs : s.size ≤ 1048576) (hW0 : -9223372036854775808 ≤ W) (hW1 : W ≤ 9223372036854775807) :
    Calls Tryd.prog 4 #[.string s, .int .i64 W] w fun e w' => e = .returned (.bool true) ∧ Below w.heap.size w w' := by
  have hsl : s.data.toList.length = s.size := by rw [Array.length_toList]; rfl
  have hR := runes_length s.data.toList
  have hC := clus_length (runes s.data.toList)
  rw [hsl] at hR
  have A1 : Hid (Calls Tryd.prog 11 #[.string s, .int .i64 W] w fun e w' => ∃ v, e = .returned v ∧ Lns w' v (linesOf (clus (runes s.data.toList)) W) ∧ Below w.heap.size w w') := by
    refine (lines_any s W w ht (by omega) hW0 hW1).mono ?_
    rintro e w1 ⟨v, rfl, o, b⟩
    exact ⟨v, rfl, lns_own o, b⟩
  have A2 : Hid (∀ w, TabAt w → Calls Tryd.prog 11 #[.string ⟨#[115, 111, 109, 101, 32, 111, 116, 104, 101, 114, 32, 116, 101, 120, 116]⟩, .int .i64 4] w fun e w' => (∃ a n cap, e = .returned (.slice a n cap)) ∧ Below w.heap.size w w') := by
    intro w h
    refine (lines_any ⟨#[115, 111, 109, 101, 32, 111, 116, 104, 101, 114, 32, 116, 101, 120, 116]⟩ 4 w h (by decide) (by decide) (by decide)).mono ?_
    rintro e w1 ⟨v, rfl, o, b⟩
    obtain ⟨a, cap, rfl, _⟩ := lns_own o
    exact ⟨⟨_, _, _, rfl⟩, b⟩
  have A3 : Hid (∀ w, Calls Tryd.prog 12 #[.string s, .int .i64 W] w fun e w' => ∃ v, e = .returned v ∧ Lns w' v (linesOf (clus (runes s.data.toList)) W) ∧ Below w.heap.size w w') := by
    intro w
    refine (rlines_any s W w (by omega) hW0 hW1).mono ?_
    rintro e w1 ⟨v, rfl, o, b⟩
    exact ⟨v, rfl, lns_own o, b⟩
  have A4 : Hid (∀ w, TabAt w → Calls Tryd.prog 13 #[.string s, .int .i64 W] w fun e w' => e = .returned (.int .i64 (linesOf (clus (runes s.data.toList)) W).length) ∧ Below w.heap.size w w') := fun w h => count_any s W w h (by omega) hW0 hW1
  have hLb : (linesOf (clus (runes s.data.toList)) W).length ≤ (clus (runes s.data.toList)).length + 1 := by
    unfold linesOf
    split
    · simp
    · exact (linesA_length _ _ 0 (Nat.zero_le _)).2
  obtain ⟨L, hL⟩ : ∃ L, linesOf (clus (runes s.data.toList)) W = L := ⟨_, rfl⟩
  rw [hL] at A1 A3 A4 hLb
  have HT : Hid (TabAt w) := ht
  clear hL hsl ht
  go_enter Tryd.func4, Tryd.ntmps4
  go_wp2_with fail
  refine A1.out.mono ?_
  rintro e w1 ⟨v1, rfl, c1, b1⟩
  have HL1 : Hid (Lns w1 v1 L) := c1
  have HT1 : Hid (TabAt w1) := HT.out.below b1
  have hs1 := b1.size
  clear c1 A1
  go_wp2_with fail
  refine (A2.out _ HT1.out).mono ?_
  rintro e w2 ⟨⟨a', n', cap', rfl⟩, b2⟩
  have HL2 : Hid (Lns w2 v1 L) := HL1.out.below b2
  have HT2 : Hid (TabAt w2) := HT1.out.below b2
  have hs2 := b2.size
  clear A2
  go_wp2_with fail
  refine (A3.out _).mono ?_
  rintro e w3 ⟨v3, rfl, c3, b3⟩
  have HL3 : Hid (Lns w3 v1 L) := HL2.out.below b3
  have HM3 : Hid (Lns w3 v3 L) := c3
  have HT3 : Hid (TabAt w3) := HT2.out.below b3
  have hs3 := b3.size
  obtain ⟨a1, cap1, rfl, _⟩ := HL3.out
  obtain ⟨a3, cap3, rfl, _⟩ := HM3.out
  clear c3 A3
  go_wp2_with fail
  refine (A4.out _ HT3.out).mono ?_
  rintro e w4 ⟨rfl, b4⟩
  have hs4 := b4.size
  have HL4 : Hid (L = [] ∨ ∃ b, a1 = some ⟨b, 0, none⟩ ∧ b < w4.heap.size ∧ ∀ j (hj : j < L.length), w4.cell? ⟨b, j * 5, none⟩ = some (.string ⟨(L[j]).T.toArray⟩) ∧ w4.cell? ⟨b, j * 5 + 1, none⟩ = some (.int .i64 (L[j]).W) ∧ w4.cell? ⟨b, j * 5 + 2, none⟩ = some (.int .i64 (L[j]).F) ∧ w4.cell? ⟨b, j * 5 + 3, none⟩ = some (.int .i64 (L[j]).N) ∧ w4.cell? ⟨b, j * 5 + 4, none⟩ = some (.int .i64 (L[j]).E)) := by
    obtain ⟨_, _, e1, hh⟩ := HL3.out.below b4
    cases e1; exact hh
  have HM4 : Hid (L = [] ∨ ∃ b, a3 = some ⟨b, 0, none⟩ ∧ b < w4.heap.size ∧ ∀ j (hj : j < L.length), w4.cell? ⟨b, j * 5, none⟩ = some (.string ⟨(L[j]).T.toArray⟩) ∧ w4.cell? ⟨b, j * 5 + 1, none⟩ = some (.int .i64 (L[j]).W) ∧ w4.cell? ⟨b, j * 5 + 2, none⟩ = some (.int .i64 (L[j]).F) ∧ w4.cell? ⟨b, j * 5 + 3, none⟩ = some (.int .i64 (L[j]).N) ∧ w4.cell? ⟨b, j * 5 + 4, none⟩ = some (.int .i64 (L[j]).E)) := by
    obtain ⟨_, _, e1, hh⟩ := HM3.out.below b4
    cases e1; exact hh
  have hB : Below w.heap.size w w4 := b1.trans ((b2.mono hs1).trans ((b3.mono (by omega)).trans (b4.mono (by omega))))
  clear b1 b2 b3 b4 A4 HL1 HL2 HL3 HM3 HT HT1 HT2 HT3
  go_wp2
  go_loopw [7] (fun i wr => ∃ k : Nat, k ≤ L.length ∧ i = .int .i64 k ∧ Below w4.heap.size w4 wr) (fun i _ => L.length - (intOf i).toNat)
  case atStart => exact ⟨0, Nat.zero_le _, rfl, Below.refl _ _⟩
  case round =>
    obtain ⟨k, hk, rfl, hbw⟩ := hrel
    have hsz := hbw.size
    by_cases hk2 : k < L.length
    · have hk3 : (k : Int) < (L.length : Int) := by omega
      have hne : L ≠ [] := fun e => by rw [e] at hk2; simp at hk2
      obtain ⟨b, rfl, hb, hc⟩ := HL4.out.resolve_left hne
      obtain ⟨d, rfl, hd, hdc⟩ := HM4.out.resolve_left hne
      have hcc := hc k hk2
      have hdd := hdc k hk2
      obtain ⟨⟨T, V, F, N, E⟩, hx⟩ : ∃ x, L[k] = x := ⟨_, rfl⟩
      rw [hx] at hcc hdd
      simp only at hcc hdd
      have c0 := (hbw.cell (p := ⟨b, k * 5, none⟩) hb).trans hcc.1
      have c1 := (hbw.cell (p := ⟨b, k * 5 + 1, none⟩) hb).trans hcc.2.1
      have c2 := (hbw.cell (p := ⟨b, k * 5 + 2, none⟩) hb).trans hcc.2.2.1
      have c3 := (hbw.cell (p := ⟨b, k * 5 + 3, none⟩) hb).trans hcc.2.2.2.1
      have c4 := (hbw.cell (p := ⟨b, k * 5 + 4, none⟩) hb).trans hcc.2.2.2.2
      have d0 := (hbw.cell (p := ⟨d, k * 5, none⟩) hd).trans hdd.1
      have d1 := (hbw.cell (p := ⟨d, k * 5 + 1, none⟩) hd).trans hdd.2.1
      have d2 := (hbw.cell (p := ⟨d, k * 5 + 2, none⟩) hd).trans hdd.2.2.1
      have d3 := (hbw.cell (p := ⟨d, k * 5 + 3, none⟩) hd).trans hdd.2.2.2.1
      have d4 := (hbw.cell (p := ⟨d, k * 5 + 4, none⟩) hd).trans hdd.2.2.2.2
      have hbl : b < wr.heap.size := by omega
      have hdl : d < wr.heap.size := by omega
      clear hc hdc hcc hdd hx hne
      go_wp2
      obtain ⟨wx, hwx⟩ : ∃ wx, wr.alloc (.cells #[.string ⟨T.toArray⟩, .int .i64 V, .int .i64 F, .int .i64 N, .int .i64 E] 32) = wx := ⟨_, rfl⟩
      have x0 : wx.cell? ⟨wr.heap.size, 0, none⟩ = some (.string ⟨T.toArray⟩) := by rw [← hwx]; simp
      have x1 : wx.cell? ⟨wr.heap.size, 1, none⟩ = some (.int .i64 V) := by rw [← hwx]; simp
      have x2 : wx.cell? ⟨wr.heap.size, 2, none⟩ = some (.int .i64 F) := by rw [← hwx]; simp
      have x3 : wx.cell? ⟨wr.heap.size, 3, none⟩ = some (.int .i64 N) := by rw [← hwx]; simp
      have x4 : wx.cell? ⟨wr.heap.size, 4, none⟩ = some (.int .i64 E) := by rw [← hwx]; simp
      have hbx : Below wr.heap.size wr wx := by rw [← hwx]; exact (Below.refl _ _).alloc (Nat.le_refl _) _
      have y0 := (hbx.cell (p := ⟨b, k * 5, none⟩) hbl).trans c0
      have y1 := (hbx.cell (p := ⟨b, k * 5 + 1, none⟩) hbl).trans c1
      have y2 := (hbx.cell (p := ⟨b, k * 5 + 2, none⟩) hbl).trans c2
      have y3 := (hbx.cell (p := ⟨b, k * 5 + 3, none⟩) hbl).trans c3
      have y4 := (hbx.cell (p := ⟨b, k * 5 + 4, none⟩) hbl).trans c4
      have hB2 : Below w4.heap.size w4 wx := hbw.trans (hbx.mono hsz)
      rw [hwx]
      clear hwx c0 c1 c2 c3 c4 d0 d1 d2 d3 d4
      go_quiet (fail)
      go_wp2
      go_roundw
      case rel => exact ⟨k + 1, by omega, by go_num, ⟨hB2.os, hB2.tape, hB2.output, hB2.size, hB2.block⟩⟩
      case measure => simp [intOf]; omega
    · have hk3 : ¬ (k : Int) < (L.length : Int) := by omega
      go_wp2
      go_ret
      exact ⟨rfl, hB.trans (hbw.mono hB.size)⟩

theorem contract (H : Type) (enc : TypeId × Value → H) (W : World) (base : Nat) (args : Array Value) (ds gs : List (DataW H)) (before : List MemPlace)
    (hval : ∀ (j : Nat) t v, Tryd.f4.params[j]? = some t → args[j]? = some v → Value.okWide Tryd.prog W .any base t v)
    (hW : DataW.Whole enc Tryd.prog Tryd.f4.params.toList Rows.flowLinesSpec.vars false W args.toList ds gs before) (hk : Rows.uptoSmall H (ds ++ gs) = true) (hL : laidMetH Tryd.prog Rows.flowLinesUptoRow.laid W) :
    Calls Tryd.prog 4 args W fun e W' => ∃ v, e = .returned v ∧ Rows.flowLinesSpec.post enc Tryd.prog Tryd.f4 false true false false W args v W' := by
  have hW' := hW
  obtain ⟨p, q, hA0, hV, rfl, hfz, hnd⟩ := hW
  have hA : DataW.TrodAll enc Tryd.prog W 0 (fun _ => true) true Tryd.f4.params.toList args.toList ds p := hA0
  rw [Tryd.params4] at hA hval
  obtain ⟨v0, vs0, d0, ds0, p0, q0, hargs, rfl, rfl, h0, r0⟩ := trodAll_cons hA
  obtain ⟨v1, vs1, d1, ds1, p1, q1, rfl, rfl, rfl, h1, r1⟩ := trodAll_cons r0
  obtain ⟨rfl, rfl, rfl⟩ := trodAll_nil r1
  obtain rfl : args = #[v0, v1] := by cases args; simp_all
  obtain ⟨rfl, rfl⟩ := trodVars_none hV
  obtain ⟨s0, rfl, rfl, rfl, m0⟩ := open_string Tryd.underlying9 (hval 0 9 v0 rfl rfl) h0
  obtain ⟨x1, rfl, rfl, rfl, m1⟩ := open_int Tryd.underlying3 (hval 1 3 v1 rfl rfl) h1
  clear hA0
  simp only [List.append_nil] at hW' hk
  refine (walk s0 x1 W (tab_of (by kernel_rfl) hL) (short hk) (bounds m1).1 (bounds m1).2).mono fun e W' ⟨he, bel⟩ => ?_
  subst he
  exact ⟨_, rfl, _, _, _, [], [], [], hW', trodAll_mk1 (shut_bool Tryd.underlying4 _), (trodAll_cons_mk (shut_string Tryd.underlying9 m0) (trodAll_cons_mk (shut_int Tryd.underlying3 m1) trodAll_mk0)), rfl, bel.frame _, fun h => by cases h⟩

theorem laid_met (os : Os) : laidMet Tryd.prog Rows.flowLinesUptoRow.laid ((withTab (World.holding Tryd.prog os ⟨#[], #[], []⟩)).forCall (fun _ _ => 0) ⟨#[], #[.string .empty, .int .i64 0], []⟩).memory :=
  laidMet_of_run' 8 (by kernel_rfl) (by kernel_rfl)
theorem reads (os : Os) {H : Type} (enc : TypeId × Value → H) : ∃ places, DataW.whole enc Tryd.prog ((withTab (World.holding Tryd.prog os ⟨#[], #[], []⟩)).forCall (fun _ _ => 0) ⟨#[], #[.string .empty, .int .i64 0], []⟩).memory Tryd.f4.params.toList Rows.flowLinesSpec.vars false #[Value.string .empty, Value.int .i64 0].toList 8 = some ([.lit (.string []), .lit (.int .i64 0)], [], places) :=
  ⟨[], by kernel_rfl⟩

set_option maxRecDepth 100000 in
theorem lifted (os : Os) (started : os.Started) (H : Type) (enc : TypeId × Value → H) (F : Stop.Interp) :
    ReturnsInHanded {} Tryd.checked os 4 .any ((Rows.OpenSpec.upto Rows.flowLinesSpec).preRow enc Tryd.prog Tryd.f4 Rows.flowLinesUptoRow.domain false Rows.flowLinesUptoRow.laid) (((Rows.OpenSpec.upto Rows.flowLinesSpec).at F).post enc Tryd.prog Tryd.f4 false true false false) := by
  obtain ⟨places, hx⟩ := reads os enc
  refine returnsInHanded_of_row (C := Tryd.checked) (s := Rows.OpenSpec.upto Rows.flowLinesSpec) own started (by kernel_rfl) Tryd.func4
    (witness_row_at (enc := enc) (C := Tryd.checked) false (withTab (World.holding Tryd.prog os ⟨#[], #[], []⟩)) #[.string .empty, .int .i64 0] rfl (by kernel_rfl) (by kernel_rfl) (by kernel_rfl)
      (OpenSpec.preRow_of_cond 8 hx (by kernel_rfl) (fun k hk => by cases hk; kernel_rfl) (by kernel_rfl) (laid_met os))) ?_
  intro W base args ds gs before hval hW _ hcond _ hL _ _
  exact contract H enc W base args ds gs before hval hW (hcond _ rfl) hL

theorem said : Rows.FlowLinesUptoSaid :=
  OpenClaim.holds_of_cond 4 Tryd.f4 rfl rfl rfl rfl rfl rfl rfl ⟨rfl, rfl, rfl, rfl, rfl⟩ rfl rfl rfl rfl rfl (by kernel_rfl) Tryd.func4 (by kernel_rfl)
    (of_decide_eq_true (by kernel_rfl)) (by unfold Func.isWrapper; first | (rw [if_pos (by decide +kernel)]; kernel_rfl) | (rw [if_neg (by decide +kernel)]; exact ⟨rfl, rfl⟩))
    (fun os started H enc _ F => by rw [OpenClaim.pre_eq_preRow]; exact lifted os started H enc F)

theorem plain (f : FuncId) (fn : Func) (hf : Tryd.pinned.checked.prog.funcNamed Rows.flowLinesUptoRow.func = some f) (hfn : Tryd.pinned.checked.prog.funcs[f]? = some fn) :
    false = Tryd.pinned.checked.prog.looks [] ∧ ∀ (j : Nat) t, fn.params[j]? = some t → Tryd.pinned.checked.prog.wantsStandIn t = false := by
  obtain rfl : f = 4 := Option.some.inj ((show Tryd.prog.funcNamed Rows.flowLinesUptoRow.func = some 4 by kernel_rfl).symm.trans hf) |>.symm
  obtain rfl : fn = Tryd.f4 := (Option.some.inj (Tryd.func4.symm.trans hfn)).symm
  refine ⟨by kernel_rfl, fun j t ht => ?_⟩
  rw [Tryd.params4] at ht
  have hm : t = 9 ∨ t = 3 := by have := Array.mem_of_getElem? ht; simp at this; omega
  rcases hm with rfl | rfl
  · exact (show Tryd.prog.wantsStandIn 9 = false by kernel_rfl)
  · exact (show Tryd.prog.wantsStandIn 3 = false by kernel_rfl)

theorem proved : Rows.FlowLinesUptoCardSaid :=
  Claim7.holds_tied_plain_at .later [] _ _ _ _ said (fun _ h => by cases h) (by kernel_rfl) (fun _ h => by cases h) flowLinesUpto_row_tie rfl ⟨rfl, rfl⟩ (by kernel_rfl) rfl plain (by kernel_rfl)
#print axioms proved
end Go.Proofs.YtbjfckhijjjnkabDoor.flowLines

