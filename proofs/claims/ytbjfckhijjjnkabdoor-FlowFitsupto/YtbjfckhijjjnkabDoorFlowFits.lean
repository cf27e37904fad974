/-
  FlowFits, for every input of bulk at most 1048576.
-/
import Derived.Test.YtbjfckhijjjnkabDoorCards
import Derived.Test.YtbjfckhijjjnkabDoorTie
import Derived.Test.YtbjfckhijjjnkabDoorTable
import Derived.Test.YtbjfckhijjjnkabDoorFRound
import Derived.Test.YtbjfckhijjjnkabDoorCols
import Derived.WalkKit
import Derived.ShutString
import Derived.Deep.DeepHandedRow
namespace Go.Proofs.YtbjfckhijjjnkabDoor.flowFits
open Go.ChangeShapes Go.WideShapes Go.ChangeAt Go.RowKit
open Go.ChangeMaps (open_string shut_string)
set_option linter.unusedVariables false

theorem own : ownKnob Tryd.prog.godebug = none := by kernel_rfl
theorem short {H : Type} {s0 : ByteArray} {x1 : Int} (hk : Rows.uptoSmall H [.lit (.string s0.data.toList), .lit (.int .i64 x1)] = true) : s0.size ≤ 1048576 := by
  have h : Rows.uptoBulkAll [DataW.lit (H := H) (.string s0.data.toList), DataW.lit (.int .i64 x1)] ≤ 1048576 := of_decide_eq_true hk
  simp only [Rows.uptoBulkAll, Rows.uptoBulk] at h
  have e_s0 : s0.data.toList.length = s0.size := by rw [Array.length_toList]; rfl
  omega
theorem bounds {x : Int} (h : (Lit.int .i64 x).wf = true) : -9223372036854775808 ≤ x ∧ x ≤ 9223372036854775807 := bounds_i64 h

set_option maxRecDepth 100000 in
set_option maxHeartbeats 4000000 in
theorem walk (s : ByteArray) (W : Int) (w : World) (ht : TabAt w) (hs : s.size ≤ 1048576) (hW0 : -9223372036854775808 ≤ W) (hW1 : W ≤ 9223372036854775807) :
    Calls Tryd.prog 7 #[.string s, .int .i64 W] w fun e w' => e = .returned (.bool true) ∧ Below w.heap.size w w' := by
  have hsl : s.data.toList.length = s.size := by rw [Array.length_toList]; rfl
  have hR := runes_length s.data.toList
  have hC := clus_length (runes s.data.toList)
  rw [hsl] at hR
  have A1 : Hid (Calls Tryd.prog 11 #[.string s, .int .i64 W] w fun e w' => ∃ v, e = .returned v ∧ Lns w' v (linesOf (clus (runes s.data.toList)) W) ∧ Below w.heap.size w w') := by
    refine (lines_any s W w ht (by omega) hW0 hW1).mono ?_
    rintro e w1 ⟨v, rfl, o, b⟩
    exact ⟨v, rfl, lns_own o, b⟩
  have A2 : Hid (∀ w, TabAt w → Calls Tryd.prog 9 #[.string s] w fun e w' => ∃ v, e = .returned v ∧ Cls w' v (clus (runes s.data.toList)) ∧ Below w.heap.size w w') := by
    intro w h
    refine (gClusters_any s w h (by omega)).mono ?_
    rintro e w1 ⟨v, rfl, o, b⟩
    exact ⟨v, rfl, cls_own o, b⟩
  have hbd := clus_wide (runes s.data.toList)
  have hnr := clus_nrm (runes s.data.toList) (runes_good _)
  have hsh := clus_short (runes s.data.toList)
  obtain ⟨l, hl⟩ : ∃ l, clus (runes s.data.toList) = l := ⟨_, rfl⟩
  rw [hl] at hC A1 A2 hbd hnr hsh
  have HT : Hid (TabAt w) := ht
  clear hl hsl ht
  by_cases hlt : W < 1
  · have e0 : linesOf l W = [] := by rw [linesOf, if_pos hlt]
    rw [e0] at A1
    clear e0 hbd hnr hsh
    go_enter Tryd.func7, Tryd.ntmps7
    go_wp2_with fail
    refine A1.out.mono ?_
    rintro e w1 ⟨v, rfl, ⟨a, cap, rfl, _⟩, b1⟩
    go_wp2
    go_ret
    exact ⟨rfl, b1⟩
  have hW1' : 1 ≤ W := by omega
  have e0 : linesOf l W = linesA l W 0 := by rw [linesOf, if_neg hlt]
  rw [e0] at A1
  have hLl := linesA_length l W 0 (Nat.zero_le _)
  have HRF : Hid (∀ (L : List Ln) (k a : Nat) (hk : k < L.length) (ha : a ≤ l.length) (hd : L.drop k = linesA l W a), ∃ (x : Ln) (n d : Nat), L[k] = x ∧ LineKind (l.drop a) W n d x.E ∧ x.F = a ∧ x.N = n ∧ a + n + d ≤ l.length ∧ wideSum (clus (runes x.T)) = x.W ∧ x.W ≤ W ∧ 0 ≤ x.W ∧ x.W ≤ 2 * l.length + 1 ∧ x.T.length ≤ 20 * l.length + 1 ∧
      (x.E = 3 → k + 1 = L.length ∧ a + n + d = l.length) ∧ (x.E ≠ 3 → k + 1 < L.length ∧ L.drop (k + 1) = linesA l W (a + n + d))) := by
    intro L k a hk ha hd
    obtain ⟨x, n, d, h1, h2, h3, h4, h5, h6, h7, h8, h9, h10, h11, h12, _⟩ := round_facts l W hbd hnr hsh hW1' L k a hk ha hd
    exact ⟨x, n, d, h1, h2, h3, h4, h5, h6, h7, h8, h9, h10, h11, h12⟩
  obtain ⟨L, hL⟩ : ∃ L, linesA l W 0 = L := ⟨_, rfl⟩
  have HLE : Hid (linesA l W 0 = L) := hL
  rw [hL] at A1 hLl
  clear e0 hbd hnr hsh hL
  go_enter Tryd.func7, Tryd.ntmps7
  go_wp2_with fail
  refine A1.out.mono ?_
  rintro e w1 ⟨v1, rfl, c1, b1⟩
  have HL1 : Hid (Lns w1 v1 L) := c1
  obtain ⟨aL, capL, rfl, hh⟩ := c1
  have HT1 : Hid (TabAt w1) := HT.out.below b1
  have hs1 := b1.size
  clear A1
  have hne : L ≠ [] := fun e => by rw [e] at hLl; simp at hLl
  obtain ⟨b, rfl, hb, hc⟩ := hh.resolve_left hne
  have HC : Hid (∀ j (hj : j < L.length), w1.cell? ⟨b, j * 5, none⟩ = some (.string ⟨(L[j]).T.toArray⟩) ∧ w1.cell? ⟨b, j * 5 + 1, none⟩ = some (.int .i64 (L[j]).W) ∧ w1.cell? ⟨b, j * 5 + 2, none⟩ = some (.int .i64 (L[j]).F) ∧ w1.cell? ⟨b, j * 5 + 3, none⟩ = some (.int .i64 (L[j]).N) ∧ w1.cell? ⟨b, j * 5 + 4, none⟩ = some (.int .i64 (L[j]).E)) := hc
  have HLP : Hid (0 < L.length) := by show 0 < L.length; omega
  clear hh hc hne
  go_wp2
  go_loopw [6, 7] (fun p i wr => ∃ k a : Nat, k ≤ L.length ∧ a ≤ l.length ∧ i = .int .i64 k ∧ p = .int .i64 a ∧ Hid (k < L.length → L.drop k = linesA l W a) ∧ Hid (k = L.length → a = l.length) ∧ Below w1.heap.size w1 wr) (fun _ i _ => L.length - (intOf i).toNat)
  case atStart => exact ⟨0, 0, Nat.zero_le _, Nat.zero_le _, rfl, rfl, fun _ => HLE.out.symm, fun h => by have := HLP.out; omega, Below.refl _ _⟩
  case round =>
    obtain ⟨k, a, hk, ha, rfl, rfl, hD, hE, hbw⟩ := hrel
    have hsz := hbw.size
    by_cases hk2 : k < L.length
    · have hk3 : (k : Int) < (L.length : Int) := by omega
      obtain ⟨x, n, d, hx, hkd, hF, hN, hle, hcol, hWle, hW0', hWb, hTl, h3, hn3⟩ := HRF.out L k a hk2 ha (hD.out hk2)
      have hcc := HC.out k hk2
      rw [hx] at hcc
      obtain ⟨T, V, F, N, E⟩ := x
      simp only at hkd hF hN hcol hWle hW0' hWb hTl h3 hn3 hcc
      subst hF hN
      have c0 := (hbw.cell (p := ⟨b, k * 5, none⟩) hb).trans hcc.1
      have c1 := (hbw.cell (p := ⟨b, k * 5 + 1, none⟩) hb).trans hcc.2.1
      have c2 := (hbw.cell (p := ⟨b, k * 5 + 2, none⟩) hb).trans hcc.2.2.1
      have c3 := (hbw.cell (p := ⟨b, k * 5 + 3, none⟩) hb).trans hcc.2.2.2.1
      have c4 := (hbw.cell (p := ⟨b, k * 5 + 4, none⟩) hb).trans hcc.2.2.2.2
      have hTs : (⟨T.toArray⟩ : ByteArray).size = T.length := by simp [ByteArray.size]
      have K : Hid (∀ w, TabAt w → Calls Tryd.prog 18 #[.string ⟨T.toArray⟩] w fun e w' => e = .returned (.int .i64 V) ∧ Below w.heap.size w w') := by
        intro w h
        have := columns_any ⟨T.toArray⟩ w h (by rw [hTs]; omega)
        rw [show (⟨T.toArray⟩ : ByteArray).data.toList = T from rfl, hcol] at this
        exact this
      have HH3 : Hid (E = 3 → k + 1 = L.length ∧ F + N + d = l.length) := h3
      have HN3 : Hid (E ≠ 3 → k + 1 < L.length ∧ L.drop (k + 1) = linesA l W (F + N + d)) := hn3
      have hEd : (E = 3 ∧ d = 0) ∨ (E = 2 ∧ d = 1) ∨ (E = 1 ∧ d = 0) ∨ (E = 0 ∧ d = 1) := by
        cases hkd with
        | all => exact .inl ⟨rfl, rfl⟩
        | newline => exact .inr (.inl ⟨rfl, rfl⟩)
        | wide => exact .inr (.inr (.inl ⟨rfl, rfl⟩))
        | blank => exact .inr (.inr (.inr ⟨rfl, rfl⟩))
        | word => exact .inr (.inr (.inl ⟨rfl, rfl⟩))
      clear hx hkd hcol hTs hcc h3 hn3 hTl
      go_wp2_with fail
      refine (K.out _ (HT1.out.below (hbw.alloc hsz _))).mono ?_
      rintro e w2 ⟨rfl, b2⟩
      have hlt2 : wr.heap.size < w2.heap.size := by have := b2.size; rw [World.size_alloc] at this; omega
      have q1 : w2.cell? ⟨wr.heap.size, 1, none⟩ = some (.int .i64 V) := (b2.cell (p := ⟨wr.heap.size, 1, none⟩) (by simp)).trans (by simp)
      have q2 : w2.cell? ⟨wr.heap.size, 2, none⟩ = some (.int .i64 F) := (b2.cell (p := ⟨wr.heap.size, 2, none⟩) (by simp)).trans (by simp)
      have q3 : w2.cell? ⟨wr.heap.size, 3, none⟩ = some (.int .i64 N) := (b2.cell (p := ⟨wr.heap.size, 3, none⟩) (by simp)).trans (by simp)
      have q4 : w2.cell? ⟨wr.heap.size, 4, none⟩ = some (.int .i64 E) := (b2.cell (p := ⟨wr.heap.size, 4, none⟩) (by simp)).trans (by simp)
      have hB2 : Below w1.heap.size w1 w2 := (hbw.alloc hsz _).trans (b2.mono (by rw [World.size_alloc]; omega))
      clear b2 K c0 c1 c2 c3 c4
      rcases hEd with ⟨rfl, rfl⟩ | ⟨rfl, rfl⟩ | ⟨rfl, rfl⟩ | ⟨rfl, rfl⟩
      · obtain ⟨g1, g2⟩ := HH3.out rfl
        have hb1 : ((k : Int) == (L.length : Int) - 1) = true := by simp; omega
        have HD' : Hid (k + 1 < L.length → L.drop (k + 1) = linesA l W (F + N)) := fun h => by omega
        have HE' : Hid (k + 1 = L.length → F + N = l.length) := fun _ => by omega
        clear g1 g2 HH3 HN3
        go_wp2
        go_roundw
        case rel => exact ⟨k + 1, F + N, by omega, by omega, by go_num, by go_num, HD', HE', hB2⟩
        case measure => simp [intOf]; omega
      all_goals
        obtain ⟨g1, g2⟩ := HN3.out (by decide)
        have hb1 : ((k : Int) == (L.length : Int) - 1) = false := by simp; omega
      · have HD' : Hid (k + 1 < L.length → L.drop (k + 1) = linesA l W (F + N + 1)) := fun _ => g2
        have HE' : Hid (k + 1 = L.length → F + N + 1 = l.length) := fun h => by omega
        clear g1 g2 HH3 HN3
        go_wp2
        go_roundw
        case rel => exact ⟨k + 1, F + N + 1, by omega, by omega, by go_num, by go_num, HD', HE', hB2⟩
        case measure => simp [intOf]; omega
      · have HD' : Hid (k + 1 < L.length → L.drop (k + 1) = linesA l W (F + N)) := fun _ => g2
        have HE' : Hid (k + 1 = L.length → F + N = l.length) := fun h => by omega
        clear g1 g2 HH3 HN3
        go_wp2
        go_roundw
        case rel => exact ⟨k + 1, F + N, by omega, by omega, by go_num, by go_num, HD', HE', hB2⟩
        case measure => simp [intOf]; omega
      · have HD' : Hid (k + 1 < L.length → L.drop (k + 1) = linesA l W (F + N + 1)) := fun _ => g2
        have HE' : Hid (k + 1 = L.length → F + N + 1 = l.length) := fun h => by omega
        clear g1 g2 HH3 HN3
        go_wp2
        go_roundw
        case rel => exact ⟨k + 1, F + N + 1, by omega, by omega, by go_num, by go_num, HD', HE', hB2⟩
        case measure => simp [intOf]; omega
    · have hk3 : ¬ (k : Int) < (L.length : Int) := by omega
      obtain rfl : a = l.length := hE.out (by omega)
      have hLp : (0 : Int) < (L.length : Int) := by omega
      go_wp2_with fail
      refine (A2.out _ (HT1.out.below hbw)).mono ?_
      rintro e w2 ⟨v2, rfl, ⟨a2, cap2, rfl, _⟩, b2⟩
      go_wp2
      go_ret
      exact ⟨by simp, b1.trans ((hbw.mono hs1).trans (b2.mono (by omega)))⟩

theorem contract (H : Type) (enc : TypeId × Value → H) (W : World) (base : Nat) (args : Array Value) (ds gs : List (DataW H)) (before : List MemPlace)
    (hval : ∀ (j : Nat) t v, Tryd.f7.params[j]? = some t → args[j]? = some v → Value.okWide Tryd.prog W .any base t v)
    (hW : DataW.Whole enc Tryd.prog Tryd.f7.params.toList Rows.flowFitsSpec.vars false W args.toList ds gs before) (hk : Rows.uptoSmall H (ds ++ gs) = true) (hL : laidMetH Tryd.prog Rows.flowFitsUptoRow.laid W) :
    Calls Tryd.prog 7 args W fun e W' => ∃ v, e = .returned v ∧ Rows.flowFitsSpec.post enc Tryd.prog Tryd.f7 false true false false W args v W' := by
  have hW' := hW
  obtain ⟨p, q, hA0, hV, rfl, hfz, hnd⟩ := hW
  have hA : DataW.TrodAll enc Tryd.prog W 0 (fun _ => true) true Tryd.f7.params.toList args.toList ds p := hA0
  rw [Tryd.params7] at hA hval
  obtain ⟨v0, vs0, d0, ds0, p0, q0, hargs, rfl, rfl, h0, r0⟩ := trodAll_cons hA
  obtain ⟨v1, vs1, d1, ds1, p1, q1, rfl, rfl, rfl, h1, r1⟩ := trodAll_cons r0
  obtain ⟨rfl, rfl, rfl⟩ := trodAll_nil r1
  obtain rfl : args = #[v0, v1] := by cases args; simp_all
  obtain ⟨rfl, rfl⟩ := trodVars_none hV
  obtain ⟨s0, rfl, rfl, rfl, m0⟩ := open_string Tryd.underlying9 (hval 0 9 v0 rfl rfl) h0
  obtain ⟨x1, rfl, rfl, rfl, m1⟩ := open_int Tryd.underlying3 (hval 1 3 v1 rfl rfl) h1
  clear hA0
  simp only [List.append_nil] at hW' hk
  refine (walk s0 x1 W (tab_of (by kernel_rfl) hL) (short hk) (bounds m1).1 (bounds m1).2).mono fun e W' ⟨he, bel⟩ => ?_
  subst he
  exact ⟨_, rfl, _, _, _, [], [], [], hW', trodAll_mk1 (shut_bool Tryd.underlying4 _), (trodAll_cons_mk (shut_string Tryd.underlying9 m0) (trodAll_cons_mk (shut_int Tryd.underlying3 m1) trodAll_mk0)), rfl, bel.frame _, fun h => by cases h⟩

theorem laid_met (os : Os) : laidMet Tryd.prog Rows.flowFitsUptoRow.laid ((withTab (World.holding Tryd.prog os ⟨#[], #[], []⟩)).forCall (fun _ _ => 0) ⟨#[], #[.string .empty, .int .i64 0], []⟩).memory :=
  laidMet_of_run' 8 (by kernel_rfl) (by kernel_rfl)
theorem reads (os : Os) {H : Type} (enc : TypeId × Value → H) : ∃ places, DataW.whole enc Tryd.prog ((withTab (World.holding Tryd.prog os ⟨#[], #[], []⟩)).forCall (fun _ _ => 0) ⟨#[], #[.string .empty, .int .i64 0], []⟩).memory Tryd.f7.params.toList Rows.flowFitsSpec.vars false #[Value.string .empty, Value.int .i64 0].toList 8 = some ([.lit (.string []), .lit (.int .i64 0)], [], places) :=
  ⟨[], by kernel_rfl⟩

set_option maxRecDepth 100000 in
theorem lifted (os : Os) (started : os.Started) (H : Type) (enc : TypeId × Value → H) (F : Stop.Interp) :
    ReturnsInHanded {} Tryd.checked os 7 .any ((Rows.OpenSpec.upto Rows.flowFitsSpec).preRow enc Tryd.prog Tryd.f7 Rows.flowFitsUptoRow.domain false Rows.flowFitsUptoRow.laid) (((Rows.OpenSpec.upto Rows.flowFitsSpec).at F).post enc Tryd.prog Tryd.f7 false true false false) := by
  obtain ⟨places, hx⟩ := reads os enc
  refine returnsInHanded_of_row (C := Tryd.checked) (s := Rows.OpenSpec.upto Rows.flowFitsSpec) own started (by kernel_rfl) Tryd.func7
    (witness_row_at (enc := enc) (C := Tryd.checked) false (withTab (World.holding Tryd.prog os ⟨#[], #[], []⟩)) #[.string .empty, .int .i64 0] rfl (by kernel_rfl) (by kernel_rfl) (by kernel_rfl)
      (OpenSpec.preRow_of_cond 8 hx (by kernel_rfl) (fun k hk => by cases hk; kernel_rfl) (by kernel_rfl) (laid_met os))) ?_
  intro W base args ds gs before hval hW _ hcond _ hL _ _
  exact contract H enc W base args ds gs before hval hW (hcond _ rfl) hL

theorem said : Rows.FlowFitsUptoSaid :=
  OpenClaim.holds_of_cond 7 Tryd.f7 rfl rfl rfl rfl rfl rfl rfl ⟨rfl, rfl, rfl, rfl, rfl⟩ rfl rfl rfl rfl rfl (by kernel_rfl) Tryd.func7 (by kernel_rfl)
    (of_decide_eq_true (by kernel_rfl)) (by unfold Func.isWrapper; first | (rw [if_pos (by decide +kernel)]; kernel_rfl) | (rw [if_neg (by decide +kernel)]; exact ⟨rfl, rfl⟩))
    (fun os started H enc _ F => by rw [OpenClaim.pre_eq_preRow]; exact lifted os started H enc F)

theorem plain (f : FuncId) (fn : Func) (hf : Tryd.pinned.checked.prog.funcNamed Rows.flowFitsUptoRow.func = some f) (hfn : Tryd.pinned.checked.prog.funcs[f]? = some fn) :
    false = Tryd.pinned.checked.prog.looks [] ∧ ∀ (j : Nat) t, fn.params[j]? = some t → Tryd.pinned.checked.prog.wantsStandIn t = false := by
  obtain rfl : f = 7 := Option.some.inj ((show Tryd.prog.funcNamed Rows.flowFitsUptoRow.func = some 7 by kernel_rfl).symm.trans hf) |>.symm
  obtain rfl : fn = Tryd.f7 := (Option.some.inj (Tryd.func7.symm.trans hfn)).symm
  refine ⟨by kernel_rfl, fun j t ht => ?_⟩
  rw [Tryd.params7] at ht
  have hm : t = 9 ∨ t = 3 := by have := Array.mem_of_getElem? ht; simp at this; omega
  rcases hm with rfl | rfl
  · exact (show Tryd.prog.wantsStandIn 9 = false by kernel_rfl)
  · exact (show Tryd.prog.wantsStandIn 3 = false by kernel_rfl)

theorem proved : Rows.FlowFitsUptoCardSaid :=
  Claim7.holds_tied_plain_at .later [] _ _ _ _ said (fun _ h => by cases h) (by kernel_rfl) (fun _ h => by cases h) flowFitsUpto_row_tie rfl ⟨rfl, rfl⟩ (by kernel_rfl) rfl plain (by kernel_rfl)
#print axioms proved
end Go.Proofs.YtbjfckhijjjnkabDoor.flowFits

