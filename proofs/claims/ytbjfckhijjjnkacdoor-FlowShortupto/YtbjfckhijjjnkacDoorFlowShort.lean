/-
  FlowShort, for every input of bulk at most 1048576.
-/
import Derived.Test.YtbjfckhijjjnkacDoorCards
import Derived.Test.YtbjfckhijjjnkacDoorTie
import Derived.Test.YtbjfckhijjjnkacDoorTable
import Derived.Test.YtbjfckhijjjnkacDoorFCut
import Derived.Test.YtbjfckhijjjnkacDoorCols
import Derived.WalkKit
import Derived.ShutString
import Derived.Deep.DeepHandedRow
namespace Go.Proofs.YtbjfckhijjjnkacDoor.flowShort
open Go.ChangeShapes Go.WideShapes Go.ChangeAt Go.RowKit
open Go.ChangeMaps (open_string shut_string)
set_option linter.unusedVariables false

theorem own : ownKnob Tryd.prog.godebug = none := by kernel_rfl
theorem short {H : Type} {s0 : ByteArray} {x1 : Int} (hk : Rows.uptoSmall H [.lit (.string s0.data.toList), .lit (.int .i64 x1)] = true) : s0.size ≤ 1048576 := by
  have h : Rows.uptoBulkAll [DataW.lit (H := H) (.string s0.data.toList), DataW.lit (.int .i64 x1)] ≤ 1048576 := of_decide_eq_true hk
  simp only [Rows.uptoBulkAll, Rows.uptoBulk] at h
  have e_s0 : s0.data.toList.length = s0.size := by rw [Array.length_toList]; rfl
  omega
theorem bounds {x : Int} (h : (Lit.int .i64 x).wf = true) : -9223372036854775808 ≤ x ∧ x ≤ 9223372036854775807 := bounds_i64 h

theorem joined_no_ten (m : List (List UInt8 × Int)) (h : ∀ c ∈ m, (10 : UInt8) ∉ c.1) : (10 : UInt8) ∉ joined m := by
  intro hm
  obtain ⟨c, hc, h2⟩ := List.mem_flatMap.1 hm
  exact h c hc h2
theorem one_no_ten {l : List (List UInt8 × Int)} (h : ∀ c ∈ l, c.1 = [10] ∨ (10 : UInt8) ∉ c.1) : ∀ c ∈ one l, (10 : UInt8) ∉ c.1 := by
  intro c hc
  obtain ⟨d, hd, rfl⟩ := List.mem_map.1 hc
  split
  · decide
  · rename_i e; exact (h d hd).resolve_left e
theorem one_sum (l : List (List UInt8 × Int)) (h : ∀ c ∈ l, Nrm c) : wideSum l ≤ wideSum (one l) := by
  induction l with
  | nil => exact Int.le_refl _
  | cons c l ih =>
    have := ih (fun x hx => h x (by simp [hx]))
    have e : one (c :: l) = (if c.1 = [10] then ([32], 1) else c) :: one l := rfl
    rw [e, wideSum_cons, wideSum_cons]
    split
    · rename_i h10
      have hten : Nrm ([10], 0) := by
        refine ⟨[10], by simpa using good_ten, by simp, fun x hx => by simp at hx; subst hx; exact isMk_ten, enc_ten, fun Y hY => ?_⟩
        exact clus_app (R := [10]) (by simp) Y hY
      have : c = ([10], 0) := nrm_uniq (h c (by simp)) hten h10
      rw [this]; simp; omega
    · omega
theorem nrm_pos {c : List UInt8 × Int} (h : Nrm c) : c.1 ≠ [] := nrm_text h
theorem joined_pos {m : List (List UInt8 × Int)} (hm : m ≠ []) (h : ∀ c ∈ m, Nrm c) : joined m ≠ [] := by
  match m, hm with
  | c :: t, _ =>
    rw [joined_cons]
    intro e
    exact nrm_text (h c (by simp)) (List.append_eq_nil_iff.1 e).1

/-- What is cut: its clusters; how wide it is; and cut again it is the same. -/
theorem short_facts (l : List (List UInt8 × Int)) (W : Int) (hW : 1 ≤ W) (hn : ∀ c ∈ l, Nrm c) (hb : ∀ c ∈ l, 0 ≤ c.2 ∧ c.2 ≤ 2) (ht : ∀ c ∈ l, c.1 = [10] ∨ (10 : UInt8) ∉ c.1) :
    ∃ m, cutL (one l) W = joined m ∧ clus (runes (joined m)) = m ∧ one m = m ∧ cutL m W = joined m ∧ wideSum m ≤ W ∧ (∀ c ∈ m, (10 : UInt8) ∉ c.1) ∧ (joined m = [] → l = []) ∧ (wideSum l ≠ 0 → 0 < wideSum m) ∧ 0 ≤ wideSum m := by
  have hn1 := one_nrm hn
  have hb1 := one_wide hb
  have ht1 := one_no_ten ht
  have hnt : ∀ m : List (List UInt8 × Int), (∀ c ∈ m, (10 : UInt8) ∉ c.1) → one m = m := fun m h => one_self fun c hc e => h c hc (by rw [e]; simp)
  have h0 : ∀ m : List (List UInt8 × Int), (∀ c ∈ m, 0 ≤ c.2 ∧ c.2 ≤ 2) → 0 ≤ wideSum m := fun m h => by
    have := (wideSum_bd m h m.length).1
    rwa [List.take_length] at this
  by_cases hf : wideSum (one l) ≤ W
  · refine ⟨one l, by rw [cutL, if_neg (by omega), if_pos hf], nrm_again _ hn1, hnt _ ht1, by rw [cutL, if_neg (by omega), if_pos hf], hf, ht1, fun e => ?_, fun e => ?_, h0 _ hb1⟩
    · apply Classical.byContradiction
      intro hne
      exact joined_pos (m := one l) (fun e2 => hne (by have := one_length l; rw [e2] at this; exact List.length_eq_zero_iff.1 this.symm)) hn1 e
    · have := one_sum l hn
      have := h0 l hb
      omega
  · have hfit := fitN_spec (one l) (W - 1) hb1
    have hw1 : wideSum ((one l).take (fitN (one l) (W - 1))) ≤ W - 1 := by
      cases hk : fitN (one l) (W - 1) with
      | zero => show (0 : Int) ≤ W - 1; omega
      | succ n => exact (hfit.1 n (by omega)).2
    have hmn : ∀ c ∈ (one l).take (fitN (one l) (W - 1)) ++ [([226, 128, 166], 1)], Nrm c := by
      intro c hc
      rcases List.mem_append.1 hc with hc | hc
      · exact hn1 c (List.mem_of_mem_take hc)
      · simp at hc; subst hc; exact nrm_dots
    have hmt : ∀ c ∈ (one l).take (fitN (one l) (W - 1)) ++ [([226, 128, 166], (1 : Int))], (10 : UInt8) ∉ c.1 := by
      intro c hc
      rcases List.mem_append.1 hc with hc | hc
      · exact ht1 c (List.mem_of_mem_take hc)
      · simp at hc; subst hc; decide
    have hwm : wideSum ((one l).take (fitN (one l) (W - 1)) ++ [([226, 128, 166], 1)]) = wideSum ((one l).take (fitN (one l) (W - 1))) + 1 := by
      rw [wideSum_app]; rfl
    have h00 := h0 ((one l).take (fitN (one l) (W - 1))) (fun c hc => hb1 c (List.mem_of_mem_take hc))
    refine ⟨(one l).take (fitN (one l) (W - 1)) ++ [([226, 128, 166], 1)], ?_, nrm_again _ hmn, hnt _ hmt, ?_, by omega, hmt, fun e => ?_, fun _ => by omega, by omega⟩
    · rw [cutL, if_neg (by omega), if_neg hf, joined_app]; rfl
    · rw [cutL, if_neg (by omega), if_pos (by omega)]
    · rw [joined_app] at e
      have := (List.append_eq_nil_iff.1 e).2
      simp [joined] at this

set_option maxRecDepth 100000 in
set_option maxHeartbeats 4000000 in
theorem walk (s : ByteArray) (W : Int) (w : World) (ht : TabAt w) (hs : s.size ≤ 1048576) (hW0 : -9223372036854775808 ≤ W) (hW1 : W ≤ 9223372036854775807) :
    Calls Tryd.prog 5 #[.string s, .int .i64 W] w fun e w' => e = .returned (.bool true) ∧ Below w.heap.size w w' := by
  have hsl : s.data.toList.length = s.size := by rw [Array.length_toList]; rfl
  have hR := runes_length s.data.toList
  have hC := clus_length (runes s.data.toList)
  rw [hsl] at hR
  have hl0 : clus (runes s.data.toList) = [] → s.size = 0 := by
    intro e
    apply Classical.byContradiction
    intro hne
    have h1 := runes_pos (l := s.data.toList) (fun e2 => hne (by rw [← hsl, e2]; rfl))
    have h2 := clus_pos (R := runes s.data.toList) (fun e2 => by rw [e2] at h1; simp at h1)
    rw [e] at h2; simp at h2
  have A1 : Hid (Calls Tryd.prog 10 #[.string s, .int .i64 W] w fun e w' => e = .returned (.string ⟨(cutL (one (clus (runes s.data.toList))) W).toArray⟩) ∧ Below w.heap.size w w') := cut_any s W w ht (by omega) hW0 hW1
  have A4 : Hid (∀ w, TabAt w → Calls Tryd.prog 11 #[.string s] w fun e w' => e = .returned (.int .i64 (wideSum (clus (runes s.data.toList)))) ∧ Below w.heap.size w w') := fun w h => columns_any s w h (by omega)
  have hbd := clus_wide (runes s.data.toList)
  have hnr := clus_nrm (runes s.data.toList) (runes_good _)
  have hsh := clus_short (runes s.data.toList)
  have hnt := clus_noten (runes s.data.toList) (runes_good _)
  obtain ⟨l, hl⟩ : ∃ l, clus (runes s.data.toList) = l := ⟨_, rfl⟩
  rw [hl] at hC A1 A4 hbd hnr hsh hnt hl0
  have HT : Hid (TabAt w) := ht
  have hbs : ∀ k, wideSum (l.take k) ≤ 2 * k := fun k => (wideSum_bd l hbd k).2
  have hb1 := hbs l.length
  rw [List.take_length] at hb1
  have hb0 := (wideSum_bd l hbd l.length).1
  rw [List.take_length] at hb0
  -- the text that is cut: a list m of clusters
  obtain ⟨m, hm1, hm2, hm3, hm4, hm5, hm6, hm7, hm8, hm9, hm10⟩ : ∃ m : List (List UInt8 × Int), cutL (one l) W = joined m ∧ clus (runes (joined m)) = m ∧ one m = m ∧ cutL m W = joined m ∧ (1 ≤ W → wideSum m ≤ W) ∧ (∀ c ∈ m, (10 : UInt8) ∉ c.1) ∧ (1 ≤ W → joined m = [] → l = []) ∧ (1 ≤ W → wideSum l ≠ 0 → 0 < wideSum m) ∧ 0 ≤ wideSum m ∧ (W < 1 → joined m = []) := by
    by_cases h1 : W < 1
    · exact ⟨[], by rw [cutL, if_pos h1]; rfl, rfl, rfl, by rw [cutL, if_pos h1]; rfl, fun h => by omega, by simp, fun h => by omega, fun h => by omega, Int.le_refl _, fun _ => rfl⟩
    · obtain ⟨m, a1, a2, a3, a4, a5, a6, a7, a8, a9⟩ := short_facts l W (by omega) hnr hbd hnt
      exact ⟨m, a1, a2, a3, a4, fun _ => a5, a6, fun _ => a7, fun _ => a8, a9, fun h => by omega⟩
  have hJl : (joined m).length ≤ 20 * l.length + 3 := by
    rw [← hm1]
    have hj := joined_bd _ (one_short hsh)
    rw [one_length] at hj
    have hjt := joined_take_le (one l) (fitN (one l) (W - 1))
    unfold cutL
    split
    · simp
    · split
      · omega
      · rw [List.length_append]; simp; omega
  have hten : (10 : UInt8) ∉ joined m := joined_no_ten m hm6
  rw [hm1] at A1
  obtain ⟨J, hJ⟩ : ∃ J, joined m = J := ⟨_, rfl⟩
  rw [hJ] at A1 hJl hten hm2 hm4 hm7 hm10
  have hJs : (⟨J.toArray⟩ : ByteArray).size = J.length := by simp [ByteArray.size]
  have A2 : Hid (∀ w, TabAt w → Calls Tryd.prog 10 #[.string ⟨J.toArray⟩, .int .i64 W] w fun e w' => e = .returned (.string ⟨J.toArray⟩) ∧ Below w.heap.size w w') := by
    intro w h
    have := cut_any ⟨J.toArray⟩ W w h (by rw [hJs]; omega) hW0 hW1
    rw [show (⟨J.toArray⟩ : ByteArray).data.toList = J from rfl, hm2, hm3, hm4] at this
    exact this
  have A3 : Hid (∀ w, TabAt w → Calls Tryd.prog 11 #[.string ⟨J.toArray⟩] w fun e w' => e = .returned (.int .i64 (wideSum m)) ∧ Below w.heap.size w w') := by
    intro w h
    have := columns_any ⟨J.toArray⟩ w h (by rw [hJs]; omega)
    rw [show (⟨J.toArray⟩ : ByteArray).data.toList = J from rfl, hm2] at this
    exact this
  obtain ⟨X, hX⟩ : ∃ X, wideSum m = X := ⟨_, rfl⟩
  obtain ⟨Y, hY⟩ : ∃ Y, wideSum l = Y := ⟨_, rfl⟩
  rw [hX] at A3 hm5 hm8 hm9
  rw [hY] at A4 hm8 hb1 hb0
  have HTEN : Hid ((10 : UInt8) ∉ J) := hten
  have HM7 : Hid (1 ≤ W → J = [] → l = []) := hm7
  have HM10 : Hid (W < 1 → J = []) := hm10
  have HL0 : Hid (l = [] → s.size = 0) := hl0
  clear hl hsl ht hbd hnr hsh hnt hbs hm1 hm2 hm3 hm4 hm6 hX hY hJ hJs hten hm7 hm10 hl0
  go_enter Tryd.func5, Tryd.ntmps5
  go_wp2_with fail
  refine A1.out.mono ?_
  rintro e w1 ⟨rfl, b1⟩
  have HT1 : Hid (TabAt w1) := HT.out.below b1
  go_wp2_with fail
  refine (A2.out _ HT1.out).mono ?_
  rintro e w2 ⟨rfl, b2⟩
  have HT2 : Hid (TabAt w2) := HT1.out.below b2
  go_wp2_with fail
  refine (A3.out _ HT2.out).mono ?_
  rintro e w3 ⟨rfl, b3⟩
  have HT3 : Hid (TabAt w3) := HT2.out.below b3
  have hB : Below w.heap.size w w3 := by
    have s1 := b1.size; have s2 := b2.size
    exact b1.trans ((b2.mono s1).trans (b3.mono (by omega)))
  clear A1 A2 A3 b1 b2 b3 HT1 HT2 HT
  go_wp2
  go_loop [8] (fun i => ∃ k : Nat, k ≤ J.length ∧ i = .int .i64 k) (fun i => J.length - (intOf i).toNat)
  case atStart => exact ⟨0, Nat.zero_le _, rfl⟩
  case round =>
    obtain ⟨k, hk, rfl⟩ := hrel
    by_cases hlt : k < J.length
    · have hlt' : (k : Int) < (J.length : Int) := by omega
      have hne : J[k] ≠ 10 := fun e => HTEN.out (by rw [← e]; exact List.getElem_mem hlt)
      have hsz : k < (⟨J.toArray⟩ : ByteArray).size := by simpa [ByteArray.size] using hlt
      have hge : (⟨J.toArray⟩ : ByteArray)[k] = J[k] := by
        show J.toArray[k] = J[k]
        simp
      have hne' : ((((⟨J.toArray⟩ : ByteArray)[k]).toNat : Int) == 10) = false := by
        rw [hge]
        simp only [beq_eq_false_iff_ne, ne_eq]
        intro e
        exact hne (UInt8.toNat_inj.1 (by show (J[k]).toNat = 10; omega))
      clear hge
      clear A4
      go_wp2
      go_round
      case rel => exact ⟨k + 1, by omega, by go_num⟩
      case measure => simp [intOf]; omega
    · have hlt' : ¬ (k : Int) < (J.length : Int) := by omega
      by_cases h1 : W < 1
      · have hJ0 : J = [] := HM10.out h1
        subst hJ0
        go_wp2
        go_ret
        exact ⟨rfl, hB⟩
      · have hm5' := hm5 (by omega)
        have hm8' := hm8 (by omega)
        by_cases hJ0 : J = []
        · have hl0 : l = [] := HM7.out (by omega) hJ0
          have hs0 : (s.size : Int) = 0 := by have := HL0.out hl0; omega
          have hY0 : Y = 0 := by rw [hl0] at hb1; simp at hb1; omega
          subst hJ0 hY0
          clear hl0
          go_wp2_with fail
          refine (A4.out _ HT3.out).mono ?_
          rintro e w4 ⟨rfl, b4⟩
          clear A4
          go_wp2
          go_ret
          exact ⟨by simp, hB.trans (b4.mono hB.size)⟩
        · have hJb : (J == []) = false := by simpa using hJ0
          by_cases hY0 : Y = 0
          · subst hY0
            go_wp2_with fail
            refine (A4.out _ HT3.out).mono ?_
            rintro e w4 ⟨rfl, b4⟩
            clear A4
            go_wp2
            go_ret
            exact ⟨by simp, hB.trans (b4.mono hB.size)⟩
          · have hX0 : 0 < X := hm8' hY0
            go_wp2_with fail
            refine (A4.out _ HT3.out).mono ?_
            rintro e w4 ⟨rfl, b4⟩
            clear A4
            go_wp2
            go_ret
            exact ⟨by simp, hB.trans (b4.mono hB.size)⟩

theorem contract (H : Type) (enc : TypeId × Value → H) (W : World) (base : Nat) (args : Array Value) (ds gs : List (DataW H)) (before : List MemPlace)
    (hval : ∀ (j : Nat) t v, Tryd.f5.params[j]? = some t → args[j]? = some v → Value.okWide Tryd.prog W .any base t v)
    (hW : DataW.Whole enc Tryd.prog Tryd.f5.params.toList Rows.flowShortSpec.vars false W args.toList ds gs before) (hk : Rows.uptoSmall H (ds ++ gs) = true) (hL : laidMetH Tryd.prog Rows.flowShortUptoRow.laid W) :
    Calls Tryd.prog 5 args W fun e W' => ∃ v, e = .returned v ∧ Rows.flowShortSpec.post enc Tryd.prog Tryd.f5 false true false false W args v W' := by
  have hW' := hW
  obtain ⟨p, q, hA0, hV, rfl, hfz, hnd⟩ := hW
  have hA : DataW.TrodAll enc Tryd.prog W 0 (fun _ => true) true Tryd.f5.params.toList args.toList ds p := hA0
  rw [Tryd.params5] at hA hval
  obtain ⟨v0, vs0, d0, ds0, p0, q0, hargs, rfl, rfl, h0, r0⟩ := trodAll_cons hA
  obtain ⟨v1, vs1, d1, ds1, p1, q1, rfl, rfl, rfl, h1, r1⟩ := trodAll_cons r0
  obtain ⟨rfl, rfl, rfl⟩ := trodAll_nil r1
  obtain rfl : args = #[v0, v1] := by cases args; simp_all
  obtain ⟨rfl, rfl⟩ := trodVars_none hV
  obtain ⟨s0, rfl, rfl, rfl, m0⟩ := open_string Tryd.underlying9 (hval 0 9 v0 rfl rfl) h0
  obtain ⟨x1, rfl, rfl, rfl, m1⟩ := open_int Tryd.underlying3 (hval 1 3 v1 rfl rfl) h1
  clear hA0
  simp only [List.append_nil] at hW' hk
  refine (walk s0 x1 W (tab_of (by kernel_rfl) hL) (short hk) (bounds m1).1 (bounds m1).2).mono fun e W' ⟨he, bel⟩ => ?_
  subst he
  exact ⟨_, rfl, _, _, _, [], [], [], hW', trodAll_mk1 (shut_bool Tryd.underlying4 _), (trodAll_cons_mk (shut_string Tryd.underlying9 m0) (trodAll_cons_mk (shut_int Tryd.underlying3 m1) trodAll_mk0)), rfl, bel.frame _, fun h => by cases h⟩

theorem laid_met (os : Os) : laidMet Tryd.prog Rows.flowShortUptoRow.laid ((withTab (World.holding Tryd.prog os ⟨#[], #[], []⟩)).forCall (fun _ _ => 0) ⟨#[], #[.string .empty, .int .i64 0], []⟩).memory :=
  laidMet_of_run' 8 (by kernel_rfl) (by kernel_rfl)
theorem reads (os : Os) {H : Type} (enc : TypeId × Value → H) : ∃ places, DataW.whole enc Tryd.prog ((withTab (World.holding Tryd.prog os ⟨#[], #[], []⟩)).forCall (fun _ _ => 0) ⟨#[], #[.string .empty, .int .i64 0], []⟩).memory Tryd.f5.params.toList Rows.flowShortSpec.vars false #[Value.string .empty, Value.int .i64 0].toList 8 = some ([.lit (.string []), .lit (.int .i64 0)], [], places) :=
  ⟨[], by kernel_rfl⟩

set_option maxRecDepth 100000 in
theorem lifted (os : Os) (started : os.Started) (H : Type) (enc : TypeId × Value → H) (F : Stop.Interp) :
    ReturnsInHanded {} Tryd.checked os 5 .any ((Rows.OpenSpec.upto Rows.flowShortSpec).preRow enc Tryd.prog Tryd.f5 Rows.flowShortUptoRow.domain false Rows.flowShortUptoRow.laid) (((Rows.OpenSpec.upto Rows.flowShortSpec).at F).post enc Tryd.prog Tryd.f5 false true false false) := by
  obtain ⟨places, hx⟩ := reads os enc
  refine returnsInHanded_of_row (C := Tryd.checked) (s := Rows.OpenSpec.upto Rows.flowShortSpec) own started (by kernel_rfl) Tryd.func5
    (witness_row_at (enc := enc) (C := Tryd.checked) false (withTab (World.holding Tryd.prog os ⟨#[], #[], []⟩)) #[.string .empty, .int .i64 0] rfl (by kernel_rfl) (by kernel_rfl) (by kernel_rfl)
      (OpenSpec.preRow_of_cond 8 hx (by kernel_rfl) (fun k hk => by cases hk; kernel_rfl) (by kernel_rfl) (laid_met os))) ?_
  intro W base args ds gs before hval hW _ hcond _ hL _ _
  exact contract H enc W base args ds gs before hval hW (hcond _ rfl) hL

theorem said : Rows.FlowShortUptoSaid :=
  OpenClaim.holds_of_cond 5 Tryd.f5 rfl rfl rfl rfl rfl rfl rfl ⟨rfl, rfl, rfl, rfl, rfl⟩ rfl rfl rfl rfl rfl (by kernel_rfl) Tryd.func5 (by kernel_rfl)
    (of_decide_eq_true (by kernel_rfl)) (by unfold Func.isWrapper; first | (rw [if_pos (by decide +kernel)]; kernel_rfl) | (rw [if_neg (by decide +kernel)]; exact ⟨rfl, rfl⟩))
    (fun os started H enc _ F => by rw [OpenClaim.pre_eq_preRow]; exact lifted os started H enc F)

theorem plain (f : FuncId) (fn : Func) (hf : Tryd.pinned.checked.prog.funcNamed Rows.flowShortUptoRow.func = some f) (hfn : Tryd.pinned.checked.prog.funcs[f]? = some fn) :
    false = Tryd.pinned.checked.prog.looks [] ∧ ∀ (j : Nat) t, fn.params[j]? = some t → Tryd.pinned.checked.prog.wantsStandIn t = false := by
  obtain rfl : f = 5 := Option.some.inj ((show Tryd.prog.funcNamed Rows.flowShortUptoRow.func = some 5 by kernel_rfl).symm.trans hf) |>.symm
  obtain rfl : fn = Tryd.f5 := (Option.some.inj (Tryd.func5.symm.trans hfn)).symm
  refine ⟨by kernel_rfl, fun j t ht => ?_⟩
  rw [Tryd.params5] at ht
  have hm : t = 9 ∨ t = 3 := by have := Array.mem_of_getElem? ht; simp at this; omega
  rcases hm with rfl | rfl
  · exact (show Tryd.prog.wantsStandIn 9 = false by kernel_rfl)
  · exact (show Tryd.prog.wantsStandIn 3 = false by kernel_rfl)

theorem proved : Rows.FlowShortUptoCardSaid :=
  Claim7.holds_tied_plain_at .later [] _ _ _ _ said (fun _ h => by cases h) (by kernel_rfl) (fun _ h => by cases h) flowShortUpto_row_tie rfl ⟨rfl, rfl⟩ (by kernel_rfl) rfl plain (by kernel_rfl)
#print axioms proved
end Go.Proofs.YtbjfckhijjjnkacDoor.flowShort

