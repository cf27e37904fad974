/-
  GlyphClusters, for every text of bulk at most 1048576.
-/
import Derived.Test.YtlioofikfgdnmaaDoorCards
import Derived.Test.YtlioofikfgdnmaaDoorTie
import Derived.Test.YtlioofikfgdnmaaDoorTable
import Derived.Test.YtlioofikfgdnmaaDoorCols
import Derived.Test.YtlioofikfgdnmaaDoorCluEq
import Derived.Test.YtlioofikfgdnmaaDoorRClus
import Derived.WalkKit
import Derived.ShutString
import Derived.Deep.DeepHandedRow
namespace Go.Proofs.YtlioofikfgdnmaaDoor.glyphClusters
open Go.ChangeShapes Go.WideShapes Go.ChangeAt Go.RowKit
open Go.ChangeMaps (open_string shut_string)
set_option linter.unusedVariables false

theorem own : ownKnob Tryd.prog.godebug = none := by kernel_rfl
theorem short {H : Type} {s : ByteArray} (hk : Rows.uptoSmall H [.lit (.string s.data.toList)] = true) : s.size ≤ 1048576 := by
  have h : Rows.uptoBulkAll [DataW.lit (H := H) (.string s.data.toList)] ≤ 1048576 := of_decide_eq_true hk
  simp only [Rows.uptoBulkAll, Rows.uptoBulk] at h
  have e : s.data.toList.length = s.size := by rw [Array.length_toList]; rfl
  omega

/-- A list of clusters of the call's own, whatever they are. -/
def RowOK (w : World) (v : Value) (n : Nat) : Prop := n = 0 ∨ ∃ g cap cur, v = .slice (some ⟨g, 0, none⟩) n cap ∧ w.heap[g]? = some (.cells cur 30 (0, 0)) ∧ n * 2 ≤ cur.size
theorem rowOK_own {w : World} {B n : Nat} {v : Value} {xs : List Value} (h : w.ownsRow B 30 2 v n xs) : RowOK w v n := by
  rcases h.2 with ⟨rfl, rfl⟩ | ⟨g, cap, cur, rfl, _, hg, hn, _, hs, _⟩
  · exact .inl rfl
  · exact .inr ⟨g, cap, cur, rfl, hg, by omega⟩
theorem RowOK.set {w : World} {g n cap : Nat} (h : RowOK w (.slice (some ⟨g, 0, none⟩) n cap) n) (hn : n ≠ 0) (k : Nat) (x : Value) : RowOK (w.setCell ⟨g, k, none⟩ x) (.slice (some ⟨g, 0, none⟩) n cap) n := by
  obtain ⟨g', cap', cur, hv, hg, hs⟩ := h.resolve_left hn
  cases hv
  exact .inr ⟨_, _, _, rfl, heap_setCell_same w g k cur _ x hg, by simpa using hs⟩
theorem grownBy_refl' (w : World) (row : Option Nat) : w.grownBy w row := ⟨rfl, rfl, rfl, Nat.le_refl _, fun _ _ _ => rfl⟩
theorem grownBy_set' {w wr : World} {g : Nat} (h : w.grownBy wr (some g)) (k : Nat) (v : Value) : w.grownBy (wr.setCell ⟨g, k, none⟩ v) (some g) := by
  refine ⟨h.os, h.tape, h.output, by simpa [World.setCell] using h.size, fun j hj hne => ?_⟩
  rw [heap_setCell_other wr ⟨g, k, none⟩ j v (fun e => hne (by rw [e])), h.block j hj hne]

set_option maxHeartbeats 2000000 in
theorem walk (s : ByteArray) (w : World) (ht : TabAt w) (hs : s.size ≤ 1048576) :
    Calls Tryd.prog 4 #[.string s] w fun e w' => e = .returned (.bool true) ∧ Below w.heap.size w w' := by
  have hsl : s.data.toList.length = s.size := by rw [Array.length_toList]; rfl
  have hR := runes_length s.data.toList
  have hC := clus_length (runes s.data.toList)
  have hbd := clus_wide (runes s.data.toList)
  rw [hsl] at hR
  have C1 : Hid (∀ w, TabAt w → Calls Tryd.prog 8 #[.string s] w fun e w' => ∃ v, e = .returned v ∧ w'.ownsRow w.heap.size 30 2 v (clus (runes s.data.toList)).length (cCells (clus (runes s.data.toList))) ∧ Below w.heap.size w w') :=
    fun w h => gClusters_any s w h (by omega)
  have C0 : Hid (∀ w, TabAt w → Calls Tryd.prog 8 #[.string ⟨#[111, 116, 104, 101, 114, 32, 116, 101, 120, 116, 115]⟩] w fun e w' => ∃ v, e = .returned v ∧ Below w.heap.size w w') := by
    intro w h
    refine (gClusters_any ⟨#[111, 116, 104, 101, 114, 32, 116, 101, 120, 116, 115]⟩ w h (by decide)).mono ?_
    rintro e w1 ⟨v, rfl, o, b⟩
    exact ⟨v, rfl, b⟩
  have C2 : Hid (∀ w, Calls Tryd.prog 9 #[.string s] w fun e w' => ∃ v, e = .returned v ∧ w'.ownsRow w.heap.size 44 2 v (clus (runes s.data.toList)).length (cCells (clus (runes s.data.toList))) ∧ Below w.heap.size w w') :=
    fun w => rClusters_any s w (by omega)
  have K1 : Hid (∀ w, TabAt w → Calls Tryd.prog 11 #[.string s] w fun e w' => e = .returned (.int .i64 (wideSum (clus (runes s.data.toList)))) ∧ Below w.heap.size w w') :=
    fun w h => columns_any s w h (by omega)
  obtain ⟨l, hl⟩ : ∃ l, clus (runes s.data.toList) = l := ⟨_, rfl⟩
  rw [hl] at C1 C2 K1 hC hbd
  obtain ⟨X, hX⟩ : ∃ X, wideSum l = X := ⟨_, rfl⟩
  rw [hX] at K1
  have E1 : Hid (∀ v v2 w, Cls w v l → Cls w v2 l → Calls Tryd.prog 10 #[v, v2] w fun e w' => e = .returned (.bool true) ∧ Below w.heap.size w w') := fun v v2 w h h2 => cluEq_yes l v v2 w h h2 (by omega)
  have W1 : Hid (∀ v w, Cls w v l → Calls Tryd.prog 12 #[v] w fun e w' => e = .returned (.int .i64 X) ∧ w' = w) := by
    intro v w h
    have := wide_any l hbd (by omega) v w h
    rw [hX] at this; exact this
  have HT : Hid (TabAt w) := ht
  clear hl hX hbd hsl ht
  go_enter Tryd.func4, Tryd.ntmps4
  go_wp2_with fail
  refine (C1.out _ HT.out).mono ?_
  rintro e w1 ⟨v1, rfl, o1, b1⟩
  have HO1 : Hid (w1.ownsRow w.heap.size 30 2 v1 l.length (cCells l)) := o1
  have HT1 : Hid (TabAt w1) := HT.out.below b1
  clear o1
  go_wp2_with fail
  refine (C0.out _ HT1.out).mono ?_
  rintro e w2 ⟨v2, rfl, b2⟩
  have HT2 : Hid (TabAt w2) := HT1.out.below b2
  go_wp2_with fail
  refine (C2.out _).mono ?_
  rintro e w3 ⟨m, rfl, o3, b3⟩
  have HO3 : Hid (w3.ownsRow w2.heap.size 44 2 m l.length (cCells l)) := o3
  have HT3 : Hid (TabAt w3) := HT2.out.below b3
  clear o3
  have HO13 : Hid (w3.ownsRow w.heap.size 30 2 v1 l.length (cCells l)) := own_below2 (own_below2 HO1.out b2) b3
  go_wp2_with fail
  refine (E1.out _ _ _ (cls_own HO13.out) (cls_own HO3.out)).mono ?_
  rintro e w4 ⟨rfl, b4⟩
  have HO14 : Hid (w4.ownsRow w.heap.size 30 2 v1 l.length (cCells l)) := own_below2 HO13.out b4
  have HO34 : Hid (w4.ownsRow w2.heap.size 44 2 m l.length (cCells l)) := own_below2 HO3.out b4
  have HT4 : Hid (TabAt w4) := HT3.out.below b4
  have hB4 : Below w.heap.size w w4 := by
    have s1 := b1.size; have s2 := b2.size; have s3 := b3.size
    exact b1.trans ((b2.mono s1).trans ((b3.mono (by omega)).trans (b4.mono (by omega))))
  have HB4 : Hid (Below w.heap.size w w4) := hB4
  have HTop : Hid (∀ q, v1.ownBlock = some q → w.heap.size ≤ q ∧ q < w2.heap.size) := fun q hq => by
    have := HO1.out.lt q hq
    have := b2.size
    omega
  obtain ⟨a1, c1, hv1⟩ : ∃ a c, v1 = .slice a l.length c := by
    obtain ⟨a, c, h, _⟩ := cls_own HO14.out; exact ⟨a, c, h⟩
  subst hv1
  clear hB4 b1 b2 b3 b4
  go_wp2
  go_loopw [6] (fun i wr => ∃ k : Nat, k ≤ l.length ∧ i = .int .i64 k ∧ Hid (w4.grownBy wr (Value.ownBlock (.slice a1 l.length c1))) ∧ Hid (RowOK wr (.slice a1 l.length c1) l.length)) (fun i _ => l.length - (intOf i).toNat)
  case atStart => exact ⟨0, Nat.zero_le _, rfl, grownBy_refl' _ _, rowOK_own HO14.out⟩
  case round =>
    obtain ⟨k, hk, rfl, hg, hrow⟩ := hrel
    by_cases hlt : k < l.length
    · have hlt' : (k : Int) < (l.length : Int) := by omega
      have hn0 : l.length ≠ 0 := by omega
      obtain ⟨g, cap', cur, hv, hgg, hsz⟩ := hrow.out.resolve_left hn0
      simp only [Value.slice.injEq, true_and] at hv
      obtain ⟨rfl, rfl⟩ := hv
      obtain ⟨x0, q0⟩ : ∃ x, wr.cell? ⟨g, k * 2, none⟩ = some x := ⟨cur[k * 2]'(by omega), by rw [cell_of_row wr g _ cur _ (0, 0) hgg, Array.getElem?_eq_getElem (by omega)]⟩
      obtain ⟨x1, q1⟩ : ∃ x, wr.cell? ⟨g, k * 2 + 1, none⟩ = some x := ⟨cur[k * 2 + 1]'(by omega), by rw [cell_of_row wr g _ cur _ (0, 0) hgg, Array.getElem?_eq_getElem (by omega)]⟩
      have f0 := frozen_of_row wr g (k * 2) cur _ hgg
      have f1 := frozen_of_row wr g (k * 2 + 1) cur _ hgg
      have H0 : Hid (l.length ≠ 0) := hn0
      clear hgg hsz hn0
      go_wp2
      go_roundw
      case rel => exact ⟨k + 1, by omega, by go_num, grownBy_set' (grownBy_set' hg.out _ _) _ _, (hrow.out.set H0.out _ _).set H0.out _ _⟩
      case measure => simp [intOf]; omega
    · have hlt' : ¬ (k : Int) < (l.length : Int) := by omega
      have hB5 : Below w.heap.size w wr := HB4.out.grown hg.out HB4.out.size (fun q hq => (HTop.out q hq).1)
      have hne : m.ownBlock = none ∨ m.ownBlock ≠ Value.ownBlock (.slice a1 l.length c1) := by
        cases hm : m.ownBlock with
        | none => exact .inl rfl
        | some q =>
          refine .inr fun e => ?_
          have a := (HTop.out q e.symm).2
          have b := (HO34.out.lt q hm).1
          omega
      have HM : Hid (Cls wr m l) := cls_own (HO34.out.kept hg.out hne)
      have HT5 : Hid (TabAt wr) := HT.out.below hB5
      have HB5 : Hid (Below w.heap.size w wr) := hB5
      clear hB5 hne hrow hg HO1 HO3 HO13 HO14 HO34 HB4 HTop
      go_wp2_with fail
      refine (C1.out _ HT5.out).mono ?_
      rintro e w6 ⟨v6, rfl, o6, b6⟩
      have HK : Hid (Cls w6 v6 l) := cls_own o6
      have HT6 : Hid (TabAt w6) := HT5.out.below b6
      clear o6
      go_wp2_with fail
      refine (K1.out _ HT6.out).mono ?_
      rintro e w7 ⟨rfl, b7⟩
      go_wp2_with fail
      refine (E1.out _ _ _ (HK.out.below b7) ((HM.out.below b6).below b7)).mono ?_
      rintro e w8 ⟨rfl, b8⟩
      have HM8 : Hid (Cls w8 m l) := ((HM.out.below b6).below b7).below b8
      have HB8 : Hid (Below w.heap.size w w8) := by
        have s5 := HB5.out.size; have s6 := b6.size; have s7 := b7.size
        exact HB5.out.trans ((b6.mono s5).trans ((b7.mono (by omega)).trans (b8.mono (by omega))))
      clear b6 b7 b8
      go_wp2_with fail
      refine (W1.out _ _ HM8.out).mono ?_
      rintro e w9 ⟨rfl, rfl⟩
      go_wp2
      go_ret
      exact ⟨by simp, HB8.out⟩

theorem contract (H : Type) (enc : TypeId × Value → H) (W : World) (base : Nat) (args : Array Value) (ds gs : List (DataW H)) (before : List MemPlace)
    (hval : ∀ (j : Nat) t v, Tryd.f4.params[j]? = some t → args[j]? = some v → Value.okWide Tryd.prog W .any base t v)
    (hW : DataW.Whole enc Tryd.prog Tryd.f4.params.toList Rows.glyphClustersSpec.vars false W args.toList ds gs before) (hk : Rows.uptoSmall H (ds ++ gs) = true) (hL : laidMetH Tryd.prog Rows.glyphClustersUptoRow.laid W) :
    Calls Tryd.prog 4 args W fun e W' => ∃ v, e = .returned v ∧ Rows.glyphClustersSpec.post enc Tryd.prog Tryd.f4 false true false false W args v W' := by
  have hW' := hW
  obtain ⟨p, q, hA0, hV, rfl, hfz, hnd⟩ := hW
  have hA : DataW.TrodAll enc Tryd.prog W 0 (fun _ => true) true Tryd.f4.params.toList args.toList ds p := hA0
  rw [Tryd.params4] at hA hval
  obtain ⟨v0, vs0, d0, ds0, p0, q0, hargs, rfl, rfl, h0, r0⟩ := trodAll_cons hA
  obtain ⟨rfl, rfl, rfl⟩ := trodAll_nil r0
  obtain rfl : args = #[v0] := by cases args; simp_all
  obtain ⟨rfl, rfl⟩ := trodVars_none hV
  obtain ⟨s, rfl, rfl, rfl, hmax⟩ := open_string Tryd.underlying9 (hval 0 9 v0 rfl rfl) h0
  clear hA0
  simp only [List.append_nil] at hW' hk
  refine (walk s W (tab_of (by kernel_rfl) hL) (short hk)).mono fun e W' ⟨he, bel⟩ => ?_
  subst he
  exact ⟨_, rfl, _, _, _, [], [], [], hW', trodAll_mk1 (shut_bool Tryd.underlying4 _), trodAll_mk1 (shut_string Tryd.underlying9 hmax), rfl, bel.frame _, fun h => by cases h⟩

theorem laid_met (os : Os) : laidMet Tryd.prog Rows.glyphClustersUptoRow.laid ((withTab (World.holding Tryd.prog os ⟨#[], #[], []⟩)).forCall (fun _ _ => 0) ⟨#[], #[.string .empty], []⟩).memory :=
  laidMet_of_run' 8 (by kernel_rfl) (by kernel_rfl)
theorem reads (os : Os) {H : Type} (enc : TypeId × Value → H) : ∃ places, DataW.whole enc Tryd.prog ((withTab (World.holding Tryd.prog os ⟨#[], #[], []⟩)).forCall (fun _ _ => 0) ⟨#[], #[.string .empty], []⟩).memory Tryd.f4.params.toList Rows.glyphClustersSpec.vars false #[Value.string .empty].toList 8 = some ([.lit (.string [])], [], places) :=
  ⟨[], by kernel_rfl⟩

set_option maxRecDepth 100000 in
theorem lifted (os : Os) (started : os.Started) (H : Type) (enc : TypeId × Value → H) (F : Stop.Interp) :
    ReturnsInHanded {} Tryd.checked os 4 .any ((Rows.OpenSpec.upto Rows.glyphClustersSpec).preRow enc Tryd.prog Tryd.f4 Rows.glyphClustersUptoRow.domain false Rows.glyphClustersUptoRow.laid) (((Rows.OpenSpec.upto Rows.glyphClustersSpec).at F).post enc Tryd.prog Tryd.f4 false true false false) := by
  obtain ⟨places, hx⟩ := reads os enc
  refine returnsInHanded_of_row (C := Tryd.checked) (s := Rows.OpenSpec.upto Rows.glyphClustersSpec) own started (by kernel_rfl) Tryd.func4
    (witness_row_at (enc := enc) (C := Tryd.checked) false (withTab (World.holding Tryd.prog os ⟨#[], #[], []⟩)) #[.string .empty] rfl (by kernel_rfl) (by kernel_rfl) (by kernel_rfl)
      (OpenSpec.preRow_of_cond 8 hx (by kernel_rfl) (fun k hk => by cases hk; kernel_rfl) (by kernel_rfl) (laid_met os))) ?_
  intro W base args ds gs before hval hW _ hcond _ hL _ _
  exact contract H enc W base args ds gs before hval hW (hcond _ rfl) hL

theorem said : Rows.GlyphClustersUptoSaid :=
  OpenClaim.holds_of_cond 4 Tryd.f4 rfl rfl rfl rfl rfl rfl rfl ⟨rfl, rfl, rfl, rfl, rfl⟩ rfl rfl rfl rfl rfl (by kernel_rfl) Tryd.func4 (by kernel_rfl)
    (of_decide_eq_true (by kernel_rfl)) (by unfold Func.isWrapper; first | (rw [if_pos (by decide +kernel)]; kernel_rfl) | (rw [if_neg (by decide +kernel)]; exact ⟨rfl, rfl⟩))
    (fun os started H enc _ F => by rw [OpenClaim.pre_eq_preRow]; exact lifted os started H enc F)

theorem plain (f : FuncId) (fn : Func) (hf : Tryd.pinned.checked.prog.funcNamed Rows.glyphClustersUptoRow.func = some f) (hfn : Tryd.pinned.checked.prog.funcs[f]? = some fn) :
    false = Tryd.pinned.checked.prog.looks [] ∧ ∀ (j : Nat) t, fn.params[j]? = some t → Tryd.pinned.checked.prog.wantsStandIn t = false := by
  obtain rfl : f = 4 := Option.some.inj ((show Tryd.prog.funcNamed Rows.glyphClustersUptoRow.func = some 4 by kernel_rfl).symm.trans hf) |>.symm
  obtain rfl : fn = Tryd.f4 := (Option.some.inj (Tryd.func4.symm.trans hfn)).symm
  refine ⟨by kernel_rfl, fun j t ht => ?_⟩
  rw [Tryd.params4] at ht
  obtain rfl : t = 9 := by simpa using Array.mem_of_getElem? ht
  exact (show Tryd.prog.wantsStandIn 9 = false by kernel_rfl)

theorem proved : Rows.GlyphClustersUptoCardSaid :=
  Claim7.holds_tied_plain_at .later [] _ _ _ _ said (fun _ h => by cases h) (by kernel_rfl) (fun _ h => by cases h) glyphClustersUpto_row_tie rfl ⟨rfl, rfl⟩ (by kernel_rfl) rfl plain (by kernel_rfl)
#print axioms proved
end Go.Proofs.YtlioofikfgdnmaaDoor.glyphClusters
