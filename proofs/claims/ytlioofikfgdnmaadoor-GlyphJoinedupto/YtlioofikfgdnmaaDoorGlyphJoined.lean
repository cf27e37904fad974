/-
  GlyphJoined, for every text of bulk at most 1048576.
-/
import Derived.Test.YtlioofikfgdnmaaDoorCards
import Derived.Test.YtlioofikfgdnmaaDoorTie
import Derived.Test.YtlioofikfgdnmaaDoorTable
import Derived.Test.YtlioofikfgdnmaaDoorCols
import Derived.Test.YtlioofikfgdnmaaDoorAlike
import Derived.Test.YtlioofikfgdnmaaDoorNorm
import Derived.WalkKit
import Derived.ShutString
import Derived.Deep.DeepHandedRow
namespace Go.Proofs.YtlioofikfgdnmaaDoor.glyphJoined
open Go.ChangeShapes Go.WideShapes Go.ChangeAt Go.RowKit
open Go.ChangeMaps (open_string shut_string)
set_option linter.unusedVariables false

theorem own : ownKnob Tryd.prog.godebug = none := by kernel_rfl
theorem str_append (a b : List UInt8) : (⟨a.toArray⟩ : ByteArray) ++ (⟨b.toArray⟩ : ByteArray) = ⟨(a ++ b).toArray⟩ := by
  apply ByteArray.ext
  simp
theorem short {H : Type} {s : ByteArray} (hk : Rows.uptoSmall H [.lit (.string s.data.toList)] = true) : s.size ≤ 1048576 := by
  have h : Rows.uptoBulkAll [DataW.lit (H := H) (.string s.data.toList)] ≤ 1048576 := of_decide_eq_true hk
  simp only [Rows.uptoBulkAll, Rows.uptoBulk] at h
  have e : s.data.toList.length = s.size := by rw [Array.length_toList]; rfl
  omega

set_option maxHeartbeats 2000000 in
theorem walk (s : ByteArray) (w : World) (ht : TabAt w) (hs : s.size ≤ 1048576) :
    Calls Tryd.prog 5 #[.string s] w fun e w' => e = .returned (.bool true) ∧ Below w.heap.size w w' := by
  have hsl : s.data.toList.length = s.size := by rw [Array.length_toList]; rfl
  have hR := runes_length s.data.toList
  have hC := clus_length (runes s.data.toList)
  have hbd := clus_wide (runes s.data.toList)
  have hJl := joined_length s.data.toList
  have hJa := joined_again s.data.toList
  rw [hsl] at hR hJl
  have hpos : (s.size = 0 ∧ (clus (runes s.data.toList)).length = 0) ∨ (0 < s.size ∧ 0 < (clus (runes s.data.toList)).length) := by
    by_cases h : s.size = 0
    · exact .inl ⟨h, by omega⟩
    · refine .inr ⟨by omega, clus_pos fun e => ?_⟩
      have := runes_pos (l := s.data.toList) (fun e => h (by rw [← hsl, e]; rfl))
      rw [e] at this; simp at this
  have C1 : Hid (∀ w, TabAt w → Calls Tryd.prog 8 #[.string s] w fun e w' => ∃ v, e = .returned v ∧ Cls w' v (clus (runes s.data.toList)) ∧ Below w.heap.size w w') := by
    intro w h
    refine (gClusters_any s w h (by omega)).mono ?_
    rintro e w1 ⟨v, rfl, o, b⟩
    exact ⟨v, rfl, cls_own o, b⟩
  have K1 : Hid (∀ w, TabAt w → Calls Tryd.prog 11 #[.string s] w fun e w' => e = .returned (.int .i64 (wideSum (clus (runes s.data.toList)))) ∧ Below w.heap.size w w') :=
    fun w h => columns_any s w h (by omega)
  obtain ⟨l, hl⟩ : ∃ l, clus (runes s.data.toList) = l := ⟨_, rfl⟩
  rw [hl] at C1 K1 hC hbd hJl hJa hpos
  obtain ⟨J, hJ⟩ : ∃ J, joined l = J := ⟨_, rfl⟩
  rw [hJ] at hJl hJa
  have hJs : (⟨J.toArray⟩ : ByteArray).size = J.length := by simp [ByteArray.size]
  have C2 : Hid (∀ w, TabAt w → Calls Tryd.prog 8 #[.string ⟨J.toArray⟩] w fun e w' => ∃ v, e = .returned v ∧ Cls w' v l ∧ Below w.heap.size w w') := by
    intro w h
    refine (gClusters_any ⟨J.toArray⟩ w h (by rw [hJs]; omega)).mono ?_
    rintro e w1 ⟨v, rfl, o, b⟩
    rw [show (⟨J.toArray⟩ : ByteArray).data.toList = J from rfl, hJa] at o
    exact ⟨v, rfl, cls_own o, b⟩
  have K2 : Hid (∀ w, TabAt w → Calls Tryd.prog 11 #[.string ⟨J.toArray⟩] w fun e w' => e = .returned (.int .i64 (wideSum l)) ∧ Below w.heap.size w w') := by
    intro w h
    have := columns_any ⟨J.toArray⟩ w h (by rw [hJs]; omega)
    rw [show (⟨J.toArray⟩ : ByteArray).data.toList = J from rfl, hJa] at this
    exact this
  have HJ : Hid (joined l = J) := hJ
  have HBD : Hid (∀ c ∈ l, 0 ≤ c.2 ∧ c.2 ≤ 2) := hbd
  have HT : Hid (TabAt w) := ht
  have hJt : ∀ k, (joined (l.take k)).length ≤ J.length := fun k => by rw [← hJ]; exact joined_take_le l k
  have HJT : Hid (∀ k, (joined (l.take k)).length ≤ J.length) := hJt
  clear hl hJ hJa hJs ht hbd hsl hJt
  go_enter Tryd.func5, Tryd.ntmps5
  go_wp2_with fail
  refine (C1.out _ HT.out).mono ?_
  rintro e w1 ⟨v1, rfl, c1, b1⟩
  have HC1 : Hid (Cls w1 v1 l) := c1
  obtain ⟨a, cap, rfl, hh⟩ := c1
  have HT1 : Hid (TabAt w1) := HT.out.below b1
  go_wp2
  go_loop [4, 5, 6] (fun t n i => ∃ k : Nat, k ≤ l.length ∧ i = .int .i64 k ∧ t = .string ⟨(joined (l.take k)).toArray⟩ ∧ n = .int .i64 (wideSum (l.take k))) (fun _ _ i => l.length - (intOf i).toNat)
  case atStart => exact ⟨0, Nat.zero_le _, rfl, rfl, rfl⟩
  case round =>
    obtain ⟨k, hk, rfl, rfl, rfl⟩ := hrel
    have hwb := wideSum_bd l HBD.out k
    by_cases hlt : k < l.length
    · have hlt' : (k : Int) < (l.length : Int) := by omega
      have hne : l ≠ [] := fun e => by rw [e] at hlt; simp at hlt
      obtain ⟨b, off, rfl, hb, hc⟩ := hh.resolve_left hne
      obtain ⟨T, W, hTW⟩ : ∃ T W, l[k] = (T, W) := ⟨_, _, rfl⟩
      have hW := HBD.out l[k] (List.getElem_mem hlt)
      have q0 : w1.cell? ⟨b, off + k * 2, none⟩ = some (.string ⟨T.toArray⟩) := by have := (hc k hlt).1; rw [hTW] at this; exact this
      have q1 : w1.cell? ⟨b, off + k * 2 + 1, none⟩ = some (.int .i64 W) := by have := (hc k hlt).2; rw [hTW] at this; exact this
      have HS : Hid (wideSum (l.take (k + 1)) = wideSum (l.take k) + W) := by show _ = _; rw [wideSum_snoc l k hlt, hTW]
      have HJS : Hid (joined (l.take (k + 1)) = joined (l.take k) ++ T) := by show _ = _; rw [joined_snoc l k hlt, hTW]
      have hj1 := HJT.out (k + 1)
      rw [HJS.out, List.length_append] at hj1
      rw [hTW] at hW
      obtain ⟨X, hX⟩ : ∃ X, wideSum (l.take k) = X := ⟨_, rfl⟩
      obtain ⟨Y, hY⟩ : ∃ Y, joined (l.take k) = Y := ⟨_, rfl⟩
      rw [hX] at HS hwb
      rw [hY] at HJS hj1
      rw [hX, hY]
      simp only at hW
      clear hc hTW hX hY hne
      go_wp2
      go_round
      case rel => exact ⟨k + 1, by omega, by go_num, by rw [HJS.out, ← str_append], by rw [HS.out]⟩
      case measure => simp [intOf]; omega
    · have hlt' : ¬ (k : Int) < (l.length : Int) := by omega
      have e : l.take k = l := List.take_of_length_le (by omega)
      rw [e] at hwb
      rw [e, HJ.out]
      have hwb2 : wideSum l ≤ 2 * k := hwb.2
      obtain ⟨X, hX⟩ : ∃ X, wideSum l = X := ⟨_, rfl⟩
      rw [hX] at K1 K2
      rw [hX]
      clear e hh hX hwb hwb2
      go_wp2_with fail
      refine (C2.out _ HT1.out).mono ?_
      rintro e w2 ⟨v2, rfl, c2, b2⟩
      have HC2 : Hid (Cls w2 v2 l) := c2
      have HT2 : Hid (TabAt w2) := HT1.out.below b2
      clear c2
      go_wp2_with fail
      refine (alike_yes l _ _ _ (HC1.out.below b2) HC2.out (by omega)).mono ?_
      rintro e w3 ⟨rfl, b3⟩
      have HT3 : Hid (TabAt w3) := HT2.out.below b3
      go_wp2_with fail
      refine (K1.out _ HT3.out).mono ?_
      rintro e w4 ⟨rfl, b4⟩
      have HT4 : Hid (TabAt w4) := HT3.out.below b4
      go_wp2_with fail
      refine (K2.out _ HT4.out).mono ?_
      rintro e w5 ⟨rfl, b5⟩
      have hB : Below w.heap.size w w5 := by
        have s1 := b1.size; have s2 := b2.size; have s3 := b3.size; have s4 := b4.size
        exact b1.trans ((b2.mono s1).trans ((b3.mono (by omega)).trans ((b4.mono (by omega)).trans (b5.mono (by omega)))))
      clear b1 b2 b3 b4 b5
      rcases hpos with ⟨p1, p2⟩ | ⟨p1, p2⟩
      · have q1 : ¬ (0 : Int) < (s.size : Int) := by omega
        have q2 : ¬ (0 : Int) < (l.length : Int) := by omega
        clear p1 p2
        go_wp2
        go_ret
        exact ⟨by simp; omega, hB⟩
      · have q1 : (0 : Int) < (s.size : Int) := by omega
        have q2 : (0 : Int) < (l.length : Int) := by omega
        clear p1 p2
        go_wp2
        go_ret
        exact ⟨by simp; omega, hB⟩

theorem contract (H : Type) (enc : TypeId × Value → H) (W : World) (base : Nat) (args : Array Value) (ds gs : List (DataW H)) (before : List MemPlace)
    (hval : ∀ (j : Nat) t v, Tryd.f5.params[j]? = some t → args[j]? = some v → Value.okWide Tryd.prog W .any base t v)
    (hW : DataW.Whole enc Tryd.prog Tryd.f5.params.toList Rows.glyphJoinedSpec.vars false W args.toList ds gs before) (hk : Rows.uptoSmall H (ds ++ gs) = true) (hL : laidMetH Tryd.prog Rows.glyphJoinedUptoRow.laid W) :
    Calls Tryd.prog 5 args W fun e W' => ∃ v, e = .returned v ∧ Rows.glyphJoinedSpec.post enc Tryd.prog Tryd.f5 false true false false W args v W' := by
  have hW' := hW
  obtain ⟨p, q, hA0, hV, rfl, hfz, hnd⟩ := hW
  have hA : DataW.TrodAll enc Tryd.prog W 0 (fun _ => true) true Tryd.f5.params.toList args.toList ds p := hA0
  rw [Tryd.params5] at hA hval
  obtain ⟨v0, vs0, d0, ds0, p0, q0, hargs, rfl, rfl, h0, r0⟩ := trodAll_cons hA
  obtain ⟨rfl, rfl, rfl⟩ := trodAll_nil r0
  obtain rfl : args = #[v0] := by cases args; simp_all
  obtain ⟨rfl, rfl⟩ := trodVars_none hV
  obtain ⟨s, rfl, rfl, rfl, hmax⟩ := open_string Tryd.underlying9 (hval 0 9 v0 rfl rfl) h0
  clear hA0
  simp only [List.append_nil] at hW' hk
  refine (walk s W (tab_of (by kernel_rfl) hL) (short hk)).mono fun e W' ⟨he, bel⟩ => ?_
  subst he
  exact ⟨_, rfl, _, _, _, [], [], [], hW', trodAll_mk1 (shut_bool Tryd.underlying4 _), trodAll_mk1 (shut_string Tryd.underlying9 hmax), rfl, bel.frame _, fun h => by cases h⟩

theorem laid_met (os : Os) : laidMet Tryd.prog Rows.glyphJoinedUptoRow.laid ((withTab (World.holding Tryd.prog os ⟨#[], #[], []⟩)).forCall (fun _ _ => 0) ⟨#[], #[.string .empty], []⟩).memory :=
  laidMet_of_run' 8 (by kernel_rfl) (by kernel_rfl)
theorem reads (os : Os) {H : Type} (enc : TypeId × Value → H) : ∃ places, DataW.whole enc Tryd.prog ((withTab (World.holding Tryd.prog os ⟨#[], #[], []⟩)).forCall (fun _ _ => 0) ⟨#[], #[.string .empty], []⟩).memory Tryd.f5.params.toList Rows.glyphJoinedSpec.vars false #[Value.string .empty].toList 8 = some ([.lit (.string [])], [], places) :=
  ⟨[], by kernel_rfl⟩

set_option maxRecDepth 100000 in
theorem lifted (os : Os) (started : os.Started) (H : Type) (enc : TypeId × Value → H) (F : Stop.Interp) :
    ReturnsInHanded {} Tryd.checked os 5 .any ((Rows.OpenSpec.upto Rows.glyphJoinedSpec).preRow enc Tryd.prog Tryd.f5 Rows.glyphJoinedUptoRow.domain false Rows.glyphJoinedUptoRow.laid) (((Rows.OpenSpec.upto Rows.glyphJoinedSpec).at F).post enc Tryd.prog Tryd.f5 false true false false) := by
  obtain ⟨places, hx⟩ := reads os enc
  refine returnsInHanded_of_row (C := Tryd.checked) (s := Rows.OpenSpec.upto Rows.glyphJoinedSpec) own started (by kernel_rfl) Tryd.func5
    (witness_row_at (enc := enc) (C := Tryd.checked) false (withTab (World.holding Tryd.prog os ⟨#[], #[], []⟩)) #[.string .empty] rfl (by kernel_rfl) (by kernel_rfl) (by kernel_rfl)
      (OpenSpec.preRow_of_cond 8 hx (by kernel_rfl) (fun k hk => by cases hk; kernel_rfl) (by kernel_rfl) (laid_met os))) ?_
  intro W base args ds gs before hval hW _ hcond _ hL _ _
  exact contract H enc W base args ds gs before hval hW (hcond _ rfl) hL

theorem said : Rows.GlyphJoinedUptoSaid :=
  OpenClaim.holds_of_cond 5 Tryd.f5 rfl rfl rfl rfl rfl rfl rfl ⟨rfl, rfl, rfl, rfl, rfl⟩ rfl rfl rfl rfl rfl (by kernel_rfl) Tryd.func5 (by kernel_rfl)
    (of_decide_eq_true (by kernel_rfl)) (by unfold Func.isWrapper; first | (rw [if_pos (by decide +kernel)]; kernel_rfl) | (rw [if_neg (by decide +kernel)]; exact ⟨rfl, rfl⟩))
    (fun os started H enc _ F => by rw [OpenClaim.pre_eq_preRow]; exact lifted os started H enc F)

theorem plain (f : FuncId) (fn : Func) (hf : Tryd.pinned.checked.prog.funcNamed Rows.glyphJoinedUptoRow.func = some f) (hfn : Tryd.pinned.checked.prog.funcs[f]? = some fn) :
    false = Tryd.pinned.checked.prog.looks [] ∧ ∀ (j : Nat) t, fn.params[j]? = some t → Tryd.pinned.checked.prog.wantsStandIn t = false := by
  obtain rfl : f = 5 := Option.some.inj ((show Tryd.prog.funcNamed Rows.glyphJoinedUptoRow.func = some 5 by kernel_rfl).symm.trans hf) |>.symm
  obtain rfl : fn = Tryd.f5 := (Option.some.inj (Tryd.func5.symm.trans hfn)).symm
  refine ⟨by kernel_rfl, fun j t ht => ?_⟩
  rw [Tryd.params5] at ht
  obtain rfl : t = 9 := by simpa using Array.mem_of_getElem? ht
  exact (show Tryd.prog.wantsStandIn 9 = false by kernel_rfl)

theorem proved : Rows.GlyphJoinedUptoCardSaid :=
  Claim7.holds_tied_plain_at .later [] _ _ _ _ said (fun _ h => by cases h) (by kernel_rfl) (fun _ h => by cases h) glyphJoinedUpto_row_tie rfl ⟨rfl, rfl⟩ (by kernel_rfl) rfl plain (by kernel_rfl)
#print axioms proved
end Go.Proofs.YtlioofikfgdnmaaDoor.glyphJoined
