/-
  GlyphParted, for every two texts of bulk together at most 1048576.
-/
import Derived.Test.YtlioofikfgdnmabDoorCards
import Derived.Test.YtlioofikfgdnmabDoorTie
import Derived.Test.YtlioofikfgdnmabDoorTable
import Derived.Test.YtlioofikfgdnmabDoorAlike
import Derived.Test.YtlioofikfgdnmabDoorPart
import Derived.WalkKit
import Derived.ShutString
import Derived.Deep.DeepHandedRow
namespace Go.Proofs.YtlioofikfgdnmabDoor.glyphParted
open Go.ChangeShapes Go.WideShapes Go.ChangeAt Go.RowKit
open Go.ChangeMaps (open_string shut_string)
set_option linter.unusedVariables false

theorem own : ownKnob Tryd.prog.godebug = none := by kernel_rfl
theorem short {H : Type} {s u : ByteArray} (hk : Rows.uptoSmall H [.lit (.string s.data.toList), .lit (.string u.data.toList)] = true) : s.size + u.size ≤ 1048576 := by
  have h : Rows.uptoBulkAll [DataW.lit (H := H) (.string s.data.toList), DataW.lit (.string u.data.toList)] ≤ 1048576 := of_decide_eq_true hk
  simp only [Rows.uptoBulkAll, Rows.uptoBulk] at h
  have e : s.data.toList.length = s.size := by rw [Array.length_toList]; rfl
  have e2 : u.data.toList.length = u.size := by rw [Array.length_toList]; rfl
  omega
theorem infoC : (Tryd.prog.info? 29).map (fun i => (i.zero, i.size, i.bytes)) = some (some (.agg #[.string ⟨#[]⟩, .int .i64 0]), 2, 24) := by kernel_rfl
theorem data_append (a b : ByteArray) : (a ++ b).data.toList = a.data.toList ++ b.data.toList := by simp
theorem byt_first (s : ByteArray) (h : 0 < s.size) : byt s.data.toList 0 = (s[0]'h).toNat := by
  have := get_byt s 0 0
  simp only [Nat.zero_add, List.drop_zero] at this
  rw [← this]
  have e := get_at s 0 h
  simp only [Nat.add_zero] at e
  rw [e]
theorem cCells_one (l : List (List UInt8 × Int)) : ∀ u ∈ cCells l, u.oneCell' = true := by
  intro u hu
  obtain ⟨c, _, hc⟩ := List.mem_flatMap.1 hu
  simp at hc
  rcases hc with rfl | rfl <;> rfl

set_option maxHeartbeats 2000000 in
theorem walk_main (s u : ByteArray) (w : World) (ht : TabAt w) (hs : s.size + u.size ≤ 1048576) (hu : 0 < u.size) (h0 : 32 < (u[0]'hu).toNat) (h1 : (u[0]'hu).toNat < 127) :
    Calls Tryd.prog 3 #[.string s, .string u] w fun e w' => e = .returned (.bool true) ∧ Below w.heap.size w w' := by
  obtain ⟨i0, hi, hz0, hz1, hz2⟩ := info_parts infoC
  have hsl : s.data.toList.length = s.size := by rw [Array.length_toList]; rfl
  have hul : u.data.toList.length = u.size := by rw [Array.length_toList]; rfl
  have hbf := byt_first u hu
  have hP := parted s.data.toList u.data.toList (by rw [hbf]; exact h0) (by rw [hbf]; exact h1)
  have hmp := clus_pos (runes_head u.data.toList (by rw [hbf]; exact h0) (by rw [hbf]; exact h1)).2
  have l1 := runes_length s.data.toList
  have l2 := clus_length (runes s.data.toList)
  have l3 := runes_length u.data.toList
  have l4 := clus_length (runes u.data.toList)
  have hsu : (s ++ u).size = s.size + u.size := by simp
  rw [hsl] at l1
  rw [hul] at l3
  have C1 : Hid (∀ w, TabAt w → Calls Tryd.prog 4 #[.string s] w fun e w' => ∃ v, e = .returned v ∧ w'.ownsRow w.heap.size 29 2 v (clus (runes s.data.toList)).length (cCells (clus (runes s.data.toList))) ∧ Below w.heap.size w w') :=
    fun w h => gClusters_any s w h (by omega)
  have C2 : Hid (∀ w, TabAt w → Calls Tryd.prog 4 #[.string u] w fun e w' => ∃ v, e = .returned v ∧ w'.ownsRow w.heap.size 29 2 v (clus (runes u.data.toList)).length (cCells (clus (runes u.data.toList))) ∧ Below w.heap.size w w') :=
    fun w h => gClusters_any u w h (by omega)
  have C3 : Hid (∀ w, TabAt w → Calls Tryd.prog 4 #[.string (s ++ u)] w fun e w' => ∃ v, e = .returned v ∧ Cls w' v (clus (runes s.data.toList) ++ clus (runes u.data.toList)) ∧ Below w.heap.size w w') := by
    intro w h
    refine (gClusters_any (s ++ u) w h (by rw [hsu]; omega)).mono ?_
    rintro e w1 ⟨v, rfl, o, b⟩
    rw [data_append, hP] at o
    exact ⟨v, rfl, cls_own o, b⟩
  obtain ⟨l, hl⟩ : ∃ l, clus (runes s.data.toList) = l := ⟨_, rfl⟩
  obtain ⟨m, hm⟩ : ∃ m, clus (runes u.data.toList) = m := ⟨_, rfl⟩
  rw [hl] at C1 C3 l2
  rw [hm] at C2 C3 l4 hmp
  have HT : Hid (TabAt w) := ht
  have q0 : ¬ ((u[0]'hu).toNat : Int) ≤ 32 := by omega
  have q1 : ¬ (127 : Int) ≤ ((u[0]'hu).toNat : Int) := by omega
  have q2 : ((u.size : Int) == 0) = false := by rw [beq_eq_false_iff_ne]; omega
  have hap : ∀ z : World, (Builtin.append_ #[22, 22] 22 #[.slice none 0 0, .slice none 0 0]).run Tryd.prog z = .ok (.slice none 0 0) z := fun _ => by kernel_rfl
  have HAP : Hid (∀ z : World, (Builtin.append_ #[22, 22] 22 #[.slice none 0 0, .slice none 0 0]).run Tryd.prog z = .ok (.slice none 0 0) z) := hap
  clear hl hm hP hbf h0 h1 ht hsl hul hsu hap
  go_enter Tryd.func3, Tryd.ntmps3
  go_wp2_with fail
  refine (C1.out _ HT.out).mono ?_
  rintro e w1 ⟨v1, rfl, o1, b1⟩
  have HO1 : Hid (w1.ownsRow w.heap.size 29 2 v1 l.length (cCells l)) := o1
  have HT1 : Hid (TabAt w1) := HT.out.below b1
  clear o1
  go_wp2_with fail
  refine (C2.out _ HT1.out).mono ?_
  rintro e w2 ⟨v2, rfl, o2, b2⟩
  have HO2 : Hid (w2.ownsRow w1.heap.size 29 2 v2 m.length (cCells m)) := o2
  have HT2 : Hid (TabAt w2) := HT1.out.below b2
  clear o2
  go_wp2_with fail
  refine (C3.out _ HT2.out).mono ?_
  rintro e w3 ⟨v3, rfl, c3, b3⟩
  have HC3 : Hid (Cls w3 v3 (l ++ m)) := c3
  have HO13 : Hid (w3.ownsRow w.heap.size 29 2 v1 l.length (cCells l)) := own_below2 (own_below2 HO1.out b2) b3
  have HO23 : Hid (w3.ownsRow w1.heap.size 29 2 v2 m.length (cCells m)) := own_below2 HO2.out b3
  have hB3 : Below w.heap.size w w3 := by
    have s1 := b1.size; have s2 := b2.size
    exact b1.trans ((b2.mono s1).trans (b3.mono (by omega)))
  have HB3 : Hid (Below w.heap.size w w3) := hB3
  have hs3 := hB3.size
  clear c3 b1 b2 b3 hB3 HO1 HO2
  obtain ⟨g2, cap2, hv2⟩ : ∃ g cap, v2 = .slice (some ⟨g, 0, none⟩) m.length cap := by
    rcases HO23.out.2 with ⟨_, h⟩ | ⟨g, cap, cur, h, _⟩
    · omega
    · exact ⟨g, cap, h⟩
  have hmp' : (0 : Int) < (m.length : Int) := by omega
  have HN2 : Hid (∀ (z : World), Below w3.heap.size w3 z → ∀ j x, (cCells m)[j]? = some x → z.cell? ((⟨g2, 0, none⟩ : Addr).add j) = some x) := by
    intro z hz j x hx
    exact (own_below2 HO23.out hz).cells (g := g2) (by rw [hv2]; rfl) j x hx
  subst hv2
  have LM : Hid ((cCells m).length = m.length * 2) := cCells_length m
  have LL : Hid ((cCells l).length = l.length * 2) := cCells_length l
  have O1m : Hid (∀ x ∈ cCells m, x.oneCell' = true) := cCells_one m
  have O1l : Hid (∀ x ∈ cCells l, x.oneCell' = true) := cCells_one l
  have FIN : Hid (∀ (v5 : Value) (w5 : World), w5.ownsRow w3.heap.size 29 2 v5 (l.length + m.length) (cCells l ++ cCells m) → Below w3.heap.size w3 w5 → Calls Tryd.prog 5 #[v3, v5] w5 fun e w' => e = .returned (.bool true) ∧ Below w.heap.size w w') := by
    intro v5 w5 o5 b5
    rw [← cCells_append] at o5
    refine (alike_yes (l ++ m) v3 v5 w5 (HC3.out.below b5) (cls_own o5) (by rw [List.length_append]; omega)).mono ?_
    rintro e w6 ⟨rfl, b6⟩
    exact ⟨rfl, HB3.out.trans ((b5.mono hs3).trans (b6.mono (by have := b5.size; omega)))⟩
  have hv1 : v1 = .slice none 0 0 ∧ l.length = 0 ∨ ∃ g cap, v1 = .slice (some ⟨g, 0, none⟩) l.length cap := by
    rcases HO13.out.2 with h | ⟨g, cap, cur, h, _⟩
    · exact .inl h
    · exact .inr ⟨g, cap, h⟩
  rcases hv1 with ⟨hv1, hl0⟩ | ⟨g1, cap1, hv1⟩
  · have hll : l = [] := List.length_eq_zero_iff.1 hl0
    subst hv1
    subst hll
    have hap := HAP.out
    clear HO13 HO23 hl0
    go_wp2_with (at_builtin; refine wpList_append_own _ rfl _ _ 22 rfl w3.heap.size 29 i0 (.agg #[.string ⟨#[]⟩, .int .i64 0]) 2 24 Tryd.underlying22 hi hz0 hz1 hz2 rfl (by decide) _ 0 [] rfl (World.ownsRow_nil _ _ _ _) ⟨g2, 0, none⟩ m.length cap2 (cCells m) rfl ?a0 ?a1 ?a2 ?a3 ?a4 ?a5 ?_)
    case a0 => exact LM.out
    case a1 => exact HN2.out _ (Below.refl _ _)
    case a2 => exact O1m.out
    case a3 => unfold maxLen; omega
    case a4 => omega
    case a5 => exact Nat.le_refl _
    intro v5 w5 o5 hg _
    have b5 : Below w3.heap.size w3 w5 := (Below.refl _ _).grown hg (Nat.le_refl _) (fun k hk => by simp [Value.ownBlock] at hk)
    have HO5 : Hid (w5.ownsRow w3.heap.size 29 2 v5 (([] : List (List UInt8 × Int)).length + m.length) (cCells ([] : List (List UInt8 × Int)) ++ cCells m)) := by
      show World.ownsRow _ _ _ _ _ (0 + m.length) (cCells m)
      rw [Nat.zero_add]; exact o5
    clear o5 hg
    go_wp2_with fail
    refine (FIN.out v5 w5 HO5.out b5).mono ?_
    rintro e w6 ⟨rfl, b6⟩
    go_wp2
    go_ret
    exact ⟨by first | rfl | (simp; done) | (simp; omega), b6⟩
  · have HN1 : Hid (∀ j x, (cCells l)[j]? = some x → w3.cell? ((⟨g1, 0, none⟩ : Addr).add j) = some x) := by
      intro j x hx
      exact HO13.out.cells (g := g1) (by rw [hv1]; rfl) j x hx
    subst hv1
    clear HO13 HO23
    go_wp2_with (at_builtin; refine wpList_append_own _ rfl _ _ 22 rfl w3.heap.size 29 i0 (.agg #[.string ⟨#[]⟩, .int .i64 0]) 2 24 Tryd.underlying22 hi hz0 hz1 hz2 rfl (by decide) _ 0 [] rfl (World.ownsRow_nil _ _ _ _) ⟨g1, 0, none⟩ l.length cap1 (cCells l) rfl ?d0 ?d1 ?d2 ?d3 ?d4 ?d5 ?_)
    case d0 => exact LL.out
    case d1 => exact HN1.out
    case d2 => exact O1l.out
    case d3 => unfold maxLen; omega
    case d4 => omega
    case d5 => exact Nat.le_refl _
    intro v4 w4 o4 hg4 _
    have b4 : Below w3.heap.size w3 w4 := (Below.refl _ _).grown hg4 (Nat.le_refl _) (fun k hk => by simp [Value.ownBlock] at hk)
    have hs4 := b4.size
    have o4' : w4.ownsRow w3.heap.size 29 2 v4 l.length (cCells l) := by simpa using o4
    clear o4 hg4
    go_wp2_with (at_builtin; refine wpList_append_own _ rfl _ _ 22 rfl w3.heap.size 29 i0 (.agg #[.string ⟨#[]⟩, .int .i64 0]) 2 24 Tryd.underlying22 hi hz0 hz1 hz2 rfl (by decide) _ _ _ rfl o4' ⟨g2, 0, none⟩ m.length cap2 (cCells m) rfl ?e0 ?e1 ?e2 ?e3 ?e4 ?e5 ?_)
    case e0 => exact LM.out
    case e1 => exact HN2.out _ b4
    case e2 => exact O1m.out
    case e3 => unfold maxLen; omega
    case e4 => omega
    case e5 => exact hs4
    intro v5 w5 o5 hg5 _
    have b5 : Below w3.heap.size w3 w5 := b4.grown hg5 hs4 (fun k hk => (o4'.lt k hk).1)
    have HO5 : Hid (w5.ownsRow w3.heap.size 29 2 v5 (l.length + m.length) (cCells l ++ cCells m)) := o5
    clear o5 hg5 o4' b4
    go_wp2_with fail
    refine (FIN.out v5 w5 HO5.out b5).mono ?_
    rintro e w6 ⟨rfl, b6⟩
    go_wp2
    go_ret
    exact ⟨by first | rfl | (simp; done) | (simp; omega), b6⟩

set_option maxHeartbeats 1000000 in
theorem walk (s u : ByteArray) (w : World) (ht : TabAt w) (hs : s.size + u.size ≤ 1048576) :
    Calls Tryd.prog 3 #[.string s, .string u] w fun e w' => e = .returned (.bool true) ∧ Below w.heap.size w w' := by
  by_cases hu : 0 < u.size
  · have q2 : ((u.size : Int) == 0) = false := by rw [beq_eq_false_iff_ne]; omega
    by_cases h0 : 32 < (u[0]'hu).toNat
    · by_cases h1 : (u[0]'hu).toNat < 127
      · exact walk_main s u w ht hs hu h0 h1
      · have q0 : ¬ ((u[0]'hu).toNat : Int) ≤ 32 := by omega
        have q1 : (127 : Int) ≤ ((u[0]'hu).toNat : Int) := by omega
        clear h0 h1 ht
        go_enter Tryd.func3, Tryd.ntmps3
        go_wp2
        go_ret
        exact ⟨rfl, Below.refl _ _⟩
    · have q0 : ((u[0]'hu).toNat : Int) ≤ 32 := by omega
      clear h0 ht
      go_enter Tryd.func3, Tryd.ntmps3
      go_wp2
      go_ret
      exact ⟨rfl, Below.refl _ _⟩
  · have q2 : ((u.size : Int) == 0) = true := by rw [beq_iff_eq]; omega
    clear hu ht
    go_enter Tryd.func3, Tryd.ntmps3
    go_wp2
    go_ret
    exact ⟨rfl, Below.refl _ _⟩

theorem contract (H : Type) (enc : TypeId × Value → H) (W : World) (base : Nat) (args : Array Value) (ds gs : List (DataW H)) (before : List MemPlace)
    (hval : ∀ (j : Nat) t v, Tryd.f3.params[j]? = some t → args[j]? = some v → Value.okWide Tryd.prog W .any base t v)
    (hW : DataW.Whole enc Tryd.prog Tryd.f3.params.toList Rows.glyphPartedSpec.vars false W args.toList ds gs before) (hk : Rows.uptoSmall H (ds ++ gs) = true) (hL : laidMetH Tryd.prog Rows.glyphPartedUptoRow.laid W) :
    Calls Tryd.prog 3 args W fun e W' => ∃ v, e = .returned v ∧ Rows.glyphPartedSpec.post enc Tryd.prog Tryd.f3 false true false false W args v W' := by
  have hW' := hW
  obtain ⟨p, q, hA0, hV, rfl, hfz, hnd⟩ := hW
  have hA : DataW.TrodAll enc Tryd.prog W 0 (fun _ => true) true Tryd.f3.params.toList args.toList ds p := hA0
  rw [Tryd.params3] at hA hval
  obtain ⟨v0, vs0, d0, ds0, p0, q0, hargs, rfl, rfl, h0, r0⟩ := trodAll_cons hA
  obtain ⟨v1, vs1, d1, ds1, p1, q1, rfl, rfl, rfl, h1, r1⟩ := trodAll_cons r0
  obtain ⟨rfl, rfl, rfl⟩ := trodAll_nil r1
  obtain rfl : args = #[v0, v1] := by cases args; simp_all
  obtain ⟨rfl, rfl⟩ := trodVars_none hV
  obtain ⟨s, rfl, rfl, rfl, hmax⟩ := open_string Tryd.underlying9 (hval 0 9 v0 rfl rfl) h0
  obtain ⟨u, rfl, rfl, rfl, hmax1⟩ := open_string Tryd.underlying9 (hval 1 9 v1 rfl rfl) h1
  clear hA0
  simp only [List.append_nil] at hW' hk
  refine (walk s u W (tab_of (by kernel_rfl) hL) (short hk)).mono fun e W' ⟨he, bel⟩ => ?_
  subst he
  exact ⟨_, rfl, _, _, _, [], [], [], hW', trodAll_mk1 (shut_bool Tryd.underlying4 _), (trodAll_cons_mk (shut_string Tryd.underlying9 hmax) (trodAll_cons_mk (shut_string Tryd.underlying9 hmax1) trodAll_mk0)), rfl, bel.frame _, fun h => by cases h⟩

theorem laid_met (os : Os) : laidMet Tryd.prog Rows.glyphPartedUptoRow.laid ((withTab (World.holding Tryd.prog os ⟨#[], #[], []⟩)).forCall (fun _ _ => 0) ⟨#[], #[.string .empty, .string .empty], []⟩).memory :=
  laidMet_of_run' 8 (by kernel_rfl) (by kernel_rfl)
theorem reads (os : Os) {H : Type} (enc : TypeId × Value → H) : ∃ places, DataW.whole enc Tryd.prog ((withTab (World.holding Tryd.prog os ⟨#[], #[], []⟩)).forCall (fun _ _ => 0) ⟨#[], #[.string .empty, .string .empty], []⟩).memory Tryd.f3.params.toList Rows.glyphPartedSpec.vars false #[Value.string .empty, Value.string .empty].toList 8 = some ([.lit (.string []), .lit (.string [])], [], places) :=
  ⟨[], by kernel_rfl⟩

set_option maxRecDepth 100000 in
theorem lifted (os : Os) (started : os.Started) (H : Type) (enc : TypeId × Value → H) (F : Stop.Interp) :
    ReturnsInHanded {} Tryd.checked os 3 .any ((Rows.OpenSpec.upto Rows.glyphPartedSpec).preRow enc Tryd.prog Tryd.f3 Rows.glyphPartedUptoRow.domain false Rows.glyphPartedUptoRow.laid) (((Rows.OpenSpec.upto Rows.glyphPartedSpec).at F).post enc Tryd.prog Tryd.f3 false true false false) := by
  obtain ⟨places, hx⟩ := reads os enc
  refine returnsInHanded_of_row (C := Tryd.checked) (s := Rows.OpenSpec.upto Rows.glyphPartedSpec) own started (by kernel_rfl) Tryd.func3
    (witness_row_at (enc := enc) (C := Tryd.checked) false (withTab (World.holding Tryd.prog os ⟨#[], #[], []⟩)) #[.string .empty, .string .empty] rfl (by kernel_rfl) (by kernel_rfl) (by kernel_rfl)
      (OpenSpec.preRow_of_cond 8 hx (by kernel_rfl) (fun k hk => by cases hk; kernel_rfl) (by kernel_rfl) (laid_met os))) ?_
  intro W base args ds gs before hval hW _ hcond _ hL _ _
  exact contract H enc W base args ds gs before hval hW (hcond _ rfl) hL

theorem said : Rows.GlyphPartedUptoSaid :=
  OpenClaim.holds_of_cond 3 Tryd.f3 rfl rfl rfl rfl rfl rfl rfl ⟨rfl, rfl, rfl, rfl, rfl⟩ rfl rfl rfl rfl rfl (by kernel_rfl) Tryd.func3 (by kernel_rfl)
    (of_decide_eq_true (by kernel_rfl)) (by unfold Func.isWrapper; first | (rw [if_pos (by decide +kernel)]; kernel_rfl) | (rw [if_neg (by decide +kernel)]; exact ⟨rfl, rfl⟩))
    (fun os started H enc _ F => by rw [OpenClaim.pre_eq_preRow]; exact lifted os started H enc F)

theorem plain (f : FuncId) (fn : Func) (hf : Tryd.pinned.checked.prog.funcNamed Rows.glyphPartedUptoRow.func = some f) (hfn : Tryd.pinned.checked.prog.funcs[f]? = some fn) :
    false = Tryd.pinned.checked.prog.looks [] ∧ ∀ (j : Nat) t, fn.params[j]? = some t → Tryd.pinned.checked.prog.wantsStandIn t = false := by
  obtain rfl : f = 3 := Option.some.inj ((show Tryd.prog.funcNamed Rows.glyphPartedUptoRow.func = some 3 by kernel_rfl).symm.trans hf) |>.symm
  obtain rfl : fn = Tryd.f3 := (Option.some.inj (Tryd.func3.symm.trans hfn)).symm
  refine ⟨by kernel_rfl, fun j t ht => ?_⟩
  rw [Tryd.params3] at ht
  obtain rfl : t = 9 := by simpa using Array.mem_of_getElem? ht
  exact (show Tryd.prog.wantsStandIn 9 = false by kernel_rfl)

theorem proved : Rows.GlyphPartedUptoCardSaid :=
  Claim7.holds_tied_plain_at .later [] _ _ _ _ said (fun _ h => by cases h) (by kernel_rfl) (fun _ h => by cases h) glyphPartedUpto_row_tie rfl ⟨rfl, rfl⟩ (by kernel_rfl) rfl plain (by kernel_rfl)
#print axioms proved
end Go.Proofs.YtlioofikfgdnmabDoor.glyphParted
