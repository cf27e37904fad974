/-
  GlyphDecodes, for every text of bulk at most 1048576.
-/
import Derived.Test.YtlioofikfgdnmaaRows
import Derived.Test.YtlioofikfgdnmaaRDec
import Derived.Test.YtlioofikfgdnmaaSpoil
import Derived.Test.YtlioofikfgdnmaaSame
import Derived.WalkKit
import Derived.ProofKit
import Derived.OpenShut
import Derived.ShutString
import Derived.ChangeOld
import Derived.Below
import Derived.JoinedCond
namespace Go.Proofs.Ytlioofikfgdnmaa.glyphDecodes
open Go.ChangeShapes Go.WideShapes Go.ChangeAt Go.RowKit
open Go.ChangeMaps (open_string shut_string)
set_option linter.unusedVariables false

theorem own : ownKnob Try.prog.godebug = none := by kernel_rfl

theorem short {H : Type} {s : ByteArray} (hk : Rows.uptoSmall H [.lit (.string s.data.toList)] = true) : s.size ≤ 1048576 := by
  have h : Rows.uptoBulkAll [DataW.lit (H := H) (.string s.data.toList)] ≤ 1048576 := of_decide_eq_true hk
  simp only [Rows.uptoBulkAll, Rows.uptoBulk] at h
  have e : s.data.toList.length = s.size := by rw [Array.length_toList]; rfl
  omega

theorem own_below {w w' : World} {B n : Nat} {e : TypeId} {v : Value} {xs : List Value} (h : w.ownsRow B e 1 v n xs) (hb : Below w.heap.size w w') : w'.ownsRow B e 1 v n xs := by
  refine ⟨h.1, ?_⟩
  rcases h.2 with h2 | ⟨g, cap, cur, a, b, c, d⟩
  · exact .inl h2
  · exact .inr ⟨g, cap, cur, a, b, by rw [hb.block g (Array.getElem?_eq_some_iff.1 c).1]; exact c, d⟩

set_option maxHeartbeats 1000000 in
theorem walk (s : ByteArray) (w : World) (hs : s.size ≤ 1048576) :
    Calls Try.prog 3 #[.string s] w fun e w' => e = .returned (.bool true) ∧ Below w.heap.size w w' := by
  have hR := runes_length s.data.toList
  rw [len_data] at hR
  go_enter Try.func3, Try.ntmps3
  go_wp2_with fail
  refine (gDecode_any s _ (by omega)).mono ?_
  rintro e w1 ⟨v1, rfl, o1, b1⟩
  go_wp2_with fail
  refine (gDecode_any ⟨#[111, 116, 104, 101, 114]⟩ _ (by decide)).mono ?_
  rintro e w2 ⟨v2, rfl, o2, b2⟩
  go_wp2_with fail
  refine (rDecode_any s _ (by omega)).mono ?_
  rintro e w3 ⟨m, rfl, o3, b3⟩
  have I1 : Ints w3 v1 (runes s.data.toList) := ((ints_own o1).below b2).below b3
  have I3 : Ints w3 m (runes s.data.toList) := ints_own o3
  clear o2
  go_wp2_with fail
  refine (same_yes _ _ _ _ I1 I3 (by omega)).mono ?_
  rintro e w4 ⟨rfl, b4⟩
  have o1' := own_below (own_below (own_below o1 b2) b3) b4
  have o3' := own_below o3 b4
  clear I1 I3
  go_wp2_with fail
  refine (spoil_any _ _ _ _ _ (by omega) o1').mono ?_
  rintro e w5 ⟨rfl, g5⟩
  have hne : m.ownBlock = none ∨ m.ownBlock ≠ v1.ownBlock := by
    cases hm : m.ownBlock with
    | none => exact .inl rfl
    | some q =>
      refine .inr fun e => ?_
      have a := (o1.lt q e.symm).2
      have b := (o3.lt q hm).1
      have c := b2.size
      omega
  have o3'' := o3'.kept g5 hne
  have hB1 : w.heap.size ≤ w4.heap.size := Nat.le_trans b1.size (Nat.le_trans b2.size (Nat.le_trans b3.size b4.size))
  have B4 : Below w.heap.size w w4 := b1.trans ((b2.mono b1.size).trans ((b3.mono (Nat.le_trans b1.size b2.size)).trans (b4.mono (Nat.le_trans b1.size (Nat.le_trans b2.size b3.size)))))
  have B5 : Below w.heap.size w w5 := B4.grown g5 hB1 (fun q hq => (o1.lt q hq).1)
  clear o1 o3 o1' o3' hne g5 b1 b2 b3 b4 B4
  go_wp2_with fail
  refine (gDecode_any s _ (by omega)).mono ?_
  rintro e w6 ⟨v6, rfl, o6, b6⟩
  have I6 : Ints w6 v6 (runes s.data.toList) := ints_own o6
  have I7 : Ints w6 m (runes s.data.toList) := (ints_own o3'').below b6
  clear o6 o3''
  go_wp2_with fail
  refine (same_yes _ _ _ _ I6 I7 (by omega)).mono ?_
  rintro e w7 ⟨rfl, b7⟩
  go_wp2
  go_ret
  exact ⟨rfl, B5.trans ((b6.mono B5.size).trans (b7.mono (Nat.le_trans B5.size b6.size)))⟩

theorem contract (H : Type) (enc : TypeId × Value → H) (W : World) (base : Nat) (args : Array Value) (ds gs : List (DataW H)) (before : List MemPlace)
    (hval : ∀ (j : Nat) t v, Try.f3.params[j]? = some t → args[j]? = some v → Value.okWide Try.prog W .any base t v)
    (hW : DataW.Whole enc Try.prog Try.f3.params.toList Rows.glyphDecodesSpec.vars false W args.toList ds gs before) (hk : Rows.uptoSmall H (ds ++ gs) = true) :
    Calls Try.prog 3 args W fun e W' => ∃ v, e = .returned v ∧ Rows.glyphDecodesSpec.post enc Try.prog Try.f3 false true false false W args v W' := by
  have hW' := hW
  obtain ⟨p, q, hA0, hV, rfl, hfz, hnd⟩ := hW
  have hA : DataW.TrodAll enc Try.prog W 0 (fun _ => true) true Try.f3.params.toList args.toList ds p := hA0
  rw [Try.params3] at hA hval
  obtain ⟨v0, vs0, d0, ds0, p0, q0, hargs, rfl, rfl, h0, r0⟩ := trodAll_cons hA
  obtain ⟨rfl, rfl, rfl⟩ := trodAll_nil r0
  obtain rfl : args = #[v0] := by cases args; simp_all
  obtain ⟨rfl, rfl⟩ := trodVars_none hV
  obtain ⟨s, rfl, rfl, rfl, hmax⟩ := open_string Try.underlying9 (hval 0 9 v0 rfl rfl) h0
  clear hA0
  simp only [List.append_nil] at hW' hk
  refine (walk s W (short hk)).mono fun e W' ⟨he, bel⟩ => ?_
  subst he
  exact ⟨_, rfl, _, _, _, [], [], [], hW', trodAll_mk1 (shut_bool Try.underlying4 _), trodAll_mk1 (shut_string Try.underlying9 hmax), rfl, bel.frame _, fun h => by cases h⟩

set_option maxRecDepth 100000 in
theorem lifted (os : Os) (started : os.Started) (H : Type) (enc : TypeId × Value → H) (F : Stop.Interp) :
    ReturnsInHanded {} Try.checked os 3 .any ((Rows.OpenSpec.upto Rows.glyphDecodesSpec).pre6 enc Try.prog Try.f3 Rows.glyphDecodesUptoRow.domain false) (((Rows.OpenSpec.upto Rows.glyphDecodesSpec).at F).post enc Try.prog Try.f3 false true false false) := by
  refine returnsInHanded_of_cond (C := Try.checked) (s := Rows.OpenSpec.upto Rows.glyphDecodesSpec) (k := Rows.uptoSmall) rfl own started (by kernel_rfl) Try.func3
    (OpenSpec.witness (enc := enc) (C := Try.checked) (s := Rows.OpenSpec.upto Rows.glyphDecodesSpec) (k := Rows.uptoSmall) rfl false ⟨#[], #[.string .empty], []⟩ 8 (by kernel_rfl) (by kernel_rfl) (by kernel_rfl)
      (x := ([.lit (.string [])], [], [])) (by kernel_rfl) rfl (by kernel_rfl)) ?_
  intro W base args ds gs before hval hW _ hk _
  exact contract H enc W base args ds gs before hval hW hk

theorem proved : Rows.GlyphDecodesUptoSaid :=
  OpenClaim.holds_of_cond 3 Try.f3 rfl rfl rfl rfl rfl rfl rfl ⟨rfl, rfl, rfl, rfl, rfl⟩ rfl rfl rfl rfl rfl (by kernel_rfl) Try.func3 (by kernel_rfl)
    (of_decide_eq_true (by kernel_rfl)) (by unfold Func.isWrapper; first | (rw [if_pos (by decide +kernel)]; kernel_rfl) | (rw [if_neg (by decide +kernel)]; exact ⟨rfl, rfl⟩))
    (fun os started H enc _ F => lifted os started H enc F)
#print axioms proved
end Go.Proofs.Ytlioofikfgdnmaa.glyphDecodes
