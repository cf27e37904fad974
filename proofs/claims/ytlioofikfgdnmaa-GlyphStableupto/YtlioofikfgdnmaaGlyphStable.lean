/-
  GlyphStable, for every text of bulk at most 1048576.
-/
import Derived.Test.YtlioofikfgdnmaaRows
import Derived.Test.YtlioofikfgdnmaaAgain
import Derived.Test.YtlioofikfgdnmaaDec
import Derived.Test.YtlioofikfgdnmaaEncRef
import Derived.Test.YtlioofikfgdnmaaSame
import Derived.WalkKit
import Derived.ProofKit
import Derived.OpenShut
import Derived.ShutString
import Derived.ChangeOld
import Derived.Below
import Derived.JoinedCond
namespace Go.Proofs.Ytlioofikfgdnmaa.glyphStable
open Go.ChangeShapes Go.WideShapes Go.ChangeAt Go.RowKit
open Go.ChangeMaps (open_string shut_string)
set_option linter.unusedVariables false

theorem own : ownKnob Try.prog.godebug = none := by kernel_rfl

theorem short {H : Type} {s : ByteArray} (hk : Rows.uptoSmall H [.lit (.string s.data.toList)] = true) : s.size ≤ 1048576 := by
  have h : Rows.uptoBulkAll [DataW.lit (H := H) (.string s.data.toList)] ≤ 1048576 := of_decide_eq_true hk
  simp only [Rows.uptoBulkAll, Rows.uptoBulk] at h
  have e : s.data.toList.length = s.size := by rw [Array.length_toList]; rfl
  omega

theorem len_data' (s : ByteArray) : s.data.toList.length = s.size := by rw [Array.length_toList]; rfl

theorem ints_len {w : World} {v : Value} {zs : List Int} (h : Ints w v zs) : ∃ a cap, v = .slice a zs.length cap := by
  obtain ⟨a, cap, rfl, _⟩ := h; exact ⟨a, cap, rfl⟩

set_option maxHeartbeats 1000000 in
theorem walk (s : ByteArray) (w : World) (hs : s.size ≤ 1048576) :
    Calls Try.prog 5 #[.string s] w fun e w' => e = .returned (.bool true) ∧ Below w.heap.size w w' := by
  obtain ⟨R, hRe⟩ : ∃ R, runes s.data.toList = R := ⟨_, rfl⟩
  obtain ⟨T, hTe⟩ : ∃ T, enc R = T := ⟨_, rfl⟩
  have hR := runes_length s.data.toList
  rw [len_data', hRe] at hR
  have hT := enc_le R
  rw [hTe] at hT
  have hTR : runes T = R := by rw [← hTe, ← hRe]; exact runes_again _
  have HRe : Hid (runes s.data.toList = R) := hRe
  have HTe : Hid (enc R = T) := hTe
  have HTR : Hid (runes T = R) := hTR
  have hpos : (s.size = 0 ∧ R.length = 0) ∨ (0 < s.size ∧ 0 < R.length) := by
    by_cases h : s.size = 0
    · exact .inl ⟨h, by omega⟩
    · refine .inr ⟨by omega, ?_⟩
      rw [← hRe]
      exact runes_pos (fun e => h (by rw [← len_data', e]; rfl))
  clear hRe hTe hTR
  have D1 : Hid (∀ w, Calls Try.prog 6 #[.string s] w fun e w' => ∃ v, e = .returned v ∧ Ints w' v R ∧ Below w.heap.size w w') := by
    intro w
    refine (gDecode_any s w (by omega)).mono ?_
    rintro e w1 ⟨v1, rfl, o1, b1⟩
    exact ⟨v1, rfl, by rw [← HRe.out]; exact ints_own o1, b1⟩
  have D2 : Hid (∀ w, Calls Try.prog 6 #[.string ⟨T.toArray⟩] w fun e w' => ∃ v, e = .returned v ∧ Ints w' v R ∧ Below w.heap.size w w') := by
    intro w
    have hTs : (⟨T.toArray⟩ : ByteArray).size = T.length := by simp [ByteArray.size]
    refine (gDecode_any ⟨T.toArray⟩ w (by rw [hTs]; omega)).mono ?_
    rintro e w1 ⟨v1, rfl, o1, b1⟩
    rw [show (⟨T.toArray⟩ : ByteArray).data.toList = T from rfl, HTR.out] at o1
    exact ⟨v1, rfl, ints_own o1, b1⟩
  have E1 : Hid (∀ v w, Ints w v R → Calls Try.prog 10 #[v] w fun e w' => e = .returned (.string ⟨T.toArray⟩) ∧ Below w.heap.size w w') := by
    intro v w h
    have := gEncode_any R v w h (by omega)
    rw [HTe.out] at this
    exact this
  have S1 : Hid (∀ v v2 w, Ints w v R → Ints w v2 R → Calls Try.prog 8 #[v, v2] w fun e w' => e = .returned (.bool true) ∧ Below w.heap.size w w') :=
    fun v v2 w h h2 => same_yes R v v2 w h h2 (by omega)
  clear HRe HTe HTR
  have fin : ∀ (w1 w2 w3 w4 w5 : World), Below w.heap.size w w1 → Below w1.heap.size w1 w2 → Below w2.heap.size w2 w3 → Below w3.heap.size w3 w4 → Below w4.heap.size w4 w5 → Below w.heap.size w w5 := by
    intro w1 w2 w3 w4 w5 b1 b2 b3 b4 b5
    have s1 := b1.size; have s2 := b2.size; have s3 := b3.size; have s4 := b4.size
    exact b1.trans ((b2.mono s1).trans ((b3.mono (by omega)).trans ((b4.mono (by omega)).trans (b5.mono (by omega)))))
  have FIN : Hid (∀ (w1 w2 w3 w4 w5 : World), Below w.heap.size w w1 → Below w1.heap.size w1 w2 → Below w2.heap.size w2 w3 → Below w3.heap.size w3 w4 → Below w4.heap.size w4 w5 → Below w.heap.size w w5) := fin
  clear fin
  go_enter Try.func5, Try.ntmps5
  go_wp2_with fail
  refine (D1.out _).mono ?_
  rintro e w1 ⟨v1, rfl, I1, b1⟩
  obtain ⟨a1, c1, rfl⟩ := ints_len I1
  have HI1 : Hid (Ints w1 (.slice a1 R.length c1) R) := I1
  clear I1
  go_wp2_with fail
  refine (E1.out _ _ HI1.out).mono ?_
  rintro e w2 ⟨rfl, b2⟩
  go_wp2_with fail
  refine (D2.out _).mono ?_
  rintro e w3 ⟨v3, rfl, I3, b3⟩
  have HI3 : Hid (Ints w3 v3 R) := I3
  clear I3
  go_wp2_with fail
  refine (E1.out _ _ HI3.out).mono ?_
  rintro e w4 ⟨rfl, b4⟩
  go_wp2_with fail
  refine (S1.out _ _ _ (((HI1.out.below b2).below b3).below b4) (HI3.out.below b4)).mono ?_
  rintro e w5 ⟨rfl, b5⟩
  rcases hpos with ⟨p1, p2⟩ | ⟨p1, p2⟩
  · have q1 : ¬ (0 : Int) < (s.size : Int) := by omega
    have q2 : ¬ (0 : Int) < (R.length : Int) := by omega
    clear p1 p2
    go_wp2
    go_ret
    exact ⟨by simp; omega, FIN.out w1 w2 w3 w4 w5 b1 b2 b3 b4 b5⟩
  · have q1 : (0 : Int) < (s.size : Int) := by omega
    have q2 : (0 : Int) < (R.length : Int) := by omega
    clear p1 p2
    go_wp2
    go_ret
    exact ⟨by simp; omega, FIN.out w1 w2 w3 w4 w5 b1 b2 b3 b4 b5⟩

theorem contract (H : Type) (enc : TypeId × Value → H) (W : World) (base : Nat) (args : Array Value) (ds gs : List (DataW H)) (before : List MemPlace)
    (hval : ∀ (j : Nat) t v, Try.f5.params[j]? = some t → args[j]? = some v → Value.okWide Try.prog W .any base t v)
    (hW : DataW.Whole enc Try.prog Try.f5.params.toList Rows.glyphStableSpec.vars false W args.toList ds gs before) (hk : Rows.uptoSmall H (ds ++ gs) = true) :
    Calls Try.prog 5 args W fun e W' => ∃ v, e = .returned v ∧ Rows.glyphStableSpec.post enc Try.prog Try.f5 false true false false W args v W' := by
  have hW' := hW
  obtain ⟨p, q, hA0, hV, rfl, hfz, hnd⟩ := hW
  have hA : DataW.TrodAll enc Try.prog W 0 (fun _ => true) true Try.f5.params.toList args.toList ds p := hA0
  rw [Try.params5] at hA hval
  obtain ⟨v0, vs0, d0, ds0, p0, q0, hargs, rfl, rfl, h0, r0⟩ := trodAll_cons hA
  obtain ⟨rfl, rfl, rfl⟩ := trodAll_nil r0
  obtain rfl : args = #[v0] := by cases args; simp_all
  obtain ⟨rfl, rfl⟩ := trodVars_none hV
  obtain ⟨s, rfl, rfl, rfl, hmax⟩ := open_string Try.underlying9 (hval 0 9 v0 rfl rfl) h0
  clear hA0
  simp only [List.append_nil] at hW' hk
  refine (walk s W (short hk)).mono fun e W' ⟨he, bel⟩ => ?_
  subst he
  exact ⟨_, rfl, _, _, _, [], [], [], hW', trodAll_mk1 (shut_bool Try.underlying4 _), trodAll_mk1 (shut_string Try.underlying9 hmax), rfl, bel.frame _, fun h => by cases h⟩

set_option maxRecDepth 100000 in
theorem lifted (os : Os) (started : os.Started) (H : Type) (enc : TypeId × Value → H) (F : Stop.Interp) :
    ReturnsInHanded {} Try.checked os 5 .any ((Rows.OpenSpec.upto Rows.glyphStableSpec).pre6 enc Try.prog Try.f5 Rows.glyphStableUptoRow.domain false) (((Rows.OpenSpec.upto Rows.glyphStableSpec).at F).post enc Try.prog Try.f5 false true false false) := by
  refine returnsInHanded_of_cond (C := Try.checked) (s := Rows.OpenSpec.upto Rows.glyphStableSpec) (k := Rows.uptoSmall) rfl own started (by kernel_rfl) Try.func5
    (OpenSpec.witness (enc := enc) (C := Try.checked) (s := Rows.OpenSpec.upto Rows.glyphStableSpec) (k := Rows.uptoSmall) rfl false ⟨#[], #[.string .empty], []⟩ 8 (by kernel_rfl) (by kernel_rfl) (by kernel_rfl)
      (x := ([.lit (.string [])], [], [])) (by kernel_rfl) rfl (by kernel_rfl)) ?_
  intro W base args ds gs before hval hW _ hk _
  exact contract H enc W base args ds gs before hval hW hk

theorem proved : Rows.GlyphStableUptoSaid :=
  OpenClaim.holds_of_cond 5 Try.f5 rfl rfl rfl rfl rfl rfl rfl ⟨rfl, rfl, rfl, rfl, rfl⟩ rfl rfl rfl rfl rfl (by kernel_rfl) Try.func5 (by kernel_rfl)
    (of_decide_eq_true (by kernel_rfl)) (by unfold Func.isWrapper; first | (rw [if_pos (by decide +kernel)]; kernel_rfl) | (rw [if_neg (by decide +kernel)]; exact ⟨rfl, rfl⟩))
    (fun os started H enc _ F => lifted os started H enc F)
#print axioms proved
end Go.Proofs.Ytlioofikfgdnmaa.glyphStable
