/-
  StyleStacked, for all arguments.
-/
import Derived.Test.YtepkoiijdckcnagRows
import Derived.Test.YtepkoiijdckcnagYStk
import Derived.WalkKit
import Derived.ProofKit
import Derived.OpenShut
import Derived.ChangeOld
import Derived.Below
import Derived.SizedLaws
import Derived.Lib.SmallJoins
namespace Go.Proofs.Ytepkoiijdckcnag.styleStacked
open Go.ChangeShapes Go.WideShapes Go.ChangeAt Go.RowKit
set_option linter.unusedVariables false

theorem own : ownKnob Try.prog.godebug = none := by kernel_rfl
theorem cellsS : Try.prog.cellsOf 23 = 3 := by kernel_rfl
theorem laidOut : laidOutB Try.prog = true := by kernel_rfl
theorem bytes3 : Try.prog.bytesOf 3 = 8 := by kernel_rfl
set_option maxRecDepth 100000 in
theorem lifted (os : Os) (started : os.Started) (H : Type) (enc : TypeId × Value → H) :
    ReturnsInHanded {} Try.checked os 4 .any (Rows.styleStackedSpec.pre6 enc Try.prog Try.f4 Rows.styleStackedRow.domain false) (Rows.styleStackedSpec.post enc Try.prog Try.f4 false true false false) := by
  refine returnsInHanded_of_change (C := Try.checked) own started (by kernel_rfl) Try.func4
    (ChangeSpec.witness6 (enc := enc) (C := Try.checked) false ⟨#[], #[.agg #[.int .i64 0, .int .i64 0, .int .i64 0], .agg #[.int .i64 0, .int .i64 0, .int .i64 0], .agg #[.int .i64 0, .int .i64 0, .int .i64 0]], []⟩ 8 (by kernel_rfl) (by kernel_rfl) (by kernel_rfl) (by kernel_rfl)) ?_
  intro W base args ds gs before hval0 hW _ _
  have hval : ∀ (j : Nat) t v, Try.f4.params[j]? = some t → args[j]? = some v → Value.okWide Try.prog W .any base t v := hval0
  have hW' := hW
  obtain ⟨p, q, hA0, hV, rfl, hfz, hnd⟩ := hW
  have hA : DataW.TrodAll enc Try.prog W 0 (fun _ => true) true Try.f4.params.toList args.toList ds p := hA0
  rw [Try.params4] at hA hval
  obtain ⟨v0, vs0, d0, ds0, p0, q0, hargs, rfl, rfl, h0, r0⟩ := trodAll_cons hA
  obtain ⟨v1, vs1, d1, ds1, p1, q1, rfl, rfl, rfl, h1, r1⟩ := trodAll_cons r0
  obtain ⟨v2, vs2, d2, ds2, p2, q2, rfl, rfl, rfl, h2, r2⟩ := trodAll_cons r1
  obtain ⟨rfl, rfl, rfl⟩ := trodAll_nil r2
  obtain rfl : args = #[v0, v1, v2] := by cases args; simp_all
  obtain ⟨rfl, rfl⟩ := trodVars_none hV
  have k0 := h0
  have lt0 : ∀ x ∈ p0, x.block < W.heap.size := by obtain ⟨m, hm⟩ := k0; exact DataW.trod_lt m _ _ _ hm
  have k1 := h1
  have lt1 : ∀ x ∈ p1, x.block < W.heap.size := by obtain ⟨m, hm⟩ := k1; exact DataW.trod_lt m _ _ _ hm
  have k2 := h2
  have lt2 : ∀ x ∈ p2, x.block < W.heap.size := by obtain ⟨m, hm⟩ := k2; exact DataW.trod_lt m _ _ _ hm
  obtain ⟨ca0, ca1, ca2, ya0, ya1, ya2, ma, rfl, rfl, rfl, ea0, ea1, ea2⟩ := Go.Joins.open_agg3 Try.underlying23 (by kernel_rfl) cellsS (hval 0 23 v0 rfl rfl) h0
  obtain ⟨a0, qa0, rfl, wa0⟩ := DataW.trod_int Try.underlying3 ea0
  obtain ⟨a1, qa1, rfl, wa1⟩ := DataW.trod_int Try.underlying3 ea1
  obtain ⟨a2, qa2, rfl, wa2⟩ := DataW.trod_int Try.underlying3 ea2
  simp at qa0 qa1 qa2
  subst qa0 qa1 qa2
  obtain ⟨cb0, cb1, cb2, yb0, yb1, yb2, mb, rfl, rfl, rfl, eb0, eb1, eb2⟩ := Go.Joins.open_agg3 Try.underlying23 (by kernel_rfl) cellsS (hval 1 23 v1 rfl rfl) h1
  obtain ⟨b0, qb0, rfl, wb0⟩ := DataW.trod_int Try.underlying3 eb0
  obtain ⟨b1, qb1, rfl, wb1⟩ := DataW.trod_int Try.underlying3 eb1
  obtain ⟨b2, qb2, rfl, wb2⟩ := DataW.trod_int Try.underlying3 eb2
  simp at qb0 qb1 qb2
  subst qb0 qb1 qb2
  obtain ⟨cc0, cc1, cc2, yc0, yc1, yc2, mc, rfl, rfl, rfl, ec0, ec1, ec2⟩ := Go.Joins.open_agg3 Try.underlying23 (by kernel_rfl) cellsS (hval 2 23 v2 rfl rfl) h2
  obtain ⟨c0, qc0, rfl, wc0⟩ := DataW.trod_int Try.underlying3 ec0
  obtain ⟨c1, qc1, rfl, wc1⟩ := DataW.trod_int Try.underlying3 ec1
  obtain ⟨c2, qc2, rfl, wc2⟩ := DataW.trod_int Try.underlying3 ec2
  simp at qc0 qc1 qc2
  subst qc0 qc1 qc2
  have main : Calls Try.prog 4 #[.agg #[.int .i64 a0, .int .i64 a1, .int .i64 a2], .agg #[.int .i64 b0, .int .i64 b1, .int .i64 b2], .agg #[.int .i64 c0, .int .i64 c1, .int .i64 c2]] W fun e w' => e = .returned (.bool true) ∧ Below W.heap.size W w' := 
    (stacked_walk a0 a1 a2 b0 b1 b2 c0 c1 c2 W).mono fun e w' ⟨he, hg⟩ => ⟨he, hg.below⟩
  clear hA0 hval0
  refine main.mono fun e W' ⟨he, bel⟩ => ?_
  subst he
  exact ⟨_, rfl, _, _, _, [], _, [], hW', trodAll_mk1 (shut_bool Try.underlying4 _), (trodAll_cons_mk (Below.trod laidOut (by kernel_rfl) (of_decide_eq_true (by kernel_rfl)) k0 bel lt0) (trodAll_cons_mk (Below.trod laidOut (by kernel_rfl) (of_decide_eq_true (by kernel_rfl)) k1 bel lt1) (trodAll_cons_mk (Below.trod laidOut (by kernel_rfl) (of_decide_eq_true (by kernel_rfl)) k2 bel lt2) trodAll_mk0))), rfl, bel.frame _, fun h => by cases h⟩

theorem proved : Rows.StyleStackedSaid :=
  OpenClaim.holds_of_wide 4 Try.f4 rfl rfl rfl rfl rfl rfl rfl ⟨rfl, rfl, rfl, rfl, rfl⟩ rfl rfl rfl rfl rfl (by kernel_rfl) Try.func4 (by kernel_rfl)
    (of_decide_eq_true (by kernel_rfl)) (by unfold Func.isWrapper; first | (rw [if_pos (by decide +kernel)]; kernel_rfl) | (rw [if_neg (by decide +kernel)]; exact ⟨rfl, rfl⟩))
    (fun os started H enc _ => lifted os started H enc)
#print axioms proved
end Go.Proofs.Ytepkoiijdckcnag.styleStacked
