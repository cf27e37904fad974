/-
  The program's Parse: its deferred function, both ways.
-/
import Derived.Test.YtepeepipgkejiadGreatDoorTErn
import Derived.Test.YtepeepipgkejiadGreatDoorTCod
import Derived.Defers
import Derived.Recover
namespace Go.Proofs.YtepeepipgkejiadGreatDoor
open Go.RowKit Go.Stop
set_option linter.unusedVariables false

theorem asErr (x : Option (Nat × Nat)) (E : Nat → Addr) (w : World) : (Instr.typeAssert (pv E x) 20 42 true).run Tryz.prog w = .ok (.tuple #[pv E x, .bool true]) w := by
  cases x with
  | none => exact run_typeAssert_hasB Tryz.underlying42 (by kernel_rfl) _ _ w
  | some q => exact run_typeAssert_hasB Tryz.underlying42 (by kernel_rfl) _ _ w
theorem asErrNil (w : World) : (Instr.typeAssert .nilIface 20 42 true).run Tryz.prog w = .ok (.tuple #[.nilIface, .bool false]) w := by kernel_rfl

set_option maxRecDepth 100000 in
set_option maxHeartbeats 4000000 in
theorem catch_panic (eb pb B : Nat) (a0 a1 : Int) (x : Option (Nat × Nat)) (E : Nat → Addr) (w : World) (hB : B ≤ eb ∧ B ≤ pb ∧ eb ≠ pb ∧ B ≤ w.heap.size) (he : w.heap[eb]? = some (.cells #[.int .i64 a0] 23 (0, 0))) (hp : w.heap[pb]? = some (.cells #[.int .i64 a1] 3 (0, 0))) (hG : Glo w E) (hA : Apart w E) (hT : ErT w) (hx : ∀ c p, x = some (c, p) → 2 ≤ c ∧ c ≤ 7) :
    CallsD Tryz.prog 15 #[.pointer (some ⟨eb, 0, none⟩), .pointer (some ⟨pb, 0, none⟩)] (.panicking [{ v := pv E x, recovered := false }]) w fun e u' w' =>
      e = .returned (.tuple #[]) ∧ u' = .panicking [{ v := pv E x, recovered := true }] ∧ w'.cell? ⟨eb, 0, none⟩ = some (.int .i64 (errC x : Int)) ∧ w'.cell? ⟨pb, 0, none⟩ = some (.int .i64 (errP x : Int)) ∧ Below B w w' := by
  have TA := asErr x E
  have EN : Hid (Calls Tryz.prog 16 #[pv E x] w fun e w' => e = .returned (.int .i64 (errC x : Int)) ∧ Below w.heap.size w w') := errno_any x E w hG hA hx
  have PL : Hid (∀ w', Below w.heap.size w w' → Calls Tryz.prog 17 #[pv E x] w' fun e w'' => e = .returned (.int .i64 (errP x : Int)) ∧ Below w'.heap.size w' w'') := fun w' hb => place_any x E w' (hT.below hb)
  have HBB : Hid (B ≤ eb ∧ B ≤ pb ∧ eb ≠ pb ∧ B ≤ w.heap.size) := hB
  have HE : Hid (w.heap[eb]? = some (.cells #[.int .i64 a0] 23 (0, 0)) ∧ w.heap[pb]? = some (.cells #[.int .i64 a1] 3 (0, 0))) := ⟨he, hp⟩
  obtain ⟨v, hv⟩ : ∃ v, pv E x = v := ⟨_, rfl⟩
  rw [hv] at TA EN PL ⊢
  clear hv hG hA hT hx hB he hp
  refine callsD_of_wpS Tryz.func15 rfl fun c₀ cs hu => ?_
  apply wpS_seq
  apply wpS_region
  simp [wpOpsS, go_sem, recoverD, hu, Tryz.ntmps15, Exit.thenS, TA]
  have ht : (#[Value.pointer (some ⟨eb, 0, none⟩), Value.pointer (some ⟨pb, 0, none⟩)] ++ (((((((Array.replicate 12 undef).setIfInBounds 3 v).setIfInBounds 4 (Value.tuple #[v, Value.bool true])).setIfInBounds 2 (Value.tuple #[v, Value.bool true])).setIfInBounds 5 v).setIfInBounds 6 (Value.bool true)).setIfInBounds 0 v).setIfInBounds 1 (Value.bool true)) = #[.pointer (some ⟨eb, 0, none⟩), .pointer (some ⟨pb, 0, none⟩), v, .bool true, .tuple #[v, .bool true], v, .tuple #[v, .bool true], v, .bool true, undef, undef, undef, undef, undef] := by rfl
  rw [ht]
  clear ht
  refine wpS_of_wp ?_
  go_wp2_with fail
  refine Calls.mono EN.out ?_
  rintro e w1 ⟨rfl, b1⟩
  have HB1 : Hid (Below w.heap.size w w1) := b1
  clear b1 EN
  go_wp2_with fail
  refine Calls.mono (PL.out _ HB1.out) ?_
  rintro e w2 ⟨rfl, b2⟩
  have HB2 : Hid (Below w.heap.size w w2) := HB1.out.trans (b2.mono HB1.out.size)
  clear b2 PL HB1
  have HE2 : Hid (w2.heap[eb]? = some (.cells #[.int .i64 a0] 23 (0, 0)) ∧ w2.heap[pb]? = some (.cells #[.int .i64 a1] 3 (0, 0))) := ⟨(HB2.out.block _ (Array.getElem?_eq_some_iff.1 HE.out.1).1).trans HE.out.1, (HB2.out.block _ (Array.getElem?_eq_some_iff.1 HE.out.2).1).trans HE.out.2⟩
  have d0 : w2.cell? ⟨eb, 0, none⟩ = some (.int .i64 a0) := by simp [World.cell?, HE2.out.1]
  have d1 : w2.cell? ⟨pb, 0, none⟩ = some (.int .i64 a1) := by simp [World.cell?, HE2.out.2]
  have f0 : w2.frozen? ⟨eb, 0, none⟩ = false := frozen_of_row _ _ _ _ _ HE2.out.1
  have f1 : w2.frozen? ⟨pb, 0, none⟩ = false := frozen_of_row _ _ _ _ _ HE2.out.2
  have hne : ¬ eb = pb := HBB.out.2.2.1
  have HC : Hid (((w2.setCell ⟨eb, 0, none⟩ (.int .i64 (errC x : Int))).setCell ⟨pb, 0, none⟩ (.int .i64 (errP x : Int))).cell? ⟨eb, 0, none⟩ = some (.int .i64 (errC x : Int)) ∧ ((w2.setCell ⟨eb, 0, none⟩ (.int .i64 (errC x : Int))).setCell ⟨pb, 0, none⟩ (.int .i64 (errP x : Int))).cell? ⟨pb, 0, none⟩ = some (.int .i64 (errP x : Int)) ∧ Below B w ((w2.setCell ⟨eb, 0, none⟩ (.int .i64 (errC x : Int))).setCell ⟨pb, 0, none⟩ (.int .i64 (errP x : Int)))) := by
    refine ⟨?_, ?_, ?_⟩
    · rw [World.cell?_setCell_other _ _ _ _ (fun e => by injection e with e _ _; exact hne e.symm)]
      exact World.cell?_setCell_same _ _ _ d0
    · refine World.cell?_setCell_same (u := .int .i64 a1) _ _ _ ?_
      rw [World.cell?_setCell_other _ _ _ _ (fun e => by injection e with e _ _; exact hne e)]
      exact d1
    · exact ((HB2.out.mono HBB.out.2.2.2).setCell HBB.out.1 _).setCell HBB.out.2.1 _
  go_wp2
  exact ⟨rfl, _, rfl, .tuple #[], by simp [results, Tryz.results15, go_sem], rfl, rfl, HC.out.1, HC.out.2.1, HC.out.2.2⟩

set_option maxRecDepth 100000 in
theorem catch_idle (eb pb : Nat) (w : World) :
    CallsD Tryz.prog 15 #[.pointer (some ⟨eb, 0, none⟩), .pointer (some ⟨pb, 0, none⟩)] .returning w fun e u' w' => e = .returned (.tuple #[]) ∧ u' = .returning ∧ w' = w := by
  have TA := asErrNil
  refine callsD_of_wpS Tryz.func15 rfl fun c₀ cs hu => ?_
  apply wpS_seq
  apply wpS_region
  simp [wpOpsS, go_sem, recoverD, hu, Tryz.ntmps15, Exit.thenS, TA]
  have ht : (#[Value.pointer (some ⟨eb, 0, none⟩), Value.pointer (some ⟨pb, 0, none⟩)] ++ (((((((Array.replicate 12 undef).setIfInBounds 3 Value.nilIface).setIfInBounds 4 (Value.tuple #[Value.nilIface, Value.bool false])).setIfInBounds 2 (Value.tuple #[Value.nilIface, Value.bool false])).setIfInBounds 5 Value.nilIface).setIfInBounds 6 (Value.bool false)).setIfInBounds 0 Value.nilIface).setIfInBounds 1 (Value.bool false)) = #[.pointer (some ⟨eb, 0, none⟩), .pointer (some ⟨pb, 0, none⟩), .nilIface, .bool false, .tuple #[.nilIface, .bool false], .nilIface, .tuple #[.nilIface, .bool false], .nilIface, .bool false, undef, undef, undef, undef, undef] := by rfl
  rw [ht]
  clear ht
  refine wpS_of_wp ?_
  go_wp2
  refine ⟨rfl, .returning, ?_, .tuple #[], by simp [results, Tryz.results15, go_sem], rfl, rfl, rfl⟩
  cases c₀
  simp_all

/-- What Parse answers. -/
def TpOut (w w' : World) (e : Ending) (r : Except (Option (Nat × Nat)) (List Nd)) : Prop := Below w.heap.size w w' ∧ match r with
  | .error x => e = .returned (.tuple #[.slice none 0 0, .int .i64 (errC x : Int), .int .i64 (errP x : Int)])
  | .ok L => ∃ nv KV, e = .returned (.tuple #[nv, .int .i64 0, .int .i64 0]) ∧ PN w' w.heap.size nv L KV
set_option maxRecDepth 100000 in
set_option maxHeartbeats 4000000 in
theorem tparse_any (s : ByteArray) (E : Nat → Addr) (w : World) (hG : Glo w E) (hA : Apart w E) (hT : ErT w) :
    Calls Tryz.prog 7 #[.string s] w fun e w' => TpOut w w' e (pTree s) := by
  have hmf : ∀ (fn : Fn) (first cap : Array Value) (w : World), (Instr.makeFunc fn first cap).run Tryz.prog w = .ok (.func fn first cap) w := fun _ _ _ _ => rfl
  obtain ⟨S, hS⟩ : ∃ q, w.heap.size = q := ⟨_, rfl⟩
  obtain ⟨W0, hW0⟩ : ∃ q, (w.alloc (.cells #[.int .i64 0] 23)).alloc (.cells #[.int .i64 0] 3) = q := ⟨_, rfl⟩
  have B0 : Hid (Below w.heap.size w W0) := by rw [← hW0]; exact ((Below.refl _ _).alloc (Nat.le_refl _) _).alloc (by rw [World.size_alloc]; omega) _
  have RD : Hid (Calls Tryz.prog 18 #[.string s] W0 fun e w' => TrOut W0 w' e E (pTree s)) := readTree_any s E W0 (hG.cells B0.out)
  have HE : Hid (W0.heap[S]? = some (.cells #[.int .i64 0] 23 (0, 0)) ∧ W0.heap[S + 1]? = some (.cells #[.int .i64 0] 3 (0, 0)) ∧ W0.heap.size = S + 2) := by
    rw [← hW0, ← hS]
    refine ⟨?_, ?_, by simp only [World.size_alloc]⟩
    · rw [Below.heap_alloc _ _ _ (by rw [World.size_alloc]; omega)]; exact heap_alloc_new _ _
    · have := heap_alloc_new (w.alloc (.cells #[.int .i64 0] 23)) (.cells #[.int .i64 0] 3)
      rw [World.size_alloc] at this; exact this
  have HGL : Hid (∀ w', Below w.heap.size w w' → Glo w' E ∧ Apart w' E ∧ ErT w') := fun w' hb => ⟨hG.cells hb, hA.below hb, hT.below hb⟩
  have HS : Hid (w.heap.size = S) := hS
  clear hG hA hT
  go_enter_defers Tryz.func7, Tryz.ntmps7
  go_wp2_with fail
  clear hW0 hS
  refine Calls.mono RD.out ?_
  rintro e w1 ⟨b1, hr⟩
  have hSW := HE.out.2.2
  have HB1 : Hid (Below w.heap.size w w1) := B0.out.trans (b1.mono B0.out.size)
  have HE1 : Hid (w1.heap[S]? = some (.cells #[.int .i64 0] 23 (0, 0)) ∧ w1.heap[S + 1]? = some (.cells #[.int .i64 0] 3 (0, 0))) := ⟨(b1.block _ (by omega)).trans HE.out.1, (b1.block _ (by omega)).trans HE.out.2.1⟩
  have HSZ : Hid (S ≤ w1.heap.size ∧ W0.heap.size = S + 2) := ⟨by have := b1.size; omega, hSW⟩
  clear b1 hSW RD
  cases hp : pTree s with
  | error x =>
    rw [hp] at hr
    subst hr
    have HPP : Hid (pTree s = .error x) := hp
    have CT := catch_panic S (S + 1) S 0 0 x E w1 ⟨Nat.le_refl _, by omega, by omega, HSZ.out.1⟩ HE1.out.1 HE1.out.2 (HGL.out w1 HB1.out).1 (HGL.out w1 HB1.out).2.1 (HGL.out w1 HB1.out).2.2 (fun c p e => pTree_code (by rw [HPP.out, e]))
    clear hp
    refine leaves_cons (f := 15) (args := #[.pointer (some ⟨S, 0, none⟩), .pointer (some ⟨S + 1, 0, none⟩)]) (by simp) (by simp [go_sem]) ?_
    refine CT.mono ?_
    rintro e u' w2 ⟨rfl, rfl, c0, c1, b2⟩
    have HB2 : Hid (Below w.heap.size w w2) := HB1.out.trans (by rw [HS.out]; exact b2)
    clear b2 CT
    simp [Leaves, settle, results, Tryz.results7, go_sem, c0, c1]
    refine ⟨HB2.out, ?_⟩
    rw [HPP.out]
  | ok L =>
    rw [hp] at hr
    obtain ⟨nv, KV, rfl, hn⟩ := hr
    have HPP : Hid (pTree s = .ok L) := hp
    have HN : Hid (PN w1 W0.heap.size nv L KV) := hn
    clear hn hp
    have d0 : w1.cell? ⟨S, 0, none⟩ = some (.int .i64 0) := by simp [World.cell?, HE1.out.1]
    have d1 : w1.cell? ⟨S + 1, 0, none⟩ = some (.int .i64 0) := by simp [World.cell?, HE1.out.2]
    have f0 : w1.frozen? ⟨S, 0, none⟩ = false := frozen_of_row _ _ _ _ _ HE1.out.1
    have f1 : w1.frozen? ⟨S + 1, 0, none⟩ = false := frozen_of_row _ _ _ _ _ HE1.out.2
    have HQ : Hid (Below w.heap.size w ((w1.setCell ⟨S, 0, none⟩ (.int .i64 0)).setCell ⟨S + 1, 0, none⟩ (.int .i64 0)) ∧ PN ((w1.setCell ⟨S, 0, none⟩ (.int .i64 0)).setCell ⟨S + 1, 0, none⟩ (.int .i64 0)) w.heap.size nv L KV) := by
      have h1 : w.heap.size ≤ S := by rw [HS.out]; exact Nat.le_refl _
      have h2 : w.heap.size ≤ S + 1 := by omega
      refine ⟨(HB1.out.setCell h1 _).setCell h2 _, PN.base (HN.out.up ((Up.set w1 (by rw [HSZ.out.2]; omega) _).trans (Up.set _ (by rw [HSZ.out.2]; omega) _))) (by rw [HSZ.out.2]; omega)⟩
    have k0 : ((w1.setCell ⟨S, 0, none⟩ (.int .i64 0)).setCell ⟨S + 1, 0, none⟩ (.int .i64 0)).cell? ⟨S, 0, none⟩ = some (.int .i64 0) := by
      rw [World.cell?_setCell_other _ _ _ _ (fun e => by injection e with e _ _; omega)]
      exact World.cell?_setCell_same _ _ _ d0
    have k1 : ((w1.setCell ⟨S, 0, none⟩ (.int .i64 0)).setCell ⟨S + 1, 0, none⟩ (.int .i64 0)).cell? ⟨S + 1, 0, none⟩ = some (.int .i64 0) := by
      refine World.cell?_setCell_same (u := .int .i64 0) _ _ _ ?_
      rw [World.cell?_setCell_other _ _ _ _ (fun e => by injection e with e _ _; omega)]
      exact d1
    go_wp2
    refine leaves_cons (f := 15) (args := #[.pointer (some ⟨S, 0, none⟩), .pointer (some ⟨S + 1, 0, none⟩)]) (by simp) (by simp [go_sem]) ?_
    refine (catch_idle S (S + 1) _).mono ?_
    rintro e u' w2 ⟨rfl, rfl, rfl⟩
    simp [Leaves, settle, results, Tryz.results7, go_sem, k0, k1]
    refine ⟨HQ.out.1, ?_⟩
    rw [HPP.out]
    exact ⟨nv, KV, rfl, HQ.out.2⟩
end Go.Proofs.YtepeepipgkejiadGreatDoor
