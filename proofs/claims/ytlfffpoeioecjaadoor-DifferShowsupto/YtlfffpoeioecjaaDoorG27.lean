/-
  The pen's way to a cell.
-/
import Derived.Test.YtlfffpoeioecjaaDoorG26
import Derived.Deep.RegionHeld
import Derived.Test.YtlfffpoeioecjaaDoorG11
namespace Go.Proofs.YtlfffpoeioecjaaDoor
open Go.RowKit Go.Sort
set_option linter.unusedVariables false

set_option maxHeartbeats 2000000 in
set_option maxRecDepth 100000 in
theorem penMov_write (B b : Nat) (p v : Value) (V : Nat) (a f g d : Int) (l : List UInt8) (i : Nat) (w : World) (h : PenB w B b p v (V : Int) a f g d l) (hlen : l.length ≤ 1099511627776) (hBw : B ≤ w.heap.size) (hV : 1 ≤ V ∧ V ≤ 400) (hi : i < 400 * V) (ht : TensAt w) (hgB : 3 < B) (hc : (i : Int) ≠ a) :
    Calls Tryd.prog 44 #[.pointer (some ⟨b, 0, none⟩), .int .i64 (i : Int)] w fun e w' => e = .returned (.tuple #[]) ∧ Hid (PenTo w w' B b (V : Int) (i : Int) f g d (l ++ seqB [((i / V : Nat) : Int) + 1, ((i % V : Nat) : Int) + 1] 72)) := by
  obtain ⟨X, hX⟩ : ∃ X, i % V = X := ⟨_, rfl⟩
  obtain ⟨Y, hY⟩ : ∃ Y, i / V = Y := ⟨_, rfl⟩
  have hXV : X < 400 := by rw [← hX]; have := Nat.mod_lt i (show 0 < V by omega); omega
  have hYV : Y < 400 := by rw [← hY]; exact Nat.div_lt_of_lt_mul (by rw [Nat.mul_comm]; exact hi)
  have c2 : w.cell? ⟨b, 2, none⟩ = some (.int .i64 (V : Int)) := h.cell (k := 2) rfl
  have c3 : w.cell? ⟨b, 3, none⟩ = some (.int .i64 a) := h.cell (k := 3) rfl
  have HP : Hid (PenB w B b p v (V : Int) a f g d l) := h
  have HTN : Hid (∀ w', Gr w w' → TensAt w') := fun w' hg => ht.below (B := w.heap.size) hg.below (by omega)
  rw [hX, hY]
  have HS : Hid (seqB [(Y : Int) + 1, (X : Int) + 1] 72 = mvS (Lib.decDigits (Y + 1)) (Lib.decDigits (X + 1))) := mvS_is Y X
  have hd1 : (Lib.decDigits (Y + 1)).length ≤ 3 := dec_short _ (by omega)
  have hd2 : (Lib.decDigits (X + 1)).length ≤ 3 := dec_short _ (by omega)
  have ty : ((Y + 1 : Nat) : Int) = (Y : Int) + 1 := by omega
  have tx : ((X + 1 : Nat) : Int) = (X : Int) + 1 := by omega
  obtain ⟨D1, hD1⟩ : ∃ z, Lib.decDigits (Y + 1) = z := ⟨_, rfl⟩
  obtain ⟨D2, hD2⟩ : ∃ z, Lib.decDigits (X + 1) = z := ⟨_, rfl⟩
  have I1 : Hid (∀ z w', z = (Y : Int) + 1 → Gr w w' → Calls Tryd.prog 65 #[.int .i64 z] w' fun e w2 => e = .returned (.string ⟨D1.toArray⟩) ∧ Hid (Gr w w2)) := fun z w' hz hg => by
    subst hz
    have := itoa_any (Y + 1) (by omega) w' (HTN.out w' hg)
    rw [ty, hD1] at this
    exact this.mono fun e w2 q => ⟨q.1, hg.trans q.2⟩
  have I2 : Hid (∀ z w', z = (X : Int) + 1 → Gr w w' → Calls Tryd.prog 65 #[.int .i64 z] w' fun e w2 => e = .returned (.string ⟨D2.toArray⟩) ∧ Hid (Gr w w2)) := fun z w' hz hg => by
    subst hz
    have := itoa_any (X + 1) (by omega) w' (HTN.out w' hg)
    rw [tx, hD2] at this
    exact this.mono fun e w2 q => ⟨q.1, hg.trans q.2⟩
  have PW : Hid (∀ (t : ByteArray) w', Gr w w' → t.data.toList = mvS D1 D2 → Calls Tryd.prog 26 #[.pointer (some ⟨b, 0, none⟩), .string t] w' fun e w2 => e = .returned (.tuple #[.int .i64 t.size, .nilIface]) ∧ Hid (PenTo w w2 B b (V : Int) a f g d (l ++ mvS D1 D2))) := fun t w' hg ht => by
    have hts : t.size ≤ 100 := by
      have : t.size = t.data.toList.length := rfl
      rw [this, ht]
      rw [hD1] at hd1; rw [hD2] at hd2
      unfold mvS
      simp
      omega
    have := penWrite_any B b p v (V : Int) a f g d l t w' (HP.out.up hg.below) (by omega) (Nat.le_trans hBw hg.size)
    rw [ht] at this
    exact this.mono fun e w2 ⟨he, h1⟩ => ⟨he, PenTo.start hg hBw ⟨_, h1⟩⟩
  rw [hD1, hD2] at HS
  have w1 : IntKind.i64.wrap ((Y : Int) + 1) = (Y : Int) + 1 := IntWalk.i64_in _ (by omega)
  have w2 : IntKind.i64.wrap ((X : Int) + 1) = (X : Int) + 1 := IntWalk.i64_in _ (by omega)
  have hl1 : D1.length ≤ 3 := by rw [← hD1]; exact hd1
  have hl2 : D2.length ≤ 3 := by rw [← hD2]; exact hd2
  have j1 : ¬ 9223372036854775807 < 2 + D1.length := by omega
  have j2 : ¬ 9223372036854775807 < 2 + D1.length + 1 := by omega
  have j3 : ¬ 9223372036854775807 < 2 + D1.length + 1 + D2.length := by omega
  have j4 : ¬ 9223372036854775807 < 2 + D1.length + 1 + D2.length + 1 := by omega
  clear hl1 hl2
  have hV0 : ¬ V = 0 := by omega
  have hV1 : ¬ (V : Int) = 0 := by omega
  have hne : ((i : Int) != a) = true := by simpa using hc
  have wy : IntKind.i64.wrap (Y : Int) = (Y : Int) := IntWalk.i64_in _ (by omega)
  have hr0 : (i : Int) % (V : Int) = (X : Int) := by rw [← hX]; exact (Int.natCast_emod i V).symm
  have hq0 : (i : Int) / (V : Int) = (Y : Int) := by rw [← hY]; exact (Int.natCast_ediv i V).symm
  have hQ : IntKind.i64.wrap (IntKind.i64.wrap ((i : Int) / (V : Int)) + 1) = (Y : Int) + 1 := by rw [hq0, wy, w1]
  have hR : IntKind.i64.wrap ((i : Int).tmod (V : Int) + 1) = (X : Int) + 1 := by rw [Int.tmod_eq_emod_of_nonneg (Int.natCast_nonneg i), hr0, w2]
  clear h ht hlen hBw hX hY hi hd1 hd2 ty tx hD1 hD2 hq0 hr0 wy w1 w2 hc hV hgB
  go_enter Tryd.func44, Tryd.ntmps44
  go_wp2_with fail
  go_region_held (fun W_ => W_.cell? ⟨b, 2, none⟩ = some (.int .i64 (V : Int))) (go_keep) (first | (go_at_call 65; first | (with_reducible refine Calls.mono (I1.out _ _ (by with_reducible rfl) (by first | exact Gr.refl _ | exact (Gr.refl _).drew | assumption | exact Hid.out (by assumption) | exact Gr.drew (Hid.out (by assumption)))) ?_; rintro e1 u1 ⟨rfl, J1⟩; have c2 : u1.cell? ⟨b, 2, none⟩ = some (.int .i64 (V : Int)) := (HP.out.up J1.out.below).cell (k := 2) rfl) | (with_reducible refine Calls.mono (I2.out _ _ (by with_reducible rfl) (by first | exact J1.out | exact J1.out.drew)) ?_; rintro e2 u2 ⟨rfl, J2⟩; have c2 : u2.cell? ⟨b, 2, none⟩ = some (.int .i64 (V : Int)) := (HP.out.up J2.out.below).cell (k := 2) rfl)) | (go_at_call 26; refine Calls.mono (PW.out _ _ (by first | exact J2.out | exact J2.out.drew) (by simp [mvS])) ?_; rintro e3 u3 ⟨rfl, HT⟩; have c2 : u3.cell? ⟨b, 2, none⟩ = some (.int .i64 (V : Int)) := (by obtain ⟨p1, v1, hv1, _⟩ := HT.out; exact hv1.cell (k := 2) rfl)))
  all_goals
    have z3 : u3.frozen? ⟨b, 3, none⟩ = false := by obtain ⟨p1, v1, hv1, _⟩ := HT.out; exact hv1.fz 3
    have k3 : u3.cell? ⟨b, 3, none⟩ = some (.int .i64 a) := by obtain ⟨p1, v1, hv1, _⟩ := HT.out; exact hv1.cell (k := 3) rfl
    go_wp2_with fail
    go_end0
    have X := HT.out.at3 (i : Int)
    rw [← HS.out] at X
    exact ⟨rfl, by first | exact X | exact X.drew | exact X.drew.drew⟩

set_option maxHeartbeats 2000000 in
set_option maxRecDepth 100000 in
theorem penMov_zero (B b : Nat) (p v : Value) (V : Nat) (a f g d : Int) (l : List UInt8) (i : Nat) (w : World) (h : PenB w B b p v (V : Int) a f g d l) (hlen : l.length ≤ 1099511627776) (hBw : B ≤ w.heap.size) (hV : 1 ≤ V ∧ V ≤ 400) (hi : i < 400 * V) (ht : TensAt w) (hgB : 3 < B) (hc : (i : Int) = a) (hz0 : i % V = 0) :
    Calls Tryd.prog 44 #[.pointer (some ⟨b, 0, none⟩), .int .i64 (i : Int)] w fun e w' => e = .returned (.tuple #[]) ∧ Hid (PenTo w w' B b (V : Int) (i : Int) f g d (l ++ seqB [((i / V : Nat) : Int) + 1, ((i % V : Nat) : Int) + 1] 72)) := by
  obtain ⟨X, hX⟩ : ∃ X, i % V = X := ⟨_, rfl⟩
  obtain rfl : 0 = X := hz0.symm.trans hX
  obtain ⟨Y, hY⟩ : ∃ Y, i / V = Y := ⟨_, rfl⟩
  have hXV : 0 < 400 := by decide
  have hYV : Y < 400 := by rw [← hY]; exact Nat.div_lt_of_lt_mul (by rw [Nat.mul_comm]; exact hi)
  have c2 : w.cell? ⟨b, 2, none⟩ = some (.int .i64 (V : Int)) := h.cell (k := 2) rfl
  have c3 : w.cell? ⟨b, 3, none⟩ = some (.int .i64 a) := h.cell (k := 3) rfl
  have HP : Hid (PenB w B b p v (V : Int) a f g d l) := h
  have HTN : Hid (∀ w', Gr w w' → TensAt w') := fun w' hg => ht.below (B := w.heap.size) hg.below (by omega)
  rw [hX, hY]
  have HS : Hid (seqB [(Y : Int) + 1, ((0 : Nat) : Int) + 1] 72 = mvS (Lib.decDigits (Y + 1)) (Lib.decDigits (0 + 1))) := mvS_is Y 0
  have hd1 : (Lib.decDigits (Y + 1)).length ≤ 3 := dec_short _ (by omega)
  have hd2 : (Lib.decDigits (0 + 1)).length ≤ 3 := dec_short _ (by omega)
  have ty : ((Y + 1 : Nat) : Int) = (Y : Int) + 1 := by omega
  have tx : ((0 + 1 : Nat) : Int) = ((0 : Nat) : Int) + 1 := by omega
  obtain ⟨D1, hD1⟩ : ∃ z, Lib.decDigits (Y + 1) = z := ⟨_, rfl⟩
  obtain ⟨D2, hD2⟩ : ∃ z, Lib.decDigits (0 + 1) = z := ⟨_, rfl⟩
  have I1 : Hid (∀ z w', z = (Y : Int) + 1 → Gr w w' → Calls Tryd.prog 65 #[.int .i64 z] w' fun e w2 => e = .returned (.string ⟨D1.toArray⟩) ∧ Hid (Gr w w2)) := fun z w' hz hg => by
    subst hz
    have := itoa_any (Y + 1) (by omega) w' (HTN.out w' hg)
    rw [ty, hD1] at this
    exact this.mono fun e w2 q => ⟨q.1, hg.trans q.2⟩
  have I2 : Hid (∀ z w', z = ((0 : Nat) : Int) + 1 → Gr w w' → Calls Tryd.prog 65 #[.int .i64 z] w' fun e w2 => e = .returned (.string ⟨D2.toArray⟩) ∧ Hid (Gr w w2)) := fun z w' hz hg => by
    subst hz
    have := itoa_any (0 + 1) (by omega) w' (HTN.out w' hg)
    rw [tx, hD2] at this
    exact this.mono fun e w2 q => ⟨q.1, hg.trans q.2⟩
  have PW : Hid (∀ (t : ByteArray) w', Gr w w' → t.data.toList = mvS D1 D2 → Calls Tryd.prog 26 #[.pointer (some ⟨b, 0, none⟩), .string t] w' fun e w2 => e = .returned (.tuple #[.int .i64 t.size, .nilIface]) ∧ Hid (PenTo w w2 B b (V : Int) a f g d (l ++ mvS D1 D2))) := fun t w' hg ht => by
    have hts : t.size ≤ 100 := by
      have : t.size = t.data.toList.length := rfl
      rw [this, ht]
      rw [hD1] at hd1; rw [hD2] at hd2
      unfold mvS
      simp
      omega
    have := penWrite_any B b p v (V : Int) a f g d l t w' (HP.out.up hg.below) (by omega) (Nat.le_trans hBw hg.size)
    rw [ht] at this
    exact this.mono fun e w2 ⟨he, h1⟩ => ⟨he, PenTo.start hg hBw ⟨_, h1⟩⟩
  rw [hD1, hD2] at HS
  have w1 : IntKind.i64.wrap ((Y : Int) + 1) = (Y : Int) + 1 := IntWalk.i64_in _ (by omega)
  have w2 : IntKind.i64.wrap (((0 : Nat) : Int) + 1) = ((0 : Nat) : Int) + 1 := IntWalk.i64_in _ (by omega)
  have hl1 : D1.length ≤ 3 := by rw [← hD1]; exact hd1
  have hl2 : D2.length ≤ 3 := by rw [← hD2]; exact hd2
  have j1 : ¬ 9223372036854775807 < 2 + D1.length := by omega
  have j2 : ¬ 9223372036854775807 < 2 + D1.length + 1 := by omega
  have j3 : ¬ 9223372036854775807 < 2 + D1.length + 1 + D2.length := by omega
  have j4 : ¬ 9223372036854775807 < 2 + D1.length + 1 + D2.length + 1 := by omega
  clear hl1 hl2
  have hV0 : ¬ V = 0 := by omega
  have hV1 : ¬ (V : Int) = 0 := by omega
  have hne : ((i : Int) != a) = false := by simpa using hc
  have wy : IntKind.i64.wrap (Y : Int) = (Y : Int) := IntWalk.i64_in _ (by omega)
  have hr0 : (i : Int) % (V : Int) = ((0 : Nat) : Int) := by rw [← hX]; exact (Int.natCast_emod i V).symm
  have hq0 : (i : Int) / (V : Int) = (Y : Int) := by rw [← hY]; exact (Int.natCast_ediv i V).symm
  have hm0 : (i : Int).tmod (V : Int) = 0 := by rw [Int.tmod_eq_emod_of_nonneg (Int.natCast_nonneg i), hr0]; rfl
  have hm1 : (i : Int) % (V : Int) = 0 := by rw [hr0]; rfl
  have hm2 : ((i : Int).tmod (V : Int) == 0) = true := by rw [hm0]; rfl
  have hQ : IntKind.i64.wrap (IntKind.i64.wrap ((i : Int) / (V : Int)) + 1) = (Y : Int) + 1 := by rw [hq0, wy, w1]
  have hR : IntKind.i64.wrap ((i : Int).tmod (V : Int) + 1) = ((0 : Nat) : Int) + 1 := by rw [Int.tmod_eq_emod_of_nonneg (Int.natCast_nonneg i), hr0, w2]
  clear h ht hlen hBw hX hz0 hY hi hd1 hd2 ty tx hD1 hD2 hq0 hr0 wy w1 w2 hc hV hgB
  go_enter Tryd.func44, Tryd.ntmps44
  go_wp2_with fail
  go_region_held (fun W_ => W_.cell? ⟨b, 2, none⟩ = some (.int .i64 (V : Int))) (go_keep) (first | (go_at_call 65; first | (with_reducible refine Calls.mono (I1.out _ _ (by with_reducible rfl) (by first | exact Gr.refl _ | exact (Gr.refl _).drew | assumption | exact Hid.out (by assumption) | exact Gr.drew (Hid.out (by assumption)))) ?_; rintro e1 u1 ⟨rfl, J1⟩; have c2 : u1.cell? ⟨b, 2, none⟩ = some (.int .i64 (V : Int)) := (HP.out.up J1.out.below).cell (k := 2) rfl) | (with_reducible refine Calls.mono (I2.out _ _ (by first | with_reducible rfl | decide) (by first | exact J1.out | exact J1.out.drew)) ?_; rintro e2 u2 ⟨rfl, J2⟩; have c2 : u2.cell? ⟨b, 2, none⟩ = some (.int .i64 (V : Int)) := (HP.out.up J2.out.below).cell (k := 2) rfl)) | (go_at_call 26; refine Calls.mono (PW.out _ _ (by first | exact J2.out | exact J2.out.drew) (by simp [mvS])) ?_; rintro e3 u3 ⟨rfl, HT⟩; have c2 : u3.cell? ⟨b, 2, none⟩ = some (.int .i64 (V : Int)) := (by obtain ⟨p1, v1, hv1, _⟩ := HT.out; exact hv1.cell (k := 2) rfl)))
  all_goals
    have z3 : u3.frozen? ⟨b, 3, none⟩ = false := by obtain ⟨p1, v1, hv1, _⟩ := HT.out; exact hv1.fz 3
    have k3 : u3.cell? ⟨b, 3, none⟩ = some (.int .i64 a) := by obtain ⟨p1, v1, hv1, _⟩ := HT.out; exact hv1.cell (k := 3) rfl
    go_wp2_with fail
    go_end0
    have X_ := HT.out.at3 (i : Int)
    rw [← HS.out] at X_
    exact ⟨rfl, by first | exact X_ | exact X_.drew | exact X_.drew.drew⟩

set_option maxHeartbeats 2000000 in
set_option maxRecDepth 100000 in
theorem penMov_skip (B b : Nat) (p v : Value) (V : Nat) (a f g d : Int) (l : List UInt8) (i : Nat) (w : World) (h : PenB w B b p v (V : Int) a f g d l) (hV : 1 ≤ V ∧ V ≤ 400) (hc : (i : Int) = a) (h0 : ¬ i % V = 0) :
    Calls Tryd.prog 44 #[.pointer (some ⟨b, 0, none⟩), .int .i64 (i : Int)] w fun e w' => e = .returned (.tuple #[]) ∧ Hid (PenTo w w' B b (V : Int) (i : Int) f g d l) := by
  obtain ⟨X, hX⟩ : ∃ X, i % V = X := ⟨_, rfl⟩
  have c2 : w.cell? ⟨b, 2, none⟩ = some (.int .i64 (V : Int)) := h.cell (k := 2) rfl
  have c3 : w.cell? ⟨b, 3, none⟩ = some (.int .i64 a) := h.cell (k := 3) rfl
  have HP : Hid (PenTo w w B b (V : Int) (i : Int) f g d l) := by rw [hc]; exact ⟨p, v, h, Below.refl _ _, Lib.OthersKept.refl _ _ _⟩
  have hV0 : ¬ V = 0 := by omega
  have hV1 : ¬ (V : Int) = 0 := by omega
  have hne : ((i : Int) != a) = false := by simpa using hc
  have hx0 : ¬ X = 0 := by omega
  have hxb : ((X : Int) == 0) = false := by simpa using hx0
  have hr0 : (i : Int) % (V : Int) = (X : Int) := by rw [← hX]; exact (Int.natCast_emod i V).symm
  have hm0 : (i : Int).tmod (V : Int) = (X : Int) := by rw [Int.tmod_eq_emod_of_nonneg (Int.natCast_nonneg i), hr0]
  clear h hX hV h0 hc
  go_enter Tryd.func44, Tryd.ntmps44
  go_wp2
  go_end0
  exact ⟨rfl, HP.out⟩
theorem penMov_any (B b : Nat) (p v : Value) (V : Nat) (a f g d : Int) (l : List UInt8) (i : Nat) (w : World) (h : PenB w B b p v (V : Int) a f g d l) (hlen : l.length ≤ 1099511627776) (hBw : B ≤ w.heap.size) (hV : 1 ≤ V ∧ V ≤ 400) (hi : i < 400 * V) (ht : TensAt w) (hgB : 3 < B) :
    Calls Tryd.prog 44 #[.pointer (some ⟨b, 0, none⟩), .int .i64 (i : Int)] w fun e w' => e = .returned (.tuple #[]) ∧ Hid (PenTo w w' B b (V : Int) (i : Int) f g d (l ++ movB V a i)) := by
  unfold movB
  by_cases hc : (i : Int) = a
  · by_cases h0 : i % V = 0
    · rw [if_pos (.inr h0)]
      exact penMov_zero B b p v V a f g d l i w h hlen hBw hV hi ht hgB hc h0
    · rw [if_neg (fun q => by rcases q with q | q; exact q hc; exact h0 q), List.append_nil]
      exact penMov_skip B b p v V a f g d l i w h hV hc h0
  · rw [if_pos (.inl hc)]
    exact penMov_write B b p v V a f g d l i w h hlen hBw hV hi ht hgB hc

end Go.Proofs.YtlfffpoeioecjaaDoor

namespace Go.Proofs.YtlfffpoeioecjaaDoor
open Go.RowKit Go.Sort
set_option linter.unusedVariables false

/-- n cells in a block, from off on. -/
structure CL (Q : World) (g off n : Nat) (C : Nat → Ce) : Prop where
  lt : g < Q.heap.size
  cell : ∀ i, i < n → ∀ (k : Nat) u, (c5 (C i))[k]? = some u → Q.cell? ⟨g, off + i * 5 + k, none⟩ = some u
theorem CL.below {Q Q' : World} {g off n : Nat} {C : Nat → Ce} (h : CL Q g off n C) (hb : Below Q.heap.size Q Q') : CL Q' g off n C :=
  ⟨Nat.lt_of_lt_of_le h.lt hb.size, fun i hi k u hu => (hb.cell (p := ⟨g, off + i * 5 + k, none⟩) h.lt).trans (h.cell i hi k u hu)⟩
def lenOf : Value → Nat
  | .slice _ n _ => n
  | _ => 0

set_option maxRecDepth 100000 in
set_option maxHeartbeats 8000000 in
theorem isRow_any (C : Nat → Ce) (g lo n hi cap N : Nat) (hn : lo + n = hi) (hN : hi ≤ N) (hb : N ≤ 1048576) (hc1 : n ≤ cap) (hc2 : cap ≤ 9223372036854775807) (w : World) (hC : CL w g 0 N C) (ht : TabAt w) (hs : ∀ i, i < N → (C i).t.size ≤ 1099511627776) :
    Calls Tryd.prog 41 #[.slice (some ⟨g, lo * 5, none⟩) n cap] w fun r w' => Tells w w' r (RowOk C lo hi) := by
  have hmix : Tryd.prog.follows .mixedOrders = true := by kernel_rfl
  have HC : Hid (CL w g 0 N C) := hC
  have HT : Hid (TabAt w) := ht
  have HZ : Hid (∀ i, i < N → (C i).t.size ≤ 1099511627776) := hs
  clear hC ht hs
  go_enter Tryd.func41, Tryd.ntmps41
  go_wp2
  go_loopw [0] (fun rv wr => ∃ (x m c : Nat) (p : Option Addr), Hid (Upto C lo hi x) ∧ x + m = hi ∧ rv = .slice p m c ∧ m ≤ c ∧ c ≤ 9223372036854775807 ∧ (x < hi → p = some ⟨g, x * 5, none⟩) ∧ Hid (Below w.heap.size w wr)) (fun rv _ => lenOf rv)
  case atStart => exact ⟨lo, n, cap, _, Upto.start (by omega), hn, rfl, hc1, hc2, fun _ => rfl, Below.refl _ _⟩
  case round =>
    obtain ⟨x, m, c, p, HU, hm, rfl, hmc, hc3, hp, HB⟩ := hrel
    by_cases hlt : x < hi
    · obtain rfl := hp hlt
      have hm0 : (0 : Int) < (m : Int) := by omega
      have hxN : x < N := by omega
      have V := HC.out.below HB.out
      obtain ⟨e, he⟩ : ∃ e, C x = e := ⟨_, rfl⟩
      have hC1 : ∀ (k : Nat) u, (c5 e)[k]? = some u → wr.cell? ⟨g, x * 5 + k, none⟩ = some u := fun k u h => by
        have := V.cell x hxN k u (by rw [he]; exact h)
        rw [Nat.zero_add] at this
        exact this
      obtain ⟨t, f, g0, b, q⟩ := e
      have d0 : wr.cell? ⟨g, x * 5, none⟩ = some (.string t) := hC1 0 _ rfl
      have d1 := hC1 1 (.int .i64 f) rfl
      have d2 := hC1 2 (.int .i64 g0) rfl
      have d3 := hC1 3 (.int .i64 b) rfl
      have d4 := hC1 4 (.int .i64 q) rfl
      clear hC1
      have HE : Hid (C x = ⟨t, f, g0, b, q⟩) := he
      clear he
      go_wp2_with fail
      obtain ⟨W0, hW0⟩ : ∃ z, wr.alloc (.cells #[.string t, .int .i64 f, .int .i64 g0, .int .i64 b, .int .i64 q] 34) = z := ⟨_, rfl⟩
      obtain ⟨S, hS⟩ : ∃ z, wr.heap.size = z := ⟨_, rfl⟩
      have G0 : Hid (Gr wr W0) := by rw [← hW0]; exact (Gr.refl wr).alloc _
      have R0 : Hid (R5 34 W0 S ⟨t, f, g0, b, q⟩) := by rw [← hW0, ← hS]; exact R5.new wr ⟨t, f, g0, b, q⟩ _
      have HB0 : Hid (Below w.heap.size w W0) := HB.out.trans (G0.out.below.mono HB.out.size)
      have hsz : t.size ≤ 1099511627776 := by have := HZ.out x hxN; rw [HE.out] at this; exact this
      have IS : Hid (∀ n, Calls Tryd.prog 61 #[.agg #[.string t, .int .i64 f, .int .i64 g0, .int .i64 b, .int .i64 q], .int .i64 n] W0 fun r w' => ∃ bb : Bool, r = .returned (.bool bb) ∧ Hid (bb = true ↔ (n ≠ 0 ∧ Sty (C x) ∧ Txt (C x) n)) ∧ Hid (Below w.heap.size w w') ∧ Hid (Below W0.heap.size W0 w')) := fun n => (isShown_any ⟨t, f, g0, b, q⟩ n W0 (HT.out.below HB0.out) hsz).mono fun r w' h => by
        obtain ⟨bb, h1, h2, h3⟩ := h
        rw [HE.out]
        exact ⟨bb, h1, h2, HB0.out.trans (h3.mono HB0.out.size), h3⟩
      have CO : Hid (∀ w, Calls Tryd.prog 60 #[.int .i64 q] w fun e w' => e = .returned (.int .i64 (colI q)) ∧ w' = w) := columnsOf_any q
      rw [hW0, hS]
      clear hsz V hW0 hS
      by_cases hq0 : q = 0
      · subst hq0
        have HP : Hid ((C x).p = 0) := by show _ = _; rw [HE.out]
        have CO : Hid (∀ w, Calls Tryd.prog 60 #[.int .i64 0] w fun e w' => e = .returned (.int .i64 1) ∧ w' = w) := CO.out
        refine (CO.out _).mono ?_
        rintro e w1 ⟨rfl, hw⟩
        obtain rfl := hw.symm
        have c0 := R0.out.c0
        have c1 := R0.out.c1
        have c2 := R0.out.c2
        have c3 := R0.out.c3
        have c4 := R0.out.c4
        go_wp2_with fail
        refine (IS.out 1).mono ?_
        rintro r w2 ⟨bb, rfl, HI, HB2, _⟩
        clear c0 c1 c2 c3 c4
        have hm1 : decide ((m : Int) < 1) = false := decide_eq_false (by omega)
        cases bb with
        | false =>
          go_wp2
          go_ret
          exact ⟨false, rfl, ⟨fun h => (nomatch h), fun h => absurd h (HU.out.bad0 hlt HP.out fun k => (nomatch HI.out.2 ⟨by decide, k.1, k.2⟩))⟩, HB2.out⟩
        | true =>
          have HU2 : Hid (Upto C lo hi (x + 1)) := HU.out.one hlt HP.out (HI.out.1 rfl).2.1 (HI.out.1 rfl).2.2
          go_wp2_with fail
          go_quiet (fail)
          go_wp2
          refine ⟨⟨x + 1, m - 1, c - 1, _, HU2.out, by omega, rfl, by omega, by omega, fun hx => ?_, (HB2.out.trans ((Gr.below ((Gr.refl _).drewN _)).mono HB2.out.size))⟩, by simp only [lenOf]; omega⟩
          rw [if_neg (by omega), Nat.add_mul, Nat.one_mul]
      · by_cases hq1 : q = 1
        · subst hq1
          have HP : Hid ((C x).p = 1) := by show _ = _; rw [HE.out]
          have CO : Hid (∀ w, Calls Tryd.prog 60 #[.int .i64 1] w fun e w' => e = .returned (.int .i64 2) ∧ w' = w) := CO.out
          refine (CO.out _).mono ?_
          rintro e w1 ⟨rfl, hw⟩
          obtain rfl := hw.symm
          have c0 := R0.out.c0
          have c1 := R0.out.c1
          have c2 := R0.out.c2
          have c3 := R0.out.c3
          have c4 := R0.out.c4
          go_wp2_with fail
          refine (IS.out 2).mono ?_
          rintro r w2 ⟨bb, rfl, HI, HB2, HB02⟩
          clear c0 c1 c2 c3 c4
          cases bb with
          | false =>
            go_wp2
            go_ret
            exact ⟨false, rfl, ⟨fun h => (nomatch h), fun h => absurd h (HU.out.bad1 hlt HP.out fun k => (nomatch HI.out.2 ⟨by decide, k.1, k.2⟩))⟩, HB2.out⟩
          | true =>
            have HY : Hid (Sty (C x) ∧ Txt (C x) 2) := (HI.out.1 rfl).2
            by_cases hm2 : x + 2 ≤ hi
            · have hm1 : decide ((m : Int) < 2) = false := decide_eq_false (by omega)
              have hm1' : (1 : Int) < (m : Int) := by omega
              have R2 : Hid (R5 34 w2 S ⟨t, f, g0, b, 1⟩) := (HB02.out.block _ R0.out.lt).trans R0.out
              have c1 := R2.out.c1
              have c2 := R2.out.c2
              have c3 := R2.out.c3
              have V := HC.out.below HB2.out
              obtain ⟨e, he⟩ : ∃ e, C (x + 1) = e := ⟨_, rfl⟩
              have hC1 : ∀ (k : Nat) u, (c5 e)[k]? = some u → w2.cell? ⟨g, x * 5 + 5 + k, none⟩ = some u := fun k u h => by
                have := V.cell (x + 1) (by omega) k u (by rw [he]; exact h)
                rw [Nat.zero_add, Nat.add_mul, Nat.one_mul] at this
                exact this
              obtain ⟨t1, f1, g1, b1, q1⟩ := e
              have d0 : w2.cell? ⟨g, x * 5 + 5, none⟩ = some (.string t1) := hC1 0 _ rfl
              have d1 : w2.cell? ⟨g, x * 5 + 6, none⟩ = some (.int .i64 f1) := hC1 1 _ rfl
              have d2 : w2.cell? ⟨g, x * 5 + 7, none⟩ = some (.int .i64 g1) := hC1 2 _ rfl
              have d3 : w2.cell? ⟨g, x * 5 + 8, none⟩ = some (.int .i64 b1) := hC1 3 _ rfl
              have d4 : w2.cell? ⟨g, x * 5 + 9, none⟩ = some (.int .i64 q1) := hC1 4 _ rfl
              have HE1 : Hid (C (x + 1) = ⟨t1, f1, g1, b1, q1⟩) := he
              clear he hC1 V
              go_wp2_with fail
              by_cases k0 : t1 = ⟨#[]⟩
              · subst k0
                by_cases k1 : f1 = f
                · subst k1
                  by_cases k2 : g1 = g0
                  · subst k2
                    by_cases k3 : b1 = b
                    · subst k3
                      by_cases k4 : q1 = 2
                      · subst k4
                        have HU2 : Hid (Upto C lo hi (x + 2)) := HU.out.two hm2 HP.out HY.out.1 HY.out.2 (by rw [HE1.out, HE.out])
                        go_quiet (fail)
                        go_wp2
                        refine ⟨⟨x + 2, m - 2, c - 2, _, HU2.out, by omega, rfl, by omega, by omega, fun hx => ?_, (HB2.out.trans ((Gr.below ((Gr.refl _).drewN _)).mono HB2.out.size))⟩, by simp only [lenOf]; omega⟩
                        rw [if_neg (by omega), Nat.add_mul]
                      · have e5 : (q1 == 2) = false := by simpa using k4
                        go_quiet (fail)
                        go_wp2
                        go_ret
                        exact ⟨false, rfl, ⟨fun h => (nomatch h), fun h => absurd h (HU.out.bad2 hlt HP.out fun k => by have k2 := k.2; rw [HE1.out, HE.out] at k2; injection k2 with k00 k11 k22 k33 k44; exact k4 k44)⟩, (HB2.out.trans ((Gr.below ((Gr.refl _).drewN _)).mono HB2.out.size))⟩
                    · have e5 : (b1 == b) = false := by simpa using k3
                      go_quiet (fail)
                      go_wp2
                      go_ret
                      exact ⟨false, rfl, ⟨fun h => (nomatch h), fun h => absurd h (HU.out.bad2 hlt HP.out fun k => by have k2 := k.2; rw [HE1.out, HE.out] at k2; injection k2 with k00 k11 k22 k33 k44; exact k3 k33)⟩, (HB2.out.trans ((Gr.below ((Gr.refl _).drewN _)).mono HB2.out.size))⟩
                  · have e5 : (g1 == g0) = false := by simpa using k2
                    go_quiet (fail)
                    go_wp2
                    go_ret
                    exact ⟨false, rfl, ⟨fun h => (nomatch h), fun h => absurd h (HU.out.bad2 hlt HP.out fun k => by have k2 := k.2; rw [HE1.out, HE.out] at k2; injection k2 with k00 k11 k22 k33 k44; exact k2 k22)⟩, (HB2.out.trans ((Gr.below ((Gr.refl _).drewN _)).mono HB2.out.size))⟩
                · have e5 : (f1 == f) = false := by simpa using k1
                  go_quiet (fail)
                  go_wp2
                  go_ret
                  exact ⟨false, rfl, ⟨fun h => (nomatch h), fun h => absurd h (HU.out.bad2 hlt HP.out fun k => by have k2 := k.2; rw [HE1.out, HE.out] at k2; injection k2 with k00 k11 k22 k33 k44; exact k1 k11)⟩, (HB2.out.trans ((Gr.below ((Gr.refl _).drewN _)).mono HB2.out.size))⟩
              · have e5 : (t1.toList == (⟨#[]⟩ : ByteArray).toList) = false := str_ne k0
                have e6 : (t1.toList == []) = false := by have q := e5; rw [ByteArray.toList_eq (⟨#[]⟩ : ByteArray)] at q; exact q
                have e7 : t1.toList.isEmpty = false := by rw [beq_eq_false_iff_ne] at e6; cases h : t1.toList with
                  | nil => exact absurd h e6
                  | cons a l => rfl
                have e8 : ¬ t1.toList = [] := by rw [beq_eq_false_iff_ne] at e6; exact e6
                go_quiet (fail)
                go_wp2
                go_ret
                exact ⟨false, rfl, ⟨fun h => (nomatch h), fun h => absurd h (HU.out.bad2 hlt HP.out fun k => by have k2 := k.2; rw [HE1.out, HE.out] at k2; injection k2 with k00 k11 k22 k33 k44; exact k0 k00)⟩, (HB2.out.trans ((Gr.below ((Gr.refl _).drewN _)).mono HB2.out.size))⟩
            · have hm1 : decide ((m : Int) < 2) = true := decide_eq_true (by omega)
              go_wp2
              go_ret
              exact ⟨false, rfl, ⟨fun h => (nomatch h), fun h => absurd h (HU.out.bad2 hlt HP.out fun k => hm2 k.1)⟩, HB2.out⟩
        · have HP0 : Hid ((C x).p ≠ 0) := by show _ ≠ _; rw [HE.out]; exact hq0
          have HP1 : Hid ((C x).p ≠ 1) := by show _ ≠ _; rw [HE.out]; exact hq1
          have CO : Hid (∀ w, Calls Tryd.prog 60 #[.int .i64 q] w fun e w' => e = .returned (.int .i64 0) ∧ w' = w) := fun w => by have := CO.out w; unfold colI at this; rw [if_neg hq0, if_neg hq1] at this; exact this
          refine (CO.out _).mono ?_
          rintro e w1 ⟨rfl, hw⟩
          obtain rfl := hw.symm
          have c0 := R0.out.c0
          have c1 := R0.out.c1
          have c2 := R0.out.c2
          have c3 := R0.out.c3
          have c4 := R0.out.c4
          go_wp2_with fail
          refine (IS.out 0).mono ?_
          rintro r w2 ⟨bb, rfl, HI, HB2, HB02⟩
          clear c0 c1 c2 c3 c4
          cases bb with
          | true => exact absurd rfl (HI.out.1 rfl).1
          | false =>
            go_wp2
            go_ret
            exact ⟨false, rfl, ⟨fun h => (nomatch h), fun h => absurd h (HU.out.bad3 hlt HP0.out HP1.out)⟩, HB2.out⟩
    · have hm0 : ¬ (0 : Int) < (m : Int) := by omega
      obtain rfl : x = hi := by have := HU.out.high; omega
      go_wp2
      go_ret
      exact ⟨true, rfl, ⟨fun _ => HU.out.all, fun _ => rfl⟩, HB.out⟩

end Go.Proofs.YtlfffpoeioecjaaDoor
