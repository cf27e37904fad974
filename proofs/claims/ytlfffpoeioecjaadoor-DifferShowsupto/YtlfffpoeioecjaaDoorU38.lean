/-
  The pen's ways: dip, moveTo.
-/
import Derived.Test.YtlfffpoeioecjaaDoorU37
import Derived.Test.YtlfffpoeioecjaaDoorU25
import Derived.Test.YtlfffpoeioecjaaDoorU34
import Derived.Deep.RegionHeld
namespace Go.Proofs.YtlfffpoeioecjaaDoor
open Go.RowKit Go.Sort
set_option linter.unusedVariables false

theorem PenB.style {Q : World} {B b : Nat} {p v : Value} {W a f g d : Int} {l : List UInt8} (h : PenB Q B b p v W a f g d l) : Q.cell? ⟨b, 4, none⟩ = some (.int .i64 f) ∧ Q.cell? ⟨b, 5, none⟩ = some (.int .i64 g) ∧ Q.cell? ⟨b, 6, none⟩ = some (.int .i64 d) := ⟨h.cell (k := 4) rfl, h.cell (k := 5) rfl, h.cell (k := 6) rfl⟩
set_option maxHeartbeats 2000000 in
set_option maxRecDepth 100000 in
theorem penDip_any (B b : Nat) (p v : Value) (W a f g d : Int) (l : List UInt8) (f2 g2 d2 : Int) (w : World) (h : PenB w B b p v W a f g d l) (hlen : l.length ≤ 1099511627776) (hBw : B ≤ w.heap.size) (hs : StyOk f g d) (hs2 : StyOk f2 g2 d2) :
    Calls Tryd.prog 45 #[.pointer (some ⟨b, 0, none⟩), .agg #[.int .i64 f2, .int .i64 g2, .int .i64 d2]] w fun e w' => e = .returned (.tuple #[]) ∧ Hid (PenTo w w' B b W a f2 g2 d2 (l ++ cds (nms f g d f2 g2 d2))) := by
  have hlt : b < w.heap.size := h.lt
  obtain ⟨S, hS⟩ : ∃ z, w.heap.size = z := ⟨_, rfl⟩
  obtain ⟨W0, hW0⟩ : ∃ z, w.alloc (.cells #[.int .i64 f2, .int .i64 g2, .int .i64 d2] 32) = z := ⟨_, rfl⟩
  have G0 : Hid (Gr w W0) := by rw [← hW0]; exact (Gr.refl w).alloc _
  have N0 : Hid (W0.heap[S]? = some (.cells #[.int .i64 f2, .int .i64 g2, .int .i64 d2] 32 (0, 0))) := by rw [← hW0, ← hS]; exact new_block w _
  have n0 : W0.cell? ⟨S, 0, none⟩ = some (.int .i64 f2) := by rw [Lib.cell_of_heap N0.out]; rfl
  have n1 : W0.cell? ⟨S, 1, none⟩ = some (.int .i64 g2) := by rw [Lib.cell_of_heap N0.out]; rfl
  have n2 : W0.cell? ⟨S, 2, none⟩ = some (.int .i64 d2) := by rw [Lib.cell_of_heap N0.out]; rfl
  have HP : Hid (PenB W0 B b p v W a f g d l) := h.up G0.out.below
  have c4 := HP.out.style.1
  have c5 := HP.out.style.2.1
  have c6 := HP.out.style.2.2
  have hB0 : B ≤ W0.heap.size := Nat.le_trans hBw G0.out.size
  obtain ⟨K, hK⟩ : ∃ k, cds (nms f g d f2 g2 d2) = k := ⟨_, rfl⟩
  have hKl : K.length ≤ 1000 := by
    rw [← hK]
    unfold cds
    split
    · decide
    · rename_i hne
      have hsm := nms_small (x := f) (y := g) (z := d) (z2 := d2) (x2 := f2) (y2 := g2) (hs2.1 ▸ kn_bd f2) (hs2.2.1 ▸ kn_bd g2)
      have := (sq_len hsm hne (nms_len f g d f2 g2 d2)).2
      omega
  have CD : Hid (∀ w', Gr W0 w' → Calls Tryd.prog 66 #[.agg #[.int .i64 f, .int .i64 g, .int .i64 d], .agg #[.int .i64 f2, .int .i64 g2, .int .i64 d2]] w' fun e w2 => e = .returned (.string ⟨K.toArray⟩) ∧ Hid (Below W0.heap.size W0 w2)) := fun w' hg => by
    have := codes_any f g d f2 g2 d2 w'
    unfold sv at this
    rw [hs.1, hs.2.1, hs.2.2, hs2.1, hs2.2.1, hs2.2.2, hK] at this
    exact this.mono fun e w2 q => ⟨q.1, hg.below.trans (q.2.mono hg.size)⟩
  have PW : Hid (∀ w', Below W0.heap.size W0 w' → Calls Tryd.prog 26 #[.pointer (some ⟨b, 0, none⟩), .string ⟨K.toArray⟩] w' fun e w2 => e = .returned (.tuple #[.int .i64 (⟨K.toArray⟩ : ByteArray).size, .nilIface]) ∧ Hid (PenTo W0 w2 B b W a f g d (l ++ K))) := fun w' hb => (penWrite_any B b p v W a f g d l ⟨K.toArray⟩ w' (HP.out.up hb) (by show l.length + K.toArray.size ≤ _; simp; omega) (Nat.le_trans hB0 hb.size)).mono fun e w2 ⟨he, v', h1, h2, h3⟩ => ⟨he, _, v', by simpa using h1, (hb.mono hB0).trans h2, (below_others hb _ _).trans h3⟩
  rw [hK]
  clear h
  go_enter Tryd.func45, Tryd.ntmps45
  go_wp2_with fail
  go_region_with (first | (go_at_call 66; refine Calls.mono (CD.out _ (by first | exact Gr.refl _ | exact (Gr.refl _).drew | exact ((Gr.refl _).drew).drew)) ?_; rintro e1 w1 ⟨rfl, H1⟩) | (go_at_call 26; refine Calls.mono (PW.out _ (by first | exact H1.out | exact H1.out.drew)) ?_; rintro e2 w2 ⟨rfl, HT⟩))
  all_goals
    have M0 : w2.heap[S]? = some (.cells #[.int .i64 f2, .int .i64 g2, .int .i64 d2] 32 (0, 0)) := HT.out.block N0.out (by omega) (by decide)
    have o0 : w2.cell? ⟨S, 0, none⟩ = some (.int .i64 f2) := by rw [Lib.cell_of_heap M0]; rfl
    have o1 : w2.cell? ⟨S, 1, none⟩ = some (.int .i64 g2) := by rw [Lib.cell_of_heap M0]; rfl
    have o2 : w2.cell? ⟨S, 2, none⟩ = some (.int .i64 d2) := by rw [Lib.cell_of_heap M0]; rfl
    have e4 : w2.cell? ⟨b, 4, none⟩ = some (.int .i64 f) := by obtain ⟨p1, v1, hv1, _⟩ := HT.out; exact hv1.cell (k := 4) rfl
    have e5 : w2.cell? ⟨b, 5, none⟩ = some (.int .i64 g) := by obtain ⟨p1, v1, hv1, _⟩ := HT.out; exact hv1.cell (k := 5) rfl
    have e6 : w2.cell? ⟨b, 6, none⟩ = some (.int .i64 d) := by obtain ⟨p1, v1, hv1, _⟩ := HT.out; exact hv1.cell (k := 6) rfl
    have z4 : w2.frozen? ⟨b, 4, none⟩ = false := by obtain ⟨p1, v1, hv1, _⟩ := HT.out; exact hv1.fz 4
    have z5 : w2.frozen? ⟨b, 5, none⟩ = false := by obtain ⟨p1, v1, hv1, _⟩ := HT.out; exact hv1.fz 5
    have z6 : w2.frozen? ⟨b, 6, none⟩ = false := by obtain ⟨p1, v1, hv1, _⟩ := HT.out; exact hv1.fz 6
    clear M0
    go_wp2_with fail
    go_end0
    have X := (HT.out.start G0.out hBw).sty f2 g2 d2
    exact ⟨rfl, by first | exact X | exact X.drew | exact X.drew.drew | exact X.drew.drew.drew⟩

end Go.Proofs.YtlfffpoeioecjaaDoor

namespace Go.Proofs.YtlfffpoeioecjaaDoor
open Go.RowKit Go.Sort
set_option linter.unusedVariables false

set_option maxHeartbeats 2000000 in
set_option maxRecDepth 100000 in
theorem penMov_write (B b : Nat) (p v : Value) (V : Nat) (a f g d : Int) (l : List UInt8) (i : Nat) (w : World) (h : PenB w B b p v (V : Int) a f g d l) (hlen : l.length ≤ 1099511627776) (hBw : B ≤ w.heap.size) (hV : 1 ≤ V ∧ V ≤ 400) (hi : i < 400 * V) (ht : TensAt w) (hgB : 3 < B) (hc : (i : Int) ≠ a) :
    Calls Tryd.prog 44 #[.pointer (some ⟨b, 0, none⟩), .int .i64 (i : Int)] w fun e w' => e = .returned (.tuple #[]) ∧ Hid (PenTo w w' B b (V : Int) (i : Int) f g d (l ++ seqB [((i / V : Nat) : Int) + 1, ((i % V : Nat) : Int) + 1] 72)) := by
  obtain ⟨X, hX⟩ : ∃ X, i % V = X := ⟨_, rfl⟩
  obtain ⟨Y, hY⟩ : ∃ Y, i / V = Y := ⟨_, rfl⟩
  have hXV : X < 400 := by rw [← hX]; have := Nat.mod_lt i (show 0 < V by omega); omega
  have hYV : Y < 400 := by rw [← hY]; exact Nat.div_lt_of_lt_mul (by rw [Nat.mul_comm]; exact hi)
  have c2 : w.cell? ⟨b, 2, none⟩ = some (.int .i64 (V : Int)) := h.cell (k := 2) rfl
  have c3 : w.cell? ⟨b, 3, none⟩ = some (.int .i64 a) := h.cell (k := 3) rfl
  have HP : Hid (PenB w B b p v (V : Int) a f g d l) := h
  have HTN : Hid (∀ w', Gr w w' → TensAt w') := fun w' hg => ht.below (B := w.heap.size) hg.below (by omega)
  rw [hX, hY]
  have HS : Hid (seqB [(Y : Int) + 1, (X : Int) + 1] 72 = mvS (Lib.decDigits (Y + 1)) (Lib.decDigits (X + 1))) := mvS_is Y X
  have hd1 : (Lib.decDigits (Y + 1)).length ≤ 3 := dec_short _ (by omega)
  have hd2 : (Lib.decDigits (X + 1)).length ≤ 3 := dec_short _ (by omega)
  have ty : ((Y + 1 : Nat) : Int) = (Y : Int) + 1 := by omega
  have tx : ((X + 1 : Nat) : Int) = (X : Int) + 1 := by omega
  obtain ⟨D1, hD1⟩ : ∃ z, Lib.decDigits (Y + 1) = z := ⟨_, rfl⟩
  obtain ⟨D2, hD2⟩ : ∃ z, Lib.decDigits (X + 1) = z := ⟨_, rfl⟩
  have I1 : Hid (∀ z w', z = (Y : Int) + 1 → Gr w w' → Calls Tryd.prog 65 #[.int .i64 z] w' fun e w2 => e = .returned (.string ⟨D1.toArray⟩) ∧ Hid (Gr w w2)) := fun z w' hz hg => by
    subst hz
    have := itoa_any (Y + 1) (by omega) w' (HTN.out w' hg)
    rw [ty, hD1] at this
    exact this.mono fun e w2 q => ⟨q.1, hg.trans q.2⟩
  have I2 : Hid (∀ z w', z = (X : Int) + 1 → Gr w w' → Calls Tryd.prog 65 #[.int .i64 z] w' fun e w2 => e = .returned (.string ⟨D2.toArray⟩) ∧ Hid (Gr w w2)) := fun z w' hz hg => by
    subst hz
    have := itoa_any (X + 1) (by omega) w' (HTN.out w' hg)
    rw [tx, hD2] at this
    exact this.mono fun e w2 q => ⟨q.1, hg.trans q.2⟩
  have PW : Hid (∀ (t : ByteArray) w', Gr w w' → t.data.toList = mvS D1 D2 → Calls Tryd.prog 26 #[.pointer (some ⟨b, 0, none⟩), .string t] w' fun e w2 => e = .returned (.tuple #[.int .i64 t.size, .nilIface]) ∧ Hid (PenTo w w2 B b (V : Int) a f g d (l ++ mvS D1 D2))) := fun t w' hg ht => by
    have hts : t.size ≤ 100 := by
      have : t.size = t.data.toList.length := rfl
      rw [this, ht]
      rw [hD1] at hd1; rw [hD2] at hd2
      unfold mvS
      simp
      omega
    have := penWrite_any B b p v (V : Int) a f g d l t w' (HP.out.up hg.below) (by omega) (Nat.le_trans hBw hg.size)
    rw [ht] at this
    exact this.mono fun e w2 ⟨he, h1⟩ => ⟨he, PenTo.start hg hBw ⟨_, h1⟩⟩
  rw [hD1, hD2] at HS
  have w1 : IntKind.i64.wrap ((Y : Int) + 1) = (Y : Int) + 1 := IntWalk.i64_in _ (by omega)
  have w2 : IntKind.i64.wrap ((X : Int) + 1) = (X : Int) + 1 := IntWalk.i64_in _ (by omega)
  have hl1 : D1.length ≤ 3 := by rw [← hD1]; exact hd1
  have hl2 : D2.length ≤ 3 := by rw [← hD2]; exact hd2
  have j1 : ¬ 9223372036854775807 < 2 + D1.length := by omega
  have j2 : ¬ 9223372036854775807 < 2 + D1.length + 1 := by omega
  have j3 : ¬ 9223372036854775807 < 2 + D1.length + 1 + D2.length := by omega
  have j4 : ¬ 9223372036854775807 < 2 + D1.length + 1 + D2.length + 1 := by omega
  clear hl1 hl2
  have hV0 : ¬ V = 0 := by omega
  have hV1 : ¬ (V : Int) = 0 := by omega
  have hne : ((i : Int) != a) = true := by simpa using hc
  have wy : IntKind.i64.wrap (Y : Int) = (Y : Int) := IntWalk.i64_in _ (by omega)
  have hr0 : (i : Int) % (V : Int) = (X : Int) := by rw [← hX]; exact (Int.natCast_emod i V).symm
  have hq0 : (i : Int) / (V : Int) = (Y : Int) := by rw [← hY]; exact (Int.natCast_ediv i V).symm
  have hQ : IntKind.i64.wrap (IntKind.i64.wrap ((i : Int) / (V : Int)) + 1) = (Y : Int) + 1 := by rw [hq0, wy, w1]
  have hR : IntKind.i64.wrap ((i : Int).tmod (V : Int) + 1) = (X : Int) + 1 := by rw [Int.tmod_eq_emod_of_nonneg (Int.natCast_nonneg i), hr0, w2]
  clear h ht hlen hBw hX hY hi hd1 hd2 ty tx hD1 hD2 hq0 hr0 wy w1 w2 hc hV hgB
  go_enter Tryd.func44, Tryd.ntmps44
  go_wp2_with fail
  go_region_held (fun W_ => W_.cell? ⟨b, 2, none⟩ = some (.int .i64 (V : Int))) (go_keep) (first | (go_at_call 65; first | (with_reducible refine Calls.mono (I1.out _ _ (by with_reducible rfl) (by first | exact Gr.refl _ | exact (Gr.refl _).drew | assumption | exact Hid.out (by assumption) | exact Gr.drew (Hid.out (by assumption)))) ?_; rintro e1 u1 ⟨rfl, J1⟩; have c2 : u1.cell? ⟨b, 2, none⟩ = some (.int .i64 (V : Int)) := (HP.out.up J1.out.below).cell (k := 2) rfl) | (with_reducible refine Calls.mono (I2.out _ _ (by with_reducible rfl) (by first | exact J1.out | exact J1.out.drew)) ?_; rintro e2 u2 ⟨rfl, J2⟩; have c2 : u2.cell? ⟨b, 2, none⟩ = some (.int .i64 (V : Int)) := (HP.out.up J2.out.below).cell (k := 2) rfl)) | (go_at_call 26; refine Calls.mono (PW.out _ _ (by first | exact J2.out | exact J2.out.drew) (by simp [mvS])) ?_; rintro e3 u3 ⟨rfl, HT⟩; have c2 : u3.cell? ⟨b, 2, none⟩ = some (.int .i64 (V : Int)) := (by obtain ⟨p1, v1, hv1, _⟩ := HT.out; exact hv1.cell (k := 2) rfl)))
  all_goals
    have z3 : u3.frozen? ⟨b, 3, none⟩ = false := by obtain ⟨p1, v1, hv1, _⟩ := HT.out; exact hv1.fz 3
    have k3 : u3.cell? ⟨b, 3, none⟩ = some (.int .i64 a) := by obtain ⟨p1, v1, hv1, _⟩ := HT.out; exact hv1.cell (k := 3) rfl
    go_wp2_with fail
    go_end0
    have X := HT.out.at3 (i : Int)
    rw [← HS.out] at X
    exact ⟨rfl, by first | exact X | exact X.drew | exact X.drew.drew⟩

set_option maxHeartbeats 2000000 in
set_option maxRecDepth 100000 in
theorem penMov_zero (B b : Nat) (p v : Value) (V : Nat) (a f g d : Int) (l : List UInt8) (i : Nat) (w : World) (h : PenB w B b p v (V : Int) a f g d l) (hlen : l.length ≤ 1099511627776) (hBw : B ≤ w.heap.size) (hV : 1 ≤ V ∧ V ≤ 400) (hi : i < 400 * V) (ht : TensAt w) (hgB : 3 < B) (hc : (i : Int) = a) (hz0 : i % V = 0) :
    Calls Tryd.prog 44 #[.pointer (some ⟨b, 0, none⟩), .int .i64 (i : Int)] w fun e w' => e = .returned (.tuple #[]) ∧ Hid (PenTo w w' B b (V : Int) (i : Int) f g d (l ++ seqB [((i / V : Nat) : Int) + 1, ((i % V : Nat) : Int) + 1] 72)) := by
  obtain ⟨X, hX⟩ : ∃ X, i % V = X := ⟨_, rfl⟩
  obtain rfl : 0 = X := hz0.symm.trans hX
  obtain ⟨Y, hY⟩ : ∃ Y, i / V = Y := ⟨_, rfl⟩
  have hXV : 0 < 400 := by decide
  have hYV : Y < 400 := by rw [← hY]; exact Nat.div_lt_of_lt_mul (by rw [Nat.mul_comm]; exact hi)
  have c2 : w.cell? ⟨b, 2, none⟩ = some (.int .i64 (V : Int)) := h.cell (k := 2) rfl
  have c3 : w.cell? ⟨b, 3, none⟩ = some (.int .i64 a) := h.cell (k := 3) rfl
  have HP : Hid (PenB w B b p v (V : Int) a f g d l) := h
  have HTN : Hid (∀ w', Gr w w' → TensAt w') := fun w' hg => ht.below (B := w.heap.size) hg.below (by omega)
  rw [hX, hY]
  have HS : Hid (seqB [(Y : Int) + 1, ((0 : Nat) : Int) + 1] 72 = mvS (Lib.decDigits (Y + 1)) (Lib.decDigits (0 + 1))) := mvS_is Y 0
  have hd1 : (Lib.decDigits (Y + 1)).length ≤ 3 := dec_short _ (by omega)
  have hd2 : (Lib.decDigits (0 + 1)).length ≤ 3 := dec_short _ (by omega)
  have ty : ((Y + 1 : Nat) : Int) = (Y : Int) + 1 := by omega
  have tx : ((0 + 1 : Nat) : Int) = ((0 : Nat) : Int) + 1 := by omega
  obtain ⟨D1, hD1⟩ : ∃ z, Lib.decDigits (Y + 1) = z := ⟨_, rfl⟩
  obtain ⟨D2, hD2⟩ : ∃ z, Lib.decDigits (0 + 1) = z := ⟨_, rfl⟩
  have I1 : Hid (∀ z w', z = (Y : Int) + 1 → Gr w w' → Calls Tryd.prog 65 #[.int .i64 z] w' fun e w2 => e = .returned (.string ⟨D1.toArray⟩) ∧ Hid (Gr w w2)) := fun z w' hz hg => by
    subst hz
    have := itoa_any (Y + 1) (by omega) w' (HTN.out w' hg)
    rw [ty, hD1] at this
    exact this.mono fun e w2 q => ⟨q.1, hg.trans q.2⟩
  have I2 : Hid (∀ z w', z = ((0 : Nat) : Int) + 1 → Gr w w' → Calls Tryd.prog 65 #[.int .i64 z] w' fun e w2 => e = .returned (.string ⟨D2.toArray⟩) ∧ Hid (Gr w w2)) := fun z w' hz hg => by
    subst hz
    have := itoa_any (0 + 1) (by omega) w' (HTN.out w' hg)
    rw [tx, hD2] at this
    exact this.mono fun e w2 q => ⟨q.1, hg.trans q.2⟩
  have PW : Hid (∀ (t : ByteArray) w', Gr w w' → t.data.toList = mvS D1 D2 → Calls Tryd.prog 26 #[.pointer (some ⟨b, 0, none⟩), .string t] w' fun e w2 => e = .returned (.tuple #[.int .i64 t.size, .nilIface]) ∧ Hid (PenTo w w2 B b (V : Int) a f g d (l ++ mvS D1 D2))) := fun t w' hg ht => by
    have hts : t.size ≤ 100 := by
      have : t.size = t.data.toList.length := rfl
      rw [this, ht]
      rw [hD1] at hd1; rw [hD2] at hd2
      unfold mvS
      simp
      omega
    have := penWrite_any B b p v (V : Int) a f g d l t w' (HP.out.up hg.below) (by omega) (Nat.le_trans hBw hg.size)
    rw [ht] at this
    exact this.mono fun e w2 ⟨he, h1⟩ => ⟨he, PenTo.start hg hBw ⟨_, h1⟩⟩
  rw [hD1, hD2] at HS
  have w1 : IntKind.i64.wrap ((Y : Int) + 1) = (Y : Int) + 1 := IntWalk.i64_in _ (by omega)
  have w2 : IntKind.i64.wrap (((0 : Nat) : Int) + 1) = ((0 : Nat) : Int) + 1 := IntWalk.i64_in _ (by omega)
  have hl1 : D1.length ≤ 3 := by rw [← hD1]; exact hd1
  have hl2 : D2.length ≤ 3 := by rw [← hD2]; exact hd2
  have j1 : ¬ 9223372036854775807 < 2 + D1.length := by omega
  have j2 : ¬ 9223372036854775807 < 2 + D1.length + 1 := by omega
  have j3 : ¬ 9223372036854775807 < 2 + D1.length + 1 + D2.length := by omega
  have j4 : ¬ 9223372036854775807 < 2 + D1.length + 1 + D2.length + 1 := by omega
  clear hl1 hl2
  have hV0 : ¬ V = 0 := by omega
  have hV1 : ¬ (V : Int) = 0 := by omega
  have hne : ((i : Int) != a) = false := by simpa using hc
  have wy : IntKind.i64.wrap (Y : Int) = (Y : Int) := IntWalk.i64_in _ (by omega)
  have hr0 : (i : Int) % (V : Int) = ((0 : Nat) : Int) := by rw [← hX]; exact (Int.natCast_emod i V).symm
  have hq0 : (i : Int) / (V : Int) = (Y : Int) := by rw [← hY]; exact (Int.natCast_ediv i V).symm
  have hm0 : (i : Int).tmod (V : Int) = 0 := by rw [Int.tmod_eq_emod_of_nonneg (Int.natCast_nonneg i), hr0]; rfl
  have hm1 : (i : Int) % (V : Int) = 0 := by rw [hr0]; rfl
  have hm2 : ((i : Int).tmod (V : Int) == 0) = true := by rw [hm0]; rfl
  have hQ : IntKind.i64.wrap (IntKind.i64.wrap ((i : Int) / (V : Int)) + 1) = (Y : Int) + 1 := by rw [hq0, wy, w1]
  have hR : IntKind.i64.wrap ((i : Int).tmod (V : Int) + 1) = ((0 : Nat) : Int) + 1 := by rw [Int.tmod_eq_emod_of_nonneg (Int.natCast_nonneg i), hr0, w2]
  clear h ht hlen hBw hX hz0 hY hi hd1 hd2 ty tx hD1 hD2 hq0 hr0 wy w1 w2 hc hV hgB
  go_enter Tryd.func44, Tryd.ntmps44
  go_wp2_with fail
  go_region_held (fun W_ => W_.cell? ⟨b, 2, none⟩ = some (.int .i64 (V : Int))) (go_keep) (first | (go_at_call 65; first | (with_reducible refine Calls.mono (I1.out _ _ (by with_reducible rfl) (by first | exact Gr.refl _ | exact (Gr.refl _).drew | assumption | exact Hid.out (by assumption) | exact Gr.drew (Hid.out (by assumption)))) ?_; rintro e1 u1 ⟨rfl, J1⟩; have c2 : u1.cell? ⟨b, 2, none⟩ = some (.int .i64 (V : Int)) := (HP.out.up J1.out.below).cell (k := 2) rfl) | (with_reducible refine Calls.mono (I2.out _ _ (by first | with_reducible rfl | decide) (by first | exact J1.out | exact J1.out.drew)) ?_; rintro e2 u2 ⟨rfl, J2⟩; have c2 : u2.cell? ⟨b, 2, none⟩ = some (.int .i64 (V : Int)) := (HP.out.up J2.out.below).cell (k := 2) rfl)) | (go_at_call 26; refine Calls.mono (PW.out _ _ (by first | exact J2.out | exact J2.out.drew) (by simp [mvS])) ?_; rintro e3 u3 ⟨rfl, HT⟩; have c2 : u3.cell? ⟨b, 2, none⟩ = some (.int .i64 (V : Int)) := (by obtain ⟨p1, v1, hv1, _⟩ := HT.out; exact hv1.cell (k := 2) rfl)))
  all_goals
    have z3 : u3.frozen? ⟨b, 3, none⟩ = false := by obtain ⟨p1, v1, hv1, _⟩ := HT.out; exact hv1.fz 3
    have k3 : u3.cell? ⟨b, 3, none⟩ = some (.int .i64 a) := by obtain ⟨p1, v1, hv1, _⟩ := HT.out; exact hv1.cell (k := 3) rfl
    go_wp2_with fail
    go_end0
    have X_ := HT.out.at3 (i : Int)
    rw [← HS.out] at X_
    exact ⟨rfl, by first | exact X_ | exact X_.drew | exact X_.drew.drew⟩

set_option maxHeartbeats 2000000 in
set_option maxRecDepth 100000 in
theorem penMov_skip (B b : Nat) (p v : Value) (V : Nat) (a f g d : Int) (l : List UInt8) (i : Nat) (w : World) (h : PenB w B b p v (V : Int) a f g d l) (hV : 1 ≤ V ∧ V ≤ 400) (hc : (i : Int) = a) (h0 : ¬ i % V = 0) :
    Calls Tryd.prog 44 #[.pointer (some ⟨b, 0, none⟩), .int .i64 (i : Int)] w fun e w' => e = .returned (.tuple #[]) ∧ Hid (PenTo w w' B b (V : Int) (i : Int) f g d l) := by
  obtain ⟨X, hX⟩ : ∃ X, i % V = X := ⟨_, rfl⟩
  have c2 : w.cell? ⟨b, 2, none⟩ = some (.int .i64 (V : Int)) := h.cell (k := 2) rfl
  have c3 : w.cell? ⟨b, 3, none⟩ = some (.int .i64 a) := h.cell (k := 3) rfl
  have HP : Hid (PenTo w w B b (V : Int) (i : Int) f g d l) := by rw [hc]; exact ⟨p, v, h, Below.refl _ _, Lib.OthersKept.refl _ _ _⟩
  have hV0 : ¬ V = 0 := by omega
  have hV1 : ¬ (V : Int) = 0 := by omega
  have hne : ((i : Int) != a) = false := by simpa using hc
  have hx0 : ¬ X = 0 := by omega
  have hxb : ((X : Int) == 0) = false := by simpa using hx0
  have hr0 : (i : Int) % (V : Int) = (X : Int) := by rw [← hX]; exact (Int.natCast_emod i V).symm
  have hm0 : (i : Int).tmod (V : Int) = (X : Int) := by rw [Int.tmod_eq_emod_of_nonneg (Int.natCast_nonneg i), hr0]
  clear h hX hV h0 hc
  go_enter Tryd.func44, Tryd.ntmps44
  go_wp2
  go_end0
  exact ⟨rfl, HP.out⟩
theorem penMov_any (B b : Nat) (p v : Value) (V : Nat) (a f g d : Int) (l : List UInt8) (i : Nat) (w : World) (h : PenB w B b p v (V : Int) a f g d l) (hlen : l.length ≤ 1099511627776) (hBw : B ≤ w.heap.size) (hV : 1 ≤ V ∧ V ≤ 400) (hi : i < 400 * V) (ht : TensAt w) (hgB : 3 < B) :
    Calls Tryd.prog 44 #[.pointer (some ⟨b, 0, none⟩), .int .i64 (i : Int)] w fun e w' => e = .returned (.tuple #[]) ∧ Hid (PenTo w w' B b (V : Int) (i : Int) f g d (l ++ movB V a i)) := by
  unfold movB
  by_cases hc : (i : Int) = a
  · by_cases h0 : i % V = 0
    · rw [if_pos (.inr h0)]
      exact penMov_zero B b p v V a f g d l i w h hlen hBw hV hi ht hgB hc h0
    · rw [if_neg (fun q => by rcases q with q | q; exact q hc; exact h0 q), List.append_nil]
      exact penMov_skip B b p v V a f g d l i w h hV hc h0
  · rw [if_pos (.inl hc)]
    exact penMov_write B b p v V a f g d l i w h hlen hBw hV hi ht hgB hc

end Go.Proofs.YtlfffpoeioecjaaDoor
