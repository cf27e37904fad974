/-
  The pen's ways: dip, moveTo.
-/
import Derived.Test.YtkdajaphbmclkaaGreatDoorX21
import Derived.Test.YtkdajaphbmclkaaGreatDoorX12
import Derived.Test.YtkdajaphbmclkaaGreatDoorX20
import Derived.Deep.RegionHeld
import Derived.Test.YtkdajaphbmclkaaGreatDoorX14
namespace Go.Proofs.YtkdajaphbmclkaaGreatDoor
open Go.RowKit Go.Sort
set_option linter.unusedVariables false

theorem PenB.style {Q : World} {B b : Nat} {p v : Value} {W a f g d : Int} {l : List UInt8} (h : PenB Q B b p v W a f g d l) : Q.cell? ⟨b, 4, none⟩ = some (.int .i64 f) ∧ Q.cell? ⟨b, 5, none⟩ = some (.int .i64 g) ∧ Q.cell? ⟨b, 6, none⟩ = some (.int .i64 d) := ⟨h.cell (k := 4) rfl, h.cell (k := 5) rfl, h.cell (k := 6) rfl⟩
set_option maxHeartbeats 2000000 in
set_option maxRecDepth 100000 in
theorem penDip_any (B b : Nat) (p v : Value) (W a f g d : Int) (l : List UInt8) (f2 g2 d2 : Int) (w : World) (h : PenB w B b p v W a f g d l) (hlen : l.length ≤ 1099511627776) (hBw : B ≤ w.heap.size) (hs : StyOk f g d) (hs2 : StyOk f2 g2 d2) :
    Calls Tryz.prog 37 #[.pointer (some ⟨b, 0, none⟩), .agg #[.int .i64 f2, .int .i64 g2, .int .i64 d2]] w fun e w' => e = .returned (.tuple #[]) ∧ Hid (PenTo w w' B b W a f2 g2 d2 (l ++ cds (nms f g d f2 g2 d2))) := by
  have hlt : b < w.heap.size := h.lt
  obtain ⟨S, hS⟩ : ∃ z, w.heap.size = z := ⟨_, rfl⟩
  obtain ⟨W0, hW0⟩ : ∃ z, w.alloc (.cells #[.int .i64 f2, .int .i64 g2, .int .i64 d2] 50) = z := ⟨_, rfl⟩
  have G0 : Hid (Gr w W0) := by rw [← hW0]; exact (Gr.refl w).alloc _
  have N0 : Hid (W0.heap[S]? = some (.cells #[.int .i64 f2, .int .i64 g2, .int .i64 d2] 50 (0, 0))) := by rw [← hW0, ← hS]; exact new_block w _
  have n0 : W0.cell? ⟨S, 0, none⟩ = some (.int .i64 f2) := by rw [Lib.cell_of_heap N0.out]; rfl
  have n1 : W0.cell? ⟨S, 1, none⟩ = some (.int .i64 g2) := by rw [Lib.cell_of_heap N0.out]; rfl
  have n2 : W0.cell? ⟨S, 2, none⟩ = some (.int .i64 d2) := by rw [Lib.cell_of_heap N0.out]; rfl
  have HP : Hid (PenB W0 B b p v W a f g d l) := h.up G0.out.below
  have c4 := HP.out.style.1
  have c5 := HP.out.style.2.1
  have c6 := HP.out.style.2.2
  have hB0 : B ≤ W0.heap.size := Nat.le_trans hBw G0.out.size
  obtain ⟨K, hK⟩ : ∃ k, cds (nms f g d f2 g2 d2) = k := ⟨_, rfl⟩
  have hKl : K.length ≤ 1000 := by
    rw [← hK]
    unfold cds
    split
    · decide
    · rename_i hne
      have hsm := nms_small (x := f) (y := g) (z := d) (z2 := d2) (x2 := f2) (y2 := g2) (hs2.1 ▸ kn_bd f2) (hs2.2.1 ▸ kn_bd g2)
      have := (sq_len hsm hne (nms_len f g d f2 g2 d2)).2
      omega
  have CD : Hid (∀ w', Gr W0 w' → Calls Tryz.prog 56 #[.agg #[.int .i64 f, .int .i64 g, .int .i64 d], .agg #[.int .i64 f2, .int .i64 g2, .int .i64 d2]] w' fun e w2 => e = .returned (.string ⟨K.toArray⟩) ∧ Hid (Below W0.heap.size W0 w2)) := fun w' hg => by
    have := codes_any f g d f2 g2 d2 w'
    unfold sv at this
    rw [hs.1, hs.2.1, hs.2.2, hs2.1, hs2.2.1, hs2.2.2, hK] at this
    exact this.mono fun e w2 q => ⟨q.1, hg.below.trans (q.2.mono hg.size)⟩
  have PW : Hid (∀ w', Below W0.heap.size W0 w' → Calls Tryz.prog 17 #[.pointer (some ⟨b, 0, none⟩), .string ⟨K.toArray⟩] w' fun e w2 => e = .returned (.tuple #[.int .i64 (⟨K.toArray⟩ : ByteArray).size, .nilIface]) ∧ Hid (PenTo W0 w2 B b W a f g d (l ++ K))) := fun w' hb => (penWrite_any B b p v W a f g d l ⟨K.toArray⟩ w' (HP.out.up hb) (by show l.length + K.toArray.size ≤ _; simp; omega) (Nat.le_trans hB0 hb.size)).mono fun e w2 ⟨he, v', h1, h2, h3⟩ => ⟨he, _, v', by simpa using h1, (hb.mono hB0).trans h2, (below_others hb _ _).trans h3⟩
  rw [hK]
  clear h
  go_enter Tryz.func37, Tryz.ntmps37
  go_wp2_with fail
  go_region_with (first | (go_at_call 56; refine Calls.mono (CD.out _ (by first | exact Gr.refl _ | exact (Gr.refl _).drew | exact ((Gr.refl _).drew).drew)) ?_; rintro e1 w1 ⟨rfl, H1⟩) | (go_at_call 17; refine Calls.mono (PW.out _ (by first | exact H1.out | exact H1.out.drew)) ?_; rintro e2 w2 ⟨rfl, HT⟩))
  all_goals
    have M0 : w2.heap[S]? = some (.cells #[.int .i64 f2, .int .i64 g2, .int .i64 d2] 50 (0, 0)) := HT.out.block N0.out (by omega) (by decide)
    have o0 : w2.cell? ⟨S, 0, none⟩ = some (.int .i64 f2) := by rw [Lib.cell_of_heap M0]; rfl
    have o1 : w2.cell? ⟨S, 1, none⟩ = some (.int .i64 g2) := by rw [Lib.cell_of_heap M0]; rfl
    have o2 : w2.cell? ⟨S, 2, none⟩ = some (.int .i64 d2) := by rw [Lib.cell_of_heap M0]; rfl
    have e4 : w2.cell? ⟨b, 4, none⟩ = some (.int .i64 f) := by obtain ⟨p1, v1, hv1, _⟩ := HT.out; exact hv1.cell (k := 4) rfl
    have e5 : w2.cell? ⟨b, 5, none⟩ = some (.int .i64 g) := by obtain ⟨p1, v1, hv1, _⟩ := HT.out; exact hv1.cell (k := 5) rfl
    have e6 : w2.cell? ⟨b, 6, none⟩ = some (.int .i64 d) := by obtain ⟨p1, v1, hv1, _⟩ := HT.out; exact hv1.cell (k := 6) rfl
    have z4 : w2.frozen? ⟨b, 4, none⟩ = false := by obtain ⟨p1, v1, hv1, _⟩ := HT.out; exact hv1.fz 4
    have z5 : w2.frozen? ⟨b, 5, none⟩ = false := by obtain ⟨p1, v1, hv1, _⟩ := HT.out; exact hv1.fz 5
    have z6 : w2.frozen? ⟨b, 6, none⟩ = false := by obtain ⟨p1, v1, hv1, _⟩ := HT.out; exact hv1.fz 6
    clear M0
    go_wp2_with fail
    go_end0
    have X := (HT.out.start G0.out hBw).sty f2 g2 d2
    exact ⟨rfl, by first | exact X | exact X.drew | exact X.drew.drew | exact X.drew.drew.drew⟩

end Go.Proofs.YtkdajaphbmclkaaGreatDoor

namespace Go.Proofs.YtkdajaphbmclkaaGreatDoor
set_option linter.unusedVariables false

theorem sq_seqB (ns : List Int) : sq ns = seqB ns 109 := rfl
theorem cds_dipB (ns : List Int) : cds ns = dipB ns := rfl
theorem kn_le {f : Int} (h : kn f = f) : 0 ≤ f ∧ f ≤ 8 := h ▸ kn_bd f
theorem bo_le {f : Int} (h : bo f = f) : 0 ≤ f ∧ f ≤ 1 := h ▸ bo_bd f
theorem turns_nms : Turns nms where
  no := fun {f g b f2 g2 b2} h1 h2 e => Classical.not_not.1 fun q => nms_ne q (bo_le h2.2.2) e
  few := fun {f g b f2 g2 b2} => Nat.le_trans (nms_len f g b f2 g2 b2) (by decide)
  small := fun {f g b f2 g2 b2} h1 h2 z hz => by
    have := nms_small (x := f) (y := g) (z := b) (z2 := b2) (kn_le h2.1) (kn_le h2.2.1) z hz
    omega
  turn := fun {f g b f2 g2 b2} h1 h2 e => by
    refine turned (kn_le h1.1) (kn_le h1.2.1) (bo_le h1.2.2) (kn_le h2.1) (kn_le h2.2.1) (bo_le h2.2.2) fun q => e ?_
    obtain ⟨rfl, rfl, rfl⟩ := q
    unfold nms
    rw [if_pos ⟨rfl, rfl, rfl⟩]

end Go.Proofs.YtkdajaphbmclkaaGreatDoor

namespace Go.Proofs.YtkdajaphbmclkaaGreatDoor
set_option linter.unusedVariables false

theorem dec_short (n : Nat) (h : n < 1000) : (Lib.decDigits n).length ≤ 3 := by
  rw [Lib.decDigits_length]
  by_cases h1 : n < 10
  · rw [Lib.nDigits_small h1]; omega
  · rw [Lib.nDigits_big h1]
    by_cases h2 : n / 10 < 10
    · rw [Lib.nDigits_small h2]; omega
    · rw [Lib.nDigits_big h2, Lib.nDigits_small (show n / 10 / 10 < 10 by omega)]; omega
/-- The bytes of a move, as they are put together. -/
def mvS (a b : List UInt8) : List UInt8 := 27 :: 91 :: (a ++ 59 :: (b ++ [72]))
theorem mvS_is (Y X : Nat) : seqB [(Y : Int) + 1, (X : Int) + 1] 72 = mvS (Lib.decDigits (Y + 1)) (Lib.decDigits (X + 1)) := by
  have e1 : ((Y : Int) + 1).toNat = Y + 1 := by omega
  have e2 : ((X : Int) + 1).toNat = X + 1 := by omega
  unfold seqB mvS
  simp [dgt, Lib.join, List.intercalate, e1, e2]
theorem mov_len {V i : Nat} (hV : 1 ≤ V ∧ V ≤ 400) (hi : i < 400 * V) (a : Int) : (movB V a i).length ≤ 10 := by
  have hX : i % V < V := Nat.mod_lt i (by omega)
  have hY : i / V < 400 := Nat.div_lt_of_lt_mul (by rw [Nat.mul_comm]; exact hi)
  unfold movB
  split
  · rw [mvS_is]
    have h1 := dec_short (i / V + 1) (by omega)
    have h2 := dec_short (i % V + 1) (by omega)
    unfold mvS
    simp
    omega
  · simp
theorem dip_len {f g b f2 g2 b2 : Int} (h2 : StyOk f2 g2 b2) : (dipB (nms f g b f2 g2 b2)).length ≤ 15 := by
  rw [← cds_dipB]
  unfold cds
  split
  · simp
  · rename_i hne
    exact (sq_len (nms_small (kn_le h2.1) (kn_le h2.2.1)) hne (nms_len ..)).2
/-- As many bytes as may be written for the cells up to i. -/
def wrS (old new : Nat → Ce) : Nat → Nat
  | 0 => 0
  | i + 1 => wrS old new i + if new i ≠ old i ∧ (new i).p ≠ 2 then 25 + (new i).t.size else 0
section
variable {old new : Nat → Ce} {V n : Nat} {p : Pe0}
theorem upd_sty (hp : StyOk p.f p.g p.b) (hn : ∀ i, i < n → Sty (new i)) : ∀ i, i ≤ n → StyOk (updB nms V old new p i).1.f (updB nms V old new p i).1.g (updB nms V old new p i).1.b
  | 0, _ => hp
  | i + 1, h => by
    unfold updB
    by_cases c : new i ≠ old i ∧ (new i).p ≠ 2
    · rw [if_pos c]; exact hn i (by omega)
    · rw [if_neg c]; exact upd_sty hp hn i (by omega)
theorem upd_at (hp : -1 ≤ p.a ∧ p.a ≤ n + 2) (hn : ∀ i, i < n → (new i).p = 0 ∨ (new i).p = 1 ∨ (new i).p = 2) : ∀ i, i ≤ n → -1 ≤ (updB nms V old new p i).1.a ∧ (updB nms V old new p i).1.a ≤ n + 2
  | 0, _ => hp
  | i + 1, h => by
    unfold updB
    by_cases c : new i ≠ old i ∧ (new i).p ≠ 2
    · rw [if_pos c]
      have := hn i (by omega)
      show -1 ≤ (i : Int) + ((new i).p + 1) ∧ (i : Int) + ((new i).p + 1) ≤ n + 2
      omega
    · rw [if_neg c]; exact upd_at hp hn i (by omega)
theorem upd_len (hV : 1 ≤ V ∧ V ≤ 400) (h4 : n ≤ 400 * V) (hn : ∀ i, i < n → Sty (new i)) : ∀ i, i ≤ n → (updB nms V old new p i).2.length ≤ wrS old new i
  | 0, _ => by simp [updB]
  | i + 1, h => by
    have ih := upd_len hV h4 hn i (by omega)
    unfold updB wrS
    by_cases c : new i ≠ old i ∧ (new i).p ≠ 2
    · rw [if_pos c, if_pos c]
      have h1 := mov_len hV (i := i) (by omega) (updB nms V old new p i).1.a
      have h2 := dip_len (f := (updB nms V old new p i).1.f) (g := (updB nms V old new p i).1.g) (b := (updB nms V old new p i).1.b) (f2 := (new i).f) (g2 := (new i).g) (b2 := (new i).b) (hn i (by omega))
      have h3 : (new i).t.data.toList.length = (new i).t.size := rfl
      show List.length (_ ++ _) ≤ _
      unfold celB
      rw [List.length_append, List.length_append, List.length_append, h3]
      omega
    · rw [if_neg c, if_neg c]; exact ih
end
theorem enc_len : ∀ R : List Int, (enc R).length ≤ 4 * R.length
  | [] => by simp [enc]
  | r :: R => by
    have h1 := encodeRune_le r
    have h2 := enc_len R
    have : enc (r :: R) = Lib.encodeRune r ++ enc R := by simp [enc]
    rw [this, List.length_append, List.length_cons]
    omega
theorem txt_len {e : Ce} {n : Int} (hn : n = 1 ∨ n = 2) (h : Txt e n) : e.t.size ≤ 20 := by
  obtain ⟨b, ms, h1, _, _, h4, _⟩ := cell_text hn h
  have h2 := enc_len (b :: ms)
  rw [← h1, List.length_cons] at h2
  have h3 : e.t.data.toList.length = e.t.size := rfl
  omega
theorem Rws.size {C : Nat → Ce} {W H : Nat} (h : Rws C W H) {j : Nat} (hj : j < H * W) : (C j).t.size ≤ 20 := by
  obtain ⟨y, x, hy, hx, rfl⟩ := row_of hj
  have o := h.ok hy hx
  by_cases c : (C (y * W + x)).p = 2
  · rw [(o.tail c).2.2]; decide
  · exact txt_len (by have := o.part; omega) (o.text c)
theorem Rws.sty {C : Nat → Ce} {W H : Nat} (h : Rws C W H) {j : Nat} (hj : j < H * W) : Sty (C j) := by
  obtain ⟨y, x, hy, hx, rfl⟩ := row_of hj
  exact (h.ok hy hx).sty
theorem wrS_le {old new : Nat → Ce} {n : Nat} (h : ∀ i, i < n → (new i).t.size ≤ 20) : ∀ i, i ≤ n → wrS old new i ≤ 45 * i
  | 0, _ => by simp [wrS]
  | i + 1, hi => by
    have ih := wrS_le (old := old) h i (by omega)
    have := h i (by omega)
    unfold wrS
    split <;> omega

end Go.Proofs.YtkdajaphbmclkaaGreatDoor

namespace Go.Proofs.YtkdajaphbmclkaaGreatDoor
open Go.RowKit Go.Sort
set_option linter.unusedVariables false

set_option maxHeartbeats 2000000 in
set_option maxRecDepth 100000 in
theorem penMov_write (B b : Nat) (p v : Value) (V : Nat) (a f g d : Int) (l : List UInt8) (i : Nat) (w : World) (h : PenB w B b p v (V : Int) a f g d l) (hlen : l.length ≤ 1099511627776) (hBw : B ≤ w.heap.size) (hV : 1 ≤ V ∧ V ≤ 400) (hi : i < 400 * V) (ht : TensAt w) (hgB : 3 < B) (hc : (i : Int) ≠ a) :
    Calls Tryz.prog 36 #[.pointer (some ⟨b, 0, none⟩), .int .i64 (i : Int)] w fun e w' => e = .returned (.tuple #[]) ∧ Hid (PenTo w w' B b (V : Int) (i : Int) f g d (l ++ seqB [((i / V : Nat) : Int) + 1, ((i % V : Nat) : Int) + 1] 72)) := by
  obtain ⟨X, hX⟩ : ∃ X, i % V = X := ⟨_, rfl⟩
  obtain ⟨Y, hY⟩ : ∃ Y, i / V = Y := ⟨_, rfl⟩
  have hXV : X < 400 := by rw [← hX]; have := Nat.mod_lt i (show 0 < V by omega); omega
  have hYV : Y < 400 := by rw [← hY]; exact Nat.div_lt_of_lt_mul (by rw [Nat.mul_comm]; exact hi)
  have c2 : w.cell? ⟨b, 2, none⟩ = some (.int .i64 (V : Int)) := h.cell (k := 2) rfl
  have c3 : w.cell? ⟨b, 3, none⟩ = some (.int .i64 a) := h.cell (k := 3) rfl
  have HP : Hid (PenB w B b p v (V : Int) a f g d l) := h
  have HTN : Hid (∀ w', Gr w w' → TensAt w') := fun w' hg => ht.below (B := w.heap.size) hg.below (by omega)
  rw [hX, hY]
  have HS : Hid (seqB [(Y : Int) + 1, (X : Int) + 1] 72 = mvS (Lib.decDigits (Y + 1)) (Lib.decDigits (X + 1))) := mvS_is Y X
  have hd1 : (Lib.decDigits (Y + 1)).length ≤ 3 := dec_short _ (by omega)
  have hd2 : (Lib.decDigits (X + 1)).length ≤ 3 := dec_short _ (by omega)
  have ty : ((Y + 1 : Nat) : Int) = (Y : Int) + 1 := by omega
  have tx : ((X + 1 : Nat) : Int) = (X : Int) + 1 := by omega
  obtain ⟨D1, hD1⟩ : ∃ z, Lib.decDigits (Y + 1) = z := ⟨_, rfl⟩
  obtain ⟨D2, hD2⟩ : ∃ z, Lib.decDigits (X + 1) = z := ⟨_, rfl⟩
  have I1 : Hid (∀ z w', z = (Y : Int) + 1 → Gr w w' → Calls Tryz.prog 55 #[.int .i64 z] w' fun e w2 => e = .returned (.string ⟨D1.toArray⟩) ∧ Hid (Gr w w2)) := fun z w' hz hg => by
    subst hz
    have := itoa_any (Y + 1) (by omega) w' (HTN.out w' hg)
    rw [ty, hD1] at this
    exact this.mono fun e w2 q => ⟨q.1, hg.trans q.2⟩
  have I2 : Hid (∀ z w', z = (X : Int) + 1 → Gr w w' → Calls Tryz.prog 55 #[.int .i64 z] w' fun e w2 => e = .returned (.string ⟨D2.toArray⟩) ∧ Hid (Gr w w2)) := fun z w' hz hg => by
    subst hz
    have := itoa_any (X + 1) (by omega) w' (HTN.out w' hg)
    rw [tx, hD2] at this
    exact this.mono fun e w2 q => ⟨q.1, hg.trans q.2⟩
  have PW : Hid (∀ (t : ByteArray) w', Gr w w' → t.data.toList = mvS D1 D2 → Calls Tryz.prog 17 #[.pointer (some ⟨b, 0, none⟩), .string t] w' fun e w2 => e = .returned (.tuple #[.int .i64 t.size, .nilIface]) ∧ Hid (PenTo w w2 B b (V : Int) a f g d (l ++ mvS D1 D2))) := fun t w' hg ht => by
    have hts : t.size ≤ 100 := by
      have : t.size = t.data.toList.length := rfl
      rw [this, ht]
      rw [hD1] at hd1; rw [hD2] at hd2
      unfold mvS
      simp
      omega
    have := penWrite_any B b p v (V : Int) a f g d l t w' (HP.out.up hg.below) (by omega) (Nat.le_trans hBw hg.size)
    rw [ht] at this
    exact this.mono fun e w2 ⟨he, h1⟩ => ⟨he, PenTo.start hg hBw ⟨_, h1⟩⟩
  rw [hD1, hD2] at HS
  have w1 : IntKind.i64.wrap ((Y : Int) + 1) = (Y : Int) + 1 := IntWalk.i64_in _ (by omega)
  have w2 : IntKind.i64.wrap ((X : Int) + 1) = (X : Int) + 1 := IntWalk.i64_in _ (by omega)
  have hl1 : D1.length ≤ 3 := by rw [← hD1]; exact hd1
  have hl2 : D2.length ≤ 3 := by rw [← hD2]; exact hd2
  have j1 : ¬ 9223372036854775807 < 2 + D1.length := by omega
  have j2 : ¬ 9223372036854775807 < 2 + D1.length + 1 := by omega
  have j3 : ¬ 9223372036854775807 < 2 + D1.length + 1 + D2.length := by omega
  have j4 : ¬ 9223372036854775807 < 2 + D1.length + 1 + D2.length + 1 := by omega
  clear hl1 hl2
  have hV0 : ¬ V = 0 := by omega
  have hV1 : ¬ (V : Int) = 0 := by omega
  have hne : ((i : Int) != a) = true := by simpa using hc
  have wy : IntKind.i64.wrap (Y : Int) = (Y : Int) := IntWalk.i64_in _ (by omega)
  have hr0 : (i : Int) % (V : Int) = (X : Int) := by rw [← hX]; exact (Int.natCast_emod i V).symm
  have hq0 : (i : Int) / (V : Int) = (Y : Int) := by rw [← hY]; exact (Int.natCast_ediv i V).symm
  have hQ : IntKind.i64.wrap (IntKind.i64.wrap ((i : Int) / (V : Int)) + 1) = (Y : Int) + 1 := by rw [hq0, wy, w1]
  have hR : IntKind.i64.wrap ((i : Int).tmod (V : Int) + 1) = (X : Int) + 1 := by rw [Int.tmod_eq_emod_of_nonneg (Int.natCast_nonneg i), hr0, w2]
  clear h ht hlen hBw hX hY hi hd1 hd2 ty tx hD1 hD2 hq0 hr0 wy w1 w2 hc hV hgB
  go_enter Tryz.func36, Tryz.ntmps36
  go_wp2_with fail
  go_region_held (fun W_ => W_.cell? ⟨b, 2, none⟩ = some (.int .i64 (V : Int))) (go_keep) (first | (go_at_call 55; first | (with_reducible refine Calls.mono (I1.out _ _ (by with_reducible rfl) (by first | exact Gr.refl _ | exact (Gr.refl _).drew | assumption | exact Hid.out (by assumption) | exact Gr.drew (Hid.out (by assumption)))) ?_; rintro e1 u1 ⟨rfl, J1⟩; have c2 : u1.cell? ⟨b, 2, none⟩ = some (.int .i64 (V : Int)) := (HP.out.up J1.out.below).cell (k := 2) rfl) | (with_reducible refine Calls.mono (I2.out _ _ (by with_reducible rfl) (by first | exact J1.out | exact J1.out.drew)) ?_; rintro e2 u2 ⟨rfl, J2⟩; have c2 : u2.cell? ⟨b, 2, none⟩ = some (.int .i64 (V : Int)) := (HP.out.up J2.out.below).cell (k := 2) rfl)) | (go_at_call 17; refine Calls.mono (PW.out _ _ (by first | exact J2.out | exact J2.out.drew) (by simp [mvS])) ?_; rintro e3 u3 ⟨rfl, HT⟩; have c2 : u3.cell? ⟨b, 2, none⟩ = some (.int .i64 (V : Int)) := (by obtain ⟨p1, v1, hv1, _⟩ := HT.out; exact hv1.cell (k := 2) rfl)))
  all_goals
    have z3 : u3.frozen? ⟨b, 3, none⟩ = false := by obtain ⟨p1, v1, hv1, _⟩ := HT.out; exact hv1.fz 3
    have k3 : u3.cell? ⟨b, 3, none⟩ = some (.int .i64 a) := by obtain ⟨p1, v1, hv1, _⟩ := HT.out; exact hv1.cell (k := 3) rfl
    go_wp2_with fail
    go_end0
    have X := HT.out.at3 (i : Int)
    rw [← HS.out] at X
    exact ⟨rfl, by first | exact X | exact X.drew | exact X.drew.drew⟩

set_option maxHeartbeats 2000000 in
set_option maxRecDepth 100000 in
theorem penMov_zero (B b : Nat) (p v : Value) (V : Nat) (a f g d : Int) (l : List UInt8) (i : Nat) (w : World) (h : PenB w B b p v (V : Int) a f g d l) (hlen : l.length ≤ 1099511627776) (hBw : B ≤ w.heap.size) (hV : 1 ≤ V ∧ V ≤ 400) (hi : i < 400 * V) (ht : TensAt w) (hgB : 3 < B) (hc : (i : Int) = a) (hz0 : i % V = 0) :
    Calls Tryz.prog 36 #[.pointer (some ⟨b, 0, none⟩), .int .i64 (i : Int)] w fun e w' => e = .returned (.tuple #[]) ∧ Hid (PenTo w w' B b (V : Int) (i : Int) f g d (l ++ seqB [((i / V : Nat) : Int) + 1, ((i % V : Nat) : Int) + 1] 72)) := by
  obtain ⟨X, hX⟩ : ∃ X, i % V = X := ⟨_, rfl⟩
  obtain rfl : 0 = X := hz0.symm.trans hX
  obtain ⟨Y, hY⟩ : ∃ Y, i / V = Y := ⟨_, rfl⟩
  have hXV : 0 < 400 := by decide
  have hYV : Y < 400 := by rw [← hY]; exact Nat.div_lt_of_lt_mul (by rw [Nat.mul_comm]; exact hi)
  have c2 : w.cell? ⟨b, 2, none⟩ = some (.int .i64 (V : Int)) := h.cell (k := 2) rfl
  have c3 : w.cell? ⟨b, 3, none⟩ = some (.int .i64 a) := h.cell (k := 3) rfl
  have HP : Hid (PenB w B b p v (V : Int) a f g d l) := h
  have HTN : Hid (∀ w', Gr w w' → TensAt w') := fun w' hg => ht.below (B := w.heap.size) hg.below (by omega)
  rw [hX, hY]
  have HS : Hid (seqB [(Y : Int) + 1, ((0 : Nat) : Int) + 1] 72 = mvS (Lib.decDigits (Y + 1)) (Lib.decDigits (0 + 1))) := mvS_is Y 0
  have hd1 : (Lib.decDigits (Y + 1)).length ≤ 3 := dec_short _ (by omega)
  have hd2 : (Lib.decDigits (0 + 1)).length ≤ 3 := dec_short _ (by omega)
  have ty : ((Y + 1 : Nat) : Int) = (Y : Int) + 1 := by omega
  have tx : ((0 + 1 : Nat) : Int) = ((0 : Nat) : Int) + 1 := by omega
  obtain ⟨D1, hD1⟩ : ∃ z, Lib.decDigits (Y + 1) = z := ⟨_, rfl⟩
  obtain ⟨D2, hD2⟩ : ∃ z, Lib.decDigits (0 + 1) = z := ⟨_, rfl⟩
  have I1 : Hid (∀ z w', z = (Y : Int) + 1 → Gr w w' → Calls Tryz.prog 55 #[.int .i64 z] w' fun e w2 => e = .returned (.string ⟨D1.toArray⟩) ∧ Hid (Gr w w2)) := fun z w' hz hg => by
    subst hz
    have := itoa_any (Y + 1) (by omega) w' (HTN.out w' hg)
    rw [ty, hD1] at this
    exact this.mono fun e w2 q => ⟨q.1, hg.trans q.2⟩
  have I2 : Hid (∀ z w', z = ((0 : Nat) : Int) + 1 → Gr w w' → Calls Tryz.prog 55 #[.int .i64 z] w' fun e w2 => e = .returned (.string ⟨D2.toArray⟩) ∧ Hid (Gr w w2)) := fun z w' hz hg => by
    subst hz
    have := itoa_any (0 + 1) (by omega) w' (HTN.out w' hg)
    rw [tx, hD2] at this
    exact this.mono fun e w2 q => ⟨q.1, hg.trans q.2⟩
  have PW : Hid (∀ (t : ByteArray) w', Gr w w' → t.data.toList = mvS D1 D2 → Calls Tryz.prog 17 #[.pointer (some ⟨b, 0, none⟩), .string t] w' fun e w2 => e = .returned (.tuple #[.int .i64 t.size, .nilIface]) ∧ Hid (PenTo w w2 B b (V : Int) a f g d (l ++ mvS D1 D2))) := fun t w' hg ht => by
    have hts : t.size ≤ 100 := by
      have : t.size = t.data.toList.length := rfl
      rw [this, ht]
      rw [hD1] at hd1; rw [hD2] at hd2
      unfold mvS
      simp
      omega
    have := penWrite_any B b p v (V : Int) a f g d l t w' (HP.out.up hg.below) (by omega) (Nat.le_trans hBw hg.size)
    rw [ht] at this
    exact this.mono fun e w2 ⟨he, h1⟩ => ⟨he, PenTo.start hg hBw ⟨_, h1⟩⟩
  rw [hD1, hD2] at HS
  have w1 : IntKind.i64.wrap ((Y : Int) + 1) = (Y : Int) + 1 := IntWalk.i64_in _ (by omega)
  have w2 : IntKind.i64.wrap (((0 : Nat) : Int) + 1) = ((0 : Nat) : Int) + 1 := IntWalk.i64_in _ (by omega)
  have hl1 : D1.length ≤ 3 := by rw [← hD1]; exact hd1
  have hl2 : D2.length ≤ 3 := by rw [← hD2]; exact hd2
  have j1 : ¬ 9223372036854775807 < 2 + D1.length := by omega
  have j2 : ¬ 9223372036854775807 < 2 + D1.length + 1 := by omega
  have j3 : ¬ 9223372036854775807 < 2 + D1.length + 1 + D2.length := by omega
  have j4 : ¬ 9223372036854775807 < 2 + D1.length + 1 + D2.length + 1 := by omega
  clear hl1 hl2
  have hV0 : ¬ V = 0 := by omega
  have hV1 : ¬ (V : Int) = 0 := by omega
  have hne : ((i : Int) != a) = false := by simpa using hc
  have wy : IntKind.i64.wrap (Y : Int) = (Y : Int) := IntWalk.i64_in _ (by omega)
  have hr0 : (i : Int) % (V : Int) = ((0 : Nat) : Int) := by rw [← hX]; exact (Int.natCast_emod i V).symm
  have hq0 : (i : Int) / (V : Int) = (Y : Int) := by rw [← hY]; exact (Int.natCast_ediv i V).symm
  have hm0 : (i : Int).tmod (V : Int) = 0 := by rw [Int.tmod_eq_emod_of_nonneg (Int.natCast_nonneg i), hr0]; rfl
  have hm1 : (i : Int) % (V : Int) = 0 := by rw [hr0]; rfl
  have hm2 : ((i : Int).tmod (V : Int) == 0) = true := by rw [hm0]; rfl
  have hQ : IntKind.i64.wrap (IntKind.i64.wrap ((i : Int) / (V : Int)) + 1) = (Y : Int) + 1 := by rw [hq0, wy, w1]
  have hR : IntKind.i64.wrap ((i : Int).tmod (V : Int) + 1) = ((0 : Nat) : Int) + 1 := by rw [Int.tmod_eq_emod_of_nonneg (Int.natCast_nonneg i), hr0, w2]
  clear h ht hlen hBw hX hz0 hY hi hd1 hd2 ty tx hD1 hD2 hq0 hr0 wy w1 w2 hc hV hgB
  go_enter Tryz.func36, Tryz.ntmps36
  go_wp2_with fail
  go_region_held (fun W_ => W_.cell? ⟨b, 2, none⟩ = some (.int .i64 (V : Int))) (go_keep) (first | (go_at_call 55; first | (with_reducible refine Calls.mono (I1.out _ _ (by with_reducible rfl) (by first | exact Gr.refl _ | exact (Gr.refl _).drew | assumption | exact Hid.out (by assumption) | exact Gr.drew (Hid.out (by assumption)))) ?_; rintro e1 u1 ⟨rfl, J1⟩; have c2 : u1.cell? ⟨b, 2, none⟩ = some (.int .i64 (V : Int)) := (HP.out.up J1.out.below).cell (k := 2) rfl) | (with_reducible refine Calls.mono (I2.out _ _ (by first | with_reducible rfl | decide) (by first | exact J1.out | exact J1.out.drew)) ?_; rintro e2 u2 ⟨rfl, J2⟩; have c2 : u2.cell? ⟨b, 2, none⟩ = some (.int .i64 (V : Int)) := (HP.out.up J2.out.below).cell (k := 2) rfl)) | (go_at_call 17; refine Calls.mono (PW.out _ _ (by first | exact J2.out | exact J2.out.drew) (by simp [mvS])) ?_; rintro e3 u3 ⟨rfl, HT⟩; have c2 : u3.cell? ⟨b, 2, none⟩ = some (.int .i64 (V : Int)) := (by obtain ⟨p1, v1, hv1, _⟩ := HT.out; exact hv1.cell (k := 2) rfl)))
  all_goals
    have z3 : u3.frozen? ⟨b, 3, none⟩ = false := by obtain ⟨p1, v1, hv1, _⟩ := HT.out; exact hv1.fz 3
    have k3 : u3.cell? ⟨b, 3, none⟩ = some (.int .i64 a) := by obtain ⟨p1, v1, hv1, _⟩ := HT.out; exact hv1.cell (k := 3) rfl
    go_wp2_with fail
    go_end0
    have X_ := HT.out.at3 (i : Int)
    rw [← HS.out] at X_
    exact ⟨rfl, by first | exact X_ | exact X_.drew | exact X_.drew.drew⟩

set_option maxHeartbeats 2000000 in
set_option maxRecDepth 100000 in
theorem penMov_skip (B b : Nat) (p v : Value) (V : Nat) (a f g d : Int) (l : List UInt8) (i : Nat) (w : World) (h : PenB w B b p v (V : Int) a f g d l) (hV : 1 ≤ V ∧ V ≤ 400) (hc : (i : Int) = a) (h0 : ¬ i % V = 0) :
    Calls Tryz.prog 36 #[.pointer (some ⟨b, 0, none⟩), .int .i64 (i : Int)] w fun e w' => e = .returned (.tuple #[]) ∧ Hid (PenTo w w' B b (V : Int) (i : Int) f g d l) := by
  obtain ⟨X, hX⟩ : ∃ X, i % V = X := ⟨_, rfl⟩
  have c2 : w.cell? ⟨b, 2, none⟩ = some (.int .i64 (V : Int)) := h.cell (k := 2) rfl
  have c3 : w.cell? ⟨b, 3, none⟩ = some (.int .i64 a) := h.cell (k := 3) rfl
  have HP : Hid (PenTo w w B b (V : Int) (i : Int) f g d l) := by rw [hc]; exact ⟨p, v, h, Below.refl _ _, Lib.OthersKept.refl _ _ _⟩
  have hV0 : ¬ V = 0 := by omega
  have hV1 : ¬ (V : Int) = 0 := by omega
  have hne : ((i : Int) != a) = false := by simpa using hc
  have hx0 : ¬ X = 0 := by omega
  have hxb : ((X : Int) == 0) = false := by simpa using hx0
  have hr0 : (i : Int) % (V : Int) = (X : Int) := by rw [← hX]; exact (Int.natCast_emod i V).symm
  have hm0 : (i : Int).tmod (V : Int) = (X : Int) := by rw [Int.tmod_eq_emod_of_nonneg (Int.natCast_nonneg i), hr0]
  clear h hX hV h0 hc
  go_enter Tryz.func36, Tryz.ntmps36
  go_wp2
  go_end0
  exact ⟨rfl, HP.out⟩
theorem penMov_any (B b : Nat) (p v : Value) (V : Nat) (a f g d : Int) (l : List UInt8) (i : Nat) (w : World) (h : PenB w B b p v (V : Int) a f g d l) (hlen : l.length ≤ 1099511627776) (hBw : B ≤ w.heap.size) (hV : 1 ≤ V ∧ V ≤ 400) (hi : i < 400 * V) (ht : TensAt w) (hgB : 3 < B) :
    Calls Tryz.prog 36 #[.pointer (some ⟨b, 0, none⟩), .int .i64 (i : Int)] w fun e w' => e = .returned (.tuple #[]) ∧ Hid (PenTo w w' B b (V : Int) (i : Int) f g d (l ++ movB V a i)) := by
  unfold movB
  by_cases hc : (i : Int) = a
  · by_cases h0 : i % V = 0
    · rw [if_pos (.inr h0)]
      exact penMov_zero B b p v V a f g d l i w h hlen hBw hV hi ht hgB hc h0
    · rw [if_neg (fun q => by rcases q with q | q; exact q hc; exact h0 q), List.append_nil]
      exact penMov_skip B b p v V a f g d l i w h hV hc h0
  · rw [if_pos (.inl hc)]
    exact penMov_write B b p v V a f g d l i w h hlen hBw hV hi ht hgB hc

end Go.Proofs.YtkdajaphbmclkaaGreatDoor

namespace Go.Proofs.YtkdajaphbmclkaaGreatDoor
open Go.RowKit Go.Sort
set_option linter.unusedVariables false

theorem CB.pen {w w2 : World} {B b : Nat} {W a f g d : Int} {l : List UInt8} {q off n : Nat} {C : Nat → Ce} (h : CB w q off n C) (ht : PenTo w w2 B b W a f g d l) (hb : q ≠ b) : CB w2 q off n C := h.kept fun cs fz he => ht.block he hb (by decide)
theorem CB.gr {w w2 : World} {q off n : Nat} {C : Nat → Ce} (h : CB w q off n C) (ht : Gr w w2) : CB w2 q off n C := h.kept fun cs fz he => (ht.below.block _ (Array.getElem?_eq_some_iff.1 he).1).trans he
theorem PenTo.next {w w1 w2 : World} {B b : Nat} {W W' a f g d a' f' g' d' : Int} {l l' : List UInt8} (h : PenTo w w1 B b W a f g d l) (h2 : PenTo w1 w2 B b W' a' f' g' d' l') : PenTo w w2 B b W' a' f' g' d' l' := by
  obtain ⟨_, _, _, h3, h4⟩ := h
  obtain ⟨p', v', k1, k2, k3⟩ := h2
  exact ⟨p', v', k1, h3.trans k2, h4.trans k3⟩
theorem PenTo.gr {w w1 w2 : World} {B b : Nat} {W a f g d : Int} {l : List UInt8} (h : PenTo w w1 B b W a f g d l) (hg : Gr w1 w2) (hB : B ≤ w1.heap.size) : PenTo w w2 B b W a f g d l := by
  obtain ⟨p', v', h1, h2, h3⟩ := h
  exact ⟨p', v', h1.up hg.below, h2.trans (hg.below.mono hB), h3.trans (below_others hg.below _ _)⟩
theorem PenTo.size {w w1 : World} {B b : Nat} {W a f g d : Int} {l : List UInt8} (h : PenTo w w1 B b W a f g d l) (hB : B ≤ w.heap.size) : B ≤ w1.heap.size := by
  obtain ⟨p', v', h1, h2, h3⟩ := h
  exact Nat.le_trans hB h2.size
theorem PenTo.tens {w w1 : World} {B b : Nat} {W a f g d : Int} {l : List UInt8} (h : PenTo w w1 B b W a f g d l) (ht : TensAt w) (hB : 3 < B) : TensAt w1 := by
  obtain ⟨p', v', h1, h2, h3⟩ := h
  exact ht.below h2 hB
/-- The two cells differ in a field, or they are the same. -/
theorem ce_cases (t f g b q t1 f1 g1 b1 q1) : (t.toList == t1.toList) = false ∧ (⟨t, f, g, b, q⟩ : Ce) ≠ ⟨t1, f1, g1, b1, q1⟩ ∨ t = t1 ∧ ((f == f1) = false ∧ (⟨t, f, g, b, q⟩ : Ce) ≠ ⟨t1, f1, g1, b1, q1⟩ ∨ f = f1 ∧ ((g == g1) = false ∧ (⟨t, f, g, b, q⟩ : Ce) ≠ ⟨t1, f1, g1, b1, q1⟩ ∨ g = g1 ∧ ((b == b1) = false ∧ (⟨t, f, g, b, q⟩ : Ce) ≠ ⟨t1, f1, g1, b1, q1⟩ ∨ b = b1 ∧ ((q == q1) = false ∧ (⟨t, f, g, b, q⟩ : Ce) ≠ ⟨t1, f1, g1, b1, q1⟩ ∨ q = q1)))) := by
  by_cases h0 : t = t1
  · refine .inr ⟨h0, ?_⟩
    by_cases h1 : f = f1
    · refine .inr ⟨h1, ?_⟩
      by_cases h2 : g = g1
      · refine .inr ⟨h2, ?_⟩
        by_cases h3 : b = b1
        · refine .inr ⟨h3, ?_⟩
          by_cases h4 : q = q1
          · exact .inr h4
          · exact .inl ⟨by simpa using h4, fun e => h4 (by injection e)⟩
        · exact .inl ⟨by simpa using h3, fun e => h3 (by injection e)⟩
      · exact .inl ⟨by simpa using h2, fun e => h2 (by injection e)⟩
    · exact .inl ⟨by simpa using h1, fun e => h1 (by injection e)⟩
  · exact .inl ⟨str_ne h0, fun e => h0 (by injection e)⟩

set_option maxHeartbeats 8000000 in
set_option maxRecDepth 100000 in
theorem penUpd_any (B b : Nat) (p v : Value) (V H n : Nat) (l : List UInt8) (gO oO capO gN oN capN : Nat) (old new : Nat → Ce) (w : World) (h : PenB w B b p v (V : Int) (-1) 0 0 0 l) (hlen : l.length ≤ 1000) (hBw : B ≤ w.heap.size) (hV : 1 ≤ V ∧ V ≤ 400) (hH : 1 ≤ H ∧ H ≤ 400) (hnn : n = H * V) (hr : Rws new V H) (hO : CB w gO oO n old) (hN : CB w gN oN n new) (hOb : gO ≠ b) (hNb : gN ≠ b) (ht : TensAt w) (hgB : 3 < B) :
    Calls Tryz.prog 19 #[.pointer (some ⟨b, 0, none⟩), .slice (some ⟨gO, oO, none⟩) n capO, .slice (some ⟨gN, oN, none⟩) n capN] w fun e w' => e = .returned (.tuple #[]) ∧ Hid (∃ a, PenTo w w' B b (V : Int) a 0 0 0 (l ++ allB nms V n old new ⟨-1, 0, 0, 0⟩)) := by
  have hmix : Tryz.prog.follows .mixedOrders = true := by kernel_rfl
  have hn4 : n ≤ 400 * V := by rw [hnn]; exact Nat.mul_le_mul_right V hH.2
  have hnb : n ≤ 160000 := by have := Nat.mul_le_mul_left 400 hV.2; omega
  have hn1 : 1 ≤ n := by rw [hnn]; exact Nat.mul_pos (by omega) (by omega)
  have hsty : ∀ i, i < n → Sty (new i) := fun i hi => hr.sty (by omega)
  have hsz : ∀ i, i < n → (new i).t.size ≤ 20 := fun i hi => hr.size (by omega)
  have hpt : ∀ i, i < n → (new i).p = 0 ∨ (new i).p = 1 ∨ (new i).p = 2 := fun i hi => hr.part (by omega)
  obtain ⟨p0, hp0⟩ : ∃ z : Pe0, (⟨-1, 0, 0, 0⟩ : Pe0) = z := ⟨_, rfl⟩
  have hps : StyOk p0.f p0.g p0.b := by rw [← hp0]; exact ⟨by decide, by decide, by decide⟩
  have hpa : -1 ≤ p0.a ∧ p0.a ≤ n + 2 := by rw [← hp0]; exact ⟨by decide, by show (-1 : Int) ≤ _; omega⟩
  have US : Hid (∀ i, i ≤ n → StyOk (updB nms V old new p0 i).1.f (updB nms V old new p0 i).1.g (updB nms V old new p0 i).1.b) := upd_sty hps hsty
  have UA : Hid (∀ i, i ≤ n → -1 ≤ (updB nms V old new p0 i).1.a ∧ (updB nms V old new p0 i).1.a ≤ n + 2) := upd_at hpa hpt
  have UL : Hid (∀ i, i ≤ n → (updB nms V old new p0 i).2.length ≤ 7200000) := fun i hi => Nat.le_trans (upd_len hV hn4 hsty i hi) (Nat.le_trans (wrS_le hsz i hi) (by omega))
  have HST : Hid (∀ i, i < n → Sty (new i)) := hsty
  have HSZ : Hid (∀ i, i < n → (new i).t.size ≤ 20) := hsz
  have HPT : Hid (∀ i, i < n → (new i).p = 0 ∨ (new i).p = 1 ∨ (new i).p = 2) := hpt
  have HO : Hid (CB w gO oO n old) := hO
  have HN : Hid (CB w gN oN n new) := hN
  have HT : Hid (TensAt w) := ht
  have H0 : Hid (PenTo w w B b (V : Int) (updB nms V old new p0 0).1.a (updB nms V old new p0 0).1.f (updB nms V old new p0 0).1.g (updB nms V old new p0 0).1.b (l ++ (updB nms V old new p0 0).2)) := ⟨p, v, by rw [← hp0]; show PenB w B b p v (V : Int) (-1) 0 0 0 (l ++ []); rw [List.append_nil]; exact h, Below.refl _ _, Lib.OthersKept.refl _ _ _⟩
  have HV : Hid (1 ≤ V ∧ V ≤ 400) := hV
  have HN4 : Hid (n ≤ 400 * V) := hn4
  clear h hO hN ht hsty hsz hpt hr hnn hps hpa hH hV hn4
  go_enter Tryz.func19, Tryz.ntmps19
  go_wp2
  go_loopw [10] (fun iv wr => ∃ k : Nat, iv = .int .i64 k ∧ k ≤ n ∧ Hid (PenTo w wr B b (V : Int) (updB nms V old new p0 k).1.a (updB nms V old new p0 k).1.f (updB nms V old new p0 k).1.g (updB nms V old new p0 k).1.b (l ++ (updB nms V old new p0 k).2))) (fun i _ => n - (intOf i).toNat)
  case atStart => exact ⟨0, rfl, Nat.zero_le _, H0.out⟩
  case round =>
    obtain ⟨k, rfl, hk, HR⟩ := hrel
    by_cases hlt : k < n
    · have hlt' : (k : Int) < (n : Int) := by omega
      have BO := HO.out.pen HR.out hOb
      have BN := HN.out.pen HR.out hNb
      obtain ⟨e, he⟩ : ∃ e, new k = e := ⟨_, rfl⟩
      obtain ⟨o, ho⟩ : ∃ e, old k = e := ⟨_, rfl⟩
      have hC1 : ∀ (q : Nat) u, (c5 e)[q]? = some u → wr.cell? ⟨gN, oN + k * 5 + q, none⟩ = some u := fun q u h => BN.cl.cell k hlt q u (by rw [he]; exact h)
      have hC2 : ∀ (q : Nat) u, (c5 o)[q]? = some u → wr.cell? ⟨gO, oO + k * 5 + q, none⟩ = some u := fun q u h => BO.cl.cell k hlt q u (by rw [ho]; exact h)
      obtain ⟨t, f, g, d, q⟩ := e
      obtain ⟨t1, f1, g1, d1, q1⟩ := o
      have x0 : wr.cell? ⟨gN, oN + k * 5, none⟩ = some (.string t) := hC1 0 _ rfl
      have x1 := hC1 1 (.int .i64 f) rfl
      have x2 := hC1 2 (.int .i64 g) rfl
      have x3 := hC1 3 (.int .i64 d) rfl
      have x4 := hC1 4 (.int .i64 q) rfl
      have HE : Hid (new k = ⟨t, f, g, d, q⟩) := he
      have HF : Hid (old k = ⟨t1, f1, g1, d1, q1⟩) := ho
      have HOL : Hid (∀ W0, Gr wr W0 → ∀ (q : Nat) u, (c5 ⟨t1, f1, g1, d1, q1⟩)[q]? = some u → W0.cell? ⟨gO, oO + k * 5 + q, none⟩ = some u) := fun W0 hg j u hu => by
        have := (BO.gr hg).cl.cell k hlt j u (by rw [ho]; exact hu)
        exact this
      clear hC1 hC2 he ho BO BN
      go_upto_region 3 with fail
      obtain ⟨W0, hW0⟩ : ∃ z, wr.alloc (.cells #[.string t, .int .i64 f, .int .i64 g, .int .i64 d, .int .i64 q] 71) = z := ⟨_, rfl⟩
      obtain ⟨S, hS⟩ : ∃ z, wr.heap.size = z := ⟨_, rfl⟩
      have G0 : Hid (Gr wr W0) := by rw [← hW0]; exact (Gr.refl wr).alloc _
      have R0 : Hid (R5 71 W0 S ⟨t, f, g, d, q⟩) := by rw [← hW0, ← hS]; exact R5.new wr ⟨t, f, g, d, q⟩ _
      have hSb : S ≠ b := by obtain ⟨p1, v1, hv1, _⟩ := HR.out; have := hv1.lt; omega
      rw [hW0, hS]
      clear x0 x1 x2 x3 x4 hW0 hS
      obtain ⟨cb, hcb⟩ : ∃ cb : Bool, cb = decide (new k ≠ old k ∧ (new k).p ≠ 2) := ⟨_, rfl⟩
      have HCB : Hid (cb = true ↔ new k ≠ old k ∧ (new k).p ≠ 2) := by show _ ↔ _; rw [hcb]; exact decide_eq_true_iff
      clear hcb
      go_cut [25] from 15 to 24 (fun s wx => s = .bool cb ∧ Hid (Gr W0 wx))
      case first =>
        have c0 := R0.out.c0
        have c1 := R0.out.c1
        have c2 := R0.out.c2
        have c3 := R0.out.c3
        have c4 := R0.out.c4
        have y0 : W0.cell? ⟨gO, oO + k * 5, none⟩ = some (.string t1) := HOL.out W0 G0.out 0 _ rfl
        have y1 := HOL.out W0 G0.out 1 (.int .i64 f1) rfl
        have y2 := HOL.out W0 G0.out 2 (.int .i64 g1) rfl
        have y3 := HOL.out W0 G0.out 3 (.int .i64 d1) rfl
        have y4 := HOL.out W0 G0.out 4 (.int .i64 q1) rfl
        simp only at c0 c1 c2 c3 c4
        have CBE : Hid (cb = true ↔ (⟨t, f, g, d, q⟩ : Ce) ≠ ⟨t1, f1, g1, d1, q1⟩ ∧ q ≠ 2) := by have := HCB.out; rw [HE.out, HF.out] at this; exact this
        clear HCB HE HF HOL HR R0 G0 H0 HN4 HV HT HN HO HPT HSZ HST UL UA US
        rcases ce_cases t f g d q t1 f1 g1 d1 q1 with ⟨e5, hne⟩ | ⟨rfl, ⟨e5, hne⟩ | ⟨rfl, ⟨e5, hne⟩ | ⟨rfl, ⟨e5, hne⟩ | ⟨rfl, ⟨e5, hne⟩ | rfl⟩⟩⟩⟩
        case inr.inr.inr.inr.inr =>
          obtain rfl : cb = false := by cases cb with
            | false => rfl
            | true => exact absurd rfl (CBE.out.1 rfl).1
          go_quiet (fail)
          go_wp2
          go_meet
          exact ⟨rfl, (Gr.refl W0).drewN _⟩
        all_goals
          by_cases hq2 : q = 2
          · obtain rfl : cb = false := by cases cb with
              | false => rfl
              | true => exact absurd hq2 (CBE.out.1 rfl).2
            have hq3 : (q != 2) = false := by simpa using hq2
            clear hne CBE hq2
            go_quiet (fail)
            go_wp2
            go_meet
            exact ⟨rfl, (Gr.refl W0).drewN _⟩
          · obtain rfl : cb = true := CBE.out.2 ⟨hne, hq2⟩
            have hq3 : (q != 2) = true := by simpa using hq2
            clear hne CBE hq2
            go_quiet (fail)
            go_wp2
            go_meet
            exact ⟨rfl, (Gr.refl W0).drewN _⟩
      case rest =>
        obtain ⟨rfl, GC⟩ := hcut
        have hB0 : B ≤ wr.heap.size := HR.out.size hBw
        have GW : Hid (Gr wr wc) := G0.out.trans GC.out
        have RC : Hid (R5 71 wc S ⟨t, f, g, d, q⟩) := (GC.out.below.block _ R0.out.lt).trans R0.out
        clear R0 HOL
        cases cb with
        | false =>
          have HR2 : Hid (PenTo w wc B b (V : Int) (updB nms V old new p0 (k + 1)).1.a (updB nms V old new p0 (k + 1)).1.f (updB nms V old new p0 (k + 1)).1.g (updB nms V old new p0 (k + 1)).1.b (l ++ (updB nms V old new p0 (k + 1)).2)) := by
            have e : updB nms V old new p0 (k + 1) = updB nms V old new p0 k := if_neg fun q => nomatch HCB.out.2 q
            rw [e]
            exact HR.out.gr GW.out hB0
          go_wp2
          go_roundw
          case rel => exact ⟨k + 1, by go_num, by omega, HR2.out⟩
          case measure => simp [intOf]; omega
        | true =>
          have HC2 : Hid (new k ≠ old k ∧ (new k).p ≠ 2) := HCB.out.1 rfl
          obtain ⟨pk, hpk⟩ : ∃ z, updB nms V old new p0 k = z := ⟨_, rfl⟩
          have HUP : Hid (updB nms V old new p0 (k + 1) = (celP k ⟨t, f, g, d, q⟩, pk.2 ++ celB nms V pk.1 k ⟨t, f, g, d, q⟩)) := by
            show _ = _
            rw [← hpk, ← HE.out]
            exact if_pos HC2.out
          have hsk := US.out k hk
          have hak := UA.out k hk
          have hlk := UL.out k hk
          rw [hpk] at HR hsk hak hlk
          have hst : StyOk f g d := by have := HST.out k hlt; rw [HE.out] at this; exact this
          have hsz : t.size ≤ 20 := by have := HSZ.out k hlt; rw [HE.out] at this; exact this
          have hq01 : q = 0 ∨ q = 1 := by
            have h1 := HPT.out k hlt
            have h2 := HC2.out.2
            rw [HE.out] at h1 h2
            simp only at h1 h2
            omega
          obtain ⟨⟨a0, f0, g0, d0⟩, L0⟩ := pk
          simp only at HR HUP hsk hak hlk
          have hL0 : (l ++ L0).length ≤ 7300000 := by rw [List.length_append]; omega
          obtain ⟨M0, hM0⟩ : ∃ z, l ++ L0 = z := ⟨_, rfl⟩
          have HM0 : Hid (l ++ L0 = M0) := hM0
          rw [hM0] at HR hL0
          clear hM0 hpk
          have HRC : Hid (PenTo w wc B b (V : Int) a0 f0 g0 d0 M0) := HR.out.gr GW.out hB0
          have hm10 := mov_len HV.out (i := k) (by have := HN4.out; omega) a0
          have MV : Hid (Calls Tryz.prog 36 #[.pointer (some ⟨b, 0, none⟩), .int .i64 (k : Int)] wc fun e w' => e = .returned (.tuple #[]) ∧ Hid (PenTo wc w' B b (V : Int) (k : Int) f0 g0 d0 (M0 ++ movB V a0 k))) := by
            obtain ⟨p1, v1, hv1, hv2, _⟩ := HRC.out
            exact penMov_any B b p1 v1 V a0 f0 g0 d0 M0 k wc hv1 (by omega) (Nat.le_trans hBw hv2.size) HV.out (by have := HN4.out; omega) (HRC.out.tens HT.out hgB) hgB
          clear HR GC GW HCB
          go_wp2_with fail
          refine MV.out.mono ?_
          rintro e1 w1 ⟨rfl, H1⟩
          obtain ⟨M1, hM1⟩ : ∃ z, M0 ++ movB V a0 k = z := ⟨_, rfl⟩
          have hL1 : M1.length ≤ 7300010 := by rw [← hM1, List.length_append]; omega
          have HM1 : Hid (M0 ++ movB V a0 k = M1) := hM1
          rw [hM1] at H1
          clear hM1 MV
          have HR1 : Hid (PenTo w w1 B b (V : Int) (k : Int) f0 g0 d0 M1) := HRC.out.next H1.out
          have R1 : Hid (R5 71 w1 S ⟨t, f, g, d, q⟩) := H1.out.block RC.out hSb (by decide)
          have c1 : w1.cell? ⟨S, 1, none⟩ = some (.int .i64 f) := R1.out.c1
          have c2 : w1.cell? ⟨S, 2, none⟩ = some (.int .i64 g) := R1.out.c2
          have c3 : w1.cell? ⟨S, 3, none⟩ = some (.int .i64 d) := R1.out.c3
          have DP : Hid (Calls Tryz.prog 37 #[.pointer (some ⟨b, 0, none⟩), .agg #[.int .i64 f, .int .i64 g, .int .i64 d]] w1 fun e w' => e = .returned (.tuple #[]) ∧ Hid (PenTo w1 w' B b (V : Int) (k : Int) f g d (M1 ++ cds (nms f0 g0 d0 f g d)))) := by
            obtain ⟨p1, v1, hv1, hv2, _⟩ := HR1.out
            exact penDip_any B b p1 v1 (V : Int) (k : Int) f0 g0 d0 M1 f g d w1 hv1 (by omega) (Nat.le_trans hBw hv2.size) hsk hst
          go_wp2_with fail
          refine DP.out.mono ?_
          rintro e2 w2 ⟨rfl, H2⟩
          have hd15 : (cds (nms f0 g0 d0 f g d)).length ≤ 15 := by rw [cds_dipB]; exact dip_len hst
          obtain ⟨M2, hM2⟩ : ∃ z, M1 ++ cds (nms f0 g0 d0 f g d) = z := ⟨_, rfl⟩
          have hL2 : M2.length ≤ 7300025 := by rw [← hM2, List.length_append]; omega
          have HM2 : Hid (M1 ++ cds (nms f0 g0 d0 f g d) = M2) := hM2
          rw [hM2] at H2
          clear hM2 DP c1 c2 c3
          have HR2 : Hid (PenTo w w2 B b (V : Int) (k : Int) f g d M2) := HR1.out.next H2.out
          have R2 : Hid (R5 71 w2 S ⟨t, f, g, d, q⟩) := H2.out.block R1.out hSb (by decide)
          have c0 : w2.cell? ⟨S, 0, none⟩ = some (.string t) := R2.out.c0
          have c1 : w2.cell? ⟨S, 1, none⟩ = some (.int .i64 f) := R2.out.c1
          have c2 : w2.cell? ⟨S, 2, none⟩ = some (.int .i64 g) := R2.out.c2
          have c3 : w2.cell? ⟨S, 3, none⟩ = some (.int .i64 d) := R2.out.c3
          have c4 : w2.cell? ⟨S, 4, none⟩ = some (.int .i64 q) := R2.out.c4
          have WR : Hid (Calls Tryz.prog 38 #[.pointer (some ⟨b, 0, none⟩), .agg #[.string t, .int .i64 f, .int .i64 g, .int .i64 d, .int .i64 q]] w2 fun e w' => e = .returned (.tuple #[]) ∧ Hid (PenTo w2 w' B b (V : Int) ((k : Int) + colI q) f g d (M2 ++ t.data.toList))) := by
            obtain ⟨p1, v1, hv1, hv2, _⟩ := HR2.out
            exact penWr_any B b p1 v1 (V : Int) (k : Int) f g d M2 t f g d q w2 hv1 (by omega) (Nat.le_trans hBw hv2.size) (by omega)
          go_wp2_with fail
          refine WR.out.mono ?_
          rintro e3 w3 ⟨rfl, H3⟩
          have HR3 : Hid (PenTo w w3 B b (V : Int) (updB nms V old new p0 (k + 1)).1.a (updB nms V old new p0 (k + 1)).1.f (updB nms V old new p0 (k + 1)).1.g (updB nms V old new p0 (k + 1)).1.b (l ++ (updB nms V old new p0 (k + 1)).2)) := by
            have X := HR2.out.next H3.out
            have e1 : M2 ++ t.data.toList = l ++ (L0 ++ celB nms V ⟨a0, f0, g0, d0⟩ k ⟨t, f, g, d, q⟩) := by
              unfold celB
              rw [← HM2.out, ← HM1.out, ← HM0.out, cds_dipB]
              simp only [List.append_assoc]
            have e2 : colI q = q + 1 := by rcases hq01 with e | e <;> subst e <;> rfl
            rw [e1, e2] at X
            rw [HUP.out]
            exact X
          clear c0 c1 c2 c3 c4 WR
          go_wp2
          go_roundw
          case rel => exact ⟨k + 1, by go_num, by omega, HR3.out⟩
          case measure => simp [intOf]; omega
    · have hge : ¬ (k : Int) < (n : Int) := by omega
      obtain rfl : k = n := by omega
      have hsk := US.out k hk
      have hlk := UL.out k hk
      have HAL : Hid (allB nms V k old new ⟨-1, 0, 0, 0⟩ = (updB nms V old new p0 k).2 ++ cds (nms (updB nms V old new p0 k).1.f (updB nms V old new p0 k).1.g (updB nms V old new p0 k).1.b 0 0 0)) := by show _ = _; rw [hp0]; rfl
      obtain ⟨pk, hpk⟩ : ∃ z, updB nms V old new p0 k = z := ⟨_, rfl⟩
      rw [hpk] at HR hsk hlk HAL
      obtain ⟨⟨a0, f0, g0, d0⟩, L0⟩ := pk
      simp only at HR hsk hlk HAL
      have DP : Hid (Calls Tryz.prog 37 #[.pointer (some ⟨b, 0, none⟩), .agg #[.int .i64 0, .int .i64 0, .int .i64 0]] wr fun e w' => e = .returned (.tuple #[]) ∧ Hid (PenTo wr w' B b (V : Int) a0 0 0 0 (l ++ L0 ++ cds (nms f0 g0 d0 0 0 0)))) := by
        obtain ⟨p1, v1, hv1, hv2, _⟩ := HR.out
        exact penDip_any B b p1 v1 (V : Int) a0 f0 g0 d0 (l ++ L0) 0 0 0 wr hv1 (by rw [List.length_append]; omega) (Nat.le_trans hBw hv2.size) hsk ⟨by decide, by decide, by decide⟩
      go_wp2_with fail
      refine DP.out.mono ?_
      rintro e1 w1 ⟨rfl, H1⟩
      go_wp2
      go_end0
      refine ⟨rfl, a0, ?_⟩
      rw [HAL.out, ← List.append_assoc]
      exact HR.out.next H1.out

end Go.Proofs.YtkdajaphbmclkaaGreatDoor
