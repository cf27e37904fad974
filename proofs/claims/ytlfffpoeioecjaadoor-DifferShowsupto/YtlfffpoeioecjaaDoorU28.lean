/-
  panelaw.painting.
-/
import Derived.Test.YtlfffpoeioecjaaDoorU27
import Derived.Test.YtlfffpoeioecjaaDoorU09
import Derived.Deep.RegionLaw
namespace Go.Proofs.YtlfffpoeioecjaaDoor
open Go.RowKit Go.Sort
set_option linter.unusedVariables false

theorem infoCell : (Tryd.prog.info? 34).map (fun i => (i.zero, i.size, i.bytes)) = some (some (.agg #[.string ⟨#[]⟩, .int .i64 0, .int .i64 0, .int .i64 0, .int .i64 0]), 5, 48) := by kernel_rfl

/-- Cells, laid one behind the other. -/
def lay5 (C : Nat → Ce) : Nat → List Value
  | 0 => []
  | k + 1 => lay5 C k ++ c5 (C k)
theorem lay5_len (C : Nat → Ce) : ∀ k, (lay5 C k).length = k * 5
  | 0 => rfl
  | k + 1 => by rw [lay5, List.length_append, lay5_len C k, c5_len]; omega
theorem lay5_at (C : Nat → Ce) : ∀ k j, j < k → ∀ (q : Nat) u, (c5 (C j))[q]? = some u → (lay5 C k)[j * 5 + q]? = some u
  | 0, j, h => by omega
  | k + 1, j, h => by
    intro q u hu
    have hq : q < 5 := by have := (List.getElem?_eq_some_iff.1 hu).1; rw [c5_len] at this; exact this
    have hl := lay5_len C k
    by_cases e : j < k
    · have := lay5_at C k j e q u hu
      simp only [lay5]
      rw [List.getElem?_append_left (by omega)]
      exact this
    · obtain rfl : j = k := by omega
      simp only [lay5]
      rw [List.getElem?_append_right (by omega), hl, show j * 5 + q - j * 5 = q by omega]
      exact hu
/-- n cells in a block of cells, from off on. -/
structure CB (Q : World) (g off n : Nat) (C : Nat → Ce) : Prop where
  at_ : ∃ cs fz, Q.heap[g]? = some (.cells cs 34 fz)
  cl : CL Q g off n C
theorem CB.kept {Q Q' : World} {g off n : Nat} {C : Nat → Ce} (h : CB Q g off n C) (he : ∀ cs fz, Q.heap[g]? = some (.cells cs 34 fz) → Q'.heap[g]? = some (.cells cs 34 fz)) : CB Q' g off n C := by
  obtain ⟨cs, fz, h1⟩ := h.at_
  have h2 := he cs fz h1
  refine ⟨⟨cs, fz, h2⟩, (Array.getElem?_eq_some_iff.1 h2).1, fun i hi k u hu => ?_⟩
  have := h.cl.cell i hi k u hu
  rw [Lib.cell_of_heap h1] at this
  rw [Lib.cell_of_heap h2]
  exact this
theorem CB.low {w w2 : World} {q off n : Nat} {C : Nat → Ce} (h : CB w q off n C) (ht : Below w.heap.size w w2) : CB w2 q off n C := h.kept fun cs fz he => (ht.block _ (Array.getElem?_eq_some_iff.1 he).1).trans he
/-- What painting answers. -/
def Pic (W : World) (v : Value) (n : Nat) (C : Nat → Ce) : Prop := ∃ p cap, v = .slice p n cap ∧ n ≤ cap ∧ cap ≤ 9223372036854775807 ∧ (n = 0 ∨ ∃ g, p = some ⟨g, 0, none⟩ ∧ CB W g 0 n C)
theorem pic_own {W : World} {B n : Nat} {v : Value} {C : Nat → Ce} (h : W.ownsRow B 34 5 v n (lay5 C n)) : Pic W v n C := by
  have h0 := h
  rcases h.2 with ⟨rfl, rfl⟩ | ⟨g, cap, cur, rfl, hb, hg, h1, h2, _⟩
  · exact ⟨none, 0, rfl, Nat.le_refl _, by omega, .inl rfl⟩
  · refine ⟨some ⟨g, 0, none⟩, cap, rfl, h1, by unfold maxLen at h2; omega, .inr ⟨g, rfl, ⟨_, _, hg⟩, (Array.getElem?_eq_some_iff.1 hg).1, fun i hi k u hu => ?_⟩⟩
    have hk : k < 5 := by have := (List.getElem?_eq_some_iff.1 hu).1; rw [c5_len] at this; exact this
    rw [Nat.zero_add, h0.cellAt _ (by omega)]
    exact lay5_at C n i hi k u hu
theorem cell_five_pn (w : World) (e : Ce) (t : TypeId) : ∀ j u, (c5 e)[j]? = some u → (w.alloc (.cells #[.string e.t, .int .i64 e.f, .int .i64 e.g, .int .i64 e.b, .int .i64 e.p] t)).cell? ((⟨w.heap.size, 0, none⟩ : Addr).add j) = some u := by
  intro j u h
  have e' : (⟨w.heap.size, 0, none⟩ : Addr).add j = ⟨w.heap.size, 0 + j, none⟩ := by unfold Addr.add; split <;> simp_all
  rw [e', Nat.zero_add, World.cell?_alloc_at _ _ _ _ rfl]
  rw [← h]
  match j with
  | 0 => rfl
  | 1 => rfl
  | 2 => rfl
  | 3 => rfl
  | 4 => rfl
  | _ + 5 => rfl

set_option maxRecDepth 100000 in
set_option maxHeartbeats 8000000 in
theorem painting_some (n blk off cap : Nat) (C : Nat → Ce) (w : World) (h : CL w blk off n C) (hn : n ≤ 1048576) :
    Calls Tryd.prog 11 #[.slice (some ⟨blk, off, none⟩) n cap] w fun e w' => ∃ v, e = .returned v ∧ Pic w' v n C ∧ Below w.heap.size w w' := by
  have hmix : Tryd.prog.follows .mixedOrders = true := by kernel_rfl
  obtain ⟨i0, hi, hz0, hz1, hz2⟩ := info_parts infoCell
  have HW : Hid (CL w blk off n C) := h
  have HL : Hid (∀ e w, Calls Tryd.prog 24 #[cev e] w fun r w' => r = .returned (cev e) ∧ Gr w w') := cell_any
  clear h
  go_enter Tryd.func11, Tryd.ntmps11
  go_wp2
  go_loopw [3, 4] (fun v i wr => ∃ k : Nat, i = .int .i64 k ∧ k ≤ n ∧ Hid (wr.ownsRow w.heap.size 34 5 v k (lay5 C k)) ∧ Hid (Below w.heap.size w wr)) (fun _ i _ => n - (intOf i).toNat)
  case atStart => exact ⟨0, rfl, Nat.zero_le _, World.ownsRow_nil _ _ _ _, Below.refl _ _⟩
  case round =>
    obtain ⟨k, rfl, hk, HO, HB⟩ := hrel
    by_cases hlt : k < n
    · have hlt' : (k : Int) < (n : Int) := by omega
      have V := HW.out.below HB.out
      obtain ⟨e, he⟩ : ∃ e, C k = e := ⟨_, rfl⟩
      have hC1 : ∀ (q : Nat) u, (c5 e)[q]? = some u → wr.cell? ⟨blk, off + k * 5 + q, none⟩ = some u := fun q u h => V.cell k hlt q u (by rw [he]; exact h)
      have HS : Hid (lay5 C (k + 1) = lay5 C k ++ c5 e) := by show _ = _; rw [lay5, he]
      obtain ⟨t, f, g, b, p⟩ := e
      have d0 : wr.cell? ⟨blk, off + k * 5, none⟩ = some (.string t) := hC1 0 _ rfl
      have d1 := hC1 1 (.int .i64 f) rfl
      have d2 := hC1 2 (.int .i64 g) rfl
      have d3 := hC1 3 (.int .i64 b) rfl
      have d4 := hC1 4 (.int .i64 p) rfl
      have CA : Hid (∀ w, Calls Tryd.prog 24 #[.agg #[.string t, .int .i64 f, .int .i64 g, .int .i64 b, .int .i64 p]] w fun r w' => r = .returned (.agg #[.string t, .int .i64 f, .int .i64 g, .int .i64 b, .int .i64 p]) ∧ Gr w w') := fun w => HL.out ⟨t, f, g, b, p⟩ w
      clear hC1 V he
      go_wp2_with fail
      refine (CA.out wr).mono ?_
      rintro e w1 ⟨rfl, g1⟩
      have HB1 : Hid (Below w.heap.size w w1) := HB.out.trans (g1.below.mono HB.out.size)
      have HO1 : Hid (w1.ownsRow w.heap.size 34 5 u3 k (lay5 C k)) := own_below2 HO.out g1.below
      clear d0 d1 d2 d3 d4 g1 CA
      have hzr := HB1.out.size
      go_wp2_with (at_builtin; refine wpList_append_own _ rfl _ _ 27 rfl w.heap.size 34 i0 (.agg #[.string ⟨#[]⟩, .int .i64 0, .int .i64 0, .int .i64 0, .int .i64 0]) 5 48 Tryd.underlying27 hi hz0 hz1 hz2 rfl (by decide) _ _ _ rfl (World.ownsRow.alloc (w := w1) HO1.out _) _ 1 1 [.string t, .int .i64 f, .int .i64 g, .int .i64 b, .int .i64 p] rfl rfl ?c1 ?c2 ?c3 ?c4 ?c5 ?_)
      case c1 => exact cell_five_pn w1 ⟨t, f, g, b, p⟩ _
      case c2 => intro u hu; simp at hu; rcases hu with rfl | rfl | rfl | rfl | rfl <;> rfl
      case c3 => unfold maxLen; omega
      case c4 => omega
      case c5 => simp; omega
      intro v' w3 hown' hg _
      have HB3 : Hid (Below w.heap.size w w3) := (HB1.out.alloc (by omega) _).grown hg (by simp; omega) (fun q hq => (HO1.out.lt q hq).1)
      have HO3 : Hid (w3.ownsRow w.heap.size 34 5 v' (k + 1) (lay5 C (k + 1))) := by show World.ownsRow _ _ _ _ _ _ _; rw [HS.out]; exact hown'
      clear hown' hg
      go_wp2
      go_roundw
      case rel => exact ⟨k + 1, by go_num, by omega, HO3.out, HB3.out⟩
      case measure => simp [intOf]; omega
    · have hge : ¬ (k : Int) < (n : Int) := by omega
      obtain rfl : n = k := by omega
      have HV := pic_own HO.out
      go_wp2
      go_ret
      exact ⟨_, rfl, HV, HB.out⟩

set_option maxRecDepth 100000 in
set_option maxHeartbeats 1000000 in
theorem painting_none (p : Option Addr) (cap : Nat) (C : Nat → Ce) (w : World) :
    Calls Tryd.prog 11 #[.slice p 0 cap] w fun e w' => ∃ v, e = .returned v ∧ Pic w' v 0 C ∧ Below w.heap.size w w' := by
  go_enter Tryd.func11, Tryd.ntmps11
  go_wp2
  go_loop [3, 4] (fun v i => v = .slice none 0 0 ∧ i = .int .i64 0) (fun _ _ => 0)
  case atStart => exact ⟨rfl, rfl⟩
  case round =>
    obtain ⟨rfl, rfl⟩ := hrel
    go_wp2
    go_ret
    exact ⟨_, rfl, ⟨none, 0, rfl, Nat.le_refl _, by omega, .inl rfl⟩, Below.refl _ _⟩

theorem painting_any (n cap : Nat) (p : Option Addr) (C : Nat → Ce) (w : World) (hC : n = 0 ∨ ∃ g off, p = some ⟨g, off, none⟩ ∧ CL w g off n C) (hn : n ≤ 1048576) :
    Calls Tryd.prog 11 #[.slice p n cap] w fun e w' => ∃ v, e = .returned v ∧ Pic w' v n C ∧ Below w.heap.size w w' := by
  rcases hC with rfl | ⟨g, off, rfl, h⟩
  · exact painting_none p cap C w
  · exact painting_some n g off cap C w h hn

end Go.Proofs.YtlfffpoeioecjaaDoor

namespace Go.Proofs.YtlfffpoeioecjaaDoor
open Go.RowKit Go.Sort
set_option linter.unusedVariables false

theorem not_scr {C : Nat → Ce} {n : Nat} {v : Int} (h : ¬ (1 ≤ v ∧ v ≤ 400)) : ¬ Scr C n v := fun ⟨W, H, h1, _, h3, h4, _⟩ => h (by omega)
theorem not_scr_rem {C : Nat → Ce} {n W : Nat} (h : ¬ n % W = 0) : ¬ Scr C n (W : Int) := fun ⟨W', H, h1, h2, _⟩ => by
  obtain rfl : W = W' := by omega
  exact h (by rw [h2]; exact Nat.mul_mod_left _ _)
theorem not_scr_quo {C : Nat → Ce} {W H : Nat} (hW : 1 ≤ W) (h : ¬ (1 ≤ H ∧ H ≤ 400)) : ¬ Scr C (H * W) (W : Int) := fun ⟨W', H', h1, h2, _, _, h3, h4, _⟩ => by
  obtain rfl : W = W' := by omega
  have : H = H' := Nat.eq_of_mul_eq_mul_right hW h2
  subst this
  exact h ⟨h3, h4⟩
theorem scr_iff {C : Nat → Ce} {W H : Nat} (hW : 1 ≤ W) (hW4 : W ≤ 400) (hH : 1 ≤ H) (hH4 : H ≤ 400) : Scr C (H * W) (W : Int) ↔ ∀ y, y < H → RowOk C (y * W) (y * W + W) := by
  constructor
  · rintro ⟨W', H', h1, h2, _, _, _, _, h5⟩
    obtain rfl : W = W' := by omega
    have : H = H' := Nat.eq_of_mul_eq_mul_right hW h2
    subst this
    exact h5
  · intro h
    exact ⟨W, H, rfl, rfl, hW, hW4, hH, hH4, h⟩

set_option maxRecDepth 100000 in
set_option maxHeartbeats 8000000 in
theorem dSound_any (C : Nat → Ce) (v : Int) (p : Option Addr) (n cap : Nat) (hb : n ≤ 1048576) (hc1 : n ≤ cap) (hc2 : cap ≤ 9223372036854775807) (w : World) (hC : n = 0 ∨ ∃ g, p = some ⟨g, 0, none⟩ ∧ CL w g 0 n C) (ht : TabAt w) (hs : ∀ i, i < n → (C i).t.size ≤ 1099511627776) :
    Calls Tryd.prog 25 #[.slice p n cap, .int .i64 v] w fun r w' => Tells w w' r (Scr C n v) := by
  have DS : Hid (∀ n w, Calls Tryd.prog 40 #[.int .i64 n] w fun e w' => e = .returned (.bool (decide (1 ≤ n ∧ n ≤ 400))) ∧ w' = w) := dSide_any
  by_cases hv : 1 ≤ v ∧ v ≤ 400
  · obtain ⟨W, rfl⟩ : ∃ W : Nat, v = (W : Int) := ⟨v.toNat, by omega⟩
    have DS1 : Hid (∀ w, Calls Tryd.prog 40 #[.int .i64 (W : Int)] w fun e w' => e = .returned (.bool true) ∧ w' = w) := fun w => by have := DS.out (W : Int) w; rw [decide_eq_true hv] at this; exact this
    have hW0 : ¬ (W : Int) = 0 := by omega
    by_cases hr : n % W = 0
    · have hr' : ((n : Int) % (W : Int) != 0) = false := by
        have : (n : Int) % (W : Int) = ((n % W : Nat) : Int) := by omega
        rw [this, hr]; rfl
      obtain ⟨H, hH⟩ : ∃ H, n = H * W := ⟨n / W, by have := Nat.div_add_mod n W; rw [hr, Nat.mul_comm] at this; omega⟩
      have hq : (n : Int) / (W : Int) = (H : Int) := by
        rw [hH, Int.natCast_mul]
        exact Int.mul_ediv_cancel _ hW0
      have HSC : Hid (n = H * W) := hH
      have hHn : H ≤ n := by rw [hH]; exact Nat.le_mul_of_pos_right _ (by omega)
      have hq2 : wrap64 ((n : Int) / (W : Int)) = (H : Int) := by rw [hq]; unfold wrap64; omega
      by_cases hh : 1 ≤ H ∧ H ≤ 400
      · have DS2 : Hid (∀ w, Calls Tryd.prog 40 #[.int .i64 (H : Int)] w fun e w' => e = .returned (.bool true) ∧ w' = w) := fun w => by have := DS.out (H : Int) w; rw [decide_eq_true (by omega)] at this; exact this
        obtain ⟨g, rfl, hCL⟩ : ∃ g, p = some ⟨g, 0, none⟩ ∧ CL w g 0 n C := by
          rcases hC with h | h
          · have : H * W = 0 := by omega
            rcases Nat.mul_eq_zero.1 this with h | h <;> omega
          · exact h
        have HC : Hid (CL w g 0 n C) := hCL
        have HT : Hid (TabAt w) := ht
        have HZ : Hid (∀ i, i < n → (C i).t.size ≤ 1099511627776) := hs
        have HSI : Hid (Scr C n (W : Int) ↔ ∀ y, y < H → RowOk C (y * W) (y * W + W)) := by show _ ↔ _; rw [hH]; exact scr_iff (by omega) (by omega) hh.1 hh.2
        clear hCL hC ht hs hq hr hH
        go_enter Tryd.func25, Tryd.ntmps25
        go_wp2_with fail
        refine (DS1.out _).mono ?_
        rintro e w1 ⟨rfl, hw⟩
        obtain rfl := hw.symm
        go_wp2_with fail
        refine (DS2.out _).mono ?_
        rintro e w1 ⟨rfl, hw⟩
        obtain rfl := hw.symm
        go_wp2
        go_loopw [0] (fun rv wr => ∃ (y x m c : Nat) (p : Option Addr), y ≤ H ∧ Hid (x = y * W) ∧ Hid (∀ y', y' < y → RowOk C (y' * W) (y' * W + W)) ∧ x + m = n ∧ rv = .slice p m c ∧ m ≤ c ∧ c ≤ 9223372036854775807 ∧ (x < n → p = some ⟨g, x * 5, none⟩) ∧ Hid (Below w.heap.size w wr)) (fun rv _ => lenOf rv)
        case atStart => exact ⟨0, 0, n, cap, _, Nat.zero_le _, by show 0 = 0 * W; rw [Nat.zero_mul], fun y' h => absurd h (by omega), by omega, rfl, hc1, hc2, fun _ => rfl, Below.refl _ _⟩
        case round =>
          obtain ⟨y, x, m, c, p, hy, HX, HR, hm, rfl, hmc, hc3, hp, HB⟩ := hrel
          by_cases hlt : x < n
          · obtain rfl := hp hlt
            have hm0 : (0 : Int) < (m : Int) := by omega
            have hy1 : y < H := by
              rcases Nat.lt_or_ge y H with h | h
              · exact h
              · have h1 : y = H := by omega
                have h2 := HX.out
                have h3 := HSC.out
                rw [h1] at h2
                omega
            have hxW : x + W ≤ n := by
              have h1 : (y + 1) * W ≤ H * W := Nat.mul_le_mul_right _ hy1
              rw [Nat.add_mul, Nat.one_mul, ← HX.out, ← HSC.out] at h1
              exact h1
            have hWm : W ≤ m := by omega
            have IR : Hid (∀ cap, W ≤ cap → cap ≤ 9223372036854775807 → Calls Tryd.prog 41 #[.slice (some ⟨g, x * 5, none⟩) W cap] wr fun r w' => ∃ bb : Bool, r = .returned (.bool bb) ∧ Hid (bb = true ↔ RowOk C (y * W) (y * W + W)) ∧ Hid (Below w.heap.size w w')) := fun cap h1 h2 => (isRow_any C g x W (x + W) cap n rfl hxW hb h1 h2 wr (HC.out.below HB.out) (HT.out.below HB.out) HZ.out).mono fun r w' h => by
              obtain ⟨bb, h1, h2, h3⟩ := h
              rw [← HX.out]
              exact ⟨bb, h1, h2, HB.out.trans (h3.mono HB.out.size)⟩
            have hWc : W ≤ c := by omega
            go_wp2_with fail
            refine (IR.out _ (by omega) (by omega)).mono ?_
            rintro r w2 ⟨bb, rfl, HI, HB2⟩
            cases bb with
            | false =>
              go_wp2
              go_ret
              exact ⟨false, rfl, ⟨fun h => (nomatch h), fun h => (nomatch HI.out.2 (HSI.out.1 h y hy1))⟩, HB2.out⟩
            | true =>
              have HR2 : Hid (∀ y', y' < y + 1 → RowOk C (y' * W) (y' * W + W)) := fun y' h => by
                by_cases e : y' = y
                · subst e; exact HI.out.1 rfl
                · exact HR.out y' (by omega)
              go_wp2
              refine ⟨⟨y + 1, x + W, m - W, c - W, _, hy1, by show _ = _; rw [HX.out, Nat.add_mul, Nat.one_mul], HR2.out, by omega, rfl, by omega, by omega, fun hx => ?_, HB2.out⟩, by simp only [lenOf]; omega⟩
              rw [if_neg (by omega), Nat.add_mul]
          · have hm0 : ¬ (0 : Int) < (m : Int) := by omega
            have hyH : y = H := by
              have h2 := HX.out
              have h3 := HSC.out
              have h4 : y * W = H * W := by omega
              exact Nat.eq_of_mul_eq_mul_right (by omega) h4
            subst hyH
            go_wp2
            go_ret
            exact ⟨true, rfl, ⟨fun _ => HSI.out.2 HR.out, fun _ => rfl⟩, HB.out⟩
      · have DS2 : Hid (∀ w, Calls Tryd.prog 40 #[.int .i64 (H : Int)] w fun e w' => e = .returned (.bool false) ∧ w' = w) := fun w => by have := DS.out (H : Int) w; rw [decide_eq_false (by omega)] at this; exact this
        have HNS : Hid (¬ Scr C n (W : Int)) := by show ¬ _; rw [hH]; exact not_scr_quo (by omega) hh
        clear hq hH hr
        go_enter Tryd.func25, Tryd.ntmps25
        go_wp2_with fail
        refine (DS1.out _).mono ?_
        rintro e w1 ⟨rfl, hw⟩
        obtain rfl := hw.symm
        go_wp2_with fail
        refine (DS2.out _).mono ?_
        rintro e w1 ⟨rfl, hw⟩
        obtain rfl := hw.symm
        go_wp2
        go_ret
        exact ⟨false, rfl, ⟨fun h => (nomatch h), fun h => absurd h HNS.out⟩, Below.refl _ _⟩
    · have hr' : ((n : Int) % (W : Int) != 0) = true := by
        have : (n : Int) % (W : Int) = ((n % W : Nat) : Int) := by omega
        rw [this]; simp; omega
      have HNS : Hid (¬ Scr C n (W : Int)) := not_scr_rem hr
      clear hr
      go_enter Tryd.func25, Tryd.ntmps25
      go_wp2_with fail
      refine (DS1.out _).mono ?_
      rintro e w1 ⟨rfl, hw⟩
      obtain rfl := hw.symm
      go_wp2
      go_ret
      exact ⟨false, rfl, ⟨fun h => (nomatch h), fun h => absurd h HNS.out⟩, Below.refl _ _⟩
  · have DS1 : Hid (∀ w, Calls Tryd.prog 40 #[.int .i64 v] w fun e w' => e = .returned (.bool false) ∧ w' = w) := fun w => by have := DS.out v w; rw [decide_eq_false hv] at this; exact this
    go_enter Tryd.func25, Tryd.ntmps25
    go_wp2_with fail
    refine (DS1.out _).mono ?_
    rintro e w1 ⟨rfl, hw⟩
    obtain rfl := hw.symm
    go_wp2
    go_ret
    exact ⟨false, rfl, ⟨fun h => (nomatch h), fun h => absurd h (not_scr hv)⟩, Below.refl _ _⟩

end Go.Proofs.YtlfffpoeioecjaaDoor
