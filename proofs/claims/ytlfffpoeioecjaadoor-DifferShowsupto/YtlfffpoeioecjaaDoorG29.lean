/-
  What a pen has written, as a text.
-/
import Derived.Test.YtlfffpoeioecjaaDoorG11
import Derived.Shelf.Strings.BuilderK
import Derived.Test.YtlfffpoeioecjaaDoorG27
import Derived.Test.YtlfffpoeioecjaaDoorG28
import Derived.Test.YtlfffpoeioecjaaDoorG23
namespace Go.Proofs.YtlfffpoeioecjaaDoor
open Go.RowKit Go.Sort
set_option linter.unusedVariables false

def Told (w w' : World) (B b : Nat) : Prop := Below B w w' ∧ Lib.OthersKept 5 (some b) w w'
set_option maxHeartbeats 2000000 in
set_option maxRecDepth 100000 in
theorem penStr_none (B b : Nat) (w : World) (hB : B ≤ b) (h1 : w.cell? ⟨b, 1, none⟩ = some (.slice none 0 0)) :
    Calls Tryd.prog 29 #[.pointer (some ⟨b, 0, none⟩)] w fun e w' => e = .returned (.string ⟨#[]⟩) ∧ Hid (Told w w' B b) := by
  have hUS : ∀ W q, (Builtin.unsafeString_ #[111, 3] 9 #[.pointer q, .int .i64 0]).run Tryd.prog W = .ok (.string .empty) W := fun W q => Lib.run_unsafeString_none W _ _ _ q
  have c1 : w.drew.cell? ⟨b, 1, none⟩ = some (.slice none 0 0) := h1
  have hSD : (Builtin.unsafeSliceData_ #[76] 111 #[.slice none 0 0]).run Tryd.prog w.drew = .ok (.pointer none) w.drew := rfl
  have hmix : Tryd.prog.follows .mixedOrders = true := by kernel_rfl
  go_enter Tryd.func29, Tryd.ntmps29
  go_wp2
  go_region_o
  all_goals (go_wp2; go_ret; exact ⟨rfl, Below.drew (Below.refl B w), (Lib.OthersKept.refl _ _ w).drew⟩)
set_option maxHeartbeats 2000000 in
set_option maxRecDepth 100000 in
theorem penStr_room (B b g cap : Nat) (w : World) (hB : B ≤ b) (hc : cap ≠ 0) (h1 : w.cell? ⟨b, 1, none⟩ = some (.slice (some ⟨g, 0, none⟩) 0 cap)) :
    Calls Tryd.prog 29 #[.pointer (some ⟨b, 0, none⟩)] w fun e w' => e = .returned (.string ⟨#[]⟩) ∧ Hid (Told w w' B b) := by
  have hUS : ∀ W q, (Builtin.unsafeString_ #[111, 3] 9 #[.pointer q, .int .i64 0]).run Tryd.prog W = .ok (.string .empty) W := fun W q => Lib.run_unsafeString_none W _ _ _ q
  have c1 : w.drew.cell? ⟨b, 1, none⟩ = some (.slice (some ⟨g, 0, none⟩) 0 cap) := h1
  have hSD : (Builtin.unsafeSliceData_ #[76] 111 #[.slice (some ⟨g, 0, none⟩) 0 cap]).run Tryd.prog w.drew = .ok (.pointer (some ⟨g, 0, none⟩)) w.drew := Lib.run_unsafeSliceData_row _ _ _ _ _ _ hc
  clear hc
  have hmix : Tryd.prog.follows .mixedOrders = true := by kernel_rfl
  go_enter Tryd.func29, Tryd.ntmps29
  go_wp2
  go_region_o
  all_goals (go_wp2; go_ret; exact ⟨rfl, Below.drew (Below.refl B w), (Lib.OthersKept.refl _ _ w).drew⟩)
set_option maxHeartbeats 2000000 in
set_option maxRecDepth 100000 in
theorem penStr_noroom (B b g : Nat) (w : World) (hB : B ≤ b) (hBw : B ≤ w.heap.size) (hlt : b < w.heap.size) (cur : Array Value) (fz : Nat × Nat) (hg : w.heap[g]? = some (.cells cur 5 fz)) (h1 : w.cell? ⟨b, 1, none⟩ = some (.slice (some ⟨g, 0, none⟩) 0 0)) :
    Calls Tryd.prog 29 #[.pointer (some ⟨b, 0, none⟩)] w fun e w' => e = .returned (.string ⟨#[]⟩) ∧ Hid (Told w w' B b) := by
  have hUS : ∀ W q, (Builtin.unsafeString_ #[111, 3] 9 #[.pointer q, .int .i64 0]).run Tryd.prog W = .ok (.string .empty) W := fun W q => Lib.run_unsafeString_none W _ _ _ q
  have c1 : w.drew.cell? ⟨b, 1, none⟩ = some (.slice (some ⟨g, 0, none⟩) 0 0) := h1
  have hSD : (Builtin.unsafeSliceData_ #[76] 111 #[.slice (some ⟨g, 0, none⟩) 0 0]).run Tryd.prog w.drew = .ok (.pointer (some ⟨w.drew.heap.size, 0, none⟩)) (w.drew.alloc (.view ⟨g, 0, none⟩ 5)) :=
    Lib.run_unsafeSliceData_zero w.drew _ _ 5 (by kernel_rfl) ⟨g, 0, none⟩ 0 (5, cur.size) (by have hg' : w.drew.heap[g]? = some (.cells cur 5 fz) := hg; simp [World.shape?, hg'])
  have c2 : (w.drew.alloc (.view ⟨g, 0, none⟩ 5)).cell? ⟨b, 1, none⟩ = some (.slice (some ⟨g, 0, none⟩) 0 0) := by
    rw [← h1]
    exact (((Gr.refl w).drew).alloc _).below.cell (p := ⟨b, 1, none⟩) hlt
  have c3 : (w.alloc (.view ⟨g, 0, none⟩ 5)).drew.cell? ⟨b, 1, none⟩ = some (.slice (some ⟨g, 0, none⟩) 0 0) := c2
  have hmix : Tryd.prog.follows .mixedOrders = true := by kernel_rfl
  go_enter Tryd.func29, Tryd.ntmps29
  go_wp2
  go_region_o
  all_goals (go_wp2; go_ret; exact ⟨rfl, (Below.drew (Below.refl B w)).alloc hBw _, ((Lib.OthersKept.refl _ _ w).drew).alloc _⟩)
set_option maxHeartbeats 2000000 in
set_option maxRecDepth 100000 in
theorem penStr_some (B b g cap : Nat) (l : List UInt8) (w : World) (hB : B ≤ b) (h0 : l ≠ []) (cur : Array Value) (fz : Nat × Nat) (hg : w.heap[g]? = some (.cells cur 5 fz)) (hBg : B ≤ g) (hc : l.length ≤ cap) (hcm : cap ≤ maxLen) (hcs : cur.size = cap * 1) (hcell : ∀ (j : Nat) x, l[j]? = some x → w.cell? ((⟨g, 0, none⟩ : Addr).add j) = some (.int .u8 x.toNat)) (h1 : w.cell? ⟨b, 1, none⟩ = some (.slice (some ⟨g, 0, none⟩) l.length cap)) :
    Calls Tryd.prog 29 #[.pointer (some ⟨b, 0, none⟩)] w fun e w' => e = .returned (.string ⟨l.toArray⟩) ∧ Hid (Told w w' B b) := by
  have hl0 : l.length ≠ 0 := by simpa using h0
  have c1 : w.drew.cell? ⟨b, 1, none⟩ = some (.slice (some ⟨g, 0, none⟩) l.length cap) := h1
  have hSD : (Builtin.unsafeSliceData_ #[76] 111 #[.slice (some ⟨g, 0, none⟩) l.length cap]).run Tryd.prog w.drew = .ok (.pointer (some ⟨g, 0, none⟩)) w.drew := Lib.run_unsafeSliceData_row _ _ _ _ _ _ (by omega)
  have hUS : (Builtin.unsafeString_ #[111, 3] 9 #[.pointer (some ⟨g, 0, none⟩), .int .i64 l.length]).run Tryd.prog w.drew = .ok (.string ⟨l.toArray⟩) (w.drew.freeze ⟨g, 0, none⟩ l.length) :=
    Lib.run_unsafeString_row w.drew 111 3 9 5 (by kernel_rfl) (by kernel_rfl) g cur.size (by have hg' : w.drew.heap[g]? = some (.cells cur 5 fz) := hg; simp [World.shape?, hg']) l h0 (by omega) (by unfold maxLen at hcm; omega) hcell
  clear hcell hc hcm hcs hl0
  have hmix : Tryd.prog.follows .mixedOrders = true := by kernel_rfl
  go_enter Tryd.func29, Tryd.ntmps29
  go_wp2
  go_region_o
  all_goals (go_wp2; go_ret; exact ⟨rfl, Lib.below_freeze (Below.drew (Below.refl B w)) (p := ⟨g, 0, none⟩) hBg _, ((Lib.OthersKept.refl _ _ w).drew).freeze ⟨g, 0, none⟩ _ ⟨cur, fz, hg⟩⟩)
theorem penStr_any (B b : Nat) (p v : Value) (W a f g d : Int) (l : List UInt8) (w : World) (h : PenB w B b p v W a f g d l) (hBw : B ≤ w.heap.size) :
    Calls Tryd.prog 29 #[.pointer (some ⟨b, 0, none⟩)] w fun e w' => e = .returned (.string ⟨l.toArray⟩) ∧ Hid (Told w w' B b) := by
  have h1 : w.cell? ⟨b, 1, none⟩ = some v := h.cell (k := 1) rfl
  rcases h.own.2 with ⟨rfl, hz⟩ | ⟨q, cap, cur, fz, rfl, hBg, hg, hfz, hnc, hcm, hcs, htake⟩
  · obtain rfl : l = [] := List.eq_nil_of_length_eq_zero hz
    exact penStr_none B b w h.low h1
  · by_cases h0 : l = []
    · subst h0
      by_cases hc : cap = 0
      · subst hc
        exact penStr_noroom B b q w h.low hBw h.lt cur fz hg h1
      · exact penStr_room B b q cap w h.low hc h1
    · exact penStr_some B b q cap l w h.low h0 cur fz hg hBg hnc hcm hcs (fun j x hx => h.own.cells (g := q) rfl j (.int .u8 x.toNat) (by simp [Lib.byteCells, hx])) h1

end Go.Proofs.YtlfffpoeioecjaaDoor

namespace Go.Proofs.YtlfffpoeioecjaaDoor
open Go.RowKit Go.Sort
set_option linter.unusedVariables false

theorem not_scr {C : Nat → Ce} {n : Nat} {v : Int} (h : ¬ (1 ≤ v ∧ v ≤ 400)) : ¬ Scr C n v := fun ⟨W, H, h1, _, h3, h4, _⟩ => h (by omega)
theorem not_scr_rem {C : Nat → Ce} {n W : Nat} (h : ¬ n % W = 0) : ¬ Scr C n (W : Int) := fun ⟨W', H, h1, h2, _⟩ => by
  obtain rfl : W = W' := by omega
  exact h (by rw [h2]; exact Nat.mul_mod_left _ _)
theorem not_scr_quo {C : Nat → Ce} {W H : Nat} (hW : 1 ≤ W) (h : ¬ (1 ≤ H ∧ H ≤ 400)) : ¬ Scr C (H * W) (W : Int) := fun ⟨W', H', h1, h2, _, _, h3, h4, _⟩ => by
  obtain rfl : W = W' := by omega
  have : H = H' := Nat.eq_of_mul_eq_mul_right hW h2
  subst this
  exact h ⟨h3, h4⟩
theorem scr_iff {C : Nat → Ce} {W H : Nat} (hW : 1 ≤ W) (hW4 : W ≤ 400) (hH : 1 ≤ H) (hH4 : H ≤ 400) : Scr C (H * W) (W : Int) ↔ ∀ y, y < H → RowOk C (y * W) (y * W + W) := by
  constructor
  · rintro ⟨W', H', h1, h2, _, _, _, _, h5⟩
    obtain rfl : W = W' := by omega
    have : H = H' := Nat.eq_of_mul_eq_mul_right hW h2
    subst this
    exact h5
  · intro h
    exact ⟨W, H, rfl, rfl, hW, hW4, hH, hH4, h⟩

set_option maxRecDepth 100000 in
set_option maxHeartbeats 8000000 in
theorem dSound_any (C : Nat → Ce) (v : Int) (p : Option Addr) (n cap : Nat) (hb : n ≤ 1048576) (hc1 : n ≤ cap) (hc2 : cap ≤ 9223372036854775807) (w : World) (hC : n = 0 ∨ ∃ g, p = some ⟨g, 0, none⟩ ∧ CL w g 0 n C) (ht : TabAt w) (hs : ∀ i, i < n → (C i).t.size ≤ 1099511627776) :
    Calls Tryd.prog 25 #[.slice p n cap, .int .i64 v] w fun r w' => Tells w w' r (Scr C n v) := by
  have DS : Hid (∀ n w, Calls Tryd.prog 40 #[.int .i64 n] w fun e w' => e = .returned (.bool (decide (1 ≤ n ∧ n ≤ 400))) ∧ w' = w) := dSide_any
  by_cases hv : 1 ≤ v ∧ v ≤ 400
  · obtain ⟨W, rfl⟩ : ∃ W : Nat, v = (W : Int) := ⟨v.toNat, by omega⟩
    have DS1 : Hid (∀ w, Calls Tryd.prog 40 #[.int .i64 (W : Int)] w fun e w' => e = .returned (.bool true) ∧ w' = w) := fun w => by have := DS.out (W : Int) w; rw [decide_eq_true hv] at this; exact this
    have hW0 : ¬ (W : Int) = 0 := by omega
    by_cases hr : n % W = 0
    · have hr' : ((n : Int) % (W : Int) != 0) = false := by
        have : (n : Int) % (W : Int) = ((n % W : Nat) : Int) := by omega
        rw [this, hr]; rfl
      obtain ⟨H, hH⟩ : ∃ H, n = H * W := ⟨n / W, by have := Nat.div_add_mod n W; rw [hr, Nat.mul_comm] at this; omega⟩
      have hq : (n : Int) / (W : Int) = (H : Int) := by
        rw [hH, Int.natCast_mul]
        exact Int.mul_ediv_cancel _ hW0
      have HSC : Hid (n = H * W) := hH
      have hHn : H ≤ n := by rw [hH]; exact Nat.le_mul_of_pos_right _ (by omega)
      have hq2 : wrap64 ((n : Int) / (W : Int)) = (H : Int) := by rw [hq]; unfold wrap64; omega
      by_cases hh : 1 ≤ H ∧ H ≤ 400
      · have DS2 : Hid (∀ w, Calls Tryd.prog 40 #[.int .i64 (H : Int)] w fun e w' => e = .returned (.bool true) ∧ w' = w) := fun w => by have := DS.out (H : Int) w; rw [decide_eq_true (by omega)] at this; exact this
        obtain ⟨g, rfl, hCL⟩ : ∃ g, p = some ⟨g, 0, none⟩ ∧ CL w g 0 n C := by
          rcases hC with h | h
          · have : H * W = 0 := by omega
            rcases Nat.mul_eq_zero.1 this with h | h <;> omega
          · exact h
        have HC : Hid (CL w g 0 n C) := hCL
        have HT : Hid (TabAt w) := ht
        have HZ : Hid (∀ i, i < n → (C i).t.size ≤ 1099511627776) := hs
        have HSI : Hid (Scr C n (W : Int) ↔ ∀ y, y < H → RowOk C (y * W) (y * W + W)) := by show _ ↔ _; rw [hH]; exact scr_iff (by omega) (by omega) hh.1 hh.2
        clear hCL hC ht hs hq hr hH
        go_enter Tryd.func25, Tryd.ntmps25
        go_wp2_with fail
        refine (DS1.out _).mono ?_
        rintro e w1 ⟨rfl, hw⟩
        obtain rfl := hw.symm
        go_wp2_with fail
        refine (DS2.out _).mono ?_
        rintro e w1 ⟨rfl, hw⟩
        obtain rfl := hw.symm
        go_wp2
        go_loopw [0] (fun rv wr => ∃ (y x m c : Nat) (p : Option Addr), y ≤ H ∧ Hid (x = y * W) ∧ Hid (∀ y', y' < y → RowOk C (y' * W) (y' * W + W)) ∧ x + m = n ∧ rv = .slice p m c ∧ m ≤ c ∧ c ≤ 9223372036854775807 ∧ (x < n → p = some ⟨g, x * 5, none⟩) ∧ Hid (Below w.heap.size w wr)) (fun rv _ => lenOf rv)
        case atStart => exact ⟨0, 0, n, cap, _, Nat.zero_le _, by show 0 = 0 * W; rw [Nat.zero_mul], fun y' h => absurd h (by omega), by omega, rfl, hc1, hc2, fun _ => rfl, Below.refl _ _⟩
        case round =>
          obtain ⟨y, x, m, c, p, hy, HX, HR, hm, rfl, hmc, hc3, hp, HB⟩ := hrel
          by_cases hlt : x < n
          · obtain rfl := hp hlt
            have hm0 : (0 : Int) < (m : Int) := by omega
            have hy1 : y < H := by
              rcases Nat.lt_or_ge y H with h | h
              · exact h
              · have h1 : y = H := by omega
                have h2 := HX.out
                have h3 := HSC.out
                rw [h1] at h2
                omega
            have hxW : x + W ≤ n := by
              have h1 : (y + 1) * W ≤ H * W := Nat.mul_le_mul_right _ hy1
              rw [Nat.add_mul, Nat.one_mul, ← HX.out, ← HSC.out] at h1
              exact h1
            have hWm : W ≤ m := by omega
            have IR : Hid (∀ cap, W ≤ cap → cap ≤ 9223372036854775807 → Calls Tryd.prog 41 #[.slice (some ⟨g, x * 5, none⟩) W cap] wr fun r w' => ∃ bb : Bool, r = .returned (.bool bb) ∧ Hid (bb = true ↔ RowOk C (y * W) (y * W + W)) ∧ Hid (Below w.heap.size w w')) := fun cap h1 h2 => (isRow_any C g x W (x + W) cap n rfl hxW hb h1 h2 wr (HC.out.below HB.out) (HT.out.below HB.out) HZ.out).mono fun r w' h => by
              obtain ⟨bb, h1, h2, h3⟩ := h
              rw [← HX.out]
              exact ⟨bb, h1, h2, HB.out.trans (h3.mono HB.out.size)⟩
            have hWc : W ≤ c := by omega
            go_wp2_with fail
            refine (IR.out _ (by omega) (by omega)).mono ?_
            rintro r w2 ⟨bb, rfl, HI, HB2⟩
            cases bb with
            | false =>
              go_wp2
              go_ret
              exact ⟨false, rfl, ⟨fun h => (nomatch h), fun h => (nomatch HI.out.2 (HSI.out.1 h y hy1))⟩, HB2.out⟩
            | true =>
              have HR2 : Hid (∀ y', y' < y + 1 → RowOk C (y' * W) (y' * W + W)) := fun y' h => by
                by_cases e : y' = y
                · subst e; exact HI.out.1 rfl
                · exact HR.out y' (by omega)
              go_wp2
              refine ⟨⟨y + 1, x + W, m - W, c - W, _, hy1, by show _ = _; rw [HX.out, Nat.add_mul, Nat.one_mul], HR2.out, by omega, rfl, by omega, by omega, fun hx => ?_, HB2.out⟩, by simp only [lenOf]; omega⟩
              rw [if_neg (by omega), Nat.add_mul]
          · have hm0 : ¬ (0 : Int) < (m : Int) := by omega
            have hyH : y = H := by
              have h2 := HX.out
              have h3 := HSC.out
              have h4 : y * W = H * W := by omega
              exact Nat.eq_of_mul_eq_mul_right (by omega) h4
            subst hyH
            go_wp2
            go_ret
            exact ⟨true, rfl, ⟨fun _ => HSI.out.2 HR.out, fun _ => rfl⟩, HB.out⟩
      · have DS2 : Hid (∀ w, Calls Tryd.prog 40 #[.int .i64 (H : Int)] w fun e w' => e = .returned (.bool false) ∧ w' = w) := fun w => by have := DS.out (H : Int) w; rw [decide_eq_false (by omega)] at this; exact this
        have HNS : Hid (¬ Scr C n (W : Int)) := by show ¬ _; rw [hH]; exact not_scr_quo (by omega) hh
        clear hq hH hr
        go_enter Tryd.func25, Tryd.ntmps25
        go_wp2_with fail
        refine (DS1.out _).mono ?_
        rintro e w1 ⟨rfl, hw⟩
        obtain rfl := hw.symm
        go_wp2_with fail
        refine (DS2.out _).mono ?_
        rintro e w1 ⟨rfl, hw⟩
        obtain rfl := hw.symm
        go_wp2
        go_ret
        exact ⟨false, rfl, ⟨fun h => (nomatch h), fun h => absurd h HNS.out⟩, Below.refl _ _⟩
    · have hr' : ((n : Int) % (W : Int) != 0) = true := by
        have : (n : Int) % (W : Int) = ((n % W : Nat) : Int) := by omega
        rw [this]; simp; omega
      have HNS : Hid (¬ Scr C n (W : Int)) := not_scr_rem hr
      clear hr
      go_enter Tryd.func25, Tryd.ntmps25
      go_wp2_with fail
      refine (DS1.out _).mono ?_
      rintro e w1 ⟨rfl, hw⟩
      obtain rfl := hw.symm
      go_wp2
      go_ret
      exact ⟨false, rfl, ⟨fun h => (nomatch h), fun h => absurd h HNS.out⟩, Below.refl _ _⟩
  · have DS1 : Hid (∀ w, Calls Tryd.prog 40 #[.int .i64 v] w fun e w' => e = .returned (.bool false) ∧ w' = w) := fun w => by have := DS.out v w; rw [decide_eq_false hv] at this; exact this
    go_enter Tryd.func25, Tryd.ntmps25
    go_wp2_with fail
    refine (DS1.out _).mono ?_
    rintro e w1 ⟨rfl, hw⟩
    obtain rfl := hw.symm
    go_wp2
    go_ret
    exact ⟨false, rfl, ⟨fun h => (nomatch h), fun h => absurd h (not_scr hv)⟩, Below.refl _ _⟩

end Go.Proofs.YtlfffpoeioecjaaDoor

namespace Go.Proofs.YtlfffpoeioecjaaDoor
open Go.RowKit Go.Sort
set_option linter.unusedVariables false

theorem PenTo.low {w w1 w2 : World} {B b : Nat} {W a f g d : Int} {l : List UInt8} (h : PenTo w w1 B b W a f g d l) (hb : Below w1.heap.size w1 w2) (hB : B ≤ w1.heap.size) : PenTo w w2 B b W a f g d l := by
  obtain ⟨p', v', h1, h2, h3⟩ := h
  exact ⟨p', v', h1.up hb, h2.trans (hb.mono hB), h3.trans (below_others hb _ _)⟩
def bl0 : Ce := ⟨⟨#[32]⟩, 0, 0, 0, 0⟩
def pn0 : Pe0 := ⟨-1, 0, 0, 0⟩
/-- The first case: one size. -/
def One (old : Nat → Ce) (nO : Nat) (x : Int) (n : Nat) (v : Int) : Prop := x = v ∧ nO = n ∧ Scr old nO x
/-- The bytes of an update. -/
structure UpB (old : Nat → Ce) (nO : Nat) (x : Int) (new : Nat → Ce) (n V : Nat) (l : List UInt8) : Prop where
  one : One old nO x n (V : Int) → l = allB nms V n old new pn0
  all : ¬ One old nO x n (V : Int) → l = [27, 91, 50, 74] ++ allB nms V n (fun _ => bl0) new pn0

set_option maxHeartbeats 4000000 in
set_option maxRecDepth 100000 in
theorem dUpdate_bad (old new : Nat → Ce) (nO n : Nat) (x v : Int) (pO pN : Option Addr) (capO capN : Nat) (w : World) (hb : n ≤ 1048576) (hc1 : n ≤ capN) (hc2 : capN ≤ 9223372036854775807) (hN : n = 0 ∨ ∃ g, pN = some ⟨g, 0, none⟩ ∧ CB w g 0 n new) (ht : TabAt w) (hs : ∀ i, i < n → (new i).t.size ≤ 1099511627776) (hno : ¬ Scr new n v) :
    Calls Tryd.prog 12 #[.slice pO nO capO, .int .i64 x, .slice pN n capN, .int .i64 v] w fun e w' => e = .returned (.tuple #[.string ⟨#[]⟩, .int .i64 6]) ∧ Hid (Below w.heap.size w w') := by
  have DS : Hid (Calls Tryd.prog 25 #[.slice pN n capN, .int .i64 v] w fun r w' => r = .returned (.bool false) ∧ Hid (Below w.heap.size w w')) :=
    (dSound_any new v pN n capN hb hc1 hc2 w (hN.imp id fun ⟨g, a, c⟩ => ⟨g, a, c.cl⟩) ht hs).mono fun r w' h => by
      obtain ⟨bb, h1, h2, h3⟩ := h
      cases bb with
      | true => exact absurd (h2.1 rfl) hno
      | false => exact ⟨h1, h3⟩
  clear hN ht hs hno
  go_enter Tryd.func12, Tryd.ntmps12
  go_wp2_with fail
  refine DS.out.mono ?_
  rintro e w1 ⟨rfl, HB⟩
  go_wp2
  go_ret2
  exact ⟨rfl, HB.out⟩

set_option maxHeartbeats 8000000 in
set_option maxRecDepth 100000 in
theorem dUpdate_ok (old new : Nat → Ce) (nO V H n : Nat) (x : Int) (pO : Option Addr) (gN capO capN : Nat) (w : World) (hbO : nO ≤ 1048576) (hO1 : nO ≤ capO) (hO2 : capO ≤ 9223372036854775807) (hc1 : n ≤ capN) (hc2 : capN ≤ 9223372036854775807) (hO : nO = 0 ∨ ∃ g, pO = some ⟨g, 0, none⟩ ∧ CB w g 0 nO old) (hN : CB w gN 0 n new) (ht : TabAt w) (hg : 3 < w.heap.size) (htn : TensAt w) (hsO : ∀ i, i < nO → (old i).t.size ≤ 1099511627776) (hV : 1 ≤ V ∧ V ≤ 400) (hH : 1 ≤ H ∧ H ≤ 400) (hn : n = H * V) (hr : Rws new V H) :
    Calls Tryd.prog 12 #[.slice pO nO capO, .int .i64 x, .slice (some ⟨gN, 0, none⟩) n capN, .int .i64 (V : Int)] w fun e w' => ∃ l, e = .returned (.tuple #[.string ⟨l.toArray⟩, .int .i64 0]) ∧ Hid (UpB old nO x new n V l) ∧ Hid (Below w.heap.size w w') := by
  have hn160 : 1 ≤ n ∧ n ≤ 160000 := by
    rw [hn]
    exact ⟨Nat.mul_pos (by omega) (by omega), Nat.le_trans (Nat.mul_le_mul hH.2 hV.2) (by decide)⟩
  have hscr : Scr new n (V : Int) := ⟨V, H, rfl, hn, hV.1, hV.2, hH.1, hH.2, hr⟩
  have hsN : ∀ i, i < n → (new i).t.size ≤ 1099511627776 := fun i hi => Nat.le_trans (hr.size (by omega)) (by decide)
  have HN : Hid (CB w gN 0 n new) := hN
  have HO : Hid (nO = 0 ∨ ∃ g, pO = some ⟨g, 0, none⟩ ∧ CB w g 0 nO old) := hO
  have HTB : Hid (TabAt w) := ht
  have HTN : Hid (TensAt w) := htn
  have HSO : Hid (∀ i, i < nO → (old i).t.size ≤ 1099511627776) := hsO
  have HHV : Hid (1 ≤ V ∧ V ≤ 400) := hV
  have HHH : Hid (1 ≤ H ∧ H ≤ 400) := hH
  have HNN : Hid (n = H * V) := hn
  have HRW : Hid (Rws new V H) := hr
  have DS : Hid (Calls Tryd.prog 25 #[.slice (some ⟨gN, 0, none⟩) n capN, .int .i64 (V : Int)] w fun r w' => r = .returned (.bool true) ∧ Hid (Below w.heap.size w w')) :=
    (dSound_any new (V : Int) (some ⟨gN, 0, none⟩) n capN (by omega) hc1 hc2 w (.inr ⟨gN, rfl, hN.cl⟩) ht hsN).mono fun r w' h => by
      obtain ⟨bb, h1, h2, h3⟩ := h
      cases bb with
      | false => exact absurd (h2.2 hscr) (by decide)
      | true => exact ⟨h1, h3⟩
  clear hN hO ht htn hsO hV hH hn hr hscr hsN
  go_enter Tryd.func12, Tryd.ntmps12
  go_wp2_with fail
  refine DS.out.mono ?_
  rintro e w1 ⟨rfl, HB1⟩
  go_upto_region 4 with fail
  obtain ⟨W2, hW2⟩ : ∃ z, w1.alloc (.cells #[.pointer none, .slice none 0 0, .int .i64 (V : Int), .int .i64 (-1), .int .i64 0, .int .i64 0, .int .i64 0] 80) = z := ⟨_, rfl⟩
  obtain ⟨b, hbb⟩ : ∃ z, w1.heap.size = z := ⟨_, rfl⟩
  have G2 : Hid (Gr w1 W2) := by rw [← hW2]; exact (Gr.refl w1).alloc _
  have hb1 : w.heap.size ≤ b := by rw [← hbb]; exact HB1.out.size
  have HB2 : Hid (Below w.heap.size w W2) := HB1.out.trans (G2.out.below.mono HB1.out.size)
  have HP2 : Hid (PenB W2 w.heap.size b (.pointer none) (.slice none 0 0) (V : Int) (-1) 0 0 0 []) := by
    refine ⟨hb1, .inl rfl, ?_, ⟨rfl, .inl ⟨rfl, rfl⟩⟩, ?_⟩
    · rw [← hW2, ← hbb]; exact new_block w1 _
    · exact fun e => nomatch e
  rw [hW2, hbb]
  have hltN : gN < w.heap.size := HN.out.cl.lt
  clear hW2 hbb DS
  go_cut [33] from 18 to 32 (fun s wx => ∃ bb : Bool, s = .bool bb ∧ Hid (bb = true ↔ ¬ One old nO x n (V : Int)) ∧ Hid (Below W2.heap.size W2 wx))
  case first =>
    by_cases hx : x = (V : Int)
    · have hxb : (x != (V : Int)) = false := by simpa using hx
      by_cases hl : nO = n
      · have hlb : ((nO : Int) != (n : Int)) = false := by simp [hl]
        have DS2 : Hid (Calls Tryd.prog 25 #[.slice pO nO capO, .int .i64 x] W2 fun r w' => ∃ bb : Bool, r = .returned (.bool bb) ∧ Hid (bb = true ↔ One old nO x n (V : Int)) ∧ Hid (Below W2.heap.size W2 w')) :=
          (dSound_any old x pO nO capO hbO hO1 hO2 W2 (HO.out.imp id fun ⟨g, a, c⟩ => ⟨g, a, (c.low HB2.out).cl⟩) (HTB.out.below HB2.out) HSO.out).mono fun r w' h => by
            obtain ⟨bb, h1, h2, h3⟩ := h
            exact ⟨bb, h1, ⟨fun e => ⟨hx, hl, h2.1 e⟩, fun e => h2.2 e.2.2⟩, h3⟩
        clear hx hl
        go_wp2_with fail
        refine DS2.out.mono ?_
        rintro e w3 ⟨bb, rfl, HI, HB3⟩
        have HI2 : Hid ((!bb) = true ↔ ¬ One old nO x n (V : Int)) := by
          have := HI.out
          cases bb with
          | true => exact ⟨fun q => (nomatch q), fun q => absurd (this.1 rfl) q⟩
          | false => exact ⟨fun _ q => (nomatch this.2 q), fun _ => rfl⟩
        go_wp2
        go_meet
        exact ⟨_, rfl, HI2.out, HB3.out⟩
      · have hlb : ((nO : Int) != (n : Int)) = true := by simpa using fun e => hl (Int.ofNat.inj e)
        have HNO : Hid (¬ One old nO x n (V : Int)) := fun q => hl q.2.1
        clear hx hl
        go_wp2
        go_meet
        exact ⟨true, rfl, ⟨fun _ => HNO.out, fun _ => rfl⟩, Below.refl _ _⟩
    · have hxb : (x != (V : Int)) = true := by simpa using hx
      have HNO : Hid (¬ One old nO x n (V : Int)) := fun q => hx q.1
      clear hx
      go_wp2
      go_meet
      exact ⟨true, rfl, ⟨fun _ => HNO.out, fun _ => rfl⟩, Below.refl _ _⟩
  case rest =>
    obtain ⟨bb, rfl, HI, HBC⟩ := hcut
    have HB3 : Hid (Below w.heap.size w wc) := HB2.out.trans (HBC.out.mono HB2.out.size)
    have HP3 : Hid (PenB wc w.heap.size b (.pointer none) (.slice none 0 0) (V : Int) (-1) 0 0 0 []) := HP2.out.up HBC.out
    have hsz3 : w.heap.size ≤ wc.heap.size := HB3.out.size
    cases bb with
    | false =>
      have HON : Hid (One old nO x n (V : Int)) := Classical.not_not.1 fun q => nomatch HI.out.2 q
      obtain ⟨hx, hl, hso⟩ := HON.out
      subst hl
      obtain ⟨gO, rfl, hCO⟩ : ∃ g, pO = some ⟨g, 0, none⟩ ∧ CB w g 0 nO old := by
        rcases HO.out with h | h
        · omega
        · exact h
      have hltO : gO < w.heap.size := hCO.cl.lt
      have UP : Hid (Calls Tryd.prog 28 #[.pointer (some ⟨b, 0, none⟩), .slice (some ⟨gO, 0, none⟩) nO capO, .slice (some ⟨gN, 0, none⟩) nO capN] wc fun e w' => e = .returned (.tuple #[]) ∧ Hid (∃ a, PenTo wc w' w.heap.size b (V : Int) a 0 0 0 (allB nms V nO old new pn0))) :=
        penUpd_any w.heap.size b _ _ V H nO [] gO 0 capO gN 0 capN old new wc HP3.out (by decide) hsz3 HHV.out HHH.out HNN.out HRW.out (hCO.low HB3.out) (HN.out.low HB3.out) (by omega) (by omega) (HTN.out.below HB3.out hg) hg
      clear hx hso hCO
      go_wp2_with fail
      refine UP.out.mono ?_
      rintro e4 w4 ⟨rfl, HU⟩
      have ST : Hid (Calls Tryd.prog 29 #[.pointer (some ⟨b, 0, none⟩)] w4 fun e w' => e = .returned (.string ⟨(allB nms V nO old new pn0).toArray⟩) ∧ Hid (Below w.heap.size w w')) := by
        obtain ⟨a, p1, v1, k1, k2, k3⟩ := HU.out
        exact (penStr_any w.heap.size b p1 v1 (V : Int) a 0 0 0 _ w4 k1 (Nat.le_trans hsz3 k2.size)).mono fun e w' q => ⟨q.1, (HB3.out.trans k2).trans q.2.out.1⟩
      clear UP
      go_wp2_with fail
      refine ST.out.mono ?_
      rintro e5 w5 ⟨rfl, H5⟩
      go_wp2
      go_ret2
      exact ⟨_, rfl, ⟨fun _ => rfl, fun q => absurd HON.out q⟩, H5.out⟩
    | true =>
      have HON : Hid (¬ One old nO x n (V : Int)) := HI.out.1 rfl
      have PW : Hid (Calls Tryd.prog 26 #[.pointer (some ⟨b, 0, none⟩), .string ⟨#[27, 91, 50, 74]⟩] wc fun e w2 => e = .returned (.tuple #[.int .i64 4, .nilIface]) ∧ Hid (PenTo wc w2 w.heap.size b (V : Int) (-1) 0 0 0 [27, 91, 50, 74])) :=
        (penWrite_any w.heap.size b _ _ (V : Int) (-1) 0 0 0 [] ⟨#[27, 91, 50, 74]⟩ wc HP3.out (by decide) hsz3).mono fun e w2 ⟨he, h1⟩ => ⟨he, _, h1⟩
      go_wp2_with fail
      refine PW.out.mono ?_
      rintro e4 w4 ⟨rfl, H4⟩
      have hsz4 : w.heap.size ≤ w4.heap.size := H4.out.size hsz3
      clear PW
      go_wp2_with fail
      obtain ⟨W5, hW5⟩ : ∃ z, w4.alloc (.cells #[.string ⟨#[32]⟩, .int .i64 0, .int .i64 0, .int .i64 0, .int .i64 0] 34) = z := ⟨_, rfl⟩
      obtain ⟨S5, hS5⟩ : ∃ z, w4.heap.size = z := ⟨_, rfl⟩
      have G5 : Hid (Gr w4 W5) := by rw [← hW5]; exact (Gr.refl w4).alloc _
      have R5b : R5 34 W5 S5 bl0 := by rw [← hW5, ← hS5]; exact R5.new w4 bl0 _
      have RP : Hid (Calls Tryd.prog 27 #[.slice (some ⟨S5, 0, none⟩) 1 1, .int .i64 (n : Int)] W5 fun r w' => r = .returned (.slice (some ⟨W5.heap.size, 0, none⟩) n n) ∧ Hid (CB w' W5.heap.size 0 n (fun _ => bl0)) ∧ Hid (Below w4.heap.size w4 w')) := by
        refine (repeat_any W5 bl0 S5 n hn160 R5b.lt fun k u hu => ?_).mono fun r w' ⟨h1, ⟨L, h2, h3⟩, h4⟩ => ⟨h1, ⟨⟨_, _, h2⟩, (Array.getElem?_eq_some_iff.1 h2).1, fun i hi k u hu => ?_⟩, G5.out.below.trans (h4.mono G5.out.size)⟩
        · rw [Lib.cell_of_heap R5b, ← hu]
          match k with
          | 0 => rfl
          | 1 => rfl
          | 2 => rfl
          | 3 => rfl
          | 4 => rfl
          | _ + 5 => rfl
        · rw [Lib.cell_of_heap h2, Nat.zero_add, List.getElem?_toArray]
          exact h3.2 i k u hi hu
      have hg5 : w4.heap.size ≤ W5.heap.size := G5.out.size
      rw [hW5, hS5]
      clear hW5 hS5 R5b
      refine RP.out.mono ?_
      rintro e6 w6 ⟨rfl, HCB, HB6⟩
      have H6 : Hid (PenTo wc w6 w.heap.size b (V : Int) (-1) 0 0 0 [27, 91, 50, 74]) := H4.out.low HB6.out hsz4
      have HB7 : Hid (Below w.heap.size w w6) := by
        obtain ⟨p1, v1, k1, k2, k3⟩ := H6.out
        exact HB3.out.trans k2
      have hsz6 : w.heap.size ≤ w6.heap.size := HB7.out.size
      have hblt : b < W5.heap.size := by
        obtain ⟨p1, v1, k1, k2, k3⟩ := H4.out
        have := k1.lt
        omega
      obtain ⟨g6, hg6⟩ : ∃ z, W5.heap.size = z := ⟨_, rfl⟩
      rw [hg6] at HCB hblt ⊢
      have UP : Hid (Calls Tryd.prog 28 #[.pointer (some ⟨b, 0, none⟩), .slice (some ⟨g6, 0, none⟩) n n, .slice (some ⟨gN, 0, none⟩) n capN] w6 fun e w' => e = .returned (.tuple #[]) ∧ Hid (∃ a, PenTo w6 w' w.heap.size b (V : Int) a 0 0 0 ([27, 91, 50, 74] ++ allB nms V n (fun _ => bl0) new pn0))) := by
        obtain ⟨p1, v1, k1, k2, k3⟩ := H6.out
        exact penUpd_any w.heap.size b p1 v1 V H n [27, 91, 50, 74] g6 0 n gN 0 capN (fun _ => bl0) new w6 k1 (by decide) hsz6 HHV.out HHH.out HNN.out HRW.out HCB.out (HN.out.low HB7.out) (by omega) (by omega) (HTN.out.below HB7.out hg) hg
      clear RP hg6
      go_wp2_with fail
      refine UP.out.mono ?_
      rintro e8 w8 ⟨rfl, HU⟩
      have ST : Hid (Calls Tryd.prog 29 #[.pointer (some ⟨b, 0, none⟩)] w8 fun e w' => e = .returned (.string ⟨([27, 91, 50, 74] ++ allB nms V n (fun _ => bl0) new pn0).toArray⟩) ∧ Hid (Below w.heap.size w w')) := by
        obtain ⟨a, p1, v1, k1, k2, k3⟩ := HU.out
        exact (penStr_any w.heap.size b p1 v1 (V : Int) a 0 0 0 _ w8 k1 (Nat.le_trans hsz6 k2.size)).mono fun e w' q => ⟨q.1, (HB7.out.trans k2).trans q.2.out.1⟩
      clear UP
      obtain ⟨LL, hLL⟩ : ∃ z, [27, 91, 50, 74] ++ allB nms V n (fun _ => bl0) new pn0 = z := ⟨_, rfl⟩
      have HLL : Hid ([27, 91, 50, 74] ++ allB nms V n (fun _ => bl0) new pn0 = LL) := hLL
      rw [hLL] at ST
      clear hLL
      go_wp2_with fail
      refine ST.out.mono ?_
      rintro e9 w9 ⟨rfl, H9⟩
      go_wp2
      go_ret2
      exact ⟨_, rfl, ⟨fun q => absurd q HON.out, fun _ => HLL.out.symm⟩, H9.out⟩

end Go.Proofs.YtlfffpoeioecjaaDoor
