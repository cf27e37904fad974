/-
  The walk of ShareBack.
-/
import Derived.Test.YtmlicipdkbeihadSArg
namespace Go.Proofs.Ytmlicipdkbeihad
open Go.RowKit Go.Sort
set_option linter.unusedVariables false

theorem held_bds (a b c : Nat → Int) (j : Nat) : 0 ≤ cl (a j) ∧ cl (a j) ≤ hMax (a j) (b j) ∧ hMax (a j) (b j) ≤ 100000 ∧ 0 ≤ cl (c j) ∧ cl (c j) ≤ 100000 :=
  ⟨(cl_bd _).1, (hMax_bd _ _).1, (hMax_bd _ _).2, (cl_bd _).1, (cl_bd _).2⟩

theorem field_first {m1 m2 m3 : Value} (K : Act → World → Prop) (A : Act) (d : Option Nat) (W : World) (f : Nat) (hf : f < #[m1, m2, m3].size) (h0 : f = 0) (hK : K (A.put d m1) W) : K (A.put d (#[m1, m2, m3][f])) W := by
  subst h0
  exact hK

set_option maxRecDepth 100000 in
set_option maxHeartbeats 4000000 in
theorem back_walk (v : Value) (n : Nat) (a b c : Nat → Int) (room gap : Int) (w : World) (h : WIn w v n a b c) (hn : n ≤ 5864062014805) :
    Calls Try.prog 4 #[.int .i64 room, .int .i64 gap, v] w fun e w' => e = .returned (.bool true) ∧ Below w.heap.size w w' := by
  have C1 : Hid (Calls Try.prog 6 #[v] w fun e w' => ∃ v, e = .returned v ∧ WVal w.heap.size w' v n a b c ∧ Below w.heap.size w w') := wants_any v n a b c w h hn
  have C2 : Hid (∀ v w, WIn w v n a b c → Calls Try.prog 5 #[.int .i64 room, .int .i64 gap, v] w fun e w' => ∃ v, e = .returned v ∧ SplitV w w' v n a b c room gap) := fun v w h => split_all v n a b c room gap w h hn
  have C3 : Hid (∀ x y z w, Calls Try.prog 7 #[.agg #[.int .i64 x, .int .i64 y, .int .i64 z]] w fun e w' => e = .returned (.agg #[.int .i64 (cl x), .int .i64 (hMax x y), .int .i64 (cl z)]) ∧ Below w.heap.size w w') := rHeld_any
  have HI : Hid (WIn w v n a b c) := h
  obtain ⟨p, cap, rfl, h'⟩ := h
  clear h'
  go_enter Try.func4, Try.ntmps4
  go_wp2_with fail
  refine C1.out.mono ?_
  rintro e w1 ⟨v1, rfl, hv1, hb1⟩
  have HI1 : Hid (WIn w1 v1 n a b c) := hv1.win
  have HB1 : Hid (Below w.heap.size w w1) := hb1
  clear hv1 hb1 C1
  go_wp2_with fail
  refine (C2.out v1 w1 HI1.out).mono ?_
  rintro e w2 ⟨v2, rfl, hs⟩
  have HB2 : Hid (Below w.heap.size w w2) := HB1.out.trans (hs.below.mono HB1.out.size)
  clear C2
  rcases hs with ⟨h0, rfl, rfl⟩ | ⟨h1, h2, lb, rfl, hs⟩
  · rcases h0 with rfl | h0
    · have CR : Hid (∀ w, Calls Try.prog 8 #[.int .i64 room, .int .i64 gap, .int .i64 0] w fun e w' => e = .returned (.int .i64 (cl room)) ∧ w' = w) := fun w => rRoom_one room gap 0 (by omega) w
      obtain ⟨cr, hcr⟩ : ∃ x, cl room = x := ⟨_, rfl⟩
      have b := cl_bd room
      rw [hcr] at CR b
      have b1 := b.1
      clear hcr b
      go_wp2
      go_loop [8, 9] (fun m i => m = .int .i64 0 ∧ i = .int .i64 0) (fun _ _ => 0)
      case atStart => exact ⟨rfl, rfl⟩
      case round =>
        obtain ⟨rfl, rfl⟩ := hrel
        go_wp2_with (go_at_call 8; refine (CR.out _).mono ?_; rintro e w5 ⟨rfl, hw5⟩; obtain rfl := hw5.symm)
        go_ret
        exact ⟨rfl, HB2.out⟩
    · have h0' : (200 : Int) < (n : Int) := by omega
      go_wp2
      go_ret
      exact ⟨rfl, HB2.out⟩
  · have CR : Hid (∀ w, Calls Try.prog 8 #[.int .i64 room, .int .i64 gap, .int .i64 n] w fun e w' => e = .returned (.int .i64 (rm room gap n)) ∧ w' = w) := fun w => rRoom_any room gap n h1 h2 w
    obtain ⟨r, hr⟩ : ∃ x, rm room gap n = x := ⟨_, rfl⟩
    have hr0 := rm_nonneg room gap n
    have hr1 := rm_le room gap n h1
    rw [hr] at CR hr0 hr1 hs
    clear hr
    obtain ⟨hlb, ⟨g, hrow, hsp⟩, hbel⟩ := hs
    have HT : Hid (SplitIs n (fun j => cl (a j)) (fun j => hMax (a j) (b j)) (fun j => cl (c j)) r g) := hsp
    have HRow : Hid (FRow w2 lb 0 n g) := hrow
    have hzl := hrow.1
    have HI2 : Hid (WIn w2 (.slice p n cap) n a b c) := HI.out.below HB2.out
    have h2' : ¬ (200 : Int) < (n : Int) := by omega
    have h3 : (n : Int) ≤ 200 := by omega
    clear hrow hsp hbel HI HI1 HB1 hlb
    obtain ⟨gg, off, rfl, hw0⟩ : ∃ gg off, p = some ⟨gg, off, none⟩ ∧ WRow w2 gg off n a b c := by
      obtain ⟨p', cap', hv, hx⟩ := HI2.out
      injection hv with hv1 hv2 hv3
      subst hv1
      exact hx.resolve_left (by omega)
    have HW : Hid (WRow w2 gg off n a b c) := hw0
    have hzg := hw0.1
    clear hw0 HI2
    go_wp2
    go_loopw [8, 9] (fun m i wr => ∃ (k : Nat) (y : Int), m = .int .i64 y ∧ i = .int .i64 k ∧ k ≤ n ∧ 0 ≤ y ∧ y ≤ (k : Int) * 100000 ∧ Hid (y = sumL (fun j => cl (a j)) (List.range k)) ∧ Below w2.heap.size w2 wr) (fun _ i _ => n - (intOf i).toNat)
    case atStart => exact ⟨0, 0, rfl, rfl, Nat.zero_le _, by omega, by omega, rfl, Below.refl _ _⟩
    case round =>
      obtain ⟨k, y, rfl, rfl, hk, y0, y1, HY, hbw⟩ := hrel
      by_cases hlt : k < n
      · have hlt' : (k : Int) < (n : Int) := by omega
        have hw1 := HW.out.below hbw
        obtain ⟨c0, c1, c2⟩ := hw1.2 k hlt
        have hz := hw1.1
        have hbd := held_bds a b c k
        obtain ⟨a1, ha1⟩ : ∃ x, a k = x := ⟨_, rfl⟩
        obtain ⟨a2, ha2⟩ : ∃ x, b k = x := ⟨_, rfl⟩
        obtain ⟨a3, ha3⟩ : ∃ x, c k = x := ⟨_, rfl⟩
        obtain ⟨m1, hm1⟩ : ∃ x, cl a1 = x := ⟨_, rfl⟩
        obtain ⟨m2, hm2⟩ : ∃ x, hMax a1 a2 = x := ⟨_, rfl⟩
        obtain ⟨m3, hm3⟩ : ∃ x, cl a3 = x := ⟨_, rfl⟩
        rw [ha1] at c0
        rw [ha2] at c1
        rw [ha3] at c2
        rw [ha1, ha2, ha3, hm1, hm2, hm3] at hbd
        obtain ⟨d1, d2, d3, d4, d5⟩ := hbd
        have CH : Hid (∀ w, Calls Try.prog 7 #[.agg #[.int .i64 a1, .int .i64 a2, .int .i64 a3]] w fun e w' => e = .returned (.agg #[.int .i64 m1, .int .i64 m2, .int .i64 m3]) ∧ Below w.heap.size w w') := fun w => by have := C3.out a1 a2 a3 w; rw [hm1, hm2, hm3] at this; exact this
        have HY2 : Hid (y + m1 = sumL (fun j => cl (a j)) (List.range (k + 1))) := by show _ = _; rw [List.range_succ, sumL_snoc, ← HY.out, ha1, hm1]
        have hk1 : ((k + 1 : Nat) : Int) * 100000 = (k : Int) * 100000 + 100000 := by omega
        have hzr := hbw.size
        clear hw1 ha1 ha2 ha3 hm1 hm2 hm3 HY
        go_wp2_with fail
        refine (CH.out _).mono ?_
        rintro e w5 ⟨rfl, b5⟩
        have hb6 : Below w2.heap.size w2 w5 := hbw.trans (b5.mono hzr)
        clear b5 hbw
        go_wp2
        refine field_first _ _ _ _ _ _ rfl ?_
        go_wp2
        go_roundw
        case rel => exact ⟨k + 1, y + m1, rfl, by go_num, by omega, by omega, by omega, HY2.out, hb6⟩
        case measure => simp [intOf]; omega
      · have hge : ¬ (k : Int) < (n : Int) := by omega
        obtain rfl : n = k := by omega
        have HB3 : Hid (Below w.heap.size w wr) := HB2.out.trans (hbw.mono HB2.out.size)
        by_cases hle : y ≤ r
        · clear HY hbw
          go_wp2_with (go_at_call 8; refine (CR.out _).mono ?_; rintro e w5 ⟨rfl, hw5⟩; obtain rfl := hw5.symm)
          go_ret
          exact ⟨rfl, HB3.out⟩
        · have HBk : Hid (Back n (fun j => cl (a j)) r g) := by
            rcases HT.out with ⟨_, hb⟩ | ⟨h1, _⟩
            · exact hb
            · rw [← HY.out] at h1; omega
          have HRow3 : Hid (FRow wr lb 0 n g) := HRow.out.below hbw
          have HW3 : Hid (WRow wr gg off n a b c) := HW.out.below hbw
          have hz3 := hbw.size
          clear HY hbw HRow HW
          obtain ⟨w3, rfl⟩ : ∃ w3, w3 = wr := ⟨_, rfl⟩
          go_wp2_with (go_at_call 8; refine (CR.out _).mono ?_; rintro e w5 ⟨rfl, hw5⟩; obtain rfl := hw5.symm)
          go_loopw [10, 11, 12] (fun q s i wq => ∃ (k : Nat) (sh : Bool) (x : Int), q = .bool sh ∧ s = .int .i64 x ∧ i = .int .i64 k ∧ k ≤ n ∧ 0 ≤ x ∧ x ≤ (k : Int) * 100000 ∧ Hid (x = sumL g (List.range k)) ∧ Hid (sh = true → ∃ j, j < k ∧ g j < cl (a j)) ∧ Below w3.heap.size w3 wq) (fun _ _ i _ => n - (intOf i).toNat)
          case atStart => exact ⟨0, false, 0, rfl, rfl, rfl, Nat.zero_le _, by omega, by omega, rfl, (by show (false = true → _); intro h; cases h), Below.refl _ _⟩
          case round =>
            obtain ⟨k, sh, x, rfl, rfl, rfl, hk, x0, x1, HX, HS, hbw⟩ := hrel
            by_cases hlt : k < n
            · have hlt' : (k : Int) < (n : Int) := by omega
              have hw1 := HW3.out.below hbw
              have hr1' := HRow3.out.below hbw
              obtain ⟨c0, c1, c2⟩ := hw1.2 k hlt
              have hz := hw1.1
              have hzl' := hr1'.1
              have cg := (hr1'.2 k hlt).1
              rw [Nat.zero_add] at cg
              have hgb := HBk.out.bd k hlt
              have hbd := held_bds a b c k
              obtain ⟨a1, ha1⟩ : ∃ x, a k = x := ⟨_, rfl⟩
              obtain ⟨a2, ha2⟩ : ∃ x, b k = x := ⟨_, rfl⟩
              obtain ⟨a3, ha3⟩ : ∃ x, c k = x := ⟨_, rfl⟩
              obtain ⟨gk, hgk⟩ : ∃ x, g k = x := ⟨_, rfl⟩
              obtain ⟨m1, hm1⟩ : ∃ x, cl a1 = x := ⟨_, rfl⟩
              obtain ⟨m2, hm2⟩ : ∃ x, hMax a1 a2 = x := ⟨_, rfl⟩
              obtain ⟨m3, hm3⟩ : ∃ x, cl a3 = x := ⟨_, rfl⟩
              rw [ha1] at c0
              rw [ha2] at c1
              rw [ha3] at c2
              rw [hgk] at cg
              rw [hgk, ha1, hm1] at hgb
              rw [ha1, ha2, ha3, hm1, hm2, hm3] at hbd
              obtain ⟨d1, d2, d3, d4, d5⟩ := hbd
              obtain ⟨g1, g2⟩ := hgb
              have CH : Hid (∀ w, Calls Try.prog 7 #[.agg #[.int .i64 a1, .int .i64 a2, .int .i64 a3]] w fun e w' => e = .returned (.agg #[.int .i64 m1, .int .i64 m2, .int .i64 m3]) ∧ Below w.heap.size w w') := fun w => by have := C3.out a1 a2 a3 w; rw [hm1, hm2, hm3] at this; exact this
              have HX2 : Hid (x + gk = sumL g (List.range (k + 1))) := by show _ = _; rw [List.range_succ, sumL_snoc, ← HX.out, hgk]
              have hk1 : ((k + 1 : Nat) : Int) * 100000 = (k : Int) * 100000 + 100000 := by omega
              have hzr := hbw.size
              have hneg : ¬ gk < 0 := by omega
              have hgt : ¬ m1 < gk := by omega
              cases sh with
              | true =>
                have hg0 : gk = 0 := by
                  obtain ⟨j, hj, hjl⟩ := HS.out rfl
                  rw [← hgk]; exact HBk.out.behind j k hj hlt hjl
                subst hg0
                have HS2 : Hid (∃ j, j < k + 1 ∧ g j < cl (a j)) := by
                  obtain ⟨j, hj, hjl⟩ := HS.out rfl
                  exact ⟨j, by omega, hjl⟩
                have HX3 : Hid (x = sumL g (List.range (k + 1))) := by have := HX2.out; rw [Int.add_zero] at this; exact this
                clear HX2
                clear hw1 hr1' ha1 ha2 ha3 hgk hm1 hm2 hm3 HX HS
                go_wp2_with fail
                refine (CH.out _).mono ?_
                rintro e w5 ⟨rfl, b5⟩
                have hb6 : Below w3.heap.size w3 w5 := hbw.trans (b5.mono hzr)
                have cg5 : w5.cell? ⟨lb, k, none⟩ = some (.int .i64 0) := (b5.cell (p := ⟨lb, k, none⟩) hzl').trans cg
                clear b5 hbw cg
                go_wp2
                refine field_first _ _ _ _ _ _ rfl ?_
                go_wp2
                go_roundw
                case rel => exact ⟨k + 1, true, x, rfl, rfl, by go_num, by omega, by omega, by omega, HX3.out, fun _ => HS2.out, hb6⟩
                case measure => simp [intOf]; omega
              | false =>
                by_cases hlt2 : gk < m1
                · have HS2 : Hid (∃ j, j < k + 1 ∧ g j < cl (a j)) := ⟨k, by omega, by rw [hgk, ha1, hm1]; exact hlt2⟩
                  clear hw1 hr1' ha1 ha2 ha3 hgk hm1 hm2 hm3 HX HS
                  go_wp2_with fail
                  refine (CH.out _).mono ?_
                  rintro e w5 ⟨rfl, b5⟩
                  have hb6 : Below w3.heap.size w3 w5 := hbw.trans (b5.mono hzr)
                  have cg5 : w5.cell? ⟨lb, k, none⟩ = some (.int .i64 gk) := (b5.cell (p := ⟨lb, k, none⟩) hzl').trans cg
                  clear b5 hbw cg
                  go_wp2
                  refine field_first _ _ _ _ _ _ rfl ?_
                  go_wp2
                  go_roundw
                  case rel => exact ⟨k + 1, true, x + gk, rfl, rfl, by go_num, by omega, by omega, by omega, HX2.out, fun _ => HS2.out, hb6⟩
                  case measure => simp [intOf]; omega
                · have hlt3 : ¬ gk < m1 := hlt2
                  clear hw1 hr1' ha1 ha2 ha3 hgk hm1 hm2 hm3 HX HS
                  go_wp2_with fail
                  refine (CH.out _).mono ?_
                  rintro e w5 ⟨rfl, b5⟩
                  have hb6 : Below w3.heap.size w3 w5 := hbw.trans (b5.mono hzr)
                  have cg5 : w5.cell? ⟨lb, k, none⟩ = some (.int .i64 gk) := (b5.cell (p := ⟨lb, k, none⟩) hzl').trans cg
                  clear b5 hbw cg
                  go_wp2
                  refine field_first _ _ _ _ _ _ rfl ?_
                  go_wp2
                  go_roundw
                  case rel => exact ⟨k + 1, false, x + gk, by rw [decide_eq_false (by omega)], rfl, by go_num, by omega, by omega, by omega, HX2.out, (fun h => by cases h), hb6⟩
                  case measure => simp [intOf]; omega
            · have hge : ¬ (k : Int) < (n : Int) := by omega
              obtain rfl : n = k := by omega
              have HB4 : Hid (Below w.heap.size w wr) := HB3.out.trans (hbw.mono HB3.out.size)
              obtain rfl : x = r := by rw [HX.out]; exact HBk.out.sum
              clear HX HS hbw
              go_wp2_with (go_at_call 8; refine (CR.out _).mono ?_; rintro e w5 ⟨rfl, hw5⟩; obtain rfl := hw5.symm)
              go_ret
              exact ⟨rfl, HB4.out⟩

end Go.Proofs.Ytmlicipdkbeihad
