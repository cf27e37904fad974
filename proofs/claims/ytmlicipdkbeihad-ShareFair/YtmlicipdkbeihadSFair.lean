/-
  The walk of ShareFair.
-/
import Derived.Test.YtmlicipdkbeihadSArg
namespace Go.Proofs.Ytmlicipdkbeihad
open Go.RowKit Go.Sort
set_option linter.unusedVariables false

theorem held_bds (a b c : Nat → Int) (j : Nat) : 0 ≤ cl (a j) ∧ cl (a j) ≤ hMax (a j) (b j) ∧ hMax (a j) (b j) ≤ 100000 ∧ 0 ≤ cl (c j) ∧ cl (c j) ≤ 100000 :=
  ⟨(cl_bd _).1, (hMax_bd _ _).1, (hMax_bd _ _).2, (cl_bd _).1, (cl_bd _).2⟩

theorem field_first {m1 m2 m3 : Value} (K : Act → World → Prop) (A : Act) (d : Option Nat) (W : World) (f : Nat) (hf : f < #[m1, m2, m3].size) (h0 : f = 0) (hK : K (A.put d m1) W) : K (A.put d (#[m1, m2, m3][f])) W := by
  subst h0
  exact hK

set_option maxRecDepth 100000 in
set_option maxHeartbeats 4000000 in
theorem fair_walk (v : Value) (n : Nat) (a b c : Nat → Int) (room gap : Int) (w : World) (h : WIn w v n a b c) (hn : n ≤ 5864062014805) :
    Calls Try.prog 3 #[.int .i64 room, .int .i64 gap, v] w fun e w' => e = .returned (.bool true) ∧ Below w.heap.size w w' := by
  have C1 : Hid (Calls Try.prog 6 #[v] w fun e w' => ∃ v, e = .returned v ∧ WVal w.heap.size w' v n a b c ∧ Below w.heap.size w w') := wants_any v n a b c w h hn
  have C2 : Hid (∀ v w, WIn w v n a b c → Calls Try.prog 5 #[.int .i64 room, .int .i64 gap, v] w fun e w' => ∃ v, e = .returned v ∧ SplitV w w' v n a b c room gap) := fun v w h => split_all v n a b c room gap w h hn
  have C3 : Hid (∀ x y z w, Calls Try.prog 7 #[.agg #[.int .i64 x, .int .i64 y, .int .i64 z]] w fun e w' => e = .returned (.agg #[.int .i64 (cl x), .int .i64 (hMax x y), .int .i64 (cl z)]) ∧ Below w.heap.size w w') := rHeld_any
  have HI : Hid (WIn w v n a b c) := h
  obtain ⟨p, cap, rfl, h'⟩ := h
  clear h'
  go_enter Try.func3, Try.ntmps3
  go_wp2_with fail
  refine C1.out.mono ?_
  rintro e w1 ⟨v1, rfl, hv1, hb1⟩
  have HI1 : Hid (WIn w1 v1 n a b c) := hv1.win
  have HB1 : Hid (Below w.heap.size w w1) := hb1
  clear hv1 hb1 C1
  go_wp2_with fail
  refine (C2.out v1 w1 HI1.out).mono ?_
  rintro e w2 ⟨v2, rfl, hs⟩
  have HB2 : Hid (Below w.heap.size w w2) := HB1.out.trans (hs.below.mono HB1.out.size)
  clear C2
  rcases hs with ⟨h0, rfl, rfl⟩ | ⟨h1, h2, lb, rfl, hs⟩
  · rcases h0 with rfl | h0
    · have CR : Hid (∀ w, Calls Try.prog 8 #[.int .i64 room, .int .i64 gap, .int .i64 0] w fun e w' => e = .returned (.int .i64 (cl room)) ∧ w' = w) := fun w => rRoom_one room gap 0 (by omega) w
      obtain ⟨cr, hcr⟩ : ∃ x, cl room = x := ⟨_, rfl⟩
      have b := cl_bd room
      rw [hcr] at CR b
      have b1 := b.1
      clear hcr b
      go_wp2
      go_loop [8, 9] (fun m i => m = .int .i64 0 ∧ i = .int .i64 0) (fun _ _ => 0)
      case atStart => exact ⟨rfl, rfl⟩
      case round =>
        obtain ⟨rfl, rfl⟩ := hrel
        have b2 : ¬ cr < 0 := by omega
        go_wp2_with (go_at_call 8; refine (CR.out _).mono ?_; rintro e w5 ⟨rfl, hw5⟩; obtain rfl := hw5.symm)
        go_loop [10] (fun i => i = .int .i64 0) (fun _ => 0)
        case atStart => exact rfl
        case round =>
          obtain rfl := hrel
          go_wp2
          go_ret
          exact ⟨rfl, HB2.out⟩
    · have h0' : (200 : Int) < (n : Int) := by omega
      go_wp2
      go_ret
      exact ⟨rfl, HB2.out⟩
  · have CR : Hid (∀ w, Calls Try.prog 8 #[.int .i64 room, .int .i64 gap, .int .i64 n] w fun e w' => e = .returned (.int .i64 (rm room gap n)) ∧ w' = w) := fun w => rRoom_any room gap n h1 h2 w
    obtain ⟨r, hr⟩ : ∃ x, rm room gap n = x := ⟨_, rfl⟩
    have hr0 := rm_nonneg room gap n
    have hr1 := rm_le room gap n h1
    rw [hr] at CR hr0 hr1 hs
    clear hr
    obtain ⟨hlb, ⟨g, hrow, hsp⟩, hbel⟩ := hs
    have HT : Hid (SplitIs n (fun j => cl (a j)) (fun j => hMax (a j) (b j)) (fun j => cl (c j)) r g) := hsp
    have HRow : Hid (FRow w2 lb 0 n g) := hrow
    have hzl := hrow.1
    have HI2 : Hid (WIn w2 (.slice p n cap) n a b c) := HI.out.below HB2.out
    have h2' : ¬ (200 : Int) < (n : Int) := by omega
    have h3 : (n : Int) ≤ 200 := by omega
    clear hrow hsp hbel HI HI1 HB1 hlb
    obtain ⟨gg, off, rfl, hw0⟩ : ∃ gg off, p = some ⟨gg, off, none⟩ ∧ WRow w2 gg off n a b c := by
      obtain ⟨p', cap', hv, hx⟩ := HI2.out
      injection hv with hv1 hv2 hv3
      subst hv1
      exact hx.resolve_left (by omega)
    have HW : Hid (WRow w2 gg off n a b c) := hw0
    have hzg := hw0.1
    clear hw0 HI2
    go_wp2
    go_loopw [8, 9] (fun m i wr => ∃ (k : Nat) (y : Int), m = .int .i64 y ∧ i = .int .i64 k ∧ k ≤ n ∧ 0 ≤ y ∧ y ≤ (k : Int) * 100000 ∧ Hid (y = sumL (fun j => cl (a j)) (List.range k)) ∧ Below w2.heap.size w2 wr) (fun _ i _ => n - (intOf i).toNat)
    case atStart => exact ⟨0, 0, rfl, rfl, Nat.zero_le _, by omega, by omega, rfl, Below.refl _ _⟩
    case round =>
      obtain ⟨k, y, rfl, rfl, hk, y0, y1, HY, hbw⟩ := hrel
      by_cases hlt : k < n
      · have hlt' : (k : Int) < (n : Int) := by omega
        have hw1 := HW.out.below hbw
        obtain ⟨c0, c1, c2⟩ := hw1.2 k hlt
        have hz := hw1.1
        have hbd := held_bds a b c k
        obtain ⟨a1, ha1⟩ : ∃ x, a k = x := ⟨_, rfl⟩
        obtain ⟨a2, ha2⟩ : ∃ x, b k = x := ⟨_, rfl⟩
        obtain ⟨a3, ha3⟩ : ∃ x, c k = x := ⟨_, rfl⟩
        obtain ⟨m1, hm1⟩ : ∃ x, cl a1 = x := ⟨_, rfl⟩
        obtain ⟨m2, hm2⟩ : ∃ x, hMax a1 a2 = x := ⟨_, rfl⟩
        obtain ⟨m3, hm3⟩ : ∃ x, cl a3 = x := ⟨_, rfl⟩
        rw [ha1] at c0
        rw [ha2] at c1
        rw [ha3] at c2
        rw [ha1, ha2, ha3, hm1, hm2, hm3] at hbd
        obtain ⟨d1, d2, d3, d4, d5⟩ := hbd
        have CH : Hid (∀ w, Calls Try.prog 7 #[.agg #[.int .i64 a1, .int .i64 a2, .int .i64 a3]] w fun e w' => e = .returned (.agg #[.int .i64 m1, .int .i64 m2, .int .i64 m3]) ∧ Below w.heap.size w w') := fun w => by have := C3.out a1 a2 a3 w; rw [hm1, hm2, hm3] at this; exact this
        have HY2 : Hid (y + m1 = sumL (fun j => cl (a j)) (List.range (k + 1))) := by show _ = _; rw [List.range_succ, sumL_snoc, ← HY.out, ha1, hm1]
        have hk1 : ((k + 1 : Nat) : Int) * 100000 = (k : Int) * 100000 + 100000 := by omega
        have hzr := hbw.size
        clear hw1 ha1 ha2 ha3 hm1 hm2 hm3 HY
        go_wp2_with fail
        refine (CH.out _).mono ?_
        rintro e w5 ⟨rfl, b5⟩
        have hb6 : Below w2.heap.size w2 w5 := hbw.trans (b5.mono hzr)
        clear b5 hbw
        go_wp2
        refine field_first _ _ _ _ _ _ rfl ?_
        go_wp2
        go_roundw
        case rel => exact ⟨k + 1, y + m1, rfl, by go_num, by omega, by omega, by omega, HY2.out, hb6⟩
        case measure => simp [intOf]; omega
      · have hge : ¬ (k : Int) < (n : Int) := by omega
        obtain rfl : n = k := by omega
        have HB3 : Hid (Below w.heap.size w wr) := HB2.out.trans (hbw.mono HB2.out.size)
        by_cases hle : r < y
        · clear HY hbw
          go_wp2_with (go_at_call 8; refine (CR.out _).mono ?_; rintro e w5 ⟨rfl, hw5⟩; obtain rfl := hw5.symm)
          go_ret
          exact ⟨rfl, HB3.out⟩
        · have hFair : (∀ j, j < n → cl (a j) ≤ g j ∧ g j ≤ hMax (a j) (b j) ∧ (cl (c j) = 0 → g j = cl (a j))) ∧ ∀ i k, i < n → k < n → 0 < cl (c i) → 0 < cl (c k) → g i < hMax (a i) (b i) → (g k - cl (a k) - 1) * cl (c i) < (g i - cl (a i) + 1) * cl (c k) := by
            rcases HT.out with ⟨h1, _⟩ | ⟨h1, A, S, L, V, m, hp⟩
            · rw [← HY.out] at h1; omega
            · exact ⟨hp.bds (fun j => (held_bds a b c j).2.1) (fun j => (held_bds a b c j).2.2.2.1), fun i k hi hk wi wk hlt => hp.fair (fun j => (held_bds a b c j).2.1) (fun j => (held_bds a b c j).2.2.2.1) i k hi hk wi wk hlt⟩
          have HF : Hid _ := hFair
          have HRow3 : Hid (FRow wr lb 0 n g) := HRow.out.below hbw
          have HW3 : Hid (WRow wr gg off n a b c) := HW.out.below hbw
          have hz3 := hbw.size
          clear HY hbw HRow HW hFair
          obtain ⟨w3, rfl⟩ : ∃ w3, w3 = wr := ⟨_, rfl⟩
          go_wp2_with (go_at_call 8; refine (CR.out _).mono ?_; rintro e w5 ⟨rfl, hw5⟩; obtain rfl := hw5.symm)
          go_loopw [10] (fun i wq => ∃ k : Nat, i = .int .i64 k ∧ k ≤ n ∧ Below w3.heap.size w3 wq) (fun i _ => n - (intOf i).toNat)
          case atStart => exact ⟨0, rfl, Nat.zero_le _, Below.refl _ _⟩
          case round =>
            obtain ⟨k, rfl, hk, hbw⟩ := hrel
            by_cases hlt : k < n
            · have hlt' : (k : Int) < (n : Int) := by omega
              have hw1 := HW3.out.below hbw
              have hr1' := HRow3.out.below hbw
              obtain ⟨c0, c1, c2⟩ := hw1.2 k hlt
              have hz := hw1.1
              have hzl' := hr1'.1
              have cg := (hr1'.2 k hlt).1
              rw [Nat.zero_add] at cg
              have hgb := HF.out.1 k hlt
              have hfk := fun i => HF.out.2 k i hlt
              have hbd := held_bds a b c k
              obtain ⟨a1, ha1⟩ : ∃ x, a k = x := ⟨_, rfl⟩
              obtain ⟨a2, ha2⟩ : ∃ x, b k = x := ⟨_, rfl⟩
              obtain ⟨a3, ha3⟩ : ∃ x, c k = x := ⟨_, rfl⟩
              obtain ⟨gk, hgk⟩ : ∃ x, g k = x := ⟨_, rfl⟩
              obtain ⟨m1, hm1⟩ : ∃ x, cl a1 = x := ⟨_, rfl⟩
              obtain ⟨m2, hm2⟩ : ∃ x, hMax a1 a2 = x := ⟨_, rfl⟩
              obtain ⟨m3, hm3⟩ : ∃ x, cl a3 = x := ⟨_, rfl⟩
              rw [ha1] at c0
              rw [ha2] at c1
              rw [ha3] at c2
              rw [hgk] at cg
              rw [hgk, ha1, ha2, ha3, hm1, hm2, hm3] at hgb
              rw [ha1, ha2, ha3, hm1, hm2, hm3] at hbd
              have HFK : Hid (∀ i, i < n → 0 < m3 → 0 < cl (c i) → gk < m2 → (g i - cl (a i) - 1) * m3 < (gk - m1 + 1) * cl (c i)) := by
                intro i hi w1 w2 h
                have := hfk i hi
                rw [hgk, ha1, ha2, ha3, hm1, hm2, hm3] at this
                exact this w1 w2 h
              obtain ⟨d1, d2, d3, d4, d5⟩ := hbd
              obtain ⟨g1, g2, g3⟩ := hgb
              have CH : Hid (∀ w, Calls Try.prog 7 #[.agg #[.int .i64 a1, .int .i64 a2, .int .i64 a3]] w fun e w' => e = .returned (.agg #[.int .i64 m1, .int .i64 m2, .int .i64 m3]) ∧ Below w.heap.size w w') := fun w => by have := C3.out a1 a2 a3 w; rw [hm1, hm2, hm3] at this; exact this
              have hzr := hbw.size
              have e1 : decide (gk < m1) = false := decide_eq_false (by omega)
              have e2 : decide (m2 < gk) = false := decide_eq_false (by omega)
              have hn1 : ¬ gk < m1 := by omega
              have hn2 : ¬ m2 < gk := by omega
              clear hw1 hr1' ha1 ha2 ha3 hgk hm1 hm2 hm3 hfk
              go_wp2_with fail
              refine (CH.out _).mono ?_
              rintro e w5 ⟨rfl, b5⟩
              have hb6 : Below w3.heap.size w3 w5 := hbw.trans (b5.mono hzr)
              have cg5 : w5.cell? ⟨lb, k, none⟩ = some (.int .i64 gk) := (b5.cell (p := ⟨lb, k, none⟩) hzl').trans cg
              have hz5 : lb < w5.heap.size := Nat.lt_of_lt_of_le hzl' b5.size
              have hz6 : w3.heap.size ≤ w5.heap.size := hb6.size
              clear b5 hbw cg
              by_cases hm0 : m3 = 0
              · obtain rfl := g3 hm0
                subst hm0
                go_wp2_with fail
                go_big_region
                go_wp2
                obtain ⟨xb, hxb⟩ : ∃ xb, w5.heap.size = xb := ⟨_, rfl⟩
                obtain ⟨wX, hX⟩ : ∃ wX, (w5.alloc (.cells #[.int .i64 gk, .int .i64 m2, .int .i64 0] 28)).drew = wX := ⟨_, rfl⟩
                have hsX : wX.heap.size = xb + 1 := by rw [← hX, ← hxb]; simp
                have hbX : Below w5.heap.size w5 wX := by rw [← hX]; exact below_drewN ((Below.refl _ _).alloc (Nat.le_refl _) _) 1
                have x0 : wX.cell? ⟨xb, 0, none⟩ = some (.int .i64 gk) := by rw [← hX, ← hxb]; show (w5.alloc _).cell? _ = _; rw [World.cell?_alloc_at _ _ _ _ rfl]; rfl
                have x1 : wX.cell? ⟨xb, 1, none⟩ = some (.int .i64 m2) := by rw [← hX, ← hxb]; show (w5.alloc _).cell? _ = _; rw [World.cell?_alloc_at _ _ _ _ rfl]; rfl
                have x2 : wX.cell? ⟨xb, 2, none⟩ = some (.int .i64 0) := by rw [← hX, ← hxb]; show (w5.alloc _).cell? _ = _; rw [World.cell?_alloc_at _ _ _ _ rfl]; rfl
                have cgX : wX.cell? ⟨lb, k, none⟩ = some (.int .i64 gk) := (hbX.cell (p := ⟨lb, k, none⟩) hz5).trans cg5
                have HBX : Hid (Below w3.heap.size w3 wX) := hb6.trans (hbX.mono hz6)
                have hzlX : lb < wX.heap.size := Nat.lt_of_lt_of_le hz5 hbX.size
                rw [hX, hxb]
                clear hX hbX cg5 hb6 hxb
                go_loopw [12] (fun i wq => i = .int .i64 0 ∧ wq = wX) (fun _ _ => 0)
                case atStart => exact ⟨rfl, rfl⟩
                case round =>
                  obtain ⟨rfl, hwq⟩ := hrel
                  obtain rfl := hwq.symm
                  go_wp2_with fail
                  go_big_region
                  go_wp2
                  go_roundw
                  case rel => exact ⟨k + 1, by go_num, by omega, below_drewN HBX.out 1⟩
                  case measure => simp [intOf]; omega
              · have hm3p : 0 < m3 := by omega
                have e5 : (m3 == 0) = false := by simpa using hm0
                go_wp2_with fail
                go_big_region
                go_wp2
                obtain ⟨xb, hxb⟩ : ∃ xb, w5.heap.size = xb := ⟨_, rfl⟩
                obtain ⟨wX, hX⟩ : ∃ wX, (w5.alloc (.cells #[.int .i64 m1, .int .i64 m2, .int .i64 m3] 28)).drew = wX := ⟨_, rfl⟩
                have hsX : wX.heap.size = xb + 1 := by rw [← hX, ← hxb]; simp
                have hbX : Below w5.heap.size w5 wX := by rw [← hX]; exact below_drewN ((Below.refl _ _).alloc (Nat.le_refl _) _) 1
                have x0 : wX.cell? ⟨xb, 0, none⟩ = some (.int .i64 m1) := by rw [← hX, ← hxb]; show (w5.alloc _).cell? _ = _; rw [World.cell?_alloc_at _ _ _ _ rfl]; rfl
                have x1 : wX.cell? ⟨xb, 1, none⟩ = some (.int .i64 m2) := by rw [← hX, ← hxb]; show (w5.alloc _).cell? _ = _; rw [World.cell?_alloc_at _ _ _ _ rfl]; rfl
                have x2 : wX.cell? ⟨xb, 2, none⟩ = some (.int .i64 m3) := by rw [← hX, ← hxb]; show (w5.alloc _).cell? _ = _; rw [World.cell?_alloc_at _ _ _ _ rfl]; rfl
                have cgX : wX.cell? ⟨lb, k, none⟩ = some (.int .i64 gk) := (hbX.cell (p := ⟨lb, k, none⟩) hz5).trans cg5
                have HBX : Hid (Below w3.heap.size w3 wX) := hb6.trans (hbX.mono hz6)
                have hzlX : lb < wX.heap.size := Nat.lt_of_lt_of_le hz5 hbX.size
                rw [hX, hxb]
                clear hX hbX cg5 hb6 hxb
                by_cases hful : gk < m2
                · have HWX : Hid (WRow wX gg off n a b c) := HW3.out.below HBX.out
                  have HRX : Hid (FRow wX lb 0 n g) := HRow3.out.below HBX.out
                  go_loopw [12] (fun i wq => ∃ q : Nat, i = .int .i64 q ∧ q ≤ n ∧ Below wX.heap.size wX wq) (fun i _ => n - (intOf i).toNat)
                  case atStart => exact ⟨0, rfl, Nat.zero_le _, Below.refl _ _⟩
                  case round =>
                    obtain ⟨q, rfl, hq, hbq⟩ := hrel
                    have hzq := hbq.size
                    have x0' : wr.cell? ⟨xb, 0, none⟩ = some (.int .i64 m1) := (hbq.cell (p := ⟨xb, 0, none⟩) (by show xb < _; omega)).trans x0
                    have x1' : wr.cell? ⟨xb, 1, none⟩ = some (.int .i64 m2) := (hbq.cell (p := ⟨xb, 1, none⟩) (by show xb < _; omega)).trans x1
                    have x2' : wr.cell? ⟨xb, 2, none⟩ = some (.int .i64 m3) := (hbq.cell (p := ⟨xb, 2, none⟩) (by show xb < _; omega)).trans x2
                    have cg' : wr.cell? ⟨lb, k, none⟩ = some (.int .i64 gk) := (hbq.cell (p := ⟨lb, k, none⟩) hzlX).trans cgX
                    by_cases hlq : q < n
                    · have hlq' : (q : Int) < (n : Int) := by omega
                      have hwq := HWX.out.below hbq
                      have hrq := HRX.out.below hbq
                      obtain ⟨f0, f1, f2⟩ := hwq.2 q hlq
                      have hzw := hwq.1
                      have hzlr := hrq.1
                      have cq := (hrq.2 q hlq).1
                      rw [Nat.zero_add] at cq
                      have hgq := HF.out.1 q hlq
                      have hfq := HFK.out q hlq hm3p
                      have hbdq := held_bds a b c q
                      obtain ⟨b1, hb1⟩ : ∃ x, a q = x := ⟨_, rfl⟩
                      obtain ⟨b2, hb2⟩ : ∃ x, b q = x := ⟨_, rfl⟩
                      obtain ⟨b3, hb3⟩ : ∃ x, c q = x := ⟨_, rfl⟩
                      obtain ⟨gq, hgqe⟩ : ∃ x, g q = x := ⟨_, rfl⟩
                      obtain ⟨y1, hy1⟩ : ∃ x, cl b1 = x := ⟨_, rfl⟩
                      obtain ⟨y2, hy2⟩ : ∃ x, hMax b1 b2 = x := ⟨_, rfl⟩
                      obtain ⟨y3, hy3⟩ : ∃ x, cl b3 = x := ⟨_, rfl⟩
                      rw [hb1] at f0
                      rw [hb2] at f1
                      rw [hb3] at f2
                      rw [hgqe] at cq
                      rw [hgqe, hb1, hb2, hb3, hy1, hy2, hy3] at hgq
                      rw [hgqe, hb1, hb3, hy1, hy3] at hfq
                      rw [hb1, hb2, hb3, hy1, hy2, hy3] at hbdq
                      obtain ⟨p1, p2, p3, p4, p5⟩ := hbdq
                      obtain ⟨o1, o2, _⟩ := hgq
                      have CHq : Hid (∀ w, Calls Try.prog 7 #[.agg #[.int .i64 b1, .int .i64 b2, .int .i64 b3]] w fun e w' => e = .returned (.agg #[.int .i64 y1, .int .i64 y2, .int .i64 y3]) ∧ Below w.heap.size w w') := fun w => by have := C3.out b1 b2 b3 w; rw [hy1, hy2, hy3] at this; exact this
                      have el : decide ((q : Int) < (n : Int)) = true := decide_eq_true hlq'
                      have em : decide (0 < m3) = true := decide_eq_true hm3p
                      have eg : decide (gk < m2) = true := decide_eq_true hful
                      clear hwq hrq hb1 hb2 hb3 hgqe hy1 hy2 hy3
                      by_cases hy0 : 0 < y3
                      · have hpr := hfq hy0 hful
                        obtain ⟨t1, ht1⟩ : ∃ x, gq - y1 - 1 = x := ⟨_, rfl⟩
                        obtain ⟨t2, ht2⟩ : ∃ x, gk - m1 + 1 = x := ⟨_, rfl⟩
                        rw [ht1, ht2] at hpr
                        obtain ⟨u1, hu1⟩ : ∃ x, t1 * m3 = x := ⟨_, rfl⟩
                        obtain ⟨u2, hu2⟩ : ∃ x, t2 * y3 = x := ⟨_, rfl⟩
                        rw [hu1, hu2] at hpr
                        have ht1b : -1 ≤ t1 ∧ t1 ≤ 100000 := by omega
                        have ht2b : 1 ≤ t2 ∧ t2 ≤ 100001 := by omega
                        have hu1b : -100000 ≤ u1 ∧ u1 ≤ 10000000000 := by
                          rw [← hu1]
                          refine ⟨?_, ?_⟩
                          · have := Int.mul_le_mul_of_nonneg_right (show (-1 : Int) ≤ t1 by omega) (show 0 ≤ m3 by omega); omega
                          · have h1 := Int.mul_le_mul_of_nonneg_right (show t1 ≤ 100000 by omega) (show 0 ≤ m3 by omega)
                            omega
                        have hu2b : 0 ≤ u2 ∧ u2 ≤ 10000100000 := by
                          rw [← hu2]
                          refine ⟨Int.mul_nonneg (by omega) (by omega), ?_⟩
                          have h1 := Int.mul_le_mul_of_nonneg_right (show t2 ≤ 100001 by omega) (show 0 ≤ y3 by omega)
                          omega
                        have v1 : IntKind.i64.wrap u1 = u1 := IntWalk.i64_in _ ⟨by omega, by omega⟩
                        have v2 : IntKind.i64.wrap u2 = u2 := IntWalk.i64_in _ ⟨by omega, by omega⟩
                        have v3 : IntKind.i64.wrap t1 = t1 := IntWalk.i64_in _ ⟨by omega, by omega⟩
                        have v4 : IntKind.i64.wrap t2 = t2 := IntWalk.i64_in _ ⟨by omega, by omega⟩
                        have v5 : IntKind.i64.wrap (gk - m1) = gk - m1 := IntWalk.i64_in _ ⟨by omega, by omega⟩
                        have v6 : IntKind.i64.wrap (gq - y1) = gq - y1 := IntWalk.i64_in _ ⟨by omega, by omega⟩
                        have ey : decide (0 < y3) = true := decide_eq_true hy0
                        have eu : decide (u2 ≤ u1) = false := decide_eq_false (by omega)
                        have eu' : ¬ u2 ≤ u1 := by omega
                        clear hfq ht1b ht2b hu1b hu2b hpr
                        go_wp2_with fail
                        go_big_region
                        go_wp2_with fail
                        refine (CHq.out _).mono ?_
                        rintro e w6 ⟨rfl, b6⟩
                        have b7 : Below wr.heap.size wr w6 := (below_drewN (Below.refl _ wr) 1).trans b6
                        have x0'' : w6.cell? ⟨xb, 0, none⟩ = some (.int .i64 m1) := (b7.cell (p := ⟨xb, 0, none⟩) (by show xb < _; omega)).trans x0'
                        have x2'' : w6.cell? ⟨xb, 2, none⟩ = some (.int .i64 m3) := (b7.cell (p := ⟨xb, 2, none⟩) (by show xb < _; omega)).trans x2'
                        have cg'' : w6.cell? ⟨lb, k, none⟩ = some (.int .i64 gk) := (b7.cell (p := ⟨lb, k, none⟩) hzlr).trans cg'
                        have cq'' : w6.cell? ⟨lb, q, none⟩ = some (.int .i64 gq) := (b7.cell (p := ⟨lb, q, none⟩) hzlr).trans cq
                        have hs7 := b7.size
                        have hxb6 : xb < w6.heap.size := by omega
                        have hlb6 : lb < w6.heap.size := by omega
                        have HB7 : Hid (Below wX.heap.size wX w6) := hbq.trans (b7.mono hzq)
                        have hs8 := HB7.out.size
                        clear b6 b7 x0' x1' x2' cg' cq hbq
                        go_wp2_with fail
                        go_quiet (fail)
                        go_wp2
                        go_roundw
                        case rel => exact ⟨q + 1, by go_num, by omega, below_drewN (HB7.out.alloc (by omega) _) _⟩
                        case measure => simp [intOf]; omega
                      · have ey : decide (0 < y3) = false := decide_eq_false hy0
                        clear hfq
                        go_wp2_with fail
                        go_big_region
                        go_wp2_with fail
                        refine (CHq.out _).mono ?_
                        rintro e w6 ⟨rfl, b6⟩
                        have b7 : Below wr.heap.size wr w6 := (below_drewN (Below.refl _ wr) 1).trans b6
                        have x0'' : w6.cell? ⟨xb, 0, none⟩ = some (.int .i64 m1) := (b7.cell (p := ⟨xb, 0, none⟩) (by show xb < _; omega)).trans x0'
                        have x2'' : w6.cell? ⟨xb, 2, none⟩ = some (.int .i64 m3) := (b7.cell (p := ⟨xb, 2, none⟩) (by show xb < _; omega)).trans x2'
                        have cg'' : w6.cell? ⟨lb, k, none⟩ = some (.int .i64 gk) := (b7.cell (p := ⟨lb, k, none⟩) hzlr).trans cg'
                        have cq'' : w6.cell? ⟨lb, q, none⟩ = some (.int .i64 gq) := (b7.cell (p := ⟨lb, q, none⟩) hzlr).trans cq
                        have hs7 := b7.size
                        have hxb6 : xb < w6.heap.size := by omega
                        have hlb6 : lb < w6.heap.size := by omega
                        have HB7 : Hid (Below wX.heap.size wX w6) := hbq.trans (b7.mono hzq)
                        have hs8 := HB7.out.size
                        clear b6 b7 x0' x1' x2' cg' cq hbq
                        go_wp2_with fail
                        go_quiet (fail)
                        go_wp2
                        go_roundw
                        case rel => exact ⟨q + 1, by go_num, by omega, below_drewN (HB7.out.alloc (by omega) _) _⟩
                        case measure => simp [intOf]; omega
                    · have hlq' : ¬ (q : Int) < (n : Int) := by omega
                      have hlq2 : decide ((q : Int) < (n : Int)) = false := decide_eq_false hlq'
                      have HBq : Hid (Below w3.heap.size w3 wr) := HBX.out.trans (hbq.mono HBX.out.size)
                      clear x0' x1' x2' cg' hbq
                      go_wp2_with fail
                      go_big_region
                      go_wp2
                      go_roundw
                      case rel => exact ⟨k + 1, by go_num, by omega, below_drewN HBq.out 1⟩
                      case measure => simp [intOf]; omega
                · have e6 : decide (gk < m2) = false := decide_eq_false hful
                  go_loopw [12] (fun i wq => i = .int .i64 0 ∧ wq = wX) (fun _ _ => 0)
                  case atStart => exact ⟨rfl, rfl⟩
                  case round =>
                    obtain ⟨rfl, hwq⟩ := hrel
                    obtain rfl := hwq.symm
                    go_wp2_with fail
                    go_big_region
                    go_wp2
                    go_roundw
                    case rel => exact ⟨k + 1, by go_num, by omega, below_drewN HBX.out 1⟩
                    case measure => simp [intOf]; omega
            · have hge : ¬ (k : Int) < (n : Int) := by omega
              have HB4 : Hid (Below w.heap.size w wr) := HB3.out.trans (hbw.mono HB3.out.size)
              clear hbw
              go_wp2
              go_ret
              exact ⟨rfl, HB4.out⟩

end Go.Proofs.Ytmlicipdkbeihad
