/-
  The walk of ShareTiles.
-/
import Derived.Test.YtmlicipdkbeihacSArg
namespace Go.Proofs.Ytmlicipdkbeihac
open Go.RowKit Go.Sort
set_option linter.unusedVariables false

theorem SplitIs.tiles {n : Nat} {mn mx wt g : Nat → Int} {r : Int} (h : SplitIs n mn mx wt r g) (hm : ∀ j, 0 ≤ mn j ∧ mn j ≤ mx j ∧ mx j ≤ 100000 ∧ 0 ≤ wt j ∧ wt j ≤ 100000) :
    (∀ j, j < n → 0 ≤ g j ∧ g j ≤ mx j) ∧ (r ≤ sumL mn (List.range n) ∨ r ≤ sumL (fun j => if 0 < wt j then mx j else mn j) (List.range n) → sumL g (List.range n) = r) ∧
      (sumL mn (List.range n) < r → sumL (fun j => if 0 < wt j then mx j else mn j) (List.range n) < r → sumL g (List.range n) = sumL (fun j => if 0 < wt j then mx j else mn j) (List.range n)) := by
  have hle : sumL mn (List.range n) ≤ sumL (fun j => if 0 < wt j then mx j else mn j) (List.range n) := sumL_le fun j _ => by have := hm j; split <;> omega
  rcases h with ⟨h1, hb⟩ | ⟨h1, A, S, L, V, m, hp⟩
  · refine ⟨fun j hj => ?_, fun _ => hb.sum, fun h => by omega⟩
    have := hb.bd j hj
    have := hm j
    omega
  · have ht := hp.tiles (fun j => (hm j).2.1) (fun j => (hm j).2.2.2.1)
    refine ⟨fun j hj => ?_, fun h => by omega, fun _ h => by omega⟩
    have := hp.bds (fun j => (hm j).2.1) (fun j => (hm j).2.2.2.1) j hj
    have := hm j
    omega

theorem held_bds (a b c : Nat → Int) (j : Nat) : 0 ≤ cl (a j) ∧ cl (a j) ≤ hMax (a j) (b j) ∧ hMax (a j) (b j) ≤ 100000 ∧ 0 ≤ cl (c j) ∧ cl (c j) ≤ 100000 :=
  ⟨(cl_bd _).1, (hMax_bd _ _).1, (hMax_bd _ _).2, (cl_bd _).1, (cl_bd _).2⟩

set_option maxRecDepth 100000 in
set_option maxHeartbeats 4000000 in
theorem tiles_walk (v : Value) (n : Nat) (a b c : Nat → Int) (room gap : Int) (w : World) (h : WIn w v n a b c) (hn : n ≤ 5864062014805) :
    Calls Try.prog 5 #[.int .i64 room, .int .i64 gap, v] w fun e w' => e = .returned (.bool true) ∧ Below w.heap.size w w' := by
  have C1 : Hid (Calls Try.prog 6 #[v] w fun e w' => ∃ v, e = .returned v ∧ WVal w.heap.size w' v n a b c ∧ Below w.heap.size w w') := wants_any v n a b c w h hn
  have C2 : Hid (∀ v w, WIn w v n a b c → Calls Try.prog 7 #[.int .i64 room, .int .i64 gap, v] w fun e w' => ∃ v, e = .returned v ∧ SplitV w w' v n a b c room gap) := fun v w h => split_all v n a b c room gap w h hn
  have C3 : Hid (∀ x y z w, Calls Try.prog 14 #[.agg #[.int .i64 x, .int .i64 y, .int .i64 z]] w fun e w' => e = .returned (.agg #[.int .i64 (cl x), .int .i64 (hMax x y), .int .i64 (cl z)]) ∧ Below w.heap.size w w') := rHeld_any
  have HI : Hid (WIn w v n a b c) := h
  obtain ⟨p, cap, rfl, h'⟩ := h
  clear h'
  go_enter Try.func5, Try.ntmps5
  go_wp2_with fail
  refine C1.out.mono ?_
  rintro e w1 ⟨v1, rfl, hv1, hb1⟩
  have HI1 : Hid (WIn w1 v1 n a b c) := hv1.win
  have HB1 : Hid (Below w.heap.size w w1) := hb1
  clear hv1 hb1 C1
  go_wp2_with fail
  refine (C2.out v1 w1 HI1.out).mono ?_
  rintro e w2 ⟨v2, rfl, hs⟩
  have HB2 : Hid (Below w.heap.size w w2) := HB1.out.trans (hs.below.mono HB1.out.size)
  clear C2
  rcases hs with ⟨h0, rfl, rfl⟩ | ⟨h1, h2, lb, rfl, hs⟩
  · rcases h0 with rfl | h0
    · have CR : Hid (∀ w, Calls Try.prog 13 #[.int .i64 room, .int .i64 gap, .int .i64 0] w fun e w' => e = .returned (.int .i64 (cl room)) ∧ w' = w) := fun w => rRoom_one room gap 0 (by omega) w
      obtain ⟨cr, hcr⟩ : ∃ x, cl room = x := ⟨_, rfl⟩
      have b := cl_bd room
      rw [hcr] at CR b
      have b1 := b.1
      clear hcr b
      go_wp2_with (go_at_call 13; refine (CR.out _).mono ?_; rintro e w5 ⟨rfl, rfl⟩)
      go_loop [9, 10, 11, 12] (fun s m t i => s = .int .i64 0 ∧ m = .int .i64 0 ∧ t = .int .i64 0 ∧ i = .int .i64 0) (fun _ _ _ _ => 0)
      case atStart => exact ⟨rfl, rfl, rfl, rfl⟩
      case round =>
        obtain ⟨rfl, rfl, rfl, rfl⟩ := hrel
        by_cases hz : cr = 0
        · subst hz
          go_wp2
          go_ret
          exact ⟨rfl, HB2.out⟩
        · have hz2 : ¬ cr ≤ 0 := by omega
          go_wp2
          go_ret
          exact ⟨rfl, HB2.out⟩
    · have h0' : (200 : Int) < (n : Int) := by omega
      go_wp2
      go_ret
      exact ⟨rfl, HB2.out⟩
  · have CR : Hid (∀ w, Calls Try.prog 13 #[.int .i64 room, .int .i64 gap, .int .i64 n] w fun e w' => e = .returned (.int .i64 (rm room gap n)) ∧ w' = w) := fun w => rRoom_any room gap n h1 h2 w
    obtain ⟨r, hr⟩ : ∃ x, rm room gap n = x := ⟨_, rfl⟩
    have hr0 := rm_nonneg room gap n
    have hr1 := rm_le room gap n h1
    rw [hr] at CR hr0 hr1 hs
    clear hr
    obtain ⟨hlb, ⟨g, hrow, hsp⟩, hbel⟩ := hs
    have HT : Hid _ := hsp.tiles (held_bds a b c)
    have HRow : Hid (FRow w2 lb 0 n g) := hrow
    have hzl := hrow.1
    have HI2 : Hid (WIn w2 (.slice p n cap) n a b c) := HI.out.below HB2.out
    have h2' : ¬ (200 : Int) < (n : Int) := by omega
    have h3 : (n : Int) ≤ 200 := by omega
    clear hrow hsp hbel HI HI1 HB1 hlb
    obtain ⟨gg, off, rfl, hw0⟩ : ∃ gg off, p = some ⟨gg, off, none⟩ ∧ WRow w2 gg off n a b c := by
      obtain ⟨p', cap', hv, hx⟩ := HI2.out
      injection hv with hv1 hv2 hv3
      subst hv1
      exact hx.resolve_left (by omega)
    have HW : Hid (WRow w2 gg off n a b c) := hw0
    have hzg := hw0.1
    clear hw0 HI2
    go_wp2_with (go_at_call 13; refine (CR.out _).mono ?_; rintro e w5 ⟨rfl, hw5⟩; obtain rfl := hw5.symm)
    go_loopw [9, 10, 11, 12] (fun s m t i wr => ∃ (k : Nat) (x y z : Int), s = .int .i64 x ∧ m = .int .i64 y ∧ t = .int .i64 z ∧ i = .int .i64 k ∧ k ≤ n ∧ 0 ≤ x ∧ x ≤ (k : Int) * 100000 ∧ 0 ≤ y ∧ y ≤ (k : Int) * 100000 ∧ 0 ≤ z ∧ z ≤ (k : Int) * 100000 ∧
      Hid (x = sumL g (List.range k)) ∧ Hid (y = sumL (fun j => cl (a j)) (List.range k)) ∧ Hid (z = sumL (fun j => if 0 < cl (c j) then hMax (a j) (b j) else cl (a j)) (List.range k)) ∧ Below w2.heap.size w2 wr) (fun _ _ _ i _ => n - (intOf i).toNat)
    case atStart => exact ⟨0, 0, 0, 0, rfl, rfl, rfl, rfl, Nat.zero_le _, by omega, by omega, by omega, by omega, by omega, by omega, rfl, rfl, rfl, Below.refl _ _⟩
    case round =>
      obtain ⟨k, x, y, z, rfl, rfl, rfl, rfl, hk, x0, x1, y0, y1, z0, z1, HX, HY, HZ, hbw⟩ := hrel
      by_cases hlt : k < n
      · have hlt' : (k : Int) < (n : Int) := by omega
        have hw1 := HW.out.below hbw
        have hr1' := HRow.out.below hbw
        obtain ⟨c0, c1, c2⟩ := hw1.2 k hlt
        have hz := hw1.1
        have hzl' := hr1'.1
        have cg := (hr1'.2 k hlt).1
        rw [Nat.zero_add] at cg
        have hgb := HT.out.1 k hlt
        have hbd := held_bds a b c k
        obtain ⟨a1, ha1⟩ : ∃ x, a k = x := ⟨_, rfl⟩
        obtain ⟨a2, ha2⟩ : ∃ x, b k = x := ⟨_, rfl⟩
        obtain ⟨a3, ha3⟩ : ∃ x, c k = x := ⟨_, rfl⟩
        obtain ⟨gk, hgk⟩ : ∃ x, g k = x := ⟨_, rfl⟩
        obtain ⟨m1, hm1⟩ : ∃ x, cl a1 = x := ⟨_, rfl⟩
        obtain ⟨m2, hm2⟩ : ∃ x, hMax a1 a2 = x := ⟨_, rfl⟩
        obtain ⟨m3, hm3⟩ : ∃ x, cl a3 = x := ⟨_, rfl⟩
        rw [ha1] at c0
        rw [ha2] at c1
        rw [ha3] at c2
        rw [hgk] at cg
        rw [hgk, ha1, ha2, hm2] at hgb
        rw [ha1, ha2, ha3, hm1, hm2, hm3] at hbd
        obtain ⟨d1, d2, d3, d4, d5⟩ := hbd
        obtain ⟨g1, g2⟩ := hgb
        have CH : Hid (∀ w, Calls Try.prog 14 #[.agg #[.int .i64 a1, .int .i64 a2, .int .i64 a3]] w fun e w' => e = .returned (.agg #[.int .i64 m1, .int .i64 m2, .int .i64 m3]) ∧ Below w.heap.size w w') := fun w => by have := C3.out a1 a2 a3 w; rw [hm1, hm2, hm3] at this; exact this
        have HX2 : Hid (x + gk = sumL g (List.range (k + 1))) := by show _ = _; rw [List.range_succ, sumL_snoc, ← HX.out, hgk]
        have HY2 : Hid (y + m1 = sumL (fun j => cl (a j)) (List.range (k + 1))) := by show _ = _; rw [List.range_succ, sumL_snoc, ← HY.out, ha1, hm1]
        have hk1 : ((k + 1 : Nat) : Int) * 100000 = (k : Int) * 100000 + 100000 := by omega
        have e1 : (gk < 0) = False := eq_false (by omega)
        have e2 : (m2 < gk) = False := eq_false (by omega)
        have e3 : decide (gk < 0) = false := by simpa using g1
        have e4 : decide (m2 < gk) = false := by simpa using g2
        have hzr := hbw.size
        by_cases hpos : 0 < m3
        · have HZ2 : Hid (z + m2 = sumL (fun j => if 0 < cl (c j) then hMax (a j) (b j) else cl (a j)) (List.range (k + 1))) := by
            show _ = _
            rw [List.range_succ, sumL_snoc, ← HZ.out, ha3, hm3, if_pos hpos, ha1, ha2, hm2]
          clear hw1 hr1' ha1 ha2 ha3 hgk hm1 hm2 hm3 HX HY HZ C3
          go_wp2_with fail
          refine (CH.out _).mono ?_
          rintro e w5 ⟨rfl, b5⟩
          have hb6 : Below w2.heap.size w2 w5 := hbw.trans (b5.mono hzr)
          have cg5 : w5.cell? ⟨lb, k, none⟩ = some (.int .i64 gk) := (b5.cell (p := ⟨lb, k, none⟩) hzl').trans cg
          have hz5 : lb < w5.heap.size := Nat.lt_of_lt_of_le hzl' b5.size
          have hz6 : w2.heap.size ≤ w5.heap.size := hb6.size
          clear b5 hbw cg
          go_wp2_with fail
          go_big_region
          go_wp2
          go_roundw
          case rel => exact ⟨k + 1, x + gk, y + m1, z + m2, rfl, rfl, rfl, by go_num, by omega, by omega, by omega, by omega, by omega, by omega, by omega, HX2.out, HY2.out, HZ2.out, below_drewN (hb6.alloc (by omega) _) 1⟩
          case measure => simp [intOf]; omega
        · have HZ2 : Hid (z + m1 = sumL (fun j => if 0 < cl (c j) then hMax (a j) (b j) else cl (a j)) (List.range (k + 1))) := by
            show _ = _
            rw [List.range_succ, sumL_snoc, ← HZ.out, ha3, hm3, if_neg hpos, ha1, hm1]
          clear hw1 hr1' ha1 ha2 ha3 hgk hm1 hm2 hm3 HX HY HZ C3
          go_wp2_with fail
          refine (CH.out _).mono ?_
          rintro e w5 ⟨rfl, b5⟩
          have hb6 : Below w2.heap.size w2 w5 := hbw.trans (b5.mono hzr)
          have cg5 : w5.cell? ⟨lb, k, none⟩ = some (.int .i64 gk) := (b5.cell (p := ⟨lb, k, none⟩) hzl').trans cg
          have hz5 : lb < w5.heap.size := Nat.lt_of_lt_of_le hzl' b5.size
          have hz6 : w2.heap.size ≤ w5.heap.size := hb6.size
          clear b5 hbw cg
          go_wp2_with fail
          go_big_region
          go_wp2
          go_roundw
          case rel => exact ⟨k + 1, x + gk, y + m1, z + m1, rfl, rfl, rfl, by go_num, by omega, by omega, by omega, by omega, by omega, by omega, by omega, HX2.out, HY2.out, HZ2.out, below_drewN (hb6.alloc (by omega) _) 1⟩
          case measure => simp [intOf]; omega
      · have hge : ¬ (k : Int) < (n : Int) := by omega
        obtain rfl : n = k := by omega
        have ht := HT.out
        have HB3 : Hid (Below w.heap.size w wr) := HB2.out.trans (hbw.mono HB2.out.size)
        rw [← HX.out, ← HY.out, ← HZ.out] at ht
        obtain ⟨_, t1, t2⟩ := ht
        by_cases q1 : r ≤ y
        · obtain rfl := t1 (.inl q1)
          clear t1 t2 HX HY HZ hbw
          go_wp2
          go_ret
          exact ⟨rfl, HB3.out⟩
        · by_cases q2 : r ≤ z
          · obtain rfl := t1 (.inr q2)
            clear t1 t2 HX HY HZ hbw
            go_wp2
            go_ret
            exact ⟨rfl, HB3.out⟩
          · obtain rfl := t2 (by omega) (by omega)
            clear t1 t2 HX HY HZ hbw
            go_wp2
            go_ret
            exact ⟨rfl, HB3.out⟩

end Go.Proofs.Ytmlicipdkbeihac
