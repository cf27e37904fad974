/-
  panelaw.same, panelaw.kept; paneref.Split of no wants and of too many; the walk of ShareSplits.
-/
import Derived.Test.YtmlicipdkbeihacSRSplit
namespace Go.Proofs.Ytmlicipdkbeihac
open Go.RowKit Go.Sort
set_option linter.unusedVariables false

set_option maxRecDepth 100000 in
set_option maxHeartbeats 1000000 in
theorem same_some (n : Nat) (g : Nat → Int) (b cap b2 cap2 : Nat) (w : World) (h1 : FRow w b 0 n g) (h2 : FRow w b2 0 n g) (hn : n ≤ 1073741824) :
    Calls Try.prog 9 #[.slice (some ⟨b, 0, none⟩) n cap, .slice (some ⟨b2, 0, none⟩) n cap2] w fun e w' => e = .returned (.bool true) ∧ Below w.heap.size w w' := by
  have H1 : Hid (FRow w b 0 n g) := h1
  have H2 : Hid (FRow w b2 0 n g) := h2
  clear h1 h2
  go_enter Try.func9, Try.ntmps9
  go_wp2
  go_loopw [5] (fun i wr => ∃ k : Nat, k ≤ n ∧ i = .int .i64 k ∧ Below w.heap.size w wr) (fun i _ => n - (intOf i).toNat)
  case atStart => exact ⟨0, Nat.zero_le _, rfl, Below.refl _ _⟩
  case round =>
    obtain ⟨k, hk, rfl, hnx⟩ := hrel
    by_cases hlt : k < n
    · have c1 := ((H1.out.below hnx).2 k hlt).1
      have c2 := ((H2.out.below hnx).2 k hlt).1
      rw [Nat.zero_add] at c1 c2
      obtain ⟨x, hx⟩ : ∃ x, g k = x := ⟨_, rfl⟩
      rw [hx] at c1 c2
      clear hx
      have hlt' : (k : Int) < (n : Int) := by omega
      go_wp2
      go_quiet (fail)
      go_wp2
      go_roundw
      case rel => exact ⟨k + 1, by omega, by go_num, below_drewN hnx _⟩
      case measure => simp [intOf]; omega
    · have hlt' : ¬ (k : Int) < (n : Int) := by omega
      go_wp2
      go_ret
      exact ⟨rfl, hnx⟩

set_option maxRecDepth 100000 in
set_option maxHeartbeats 1000000 in
theorem same_none (a a2 : Option Addr) (cap cap2 : Nat) (w : World) :
    Calls Try.prog 9 #[.slice a 0 cap, .slice a2 0 cap2] w fun e w' => e = .returned (.bool true) ∧ Below w.heap.size w w' := by
  go_enter Try.func9, Try.ntmps9
  go_wp2
  go_loop [5] (fun i => i = .int .i64 0) (fun _ => 0)
  case atStart => exact rfl
  case round =>
    obtain rfl := hrel
    go_wp2
    go_ret
    exact ⟨rfl, Below.refl _ _⟩

set_option maxRecDepth 100000 in
set_option maxHeartbeats 4000000 in
theorem kept_some (n b o cap b2 o2 cap2 : Nat) (f0 f1 f2 : Nat → Int) (w : World) (h1 : WRow w b o n f0 f1 f2) (h2 : WRow w b2 o2 n f0 f1 f2) (hn : n ≤ 5864062014805) :
    Calls Try.prog 8 #[.slice (some ⟨b, o, none⟩) n cap, .slice (some ⟨b2, o2, none⟩) n cap2] w fun e w' => e = .returned (.bool true) ∧ Below w.heap.size w w' := by
  have H1 : Hid (WRow w b o n f0 f1 f2) := h1
  have H2 : Hid (WRow w b2 o2 n f0 f1 f2) := h2
  clear h1 h2
  go_enter Try.func8, Try.ntmps8
  go_wp2
  go_loopw [5] (fun i wr => ∃ k : Nat, k ≤ n ∧ i = .int .i64 k ∧ Below w.heap.size w wr) (fun i _ => n - (intOf i).toNat)
  case atStart => exact ⟨0, Nat.zero_le _, rfl, Below.refl _ _⟩
  case round =>
    obtain ⟨k, hk, rfl, hnx⟩ := hrel
    by_cases hlt : k < n
    · obtain ⟨c1, c2, c3⟩ := (H1.out.below hnx).2 k hlt
      obtain ⟨e1, e2, e3⟩ := (H2.out.below hnx).2 k hlt
      obtain ⟨x, hx⟩ : ∃ x, f0 k = x := ⟨_, rfl⟩
      obtain ⟨y, hy⟩ : ∃ x, f1 k = x := ⟨_, rfl⟩
      obtain ⟨z, hz⟩ : ∃ x, f2 k = x := ⟨_, rfl⟩
      rw [hx] at c1 e1
      rw [hy] at c2 e2
      rw [hz] at c3 e3
      clear hx hy hz
      have hlt' : (k : Int) < (n : Int) := by omega
      have q1 : (x != x) = false := by simp
      have q2 : (y != y) = false := by simp
      have q3 : (z != z) = false := by simp
      go_wp2
      go_quiet (fail)
      go_wp2
      go_roundw
      case rel => exact ⟨k + 1, by omega, by go_num, below_drewN hnx _⟩
      case measure => simp [intOf]; omega
    · have hlt' : ¬ (k : Int) < (n : Int) := by omega
      go_wp2
      go_ret
      exact ⟨rfl, hnx⟩

set_option maxRecDepth 100000 in
set_option maxHeartbeats 1000000 in
theorem kept_none (a a2 : Option Addr) (cap cap2 : Nat) (w : World) :
    Calls Try.prog 8 #[.slice a 0 cap, .slice a2 0 cap2] w fun e w' => e = .returned (.bool true) ∧ Below w.heap.size w w' := by
  go_enter Try.func8, Try.ntmps8
  go_wp2
  go_loop [5] (fun i => i = .int .i64 0) (fun _ => 0)
  case atStart => exact rfl
  case round =>
    obtain rfl := hrel
    go_wp2
    go_ret
    exact ⟨rfl, Below.refl _ _⟩

theorem kept_any (n : Nat) (v v2 : Value) (f0 f1 f2 : Nat → Int) (w : World) (h1 : WIn w v n f0 f1 f2) (h2 : WIn w v2 n f0 f1 f2) (hn : n ≤ 5864062014805) :
    Calls Try.prog 8 #[v, v2] w fun e w' => e = .returned (.bool true) ∧ Below w.heap.size w w' := by
  obtain ⟨p, cap, rfl, h1⟩ := h1
  obtain ⟨p2, cap2, rfl, h2⟩ := h2
  by_cases h0 : n = 0
  · subst h0; exact kept_none p p2 cap cap2 w
  · obtain ⟨g, off, rfl, hr⟩ := h1.resolve_left h0
    obtain ⟨g2, off2, rfl, hr2⟩ := h2.resolve_left h0
    exact kept_some n g off cap g2 off2 cap2 f0 f1 f2 w hr hr2 hn

set_option maxRecDepth 100000 in
set_option maxHeartbeats 1000000 in
theorem rSplit_many (p : Option Addr) (n cap : Nat) (room gap : Int) (w : World) (hn : 200 < n) (hn2 : n ≤ 5864062014805) :
    Calls Try.prog 10 #[.int .i64 room, .int .i64 gap, .slice p n cap] w fun e w' => e = .returned (.slice none 0 0) ∧ w' = w := by
  have h1 : (200 : Int) < (n : Int) := by omega
  go_enter Try.func10, Try.ntmps10
  go_wp2
  go_ret
  exact ⟨rfl, rfl⟩

set_option maxRecDepth 100000 in
set_option maxHeartbeats 1000000 in
theorem rOpen_nil (p q : Int) (w : World) :
    Calls Try.prog 25 #[.slice none 0 0, .int .i64 p, .int .i64 q] w fun e w' => e = .returned (.tuple #[.int .i64 0, .int .i64 0]) ∧ w' = w := by
  go_enter Try.func25, Try.ntmps25
  go_wp2
  go_loop [8, 9, 10] (fun s t i => s = .int .i64 0 ∧ t = .int .i64 0 ∧ i = .int .i64 0) (fun _ _ _ => 0)
  case atStart => exact ⟨rfl, rfl, rfl⟩
  case round =>
    obtain ⟨rfl, rfl, rfl⟩ := hrel
    go_wp2
    go_ret2
    exact ⟨rfl, rfl⟩

set_option maxRecDepth 100000 in
set_option maxHeartbeats 1000000 in
theorem rPoured_nil (r : Int) (w : World) :
    Calls Try.prog 20 #[.slice none 0 0, .int .i64 r] w fun e w' => e = .returned (.tuple #[.int .i64 0, .int .i64 0]) ∧ w' = w := by
  have CO : Hid (∀ w, Calls Try.prog 25 #[.slice none 0 0, .int .i64 0, .int .i64 1] w fun e w' => e = .returned (.tuple #[.int .i64 0, .int .i64 0]) ∧ w' = w) := rOpen_nil 0 1
  go_enter Try.func20, Try.ntmps20
  go_wp2
  go_loop [6] (fun i => i = .int .i64 (-1) ∨ i = .int .i64 0) (fun i => (0 - intOf i).toNat)
  case atStart => exact .inl rfl
  case round =>
    rcases hrel with rfl | rfl
    · go_wp2_with (go_at_call 25; refine (CO.out _).mono ?_; rintro e w5 ⟨rfl, hw5⟩; obtain rfl := hw5.symm)
      go_round
      case rel => exact .inr rfl
      case measure => simp [intOf]
    · go_wp2
      go_ret2
      exact ⟨rfl, rfl⟩

set_option maxRecDepth 100000 in
set_option maxHeartbeats 2000000 in
theorem rSplit_zero (p : Option Addr) (cap : Nat) (room gap : Int) (w : World) :
    Calls Try.prog 10 #[.int .i64 room, .int .i64 gap, .slice p 0 cap] w fun e w' => ∃ q, e = .returned (.slice q 0 0) ∧ Below w.heap.size w w' := by
  have CR : Hid (∀ w, Calls Try.prog 13 #[.int .i64 room, .int .i64 gap, .int .i64 0] w fun e w' => e = .returned (.int .i64 (cl room)) ∧ w' = w) := fun w => rRoom_one room gap 0 (by omega) w
  obtain ⟨cr, hcr⟩ : ∃ x, cl room = x := ⟨_, rfl⟩
  have b := cl_bd room
  rw [hcr] at CR b
  have b1 := b.1
  have b2 : ¬ cr < 0 := by omega
  clear hcr b
  have CP : Hid (∀ w, Calls Try.prog 20 #[.slice none 0 0, .int .i64 cr] w fun e w' => e = .returned (.tuple #[.int .i64 0, .int .i64 0]) ∧ w' = w) := rPoured_nil cr
  have hmk : ∀ u : World, (Instr.makeSlice 25 (.int .i64 0) (.int .i64 0)).run Try.prog u = .ok (.slice (some ⟨u.heap.size, 0, none⟩) 0 0) (u.alloc (.cells (madeCells #[.int .i64 0] 0) 3)) := fun u => run_make_row' (P := Try.prog) 25 3 (.int .i64 0) 8 Try.underlying25 info3row rfl .i64 .i64 0 (by omega) (by omega) u
  go_enter Try.func10, Try.ntmps10
  go_wp2
  go_loop [7, 8, 9] (fun v s i => v = .slice none 0 0 ∧ s = .int .i64 0 ∧ i = .int .i64 0) (fun _ _ _ => 0)
  case atStart => exact ⟨rfl, rfl, rfl⟩
  case round =>
    obtain ⟨rfl, rfl, rfl⟩ := hrel
    go_wp2_with (first | (go_at_call 13; refine (CR.out _).mono ?_; rintro e w5 ⟨rfl, hw5⟩; obtain rfl := hw5.symm) | (go_at_call 20; refine (CP.out _).mono ?_; rintro e w5 ⟨rfl, hw5⟩; obtain rfl := hw5.symm))
    go_loop [15] (fun i => i = .int .i64 0) (fun _ => 0)
    case atStart => exact rfl
    case round =>
      obtain rfl := hrel
      go_wp2
      go_ret
      exact ⟨⟨_, rfl⟩, (Below.refl _ _).alloc (Nat.le_refl _) _⟩

/-- The two wants of the call between. -/
theorem split_two (w : World) : Calls Try.prog 7 #[.int .i64 7, .int .i64 1, .slice (some ⟨w.heap.size, 0, none⟩) 2 2] (w.alloc (.cells #[.int .i64 1, .int .i64 (-1), .int .i64 1, .int .i64 0, .int .i64 3, .int .i64 2] 28)) fun e w' => ∃ v, e = .returned v ∧ Below w.heap.size w w' := by
  have hb : Below w.heap.size w (w.alloc (.cells #[.int .i64 1, .int .i64 (-1), .int .i64 1, .int .i64 0, .int .i64 3, .int .i64 2] 28)) := (Below.refl _ _).alloc (Nat.le_refl _) _
  have hr : WRow (w.alloc (.cells #[.int .i64 1, .int .i64 (-1), .int .i64 1, .int .i64 0, .int .i64 3, .int .i64 2] 28)) w.heap.size 0 2 (fun j => if j = 0 then 1 else 0) (fun j => if j = 0 then -1 else 3) (fun j => if j = 0 then 1 else 2) := by
    refine ⟨by simp, fun j hj => ?_⟩
    rw [World.cell?_alloc_at _ _ _ _ rfl, World.cell?_alloc_at _ _ _ _ rfl, World.cell?_alloc_at _ _ _ _ rfl]
    match j, hj with
    | 0, _ => exact ⟨rfl, rfl, rfl⟩
    | 1, _ => exact ⟨rfl, rfl, rfl⟩
  exact (split_any 2 w.heap.size 0 2 _ _ _ 7 1 _ hr (by omega) (by omega)).mono fun e w' ⟨lb, he, hs⟩ => ⟨_, he, hb.trans (hs.2.2.mono hb.size)⟩

set_option maxRecDepth 100000 in
set_option maxHeartbeats 4000000 in
theorem splits_walk (v : Value) (n : Nat) (a b c : Nat → Int) (room gap : Int) (w : World) (h : WIn w v n a b c) (hn : n ≤ 5864062014805) :
    Calls Try.prog 3 #[.int .i64 room, .int .i64 gap, v] w fun e w' => e = .returned (.bool true) ∧ Below w.heap.size w w' := by
  have C1 : Hid (Calls Try.prog 6 #[v] w fun e w' => ∃ v, e = .returned v ∧ WVal w.heap.size w' v n a b c ∧ Below w.heap.size w w') := wants_any v n a b c w h hn
  have C2 : Hid (∀ v w, WIn w v n a b c → Calls Try.prog 7 #[.int .i64 room, .int .i64 gap, v] w fun e w' => ∃ v, e = .returned v ∧ SplitV w w' v n a b c room gap) := fun v w h => split_all v n a b c room gap w h hn
  have CK : Hid (∀ v v2 w, WIn w v n a b c → WIn w v2 n a b c → Calls Try.prog 8 #[v, v2] w fun e w' => e = .returned (.bool true) ∧ Below w.heap.size w w') := fun v v2 w h1 h2 => kept_any n v v2 a b c w h1 h2 hn
  have HI : Hid (WIn w v n a b c) := h
  clear h
  go_enter Try.func3, Try.ntmps3
  go_wp2_with fail
  refine C1.out.mono ?_
  rintro e w1 ⟨v1, rfl, hv1, hb1⟩
  have HI1 : Hid (WIn w1 v1 n a b c) := hv1.win
  have HB1 : Hid (Below w.heap.size w w1) := hb1
  clear hv1 hb1 C1
  go_wp2_with fail
  refine (C2.out v1 w1 HI1.out).mono ?_
  rintro e w2 ⟨v2, rfl, hs⟩
  have HS : Hid (SplitV w1 w2 v2 n a b c room gap) := hs
  have HB2 : Hid (Below w.heap.size w w2) := HB1.out.trans (hs.below.mono HB1.out.size)
  have HI2 : Hid (WIn w2 v1 n a b c) := HI1.out.below hs.below
  clear C2 hs HI1
  go_wp2_with fail
  refine (split_two w2).mono ?_
  rintro e w3 ⟨v3, rfl, b3⟩
  have HB3 : Hid (Below w.heap.size w w3) := HB2.out.trans (b3.mono HB2.out.size)
  have HI3 : Hid (WIn w3 v1 n a b c) := HI2.out.below b3
  have HV3 : Hid (WIn w3 v n a b c) := HI.out.below HB3.out
  have HB23 : Hid (Below w2.heap.size w2 w3) := b3
  clear b3 HI2
  go_wp2_with fail
  refine (CK.out v1 v w3 HI3.out HV3.out).mono ?_
  rintro e w4 ⟨rfl, b4⟩
  have HB4 : Hid (Below w.heap.size w w4) := HB3.out.trans (b4.mono HB3.out.size)
  have HV4 : Hid (WIn w4 v n a b c) := HI.out.below HB4.out
  have HB24 : Hid (Below w2.heap.size w2 w4) := HB23.out.trans (b4.mono HB23.out.size)
  clear b4 CK HI3 HV3
  have CB : Hid (Calls Try.prog 10 #[.int .i64 room, .int .i64 gap, v] w4 fun e w' => ∃ v5, e = .returned v5 ∧ (Calls Try.prog 9 #[v2, v5] w' fun e w'' => e = .returned (.bool true) ∧ Below w'.heap.size w' w'') ∧ Below w4.heap.size w4 w') := by
    have hin := HV4.out
    obtain ⟨p, cap, rfl, hp⟩ := hin
    rcases HS.out with ⟨h0, rfl, rfl⟩ | ⟨h1, h2, lb, rfl, hlb, ⟨g, hrow, hsp⟩, hbel⟩
    · rcases h0 with rfl | h0
      · exact (rSplit_zero p cap room gap w4).mono fun e w' ⟨q, he, hb⟩ => ⟨_, he, same_none _ _ _ _ _, hb⟩
      · exact (rSplit_many p n cap room gap w4 h0 hn).mono fun e w' ⟨he, hw⟩ => ⟨_, he, same_none _ _ _ _ _, by rw [hw]; exact Below.refl _ _⟩
    · obtain ⟨gg, off, rfl, hr⟩ := hp.resolve_left (by omega)
      exact (rSplit_some n gg off cap a b c room gap w4 hr h1 h2 g hsp).mono fun e w' ⟨ob, he, _, hrow2, hb⟩ => ⟨_, he, same_some n g lb n ob n w' ((hrow.below HB24.out).below hb) hrow2 (by omega), hb⟩
  clear HS HB24 HB23
  go_wp2_with fail
  refine CB.out.mono ?_
  rintro e w5 ⟨v5, rfl, hsame, b5⟩
  have HSame : Hid (Calls Try.prog 9 #[v2, v5] w5 fun e w'' => e = .returned (.bool true) ∧ Below w5.heap.size w5 w'') := hsame
  have HB5 : Hid (Below w.heap.size w w5) := HB4.out.trans (b5.mono HB4.out.size)
  clear hsame b5 CB
  go_wp2_with fail
  refine HSame.out.mono ?_
  rintro e w6 ⟨rfl, b6⟩
  have HB6 : Hid (Below w.heap.size w w6) := HB5.out.trans (b6.mono HB5.out.size)
  clear b6
  go_wp2
  go_ret
  exact ⟨rfl, HB6.out⟩

end Go.Proofs.Ytmlicipdkbeihac
