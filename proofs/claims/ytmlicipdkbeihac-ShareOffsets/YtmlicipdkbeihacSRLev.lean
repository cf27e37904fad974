/-
  paneref.level, total, open.
-/
import Derived.Test.YtmlicipdkbeihacSRMath
import Derived.Test.YtmlicipdkbeihacSArg
namespace Go.Proofs.Ytmlicipdkbeihac
open Go.RowKit Go.Sort
set_option linter.unusedVariables false

theorem prod_bd {x y B C : Int} (hx0 : 0 ≤ x) (hx : x ≤ B) (hy0 : 0 ≤ y) (hy : y ≤ C) (hB : 0 ≤ B) : 0 ≤ x * y ∧ x * y ≤ B * C :=
  ⟨Int.mul_nonneg hx0 hy0, Int.mul_le_mul hx hy hy0 hB⟩
theorem lev_bd {a b c p q : Int} (ha : 0 ≤ a) (hb : 0 ≤ b) (hb2 : b ≤ 100000) (hc : 0 ≤ c) (hp : 0 ≤ p) (hq0 : 0 ≤ q) (hq : q ≤ 20000000) : 0 ≤ levI a b c p q ∧ levI a b c p q ≤ 2000000000000 := by
  have h1 := prod_bd hb hb2 hq0 hq (by omega)
  have h2 : 0 ≤ a * q := Int.mul_nonneg ha hq0
  have h3 : 0 ≤ p * c := Int.mul_nonneg hp hc
  unfold levI; split <;> omega

set_option maxRecDepth 100000 in
set_option maxHeartbeats 1000000 in
theorem rLevel_any (a b c p q : Int) (w : World) (ha : 0 ≤ a ∧ a ≤ 100000) (hb : 0 ≤ b ∧ b ≤ 100000) (hc : 0 ≤ c ∧ c ≤ 100000) (hp : 0 ≤ p ∧ p ≤ 20000000) (hq : 0 ≤ q ∧ q ≤ 20000000) :
    Calls Try.prog 21 #[.agg #[.int .i64 a, .int .i64 b, .int .i64 c], .int .i64 p, .int .i64 q] w fun e w' => e = .returned (.int .i64 (levI a b c p q)) ∧ Below w.heap.size w w' := by
  have h1 := prod_bd ha.1 ha.2 hq.1 hq.2 (by omega)
  have h2 := prod_bd hb.1 hb.2 hq.1 hq.2 (by omega)
  have h3 := prod_bd hp.1 hp.2 hc.1 hc.2 (by omega)
  obtain ⟨z, hz⟩ : ∃ z, levI a b c p q = z := ⟨_, rfl⟩
  rw [hz]
  unfold levI at hz
  obtain ⟨aq, haq⟩ : ∃ x, a * q = x := ⟨_, rfl⟩
  obtain ⟨bq, hbq⟩ : ∃ x, b * q = x := ⟨_, rfl⟩
  obtain ⟨pc, hpc⟩ : ∃ x, p * c = x := ⟨_, rfl⟩
  rw [haq, hbq, hpc] at hz
  rw [haq] at h1
  rw [hbq] at h2
  rw [hpc] at h3
  have a1 := h1.1
  have a2 := h1.2
  have a3 := h2.1
  have a4 := h2.2
  have a5 := h3.1
  have a6 := h3.2
  clear h1 h2 h3 ha hb hc hp hq
  by_cases c1 : bq < aq + pc
  · rw [if_pos c1] at hz
    subst hz
    go_enter Try.func21, Try.ntmps21
    go_wp2
    go_ret
    exact ⟨rfl, (Below.refl _ _).alloc (Nat.le_refl _) _⟩
  · rw [if_neg c1] at hz
    subst hz
    go_enter Try.func21, Try.ntmps21
    go_wp2
    go_ret
    exact ⟨rfl, (Below.refl _ _).alloc (Nat.le_refl _) _⟩

/-- The bounds of wants that are held. -/
def Heldb (Mn Mx Wt : Nat → Int) : Prop := ∀ j, 0 ≤ Mn j ∧ Mn j ≤ Mx j ∧ Mx j ≤ 100000 ∧ 0 ≤ Wt j ∧ Wt j ≤ 100000

set_option maxRecDepth 100000 in
set_option maxHeartbeats 2000000 in
theorem rTotal_any (n blk off cap : Nat) (Mn Mx Wt : Nat → Int) (p q : Int) (w : World) (h : WRow w blk off n Mn Mx Wt) (hn : n ≤ 200) (hM : Heldb Mn Mx Wt) (hp : 0 ≤ p ∧ p ≤ 20000000) (hq : 0 ≤ q ∧ q ≤ 20000000) :
    Calls Try.prog 26 #[.slice (some ⟨blk, off, none⟩) n cap, .int .i64 p, .int .i64 q] w fun e w' => e = .returned (.int .i64 (totI n Mn Mx Wt p q)) ∧ Below w.heap.size w w' := by
  have HW : Hid (WRow w blk off n Mn Mx Wt) := h
  have HM : Hid (Heldb Mn Mx Wt) := hM
  have HPQ : Hid ((0 ≤ p ∧ p ≤ 20000000) ∧ (0 ≤ q ∧ q ≤ 20000000)) := ⟨hp, hq⟩
  have CL : Hid (∀ a b c w, 0 ≤ a ∧ a ≤ 100000 → 0 ≤ b ∧ b ≤ 100000 → 0 ≤ c ∧ c ≤ 100000 → Calls Try.prog 21 #[.agg #[.int .i64 a, .int .i64 b, .int .i64 c], .int .i64 p, .int .i64 q] w fun e w' => e = .returned (.int .i64 (levI a b c p q)) ∧ Below w.heap.size w w') := fun a b c w ha hb hc => rLevel_any a b c p q w ha hb hc hp hq
  clear h hM hp hq
  go_enter Try.func26, Try.ntmps26
  go_wp2
  go_loopw [7, 8] (fun s i wr => ∃ (k : Nat) (x : Int), s = .int .i64 x ∧ i = .int .i64 k ∧ k ≤ n ∧ 0 ≤ x ∧ x ≤ (k : Int) * 2000000000000 ∧ Hid (x = totI k Mn Mx Wt p q) ∧ Below w.heap.size w wr) (fun _ i _ => n - (intOf i).toNat)
  case atStart => exact ⟨0, 0, rfl, rfl, Nat.zero_le _, by omega, by omega, rfl, Below.refl _ _⟩
  case round =>
    obtain ⟨k, x, rfl, rfl, hk, x0, x1, HX, hbw⟩ := hrel
    by_cases hlt : k < n
    · have hlt' : (k : Int) < (n : Int) := by omega
      have hw1 := HW.out.below hbw
      obtain ⟨c0, c1, c2⟩ := hw1.2 k hlt
      have hz := hw1.1
      have hm := HM.out k
      obtain ⟨a1, ha1⟩ : ∃ x, Mn k = x := ⟨_, rfl⟩
      obtain ⟨a2, ha2⟩ : ∃ x, Mx k = x := ⟨_, rfl⟩
      obtain ⟨a3, ha3⟩ : ∃ x, Wt k = x := ⟨_, rfl⟩
      rw [ha1] at c0
      rw [ha2] at c1
      rw [ha3] at c2
      rw [ha1, ha2, ha3] at hm
      obtain ⟨d1, d2, d3, d4, d5⟩ := hm
      have C := CL.out a1 a2 a3 wr ⟨d1, by omega⟩ ⟨by omega, d3⟩ ⟨d4, d5⟩
      obtain ⟨lv, hlv⟩ : ∃ x, levI a1 a2 a3 p q = x := ⟨_, rfl⟩
      have hlb := lev_bd (a := a1) (b := a2) (c := a3) (p := p) (q := q) d1 (by omega) d3 d4 HPQ.out.1.1 HPQ.out.2.1 HPQ.out.2.2
      rw [hlv] at C hlb
      have HC : Hid _ := C
      have HX2 : Hid (x + lv = totI (k + 1) Mn Mx Wt p q) := by
        show _ = _
        unfold totI
        rw [List.range_succ, sumL_snoc, ha1, ha2, ha3, hlv]
        have := HX.out
        unfold totI at this
        omega
      have l1 := hlb.1
      have l2 := hlb.2
      have hk1 : ((k + 1 : Nat) : Int) * 2000000000000 = (k : Int) * 2000000000000 + 2000000000000 := by omega
      have hzr := hbw.size
      clear hw1 ha1 ha2 ha3 C hlv hlb HX
      go_wp2_with fail
      refine Calls.mono HC.out ?_
      rintro e w5 ⟨rfl, b5⟩
      have hb6 : Below w.heap.size w w5 := hbw.trans (b5.mono hzr)
      clear b5 hbw HC
      go_wp2
      go_roundw
      case rel => exact ⟨k + 1, x + lv, rfl, by go_num, by omega, by omega, by omega, HX2.out, hb6⟩
      case measure => simp [intOf]; omega
    · have hge : ¬ (k : Int) < (n : Int) := by omega
      obtain rfl : n = k := by omega
      have HE : Hid (Ending.returned (.int .i64 x) = .returned (.int .i64 (totI n Mn Mx Wt p q))) := by show _ = _; rw [HX.out]
      clear HX
      go_wp2
      go_ret
      exact ⟨HE.out, hbw⟩

set_option maxRecDepth 100000 in
set_option maxHeartbeats 4000000 in
theorem rOpen_any (n blk off cap : Nat) (Mn Mx Wt : Nat → Int) (p q : Int) (w : World) (h : WRow w blk off n Mn Mx Wt) (hn : n ≤ 200) (hM : Heldb Mn Mx Wt) (hp : 0 ≤ p ∧ p ≤ 100000) (hq : 0 ≤ q ∧ q ≤ 100000) :
    Calls Try.prog 25 #[.slice (some ⟨blk, off, none⟩) n cap, .int .i64 p, .int .i64 q] w fun e w' => e = .returned (.tuple #[.int .i64 (opW n Mn Mx Wt p q), .int .i64 (opB n Mn Mx Wt p q)]) ∧ Below w.heap.size w w' := by
  have HW : Hid (WRow w blk off n Mn Mx Wt) := h
  have HM : Hid (Heldb Mn Mx Wt) := hM
  have p0 := hp.1
  have p1 := hp.2
  have q0 := hq.1
  have q1 := hq.2
  clear h hM hp hq
  go_enter Try.func25, Try.ntmps25
  go_wp2
  go_loopw [8, 9, 10] (fun s t i wr => ∃ (k : Nat) (x y : Int), s = .int .i64 x ∧ t = .int .i64 y ∧ i = .int .i64 k ∧ k ≤ n ∧ 0 ≤ x ∧ x ≤ (k : Int) * 100000 ∧ 0 ≤ y ∧ y ≤ (k : Int) * 100000 ∧ Hid (x = opW k Mn Mx Wt p q) ∧ Hid (y = opB k Mn Mx Wt p q) ∧ Below w.heap.size w wr) (fun _ _ i _ => n - (intOf i).toNat)
  case atStart => exact ⟨0, 0, 0, rfl, rfl, rfl, Nat.zero_le _, by omega, by omega, by omega, by omega, rfl, rfl, Below.refl _ _⟩
  case round =>
    obtain ⟨k, x, y, rfl, rfl, rfl, hk, x0, x1, y0, y1, HX, HY, hbw⟩ := hrel
    by_cases hlt : k < n
    · have hlt' : (k : Int) < (n : Int) := by omega
      have hw1 := HW.out.below hbw
      obtain ⟨c0, c1, c2⟩ := hw1.2 k hlt
      have hz := hw1.1
      have hm := HM.out k
      obtain ⟨a1, ha1⟩ : ∃ x, Mn k = x := ⟨_, rfl⟩
      obtain ⟨a2, ha2⟩ : ∃ x, Mx k = x := ⟨_, rfl⟩
      obtain ⟨a3, ha3⟩ : ∃ x, Wt k = x := ⟨_, rfl⟩
      rw [ha1] at c0
      rw [ha2] at c1
      rw [ha3] at c2
      rw [ha1, ha2, ha3] at hm
      obtain ⟨d1, d2, d3, d4, d5⟩ := hm
      have hk1 : ((k + 1 : Nat) : Int) * 100000 = (k : Int) * 100000 + 100000 := by omega
      have hzr := hbw.size
      have hSX : opW (k + 1) Mn Mx Wt p q = x + (if risB a1 a2 a3 p q then a3 else 0) := by
        unfold opW; rw [List.range_succ, sumL_snoc, ha1, ha2, ha3]; have := HX.out; unfold opW at this; omega
      have hSY : opB (k + 1) Mn Mx Wt p q = y + (if risB a1 a2 a3 p q then a1 else if 0 < a3 then a2 else a1) := by
        unfold opB; rw [List.range_succ, sumL_snoc, ha1, ha2, ha3]; have := HY.out; unfold opB at this; omega
      have h1 := prod_bd d1 (show a1 ≤ 100000 by omega) q0 q1 (by omega)
      have h2 := prod_bd (show 0 ≤ a2 by omega) d3 q0 q1 (by omega)
      have h3 := prod_bd p0 p1 d4 d5 (by omega)
      obtain ⟨aq, haq⟩ : ∃ x, a1 * q = x := ⟨_, rfl⟩
      obtain ⟨bq, hbq⟩ : ∃ x, a2 * q = x := ⟨_, rfl⟩
      obtain ⟨pc, hpc⟩ : ∃ x, p * a3 = x := ⟨_, rfl⟩
      have hrb : risB a1 a2 a3 p q = decide (0 < a3 ∧ aq + pc < bq) := by unfold risB; rw [haq, hbq, hpc]
      rw [haq] at h1
      rw [hbq] at h2
      rw [hpc] at h3
      obtain ⟨r1, r2⟩ := h1
      obtain ⟨r3, r4⟩ := h2
      obtain ⟨r5, r6⟩ := h3
      rw [hrb] at hSX hSY
      clear hrb hw1 ha1 ha2 ha3 HX HY
      by_cases k1 : 0 < a3
      · by_cases k2 : aq + pc < bq
        · have HX2 : Hid (x + a3 = opW (k + 1) Mn Mx Wt p q) := by show _ = _; rw [hSX]; simp [k1, k2]
          have HY2 : Hid (y + a1 = opB (k + 1) Mn Mx Wt p q) := by show _ = _; rw [hSY]; simp [k1, k2]
          clear hSX hSY
          go_wp2
          go_roundw
          case rel => exact ⟨k + 1, x + a3, y + a1, rfl, rfl, by go_num, by omega, by omega, by omega, by omega, by omega, HX2.out, HY2.out, hbw.alloc hzr _⟩
          case measure => simp [intOf]; omega
        · have HX2 : Hid (x = opW (k + 1) Mn Mx Wt p q) := by show _ = _; rw [hSX]; simp [k2]
          have HY2 : Hid (y + a2 = opB (k + 1) Mn Mx Wt p q) := by show _ = _; rw [hSY]; simp [k1, k2]
          clear hSX hSY
          go_wp2
          go_roundw
          case rel => exact ⟨k + 1, x, y + a2, rfl, rfl, by go_num, by omega, by omega, by omega, by omega, by omega, HX2.out, HY2.out, hbw.alloc hzr _⟩
          case measure => simp [intOf]; omega
      · have HX2 : Hid (x = opW (k + 1) Mn Mx Wt p q) := by show _ = _; rw [hSX]; simp [k1]
        have HY2 : Hid (y + a1 = opB (k + 1) Mn Mx Wt p q) := by show _ = _; rw [hSY]; simp [k1]
        clear hSX hSY
        go_wp2
        go_roundw
        case rel => exact ⟨k + 1, x, y + a1, rfl, rfl, by go_num, by omega, by omega, by omega, by omega, by omega, HX2.out, HY2.out, hbw.alloc hzr _⟩
        case measure => simp [intOf]; omega
    · have hge : ¬ (k : Int) < (n : Int) := by omega
      obtain rfl : n = k := by omega
      have HE : Hid (Ending.returned (.tuple #[.int .i64 x, .int .i64 y]) = .returned (.tuple #[.int .i64 (opW n Mn Mx Wt p q), .int .i64 (opB n Mn Mx Wt p q)])) := by show _ = _; rw [HX.out, HY.out]
      clear HX HY
      go_wp2
      go_ret2
      exact ⟨HE.out, hbw⟩

end Go.Proofs.Ytmlicipdkbeihac
