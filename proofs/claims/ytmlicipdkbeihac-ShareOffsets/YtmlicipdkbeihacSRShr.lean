/-
  paneref.shrunk.
-/
import Derived.Test.YtmlicipdkbeihacSRLev
namespace Go.Proofs.Ytmlicipdkbeihac
open Go.RowKit Go.Sort
set_option linter.unusedVariables false

theorem SSt.set {w wr : World} {cw lb n k : Nat} {mn mx wt : Nat → Int} (h : SSt w wr cw lb n k mn mx wt) (hk : k < n) (hne : lb ≠ cw) (hB : w.heap.size ≤ lb) : SSt w (wr.setCell ⟨lb, 0 + k, none⟩ (.int .i64 (mn k))) cw lb n (k + 1) mn mx wt := by
  refine ⟨(h.len.set k (mn k) hk).congr fun j hj => ?_, h.want.other _ _ _ hne, h.bel.setCell hB _⟩
  unfold upd
  by_cases e : j = k
  · subst e; rw [if_pos rfl, if_pos (by omega)]
  · rw [if_neg e]; dsimp only
    by_cases e2 : j < k
    · rw [if_pos e2, if_pos (by omega)]
    · rw [if_neg e2, if_neg (by omega)]

theorem sumL_upd (g : Nat → Int) (n c : Nat) (hc : c < n) (v : Int) : sumL (upd g c v) (List.range n) = sumL g (List.range n) - g c + v := by
  have e : sumL (upd g c v) (List.range n) = sumL g (List.range n) + sumL (fun j => if j ∈ [c] then v - g j else 0) (List.range n) := by
    rw [← sumL_add]
    refine sumL_congr fun j _ => ?_
    unfold upd
    by_cases e : j = c
    · subst e; simp; omega
    · simp [e]
  rw [e, sumL_if (by simp) (fun j hj => by simp at hj; omega)]
  rw [sumL_cons, sumL_nil]; omega

structure ShrI (n : Nat) (mn : Nat → Int) (r : Int) (c : Nat) (s : Int) (g : Nat → Int) : Prop where
  ahead : ∀ j, j < c → g j = mn j
  bd : ∀ j, j < n → 0 ≤ g j ∧ g j ≤ mn j
  sum : s = sumL g (List.range n)
  ge : r ≤ s
  zero : r < s → ∀ j, c ≤ j → j < n → g j = 0
  behind : ∀ i k, i < k → k < n → g i < mn i → g k = 0

theorem ShrI.next {n : Nat} {mn : Nat → Int} {r : Int} {c : Nat} {s : Int} {g : Nat → Int} (h : ShrI n mn r (c + 1) s g) (hc : c < n) (hrs : r < s) (y : Int) (hy : y = min (s - r) (g c)) : ShrI n mn r c (s - y) (upd g c (g c - y)) := by
  have hb := h.bd c hc
  have hne : ∀ j, j ≠ c → upd g c (g c - y) j = g j := fun j e => by unfold upd; rw [if_neg e]
  have heq : upd g c (g c - y) c = g c - y := by unfold upd; rw [if_pos rfl]
  refine ⟨fun j hj => ?_, fun j hj => ?_, ?_, by have := h.ge; omega, fun hlt j h1 h2 => ?_, fun i k hik hk hlt => ?_⟩
  · rw [hne j (by omega)]; exact h.ahead j (by omega)
  · by_cases e : j = c
    · subst e; rw [heq]; omega
    · rw [hne j e]; exact h.bd j hj
  · rw [sumL_upd g n c hc, ← h.sum]; omega
  · by_cases e : j = c
    · subst e; rw [heq]; omega
    · rw [hne j e]; exact h.zero hrs j (by omega) h2
  · by_cases e : k = c
    · subst e
      rw [hne i (by omega), h.ahead i (by omega)] at hlt; omega
    · rw [hne k e]
      by_cases e2 : k < c
      · rw [hne i (by omega), h.ahead i (by omega)] at hlt; omega
      · exact h.zero hrs k (by omega) hk

theorem ShrI.back {n : Nat} {mn : Nat → Int} {r : Int} {c : Nat} {s : Int} {g : Nat → Int} (h : ShrI n mn r c s g) (hr : 0 ≤ r) (he : c = 0 ∨ s ≤ r) : Back n mn r g := by
  refine ⟨h.bd, ?_, h.behind⟩
  by_cases e : r < s
  · rcases he with e2 | e2
    · subst e2
      have hz : sumL g (List.range n) ≤ 0 := by
        have : sumL g (List.range n) ≤ ((List.range n).length : Int) * 0 := sumL_bound fun j hj => by rw [h.zero e j (by omega) (by simpa using hj)]; exact Int.le_refl _
        omega
      have := h.sum
      omega
    · omega
  · have := h.sum
    have := h.ge
    omega

set_option maxRecDepth 100000 in
set_option maxHeartbeats 4000000 in
theorem rShrunk_any (n blk cap : Nat) (Mn Mx Wt : Nat → Int) (r : Int) (w : World) (h : WRow w blk 0 n Mn Mx Wt) (hn : n ≤ 200) (hM : Heldb Mn Mx Wt) (hr : 0 ≤ r ∧ r ≤ 100000) (hlt : r < sumL Mn (List.range n)) :
    Calls Try.prog 19 #[.slice (some ⟨blk, 0, none⟩) n cap, .int .i64 r] w fun e w' => e = .returned (.slice (some ⟨w.heap.size, 0, none⟩) n n) ∧ (∃ g, FRow w' w.heap.size 0 n g ∧ Back n Mn r g) ∧ Below w.heap.size w w' := by
  have HW : Hid (WRow w blk 0 n Mn Mx Wt) := h
  have HM : Hid (Heldb Mn Mx Wt) := hM
  have HLT : Hid (r < sumL Mn (List.range n)) := hlt
  have r0 := hr.1
  have r1 := hr.2
  have hzb := h.1
  have hmk := run_make_row' (P := Try.prog) 25 3 (.int .i64 0) 8 Try.underlying25 info3row rfl .i64 .i64 n (by omega) (by omega)
  clear h hM hr hlt
  go_enter Try.func19, Try.ntmps19
  go_wp2
  have S0 : Hid (SSt w (w.alloc (.cells (madeCells #[.int .i64 0] n) 3)) blk w.heap.size n 0 Mn Mx Wt) := by
    have b1 : Below w.heap.size w (w.alloc (.cells (madeCells #[.int .i64 0] n) 3)) := (Below.refl _ w).alloc (Nat.le_refl _) _
    refine ⟨⟨by simp, fun j hj => ⟨?_, ?_⟩⟩, HW.out.below b1, b1⟩
    · rw [World.cell?_alloc_at _ _ _ _ rfl]; simp [madeCells, hj, Nat.mod_one]
    · rw [World.frozen?_alloc_at _ _ _ _ rfl]
  obtain ⟨lb, hlb⟩ : ∃ lb, w.heap.size = lb := ⟨_, rfl⟩
  have HSm : Hid (∀ k, sumL Mn (List.range (k + 1)) = sumL Mn (List.range k) + Mn k) := fun k => by rw [List.range_succ, sumL_snoc]
  have HSb : Hid (∀ k, 0 ≤ sumL Mn (List.range k) ∧ sumL Mn (List.range k) ≤ (k : Int) * 100000) := fun k => by
    refine ⟨sumL_nonneg fun j _ => (HM.out j).1, ?_⟩
    have := sumL_bound (f := Mn) (l := List.range k) (b := 100000) fun j _ => by have := HM.out j; omega
    rw [List.length_range] at this; exact this
  have hBl : w.heap.size ≤ lb := by omega
  have hbl : blk < lb := by omega
  have HLB : Hid (w.heap.size = lb) := hlb
  rw [hlb] at S0 ⊢
  clear hmk HW
  go_loopw [6, 7] (fun s i wr => ∃ (k : Nat) (x : Int), s = .int .i64 x ∧ i = .int .i64 k ∧ k ≤ n ∧ 0 ≤ x ∧ x ≤ (k : Int) * 100000 ∧ Hid (x = sumL Mn (List.range k)) ∧ Hid (SSt w wr blk lb n k Mn Mx Wt)) (fun _ i _ => n - (intOf i).toNat)
  case atStart => exact ⟨0, 0, rfl, rfl, Nat.zero_le _, by omega, by omega, rfl, S0.out⟩
  case round =>
    obtain ⟨k, x, rfl, rfl, hk, x0, x1, HX, HS⟩ := hrel
    by_cases hlt : k < n
    · have hlt' : (k : Int) < (n : Int) := by omega
      have hs := HS.out
      have hsm := HSm.out k
      have hcw := (hs.want.2 k hlt).1
      rw [Nat.zero_add] at hcw
      obtain ⟨a1, ha1⟩ : ∃ x, Mn k = x := ⟨_, rfl⟩
      have hmk := HM.out k
      rw [ha1] at hsm hcw hmk
      have hzc := hs.want.1
      have hzl := hs.len.1
      have cl1 : wr.cell? ⟨lb, k, none⟩ = some (.int .i64 0) := by have := (hs.len.2 k hlt).1; dsimp only at this; rw [if_neg (by omega), Nat.zero_add] at this; exact this
      have fl1 : wr.frozen? ⟨lb, k, none⟩ = false := by have := (hs.len.2 k hlt).2; rw [Nat.zero_add] at this; exact this
      have HX2 : Hid (x + a1 = sumL Mn (List.range (k + 1))) := by show _ = _; rw [hsm, HX.out]
      have HN : Hid (SSt w (wr.setCell ⟨lb, k, none⟩ (.int .i64 a1)) blk lb n (k + 1) Mn Mx Wt) := by
        have := hs.set hlt (by omega) (by omega)
        rw [ha1, Nat.zero_add] at this; exact this
      have hm1 := hmk.1
      have hm2 : a1 ≤ 100000 := by omega
      have hk1 : ((k + 1 : Nat) : Int) * 100000 = (k : Int) * 100000 + 100000 := by omega
      clear hs hsm ha1 hmk HX HS
      go_wp2
      go_roundw
      case rel => exact ⟨k + 1, x + a1, rfl, by go_num, by omega, by omega, by omega, HX2.out, HN.out⟩
      case measure => simp [intOf]; omega
    · have hge : ¬ (k : Int) < (n : Int) := by omega
      obtain rfl : n = k := by omega
      have hs := HS.out
      have hrow : FRow wr lb 0 n Mn := hs.len.congr fun j hj => by rw [if_pos hj]
      have I0 : Hid (ShrI n Mn r n x Mn) := ⟨fun _ _ => rfl, fun j _ => by have := HM.out j; omega, HX.out, by rw [HX.out]; exact Int.le_of_lt HLT.out, fun _ j h1 h2 => by omega, fun i k _ _ h => by omega⟩
      have R0 : Hid (FRow wr lb 0 n Mn ∧ Below w.heap.size w wr) := ⟨hrow, hs.bel⟩
      clear hs hrow HX HS
      go_wp2
      go_loopw [6, 8] (fun s i wq => ∃ (c : Nat) (x : Int) (g : Nat → Int), s = .int .i64 x ∧ i = .int .i64 ((c : Int) - 1) ∧ c ≤ n ∧ 0 ≤ x ∧ x ≤ 20000000 ∧ Hid (ShrI n Mn r c x g) ∧ Hid (FRow wq lb 0 n g ∧ Below w.heap.size w wq)) (fun _ i _ => (intOf i + 1).toNat)
      case atStart => exact ⟨n, x, Mn, rfl, rfl, Nat.le_refl _, x0, by omega, I0.out, R0.out⟩
      case round =>
        obtain ⟨c, s, g, rfl, rfl, hc, s0, s1, HI, HR⟩ := hrel
        by_cases hgo : 0 < c ∧ r < s
        · obtain ⟨hc0, hrs⟩ := hgo
          obtain ⟨d, rfl⟩ : ∃ d, c = d + 1 := ⟨c - 1, by omega⟩
          have hdn : d < n := by omega
          have hd1 : ((d + 1 : Nat) : Int) - 1 = (d : Int) := by omega
          rw [hd1]
          have hdn' : (d : Int) < (n : Int) := by omega
          have hd0 : (0 : Int) ≤ (d : Int) := by omega
          have hcell := (HR.out.1.2 d hdn)
          rw [Nat.zero_add] at hcell
          have hgb := HI.out.bd d hdn
          have hmm := HM.out d
          obtain ⟨x2, hx2⟩ : ∃ x, g d = x := ⟨_, rfl⟩
          rw [hx2] at hcell hgb
          obtain ⟨cl1, fl1⟩ := hcell
          have b1 := hgb.1
          have b2 : x2 ≤ 100000 := by omega
          obtain ⟨sr, hsr⟩ : ∃ x, s - r = x := ⟨_, rfl⟩
          have HNx : Hid (∀ y, y = min sr x2 → ShrI n Mn r d (s - y) (upd g d (x2 - y)) ∧ FRow (wr.setCell ⟨lb, d, none⟩ (.int .i64 (x2 - y))) lb 0 n (upd g d (x2 - y)) ∧ Below w.heap.size w (wr.setCell ⟨lb, d, none⟩ (.int .i64 (x2 - y)))) := fun y hy => by
            have h1 := HI.out.next hdn hrs y (by rw [hsr, hx2]; exact hy)
            rw [hx2] at h1
            have h2 := HR.out.1.set d (x2 - y) hdn
            rw [Nat.zero_add] at h2
            exact ⟨h1, h2, HR.out.2.setCell hBl _⟩
          clear hgb hmm hx2 HI HR hd1
          by_cases hgt : x2 < sr
          · have hN := HNx.out x2 (by omega)
            have HN1 : Hid (ShrI n Mn r d (s - x2) (upd g d (x2 - x2))) := hN.1
            have HN2 : Hid (FRow (wr.setCell ⟨lb, d, none⟩ (.int .i64 0)) lb 0 n (upd g d (x2 - x2)) ∧ Below w.heap.size w (wr.setCell ⟨lb, d, none⟩ (.int .i64 0))) := by
              have := hN.2; rw [Int.sub_self] at this ⊢; exact this
            clear hN HNx
            go_wp2
            go_roundw
            case rel => exact ⟨d, s - x2, _, rfl, rfl, by omega, by omega, by omega, HN1.out, HN2.out⟩
            case measure => simp [intOf] <;> omega
          · have hN := HNx.out sr (by omega)
            have HN1 : Hid (ShrI n Mn r d (s - sr) (upd g d (x2 - sr))) := hN.1
            have HN2 : Hid (FRow (wr.setCell ⟨lb, d, none⟩ (.int .i64 (x2 - sr))) lb 0 n (upd g d (x2 - sr)) ∧ Below w.heap.size w (wr.setCell ⟨lb, d, none⟩ (.int .i64 (x2 - sr)))) := hN.2
            clear hN HNx
            go_wp2
            go_roundw
            case rel => exact ⟨d, s - sr, _, rfl, rfl, by omega, by omega, by omega, HN1.out, HN2.out⟩
            case measure => simp [intOf] <;> omega
        · have HF : Hid (∃ g, FRow wr lb 0 n g ∧ Back n Mn r g) := ⟨g, HR.out.1, HI.out.back r0 (by omega)⟩
          have HB : Hid (Below w.heap.size w wr) := HR.out.2
          clear HI HR
          by_cases hc0 : 0 < c
          · have hle : ¬ r < s := by omega
            have hc1 : (0 : Int) ≤ (c : Int) - 1 := by omega
            go_wp2
            go_ret
            exact ⟨rfl, HF.out, by rw [← HLB.out]; exact HB.out⟩
          · have hc1 : ¬ (0 : Int) ≤ (c : Int) - 1 := by omega
            go_wp2
            go_ret
            exact ⟨rfl, HF.out, by rw [← HLB.out]; exact HB.out⟩

end Go.Proofs.Ytmlicipdkbeihac
