/-
  share.Split.
-/
import Derived.Test.YtmlicipdkbeihacSPour
namespace Go.Proofs.Ytmlicipdkbeihac
open Go.RowKit Go.Sort
set_option linter.unusedVariables false

/-- What is to be shared. -/
def rm (room gap : Int) (n : Nat) : Int := max 0 (cl room - cl gap * ((n : Int) - 1))
theorem rm_nonneg (room gap : Int) (n : Nat) : 0 ≤ rm room gap n := by unfold rm; omega
theorem rm_le (room gap : Int) (n : Nat) (hn : 0 < n) : rm room gap n ≤ 100000 := by
  have h1 := cl_bd room
  have h2 : 0 ≤ cl gap * ((n : Int) - 1) := Int.mul_nonneg (cl_bd gap).1 (by omega)
  unfold rm; omega

/-- The Mins are too much: given back from behind. -/
structure Back (n : Nat) (mn : Nat → Int) (r : Int) (g : Nat → Int) : Prop where
  bd : ∀ j, j < n → 0 ≤ g j ∧ g j ≤ mn j
  sum : sumL g (List.range n) = r
  behind : ∀ i k, i < k → k < n → g i < mn i → g k = 0

/-- What Split answers of n wants. -/
def SplitIs (n : Nat) (mn mx wt : Nat → Int) (r : Int) (g : Nat → Int) : Prop :=
  (r < sumL mn (List.range n) ∧ Back n mn r g) ∨ (sumL mn (List.range n) ≤ r ∧ ∃ (A S : List Nat) (L V : Int) (m : Nat), Poured n mn mx wt r g A S L V m)

theorem rangeL (n : Nat) (f : Nat → Int) (j : Nat) (hj : j < n) : ((List.range n).map f)[j]?.getD 0 = f j := by simp [hj]
theorem rangeL_len (n : Nat) (f : Nat → Int) : ((List.range n).map f).length = n := by simp
theorem FRow.irow {W : World} {blk off n : Nat} {g : Nat → Int} (h : FRow W blk off n g) : IRow W blk off ((List.range n).map g) :=
  ⟨h.1, fun j hj => by rw [rangeL_len] at hj; rw [rangeL n g j hj]; exact h.2 j hj⟩
theorem IRow.frow {W : World} {blk off n : Nat} {d : List Int} (h : IRow W blk off d) (hn : d.length = n) : FRow W blk off n (fun j => d[j]?.getD 0) :=
  ⟨h.1, fun j hj => h.2 j (by omega)⟩
theorem sum_range (d : List Int) : sumL (fun j => d[j]?.getD 0) (List.range d.length) = d.sum := by
  unfold sumL
  congr 1
  refine List.ext_getElem (by simp) fun j h1 h2 => ?_
  simp [List.getElem?_eq_getElem h2]

theorem back_of (n : Nat) (mn : Nat → Int) (hm : ∀ j, 0 ≤ mn j) (r much : Int) (hr : 0 ≤ r) (h : much = sumL mn (List.range n) - r) (h0 : 0 ≤ much) : Back n mn r (fun j => (gb ((List.range n).map mn) n much [])[j]?.getD 0) ∧ (gb ((List.range n).map mn) n much []).length = n := by
  have hl := rangeL_len n mn
  have hs : ((List.range n).map mn).sum = sumL mn (List.range n) := rfl
  have ht : ((List.range n).map mn).take n = (List.range n).map mn := List.take_of_length_le (by omega)
  obtain ⟨X, e, xl, xb, xs, xk, _⟩ := gb_facts ((List.range n).map mn) (fun i hi => by rw [hl] at hi; rw [rangeL n mn i hi]; exact hm i) n much [] (by omega) h0 (by rw [ht, hs]; omega)
  rw [List.append_nil] at e
  rw [e]
  refine ⟨⟨fun j hj => ?_, ?_, fun i k hik hk hlt => ?_⟩, xl⟩
  · have := xb j hj; rw [rangeL n mn j hj] at this; exact this
  · have := sum_range X; rw [xl] at this; rw [this, xs, ht, hs]; omega
  · refine xk i k hik hk ?_
    rw [rangeL n mn i (by omega)]; exact hlt

/-- Behind Split: the lengths lie at lb. -/
def SplitAt (w w' : World) (lb n : Nat) (mn mx wt : Nat → Int) (r : Int) : Prop := w.heap.size ≤ lb ∧ (∃ g, FRow w' lb 0 n g ∧ SplitIs n mn mx wt r g) ∧ Below w.heap.size w w'

set_option maxRecDepth 100000 in
set_option maxHeartbeats 1000000 in
theorem split_none (p : Option Addr) (n cap : Nat) (room gap : Int) (w : World) (hn : n = 0 ∨ 200 < n) (hn2 : n ≤ 5864062014805) :
    Calls Try.prog 7 #[.int .i64 room, .int .i64 gap, .slice p n cap] w fun e w' => e = .returned (.slice none 0 0) ∧ w' = w := by
  rcases hn with rfl | hn
  · go_enter Try.func7, Try.ntmps7
    go_wp2
    go_ret
    exact ⟨rfl, rfl⟩
  · have h1 : (200 : Int) < (n : Int) := by omega
    have h2 : (n : Int) ≠ 0 := by omega
    go_enter Try.func7, Try.ntmps7
    go_wp2
    go_ret
    exact ⟨rfl, rfl⟩

/-- While the Mins are laid. -/
structure SSt (w wr : World) (cw lb n k : Nat) (mn mx wt : Nat → Int) : Prop where
  len : FRow wr lb 0 n (fun j => if j < k then mn j else 0)
  want : WRow wr cw 0 n mn mx wt
  bel : Below w.heap.size w wr
theorem SSt.next {w wr : World} {cw lb n k : Nat} {mn mx wt : Nat → Int} (h : SSt w wr cw lb n k mn mx wt) (hk : k < n) (hne : lb ≠ cw) (hB : w.heap.size ≤ lb) (o : Obj) : SSt w ((wr.setCell ⟨lb, 0 + k, none⟩ (.int .i64 (mn k))).alloc o) cw lb n (k + 1) mn mx wt := by
  have hb : Below (wr.setCell ⟨lb, 0 + k, none⟩ (.int .i64 (mn k))).heap.size (wr.setCell ⟨lb, 0 + k, none⟩ (.int .i64 (mn k))) ((wr.setCell ⟨lb, 0 + k, none⟩ (.int .i64 (mn k))).alloc o) := (Below.refl _ _).alloc (Nat.le_refl _) _
  refine ⟨((h.len.set k (mn k) hk).below hb).congr fun j hj => ?_, (h.want.other _ _ _ hne).below hb, (h.bel.setCell hB _).trans (hb.mono ?_)⟩
  · unfold upd
    by_cases e : j = k
    · subst e; rw [if_pos rfl, if_pos (by omega)]
    · rw [if_neg e]; dsimp only
      by_cases e2 : j < k
      · rw [if_pos e2, if_pos (by omega)]
      · rw [if_neg e2, if_neg (by omega)]
  · have := h.bel.size; simpa using this

set_option maxRecDepth 100000 in
set_option maxHeartbeats 4000000 in
theorem split_any (n blk off cap : Nat) (a b c : Nat → Int) (room gap : Int) (w : World) (h : WRow w blk off n a b c) (hn0 : 0 < n) (hn : n ≤ 200) :
    Calls Try.prog 7 #[.int .i64 room, .int .i64 gap, .slice (some ⟨blk, off, none⟩) n cap] w fun e w' => ∃ lb, e = .returned (.slice (some ⟨lb, 0, none⟩) n n) ∧ SplitAt w w' lb n (fun j => cl (a j)) (fun j => hMax (a j) (b j)) (fun j => cl (c j)) (rm room gap n) := by
  have CW : Hid (Calls Try.prog 15 #[.slice (some ⟨blk, off, none⟩) n cap] w fun e w' => e = .returned (.slice (some ⟨w.heap.size, 0, none⟩) n n) ∧ WRow w' w.heap.size 0 n (fun j => cl (a j)) (fun j => hMax (a j) (b j)) (fun j => cl (c j)) ∧ Below w.heap.size w w') := clampedWants_any n blk off cap a b c w h (by omega)
  have CC : Hid (∀ x w, Calls Try.prog 16 #[.int .i64 x] w fun e w' => e = .returned (.int .i64 (cl x)) ∧ w' = w) := clamped_any
  obtain ⟨mn, hmn⟩ : ∃ f : Nat → Int, (fun j => cl (a j)) = f := ⟨_, rfl⟩
  obtain ⟨mx, hmx⟩ : ∃ f : Nat → Int, (fun j => hMax (a j) (b j)) = f := ⟨_, rfl⟩
  obtain ⟨wt, hwt⟩ : ∃ f : Nat → Int, (fun j => cl (c j)) = f := ⟨_, rfl⟩
  have HM : Hid (∀ j, 0 ≤ mn j ∧ mn j ≤ mx j ∧ mx j ≤ 100000 ∧ 0 ≤ wt j ∧ wt j ≤ 100000) := fun j => by
    rw [← hmn, ← hmx, ← hwt]
    have h1 := cl_bd (a j)
    have h2 := hMax_bd (a j) (b j)
    have h3 := cl_bd (c j)
    exact ⟨h1.1, h2.1, h2.2, h3.1, h3.2⟩
  rw [hmn, hmx, hwt] at CW ⊢
  obtain ⟨r, hr⟩ : ∃ r, rm room gap n = r := ⟨_, rfl⟩
  have hr0 := rm_nonneg room gap n
  have hr1 := rm_le room gap n hn0
  rw [hr] at hr0 hr1 ⊢
  unfold rm at hr
  obtain ⟨cr, hcr⟩ : ∃ x, cl room = x := ⟨_, rfl⟩
  obtain ⟨cg, hcg⟩ : ∃ x, cl gap = x := ⟨_, rfl⟩
  have hcrb := cl_bd room
  have hcgb := cl_bd gap
  have C1 : Hid (∀ w, Calls Try.prog 16 #[.int .i64 room] w fun e w' => e = .returned (.int .i64 cr) ∧ w' = w) := fun w => by have := CC.out room w; rw [hcr] at this; exact this
  have C2 : Hid (∀ w, Calls Try.prog 16 #[.int .i64 gap] w fun e w' => e = .returned (.int .i64 cg) ∧ w' = w) := fun w => by have := CC.out gap w; rw [hcg] at this; exact this
  rw [hcr] at hr hcrb
  rw [hcg] at hr hcgb
  obtain ⟨pr, hpr⟩ : ∃ x, cg * ((n : Int) - 1) = x := ⟨_, rfl⟩
  have hpr0 : 0 ≤ pr := by rw [← hpr]; exact Int.mul_nonneg hcgb.1 (by omega)
  have hpr1 : pr ≤ 20000000 := by rw [← hpr]; exact Int.le_trans (Int.mul_le_mul hcgb.2 (show (n : Int) - 1 ≤ 200 by omega) (by omega) (by omega)) (by decide)
  rw [hpr] at hr
  have hc1 := hcrb.1
  have hc2 := hcrb.2
  have hc3 := hcgb.1
  have hc4 := hcgb.2
  have hmk := run_make_row' (P := Try.prog) 25 3 (.int .i64 0) 8 Try.underlying25 info3row rfl .i64 .i64 n (by omega) (by omega)
  have hn1 : ¬ (n : Int) = 0 := by omega
  have hn2 : ¬ (200 : Int) < (n : Int) := by omega
  have hn3 : ((n : Int) == 0) = false := by simpa using hn1
  clear h hmn hmx hwt hcr hcg hcrb hcgb CC
  go_enter Try.func7, Try.ntmps7
  go_wp2_with (first | (go_at_call 15; refine CW.out.mono ?_; rintro e w1 ⟨rfl, q1, q2⟩; fail) | (go_at_call 16; refine (C1.out _).mono ?_; rintro e w5 ⟨rfl, rfl⟩) | (go_at_call 16; refine (C2.out _).mono ?_; rintro e w5 ⟨rfl, rfl⟩))
  refine CW.out.mono ?_
  rintro e w1 ⟨rfl, q1, q2⟩
  have HW1 : Hid (WRow w1 w.heap.size 0 n mn mx wt) := q1
  have HB1 : Hid (Below w.heap.size w w1) := q2
  have hz1 := q1.1
  clear q1 q2 CW
  go_wp2_with (first | (go_at_call 16; refine (C1.out _).mono ?_; rintro e w5 ⟨rfl, rfl⟩) | (go_at_call 16; refine (C2.out _).mono ?_; rintro e w5 ⟨rfl, rfl⟩))
  obtain ⟨lb, hlb⟩ : ∃ lb, w1.heap.size = lb := ⟨_, rfl⟩
  rw [hlb]
  have S0 : Hid (SSt w (w1.alloc (.cells (madeCells #[.int .i64 0] n) 3)) w.heap.size lb n 0 mn mx wt) := by
    have b1 : Below w1.heap.size w1 (w1.alloc (.cells (madeCells #[.int .i64 0] n) 3)) := (Below.refl _ w1).alloc (Nat.le_refl _) _
    refine ⟨⟨by simp; omega, fun j hj => ⟨?_, ?_⟩⟩, HW1.out.below b1, HB1.out.trans (b1.mono (by omega))⟩
    · rw [World.cell?_alloc_at _ _ _ _ hlb.symm]; simp [madeCells, hj, Nat.mod_one]
    · rw [World.frozen?_alloc_at _ _ _ _ hlb.symm]
  have hlw : w.heap.size < lb := by omega
  have HSm : Hid (∀ k, sumL mn (List.range (k + 1)) = sumL mn (List.range k) + mn k) := fun k => by rw [List.range_succ, sumL_snoc]
  have HSb : Hid (∀ k, 0 ≤ sumL mn (List.range k) ∧ sumL mn (List.range k) ≤ (k : Int) * 100000) := fun k => by
    refine ⟨sumL_nonneg fun j _ => (HM.out j).1, ?_⟩
    have := sumL_bound (f := mn) (l := List.range k) (b := 100000) fun j _ => by have := HM.out j; omega
    rw [List.length_range] at this; exact this
  clear HW1 HB1 hlb hmk
  go_loopw [8, 36] (fun l i wr => ∃ (k : Nat) (x : Int), l = .int .i64 x ∧ i = .int .i64 k ∧ k ≤ n ∧ -20000000 ≤ x ∧ x ≤ r ∧ Hid (x = r - sumL mn (List.range k)) ∧ Hid (SSt w wr w.heap.size lb n k mn mx wt)) (fun _ i _ => n - (intOf i).toNat)
  case atStart => exact ⟨0, r, rfl, rfl, Nat.zero_le _, by omega, by omega, by simp [Hid, sumL], S0.out⟩
  case round =>
    obtain ⟨k, x, rfl, rfl, hk, hx0, hx1, HX, HS⟩ := hrel
    by_cases hlt : k < n
    · have hlt' : (k : Int) < (n : Int) := by omega
      have hs := HS.out
      have hsb := HSb.out (k + 1)
      have hsm := HSm.out k
      have hcw := hs.want.2 k hlt
      rw [Nat.zero_add] at hcw
      obtain ⟨a1, ha1⟩ : ∃ x, mn k = x := ⟨_, rfl⟩
      obtain ⟨a2, ha2⟩ : ∃ x, mx k = x := ⟨_, rfl⟩
      obtain ⟨a3, ha3⟩ : ∃ x, wt k = x := ⟨_, rfl⟩
      have hmk := HM.out k
      rw [ha1] at hsm
      rw [ha1, ha2] at hmk
      rw [ha1, ha2, ha3] at hcw
      obtain ⟨cw0, cw1, cw2⟩ := hcw
      have hzc := hs.want.1
      have hzl := hs.len.1
      have cl1 : wr.cell? ⟨lb, k, none⟩ = some (.int .i64 0) := by have := (hs.len.2 k hlt).1; dsimp only at this; rw [if_neg (by omega), Nat.zero_add] at this; exact this
      have fl1 : wr.frozen? ⟨lb, k, none⟩ = false := by have := (hs.len.2 k hlt).2; rw [Nat.zero_add] at this; exact this
      have HX2 : Hid (x - a1 = r - sumL mn (List.range (k + 1))) := by show _ = _; rw [hsm, HX.out]; omega
      have hx2 : -20000000 ≤ x - a1 := by rw [HX2.out]; have := hsb.2; omega
      have HN : Hid (∀ o, SSt w ((wr.setCell ⟨lb, k, none⟩ (.int .i64 a1)).alloc o) w.heap.size lb n (k + 1) mn mx wt) := fun o => by
        have := hs.next hlt (by omega) (by omega) o
        rw [ha1, Nat.zero_add] at this; exact this
      have hm1 := hmk.1
      have hm2 := hmk.2.1
      have hm3 := hmk.2.2.1
      clear hs hsb hsm ha1 ha2 ha3 hmk HX HS
      go_wp2
      go_roundw
      case rel => exact ⟨k + 1, x - a1, rfl, by go_num, by omega, by omega, by omega, HX2.out, HN.out _⟩
      case measure => simp [intOf]; omega
    · have hge : ¬ (k : Int) < (n : Int) := by omega
      obtain rfl : n = k := by omega
      have hs := HS.out
      have hl2 : FRow wr lb 0 n mn := hs.len.congr fun j hj => by rw [if_pos hj]
      have hzl := hs.len.1
      have hbw := hs.bel
      have hzs := hbw.size
      by_cases hneg : x < 0
      · have CG : Hid (Calls Try.prog 17 #[.slice (some ⟨lb, 0, none⟩) n n, .int .i64 (-x)] wr fun e w' => e = .returned (.tuple #[]) ∧ IRow w' lb 0 (gb ((List.range n).map mn) n (-x) []) ∧ wr.grownBy w' (some lb)) := by
          refine giveBack_any ((List.range n).map mn) lb 0 n (-x) wr n hl2.irow (rangeL_len n mn) (by omega) (fun y hy => ?_) ⟨by omega, by omega⟩
          obtain ⟨j, _, rfl⟩ := List.mem_map.1 hy
          have := HM.out j; omega
        have HF : Hid (∀ w2, IRow w2 lb 0 (gb ((List.range n).map mn) n (-x) []) → wr.grownBy w2 (some lb) → SplitAt w w2 lb n mn mx wt r) := by
          intro w2 hi hg
          have hbk := back_of n mn (fun j => (HM.out j).1) r (-x) hr0 (by rw [HX.out]; omega) (by omega)
          refine ⟨by omega, ⟨_, hi.frow hbk.2, .inl ⟨?_, hbk.1⟩⟩, hbw.grown hg hzs (fun q hq => by injection hq with hq; omega)⟩
          have := HX.out; omega
        clear hs hl2 hbw HX HS
        go_wp2_with fail
        refine CG.out.mono ?_
        rintro e w2 ⟨rfl, q1, q2⟩
        have HZ : Hid (SplitAt w w2 lb n mn mx wt r) := HF.out w2 q1 q2
        clear q1 q2
        go_wp2
        go_ret
        exact ⟨lb, rfl, HZ.out⟩
      · have CP : Hid (Calls Try.prog 18 #[.slice (some ⟨lb, 0, none⟩) n n, .slice (some ⟨w.heap.size, 0, none⟩) n n, .int .i64 x] wr fun e w' => e = .returned (.tuple #[]) ∧ PourOut wr w' n lb 0 w.heap.size mn mx wt r) :=
          pour_any n lb 0 n w.heap.size 0 n w.heap.size mn mx wt r x wr hl2 hs.want (by omega) (by omega) hzs (by omega) (fun j => by have := HM.out j; omega) HX.out ⟨by omega, by omega⟩
        have HF : Hid (∀ w2, PourOut wr w2 n lb 0 w.heap.size mn mx wt r → SplitAt w w2 lb n mn mx wt r) := by
          rintro w2 ⟨g, A, S, L, V, m, p1, p2, p3⟩
          refine ⟨by omega, ⟨g, p2, .inr ⟨?_, A, S, L, V, m, p1⟩⟩, hbw.trans p3⟩
          have := HX.out; omega
        clear hs hl2 hbw HX HS
        go_wp2_with fail
        refine CP.out.mono ?_
        rintro e w2 ⟨rfl, q1⟩
        have HZ : Hid (SplitAt w w2 lb n mn mx wt r) := HF.out w2 q1
        clear q1
        go_wp2
        go_ret
        exact ⟨lb, rfl, HZ.out⟩

end Go.Proofs.Ytmlicipdkbeihac
