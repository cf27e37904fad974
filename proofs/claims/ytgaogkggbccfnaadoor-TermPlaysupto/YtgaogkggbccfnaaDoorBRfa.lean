/-
  paneref's least, greatest, Clamped, Firm, Holds.
-/
import Derived.Test.YtgaogkggbccfnaaDoorBHold
namespace Go.Proofs.YtgaogkggbccfnaaDoor
open Go.RowKit Go.Sort
set_option linter.unusedVariables false

set_option maxRecDepth 100000 in
theorem least_any (a b : Int) (w : World) : Calls Tryd.prog 58 #[.int .i64 a, .int .i64 b] w fun e w' => e = .returned (.int .i64 (min a b)) ∧ w' = w := by
  go_enter Tryd.func58, Tryd.ntmps58
  by_cases h : a < b
  · go_wp2
    go_ret
    exact ⟨by rw [show min a b = a by omega]; rfl, rfl⟩
  · have h' : b ≤ a := by omega
    go_wp2
    go_ret
    exact ⟨by rw [show min a b = b by omega]; rfl, rfl⟩
set_option maxRecDepth 100000 in
theorem greatest_any (a b : Int) (w : World) : Calls Tryd.prog 57 #[.int .i64 a, .int .i64 b] w fun e w' => e = .returned (.int .i64 (max a b)) ∧ w' = w := by
  go_enter Tryd.func57, Tryd.ntmps57
  by_cases h : b < a
  · go_wp2
    go_ret
    exact ⟨by rw [show max a b = a by omega]; rfl, rfl⟩
  · have h' : a ≤ b := by omega
    go_wp2
    go_ret
    exact ⟨by rw [show max a b = b by omega]; rfl, rfl⟩
set_option maxRecDepth 100000 in
theorem rClamped_any (n : Int) (w : World) : Calls Tryd.prog 90 #[.int .i64 n] w fun e w' => e = .returned (.int .i64 (lenI n)) ∧ w' = w := by
  go_enter Tryd.func90, Tryd.ntmps90
  by_cases h : n < 0
  · go_wp2
    go_ret
    exact ⟨by rw [show lenI n = 0 by unfold lenI; omega]; rfl, rfl⟩
  · by_cases h2 : 100000 < n
    · have h' : ¬ n < 0 := h
      go_wp2
      go_ret
      exact ⟨by rw [show lenI n = 100000 by unfold lenI; omega]; rfl, rfl⟩
    · have h' : n ≤ 100000 := by omega
      have h0 : 0 ≤ n := by omega
      go_wp2
      go_ret
      exact ⟨by rw [show lenI n = n by unfold lenI; omega]; rfl, rfl⟩

set_option maxRecDepth 100000 in
set_option maxHeartbeats 2000000 in
theorem firm_any (x y a b : Int) (w : World) : Calls Tryd.prog 80 #[rv x y a b] w fun e w' => e = .returned (rv (posI x) (posI y) (lenI a) (lenI b)) ∧ Gr w w' := by
  have LS : Hid (∀ a b w, Calls Tryd.prog 58 #[.int .i64 a, .int .i64 b] w fun e w' => e = .returned (.int .i64 (min a b)) ∧ w' = w) := least_any
  have GS : Hid (∀ a b w, Calls Tryd.prog 57 #[.int .i64 a, .int .i64 b] w fun e w' => e = .returned (.int .i64 (max a b)) ∧ w' = w) := greatest_any
  have CS : Hid (∀ n w, Calls Tryd.prog 90 #[.int .i64 n] w fun e w' => e = .returned (.int .i64 (lenI n)) ∧ w' = w) := rClamped_any
  obtain ⟨px, hpx⟩ : ∃ z, max (-100000) (min 100000 x) = z := ⟨_, rfl⟩
  obtain ⟨py, hpy⟩ : ∃ z, max (-100000) (min 100000 y) = z := ⟨_, rfl⟩
  have ex : posI x = px := by unfold posI; omega
  have ey : posI y = py := by unfold posI; omega
  rw [ex, ey]
  obtain ⟨la, hla⟩ : ∃ z, lenI a = z := ⟨_, rfl⟩
  obtain ⟨lb, hlb⟩ : ∃ z, lenI b = z := ⟨_, rfl⟩
  unfold rv
  rw [hla, hlb]
  go_enter Tryd.func80, Tryd.ntmps80
  go_wp2_with (first | (go_at_call 58; refine (LS.out _ _ _).mono ?_; rintro e w2 ⟨rfl, rfl⟩) | (go_at_call 57; refine (GS.out _ _ _).mono ?_; rintro e w2 ⟨rfl, rfl⟩))
  go_region_held (fun W => W.cell? ⟨w.heap.size, 2, none⟩ = some (.int .i64 a) ∧ W.cell? ⟨w.heap.size, 3, none⟩ = some (.int .i64 b)) (go_keep) (first | (go_at_call 90; refine (CS.out _ _).mono ?_; rintro e w2 ⟨rfl, rfl⟩))
  all_goals
    try rw [hla, hlb]
    go_wp2
    refine bodyPost_ret (v := rv px py la lb) (by simp [results, Tryd.results80, go_sem, rv]) rfl ?_
    exact ⟨rfl, (((Gr.refl w).alloc _).alloc _).drew⟩

set_option maxRecDepth 100000 in
set_option maxHeartbeats 2000000 in
theorem rHolds_any (x y a b px py : Int) (w : World) : Calls Tryd.prog 65 #[rv x y a b, .int .i64 px, .int .i64 py] w fun e w' => e = .returned (.bool (holdB x y a b px py)) ∧ Gr w w' := by
  have CC : Hid (∀ x y a b w, Calls Tryd.prog 80 #[rv x y a b] w fun e w' => e = .returned (rv (posI x) (posI y) (lenI a) (lenI b)) ∧ Gr w w') := firm_any
  have HY : Hid ((posI x ≤ px ∧ px < posI x + lenI a ∧ posI y ≤ py ∧ py < posI y + lenI b) → holdB x y a b px py = true) := holdB_yes
  have HN : Hid (¬ (posI x ≤ px ∧ px < posI x + lenI a ∧ posI y ≤ py ∧ py < posI y + lenI b) → holdB x y a b px py = false) := holdB_no
  have b1 := posI_bd x
  have b2 := posI_bd y
  have b3 := lenI_bd a
  have b4 := lenI_bd b
  obtain ⟨A, hA⟩ : ∃ z, posI x = z := ⟨_, rfl⟩
  obtain ⟨B, hB⟩ : ∃ z, posI y = z := ⟨_, rfl⟩
  obtain ⟨C, hC⟩ : ∃ z, lenI a = z := ⟨_, rfl⟩
  obtain ⟨D, hD⟩ : ∃ z, lenI b = z := ⟨_, rfl⟩
  rw [hA, hB, hC, hD] at HY HN
  rw [hA] at b1
  rw [hB] at b2
  rw [hC] at b3
  rw [hD] at b4
  unfold rv at CC ⊢
  go_enter Tryd.func65, Tryd.ntmps65
  go_wp2_with (go_at_call 80; refine (CC.out _ _ _ _ _).mono ?_; rintro e w2 ⟨rfl, hg2⟩; have HG : Hid (Gr w w2) := ((Gr.refl w).alloc _).trans hg2; have HR : Hid (R4 100 w2 w.heap.size x y a b) := (R4.new w x y a b _).gr hg2; clear hg2; have c0 := HR.out.c0; have c1 := HR.out.c1; have c2 := HR.out.c2; have c3 := HR.out.c3; have f0 := HR.out.fz 0; have f1 := HR.out.fz 1; have f2 := HR.out.fz 2; have f3 := HR.out.fz 3; rw [hA, hB, hC, hD]; by_cases h1 : A ≤ px; by_cases h2 : B ≤ py; by_cases h3 : px < A + C; by_cases h4 : py < B + D)
  all_goals
    go_ret
    first
      | exact ⟨by rw [HY.out (by omega)]; rfl, HG.out.set4 (Nat.le_refl _) _ _ _ _⟩
      | exact ⟨by rw [HN.out (by omega)]; rfl, HG.out.set4 (Nat.le_refl _) _ _ _ _⟩
      | exact ⟨by rw [HY.out (by omega)]; exact congrArg (fun z => Ending.returned (Value.bool z)) (decide_eq_true (by omega)), HG.out.set4 (Nat.le_refl _) _ _ _ _⟩
      | exact ⟨by rw [HN.out (by omega)]; exact congrArg (fun z => Ending.returned (Value.bool z)) (decide_eq_false (by omega)), HG.out.set4 (Nat.le_refl _) _ _ _ _⟩

end Go.Proofs.YtgaogkggbccfnaaDoor
