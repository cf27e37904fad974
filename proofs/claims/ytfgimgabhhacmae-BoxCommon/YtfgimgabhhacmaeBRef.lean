/-
  paneref's least, greatest, Clamped, Firm; panelaw.theirs; box.Inset, box.Holds.
-/
import Derived.Test.YtfgimgabhhacmaeBCap
namespace Go.Proofs.Ytfgimgabhhacmae
open Go.RowKit Go.Sort
set_option linter.unusedVariables false

set_option maxRecDepth 100000 in
theorem least_any (a b : Int) (w : World) : Calls Try.prog 16 #[.int .i64 a, .int .i64 b] w fun e w' => e = .returned (.int .i64 (min a b)) ∧ w' = w := by
  go_enter Try.func16, Try.ntmps16
  by_cases h : a < b
  · go_wp2
    go_ret
    exact ⟨by rw [show min a b = a by omega]; rfl, rfl⟩
  · have h' : b ≤ a := by omega
    go_wp2
    go_ret
    exact ⟨by rw [show min a b = b by omega]; rfl, rfl⟩
set_option maxRecDepth 100000 in
theorem greatest_any (a b : Int) (w : World) : Calls Try.prog 15 #[.int .i64 a, .int .i64 b] w fun e w' => e = .returned (.int .i64 (max a b)) ∧ w' = w := by
  go_enter Try.func15, Try.ntmps15
  by_cases h : b < a
  · go_wp2
    go_ret
    exact ⟨by rw [show max a b = a by omega]; rfl, rfl⟩
  · have h' : a ≤ b := by omega
    go_wp2
    go_ret
    exact ⟨by rw [show max a b = b by omega]; rfl, rfl⟩
set_option maxRecDepth 100000 in
theorem rClamped_any (n : Int) (w : World) : Calls Try.prog 17 #[.int .i64 n] w fun e w' => e = .returned (.int .i64 (lenI n)) ∧ w' = w := by
  go_enter Try.func17, Try.ntmps17
  by_cases h : n < 0
  · go_wp2
    go_ret
    exact ⟨by rw [show lenI n = 0 by unfold lenI; omega]; rfl, rfl⟩
  · by_cases h2 : 100000 < n
    · have h' : ¬ n < 0 := h
      go_wp2
      go_ret
      exact ⟨by rw [show lenI n = 100000 by unfold lenI; omega]; rfl, rfl⟩
    · have h' : n ≤ 100000 := by omega
      have h0 : 0 ≤ n := by omega
      go_wp2
      go_ret
      exact ⟨by rw [show lenI n = n by unfold lenI; omega]; rfl, rfl⟩

set_option maxRecDepth 100000 in
set_option maxHeartbeats 2000000 in
theorem firm_any (x y a b : Int) (w : World) : Calls Try.prog 14 #[rv x y a b] w fun e w' => e = .returned (rv (posI x) (posI y) (lenI a) (lenI b)) ∧ Gr w w' := by
  have LS : Hid (∀ a b w, Calls Try.prog 16 #[.int .i64 a, .int .i64 b] w fun e w' => e = .returned (.int .i64 (min a b)) ∧ w' = w) := least_any
  have GS : Hid (∀ a b w, Calls Try.prog 15 #[.int .i64 a, .int .i64 b] w fun e w' => e = .returned (.int .i64 (max a b)) ∧ w' = w) := greatest_any
  have CS : Hid (∀ n w, Calls Try.prog 17 #[.int .i64 n] w fun e w' => e = .returned (.int .i64 (lenI n)) ∧ w' = w) := rClamped_any
  obtain ⟨px, hpx⟩ : ∃ z, max (-100000) (min 100000 x) = z := ⟨_, rfl⟩
  obtain ⟨py, hpy⟩ : ∃ z, max (-100000) (min 100000 y) = z := ⟨_, rfl⟩
  have ex : posI x = px := by unfold posI; omega
  have ey : posI y = py := by unfold posI; omega
  rw [ex, ey]
  obtain ⟨la, hla⟩ : ∃ z, lenI a = z := ⟨_, rfl⟩
  obtain ⟨lb, hlb⟩ : ∃ z, lenI b = z := ⟨_, rfl⟩
  unfold rv
  rw [hla, hlb]
  go_enter Try.func14, Try.ntmps14
  go_wp2_with (first | (go_at_call 16; refine (LS.out _ _ _).mono ?_; rintro e w2 ⟨rfl, rfl⟩) | (go_at_call 15; refine (GS.out _ _ _).mono ?_; rintro e w2 ⟨rfl, rfl⟩))
  go_region_held (fun W => W.cell? ⟨w.heap.size, 2, none⟩ = some (.int .i64 a) ∧ W.cell? ⟨w.heap.size, 3, none⟩ = some (.int .i64 b)) (go_keep) (first | (go_at_call 17; refine (CS.out _ _).mono ?_; rintro e w2 ⟨rfl, rfl⟩))
  all_goals
    try rw [hla, hlb]
    go_wp2
    refine bodyPost_ret (v := rv px py la lb) (by simp [results, Try.results14, go_sem, rv]) rfl ?_
    exact ⟨rfl, (((Gr.refl w).alloc _).alloc _).drew⟩

set_option maxRecDepth 100000 in
theorem theirs_any (x y a b : Int) (w : World) : Calls Try.prog 6 #[rv x y a b] w fun e w' => e = .returned (rv x y a b) ∧ Gr w w' := by
  unfold rv
  go_enter Try.func6, Try.ntmps6
  go_wp2
  refine bodyPost_ret (v := rv x y a b) (by simp [results, Try.results6, go_sem, rv]) rfl ?_
  exact ⟨rfl, ((Gr.refl w).alloc _).alloc _⟩

/-- What Holds answers. -/
def holdB (x y a b px py : Int) : Bool := decide (posI x ≤ px ∧ px < posI x + lenI a ∧ posI y ≤ py ∧ py < posI y + lenI b)
theorem holdB_yes {x y a b px py : Int} (h : posI x ≤ px ∧ px < posI x + lenI a ∧ posI y ≤ py ∧ py < posI y + lenI b) : holdB x y a b px py = true := decide_eq_true h
theorem holdB_no {x y a b px py : Int} (h : ¬ (posI x ≤ px ∧ px < posI x + lenI a ∧ posI y ≤ py ∧ py < posI y + lenI b)) : holdB x y a b px py = false := decide_eq_false h

set_option maxRecDepth 100000 in
set_option maxHeartbeats 2000000 in
theorem holds_any (x y a b px py : Int) (w : World) : Calls Try.prog 8 #[rv x y a b, .int .i64 px, .int .i64 py] w fun e w' => e = .returned (.bool (holdB x y a b px py)) ∧ Gr w w' := by
  have CC : Hid (∀ x y a b w, Calls Try.prog 12 #[rv x y a b] w fun e w' => e = .returned (rv (posI x) (posI y) (lenI a) (lenI b)) ∧ Gr w w') := clamped_gr
  have HY : Hid ((posI x ≤ px ∧ px < posI x + lenI a ∧ posI y ≤ py ∧ py < posI y + lenI b) → holdB x y a b px py = true) := holdB_yes
  have HN : Hid (¬ (posI x ≤ px ∧ px < posI x + lenI a ∧ posI y ≤ py ∧ py < posI y + lenI b) → holdB x y a b px py = false) := holdB_no
  have b1 := posI_bd x
  have b2 := posI_bd y
  have b3 := lenI_bd a
  have b4 := lenI_bd b
  obtain ⟨A, hA⟩ : ∃ z, posI x = z := ⟨_, rfl⟩
  obtain ⟨B, hB⟩ : ∃ z, posI y = z := ⟨_, rfl⟩
  obtain ⟨C, hC⟩ : ∃ z, lenI a = z := ⟨_, rfl⟩
  obtain ⟨D, hD⟩ : ∃ z, lenI b = z := ⟨_, rfl⟩
  rw [hA, hB, hC, hD] at HY HN
  rw [hA] at b1
  rw [hB] at b2
  rw [hC] at b3
  rw [hD] at b4
  unfold rv at CC ⊢
  go_enter Try.func8, Try.ntmps8
  go_wp2_with (go_at_call 12; refine (CC.out _ _ _ _ _).mono ?_; rintro e w2 ⟨rfl, hg2⟩; have HG : Hid (Gr w w2) := ((Gr.refl w).alloc _).trans hg2; have HR : Hid (R4 24 w2 w.heap.size x y a b) := (R4.new w x y a b _).gr hg2; clear hg2; have c0 := HR.out.c0; have c1 := HR.out.c1; have c2 := HR.out.c2; have c3 := HR.out.c3; have f0 := HR.out.fz 0; have f1 := HR.out.fz 1; have f2 := HR.out.fz 2; have f3 := HR.out.fz 3; rw [hA, hB, hC, hD]; by_cases h1 : A ≤ px; by_cases h2 : px < A + C; by_cases h3 : B ≤ py; by_cases h4 : py < B + D)
  all_goals
    go_ret
    first
      | exact ⟨by rw [HY.out (by omega)]; rfl, HG.out.set4 (Nat.le_refl _) _ _ _ _⟩
      | exact ⟨by rw [HN.out (by omega)]; rfl, HG.out.set4 (Nat.le_refl _) _ _ _ _⟩
      | exact ⟨by rw [HY.out (by omega)]; exact congrArg (fun z => Ending.returned (Value.bool z)) (decide_eq_true (by omega)), HG.out.set4 (Nat.le_refl _) _ _ _ _⟩
      | exact ⟨by rw [HN.out (by omega)]; exact congrArg (fun z => Ending.returned (Value.bool z)) (decide_eq_false (by omega)), HG.out.set4 (Nat.le_refl _) _ _ _ _⟩

set_option maxRecDepth 100000 in
set_option maxHeartbeats 2000000 in
theorem rHolds_any (x y a b px py : Int) (w : World) : Calls Try.prog 11 #[rv x y a b, .int .i64 px, .int .i64 py] w fun e w' => e = .returned (.bool (holdB x y a b px py)) ∧ Gr w w' := by
  have CC : Hid (∀ x y a b w, Calls Try.prog 14 #[rv x y a b] w fun e w' => e = .returned (rv (posI x) (posI y) (lenI a) (lenI b)) ∧ Gr w w') := firm_any
  have HY : Hid ((posI x ≤ px ∧ px < posI x + lenI a ∧ posI y ≤ py ∧ py < posI y + lenI b) → holdB x y a b px py = true) := holdB_yes
  have HN : Hid (¬ (posI x ≤ px ∧ px < posI x + lenI a ∧ posI y ≤ py ∧ py < posI y + lenI b) → holdB x y a b px py = false) := holdB_no
  have b1 := posI_bd x
  have b2 := posI_bd y
  have b3 := lenI_bd a
  have b4 := lenI_bd b
  obtain ⟨A, hA⟩ : ∃ z, posI x = z := ⟨_, rfl⟩
  obtain ⟨B, hB⟩ : ∃ z, posI y = z := ⟨_, rfl⟩
  obtain ⟨C, hC⟩ : ∃ z, lenI a = z := ⟨_, rfl⟩
  obtain ⟨D, hD⟩ : ∃ z, lenI b = z := ⟨_, rfl⟩
  rw [hA, hB, hC, hD] at HY HN
  rw [hA] at b1
  rw [hB] at b2
  rw [hC] at b3
  rw [hD] at b4
  unfold rv at CC ⊢
  go_enter Try.func11, Try.ntmps11
  go_wp2_with (go_at_call 14; refine (CC.out _ _ _ _ _).mono ?_; rintro e w2 ⟨rfl, hg2⟩; have HG : Hid (Gr w w2) := ((Gr.refl w).alloc _).trans hg2; have HR : Hid (R4 23 w2 w.heap.size x y a b) := (R4.new w x y a b _).gr hg2; clear hg2; have c0 := HR.out.c0; have c1 := HR.out.c1; have c2 := HR.out.c2; have c3 := HR.out.c3; have f0 := HR.out.fz 0; have f1 := HR.out.fz 1; have f2 := HR.out.fz 2; have f3 := HR.out.fz 3; rw [hA, hB, hC, hD]; by_cases h1 : A ≤ px; by_cases h2 : B ≤ py; by_cases h3 : px < A + C; by_cases h4 : py < B + D)
  all_goals
    go_ret
    first
      | exact ⟨by rw [HY.out (by omega)]; rfl, HG.out.set4 (Nat.le_refl _) _ _ _ _⟩
      | exact ⟨by rw [HN.out (by omega)]; rfl, HG.out.set4 (Nat.le_refl _) _ _ _ _⟩
      | exact ⟨by rw [HY.out (by omega)]; exact congrArg (fun z => Ending.returned (Value.bool z)) (decide_eq_true (by omega)), HG.out.set4 (Nat.le_refl _) _ _ _ _⟩
      | exact ⟨by rw [HN.out (by omega)]; exact congrArg (fun z => Ending.returned (Value.bool z)) (decide_eq_false (by omega)), HG.out.set4 (Nat.le_refl _) _ _ _ _⟩


theorem rv4 {a b c d a' b' c' d' : Int} (h0 : a = a') (h1 : b = b') (h2 : c = c') (h3 : d = d') : Ending.returned (.agg #[.int .i64 a, .int .i64 b, .int .i64 c, .int .i64 d]) = Ending.returned (rv a' b' c' d') := by subst h0 h1 h2 h3; rfl
/-- What Inset answers. -/
def insV (x y a b n : Int) : Value := rv (posI x + min (lenI n) (lenI a / 2)) (posI y + min (lenI n) (lenI b / 2)) (max 0 (lenI a - 2 * lenI n)) (max 0 (lenI b - 2 * lenI n))

set_option maxRecDepth 100000 in
set_option maxHeartbeats 2000000 in
theorem inset_any (x y a b n : Int) (w : World) : Calls Try.prog 7 #[rv x y a b, .int .i64 n] w fun e w' => e = .returned (insV x y a b n) ∧ Gr w w' := by
  have CC : Hid (∀ x y a b w, Calls Try.prog 12 #[rv x y a b] w fun e w' => e = .returned (rv (posI x) (posI y) (lenI a) (lenI b)) ∧ Gr w w') := clamped_gr
  have LL : Hid (∀ n w, Calls Try.prog 13 #[.int .i64 n] w fun e w' => e = .returned (.int .i64 (lenI n)) ∧ w' = w) := length_any
  have b1 := posI_bd x
  have b2 := posI_bd y
  have b3 := lenI_bd a
  have b4 := lenI_bd b
  have b5 := lenI_bd n
  obtain ⟨A, hA⟩ : ∃ z, posI x = z := ⟨_, rfl⟩
  obtain ⟨B, hB⟩ : ∃ z, posI y = z := ⟨_, rfl⟩
  obtain ⟨C, hC⟩ : ∃ z, lenI a = z := ⟨_, rfl⟩
  obtain ⟨D, hD⟩ : ∃ z, lenI b = z := ⟨_, rfl⟩
  obtain ⟨m, hm⟩ : ∃ z, lenI n = z := ⟨_, rfl⟩
  have HV : Hid (insV x y a b n = rv (A + min m (C / 2)) (B + min m (D / 2)) (max 0 (C - 2 * m)) (max 0 (D - 2 * m))) := by show _ = _; unfold insV; rw [hA, hB, hC, hD, hm]
  rw [hA] at b1
  rw [hB] at b2
  rw [hC] at b3
  rw [hD] at b4
  rw [hm] at b5
  unfold rv at CC ⊢
  go_enter Try.func7, Try.ntmps7
  go_wp2_with fail
  obtain ⟨W0, hW0⟩ : ∃ z, (w.alloc (.cells #[.int .i64 x, .int .i64 y, .int .i64 a, .int .i64 b] 24)).alloc (.cells #[.int .i64 0, .int .i64 0, .int .i64 0, .int .i64 0] 24) = z := ⟨_, rfl⟩
  obtain ⟨S, hS⟩ : ∃ z, w.heap.size = z := ⟨_, rfl⟩
  have HS : Hid (w.heap.size = S) := hS
  have G0 : Hid (Gr w W0) := by rw [← hW0]; exact ((Gr.refl w).alloc _).alloc _
  have RA : Hid (R4 24 W0 S x y a b) := by rw [← hW0, ← hS]; exact (R4.new w _ _ _ _ _).gr ((Gr.refl _).alloc _)
  have RC : Hid (R4 24 W0 (S + 1) 0 0 0 0) := by
    have := R4.new (w.alloc (.cells #[.int .i64 x, .int .i64 y, .int .i64 a, .int .i64 b] 24)) 0 0 0 0 24
    simp only [World.size_alloc, hS] at this
    rw [← hW0]; exact this
  rw [hW0, hS]
  clear hW0 hS
  refine (CC.out _ _ _ _ _).mono ?_
  rintro e w2 ⟨rfl, hg2⟩
  have HG : Hid (Gr w w2) := G0.out.trans hg2
  have R2 : Hid (R4 24 w2 S x y a b) := RA.out.gr hg2
  have RC2 : Hid (R4 24 w2 (S + 1) 0 0 0 0) := RC.out.gr hg2
  clear hg2 RA RC G0
  have c0 := R2.out.c0
  have c1 := R2.out.c1
  have c2 := R2.out.c2
  have c3 := R2.out.c3
  have f0 := R2.out.fz 0
  have f1 := R2.out.fz 1
  have f2 := R2.out.fz 2
  have f3 := R2.out.fz 3
  rw [hA, hB, hC, hD]
  go_wp2_with fail
  obtain ⟨w3, hw3⟩ : ∃ z, (((w2.setCell ⟨S, 0, none⟩ (.int .i64 A)).setCell ⟨S, 1, none⟩ (.int .i64 B)).setCell ⟨S, 2, none⟩ (.int .i64 C)).setCell ⟨S, 3, none⟩ (.int .i64 D) = z := ⟨_, rfl⟩
  have HG3 : Hid (Gr w w3) := by rw [← hw3]; exact HG.out.set4 (by rw [HS.out]; exact Nat.le_refl _) _ _ _ _
  have R3 : Hid (R4 24 w3 S A B C D) := by rw [← hw3]; exact R2.out.set A B C D
  have RC3 : Hid (R4 24 w3 (S + 1) 0 0 0 0) := by rw [← hw3]; exact RC2.out.others (by omega) _ _ _ _
  rw [hw3]
  clear hw3 c0 c1 c2 c3 f0 f1 f2 f3 R2 RC2 HG
  refine (LL.out _ _).mono ?_
  rintro e w4 ⟨rfl, hw4⟩
  obtain rfl := hw4.symm
  rw [hm]
  have c0 := R3.out.c0
  have c1 := R3.out.c1
  have c2 := R3.out.c2
  have c3 := R3.out.c3
  have d0 := RC3.out.c0
  have d1 := RC3.out.c1
  have d2 := RC3.out.c2
  have d3 := RC3.out.c3
  have f0 := RC3.out.fz 0
  have f1 := RC3.out.fz 1
  have f2 := RC3.out.fz 2
  have f3 := RC3.out.fz 3
  clear hA hB hC hD hm
  have q1 : C.tdiv 2 = C / 2 := Int.tdiv_eq_ediv_of_nonneg b3.1
  have q2 : D.tdiv 2 = D / 2 := Int.tdiv_eq_ediv_of_nonneg b4.1
  obtain ⟨p, hp⟩ : ∃ z, C / 2 = z := ⟨_, rfl⟩
  obtain ⟨q, hq⟩ : ∃ z, D / 2 = z := ⟨_, rfl⟩
  rw [hp] at q1 HV
  rw [hq] at q2 HV
  have k1 : 2 * p ≤ C ∧ C ≤ 2 * p + 1 := by omega
  have k2 : 2 * q ≤ D ∧ D ≤ 2 * q + 1 := by omega
  clear hp hq
  rcases (by omega : (2 * m ≤ C ∧ m ≤ p ∧ 0 ≤ C - 2 * m) ∨ (C < 2 * m ∧ p ≤ m ∧ C - 2 * m < 0)) with ⟨h1, h1', h1''⟩ | ⟨h1, h1', h1''⟩ <;> rcases (by omega : (2 * m ≤ D ∧ m ≤ q ∧ 0 ≤ D - 2 * m) ∨ (D < 2 * m ∧ q ≤ m ∧ D - 2 * m < 0)) with ⟨h2, h2', h2''⟩ | ⟨h2, h2', h2''⟩
  all_goals go_wp2
  all_goals
    refine bodyPost_ret (results_cell_row rfl _ _ (S + 1) _ _ _ _ rfl (RC3.out.set _ _ _ _) Try.underlying24 rfl (by kernel_rfl)) rfl ?_
    exact ⟨by rw [HV.out]; exact rv4 (by omega) (by omega) (by omega) (by omega), HG3.out.set4 (by rw [HS.out]; omega) _ _ _ _⟩

end Go.Proofs.Ytfgimgabhhacmae
