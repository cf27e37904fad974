/-
  paneref.Cap, paneref.Inset.
-/
import Derived.Test.YtfgimgabhhacmaeBRef
namespace Go.Proofs.Ytfgimgabhhacmae
open Go.RowKit Go.Sort
set_option linter.unusedVariables false

set_option maxRecDepth 100000 in
set_option maxHeartbeats 2000000 in
theorem rInset_any (x y a b n : Int) (w : World) : Calls Try.prog 10 #[rv x y a b, .int .i64 n] w fun e w' => e = .returned (insV x y a b n) ∧ Gr w w' := by
  have CC : Hid (∀ x y a b w, Calls Try.prog 14 #[rv x y a b] w fun e w' => e = .returned (rv (posI x) (posI y) (lenI a) (lenI b)) ∧ Gr w w') := firm_any
  have LL : Hid (∀ n w, Calls Try.prog 17 #[.int .i64 n] w fun e w' => e = .returned (.int .i64 (lenI n)) ∧ w' = w) := rClamped_any
  have LS : Hid (∀ a b w, Calls Try.prog 16 #[.int .i64 a, .int .i64 b] w fun e w' => e = .returned (.int .i64 (min a b)) ∧ w' = w) := least_any
  have b1 := posI_bd x
  have b2 := posI_bd y
  have b3 := lenI_bd a
  have b4 := lenI_bd b
  have b5 := lenI_bd n
  obtain ⟨A, hA⟩ : ∃ z, posI x = z := ⟨_, rfl⟩
  obtain ⟨B, hB⟩ : ∃ z, posI y = z := ⟨_, rfl⟩
  obtain ⟨C, hC⟩ : ∃ z, lenI a = z := ⟨_, rfl⟩
  obtain ⟨D, hD⟩ : ∃ z, lenI b = z := ⟨_, rfl⟩
  obtain ⟨m, hm⟩ : ∃ z, lenI n = z := ⟨_, rfl⟩
  have HV : Hid (insV x y a b n = rv (A + min m (C / 2)) (B + min m (D / 2)) (max 0 (C - 2 * m)) (max 0 (D - 2 * m))) := by show _ = _; unfold insV; rw [hA, hB, hC, hD, hm]
  rw [hA] at b1
  rw [hB] at b2
  rw [hC] at b3
  rw [hD] at b4
  rw [hm] at b5
  unfold rv at CC ⊢
  go_enter Try.func10, Try.ntmps10
  go_wp2_with fail
  obtain ⟨W0, hW0⟩ : ∃ z, (w.alloc (.cells #[.int .i64 x, .int .i64 y, .int .i64 a, .int .i64 b] 23)).alloc (.cells #[.int .i64 0, .int .i64 0, .int .i64 0, .int .i64 0] 23) = z := ⟨_, rfl⟩
  obtain ⟨S, hS⟩ : ∃ z, w.heap.size = z := ⟨_, rfl⟩
  have HS : Hid (w.heap.size = S) := hS
  have G0 : Hid (Gr w W0) := by rw [← hW0]; exact ((Gr.refl w).alloc _).alloc _
  have RA : Hid (R4 23 W0 S x y a b) := by rw [← hW0, ← hS]; exact (R4.new w _ _ _ _ _).gr ((Gr.refl _).alloc _)
  have RC : Hid (R4 23 W0 (S + 1) 0 0 0 0) := by
    have := R4.new (w.alloc (.cells #[.int .i64 x, .int .i64 y, .int .i64 a, .int .i64 b] 23)) 0 0 0 0 23
    simp only [World.size_alloc, hS] at this
    rw [← hW0]; exact this
  rw [hW0, hS]
  clear hW0 hS
  refine (CC.out _ _ _ _ _).mono ?_
  rintro e w2 ⟨rfl, hg2⟩
  have HG : Hid (Gr w w2) := G0.out.trans hg2
  have R2 : Hid (R4 23 w2 S x y a b) := RA.out.gr hg2
  have RC2 : Hid (R4 23 w2 (S + 1) 0 0 0 0) := RC.out.gr hg2
  clear hg2 RA RC G0
  have c0 := R2.out.c0
  have c1 := R2.out.c1
  have c2 := R2.out.c2
  have c3 := R2.out.c3
  have f0 := R2.out.fz 0
  have f1 := R2.out.fz 1
  have f2 := R2.out.fz 2
  have f3 := R2.out.fz 3
  rw [hA, hB, hC, hD]
  go_wp2_with fail
  obtain ⟨w3, hw3⟩ : ∃ z, (((w2.setCell ⟨S, 0, none⟩ (.int .i64 A)).setCell ⟨S, 1, none⟩ (.int .i64 B)).setCell ⟨S, 2, none⟩ (.int .i64 C)).setCell ⟨S, 3, none⟩ (.int .i64 D) = z := ⟨_, rfl⟩
  have HG3 : Hid (Gr w w3) := by rw [← hw3]; exact HG.out.set4 (by rw [HS.out]; exact Nat.le_refl _) _ _ _ _
  have R3 : Hid (R4 23 w3 S A B C D) := by rw [← hw3]; exact R2.out.set A B C D
  have RC3 : Hid (R4 23 w3 (S + 1) 0 0 0 0) := by rw [← hw3]; exact RC2.out.others (by omega) _ _ _ _
  rw [hw3]
  clear hw3 c0 c1 c2 c3 f0 f1 f2 f3 R2 RC2 HG
  refine (LL.out _ _).mono ?_
  rintro e w4 ⟨rfl, hw4⟩
  obtain rfl := hw4.symm
  rw [hm]
  have c0 := R3.out.c0
  have c1 := R3.out.c1
  have c2 := R3.out.c2
  have c3 := R3.out.c3
  have d0 := RC3.out.c0
  have d1 := RC3.out.c1
  have d2 := RC3.out.c2
  have d3 := RC3.out.c3
  have f0 := RC3.out.fz 0
  have f1 := RC3.out.fz 1
  have f2 := RC3.out.fz 2
  have f3 := RC3.out.fz 3
  clear hA hB hC hD hm
  have q1 : C.tdiv 2 = C / 2 := Int.tdiv_eq_ediv_of_nonneg b3.1
  have q2 : D.tdiv 2 = D / 2 := Int.tdiv_eq_ediv_of_nonneg b4.1
  obtain ⟨p, hp⟩ : ∃ z, C / 2 = z := ⟨_, rfl⟩
  obtain ⟨q, hq⟩ : ∃ z, D / 2 = z := ⟨_, rfl⟩
  rw [hp] at q1 HV
  rw [hq] at q2 HV
  have k1 : 2 * p ≤ C ∧ C ≤ 2 * p + 1 := by omega
  have k2 : 2 * q ≤ D ∧ D ≤ 2 * q + 1 := by omega
  clear hp hq
  rcases (by omega : (C ≤ 2 * m ∧ min m p = p) ∨ (2 * m < C ∧ min m p = m)) with ⟨h1, h1'⟩ | ⟨h1, h1'⟩ <;> rcases (by omega : (D ≤ 2 * m ∧ min m q = q) ∨ (2 * m < D ∧ min m q = m)) with ⟨h2, h2'⟩ | ⟨h2, h2'⟩
  all_goals go_wp2_with (first | (go_at_call 16; refine (LS.out _ _ _).mono ?_; rintro e w5 ⟨rfl, hw5⟩; obtain rfl := hw5.symm; first | rw [h1'] | rw [h2'] | skip))
  all_goals
    refine bodyPost_ret (results_cell_row rfl _ _ (S + 1) _ _ _ _ rfl (RC3.out.set _ _ _ _) Try.underlying23 rfl (by kernel_rfl)) rfl ?_
    exact ⟨by rw [HV.out]; exact rv4 (by omega) (by omega) (by omega) (by omega), HG3.out.set4 (by rw [HS.out]; omega) _ _ _ _⟩

end Go.Proofs.Ytfgimgabhhacmae
