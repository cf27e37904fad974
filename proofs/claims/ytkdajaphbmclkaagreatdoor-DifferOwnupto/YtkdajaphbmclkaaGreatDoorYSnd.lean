/-
  paneref.Sound.
-/
import Derived.Test.YtkdajaphbmclkaaGreatDoorYMem
namespace Go.Proofs.YtkdajaphbmclkaaGreatDoor
open Go.RowKit Go.Sort
set_option linter.unusedVariables false

set_option maxRecDepth 100000 in
set_option maxHeartbeats 2000000 in
theorem sound_any (f g b : Int) (w : World) : Calls Tryz.prog 12 #[sv f g b] w fun e w' => e = .returned (sv (kn f) (kn g) (bo b)) ∧ Gr w w' := by
  have P : Hid (∀ n w, Calls Tryz.prog 23 #[.int .i64 n] w fun e w' => e = .returned (.int .i64 (kn n)) ∧ w' = w) := rcol_any
  obtain ⟨x, hx⟩ : ∃ z, kn f = z := ⟨_, rfl⟩
  obtain ⟨y, hy⟩ : ∃ z, kn g = z := ⟨_, rfl⟩
  have P1 := P.out f
  have P2 := P.out g
  rw [hx] at P1
  rw [hy] at P2
  unfold sv
  go_enter Tryz.func12, Tryz.ntmps12
  by_cases h : b = 1
  · subst h
    go_wp2_with fail
    go_region_held (fun W => W.cell? ⟨w.heap.size, 0, none⟩ = some (.int .i64 f) ∧ W.cell? ⟨w.heap.size, 1, none⟩ = some (.int .i64 g)) (go_keep) (first | (go_at_call 23; first | (with_reducible refine Calls.mono (P1 _) ?_; rintro e w2 ⟨rfl, rfl⟩) | (with_reducible refine Calls.mono (P2 _) ?_; rintro e w2 ⟨rfl, rfl⟩)))
    go_wp2
    refine bodyPost_ret (v := sv x y 1) (by simp [results, Tryz.results12, go_sem, sv]) rfl ?_
    subst hx hy
    exact ⟨rfl, (((Gr.refl w).alloc _).alloc _).drew⟩
  · have hb : bo b = 0 := if_neg h
    go_wp2_with fail
    go_region_held (fun W => W.cell? ⟨w.heap.size, 0, none⟩ = some (.int .i64 f) ∧ W.cell? ⟨w.heap.size, 1, none⟩ = some (.int .i64 g)) (go_keep) (first | (go_at_call 23; first | (with_reducible refine Calls.mono (P1 _) ?_; rintro e w2 ⟨rfl, rfl⟩) | (with_reducible refine Calls.mono (P2 _) ?_; rintro e w2 ⟨rfl, rfl⟩)))
    go_wp2
    refine bodyPost_ret (v := sv x y 0) (by simp [results, Tryz.results12, go_sem, sv]) rfl ?_
    subst hx hy
    exact ⟨by rw [hb]; rfl, (((Gr.refl w).alloc _).alloc _).drew⟩

end Go.Proofs.YtkdajaphbmclkaaGreatDoor
