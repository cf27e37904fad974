/-
  A block of three numbers; a style as it counts.
-/
import Derived.Test.YtkdajaphbmclkaaGreatDoorYGr
namespace Go.Proofs.YtkdajaphbmclkaaGreatDoor
open Go.RowKit Go.Sort
set_option linter.unusedVariables false

/-- A block of three numbers. -/
def R3 (T : TypeId) (W : World) (b : Nat) (x y a : Int) : Prop := W.heap[b]? = some (.cells #[.int .i64 x, .int .i64 y, .int .i64 a] T (0, 0))
section
variable {T : TypeId} {W W' : World} {b k o : Nat} {x y a c : Int}
theorem R3.lt (h : R3 T W b x y a) : b < W.heap.size := (Array.getElem?_eq_some_iff.1 h).1
theorem R3.c0 (h : R3 T W b x y a) : W.cell? ⟨b, 0, none⟩ = some (.int .i64 x) := by unfold R3 at h; simp [World.cell?, h]
theorem R3.c1 (h : R3 T W b x y a) : W.cell? ⟨b, 1, none⟩ = some (.int .i64 y) := by unfold R3 at h; simp [World.cell?, h]
theorem R3.c2 (h : R3 T W b x y a) : W.cell? ⟨b, 2, none⟩ = some (.int .i64 a) := by unfold R3 at h; simp [World.cell?, h]
theorem R3.fz (h : R3 T W b x y a) (j : Nat) : W.frozen? ⟨b, j, none⟩ = false := frozen_of_row _ _ _ _ _ h
theorem R3.gr (h : R3 T W b x y a) (g : Gr W W') : R3 T W' b x y a := (g.block h.lt).trans h
theorem R3.new (W : World) (x y a : Int) (T : TypeId) : R3 T (W.alloc (.cells #[.int .i64 x, .int .i64 y, .int .i64 a] T)) W.heap.size x y a := heap_alloc_new _ _
theorem R3.other (h : R3 T W b x y a) (hk : b ≠ k) (v : Value) : R3 T (W.setCell ⟨k, o, none⟩ v) b x y a := (Below.heap_setCell W ⟨k, o, none⟩ v b hk).trans h
theorem R3.set0 (h : R3 T W b x y a) (x' : Int) : R3 T (W.setCell ⟨b, 0, none⟩ (.int .i64 x')) b x' y a := heap_setCell_same _ b 0 _ T _ h
theorem R3.set1 (h : R3 T W b x y a) (y' : Int) : R3 T (W.setCell ⟨b, 1, none⟩ (.int .i64 y')) b x y' a := heap_setCell_same _ b 1 _ T _ h
theorem R3.set2 (h : R3 T W b x y a) (a' : Int) : R3 T (W.setCell ⟨b, 2, none⟩ (.int .i64 a')) b x y a' := heap_setCell_same _ b 2 _ T _ h
theorem R3.set (h : R3 T W b x y a) (x' y' a' : Int) : R3 T (((W.setCell ⟨b, 0, none⟩ (.int .i64 x')).setCell ⟨b, 1, none⟩ (.int .i64 y')).setCell ⟨b, 2, none⟩ (.int .i64 a')) b x' y' a' :=
  ((h.set0 x').set1 y').set2 a'
theorem R3.others (h : R3 T W b x y a) (hk : b ≠ k) (v0 v1 v2 : Value) : R3 T (((W.setCell ⟨k, 0, none⟩ v0).setCell ⟨k, 1, none⟩ v1).setCell ⟨k, 2, none⟩ v2) b x y a := ((h.other hk v0).other hk v1).other hk v2
theorem Gr.set3 (h : Gr W W') (hk : W.heap.size ≤ k) (v0 v1 v2 : Value) : Gr W (((W'.setCell ⟨k, 0, none⟩ v0).setCell ⟨k, 1, none⟩ v1).setCell ⟨k, 2, none⟩ v2) := ((h.set hk v0).set hk v1).set hk v2
end
def sv (f g b : Int) : Value := .agg #[.int .i64 f, .int .i64 g, .int .i64 b]
/-- A number as it counts. -/
def kn (n : Int) : Int := if n < 0 ∨ 8 < n then 0 else n
def bo (n : Int) : Int := if n = 1 then 1 else 0
theorem kn_bd (n : Int) : 0 ≤ kn n ∧ kn n ≤ 8 := by unfold kn; split <;> omega
theorem bo_bd (n : Int) : 0 ≤ bo n ∧ bo n ≤ 1 := by unfold bo; split <;> omega
theorem kn_kn (n : Int) : kn (kn n) = kn n := by unfold kn; (repeat' split) <;> omega
theorem bo_bo (n : Int) : bo (bo n) = bo n := by unfold bo; (repeat' split) <;> omega

set_option maxRecDepth 100000 in
theorem known_any (n : Int) (w : World) : Calls Tryz.prog 85 #[.int .i64 n] w fun e w' => e = .returned (.int .i64 (kn n)) ∧ w' = w := by
  go_enter Tryz.func85, Tryz.ntmps85
  by_cases h1 : n < 0
  · go_wp2
    go_ret
    exact ⟨by rw [show kn n = 0 by unfold kn; rw [if_pos (.inl h1)]]; rfl, rfl⟩
  · by_cases h2 : 8 < n
    · go_wp2
      go_ret
      exact ⟨by rw [show kn n = 0 by unfold kn; rw [if_pos (.inr h2)]]; rfl, rfl⟩
    · go_wp2
      go_ret
      exact ⟨by rw [show kn n = n by unfold kn; rw [if_neg (by omega)]]; rfl, rfl⟩
set_option maxRecDepth 100000 in
theorem rcol_any (n : Int) (w : World) : Calls Tryz.prog 23 #[.int .i64 n] w fun e w' => e = .returned (.int .i64 (kn n)) ∧ w' = w := by
  go_enter Tryz.func23, Tryz.ntmps23
  by_cases h1 : n < 0
  · go_wp2
    go_ret
    exact ⟨by rw [show kn n = 0 by unfold kn; rw [if_pos (.inl h1)]]; rfl, rfl⟩
  · by_cases h2 : 8 < n
    · go_wp2
      go_ret
      exact ⟨by rw [show kn n = 0 by unfold kn; rw [if_pos (.inr h2)]]; rfl, rfl⟩
    · go_wp2
      go_ret
      exact ⟨by rw [show kn n = n by unfold kn; rw [if_neg (by omega)]]; rfl, rfl⟩

set_option maxRecDepth 100000 in
theorem look_any (f g b : Int) (w : World) : Calls Tryz.prog 39 #[sv f g b] w fun e w' => e = .returned (sv f g b) ∧ Gr w w' := by
  unfold sv
  go_enter Tryz.func39, Tryz.ntmps39
  go_wp2
  refine bodyPost_ret (v := sv f g b) (by simp [results, Tryz.results39, go_sem, sv]) rfl ?_
  exact ⟨rfl, ((Gr.refl w).alloc _).alloc _⟩

set_option maxRecDepth 100000 in
set_option maxHeartbeats 2000000 in
theorem counted_any (f g b : Int) (w : World) : Calls Tryz.prog 71 #[sv f g b] w fun e w' => e = .returned (sv (kn f) (kn g) (bo b)) ∧ Gr w w' := by
  have P : Hid (∀ n w, Calls Tryz.prog 85 #[.int .i64 n] w fun e w' => e = .returned (.int .i64 (kn n)) ∧ w' = w) := known_any
  obtain ⟨x, hx⟩ : ∃ z, kn f = z := ⟨_, rfl⟩
  obtain ⟨y, hy⟩ : ∃ z, kn g = z := ⟨_, rfl⟩
  have P1 := P.out f
  have P2 := P.out g
  rw [hx] at P1
  rw [hy] at P2
  unfold sv
  go_enter Tryz.func71, Tryz.ntmps71
  by_cases h : b = 1
  · subst h
    go_wp2_with fail
    go_region_held (fun W => W.cell? ⟨w.heap.size, 0, none⟩ = some (.int .i64 f) ∧ W.cell? ⟨w.heap.size, 1, none⟩ = some (.int .i64 g) ∧ W.cell? ⟨w.heap.size, 2, none⟩ = some (.int .i64 1)) (go_keep) (first | (go_at_call 85; first | (with_reducible refine Calls.mono (P1 _) ?_; rintro e w2 ⟨rfl, rfl⟩) | (with_reducible refine Calls.mono (P2 _) ?_; rintro e w2 ⟨rfl, rfl⟩)))
    go_wp2
    refine bodyPost_ret (v := sv x y 1) (by simp [results, Tryz.results71, go_sem, sv]) rfl ?_
    subst hx hy
    exact ⟨rfl, (((Gr.refl w).alloc _).alloc _).drew⟩
  · have hb : bo b = 0 := if_neg h
    go_wp2_with fail
    go_region_held (fun W => W.cell? ⟨w.heap.size, 0, none⟩ = some (.int .i64 f) ∧ W.cell? ⟨w.heap.size, 1, none⟩ = some (.int .i64 g) ∧ W.cell? ⟨w.heap.size, 2, none⟩ = some (.int .i64 0)) (go_keep) (first | (go_at_call 85; first | (with_reducible refine Calls.mono (P1 _) ?_; rintro e w2 ⟨rfl, rfl⟩) | (with_reducible refine Calls.mono (P2 _) ?_; rintro e w2 ⟨rfl, rfl⟩)))
    go_wp2
    refine bodyPost_ret (v := sv x y 0) (by simp [results, Tryz.results71, go_sem, sv]) rfl ?_
    subst hx hy
    exact ⟨by rw [hb]; rfl, (((Gr.refl w).alloc _).alloc _).drew⟩

end Go.Proofs.YtkdajaphbmclkaaGreatDoor
