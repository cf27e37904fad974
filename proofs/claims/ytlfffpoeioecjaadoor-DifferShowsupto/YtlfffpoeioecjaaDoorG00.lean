/-
  A world that has grown.
-/
import Derived.Test.YtlfffpoeioecjaaDoorProg
import Derived.WalkKit
import Derived.WalkSpells
import Derived.WalkLawsBesides
import Derived.RegionTactic
import Derived.BigRegion
import Derived.BigQuiet
import Derived.Deep.QuietTactic
import Derived.Deep.RegionWith
import Derived.Deep.RegionHeld
import Derived.Deep.Cut
import Derived.Deep.CutRange
import Derived.Shelf.SlSortCmp.QuietGrown
namespace Go.Proofs.YtlfffpoeioecjaaDoor
open Go.RowKit Go.Sort
set_option linter.unusedVariables false

/-- The world has new blocks, and draws. -/
def Gr (w w' : World) : Prop := ∃ q os, w' = grow (w.drewN q) os
theorem Gr.refl (w : World) : Gr w w := ⟨0, #[], by simp; rfl⟩
theorem Gr.trans {a b c : World} (h : Gr a b) (k : Gr b c) : Gr a c := by
  obtain ⟨q, os, rfl⟩ := h
  obtain ⟨q2, os2, rfl⟩ := k
  exact ⟨q + q2, os ++ os2, by show grow (grow ((a.drewN q).drewN q2) os) os2 = _; rw [grow_grow, World.drewN_drewN]⟩
theorem Gr.alloc {a b : World} (h : Gr a b) (o : Obj) : Gr a (b.alloc o) := h.trans ⟨0, #[o], alloc_eq_grow b o⟩
theorem Gr.drew {a b : World} (h : Gr a b) : Gr a b.drew := h.trans ⟨1, #[], by simp; rfl⟩
theorem Gr.drewN {a b : World} (h : Gr a b) (n : Nat) : Gr a (b.drewN n) := h.trans ⟨n, #[], by simp⟩
theorem Gr.size {a b : World} (h : Gr a b) : a.heap.size ≤ b.heap.size := by obtain ⟨q, os, rfl⟩ := h; rw [size_grow]; exact Nat.le_add_right _ _
theorem Gr.block {a b : World} (h : Gr a b) {k : Nat} (hk : k < a.heap.size) : b.heap[k]? = a.heap[k]? := by obtain ⟨q, os, rfl⟩ := h; exact heap_grow_old _ _ hk
theorem Gr.set {a b : World} (h : Gr a b) {k o : Nat} (hk : a.heap.size ≤ k) (v : Value) : Gr a (b.setCell ⟨k, o, none⟩ v) := by
  obtain ⟨q, os, rfl⟩ := h
  exact ⟨q, _, by unfold World.setCell grow; simp only; rw [modify_append_right (a.drewN q).heap os k _ hk]⟩
theorem Gr.below {a b : World} (h : Gr a b) : Below a.heap.size a b := ⟨by obtain ⟨q, os, rfl⟩ := h; rfl, by obtain ⟨q, os, rfl⟩ := h; rfl, by obtain ⟨q, os, rfl⟩ := h; rfl, h.size, fun k hk => h.block hk⟩

end Go.Proofs.YtlfffpoeioecjaaDoor

namespace Go.Proofs.YtlfffpoeioecjaaDoor
open Go.RowKit Go.Sort
set_option linter.unusedVariables false

/-- A block of three numbers. -/
def R3 (T : TypeId) (W : World) (b : Nat) (x y a : Int) : Prop := W.heap[b]? = some (.cells #[.int .i64 x, .int .i64 y, .int .i64 a] T (0, 0))
section
variable {T : TypeId} {W W' : World} {b k o : Nat} {x y a c : Int}
theorem R3.lt (h : R3 T W b x y a) : b < W.heap.size := (Array.getElem?_eq_some_iff.1 h).1
theorem R3.c0 (h : R3 T W b x y a) : W.cell? ⟨b, 0, none⟩ = some (.int .i64 x) := by unfold R3 at h; simp [World.cell?, h]
theorem R3.c1 (h : R3 T W b x y a) : W.cell? ⟨b, 1, none⟩ = some (.int .i64 y) := by unfold R3 at h; simp [World.cell?, h]
theorem R3.c2 (h : R3 T W b x y a) : W.cell? ⟨b, 2, none⟩ = some (.int .i64 a) := by unfold R3 at h; simp [World.cell?, h]
theorem R3.fz (h : R3 T W b x y a) (j : Nat) : W.frozen? ⟨b, j, none⟩ = false := frozen_of_row _ _ _ _ _ h
theorem R3.gr (h : R3 T W b x y a) (g : Gr W W') : R3 T W' b x y a := (g.block h.lt).trans h
theorem R3.new (W : World) (x y a : Int) (T : TypeId) : R3 T (W.alloc (.cells #[.int .i64 x, .int .i64 y, .int .i64 a] T)) W.heap.size x y a := heap_alloc_new _ _
theorem R3.other (h : R3 T W b x y a) (hk : b ≠ k) (v : Value) : R3 T (W.setCell ⟨k, o, none⟩ v) b x y a := (Below.heap_setCell W ⟨k, o, none⟩ v b hk).trans h
theorem R3.set0 (h : R3 T W b x y a) (x' : Int) : R3 T (W.setCell ⟨b, 0, none⟩ (.int .i64 x')) b x' y a := heap_setCell_same _ b 0 _ T _ h
theorem R3.set1 (h : R3 T W b x y a) (y' : Int) : R3 T (W.setCell ⟨b, 1, none⟩ (.int .i64 y')) b x y' a := heap_setCell_same _ b 1 _ T _ h
theorem R3.set2 (h : R3 T W b x y a) (a' : Int) : R3 T (W.setCell ⟨b, 2, none⟩ (.int .i64 a')) b x y a' := heap_setCell_same _ b 2 _ T _ h
theorem R3.set (h : R3 T W b x y a) (x' y' a' : Int) : R3 T (((W.setCell ⟨b, 0, none⟩ (.int .i64 x')).setCell ⟨b, 1, none⟩ (.int .i64 y')).setCell ⟨b, 2, none⟩ (.int .i64 a')) b x' y' a' :=
  ((h.set0 x').set1 y').set2 a'
theorem R3.others (h : R3 T W b x y a) (hk : b ≠ k) (v0 v1 v2 : Value) : R3 T (((W.setCell ⟨k, 0, none⟩ v0).setCell ⟨k, 1, none⟩ v1).setCell ⟨k, 2, none⟩ v2) b x y a := ((h.other hk v0).other hk v1).other hk v2
theorem Gr.set3 (h : Gr W W') (hk : W.heap.size ≤ k) (v0 v1 v2 : Value) : Gr W (((W'.setCell ⟨k, 0, none⟩ v0).setCell ⟨k, 1, none⟩ v1).setCell ⟨k, 2, none⟩ v2) := ((h.set hk v0).set hk v1).set hk v2
end
def sv (f g b : Int) : Value := .agg #[.int .i64 f, .int .i64 g, .int .i64 b]
/-- A number as it counts. -/
def kn (n : Int) : Int := if n < 0 ∨ 8 < n then 0 else n
def bo (n : Int) : Int := if n = 1 then 1 else 0
theorem kn_bd (n : Int) : 0 ≤ kn n ∧ kn n ≤ 8 := by unfold kn; split <;> omega
theorem bo_bd (n : Int) : 0 ≤ bo n ∧ bo n ≤ 1 := by unfold bo; split <;> omega
theorem kn_kn (n : Int) : kn (kn n) = kn n := by unfold kn; (repeat' split) <;> omega
theorem bo_bo (n : Int) : bo (bo n) = bo n := by unfold bo; (repeat' split) <;> omega

set_option maxRecDepth 100000 in
theorem known_any (n : Int) (w : World) : Calls Tryd.prog 104 #[.int .i64 n] w fun e w' => e = .returned (.int .i64 (kn n)) ∧ w' = w := by
  go_enter Tryd.func104, Tryd.ntmps104
  by_cases h1 : n < 0
  · go_wp2
    go_ret
    exact ⟨by rw [show kn n = 0 by unfold kn; rw [if_pos (.inl h1)]]; rfl, rfl⟩
  · by_cases h2 : 8 < n
    · go_wp2
      go_ret
      exact ⟨by rw [show kn n = 0 by unfold kn; rw [if_pos (.inr h2)]]; rfl, rfl⟩
    · go_wp2
      go_ret
      exact ⟨by rw [show kn n = n by unfold kn; rw [if_neg (by omega)]]; rfl, rfl⟩
set_option maxRecDepth 100000 in
theorem rcol_any (n : Int) (w : World) : Calls Tryd.prog 47 #[.int .i64 n] w fun e w' => e = .returned (.int .i64 (kn n)) ∧ w' = w := by
  go_enter Tryd.func47, Tryd.ntmps47
  by_cases h1 : n < 0
  · go_wp2
    go_ret
    exact ⟨by rw [show kn n = 0 by unfold kn; rw [if_pos (.inl h1)]]; rfl, rfl⟩
  · by_cases h2 : 8 < n
    · go_wp2
      go_ret
      exact ⟨by rw [show kn n = 0 by unfold kn; rw [if_pos (.inr h2)]]; rfl, rfl⟩
    · go_wp2
      go_ret
      exact ⟨by rw [show kn n = n by unfold kn; rw [if_neg (by omega)]]; rfl, rfl⟩

set_option maxRecDepth 100000 in
theorem look_any (f g b : Int) (w : World) : Calls Tryd.prog 39 #[sv f g b] w fun e w' => e = .returned (sv f g b) ∧ Gr w w' := by
  unfold sv
  go_enter Tryd.func39, Tryd.ntmps39
  go_wp2
  refine bodyPost_ret (v := sv f g b) (by simp [results, Tryd.results39, go_sem, sv]) rfl ?_
  exact ⟨rfl, ((Gr.refl w).alloc _).alloc _⟩

set_option maxRecDepth 100000 in
set_option maxHeartbeats 2000000 in
theorem counted_any (f g b : Int) (w : World) : Calls Tryd.prog 83 #[sv f g b] w fun e w' => e = .returned (sv (kn f) (kn g) (bo b)) ∧ Gr w w' := by
  have P : Hid (∀ n w, Calls Tryd.prog 104 #[.int .i64 n] w fun e w' => e = .returned (.int .i64 (kn n)) ∧ w' = w) := known_any
  obtain ⟨x, hx⟩ : ∃ z, kn f = z := ⟨_, rfl⟩
  obtain ⟨y, hy⟩ : ∃ z, kn g = z := ⟨_, rfl⟩
  have P1 := P.out f
  have P2 := P.out g
  rw [hx] at P1
  rw [hy] at P2
  unfold sv
  go_enter Tryd.func83, Tryd.ntmps83
  by_cases h : b = 1
  · subst h
    go_wp2_with fail
    go_region_held (fun W => W.cell? ⟨w.heap.size, 0, none⟩ = some (.int .i64 f) ∧ W.cell? ⟨w.heap.size, 1, none⟩ = some (.int .i64 g) ∧ W.cell? ⟨w.heap.size, 2, none⟩ = some (.int .i64 1)) (go_keep) (first | (go_at_call 104; first | (with_reducible refine Calls.mono (P1 _) ?_; rintro e w2 ⟨rfl, rfl⟩) | (with_reducible refine Calls.mono (P2 _) ?_; rintro e w2 ⟨rfl, rfl⟩)))
    go_wp2
    refine bodyPost_ret (v := sv x y 1) (by simp [results, Tryd.results83, go_sem, sv]) rfl ?_
    subst hx hy
    exact ⟨rfl, (((Gr.refl w).alloc _).alloc _).drew⟩
  · have hb : bo b = 0 := if_neg h
    go_wp2_with fail
    go_region_held (fun W => W.cell? ⟨w.heap.size, 0, none⟩ = some (.int .i64 f) ∧ W.cell? ⟨w.heap.size, 1, none⟩ = some (.int .i64 g) ∧ W.cell? ⟨w.heap.size, 2, none⟩ = some (.int .i64 0)) (go_keep) (first | (go_at_call 104; first | (with_reducible refine Calls.mono (P1 _) ?_; rintro e w2 ⟨rfl, rfl⟩) | (with_reducible refine Calls.mono (P2 _) ?_; rintro e w2 ⟨rfl, rfl⟩)))
    go_wp2
    refine bodyPost_ret (v := sv x y 0) (by simp [results, Tryd.results83, go_sem, sv]) rfl ?_
    subst hx hy
    exact ⟨by rw [hb]; rfl, (((Gr.refl w).alloc _).alloc _).drew⟩

end Go.Proofs.YtlfffpoeioecjaaDoor

namespace Go.Proofs.YtlfffpoeioecjaaDoor
open Go.RowKit Go.Sort
set_option linter.unusedVariables false

set_option maxRecDepth 100000 in
set_option maxHeartbeats 2000000 in
theorem sound_any (f g b : Int) (w : World) : Calls Tryd.prog 30 #[sv f g b] w fun e w' => e = .returned (sv (kn f) (kn g) (bo b)) ∧ Gr w w' := by
  have P : Hid (∀ n w, Calls Tryd.prog 47 #[.int .i64 n] w fun e w' => e = .returned (.int .i64 (kn n)) ∧ w' = w) := rcol_any
  obtain ⟨x, hx⟩ : ∃ z, kn f = z := ⟨_, rfl⟩
  obtain ⟨y, hy⟩ : ∃ z, kn g = z := ⟨_, rfl⟩
  have P1 := P.out f
  have P2 := P.out g
  rw [hx] at P1
  rw [hy] at P2
  unfold sv
  go_enter Tryd.func30, Tryd.ntmps30
  by_cases h : b = 1
  · subst h
    go_wp2_with fail
    go_region_held (fun W => W.cell? ⟨w.heap.size, 0, none⟩ = some (.int .i64 f) ∧ W.cell? ⟨w.heap.size, 1, none⟩ = some (.int .i64 g)) (go_keep) (first | (go_at_call 47; first | (with_reducible refine Calls.mono (P1 _) ?_; rintro e w2 ⟨rfl, rfl⟩) | (with_reducible refine Calls.mono (P2 _) ?_; rintro e w2 ⟨rfl, rfl⟩)))
    go_wp2
    refine bodyPost_ret (v := sv x y 1) (by simp [results, Tryd.results30, go_sem, sv]) rfl ?_
    subst hx hy
    exact ⟨rfl, (((Gr.refl w).alloc _).alloc _).drew⟩
  · have hb : bo b = 0 := if_neg h
    go_wp2_with fail
    go_region_held (fun W => W.cell? ⟨w.heap.size, 0, none⟩ = some (.int .i64 f) ∧ W.cell? ⟨w.heap.size, 1, none⟩ = some (.int .i64 g)) (go_keep) (first | (go_at_call 47; first | (with_reducible refine Calls.mono (P1 _) ?_; rintro e w2 ⟨rfl, rfl⟩) | (with_reducible refine Calls.mono (P2 _) ?_; rintro e w2 ⟨rfl, rfl⟩)))
    go_wp2
    refine bodyPost_ret (v := sv x y 0) (by simp [results, Tryd.results30, go_sem, sv]) rfl ?_
    subst hx hy
    exact ⟨by rw [hb]; rfl, (((Gr.refl w).alloc _).alloc _).drew⟩

end Go.Proofs.YtlfffpoeioecjaaDoor

namespace Go.Proofs.YtlfffpoeioecjaaDoor
open Go.RowKit
set_option linter.unusedVariables false

/-- A list of numbers that may be read. -/
def Ints (w : World) (v : Value) (zs : List Int) : Prop :=
  ∃ a cap, v = .slice a zs.length cap ∧ (zs = [] ∨ ∃ b off, a = some ⟨b, off, none⟩ ∧ b < w.heap.size ∧ ∀ j, j < zs.length → w.cell? ⟨b, off + j, none⟩ = some (.int .i64 (zs[j]?.getD 0)))

end Go.Proofs.YtlfffpoeioecjaaDoor

namespace Go.Proofs.YtlfffpoeioecjaaDoor
open Go.RowKit
set_option linter.unusedVariables false


theorem Ints.below {w w' : World} {v : Value} {zs : List Int} (h : Ints w v zs) (hb : Below w.heap.size w w') : Ints w' v zs := by
  obtain ⟨a, cap, rfl, hh⟩ := h
  refine ⟨a, cap, rfl, ?_⟩
  rcases hh with rfl | ⟨b, off, rfl, hl, hc⟩
  · exact .inl rfl
  · exact .inr ⟨b, off, rfl, Nat.lt_of_lt_of_le hl hb.size, fun j hj => (hb.cell (p := ⟨b, off + j, none⟩) hl).trans (hc j hj)⟩

theorem ints_own {w : World} {B n : Nat} {v : Value} {zs : List Int} (h : w.ownsRow B 3 1 v n (zs.map (Value.int .i64))) : Ints w v zs := by
  have hl : zs.length = n := by have := h.1; simpa using this
  rcases h.2 with ⟨rfl, rfl⟩ | ⟨g, cap, cur, rfl, _, hg, _⟩
  · have hz : zs = [] := List.length_eq_zero_iff.1 hl
    subst hz
    exact ⟨none, 0, rfl, .inl rfl⟩
  · refine ⟨some ⟨g, 0, none⟩, cap, by rw [hl], .inr ⟨g, 0, rfl, (Array.getElem?_eq_some_iff.1 hg).1, fun j hj => ?_⟩⟩
    have := h.cells (g := g) rfl j (.int .i64 (zs[j]?.getD 0)) (by simp [hj])
    have e : (⟨g, 0, none⟩ : Addr).add j = ⟨g, 0 + j, none⟩ := by unfold Addr.add; split <;> simp_all
    rwa [e] at this

/-- A list of numbers in a world that has grown. -/
theorem ints_gr {w w' : World} {v : Value} {zs : List Int} (h : Ints w v zs) (g : Gr w w') : Ints w' v zs := h.below g.below

end Go.Proofs.YtlfffpoeioecjaaDoor
