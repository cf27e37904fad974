/-
  A world that has grown.
-/
import Derived.Test.YtlfffpoeioecjaaDoorProg
import Derived.WalkKit
import Derived.WalkSpells
import Derived.WalkLawsBesides
import Derived.RegionTactic
import Derived.BigRegion
import Derived.BigQuiet
import Derived.Deep.QuietTactic
import Derived.Deep.RegionWith
import Derived.Deep.RegionHeld
import Derived.Deep.Cut
import Derived.Deep.CutRange
import Derived.Shelf.SlSortCmp.QuietGrown
import Derived.Test.YtlfffpoeioecjaaDoorX01
import Derived.Laws.AppendOwn
namespace Go.Proofs.YtlfffpoeioecjaaDoor
open Go.RowKit Go.Sort
set_option linter.unusedVariables false

/-- The world has new blocks, and draws. -/
def Gr (w w' : World) : Prop := ∃ q os, w' = grow (w.drewN q) os
theorem Gr.refl (w : World) : Gr w w := ⟨0, #[], by simp; rfl⟩
theorem Gr.trans {a b c : World} (h : Gr a b) (k : Gr b c) : Gr a c := by
  obtain ⟨q, os, rfl⟩ := h
  obtain ⟨q2, os2, rfl⟩ := k
  exact ⟨q + q2, os ++ os2, by show grow (grow ((a.drewN q).drewN q2) os) os2 = _; rw [grow_grow, World.drewN_drewN]⟩
theorem Gr.alloc {a b : World} (h : Gr a b) (o : Obj) : Gr a (b.alloc o) := h.trans ⟨0, #[o], alloc_eq_grow b o⟩
theorem Gr.drew {a b : World} (h : Gr a b) : Gr a b.drew := h.trans ⟨1, #[], by simp; rfl⟩
theorem Gr.drewN {a b : World} (h : Gr a b) (n : Nat) : Gr a (b.drewN n) := h.trans ⟨n, #[], by simp⟩
theorem Gr.size {a b : World} (h : Gr a b) : a.heap.size ≤ b.heap.size := by obtain ⟨q, os, rfl⟩ := h; rw [size_grow]; exact Nat.le_add_right _ _
theorem Gr.block {a b : World} (h : Gr a b) {k : Nat} (hk : k < a.heap.size) : b.heap[k]? = a.heap[k]? := by obtain ⟨q, os, rfl⟩ := h; exact heap_grow_old _ _ hk
theorem Gr.set {a b : World} (h : Gr a b) {k o : Nat} (hk : a.heap.size ≤ k) (v : Value) : Gr a (b.setCell ⟨k, o, none⟩ v) := by
  obtain ⟨q, os, rfl⟩ := h
  exact ⟨q, _, by unfold World.setCell grow; simp only; rw [modify_append_right (a.drewN q).heap os k _ hk]⟩
theorem Gr.below {a b : World} (h : Gr a b) : Below a.heap.size a b := ⟨by obtain ⟨q, os, rfl⟩ := h; rfl, by obtain ⟨q, os, rfl⟩ := h; rfl, by obtain ⟨q, os, rfl⟩ := h; rfl, h.size, fun k hk => h.block hk⟩

end Go.Proofs.YtlfffpoeioecjaaDoor

namespace Go.Proofs.YtlfffpoeioecjaaDoor
open Go.RowKit Go.Sort
set_option linter.unusedVariables false

/-- A block of three numbers. -/
def R3 (T : TypeId) (W : World) (b : Nat) (x y a : Int) : Prop := W.heap[b]? = some (.cells #[.int .i64 x, .int .i64 y, .int .i64 a] T (0, 0))
section
variable {T : TypeId} {W W' : World} {b k o : Nat} {x y a c : Int}
theorem R3.lt (h : R3 T W b x y a) : b < W.heap.size := (Array.getElem?_eq_some_iff.1 h).1
theorem R3.c0 (h : R3 T W b x y a) : W.cell? ⟨b, 0, none⟩ = some (.int .i64 x) := by unfold R3 at h; simp [World.cell?, h]
theorem R3.c1 (h : R3 T W b x y a) : W.cell? ⟨b, 1, none⟩ = some (.int .i64 y) := by unfold R3 at h; simp [World.cell?, h]
theorem R3.c2 (h : R3 T W b x y a) : W.cell? ⟨b, 2, none⟩ = some (.int .i64 a) := by unfold R3 at h; simp [World.cell?, h]
theorem R3.fz (h : R3 T W b x y a) (j : Nat) : W.frozen? ⟨b, j, none⟩ = false := frozen_of_row _ _ _ _ _ h
theorem R3.gr (h : R3 T W b x y a) (g : Gr W W') : R3 T W' b x y a := (g.block h.lt).trans h
theorem R3.new (W : World) (x y a : Int) (T : TypeId) : R3 T (W.alloc (.cells #[.int .i64 x, .int .i64 y, .int .i64 a] T)) W.heap.size x y a := heap_alloc_new _ _
theorem R3.other (h : R3 T W b x y a) (hk : b ≠ k) (v : Value) : R3 T (W.setCell ⟨k, o, none⟩ v) b x y a := (Below.heap_setCell W ⟨k, o, none⟩ v b hk).trans h
theorem R3.set0 (h : R3 T W b x y a) (x' : Int) : R3 T (W.setCell ⟨b, 0, none⟩ (.int .i64 x')) b x' y a := heap_setCell_same _ b 0 _ T _ h
theorem R3.set1 (h : R3 T W b x y a) (y' : Int) : R3 T (W.setCell ⟨b, 1, none⟩ (.int .i64 y')) b x y' a := heap_setCell_same _ b 1 _ T _ h
theorem R3.set2 (h : R3 T W b x y a) (a' : Int) : R3 T (W.setCell ⟨b, 2, none⟩ (.int .i64 a')) b x y a' := heap_setCell_same _ b 2 _ T _ h
theorem R3.set (h : R3 T W b x y a) (x' y' a' : Int) : R3 T (((W.setCell ⟨b, 0, none⟩ (.int .i64 x')).setCell ⟨b, 1, none⟩ (.int .i64 y')).setCell ⟨b, 2, none⟩ (.int .i64 a')) b x' y' a' :=
  ((h.set0 x').set1 y').set2 a'
theorem R3.others (h : R3 T W b x y a) (hk : b ≠ k) (v0 v1 v2 : Value) : R3 T (((W.setCell ⟨k, 0, none⟩ v0).setCell ⟨k, 1, none⟩ v1).setCell ⟨k, 2, none⟩ v2) b x y a := ((h.other hk v0).other hk v1).other hk v2
theorem Gr.set3 (h : Gr W W') (hk : W.heap.size ≤ k) (v0 v1 v2 : Value) : Gr W (((W'.setCell ⟨k, 0, none⟩ v0).setCell ⟨k, 1, none⟩ v1).setCell ⟨k, 2, none⟩ v2) := ((h.set hk v0).set hk v1).set hk v2
end
def sv (f g b : Int) : Value := .agg #[.int .i64 f, .int .i64 g, .int .i64 b]
/-- A number as it counts. -/
def kn (n : Int) : Int := if n < 0 ∨ 8 < n then 0 else n
def bo (n : Int) : Int := if n = 1 then 1 else 0
theorem kn_bd (n : Int) : 0 ≤ kn n ∧ kn n ≤ 8 := by unfold kn; split <;> omega
theorem bo_bd (n : Int) : 0 ≤ bo n ∧ bo n ≤ 1 := by unfold bo; split <;> omega
theorem kn_kn (n : Int) : kn (kn n) = kn n := by unfold kn; (repeat' split) <;> omega
theorem bo_bo (n : Int) : bo (bo n) = bo n := by unfold bo; (repeat' split) <;> omega

set_option maxRecDepth 100000 in
theorem known_any (n : Int) (w : World) : Calls Tryd.prog 104 #[.int .i64 n] w fun e w' => e = .returned (.int .i64 (kn n)) ∧ w' = w := by
  go_enter Tryd.func104, Tryd.ntmps104
  by_cases h1 : n < 0
  · go_wp2
    go_ret
    exact ⟨by rw [show kn n = 0 by unfold kn; rw [if_pos (.inl h1)]]; rfl, rfl⟩
  · by_cases h2 : 8 < n
    · go_wp2
      go_ret
      exact ⟨by rw [show kn n = 0 by unfold kn; rw [if_pos (.inr h2)]]; rfl, rfl⟩
    · go_wp2
      go_ret
      exact ⟨by rw [show kn n = n by unfold kn; rw [if_neg (by omega)]]; rfl, rfl⟩
set_option maxRecDepth 100000 in
theorem rcol_any (n : Int) (w : World) : Calls Tryd.prog 47 #[.int .i64 n] w fun e w' => e = .returned (.int .i64 (kn n)) ∧ w' = w := by
  go_enter Tryd.func47, Tryd.ntmps47
  by_cases h1 : n < 0
  · go_wp2
    go_ret
    exact ⟨by rw [show kn n = 0 by unfold kn; rw [if_pos (.inl h1)]]; rfl, rfl⟩
  · by_cases h2 : 8 < n
    · go_wp2
      go_ret
      exact ⟨by rw [show kn n = 0 by unfold kn; rw [if_pos (.inr h2)]]; rfl, rfl⟩
    · go_wp2
      go_ret
      exact ⟨by rw [show kn n = n by unfold kn; rw [if_neg (by omega)]]; rfl, rfl⟩

set_option maxRecDepth 100000 in
theorem look_any (f g b : Int) (w : World) : Calls Tryd.prog 39 #[sv f g b] w fun e w' => e = .returned (sv f g b) ∧ Gr w w' := by
  unfold sv
  go_enter Tryd.func39, Tryd.ntmps39
  go_wp2
  refine bodyPost_ret (v := sv f g b) (by simp [results, Tryd.results39, go_sem, sv]) rfl ?_
  exact ⟨rfl, ((Gr.refl w).alloc _).alloc _⟩

set_option maxRecDepth 100000 in
set_option maxHeartbeats 2000000 in
theorem counted_any (f g b : Int) (w : World) : Calls Tryd.prog 83 #[sv f g b] w fun e w' => e = .returned (sv (kn f) (kn g) (bo b)) ∧ Gr w w' := by
  have P : Hid (∀ n w, Calls Tryd.prog 104 #[.int .i64 n] w fun e w' => e = .returned (.int .i64 (kn n)) ∧ w' = w) := known_any
  obtain ⟨x, hx⟩ : ∃ z, kn f = z := ⟨_, rfl⟩
  obtain ⟨y, hy⟩ : ∃ z, kn g = z := ⟨_, rfl⟩
  have P1 := P.out f
  have P2 := P.out g
  rw [hx] at P1
  rw [hy] at P2
  unfold sv
  go_enter Tryd.func83, Tryd.ntmps83
  by_cases h : b = 1
  · subst h
    go_wp2_with fail
    go_region_held (fun W => W.cell? ⟨w.heap.size, 0, none⟩ = some (.int .i64 f) ∧ W.cell? ⟨w.heap.size, 1, none⟩ = some (.int .i64 g) ∧ W.cell? ⟨w.heap.size, 2, none⟩ = some (.int .i64 1)) (go_keep) (first | (go_at_call 104; first | (with_reducible refine Calls.mono (P1 _) ?_; rintro e w2 ⟨rfl, rfl⟩) | (with_reducible refine Calls.mono (P2 _) ?_; rintro e w2 ⟨rfl, rfl⟩)))
    go_wp2
    refine bodyPost_ret (v := sv x y 1) (by simp [results, Tryd.results83, go_sem, sv]) rfl ?_
    subst hx hy
    exact ⟨rfl, (((Gr.refl w).alloc _).alloc _).drew⟩
  · have hb : bo b = 0 := if_neg h
    go_wp2_with fail
    go_region_held (fun W => W.cell? ⟨w.heap.size, 0, none⟩ = some (.int .i64 f) ∧ W.cell? ⟨w.heap.size, 1, none⟩ = some (.int .i64 g) ∧ W.cell? ⟨w.heap.size, 2, none⟩ = some (.int .i64 0)) (go_keep) (first | (go_at_call 104; first | (with_reducible refine Calls.mono (P1 _) ?_; rintro e w2 ⟨rfl, rfl⟩) | (with_reducible refine Calls.mono (P2 _) ?_; rintro e w2 ⟨rfl, rfl⟩)))
    go_wp2
    refine bodyPost_ret (v := sv x y 0) (by simp [results, Tryd.results83, go_sem, sv]) rfl ?_
    subst hx hy
    exact ⟨by rw [hb]; rfl, (((Gr.refl w).alloc _).alloc _).drew⟩

end Go.Proofs.YtlfffpoeioecjaaDoor

namespace Go.Proofs.YtlfffpoeioecjaaDoor
open Go.RowKit Go.Sort
set_option linter.unusedVariables false

set_option maxRecDepth 100000 in
set_option maxHeartbeats 2000000 in
theorem sound_any (f g b : Int) (w : World) : Calls Tryd.prog 30 #[sv f g b] w fun e w' => e = .returned (sv (kn f) (kn g) (bo b)) ∧ Gr w w' := by
  have P : Hid (∀ n w, Calls Tryd.prog 47 #[.int .i64 n] w fun e w' => e = .returned (.int .i64 (kn n)) ∧ w' = w) := rcol_any
  obtain ⟨x, hx⟩ : ∃ z, kn f = z := ⟨_, rfl⟩
  obtain ⟨y, hy⟩ : ∃ z, kn g = z := ⟨_, rfl⟩
  have P1 := P.out f
  have P2 := P.out g
  rw [hx] at P1
  rw [hy] at P2
  unfold sv
  go_enter Tryd.func30, Tryd.ntmps30
  by_cases h : b = 1
  · subst h
    go_wp2_with fail
    go_region_held (fun W => W.cell? ⟨w.heap.size, 0, none⟩ = some (.int .i64 f) ∧ W.cell? ⟨w.heap.size, 1, none⟩ = some (.int .i64 g)) (go_keep) (first | (go_at_call 47; first | (with_reducible refine Calls.mono (P1 _) ?_; rintro e w2 ⟨rfl, rfl⟩) | (with_reducible refine Calls.mono (P2 _) ?_; rintro e w2 ⟨rfl, rfl⟩)))
    go_wp2
    refine bodyPost_ret (v := sv x y 1) (by simp [results, Tryd.results30, go_sem, sv]) rfl ?_
    subst hx hy
    exact ⟨rfl, (((Gr.refl w).alloc _).alloc _).drew⟩
  · have hb : bo b = 0 := if_neg h
    go_wp2_with fail
    go_region_held (fun W => W.cell? ⟨w.heap.size, 0, none⟩ = some (.int .i64 f) ∧ W.cell? ⟨w.heap.size, 1, none⟩ = some (.int .i64 g)) (go_keep) (first | (go_at_call 47; first | (with_reducible refine Calls.mono (P1 _) ?_; rintro e w2 ⟨rfl, rfl⟩) | (with_reducible refine Calls.mono (P2 _) ?_; rintro e w2 ⟨rfl, rfl⟩)))
    go_wp2
    refine bodyPost_ret (v := sv x y 0) (by simp [results, Tryd.results30, go_sem, sv]) rfl ?_
    subst hx hy
    exact ⟨by rw [hb]; rfl, (((Gr.refl w).alloc _).alloc _).drew⟩

end Go.Proofs.YtlfffpoeioecjaaDoor

namespace Go.Proofs.YtlfffpoeioecjaaDoor
open Go.RowKit
set_option linter.unusedVariables false


theorem Ints.below {w w' : World} {v : Value} {zs : List Int} (h : Ints w v zs) (hb : Below w.heap.size w w') : Ints w' v zs := by
  obtain ⟨a, cap, rfl, hh⟩ := h
  refine ⟨a, cap, rfl, ?_⟩
  rcases hh with rfl | ⟨b, off, rfl, hl, hc⟩
  · exact .inl rfl
  · exact .inr ⟨b, off, rfl, Nat.lt_of_lt_of_le hl hb.size, fun j hj => (hb.cell (p := ⟨b, off + j, none⟩) hl).trans (hc j hj)⟩

theorem ints_own {w : World} {B n : Nat} {v : Value} {zs : List Int} (h : w.ownsRow B 3 1 v n (zs.map (Value.int .i64))) : Ints w v zs := by
  have hl : zs.length = n := by have := h.1; simpa using this
  rcases h.2 with ⟨rfl, rfl⟩ | ⟨g, cap, cur, rfl, _, hg, _⟩
  · have hz : zs = [] := List.length_eq_zero_iff.1 hl
    subst hz
    exact ⟨none, 0, rfl, .inl rfl⟩
  · refine ⟨some ⟨g, 0, none⟩, cap, by rw [hl], .inr ⟨g, 0, rfl, (Array.getElem?_eq_some_iff.1 hg).1, fun j hj => ?_⟩⟩
    have := h.cells (g := g) rfl j (.int .i64 (zs[j]?.getD 0)) (by simp [hj])
    have e : (⟨g, 0, none⟩ : Addr).add j = ⟨g, 0 + j, none⟩ := by unfold Addr.add; split <;> simp_all
    rwa [e] at this

/-- A list of numbers in a world that has grown. -/
theorem ints_gr {w w' : World} {v : Value} {zs : List Int} (h : Ints w v zs) (g : Gr w w') : Ints w' v zs := h.below g.below

end Go.Proofs.YtlfffpoeioecjaaDoor

namespace Go.Proofs.YtlfffpoeioecjaaDoor
open Go.RowKit
set_option linter.unusedVariables false

def posI (n : Int) : Int := min (max n (-100000)) 100000
def lenI (n : Int) : Int := min (max n 0) 100000
def rv (x y w h : Int) : Value := .agg #[.int .i64 x, .int .i64 y, .int .i64 w, .int .i64 h]
theorem posI_bd (n : Int) : -100000 ≤ posI n ∧ posI n ≤ 100000 := by unfold posI; omega
theorem lenI_bd (n : Int) : 0 ≤ lenI n ∧ lenI n ≤ 100000 := by unfold lenI; omega

set_option maxRecDepth 100000 in
theorem length_any (n : Int) (w : World) : Calls Tryd.prog 145 #[.int .i64 n] w fun e w' => e = .returned (.int .i64 (lenI n)) ∧ w' = w := by
  go_enter Tryd.func145, Tryd.ntmps145
  go_wp2
  all_goals
    go_ret
    refine ⟨?_, rfl⟩
    refine congrArg (fun n : Int => Ending.returned (.int .i64 n)) (?_ : _ = lenI n)
    unfold lenI
    omega
set_option maxRecDepth 100000 in
theorem position_any (n : Int) (w : World) : Calls Tryd.prog 144 #[.int .i64 n] w fun e w' => e = .returned (.int .i64 (posI n)) ∧ w' = w := by
  go_enter Tryd.func144, Tryd.ntmps144
  go_wp2
  all_goals
    go_ret
    refine ⟨?_, rfl⟩
    refine congrArg (fun n : Int => Ending.returned (.int .i64 n)) (?_ : _ = posI n)
    unfold posI
    omega

set_option maxRecDepth 100000 in
set_option maxHeartbeats 2000000 in
theorem clamped_any (x y a b : Int) (w : World) : Calls Tryd.prog 143 #[rv x y a b] w fun e w' => e = .returned (rv (posI x) (posI y) (lenI a) (lenI b)) ∧ w' = ((w.alloc (.cells #[.int .i64 x, .int .i64 y, .int .i64 a, .int .i64 b] 169)).alloc (.cells #[.int .i64 (posI x), .int .i64 (posI y), .int .i64 (lenI a), .int .i64 (lenI b)] 169)).drew := by
  have P : Hid (∀ n w, Calls Tryd.prog 144 #[.int .i64 n] w fun e w' => e = .returned (.int .i64 (posI n)) ∧ w' = w) := position_any
  have G : Hid (∀ n w, Calls Tryd.prog 145 #[.int .i64 n] w fun e w' => e = .returned (.int .i64 (lenI n)) ∧ w' = w) := length_any
  unfold rv
  go_enter Tryd.func143, Tryd.ntmps143
  go_wp2_with fail
  obtain ⟨px, hpx⟩ : ∃ z, posI x = z := ⟨_, rfl⟩
  obtain ⟨py, hpy⟩ : ∃ z, posI y = z := ⟨_, rfl⟩
  obtain ⟨la, hla⟩ : ∃ z, lenI a = z := ⟨_, rfl⟩
  obtain ⟨lb, hlb⟩ : ∃ z, lenI b = z := ⟨_, rfl⟩
  have P1 := P.out x
  have P2 := P.out y
  have G1 := G.out a
  have G2 := G.out b
  rw [hpx] at P1
  rw [hpy] at P2
  rw [hla] at G1
  rw [hlb] at G2
  go_region_held (fun W => W.cell? ⟨w.heap.size, 0, none⟩ = some (.int .i64 x) ∧ W.cell? ⟨w.heap.size, 1, none⟩ = some (.int .i64 y) ∧ W.cell? ⟨w.heap.size, 2, none⟩ = some (.int .i64 a) ∧ W.cell? ⟨w.heap.size, 3, none⟩ = some (.int .i64 b)) (go_keep) (first | (go_at_call 144; first | (refine (P1 _).mono ?_; rintro e w2 ⟨rfl, rfl⟩) | (refine (P2 _).mono ?_; rintro e w2 ⟨rfl, rfl⟩)) | (go_at_call 145; first | (refine (G1 _).mono ?_; rintro e w2 ⟨rfl, rfl⟩) | (refine (G2 _).mono ?_; rintro e w2 ⟨rfl, rfl⟩)))
  go_wp2
  refine bodyPost_ret (v := rv px py la lb) (by simp [results, Tryd.results143, go_sem, rv]) rfl ?_
  subst hpx hpy hla hlb
  exact ⟨rfl, rfl⟩

end Go.Proofs.YtlfffpoeioecjaaDoor

namespace Go.Proofs.YtlfffpoeioecjaaDoor
open Go.RowKit Go.Sort
set_option linter.unusedVariables false

/-- A block of four numbers. -/
def R4 (T : TypeId) (W : World) (b : Nat) (x y a c : Int) : Prop := W.heap[b]? = some (.cells #[.int .i64 x, .int .i64 y, .int .i64 a, .int .i64 c] T (0, 0))
section
variable {T : TypeId} {W W' : World} {b k o : Nat} {x y a c : Int}
theorem R4.lt (h : R4 T W b x y a c) : b < W.heap.size := (Array.getElem?_eq_some_iff.1 h).1
theorem R4.c0 (h : R4 T W b x y a c) : W.cell? ⟨b, 0, none⟩ = some (.int .i64 x) := by unfold R4 at h; simp [World.cell?, h]
theorem R4.c1 (h : R4 T W b x y a c) : W.cell? ⟨b, 1, none⟩ = some (.int .i64 y) := by unfold R4 at h; simp [World.cell?, h]
theorem R4.c2 (h : R4 T W b x y a c) : W.cell? ⟨b, 2, none⟩ = some (.int .i64 a) := by unfold R4 at h; simp [World.cell?, h]
theorem R4.c3 (h : R4 T W b x y a c) : W.cell? ⟨b, 3, none⟩ = some (.int .i64 c) := by unfold R4 at h; simp [World.cell?, h]
theorem R4.fz (h : R4 T W b x y a c) (j : Nat) : W.frozen? ⟨b, j, none⟩ = false := frozen_of_row _ _ _ _ _ h
theorem R4.gr (h : R4 T W b x y a c) (g : Gr W W') : R4 T W' b x y a c := (g.block h.lt).trans h
theorem R4.new (W : World) (x y a c : Int) (T : TypeId) : R4 T (W.alloc (.cells #[.int .i64 x, .int .i64 y, .int .i64 a, .int .i64 c] T)) W.heap.size x y a c := heap_alloc_new _ _
theorem R4.other (h : R4 T W b x y a c) (hk : b ≠ k) (v : Value) : R4 T (W.setCell ⟨k, o, none⟩ v) b x y a c := (Below.heap_setCell W ⟨k, o, none⟩ v b hk).trans h
theorem R4.set (h : R4 T W b x y a c) (x' y' a' c' : Int) : R4 T ((((W.setCell ⟨b, 0, none⟩ (.int .i64 x')).setCell ⟨b, 1, none⟩ (.int .i64 y')).setCell ⟨b, 2, none⟩ (.int .i64 a')).setCell ⟨b, 3, none⟩ (.int .i64 c')) b x' y' a' c' :=
  heap_setCell_same _ b 3 _ T _ (heap_setCell_same _ b 2 _ T _ (heap_setCell_same _ b 1 _ T _ (heap_setCell_same _ b 0 _ T _ h)))
theorem R4.others (h : R4 T W b x y a c) (hk : b ≠ k) (v0 v1 v2 v3 : Value) : R4 T ((((W.setCell ⟨k, 0, none⟩ v0).setCell ⟨k, 1, none⟩ v1).setCell ⟨k, 2, none⟩ v2).setCell ⟨k, 3, none⟩ v3) b x y a c := (((h.other hk v0).other hk v1).other hk v2).other hk v3
theorem Gr.set4 (h : Gr W W') (hk : W.heap.size ≤ k) (v0 v1 v2 v3 : Value) : Gr W ((((W'.setCell ⟨k, 0, none⟩ v0).setCell ⟨k, 1, none⟩ v1).setCell ⟨k, 2, none⟩ v2).setCell ⟨k, 3, none⟩ v3) := (((h.set hk v0).set hk v1).set hk v2).set hk v3
end

theorem clamped_gr (x y a b : Int) (w : World) : Calls Tryd.prog 143 #[rv x y a b] w fun e w' => e = .returned (rv (posI x) (posI y) (lenI a) (lenI b)) ∧ Gr w w' :=
  (clamped_any x y a b w).mono fun e w' ⟨he, hw⟩ => ⟨he, by rw [hw]; exact (((Gr.refl w).alloc _).alloc _).drew⟩

/-- What Cap answers. -/
def capL (ax aw bx bw : Int) : Int := max (posI ax) (posI bx)
def capR (ax aw bx bw : Int) : Int := min (posI ax + lenI aw) (posI bx + lenI bw)
def capV (ax ay aw ah bx by_ bw bh : Int) : Value := if capL ax aw bx bw ≥ capR ax aw bx bw ∨ capL ay ah by_ bh ≥ capR ay ah by_ bh then rv 0 0 0 0 else rv (capL ax aw bx bw) (capL ay ah by_ bh) (capR ax aw bx bw - capL ax aw bx bw) (capR ay ah by_ bh - capL ay ah by_ bh)

set_option maxRecDepth 100000 in
set_option maxHeartbeats 4000000 in
theorem cap_any (ax ay aw ah bx by_ bw bh : Int) (w : World) : Calls Tryd.prog 138 #[rv ax ay aw ah, rv bx by_ bw bh] w fun e w' => e = .returned (capV ax ay aw ah bx by_ bw bh) ∧ Gr w w' := by
  have CC : Hid (∀ x y a b w, Calls Tryd.prog 143 #[rv x y a b] w fun e w' => e = .returned (rv (posI x) (posI y) (lenI a) (lenI b)) ∧ Gr w w') := clamped_gr
  unfold rv at CC ⊢
  go_enter Tryd.func138, Tryd.ntmps138
  go_wp2_with fail
  obtain ⟨A, hA⟩ : ∃ x, w.heap.size = x := ⟨_, rfl⟩
  obtain ⟨W0, hW0⟩ : ∃ x, ((w.alloc (.cells #[.int .i64 ax, .int .i64 ay, .int .i64 aw, .int .i64 ah] 169)).alloc (.cells #[.int .i64 bx, .int .i64 by_, .int .i64 bw, .int .i64 bh] 169)).alloc (.cells #[.int .i64 0, .int .i64 0, .int .i64 0, .int .i64 0] 169) = x := ⟨_, rfl⟩
  have G0 : Hid (Gr w W0) := by rw [← hW0]; exact (((Gr.refl w).alloc _).alloc _).alloc _
  have RA : Hid (R4 169 W0 A ax ay aw ah) := by rw [← hW0, ← hA]; exact (R4.new w _ _ _ _ _).gr (((Gr.refl _).alloc _).alloc _)
  have RB : Hid (R4 169 W0 (A + 1) bx by_ bw bh) := by
    have := R4.new (w.alloc (.cells #[.int .i64 ax, .int .i64 ay, .int .i64 aw, .int .i64 ah] 169)) bx by_ bw bh 169
    simp only [World.size_alloc, hA] at this
    rw [← hW0]; exact this.gr ((Gr.refl _).alloc _)
  have RC : Hid (R4 169 W0 (A + 1 + 1) 0 0 0 0) := by
    have := R4.new ((w.alloc (.cells #[.int .i64 ax, .int .i64 ay, .int .i64 aw, .int .i64 ah] 169)).alloc (.cells #[.int .i64 bx, .int .i64 by_, .int .i64 bw, .int .i64 bh] 169)) 0 0 0 0 169
    simp only [World.size_alloc, hA] at this
    rw [← hW0]; exact this
  rw [hW0, hA]
  clear hW0
  have HA : Hid (w.heap.size = A) := hA
  clear hA
  have a0 := RA.out.c0
  have a1 := RA.out.c1
  have a2 := RA.out.c2
  have a3 := RA.out.c3
  have b0 := RB.out.c0
  have b1 := RB.out.c1
  have b2 := RB.out.c2
  have b3 := RB.out.c3
  obtain ⟨px, hpx⟩ : ∃ z, posI ax = z := ⟨_, rfl⟩
  obtain ⟨py, hpy⟩ : ∃ z, posI ay = z := ⟨_, rfl⟩
  obtain ⟨pa, hpa⟩ : ∃ z, lenI aw = z := ⟨_, rfl⟩
  obtain ⟨pb, hpb⟩ : ∃ z, lenI ah = z := ⟨_, rfl⟩
  obtain ⟨qx, hqx⟩ : ∃ z, posI bx = z := ⟨_, rfl⟩
  obtain ⟨qy, hqy⟩ : ∃ z, posI by_ = z := ⟨_, rfl⟩
  obtain ⟨qa, hqa⟩ : ∃ z, lenI bw = z := ⟨_, rfl⟩
  obtain ⟨qb, hqb⟩ : ∃ z, lenI bh = z := ⟨_, rfl⟩
  go_cut [2, 3, 4] from 9 to 12 (fun u v t wx => u = .pointer (some ⟨A, 0, none⟩) ∧ v = .pointer (some ⟨A + 1, 0, none⟩) ∧ t = .pointer (some ⟨A + 1 + 1, 0, none⟩) ∧ Hid (R4 169 wx A px py pa pb ∧ R4 169 wx (A + 1) qx qy qa qb ∧ R4 169 wx (A + 1 + 1) 0 0 0 0 ∧ Gr w wx))
  case first =>
    go_region_with (go_at_call 143; refine (CC.out _ _ _ _ _).mono ?_; rintro e wn ⟨rfl, hgn⟩; have HGn : Hid (Gr W0 wn) := (by first | exact ((Gr.refl W0).drew).trans hgn | exact Gr.trans (Hid.out (by assumption)) hgn); have HAn : Hid (R4 169 wn A ax ay aw ah) := RA.out.gr HGn.out; have HBn : Hid (R4 169 wn (A + 1) bx by_ bw bh) := RB.out.gr HGn.out; clear hgn; have m0 := HAn.out.c0; have m1 := HAn.out.c1; have m2 := HAn.out.c2; have m3 := HAn.out.c3; have n0 := HBn.out.c0; have n1 := HBn.out.c1; have n2 := HBn.out.c2; have n3 := HBn.out.c3; have f0 := HAn.out.fz 0; have f1 := HAn.out.fz 1; have f2 := HAn.out.fz 2; have f3 := HAn.out.fz 3; have g0 := HBn.out.fz 0; have g1 := HBn.out.fz 1; have g2 := HBn.out.fz 2; have g3 := HBn.out.fz 3)
    all_goals
      have HO : Hid (R4 169 ((((((((wn.setCell ⟨A, 0, none⟩ (.int .i64 px)).setCell ⟨A, 1, none⟩ (.int .i64 py)).setCell ⟨A, 2, none⟩ (.int .i64 pa)).setCell ⟨A, 3, none⟩ (.int .i64 pb)).setCell ⟨A + 1, 0, none⟩ (.int .i64 qx)).setCell ⟨A + 1, 1, none⟩ (.int .i64 qy)).setCell ⟨A + 1, 2, none⟩ (.int .i64 qa)).setCell ⟨A + 1, 3, none⟩ (.int .i64 qb)) A px py pa pb ∧ R4 169 ((((((((wn.setCell ⟨A, 0, none⟩ (.int .i64 px)).setCell ⟨A, 1, none⟩ (.int .i64 py)).setCell ⟨A, 2, none⟩ (.int .i64 pa)).setCell ⟨A, 3, none⟩ (.int .i64 pb)).setCell ⟨A + 1, 0, none⟩ (.int .i64 qx)).setCell ⟨A + 1, 1, none⟩ (.int .i64 qy)).setCell ⟨A + 1, 2, none⟩ (.int .i64 qa)).setCell ⟨A + 1, 3, none⟩ (.int .i64 qb)) (A + 1) qx qy qa qb ∧ R4 169 ((((((((wn.setCell ⟨A, 0, none⟩ (.int .i64 px)).setCell ⟨A, 1, none⟩ (.int .i64 py)).setCell ⟨A, 2, none⟩ (.int .i64 pa)).setCell ⟨A, 3, none⟩ (.int .i64 pb)).setCell ⟨A + 1, 0, none⟩ (.int .i64 qx)).setCell ⟨A + 1, 1, none⟩ (.int .i64 qy)).setCell ⟨A + 1, 2, none⟩ (.int .i64 qa)).setCell ⟨A + 1, 3, none⟩ (.int .i64 qb)) (A + 1 + 1) 0 0 0 0 ∧ Gr w ((((((((wn.setCell ⟨A, 0, none⟩ (.int .i64 px)).setCell ⟨A, 1, none⟩ (.int .i64 py)).setCell ⟨A, 2, none⟩ (.int .i64 pa)).setCell ⟨A, 3, none⟩ (.int .i64 pb)).setCell ⟨A + 1, 0, none⟩ (.int .i64 qx)).setCell ⟨A + 1, 1, none⟩ (.int .i64 qy)).setCell ⟨A + 1, 2, none⟩ (.int .i64 qa)).setCell ⟨A + 1, 3, none⟩ (.int .i64 qb))) :=
        ⟨(HAn.out.set px py pa pb).others (by omega) _ _ _ _, (HBn.out.others (by omega) _ _ _ _).set qx qy qa qb, ((RC.out.gr HGn.out).others (by omega) _ _ _ _).others (by omega) _ _ _ _, ((G0.out.trans HGn.out).set4 (by rw [HA.out]; omega) _ _ _ _).set4 (by rw [HA.out]; omega) _ _ _ _⟩
      clear m0 m1 m2 m3 n0 n1 n2 n3 f0 f1 f2 f3 g0 g1 g2 g3 a0 a1 a2 a3 b0 b1 b2 b3 HAn HBn
      go_wp2_with fail
      go_meet
      exact ⟨rfl, rfl, rfl, HO.out⟩
  case rest =>
    obtain ⟨rfl, rfl, rfl, HO⟩ := hcut
    clear a0 a1 a2 a3 b0 b1 b2 b3 RA RB RC
    have a0 := HO.out.1.c0
    have a1 := HO.out.1.c1
    have a2 := HO.out.1.c2
    have a3 := HO.out.1.c3
    have b0 := HO.out.2.1.c0
    have b1 := HO.out.2.1.c1
    have b2 := HO.out.2.1.c2
    have b3 := HO.out.2.1.c3
    have bpx := posI_bd ax
    have bpy := posI_bd ay
    have bpa := lenI_bd aw
    have bpb := lenI_bd ah
    have bqx := posI_bd bx
    have bqy := posI_bd by_
    have bqa := lenI_bd bw
    have bqb := lenI_bd bh
    rw [hpx] at bpx
    rw [hpy] at bpy
    rw [hpa] at bpa
    rw [hpb] at bpb
    rw [hqx] at bqx
    rw [hqy] at bqy
    rw [hqa] at bqa
    rw [hqb] at bqb
    go_wp2_with fail
    go_cut [5, 6] from 13 to 28 (fun u v wx => u = .int .i64 (max px qx) ∧ v = .int .i64 (min (px + pa) (qx + qa)) ∧ ∃ q, wx = wc.drewN q)
    case first =>
      by_cases h1 : px < qx
      · by_cases h2 : px + pa ≤ qx + qa
        · go_quiet (fail)
          go_wp2_with fail
          go_meet
          exact ⟨congrArg (Value.int .i64) (by omega), congrArg (Value.int .i64) (by omega), _, rfl⟩
        · go_quiet (fail)
          go_wp2_with fail
          go_meet
          exact ⟨congrArg (Value.int .i64) (by omega), congrArg (Value.int .i64) (by omega), _, rfl⟩
      · by_cases h2 : px + pa ≤ qx + qa
        · go_quiet (fail)
          go_wp2_with fail
          go_meet
          exact ⟨congrArg (Value.int .i64) (by omega), congrArg (Value.int .i64) (by omega), _, rfl⟩
        · go_quiet (fail)
          go_wp2_with fail
          go_meet
          exact ⟨congrArg (Value.int .i64) (by omega), congrArg (Value.int .i64) (by omega), _, rfl⟩
    case rest =>
      obtain ⟨rfl, rfl, q1, rfl⟩ := hcut
      go_wp2_with fail
      go_cut [7, 8] from 29 to 44 (fun u v wx => u = .int .i64 (max py qy) ∧ v = .int .i64 (min (py + pb) (qy + qb)) ∧ ∃ q, wx = wc.drewN q)
      case first =>
        by_cases h1 : py < qy
        · by_cases h2 : py + pb ≤ qy + qb
          · go_quiet (fail)
            go_wp2_with fail
            go_meet
            exact ⟨congrArg (Value.int .i64) (by omega), congrArg (Value.int .i64) (by omega), q1 + nq, by first | rfl | exact World.drewN_drewN _ _ _⟩
          · go_quiet (fail)
            go_wp2_with fail
            go_meet
            exact ⟨congrArg (Value.int .i64) (by omega), congrArg (Value.int .i64) (by omega), q1 + nq, by first | rfl | exact World.drewN_drewN _ _ _⟩
        · by_cases h2 : py + pb ≤ qy + qb
          · go_quiet (fail)
            go_wp2_with fail
            go_meet
            exact ⟨congrArg (Value.int .i64) (by omega), congrArg (Value.int .i64) (by omega), q1 + nq, by first | rfl | exact World.drewN_drewN _ _ _⟩
          · go_quiet (fail)
            go_wp2_with fail
            go_meet
            exact ⟨congrArg (Value.int .i64) (by omega), congrArg (Value.int .i64) (by omega), q1 + nq, by first | rfl | exact World.drewN_drewN _ _ _⟩
      case rest =>
        obtain ⟨rfl, rfl, q2, rfl⟩ := hcut
        obtain ⟨W1, hW1⟩ : ∃ z, wc.drewN q2 = z := ⟨_, rfl⟩
        have G1 : Hid (Gr wc W1) := by rw [← hW1]; exact (Gr.refl _).drewN _
        rw [hW1]
        have R1 : Hid (R4 169 W1 (A + 1 + 1) 0 0 0 0) := HO.out.2.2.1.gr G1.out
        have GG : Hid (Gr w W1) := HO.out.2.2.2.trans G1.out
        clear hW1 a0 a1 a2 a3 b0 b1 b2 b3 HO
        have c0 := R1.out.c0
        have c1 := R1.out.c1
        have c2 := R1.out.c2
        have c3 := R1.out.c3
        have f0 := R1.out.fz 0
        have f1 := R1.out.fz 1
        have f2 := R1.out.fz 2
        have f3 := R1.out.fz 3
        obtain ⟨l, hl⟩ : ∃ z, max px qx = z := ⟨_, rfl⟩
        obtain ⟨r, hr⟩ : ∃ z, min (px + pa) (qx + qa) = z := ⟨_, rfl⟩
        obtain ⟨t, ht⟩ : ∃ z, max py qy = z := ⟨_, rfl⟩
        obtain ⟨d, hd⟩ : ∃ z, min (py + pb) (qy + qb) = z := ⟨_, rfl⟩
        have HV : Hid (capV ax ay aw ah bx by_ bw bh = if l ≥ r ∨ t ≥ d then rv 0 0 0 0 else rv l t (r - l) (d - t)) := by
          show _ = _
          unfold capV capL capR
          rw [hpx, hpy, hpa, hpb, hqx, hqy, hqa, hqb, hl, hr, ht, hd]
        have bl : -100000 ≤ l ∧ l ≤ 100000 := by omega
        have br : -100000 ≤ r ∧ r ≤ 200000 := by omega
        have bt : -100000 ≤ t ∧ t ≤ 100000 := by omega
        have bd : -100000 ≤ d ∧ d ≤ 200000 := by omega
        rw [hl, hr, ht, hd]
        clear hpx hpy hpa hpb hqx hqy hqa hqb hl hr ht hd bpx bpy bpa bpb bqx bqy bqa bqb
        by_cases h1 : r ≤ l
        · have e1 : decide (r ≤ l) = true := decide_eq_true h1
          go_wp2
          refine bodyPost_ret (results_cell_row rfl _ _ (A + 1 + 1) _ _ _ _ rfl (R1.out.set 0 0 0 0) Tryd.underlying169 rfl (by kernel_rfl)) rfl ?_
          exact ⟨by rw [HV.out, if_pos (.inl h1)]; rfl, GG.out.set4 (by rw [HA.out]; omega) _ _ _ _⟩
        · have e1 : decide (r ≤ l) = false := decide_eq_false h1
          by_cases h2 : d ≤ t
          · have e2 : decide (d ≤ t) = true := decide_eq_true h2
            go_wp2
            refine bodyPost_ret (results_cell_row rfl _ _ (A + 1 + 1) _ _ _ _ rfl (R1.out.set 0 0 0 0) Tryd.underlying169 rfl (by kernel_rfl)) rfl ?_
            exact ⟨by rw [HV.out, if_pos (.inr h2)]; rfl, GG.out.set4 (by rw [HA.out]; omega) _ _ _ _⟩
          · have e2 : decide (d ≤ t) = false := decide_eq_false h2
            go_wp2
            refine bodyPost_ret (results_cell_row rfl _ _ (A + 1 + 1) _ _ _ _ rfl (R1.out.set l t (r - l) (d - t)) Tryd.underlying169 rfl (by kernel_rfl)) rfl ?_
            exact ⟨by rw [HV.out, if_neg (by omega)]; rfl, GG.out.set4 (by rw [HA.out]; omega) _ _ _ _⟩

end Go.Proofs.YtlfffpoeioecjaaDoor

namespace Go.Proofs.YtlfffpoeioecjaaDoor
set_option linter.unusedVariables false

/-- What Holds answers. -/
def holdB (x y a b px py : Int) : Bool := decide (posI x ≤ px ∧ px < posI x + lenI a ∧ posI y ≤ py ∧ py < posI y + lenI b)
theorem holdB_yes {x y a b px py : Int} (h : posI x ≤ px ∧ px < posI x + lenI a ∧ posI y ≤ py ∧ py < posI y + lenI b) : holdB x y a b px py = true := decide_eq_true h
theorem holdB_no {x y a b px py : Int} (h : ¬ (posI x ≤ px ∧ px < posI x + lenI a ∧ posI y ≤ py ∧ py < posI y + lenI b)) : holdB x y a b px py = false := decide_eq_false h

end Go.Proofs.YtlfffpoeioecjaaDoor

namespace Go.Proofs.YtlfffpoeioecjaaDoor
set_option linter.unusedVariables false

theorem posI_id {n : Int} (h : -100000 ≤ n ∧ n ≤ 100000) : posI n = n := by unfold posI; omega
theorem lenI_id {n : Int} (h : 0 ≤ n ∧ n ≤ 100000) : lenI n = n := by unfold lenI; omega
theorem rv_inj {a b c d a' b' c' d' : Int} (h : rv a b c d = rv a' b' c' d') : a = a' ∧ b = b' ∧ c = c' ∧ d = d' := by
  unfold rv at h; simpa using h
theorem capL_comm (ax aw bx bw : Int) : capL ax aw bx bw = capL bx bw ax aw := by unfold capL; omega
theorem capR_comm (ax aw bx bw : Int) : capR ax aw bx bw = capR bx bw ax aw := by unfold capR; omega
theorem capV_comm (ax ay aw ah bx by_ bw bh : Int) : capV ax ay aw ah bx by_ bw bh = capV bx by_ bw bh ax ay aw ah := by
  unfold capV
  rw [capL_comm ax aw, capR_comm ax aw, capL_comm ay ah, capR_comm ay ah]
theorem cap_bd (ax aw bx bw : Int) : -100000 ≤ capL ax aw bx bw ∧ capL ax aw bx bw ≤ 100000 ∧ capR ax aw bx bw - capL ax aw bx bw ≤ 100000 ∧ posI bx ≤ capL ax aw bx bw ∧ capR ax aw bx bw ≤ posI bx + lenI bw := by
  unfold capL capR
  have h1 := posI_bd ax
  have h2 := posI_bd bx
  have h3 := lenI_bd aw
  have h4 := lenI_bd bw
  omega
theorem cap_in (ax aw bx bw p : Int) : (capL ax aw bx bw ≤ p ∧ p < capR ax aw bx bw) ↔ ((posI ax ≤ p ∧ p < posI ax + lenI aw) ∧ (posI bx ≤ p ∧ p < posI bx + lenI bw)) := by
  unfold capL capR; omega
theorem cap_again {ax ay aw ah bx by_ bw bh c0 c1 c2 c3 : Int} (h : capV ax ay aw ah bx by_ bw bh = rv c0 c1 c2 c3) : capV c0 c1 c2 c3 bx by_ bw bh = rv c0 c1 c2 c3 := by
  unfold capV at h
  have b1 := cap_bd ax aw bx bw
  have b2 := cap_bd ay ah by_ bh
  split at h
  · obtain ⟨rfl, rfl, rfl, rfl⟩ := rv_inj h
    unfold capV
    rw [if_pos]
    left
    unfold capL capR
    rw [posI_id (n := 0) (by omega), lenI_id (n := 0) (by omega)]
    omega
  · rename_i hn
    obtain ⟨h0, h1, h2, h3⟩ := rv_inj h
    generalize capL ax aw bx bw = l at *
    generalize capR ax aw bx bw = r at *
    generalize capL ay ah by_ bh = t at *
    generalize capR ay ah by_ bh = d at *
    subst h0 h1 h2 h3
    have e1 : capL l (r - l) bx bw = l := by unfold capL; rw [posI_id (by omega)]; omega
    have e2 : capR l (r - l) bx bw = r := by unfold capR; rw [posI_id (by omega), lenI_id (by omega)]; omega
    have e3 : capL t (d - t) by_ bh = t := by unfold capL; rw [posI_id (by omega)]; omega
    have e4 : capR t (d - t) by_ bh = d := by unfold capR; rw [posI_id (by omega), lenI_id (by omega)]; omega
    unfold capV
    rw [e1, e2, e3, e4, if_neg (by omega)]
theorem cap_holds {ax ay aw ah bx by_ bw bh c0 c1 c2 c3 : Int} (x y : Int) (h : capV ax ay aw ah bx by_ bw bh = rv c0 c1 c2 c3) : holdB c0 c1 c2 c3 x y = (holdB ax ay aw ah x y && holdB bx by_ bw bh x y) := by
  have i1 := cap_in ax aw bx bw x
  have i2 := cap_in ay ah by_ bh y
  unfold capV at h
  have b1 := cap_bd ax aw bx bw
  have b2 := cap_bd ay ah by_ bh
  unfold holdB
  rw [← Bool.decide_and]
  apply decide_eq_decide.2
  split at h
  · rename_i hn
    obtain ⟨rfl, rfl, rfl, rfl⟩ := rv_inj h
    rw [posI_id (n := 0) (by omega), lenI_id (n := 0) (by omega)]
    constructor
    · intro hh; omega
    · intro hh
      have q1 := i1.2 ⟨⟨hh.1.1, hh.1.2.1⟩, hh.2.1, hh.2.2.1⟩
      have q2 := i2.2 ⟨⟨hh.1.2.2.1, hh.1.2.2.2⟩, hh.2.2.2.1, hh.2.2.2.2⟩
      omega
  · rename_i hn
    obtain ⟨h0, h1, h2, h3⟩ := rv_inj h
    rw [← h0, ← h1, ← h2, ← h3]
    rw [posI_id (n := capL ax aw bx bw) (by omega), lenI_id (n := capR ax aw bx bw - capL ax aw bx bw) (by omega), posI_id (n := capL ay ah by_ bh) (by omega), lenI_id (n := capR ay ah by_ bh - capL ay ah by_ bh) (by omega)]
    constructor
    · intro hh
      have q1 := i1.1 ⟨hh.1, by omega⟩
      have q2 := i2.1 ⟨hh.2.2.1, by omega⟩
      exact ⟨⟨q1.1.1, q1.1.2, q2.1.1, q2.1.2⟩, q1.2.1, q1.2.2, q2.2.1, q2.2.2⟩
    · intro hh
      have q1 := i1.2 ⟨⟨hh.1.1, hh.1.2.1⟩, hh.2.1, hh.2.2.1⟩
      have q2 := i2.2 ⟨⟨hh.1.2.2.1, hh.1.2.2.2⟩, hh.2.2.2.1, hh.2.2.2.2⟩
      omega

end Go.Proofs.YtlfffpoeioecjaaDoor

namespace Go.Proofs.YtlfffpoeioecjaaDoor
set_option linter.unusedVariables false

structure Ce where
  t : ByteArray
  f : Int
  g : Int
  b : Int
  p : Int
def spc : ByteArray := ⟨#[32]⟩
def ept : ByteArray := ⟨#[]⟩
/-- A cell becomes a blank; its style stays. -/
def bl (c : Ce) : Ce := ⟨spc, c.f, c.g, c.b, 0⟩
def bk (f g b : Int) : Ce := ⟨spc, f, g, b, 0⟩
theorem bl_p (c : Ce) : (bl c).p = 0 := rfl
theorem bl_bl (c : Ce) : bl (bl c) = bl c := rfl

/-- A row whose places from a up to z are written. -/
def span (r : Nat → Ce) (a z : Nat) (x : Nat → Ce) : Nat → Ce := fun j =>
  if a ≤ j ∧ j < z then x j
  else if a < z ∧ j + 1 = a ∧ (r a).p = 2 then bl (r j)
  else if a < z ∧ j = z ∧ (r (z - 1)).p = 1 then bl (r j)
  else r j
theorem span_in {r : Nat → Ce} {a z : Nat} {x : Nat → Ce} {j : Nat} (h : a ≤ j ∧ j < z) : span r a z x j = x j := if_pos h
theorem span_none {r : Nat → Ce} {a z : Nat} {x : Nat → Ce} (h : ¬ a < z) : span r a z x = r := by
  funext j; unfold span
  rw [if_neg (by omega), if_neg (fun q => h q.1), if_neg (fun q => h q.1)]
/-- Outside of what is written a cell stays, or becomes a blank. -/
theorem span_out {r : Nat → Ce} {a z : Nat} {x : Nat → Ce} {j : Nat} (h : ¬ (a ≤ j ∧ j < z)) :
    (span r a z x j = r j ∧ ¬ (a < z ∧ j + 1 = a ∧ (r a).p = 2) ∧ ¬ (a < z ∧ j = z ∧ (r (z - 1)).p = 1)) ∨ (span r a z x j = bl (r j) ∧ ((a < z ∧ j + 1 = a ∧ (r a).p = 2) ∨ (a < z ∧ j = z ∧ (r (z - 1)).p = 1))) := by
  unfold span
  rw [if_neg h]
  by_cases h1 : a < z ∧ j + 1 = a ∧ (r a).p = 2
  · right; rw [if_pos h1]; exact ⟨rfl, .inl h1⟩
  · rw [if_neg h1]
    by_cases h2 : a < z ∧ j = z ∧ (r (z - 1)).p = 1
    · right; rw [if_pos h2]; exact ⟨rfl, .inr h2⟩
    · left; rw [if_neg h2]; exact ⟨rfl, h1, h2⟩

/-- In a row every head has its tail, every tail its head. -/
structure PRow (W : Nat) (r : Nat → Ce) : Prop where
  part : ∀ i, i < W → (r i).p = 0 ∨ (r i).p = 1 ∨ (r i).p = 2
  head : ∀ i, i < W → (r i).p = 1 → i + 1 < W ∧ (r (i + 1)).p = 2 ∧ (r (i + 1)).f = (r i).f ∧ (r (i + 1)).g = (r i).g ∧ (r (i + 1)).b = (r i).b
  tail : ∀ i, i < W → (r i).p = 2 → ∃ k, i = k + 1 ∧ (r k).p = 1 ∧ (r i).t = ept

section
variable {W a z : Nat} {r x : Nat → Ce}
/-- What is beside stays in pairs, whatever is written in whole. -/
theorem PRow.beside (h : PRow W r) (zW : z ≤ W) {i : Nat} (hi : i < W) (ho : ¬ (a ≤ i ∧ i < z)) :
    ((span r a z x i).p = 0 ∨ (span r a z x i).p = 1 ∨ (span r a z x i).p = 2)
    ∧ ((span r a z x i).p = 1 → span r a z x i = r i ∧ span r a z x (i + 1) = r (i + 1) ∧ (r i).p = 1)
    ∧ ((span r a z x i).p = 2 → span r a z x i = r i ∧ (r i).p = 2 ∧ ∃ k, i = k + 1 ∧ span r a z x k = r k) := by
  rcases span_out (r := r) (x := x) ho with ⟨e, n1, n2⟩ | ⟨e, hh⟩
  · rw [e]
    refine ⟨h.part i hi, fun hp => ⟨rfl, ?_, hp⟩, fun hp => ⟨rfl, hp, ?_⟩⟩
    · obtain ⟨h1, h2, _⟩ := h.head i hi hp
      by_cases hin : a ≤ i + 1 ∧ i + 1 < z
      · exfalso
        have : i + 1 = a := by omega
        subst this
        exact n1 ⟨by omega, rfl, h2⟩
      · rcases span_out (r := r) (x := x) hin with ⟨e2, _⟩ | ⟨e2, h3 | h3⟩
        · exact e2
        · exfalso
          obtain ⟨k, hk, hk1, _⟩ := h.tail a (by omega) h3.2.2
          have : k = i + 1 := by omega
          subst this
          rw [h2] at hk1; omega
        · exfalso
          omega
    · obtain ⟨k, hk, hk1, _⟩ := h.tail i hi hp
      refine ⟨k, hk, ?_⟩
      by_cases hin : a ≤ k ∧ k < z
      · exfalso
        have : i = z := by omega
        subst this
        refine n2 ⟨by omega, rfl, ?_⟩
        rw [hk, show k + 1 - 1 = k by omega]; exact hk1
      · rcases span_out (r := r) (x := x) hin with ⟨e2, _⟩ | ⟨e2, h3 | h3⟩
        · exact e2
        · exfalso
          omega
        · exfalso
          obtain ⟨q1, q2, _⟩ := h.head (z - 1) (by omega) h3.2.2
          have : z - 1 + 1 = k := by omega
          rw [this, hk1] at q2
          omega
  · rw [e]
    refine ⟨.inl rfl, fun hp => ?_, fun hp => ?_⟩ <;> (rw [bl_p] at hp; omega)
theorem PRow.span0 (h : PRow W r) (zW : z ≤ W) (hx : ∀ j, a ≤ j → j < z → (x j).p = 0) : PRow W (span r a z x) := by
  refine ⟨fun i hi => ?_, fun i hi hp => ?_, fun i hi hp => ?_⟩ <;> by_cases hin : a ≤ i ∧ i < z
  · rw [span_in hin]; exact .inl (hx i hin.1 hin.2)
  · exact (h.beside zW hi hin).1
  · rw [span_in hin, hx i hin.1 hin.2] at hp; omega
  · obtain ⟨e1, e2, e3⟩ := (h.beside zW hi hin).2.1 hp
    rw [e1, e2]; exact h.head i hi e3
  · rw [span_in hin, hx i hin.1 hin.2] at hp; omega
  · obtain ⟨e1, e2, k, hk, e3⟩ := (h.beside zW hi hin).2.2 hp
    obtain ⟨k', hk', h1, h2⟩ := h.tail i hi e2
    obtain rfl : k = k' := by omega
    exact ⟨k, hk, by rw [e3]; exact h1, by rw [e1]; exact h2⟩
theorem PRow.span2 (h : PRow W r) (zW : a + 2 ≤ W) (h1 : (x a).p = 1) (h2 : (x (a + 1)).p = 2) (hf : (x (a + 1)).f = (x a).f) (hg : (x (a + 1)).g = (x a).g) (hb : (x (a + 1)).b = (x a).b) (ht : (x (a + 1)).t = ept) : PRow W (span r a (a + 2) x) := by
  have e0 : span r a (a + 2) x a = x a := span_in (by omega)
  have e1 : span r a (a + 2) x (a + 1) = x (a + 1) := span_in (by omega)
  refine ⟨fun i hi => ?_, fun i hi hp => ?_, fun i hi hp => ?_⟩ <;> by_cases hin : a ≤ i ∧ i < a + 2
  · rcases (by omega : i = a ∨ i = a + 1) with rfl | rfl
    · rw [e0]; exact .inr (.inl h1)
    · rw [e1]; exact .inr (.inr h2)
  · exact (h.beside zW hi hin).1
  · rcases (by omega : i = a ∨ i = a + 1) with rfl | rfl
    · rw [e0, e1]; exact ⟨by omega, h2, hf, hg, hb⟩
    · rw [e1, h2] at hp; omega
  · obtain ⟨q1, q2, q3⟩ := (h.beside zW hi hin).2.1 hp
    rw [q1, q2]; exact h.head i hi q3
  · rcases (by omega : i = a ∨ i = a + 1) with rfl | rfl
    · rw [e0, h1] at hp; omega
    · exact ⟨a, rfl, by rw [e0]; exact h1, by rw [e1]; exact ht⟩
  · obtain ⟨q1, q2, k, hk, q3⟩ := (h.beside zW hi hin).2.2 hp
    obtain ⟨k', hk', r1, r2⟩ := h.tail i hi q2
    obtain rfl : k = k' := by omega
    exact ⟨k, hk, by rw [q3]; exact r1, by rw [q1]; exact r2⟩
/-- Blanks that are put one by one. -/
theorem PRow.next (h : PRow W r) {m : Nat} (am : a ≤ m) (mW : m < W) (hx : ∀ j, (x j).p = 0) : span (span r a m x) m (m + 1) x = span r a (m + 1) x := by
  by_cases e : a = m
  · subst e
    rw [span_none (r := r) (a := a) (z := a) (by omega)]
  have am' : a < m := by omega
  -- the cell at m, as it is before
  have hm : (span r a m x m).p ≠ 2 ∧ ((span r a m x m).p = 1 ↔ (r m).p = 1) := by
    rcases span_out (r := r) (a := a) (z := m) (x := x) (j := m) (by omega) with ⟨e1, _, n2⟩ | ⟨e1, h3 | h3⟩
    · rw [e1]
      refine ⟨fun h2 => ?_, Iff.rfl⟩
      obtain ⟨k, hk, hk1, _⟩ := h.tail m mW h2
      exact n2 ⟨am', rfl, by rw [hk, show k + 1 - 1 = k by omega]; exact hk1⟩
    · omega
    · rw [e1, bl_p]
      refine ⟨by omega, fun q => by omega, fun q => ?_⟩
      obtain ⟨_, q2, _⟩ := h.head (m - 1) (by omega) h3.2.2
      rw [show m - 1 + 1 = m by omega] at q2
      omega
  funext j
  by_cases h1 : a ≤ j ∧ j < m + 1
  · rw [span_in (r := r) h1]
    by_cases h2 : j = m
    · rw [span_in (by omega)]
    · unfold span
      rw [if_neg (by omega), if_neg, if_neg (by omega), if_pos (by omega)]
      rintro ⟨_, _, q⟩
      exact hm.1 q
  · unfold span
    rw [if_neg (by omega), if_neg (by omega), if_neg h1]
    by_cases h2 : j = m + 1
    · subst h2
      have c1 : (m + 1 - 1) = m := by omega
      rw [c1]
      have e0 : span r a m x (m + 1) = r (m + 1) := by
        unfold span; rw [if_neg (by omega), if_neg (by omega), if_neg (by omega)]
      change (if m < m + 1 ∧ m + 1 = m + 1 ∧ (span r a m x m).p = 1 then bl (span r a m x (m + 1)) else span r a m x (m + 1)) = _
      rw [e0, if_neg (c := a < m + 1 ∧ m + 1 + 1 = a ∧ (r a).p = 2) (by omega)]
      by_cases h3 : (r m).p = 1
      · rw [if_pos ⟨by omega, rfl, hm.2.2 h3⟩, if_pos ⟨by omega, rfl, h3⟩]
      · rw [if_neg (fun q => h3 (hm.2.1 q.2.2)), if_neg (fun q => h3 q.2.2)]
    · rw [if_neg (by omega), if_neg (by omega)]
      by_cases h3 : j + 1 = a ∧ (r a).p = 2
      · rw [if_pos ⟨am', h3⟩, if_pos ⟨by omega, h3⟩]
      · rw [if_neg (c := a < m ∧ j + 1 = a ∧ (r a).p = 2) (fun q => h3 q.2), if_neg (c := a < m + 1 ∧ j + 1 = a ∧ (r a).p = 2) (fun q => h3 q.2), if_neg (by omega), if_neg (by omega)]
/-- Written once more with the same, nothing changes. -/
theorem span_again (h0 : (x a).p ≠ 2) (h1 : (x (z - 1)).p ≠ 1) : span (span r a z x) a z x = span r a z x := by
  by_cases haz : a < z
  · funext j
    by_cases hin : a ≤ j ∧ j < z
    · rw [span_in hin, span_in hin]
    · rcases span_out (r := span r a z x) (x := x) hin with ⟨e, _⟩ | ⟨e, hh | hh⟩
      · exact e
      · rw [span_in (by omega)] at hh; exact absurd hh.2.2 h0
      · rw [span_in (by omega)] at hh; exact absurd hh.2.2 h1
  · rw [span_none haz, span_none haz]
end

/-- The places of a rectangle are written, row by row. -/
def fill (c : Nat → Nat → Ce) (l r t d : Nat) (x : Nat → Ce) : Nat → Nat → Ce := fun y => if t ≤ y ∧ y < d then span (c y) l r x else c y
def PAll (W H : Nat) (c : Nat → Nat → Ce) : Prop := ∀ y, y < H → PRow W (c y)
section
variable {W H l r t d : Nat} {c : Nat → Nat → Ce} {x : Nat → Ce}
theorem fill_none (h : ¬ (l < r ∧ t < d)) : fill c l r t d x = c := by
  funext y; unfold fill
  split
  · rw [span_none (by omega)]
  · rfl
theorem PAll.fill0 (h : PAll W H c) (hr : r ≤ W) (hx : ∀ j, (x j).p = 0) : PAll W H (fill c l r t d x) := by
  intro y hy; unfold fill
  split
  · exact (h y hy).span0 hr (fun j _ _ => hx j)
  · exact h y hy
theorem PAll.fill2 (h : PAll W H c) (zW : l + 2 ≤ W) (h1 : (x l).p = 1) (h2 : (x (l + 1)).p = 2) (hf : (x (l + 1)).f = (x l).f) (hg : (x (l + 1)).g = (x l).g) (hb : (x (l + 1)).b = (x l).b) (ht : (x (l + 1)).t = ept) : PAll W H (fill c l (l + 2) t d x) := by
  intro y hy; unfold fill
  split
  · exact (h y hy).span2 zW h1 h2 hf hg hb ht
  · exact h y hy
theorem fill_next (htd : t ≤ d) : fill (fill c l r t d x) l r d (d + 1) x = fill c l r t (d + 1) x := by
  funext y; unfold fill
  by_cases h : y = d
  · subst h
    rw [if_pos (by omega), if_neg (by omega), if_pos (by omega)]
  · rw [if_neg (by omega)]
    by_cases h2 : t ≤ y ∧ y < d
    · rw [if_pos h2, if_pos (by omega)]
    · rw [if_neg h2, if_neg (by omega)]
theorem fill_again (h0 : (x l).p ≠ 2) (h1 : (x (r - 1)).p ≠ 1) : fill (fill c l r t d x) l r t d x = fill c l r t d x := by
  funext y; unfold fill
  split
  · exact span_again h0 h1
  · rfl
/-- A cell beyond what is written stays, or was a half and is a blank now. -/
theorem fill_out (h : PAll W H c) (hr : r ≤ W) {y j : Nat} (hy : y < H) (hj : j < W) (ho : ¬ (t ≤ y ∧ y < d ∧ l ≤ j ∧ j < r)) : fill c l r t d x y j = c y j ∨ (fill c l r t d x y j = bl (c y j) ∧ (c y j).p ≠ 0) := by
  unfold fill
  by_cases h1 : t ≤ y ∧ y < d
  · rw [if_pos h1]
    rcases span_out (r := c y) (a := l) (z := r) (x := x) (j := j) (by omega) with ⟨e, _⟩ | ⟨e, hh | hh⟩
    · exact .inl e
    · refine .inr ⟨e, ?_⟩
      obtain ⟨k, hk, hk1, _⟩ := (h y hy).tail l (by omega) hh.2.2
      have : k = j := by omega
      rw [← this, hk1]; omega
    · refine .inr ⟨e, ?_⟩
      obtain ⟨_, q, _⟩ := (h y hy).head (r - 1) (by omega) hh.2.2
      rw [show r - 1 + 1 = j by omega] at q
      rw [q]; omega
  · rw [if_neg h1]; exact .inl rfl
end
end Go.Proofs.YtlfffpoeioecjaaDoor

namespace Go.Proofs.YtlfffpoeioecjaaDoor
open Go.RowKit
set_option linter.unusedVariables false

/-- Blocks but M are as they were. -/
structure Ch (M : Nat) (W W' : World) : Prop where
  os : W'.os = W.os
  tape : W'.tape = W.tape
  output : W'.output = W.output
  size : W.heap.size ≤ W'.heap.size
  block : ∀ b, b < W.heap.size → b ≠ M → W'.heap[b]? = W.heap[b]?
section
variable {M : Nat} {W W' W2 : World}
theorem Ch.refl (M : Nat) (W : World) : Ch M W W := ⟨rfl, rfl, rfl, Nat.le_refl _, fun _ _ _ => rfl⟩
theorem Ch.trans (h : Ch M W W') (k : Ch M W' W2) : Ch M W W2 :=
  ⟨k.os.trans h.os, k.tape.trans h.tape, k.output.trans h.output, Nat.le_trans h.size k.size, fun b h1 h2 => (k.block b (Nat.lt_of_lt_of_le h1 h.size) h2).trans (h.block b h1 h2)⟩
theorem Ch.below (h : Below W.heap.size W W') : Ch M W W' := ⟨h.os, h.tape, h.output, h.size, fun b h1 _ => h.block b h1⟩
theorem Ch.gr (h : Gr W W') : Ch M W W' := Ch.below h.below
theorem Ch.thenGr (h : Ch M W W') (k : Gr W' W2) : Ch M W W2 := h.trans (Ch.gr k)
theorem Ch.set (h : Ch M W W') {k : Nat} (hk : k = M ∨ W.heap.size ≤ k) (o : Nat) (v : Value) : Ch M W (W'.setCell ⟨k, o, none⟩ v) :=
  ⟨h.os, h.tape, h.output, by simpa [World.setCell] using h.size, fun b h1 h2 => (Below.heap_setCell W' ⟨k, o, none⟩ v b (by show b ≠ k; omega)).trans (h.block b h1 h2)⟩
theorem Ch.low (h : Ch M W W') {B : Nat} (hM : B ≤ M) (hB : B ≤ W.heap.size) {W0 : World} (k : Below B W0 W) : Below B W0 W' :=
  ⟨h.os.trans k.os, h.tape.trans k.tape, h.output.trans k.output, Nat.le_trans k.size h.size, fun b hb => (h.block b (by omega) (by omega)).trans (k.block b hb)⟩
end

def c5 (e : Ce) : List Value := [.string e.t, .int .i64 e.f, .int .i64 e.g, .int .i64 e.b, .int .i64 e.p]
theorem c5_len (e : Ce) : (c5 e).length = 5 := rfl

/-- Cells in a block, row by row. -/
structure Cv (T : TypeId) (Q : World) (M W H : Nat) (c : Nat → Nat → Ce) : Prop where
  arr : ∃ a, Q.heap[M]? = some (.cells a T (0, 0))
  cell : ∀ y x, y < H → x < W → ∀ (k : Nat) u, (c5 (c y x))[k]? = some u → Q.cell? ⟨M, y * W * 5 + x * 5 + k, none⟩ = some u
def upd (c : Nat → Nat → Ce) (y x : Nat) (e : Ce) : Nat → Nat → Ce := fun y' x' => if y' = y ∧ x' = x then e else c y' x'

theorem idx_inj {W y x y' x' : Nat} (hx : x < W) (hx' : x' < W) (h : y * W + x = y' * W + x') : y = y' ∧ x = x' := by
  have h1 : (y * W + x) / W = y := by rw [Nat.mul_comm, Nat.mul_add_div (by omega), Nat.div_eq_of_lt hx, Nat.add_zero]
  have h2 : (y' * W + x') / W = y' := by rw [Nat.mul_comm, Nat.mul_add_div (by omega), Nat.div_eq_of_lt hx', Nat.add_zero]
  have : y = y' := by rw [← h1, ← h2, h]
  subst this
  exact ⟨rfl, by omega⟩
theorem off_inj {W y x k y' x' k' : Nat} (hx : x < W) (hx' : x' < W) (hk : k < 5) (hk' : k' < 5) (h : y * W * 5 + x * 5 + k = y' * W * 5 + x' * 5 + k') : y = y' ∧ x = x' ∧ k = k' := by
  generalize hp : y * W = p at *
  generalize hq : y' * W = q at *
  have h1 : p + x = q + x' ∧ k = k' := by omega
  have := idx_inj (y := y) (y' := y') hx hx' (by rw [hp, hq]; exact h1.1)
  exact ⟨this.1, this.2, h1.2⟩

section
variable {T : TypeId} {Q Q' : World} {M W H : Nat} {c c' : Nat → Nat → Ce}
theorem Cv.lt (h : Cv T Q M W H c) : M < Q.heap.size := by obtain ⟨a, ha⟩ := h.arr; exact (Array.getElem?_eq_some_iff.1 ha).1
theorem Cv.fz (h : Cv T Q M W H c) (j : Nat) : Q.frozen? ⟨M, j, none⟩ = false := by obtain ⟨a, ha⟩ := h.arr; exact frozen_of_row _ _ _ _ _ ha
theorem Cv.keep (h : Cv T Q M W H c) (hb : Q'.heap[M]? = Q.heap[M]?) : Cv T Q' M W H c := by
  obtain ⟨a, ha⟩ := h.arr
  exact ⟨⟨a, hb.trans ha⟩, fun y x hy hx k u hu => (World.cell?_of_block (a := ⟨M, _, none⟩) hb).trans (h.cell y x hy hx k u hu)⟩
theorem Cv.gr (h : Cv T Q M W H c) (g : Gr Q Q') : Cv T Q' M W H c := h.keep (g.block h.lt)
theorem Cv.ch {N : Nat} (h : Cv T Q M W H c) (g : Ch N Q Q') (hN : M ≠ N) : Cv T Q' M W H c := h.keep (g.block M h.lt hN)
theorem Cv.other {k : Nat} (h : Cv T Q M W H c) (hk : M ≠ k) (o : Nat) (v : Value) : Cv T (Q.setCell ⟨k, o, none⟩ v) M W H c := h.keep (Below.heap_setCell Q ⟨k, o, none⟩ v M hk)
theorem Cv.same (h : Cv T Q M W H c) (hc : ∀ y x, y < H → x < W → c y x = c' y x) : Cv T Q M W H c' :=
  ⟨h.arr, fun y x hy hx k u hu => h.cell y x hy hx k u (by rw [hc y x hy hx]; exact hu)⟩
/-- One part of one cell written. -/
theorem Cv.set1 (h : Cv T Q M W H c) {y x k : Nat} (hy : y < H) (hx : x < W) (hk : k < 5) (v : Value) (hc : ∀ y' x', c' y' x' = if y' = y ∧ x' = x then c' y x else c y' x') (he : c5 (c' y x) = (c5 (c y x)).set k v) :
    Cv T (Q.setCell ⟨M, y * W * 5 + x * 5 + k, none⟩ v) M W H c' := by
  obtain ⟨a, ha⟩ := h.arr
  refine ⟨⟨_, heap_setCell_same _ M _ _ _ _ ha⟩, fun y' x' hy' hx' k' u hu => ?_⟩
  have hk' : k' < 5 := (List.getElem?_eq_some_iff.1 hu).1
  have old := h.cell y x hy hx k _ (List.getElem?_eq_getElem (show k < (c5 (c y x)).length from hk))
  by_cases e : y' = y ∧ x' = x
  · obtain ⟨rfl, rfl⟩ := e
    rw [he] at hu
    by_cases e2 : k' = k
    · subst e2
      rw [List.getElem?_set_self (show k' < (c5 (c y' x')).length from hk)] at hu
      injection hu with hu
      subst hu
      exact World.cell?_setCell_same _ _ _ old
    · rw [List.getElem?_set_ne (by omega)] at hu
      rw [World.cell?_setCell_other _ _ _ _ (fun q => by injection q with _ q _; omega)]
      exact h.cell y' x' hy' hx' k' u hu
  · rw [hc y' x', if_neg e] at hu
    rw [World.cell?_setCell_other _ _ _ _]
    · exact h.cell y' x' hy' hx' k' u hu
    · intro q
      injection q with _ q _
      have := off_inj hx hx' hk hk' q
      exact e ⟨this.1.symm, this.2.1.symm⟩
/-- One cell written. -/
theorem Cv.set (h : Cv T Q M W H c) {y x : Nat} (hy : y < H) (hx : x < W) (e : Ce) :
    Cv T (((((Q.setCell ⟨M, y * W * 5 + x * 5, none⟩ (.string e.t)).setCell ⟨M, y * W * 5 + x * 5 + 1, none⟩ (.int .i64 e.f)).setCell ⟨M, y * W * 5 + x * 5 + 2, none⟩ (.int .i64 e.g)).setCell ⟨M, y * W * 5 + x * 5 + 3, none⟩ (.int .i64 e.b)).setCell ⟨M, y * W * 5 + x * 5 + 4, none⟩ (.int .i64 e.p)) M W H (upd c y x e) := by
  have u0 : ∀ e, upd c y x e y x = e := fun e => by unfold upd; rw [if_pos ⟨rfl, rfl⟩]
  have nx : ∀ e e', ∀ y' x', upd c y x e' y' x' = if y' = y ∧ x' = x then upd c y x e' y x else upd c y x e y' x' := fun e e' y' x' => by
    rw [u0]; unfold upd; split <;> rfl
  have h0 := h.set1 (c' := upd c y x { c y x with t := e.t }) (k := 0) hy hx (by omega) (.string e.t) (fun y' x' => by rw [u0]; rfl) (by rw [u0]; rfl)
  have h1 := h0.set1 (c' := upd c y x { c y x with t := e.t, f := e.f }) (k := 1) hy hx (by omega) (.int .i64 e.f) (nx _ _) (by rw [u0, u0]; rfl)
  have h2 := h1.set1 (c' := upd c y x { c y x with t := e.t, f := e.f, g := e.g }) (k := 2) hy hx (by omega) (.int .i64 e.g) (nx _ _) (by rw [u0, u0]; rfl)
  have h3 := h2.set1 (c' := upd c y x { c y x with t := e.t, f := e.f, g := e.g, b := e.b }) (k := 3) hy hx (by omega) (.int .i64 e.b) (nx _ _) (by rw [u0, u0]; rfl)
  exact h3.set1 (c' := upd c y x e) (k := 4) hy hx (by omega) (.int .i64 e.p) (nx _ _) (by rw [u0, u0]; rfl)
theorem Cv.setPart (h : Cv T Q M W H c) {y x : Nat} (hy : y < H) (hx : x < W) (p : Int) :
    Cv T (Q.setCell ⟨M, y * W * 5 + x * 5 + 4, none⟩ (.int .i64 p)) M W H (upd c y x { c y x with p := p }) :=
  h.set1 (k := 4) hy hx (by omega) _ (fun y' x' => by unfold upd; simp) (by unfold upd; rw [if_pos ⟨rfl, rfl⟩]; rfl)
theorem Cv.setText (h : Cv T Q M W H c) {y x : Nat} (hy : y < H) (hx : x < W) (s : ByteArray) :
    Cv T (Q.setCell ⟨M, y * W * 5 + x * 5 + 0, none⟩ (.string s)) M W H (upd c y x { c y x with t := s }) :=
  h.set1 (k := 0) hy hx (by omega) _ (fun y' x' => by unfold upd; simp) (by unfold upd; rw [if_pos ⟨rfl, rfl⟩]; rfl)
theorem Cv.c0 (h : Cv T Q M W H c) {y x : Nat} (hy : y < H) (hx : x < W) : Q.cell? ⟨M, y * W * 5 + x * 5, none⟩ = some (.string (c y x).t) := h.cell y x hy hx 0 _ rfl
theorem Cv.c1 (h : Cv T Q M W H c) {y x : Nat} (hy : y < H) (hx : x < W) : Q.cell? ⟨M, y * W * 5 + x * 5 + 1, none⟩ = some (.int .i64 (c y x).f) := h.cell y x hy hx 1 _ rfl
theorem Cv.c2 (h : Cv T Q M W H c) {y x : Nat} (hy : y < H) (hx : x < W) : Q.cell? ⟨M, y * W * 5 + x * 5 + 2, none⟩ = some (.int .i64 (c y x).g) := h.cell y x hy hx 2 _ rfl
theorem Cv.c3 (h : Cv T Q M W H c) {y x : Nat} (hy : y < H) (hx : x < W) : Q.cell? ⟨M, y * W * 5 + x * 5 + 3, none⟩ = some (.int .i64 (c y x).b) := h.cell y x hy hx 3 _ rfl
theorem Cv.c4 (h : Cv T Q M W H c) {y x : Nat} (hy : y < H) (hx : x < W) : Q.cell? ⟨M, y * W * 5 + x * 5 + 4, none⟩ = some (.int .i64 (c y x).p) := h.cell y x hy hx 4 _ rfl
end

/-- A canvas at K, its cells at M. -/
structure CS (TK T : TypeId) (Q : World) (K M cap W H : Nat) (c : Nat → Nat → Ce) : Prop where
  kb : Q.heap[K]? = some (.cells #[.int .i64 W, .int .i64 H, .slice (some ⟨M, 0, none⟩) (W * H) cap] TK (0, 0))
  cv : Cv T Q M W H c
  ne : K ≠ M
  hc : W * H ≤ cap
section
variable {TK T : TypeId} {Q Q' : World} {K M cap W H : Nat} {c c' : Nat → Nat → Ce}
theorem CS.klt (h : CS TK T Q K M cap W H c) : K < Q.heap.size := (Array.getElem?_eq_some_iff.1 h.kb).1
theorem CS.k0 (h : CS TK T Q K M cap W H c) : Q.cell? ⟨K, 0, none⟩ = some (.int .i64 W) := by have := h.kb; simp [World.cell?, this]
theorem CS.k1 (h : CS TK T Q K M cap W H c) : Q.cell? ⟨K, 1, none⟩ = some (.int .i64 H) := by have := h.kb; simp [World.cell?, this]
theorem CS.k2 (h : CS TK T Q K M cap W H c) : Q.cell? ⟨K, 2, none⟩ = some (.slice (some ⟨M, 0, none⟩) (W * H) cap) := by have := h.kb; simp [World.cell?, this]
theorem CS.ch {N : Nat} (h : CS TK T Q K M cap W H c) (g : Ch N Q Q') (h1 : K ≠ N) (h2 : M ≠ N) : CS TK T Q' K M cap W H c := ⟨(g.block K h.klt h1).trans h.kb, h.cv.ch g h2, h.ne, h.hc⟩
theorem CS.gr (h : CS TK T Q K M cap W H c) (g : Gr Q Q') : CS TK T Q' K M cap W H c := ⟨(g.block h.klt).trans h.kb, h.cv.gr g, h.ne, h.hc⟩
/-- The cells are others now. -/
theorem CS.put (h : CS TK T Q K M cap W H c) (g : Ch M Q Q') (hc : Cv T Q' M W H c') : CS TK T Q' K M cap W H c' := ⟨(g.block K h.klt h.ne).trans h.kb, hc, h.ne, h.hc⟩
end
end Go.Proofs.YtlfffpoeioecjaaDoor
