/-
  A block of three numbers; a style as it counts.
-/
import Derived.Test.YtlfffpoeioecjaaDoorS00
import Derived.Test.YtlfffpoeioecjaaDoorProg
import Derived.WalkKit
import Derived.WalkSpells
import Derived.WalkLawsBesides
import Derived.RegionTactic
import Derived.BigRegion
import Derived.BigQuiet
import Derived.Deep.QuietTactic
import Derived.Deep.RegionWith
import Derived.Deep.RegionHeld
import Derived.Deep.Cut
import Derived.Deep.CutRange
import Derived.Shelf.SlSortCmp.QuietGrown
namespace Go.Proofs.YtlfffpoeioecjaaDoor
open Go.RowKit Go.Sort
set_option linter.unusedVariables false

/-- A block of three numbers. -/
def R3 (T : TypeId) (W : World) (b : Nat) (x y a : Int) : Prop := W.heap[b]? = some (.cells #[.int .i64 x, .int .i64 y, .int .i64 a] T (0, 0))
section
variable {T : TypeId} {W W' : World} {b k o : Nat} {x y a c : Int}
theorem R3.lt (h : R3 T W b x y a) : b < W.heap.size := (Array.getElem?_eq_some_iff.1 h).1
theorem R3.c0 (h : R3 T W b x y a) : W.cell? ⟨b, 0, none⟩ = some (.int .i64 x) := by unfold R3 at h; simp [World.cell?, h]
theorem R3.c1 (h : R3 T W b x y a) : W.cell? ⟨b, 1, none⟩ = some (.int .i64 y) := by unfold R3 at h; simp [World.cell?, h]
theorem R3.c2 (h : R3 T W b x y a) : W.cell? ⟨b, 2, none⟩ = some (.int .i64 a) := by unfold R3 at h; simp [World.cell?, h]
theorem R3.fz (h : R3 T W b x y a) (j : Nat) : W.frozen? ⟨b, j, none⟩ = false := frozen_of_row _ _ _ _ _ h
theorem R3.gr (h : R3 T W b x y a) (g : Gr W W') : R3 T W' b x y a := (g.block h.lt).trans h
theorem R3.new (W : World) (x y a : Int) (T : TypeId) : R3 T (W.alloc (.cells #[.int .i64 x, .int .i64 y, .int .i64 a] T)) W.heap.size x y a := heap_alloc_new _ _
theorem R3.other (h : R3 T W b x y a) (hk : b ≠ k) (v : Value) : R3 T (W.setCell ⟨k, o, none⟩ v) b x y a := (Below.heap_setCell W ⟨k, o, none⟩ v b hk).trans h
theorem R3.set0 (h : R3 T W b x y a) (x' : Int) : R3 T (W.setCell ⟨b, 0, none⟩ (.int .i64 x')) b x' y a := heap_setCell_same _ b 0 _ T _ h
theorem R3.set1 (h : R3 T W b x y a) (y' : Int) : R3 T (W.setCell ⟨b, 1, none⟩ (.int .i64 y')) b x y' a := heap_setCell_same _ b 1 _ T _ h
theorem R3.set2 (h : R3 T W b x y a) (a' : Int) : R3 T (W.setCell ⟨b, 2, none⟩ (.int .i64 a')) b x y a' := heap_setCell_same _ b 2 _ T _ h
theorem R3.set (h : R3 T W b x y a) (x' y' a' : Int) : R3 T (((W.setCell ⟨b, 0, none⟩ (.int .i64 x')).setCell ⟨b, 1, none⟩ (.int .i64 y')).setCell ⟨b, 2, none⟩ (.int .i64 a')) b x' y' a' :=
  ((h.set0 x').set1 y').set2 a'
theorem R3.others (h : R3 T W b x y a) (hk : b ≠ k) (v0 v1 v2 : Value) : R3 T (((W.setCell ⟨k, 0, none⟩ v0).setCell ⟨k, 1, none⟩ v1).setCell ⟨k, 2, none⟩ v2) b x y a := ((h.other hk v0).other hk v1).other hk v2
theorem Gr.set3 (h : Gr W W') (hk : W.heap.size ≤ k) (v0 v1 v2 : Value) : Gr W (((W'.setCell ⟨k, 0, none⟩ v0).setCell ⟨k, 1, none⟩ v1).setCell ⟨k, 2, none⟩ v2) := ((h.set hk v0).set hk v1).set hk v2
end
def sv (f g b : Int) : Value := .agg #[.int .i64 f, .int .i64 g, .int .i64 b]
/-- A number as it counts. -/
def kn (n : Int) : Int := if n < 0 ∨ 8 < n then 0 else n
def bo (n : Int) : Int := if n = 1 then 1 else 0
theorem kn_bd (n : Int) : 0 ≤ kn n ∧ kn n ≤ 8 := by unfold kn; split <;> omega
theorem bo_bd (n : Int) : 0 ≤ bo n ∧ bo n ≤ 1 := by unfold bo; split <;> omega
theorem kn_kn (n : Int) : kn (kn n) = kn n := by unfold kn; (repeat' split) <;> omega
theorem bo_bo (n : Int) : bo (bo n) = bo n := by unfold bo; (repeat' split) <;> omega

set_option maxRecDepth 100000 in
theorem known_any (n : Int) (w : World) : Calls Tryd.prog 104 #[.int .i64 n] w fun e w' => e = .returned (.int .i64 (kn n)) ∧ w' = w := by
  go_enter Tryd.func104, Tryd.ntmps104
  by_cases h1 : n < 0
  · go_wp2
    go_ret
    exact ⟨by rw [show kn n = 0 by unfold kn; rw [if_pos (.inl h1)]]; rfl, rfl⟩
  · by_cases h2 : 8 < n
    · go_wp2
      go_ret
      exact ⟨by rw [show kn n = 0 by unfold kn; rw [if_pos (.inr h2)]]; rfl, rfl⟩
    · go_wp2
      go_ret
      exact ⟨by rw [show kn n = n by unfold kn; rw [if_neg (by omega)]]; rfl, rfl⟩
set_option maxRecDepth 100000 in
theorem rcol_any (n : Int) (w : World) : Calls Tryd.prog 47 #[.int .i64 n] w fun e w' => e = .returned (.int .i64 (kn n)) ∧ w' = w := by
  go_enter Tryd.func47, Tryd.ntmps47
  by_cases h1 : n < 0
  · go_wp2
    go_ret
    exact ⟨by rw [show kn n = 0 by unfold kn; rw [if_pos (.inl h1)]]; rfl, rfl⟩
  · by_cases h2 : 8 < n
    · go_wp2
      go_ret
      exact ⟨by rw [show kn n = 0 by unfold kn; rw [if_pos (.inr h2)]]; rfl, rfl⟩
    · go_wp2
      go_ret
      exact ⟨by rw [show kn n = n by unfold kn; rw [if_neg (by omega)]]; rfl, rfl⟩

set_option maxRecDepth 100000 in
theorem look_any (f g b : Int) (w : World) : Calls Tryd.prog 39 #[sv f g b] w fun e w' => e = .returned (sv f g b) ∧ Gr w w' := by
  unfold sv
  go_enter Tryd.func39, Tryd.ntmps39
  go_wp2
  refine bodyPost_ret (v := sv f g b) (by simp [results, Tryd.results39, go_sem, sv]) rfl ?_
  exact ⟨rfl, ((Gr.refl w).alloc _).alloc _⟩

set_option maxRecDepth 100000 in
set_option maxHeartbeats 2000000 in
theorem counted_any (f g b : Int) (w : World) : Calls Tryd.prog 83 #[sv f g b] w fun e w' => e = .returned (sv (kn f) (kn g) (bo b)) ∧ Gr w w' := by
  have P : Hid (∀ n w, Calls Tryd.prog 104 #[.int .i64 n] w fun e w' => e = .returned (.int .i64 (kn n)) ∧ w' = w) := known_any
  obtain ⟨x, hx⟩ : ∃ z, kn f = z := ⟨_, rfl⟩
  obtain ⟨y, hy⟩ : ∃ z, kn g = z := ⟨_, rfl⟩
  have P1 := P.out f
  have P2 := P.out g
  rw [hx] at P1
  rw [hy] at P2
  unfold sv
  go_enter Tryd.func83, Tryd.ntmps83
  by_cases h : b = 1
  · subst h
    go_wp2_with fail
    go_region_held (fun W => W.cell? ⟨w.heap.size, 0, none⟩ = some (.int .i64 f) ∧ W.cell? ⟨w.heap.size, 1, none⟩ = some (.int .i64 g) ∧ W.cell? ⟨w.heap.size, 2, none⟩ = some (.int .i64 1)) (go_keep) (first | (go_at_call 104; first | (with_reducible refine Calls.mono (P1 _) ?_; rintro e w2 ⟨rfl, rfl⟩) | (with_reducible refine Calls.mono (P2 _) ?_; rintro e w2 ⟨rfl, rfl⟩)))
    go_wp2
    refine bodyPost_ret (v := sv x y 1) (by simp [results, Tryd.results83, go_sem, sv]) rfl ?_
    subst hx hy
    exact ⟨rfl, (((Gr.refl w).alloc _).alloc _).drew⟩
  · have hb : bo b = 0 := if_neg h
    go_wp2_with fail
    go_region_held (fun W => W.cell? ⟨w.heap.size, 0, none⟩ = some (.int .i64 f) ∧ W.cell? ⟨w.heap.size, 1, none⟩ = some (.int .i64 g) ∧ W.cell? ⟨w.heap.size, 2, none⟩ = some (.int .i64 0)) (go_keep) (first | (go_at_call 104; first | (with_reducible refine Calls.mono (P1 _) ?_; rintro e w2 ⟨rfl, rfl⟩) | (with_reducible refine Calls.mono (P2 _) ?_; rintro e w2 ⟨rfl, rfl⟩)))
    go_wp2
    refine bodyPost_ret (v := sv x y 0) (by simp [results, Tryd.results83, go_sem, sv]) rfl ?_
    subst hx hy
    exact ⟨by rw [hb]; rfl, (((Gr.refl w).alloc _).alloc _).drew⟩

end Go.Proofs.YtlfffpoeioecjaaDoor

namespace Go.Proofs.YtlfffpoeioecjaaDoor
open Go.RowKit Go.Sort
set_option linter.unusedVariables false

set_option maxRecDepth 100000 in
set_option maxHeartbeats 2000000 in
theorem sound_any (f g b : Int) (w : World) : Calls Tryd.prog 30 #[sv f g b] w fun e w' => e = .returned (sv (kn f) (kn g) (bo b)) ∧ Gr w w' := by
  have P : Hid (∀ n w, Calls Tryd.prog 47 #[.int .i64 n] w fun e w' => e = .returned (.int .i64 (kn n)) ∧ w' = w) := rcol_any
  obtain ⟨x, hx⟩ : ∃ z, kn f = z := ⟨_, rfl⟩
  obtain ⟨y, hy⟩ : ∃ z, kn g = z := ⟨_, rfl⟩
  have P1 := P.out f
  have P2 := P.out g
  rw [hx] at P1
  rw [hy] at P2
  unfold sv
  go_enter Tryd.func30, Tryd.ntmps30
  by_cases h : b = 1
  · subst h
    go_wp2_with fail
    go_region_held (fun W => W.cell? ⟨w.heap.size, 0, none⟩ = some (.int .i64 f) ∧ W.cell? ⟨w.heap.size, 1, none⟩ = some (.int .i64 g)) (go_keep) (first | (go_at_call 47; first | (with_reducible refine Calls.mono (P1 _) ?_; rintro e w2 ⟨rfl, rfl⟩) | (with_reducible refine Calls.mono (P2 _) ?_; rintro e w2 ⟨rfl, rfl⟩)))
    go_wp2
    refine bodyPost_ret (v := sv x y 1) (by simp [results, Tryd.results30, go_sem, sv]) rfl ?_
    subst hx hy
    exact ⟨rfl, (((Gr.refl w).alloc _).alloc _).drew⟩
  · have hb : bo b = 0 := if_neg h
    go_wp2_with fail
    go_region_held (fun W => W.cell? ⟨w.heap.size, 0, none⟩ = some (.int .i64 f) ∧ W.cell? ⟨w.heap.size, 1, none⟩ = some (.int .i64 g)) (go_keep) (first | (go_at_call 47; first | (with_reducible refine Calls.mono (P1 _) ?_; rintro e w2 ⟨rfl, rfl⟩) | (with_reducible refine Calls.mono (P2 _) ?_; rintro e w2 ⟨rfl, rfl⟩)))
    go_wp2
    refine bodyPost_ret (v := sv x y 0) (by simp [results, Tryd.results30, go_sem, sv]) rfl ?_
    subst hx hy
    exact ⟨by rw [hb]; rfl, (((Gr.refl w).alloc _).alloc _).drew⟩

end Go.Proofs.YtlfffpoeioecjaaDoor

namespace Go.Proofs.YtlfffpoeioecjaaDoor
open Go.RowKit
set_option linter.unusedVariables false


theorem Ints.below {w w' : World} {v : Value} {zs : List Int} (h : Ints w v zs) (hb : Below w.heap.size w w') : Ints w' v zs := by
  obtain ⟨a, cap, rfl, hh⟩ := h
  refine ⟨a, cap, rfl, ?_⟩
  rcases hh with rfl | ⟨b, off, rfl, hl, hc⟩
  · exact .inl rfl
  · exact .inr ⟨b, off, rfl, Nat.lt_of_lt_of_le hl hb.size, fun j hj => (hb.cell (p := ⟨b, off + j, none⟩) hl).trans (hc j hj)⟩

theorem ints_own {w : World} {B n : Nat} {v : Value} {zs : List Int} (h : w.ownsRow B 3 1 v n (zs.map (Value.int .i64))) : Ints w v zs := by
  have hl : zs.length = n := by have := h.1; simpa using this
  rcases h.2 with ⟨rfl, rfl⟩ | ⟨g, cap, cur, rfl, _, hg, _⟩
  · have hz : zs = [] := List.length_eq_zero_iff.1 hl
    subst hz
    exact ⟨none, 0, rfl, .inl rfl⟩
  · refine ⟨some ⟨g, 0, none⟩, cap, by rw [hl], .inr ⟨g, 0, rfl, (Array.getElem?_eq_some_iff.1 hg).1, fun j hj => ?_⟩⟩
    have := h.cells (g := g) rfl j (.int .i64 (zs[j]?.getD 0)) (by simp [hj])
    have e : (⟨g, 0, none⟩ : Addr).add j = ⟨g, 0 + j, none⟩ := by unfold Addr.add; split <;> simp_all
    rwa [e] at this

/-- A list of numbers in a world that has grown. -/
theorem ints_gr {w w' : World} {v : Value} {zs : List Int} (h : Ints w v zs) (g : Gr w w') : Ints w' v zs := h.below g.below

end Go.Proofs.YtlfffpoeioecjaaDoor

namespace Go.Proofs.YtlfffpoeioecjaaDoor
open Go.RowKit
set_option linter.unusedVariables false

def posI (n : Int) : Int := min (max n (-100000)) 100000
def lenI (n : Int) : Int := min (max n 0) 100000
def rv (x y w h : Int) : Value := .agg #[.int .i64 x, .int .i64 y, .int .i64 w, .int .i64 h]
theorem posI_bd (n : Int) : -100000 ≤ posI n ∧ posI n ≤ 100000 := by unfold posI; omega
theorem lenI_bd (n : Int) : 0 ≤ lenI n ∧ lenI n ≤ 100000 := by unfold lenI; omega

set_option maxRecDepth 100000 in
theorem length_any (n : Int) (w : World) : Calls Tryd.prog 145 #[.int .i64 n] w fun e w' => e = .returned (.int .i64 (lenI n)) ∧ w' = w := by
  go_enter Tryd.func145, Tryd.ntmps145
  go_wp2
  all_goals
    go_ret
    refine ⟨?_, rfl⟩
    refine congrArg (fun n : Int => Ending.returned (.int .i64 n)) (?_ : _ = lenI n)
    unfold lenI
    omega
set_option maxRecDepth 100000 in
theorem position_any (n : Int) (w : World) : Calls Tryd.prog 144 #[.int .i64 n] w fun e w' => e = .returned (.int .i64 (posI n)) ∧ w' = w := by
  go_enter Tryd.func144, Tryd.ntmps144
  go_wp2
  all_goals
    go_ret
    refine ⟨?_, rfl⟩
    refine congrArg (fun n : Int => Ending.returned (.int .i64 n)) (?_ : _ = posI n)
    unfold posI
    omega

set_option maxRecDepth 100000 in
set_option maxHeartbeats 2000000 in
theorem clamped_any (x y a b : Int) (w : World) : Calls Tryd.prog 143 #[rv x y a b] w fun e w' => e = .returned (rv (posI x) (posI y) (lenI a) (lenI b)) ∧ w' = ((w.alloc (.cells #[.int .i64 x, .int .i64 y, .int .i64 a, .int .i64 b] 169)).alloc (.cells #[.int .i64 (posI x), .int .i64 (posI y), .int .i64 (lenI a), .int .i64 (lenI b)] 169)).drew := by
  have P : Hid (∀ n w, Calls Tryd.prog 144 #[.int .i64 n] w fun e w' => e = .returned (.int .i64 (posI n)) ∧ w' = w) := position_any
  have G : Hid (∀ n w, Calls Tryd.prog 145 #[.int .i64 n] w fun e w' => e = .returned (.int .i64 (lenI n)) ∧ w' = w) := length_any
  unfold rv
  go_enter Tryd.func143, Tryd.ntmps143
  go_wp2_with fail
  obtain ⟨px, hpx⟩ : ∃ z, posI x = z := ⟨_, rfl⟩
  obtain ⟨py, hpy⟩ : ∃ z, posI y = z := ⟨_, rfl⟩
  obtain ⟨la, hla⟩ : ∃ z, lenI a = z := ⟨_, rfl⟩
  obtain ⟨lb, hlb⟩ : ∃ z, lenI b = z := ⟨_, rfl⟩
  have P1 := P.out x
  have P2 := P.out y
  have G1 := G.out a
  have G2 := G.out b
  rw [hpx] at P1
  rw [hpy] at P2
  rw [hla] at G1
  rw [hlb] at G2
  go_region_held (fun W => W.cell? ⟨w.heap.size, 0, none⟩ = some (.int .i64 x) ∧ W.cell? ⟨w.heap.size, 1, none⟩ = some (.int .i64 y) ∧ W.cell? ⟨w.heap.size, 2, none⟩ = some (.int .i64 a) ∧ W.cell? ⟨w.heap.size, 3, none⟩ = some (.int .i64 b)) (go_keep) (first | (go_at_call 144; first | (refine (P1 _).mono ?_; rintro e w2 ⟨rfl, rfl⟩) | (refine (P2 _).mono ?_; rintro e w2 ⟨rfl, rfl⟩)) | (go_at_call 145; first | (refine (G1 _).mono ?_; rintro e w2 ⟨rfl, rfl⟩) | (refine (G2 _).mono ?_; rintro e w2 ⟨rfl, rfl⟩)))
  go_wp2
  refine bodyPost_ret (v := rv px py la lb) (by simp [results, Tryd.results143, go_sem, rv]) rfl ?_
  subst hpx hpy hla hlb
  exact ⟨rfl, rfl⟩

end Go.Proofs.YtlfffpoeioecjaaDoor

namespace Go.Proofs.YtlfffpoeioecjaaDoor
open Go.RowKit Go.Sort
set_option linter.unusedVariables false

/-- A block of four numbers. -/
def R4 (T : TypeId) (W : World) (b : Nat) (x y a c : Int) : Prop := W.heap[b]? = some (.cells #[.int .i64 x, .int .i64 y, .int .i64 a, .int .i64 c] T (0, 0))
section
variable {T : TypeId} {W W' : World} {b k o : Nat} {x y a c : Int}
theorem R4.lt (h : R4 T W b x y a c) : b < W.heap.size := (Array.getElem?_eq_some_iff.1 h).1
theorem R4.c0 (h : R4 T W b x y a c) : W.cell? ⟨b, 0, none⟩ = some (.int .i64 x) := by unfold R4 at h; simp [World.cell?, h]
theorem R4.c1 (h : R4 T W b x y a c) : W.cell? ⟨b, 1, none⟩ = some (.int .i64 y) := by unfold R4 at h; simp [World.cell?, h]
theorem R4.c2 (h : R4 T W b x y a c) : W.cell? ⟨b, 2, none⟩ = some (.int .i64 a) := by unfold R4 at h; simp [World.cell?, h]
theorem R4.c3 (h : R4 T W b x y a c) : W.cell? ⟨b, 3, none⟩ = some (.int .i64 c) := by unfold R4 at h; simp [World.cell?, h]
theorem R4.fz (h : R4 T W b x y a c) (j : Nat) : W.frozen? ⟨b, j, none⟩ = false := frozen_of_row _ _ _ _ _ h
theorem R4.gr (h : R4 T W b x y a c) (g : Gr W W') : R4 T W' b x y a c := (g.block h.lt).trans h
theorem R4.new (W : World) (x y a c : Int) (T : TypeId) : R4 T (W.alloc (.cells #[.int .i64 x, .int .i64 y, .int .i64 a, .int .i64 c] T)) W.heap.size x y a c := heap_alloc_new _ _
theorem R4.other (h : R4 T W b x y a c) (hk : b ≠ k) (v : Value) : R4 T (W.setCell ⟨k, o, none⟩ v) b x y a c := (Below.heap_setCell W ⟨k, o, none⟩ v b hk).trans h
theorem R4.set (h : R4 T W b x y a c) (x' y' a' c' : Int) : R4 T ((((W.setCell ⟨b, 0, none⟩ (.int .i64 x')).setCell ⟨b, 1, none⟩ (.int .i64 y')).setCell ⟨b, 2, none⟩ (.int .i64 a')).setCell ⟨b, 3, none⟩ (.int .i64 c')) b x' y' a' c' :=
  heap_setCell_same _ b 3 _ T _ (heap_setCell_same _ b 2 _ T _ (heap_setCell_same _ b 1 _ T _ (heap_setCell_same _ b 0 _ T _ h)))
theorem R4.others (h : R4 T W b x y a c) (hk : b ≠ k) (v0 v1 v2 v3 : Value) : R4 T ((((W.setCell ⟨k, 0, none⟩ v0).setCell ⟨k, 1, none⟩ v1).setCell ⟨k, 2, none⟩ v2).setCell ⟨k, 3, none⟩ v3) b x y a c := (((h.other hk v0).other hk v1).other hk v2).other hk v3
theorem Gr.set4 (h : Gr W W') (hk : W.heap.size ≤ k) (v0 v1 v2 v3 : Value) : Gr W ((((W'.setCell ⟨k, 0, none⟩ v0).setCell ⟨k, 1, none⟩ v1).setCell ⟨k, 2, none⟩ v2).setCell ⟨k, 3, none⟩ v3) := (((h.set hk v0).set hk v1).set hk v2).set hk v3
end

theorem clamped_gr (x y a b : Int) (w : World) : Calls Tryd.prog 143 #[rv x y a b] w fun e w' => e = .returned (rv (posI x) (posI y) (lenI a) (lenI b)) ∧ Gr w w' :=
  (clamped_any x y a b w).mono fun e w' ⟨he, hw⟩ => ⟨he, by rw [hw]; exact (((Gr.refl w).alloc _).alloc _).drew⟩

/-- What Cap answers. -/
def capL (ax aw bx bw : Int) : Int := max (posI ax) (posI bx)
def capR (ax aw bx bw : Int) : Int := min (posI ax + lenI aw) (posI bx + lenI bw)
def capV (ax ay aw ah bx by_ bw bh : Int) : Value := if capL ax aw bx bw ≥ capR ax aw bx bw ∨ capL ay ah by_ bh ≥ capR ay ah by_ bh then rv 0 0 0 0 else rv (capL ax aw bx bw) (capL ay ah by_ bh) (capR ax aw bx bw - capL ax aw bx bw) (capR ay ah by_ bh - capL ay ah by_ bh)

set_option maxRecDepth 100000 in
set_option maxHeartbeats 4000000 in
theorem cap_any (ax ay aw ah bx by_ bw bh : Int) (w : World) : Calls Tryd.prog 138 #[rv ax ay aw ah, rv bx by_ bw bh] w fun e w' => e = .returned (capV ax ay aw ah bx by_ bw bh) ∧ Gr w w' := by
  have CC : Hid (∀ x y a b w, Calls Tryd.prog 143 #[rv x y a b] w fun e w' => e = .returned (rv (posI x) (posI y) (lenI a) (lenI b)) ∧ Gr w w') := clamped_gr
  unfold rv at CC ⊢
  go_enter Tryd.func138, Tryd.ntmps138
  go_wp2_with fail
  obtain ⟨A, hA⟩ : ∃ x, w.heap.size = x := ⟨_, rfl⟩
  obtain ⟨W0, hW0⟩ : ∃ x, ((w.alloc (.cells #[.int .i64 ax, .int .i64 ay, .int .i64 aw, .int .i64 ah] 169)).alloc (.cells #[.int .i64 bx, .int .i64 by_, .int .i64 bw, .int .i64 bh] 169)).alloc (.cells #[.int .i64 0, .int .i64 0, .int .i64 0, .int .i64 0] 169) = x := ⟨_, rfl⟩
  have G0 : Hid (Gr w W0) := by rw [← hW0]; exact (((Gr.refl w).alloc _).alloc _).alloc _
  have RA : Hid (R4 169 W0 A ax ay aw ah) := by rw [← hW0, ← hA]; exact (R4.new w _ _ _ _ _).gr (((Gr.refl _).alloc _).alloc _)
  have RB : Hid (R4 169 W0 (A + 1) bx by_ bw bh) := by
    have := R4.new (w.alloc (.cells #[.int .i64 ax, .int .i64 ay, .int .i64 aw, .int .i64 ah] 169)) bx by_ bw bh 169
    simp only [World.size_alloc, hA] at this
    rw [← hW0]; exact this.gr ((Gr.refl _).alloc _)
  have RC : Hid (R4 169 W0 (A + 1 + 1) 0 0 0 0) := by
    have := R4.new ((w.alloc (.cells #[.int .i64 ax, .int .i64 ay, .int .i64 aw, .int .i64 ah] 169)).alloc (.cells #[.int .i64 bx, .int .i64 by_, .int .i64 bw, .int .i64 bh] 169)) 0 0 0 0 169
    simp only [World.size_alloc, hA] at this
    rw [← hW0]; exact this
  rw [hW0, hA]
  clear hW0
  have HA : Hid (w.heap.size = A) := hA
  clear hA
  have a0 := RA.out.c0
  have a1 := RA.out.c1
  have a2 := RA.out.c2
  have a3 := RA.out.c3
  have b0 := RB.out.c0
  have b1 := RB.out.c1
  have b2 := RB.out.c2
  have b3 := RB.out.c3
  obtain ⟨px, hpx⟩ : ∃ z, posI ax = z := ⟨_, rfl⟩
  obtain ⟨py, hpy⟩ : ∃ z, posI ay = z := ⟨_, rfl⟩
  obtain ⟨pa, hpa⟩ : ∃ z, lenI aw = z := ⟨_, rfl⟩
  obtain ⟨pb, hpb⟩ : ∃ z, lenI ah = z := ⟨_, rfl⟩
  obtain ⟨qx, hqx⟩ : ∃ z, posI bx = z := ⟨_, rfl⟩
  obtain ⟨qy, hqy⟩ : ∃ z, posI by_ = z := ⟨_, rfl⟩
  obtain ⟨qa, hqa⟩ : ∃ z, lenI bw = z := ⟨_, rfl⟩
  obtain ⟨qb, hqb⟩ : ∃ z, lenI bh = z := ⟨_, rfl⟩
  go_cut [2, 3, 4] from 9 to 12 (fun u v t wx => u = .pointer (some ⟨A, 0, none⟩) ∧ v = .pointer (some ⟨A + 1, 0, none⟩) ∧ t = .pointer (some ⟨A + 1 + 1, 0, none⟩) ∧ Hid (R4 169 wx A px py pa pb ∧ R4 169 wx (A + 1) qx qy qa qb ∧ R4 169 wx (A + 1 + 1) 0 0 0 0 ∧ Gr w wx))
  case first =>
    go_region_with (go_at_call 143; refine (CC.out _ _ _ _ _).mono ?_; rintro e wn ⟨rfl, hgn⟩; have HGn : Hid (Gr W0 wn) := (by first | exact ((Gr.refl W0).drew).trans hgn | exact Gr.trans (Hid.out (by assumption)) hgn); have HAn : Hid (R4 169 wn A ax ay aw ah) := RA.out.gr HGn.out; have HBn : Hid (R4 169 wn (A + 1) bx by_ bw bh) := RB.out.gr HGn.out; clear hgn; have m0 := HAn.out.c0; have m1 := HAn.out.c1; have m2 := HAn.out.c2; have m3 := HAn.out.c3; have n0 := HBn.out.c0; have n1 := HBn.out.c1; have n2 := HBn.out.c2; have n3 := HBn.out.c3; have f0 := HAn.out.fz 0; have f1 := HAn.out.fz 1; have f2 := HAn.out.fz 2; have f3 := HAn.out.fz 3; have g0 := HBn.out.fz 0; have g1 := HBn.out.fz 1; have g2 := HBn.out.fz 2; have g3 := HBn.out.fz 3)
    all_goals
      have HO : Hid (R4 169 ((((((((wn.setCell ⟨A, 0, none⟩ (.int .i64 px)).setCell ⟨A, 1, none⟩ (.int .i64 py)).setCell ⟨A, 2, none⟩ (.int .i64 pa)).setCell ⟨A, 3, none⟩ (.int .i64 pb)).setCell ⟨A + 1, 0, none⟩ (.int .i64 qx)).setCell ⟨A + 1, 1, none⟩ (.int .i64 qy)).setCell ⟨A + 1, 2, none⟩ (.int .i64 qa)).setCell ⟨A + 1, 3, none⟩ (.int .i64 qb)) A px py pa pb ∧ R4 169 ((((((((wn.setCell ⟨A, 0, none⟩ (.int .i64 px)).setCell ⟨A, 1, none⟩ (.int .i64 py)).setCell ⟨A, 2, none⟩ (.int .i64 pa)).setCell ⟨A, 3, none⟩ (.int .i64 pb)).setCell ⟨A + 1, 0, none⟩ (.int .i64 qx)).setCell ⟨A + 1, 1, none⟩ (.int .i64 qy)).setCell ⟨A + 1, 2, none⟩ (.int .i64 qa)).setCell ⟨A + 1, 3, none⟩ (.int .i64 qb)) (A + 1) qx qy qa qb ∧ R4 169 ((((((((wn.setCell ⟨A, 0, none⟩ (.int .i64 px)).setCell ⟨A, 1, none⟩ (.int .i64 py)).setCell ⟨A, 2, none⟩ (.int .i64 pa)).setCell ⟨A, 3, none⟩ (.int .i64 pb)).setCell ⟨A + 1, 0, none⟩ (.int .i64 qx)).setCell ⟨A + 1, 1, none⟩ (.int .i64 qy)).setCell ⟨A + 1, 2, none⟩ (.int .i64 qa)).setCell ⟨A + 1, 3, none⟩ (.int .i64 qb)) (A + 1 + 1) 0 0 0 0 ∧ Gr w ((((((((wn.setCell ⟨A, 0, none⟩ (.int .i64 px)).setCell ⟨A, 1, none⟩ (.int .i64 py)).setCell ⟨A, 2, none⟩ (.int .i64 pa)).setCell ⟨A, 3, none⟩ (.int .i64 pb)).setCell ⟨A + 1, 0, none⟩ (.int .i64 qx)).setCell ⟨A + 1, 1, none⟩ (.int .i64 qy)).setCell ⟨A + 1, 2, none⟩ (.int .i64 qa)).setCell ⟨A + 1, 3, none⟩ (.int .i64 qb))) :=
        ⟨(HAn.out.set px py pa pb).others (by omega) _ _ _ _, (HBn.out.others (by omega) _ _ _ _).set qx qy qa qb, ((RC.out.gr HGn.out).others (by omega) _ _ _ _).others (by omega) _ _ _ _, ((G0.out.trans HGn.out).set4 (by rw [HA.out]; omega) _ _ _ _).set4 (by rw [HA.out]; omega) _ _ _ _⟩
      clear m0 m1 m2 m3 n0 n1 n2 n3 f0 f1 f2 f3 g0 g1 g2 g3 a0 a1 a2 a3 b0 b1 b2 b3 HAn HBn
      go_wp2_with fail
      go_meet
      exact ⟨rfl, rfl, rfl, HO.out⟩
  case rest =>
    obtain ⟨rfl, rfl, rfl, HO⟩ := hcut
    clear a0 a1 a2 a3 b0 b1 b2 b3 RA RB RC
    have a0 := HO.out.1.c0
    have a1 := HO.out.1.c1
    have a2 := HO.out.1.c2
    have a3 := HO.out.1.c3
    have b0 := HO.out.2.1.c0
    have b1 := HO.out.2.1.c1
    have b2 := HO.out.2.1.c2
    have b3 := HO.out.2.1.c3
    have bpx := posI_bd ax
    have bpy := posI_bd ay
    have bpa := lenI_bd aw
    have bpb := lenI_bd ah
    have bqx := posI_bd bx
    have bqy := posI_bd by_
    have bqa := lenI_bd bw
    have bqb := lenI_bd bh
    rw [hpx] at bpx
    rw [hpy] at bpy
    rw [hpa] at bpa
    rw [hpb] at bpb
    rw [hqx] at bqx
    rw [hqy] at bqy
    rw [hqa] at bqa
    rw [hqb] at bqb
    go_wp2_with fail
    go_cut [5, 6] from 13 to 28 (fun u v wx => u = .int .i64 (max px qx) ∧ v = .int .i64 (min (px + pa) (qx + qa)) ∧ ∃ q, wx = wc.drewN q)
    case first =>
      by_cases h1 : px < qx
      · by_cases h2 : px + pa ≤ qx + qa
        · go_quiet (fail)
          go_wp2_with fail
          go_meet
          exact ⟨congrArg (Value.int .i64) (by omega), congrArg (Value.int .i64) (by omega), _, rfl⟩
        · go_quiet (fail)
          go_wp2_with fail
          go_meet
          exact ⟨congrArg (Value.int .i64) (by omega), congrArg (Value.int .i64) (by omega), _, rfl⟩
      · by_cases h2 : px + pa ≤ qx + qa
        · go_quiet (fail)
          go_wp2_with fail
          go_meet
          exact ⟨congrArg (Value.int .i64) (by omega), congrArg (Value.int .i64) (by omega), _, rfl⟩
        · go_quiet (fail)
          go_wp2_with fail
          go_meet
          exact ⟨congrArg (Value.int .i64) (by omega), congrArg (Value.int .i64) (by omega), _, rfl⟩
    case rest =>
      obtain ⟨rfl, rfl, q1, rfl⟩ := hcut
      go_wp2_with fail
      go_cut [7, 8] from 29 to 44 (fun u v wx => u = .int .i64 (max py qy) ∧ v = .int .i64 (min (py + pb) (qy + qb)) ∧ ∃ q, wx = wc.drewN q)
      case first =>
        by_cases h1 : py < qy
        · by_cases h2 : py + pb ≤ qy + qb
          · go_quiet (fail)
            go_wp2_with fail
            go_meet
            exact ⟨congrArg (Value.int .i64) (by omega), congrArg (Value.int .i64) (by omega), q1 + nq, by first | rfl | exact World.drewN_drewN _ _ _⟩
          · go_quiet (fail)
            go_wp2_with fail
            go_meet
            exact ⟨congrArg (Value.int .i64) (by omega), congrArg (Value.int .i64) (by omega), q1 + nq, by first | rfl | exact World.drewN_drewN _ _ _⟩
        · by_cases h2 : py + pb ≤ qy + qb
          · go_quiet (fail)
            go_wp2_with fail
            go_meet
            exact ⟨congrArg (Value.int .i64) (by omega), congrArg (Value.int .i64) (by omega), q1 + nq, by first | rfl | exact World.drewN_drewN _ _ _⟩
          · go_quiet (fail)
            go_wp2_with fail
            go_meet
            exact ⟨congrArg (Value.int .i64) (by omega), congrArg (Value.int .i64) (by omega), q1 + nq, by first | rfl | exact World.drewN_drewN _ _ _⟩
      case rest =>
        obtain ⟨rfl, rfl, q2, rfl⟩ := hcut
        obtain ⟨W1, hW1⟩ : ∃ z, wc.drewN q2 = z := ⟨_, rfl⟩
        have G1 : Hid (Gr wc W1) := by rw [← hW1]; exact (Gr.refl _).drewN _
        rw [hW1]
        have R1 : Hid (R4 169 W1 (A + 1 + 1) 0 0 0 0) := HO.out.2.2.1.gr G1.out
        have GG : Hid (Gr w W1) := HO.out.2.2.2.trans G1.out
        clear hW1 a0 a1 a2 a3 b0 b1 b2 b3 HO
        have c0 := R1.out.c0
        have c1 := R1.out.c1
        have c2 := R1.out.c2
        have c3 := R1.out.c3
        have f0 := R1.out.fz 0
        have f1 := R1.out.fz 1
        have f2 := R1.out.fz 2
        have f3 := R1.out.fz 3
        obtain ⟨l, hl⟩ : ∃ z, max px qx = z := ⟨_, rfl⟩
        obtain ⟨r, hr⟩ : ∃ z, min (px + pa) (qx + qa) = z := ⟨_, rfl⟩
        obtain ⟨t, ht⟩ : ∃ z, max py qy = z := ⟨_, rfl⟩
        obtain ⟨d, hd⟩ : ∃ z, min (py + pb) (qy + qb) = z := ⟨_, rfl⟩
        have HV : Hid (capV ax ay aw ah bx by_ bw bh = if l ≥ r ∨ t ≥ d then rv 0 0 0 0 else rv l t (r - l) (d - t)) := by
          show _ = _
          unfold capV capL capR
          rw [hpx, hpy, hpa, hpb, hqx, hqy, hqa, hqb, hl, hr, ht, hd]
        have bl : -100000 ≤ l ∧ l ≤ 100000 := by omega
        have br : -100000 ≤ r ∧ r ≤ 200000 := by omega
        have bt : -100000 ≤ t ∧ t ≤ 100000 := by omega
        have bd : -100000 ≤ d ∧ d ≤ 200000 := by omega
        rw [hl, hr, ht, hd]
        clear hpx hpy hpa hpb hqx hqy hqa hqb hl hr ht hd bpx bpy bpa bpb bqx bqy bqa bqb
        by_cases h1 : r ≤ l
        · have e1 : decide (r ≤ l) = true := decide_eq_true h1
          go_wp2
          refine bodyPost_ret (results_cell_row rfl _ _ (A + 1 + 1) _ _ _ _ rfl (R1.out.set 0 0 0 0) Tryd.underlying169 rfl (by kernel_rfl)) rfl ?_
          exact ⟨by rw [HV.out, if_pos (.inl h1)]; rfl, GG.out.set4 (by rw [HA.out]; omega) _ _ _ _⟩
        · have e1 : decide (r ≤ l) = false := decide_eq_false h1
          by_cases h2 : d ≤ t
          · have e2 : decide (d ≤ t) = true := decide_eq_true h2
            go_wp2
            refine bodyPost_ret (results_cell_row rfl _ _ (A + 1 + 1) _ _ _ _ rfl (R1.out.set 0 0 0 0) Tryd.underlying169 rfl (by kernel_rfl)) rfl ?_
            exact ⟨by rw [HV.out, if_pos (.inr h2)]; rfl, GG.out.set4 (by rw [HA.out]; omega) _ _ _ _⟩
          · have e2 : decide (d ≤ t) = false := decide_eq_false h2
            go_wp2
            refine bodyPost_ret (results_cell_row rfl _ _ (A + 1 + 1) _ _ _ _ rfl (R1.out.set l t (r - l) (d - t)) Tryd.underlying169 rfl (by kernel_rfl)) rfl ?_
            exact ⟨by rw [HV.out, if_neg (by omega)]; rfl, GG.out.set4 (by rw [HA.out]; omega) _ _ _ _⟩

end Go.Proofs.YtlfffpoeioecjaaDoor

namespace Go.Proofs.YtlfffpoeioecjaaDoor
set_option linter.unusedVariables false

/-- What Holds answers. -/
def holdB (x y a b px py : Int) : Bool := decide (posI x ≤ px ∧ px < posI x + lenI a ∧ posI y ≤ py ∧ py < posI y + lenI b)
theorem holdB_yes {x y a b px py : Int} (h : posI x ≤ px ∧ px < posI x + lenI a ∧ posI y ≤ py ∧ py < posI y + lenI b) : holdB x y a b px py = true := decide_eq_true h
theorem holdB_no {x y a b px py : Int} (h : ¬ (posI x ≤ px ∧ px < posI x + lenI a ∧ posI y ≤ py ∧ py < posI y + lenI b)) : holdB x y a b px py = false := decide_eq_false h

end Go.Proofs.YtlfffpoeioecjaaDoor

namespace Go.Proofs.YtlfffpoeioecjaaDoor
set_option linter.unusedVariables false

theorem posI_id {n : Int} (h : -100000 ≤ n ∧ n ≤ 100000) : posI n = n := by unfold posI; omega
theorem lenI_id {n : Int} (h : 0 ≤ n ∧ n ≤ 100000) : lenI n = n := by unfold lenI; omega
theorem rv_inj {a b c d a' b' c' d' : Int} (h : rv a b c d = rv a' b' c' d') : a = a' ∧ b = b' ∧ c = c' ∧ d = d' := by
  unfold rv at h; simpa using h
theorem capL_comm (ax aw bx bw : Int) : capL ax aw bx bw = capL bx bw ax aw := by unfold capL; omega
theorem capR_comm (ax aw bx bw : Int) : capR ax aw bx bw = capR bx bw ax aw := by unfold capR; omega
theorem capV_comm (ax ay aw ah bx by_ bw bh : Int) : capV ax ay aw ah bx by_ bw bh = capV bx by_ bw bh ax ay aw ah := by
  unfold capV
  rw [capL_comm ax aw, capR_comm ax aw, capL_comm ay ah, capR_comm ay ah]
theorem cap_bd (ax aw bx bw : Int) : -100000 ≤ capL ax aw bx bw ∧ capL ax aw bx bw ≤ 100000 ∧ capR ax aw bx bw - capL ax aw bx bw ≤ 100000 ∧ posI bx ≤ capL ax aw bx bw ∧ capR ax aw bx bw ≤ posI bx + lenI bw := by
  unfold capL capR
  have h1 := posI_bd ax
  have h2 := posI_bd bx
  have h3 := lenI_bd aw
  have h4 := lenI_bd bw
  omega
theorem cap_in (ax aw bx bw p : Int) : (capL ax aw bx bw ≤ p ∧ p < capR ax aw bx bw) ↔ ((posI ax ≤ p ∧ p < posI ax + lenI aw) ∧ (posI bx ≤ p ∧ p < posI bx + lenI bw)) := by
  unfold capL capR; omega
theorem cap_again {ax ay aw ah bx by_ bw bh c0 c1 c2 c3 : Int} (h : capV ax ay aw ah bx by_ bw bh = rv c0 c1 c2 c3) : capV c0 c1 c2 c3 bx by_ bw bh = rv c0 c1 c2 c3 := by
  unfold capV at h
  have b1 := cap_bd ax aw bx bw
  have b2 := cap_bd ay ah by_ bh
  split at h
  · obtain ⟨rfl, rfl, rfl, rfl⟩ := rv_inj h
    unfold capV
    rw [if_pos]
    left
    unfold capL capR
    rw [posI_id (n := 0) (by omega), lenI_id (n := 0) (by omega)]
    omega
  · rename_i hn
    obtain ⟨h0, h1, h2, h3⟩ := rv_inj h
    generalize capL ax aw bx bw = l at *
    generalize capR ax aw bx bw = r at *
    generalize capL ay ah by_ bh = t at *
    generalize capR ay ah by_ bh = d at *
    subst h0 h1 h2 h3
    have e1 : capL l (r - l) bx bw = l := by unfold capL; rw [posI_id (by omega)]; omega
    have e2 : capR l (r - l) bx bw = r := by unfold capR; rw [posI_id (by omega), lenI_id (by omega)]; omega
    have e3 : capL t (d - t) by_ bh = t := by unfold capL; rw [posI_id (by omega)]; omega
    have e4 : capR t (d - t) by_ bh = d := by unfold capR; rw [posI_id (by omega), lenI_id (by omega)]; omega
    unfold capV
    rw [e1, e2, e3, e4, if_neg (by omega)]
theorem cap_holds {ax ay aw ah bx by_ bw bh c0 c1 c2 c3 : Int} (x y : Int) (h : capV ax ay aw ah bx by_ bw bh = rv c0 c1 c2 c3) : holdB c0 c1 c2 c3 x y = (holdB ax ay aw ah x y && holdB bx by_ bw bh x y) := by
  have i1 := cap_in ax aw bx bw x
  have i2 := cap_in ay ah by_ bh y
  unfold capV at h
  have b1 := cap_bd ax aw bx bw
  have b2 := cap_bd ay ah by_ bh
  unfold holdB
  rw [← Bool.decide_and]
  apply decide_eq_decide.2
  split at h
  · rename_i hn
    obtain ⟨rfl, rfl, rfl, rfl⟩ := rv_inj h
    rw [posI_id (n := 0) (by omega), lenI_id (n := 0) (by omega)]
    constructor
    · intro hh; omega
    · intro hh
      have q1 := i1.2 ⟨⟨hh.1.1, hh.1.2.1⟩, hh.2.1, hh.2.2.1⟩
      have q2 := i2.2 ⟨⟨hh.1.2.2.1, hh.1.2.2.2⟩, hh.2.2.2.1, hh.2.2.2.2⟩
      omega
  · rename_i hn
    obtain ⟨h0, h1, h2, h3⟩ := rv_inj h
    rw [← h0, ← h1, ← h2, ← h3]
    rw [posI_id (n := capL ax aw bx bw) (by omega), lenI_id (n := capR ax aw bx bw - capL ax aw bx bw) (by omega), posI_id (n := capL ay ah by_ bh) (by omega), lenI_id (n := capR ay ah by_ bh - capL ay ah by_ bh) (by omega)]
    constructor
    · intro hh
      have q1 := i1.1 ⟨hh.1, by omega⟩
      have q2 := i2.1 ⟨hh.2.2.1, by omega⟩
      exact ⟨⟨q1.1.1, q1.1.2, q2.1.1, q2.1.2⟩, q1.2.1, q1.2.2, q2.2.1, q2.2.2⟩
    · intro hh
      have q1 := i1.2 ⟨⟨hh.1.1, hh.1.2.1⟩, hh.2.1, hh.2.2.1⟩
      have q2 := i2.2 ⟨⟨hh.1.2.2.1, hh.1.2.2.2⟩, hh.2.2.2.1, hh.2.2.2.2⟩
      omega

end Go.Proofs.YtlfffpoeioecjaaDoor
