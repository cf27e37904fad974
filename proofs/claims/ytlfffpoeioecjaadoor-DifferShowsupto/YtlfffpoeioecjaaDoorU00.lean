/-
  A world that has grown.
-/
import Derived.Test.YtlfffpoeioecjaaDoorProg
import Derived.WalkKit
import Derived.WalkSpells
import Derived.WalkLawsBesides
import Derived.RegionTactic
import Derived.BigRegion
import Derived.BigQuiet
import Derived.Deep.QuietTactic
import Derived.Deep.RegionWith
import Derived.Deep.RegionHeld
import Derived.Deep.Cut
import Derived.Deep.CutRange
import Derived.Shelf.SlSortCmp.QuietGrown
namespace Go.Proofs.YtlfffpoeioecjaaDoor
open Go.RowKit Go.Sort
set_option linter.unusedVariables false

/-- The world has new blocks, and draws. -/
def Gr (w w' : World) : Prop := ∃ q os, w' = grow (w.drewN q) os
theorem Gr.refl (w : World) : Gr w w := ⟨0, #[], by simp; rfl⟩
theorem Gr.trans {a b c : World} (h : Gr a b) (k : Gr b c) : Gr a c := by
  obtain ⟨q, os, rfl⟩ := h
  obtain ⟨q2, os2, rfl⟩ := k
  exact ⟨q + q2, os ++ os2, by show grow (grow ((a.drewN q).drewN q2) os) os2 = _; rw [grow_grow, World.drewN_drewN]⟩
theorem Gr.alloc {a b : World} (h : Gr a b) (o : Obj) : Gr a (b.alloc o) := h.trans ⟨0, #[o], alloc_eq_grow b o⟩
theorem Gr.drew {a b : World} (h : Gr a b) : Gr a b.drew := h.trans ⟨1, #[], by simp; rfl⟩
theorem Gr.drewN {a b : World} (h : Gr a b) (n : Nat) : Gr a (b.drewN n) := h.trans ⟨n, #[], by simp⟩
theorem Gr.size {a b : World} (h : Gr a b) : a.heap.size ≤ b.heap.size := by obtain ⟨q, os, rfl⟩ := h; rw [size_grow]; exact Nat.le_add_right _ _
theorem Gr.block {a b : World} (h : Gr a b) {k : Nat} (hk : k < a.heap.size) : b.heap[k]? = a.heap[k]? := by obtain ⟨q, os, rfl⟩ := h; exact heap_grow_old _ _ hk
theorem Gr.set {a b : World} (h : Gr a b) {k o : Nat} (hk : a.heap.size ≤ k) (v : Value) : Gr a (b.setCell ⟨k, o, none⟩ v) := by
  obtain ⟨q, os, rfl⟩ := h
  exact ⟨q, _, by unfold World.setCell grow; simp only; rw [modify_append_right (a.drewN q).heap os k _ hk]⟩
theorem Gr.below {a b : World} (h : Gr a b) : Below a.heap.size a b := ⟨by obtain ⟨q, os, rfl⟩ := h; rfl, by obtain ⟨q, os, rfl⟩ := h; rfl, by obtain ⟨q, os, rfl⟩ := h; rfl, h.size, fun k hk => h.block hk⟩

end Go.Proofs.YtlfffpoeioecjaaDoor

namespace Go.Proofs.YtlfffpoeioecjaaDoor
open Go.RowKit Go.Sort
set_option linter.unusedVariables false

/-- A block of three numbers. -/
def R3 (T : TypeId) (W : World) (b : Nat) (x y a : Int) : Prop := W.heap[b]? = some (.cells #[.int .i64 x, .int .i64 y, .int .i64 a] T (0, 0))
section
variable {T : TypeId} {W W' : World} {b k o : Nat} {x y a c : Int}
theorem R3.lt (h : R3 T W b x y a) : b < W.heap.size := (Array.getElem?_eq_some_iff.1 h).1
theorem R3.c0 (h : R3 T W b x y a) : W.cell? ⟨b, 0, none⟩ = some (.int .i64 x) := by unfold R3 at h; simp [World.cell?, h]
theorem R3.c1 (h : R3 T W b x y a) : W.cell? ⟨b, 1, none⟩ = some (.int .i64 y) := by unfold R3 at h; simp [World.cell?, h]
theorem R3.c2 (h : R3 T W b x y a) : W.cell? ⟨b, 2, none⟩ = some (.int .i64 a) := by unfold R3 at h; simp [World.cell?, h]
theorem R3.fz (h : R3 T W b x y a) (j : Nat) : W.frozen? ⟨b, j, none⟩ = false := frozen_of_row _ _ _ _ _ h
theorem R3.gr (h : R3 T W b x y a) (g : Gr W W') : R3 T W' b x y a := (g.block h.lt).trans h
theorem R3.new (W : World) (x y a : Int) (T : TypeId) : R3 T (W.alloc (.cells #[.int .i64 x, .int .i64 y, .int .i64 a] T)) W.heap.size x y a := heap_alloc_new _ _
theorem R3.other (h : R3 T W b x y a) (hk : b ≠ k) (v : Value) : R3 T (W.setCell ⟨k, o, none⟩ v) b x y a := (Below.heap_setCell W ⟨k, o, none⟩ v b hk).trans h
theorem R3.set0 (h : R3 T W b x y a) (x' : Int) : R3 T (W.setCell ⟨b, 0, none⟩ (.int .i64 x')) b x' y a := heap_setCell_same _ b 0 _ T _ h
theorem R3.set1 (h : R3 T W b x y a) (y' : Int) : R3 T (W.setCell ⟨b, 1, none⟩ (.int .i64 y')) b x y' a := heap_setCell_same _ b 1 _ T _ h
theorem R3.set2 (h : R3 T W b x y a) (a' : Int) : R3 T (W.setCell ⟨b, 2, none⟩ (.int .i64 a')) b x y a' := heap_setCell_same _ b 2 _ T _ h
theorem R3.set (h : R3 T W b x y a) (x' y' a' : Int) : R3 T (((W.setCell ⟨b, 0, none⟩ (.int .i64 x')).setCell ⟨b, 1, none⟩ (.int .i64 y')).setCell ⟨b, 2, none⟩ (.int .i64 a')) b x' y' a' :=
  ((h.set0 x').set1 y').set2 a'
theorem R3.others (h : R3 T W b x y a) (hk : b ≠ k) (v0 v1 v2 : Value) : R3 T (((W.setCell ⟨k, 0, none⟩ v0).setCell ⟨k, 1, none⟩ v1).setCell ⟨k, 2, none⟩ v2) b x y a := ((h.other hk v0).other hk v1).other hk v2
theorem Gr.set3 (h : Gr W W') (hk : W.heap.size ≤ k) (v0 v1 v2 : Value) : Gr W (((W'.setCell ⟨k, 0, none⟩ v0).setCell ⟨k, 1, none⟩ v1).setCell ⟨k, 2, none⟩ v2) := ((h.set hk v0).set hk v1).set hk v2
end
def sv (f g b : Int) : Value := .agg #[.int .i64 f, .int .i64 g, .int .i64 b]
/-- A number as it counts. -/
def kn (n : Int) : Int := if n < 0 ∨ 8 < n then 0 else n
def bo (n : Int) : Int := if n = 1 then 1 else 0
theorem kn_bd (n : Int) : 0 ≤ kn n ∧ kn n ≤ 8 := by unfold kn; split <;> omega
theorem bo_bd (n : Int) : 0 ≤ bo n ∧ bo n ≤ 1 := by unfold bo; split <;> omega
theorem kn_kn (n : Int) : kn (kn n) = kn n := by unfold kn; (repeat' split) <;> omega
theorem bo_bo (n : Int) : bo (bo n) = bo n := by unfold bo; (repeat' split) <;> omega

set_option maxRecDepth 100000 in
theorem known_any (n : Int) (w : World) : Calls Tryd.prog 104 #[.int .i64 n] w fun e w' => e = .returned (.int .i64 (kn n)) ∧ w' = w := by
  go_enter Tryd.func104, Tryd.ntmps104
  by_cases h1 : n < 0
  · go_wp2
    go_ret
    exact ⟨by rw [show kn n = 0 by unfold kn; rw [if_pos (.inl h1)]]; rfl, rfl⟩
  · by_cases h2 : 8 < n
    · go_wp2
      go_ret
      exact ⟨by rw [show kn n = 0 by unfold kn; rw [if_pos (.inr h2)]]; rfl, rfl⟩
    · go_wp2
      go_ret
      exact ⟨by rw [show kn n = n by unfold kn; rw [if_neg (by omega)]]; rfl, rfl⟩
set_option maxRecDepth 100000 in
theorem rcol_any (n : Int) (w : World) : Calls Tryd.prog 47 #[.int .i64 n] w fun e w' => e = .returned (.int .i64 (kn n)) ∧ w' = w := by
  go_enter Tryd.func47, Tryd.ntmps47
  by_cases h1 : n < 0
  · go_wp2
    go_ret
    exact ⟨by rw [show kn n = 0 by unfold kn; rw [if_pos (.inl h1)]]; rfl, rfl⟩
  · by_cases h2 : 8 < n
    · go_wp2
      go_ret
      exact ⟨by rw [show kn n = 0 by unfold kn; rw [if_pos (.inr h2)]]; rfl, rfl⟩
    · go_wp2
      go_ret
      exact ⟨by rw [show kn n = n by unfold kn; rw [if_neg (by omega)]]; rfl, rfl⟩

set_option maxRecDepth 100000 in
theorem look_any (f g b : Int) (w : World) : Calls Tryd.prog 39 #[sv f g b] w fun e w' => e = .returned (sv f g b) ∧ Gr w w' := by
  unfold sv
  go_enter Tryd.func39, Tryd.ntmps39
  go_wp2
  refine bodyPost_ret (v := sv f g b) (by simp [results, Tryd.results39, go_sem, sv]) rfl ?_
  exact ⟨rfl, ((Gr.refl w).alloc _).alloc _⟩

set_option maxRecDepth 100000 in
set_option maxHeartbeats 2000000 in
theorem counted_any (f g b : Int) (w : World) : Calls Tryd.prog 83 #[sv f g b] w fun e w' => e = .returned (sv (kn f) (kn g) (bo b)) ∧ Gr w w' := by
  have P : Hid (∀ n w, Calls Tryd.prog 104 #[.int .i64 n] w fun e w' => e = .returned (.int .i64 (kn n)) ∧ w' = w) := known_any
  obtain ⟨x, hx⟩ : ∃ z, kn f = z := ⟨_, rfl⟩
  obtain ⟨y, hy⟩ : ∃ z, kn g = z := ⟨_, rfl⟩
  have P1 := P.out f
  have P2 := P.out g
  rw [hx] at P1
  rw [hy] at P2
  unfold sv
  go_enter Tryd.func83, Tryd.ntmps83
  by_cases h : b = 1
  · subst h
    go_wp2_with fail
    go_region_held (fun W => W.cell? ⟨w.heap.size, 0, none⟩ = some (.int .i64 f) ∧ W.cell? ⟨w.heap.size, 1, none⟩ = some (.int .i64 g) ∧ W.cell? ⟨w.heap.size, 2, none⟩ = some (.int .i64 1)) (go_keep) (first | (go_at_call 104; first | (with_reducible refine Calls.mono (P1 _) ?_; rintro e w2 ⟨rfl, rfl⟩) | (with_reducible refine Calls.mono (P2 _) ?_; rintro e w2 ⟨rfl, rfl⟩)))
    go_wp2
    refine bodyPost_ret (v := sv x y 1) (by simp [results, Tryd.results83, go_sem, sv]) rfl ?_
    subst hx hy
    exact ⟨rfl, (((Gr.refl w).alloc _).alloc _).drew⟩
  · have hb : bo b = 0 := if_neg h
    go_wp2_with fail
    go_region_held (fun W => W.cell? ⟨w.heap.size, 0, none⟩ = some (.int .i64 f) ∧ W.cell? ⟨w.heap.size, 1, none⟩ = some (.int .i64 g) ∧ W.cell? ⟨w.heap.size, 2, none⟩ = some (.int .i64 0)) (go_keep) (first | (go_at_call 104; first | (with_reducible refine Calls.mono (P1 _) ?_; rintro e w2 ⟨rfl, rfl⟩) | (with_reducible refine Calls.mono (P2 _) ?_; rintro e w2 ⟨rfl, rfl⟩)))
    go_wp2
    refine bodyPost_ret (v := sv x y 0) (by simp [results, Tryd.results83, go_sem, sv]) rfl ?_
    subst hx hy
    exact ⟨by rw [hb]; rfl, (((Gr.refl w).alloc _).alloc _).drew⟩

end Go.Proofs.YtlfffpoeioecjaaDoor

namespace Go.Proofs.YtlfffpoeioecjaaDoor
open Go.RowKit Go.Sort
set_option linter.unusedVariables false

set_option maxRecDepth 100000 in
set_option maxHeartbeats 2000000 in
theorem sound_any (f g b : Int) (w : World) : Calls Tryd.prog 30 #[sv f g b] w fun e w' => e = .returned (sv (kn f) (kn g) (bo b)) ∧ Gr w w' := by
  have P : Hid (∀ n w, Calls Tryd.prog 47 #[.int .i64 n] w fun e w' => e = .returned (.int .i64 (kn n)) ∧ w' = w) := rcol_any
  obtain ⟨x, hx⟩ : ∃ z, kn f = z := ⟨_, rfl⟩
  obtain ⟨y, hy⟩ : ∃ z, kn g = z := ⟨_, rfl⟩
  have P1 := P.out f
  have P2 := P.out g
  rw [hx] at P1
  rw [hy] at P2
  unfold sv
  go_enter Tryd.func30, Tryd.ntmps30
  by_cases h : b = 1
  · subst h
    go_wp2_with fail
    go_region_held (fun W => W.cell? ⟨w.heap.size, 0, none⟩ = some (.int .i64 f) ∧ W.cell? ⟨w.heap.size, 1, none⟩ = some (.int .i64 g)) (go_keep) (first | (go_at_call 47; first | (with_reducible refine Calls.mono (P1 _) ?_; rintro e w2 ⟨rfl, rfl⟩) | (with_reducible refine Calls.mono (P2 _) ?_; rintro e w2 ⟨rfl, rfl⟩)))
    go_wp2
    refine bodyPost_ret (v := sv x y 1) (by simp [results, Tryd.results30, go_sem, sv]) rfl ?_
    subst hx hy
    exact ⟨rfl, (((Gr.refl w).alloc _).alloc _).drew⟩
  · have hb : bo b = 0 := if_neg h
    go_wp2_with fail
    go_region_held (fun W => W.cell? ⟨w.heap.size, 0, none⟩ = some (.int .i64 f) ∧ W.cell? ⟨w.heap.size, 1, none⟩ = some (.int .i64 g)) (go_keep) (first | (go_at_call 47; first | (with_reducible refine Calls.mono (P1 _) ?_; rintro e w2 ⟨rfl, rfl⟩) | (with_reducible refine Calls.mono (P2 _) ?_; rintro e w2 ⟨rfl, rfl⟩)))
    go_wp2
    refine bodyPost_ret (v := sv x y 0) (by simp [results, Tryd.results30, go_sem, sv]) rfl ?_
    subst hx hy
    exact ⟨by rw [hb]; rfl, (((Gr.refl w).alloc _).alloc _).drew⟩

end Go.Proofs.YtlfffpoeioecjaaDoor

namespace Go.Proofs.YtlfffpoeioecjaaDoor
open Go.RowKit Go.Sort
set_option linter.unusedVariables false

/-- One number over another one. -/
def ov (a b : Int) : Int := if kn b = 0 then kn a else kn b
def obo (a b : Int) : Int := max (bo b) (bo a)
theorem ov_bd (a b : Int) : 0 ≤ ov a b ∧ ov a b ≤ 8 := by have := kn_bd a; have := kn_bd b; unfold ov; split <;> omega
theorem obo_bd (a b : Int) : 0 ≤ obo a b ∧ obo a b ≤ 1 := by have := bo_bd a; have := bo_bd b; unfold obo; omega
theorem kn_of {n : Int} (h : 0 ≤ n ∧ n ≤ 8) : kn n = n := if_neg (by omega)
theorem bo_of {n : Int} (h : 0 ≤ n ∧ n ≤ 1) : bo n = n := by unfold bo; split <;> omega
theorem kn_ov (a b : Int) : kn (ov a b) = ov a b := kn_of (ov_bd a b)
theorem bo_obo (a b : Int) : bo (obo a b) = obo a b := bo_of (obo_bd a b)
theorem ov_ov (a b c : Int) : ov (ov a b) c = ov a (ov b c) := by
  have e1 : ov (ov a b) c = if kn c = 0 then ov a b else kn c := by show (if kn c = 0 then kn (ov a b) else kn c) = _; rw [kn_ov]
  have e2 : ov a (ov b c) = if ov b c = 0 then kn a else ov b c := by show (if kn (ov b c) = 0 then kn a else kn (ov b c)) = _; rw [kn_ov]
  rw [e1, e2]
  unfold ov
  (repeat' split) <;> omega
theorem obo_obo (a b c : Int) : obo (obo a b) c = obo a (obo b c) := by
  have e1 : obo (obo a b) c = max (bo c) (obo a b) := by show max (bo c) (bo (obo a b)) = _; rw [bo_obo]
  have e2 : obo a (obo b c) = max (obo b c) (bo a) := by show max (bo (obo b c)) (bo a) = _; rw [bo_obo]
  rw [e1, e2]; unfold obo; omega
theorem ov_one (a : Int) {c : Int} (h : 1 ≤ c ∧ c ≤ 8) : ov a c = c := by
  have : kn c = c := kn_of (by omega)
  unfold ov; rw [this, if_neg (by omega)]
theorem obo_one (a : Int) : obo a 1 = 1 := by have := bo_bd a; have : bo 1 = 1 := rfl; unfold obo; omega
theorem ov_zero (a : Int) : ov 0 a = kn a := by have : kn 0 = 0 := rfl; unfold ov; split <;> omega
theorem obo_zero (a : Int) : obo 0 a = bo a := by have : bo 0 = 0 := rfl; have := bo_bd a; unfold obo; omega
theorem ov_self (a : Int) : ov (kn a) (kn a) = kn a := by unfold ov; rw [kn_kn]; split <;> omega
theorem obo_self (a : Int) : obo (bo a) (bo a) = bo a := by unfold obo; rw [bo_bo]; omega

theorem rv3 {a b c a' b' c' : Int} (h0 : a = a') (h1 : b = b') (h2 : c = c') : Ending.returned (.agg #[.int .i64 a, .int .i64 b, .int .i64 c]) = Ending.returned (sv a' b' c') := by subst h0 h1 h2; rfl
set_option maxRecDepth 100000 in
set_option maxHeartbeats 4000000 in
theorem over_any (f g b f2 g2 b2 : Int) (w : World) : Calls Tryd.prog 80 #[sv f g b, sv f2 g2 b2] w fun e w' => e = .returned (sv (ov f f2) (ov g g2) (obo b b2)) ∧ Gr w w' := by
  have CC : Hid (∀ f g b w, Calls Tryd.prog 83 #[sv f g b] w fun e w' => e = .returned (sv (kn f) (kn g) (bo b)) ∧ Gr w w') := counted_any
  unfold sv at CC ⊢
  go_enter Tryd.func80, Tryd.ntmps80
  go_wp2_with fail
  obtain ⟨S, hS⟩ : ∃ x, w.heap.size = x := ⟨_, rfl⟩
  obtain ⟨W0, hW0⟩ : ∃ x, ((w.alloc (.cells #[.int .i64 f, .int .i64 g, .int .i64 b] 32)).alloc (.cells #[.int .i64 f2, .int .i64 g2, .int .i64 b2] 32)).alloc (.cells #[.int .i64 0, .int .i64 0, .int .i64 0] 32) = x := ⟨_, rfl⟩
  have G0 : Hid (Gr w W0) := by rw [← hW0]; exact (((Gr.refl w).alloc _).alloc _).alloc _
  have RA : Hid (R3 32 W0 S f g b) := by rw [← hW0, ← hS]; exact (R3.new w _ _ _ _).gr (((Gr.refl _).alloc _).alloc _)
  have RB : Hid (R3 32 W0 (S + 1) f2 g2 b2) := by
    have := R3.new (w.alloc (.cells #[.int .i64 f, .int .i64 g, .int .i64 b] 32)) f2 g2 b2 32
    simp only [World.size_alloc, hS] at this
    rw [← hW0]; exact this.gr ((Gr.refl _).alloc _)
  have RC : Hid (R3 32 W0 (S + 1 + 1) 0 0 0) := by
    have := R3.new ((w.alloc (.cells #[.int .i64 f, .int .i64 g, .int .i64 b] 32)).alloc (.cells #[.int .i64 f2, .int .i64 g2, .int .i64 b2] 32)) 0 0 0 32
    simp only [World.size_alloc, hS] at this
    rw [← hW0]; exact this
  rw [hW0, hS]
  clear hW0
  have HS : Hid (w.heap.size = S) := hS
  clear hS
  have a0 := RA.out.c0
  have a1 := RA.out.c1
  have a2 := RA.out.c2
  have b0 := RB.out.c0
  have b1 := RB.out.c1
  have b2' := RB.out.c2
  obtain ⟨x, hx⟩ : ∃ z, kn f = z := ⟨_, rfl⟩
  obtain ⟨y, hy⟩ : ∃ z, kn g = z := ⟨_, rfl⟩
  obtain ⟨z, hz⟩ : ∃ z, bo b = z := ⟨_, rfl⟩
  obtain ⟨x2, hx2⟩ : ∃ z, kn f2 = z := ⟨_, rfl⟩
  obtain ⟨y2, hy2⟩ : ∃ z, kn g2 = z := ⟨_, rfl⟩
  obtain ⟨z2, hz2⟩ : ∃ z, bo b2 = z := ⟨_, rfl⟩
  have HV : Hid (sv (ov f f2) (ov g g2) (obo b b2) = sv (if x2 = 0 then x else x2) (if y2 = 0 then y else y2) (max z2 z)) := by show _ = _; unfold ov obo; rw [hx, hy, hz, hx2, hy2, hz2]
  have bz := bo_bd b
  have bz2 := bo_bd b2
  rw [hz] at bz
  rw [hz2] at bz2
  have C1 := CC.out f g b
  have C2 := CC.out f2 g2 b2
  rw [hx, hy, hz] at C1
  rw [hx2, hy2, hz2] at C2
  go_cut [2, 3, 4] from 5 to 9 (fun u v t wx => u = .pointer (some ⟨S, 0, none⟩) ∧ v = .pointer (some ⟨S + 1, 0, none⟩) ∧ t = .pointer (some ⟨S + 1 + 1, 0, none⟩) ∧ Hid (R3 32 wx S x y z ∧ R3 32 wx (S + 1) x2 y2 z2 ∧ R3 32 wx (S + 1 + 1) 0 0 0 ∧ Gr w wx))
  case first =>
    go_region_with (go_at_call 83; (first | (with_reducible refine Calls.mono (C1 _) ?_) | (with_reducible refine Calls.mono (C2 _) ?_)); rintro e wn ⟨rfl, hgn⟩; have HGn : Hid (Gr W0 wn) := (by first | exact ((Gr.refl W0).drew).trans hgn | exact Gr.trans (Hid.out (by assumption)) hgn); have HAn : Hid (R3 32 wn S f g b) := RA.out.gr HGn.out; have HBn : Hid (R3 32 wn (S + 1) f2 g2 b2) := RB.out.gr HGn.out; clear hgn; have m0 := HAn.out.c0; have m1 := HAn.out.c1; have m2 := HAn.out.c2; have n0 := HBn.out.c0; have n1 := HBn.out.c1; have n2 := HBn.out.c2; have f0 := HAn.out.fz 0; have f1 := HAn.out.fz 1; have f2' := HAn.out.fz 2; have g0 := HBn.out.fz 0; have g1 := HBn.out.fz 1; have g2' := HBn.out.fz 2)
    all_goals
      have HO : Hid (R3 32 ((((((wn.setCell ⟨S, 0, none⟩ (.int .i64 x)).setCell ⟨S, 1, none⟩ (.int .i64 y)).setCell ⟨S, 2, none⟩ (.int .i64 z)).setCell ⟨S + 1, 0, none⟩ (.int .i64 x2)).setCell ⟨S + 1, 1, none⟩ (.int .i64 y2)).setCell ⟨S + 1, 2, none⟩ (.int .i64 z2)) S x y z ∧ R3 32 ((((((wn.setCell ⟨S, 0, none⟩ (.int .i64 x)).setCell ⟨S, 1, none⟩ (.int .i64 y)).setCell ⟨S, 2, none⟩ (.int .i64 z)).setCell ⟨S + 1, 0, none⟩ (.int .i64 x2)).setCell ⟨S + 1, 1, none⟩ (.int .i64 y2)).setCell ⟨S + 1, 2, none⟩ (.int .i64 z2)) (S + 1) x2 y2 z2 ∧ R3 32 ((((((wn.setCell ⟨S, 0, none⟩ (.int .i64 x)).setCell ⟨S, 1, none⟩ (.int .i64 y)).setCell ⟨S, 2, none⟩ (.int .i64 z)).setCell ⟨S + 1, 0, none⟩ (.int .i64 x2)).setCell ⟨S + 1, 1, none⟩ (.int .i64 y2)).setCell ⟨S + 1, 2, none⟩ (.int .i64 z2)) (S + 1 + 1) 0 0 0 ∧ Gr w ((((((wn.setCell ⟨S, 0, none⟩ (.int .i64 x)).setCell ⟨S, 1, none⟩ (.int .i64 y)).setCell ⟨S, 2, none⟩ (.int .i64 z)).setCell ⟨S + 1, 0, none⟩ (.int .i64 x2)).setCell ⟨S + 1, 1, none⟩ (.int .i64 y2)).setCell ⟨S + 1, 2, none⟩ (.int .i64 z2))) :=
        ⟨(HAn.out.set x y z).others (by omega) _ _ _, (HBn.out.others (by omega) _ _ _).set x2 y2 z2, ((RC.out.gr HGn.out).others (by omega) _ _ _).others (by omega) _ _ _, ((G0.out.trans HGn.out).set3 (by rw [HS.out]; omega) _ _ _).set3 (by rw [HS.out]; omega) _ _ _⟩
      clear m0 m1 m2 n0 n1 n2 f0 f1 f2' g0 g1 g2' a0 a1 a2 b0 b1 b2' HAn HBn
      go_wp2_with fail
      go_meet
      exact ⟨rfl, rfl, rfl, HO.out⟩
  case rest =>
    obtain ⟨rfl, rfl, rfl, HO⟩ := hcut
    clear a0 a1 a2 b0 b1 b2' RA RB RC
    have a0 := HO.out.1.c0
    have a1 := HO.out.1.c1
    have a2 := HO.out.1.c2
    have b0 := HO.out.2.1.c0
    have b1 := HO.out.2.1.c1
    have b2' := HO.out.2.1.c2
    have g0 := HO.out.2.1.fz 0
    have g1 := HO.out.2.1.fz 1
    have g2' := HO.out.2.1.fz 2
    have gg := HO.out.2.2.2
    by_cases h1 : x2 = 0
    · by_cases h2 : y2 = 0
      · by_cases h3 : z2 < z
        · have h3' : z2 ≤ z := by omega
          have RN := (((HO.out.2.1.set0 x).set1 y).set2 z)
          have RO := (((HO.out.2.2.1.other (k := S + 1) (o := 0) (show S + 1 + 1 ≠ S + 1 by omega) (.int .i64 x)).other (k := S + 1) (o := 1) (show S + 1 + 1 ≠ S + 1 by omega) (.int .i64 y)).other (k := S + 1) (o := 2) (show S + 1 + 1 ≠ S + 1 by omega) (.int .i64 z))
          have GN := (((gg.set (o := 0) (show w.heap.size ≤ S + 1 by rw [HS.out]; omega) (.int .i64 x)).set (o := 1) (show w.heap.size ≤ S + 1 by rw [HS.out]; omega) (.int .i64 y)).set (o := 2) (show w.heap.size ≤ S + 1 by rw [HS.out]; omega) (.int .i64 z))
          have n0 := RN.c0
          have n1 := RN.c1
          have n2 := RN.c2
          have o0 := RO.c0
          have o1 := RO.c1
          have o2 := RO.c2
          have k0 := RO.fz 0
          have k1 := RO.fz 1
          have k2 := RO.fz 2
          go_wp2
          refine bodyPost_ret (results_cell_row rfl _ _ (S + 1 + 1) _ _ _ _ rfl (RO.set _ _ _) Tryd.underlying32 rfl (by kernel_rfl)) rfl ?_
          exact ⟨by show _ = Ending.returned (sv (ov f f2) (ov g g2) (obo b b2)); rw [HV.out, if_pos h1, if_pos h2, show max z2 z = z by omega]; rfl, GN.set3 (show w.heap.size ≤ S + 1 + 1 by rw [HS.out]; omega) _ _ _⟩
        · have h3' : z ≤ z2 := by omega
          have RN := (((HO.out.2.1.set0 x).set1 y).set2 z2)
          have RO := (((HO.out.2.2.1.other (k := S + 1) (o := 0) (show S + 1 + 1 ≠ S + 1 by omega) (.int .i64 x)).other (k := S + 1) (o := 1) (show S + 1 + 1 ≠ S + 1 by omega) (.int .i64 y)).other (k := S + 1) (o := 2) (show S + 1 + 1 ≠ S + 1 by omega) (.int .i64 z2))
          have GN := (((gg.set (o := 0) (show w.heap.size ≤ S + 1 by rw [HS.out]; omega) (.int .i64 x)).set (o := 1) (show w.heap.size ≤ S + 1 by rw [HS.out]; omega) (.int .i64 y)).set (o := 2) (show w.heap.size ≤ S + 1 by rw [HS.out]; omega) (.int .i64 z2))
          have n0 := RN.c0
          have n1 := RN.c1
          have n2 := RN.c2
          have o0 := RO.c0
          have o1 := RO.c1
          have o2 := RO.c2
          have k0 := RO.fz 0
          have k1 := RO.fz 1
          have k2 := RO.fz 2
          go_wp2
          refine bodyPost_ret (results_cell_row rfl _ _ (S + 1 + 1) _ _ _ _ rfl (RO.set _ _ _) Tryd.underlying32 rfl (by kernel_rfl)) rfl ?_
          exact ⟨by show _ = Ending.returned (sv (ov f f2) (ov g g2) (obo b b2)); rw [HV.out, if_pos h1, if_pos h2, show max z2 z = z2 by omega]; rfl, GN.set3 (show w.heap.size ≤ S + 1 + 1 by rw [HS.out]; omega) _ _ _⟩
      · by_cases h3 : z2 < z
        · have h3' : z2 ≤ z := by omega
          have RN := ((HO.out.2.1.set0 x).set2 z)
          have RO := ((HO.out.2.2.1.other (k := S + 1) (o := 0) (show S + 1 + 1 ≠ S + 1 by omega) (.int .i64 x)).other (k := S + 1) (o := 2) (show S + 1 + 1 ≠ S + 1 by omega) (.int .i64 z))
          have GN := ((gg.set (o := 0) (show w.heap.size ≤ S + 1 by rw [HS.out]; omega) (.int .i64 x)).set (o := 2) (show w.heap.size ≤ S + 1 by rw [HS.out]; omega) (.int .i64 z))
          have n0 := RN.c0
          have n1 := RN.c1
          have n2 := RN.c2
          have o0 := RO.c0
          have o1 := RO.c1
          have o2 := RO.c2
          have k0 := RO.fz 0
          have k1 := RO.fz 1
          have k2 := RO.fz 2
          go_wp2
          refine bodyPost_ret (results_cell_row rfl _ _ (S + 1 + 1) _ _ _ _ rfl (RO.set _ _ _) Tryd.underlying32 rfl (by kernel_rfl)) rfl ?_
          exact ⟨by show _ = Ending.returned (sv (ov f f2) (ov g g2) (obo b b2)); rw [HV.out, if_pos h1, if_neg h2, show max z2 z = z by omega]; rfl, GN.set3 (show w.heap.size ≤ S + 1 + 1 by rw [HS.out]; omega) _ _ _⟩
        · have h3' : z ≤ z2 := by omega
          have RN := ((HO.out.2.1.set0 x).set2 z2)
          have RO := ((HO.out.2.2.1.other (k := S + 1) (o := 0) (show S + 1 + 1 ≠ S + 1 by omega) (.int .i64 x)).other (k := S + 1) (o := 2) (show S + 1 + 1 ≠ S + 1 by omega) (.int .i64 z2))
          have GN := ((gg.set (o := 0) (show w.heap.size ≤ S + 1 by rw [HS.out]; omega) (.int .i64 x)).set (o := 2) (show w.heap.size ≤ S + 1 by rw [HS.out]; omega) (.int .i64 z2))
          have n0 := RN.c0
          have n1 := RN.c1
          have n2 := RN.c2
          have o0 := RO.c0
          have o1 := RO.c1
          have o2 := RO.c2
          have k0 := RO.fz 0
          have k1 := RO.fz 1
          have k2 := RO.fz 2
          go_wp2
          refine bodyPost_ret (results_cell_row rfl _ _ (S + 1 + 1) _ _ _ _ rfl (RO.set _ _ _) Tryd.underlying32 rfl (by kernel_rfl)) rfl ?_
          exact ⟨by show _ = Ending.returned (sv (ov f f2) (ov g g2) (obo b b2)); rw [HV.out, if_pos h1, if_neg h2, show max z2 z = z2 by omega]; rfl, GN.set3 (show w.heap.size ≤ S + 1 + 1 by rw [HS.out]; omega) _ _ _⟩
    · by_cases h2 : y2 = 0
      · by_cases h3 : z2 < z
        · have h3' : z2 ≤ z := by omega
          have RN := ((HO.out.2.1.set1 y).set2 z)
          have RO := ((HO.out.2.2.1.other (k := S + 1) (o := 1) (show S + 1 + 1 ≠ S + 1 by omega) (.int .i64 y)).other (k := S + 1) (o := 2) (show S + 1 + 1 ≠ S + 1 by omega) (.int .i64 z))
          have GN := ((gg.set (o := 1) (show w.heap.size ≤ S + 1 by rw [HS.out]; omega) (.int .i64 y)).set (o := 2) (show w.heap.size ≤ S + 1 by rw [HS.out]; omega) (.int .i64 z))
          have n0 := RN.c0
          have n1 := RN.c1
          have n2 := RN.c2
          have o0 := RO.c0
          have o1 := RO.c1
          have o2 := RO.c2
          have k0 := RO.fz 0
          have k1 := RO.fz 1
          have k2 := RO.fz 2
          go_wp2
          refine bodyPost_ret (results_cell_row rfl _ _ (S + 1 + 1) _ _ _ _ rfl (RO.set _ _ _) Tryd.underlying32 rfl (by kernel_rfl)) rfl ?_
          exact ⟨by show _ = Ending.returned (sv (ov f f2) (ov g g2) (obo b b2)); rw [HV.out, if_neg h1, if_pos h2, show max z2 z = z by omega]; rfl, GN.set3 (show w.heap.size ≤ S + 1 + 1 by rw [HS.out]; omega) _ _ _⟩
        · have h3' : z ≤ z2 := by omega
          have RN := ((HO.out.2.1.set1 y).set2 z2)
          have RO := ((HO.out.2.2.1.other (k := S + 1) (o := 1) (show S + 1 + 1 ≠ S + 1 by omega) (.int .i64 y)).other (k := S + 1) (o := 2) (show S + 1 + 1 ≠ S + 1 by omega) (.int .i64 z2))
          have GN := ((gg.set (o := 1) (show w.heap.size ≤ S + 1 by rw [HS.out]; omega) (.int .i64 y)).set (o := 2) (show w.heap.size ≤ S + 1 by rw [HS.out]; omega) (.int .i64 z2))
          have n0 := RN.c0
          have n1 := RN.c1
          have n2 := RN.c2
          have o0 := RO.c0
          have o1 := RO.c1
          have o2 := RO.c2
          have k0 := RO.fz 0
          have k1 := RO.fz 1
          have k2 := RO.fz 2
          go_wp2
          refine bodyPost_ret (results_cell_row rfl _ _ (S + 1 + 1) _ _ _ _ rfl (RO.set _ _ _) Tryd.underlying32 rfl (by kernel_rfl)) rfl ?_
          exact ⟨by show _ = Ending.returned (sv (ov f f2) (ov g g2) (obo b b2)); rw [HV.out, if_neg h1, if_pos h2, show max z2 z = z2 by omega]; rfl, GN.set3 (show w.heap.size ≤ S + 1 + 1 by rw [HS.out]; omega) _ _ _⟩
      · by_cases h3 : z2 < z
        · have h3' : z2 ≤ z := by omega
          have RN := (HO.out.2.1.set2 z)
          have RO := (HO.out.2.2.1.other (k := S + 1) (o := 2) (show S + 1 + 1 ≠ S + 1 by omega) (.int .i64 z))
          have GN := (gg.set (o := 2) (show w.heap.size ≤ S + 1 by rw [HS.out]; omega) (.int .i64 z))
          have n0 := RN.c0
          have n1 := RN.c1
          have n2 := RN.c2
          have o0 := RO.c0
          have o1 := RO.c1
          have o2 := RO.c2
          have k0 := RO.fz 0
          have k1 := RO.fz 1
          have k2 := RO.fz 2
          go_wp2
          refine bodyPost_ret (results_cell_row rfl _ _ (S + 1 + 1) _ _ _ _ rfl (RO.set _ _ _) Tryd.underlying32 rfl (by kernel_rfl)) rfl ?_
          exact ⟨by show _ = Ending.returned (sv (ov f f2) (ov g g2) (obo b b2)); rw [HV.out, if_neg h1, if_neg h2, show max z2 z = z by omega]; rfl, GN.set3 (show w.heap.size ≤ S + 1 + 1 by rw [HS.out]; omega) _ _ _⟩
        · have h3' : z ≤ z2 := by omega
          have RN := (HO.out.2.1.set2 z2)
          have RO := (HO.out.2.2.1.other (k := S + 1) (o := 2) (show S + 1 + 1 ≠ S + 1 by omega) (.int .i64 z2))
          have GN := (gg.set (o := 2) (show w.heap.size ≤ S + 1 by rw [HS.out]; omega) (.int .i64 z2))
          have n0 := RN.c0
          have n1 := RN.c1
          have n2 := RN.c2
          have o0 := RO.c0
          have o1 := RO.c1
          have o2 := RO.c2
          have k0 := RO.fz 0
          have k1 := RO.fz 1
          have k2 := RO.fz 2
          go_wp2
          refine bodyPost_ret (results_cell_row rfl _ _ (S + 1 + 1) _ _ _ _ rfl (RO.set _ _ _) Tryd.underlying32 rfl (by kernel_rfl)) rfl ?_
          exact ⟨by show _ = Ending.returned (sv (ov f f2) (ov g g2) (obo b b2)); rw [HV.out, if_neg h1, if_neg h2, show max z2 z = z2 by omega]; rfl, GN.set3 (show w.heap.size ≤ S + 1 + 1 by rw [HS.out]; omega) _ _ _⟩

end Go.Proofs.YtlfffpoeioecjaaDoor
