/-
  One step of a script on the program's canvas.
-/
import Derived.Test.YtkcddikpjblpaagCClo
import Derived.Test.YtkcddikpjblpaagCPut
import Derived.Test.YtkcddikpjblpaagYNum
namespace Go.Proofs.Ytkcddikpjblpaag
open Go.RowKit Go.Sort
set_option linter.unusedVariables false

def en (zs : List Int) (i : Nat) : Int := zs[i]?.getD 0
set_option maxRecDepth 100000 in
theorem entry_any (zs : List Int) (v : Value) (w : World) (h : Ints w v zs) (i : Int) (n : Nat) (hin : i = n) (hn : n ≤ 100) : Calls Try.prog 33 #[v, .int .i64 i] w fun e w' => e = .returned (.int .i64 (en zs n)) ∧ w' = w := by
  subst hin
  obtain ⟨a, cap, rfl, hh⟩ := h
  by_cases hlt : n < zs.length
  · rcases hh with rfl | ⟨b, off, rfl, hl, hc⟩
    · simp at hlt
    · have c0 := hc n hlt
      obtain ⟨x, hx⟩ : ∃ x, en zs n = x := ⟨_, rfl⟩
      have hx' : zs[n]?.getD 0 = x := hx
      rw [hx'] at c0
      rw [hx]
      clear hc hx hx'
      have hlt' : (n : Int) < (zs.length : Int) := by omega
      go_enter Try.func33, Try.ntmps33
      go_wp2
      go_ret
      exact ⟨rfl, rfl⟩
  · have hlt' : ¬ (n : Int) < (zs.length : Int) := by omega
    have hx : en zs n = 0 := by unfold en; rw [List.getElem?_eq_none (by omega)]; rfl
    rw [hx]
    clear hx hh
    go_enter Try.func33, Try.ntmps33
    go_wp2
    go_ret
    exact ⟨rfl, rfl⟩

set_option maxRecDepth 100000 in
set_option maxHeartbeats 2000000 in
theorem four_any (zs : List Int) (v : Value) (w : World) (h : Ints w v zs) (i : Int) (n : Nat) (hin : i = n) (hn : n ≤ 90) : Calls Try.prog 21 #[v, .int .i64 i] w fun e w' => e = .returned (rv (en zs n) (en zs (n + 1)) (en zs (n + 2)) (en zs (n + 3))) ∧ Gr w w' := by
  have E0 : Hid (∀ w, Ints w v zs → ∀ (i : Int) (n : Nat), i = n → n ≤ 100 → Calls Try.prog 33 #[v, .int .i64 i] w fun e w' => e = .returned (.int .i64 (en zs n)) ∧ w' = w) := fun w h i n hin hn => entry_any zs v w h i n hin hn
  have HI : Hid (Ints (w.alloc (.cells #[.int .i64 0, .int .i64 0, .int .i64 0, .int .i64 0] 54)) v zs) := ints_gr h ((Gr.refl w).alloc _)
  clear h
  have i1 : -100 ≤ i ∧ i ≤ 100 := by omega
  have HN : Hid (i = n) := hin
  clear hin
  unfold rv
  go_enter Try.func21, Try.ntmps21
  go_wp2_with fail
  refine Calls.mono (E0.out _ HI.out _ n HN.out (by omega)) ?_
  rintro e w1 ⟨rfl, hw1⟩
  obtain rfl := hw1.symm
  go_wp2_with fail
  refine Calls.mono (E0.out _ HI.out _ (n + 1) (by have := HN.out; omega) (by omega)) ?_
  rintro e w1 ⟨rfl, hw1⟩
  obtain rfl := hw1.symm
  go_wp2_with fail
  refine Calls.mono (E0.out _ HI.out _ (n + 2) (by have := HN.out; omega) (by omega)) ?_
  rintro e w1 ⟨rfl, hw1⟩
  obtain rfl := hw1.symm
  go_wp2_with fail
  refine Calls.mono (E0.out _ HI.out _ (n + 3) (by have := HN.out; omega) (by omega)) ?_
  rintro e w1 ⟨rfl, hw1⟩
  obtain rfl := hw1.symm
  go_wp2
  refine bodyPost_ret (v := rv (en zs n) (en zs (n + 1)) (en zs (n + 2)) (en zs (n + 3))) (by simp [results, Try.results21, go_sem, rv]) rfl ?_
  exact ⟨rfl, (Gr.refl w).alloc _⟩
set_option maxRecDepth 100000 in
set_option maxHeartbeats 2000000 in
theorem hue_any (zs : List Int) (v : Value) (w : World) (h : Ints w v zs) : Calls Try.prog 30 #[v] w fun e w' => e = .returned (sv (en zs 1) (en zs 2) (en zs 3)) ∧ Gr w w' := by
  have E0 : Hid (∀ w, Ints w v zs → ∀ (i : Int) (n : Nat), i = n → n ≤ 100 → Calls Try.prog 33 #[v, .int .i64 i] w fun e w' => e = .returned (.int .i64 (en zs n)) ∧ w' = w) := fun w h i n hin hn => entry_any zs v w h i n hin hn
  have HI : Hid (Ints (w.alloc (.cells #[.int .i64 0, .int .i64 0, .int .i64 0] 23)) v zs) := ints_gr h ((Gr.refl w).alloc _)
  clear h
  unfold sv
  go_enter Try.func30, Try.ntmps30
  go_wp2_with fail
  refine Calls.mono (E0.out _ HI.out _ 1 rfl (by omega)) ?_
  rintro e w1 ⟨rfl, hw1⟩
  obtain rfl := hw1.symm
  go_wp2_with fail
  refine Calls.mono (E0.out _ HI.out _ 2 rfl (by omega)) ?_
  rintro e w1 ⟨rfl, hw1⟩
  obtain rfl := hw1.symm
  go_wp2_with fail
  refine Calls.mono (E0.out _ HI.out _ 3 rfl (by omega)) ?_
  rintro e w1 ⟨rfl, hw1⟩
  obtain rfl := hw1.symm
  go_wp2
  refine bodyPost_ret (v := sv (en zs 1) (en zs 2) (en zs 3)) (by simp [results, Try.results30, go_sem, sv]) rfl ?_
  exact ⟨rfl, (Gr.refl w).alloc _⟩

/-- A step as a value, and what it does. -/
def opv (kd a b : Int) (s t : ByteArray) (v : Value) : Value := .agg #[.int .i64 kd, .int .i64 a, .int .i64 b, .string s, .string t, v]
def drawC (W H : Nat) (c : Nat → Nat → Ce) (kd a b : Int) (s : ByteArray) (zs : List Int) : Nat → Nat → Ce :=
  if kd = 1 then putC W H c a b s (en zs 0) (en zs 1) (en zs 2) (en zs 3) (en zs 4) (en zs 5) (en zs 6) (en zs 7)
  else if kd = 2 then filC W H c (en zs 8) (en zs 9) (en zs 10) (en zs 11) (en zs 1) (en zs 2) (en zs 3) (en zs 4) (en zs 5) (en zs 6) (en zs 7)
  else c
theorem PAll.draw {W H : Nat} {c : Nat → Nat → Ce} (h : PAll W H c) (hW : 1 ≤ W ∧ W ≤ 400) (hH : 1 ≤ H ∧ H ≤ 400) (kd a b : Int) (s : ByteArray) (zs : List Int) : PAll W H (drawC W H c kd a b s zs) := by
  unfold drawC
  split
  · exact h.putX hW hH _ _ _ _ _ _ _ _ _ _ _
  · split
    · exact h.filX hW hH _ _ _ _ _ _ _ _ _ _ _
    · exact h
end Go.Proofs.Ytkcddikpjblpaag
