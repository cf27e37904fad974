/-
  panelaw.spoil on a list of the call's own: nothing else is written.
-/
import Derived.Test.YtlioofikfgdnmaaDec
namespace Go.Proofs.Ytlioofikfgdnmaa
open Go.RowKit
set_option linter.unusedVariables false

theorem grownBy_refl (w : World) (row : Option Nat) : w.grownBy w row := ⟨rfl, rfl, rfl, Nat.le_refl _, fun _ _ _ => rfl⟩
theorem grownBy_set {w wr : World} {g : Nat} (h : w.grownBy wr (some g)) (k : Nat) (v : Value) : w.grownBy (wr.setCell ⟨g, k, none⟩ v) (some g) := by
  refine ⟨h.os, h.tape, h.output, by simpa [World.setCell] using h.size, fun j hj hne => ?_⟩
  rw [heap_setCell_other wr ⟨g, k, none⟩ j v (fun e => hne (by rw [e])), h.block j hj hne]

/-- The first n cells of block g hold numbers. -/
def Nums (w : World) (g n : Nat) : Prop := ∃ cur, w.heap[g]? = some (.cells cur 3 (0, 0)) ∧ ∀ j, j < n → ∃ z, cur[j]? = some (.int .i64 z)
theorem Nums.set {w : World} {g n : Nat} (h : Nums w g n) (k : Nat) (z : Int) : Nums (w.setCell ⟨g, k, none⟩ (.int .i64 z)) g n := by
  obtain ⟨cur, hg, hc⟩ := h
  refine ⟨_, heap_setCell_same w g k cur 3 (.int .i64 z) hg, fun j hj => ?_⟩
  obtain ⟨y, hy⟩ := hc j hj
  rw [Array.getElem?_setIfInBounds]
  by_cases e : k = j
  · subst e
    have := (Array.getElem?_eq_some_iff.1 hy).1
    exact ⟨z, by simp [this]⟩
  · exact ⟨y, by simp [e, hy]⟩

set_option maxHeartbeats 1000000 in
theorem spoil_some (g n cap : Nat) (w : World) (hn : n ≤ 17592186044416) (h : Nums w g n) :
    Calls Try.prog 9 #[.slice (some ⟨g, 0, none⟩) n cap] w fun e w' => e = .returned (.tuple #[]) ∧ w.grownBy w' (some g) := by
  go_enter Try.func9, Try.ntmps9
  go_wp2
  go_loopw [2] (fun i wr => ∃ k : Nat, k ≤ n ∧ i = .int .i64 k ∧ Nums wr g n ∧ w.grownBy wr (some g)) (fun i _ => n - (intOf i).toNat)
  case atStart => exact ⟨0, Nat.zero_le _, rfl, h, grownBy_refl _ _⟩
  case round =>
    obtain ⟨k, hk, rfl, hN, hg⟩ := hrel
    by_cases hlt : k < n
    · have hlt' : (k : Int) < (n : Int) := by omega
      have HN : Hid (Nums wr g n) := hN
      obtain ⟨x, hx, hf⟩ : ∃ x, wr.cell? ⟨g, k, none⟩ = some (.int .i64 x) ∧ wr.frozen? ⟨g, k, none⟩ = false := by
        obtain ⟨cur, hg, hc⟩ := hN
        obtain ⟨z, hz⟩ := hc k hlt
        exact ⟨z, by rw [cell_of_row wr g k cur 3 (0, 0) hg]; exact hz, frozen_of_row wr g k cur 3 hg⟩
      clear hN
      go_wp2
      go_roundw
      case rel => exact ⟨k + 1, by omega, by go_num, HN.out.set k _, grownBy_set hg k _⟩
      case measure => simp [intOf]; omega
    · have hlt' : ¬ (k : Int) < (n : Int) := by omega
      go_wp2
      go_end0
      exact ⟨rfl, hg⟩

set_option maxHeartbeats 1000000 in
theorem spoil_nil (w : World) : Calls Try.prog 9 #[.slice none 0 0] w fun e w' => e = .returned (.tuple #[]) ∧ w' = w := by
  go_enter Try.func9, Try.ntmps9
  go_wp2
  go_loop [2] (fun i => i = .int .i64 0) (fun _ => 0)
  case atStart => exact rfl
  case round =>
    obtain rfl := hrel
    go_wp2
    go_end0
    exact ⟨rfl, rfl⟩

theorem spoil_any (B n : Nat) (v : Value) (zs : List Int) (w : World) (hn : n ≤ 17592186044416) (h : w.ownsRow B 3 1 v n (zs.map (Value.int .i64))) :
    Calls Try.prog 9 #[v] w fun e w' => e = .returned (.tuple #[]) ∧ w.grownBy w' v.ownBlock := by
  obtain ⟨hl, h2⟩ := h
  rcases h2 with ⟨rfl, rfl⟩ | ⟨g, cap, cur, rfl, hB, hg, hnc, _, _, htake⟩
  · refine (spoil_nil w).mono ?_
    rintro e w' ⟨rfl, rfl⟩
    exact ⟨rfl, grownBy_refl _ _⟩
  · refine spoil_some g n cap w hn ⟨cur, hg, fun j hj => ?_⟩
    have hjl : j < zs.length := by simp at hl; omega
    have hz : (cur.toList.take (n * 1))[j]? = some (.int .i64 zs[j]) := by rw [htake]; simp [hjl]
    rw [List.getElem?_take, if_pos (by omega), Array.getElem?_toList] at hz
    exact ⟨_, hz⟩

end Go.Proofs.Ytlioofikfgdnmaa
