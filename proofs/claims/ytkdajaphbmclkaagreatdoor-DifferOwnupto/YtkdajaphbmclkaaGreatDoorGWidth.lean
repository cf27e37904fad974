/-
  The walk of glyph.Width: a search by halves over the table.
-/
import Derived.Test.YtkdajaphbmclkaaGreatDoorWid
import Derived.Test.YtkdajaphbmclkaaGreatDoorEnc
namespace Go.Proofs.YtkdajaphbmclkaaGreatDoor
open Go.RowKit
set_option linter.unusedVariables false

/-- The table as it lies in memory. -/
def TabAt (w : World) : Prop := ∀ i, i < 26 → w.cell? ⟨2, i * 3, none⟩ = some (.int .i64 (spanAt i).1) ∧ w.cell? ⟨2, i * 3 + 1, none⟩ = some (.int .i64 (spanAt i).2.1) ∧ w.cell? ⟨2, i * 3 + 2, none⟩ = some (.int .i64 (spanAt i).2.2)

set_option maxRecDepth 100000 in
set_option maxHeartbeats 1000000 in
theorem gWidth_any (r : Int) (w : World) (ht : TabAt w) :
    Calls Tryz.prog 64 #[.int .i64 r] w fun e w' => e = .returned (.int .i64 (wid r)) ∧ w' = w := by
  have HT : Hid (TabAt w) := ht
  clear ht
  by_cases h10 : r = 10
  · subst h10
    rw [wid_ten]
    go_enter Tryz.func64, Tryz.ntmps64
    go_wp2
    go_ret
    exact ⟨rfl, rfl⟩
  · have h10' : (r == 10) = false := by simp [h10]
    have H10 : Hid (r ≠ 10) := h10
    clear h10
    go_enter Tryz.func64, Tryz.ntmps64
    go_wp2
    go_loop [3, 4] (fun a b => ∃ lo hi : Nat, lo ≤ hi ∧ hi ≤ 26 ∧ a = .int .i64 lo ∧ b = .int .i64 hi ∧ Hid (Half r lo hi)) (fun a b => (intOf b - intOf a).toNat)
    case atStart => exact ⟨0, 26, by omega, by omega, rfl, rfl, half_start r⟩
    case round =>
      obtain ⟨lo, hi, hle, h26, rfl, rfl, hh⟩ := hrel
      by_cases hlt : lo < hi
      · have hlt' : (lo : Int) < (hi : Int) := by omega
        obtain ⟨mid, hm⟩ : ∃ mid : Nat, mid = (lo + hi) / 2 := ⟨_, rfl⟩
        have hmid : ((lo : Int) + (hi : Int)) / 2 = (mid : Int) := by omega
        have hm26 : mid < 26 := by omega
        have hmlo : lo ≤ mid := by omega
        have hmhi : mid < hi := by omega
        clear hm
        obtain ⟨c0, c1, c2⟩ := HT.out mid hm26
        obtain ⟨a, b, c, hs⟩ : ∃ a b c, spanAt mid = (a, b, c) := ⟨_, _, _, rfl⟩
        rw [hs] at c0 c1 c2
        have HS : Hid (spanAt mid = (a, b, c)) := hs
        clear hs
        have fin1 : r < a → Hid (Half r lo mid) := fun h => half_high hh.out hm26 (by rw [HS.out]; exact h)
        have fin2 : b < r → Hid (Half r (mid + 1) hi) := fun h => half_low hh.out hm26 (by rw [HS.out]; exact h)
        have fin3 : Hid (a ≤ r → r ≤ b → wid r = c) := fun h k => by
          have := wid_span r _ (spanAt_mem hm26) (by rw [HS.out]; exact h) (by rw [HS.out]; exact k)
          rw [HS.out] at this; exact this
        by_cases ha : r < a
        · have h1 := fin1 ha
          clear fin1 fin2 fin3 hh
          go_wp2
          go_round
          case rel => exact ⟨lo, mid, by omega, by omega, rfl, by first | rfl | rw [hmid], h1⟩
          case measure => simp [intOf]; omega
        · by_cases hb : b < r
          · have h2 := fin2 hb
            clear fin1 fin2 fin3 hh
            go_wp2
            go_round
            case rel => exact ⟨mid + 1, hi, by omega, by omega, by first | rfl | go_num | (rw [hmid]; go_num), rfl, h2⟩
            case measure => simp [intOf]; omega
          · have h3 : Hid (wid r = c) := fin3.out (by omega) (by omega)
            clear fin1 fin2 fin3 hh
            go_wp2
            go_ret
            rw [h3.out]
            exact ⟨rfl, rfl⟩
      · have hlt' : ¬ (lo : Int) < (hi : Int) := by omega
        have h3 : Hid (wid r = 1) := half_end hh.out (by omega) H10.out
        clear hh
        go_wp2
        go_ret
        rw [h3.out]
        exact ⟨rfl, rfl⟩

end Go.Proofs.YtkdajaphbmclkaaGreatDoor
