/-
  The walks of the leaves: glyph.shown, glyph.runeOf, paneref.more, paneref.sequence, paneref.written.
-/
import Derived.Test.YtkdajaphbmclkaaGreatDoorBase
import Derived.Test.YtkdajaphbmclkaaGreatDoorRows
import Derived.WalkKit
import Derived.WalkSpells
import Derived.WalkLawsBesides
namespace Go.Proofs.YtkdajaphbmclkaaGreatDoor
open Go.RowKit

set_option maxRecDepth 100000 in
set_option maxHeartbeats 400000 in
theorem shown_any (r : Int) (w : World) :
    Calls Tryz.prog 62 #[.int .i32 r] w fun e w' => e = .returned (.int .i32 (shownI r)) ∧ w' = w := by
  unfold shownI
  by_cases h1 : r < 32
  · by_cases h2 : r = 10
    · subst h2
      go_enter Tryz.func62, Tryz.ntmps62
      go_wp2
      go_ret
      exact ⟨rfl, rfl⟩
    · have h2' : (r != 10) = true := by simp [h2]
      rw [if_pos (Or.inl ⟨h1, h2⟩)]
      clear h2
      go_enter Tryz.func62, Tryz.ntmps62
      go_wp2
      go_ret
      exact ⟨rfl, rfl⟩
  · by_cases h3 : 127 ≤ r
    · by_cases h4 : r ≤ 159
      · rw [if_pos (Or.inr ⟨h3, h4⟩)]
        go_enter Tryz.func62, Tryz.ntmps62
        go_wp2
        go_ret
        exact ⟨rfl, rfl⟩
      · rw [if_neg (by omega)]
        go_enter Tryz.func62, Tryz.ntmps62
        go_wp2
        go_ret
        exact ⟨rfl, rfl⟩
    · rw [if_neg (by omega)]
      go_enter Tryz.func62, Tryz.ntmps62
      go_wp2
      go_ret
      exact ⟨rfl, rfl⟩

/-- A number as a rune: what glyph.runeOf makes of it. -/
def runeI (n : Int) : Int := if n < 0 ∨ 1114111 < n ∨ (55296 ≤ n ∧ n ≤ 57343) then 65533 else n

theorem runeI_bd (n : Int) : 0 ≤ runeI n ∧ runeI n ≤ 1114111 := by unfold runeI; split <;> omega
theorem encode_runeI (n : Int) : Lib.encodeRuneZ (runeI n) = Lib.encodeRuneZ n := by
  unfold runeI
  split
  · rename_i h
    rw [Lib.encodeRuneZ_bad (r := n) (by omega)]
    rfl
  · rfl

set_option maxRecDepth 100000 in
set_option maxHeartbeats 400000 in
theorem runeOf_any (n : Int) (w : World) :
    Calls Tryz.prog 80 #[.int .i64 n] w fun e w' => e = .returned (.int .i32 (runeI n)) ∧ w' = w := by
  unfold runeI
  by_cases h1 : n < 0
  · rw [if_pos (Or.inl h1)]
    go_enter Tryz.func80, Tryz.ntmps80
    go_wp2
    go_ret
    exact ⟨rfl, rfl⟩
  · by_cases h2 : 1114111 < n
    · rw [if_pos (Or.inr (Or.inl h2))]
      go_enter Tryz.func80, Tryz.ntmps80
      go_wp2
      go_ret
      exact ⟨rfl, rfl⟩
    · by_cases h3 : 55296 ≤ n
      · by_cases h4 : n ≤ 57343
        · rw [if_pos (Or.inr (Or.inr ⟨h3, h4⟩))]
          go_enter Tryz.func80, Tryz.ntmps80
          go_wp2
          go_ret
          exact ⟨rfl, rfl⟩
        · rw [if_neg (by omega)]
          go_enter Tryz.func80, Tryz.ntmps80
          go_wp2
          go_ret
          exact ⟨rfl, rfl⟩
      · rw [if_neg (by omega)]
        go_enter Tryz.func80, Tryz.ntmps80
        go_wp2
        go_ret
        exact ⟨rfl, rfl⟩

end Go.Proofs.YtkdajaphbmclkaaGreatDoor
