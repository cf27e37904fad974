/-
  The walk of glyph.Columns.
-/
import Derived.Test.YtbjfckhijjjnkacDoorClsMem
namespace Go.Proofs.YtbjfckhijjjnkacDoor
open Go.RowKit
set_option linter.unusedVariables false

set_option maxRecDepth 100000 in
set_option maxHeartbeats 2000000 in
theorem columns_any (s : ByteArray) (w : World) (ht : TabAt w) (hs : s.size ≤ 1099511627776) :
    Calls Tryd.prog 11 #[.string s] w fun e w' => e = .returned (.int .i64 (wideSum (clus (runes s.data.toList)))) ∧ Below w.heap.size w w' := by
  have hsl : s.data.toList.length = s.size := by rw [Array.length_toList]; rfl
  have hR := runes_length s.data.toList
  have hC := clus_length (runes s.data.toList)
  rw [hsl] at hR
  have hbd := clus_wide (runes s.data.toList)
  have G : Hid (Calls Tryd.prog 7 #[.string s] w fun e w' => ∃ v, e = .returned v ∧ Cls w' v (clus (runes s.data.toList)) ∧ Below w.heap.size w w') := by
    refine (gClusters_any s w ht hs).mono ?_
    rintro e w1 ⟨v, rfl, o, b⟩
    exact ⟨v, rfl, cls_own o, b⟩
  obtain ⟨l, hl⟩ : ∃ l, clus (runes s.data.toList) = l := ⟨_, rfl⟩
  rw [hl] at G hC hbd
  have HL : Hid (clus (runes s.data.toList) = l) := hl
  have HBD : Hid (∀ c ∈ l, 0 ≤ c.2 ∧ c.2 ≤ 2) := hbd
  clear hl hsl ht hbd
  go_enter Tryd.func11, Tryd.ntmps11
  go_wp2_with fail
  refine G.out.mono ?_
  rintro e w1 ⟨v1, rfl, ⟨a, cap, rfl, hh⟩, b1⟩
  have hs1 := b1.size
  clear G
  go_wp2
  go_loopw [3, 9] (fun t i wr => ∃ k : Nat, k ≤ l.length ∧ i = .int .i64 k ∧ t = .int .i64 (wideSum (l.take k)) ∧ Below w1.heap.size w1 wr) (fun _ i _ => l.length - (intOf i).toNat)
  case atStart => exact ⟨0, Nat.zero_le _, rfl, rfl, Below.refl _ _⟩
  case round =>
    obtain ⟨k, hk, rfl, rfl, hbw⟩ := hrel
    have hwb := wideSum_bd l HBD.out k
    have hsz := hbw.size
    by_cases hlt : k < l.length
    · have hlt' : (k : Int) < (l.length : Int) := by omega
      have hne : l ≠ [] := fun e => by rw [e] at hlt; simp at hlt
      obtain ⟨b, off, rfl, hb, hc⟩ := hh.resolve_left hne
      obtain ⟨T, W, hTW⟩ : ∃ T W, l[k] = (T, W) := ⟨_, _, rfl⟩
      have hW := HBD.out l[k] (List.getElem_mem hlt)
      have c0 : wr.cell? ⟨b, off + k * 2, none⟩ = some (.string ⟨T.toArray⟩) := by
        have := (hc k hlt).1; rw [hTW] at this; exact (hbw.cell (p := ⟨b, off + k * 2, none⟩) hb).trans this
      have c1 : wr.cell? ⟨b, off + k * 2 + 1, none⟩ = some (.int .i64 W) := by
        have := (hc k hlt).2; rw [hTW] at this; exact (hbw.cell (p := ⟨b, off + k * 2 + 1, none⟩) hb).trans this
      have HS : Hid (wideSum (l.take (k + 1)) = wideSum (l.take k) + W) := by show _ = _; rw [wideSum_snoc l k hlt, hTW]
      rw [hTW] at hW
      obtain ⟨X, hX⟩ : ∃ X, wideSum (l.take k) = X := ⟨_, rfl⟩
      rw [hX] at HS hwb
      rw [hX]
      simp only at hW
      clear hh hc hTW hX hne
      go_wp2
      go_roundw
      case rel => exact ⟨k + 1, by omega, by go_num, by rw [HS.out], hbw.alloc hsz _⟩
      case measure => simp [intOf]; omega
    · have hlt' : ¬ (k : Int) < (l.length : Int) := by omega
      have HE : Hid (l.take k = l) := List.take_of_length_le (by omega)
      clear hh
      go_wp2
      go_ret
      rw [HL.out, HE.out]
      exact ⟨rfl, b1.trans (hbw.mono hs1)⟩

end Go.Proofs.YtbjfckhijjjnkacDoor
