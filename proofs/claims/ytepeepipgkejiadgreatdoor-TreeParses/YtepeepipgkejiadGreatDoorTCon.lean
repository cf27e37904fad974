/-
  slices.Index and slices.Contains of texts.
-/
import Derived.Test.YtepeepipgkejiadGreatDoorTNum
namespace Go.Proofs.YtepeepipgkejiadGreatDoor
open Go.RowKit
set_option linter.unusedVariables false

set_option maxRecDepth 100000 in
set_option maxHeartbeats 2000000 in
theorem index_some (ws : List ByteArray) (x : ByteArray) (blk off cap n : Nat) (w : World) (hb : blk < w.heap.size) (hc : ∀ j, j < ws.length → w.cell? ⟨blk, off + j, none⟩ = some (.string (ws[j]?.getD ByteArray.empty))) (hn : ws.length = n) (hn2 : n ≤ 1099511627776) :
    Calls Tryz.prog 123 #[.slice (some ⟨blk, off, none⟩) n cap, .string x] w fun e w' => e = .returned (.int .i64 (findF ws x 0)) ∧ w' = w := by
  have HC : Hid (∀ j, j < ws.length → w.cell? ⟨blk, off + j, none⟩ = some (.string (ws[j]?.getD ByteArray.empty))) := hc
  have HN : Hid (ws.length = n) := hn
  clear hc hn
  go_enter Tryz.func123, Tryz.ntmps123
  go_wp2
  go_loop [8] (fun i => ∃ k : Nat, k ≤ n ∧ i = .int .i64 k ∧ Hid (findF ws x 0 = findF (ws.drop k) x k)) (fun i => n - (intOf i).toNat)
  case atStart => exact ⟨0, Nat.zero_le _, rfl, by show _ = _; rw [List.drop_zero]⟩
  case round =>
    obtain ⟨k, hk, rfl, HF⟩ := hrel
    by_cases hlt : k < n
    · have hlt' : (k : Int) < (n : Int) := by omega
      have hkw : k < ws.length := by rw [HN.out]; exact hlt
      have hcell := HC.out k hkw
      obtain ⟨y, hy⟩ : ∃ y, ws[k]?.getD ByteArray.empty = y := ⟨_, rfl⟩
      rw [hy] at hcell
      have hdrop : ws.drop k = y :: ws.drop (k + 1) := by rw [← hy, List.getElem?_eq_getElem hkw]; exact List.drop_eq_getElem_cons hkw
      have HF2 : Hid (findF ws x 0 = if y = x then (k : Int) else findF (ws.drop (k + 1)) x (k + 1)) := by show _ = _; rw [HF.out, hdrop]; rfl
      clear hdrop hy HF hkw
      by_cases e : y = x
      · have HE : Hid (findF ws x 0 = (k : Int)) := by show _ = _; rw [HF2.out, if_pos e]
        subst e
        clear HF2
        go_wp2
        go_ret
        exact ⟨by rw [HE.out]; rfl, rfl⟩
      · have HE : Hid (findF ws x 0 = findF (ws.drop (k + 1)) x (k + 1)) := by show _ = _; rw [HF2.out, if_neg e]
        have e1 : (x.toList == y.toList) = false := str_ne (fun h => e h.symm)
        clear HF2
        go_wp2
        go_round
        case rel => exact ⟨k + 1, by omega, by go_num, HE.out⟩
        case measure => simp [intOf]; omega
    · have hlt' : ¬ (k : Int) < (n : Int) := by omega
      have HE : Hid (findF ws x 0 = -1) := by show _ = _; rw [HF.out, List.drop_eq_nil_of_le (by rw [HN.out]; omega)]; rfl
      clear HF
      go_wp2
      go_ret
      exact ⟨by rw [HE.out]; rfl, rfl⟩

set_option maxRecDepth 100000 in
theorem index_none (x : ByteArray) (p : Option Addr) (cap : Nat) (w : World) :
    Calls Tryz.prog 123 #[.slice p 0 cap, .string x] w fun e w' => e = .returned (.int .i64 (-1)) ∧ w' = w := by
  go_enter Tryz.func123, Tryz.ntmps123
  go_wp2
  go_loop [8] (fun i => i = .int .i64 0) (fun i => 0)
  case atStart => rfl
  case round =>
    subst hrel
    go_wp2
    go_ret
    exact ⟨rfl, rfl⟩

/-- Texts in memory. -/
def Txts (W : World) (v : Value) (ws : List ByteArray) : Prop := ∃ p c, v = .slice p ws.length c ∧ (ws = [] ∨ ∃ blk, p = some ⟨blk, 0, none⟩ ∧ blk < W.heap.size ∧ ∀ j, j < ws.length → W.cell? ⟨blk, 0 + j, none⟩ = some (.string (ws[j]?.getD ByteArray.empty)))

theorem index_any (ws : List ByteArray) (x : ByteArray) (v : Value) (w : World) (h : Txts w v ws) (hn : ws.length ≤ 1099511627776) :
    Calls Tryz.prog 123 #[v, .string x] w fun e w' => e = .returned (.int .i64 (findF ws x 0)) ∧ w' = w := by
  obtain ⟨p, c, rfl, rfl | ⟨blk, rfl, hb, hc⟩⟩ := h
  · exact index_none x p c w
  · exact index_some ws x blk 0 c _ w hb hc rfl hn

set_option maxRecDepth 100000 in
theorem contains_any (ws : List ByteArray) (x : ByteArray) (v : Value) (w : World) (h : Txts w v ws) (hn : ws.length ≤ 1099511627776) :
    Calls Tryz.prog 108 #[v, .string x] w fun e w' => e = .returned (.bool (decide (0 ≤ findF ws x 0))) ∧ w' = w := by
  have CI : Hid (Calls Tryz.prog 123 #[v, .string x] w fun e w' => e = .returned (.int .i64 (findF ws x 0)) ∧ w' = w) := index_any ws x v w h hn
  obtain ⟨p, c, rfl, _⟩ := h
  obtain ⟨r, hr⟩ : ∃ r, findF ws x 0 = r := ⟨_, rfl⟩
  rw [hr] at CI ⊢
  clear hr
  go_enter Tryz.func108, Tryz.ntmps108
  go_wp2_with fail
  refine CI.out.mono ?_
  rintro e w1 ⟨rfl, hw⟩
  obtain rfl := hw.symm
  go_wp2
  go_ret
  exact ⟨rfl, rfl⟩

end Go.Proofs.YtepeepipgkejiadGreatDoor
