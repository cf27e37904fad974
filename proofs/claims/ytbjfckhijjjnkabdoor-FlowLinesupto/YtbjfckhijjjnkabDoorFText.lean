/-
  The walks of flow.textOf and flow.inOneLine.
-/
import Derived.Test.YtbjfckhijjjnkabDoorFShelf
import Derived.Test.YtbjfckhijjjnkabDoorClsMem
import Derived.Test.YtbjfckhijjjnkabDoorFNrm
import Derived.BigCall
namespace Go.Proofs.YtbjfckhijjjnkabDoor
open Go.RowKit
set_option linter.unusedVariables false

theorem repeat_one (n : Nat) : Lib.repeatL [32] n = List.replicate n 32 := by
  induction n with
  | zero => rfl
  | succ n ih => simp [Lib.repeatL, ih, List.replicate_succ]
theorem blank_any (n : Nat) (w : World) (hn : n ≤ 140737488355328) :
    Calls Tryd.prog 25 #[.string ⟨#[32]⟩, .int .i64 n] w fun e w' => e = .returned (.string ⟨(List.replicate n 32).toArray⟩) ∧ Below w.heap.size w w' := by
  refine (repeat_lib ⟨#[32]⟩ n w (by omega) (by show 1 * n ≤ _; omega)).mono ?_
  rintro e w1 ⟨rfl, b⟩
  rw [show (⟨#[32]⟩ : ByteArray).data.toList = [32] from rfl, repeat_one]
  exact ⟨rfl, b⟩

set_option maxRecDepth 100000 in
set_option maxHeartbeats 2000000 in
theorem textOf_any (l : List (List UInt8 × Int)) (v : Value) (w : World) (hcl : Cls w v l) (hlen : l.length ≤ 1099511627776) (hj : (joined l).length ≤ 70368744177664) :
    Calls Tryd.prog 31 #[v] w fun e w' => e = .returned (.string ⟨(joined l).toArray⟩) ∧ Below w.heap.size w w' := by
  obtain ⟨a, cap, rfl, hh⟩ := hcl
  have HJT : Hid (∀ k, (joined (l.take k)).length ≤ (joined l).length) := fun k => joined_take_le l k
  go_enter Tryd.func31, Tryd.ntmps31
  go_wp2
  go_loopw [8] (fun i wr => ∃ k : Nat, k ≤ l.length ∧ i = .int .i64 k ∧ Hid (Lib.IsBuilderF 75 5 w.heap.size w.heap.size (Lib.byteCells (joined (l.take k))) wr) ∧ Below w.heap.size w wr) (fun i _ => l.length - (intOf i).toNat)
  case atStart => exact ⟨0, Nat.zero_le _, rfl, Lib.IsBuilderF.of (Lib.fresh_isBuilder 75 5 w), (Below.refl _ _).alloc (Nat.le_refl _) _⟩
  case round =>
    obtain ⟨k, hk, rfl, hI, hbw⟩ := hrel
    have hsz := hbw.size
    by_cases hlt : k < l.length
    · have hlt' : (k : Int) < (l.length : Int) := by omega
      have hne : l ≠ [] := fun e => by rw [e] at hlt; simp at hlt
      obtain ⟨b, off, rfl, hb, hc⟩ := hh.resolve_left hne
      obtain ⟨T, V, hTV⟩ : ∃ T V, l[k] = (T, V) := ⟨_, _, rfl⟩
      have c0 : wr.cell? ⟨b, off + k * 2, none⟩ = some (.string ⟨T.toArray⟩) := by
        have := (hc k hlt).1; rw [hTV] at this; exact (hbw.cell (p := ⟨b, off + k * 2, none⟩) hb).trans this
      have c1 : wr.cell? ⟨b, off + k * 2 + 1, none⟩ = some (.int .i64 V) := by
        have := (hc k hlt).2; rw [hTV] at this; exact (hbw.cell (p := ⟨b, off + k * 2 + 1, none⟩) hb).trans this
      have HS : Hid (joined (l.take (k + 1)) = joined (l.take k) ++ T) := by show _ = _; rw [joined_snoc l k hlt, hTV]
      have hj1 := HJT.out (k + 1)
      rw [HS.out, List.length_append] at hj1
      have hTs : (⟨T.toArray⟩ : ByteArray).size = T.length := by simp [ByteArray.size]
      obtain ⟨Y, hY⟩ : ∃ Y, joined (l.take k) = Y := ⟨_, rfl⟩
      rw [hY] at HS hj1 hI
      clear hh hc hTV hne hY
      go_wp2_with fail
      refine (writeString_lib w.heap.size w.heap.size _ ⟨T.toArray⟩ _ (hI.out.alloc _) (by rw [Lib.byteCells_length, hTs]; omega) (by simp; omega)).mono ?_
      rintro e W1 ⟨rfl, h1, b1, k1⟩
      have hb1 : Below w.heap.size w W1 := (hbw.alloc hsz _).trans b1
      clear hI c0 c1 b1 k1
      go_wp2
      go_roundw
      case rel =>
        refine ⟨k + 1, by omega, by go_num, ?_, hb1⟩
        show Lib.IsBuilderF _ _ _ _ _ _
        rw [HS.out, Lib.byteCells_append]; exact Or.inr h1
      case measure => simp [intOf]; omega
    · have hlt' : ¬ (k : Int) < (l.length : Int) := by omega
      have HE : Hid (l.take k = l) := List.take_of_length_le (by omega)
      clear hh
      go_wp2_with fail
      refine (string_lib w.heap.size w.heap.size (joined (l.take k)) _ hI.out hsz).mono ?_
      rintro e W1 ⟨rfl, _, b1, _⟩
      go_wp2
      go_ret
      rw [HE.out]
      exact ⟨rfl, hbw.trans b1⟩

theorem cell_off (w : World) (b i j : Nat) (v : Value) (h : i ≠ j) : (w.setCell ⟨b, i, none⟩ v).cell? ⟨b, j, none⟩ = w.cell? ⟨b, j, none⟩ :=
  World.cell?_setCell_other _ _ _ _ (fun e => h (by injection e))
/-- Clusters in a block of the call's own, that may be written. -/
def ClsO (B : Nat) (w : World) (v : Value) (l : List (List UInt8 × Int)) : Prop :=
  ∃ a cap, v = .slice a l.length cap ∧ l.length ≤ cap ∧ cap ≤ maxLen ∧ (l = [] ∨ ∃ b off, a = some ⟨b, off, none⟩ ∧ B ≤ b ∧ b < w.heap.size ∧ ∀ j (hj : j < l.length), w.cell? ⟨b, off + j * 2, none⟩ = some (.string ⟨(l[j]).1.toArray⟩) ∧ w.cell? ⟨b, off + j * 2 + 1, none⟩ = some (.int .i64 (l[j]).2) ∧ w.frozen? ⟨b, off + j * 2, none⟩ = false ∧ w.frozen? ⟨b, off + j * 2 + 1, none⟩ = false)
theorem ClsO.cls {B : Nat} {w : World} {v : Value} {l : List (List UInt8 × Int)} (h : ClsO B w v l) : Cls w v l := by
  obtain ⟨a, cap, rfl, _, _, hh⟩ := h
  refine ⟨a, cap, rfl, hh.imp id ?_⟩
  rintro ⟨b, off, rfl, _, hb, hc⟩
  exact ⟨b, off, rfl, hb, fun j hj => ⟨(hc j hj).1, (hc j hj).2.1⟩⟩
theorem clsO_own {w : World} {B n : Nat} {e : TypeId} {v : Value} {l : List (List UInt8 × Int)} (h : w.ownsRow B e 2 v n (cCells l)) : ClsO B w v l := by
  have hl : l.length = n := by have := h.1; rw [cCells_length] at this; omega
  have hC := cls_own h
  rcases h.2 with ⟨rfl, rfl⟩ | ⟨g, cap, cur, rfl, hB, hg, hcap, hmax, _⟩
  · have hz : l = [] := List.length_eq_zero_iff.1 hl
    subst hz
    exact ⟨none, 0, rfl, Nat.le_refl _, Nat.zero_le _, .inl rfl⟩
  · obtain ⟨a, cap', e1, hh⟩ := hC
    cases e1
    refine ⟨_, _, rfl, by omega, hmax, hh.imp id ?_⟩
    rintro ⟨b, off, e2, hb, hc⟩
    cases e2
    exact ⟨g, 0, rfl, hB, hb, fun j hj => ⟨(hc j hj).1, (hc j hj).2, frozen_of_row _ _ _ _ _ hg, frozen_of_row _ _ _ _ _ hg⟩⟩

theorem one_at (l : List (List UInt8 × Int)) (j : Nat) (hj : j < l.length) (hj' : j < (one l).length) : (one l)[j] = if (l[j]).1 = [10] then ([32], 1) else l[j] := by simp [one]

set_option maxRecDepth 100000 in
set_option maxHeartbeats 2000000 in
theorem inOneLine_any (s : ByteArray) (w : World) (ht : TabAt w) (hs : s.size ≤ 1099511627776) :
    Calls Tryd.prog 29 #[.string s] w fun e w' => ∃ v, e = .returned v ∧ ClsO w.heap.size w' v (one (clus (runes s.data.toList))) ∧ Below w.heap.size w w' := by
  have hsl : s.data.toList.length = s.size := by rw [Array.length_toList]; rfl
  have hR := runes_length s.data.toList
  have hC := clus_length (runes s.data.toList)
  rw [hsl] at hR
  have G : Hid (Calls Tryd.prog 9 #[.string s] w fun e w' => ∃ v, e = .returned v ∧ ClsO w.heap.size w' v (clus (runes s.data.toList)) ∧ Below w.heap.size w w') := by
    refine (gClusters_any s w ht hs).mono ?_
    rintro e w1 ⟨v, rfl, o, b⟩
    exact ⟨v, rfl, clsO_own o, b⟩
  obtain ⟨l, hl⟩ : ∃ l, clus (runes s.data.toList) = l := ⟨_, rfl⟩
  rw [hl] at G hC ⊢
  clear hl hsl ht
  go_enter Tryd.func29, Tryd.ntmps29
  go_wp2_with fail
  refine G.out.mono ?_
  rintro e w1 ⟨v1, rfl, ⟨a, cap, rfl, hcap, hmax, hh⟩, b1⟩
  clear G
  have hs1 := b1.size
  have hol : (one l).length = l.length := one_length l
  by_cases hne : l = []
  · subst hne
    go_wp2
    go_loopw [9] (fun i wr => i = .int .i64 0 ∧ wr = w1) (fun i _ => 0)
    case atStart => exact ⟨rfl, rfl⟩
    case round =>
      obtain ⟨rfl, rfl⟩ := hrel
      go_wp2
      go_ret
      exact ⟨_, rfl, ⟨a, cap, rfl, hcap, hmax, .inl rfl⟩, b1⟩
  obtain ⟨b, off, rfl, hB, hb, hc⟩ := hh.resolve_left hne
  have HC : Hid (∀ j (hj : j < l.length), w1.cell? ⟨b, off + j * 2, none⟩ = some (.string ⟨(l[j]).1.toArray⟩) ∧ w1.cell? ⟨b, off + j * 2 + 1, none⟩ = some (.int .i64 (l[j]).2) ∧ w1.frozen? ⟨b, off + j * 2, none⟩ = false ∧ w1.frozen? ⟨b, off + j * 2 + 1, none⟩ = false) := hc
  clear hc hh
  go_wp2
  go_loopw [9] (fun i wr => ∃ k : Nat, k ≤ l.length ∧ i = .int .i64 k ∧ b < wr.heap.size ∧ Hid (∀ j (hj : j < l.length) (hj' : j < (one l).length), (j < k → wr.cell? ⟨b, off + j * 2, none⟩ = some (.string ⟨((one l)[j]).1.toArray⟩) ∧ wr.cell? ⟨b, off + j * 2 + 1, none⟩ = some (.int .i64 ((one l)[j]).2)) ∧ (k ≤ j → wr.cell? ⟨b, off + j * 2, none⟩ = some (.string ⟨(l[j]).1.toArray⟩) ∧ wr.cell? ⟨b, off + j * 2 + 1, none⟩ = some (.int .i64 (l[j]).2)) ∧ wr.frozen? ⟨b, off + j * 2, none⟩ = false ∧ wr.frozen? ⟨b, off + j * 2 + 1, none⟩ = false) ∧ Below w.heap.size w wr) (fun i _ => l.length - (intOf i).toNat)
  case atStart => exact ⟨0, Nat.zero_le _, rfl, hb, fun j hj _ => ⟨fun h => by omega, fun _ => ⟨(HC.out j hj).1, (HC.out j hj).2.1⟩, (HC.out j hj).2.2⟩, b1⟩
  case round =>
    obtain ⟨k, hk, rfl, hbr, HR, hbw⟩ := hrel
    have hsz := hbw.size
    by_cases hlt : k < l.length
    · have hlt' : (k : Int) < (l.length : Int) := by omega
      obtain ⟨T, V, hTV⟩ : ∃ T V, l[k] = (T, V) := ⟨_, _, rfl⟩
      have hRk := HR.out k hlt (by omega)
      have c0 : wr.cell? ⟨b, off + k * 2, none⟩ = some (.string ⟨T.toArray⟩) := by have := (hRk.2.1 (Nat.le_refl _)).1; rw [hTV] at this; exact this
      have c1 : wr.cell? ⟨b, off + k * 2 + 1, none⟩ = some (.int .i64 V) := by have := (hRk.2.1 (Nat.le_refl _)).2; rw [hTV] at this; exact this
      have f0 := hRk.2.2.1
      have f1 := hRk.2.2.2
      have hok : (one l)[k]'(by omega) = if T = [10] then ([32], 1) else (T, V) := by rw [one_at l k hlt, hTV]
      have HOK : Hid (∀ hj' : k < (one l).length, (one l)[k] = if T = [10] then ([32], 1) else (T, V)) := fun _ => hok
      clear hRk hok hTV
      by_cases h10 : T = [10]
      · have h10' : (T == [10]) = true := by rw [h10]; rfl
        go_wp2
        go_roundw
        case rel =>
          refine ⟨k + 1, by omega, by go_num, by simpa using hbr, fun j hj hj' => ?_, ?_⟩
          · have hR := HR.out j hj hj'
            simp only [World.frozen?_setCell]
            refine ⟨fun h => ?_, fun h => ?_, hR.2.2⟩
            · by_cases e : j = k
              · subst e
                rw [HOK.out hj', if_pos h10]
                refine ⟨?_, ?_⟩
                · rw [cell_off _ _ _ _ _ (by omega)]
                  exact World.cell?_setCell_same' _ _ _ (by rw [c0]; rfl)
                · exact World.cell?_setCell_same' _ _ _ (by rw [cell_off _ _ _ _ _ (by omega)]; rw [c1]; rfl)
              · have h2 := hR.1 (by omega)
                refine ⟨?_, ?_⟩
                · rw [cell_off _ _ _ _ _ (by omega), cell_off _ _ _ _ _ (by omega)]; exact h2.1
                · rw [cell_off _ _ _ _ _ (by omega), cell_off _ _ _ _ _ (by omega)]; exact h2.2
            · have h2 := hR.2.1 (by omega)
              refine ⟨?_, ?_⟩
              · rw [cell_off _ _ _ _ _ (by omega), cell_off _ _ _ _ _ (by omega)]; exact h2.1
              · rw [cell_off _ _ _ _ _ (by omega), cell_off _ _ _ _ _ (by omega)]; exact h2.2
          · exact (hbw.setCell (p := ⟨b, off + k * 2, none⟩) hB _).setCell (p := ⟨b, off + k * 2 + 1, none⟩) hB _
        case measure => simp [intOf]; omega
      · have h10' : (T == [10]) = false := by simpa using h10
        go_wp2
        go_roundw
        case rel =>
          refine ⟨k + 1, by omega, by go_num, hbr, fun j hj hj' => ?_, hbw⟩
          have hR := HR.out j hj hj'
          refine ⟨fun h => ?_, fun h => hR.2.1 (by omega), hR.2.2⟩
          by_cases e : j = k
          · subst e
            rw [HOK.out hj', if_neg h10]
            exact ⟨c0, c1⟩
          · exact hR.1 (by omega)
        case measure => simp [intOf]; omega
    · have hlt' : ¬ (k : Int) < (l.length : Int) := by omega
      go_wp2
      go_ret
      refine ⟨_, rfl, ⟨_, cap, by rw [hol]; rfl, by omega, hmax, .inr ⟨b, off, rfl, hB, hbr, fun j hj => ?_⟩⟩, hbw⟩
      have hR := HR.out j (by omega) hj
      exact ⟨(hR.1 (by omega)).1, (hR.1 (by omega)).2, hR.2.2⟩

end Go.Proofs.YtbjfckhijjjnkabDoor
