/-
  The reference's reader: word where a fault stands; find; number.
-/
import Derived.Test.YtepeepipgkejiadGreatDoorTLet
namespace Go.Proofs.YtepeepipgkejiadGreatDoor
open Go.RowKit
set_option linter.unusedVariables false

set_option maxRecDepth 100000 in
set_option maxHeartbeats 4000000 in
theorem word_bad (rb : Nat) (s : ByteArray) (i : Nat) (lv : Value) (bad er at_ dep : Int) (w : World) (h : RS w rb s i lv bad er at_ dep) (hs : s.size ≤ 1099511627776) (hi : i ≤ s.size) (hb : 0 ≤ bad) :
    Calls Tryz.prog 32 #[.pointer (some ⟨rb, 0, none⟩)] w fun e w' => e = .returned (.string ByteArray.empty) ∧ RS w' rb s (sk s i) lv bad er at_ dep ∧ w.grownBy w' (some rb) := by
  have CS : Hid (Calls Tryz.prog 20 #[.pointer (some ⟨rb, 0, none⟩)] w fun e w' => e = .returned (.tuple #[]) ∧ RS w' rb s (sk s i) lv bad er at_ dep ∧ w.grownBy w' (some rb)) := skip_any rb s i lv bad er at_ dep w h hs hi
  obtain ⟨j, hj⟩ : ∃ j, sk s i = j := ⟨_, rfl⟩
  have hjs := sk_le s i hi
  rw [hj] at CS hjs ⊢
  clear h hj
  go_enter Tryz.func32, Tryz.ntmps32
  go_wp2_with fail
  refine CS.out.mono ?_
  rintro e w1 ⟨rfl, h1, g1⟩
  have HR : Hid (RS w1 rb s j lv bad er at_ dep) := h1
  have HG1 : Hid (w.grownBy w1 (some rb)) := g1
  have d1 := h1.c1
  have hb' : ¬ bad < 0 := by omega
  have eb : decide (bad < 0) = false := decide_eq_false hb'
  clear h1 g1 CS
  go_wp2
  clear d1
  go_loopw [10] (fun _ wr => Hid (RS wr rb s j lv bad er at_ dep) ∧ Hid (w.grownBy wr (some rb))) (fun _ wr => 0)
  case atStart => exact ⟨HR.out, HG1.out⟩
  case round =>
    obtain ⟨HS, HG⟩ := hrel
    have hs1 := HS.out
    have c0 := hs1.c0
    have c1 := hs1.c1
    have c3 := hs1.c3
    have CF : Hid (∀ W, RS W rb s j lv bad er at_ dep → Calls Tryz.prog 21 #[.pointer (some ⟨rb, 0, none⟩), .int .i64 (j : Int)] W fun e w' => e = .returned (.tuple #[]) ∧ RS w' rb s j lv (badI bad j) er at_ dep ∧ W.grownBy w' (some rb)) := fun W h => fail_any rb s j lv bad er at_ dep j W h
    have HE : Hid (badI bad (j : Int) = bad) := by show _ = _; unfold badI; rw [if_neg (by omega)]
    clear hs1
    go_wp2_with fail
    go_quiet (fail)
    go_wp2_with fail
    refine (CF.out _ (HS.out.drewN _)).mono ?_
    rintro e w2 ⟨rfl, h2, g2⟩
    have H2 : Hid (RS w2 rb s j lv bad er at_ dep) := by have := h2; rw [HE.out] at this; exact this
    have HG2 : Hid (w.grownBy w2 (some rb)) := gr_trans (gr_trans HG.out (gr_drewN _ _ _)) g2
    have d0 := h2.c0
    have d1 := h2.c1
    clear h2 g2 c0 c1 c3
    go_wp2_with fail
    go_quiet (fail)
    go_wp2
    go_ret
    exact ⟨rfl, H2.out.drewN _, gr_trans HG2.out (gr_drewN _ _ _)⟩

theorem str_ne {a b : ByteArray} (h : ¬ a = b) : (a.toList == b.toList) = false := by
  rw [beq_eq_false_iff_ne]
  intro e
  rw [ByteArray.toList_eq, ByteArray.toList_eq] at e
  exact h (ByteArray.ext (Array.toList_inj.1 e))

/-- The first place of a text in a list; -1: nowhere. -/
def findF : List ByteArray → ByteArray → Nat → Int
  | [], _, _ => -1
  | a :: r, x, k => if a = x then (k : Int) else findF r x (k + 1)
theorem findF_bd (x : ByteArray) : ∀ (ws : List ByteArray) (k : Nat), findF ws x k = -1 ∨ ((k : Int) ≤ findF ws x k ∧ findF ws x k < (k : Int) + ws.length)
  | [], k => .inl rfl
  | a :: r, k => by
    unfold findF
    by_cases e : a = x
    · right; simp only [e, if_true]; simp; omega
    · simp only [e, if_false]
      rcases findF_bd x r (k + 1) with h | h
      · exact .inl h
      · right; simp; omega

set_option maxRecDepth 100000 in
set_option maxHeartbeats 2000000 in
theorem find_any (ws : List ByteArray) (x : ByteArray) (blk off cap n : Nat) (w : World) (hb : blk < w.heap.size) (hc : ∀ j, j < ws.length → w.cell? ⟨blk, off + j, none⟩ = some (.string (ws[j]?.getD ByteArray.empty))) (hn : ws.length = n) (hn2 : n ≤ 1099511627776) :
    Calls Tryz.prog 33 #[.slice (some ⟨blk, off, none⟩) n cap, .string x] w fun e w' => e = .returned (.int .i64 (findF ws x 0)) ∧ w' = w := by
  have HC : Hid (∀ j, j < ws.length → w.cell? ⟨blk, off + j, none⟩ = some (.string (ws[j]?.getD ByteArray.empty))) := hc
  have HN : Hid (ws.length = n) := hn
  clear hc hn
  go_enter Tryz.func33, Tryz.ntmps33
  go_wp2
  go_loop [5] (fun i => ∃ k : Nat, k ≤ n ∧ i = .int .i64 k ∧ Hid (findF ws x 0 = findF (ws.drop k) x k)) (fun i => n - (intOf i).toNat)
  case atStart => exact ⟨0, Nat.zero_le _, rfl, by show _ = _; rw [List.drop_zero]⟩
  case round =>
    obtain ⟨k, hk, rfl, HF⟩ := hrel
    by_cases hlt : k < n
    · have hlt' : (k : Int) < (n : Int) := by omega
      have hkw : k < ws.length := by rw [HN.out]; exact hlt
      have hcell := HC.out k hkw
      obtain ⟨y, hy⟩ : ∃ y, ws[k]?.getD ByteArray.empty = y := ⟨_, rfl⟩
      rw [hy] at hcell
      have hdrop : ws.drop k = y :: ws.drop (k + 1) := by rw [← hy, List.getElem?_eq_getElem hkw]; exact List.drop_eq_getElem_cons hkw
      have HF2 : Hid (findF ws x 0 = if y = x then (k : Int) else findF (ws.drop (k + 1)) x (k + 1)) := by show _ = _; rw [HF.out, hdrop]; rfl
      clear hdrop hy HF hkw
      by_cases e : y = x
      · have HE : Hid (findF ws x 0 = (k : Int)) := by show _ = _; rw [HF2.out, if_pos e]
        subst e
        clear HF2
        go_wp2
        go_ret
        exact ⟨by rw [HE.out]; rfl, rfl⟩
      · have HE : Hid (findF ws x 0 = findF (ws.drop (k + 1)) x (k + 1)) := by show _ = _; rw [HF2.out, if_neg e]
        have e1 : (y.toList == x.toList) = false := str_ne e
        clear HF2
        go_wp2
        go_round
        case rel => exact ⟨k + 1, by omega, by go_num, HE.out⟩
        case measure => simp [intOf]; omega
    · have hlt' : ¬ (k : Int) < (n : Int) := by omega
      have HE : Hid (findF ws x 0 = -1) := by show _ = _; rw [HF.out, List.drop_eq_nil_of_le (by rw [HN.out]; omega)]; rfl
      clear HF
      go_wp2
      go_ret
      exact ⟨by rw [HE.out]; rfl, rfl⟩

end Go.Proofs.YtepeepipgkejiadGreatDoor
