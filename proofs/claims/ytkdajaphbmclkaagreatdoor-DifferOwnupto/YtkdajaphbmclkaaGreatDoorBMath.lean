/-
  Cap as a function: it does not matter which comes first; capped again; what it holds.
-/
import Derived.Test.YtkdajaphbmclkaaGreatDoorBHold
namespace Go.Proofs.YtkdajaphbmclkaaGreatDoor
set_option linter.unusedVariables false

theorem posI_id {n : Int} (h : -100000 ≤ n ∧ n ≤ 100000) : posI n = n := by unfold posI; omega
theorem lenI_id {n : Int} (h : 0 ≤ n ∧ n ≤ 100000) : lenI n = n := by unfold lenI; omega
theorem rv_inj {a b c d a' b' c' d' : Int} (h : rv a b c d = rv a' b' c' d') : a = a' ∧ b = b' ∧ c = c' ∧ d = d' := by
  unfold rv at h; simpa using h
theorem capL_comm (ax aw bx bw : Int) : capL ax aw bx bw = capL bx bw ax aw := by unfold capL; omega
theorem capR_comm (ax aw bx bw : Int) : capR ax aw bx bw = capR bx bw ax aw := by unfold capR; omega
theorem capV_comm (ax ay aw ah bx by_ bw bh : Int) : capV ax ay aw ah bx by_ bw bh = capV bx by_ bw bh ax ay aw ah := by
  unfold capV
  rw [capL_comm ax aw, capR_comm ax aw, capL_comm ay ah, capR_comm ay ah]
theorem cap_bd (ax aw bx bw : Int) : -100000 ≤ capL ax aw bx bw ∧ capL ax aw bx bw ≤ 100000 ∧ capR ax aw bx bw - capL ax aw bx bw ≤ 100000 ∧ posI bx ≤ capL ax aw bx bw ∧ capR ax aw bx bw ≤ posI bx + lenI bw := by
  unfold capL capR
  have h1 := posI_bd ax
  have h2 := posI_bd bx
  have h3 := lenI_bd aw
  have h4 := lenI_bd bw
  omega
theorem cap_in (ax aw bx bw p : Int) : (capL ax aw bx bw ≤ p ∧ p < capR ax aw bx bw) ↔ ((posI ax ≤ p ∧ p < posI ax + lenI aw) ∧ (posI bx ≤ p ∧ p < posI bx + lenI bw)) := by
  unfold capL capR; omega
theorem cap_again {ax ay aw ah bx by_ bw bh c0 c1 c2 c3 : Int} (h : capV ax ay aw ah bx by_ bw bh = rv c0 c1 c2 c3) : capV c0 c1 c2 c3 bx by_ bw bh = rv c0 c1 c2 c3 := by
  unfold capV at h
  have b1 := cap_bd ax aw bx bw
  have b2 := cap_bd ay ah by_ bh
  split at h
  · obtain ⟨rfl, rfl, rfl, rfl⟩ := rv_inj h
    unfold capV
    rw [if_pos]
    left
    unfold capL capR
    rw [posI_id (n := 0) (by omega), lenI_id (n := 0) (by omega)]
    omega
  · rename_i hn
    obtain ⟨h0, h1, h2, h3⟩ := rv_inj h
    generalize capL ax aw bx bw = l at *
    generalize capR ax aw bx bw = r at *
    generalize capL ay ah by_ bh = t at *
    generalize capR ay ah by_ bh = d at *
    subst h0 h1 h2 h3
    have e1 : capL l (r - l) bx bw = l := by unfold capL; rw [posI_id (by omega)]; omega
    have e2 : capR l (r - l) bx bw = r := by unfold capR; rw [posI_id (by omega), lenI_id (by omega)]; omega
    have e3 : capL t (d - t) by_ bh = t := by unfold capL; rw [posI_id (by omega)]; omega
    have e4 : capR t (d - t) by_ bh = d := by unfold capR; rw [posI_id (by omega), lenI_id (by omega)]; omega
    unfold capV
    rw [e1, e2, e3, e4, if_neg (by omega)]
theorem cap_holds {ax ay aw ah bx by_ bw bh c0 c1 c2 c3 : Int} (x y : Int) (h : capV ax ay aw ah bx by_ bw bh = rv c0 c1 c2 c3) : holdB c0 c1 c2 c3 x y = (holdB ax ay aw ah x y && holdB bx by_ bw bh x y) := by
  have i1 := cap_in ax aw bx bw x
  have i2 := cap_in ay ah by_ bh y
  unfold capV at h
  have b1 := cap_bd ax aw bx bw
  have b2 := cap_bd ay ah by_ bh
  unfold holdB
  rw [← Bool.decide_and]
  apply decide_eq_decide.2
  split at h
  · rename_i hn
    obtain ⟨rfl, rfl, rfl, rfl⟩ := rv_inj h
    rw [posI_id (n := 0) (by omega), lenI_id (n := 0) (by omega)]
    constructor
    · intro hh; omega
    · intro hh
      have q1 := i1.2 ⟨⟨hh.1.1, hh.1.2.1⟩, hh.2.1, hh.2.2.1⟩
      have q2 := i2.2 ⟨⟨hh.1.2.2.1, hh.1.2.2.2⟩, hh.2.2.2.1, hh.2.2.2.2⟩
      omega
  · rename_i hn
    obtain ⟨h0, h1, h2, h3⟩ := rv_inj h
    rw [← h0, ← h1, ← h2, ← h3]
    rw [posI_id (n := capL ax aw bx bw) (by omega), lenI_id (n := capR ax aw bx bw - capL ax aw bx bw) (by omega), posI_id (n := capL ay ah by_ bh) (by omega), lenI_id (n := capR ay ah by_ bh - capL ay ah by_ bh) (by omega)]
    constructor
    · intro hh
      have q1 := i1.1 ⟨hh.1, by omega⟩
      have q2 := i2.1 ⟨hh.2.2.1, by omega⟩
      exact ⟨⟨q1.1.1, q1.1.2, q2.1.1, q2.1.2⟩, q1.2.1, q1.2.2, q2.2.1, q2.2.2⟩
    · intro hh
      have q1 := i1.2 ⟨⟨hh.1.1, hh.1.2.1⟩, hh.2.1, hh.2.2.1⟩
      have q2 := i2.2 ⟨⟨hh.1.2.2.1, hh.1.2.2.2⟩, hh.2.2.2.1, hh.2.2.2.2⟩
      omega

end Go.Proofs.YtkdajaphbmclkaaGreatDoor
