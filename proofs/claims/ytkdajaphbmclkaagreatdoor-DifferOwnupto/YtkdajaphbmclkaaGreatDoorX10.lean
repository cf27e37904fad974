/-
  From one screen to the next, cell by cell: plain mathematics.
-/
import Derived.Test.YtkdajaphbmclkaaGreatDoorDMath
import Derived.Test.YtkdajaphbmclkaaGreatDoorX04
namespace Go.Proofs.YtkdajaphbmclkaaGreatDoor
set_option linter.unusedVariables false

def Rws (C : Nat → Ce) (W H : Nat) : Prop := ∀ y, y < H → RowOk C (y * W) (y * W + W)
theorem row_of {W H j : Nat} (hj : j < H * W) : ∃ y x, y < H ∧ x < W ∧ j = y * W + x := by
  have hW : 0 < W := by rcases Nat.eq_zero_or_pos W with h | h; subst h; simp at hj; exact h
  exact ⟨j / W, j % W, Nat.div_lt_of_lt_mul (by rw [Nat.mul_comm]; exact hj), Nat.mod_lt _ hW, by rw [Nat.mul_comm]; exact (Nat.div_add_mod j W).symm⟩
theorem row_lt {W H y x : Nat} (hy : y < H) (hx : x < W) : y * W + x < H * W := by
  have : (y + 1) * W ≤ H * W := Nat.mul_le_mul_right W hy
  rw [Nat.add_mul, Nat.one_mul] at this
  omega
theorem row_other {W y Y x X : Nat} (h : y ≠ Y) (hx : x < W) (hX : X < W) : y * W + x ≠ Y * W + X ∧ (Y * W + X < y * W + x → Y * W + W ≤ y * W + x) := by
  rcases Nat.lt_or_gt_of_ne h with g | g
  · have : (y + 1) * W ≤ Y * W := Nat.mul_le_mul_right W g
    rw [Nat.add_mul, Nat.one_mul] at this
    exact ⟨by omega, by omega⟩
  · have : (Y + 1) * W ≤ y * W := Nat.mul_le_mul_right W g
    rw [Nat.add_mul, Nat.one_mul] at this
    exact ⟨by omega, by omega⟩
section
variable {C : Nat → Ce} {W H : Nat}
theorem Rws.ok (h : Rws C W H) {y x : Nat} (hy : y < H) (hx : x < W) : Ok1 C (y * W) (y * W + W) (y * W + x) := h y hy _ (by omega) (by omega)
theorem Rws.next (h : Rws C W H) {j : Nat} (hj : j + 1 < H * W) : (C (j + 1)).p = 2 ↔ (C j).p = 1 := by
  constructor
  · intro q
    obtain ⟨y, x, hy, hx, e⟩ := row_of hj
    have := ((h.ok hy hx).tail (by rw [← e]; exact q)).2.1
    rw [← e, Nat.add_sub_cancel] at this
    exact this
  · intro q
    obtain ⟨y, x, hy, hx, e⟩ := row_of (Nat.lt_of_succ_lt hj)
    have := ((h.ok hy hx).head (by rw [← e]; exact q)).2.1
    rw [← e] at this
    exact this
theorem Rws.start (h : Rws C W H) {y : Nat} (hy : y < H) (hW : 0 < W) : (C (y * W)).p ≠ 2 := fun q => by
  have := ((h.ok hy hW).tail q).1
  omega
theorem Rws.head (h : Rws C W H) {j : Nat} (hj : j < H * W) (hp : (C j).p = 1) : j + 1 < H * W ∧ C (j + 1) = ⟨⟨#[]⟩, (C j).f, (C j).g, (C j).b, 2⟩ := by
  obtain ⟨y, x, hy, hx, rfl⟩ := row_of hj
  obtain ⟨q1, q2, q3, q4, q5⟩ := (h.ok hy hx).head hp
  have q0 : x + 1 < W := by omega
  have t := ((h.ok hy q0).tail q2).2.2
  refine ⟨row_lt hy q0, ?_⟩
  obtain ⟨e, he⟩ : ∃ e, C (y * W + x + 1) = e := ⟨_, rfl⟩
  have t : (C (y * W + x + 1)).t = ⟨#[]⟩ := t
  rw [he] at q2 q3 q4 q5 t ⊢
  obtain ⟨t, f, g, b, p⟩ := e
  simp only at q2 q3 q4 q5 t
  rw [q2, q3, q4, q5, t]
theorem Rws.part (h : Rws C W H) {j : Nat} (hj : j < H * W) : (C j).p = 0 ∨ (C j).p = 1 ∨ (C j).p = 2 := by
  obtain ⟨y, x, hy, hx, rfl⟩ := row_of hj
  exact (h.ok hy hx).part
end
/-- The cells behind k cells. -/
def Mid (old new : Nat → Ce) (k j : Nat) : Ce := if j < k then new j else if j = k ∧ (old j).p = 2 then bl (old j) else old j
/-- How far the cells are new, at cell i. -/
def kf (new : Nat → Ce) (n i : Nat) : Nat := if i < n ∧ (new i).p = 2 then i + 1 else i
def Shows (c : Nat → Nat → Ce) (W H : Nat) (F : Nat → Ce) : Prop := ∀ y x, y < H → x < W → c y x = F (y * W + x)
section
variable {old new : Nat → Ce} {W H : Nat}
theorem kf_tail (hn : Rws new W H) {i : Nat} (hi : i < H * W) (h : (new i).p = 2) : kf new (H * W) (i + 1) = kf new (H * W) i := by
  have e1 : kf new (H * W) i = i + 1 := if_pos ⟨hi, h⟩
  have e2 : kf new (H * W) (i + 1) = i + 1 := if_neg fun q => by
    have := (hn.next q.1).1 q.2
    rw [h] at this; exact absurd this (by decide)
  rw [e1, e2]
theorem kf_at {i : Nat} (h : (new i).p ≠ 2) : kf new (H * W) i = i := if_neg fun q => h q.2
theorem kf_head (hn : Rws new W H) {i : Nat} (hi : i < H * W) (h : (new i).p = 1) : kf new (H * W) (i + 1) = i + 2 := if_pos ⟨(hn.head hi h).1, (hn.next (hn.head hi h).1).2 h⟩
theorem kf_one (hn : Rws new W H) {i : Nat} (hi : i < H * W) (h : (new i).p = 0) : kf new (H * W) (i + 1) = i + 1 := if_neg fun q => by
  have := (hn.next q.1).1 q.2
  rw [h] at this; exact absurd this (by decide)
theorem mid_lt {k j : Nat} (h : j < k) : Mid old new k j = new j := if_pos h
theorem mid_gt {k j : Nat} (h : k < j) : Mid old new k j = old j := by unfold Mid; rw [if_neg (by omega), if_neg (by omega)]
theorem mid_eq {k : Nat} (h : (old k).p ≠ 2) : Mid old new k k = old k := by unfold Mid; rw [if_neg (by omega), if_neg (fun q => h q.2)]
theorem mid_bl {k : Nat} (h : (old k).p = 2) : Mid old new k k = bl (old k) := by unfold Mid; rw [if_neg (by omega), if_pos ⟨rfl, h⟩]
theorem mid_start (ho : Rws old W H) (hn : Rws new W H) (hW : 0 < W) (hH : 0 < H) (j : Nat) : Mid old new (kf new (H * W) 0) j = old j := by
  have h0 : (new 0).p ≠ 2 := by have := hn.start hH hW; rwa [Nat.zero_mul] at this
  have h1 : (old 0).p ≠ 2 := by have := ho.start hH hW; rwa [Nat.zero_mul] at this
  rw [kf_at h0]
  rcases Nat.eq_zero_or_pos j with e | e
  · rw [e]; exact mid_eq h1
  · exact mid_gt e
theorem mid_end {j : Nat} (hj : j < H * W) : Mid old new (kf new (H * W) (H * W)) j = new j := by
  have : kf new (H * W) (H * W) = H * W := if_neg fun q => by omega
  rw [this]; exact mid_lt hj
/-- A cell that stays. -/
theorem mid_same (ho : Rws old W H) (hn : Rws new W H) {i : Nat} (hi : i < H * W) (h2 : (new i).p ≠ 2) (he : new i = old i) (j : Nat) (hj : j < H * W) : Mid old new (kf new (H * W) (i + 1)) j = Mid old new (kf new (H * W) i) j := by
  rw [kf_at h2]
  have h2o : (old i).p ≠ 2 := he ▸ h2
  have ei : Mid old new i i = new i := (mid_eq h2o).trans he.symm
  rcases hn.part hi with h | h | h
  · rw [kf_one hn hi h]
    rcases Nat.lt_trichotomy j i with g | g | g
    · rw [mid_lt g, mid_lt (by omega)]
    · subst g; rw [ei, mid_lt (by omega)]
    · rw [mid_gt g]
      by_cases e : j = i + 1
      · subst e
        refine mid_eq fun q => ?_
        have := (ho.next hj).1 q
        rw [← he, h] at this; exact absurd this (by decide)
      · exact mid_gt (by omega)
  · rw [kf_head hn hi h]
    rcases Nat.lt_trichotomy j i with g | g | g
    · rw [mid_lt g, mid_lt (by omega)]
    · subst g; rw [ei, mid_lt (by omega)]
    · rw [mid_gt g]
      by_cases e : j = i + 1
      · subst e
        rw [mid_lt (by omega), (hn.head hi h).2, (ho.head hi (he ▸ h)).2, he]
      · by_cases e2 : j = i + 2
        · subst e2
          refine mid_eq fun q => ?_
          have := (ho.next hj).1 q
          rw [(ho.head hi (he ▸ h)).2] at this
          have this : (2 : Int) = 1 := this
          exact absurd this (by decide)
        · exact mid_gt (by omega)
  · exact absurd h h2
/-- A cell that is written. -/
theorem mid_put (ho : Rws old W H) (hn : Rws new W H) {c : Nat → Nat → Ce} {Y X : Nat} (hY : Y < H) (hX : X < W) (h2 : (new (Y * W + X)).p ≠ 2) (hc : Shows c W H (Mid old new (kf new (H * W) (Y * W + X)))) :
    Shows (fill c X (X + ((new (Y * W + X)).p + 1).toNat) Y (Y + 1) (gly X ((new (Y * W + X)).p + 1) (new (Y * W + X)).t (new (Y * W + X)).f (new (Y * W + X)).g (new (Y * W + X)).b)) W H (Mid old new (kf new (H * W) (Y * W + X + 1))) := by
  have hi : Y * W + X < H * W := row_lt hY hX
  obtain ⟨i, hei⟩ : ∃ i, Y * W + X = i := ⟨_, rfl⟩
  rw [hei] at h2 hc hi ⊢
  rw [kf_at h2] at hc
  obtain ⟨n, hnn, hn12, hkf, hnW, hg⟩ : ∃ n, ((new i).p + 1).toNat = n ∧ (n = 1 ∨ n = 2) ∧ kf new (H * W) (i + 1) = i + n ∧ X + n ≤ W ∧ ∀ x, X ≤ x → x < X + n → gly X ((new i).p + 1) (new i).t (new i).f (new i).g (new i).b x = new (Y * W + x) := by
    rcases hn.part hi with h | h | h
    · refine ⟨1, by rw [h]; rfl, .inl rfl, kf_one hn hi h, hX, fun x h1 h3 => ?_⟩
      obtain rfl : x = X := by omega
      unfold gly
      rw [if_neg (by rw [h]; decide), hei]
      obtain ⟨e, he⟩ : ∃ e, new i = e := ⟨_, rfl⟩
      rw [he] at h ⊢
      obtain ⟨t, f, g, b, p⟩ := e
      simp only at h
      rw [h]
    · have hd := hn.head hi h
      have hx2 : X + 1 < W := by
        have q := ((hn.ok hY hX).head (by rw [hei]; exact h)).1
        omega
      refine ⟨2, by rw [h]; rfl, .inr rfl, kf_head hn hi h, hx2, fun x h1 h3 => ?_⟩
      unfold gly
      rw [if_pos (by rw [h]; decide)]
      by_cases ex : x = X
      · subst ex
        rw [if_pos rfl, hei]
        obtain ⟨e, he⟩ : ∃ e, new i = e := ⟨_, rfl⟩
        rw [he] at h ⊢
        obtain ⟨t, f, g, b, p⟩ := e
        simp only at h
        rw [h]
      · obtain rfl : x = X + 1 := by omega
        rw [if_neg ex, ← Nat.add_assoc, hei, hd.2]
        rfl
    · exact absurd h h2
  rw [hnn, hkf]
  generalize hgl : gly X ((new i).p + 1) (new i).t (new i).f (new i).g (new i).b = G at hg ⊢
  intro y x hy hx
  by_cases hyY : y = Y
  · subst hyY
    unfold fill
    rw [if_pos ⟨Nat.le_refl _, by omega⟩]
    by_cases hin : X ≤ x ∧ x < X + n
    · rw [span_in hin, hg x hin.1 hin.2, mid_lt (by omega)]
    · unfold span
      rw [if_neg hin]
      have cX : c y X = Mid old new i i := by rw [hc y X hy hX, hei]
      have hcX : (c y X).p ≠ 2 := by
        rw [cX]
        by_cases q : (old i).p = 2
        · rw [mid_bl q, bl_p]; decide
        · rw [mid_eq q]; exact q
      rw [if_neg (fun q => hcX q.2.2)]
      by_cases hb : x = X + n
      · subst hb
        have hj : i + n < H * W := by have := row_lt (W := W) hy hx; omega
        have ej : y * W + (X + n) = i + n := by omega
        have eL : (c y (X + n - 1)).p = 1 ↔ (old (i + n)).p = 2 := by
          rw [hc y (X + n - 1) hy (by omega), show y * W + (X + n - 1) = i + n - 1 by omega]
          obtain ⟨m, rfl⟩ : ∃ m, n = m + 1 := ⟨n - 1, by omega⟩
          rw [← Nat.add_assoc, Nat.add_sub_cancel]
          rw [← Nat.add_assoc] at hj
          rw [ho.next hj]
          rcases Nat.eq_zero_or_pos m with e0 | e0
          · subst e0
            rw [Nat.add_zero]
            by_cases q : (old i).p = 2
            · rw [mid_bl q, bl_p, q]; decide
            · rw [mid_eq q]
          · rw [mid_gt (by omega)]
        have cX2 : c y (X + n) = old (i + n) := by rw [hc y (X + n) hy hx, ej, mid_gt (by omega)]
        rw [cX2, ej]
        by_cases q : (old (i + n)).p = 2
        · rw [if_pos ⟨by omega, rfl, eL.2 q⟩, mid_bl q]
        · rw [if_neg (fun z => q (eL.1 z.2.2)), mid_eq q]
      · rw [if_neg (fun q => hb q.2.1), hc y x hy hx]
        rcases Nat.lt_or_ge x X with g | g
        · rw [mid_lt (by omega), mid_lt (by omega)]
        · rw [mid_gt (by omega), mid_gt (by omega)]
  · unfold fill
    rw [if_neg (by omega), hc y x hy hx]
    have ho' := row_other (W := W) hyY hx hX
    rw [hei] at ho'
    rcases Nat.lt_or_ge (y * W + x) i with g | g
    · rw [mid_lt g, mid_lt (by omega)]
    · have g2 : i < y * W + x := by omega
      have g3 := ho'.2 g2
      rw [mid_gt g2]
      by_cases e : y * W + x = i + n
      · have hs : (old (y * W + x)).p ≠ 2 := by
          intro q
          have q1 := ((ho.ok hy hx).tail q)
          have hx0 : 0 < x := by omega
          have : Y * W + W = y * W + x := by omega
          have e2 : y * W + x < (y + 1) * W := by rw [Nat.add_mul, Nat.one_mul]; omega
          have e3 : (Y + 1) * W = y * W + x := by rw [Nat.add_mul, Nat.one_mul]; exact this
          have e4 : y * W < (Y + 1) * W := by omega
          have e5 : (Y + 1) * W < (y + 1) * W := by omega
          have := Nat.lt_of_mul_lt_mul_right e4
          have := Nat.lt_of_mul_lt_mul_right e5
          omega
        rw [← e]
        exact (mid_eq hs).symm
      · exact (mid_gt (by omega)).symm
end
end Go.Proofs.YtkdajaphbmclkaaGreatDoor
