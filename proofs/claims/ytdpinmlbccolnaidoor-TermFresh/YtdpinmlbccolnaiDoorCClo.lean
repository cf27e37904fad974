/-
  Cells: a list of its own.
-/
import Derived.Test.YtdpinmlbccolnaiDoorCNew
import Derived.OwnWalk
import Derived.Lib.SliceRun
namespace Go.Proofs.YtdpinmlbccolnaiDoor
open Go.RowKit Go.Sort
set_option linter.unusedVariables false

/-- All cells, one behind the other. -/
def lin (c : Nat → Nat → Ce) (W : Nat) : Nat → List Value
  | 0 => []
  | n + 1 => lin c W n ++ c5 (c (n / W) (n % W))
theorem lin_len (c : Nat → Nat → Ce) (W n : Nat) : (lin c W n).length = n * 5 := by
  induction n with
  | zero => rfl
  | succ n ih => rw [lin, List.length_append, ih, c5_len]; omega
theorem lin_get (c : Nat → Nat → Ce) (W : Nat) : ∀ n i k, i < n → k < 5 → (lin c W n)[i * 5 + k]? = (c5 (c (i / W) (i % W)))[k]?
  | 0, i, k, hi, hk => absurd hi (by omega)
  | n + 1, i, k, hi, hk => by
    rw [lin]
    by_cases h : i < n
    · rw [List.getElem?_append_left (by rw [lin_len]; omega)]; exact lin_get c W n i k h hk
    · obtain rfl : i = n := by omega
      rw [List.getElem?_append_right (by rw [lin_len]; omega), lin_len, show i * 5 + k - i * 5 = k by omega]
theorem lin_one (c : Nat → Nat → Ce) (W n : Nat) : ∀ v ∈ lin c W n, v.oneCell' = true := by
  intro v hv
  obtain ⟨j, hj⟩ := List.mem_iff_getElem?.1 hv
  have hl : j < n * 5 := by rw [← lin_len c W n]; exact (List.getElem?_eq_some_iff.1 hj).1
  have := lin_get c W n (j / 5) (j % 5) (by omega) (by omega)
  rw [show j / 5 * 5 + j % 5 = j by omega, hj] at this
  have hm := List.mem_of_getElem? this.symm
  simp [c5] at hm
  rcases hm with rfl | rfl | rfl | rfl | rfl <;> rfl
theorem div_lt {i W H : Nat} (h : i < W * H) : i / W < H := Nat.div_lt_of_lt_mul h
theorem W_pos {i W H : Nat} (h : i < W * H) : 0 < W := by
  rcases Nat.eq_zero_or_pos W with e | e
  · rw [e, Nat.zero_mul] at h; omega
  · exact e
theorem lin_off (i W : Nat) : i / W * W * 5 + i % W * 5 = i * 5 := by
  have := Nat.div_add_mod i W
  rw [← Nat.add_mul, Nat.mul_comm (i / W) W, this]
theorem cv_lin {T : TypeId} {Q : World} {M W H : Nat} {c : Nat → Nat → Ce} (h : Cv T Q M W H c) (j : Nat) (v : Value) (hj : (lin c W (W * H))[j]? = some v) : Q.cell? ((⟨M, 0, none⟩ : Addr).add j) = some v := by
  have ea : (⟨M, 0, none⟩ : Addr).add j = ⟨M, j, none⟩ := by unfold Addr.add; split <;> simp_all
  have hl : j < W * H * 5 := by rw [← lin_len c W (W * H)]; exact (List.getElem?_eq_some_iff.1 hj).1
  have hi : j / 5 < W * H := by omega
  have hg := lin_get c W (W * H) (j / 5) (j % 5) hi (by omega)
  rw [show j / 5 * 5 + j % 5 = j by omega, hj] at hg
  have := h.cell (j / 5 / W) (j / 5 % W) (div_lt hi) (Nat.mod_lt _ (W_pos hi)) (j % 5) v hg.symm
  rw [lin_off, show j / 5 * 5 + j % 5 = j by omega] at this
  rw [ea]; exact this
theorem cv_own {T : TypeId} {Q : World} {B W H : Nat} {c : Nat → Nat → Ce} {v : Value} (h : Q.ownsRow B T 5 v (W * H) (lin c W (W * H))) (hp : 0 < W * H) : ∃ N cap, v = .slice (some ⟨N, 0, none⟩) (W * H) cap ∧ B ≤ N ∧ Cv T Q N W H c := by
  rcases h.2 with ⟨_, h0⟩ | ⟨g, cap, cur, hv, hb, hg, _⟩
  · omega
  · refine ⟨g, cap, hv, hb, ⟨_, hg⟩, fun y x hy hx k u hu => ?_⟩
    have hk : k < 5 := (List.getElem?_eq_some_iff.1 hu).1
    have hi : y * W + x < W * H := by
      have : (y + 1) * W ≤ H * W := Nat.mul_le_mul_right _ (by omega)
      rw [Nat.add_mul] at this
      rw [Nat.mul_comm W H]; omega
    have hy' : (y * W + x) / W = y := by rw [Nat.mul_comm, Nat.mul_add_div (by omega), Nat.div_eq_of_lt hx, Nat.add_zero]
    have hx' : (y * W + x) % W = x := by rw [Nat.mul_comm, Nat.mul_add_mod, Nat.mod_eq_of_lt hx]
    have hl := lin_get c W (W * H) (y * W + x) k hi hk
    rw [hy', hx', hu] at hl
    have := h.cells (g := g) (by rw [hv]; rfl) _ _ hl
    have ea : (⟨g, 0, none⟩ : Addr).add ((y * W + x) * 5 + k) = ⟨g, y * W * 5 + x * 5 + k, none⟩ := by
      rw [Nat.add_mul]; unfold Addr.add; split <;> simp_all
    rwa [ea] at this

section
variable {K M cap W H : Nat} {c : Nat → Nat → Ce}
set_option maxRecDepth 100000 in
set_option maxHeartbeats 2000000 in
theorem clone_any (w : World) (h : Cv 36 w M W H c) (hW : 1 ≤ W ∧ W ≤ 400) (hH : 1 ≤ H ∧ H ≤ 400) : Calls Tryd.prog 43 #[.slice (some ⟨M, 0, none⟩) (W * H) cap] w fun e w' => ∃ N cap', e = .returned (.slice (some ⟨N, 0, none⟩) (W * H) cap') ∧ Cv 36 w' N W H c ∧ w.heap.size ≤ N ∧ Below w.heap.size w w' := by
  obtain ⟨i0, hi, hz0, hz1, hz2⟩ := info_parts infoC
  obtain ⟨n, hn⟩ : ∃ n, W * H = n := ⟨_, rfl⟩
  have nb : 1 ≤ n ∧ n ≤ 160000 := by rw [← hn]; exact ⟨Nat.mul_le_mul hW.1 hH.1, Nat.mul_le_mul hW.2 hH.2⟩
  have HN : Hid (W * H = n) := hn
  have HV : Hid (Cv 36 w M W H c) := h
  obtain ⟨L, hL⟩ : ∃ L, lin c W n = L := ⟨_, rfl⟩
  have HL : Hid (lin c W (W * H) = L) := by show _ = _; rw [hn]; exact hL
  have HLen : Hid (L.length = n * 5) := by rw [← hL]; exact lin_len c W n
  have HOne : Hid (∀ v ∈ L, v.oneCell' = true) := by rw [← hL]; exact lin_one c W n
  rw [hn]
  clear h hn hL
  have ML : M < w.heap.size := HV.out.lt
  have qs : ∀ (w : World) (a : Option Addr) (n c n' c' : Nat), (binOp .eql 28 (.slice a n c) (.slice none n' c')).run Tryd.prog w = .ok (.bool a.isNone) w := fun w a n c n' c' => Lib.run_eql_slice_nil w _ _ a n c n' c' Tryd.underlying28
  have HCell : Hid (∀ (j : Nat) u, L[j]? = some u → (w.alloc (.cells #[] 36)).cell? ((⟨M, 0, none⟩ : Addr).add j) = some u) := fun j u hj => by
    rw [← HL.out] at hj
    exact cv_lin (HV.out.gr ((Gr.refl w).alloc _)) j u hj
  go_enter Tryd.func43, Tryd.ntmps43
  go_wp2_with (at_builtin; refine wpList_append_own _ rfl _ _ 28 rfl w.heap.size 36 i0 (.agg #[.string ⟨#[]⟩, .int .i64 0, .int .i64 0, .int .i64 0, .int .i64 0]) 5 48 Tryd.underlying28 hi hz0 hz1 hz2 rfl (by decide) _ _ _ rfl (World.ownsRow_made w #[] 0 (Nat.le_refl _) (Nat.zero_le _) rfl) ⟨M, 0, none⟩ n cap L rfl HLen.out HCell.out HOne.out (by unfold maxLen; omega) (by omega) (by simp) ?_)
  intro v' w1 hown hgrow hnil
  have HO : Hid (w1.ownsRow w.heap.size 36 5 v' n L) := hown
  have HG : Hid (Below w.heap.size w w1) := ((Below.refl _ w).alloc (Nat.le_refl _) _).grown hgrow (by simp) (by intro k hk; simp [Value.ownBlock] at hk; omega)
  clear hown hgrow hnil
  go_wp2
  go_ret
  have hO := HO.out
  rw [← HN.out, ← HL.out] at hO
  obtain ⟨N, cap', hv, hb, hcv⟩ := cv_own hO (by rw [HN.out]; omega)
  exact ⟨N, cap', by rw [← HN.out]; exact congrArg Ending.returned hv, hcv, hb, HG.out⟩

set_option maxRecDepth 100000 in
set_option maxHeartbeats 2000000 in
theorem cells_any (w : World) (h : CS 105 36 w K M cap W H c) (hW : 1 ≤ W ∧ W ≤ 400) (hH : 1 ≤ H ∧ H ≤ 400) : Calls Tryd.prog 28 #[.pointer (some ⟨K, 0, none⟩)] w fun e w' => ∃ N cap', e = .returned (.slice (some ⟨N, 0, none⟩) (W * H) cap') ∧ Cv 36 w' N W H c ∧ w.heap.size ≤ N ∧ Below w.heap.size w w' := by
  have CL : Hid (Calls Tryd.prog 43 #[.slice (some ⟨M, 0, none⟩) (W * H) cap] w fun e w' => ∃ N cap', e = .returned (.slice (some ⟨N, 0, none⟩) (W * H) cap') ∧ Cv 36 w' N W H c ∧ w.heap.size ≤ N ∧ Below w.heap.size w w') := clone_any w h.cv hW hH
  have k2 := h.k2
  obtain ⟨n, hn⟩ : ∃ n, W * H = n := ⟨_, rfl⟩
  rw [hn] at CL k2 ⊢
  clear h hn
  go_enter Tryd.func28, Tryd.ntmps28
  go_wp2_with fail
  refine Calls.mono CL.out ?_
  rintro e w1 ⟨N, cap', rfl, h1, h2, h3⟩
  have HH : Hid (Cv 36 w1 N W H c ∧ w.heap.size ≤ N ∧ Below w.heap.size w w1) := ⟨h1, h2, h3⟩
  clear h1 h2 h3
  go_wp2
  go_ret
  exact ⟨N, cap', rfl, HH.out⟩
end
end Go.Proofs.YtdpinmlbccolnaiDoor
