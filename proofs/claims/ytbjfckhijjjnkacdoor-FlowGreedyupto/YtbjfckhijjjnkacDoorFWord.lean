/-
  The walk of panelaw.word; what follows a line would not have fitted.
-/
import Derived.Test.YtbjfckhijjjnkacDoorClsMem
import Derived.Test.YtbjfckhijjjnkacDoorFProp
namespace Go.Proofs.YtbjfckhijjjnkacDoor
open Go.RowKit
set_option linter.unusedVariables false

/-- How wide the clusters are up to the next blank or newline. -/
def wordW : List (List UInt8 × Int) → Int
  | [] => 0
  | c :: t => if c.1 = [32] ∨ c.1 = [10] then 0 else c.2 + wordW t
theorem wordW_ge : ∀ (r : List (List UInt8 × Int)) (k : Nat), (∀ c ∈ r, 0 ≤ c.2 ∧ c.2 ≤ 2) → k ≤ r.length → (∀ j, j < k → tx r j ≠ [32] ∧ tx r j ≠ [10]) → wideSum (r.take k) ≤ wordW r
  | r, 0, hb, _, _ => by
    induction r with
    | nil => exact Int.le_refl _
    | cons c t ih =>
      have h1 : (0 : Int) ≤ wordW t := ih (fun x hx => hb x (by simp [hx])) (Nat.zero_le _) (fun j hj => by omega)
      have h2 := hb c (by simp)
      show (0 : Int) ≤ wordW (c :: t)
      simp only [wordW]
      split <;> omega
  | [], k + 1, _, hk, _ => by simp at hk
  | c :: t, k + 1, hb, hk, h => by
    have h0 := h 0 (by omega)
    simp only [tx, List.getElem?_cons_zero, Option.map_some, Option.getD_some] at h0
    have ih := wordW_ge t k (fun x hx => hb x (by simp [hx])) (by simpa using hk) (fun j hj => by have := h (j + 1) (by omega); simpa [tx] using this)
    rw [List.take_succ_cons, wideSum_cons]
    simp only [wordW]
    rw [if_neg (by rintro (e | e); exact h0.1 e; exact h0.2 e)]
    omega
theorem wordW_bd : ∀ (r : List (List UInt8 × Int)), (∀ c ∈ r, 0 ≤ c.2 ∧ c.2 ≤ 2) → 0 ≤ wordW r ∧ wordW r ≤ 2 * r.length
  | [], _ => by simp [wordW]
  | c :: t, hb => by
    have := wordW_bd t (fun x hx => hb x (by simp [hx]))
    have h2 := hb c (by simp)
    simp only [wordW, List.length_cons]
    split <;> omega
/-- What has been walked of a word. -/
theorem wordW_walk (r : List (List UInt8 × Int)) : ∀ (k : Nat), k ≤ r.length → (∀ j, j < k → tx r j ≠ [32] ∧ tx r j ≠ [10]) → (k < r.length → tx r k = [32] ∨ tx r k = [10]) → wordW r = wideSum (r.take k) := by
  induction r with
  | nil => intro k hk _ _; simp at hk; subst hk; rfl
  | cons c t ih =>
    intro k hk h he
    cases k with
    | zero =>
      have := he (by simp)
      simp only [tx, List.getElem?_cons_zero, Option.map_some, Option.getD_some] at this
      simp only [wordW, if_pos this]; rfl
    | succ k =>
      have h0 := h 0 (by omega)
      simp only [tx, List.getElem?_cons_zero, Option.map_some, Option.getD_some] at h0
      rw [List.take_succ_cons, wideSum_cons]
      simp only [wordW]
      rw [if_neg (by rintro (e | e); exact h0.1 e; exact h0.2 e), ih k (by simpa using hk) (fun j hj => by have := h (j + 1) (by omega); simpa [tx] using this) (fun hl => by have := he (by simpa using hl); simpa [tx] using this)]

set_option maxRecDepth 100000 in
set_option maxHeartbeats 2000000 in
theorem word_any (l : List (List UInt8 × Int)) (v : Value) (a : Nat) (w : World) (hcl : Cls w v l) (ha : a ≤ l.length) (hbd : ∀ c ∈ l, 0 ≤ c.2 ∧ c.2 ≤ 2) (hlen : l.length ≤ 1099511627776) :
    Calls Tryd.prog 8 #[v, .int .i64 a] w fun e w' => e = .returned (.int .i64 (wordW (l.drop a))) ∧ w' = w := by
  obtain ⟨p, cap, rfl, hh⟩ := hcl
  have hr : ∀ c ∈ l.drop a, 0 ≤ c.2 ∧ c.2 ≤ 2 := fun c hc => hbd c (List.mem_of_mem_drop hc)
  have HBD : Hid (∀ c ∈ l.drop a, 0 ≤ c.2 ∧ c.2 ≤ 2) := hr
  have hdl : (l.drop a).length = l.length - a := List.length_drop
  have HDL : Hid ((l.drop a).length = l.length - a) := hdl
  clear hbd hr hdl
  go_enter Tryd.func8, Tryd.ntmps8
  go_wp2
  go_loop [5, 6] (fun t i => ∃ k q : Nat, k ≤ l.length - a ∧ q = a + k ∧ i = .int .i64 q ∧ t = .int .i64 (wideSum ((l.drop a).take k)) ∧ Hid (∀ j, j < k → tx (l.drop a) j ≠ [32] ∧ tx (l.drop a) j ≠ [10])) (fun _ i => l.length - (intOf i).toNat)
  case atStart => exact ⟨0, a, Nat.zero_le _, rfl, rfl, rfl, fun j hj => by omega⟩
  case round =>
    obtain ⟨k, q, hk, hqk, rfl, rfl, hno⟩ := hrel
    have HQ : Hid (q = a + k) := hqk
    have hq1 : q ≤ a + k := by omega
    have hq2 : a + k ≤ q := by omega
    clear hqk
    have hwb := wideSum_bd (l.drop a) HBD.out k
    by_cases hlt : q < l.length
    · have hlt' : (q : Int) < (l.length : Int) := by omega
      have hne : l ≠ [] := fun e => by rw [e] at hlt; simp at hlt
      obtain ⟨b, off, rfl, hb, hc⟩ := hh.resolve_left hne
      obtain ⟨T, V, hTV⟩ : ∃ T V, l[q] = (T, V) := ⟨_, _, rfl⟩
      have hV := HBD.out l[q] (by
        have e : (l.drop a)[k]'(by rw [HDL.out]; omega) = l[q] := by rw [List.getElem_drop]; congr 1; exact HQ.out.symm
        rw [← e]; exact List.getElem_mem _)
      have c0 : w.cell? ⟨b, off + q * 2, none⟩ = some (.string ⟨T.toArray⟩) := by have := (hc q hlt).1; rw [hTV] at this; exact this
      have c1 : w.cell? ⟨b, off + q * 2 + 1, none⟩ = some (.int .i64 V) := by have := (hc q hlt).2; rw [hTV] at this; exact this
      have HX : Hid (tx (l.drop a) k = T) := by show _ = _; rw [tx_drop, ← HQ.out, tx_at hlt, hTV]
      have HS : Hid (wideSum ((l.drop a).take (k + 1)) = wideSum ((l.drop a).take k) + V) := by
        show _ = _
        have hk' : k < (l.drop a).length := by rw [HDL.out]; omega
        rw [wideSum_snoc (l.drop a) k hk', List.getElem_drop]
        have e : l[a + k]'(by omega) = l[q] := by congr 1; exact HQ.out.symm
        rw [e, hTV]
      rw [hTV] at hV
      simp only at hV
      obtain ⟨X, hX⟩ : ∃ X, wideSum ((l.drop a).take k) = X := ⟨_, rfl⟩
      have HXE : Hid (wideSum ((l.drop a).take k) = X) := hX
      rw [hX] at HS hwb
      rw [hX]
      clear hh hc hTV hX hne
      by_cases h32 : T = [32]
      · have HE : Hid (wordW (l.drop a) = X) := by show _ = _; rw [← HXE.out]; exact wordW_walk _ k (by rw [HDL.out]; exact hk) hno.out (fun _ => .inl (by rw [HX.out, h32]))
        have h32' : (T == [32]) = true := by rw [h32]; rfl
        go_wp2
        go_ret
        rw [HE.out]
        exact ⟨rfl, rfl⟩
      have h32' : (T == [32]) = false := by simpa using h32
      by_cases h10 : T = [10]
      · have HE : Hid (wordW (l.drop a) = X) := by show _ = _; rw [← HXE.out]; exact wordW_walk _ k (by rw [HDL.out]; exact hk) hno.out (fun _ => .inr (by rw [HX.out, h10]))
        have h10' : (T == [10]) = true := by rw [h10]; rfl
        go_wp2
        go_ret
        rw [HE.out]
        exact ⟨rfl, rfl⟩
      have h10' : (T == [10]) = false := by simpa using h10
      have hno' : Hid (∀ j, j < k + 1 → tx (l.drop a) j ≠ [32] ∧ tx (l.drop a) j ≠ [10]) := fun j hj => by
        by_cases e : j = k
        · subst e; rw [HX.out]; exact ⟨h32, h10⟩
        · exact hno.out j (by omega)
      go_wp2
      go_round
      case rel => exact ⟨k + 1, q + 1, by omega, by omega, by go_num, by rw [HS.out], hno'⟩
      case measure => simp [intOf]; omega
    · have hlt' : ¬ (q : Int) < (l.length : Int) := by omega
      have HE : Hid (wordW (l.drop a) = wideSum ((l.drop a).take k)) := wordW_walk _ k (by rw [HDL.out]; exact hk) hno.out (fun h => by rw [HDL.out] at h; omega)
      clear hh
      go_wp2
      go_ret
      rw [HE.out]
      exact ⟨rfl, rfl⟩

/-- Behind a blank the whole next word would not have fitted. -/
theorem blank_greedy {l : List (List UInt8 × Int)} {W : Int} {a n d : Nat} (hb : ∀ c ∈ l, 0 ≤ c.2 ∧ c.2 ≤ 2) (hn : ∀ c ∈ l, Nrm c) (hk : LineKind (l.drop a) W n d 0) : d = 1 ∧ a + n < l.length ∧ W < wideSum ((l.drop a).take n) + 1 + wordW (l.drop (a + n + 1)) := by
  have hr : ∀ c ∈ l.drop a, 0 ≤ c.2 ∧ c.2 ≤ 2 := fun c hc => hb c (List.mem_of_mem_drop hc)
  cases hk with
  | blank _ m hl _ _ ht hm hml hno hg =>
    have hl' := hl
    rw [List.length_drop] at hl'
    refine ⟨rfl, by omega, ?_⟩
    have e1 : wideSum ((l.drop a).take (n + 1)) = wideSum ((l.drop a).take n) + 1 := by
      rw [wideSum_snoc (l.drop a) n hl]
      have hmem : (l.drop a)[n] ∈ l := List.mem_of_mem_drop (List.getElem_mem hl)
      rw [tx_at hl] at ht
      rw [nrm_blank_one (hn _ hmem) ht]
    have e2 : (l.drop a).take (m + 1) = (l.drop a).take (n + 1) ++ ((l.drop a).drop (n + 1)).take (m - n) := by
      rw [show m + 1 = (n + 1) + (m - n) by omega, List.take_add]
    have e3 : (l.drop a).drop (n + 1) = l.drop (a + n + 1) := by rw [List.drop_drop, Nat.add_assoc]
    rw [e2, wideSum_app, e1, e3] at hg
    have hml' := hml
    rw [List.length_drop] at hml'
    have := wordW_ge (l.drop (a + n + 1)) (m - n) (fun c hc => hb c (List.mem_of_mem_drop hc)) (by rw [List.length_drop]; omega) (fun j hj => by
      have := hno (n + 1 + j) (by omega) (by omega)
      rw [tx_drop] at this
      rw [tx_drop, show a + n + 1 + j = a + (n + 1 + j) by omega]
      exact this)
    omega

end Go.Proofs.YtbjfckhijjjnkacDoor
