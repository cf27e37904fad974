/-
  Plain mathematics: in more room there are not more lines.
-/
import Derived.Test.YtbjfckhijjjnkacDoorFProp
namespace Go.Proofs.YtbjfckhijjjnkacDoor
set_option linter.unusedVariables false

theorem tx_dropped (l : List (List UInt8 × Int)) (a j : Nat) : tx (l.drop a) j = tx l (a + j) := tx_drop l a j
theorem wideSum_seg (l : List (List UInt8 × Int)) (a n : Nat) : wideSum (l.take (a + n)) = wideSum (l.take a) + wideSum ((l.drop a).take n) := by
  rw [List.take_add, wideSum_app]
/-- Where a line of w from a on stops: no newline and not too wide up to there. -/
def stp (l : List (List UInt8 × Int)) (w : Int) (a : Nat) : Nat := a + fitN (l.drop a) w
theorem stp_le (l : List (List UInt8 × Int)) (w : Int) (a : Nat) (ha : a ≤ l.length) : stp l w a ≤ l.length := by
  have := fitN_le (l.drop a) w
  rw [List.length_drop] at this
  unfold stp; omega
theorem stp_mono (l : List (List UInt8 × Int)) (h : ∀ c ∈ l, 0 ≤ c.2 ∧ c.2 ≤ 2) (w w' : Int) (a b : Nat) (hw : 1 ≤ w) (hww : w ≤ w') (hab : a ≤ b) (hb : b ≤ stp l w a) (hbl : b ≤ l.length) : stp l w a ≤ stp l w' b := by
  have hr : ∀ c ∈ l.drop a, 0 ≤ c.2 ∧ c.2 ≤ 2 := fun c hc => h c (List.mem_of_mem_drop hc)
  have hr' : ∀ c ∈ l.drop b, 0 ≤ c.2 ∧ c.2 ≤ 2 := fun c hc => h c (List.mem_of_mem_drop hc)
  have sp := (fitN_spec (l.drop a) w hr).1
  have sp' := (fitN_spec (l.drop b) w' hr').2
  have hle' := fitN_le (l.drop b) w'
  have hle := fitN_le (l.drop a) w
  rw [List.length_drop] at hle hle'
  unfold stp at *
  by_cases hc : a + fitN (l.drop a) w ≤ b + fitN (l.drop b) w'
  · exact hc
  · exfalso
    have hlt : fitN (l.drop b) w' < (l.drop b).length := by rw [List.length_drop]; omega
    have s1 := sp (b + fitN (l.drop b) w' - a) (by omega)
    rw [tx_drop, show a + (b + fitN (l.drop b) w' - a) = b + fitN (l.drop b) w' by omega] at s1
    rcases sp' hlt with s2 | s2
    · rw [tx_drop] at s2; exact s1.1 s2
    · have e1 := wideSum_seg l a (b + fitN (l.drop b) w' - a + 1)
      have e2 := wideSum_seg l b (fitN (l.drop b) w' + 1)
      rw [show a + (b + fitN (l.drop b) w' - a + 1) = b + (fitN (l.drop b) w' + 1) by omega] at e1
      have e3 := take_wide_le l h hab
      have := s1.2
      omega

/-- How a line ends, by where it stops. -/
inductive EndKind (l : List (List UInt8 × Int)) (w : Int) (a : Nat) : Prop
  | all (hq : stp l w a = l.length) (he : (lnAt l w a).E = 3) : EndKind l w a
  | newline (hq : stp l w a < l.length) (ht : tx l (stp l w a) = [10]) (he : (lnAt l w a).E ≠ 3) (hx : nxt l w a = stp l w a + 1) : EndKind l w a
  | wide (hq : stp l w a = a) (hl : a < l.length) (ht : tx l a ≠ [10]) (he : (lnAt l w a).E ≠ 3) (hx : nxt l w a = a + 1) : EndKind l w a
  | blank (hq : stp l w a < l.length) (hp : a < stp l w a) (ht : tx l (stp l w a) = [32]) (he : (lnAt l w a).E ≠ 3) (hx : nxt l w a = stp l w a + 1) : EndKind l w a
  | last (b : Nat) (hq : stp l w a < l.length) (h10 : tx l (stp l w a) ≠ [10]) (h32 : tx l (stp l w a) ≠ [32]) (hb : b < stp l w a) (hab : a ≤ b) (ht : tx l b = [32]) (hno : ∀ j, b < j → j < stp l w a → tx l j ≠ [32]) (he : (lnAt l w a).E ≠ 3) (hx : nxt l w a = b + 1) : EndKind l w a
  | word (hq : stp l w a < l.length) (hp : a < stp l w a) (h10 : tx l (stp l w a) ≠ [10]) (h32 : tx l (stp l w a) ≠ [32]) (hno : ∀ j, a ≤ j → j < stp l w a → tx l j ≠ [32]) (he : (lnAt l w a).E ≠ 3) (hx : nxt l w a = stp l w a) : EndKind l w a

theorem endKind (l : List (List UInt8 × Int)) (w : Int) (a : Nat) (ha : a ≤ l.length) : EndKind l w a := by
  have hle := fitN_le (l.drop a) w
  have hlE := lnAt_E l w a
  have hnx : nxt l w a = a + (firstL (l.drop a) w).n + (firstL (l.drop a) w).d := rfl
  have hst : stp l w a = a + fitN (l.drop a) w := rfl
  have hb := lastB_lt (l.drop a) (fitN (l.drop a) w)
  have hbi := lastB_is (l.drop a) (fitN (l.drop a) w)
  have hbn := lastB_no (l.drop a) (fitN (l.drop a) w)
  rw [List.length_drop] at hle
  unfold firstL at hlE hnx
  rw [List.length_drop, tx_drop] at hlE hnx
  by_cases h1 : fitN (l.drop a) w = l.length - a
  · rw [if_pos h1] at hlE
    exact .all (by omega) hlE
  · rw [if_neg h1] at hlE hnx
    by_cases h2 : tx l (a + fitN (l.drop a) w) = [10]
    · rw [if_pos h2] at hlE hnx
      exact .newline (by omega) (by rw [hst]; exact h2) (by rw [hlE]; simp) (by rw [hnx, hst])
    · rw [if_neg h2] at hlE hnx
      by_cases h3 : fitN (l.drop a) w = 0
      · rw [if_pos h3] at hlE hnx
        exact .wide (by omega) (by omega) (by rw [h3] at h2; exact h2) (by rw [hlE]; simp) hnx
      · rw [if_neg h3] at hlE hnx
        by_cases h4 : tx l (a + fitN (l.drop a) w) = [32]
        · rw [if_pos h4] at hlE hnx
          exact .blank (by omega) (by omega) (by rw [hst]; exact h4) (by rw [hlE]; simp) (by rw [hnx, hst])
        · rw [if_neg h4] at hlE hnx
          by_cases h5 : 0 ≤ lastB (l.drop a) (fitN (l.drop a) w)
          · rw [if_pos h5] at hlE hnx
            have hi := hbi h5
            rw [tx_drop] at hi
            refine .last (a + (lastB (l.drop a) (fitN (l.drop a) w)).toNat) (by omega) (by rw [hst]; exact h2) (by rw [hst]; exact h4) (by omega) (by omega) hi (fun j hj1 hj2 => ?_) (by rw [hlE]; simp) (by rw [hnx])
            have := hbn ((j - a : Nat) : Int) (by omega) (by omega)
            rw [tx_drop] at this
            rw [show a + ((j - a : Nat) : Int).toNat = j by omega] at this
            exact this
          · rw [if_neg h5] at hlE hnx
            refine .word (by omega) (by omega) (by rw [hst]; exact h2) (by rw [hst]; exact h4) (fun j hj1 hj2 => ?_) (by rw [hlE]; simp) (by rw [hnx, hst]; rfl)
            have := hbn ((j - a : Nat) : Int) (by omega) (by omega)
            rw [tx_drop] at this
            rw [show a + ((j - a : Nat) : Int).toNat = j by omega] at this
            exact this

/-- From a later place a line of more room ends no earlier. -/
theorem nxt_mono (l : List (List UInt8 × Int)) (h : ∀ c ∈ l, 0 ≤ c.2 ∧ c.2 ≤ 2) (w : Int) (a b : Nat) (hw : 1 ≤ w) (hab : a ≤ b) (hbl : b ≤ l.length) :
    ((lnAt l w a).E = 3 → (lnAt l (w + 1) b).E = 3) ∧ ((lnAt l w a).E ≠ 3 → (lnAt l (w + 1) b).E ≠ 3 → nxt l w a ≤ nxt l (w + 1) b) := by
  have k := endKind l w a (by omega)
  have k' := endKind l (w + 1) b hbl
  have sm : b ≤ stp l w a → stp l w a ≤ stp l (w + 1) b := fun hb => stp_mono l h w (w + 1) a b hw (by omega) hab hb hbl
  have sl := stp_le l (w + 1) b hbl
  refine ⟨fun he => ?_, fun he he' => ?_⟩
  · cases k with
    | all hq _ =>
      have := sm (by omega)
      cases k' with
      | all _ he' => exact he'
      | newline hq' => omega
      | wide hq' hl' => omega
      | blank hq' => omega
      | last _ hq' => omega
      | word hq' => omega
    | newline _ _ he' => exact absurd he he'
    | wide _ _ _ he' => exact absurd he he'
    | blank _ _ _ he' => exact absurd he he'
    | last _ _ _ _ _ _ _ _ he' => exact absurd he he'
    | word _ _ _ _ _ he' => exact absurd he he'
  · by_cases hbn : nxt l w a ≤ b
    · have := nxt_lt l (w + 1) b he'
      omega
    · cases k with
      | all _ h3 => exact absurd h3 he
      | newline hq ht _ hx =>
        have s := sm (by omega)
        cases k' with
        | all _ h3 => exact absurd h3 he'
        | newline hq' _ _ hx' => omega
        | wide hq' _ ht' _ hx' => omega
        | blank hq' _ _ _ hx' => omega
        | last c hq' _ _ hc hbc ht' hno' _ hx' =>
          by_cases e : c < stp l w a
          · exfalso
            have e2 : stp l w a < stp l (w + 1) b ∨ stp l w a = stp l (w + 1) b := by omega
            rcases e2 with e2 | e2
            · have hr' : ∀ x ∈ l.drop b, 0 ≤ x.2 ∧ x.2 ≤ 2 := fun x hx => h x (List.mem_of_mem_drop hx)
              have := ((fitN_spec (l.drop b) (w + 1) hr').1 (stp l w a - b) (by unfold stp at *; omega)).1
              rw [tx_drop, show b + (stp l w a - b) = stp l w a by omega] at this
              exact this ht
            · rw [e2] at ht; contradiction
          · omega
        | word hq' hp' h10' h32' hno' _ hx' =>
          have e2 : stp l w a < stp l (w + 1) b ∨ stp l w a = stp l (w + 1) b := by omega
          rcases e2 with e2 | e2
          · omega
          · rw [e2] at ht; contradiction
      | wide hq hl ht _ hx =>
        have := nxt_lt l (w + 1) b he'
        omega
      | blank hq hp ht _ hx =>
        have s := sm (by omega)
        cases k' with
        | all _ h3 => exact absurd h3 he'
        | newline hq' _ _ hx' => omega
        | wide hq' _ ht' _ hx' => omega
        | blank hq' _ _ _ hx' => omega
        | last c hq' _ h32' hc hbc ht' hno' _ hx' =>
          have e2 : stp l w a < stp l (w + 1) b ∨ stp l w a = stp l (w + 1) b := by omega
          rcases e2 with e2 | e2
          · by_cases e : c < stp l w a
            · exact absurd ht (hno' _ e e2)
            · omega
          · rw [e2] at ht; contradiction
        | word hq' hp' h10' h32' hno' _ hx' =>
          have e2 : stp l w a < stp l (w + 1) b ∨ stp l w a = stp l (w + 1) b := by omega
          rcases e2 with e2 | e2
          · omega
          · rw [e2] at ht; contradiction
      | last c0 hq h10 h32 hb0 hab0 ht hno _ hx =>
        have s := sm (by omega)
        cases k' with
        | all _ h3 => exact absurd h3 he'
        | newline hq' _ _ hx' => omega
        | wide hq' _ ht' _ hx' => omega
        | blank hq' _ _ _ hx' => omega
        | last c hq' _ h32' hc hbc ht' hno' _ hx' =>
          by_cases e : c < c0
          · exact absurd ht (hno' _ e (by omega))
          · omega
        | word hq' hp' h10' h32' hno' _ hx' => exact absurd ht (hno' c0 (by omega) (by omega))
      | word hq hp h10 h32 hno _ hx =>
        have s := sm (by omega)
        cases k' with
        | all _ h3 => exact absurd h3 he'
        | newline hq' _ _ hx' => omega
        | wide hq' _ ht' _ hx' => omega
        | blank hq' _ _ _ hx' => omega
        | last c hq' _ h32' hc hbc ht' hno' _ hx' =>
          by_cases e : c < stp l w a
          · exact absurd ht' (hno c (by omega) e)
          · omega
        | word hq' hp' h10' h32' hno' _ hx' => omega

theorem fewer (l : List (List UInt8 × Int)) (h : ∀ c ∈ l, 0 ≤ c.2 ∧ c.2 ≤ 2) (w : Int) (hw : 1 ≤ w) (a b : Nat) (hab : a ≤ b) (hbl : b ≤ l.length) : (linesA l (w + 1) b).length ≤ (linesA l w a).length := by
  generalize hn : l.length - a = n
  induction n using Nat.strongRecOn generalizing a b with
  | _ n ih =>
    have hm := nxt_mono l h w a b hw hab hbl
    have hA := linesA_length l w a (by omega)
    by_cases e' : (lnAt l (w + 1) b).E = 3
    · rw [linesA_end hbl e']; simpa using hA.1
    · have e : (lnAt l w a).E ≠ 3 := fun e => e' (hm.1 e)
      have h1 := nxt_lt l w a e
      have h2 := nxt_le l w a (by omega)
      have h3 := nxt_le l (w + 1) b hbl
      rw [linesA_step hbl e', linesA_step (by omega) e]
      have := ih (l.length - nxt l w a) (by omega) (nxt l w a) (nxt l (w + 1) b) (hm.2 e e') h3 rfl
      simp only [List.length_cons]; omega

end Go.Proofs.YtbjfckhijjjnkacDoor
