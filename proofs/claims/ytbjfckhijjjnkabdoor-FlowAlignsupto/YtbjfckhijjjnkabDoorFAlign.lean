/-
  The walks of flow.Align and paneref.Align.
-/
import Derived.Test.YtbjfckhijjjnkabDoorFText
import Derived.Test.YtbjfckhijjjnkabDoorFRef
import Derived.Test.YtbjfckhijjjnkabDoorCols
namespace Go.Proofs.YtbjfckhijjjnkabDoor
open Go.RowKit
set_option linter.unusedVariables false

theorem mk_list (s : ByteArray) : (⟨s.data.toList.toArray⟩ : ByteArray) = s := by cases s; simp
theorem app3 (s : ByteArray) (X Y : List UInt8) : (⟨X.toArray⟩ : ByteArray) ++ s ++ (⟨Y.toArray⟩ : ByteArray) = ⟨(X ++ s.data.toList ++ Y).toArray⟩ := by
  apply ByteArray.ext
  simp
/-- How many blanks stand ahead, of n. -/
def ahd (n : Nat) (how : Int) : Nat := if how = 1 then n / 2 else if how = 2 then n else 0
theorem ahd_le (n : Nat) (how : Int) : ahd n how ≤ n := by unfold ahd; (repeat' split) <;> omega
/-- F3. -/
def algn (T : List UInt8) (c W how : Int) : List UInt8 := if min W 100000 ≤ c then T else List.replicate (ahd (min W 100000 - c).toNat how) 32 ++ T ++ List.replicate ((min W 100000 - c).toNat - ahd (min W 100000 - c).toNat how) 32

set_option maxRecDepth 100000 in
set_option maxHeartbeats 2000000 in
theorem align_any (s : ByteArray) (W how : Int) (w : World) (ht : TabAt w) (hs : s.size ≤ 1099511627776) (hW0 : -9223372036854775808 ≤ W) (hW1 : W ≤ 9223372036854775807) :
    Calls Tryd.prog 14 #[.string s, .int .i64 W, .int .i64 how] w fun e w' => e = .returned (.string ⟨(algn s.data.toList (wideSum (clus (runes s.data.toList))) W how).toArray⟩) ∧ Below w.heap.size w w' := by
  have hsl : s.data.toList.length = s.size := by rw [Array.length_toList]; rfl
  have hR := runes_length s.data.toList
  have hC := clus_length (runes s.data.toList)
  rw [hsl] at hR
  have hbd := wideSum_bd _ (clus_wide (runes s.data.toList)) (clus (runes s.data.toList)).length
  rw [List.take_length] at hbd
  have K : Hid (Calls Tryd.prog 18 #[.string s] w fun e w' => e = .returned (.int .i64 (wideSum (clus (runes s.data.toList)))) ∧ Below w.heap.size w w') := columns_any s w ht hs
  obtain ⟨c, hc⟩ : ∃ c, wideSum (clus (runes s.data.toList)) = c := ⟨_, rfl⟩
  rw [hc] at K hbd ⊢
  have hSE : (⟨s.data.toList.toArray⟩ : ByteArray) = s := by cases s; simp
  have HSE : Hid ((⟨s.data.toList.toArray⟩ : ByteArray) = s) := hSE
  obtain ⟨M, hM⟩ : ∃ M, min W 100000 = M := ⟨_, rfl⟩
  have hM1 : M ≤ 100000 := by omega
  have hM0 : -9223372036854775808 ≤ M := by omega
  have HM : Hid (min W 100000 = M) := hM
  clear hc hsl ht hSE
  by_cases hle : M ≤ c
  · have HE : Hid (algn s.data.toList c W how = s.data.toList) := by show _ = _; unfold algn; rw [if_pos (by rw [HM.out]; exact hle)]
    go_enter Tryd.func14, Tryd.ntmps14
    go_wp2_with fail
    refine K.out.mono ?_
    rintro e w1 ⟨rfl, b1⟩
    clear K hM
    go_wp2
    go_ret
    rw [HE.out, mk_list]
    exact ⟨rfl, b1⟩
  · obtain ⟨n, hn⟩ : ∃ n : Nat, M - c = n := ⟨(M - c).toNat, by omega⟩
    have hn1 : n ≤ 100000 := by omega
    have HE : Hid (algn s.data.toList c W how = List.replicate (ahd n how) 32 ++ s.data.toList ++ List.replicate (n - ahd n how) 32) := by
      show _ = _; unfold algn; rw [if_neg (by rw [HM.out]; exact hle), HM.out, hn]; simp
    have hal := ahd_le n how
    have D1 : how = 1 → ahd n how = n / 2 := fun h => by unfold ahd; rw [if_pos h]
    have D2 : how = 2 → ahd n how = n := fun h => by unfold ahd; rw [if_neg (by omega), if_pos h]
    have D3 : how ≠ 1 → how ≠ 2 → ahd n how = 0 := fun h h' => by unfold ahd; rw [if_neg h, if_neg h']
    obtain ⟨a, ha⟩ : ∃ a, ahd n how = a := ⟨_, rfl⟩
    rw [ha] at HE hal D1 D2 D3
    have hna : (n : Int) - (a : Int) = ((n - a : Nat) : Int) := by omega
    have hR1 : ∀ w, Calls Tryd.prog 25 #[.string ⟨#[32]⟩, .int .i64 a] w fun e w' => e = .returned (.string ⟨(List.replicate a 32).toArray⟩) ∧ Below w.heap.size w w' := fun w => blank_any a w (by omega)
    have hR2 : ∀ w, Calls Tryd.prog 25 #[.string ⟨#[32]⟩, .int .i64 ((n - a : Nat) : Int)] w fun e w' => e = .returned (.string ⟨(List.replicate (n - a) 32).toArray⟩) ∧ Below w.heap.size w w' := fun w => blank_any (n - a) w (by omega)
    have R1 : Hid (∀ w, Calls Tryd.prog 25 #[.string ⟨#[32]⟩, .int .i64 a] w fun e w' => e = .returned (.string ⟨(List.replicate a 32).toArray⟩) ∧ Below w.heap.size w w') := hR1
    have R2 : Hid (∀ w, Calls Tryd.prog 25 #[.string ⟨#[32]⟩, .int .i64 ((n - a : Nat) : Int)] w fun e w' => e = .returned (.string ⟨(List.replicate (n - a) 32).toArray⟩) ∧ Below w.heap.size w w') := hR2
    have HNA : Hid ((n : Int) - (a : Int) = ((n - a : Nat) : Int)) := hna
    have HN : Hid (M - c = n) := hn
    have l1 : (List.replicate a (32 : UInt8)).length = a := List.length_replicate
    have l2 : (List.replicate (n - a) (32 : UInt8)).length = n - a := List.length_replicate
    obtain ⟨X, hX⟩ : ∃ X, List.replicate a (32 : UInt8) = X := ⟨_, rfl⟩
    obtain ⟨Y, hY⟩ : ∃ Y, List.replicate (n - a) (32 : UInt8) = Y := ⟨_, rfl⟩
    rw [hX] at HE R1 l1
    rw [hY] at HE R2 l2
    clear hR1 hR2 hna hn hX hY ha
    go_enter Tryd.func14, Tryd.ntmps14
    go_wp2_with fail
    refine K.out.mono ?_
    rintro e w1 ⟨rfl, b1⟩
    clear K hM
    have e0 : M - c - (a : Int) = ((n - a : Nat) : Int) := by have := HN.out; omega
    have E0 : Hid (M - c - (a : Int) = ((n - a : Nat) : Int)) := e0
    have hMc : M - c ≤ 100000 := by have := HN.out; omega
    have hMc0 : 0 < M - c := by omega
    by_cases h1 : how = 1
    · have e1 : a = n / 2 := D1 h1
      have E1 : Hid (((n : Int)) / 2 = (a : Int)) := by show _ = _; rw [e1]; rfl
      have E2 : Hid ((M - c).tdiv 2 = (a : Int)) := by show _ = _; rw [HN.out, e1]; rfl
      clear D1 D2 D3 e1 e0
      subst h1
      have hq : (M - c).tdiv 2 = (a : Int) := E2.out
      go_wp2_with fail
      try rw [E1.out]
      refine (R1.out _).mono ?_
      rintro e w2 ⟨rfl, b2⟩
      go_wp2_with fail
      refine (show Calls _ _ #[_, .int .i64 (M - c - (a : Int))] _ _ by rw [E0.out]; exact R2.out _).mono ?_
      rintro e w3 ⟨rfl, b3⟩
      go_wp2
      go_ret
      rw [HE.out, ← app3]
      exact ⟨rfl, b1.trans ((b2.mono b1.size).trans (b3.mono (Nat.le_trans b1.size b2.size)))⟩
    · by_cases h2 : how = 2
      · have e1 : a = n := D2 h2
        have R1' : Hid (∀ w, Calls Tryd.prog 25 #[.string ⟨#[32]⟩, .int .i64 (M - c)] w fun e w' => e = .returned (.string ⟨X.toArray⟩) ∧ Below w.heap.size w w') := by
          intro w; rw [HN.out, ← e1]; exact R1.out w
        have R2' : Hid (∀ w, Calls Tryd.prog 25 #[.string ⟨#[32]⟩, .int .i64 0] w fun e w' => e = .returned (.string ⟨Y.toArray⟩) ∧ Below w.heap.size w w') := by
          intro w; have := R2.out w; rw [show ((n - a : Nat) : Int) = 0 by omega] at this; exact this
        clear D1 D2 D3 e1 e0 R1 R2
        subst h2
        go_wp2_with fail
        refine (R1'.out _).mono ?_
        rintro e w2 ⟨rfl, b2⟩
        go_wp2_with fail
        refine (R2'.out _).mono ?_
        rintro e w3 ⟨rfl, b3⟩
        go_wp2
        go_ret
        rw [HE.out, ← app3]
        exact ⟨rfl, b1.trans ((b2.mono b1.size).trans (b3.mono (Nat.le_trans b1.size b2.size)))⟩
      · have e1 : a = 0 := D3 h1 h2
        have R1' : Hid (∀ w, Calls Tryd.prog 25 #[.string ⟨#[32]⟩, .int .i64 0] w fun e w' => e = .returned (.string ⟨X.toArray⟩) ∧ Below w.heap.size w w') := by
          intro w; have := R1.out w; rw [show (a : Int) = 0 by omega] at this; exact this
        have R2' : Hid (∀ w, Calls Tryd.prog 25 #[.string ⟨#[32]⟩, .int .i64 (M - c)] w fun e w' => e = .returned (.string ⟨Y.toArray⟩) ∧ Below w.heap.size w w') := by
          intro w; have := R2.out w; rw [show ((n - a : Nat) : Int) = M - c by have := HN.out; omega] at this; exact this
        have g1 : ¬ how = 1 := h1
        have g2 : ¬ how = 2 := h2
        clear D1 D2 D3 e1 e0 R1 R2
        go_wp2_with fail
        refine (R1'.out _).mono ?_
        rintro e w2 ⟨rfl, b2⟩
        go_wp2_with fail
        refine (R2'.out _).mono ?_
        rintro e w3 ⟨rfl, b3⟩
        go_wp2
        go_ret
        rw [HE.out, ← app3]
        exact ⟨rfl, b1.trans ((b2.mono b1.size).trans (b3.mono (Nat.le_trans b1.size b2.size)))⟩

set_option maxRecDepth 100000 in
set_option maxHeartbeats 2000000 in
theorem ralign_any (s : ByteArray) (W how : Int) (w : World) (hs : s.size ≤ 1099511627776) (hW0 : -9223372036854775808 ≤ W) (hW1 : W ≤ 9223372036854775807) :
    Calls Tryd.prog 15 #[.string s, .int .i64 W, .int .i64 how] w fun e w' => e = .returned (.string ⟨(algn s.data.toList (wideSum (clus (runes s.data.toList))) W how).toArray⟩) ∧ Below w.heap.size w w' := by
  have hsl : s.data.toList.length = s.size := by rw [Array.length_toList]; rfl
  have hR := runes_length s.data.toList
  have hC := clus_length (runes s.data.toList)
  rw [hsl] at hR
  have hbd := wideSum_bd _ (clus_wide (runes s.data.toList)) (clus (runes s.data.toList)).length
  rw [List.take_length] at hbd
  have K : Hid (Calls Tryd.prog 26 #[.string s] w fun e w' => e = .returned (.int .i64 (wideSum (clus (runes s.data.toList)))) ∧ Below w.heap.size w w') := rcolumns_any s w hs
  obtain ⟨c, hc⟩ : ∃ c, wideSum (clus (runes s.data.toList)) = c := ⟨_, rfl⟩
  rw [hc] at K hbd ⊢
  obtain ⟨M, hM⟩ : ∃ M, min W 100000 = M := ⟨_, rfl⟩
  have hM1 : M ≤ 100000 := by omega
  have hM0 : -9223372036854775808 ≤ M := by omega
  have HM : Hid (min W 100000 = M) := hM
  have L : Hid (∀ w, Calls Tryd.prog 27 #[.int .i64 W, .int .i64 100000] w fun e w' => e = .returned (.int .i64 M) ∧ w' = w) := by
    intro w; have := rleast_any W 100000 w; rw [hM] at this; exact this
  clear hc hsl hM
  by_cases hle : M ≤ c
  · have HE : Hid (algn s.data.toList c W how = s.data.toList) := by show _ = _; unfold algn; rw [if_pos (by rw [HM.out]; exact hle)]
    go_enter Tryd.func15, Tryd.ntmps15
    go_wp2_with fail
    refine K.out.mono ?_
    rintro e w1 ⟨rfl, b1⟩
    clear K
    go_wp2_with fail
    refine (L.out _).mono ?_
    rintro e w2 ⟨rfl, rfl⟩
    go_wp2
    go_ret
    rw [HE.out, mk_list]
    exact ⟨rfl, b1⟩
  · obtain ⟨n, hn⟩ : ∃ n : Nat, M - c = n := ⟨(M - c).toNat, by omega⟩
    have hn1 : n ≤ 100000 := by omega
    have HE : Hid (algn s.data.toList c W how = List.replicate (ahd n how) 32 ++ s.data.toList ++ List.replicate (n - ahd n how) 32) := by
      show _ = _; unfold algn; rw [if_neg (by rw [HM.out]; exact hle), HM.out, hn]; simp
    have hal := ahd_le n how
    have D1 : how = 1 → ahd n how = n / 2 := fun h => by unfold ahd; rw [if_pos h]
    have D2 : how = 2 → ahd n how = n := fun h => by unfold ahd; rw [if_neg (by omega), if_pos h]
    have D3 : how ≠ 1 → how ≠ 2 → ahd n how = 0 := fun h h' => by unfold ahd; rw [if_neg h, if_neg h']
    obtain ⟨a, ha⟩ : ∃ a, ahd n how = a := ⟨_, rfl⟩
    rw [ha] at HE hal D1 D2 D3
    have hR1 : ∀ w, Calls Tryd.prog 28 #[.int .i64 a] w fun e w' => e = .returned (.string ⟨(List.replicate a 32).toArray⟩) ∧ w' = w := fun w => rblanks_any a w (by omega)
    have hR2 : ∀ w, Calls Tryd.prog 28 #[.int .i64 ((n - a : Nat) : Int)] w fun e w' => e = .returned (.string ⟨(List.replicate (n - a) 32).toArray⟩) ∧ w' = w := fun w => rblanks_any (n - a) w (by omega)
    have R1 : Hid (∀ w, Calls Tryd.prog 28 #[.int .i64 a] w fun e w' => e = .returned (.string ⟨(List.replicate a 32).toArray⟩) ∧ w' = w) := hR1
    have R2 : Hid (∀ w, Calls Tryd.prog 28 #[.int .i64 ((n - a : Nat) : Int)] w fun e w' => e = .returned (.string ⟨(List.replicate (n - a) 32).toArray⟩) ∧ w' = w) := hR2
    have HN : Hid (M - c = n) := hn
    have l1 : (List.replicate a (32 : UInt8)).length = a := List.length_replicate
    have l2 : (List.replicate (n - a) (32 : UInt8)).length = n - a := List.length_replicate
    obtain ⟨X, hX⟩ : ∃ X, List.replicate a (32 : UInt8) = X := ⟨_, rfl⟩
    obtain ⟨Y, hY⟩ : ∃ Y, List.replicate (n - a) (32 : UInt8) = Y := ⟨_, rfl⟩
    rw [hX] at HE R1 l1
    rw [hY] at HE R2 l2
    have e0 : M - c - (a : Int) = ((n - a : Nat) : Int) := by omega
    have E0 : Hid (M - c - (a : Int) = ((n - a : Nat) : Int)) := e0
    have hMc : M - c ≤ 100000 := by omega
    have hMc0 : 0 < M - c := by omega
    clear hR1 hR2 hn hX hY ha e0
    go_enter Tryd.func15, Tryd.ntmps15
    go_wp2_with fail
    refine K.out.mono ?_
    rintro e w1 ⟨rfl, b1⟩
    clear K
    go_wp2_with fail
    refine (L.out _).mono ?_
    rintro e w2 ⟨rfl, rfl⟩
    clear L
    by_cases h1 : how = 1
    · have e1 : a = n / 2 := D1 h1
      have E1 : Hid (((n : Int)) / 2 = (a : Int)) := by show _ = _; rw [e1]; rfl
      have E2 : Hid ((M - c).tdiv 2 = (a : Int)) := by show _ = _; rw [HN.out, e1]; rfl
      clear D1 D2 D3 e1
      subst h1
      have hq : (M - c).tdiv 2 = (a : Int) := E2.out
      go_wp2_with fail
      try rw [E1.out]
      refine (R1.out _).mono ?_
      rintro e w2 ⟨rfl, rfl⟩
      go_wp2_with fail
      refine (show Calls _ _ #[.int .i64 (M - c - (a : Int))] _ _ by rw [E0.out]; exact R2.out _).mono ?_
      rintro e w3 ⟨rfl, rfl⟩
      go_wp2
      go_ret
      rw [HE.out, ← app3]
      exact ⟨rfl, b1⟩
    · by_cases h2 : how = 2
      · have e1 : a = n := D2 h2
        have R1' : Hid (∀ w, Calls Tryd.prog 28 #[.int .i64 (M - c)] w fun e w' => e = .returned (.string ⟨X.toArray⟩) ∧ w' = w) := by
          intro w; rw [HN.out, ← e1]; exact R1.out w
        have R2' : Hid (∀ w, Calls Tryd.prog 28 #[.int .i64 0] w fun e w' => e = .returned (.string ⟨Y.toArray⟩) ∧ w' = w) := by
          intro w; have := R2.out w; rw [show ((n - a : Nat) : Int) = 0 by omega] at this; exact this
        clear D1 D2 D3 e1 R1 R2
        subst h2
        go_wp2_with fail
        refine (R1'.out _).mono ?_
        rintro e w2 ⟨rfl, rfl⟩
        go_wp2_with fail
        refine (R2'.out _).mono ?_
        rintro e w3 ⟨rfl, rfl⟩
        go_wp2
        go_ret
        rw [HE.out, ← app3]
        exact ⟨rfl, b1⟩
      · have e1 : a = 0 := D3 h1 h2
        have R1' : Hid (∀ w, Calls Tryd.prog 28 #[.int .i64 0] w fun e w' => e = .returned (.string ⟨X.toArray⟩) ∧ w' = w) := by
          intro w; have := R1.out w; rw [show (a : Int) = 0 by omega] at this; exact this
        have R2' : Hid (∀ w, Calls Tryd.prog 28 #[.int .i64 (M - c)] w fun e w' => e = .returned (.string ⟨Y.toArray⟩) ∧ w' = w) := by
          intro w; have := R2.out w; rw [show ((n - a : Nat) : Int) = M - c by have := HN.out; omega] at this; exact this
        have g1 : ¬ how = 1 := h1
        have g2 : ¬ how = 2 := h2
        clear D1 D2 D3 e1 R1 R2
        go_wp2_with fail
        refine (R1'.out _).mono ?_
        rintro e w2 ⟨rfl, rfl⟩
        go_wp2_with fail
        refine (R2'.out _).mono ?_
        rintro e w3 ⟨rfl, rfl⟩
        go_wp2
        go_ret
        rw [HE.out, ← app3]
        exact ⟨rfl, b1⟩

end Go.Proofs.YtbjfckhijjjnkabDoor
