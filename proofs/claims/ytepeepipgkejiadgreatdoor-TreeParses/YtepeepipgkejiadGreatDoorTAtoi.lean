/-
  The digits that stand there, read as a number by the library.
-/
import Derived.Test.YtepeepipgkejiadGreatDoorTNo
import Derived.Test.YtepeepipgkejiadGreatDoorTShelf
namespace Go.Proofs.YtepeepipgkejiadGreatDoor
open Go.RowKit
set_option linter.unusedVariables false

theorem ext_get (s : ByteArray) (j k c : Nat) (h : j + c < k) (hk : k ≤ s.size) : (s.extract j k).data.toList[c]? = some (s[j + c]'(by omega)) := by
  have hk' : k ≤ s.data.size := hk
  rw [ByteArray.data_extract, Array.getElem?_toList, Array.getElem?_extract]
  rw [if_pos (by omega), Array.getElem?_eq_getElem (by omega)]
  rfl
theorem ext_size (s : ByteArray) (j k : Nat) (hk : k ≤ s.size) : (s.extract j k).size = k - j := by
  rw [ByteArray.size_extract, Nat.min_eq_left hk]

theorem dec_dv (s : ByteArray) (j k : Nat) (hk : k ≤ s.size) (h6 : k - j ≤ 6) (hd : ∀ t, j + t < k → 48 ≤ bat s (j + t) ∧ bat s (j + t) ≤ 57) :
    ∀ c, c ≤ k - j → Lib.decFrom 0 ((s.extract j k).data.toList.take c) = some (dv s j c).toNat
  | 0, _ => by simp [Lib.decFrom, dv]
  | c + 1, hc => by
    have ih := dec_dv s j k hk h6 hd c (by omega)
    have hb := hd c (by omega)
    have hbd := (dv_bd s j c (fun t ht => hd t (by omega))).1
    have hin : j + c < s.size := by omega
    have e1 := bat_in hin
    have e := Lib.decFrom_take (s.extract j k).data.toList c 0 _ _ (bat s (j + c) - 48) ih (ext_get s j k c (by omega) hk) (by unfold Lib.digitVal; rw [← e1, if_pos hb])
    rw [e]
    congr 1
    conv => rhs; unfold dv
    rw [if_pos (by omega)]
    omega

theorem atoi_dv (s : ByteArray) (j k : Nat) (hjk : j < k) (hk : k ≤ s.size) (h6 : k - j ≤ 6) (hd : ∀ t, j + t < k → 48 ≤ bat s (j + t) ∧ bat s (j + t) ≤ 57) :
    Lib.atoi (s.extract j k).data.toList = some (dv s j (k - j)) := by
  have hall := dec_dv s j k hk h6 hd (k - j) (Nat.le_refl _)
  have hlen : (s.extract j k).data.toList.length = k - j := by rw [Array.length_toList]; exact ext_size s j k hk
  rw [List.take_of_length_le (by omega)] at hall
  have h0 := ext_get s j k 0 (by omega) hk
  have hb := hd 0 (by omega)
  have e1 := bat_in (s := s) (i := j + 0) (by omega)
  have hbd := (dv_bd s j (k - j) (fun t ht => hd t (by omega))).1
  generalize (s.extract j k).data.toList = l at hall h0 hlen
  match l, h0 with
  | b :: r, h0 =>
    simp only [List.getElem?_cons_zero, Option.some.injEq] at h0
    have hbn : b.toNat = bat s (j + 0) := by rw [e1, h0]
    have n1 : (b == 45) = false := by
      apply beq_eq_false_iff_ne.mpr; intro hh; rw [hh] at hbn; simp at hbn hb; omega
    have n2 : (b == 43) = false := by
      apply beq_eq_false_iff_ne.mpr; intro hh; rw [hh] at hbn; simp at hbn hb; omega
    unfold Lib.atoi
    dsimp only
    rw [n1, n2]
    unfold Lib.decNat
    simp only [List.isEmpty_cons, Bool.false_eq_true, if_false, hall, Option.map_some]
    congr 1
    omega

theorem digits_run (s : ByteArray) (j : Nat) : ∀ t, j + t < run digit s j → 48 ≤ bat s (j + t) ∧ bat s (j + t) ≤ 57 := fun t ht => by
  have := run_all (p := digit) s (s.size - j) j t ht
  unfold digit at this
  simpa using this

set_option maxRecDepth 100000 in
set_option maxHeartbeats 4000000 in
theorem readNumber_no (rb : Nat) (s : ByteArray) (i : Nat) (av nv fv : Value) (eb : Addr) (w : World) (h : PR w rb s i av nv fv) (hs : s.size ≤ 1099511627776) (hi : i ≤ s.size) (hg : 8 ≠ rb) (he : w.cell? ⟨8, 0, none⟩ = some (errV eb))
    (hbad : run digit s (sk s i) = sk s i ∨ sk s i + 6 < run digit s (sk s i) ∨ (sk s i + 1 < run digit s (sk s i) ∧ bat s (sk s i) = 48)) :
    Calls Tryz.prog 100 #[.pointer (some ⟨rb, 0, none⟩)] w fun e w' => e = .panicked [{ v := faultV (sk s i : Int) (errV eb), recovered := false }] ∧ w.grownBy w' (some rb) := by
  have CA : Hid (Calls Tryz.prog 89 #[.pointer (some ⟨rb, 0, none⟩), .func (.func 109) #[] #[]] w fun e w' => e = .returned (.tuple #[.string (s.extract (sk s i) (run digit s (sk s i))), .int .i64 (sk s i : Int)]) ∧ PR w' rb s (run digit s (sk s i)) av nv fv ∧ w.grownBy w' (some rb)) := digits_any rb s i av nv fv w h hs hi
  have hjs := sk_le s i hi
  obtain ⟨j, hj⟩ : ∃ j, sk s i = j := ⟨_, rfl⟩
  rw [hj] at CA hbad hjs ⊢
  have HN : Hid (∀ w, w.cell? ⟨8, 0, none⟩ = some (errV eb) → Calls Tryz.prog 31 #[.int .i64 (j : Int)] w fun e w' => e = .returned (.iface 66 (.agg #[.int .i64 (j : Int), .iface 242 (.pointer (some eb))])) ∧ w' = w) := fun w he => noTree_any _ w eb he
  have HE : Hid (w.cell? ⟨8, 0, none⟩ = some (errV eb)) := he
  have hkl := run_le digit s j hjs
  have hkg := run_ge digit s j
  obtain ⟨k, hk⟩ : ∃ k, run digit s j = k := ⟨_, rfl⟩
  rw [hk] at CA hbad hkl hkg
  have hz := ext_size s j k hkl
  have h0 : j < k → ∀ hh, (s.extract j k)[0]'hh = s[j]'(by omega) := fun hjk hh => by
    have := ext_get s j k 0 (by omega) hkl
    rw [List.getElem?_eq_getElem (by rw [Array.length_toList]; exact hh), Option.some.injEq] at this
    exact this
  have hbj : ∀ hh : j < s.size, bat s j = (s[j]'hh).toNat := fun hh => bat_in hh
  obtain ⟨t, ht⟩ : ∃ t, s.extract j k = t := ⟨_, rfl⟩
  rw [ht] at CA hz
  have hv : t.size = 0 ∨ 6 < t.size ∨ (1 < t.size ∧ ∃ hh : 0 < t.size, (t[0]'hh).toNat = 48) := by
    rcases hbad with h | h | ⟨h, h2⟩
    · left; omega
    · right; left; omega
    · right; right
      refine ⟨by omega, by omega, ?_⟩
      subst ht
      rw [h0 (by omega), ← hbj]; exact h2
  clear h hj he hbad h0 hbj hk ht hz hkl hkg hjs
  by_cases hz0 : t.size = 0
  · have et : t = ⟨#[]⟩ := by apply ByteArray.ext; exact Array.eq_empty_of_size_eq_zero hz0
    subst et
    clear hv hz0
    go_enter Tryz.func100, Tryz.ntmps100
    go_wp2_with fail
    refine CA.out.mono ?_
    rintro e w1 ⟨rfl, h1, g1⟩
    have HG : Hid (w.grownBy w1 (some rb)) := g1
    have HE1 : Hid (w1.cell? ⟨8, 0, none⟩ = some (errV eb)) := g1.cell HE.out (by simpa using hg)
    clear h1 g1 CA
    go_wp2_with fail
    refine (HN.out _ HE1.out).mono ?_
    rintro e w2 ⟨rfl, hw⟩
    obtain rfl := hw.symm
    go_wp2
    exact ⟨rfl, rfl, HG.out⟩
  · have hne : t ≠ ⟨#[]⟩ := fun hh => hz0 (by rw [hh]; rfl)
    have eq0 : decide (t = ⟨#[]⟩) = false := decide_eq_false hne
    have h1 : 1 < t.size := by omega
    have h1' : (1 : Int) < (t.size : Int) := by omega
    have h0' : (0 : Int) < (t.size : Int) := by omega
    have h0n : 0 < t.size := by omega
    obtain ⟨x, hx⟩ : ∃ x, (t[0]'h0n).toNat = x := ⟨_, rfl⟩
    have hv2 : 6 < t.size ∨ x = 48 := by
      rcases hv with h | h | ⟨h, hh, h2⟩
      · exact absurd h hz0
      · exact .inl h
      · exact .inr (by rw [← hx]; exact h2)
    clear hv hz0
    have ed : decide ((1 : Int) < (t.size : Int)) = true := decide_eq_true h1'
    by_cases hx48 : x = 48
    · subst hx48
      clear hv2
      by_cases h6 : 6 < t.size
      · have h6' : (6 : Int) < (t.size : Int) := by omega
        have e6 : decide ((6 : Int) < (t.size : Int)) = true := decide_eq_true h6'
        go_enter Tryz.func100, Tryz.ntmps100
        go_wp2_with fail
        refine CA.out.mono ?_
        rintro e w1 ⟨rfl, h1, g1⟩
        have HG : Hid (w.grownBy w1 (some rb)) := g1
        have he1 : w1.cell? ⟨8, 0, none⟩ = some (.iface 242 (.pointer (some eb))) := g1.cell HE.out (by simpa using hg)
        clear h1 g1 CA
        go_wp2
        all_goals exact ⟨rfl, rfl, HG.out⟩
      · have h6' : ¬ (6 : Int) < (t.size : Int) := by omega
        have e6 : decide ((6 : Int) < (t.size : Int)) = false := decide_eq_false h6'
        go_enter Tryz.func100, Tryz.ntmps100
        go_wp2_with fail
        refine CA.out.mono ?_
        rintro e w1 ⟨rfl, h1, g1⟩
        have HG : Hid (w.grownBy w1 (some rb)) := g1
        have he1 : w1.cell? ⟨8, 0, none⟩ = some (.iface 242 (.pointer (some eb))) := g1.cell HE.out (by simpa using hg)
        clear h1 g1 CA
        go_wp2
        all_goals exact ⟨rfl, rfl, HG.out⟩
    · have ex : ((x : Int) == 48) = false := by simp; omega
      have h6 : 6 < t.size := by omega
      have h6' : (6 : Int) < (t.size : Int) := by omega
      have e6 : decide ((6 : Int) < (t.size : Int)) = true := decide_eq_true h6'
      clear hv2 hx48
      go_enter Tryz.func100, Tryz.ntmps100
      go_wp2_with fail
      refine CA.out.mono ?_
      rintro e w1 ⟨rfl, h1, g1⟩
      have HG : Hid (w.grownBy w1 (some rb)) := g1
      have he1 : w1.cell? ⟨8, 0, none⟩ = some (.iface 242 (.pointer (some eb))) := g1.cell HE.out (by simpa using hg)
      clear h1 g1 CA
      go_wp2
      all_goals exact ⟨rfl, rfl, HG.out⟩

end Go.Proofs.YtepeepipgkejiadGreatDoor
