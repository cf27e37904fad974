/-
  The document's terminal: the numbers of a sequence.
-/
import Derived.Test.YtlfffpoeioecjaaDoorU04
import Derived.Test.YtlfffpoeioecjaaDoorU07
import Derived.Test.YtlfffpoeioecjaaDoorU01
namespace Go.Proofs.YtlfffpoeioecjaaDoor
open Go.RowKit Go.Sort
set_option linter.unusedVariables false

/-- What is read so far: the numbers that are whole, and the one that is not. -/
def parS : List Int × Int → List UInt8 → List Int × Int
  | p, [] => p
  | p, b :: l => parS (if b.toNat = 59 then (if p.1.length < 16 then p.1 ++ [p.2] else p.1, 0) else if b.toNat = 58 then p else (p.1, min 999999 (10 * p.2 + (b.toNat : Int) - 48))) l
def parE (p : List Int × Int) : List Int := if p.1.length < 16 then p.1 ++ [p.2] else p.1
def parL (l : List UInt8) : List Int := parE (parS ([], 0) l)
def par1 (p : List Int × Int) (b : UInt8) : List Int × Int := if b.toNat = 59 then (if p.1.length < 16 then p.1 ++ [p.2] else p.1, 0) else if b.toNat = 58 then p else (p.1, min 999999 (10 * p.2 + (b.toNat : Int) - 48))
theorem parS_app (p : List Int × Int) (l : List UInt8) (b : UInt8) : parS p (l ++ [b]) = par1 (parS p l) b := by
  induction l generalizing p with
  | nil => rfl
  | cons a l ih => exact ih _
theorem parL_pos (l : List UInt8) : 0 < (parL l).length := by
  unfold parL parE
  split
  · simp
  · omega
theorem parL_le (l : List UInt8) (p : List Int × Int) (hp : p.1.length ≤ 16) : (parS p l).1.length ≤ 16 := by
  induction l generalizing p with
  | nil => exact hp
  | cons b l ih =>
    refine ih _ ?_
    by_cases h1 : b.toNat = 59
    · rw [if_pos h1]
      by_cases h2 : p.1.length < 16
      · rw [if_pos h2]; simp; omega
      · rw [if_neg h2]; exact hp
    · rw [if_neg h1]
      by_cases h3 : b.toNat = 58
      · rw [if_pos h3]; exact hp
      · rw [if_neg h3]; exact hp

theorem par_slice {W : World} {B n size : Nat} {e : TypeId} {v : Value} {xs : List Value} (h : W.ownsRow B e size v n xs) : ∃ p c, v = .slice p n c := by
  rcases h.2 with ⟨rfl, rfl⟩ | ⟨g, cap, cur, rfl, _⟩
  · exact ⟨none, 0, rfl⟩
  · exact ⟨_, _, rfl⟩

set_option maxRecDepth 100000 in
set_option maxHeartbeats 8000000 in
theorem params_any (x : ByteArray) (hx : x.size ≤ 4611686018427387904) (hb : ∀ b ∈ x.data.toList, 48 ≤ b.toNat ∧ b.toNat ≤ 59) (w : World) :
    Calls Tryd.prog 71 #[.string x] w fun e w' => ∃ v, e = .returned v ∧ Ints w' v (parL x.data.toList) ∧ Below w.heap.size w w' := by
  obtain ⟨i0, hi, hz0, hz1, hz2⟩ := info_parts info3
  have LE : Hid (∀ a b w, Calls Tryd.prog 87 #[.int .i64 a, .int .i64 b] w fun e w' => e = .returned (.int .i64 (min a b)) ∧ w' = w) := least_any
  have HX : Hid (∀ b ∈ x.data.toList, 48 ≤ b.toNat ∧ b.toNat ≤ 59) := hb
  clear hb
  go_enter Tryd.func71, Tryd.ntmps71
  go_wp2
  go_loopw [3, 4, 5] (fun v nv iv wr => ∃ (i : Nat) (acc : List Int) (n : Int), iv = .int .i64 i ∧ i ≤ x.size + 1 ∧ nv = .int .i64 n ∧ 0 ≤ n ∧ n ≤ 999999 ∧ wr.ownsRow w.heap.size 3 1 v acc.length (acc.map (Value.int .i64)) ∧ Below w.heap.size w wr ∧ acc.length ≤ 16 ∧ Hid (i ≤ x.size → (acc, n) = parS ([], 0) (x.data.toList.take i)) ∧ Hid (i = x.size + 1 → acc = parL x.data.toList)) (fun _ _ i _ => x.size + 1 - (intOf i).toNat)
  case atStart => exact ⟨0, [], 0, rfl, Nat.zero_le _, rfl, by omega, by omega, World.ownsRow_nil _ _ _ _, Below.refl _ _, by simp, fun _ => rfl, fun h => by omega⟩
  case round =>
    obtain ⟨i, acc, n, rfl, hil, rfl, hn0, hn1, hown, hbw, hal, HS, HE⟩ := hrel
    obtain ⟨p0, c0, rfl⟩ := par_slice hown
    have hsz := hbw.size
    by_cases hle : i ≤ x.size
    · have hle' : (i : Int) ≤ (x.size : Int) := by omega
      have HS2 : Hid ((acc, n) = parS ([], 0) (x.data.toList.take i)) := HS.out hle
      by_cases hend : i = x.size
      · have he1 : ((i : Int) == (x.size : Int)) = true := by simpa using (by omega : (i : Int) = (x.size : Int))
        have HPL : Hid (parE (acc, n) = parL x.data.toList) := by
          show _ = _
          unfold parL
          rw [HS2.out, hend, List.take_of_length_le (by rw [len_data]; exact Nat.le_refl _)]
        clear HS HE HS2
        by_cases h16 : acc.length < 16
        · have h16' : (acc.length : Int) < 16 := by omega
          go_wp2_with (first | (at_builtin; refine wpList_append_own _ rfl _ _ 113 rfl w.heap.size 3 i0 (.int .i64 0) 1 8 Tryd.underlying113 hi hz0 hz1 hz2 rfl (by decide) _ _ _ rfl (hown.alloc _) _ 1 1 [.int .i64 n] rfl rfl ?c1k1 ?c2k1 ?c3k1 ?c4k1 ?c5k1 ?_))
          try case c1k1 => exact cell_one_new _ _ _
          case c2k1 => first | (intro u hu; simp at hu; subst hu; rfl) | rfl | (simp; done)
          case c3k1 => first | (unfold maxLen; omega) | omega
          case c4k1 => omega
          case c5k1 => first | omega | (rw [World.size_alloc]; omega)
          intro v' w1 hown' hg _
          have hrow : ∀ q, Value.ownBlock (.slice p0 acc.length c0) = some q → w.heap.size ≤ q := fun q hq => (hown.lt q hq).1
          have hb1 : Below w.heap.size w w1 := (hbw.alloc hsz _).grown hg (by rw [World.size_alloc]; omega) hrow
          clear hg hrow hown hbw
          go_wp2
          go_roundw
          case rel =>
            refine ⟨i + 1, acc ++ [n], 0, by go_num, by omega, rfl, by omega, by omega, ?_, hb1, by simp; omega, ?_, ?_⟩
            · rw [List.length_append, List.map_append]; exact hown'
            · exact fun q => absurd q (by omega)
            · exact fun _ => by rw [← HPL.out]; unfold parE; rw [if_pos h16]
          case measure => simp [intOf]; omega
        · have h16' : ¬ (acc.length : Int) < 16 := by omega
          go_wp2
          go_roundw
          case rel => exact ⟨i + 1, acc, 0, by go_num, by omega, rfl, by omega, by omega, hown, hbw, hal, fun q => absurd q (by omega), fun _ => by rw [← HPL.out]; unfold parE; rw [if_neg h16]⟩
          case measure => simp [intOf]; omega
      · have hlt : i < x.size := by omega
        have he1 : ((i : Int) == (x.size : Int)) = false := by simpa using (by omega : ¬ (i : Int) = (x.size : Int))
        obtain ⟨bt, hbt⟩ : ∃ b, x[i]'hlt = b := ⟨_, rfl⟩
        have HP : Hid (parS ([], 0) (x.data.toList.take (i + 1)) = par1 (acc, n) bt) := by
          show _ = _
          have e : x.data.toList[i]? = some bt := by rw [Array.getElem?_toList, ← hbt]; exact Array.getElem?_eq_getElem hlt
          rw [List.take_add_one, e, HS2.out, ← parS_app]
          rfl
        have hbd : 48 ≤ bt.toNat ∧ bt.toNat ≤ 59 := HX.out bt (by rw [← hbt]; exact List.mem_of_getElem? (i := i) (by rw [Array.getElem?_toList]; exact Array.getElem?_eq_getElem hlt))
        clear HS HE HS2
        by_cases h59 : bt.toNat = 59
        · have e59 : ((bt.toNat : Int) == 59) = true := by simpa using (by omega : (bt.toNat : Int) = 59)
          by_cases h16 : acc.length < 16
          · have h16' : (acc.length : Int) < 16 := by omega
            go_wp2_with (first | (at_builtin; refine wpList_append_own _ rfl _ _ 113 rfl w.heap.size 3 i0 (.int .i64 0) 1 8 Tryd.underlying113 hi hz0 hz1 hz2 rfl (by decide) _ _ _ rfl (hown.alloc _) _ 1 1 [.int .i64 n] rfl rfl ?c1k1 ?c2k1 ?c3k1 ?c4k1 ?c5k1 ?_))
            try case c1k1 => exact cell_one_new _ _ _
            case c2k1 => first | (intro u hu; simp at hu; subst hu; rfl) | rfl | (simp; done)
            case c3k1 => first | (unfold maxLen; omega) | omega
            case c4k1 => omega
            case c5k1 => first | omega | (rw [World.size_alloc]; omega)
            intro v' w1 hown' hg _
            have hrow : ∀ q, Value.ownBlock (.slice p0 acc.length c0) = some q → w.heap.size ≤ q := fun q hq => (hown.lt q hq).1
            have hb1 : Below w.heap.size w w1 := (hbw.alloc hsz _).grown hg (by rw [World.size_alloc]; omega) hrow
            clear hg hrow hown hbw
            go_wp2
            go_roundw
            case rel =>
              refine ⟨i + 1, acc ++ [n], 0, by go_num, by omega, rfl, by omega, by omega, ?_, hb1, by simp; omega, ?_, ?_⟩
              · rw [List.length_append, List.map_append]; exact hown'
              · exact fun _ => by rw [HP.out]; unfold par1; rw [if_pos h59, if_pos h16]
              · exact fun q => absurd q (by omega)
            case measure => simp [intOf]; omega
          · have h16' : ¬ (acc.length : Int) < 16 := by omega
            go_wp2
            go_roundw
            case rel => exact ⟨i + 1, acc, 0, by go_num, by omega, rfl, by omega, by omega, hown, hbw, hal, fun _ => by rw [HP.out]; unfold par1; rw [if_pos h59, if_neg h16], fun q => absurd q (by omega)⟩
            case measure => simp [intOf]; omega
        · have e59 : ((bt.toNat : Int) == 59) = false := by simpa using (by omega : ¬ (bt.toNat : Int) = 59)
          by_cases h58 : bt.toNat = 58
          · have e58 : ((bt.toNat : Int) != 58) = false := by simpa using (by omega : (bt.toNat : Int) = 58)
            go_wp2
            go_roundw
            case rel => exact ⟨i + 1, acc, n, by go_num, by omega, rfl, hn0, hn1, hown, hbw, hal, fun _ => by rw [HP.out]; unfold par1; rw [if_neg h59, if_pos h58], fun q => absurd q (by omega)⟩
            case measure => simp [intOf]; omega
          · have e58 : ((bt.toNat : Int) != 58) = true := by simpa using (by omega : ¬ (bt.toNat : Int) = 58)
            go_wp2_with fail
            refine (LE.out _ _ _).mono ?_
            rintro e w1 ⟨rfl, hw⟩
            obtain rfl := hw.symm
            go_wp2
            go_roundw
            case rel => exact ⟨i + 1, acc, min 999999 (10 * n + (bt.toNat : Int) - 48), by go_num, by omega, by go_num, by omega, by omega, hown, hbw, hal, fun _ => by rw [HP.out]; unfold par1; rw [if_neg h59, if_neg h58], fun q => absurd q (by omega)⟩
            case measure => simp [intOf]; omega
    · have hle' : ¬ (i : Int) ≤ (x.size : Int) := by omega
      have HEE : Hid (acc = parL x.data.toList) := HE.out (by omega)
      go_wp2
      go_ret
      exact ⟨_, rfl, by rw [← HEE.out]; exact ints_own hown, hbw⟩

end Go.Proofs.YtlfffpoeioecjaaDoor
