/-
  panelaw.numbers.
-/
import Derived.Test.YtkcddikpjblpaagDoorYTrn
namespace Go.Proofs.YtkcddikpjblpaagDoor
open Go.RowKit Go.Sort
set_option linter.unusedVariables false

theorem byte_drop {s : ByteArray} {k : Nat} (h : k < s.size) : s.data.toList.drop k = s[k] :: s.data.toList.drop (k + 1) := by
  have hk : k < s.data.toList.length := by simpa using h
  rw [List.drop_eq_getElem_cons hk]
  rfl
theorem sc_go {s : ByteArray} {k d : Nat} {n : Int} {l ns : List Int} (h : k < s.size) (hs : sc (s.data.toList.drop k) l n d = some ns) (hd : 48 ≤ s[k].toNat ∧ s[k].toNat ≤ 57 ∧ d < 3) : sc (s.data.toList.drop (k + 1)) l (10 * n + (s[k].toNat : Int) - 48) (d + 1) = some ns := by
  rw [byte_drop h, sc_digit hd] at hs
  rw [show 10 * n + (s[k].toNat : Int) - 48 = 10 * n + ((s[k].toNat : Int) - 48) by omega]
  exact hs
theorem sc_on {s : ByteArray} {k d : Nat} {n : Int} {l ns : List Int} (h : k < s.size) (hs : sc (s.data.toList.drop k) l n d = some ns) (hd : ¬ (48 ≤ s[k].toNat ∧ s[k].toNat ≤ 57 ∧ d < 3)) : d ≠ 0 ∧ (s[k].toNat = 59 ∨ k + 1 = s.size) ∧ sc (s.data.toList.drop (k + 1)) (l ++ [n]) 0 0 = some ns := by
  rw [byte_drop h, sc, if_neg hd] at hs
  by_cases h2 : d = 0 ∨ (s[k].toNat ≠ 59 ∧ s.data.toList.drop (k + 1) ≠ [])
  · rw [if_pos h2] at hs; cases hs
  · rw [if_neg h2] at hs
    refine ⟨fun e => h2 (.inl e), ?_, hs⟩
    by_cases h3 : s[k].toNat = 59
    · exact .inl h3
    · refine .inr ?_
      have h4 : s.data.toList.drop (k + 1) = [] := by
        by_cases e : s.data.toList.drop (k + 1) = []
        · exact e
        · exact absurd (.inr ⟨h3, e⟩) h2
      have h5 := congrArg List.length h4
      have h6 : s.data.toList.length = s.size := by simp
      rw [List.length_drop, h6, List.length_nil] at h5
      omega

set_option maxRecDepth 100000 in
set_option maxHeartbeats 8000000 in
theorem numbers_any (s : ByteArray) (ns : List Int) (w : World) (h4 : 4 ≤ s.size) (hs : s.size ≤ 1000) (b0 : s[0].toNat = 27) (b1 : s[1].toNat = 91) (bl : s[s.size - 1].toNat = 109) (hsc : sc (s.data.toList.drop 2) [] 0 0 = some ns) :
    Calls Tryd.prog 8 #[.string s] w fun e w' => ∃ v, e = .returned (.tuple #[v, .bool true]) ∧ w'.ownsRow w.heap.size 3 1 v ns.length (ns.map (Value.int .i64)) ∧ Below w.heap.size w w' := by
  have HSC : Hid (sc (s.data.toList.drop 2) [] 0 0 = some ns) := hsc
  obtain ⟨i0, hi, hz0, hz1, hz2⟩ := info_parts info3
  clear hsc
  have l4 : ¬ ((s.size : Int) < 4) := by omega
  have d4 : decide ((s.size : Int) < 4) = false := decide_eq_false l4
  go_enter Tryd.func8, Tryd.ntmps8
  go_wp2
  go_loopw [4, 5, 6, 7] (fun lv nv dv iv wr => ∃ (k d : Nat) (n : Int) (l : List Int), 2 ≤ k ∧ k ≤ s.size ∧ l.length ≤ k ∧ iv = .int .i64 k ∧ dv = .int .i64 d ∧ nv = .int .i64 n ∧ d ≤ 3 ∧ 0 ≤ n ∧ n < 1000 ∧ (d ≤ 2 → n < 100) ∧ (d ≤ 1 → n < 10) ∧ (d = 0 → n = 0) ∧ Hid (sc (s.data.toList.drop k) l n d = some ns) ∧ Hid (wr.ownsRow w.heap.size 3 1 lv l.length (l.map (Value.int .i64)) ∧ Below w.heap.size w wr)) (fun _ _ _ iv _ => s.size - (intOf iv).toNat)
  case atStart => exact ⟨2, 0, 0, [], by omega, by omega, by simp, rfl, rfl, rfl, by omega, by omega, by omega, by omega, by omega, by omega, HSC.out, World.ownsRow_nil _ _ _ _, Below.refl _ _⟩
  case round =>
    obtain ⟨k, d, n, l, hk2, hk, hlk, rfl, rfl, rfl, hd, n0, n1, n2, n3, n4, HN, HO⟩ := hrel
    by_cases hlt : k < s.size
    · have hlt' : (k : Int) < (s.size : Int) := by omega
      obtain ⟨x, hx⟩ : ∃ x, s[k].toNat = x := ⟨_, rfl⟩
      have hx8 : x < 256 := by rw [← hx]; exact UInt8.toNat_lt _
      by_cases hdg : 48 ≤ x ∧ x ≤ 57 ∧ d < 3
      · have HN2 : Hid (sc (s.data.toList.drop (k + 1)) l (10 * n + (x : Int) - 48) (d + 1) = some ns) := by
          have := sc_go hlt HN.out (by rw [hx]; exact hdg); rw [hx] at this; exact this
        obtain ⟨q1, q2, q3⟩ := hdg
        have e1 : decide ((48 : Int) ≤ (x : Int)) = true := decide_eq_true (by omega)
        have e2 : decide ((x : Int) ≤ 57) = true := decide_eq_true (by omega)
        have e3 : decide ((d : Int) < 3) = true := decide_eq_true (by omega)
        have nb : n < 100 := by omega
        go_wp2_with fail
        go_roundw
        case rel => exact ⟨k + 1, d + 1, 10 * n + (x : Int) - 48, l, by omega, by omega, by omega, by go_num, by go_num, rfl, by omega, by omega, by omega, by omega, by omega, by omega, HN2.out, HO.out⟩
        case measure => simp [intOf]; omega
      · obtain ⟨hd0, hsep, hsc2⟩ := sc_on hlt HN.out (by rw [hx]; exact hdg)
        have HN2 : Hid (sc (s.data.toList.drop (k + 1)) (l ++ [n]) 0 0 = some ns) := hsc2
        rw [hx] at hsep
        have m0 : ((d : Int) == 0) = false := by rw [beq_eq_false_iff_ne]; omega
        clear hsc2 HN
        have c1 : decide ((48 : Int) ≤ (x : Int)) = false ∨ (decide ((48 : Int) ≤ (x : Int)) = true ∧ decide ((x : Int) ≤ 57) = false) ∨ (decide ((48 : Int) ≤ (x : Int)) = true ∧ decide ((x : Int) ≤ 57) = true ∧ decide ((d : Int) < 3) = false) := by
          simp only [decide_eq_true_eq, decide_eq_false_iff_not]; omega
        have c2 : ((x : Int) != 59) = false ∨ (((x : Int) != 59) = true ∧ decide ((k : Int) < (s.size : Int) - 1) = false) := by
          simp only [bne_eq_false_iff_eq, bne_iff_ne, decide_eq_false_iff_not]; omega
        clear hsep hdg
        rcases c1 with e1 | ⟨e1, e2⟩ | ⟨e1, e2, e3⟩
        all_goals
          rcases c2 with g1 | ⟨g1, g2⟩
          all_goals
            have hown := HO.out.1
            go_wp2_with (at_builtin; refine wpList_append_own _ rfl _ _ 29 rfl w.heap.size 3 i0 (.int .i64 0) 1 8 Tryd.underlying29 hi hz0 hz1 hz2 rfl (by decide) _ _ _ rfl (hown.alloc _) _ 1 1 [.int .i64 n] rfl rfl (one_new _ _ _) (one_cell _) (by unfold maxLen; omega) (by omega) (by rw [World.size_alloc]; have := HO.out.2.size; omega) ?_)
            intro v1 w1 o1 q1 _
            have O1 : Hid (w1.ownsRow w.heap.size 3 1 v1 (l ++ [n]).length ((l ++ [n]).map (Value.int .i64)) ∧ Below w.heap.size w w1) := ⟨by rw [List.length_append, List.map_append]; exact o1, (HO.out.2.alloc (by have := HO.out.2.size; omega) _).grown q1 (by rw [World.size_alloc]; have := HO.out.2.size; omega) (fun q hq => by have := (hown.lt q hq).1; omega)⟩
            clear o1 q1 hown
            go_wp2_with fail
            go_roundw
            case rel => exact ⟨k + 1, 0, 0, l ++ [n], by omega, by omega, by rw [List.length_append]; simp; omega, by go_num, rfl, rfl, by omega, by omega, by omega, by omega, by omega, by omega, HN2.out, O1.out⟩
            case measure => simp [intOf]; omega
    · have hlt' : ¬ (k : Int) < (s.size : Int) := by omega
      have HL : Hid (l = ns) := by
        have := HN.out
        rw [List.drop_eq_nil_of_le (by have : s.data.toList.length = s.size := by simp
                                       omega)] at this
        exact Option.some.inj this
      go_wp2
      refine bodyPost_ret (v := .tuple #[u4, .bool true]) (by simp [results, Tryd.results8, go_sem]) rfl ?_
      exact ⟨_, rfl, by rw [← HL.out]; exact HO.out⟩

end Go.Proofs.YtkcddikpjblpaagDoor
