/-
  The walk of paneref.written: the right sequence of a rune.
-/
import Derived.Test.YtkdajaphbmclkaaGreatDoorLeaves
import Derived.Laws.IdiomStrings
namespace Go.Proofs.YtkdajaphbmclkaaGreatDoor
open Go.RowKit
set_option linter.unusedVariables false

/-- A new row of bytes, made a string. -/
theorem conv_new (xs : List Int) (hx : ∀ x ∈ xs, 0 ≤ x ∧ x < 256) (w : World) :
    (convert 60 9 (.slice (some ⟨w.heap.size, 0, none⟩) xs.length xs.length)).run Tryz.prog (w.alloc (.cells (xs.map (Value.int .u8)).toArray 5)) =
      .ok (.string ⟨(xs.map fun x => x.toNat.toUInt8).toArray⟩) (w.alloc (.cells (xs.map (Value.int .u8)).toArray 5)) := by
  have h := run_convert_bytes_back (P := Tryz.prog) (w.alloc (.cells (xs.map (Value.int .u8)).toArray 5)) 60 9 5 ⟨w.heap.size, 0, none⟩ xs.length (xs.map fun x => x.toNat.toUInt8) Tryz.underlying60 Tryz.underlying5 Tryz.underlying9 (by
    intro j hj
    simp only [List.length_map] at hj
    have e : (⟨w.heap.size, 0, none⟩ : Addr).add j = ⟨w.heap.size, j, none⟩ := by unfold Addr.add; split <;> simp_all
    rw [e, World.cell?_alloc_mark]
    have hb := hx xs[j] (List.getElem_mem hj)
    simp [hj]
    omega)
  simpa using h

theorem conv1 (a : Int) (ha : 0 ≤ a ∧ a < 256) (w : World) :
    (convert 60 9 (.slice (some ⟨w.heap.size, 0, none⟩) 1 1)).run Tryz.prog (w.alloc (.cells #[.int .u8 a] 5)) = .ok (.string ⟨#[a.toNat.toUInt8]⟩) (w.alloc (.cells #[.int .u8 a] 5)) :=
  conv_new [a] (by simpa using ha) w
theorem conv2 (a b : Int) (ha : 0 ≤ a ∧ a < 256) (hb : 0 ≤ b ∧ b < 256) (w : World) :
    (convert 60 9 (.slice (some ⟨w.heap.size, 0, none⟩) 2 2)).run Tryz.prog (w.alloc (.cells #[.int .u8 a, .int .u8 b] 5)) = .ok (.string ⟨#[a.toNat.toUInt8, b.toNat.toUInt8]⟩) (w.alloc (.cells #[.int .u8 a, .int .u8 b] 5)) :=
  conv_new [a, b] (by simp; exact ⟨ha, hb⟩) w
theorem conv3 (a b c : Int) (ha : 0 ≤ a ∧ a < 256) (hb : 0 ≤ b ∧ b < 256) (hc : 0 ≤ c ∧ c < 256) (w : World) :
    (convert 60 9 (.slice (some ⟨w.heap.size, 0, none⟩) 3 3)).run Tryz.prog (w.alloc (.cells #[.int .u8 a, .int .u8 b, .int .u8 c] 5)) = .ok (.string ⟨#[a.toNat.toUInt8, b.toNat.toUInt8, c.toNat.toUInt8]⟩) (w.alloc (.cells #[.int .u8 a, .int .u8 b, .int .u8 c] 5)) :=
  conv_new [a, b, c] (by simp; exact ⟨ha, hb, hc⟩) w
theorem conv4 (a b c d : Int) (ha : 0 ≤ a ∧ a < 256) (hb : 0 ≤ b ∧ b < 256) (hc : 0 ≤ c ∧ c < 256) (hd : 0 ≤ d ∧ d < 256) (w : World) :
    (convert 60 9 (.slice (some ⟨w.heap.size, 0, none⟩) 4 4)).run Tryz.prog (w.alloc (.cells #[.int .u8 a, .int .u8 b, .int .u8 c, .int .u8 d] 5)) = .ok (.string ⟨#[a.toNat.toUInt8, b.toNat.toUInt8, c.toNat.toUInt8, d.toNat.toUInt8]⟩) (w.alloc (.cells #[.int .u8 a, .int .u8 b, .int .u8 c, .int .u8 d] 5)) :=
  conv_new [a, b, c, d] (by simp; exact ⟨ha, hb, hc, hd⟩) w

set_option maxRecDepth 100000 in
set_option maxHeartbeats 1000000 in
theorem written_one (r : Int) (h0 : 0 ≤ r) (h1 : r ≤ 127) (w : World) :
    Calls Tryz.prog 26 #[.int .i64 r] w fun e w' => e = .returned (.string ⟨(Lib.encodeRune r).toArray⟩) ∧ ∃ o, w' = w.alloc o := by
  have he : Hid (Lib.encodeRune r = [r.toNat.toUInt8]) := by show _ = _; unfold Lib.encodeRune; rw [Lib.encodeRuneZ_one h0 h1]; rfl
  have hk := conv1 r (by omega) w
  go_enter Tryz.func26, Tryz.ntmps26
  go_wp2
  go_ret
  rw [he.out]
  exact ⟨rfl, _, rfl⟩
set_option maxRecDepth 100000 in
set_option maxHeartbeats 1000000 in
theorem written_two (r : Int) (h0 : 128 ≤ r) (h1 : r ≤ 2047) (w : World) :
    Calls Tryz.prog 26 #[.int .i64 r] w fun e w' => e = .returned (.string ⟨(Lib.encodeRune r).toArray⟩) ∧ ∃ o, w' = w.alloc o := by
  have he : Hid (Lib.encodeRune r = [(192 + r / 64).toNat.toUInt8, (128 + r % 64).toNat.toUInt8]) := by show _ = _; unfold Lib.encodeRune; rw [Lib.encodeRuneZ_two h0 h1]; rfl
  have hk := conv2 (192 + r / 64) (128 + r % 64) (by omega) (by omega) w
  go_enter Tryz.func26, Tryz.ntmps26
  go_wp2
  go_ret
  rw [he.out]
  exact ⟨rfl, _, rfl⟩
set_option maxRecDepth 100000 in
set_option maxHeartbeats 1000000 in
theorem written_three (r : Int) (h0 : (2048 ≤ r ∧ r < 55296) ∨ (57343 < r ∧ r ≤ 65535)) (w : World) :
    Calls Tryz.prog 26 #[.int .i64 r] w fun e w' => e = .returned (.string ⟨(Lib.encodeRune r).toArray⟩) ∧ ∃ o, w' = w.alloc o := by
  have he : Hid (Lib.encodeRune r = [(224 + r / 4096).toNat.toUInt8, (128 + r / 64 % 64).toNat.toUInt8, (128 + r % 64).toNat.toUInt8]) := by show _ = _; unfold Lib.encodeRune; rw [Lib.encodeRuneZ_three h0]; rfl
  have hk := conv3 (224 + r / 4096) (128 + r / 64 % 64) (128 + r % 64) (by omega) (by omega) (by omega) w
  rcases h0 with ⟨h0, h1⟩ | ⟨h0, h1⟩
  all_goals
    go_enter Tryz.func26, Tryz.ntmps26
    go_wp2
    go_ret
    rw [he.out]
    exact ⟨rfl, _, rfl⟩
set_option maxRecDepth 100000 in
set_option maxHeartbeats 1000000 in
theorem written_four (r : Int) (h0 : 65536 ≤ r) (h1 : r ≤ 1114111) (w : World) :
    Calls Tryz.prog 26 #[.int .i64 r] w fun e w' => e = .returned (.string ⟨(Lib.encodeRune r).toArray⟩) ∧ ∃ o, w' = w.alloc o := by
  have he : Hid (Lib.encodeRune r = [(240 + r / 262144).toNat.toUInt8, (128 + r / 4096 % 64).toNat.toUInt8, (128 + r / 64 % 64).toNat.toUInt8, (128 + r % 64).toNat.toUInt8]) := by show _ = _; unfold Lib.encodeRune; rw [Lib.encodeRuneZ_four h0 h1]; rfl
  have hk := conv4 (240 + r / 262144) (128 + r / 4096 % 64) (128 + r / 64 % 64) (128 + r % 64) (by omega) (by omega) (by omega) (by omega) w
  go_enter Tryz.func26, Tryz.ntmps26
  go_wp2
  go_ret
  rw [he.out]
  exact ⟨rfl, _, rfl⟩
set_option maxRecDepth 100000 in
set_option maxHeartbeats 1000000 in
theorem written_bad (r : Int) (h : r < 0 ∨ (55296 ≤ r ∧ r ≤ 57343) ∨ 1114111 < r) (w : World) :
    Calls Tryz.prog 26 #[.int .i64 r] w fun e w' => e = .returned (.string ⟨(Lib.encodeRune r).toArray⟩) ∧ ∃ o, w' = w.alloc o := by
  have he : Hid (Lib.encodeRune r = [239, 191, 189]) := by show _ = _; unfold Lib.encodeRune; rw [Lib.encodeRuneZ_bad h]; rfl
  have hk := conv3 239 191 189 (by omega) (by omega) (by omega) w
  rcases h with h | ⟨h, h'⟩ | h
  all_goals
    go_enter Tryz.func26, Tryz.ntmps26
    go_wp2
    go_ret
    rw [he.out]
    exact ⟨rfl, _, rfl⟩

/-- It makes one block. -/
theorem written_new (r : Int) (w : World) :
    Calls Tryz.prog 26 #[.int .i64 r] w fun e w' => e = .returned (.string ⟨(Lib.encodeRune r).toArray⟩) ∧ ∃ o, w' = w.alloc o := by
  by_cases a : 0 ≤ r ∧ r ≤ 127
  · exact written_one r a.1 a.2 w
  by_cases b : 128 ≤ r ∧ r ≤ 2047
  · exact written_two r b.1 b.2 w
  by_cases c : (2048 ≤ r ∧ r < 55296) ∨ (57343 < r ∧ r ≤ 65535)
  · exact written_three r c w
  by_cases d : 65536 ≤ r ∧ r ≤ 1114111
  · exact written_four r d.1 d.2 w
  · exact written_bad r (by omega) w
theorem written_any (r : Int) (w : World) :
    Calls Tryz.prog 26 #[.int .i64 r] w fun e w' => e = .returned (.string ⟨(Lib.encodeRune r).toArray⟩) ∧ Below w.heap.size w w' :=
  (written_new r w).mono fun e w' q => ⟨q.1, by obtain ⟨o, rfl⟩ := q.2; exact (Below.refl _ _).alloc (Nat.le_refl _) _⟩
end Go.Proofs.YtkdajaphbmclkaaGreatDoor

namespace Go.Proofs.YtkdajaphbmclkaaGreatDoor
open Go.RowKit
set_option linter.unusedVariables false

theorem byt_at (s : ByteArray) (i : Nat) (h : i < s.size) : byt s.data.toList i = (s[i]'h).toNat := by
  have := get_byt s 0 i
  simp only [Nat.zero_add, List.drop_zero] at this
  rw [← this]
  have e := get_at s i h
  simp only [Nat.add_zero] at e
  rw [e]

theorem len_data (s : ByteArray) : s.data.toList.length = s.size := by rw [Array.length_toList]; rfl

theorem byt_drop (l : List UInt8) (i k : Nat) : byt (l.drop i) k = byt l (i + k) := by
  unfold byt; rw [List.getD_eq_getElem?_getD, List.getD_eq_getElem?_getD, List.getElem?_drop]
theorem mor_drop (l : List UInt8) (i k lo hi : Nat) : mor (l.drop i) k lo hi = mor l (i + k) lo hi := by
  unfold mor
  rw [byt_drop, decide_eq_decide.2 (show k < (l.drop i).length ↔ i + k < l.length by rw [List.length_drop]; omega)]

set_option maxRecDepth 100000 in
set_option maxHeartbeats 400000 in
theorem more_is (s : ByteArray) (i lo hi : Int) (hi0 : 0 ≤ i) (hlo : 0 ≤ lo) (hlo1 : lo ≤ 255) (hhi : 0 ≤ hi) (hhi1 : hi ≤ 255) (b : Bool) (hb : mor s.data.toList i.toNat lo.toNat hi.toNat = b) (w : World) :
    Calls Tryz.prog 57 #[.string s, .int .i64 i, .int .u8 lo, .int .u8 hi] w fun e w' => e = .returned (.bool b) ∧ w' = w := by
  subst hb
  obtain ⟨i, rfl⟩ := Int.eq_ofNat_of_zero_le hi0
  obtain ⟨lo, rfl⟩ := Int.eq_ofNat_of_zero_le hlo
  obtain ⟨hi, rfl⟩ := Int.eq_ofNat_of_zero_le hhi
  simp only [Int.toNat_natCast]
  by_cases h1 : i < s.size
  · have hb := byt_at s i h1
    by_cases h2 : lo ≤ (s[i]'h1).toNat
    · have h2' : (lo : Int) ≤ ((s[i]'h1).toNat : Int) := by omega
      by_cases h3 : (s[i]'h1).toNat ≤ hi
      · have h3' : ((s[i]'h1).toNat : Int) ≤ (hi : Int) := by omega
        rw [(mor_iff _ _ _ _).2 ⟨by rw [len_data]; exact h1, by omega, by omega⟩]
        clear hb h2 h3
        go_enter Tryz.func57, Tryz.ntmps57
        go_wp2
        go_ret
        exact ⟨rfl, rfl⟩
      · have h3' : ¬ ((s[i]'h1).toNat : Int) ≤ (hi : Int) := by omega
        rw [(mor_false _ _ _ _).2 (by omega)]
        clear hb h2 h3
        go_enter Tryz.func57, Tryz.ntmps57
        go_wp2
        go_ret
        exact ⟨rfl, rfl⟩
    · have h2' : ¬ (lo : Int) ≤ ((s[i]'h1).toNat : Int) := by omega
      rw [(mor_false _ _ _ _).2 (by omega)]
      clear hb h2
      go_enter Tryz.func57, Tryz.ntmps57
      go_wp2
      go_ret
      exact ⟨rfl, rfl⟩
  · rw [(mor_false _ _ _ _).2 (by rw [len_data]; omega)]
    have h1' : ¬ (i : Int) < (s.size : Int) := by omega
    clear h1
    go_enter Tryz.func57, Tryz.ntmps57
    go_wp2
    go_ret
    exact ⟨rfl, rfl⟩

/-! What 'sequence' comes to, way by way. -/
theorem seq_ascii {l : List UInt8} (h : byt l 0 < 0x80) : seq l = 1 := by simp [seq, h]
theorem seq_out {l : List UInt8} (h0 : ¬ byt l 0 < 0x80) (h : byt l 0 < 0xC2 ∨ 0xF4 < byt l 0) : seq l = 0 := by simp [seq, h0, h]
theorem seq_first {l : List UInt8} (h0 : ¬ byt l 0 < 0x80) (hA : ¬ (byt l 0 < 0xC2 ∨ 0xF4 < byt l 0)) (h : mor l 1 (seqLo (byt l 0)) (seqHi (byt l 0)) = false) : seq l = 0 := by
  unfold seq; rw [if_neg h0, if_neg hA, if_pos h]
theorem seq_next {l : List UInt8} (h0 : ¬ byt l 0 < 0x80) (hA : ¬ (byt l 0 < 0xC2 ∨ 0xF4 < byt l 0)) (k : Nat) (hk : 2 ≤ k) (hn : k < seqN (byt l 0)) (h : mor l k 0x80 0xBF = false) : seq l = 0 := by
  have nb := n_bd (byt l 0)
  unfold seq; rw [if_neg h0, if_neg hA]
  by_cases a : mor l 1 (seqLo (byt l 0)) (seqHi (byt l 0)) = false
  · rw [if_pos a]
  · rw [if_neg a]
    obtain rfl | rfl : k = 2 ∨ k = 3 := by omega
    · rw [if_pos ⟨by omega, h⟩]
    · by_cases b : 2 < seqN (byt l 0) ∧ mor l 2 0x80 0xBF = false
      · rw [if_pos b]
      · rw [if_neg b, if_pos ⟨by omega, h⟩]
theorem seq_yes {l : List UInt8} (h0 : ¬ byt l 0 < 0x80) (hA : ¬ (byt l 0 < 0xC2 ∨ 0xF4 < byt l 0)) (h : mor l 1 (seqLo (byt l 0)) (seqHi (byt l 0)) = true) (hm : ∀ k, 2 ≤ k → k < seqN (byt l 0) → mor l k 0x80 0xBF = true) : seq l = seqN (byt l 0) := by
  unfold seq; rw [if_neg h0, if_neg hA, if_neg (by rw [h]; simp)]
  rw [if_neg, if_neg]
  · rintro ⟨a, b⟩; rw [hm 3 (by omega) a] at b; cases b
  · rintro ⟨a, b⟩; rw [hm 2 (by omega) a] at b; cases b

theorem beq_nat (c k : Nat) (b : Bool) (h : decide (c = k) = b) : ((c : Int) == (k : Int)) = b := by
  rw [← h, Bool.eq_iff_iff]; simp; omega

set_option maxRecDepth 100000 in
set_option maxHeartbeats 1000000 in
theorem sequence_A (s : ByteArray) (i : Nat) (h : i < s.size) (hs : s.size ≤ 70368744177664) (w : World)
    (h0 : ¬ (s[i]'h).toNat < 0x80) (hA : ¬ ((s[i]'h).toNat < 0xC2 ∨ 0xF4 < (s[i]'h).toNat)) (hc : (s[i]'h).toNat < 0xE0) :
    Calls Tryz.prog 41 #[.string s, .int .i64 i] w fun e w' => e = .returned (.int .i64 (seq (s.data.toList.drop i))) ∧ w' = w := by
  have hb0 : byt (s.data.toList.drop i) 0 = (s[i]'h).toNat := by rw [byt_drop]; exact byt_at s i h
  have H0 : Hid (¬ byt (s.data.toList.drop i) 0 < 0x80) := by rw [hb0]; exact h0
  have HA : Hid (¬ (byt (s.data.toList.drop i) 0 < 0xC2 ∨ 0xF4 < byt (s.data.toList.drop i) 0)) := by rw [hb0]; exact hA
  have CL : Hid (seqLo (byt (s.data.toList.drop i) 0) = 128 ∧ seqHi (byt (s.data.toList.drop i) 0) = 191 ∧ seqN (byt (s.data.toList.drop i) 0) = 2) := by
    rw [hb0]
    have x := lo_bd (s[i]'h).toNat; have y := hi_bd (s[i]'h).toNat; have z := n_bd (s[i]'h).toNat
    exact ⟨by omega, by omega, by omega⟩
  have q0 : ¬ ((s[i]'h).toNat : Int) < 128 := by omega
  have q1 : ¬ ((s[i]'h).toNat : Int) < 194 := by omega
  have q2 : ¬ (244 : Int) < ((s[i]'h).toNat : Int) := by omega
  have t0 : (((s[i]'h).toNat : Int) == 224) = false := beq_nat _ 224 _ (by simp; omega)
  have t1 : (((s[i]'h).toNat : Int) == 237) = false := beq_nat _ 237 _ (by simp; omega)
  have t2 : (((s[i]'h).toNat : Int) == 240) = false := beq_nat _ 240 _ (by simp; omega)
  have t3 : (((s[i]'h).toNat : Int) == 244) = false := beq_nat _ 244 _ (by simp; omega)
  have t4 : ¬ (224 : Int) ≤ ((s[i]'h).toNat : Int) := by omega
  have t5 : ¬ (240 : Int) ≤ ((s[i]'h).toNat : Int) := by omega
  have e1 : ((i : Int) + 1).toNat = i + 1 := by omega
  have E1 : Hid (((i : Int) + 1).toNat = i + 1) := e1
  clear hb0 h0 hA hc e1
  by_cases M : mor s.data.toList (i + 1) 128 191 = true
  · have HM : Hid (mor s.data.toList (i + 1) 128 191 = true) := M
    clear M
    go_enter Tryz.func41, Tryz.ntmps41
    go_wp2_with (go_at_call 57; refine (more_is s _ _ _ (by omega) (by omega) (by omega) (by omega) (by omega) true (by rw [E1.out]; exact HM.out) _).mono ?_; rintro e w' ⟨rfl, rfl⟩)
    go_loop [10] (fun t => ∃ k : Nat, 2 ≤ k ∧ k ≤ 2 ∧ t = .int .i64 k ∧ Hid (∀ j, 2 ≤ j → j < k → mor s.data.toList (i + j) 0x80 0xBF = true)) (fun t => 2 - (intOf t).toNat)
    case atStart => exact ⟨2, Nat.le_refl _, by omega, rfl, fun j a b => by omega⟩
    case round =>
      obtain ⟨k, hk2, hkn, rfl, hm⟩ := hrel
      by_cases hlt : k < 2
      · have hlt' : (k : Int) < 2 := by omega
        have ek : Hid (((i : Int) + (k : Int)).toNat = i + k) := by show _ = _; omega
        by_cases M2 : mor s.data.toList (i + k) 0x80 0xBF = true
        · have HM2 : Hid (mor s.data.toList (i + k) 0x80 0xBF = true) := M2
          clear M2 hlt
          go_wp2_with (go_at_call 57; refine (more_is s _ _ _ (by omega) (by omega) (by omega) (by omega) (by omega) true (by rw [ek.out]; exact HM2.out) _).mono ?_; rintro e w' ⟨rfl, rfl⟩)
          go_round
          case rel =>
            refine ⟨k + 1, by omega, by omega, by go_num, fun j a b => ?_⟩
            by_cases ej : j = k
            · subst ej; exact HM2.out
            · exact hm.out j a (by omega)
          case measure => simp [intOf]; omega
        · have HM2 : Hid (mor s.data.toList (i + k) 0x80 0xBF = false) := by show _ = _; simpa using M2
          clear M2
          go_wp2_with (go_at_call 57; refine (more_is s _ _ _ (by omega) (by omega) (by omega) (by omega) (by omega) false (by rw [ek.out]; exact HM2.out) _).mono ?_; rintro e w' ⟨rfl, rfl⟩)
          go_ret
          rw [seq_next H0.out HA.out k hk2 (by rw [CL.out.2.2]; omega) (by rw [mor_drop]; exact HM2.out)]
          exact ⟨rfl, rfl⟩
      · have hlt' : ¬ (k : Int) < 2 := by omega
        obtain rfl : k = 2 := by omega
        clear hlt hk2 hkn
        go_wp2
        go_ret
        rw [seq_yes H0.out HA.out (by rw [CL.out.1, CL.out.2.1, mor_drop]; exact HM.out) (fun j a b => by rw [mor_drop]; exact hm.out j a (by rw [CL.out.2.2] at b; exact b)), CL.out.2.2]
        exact ⟨rfl, rfl⟩
  · have HM : Hid (mor s.data.toList (i + 1) 128 191 = false) := by show _ = _; simpa using M
    clear M
    go_enter Tryz.func41, Tryz.ntmps41
    go_wp2_with (go_at_call 57; refine (more_is s _ _ _ (by omega) (by omega) (by omega) (by omega) (by omega) false (by rw [E1.out]; exact HM.out) _).mono ?_; rintro e w' ⟨rfl, rfl⟩)
    go_ret
    rw [seq_first H0.out HA.out (by rw [CL.out.1, CL.out.2.1, mor_drop]; exact HM.out)]
    exact ⟨rfl, rfl⟩

set_option maxRecDepth 100000 in
set_option maxHeartbeats 1000000 in
theorem sequence_B (s : ByteArray) (i : Nat) (h : i < s.size) (hs : s.size ≤ 70368744177664) (w : World)
    (h0 : ¬ (s[i]'h).toNat < 0x80) (hA : ¬ ((s[i]'h).toNat < 0xC2 ∨ 0xF4 < (s[i]'h).toNat)) (hc : (s[i]'h).toNat = 0xE0) :
    Calls Tryz.prog 41 #[.string s, .int .i64 i] w fun e w' => e = .returned (.int .i64 (seq (s.data.toList.drop i))) ∧ w' = w := by
  have hb0 : byt (s.data.toList.drop i) 0 = (s[i]'h).toNat := by rw [byt_drop]; exact byt_at s i h
  have H0 : Hid (¬ byt (s.data.toList.drop i) 0 < 0x80) := by rw [hb0]; exact h0
  have HA : Hid (¬ (byt (s.data.toList.drop i) 0 < 0xC2 ∨ 0xF4 < byt (s.data.toList.drop i) 0)) := by rw [hb0]; exact hA
  have CL : Hid (seqLo (byt (s.data.toList.drop i) 0) = 160 ∧ seqHi (byt (s.data.toList.drop i) 0) = 191 ∧ seqN (byt (s.data.toList.drop i) 0) = 3) := by
    rw [hb0]
    have x := lo_bd (s[i]'h).toNat; have y := hi_bd (s[i]'h).toNat; have z := n_bd (s[i]'h).toNat
    exact ⟨by omega, by omega, by omega⟩
  have q0 : ¬ ((s[i]'h).toNat : Int) < 128 := by omega
  have q1 : ¬ ((s[i]'h).toNat : Int) < 194 := by omega
  have q2 : ¬ (244 : Int) < ((s[i]'h).toNat : Int) := by omega
  have t0 : (((s[i]'h).toNat : Int) == 224) = true := beq_nat _ 224 _ (by simp; omega)
  have t1 : (((s[i]'h).toNat : Int) == 237) = false := beq_nat _ 237 _ (by simp; omega)
  have t2 : (((s[i]'h).toNat : Int) == 240) = false := beq_nat _ 240 _ (by simp; omega)
  have t3 : (((s[i]'h).toNat : Int) == 244) = false := beq_nat _ 244 _ (by simp; omega)
  have t4 : (224 : Int) ≤ ((s[i]'h).toNat : Int) := by omega
  have t5 : ¬ (240 : Int) ≤ ((s[i]'h).toNat : Int) := by omega
  have e1 : ((i : Int) + 1).toNat = i + 1 := by omega
  have E1 : Hid (((i : Int) + 1).toNat = i + 1) := e1
  clear hb0 h0 hA hc e1
  by_cases M : mor s.data.toList (i + 1) 160 191 = true
  · have HM : Hid (mor s.data.toList (i + 1) 160 191 = true) := M
    clear M
    go_enter Tryz.func41, Tryz.ntmps41
    go_wp2_with (go_at_call 57; refine (more_is s _ _ _ (by omega) (by omega) (by omega) (by omega) (by omega) true (by rw [E1.out]; exact HM.out) _).mono ?_; rintro e w' ⟨rfl, rfl⟩)
    go_loop [10] (fun t => ∃ k : Nat, 2 ≤ k ∧ k ≤ 3 ∧ t = .int .i64 k ∧ Hid (∀ j, 2 ≤ j → j < k → mor s.data.toList (i + j) 0x80 0xBF = true)) (fun t => 3 - (intOf t).toNat)
    case atStart => exact ⟨2, Nat.le_refl _, by omega, rfl, fun j a b => by omega⟩
    case round =>
      obtain ⟨k, hk2, hkn, rfl, hm⟩ := hrel
      by_cases hlt : k < 3
      · have hlt' : (k : Int) < 3 := by omega
        have ek : Hid (((i : Int) + (k : Int)).toNat = i + k) := by show _ = _; omega
        by_cases M2 : mor s.data.toList (i + k) 0x80 0xBF = true
        · have HM2 : Hid (mor s.data.toList (i + k) 0x80 0xBF = true) := M2
          clear M2 hlt
          go_wp2_with (go_at_call 57; refine (more_is s _ _ _ (by omega) (by omega) (by omega) (by omega) (by omega) true (by rw [ek.out]; exact HM2.out) _).mono ?_; rintro e w' ⟨rfl, rfl⟩)
          go_round
          case rel =>
            refine ⟨k + 1, by omega, by omega, by go_num, fun j a b => ?_⟩
            by_cases ej : j = k
            · subst ej; exact HM2.out
            · exact hm.out j a (by omega)
          case measure => simp [intOf]; omega
        · have HM2 : Hid (mor s.data.toList (i + k) 0x80 0xBF = false) := by show _ = _; simpa using M2
          clear M2
          go_wp2_with (go_at_call 57; refine (more_is s _ _ _ (by omega) (by omega) (by omega) (by omega) (by omega) false (by rw [ek.out]; exact HM2.out) _).mono ?_; rintro e w' ⟨rfl, rfl⟩)
          go_ret
          rw [seq_next H0.out HA.out k hk2 (by rw [CL.out.2.2]; omega) (by rw [mor_drop]; exact HM2.out)]
          exact ⟨rfl, rfl⟩
      · have hlt' : ¬ (k : Int) < 3 := by omega
        obtain rfl : k = 3 := by omega
        clear hlt hk2 hkn
        go_wp2
        go_ret
        rw [seq_yes H0.out HA.out (by rw [CL.out.1, CL.out.2.1, mor_drop]; exact HM.out) (fun j a b => by rw [mor_drop]; exact hm.out j a (by rw [CL.out.2.2] at b; exact b)), CL.out.2.2]
        exact ⟨rfl, rfl⟩
  · have HM : Hid (mor s.data.toList (i + 1) 160 191 = false) := by show _ = _; simpa using M
    clear M
    go_enter Tryz.func41, Tryz.ntmps41
    go_wp2_with (go_at_call 57; refine (more_is s _ _ _ (by omega) (by omega) (by omega) (by omega) (by omega) false (by rw [E1.out]; exact HM.out) _).mono ?_; rintro e w' ⟨rfl, rfl⟩)
    go_ret
    rw [seq_first H0.out HA.out (by rw [CL.out.1, CL.out.2.1, mor_drop]; exact HM.out)]
    exact ⟨rfl, rfl⟩

set_option maxRecDepth 100000 in
set_option maxHeartbeats 1000000 in
theorem sequence_C (s : ByteArray) (i : Nat) (h : i < s.size) (hs : s.size ≤ 70368744177664) (w : World)
    (h0 : ¬ (s[i]'h).toNat < 0x80) (hA : ¬ ((s[i]'h).toNat < 0xC2 ∨ 0xF4 < (s[i]'h).toNat)) (hc : 0xE0 < (s[i]'h).toNat ∧ (s[i]'h).toNat < 0xED) :
    Calls Tryz.prog 41 #[.string s, .int .i64 i] w fun e w' => e = .returned (.int .i64 (seq (s.data.toList.drop i))) ∧ w' = w := by
  have hb0 : byt (s.data.toList.drop i) 0 = (s[i]'h).toNat := by rw [byt_drop]; exact byt_at s i h
  have H0 : Hid (¬ byt (s.data.toList.drop i) 0 < 0x80) := by rw [hb0]; exact h0
  have HA : Hid (¬ (byt (s.data.toList.drop i) 0 < 0xC2 ∨ 0xF4 < byt (s.data.toList.drop i) 0)) := by rw [hb0]; exact hA
  have CL : Hid (seqLo (byt (s.data.toList.drop i) 0) = 128 ∧ seqHi (byt (s.data.toList.drop i) 0) = 191 ∧ seqN (byt (s.data.toList.drop i) 0) = 3) := by
    rw [hb0]
    have x := lo_bd (s[i]'h).toNat; have y := hi_bd (s[i]'h).toNat; have z := n_bd (s[i]'h).toNat
    exact ⟨by omega, by omega, by omega⟩
  have q0 : ¬ ((s[i]'h).toNat : Int) < 128 := by omega
  have q1 : ¬ ((s[i]'h).toNat : Int) < 194 := by omega
  have q2 : ¬ (244 : Int) < ((s[i]'h).toNat : Int) := by omega
  have t0 : (((s[i]'h).toNat : Int) == 224) = false := beq_nat _ 224 _ (by simp; omega)
  have t1 : (((s[i]'h).toNat : Int) == 237) = false := beq_nat _ 237 _ (by simp; omega)
  have t2 : (((s[i]'h).toNat : Int) == 240) = false := beq_nat _ 240 _ (by simp; omega)
  have t3 : (((s[i]'h).toNat : Int) == 244) = false := beq_nat _ 244 _ (by simp; omega)
  have t4 : (224 : Int) ≤ ((s[i]'h).toNat : Int) := by omega
  have t5 : ¬ (240 : Int) ≤ ((s[i]'h).toNat : Int) := by omega
  have e1 : ((i : Int) + 1).toNat = i + 1 := by omega
  have E1 : Hid (((i : Int) + 1).toNat = i + 1) := e1
  clear hb0 h0 hA hc e1
  by_cases M : mor s.data.toList (i + 1) 128 191 = true
  · have HM : Hid (mor s.data.toList (i + 1) 128 191 = true) := M
    clear M
    go_enter Tryz.func41, Tryz.ntmps41
    go_wp2_with (go_at_call 57; refine (more_is s _ _ _ (by omega) (by omega) (by omega) (by omega) (by omega) true (by rw [E1.out]; exact HM.out) _).mono ?_; rintro e w' ⟨rfl, rfl⟩)
    go_loop [10] (fun t => ∃ k : Nat, 2 ≤ k ∧ k ≤ 3 ∧ t = .int .i64 k ∧ Hid (∀ j, 2 ≤ j → j < k → mor s.data.toList (i + j) 0x80 0xBF = true)) (fun t => 3 - (intOf t).toNat)
    case atStart => exact ⟨2, Nat.le_refl _, by omega, rfl, fun j a b => by omega⟩
    case round =>
      obtain ⟨k, hk2, hkn, rfl, hm⟩ := hrel
      by_cases hlt : k < 3
      · have hlt' : (k : Int) < 3 := by omega
        have ek : Hid (((i : Int) + (k : Int)).toNat = i + k) := by show _ = _; omega
        by_cases M2 : mor s.data.toList (i + k) 0x80 0xBF = true
        · have HM2 : Hid (mor s.data.toList (i + k) 0x80 0xBF = true) := M2
          clear M2 hlt
          go_wp2_with (go_at_call 57; refine (more_is s _ _ _ (by omega) (by omega) (by omega) (by omega) (by omega) true (by rw [ek.out]; exact HM2.out) _).mono ?_; rintro e w' ⟨rfl, rfl⟩)
          go_round
          case rel =>
            refine ⟨k + 1, by omega, by omega, by go_num, fun j a b => ?_⟩
            by_cases ej : j = k
            · subst ej; exact HM2.out
            · exact hm.out j a (by omega)
          case measure => simp [intOf]; omega
        · have HM2 : Hid (mor s.data.toList (i + k) 0x80 0xBF = false) := by show _ = _; simpa using M2
          clear M2
          go_wp2_with (go_at_call 57; refine (more_is s _ _ _ (by omega) (by omega) (by omega) (by omega) (by omega) false (by rw [ek.out]; exact HM2.out) _).mono ?_; rintro e w' ⟨rfl, rfl⟩)
          go_ret
          rw [seq_next H0.out HA.out k hk2 (by rw [CL.out.2.2]; omega) (by rw [mor_drop]; exact HM2.out)]
          exact ⟨rfl, rfl⟩
      · have hlt' : ¬ (k : Int) < 3 := by omega
        obtain rfl : k = 3 := by omega
        clear hlt hk2 hkn
        go_wp2
        go_ret
        rw [seq_yes H0.out HA.out (by rw [CL.out.1, CL.out.2.1, mor_drop]; exact HM.out) (fun j a b => by rw [mor_drop]; exact hm.out j a (by rw [CL.out.2.2] at b; exact b)), CL.out.2.2]
        exact ⟨rfl, rfl⟩
  · have HM : Hid (mor s.data.toList (i + 1) 128 191 = false) := by show _ = _; simpa using M
    clear M
    go_enter Tryz.func41, Tryz.ntmps41
    go_wp2_with (go_at_call 57; refine (more_is s _ _ _ (by omega) (by omega) (by omega) (by omega) (by omega) false (by rw [E1.out]; exact HM.out) _).mono ?_; rintro e w' ⟨rfl, rfl⟩)
    go_ret
    rw [seq_first H0.out HA.out (by rw [CL.out.1, CL.out.2.1, mor_drop]; exact HM.out)]
    exact ⟨rfl, rfl⟩

set_option maxRecDepth 100000 in
set_option maxHeartbeats 1000000 in
theorem sequence_D (s : ByteArray) (i : Nat) (h : i < s.size) (hs : s.size ≤ 70368744177664) (w : World)
    (h0 : ¬ (s[i]'h).toNat < 0x80) (hA : ¬ ((s[i]'h).toNat < 0xC2 ∨ 0xF4 < (s[i]'h).toNat)) (hc : (s[i]'h).toNat = 0xED) :
    Calls Tryz.prog 41 #[.string s, .int .i64 i] w fun e w' => e = .returned (.int .i64 (seq (s.data.toList.drop i))) ∧ w' = w := by
  have hb0 : byt (s.data.toList.drop i) 0 = (s[i]'h).toNat := by rw [byt_drop]; exact byt_at s i h
  have H0 : Hid (¬ byt (s.data.toList.drop i) 0 < 0x80) := by rw [hb0]; exact h0
  have HA : Hid (¬ (byt (s.data.toList.drop i) 0 < 0xC2 ∨ 0xF4 < byt (s.data.toList.drop i) 0)) := by rw [hb0]; exact hA
  have CL : Hid (seqLo (byt (s.data.toList.drop i) 0) = 128 ∧ seqHi (byt (s.data.toList.drop i) 0) = 159 ∧ seqN (byt (s.data.toList.drop i) 0) = 3) := by
    rw [hb0]
    have x := lo_bd (s[i]'h).toNat; have y := hi_bd (s[i]'h).toNat; have z := n_bd (s[i]'h).toNat
    exact ⟨by omega, by omega, by omega⟩
  have q0 : ¬ ((s[i]'h).toNat : Int) < 128 := by omega
  have q1 : ¬ ((s[i]'h).toNat : Int) < 194 := by omega
  have q2 : ¬ (244 : Int) < ((s[i]'h).toNat : Int) := by omega
  have t0 : (((s[i]'h).toNat : Int) == 224) = false := beq_nat _ 224 _ (by simp; omega)
  have t1 : (((s[i]'h).toNat : Int) == 237) = true := beq_nat _ 237 _ (by simp; omega)
  have t2 : (((s[i]'h).toNat : Int) == 240) = false := beq_nat _ 240 _ (by simp; omega)
  have t3 : (((s[i]'h).toNat : Int) == 244) = false := beq_nat _ 244 _ (by simp; omega)
  have t4 : (224 : Int) ≤ ((s[i]'h).toNat : Int) := by omega
  have t5 : ¬ (240 : Int) ≤ ((s[i]'h).toNat : Int) := by omega
  have e1 : ((i : Int) + 1).toNat = i + 1 := by omega
  have E1 : Hid (((i : Int) + 1).toNat = i + 1) := e1
  clear hb0 h0 hA hc e1
  by_cases M : mor s.data.toList (i + 1) 128 159 = true
  · have HM : Hid (mor s.data.toList (i + 1) 128 159 = true) := M
    clear M
    go_enter Tryz.func41, Tryz.ntmps41
    go_wp2_with (go_at_call 57; refine (more_is s _ _ _ (by omega) (by omega) (by omega) (by omega) (by omega) true (by rw [E1.out]; exact HM.out) _).mono ?_; rintro e w' ⟨rfl, rfl⟩)
    go_loop [10] (fun t => ∃ k : Nat, 2 ≤ k ∧ k ≤ 3 ∧ t = .int .i64 k ∧ Hid (∀ j, 2 ≤ j → j < k → mor s.data.toList (i + j) 0x80 0xBF = true)) (fun t => 3 - (intOf t).toNat)
    case atStart => exact ⟨2, Nat.le_refl _, by omega, rfl, fun j a b => by omega⟩
    case round =>
      obtain ⟨k, hk2, hkn, rfl, hm⟩ := hrel
      by_cases hlt : k < 3
      · have hlt' : (k : Int) < 3 := by omega
        have ek : Hid (((i : Int) + (k : Int)).toNat = i + k) := by show _ = _; omega
        by_cases M2 : mor s.data.toList (i + k) 0x80 0xBF = true
        · have HM2 : Hid (mor s.data.toList (i + k) 0x80 0xBF = true) := M2
          clear M2 hlt
          go_wp2_with (go_at_call 57; refine (more_is s _ _ _ (by omega) (by omega) (by omega) (by omega) (by omega) true (by rw [ek.out]; exact HM2.out) _).mono ?_; rintro e w' ⟨rfl, rfl⟩)
          go_round
          case rel =>
            refine ⟨k + 1, by omega, by omega, by go_num, fun j a b => ?_⟩
            by_cases ej : j = k
            · subst ej; exact HM2.out
            · exact hm.out j a (by omega)
          case measure => simp [intOf]; omega
        · have HM2 : Hid (mor s.data.toList (i + k) 0x80 0xBF = false) := by show _ = _; simpa using M2
          clear M2
          go_wp2_with (go_at_call 57; refine (more_is s _ _ _ (by omega) (by omega) (by omega) (by omega) (by omega) false (by rw [ek.out]; exact HM2.out) _).mono ?_; rintro e w' ⟨rfl, rfl⟩)
          go_ret
          rw [seq_next H0.out HA.out k hk2 (by rw [CL.out.2.2]; omega) (by rw [mor_drop]; exact HM2.out)]
          exact ⟨rfl, rfl⟩
      · have hlt' : ¬ (k : Int) < 3 := by omega
        obtain rfl : k = 3 := by omega
        clear hlt hk2 hkn
        go_wp2
        go_ret
        rw [seq_yes H0.out HA.out (by rw [CL.out.1, CL.out.2.1, mor_drop]; exact HM.out) (fun j a b => by rw [mor_drop]; exact hm.out j a (by rw [CL.out.2.2] at b; exact b)), CL.out.2.2]
        exact ⟨rfl, rfl⟩
  · have HM : Hid (mor s.data.toList (i + 1) 128 159 = false) := by show _ = _; simpa using M
    clear M
    go_enter Tryz.func41, Tryz.ntmps41
    go_wp2_with (go_at_call 57; refine (more_is s _ _ _ (by omega) (by omega) (by omega) (by omega) (by omega) false (by rw [E1.out]; exact HM.out) _).mono ?_; rintro e w' ⟨rfl, rfl⟩)
    go_ret
    rw [seq_first H0.out HA.out (by rw [CL.out.1, CL.out.2.1, mor_drop]; exact HM.out)]
    exact ⟨rfl, rfl⟩

set_option maxRecDepth 100000 in
set_option maxHeartbeats 1000000 in
theorem sequence_E (s : ByteArray) (i : Nat) (h : i < s.size) (hs : s.size ≤ 70368744177664) (w : World)
    (h0 : ¬ (s[i]'h).toNat < 0x80) (hA : ¬ ((s[i]'h).toNat < 0xC2 ∨ 0xF4 < (s[i]'h).toNat)) (hc : 0xED < (s[i]'h).toNat ∧ (s[i]'h).toNat < 0xF0) :
    Calls Tryz.prog 41 #[.string s, .int .i64 i] w fun e w' => e = .returned (.int .i64 (seq (s.data.toList.drop i))) ∧ w' = w := by
  have hb0 : byt (s.data.toList.drop i) 0 = (s[i]'h).toNat := by rw [byt_drop]; exact byt_at s i h
  have H0 : Hid (¬ byt (s.data.toList.drop i) 0 < 0x80) := by rw [hb0]; exact h0
  have HA : Hid (¬ (byt (s.data.toList.drop i) 0 < 0xC2 ∨ 0xF4 < byt (s.data.toList.drop i) 0)) := by rw [hb0]; exact hA
  have CL : Hid (seqLo (byt (s.data.toList.drop i) 0) = 128 ∧ seqHi (byt (s.data.toList.drop i) 0) = 191 ∧ seqN (byt (s.data.toList.drop i) 0) = 3) := by
    rw [hb0]
    have x := lo_bd (s[i]'h).toNat; have y := hi_bd (s[i]'h).toNat; have z := n_bd (s[i]'h).toNat
    exact ⟨by omega, by omega, by omega⟩
  have q0 : ¬ ((s[i]'h).toNat : Int) < 128 := by omega
  have q1 : ¬ ((s[i]'h).toNat : Int) < 194 := by omega
  have q2 : ¬ (244 : Int) < ((s[i]'h).toNat : Int) := by omega
  have t0 : (((s[i]'h).toNat : Int) == 224) = false := beq_nat _ 224 _ (by simp; omega)
  have t1 : (((s[i]'h).toNat : Int) == 237) = false := beq_nat _ 237 _ (by simp; omega)
  have t2 : (((s[i]'h).toNat : Int) == 240) = false := beq_nat _ 240 _ (by simp; omega)
  have t3 : (((s[i]'h).toNat : Int) == 244) = false := beq_nat _ 244 _ (by simp; omega)
  have t4 : (224 : Int) ≤ ((s[i]'h).toNat : Int) := by omega
  have t5 : ¬ (240 : Int) ≤ ((s[i]'h).toNat : Int) := by omega
  have e1 : ((i : Int) + 1).toNat = i + 1 := by omega
  have E1 : Hid (((i : Int) + 1).toNat = i + 1) := e1
  clear hb0 h0 hA hc e1
  by_cases M : mor s.data.toList (i + 1) 128 191 = true
  · have HM : Hid (mor s.data.toList (i + 1) 128 191 = true) := M
    clear M
    go_enter Tryz.func41, Tryz.ntmps41
    go_wp2_with (go_at_call 57; refine (more_is s _ _ _ (by omega) (by omega) (by omega) (by omega) (by omega) true (by rw [E1.out]; exact HM.out) _).mono ?_; rintro e w' ⟨rfl, rfl⟩)
    go_loop [10] (fun t => ∃ k : Nat, 2 ≤ k ∧ k ≤ 3 ∧ t = .int .i64 k ∧ Hid (∀ j, 2 ≤ j → j < k → mor s.data.toList (i + j) 0x80 0xBF = true)) (fun t => 3 - (intOf t).toNat)
    case atStart => exact ⟨2, Nat.le_refl _, by omega, rfl, fun j a b => by omega⟩
    case round =>
      obtain ⟨k, hk2, hkn, rfl, hm⟩ := hrel
      by_cases hlt : k < 3
      · have hlt' : (k : Int) < 3 := by omega
        have ek : Hid (((i : Int) + (k : Int)).toNat = i + k) := by show _ = _; omega
        by_cases M2 : mor s.data.toList (i + k) 0x80 0xBF = true
        · have HM2 : Hid (mor s.data.toList (i + k) 0x80 0xBF = true) := M2
          clear M2 hlt
          go_wp2_with (go_at_call 57; refine (more_is s _ _ _ (by omega) (by omega) (by omega) (by omega) (by omega) true (by rw [ek.out]; exact HM2.out) _).mono ?_; rintro e w' ⟨rfl, rfl⟩)
          go_round
          case rel =>
            refine ⟨k + 1, by omega, by omega, by go_num, fun j a b => ?_⟩
            by_cases ej : j = k
            · subst ej; exact HM2.out
            · exact hm.out j a (by omega)
          case measure => simp [intOf]; omega
        · have HM2 : Hid (mor s.data.toList (i + k) 0x80 0xBF = false) := by show _ = _; simpa using M2
          clear M2
          go_wp2_with (go_at_call 57; refine (more_is s _ _ _ (by omega) (by omega) (by omega) (by omega) (by omega) false (by rw [ek.out]; exact HM2.out) _).mono ?_; rintro e w' ⟨rfl, rfl⟩)
          go_ret
          rw [seq_next H0.out HA.out k hk2 (by rw [CL.out.2.2]; omega) (by rw [mor_drop]; exact HM2.out)]
          exact ⟨rfl, rfl⟩
      · have hlt' : ¬ (k : Int) < 3 := by omega
        obtain rfl : k = 3 := by omega
        clear hlt hk2 hkn
        go_wp2
        go_ret
        rw [seq_yes H0.out HA.out (by rw [CL.out.1, CL.out.2.1, mor_drop]; exact HM.out) (fun j a b => by rw [mor_drop]; exact hm.out j a (by rw [CL.out.2.2] at b; exact b)), CL.out.2.2]
        exact ⟨rfl, rfl⟩
  · have HM : Hid (mor s.data.toList (i + 1) 128 191 = false) := by show _ = _; simpa using M
    clear M
    go_enter Tryz.func41, Tryz.ntmps41
    go_wp2_with (go_at_call 57; refine (more_is s _ _ _ (by omega) (by omega) (by omega) (by omega) (by omega) false (by rw [E1.out]; exact HM.out) _).mono ?_; rintro e w' ⟨rfl, rfl⟩)
    go_ret
    rw [seq_first H0.out HA.out (by rw [CL.out.1, CL.out.2.1, mor_drop]; exact HM.out)]
    exact ⟨rfl, rfl⟩

set_option maxRecDepth 100000 in
set_option maxHeartbeats 1000000 in
theorem sequence_F (s : ByteArray) (i : Nat) (h : i < s.size) (hs : s.size ≤ 70368744177664) (w : World)
    (h0 : ¬ (s[i]'h).toNat < 0x80) (hA : ¬ ((s[i]'h).toNat < 0xC2 ∨ 0xF4 < (s[i]'h).toNat)) (hc : (s[i]'h).toNat = 0xF0) :
    Calls Tryz.prog 41 #[.string s, .int .i64 i] w fun e w' => e = .returned (.int .i64 (seq (s.data.toList.drop i))) ∧ w' = w := by
  have hb0 : byt (s.data.toList.drop i) 0 = (s[i]'h).toNat := by rw [byt_drop]; exact byt_at s i h
  have H0 : Hid (¬ byt (s.data.toList.drop i) 0 < 0x80) := by rw [hb0]; exact h0
  have HA : Hid (¬ (byt (s.data.toList.drop i) 0 < 0xC2 ∨ 0xF4 < byt (s.data.toList.drop i) 0)) := by rw [hb0]; exact hA
  have CL : Hid (seqLo (byt (s.data.toList.drop i) 0) = 144 ∧ seqHi (byt (s.data.toList.drop i) 0) = 191 ∧ seqN (byt (s.data.toList.drop i) 0) = 4) := by
    rw [hb0]
    have x := lo_bd (s[i]'h).toNat; have y := hi_bd (s[i]'h).toNat; have z := n_bd (s[i]'h).toNat
    exact ⟨by omega, by omega, by omega⟩
  have q0 : ¬ ((s[i]'h).toNat : Int) < 128 := by omega
  have q1 : ¬ ((s[i]'h).toNat : Int) < 194 := by omega
  have q2 : ¬ (244 : Int) < ((s[i]'h).toNat : Int) := by omega
  have t0 : (((s[i]'h).toNat : Int) == 224) = false := beq_nat _ 224 _ (by simp; omega)
  have t1 : (((s[i]'h).toNat : Int) == 237) = false := beq_nat _ 237 _ (by simp; omega)
  have t2 : (((s[i]'h).toNat : Int) == 240) = true := beq_nat _ 240 _ (by simp; omega)
  have t3 : (((s[i]'h).toNat : Int) == 244) = false := beq_nat _ 244 _ (by simp; omega)
  have t4 : (224 : Int) ≤ ((s[i]'h).toNat : Int) := by omega
  have t5 : (240 : Int) ≤ ((s[i]'h).toNat : Int) := by omega
  have e1 : ((i : Int) + 1).toNat = i + 1 := by omega
  have E1 : Hid (((i : Int) + 1).toNat = i + 1) := e1
  clear hb0 h0 hA hc e1
  by_cases M : mor s.data.toList (i + 1) 144 191 = true
  · have HM : Hid (mor s.data.toList (i + 1) 144 191 = true) := M
    clear M
    go_enter Tryz.func41, Tryz.ntmps41
    go_wp2_with (go_at_call 57; refine (more_is s _ _ _ (by omega) (by omega) (by omega) (by omega) (by omega) true (by rw [E1.out]; exact HM.out) _).mono ?_; rintro e w' ⟨rfl, rfl⟩)
    go_loop [10] (fun t => ∃ k : Nat, 2 ≤ k ∧ k ≤ 4 ∧ t = .int .i64 k ∧ Hid (∀ j, 2 ≤ j → j < k → mor s.data.toList (i + j) 0x80 0xBF = true)) (fun t => 4 - (intOf t).toNat)
    case atStart => exact ⟨2, Nat.le_refl _, by omega, rfl, fun j a b => by omega⟩
    case round =>
      obtain ⟨k, hk2, hkn, rfl, hm⟩ := hrel
      by_cases hlt : k < 4
      · have hlt' : (k : Int) < 4 := by omega
        have ek : Hid (((i : Int) + (k : Int)).toNat = i + k) := by show _ = _; omega
        by_cases M2 : mor s.data.toList (i + k) 0x80 0xBF = true
        · have HM2 : Hid (mor s.data.toList (i + k) 0x80 0xBF = true) := M2
          clear M2 hlt
          go_wp2_with (go_at_call 57; refine (more_is s _ _ _ (by omega) (by omega) (by omega) (by omega) (by omega) true (by rw [ek.out]; exact HM2.out) _).mono ?_; rintro e w' ⟨rfl, rfl⟩)
          go_round
          case rel =>
            refine ⟨k + 1, by omega, by omega, by go_num, fun j a b => ?_⟩
            by_cases ej : j = k
            · subst ej; exact HM2.out
            · exact hm.out j a (by omega)
          case measure => simp [intOf]; omega
        · have HM2 : Hid (mor s.data.toList (i + k) 0x80 0xBF = false) := by show _ = _; simpa using M2
          clear M2
          go_wp2_with (go_at_call 57; refine (more_is s _ _ _ (by omega) (by omega) (by omega) (by omega) (by omega) false (by rw [ek.out]; exact HM2.out) _).mono ?_; rintro e w' ⟨rfl, rfl⟩)
          go_ret
          rw [seq_next H0.out HA.out k hk2 (by rw [CL.out.2.2]; omega) (by rw [mor_drop]; exact HM2.out)]
          exact ⟨rfl, rfl⟩
      · have hlt' : ¬ (k : Int) < 4 := by omega
        obtain rfl : k = 4 := by omega
        clear hlt hk2 hkn
        go_wp2
        go_ret
        rw [seq_yes H0.out HA.out (by rw [CL.out.1, CL.out.2.1, mor_drop]; exact HM.out) (fun j a b => by rw [mor_drop]; exact hm.out j a (by rw [CL.out.2.2] at b; exact b)), CL.out.2.2]
        exact ⟨rfl, rfl⟩
  · have HM : Hid (mor s.data.toList (i + 1) 144 191 = false) := by show _ = _; simpa using M
    clear M
    go_enter Tryz.func41, Tryz.ntmps41
    go_wp2_with (go_at_call 57; refine (more_is s _ _ _ (by omega) (by omega) (by omega) (by omega) (by omega) false (by rw [E1.out]; exact HM.out) _).mono ?_; rintro e w' ⟨rfl, rfl⟩)
    go_ret
    rw [seq_first H0.out HA.out (by rw [CL.out.1, CL.out.2.1, mor_drop]; exact HM.out)]
    exact ⟨rfl, rfl⟩

set_option maxRecDepth 100000 in
set_option maxHeartbeats 1000000 in
theorem sequence_G (s : ByteArray) (i : Nat) (h : i < s.size) (hs : s.size ≤ 70368744177664) (w : World)
    (h0 : ¬ (s[i]'h).toNat < 0x80) (hA : ¬ ((s[i]'h).toNat < 0xC2 ∨ 0xF4 < (s[i]'h).toNat)) (hc : 0xF0 < (s[i]'h).toNat ∧ (s[i]'h).toNat < 0xF4) :
    Calls Tryz.prog 41 #[.string s, .int .i64 i] w fun e w' => e = .returned (.int .i64 (seq (s.data.toList.drop i))) ∧ w' = w := by
  have hb0 : byt (s.data.toList.drop i) 0 = (s[i]'h).toNat := by rw [byt_drop]; exact byt_at s i h
  have H0 : Hid (¬ byt (s.data.toList.drop i) 0 < 0x80) := by rw [hb0]; exact h0
  have HA : Hid (¬ (byt (s.data.toList.drop i) 0 < 0xC2 ∨ 0xF4 < byt (s.data.toList.drop i) 0)) := by rw [hb0]; exact hA
  have CL : Hid (seqLo (byt (s.data.toList.drop i) 0) = 128 ∧ seqHi (byt (s.data.toList.drop i) 0) = 191 ∧ seqN (byt (s.data.toList.drop i) 0) = 4) := by
    rw [hb0]
    have x := lo_bd (s[i]'h).toNat; have y := hi_bd (s[i]'h).toNat; have z := n_bd (s[i]'h).toNat
    exact ⟨by omega, by omega, by omega⟩
  have q0 : ¬ ((s[i]'h).toNat : Int) < 128 := by omega
  have q1 : ¬ ((s[i]'h).toNat : Int) < 194 := by omega
  have q2 : ¬ (244 : Int) < ((s[i]'h).toNat : Int) := by omega
  have t0 : (((s[i]'h).toNat : Int) == 224) = false := beq_nat _ 224 _ (by simp; omega)
  have t1 : (((s[i]'h).toNat : Int) == 237) = false := beq_nat _ 237 _ (by simp; omega)
  have t2 : (((s[i]'h).toNat : Int) == 240) = false := beq_nat _ 240 _ (by simp; omega)
  have t3 : (((s[i]'h).toNat : Int) == 244) = false := beq_nat _ 244 _ (by simp; omega)
  have t4 : (224 : Int) ≤ ((s[i]'h).toNat : Int) := by omega
  have t5 : (240 : Int) ≤ ((s[i]'h).toNat : Int) := by omega
  have e1 : ((i : Int) + 1).toNat = i + 1 := by omega
  have E1 : Hid (((i : Int) + 1).toNat = i + 1) := e1
  clear hb0 h0 hA hc e1
  by_cases M : mor s.data.toList (i + 1) 128 191 = true
  · have HM : Hid (mor s.data.toList (i + 1) 128 191 = true) := M
    clear M
    go_enter Tryz.func41, Tryz.ntmps41
    go_wp2_with (go_at_call 57; refine (more_is s _ _ _ (by omega) (by omega) (by omega) (by omega) (by omega) true (by rw [E1.out]; exact HM.out) _).mono ?_; rintro e w' ⟨rfl, rfl⟩)
    go_loop [10] (fun t => ∃ k : Nat, 2 ≤ k ∧ k ≤ 4 ∧ t = .int .i64 k ∧ Hid (∀ j, 2 ≤ j → j < k → mor s.data.toList (i + j) 0x80 0xBF = true)) (fun t => 4 - (intOf t).toNat)
    case atStart => exact ⟨2, Nat.le_refl _, by omega, rfl, fun j a b => by omega⟩
    case round =>
      obtain ⟨k, hk2, hkn, rfl, hm⟩ := hrel
      by_cases hlt : k < 4
      · have hlt' : (k : Int) < 4 := by omega
        have ek : Hid (((i : Int) + (k : Int)).toNat = i + k) := by show _ = _; omega
        by_cases M2 : mor s.data.toList (i + k) 0x80 0xBF = true
        · have HM2 : Hid (mor s.data.toList (i + k) 0x80 0xBF = true) := M2
          clear M2 hlt
          go_wp2_with (go_at_call 57; refine (more_is s _ _ _ (by omega) (by omega) (by omega) (by omega) (by omega) true (by rw [ek.out]; exact HM2.out) _).mono ?_; rintro e w' ⟨rfl, rfl⟩)
          go_round
          case rel =>
            refine ⟨k + 1, by omega, by omega, by go_num, fun j a b => ?_⟩
            by_cases ej : j = k
            · subst ej; exact HM2.out
            · exact hm.out j a (by omega)
          case measure => simp [intOf]; omega
        · have HM2 : Hid (mor s.data.toList (i + k) 0x80 0xBF = false) := by show _ = _; simpa using M2
          clear M2
          go_wp2_with (go_at_call 57; refine (more_is s _ _ _ (by omega) (by omega) (by omega) (by omega) (by omega) false (by rw [ek.out]; exact HM2.out) _).mono ?_; rintro e w' ⟨rfl, rfl⟩)
          go_ret
          rw [seq_next H0.out HA.out k hk2 (by rw [CL.out.2.2]; omega) (by rw [mor_drop]; exact HM2.out)]
          exact ⟨rfl, rfl⟩
      · have hlt' : ¬ (k : Int) < 4 := by omega
        obtain rfl : k = 4 := by omega
        clear hlt hk2 hkn
        go_wp2
        go_ret
        rw [seq_yes H0.out HA.out (by rw [CL.out.1, CL.out.2.1, mor_drop]; exact HM.out) (fun j a b => by rw [mor_drop]; exact hm.out j a (by rw [CL.out.2.2] at b; exact b)), CL.out.2.2]
        exact ⟨rfl, rfl⟩
  · have HM : Hid (mor s.data.toList (i + 1) 128 191 = false) := by show _ = _; simpa using M
    clear M
    go_enter Tryz.func41, Tryz.ntmps41
    go_wp2_with (go_at_call 57; refine (more_is s _ _ _ (by omega) (by omega) (by omega) (by omega) (by omega) false (by rw [E1.out]; exact HM.out) _).mono ?_; rintro e w' ⟨rfl, rfl⟩)
    go_ret
    rw [seq_first H0.out HA.out (by rw [CL.out.1, CL.out.2.1, mor_drop]; exact HM.out)]
    exact ⟨rfl, rfl⟩

set_option maxRecDepth 100000 in
set_option maxHeartbeats 1000000 in
theorem sequence_H (s : ByteArray) (i : Nat) (h : i < s.size) (hs : s.size ≤ 70368744177664) (w : World)
    (h0 : ¬ (s[i]'h).toNat < 0x80) (hA : ¬ ((s[i]'h).toNat < 0xC2 ∨ 0xF4 < (s[i]'h).toNat)) (hc : (s[i]'h).toNat = 0xF4) :
    Calls Tryz.prog 41 #[.string s, .int .i64 i] w fun e w' => e = .returned (.int .i64 (seq (s.data.toList.drop i))) ∧ w' = w := by
  have hb0 : byt (s.data.toList.drop i) 0 = (s[i]'h).toNat := by rw [byt_drop]; exact byt_at s i h
  have H0 : Hid (¬ byt (s.data.toList.drop i) 0 < 0x80) := by rw [hb0]; exact h0
  have HA : Hid (¬ (byt (s.data.toList.drop i) 0 < 0xC2 ∨ 0xF4 < byt (s.data.toList.drop i) 0)) := by rw [hb0]; exact hA
  have CL : Hid (seqLo (byt (s.data.toList.drop i) 0) = 128 ∧ seqHi (byt (s.data.toList.drop i) 0) = 143 ∧ seqN (byt (s.data.toList.drop i) 0) = 4) := by
    rw [hb0]
    have x := lo_bd (s[i]'h).toNat; have y := hi_bd (s[i]'h).toNat; have z := n_bd (s[i]'h).toNat
    exact ⟨by omega, by omega, by omega⟩
  have q0 : ¬ ((s[i]'h).toNat : Int) < 128 := by omega
  have q1 : ¬ ((s[i]'h).toNat : Int) < 194 := by omega
  have q2 : ¬ (244 : Int) < ((s[i]'h).toNat : Int) := by omega
  have t0 : (((s[i]'h).toNat : Int) == 224) = false := beq_nat _ 224 _ (by simp; omega)
  have t1 : (((s[i]'h).toNat : Int) == 237) = false := beq_nat _ 237 _ (by simp; omega)
  have t2 : (((s[i]'h).toNat : Int) == 240) = false := beq_nat _ 240 _ (by simp; omega)
  have t3 : (((s[i]'h).toNat : Int) == 244) = true := beq_nat _ 244 _ (by simp; omega)
  have t4 : (224 : Int) ≤ ((s[i]'h).toNat : Int) := by omega
  have t5 : (240 : Int) ≤ ((s[i]'h).toNat : Int) := by omega
  have e1 : ((i : Int) + 1).toNat = i + 1 := by omega
  have E1 : Hid (((i : Int) + 1).toNat = i + 1) := e1
  clear hb0 h0 hA hc e1
  by_cases M : mor s.data.toList (i + 1) 128 143 = true
  · have HM : Hid (mor s.data.toList (i + 1) 128 143 = true) := M
    clear M
    go_enter Tryz.func41, Tryz.ntmps41
    go_wp2_with (go_at_call 57; refine (more_is s _ _ _ (by omega) (by omega) (by omega) (by omega) (by omega) true (by rw [E1.out]; exact HM.out) _).mono ?_; rintro e w' ⟨rfl, rfl⟩)
    go_loop [10] (fun t => ∃ k : Nat, 2 ≤ k ∧ k ≤ 4 ∧ t = .int .i64 k ∧ Hid (∀ j, 2 ≤ j → j < k → mor s.data.toList (i + j) 0x80 0xBF = true)) (fun t => 4 - (intOf t).toNat)
    case atStart => exact ⟨2, Nat.le_refl _, by omega, rfl, fun j a b => by omega⟩
    case round =>
      obtain ⟨k, hk2, hkn, rfl, hm⟩ := hrel
      by_cases hlt : k < 4
      · have hlt' : (k : Int) < 4 := by omega
        have ek : Hid (((i : Int) + (k : Int)).toNat = i + k) := by show _ = _; omega
        by_cases M2 : mor s.data.toList (i + k) 0x80 0xBF = true
        · have HM2 : Hid (mor s.data.toList (i + k) 0x80 0xBF = true) := M2
          clear M2 hlt
          go_wp2_with (go_at_call 57; refine (more_is s _ _ _ (by omega) (by omega) (by omega) (by omega) (by omega) true (by rw [ek.out]; exact HM2.out) _).mono ?_; rintro e w' ⟨rfl, rfl⟩)
          go_round
          case rel =>
            refine ⟨k + 1, by omega, by omega, by go_num, fun j a b => ?_⟩
            by_cases ej : j = k
            · subst ej; exact HM2.out
            · exact hm.out j a (by omega)
          case measure => simp [intOf]; omega
        · have HM2 : Hid (mor s.data.toList (i + k) 0x80 0xBF = false) := by show _ = _; simpa using M2
          clear M2
          go_wp2_with (go_at_call 57; refine (more_is s _ _ _ (by omega) (by omega) (by omega) (by omega) (by omega) false (by rw [ek.out]; exact HM2.out) _).mono ?_; rintro e w' ⟨rfl, rfl⟩)
          go_ret
          rw [seq_next H0.out HA.out k hk2 (by rw [CL.out.2.2]; omega) (by rw [mor_drop]; exact HM2.out)]
          exact ⟨rfl, rfl⟩
      · have hlt' : ¬ (k : Int) < 4 := by omega
        obtain rfl : k = 4 := by omega
        clear hlt hk2 hkn
        go_wp2
        go_ret
        rw [seq_yes H0.out HA.out (by rw [CL.out.1, CL.out.2.1, mor_drop]; exact HM.out) (fun j a b => by rw [mor_drop]; exact hm.out j a (by rw [CL.out.2.2] at b; exact b)), CL.out.2.2]
        exact ⟨rfl, rfl⟩
  · have HM : Hid (mor s.data.toList (i + 1) 128 143 = false) := by show _ = _; simpa using M
    clear M
    go_enter Tryz.func41, Tryz.ntmps41
    go_wp2_with (go_at_call 57; refine (more_is s _ _ _ (by omega) (by omega) (by omega) (by omega) (by omega) false (by rw [E1.out]; exact HM.out) _).mono ?_; rintro e w' ⟨rfl, rfl⟩)
    go_ret
    rw [seq_first H0.out HA.out (by rw [CL.out.1, CL.out.2.1, mor_drop]; exact HM.out)]
    exact ⟨rfl, rfl⟩

set_option maxRecDepth 100000 in
set_option maxHeartbeats 400000 in
theorem sequence_any (s : ByteArray) (i : Nat) (h : i < s.size) (hs : s.size ≤ 70368744177664) (w : World) :
    Calls Tryz.prog 41 #[.string s, .int .i64 i] w fun e w' => e = .returned (.int .i64 (seq (s.data.toList.drop i))) ∧ w' = w := by
  have hb0 : byt (s.data.toList.drop i) 0 = (s[i]'h).toNat := by rw [byt_drop]; exact byt_at s i h
  by_cases h0 : (s[i]'h).toNat < 0x80
  · rw [seq_ascii (by rw [hb0]; exact h0)]
    have q0 : ((s[i]'h).toNat : Int) < 128 := by omega
    clear hb0 h0
    go_enter Tryz.func41, Tryz.ntmps41
    go_wp2
    go_ret
    exact ⟨rfl, rfl⟩
  · by_cases hA : (s[i]'h).toNat < 0xC2 ∨ 0xF4 < (s[i]'h).toNat
    · rw [seq_out (by rw [hb0]; exact h0) (by rw [hb0]; exact hA)]
      have q0 : ¬ ((s[i]'h).toNat : Int) < 128 := by omega
      by_cases hl : (s[i]'h).toNat < 0xC2
      · have q1 : ((s[i]'h).toNat : Int) < 194 := by omega
        clear hb0 h0 hA hl
        go_enter Tryz.func41, Tryz.ntmps41
        go_wp2
        go_ret
        exact ⟨rfl, rfl⟩
      · have q1 : ¬ ((s[i]'h).toNat : Int) < 194 := by omega
        have q2 : (244 : Int) < ((s[i]'h).toNat : Int) := by omega
        clear hb0 h0 hA hl
        go_enter Tryz.func41, Tryz.ntmps41
        go_wp2
        go_ret
        exact ⟨rfl, rfl⟩
    · have cl : ((s[i]'h).toNat < 0xE0) ∨ ((s[i]'h).toNat = 0xE0) ∨ (0xE0 < (s[i]'h).toNat ∧ (s[i]'h).toNat < 0xED) ∨ ((s[i]'h).toNat = 0xED) ∨ (0xED < (s[i]'h).toNat ∧ (s[i]'h).toNat < 0xF0) ∨ ((s[i]'h).toNat = 0xF0) ∨ (0xF0 < (s[i]'h).toNat ∧ (s[i]'h).toNat < 0xF4) ∨ ((s[i]'h).toNat = 0xF4) := by omega
      rcases cl with c | c | c | c | c | c | c | c
      · exact sequence_A s i h hs w h0 hA c
      · exact sequence_B s i h hs w h0 hA c
      · exact sequence_C s i h hs w h0 hA c
      · exact sequence_D s i h hs w h0 hA c
      · exact sequence_E s i h hs w h0 hA c
      · exact sequence_F s i h hs w h0 hA c
      · exact sequence_G s i h hs w h0 hA c
      · exact sequence_H s i h hs w h0 hA c

end Go.Proofs.YtkdajaphbmclkaaGreatDoor
