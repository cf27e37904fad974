/-
  The walk of paneref.Decode.
-/
import Derived.Test.YtkdajaphbmclkaaGreatDoorX01
import Derived.Test.YtkdajaphbmclkaaGreatDoorDec
namespace Go.Proofs.YtkdajaphbmclkaaGreatDoor
open Go.RowKit
set_option linter.unusedVariables false

theorem and31 : ∀ c : Fin 256, bits .and .i64 ((c.val : Nat) : Int) 31 = ((c.val % 32 : Nat) : Int) := by decide +kernel
theorem and15 : ∀ c : Fin 256, bits .and .i64 ((c.val : Nat) : Int) 15 = ((c.val % 16 : Nat) : Int) := by decide +kernel
theorem and7 : ∀ c : Fin 256, bits .and .i64 ((c.val : Nat) : Int) 7 = ((c.val % 8 : Nat) : Int) := by decide +kernel
theorem and63 : ∀ c : Fin 256, bits .and .u8 ((c.val : Nat) : Int) 63 = ((c.val % 64 : Nat) : Int) := by decide +kernel

/-- A sequence's value, byte by byte: behind j further bytes. -/
def rpart (l : List UInt8) (m : Nat) : Nat → Nat
  | 0 => m
  | j + 1 => rpart l m j * 64 + byt l (j + 1) % 64
theorem rpart_le (l : List UInt8) (m : Nat) (hm : m < 256) (j : Nat) (hj : j ≤ 3) : rpart l m j < 67108864 := by
  have h1 : rpart l m 0 = m := rfl
  have h2 : rpart l m 1 = m * 64 + byt l 1 % 64 := rfl
  have h3 : rpart l m 2 = (m * 64 + byt l 1 % 64) * 64 + byt l 2 % 64 := rfl
  have h4 : rpart l m 3 = ((m * 64 + byt l 1 % 64) * 64 + byt l 2 % 64) * 64 + byt l 3 % 64 := rfl
  obtain rfl | rfl | rfl | rfl : j = 0 ∨ j = 1 ∨ j = 2 ∨ j = 3 := by omega
  all_goals omega
theorem rpart_val (l : List UInt8) (n m : Nat) (hn : n = 1 ∧ m = byt l 0 ∨ n = 2 ∧ m = byt l 0 % 32 ∨ n = 3 ∧ m = byt l 0 % 16 ∨ n = 4 ∧ m = byt l 0 % 8) : rpart l m (n - 1) = val l n := by
  rcases hn with ⟨rfl, rfl⟩ | ⟨rfl, rfl⟩ | ⟨rfl, rfl⟩ | ⟨rfl, rfl⟩
  · rfl
  · rfl
  · show (byt l 0 % 16 * 64 + byt l 1 % 64) * 64 + byt l 2 % 64 = byt l 0 % 16 * 4096 + (byt l 1 % 64) * 64 + byt l 2 % 64
    omega
  · show ((byt l 0 % 8 * 64 + byt l 1 % 64) * 64 + byt l 2 % 64) * 64 + byt l 3 % 64 = byt l 0 % 8 * 262144 + (byt l 1 % 64) * 4096 + (byt l 2 % 64) * 64 + byt l 3 % 64
    omega

/-- A right sequence lies within its text. -/
theorem seq_within (l : List UInt8) (hl : l ≠ []) : seq l ≤ l.length := by
  have h1 : 0 < l.length := List.length_pos_iff.2 hl
  have nb := n_bd (byt l 0)
  unfold seq
  by_cases a : byt l 0 < 0x80
  · rw [if_pos a]; omega
  · rw [if_neg a]
    by_cases b : byt l 0 < 0xC2 ∨ 0xF4 < byt l 0
    · rw [if_pos b]; omega
    · rw [if_neg b]
      by_cases m1 : mor l 1 (seqLo (byt l 0)) (seqHi (byt l 0)) = false
      · rw [if_pos m1]; omega
      · rw [if_neg m1]
        have k1 := ((mor_iff _ _ _ _).1 (by simpa using m1)).1
        by_cases m2 : 2 < seqN (byt l 0) ∧ mor l 2 0x80 0xBF = false
        · rw [if_pos m2]; omega
        · rw [if_neg m2]
          by_cases m3 : 3 < seqN (byt l 0) ∧ mor l 3 0x80 0xBF = false
          · rw [if_pos m3]; omega
          · rw [if_neg m3]
            have k2 : 2 < seqN (byt l 0) → 2 < l.length := fun q => ((mor_iff _ _ _ _).1 (by cases h : mor l 2 0x80 0xBF; exact absurd ⟨q, h⟩ m2; rfl)).1
            have k3 : 3 < seqN (byt l 0) → 3 < l.length := fun q => ((mor_iff _ _ _ _).1 (by cases h : mor l 3 0x80 0xBF; exact absurd ⟨q, h⟩ m3; rfl)).1
            omega

theorem step_bad {s : ByteArray} {pos : Nat} {acc : List Int} (hp : pos < s.size) (h : acc ++ runes (s.data.toList.drop pos) = runes s.data.toList) (hq : seq (s.data.toList.drop pos) = 0) :
    (acc ++ [65533]) ++ runes (s.data.toList.drop (pos + 1)) = runes s.data.toList := by
  have hdd : dec (s.data.toList.drop pos) = (65533, 1) := by rw [dec_seq, if_pos hq]
  rw [← h, runes_step (drop_ne_nil hp), hdd, List.drop_drop]; simp [shownI]
theorem step_good {s : ByteArray} {pos : Nat} {acc : List Int} (hp : pos < s.size) (h : acc ++ runes (s.data.toList.drop pos) = runes s.data.toList) (n : Nat) (hq : seq (s.data.toList.drop pos) = n) (hn : n ≠ 0) :
    (acc ++ [shownI (val (s.data.toList.drop pos) n)]) ++ runes (s.data.toList.drop (pos + n)) = runes s.data.toList := by
  have hdd : dec (s.data.toList.drop pos) = (val (s.data.toList.drop pos) n, n) := by rw [dec_seq, if_neg (by rw [hq]; exact hn), hq]
  rw [← h, runes_step (drop_ne_nil hp), hdd, List.drop_drop]; simp

set_option maxRecDepth 100000 in
set_option maxHeartbeats 4000000 in
theorem rDecode_any (s : ByteArray) (w : World) (hs : s.size ≤ 17592186044416) :
    Calls Tryz.prog 24 #[.string s] w fun e w' => ∃ v, e = .returned v ∧ w'.ownsRow w.heap.size 3 1 v (runes s.data.toList).length ((runes s.data.toList).map (Value.int .i64)) ∧ Below w.heap.size w w' := by
  obtain ⟨i0, hi, hz0, hz1, hz2⟩ := info_parts info3
  go_enter Tryz.func24, Tryz.ntmps24
  go_wp2
  go_loopw [3, 4] (fun v i wr => ∃ (pos : Nat) (acc : List Int), i = .int .i64 pos ∧ pos ≤ s.size ∧ wr.ownsRow w.heap.size 3 1 v acc.length (acc.map (Value.int .i64)) ∧ Below w.heap.size w wr ∧ acc ++ runes (s.data.toList.drop pos) = runes s.data.toList ∧ acc.length ≤ pos) (fun _ i _ => s.size - (intOf i).toNat)
  case atStart => exact ⟨0, [], rfl, Nat.zero_le _, World.ownsRow_nil _ _ _ _, Below.refl _ _, rfl, Nat.le_refl _⟩
  case round =>
    obtain ⟨pos, acc, rfl, hps, hown, hbw, hacc, hal⟩ := hrel
    have hsz := hbw.size
    by_cases hp : pos < s.size
    · have hlt' : (pos : Int) < (s.size : Int) := by omega
      have hsw := seq_within _ (drop_ne_nil hp)
      rw [List.length_drop, len_data] at hsw
      have hs4 := seq_le (s.data.toList.drop pos)
      obtain ⟨n, hn⟩ : ∃ n, seq (s.data.toList.drop pos) = n := ⟨_, rfl⟩
      rw [hn] at hsw hs4
      have hcall := sequence_any s pos hp (by omega)
      rw [hn] at hcall
      have HCALL : Hid (∀ w, Calls Tryz.prog 41 #[.string s, .int .i64 pos] w fun e w' => e = .returned (.int .i64 n) ∧ w' = w) := hcall
      clear hcall
      have hb0 : byt (s.data.toList.drop pos) 0 = (s[pos]'hp).toNat := by rw [byt_drop]; exact byt_at s pos hp
      have HB : Hid (byt (s.data.toList.drop pos) 0 = (s[pos]'hp).toNat) := hb0
      have hc256 := byt_lt (s.data.toList.drop pos) 0
      rw [hb0] at hc256
      clear hb0
      by_cases h0 : n = 0
      · have HR : Hid ((acc ++ [65533]) ++ runes (s.data.toList.drop (pos + 1)) = runes s.data.toList) := step_bad hp hacc (by rw [hn]; exact h0)
        subst h0
        clear hacc hn hsw hs4 HB hc256
        go_wp2_with (first | (go_at_call 41; refine (HCALL.out _).mono ?_; rintro e w' ⟨rfl, rfl⟩) | (at_builtin; refine wpList_append_own _ rfl _ _ 76 rfl w.heap.size 3 i0 (.int .i64 0) 1 8 Tryz.underlying76 hi hz0 hz1 hz2 rfl (by decide) _ _ _ rfl (hown.alloc _) _ 1 1 [.int .i64 65533] rfl rfl ?c1k1 ?c2k1 ?c3k1 ?c4k1 ?c5k1 ?_))
        try case c1k1 => exact cell_one_new _ _ _
        case c2k1 => first | (intro u hu; simp at hu; subst hu; rfl) | rfl | (simp; done)
        case c3k1 => first | (unfold maxLen; omega) | omega
        case c4k1 => omega
        case c5k1 => first | omega | (rw [World.size_alloc]; omega)
        intro v' w1 hown' hg _
        have hrow : ∀ q, Value.ownBlock u3 = some q → w.heap.size ≤ q := fun q hq => (hown.lt q hq).1
        have hb1 : Below w.heap.size w w1 := (hbw.alloc hsz _).grown hg (by rw [World.size_alloc]; omega) hrow
        clear hg hrow hown hbw
        go_wp2
        go_roundw
        case rel =>
          refine ⟨pos + 1, acc ++ [65533], by go_num, by omega, ?_, hb1, HR.out, by simp; omega⟩
          rw [List.length_append, List.map_append]; exact hown'
        case measure => simp [intOf]; omega
      · have HR : Hid ((acc ++ [shownI (val (s.data.toList.drop pos) n)]) ++ runes (s.data.toList.drop (pos + n)) = runes s.data.toList) := step_good hp hacc n hn h0
        clear hacc hn
        obtain ⟨m, hm, hmv⟩ : ∃ m : Nat, m < 256 ∧ (n = 1 ∧ m = (s[pos]'hp).toNat ∨ n = 2 ∧ m = (s[pos]'hp).toNat % 32 ∨ n = 3 ∧ m = (s[pos]'hp).toNat % 16 ∨ n = 4 ∧ m = (s[pos]'hp).toNat % 8) := by
          obtain h | h | h | h : n = 1 ∨ n = 2 ∨ n = 3 ∨ n = 4 := by omega
          · exact ⟨(s[pos]'hp).toNat, by omega, .inl ⟨h, rfl⟩⟩
          · exact ⟨(s[pos]'hp).toNat % 32, by omega, .inr (.inl ⟨h, rfl⟩)⟩
          · exact ⟨(s[pos]'hp).toNat % 16, by omega, .inr (.inr (.inl ⟨h, rfl⟩))⟩
          · exact ⟨(s[pos]'hp).toNat % 8, by omega, .inr (.inr (.inr ⟨h, rfl⟩))⟩
        have HV : Hid (rpart (s.data.toList.drop pos) m (n - 1) = val (s.data.toList.drop pos) n) := rpart_val _ n m (by rw [HB.out]; exact hmv)
        obtain ⟨L, hL⟩ : ∃ L, s.data.toList.drop pos = L := ⟨_, rfl⟩
        have HBy : Hid (∀ j (h : pos + j < s.size), byt L j = (s[pos + j]'h).toNat) := by
          intro j h; rw [← hL, byt_drop]; exact byt_at s (pos + j) h
        rw [hL] at HR HV HB
        have a31 := and31 ⟨(s[pos]'hp).toNat, hc256⟩
        have a15 := and15 ⟨(s[pos]'hp).toNat, hc256⟩
        have a7 := and7 ⟨(s[pos]'hp).toNat, hc256⟩
        clear hL HB
        have first : ∀ (Z : Prop), (Hid (n = 1 ∧ m = (s[pos]'hp).toNat) → Z) → (Hid (n = 2 ∧ m = (s[pos]'hp).toNat % 32) → Z) → (Hid (n = 3 ∧ m = (s[pos]'hp).toNat % 16) → Z) → (Hid (n = 4 ∧ m = (s[pos]'hp).toNat % 8) → Z) → Z := by
          intro Z z1 z2 z3 z4
          rcases hmv with h | h | h | h
          · exact z1 h
          · exact z2 h
          · exact z3 h
          · exact z4 h
        clear hmv
        apply first <;> clear first <;> intro hcase
        · obtain ⟨hn, hmm⟩ := hcase.out
          subst hn
          have HMM : Hid (m = (s[pos]'hp).toNat) := hmm
          clear hmm hcase
          go_wp2_with (go_at_call 41; refine (HCALL.out _).mono ?_; rintro e w' ⟨rfl, rfl⟩)
          go_loop [6, 7] (fun r k => ∃ j : Nat, j + 1 ≤ 1 ∧ k = .int .i64 (j + 1 : Nat) ∧ r = .int .i64 (rpart L m j)) (fun _ k => 1 - (intOf k).toNat)
          case atStart => exact ⟨0, by omega, rfl, by rw [show rpart L m 0 = m from rfl, HMM.out]⟩
          case round =>
            obtain ⟨j, hj, rfl, rfl⟩ := hrel
            have hpl := rpart_le L m hm j (by omega)
            by_cases hjn : j + 1 < 1
            · exact absurd hjn (by omega)
            · obtain rfl : j = 0 := by omega
              obtain ⟨V, hV⟩ : ∃ V, rpart L m 0 = V := ⟨_, rfl⟩
              have HV2 : Hid (V = val L 1) := by show _ = _; rw [← hV]; exact HV.out
              rw [hV] at hpl
              rw [hV]
              clear hV HV hjn hj a31 a15 a7
              by_cases g1 : V < 32
              · have g1' : (V : Int) < 32 := by omega
                by_cases g2 : V = 10
                · have G2 : Hid (V = 10) := g2
                  have g2' : ((V : Int) != 10) = false := by rw [g2]; rfl
                  have HR2 : Hid ((acc ++ [(V : Int)]) ++ runes (s.data.toList.drop (pos + 1)) = runes s.data.toList) := by
                    have := HR.out; rw [← HV2.out, show shownI (V : Int) = V by rw [g2]; rfl] at this; exact this
                  clear g2
                  go_wp2_with (at_builtin; refine wpList_append_own _ rfl _ _ 76 rfl w.heap.size 3 i0 (.int .i64 0) 1 8 Tryz.underlying76 hi hz0 hz1 hz2 rfl (by decide) _ _ _ rfl (hown.alloc _) _ 1 1 [.int .i64 (V : Int)] rfl rfl ?c1k3 ?c2k3 ?c3k3 ?c4k3 ?c5k3 ?_)
                  try case c1k3 => exact cell_one_new _ _ _
                  case c2k3 => first | (intro u hu; simp at hu; subst hu; rfl) | rfl | (simp; done)
                  case c3k3 => first | (unfold maxLen; omega) | omega
                  case c4k3 => omega
                  case c5k3 => first | omega | (rw [World.size_alloc]; omega)
                  intro v' w1 hown' hg _
                  have hrow : ∀ q, Value.ownBlock u3 = some q → w.heap.size ≤ q := fun q hq => (hown.lt q hq).1
                  have hb1 : Below w.heap.size w w1 := (hbw.alloc hsz _).grown hg (by rw [World.size_alloc]; omega) hrow
                  clear hg hrow hown hbw
                  go_wp2
                  go_roundw
                  case rel =>
                    refine ⟨pos + 1, acc ++ [(V : Int)], by go_num, by omega, ?_, hb1, HR2.out, by simp; omega⟩
                    rw [List.length_append, List.map_append]; exact hown'
                  case measure => simp [intOf]; omega
                · have g2' : ((V : Int) != 10) = true := by rw [bne_iff_ne]; omega
                  have HR2 : Hid ((acc ++ [65533]) ++ runes (s.data.toList.drop (pos + 1)) = runes s.data.toList) := by
                    have := HR.out; rw [← HV2.out, show shownI (V : Int) = 65533 by unfold shownI; rw [if_pos (by omega)]] at this; exact this
                  clear g2
                  go_wp2_with (at_builtin; refine wpList_append_own _ rfl _ _ 76 rfl w.heap.size 3 i0 (.int .i64 0) 1 8 Tryz.underlying76 hi hz0 hz1 hz2 rfl (by decide) _ _ _ rfl (hown.alloc _) _ 1 1 [.int .i64 65533] rfl rfl ?c1k4 ?c2k4 ?c3k4 ?c4k4 ?c5k4 ?_)
                  try case c1k4 => exact cell_one_new _ _ _
                  case c2k4 => first | (intro u hu; simp at hu; subst hu; rfl) | rfl | (simp; done)
                  case c3k4 => first | (unfold maxLen; omega) | omega
                  case c4k4 => omega
                  case c5k4 => first | omega | (rw [World.size_alloc]; omega)
                  intro v' w1 hown' hg _
                  have hrow : ∀ q, Value.ownBlock u3 = some q → w.heap.size ≤ q := fun q hq => (hown.lt q hq).1
                  have hb1 : Below w.heap.size w w1 := (hbw.alloc hsz _).grown hg (by rw [World.size_alloc]; omega) hrow
                  clear hg hrow hown hbw
                  go_wp2
                  go_roundw
                  case rel =>
                    refine ⟨pos + 1, acc ++ [65533], by go_num, by omega, ?_, hb1, HR2.out, by simp; omega⟩
                    rw [List.length_append, List.map_append]; exact hown'
                  case measure => simp [intOf]; omega
              · have g1' : ¬ (V : Int) < 32 := by omega
                by_cases g3 : 127 ≤ V
                · have g3' : 127 ≤ (V : Int) := by omega
                  by_cases g4 : V ≤ 159
                  · have g4' : (V : Int) ≤ 159 := by omega
                    have HR2 : Hid ((acc ++ [65533]) ++ runes (s.data.toList.drop (pos + 1)) = runes s.data.toList) := by
                      have := HR.out; rw [← HV2.out, show shownI (V : Int) = 65533 by unfold shownI; rw [if_pos (by omega)]] at this; exact this
                    go_wp2_with (at_builtin; refine wpList_append_own _ rfl _ _ 76 rfl w.heap.size 3 i0 (.int .i64 0) 1 8 Tryz.underlying76 hi hz0 hz1 hz2 rfl (by decide) _ _ _ rfl (hown.alloc _) _ 1 1 [.int .i64 65533] rfl rfl ?c1k5 ?c2k5 ?c3k5 ?c4k5 ?c5k5 ?_)
                    try case c1k5 => exact cell_one_new _ _ _
                    case c2k5 => first | (intro u hu; simp at hu; subst hu; rfl) | rfl | (simp; done)
                    case c3k5 => first | (unfold maxLen; omega) | omega
                    case c4k5 => omega
                    case c5k5 => first | omega | (rw [World.size_alloc]; omega)
                    intro v' w1 hown' hg _
                    have hrow : ∀ q, Value.ownBlock u3 = some q → w.heap.size ≤ q := fun q hq => (hown.lt q hq).1
                    have hb1 : Below w.heap.size w w1 := (hbw.alloc hsz _).grown hg (by rw [World.size_alloc]; omega) hrow
                    clear hg hrow hown hbw
                    go_wp2
                    go_roundw
                    case rel =>
                      refine ⟨pos + 1, acc ++ [65533], by go_num, by omega, ?_, hb1, HR2.out, by simp; omega⟩
                      rw [List.length_append, List.map_append]; exact hown'
                    case measure => simp [intOf]; omega
                  · have g4' : ¬ (V : Int) ≤ 159 := by omega
                    have HR2 : Hid ((acc ++ [(V : Int)]) ++ runes (s.data.toList.drop (pos + 1)) = runes s.data.toList) := by
                      have := HR.out; rw [← HV2.out, show shownI (V : Int) = V by unfold shownI; rw [if_neg (by omega)]] at this; exact this
                    go_wp2_with (at_builtin; refine wpList_append_own _ rfl _ _ 76 rfl w.heap.size 3 i0 (.int .i64 0) 1 8 Tryz.underlying76 hi hz0 hz1 hz2 rfl (by decide) _ _ _ rfl (hown.alloc _) _ 1 1 [.int .i64 (V : Int)] rfl rfl ?c1k6 ?c2k6 ?c3k6 ?c4k6 ?c5k6 ?_)
                    try case c1k6 => exact cell_one_new _ _ _
                    case c2k6 => first | (intro u hu; simp at hu; subst hu; rfl) | rfl | (simp; done)
                    case c3k6 => first | (unfold maxLen; omega) | omega
                    case c4k6 => omega
                    case c5k6 => first | omega | (rw [World.size_alloc]; omega)
                    intro v' w1 hown' hg _
                    have hrow : ∀ q, Value.ownBlock u3 = some q → w.heap.size ≤ q := fun q hq => (hown.lt q hq).1
                    have hb1 : Below w.heap.size w w1 := (hbw.alloc hsz _).grown hg (by rw [World.size_alloc]; omega) hrow
                    clear hg hrow hown hbw
                    go_wp2
                    go_roundw
                    case rel =>
                      refine ⟨pos + 1, acc ++ [(V : Int)], by go_num, by omega, ?_, hb1, HR2.out, by simp; omega⟩
                      rw [List.length_append, List.map_append]; exact hown'
                    case measure => simp [intOf]; omega
                · have g3' : ¬ 127 ≤ (V : Int) := by omega
                  have HR2 : Hid ((acc ++ [(V : Int)]) ++ runes (s.data.toList.drop (pos + 1)) = runes s.data.toList) := by
                    have := HR.out; rw [← HV2.out, show shownI (V : Int) = V by unfold shownI; rw [if_neg (by omega)]] at this; exact this
                  go_wp2_with (at_builtin; refine wpList_append_own _ rfl _ _ 76 rfl w.heap.size 3 i0 (.int .i64 0) 1 8 Tryz.underlying76 hi hz0 hz1 hz2 rfl (by decide) _ _ _ rfl (hown.alloc _) _ 1 1 [.int .i64 (V : Int)] rfl rfl ?c1k7 ?c2k7 ?c3k7 ?c4k7 ?c5k7 ?_)
                  try case c1k7 => exact cell_one_new _ _ _
                  case c2k7 => first | (intro u hu; simp at hu; subst hu; rfl) | rfl | (simp; done)
                  case c3k7 => first | (unfold maxLen; omega) | omega
                  case c4k7 => omega
                  case c5k7 => first | omega | (rw [World.size_alloc]; omega)
                  intro v' w1 hown' hg _
                  have hrow : ∀ q, Value.ownBlock u3 = some q → w.heap.size ≤ q := fun q hq => (hown.lt q hq).1
                  have hb1 : Below w.heap.size w w1 := (hbw.alloc hsz _).grown hg (by rw [World.size_alloc]; omega) hrow
                  clear hg hrow hown hbw
                  go_wp2
                  go_roundw
                  case rel =>
                    refine ⟨pos + 1, acc ++ [(V : Int)], by go_num, by omega, ?_, hb1, HR2.out, by simp; omega⟩
                    rw [List.length_append, List.map_append]; exact hown'
                  case measure => simp [intOf]; omega
        · obtain ⟨hn, hmm⟩ := hcase.out
          subst hn
          have HMM : Hid (m = (s[pos]'hp).toNat % 32) := hmm
          clear hmm hcase
          go_wp2_with (go_at_call 41; refine (HCALL.out _).mono ?_; rintro e w' ⟨rfl, rfl⟩)
          go_loop [6, 7] (fun r k => ∃ j : Nat, j + 1 ≤ 2 ∧ k = .int .i64 (j + 1 : Nat) ∧ r = .int .i64 (rpart L m j)) (fun _ k => 2 - (intOf k).toNat)
          case atStart => exact ⟨0, by omega, rfl, by rw [show rpart L m 0 = m from rfl, HMM.out]; simp⟩
          case round =>
            obtain ⟨j, hj, rfl, rfl⟩ := hrel
            have hpl := rpart_le L m hm j (by omega)
            by_cases hjn : j + 1 < 2
            · have hjn' : ((j + 1 : Nat) : Int) < 2 := by omega
              have hpj : pos + (j + 1) < s.size := by omega
              have hbj := HBy.out (j + 1) hpj
              have h256 := byt_lt L (j + 1)
              rw [hbj] at h256
              have a63 := and63 ⟨(s[pos + (j + 1)]'hpj).toNat, h256⟩
              have HST : Hid (rpart L m (j + 1) = rpart L m j * 64 + (s[pos + (j + 1)]'hpj).toNat % 64) := by show _ = _; rw [← hbj]; rfl
              clear hbj a31 a15 a7
              go_wp2
              go_round
              case rel => exact ⟨j + 1, by omega, by go_num, by rw [HST.out]; go_num⟩
              case measure => simp [intOf]; omega
            · obtain rfl : j = 1 := by omega
              obtain ⟨V, hV⟩ : ∃ V, rpart L m 1 = V := ⟨_, rfl⟩
              have HV2 : Hid (V = val L 2) := by show _ = _; rw [← hV]; exact HV.out
              rw [hV] at hpl
              rw [hV]
              clear hV HV hjn hj a31 a15 a7
              by_cases g1 : V < 32
              · have g1' : (V : Int) < 32 := by omega
                by_cases g2 : V = 10
                · have G2 : Hid (V = 10) := g2
                  have g2' : ((V : Int) != 10) = false := by rw [g2]; rfl
                  have HR2 : Hid ((acc ++ [(V : Int)]) ++ runes (s.data.toList.drop (pos + 2)) = runes s.data.toList) := by
                    have := HR.out; rw [← HV2.out, show shownI (V : Int) = V by rw [g2]; rfl] at this; exact this
                  clear g2
                  go_wp2_with (at_builtin; refine wpList_append_own _ rfl _ _ 76 rfl w.heap.size 3 i0 (.int .i64 0) 1 8 Tryz.underlying76 hi hz0 hz1 hz2 rfl (by decide) _ _ _ rfl (hown.alloc _) _ 1 1 [.int .i64 (V : Int)] rfl rfl ?c1k9 ?c2k9 ?c3k9 ?c4k9 ?c5k9 ?_)
                  try case c1k9 => exact cell_one_new _ _ _
                  case c2k9 => first | (intro u hu; simp at hu; subst hu; rfl) | rfl | (simp; done)
                  case c3k9 => first | (unfold maxLen; omega) | omega
                  case c4k9 => omega
                  case c5k9 => first | omega | (rw [World.size_alloc]; omega)
                  intro v' w1 hown' hg _
                  have hrow : ∀ q, Value.ownBlock u3 = some q → w.heap.size ≤ q := fun q hq => (hown.lt q hq).1
                  have hb1 : Below w.heap.size w w1 := (hbw.alloc hsz _).grown hg (by rw [World.size_alloc]; omega) hrow
                  clear hg hrow hown hbw
                  go_wp2
                  go_roundw
                  case rel =>
                    refine ⟨pos + 2, acc ++ [(V : Int)], by go_num, by omega, ?_, hb1, HR2.out, by simp; omega⟩
                    rw [List.length_append, List.map_append]; exact hown'
                  case measure => simp [intOf]; omega
                · have g2' : ((V : Int) != 10) = true := by rw [bne_iff_ne]; omega
                  have HR2 : Hid ((acc ++ [65533]) ++ runes (s.data.toList.drop (pos + 2)) = runes s.data.toList) := by
                    have := HR.out; rw [← HV2.out, show shownI (V : Int) = 65533 by unfold shownI; rw [if_pos (by omega)]] at this; exact this
                  clear g2
                  go_wp2_with (at_builtin; refine wpList_append_own _ rfl _ _ 76 rfl w.heap.size 3 i0 (.int .i64 0) 1 8 Tryz.underlying76 hi hz0 hz1 hz2 rfl (by decide) _ _ _ rfl (hown.alloc _) _ 1 1 [.int .i64 65533] rfl rfl ?c1k10 ?c2k10 ?c3k10 ?c4k10 ?c5k10 ?_)
                  try case c1k10 => exact cell_one_new _ _ _
                  case c2k10 => first | (intro u hu; simp at hu; subst hu; rfl) | rfl | (simp; done)
                  case c3k10 => first | (unfold maxLen; omega) | omega
                  case c4k10 => omega
                  case c5k10 => first | omega | (rw [World.size_alloc]; omega)
                  intro v' w1 hown' hg _
                  have hrow : ∀ q, Value.ownBlock u3 = some q → w.heap.size ≤ q := fun q hq => (hown.lt q hq).1
                  have hb1 : Below w.heap.size w w1 := (hbw.alloc hsz _).grown hg (by rw [World.size_alloc]; omega) hrow
                  clear hg hrow hown hbw
                  go_wp2
                  go_roundw
                  case rel =>
                    refine ⟨pos + 2, acc ++ [65533], by go_num, by omega, ?_, hb1, HR2.out, by simp; omega⟩
                    rw [List.length_append, List.map_append]; exact hown'
                  case measure => simp [intOf]; omega
              · have g1' : ¬ (V : Int) < 32 := by omega
                by_cases g3 : 127 ≤ V
                · have g3' : 127 ≤ (V : Int) := by omega
                  by_cases g4 : V ≤ 159
                  · have g4' : (V : Int) ≤ 159 := by omega
                    have HR2 : Hid ((acc ++ [65533]) ++ runes (s.data.toList.drop (pos + 2)) = runes s.data.toList) := by
                      have := HR.out; rw [← HV2.out, show shownI (V : Int) = 65533 by unfold shownI; rw [if_pos (by omega)]] at this; exact this
                    go_wp2_with (at_builtin; refine wpList_append_own _ rfl _ _ 76 rfl w.heap.size 3 i0 (.int .i64 0) 1 8 Tryz.underlying76 hi hz0 hz1 hz2 rfl (by decide) _ _ _ rfl (hown.alloc _) _ 1 1 [.int .i64 65533] rfl rfl ?c1k11 ?c2k11 ?c3k11 ?c4k11 ?c5k11 ?_)
                    try case c1k11 => exact cell_one_new _ _ _
                    case c2k11 => first | (intro u hu; simp at hu; subst hu; rfl) | rfl | (simp; done)
                    case c3k11 => first | (unfold maxLen; omega) | omega
                    case c4k11 => omega
                    case c5k11 => first | omega | (rw [World.size_alloc]; omega)
                    intro v' w1 hown' hg _
                    have hrow : ∀ q, Value.ownBlock u3 = some q → w.heap.size ≤ q := fun q hq => (hown.lt q hq).1
                    have hb1 : Below w.heap.size w w1 := (hbw.alloc hsz _).grown hg (by rw [World.size_alloc]; omega) hrow
                    clear hg hrow hown hbw
                    go_wp2
                    go_roundw
                    case rel =>
                      refine ⟨pos + 2, acc ++ [65533], by go_num, by omega, ?_, hb1, HR2.out, by simp; omega⟩
                      rw [List.length_append, List.map_append]; exact hown'
                    case measure => simp [intOf]; omega
                  · have g4' : ¬ (V : Int) ≤ 159 := by omega
                    have HR2 : Hid ((acc ++ [(V : Int)]) ++ runes (s.data.toList.drop (pos + 2)) = runes s.data.toList) := by
                      have := HR.out; rw [← HV2.out, show shownI (V : Int) = V by unfold shownI; rw [if_neg (by omega)]] at this; exact this
                    go_wp2_with (at_builtin; refine wpList_append_own _ rfl _ _ 76 rfl w.heap.size 3 i0 (.int .i64 0) 1 8 Tryz.underlying76 hi hz0 hz1 hz2 rfl (by decide) _ _ _ rfl (hown.alloc _) _ 1 1 [.int .i64 (V : Int)] rfl rfl ?c1k12 ?c2k12 ?c3k12 ?c4k12 ?c5k12 ?_)
                    try case c1k12 => exact cell_one_new _ _ _
                    case c2k12 => first | (intro u hu; simp at hu; subst hu; rfl) | rfl | (simp; done)
                    case c3k12 => first | (unfold maxLen; omega) | omega
                    case c4k12 => omega
                    case c5k12 => first | omega | (rw [World.size_alloc]; omega)
                    intro v' w1 hown' hg _
                    have hrow : ∀ q, Value.ownBlock u3 = some q → w.heap.size ≤ q := fun q hq => (hown.lt q hq).1
                    have hb1 : Below w.heap.size w w1 := (hbw.alloc hsz _).grown hg (by rw [World.size_alloc]; omega) hrow
                    clear hg hrow hown hbw
                    go_wp2
                    go_roundw
                    case rel =>
                      refine ⟨pos + 2, acc ++ [(V : Int)], by go_num, by omega, ?_, hb1, HR2.out, by simp; omega⟩
                      rw [List.length_append, List.map_append]; exact hown'
                    case measure => simp [intOf]; omega
                · have g3' : ¬ 127 ≤ (V : Int) := by omega
                  have HR2 : Hid ((acc ++ [(V : Int)]) ++ runes (s.data.toList.drop (pos + 2)) = runes s.data.toList) := by
                    have := HR.out; rw [← HV2.out, show shownI (V : Int) = V by unfold shownI; rw [if_neg (by omega)]] at this; exact this
                  go_wp2_with (at_builtin; refine wpList_append_own _ rfl _ _ 76 rfl w.heap.size 3 i0 (.int .i64 0) 1 8 Tryz.underlying76 hi hz0 hz1 hz2 rfl (by decide) _ _ _ rfl (hown.alloc _) _ 1 1 [.int .i64 (V : Int)] rfl rfl ?c1k13 ?c2k13 ?c3k13 ?c4k13 ?c5k13 ?_)
                  try case c1k13 => exact cell_one_new _ _ _
                  case c2k13 => first | (intro u hu; simp at hu; subst hu; rfl) | rfl | (simp; done)
                  case c3k13 => first | (unfold maxLen; omega) | omega
                  case c4k13 => omega
                  case c5k13 => first | omega | (rw [World.size_alloc]; omega)
                  intro v' w1 hown' hg _
                  have hrow : ∀ q, Value.ownBlock u3 = some q → w.heap.size ≤ q := fun q hq => (hown.lt q hq).1
                  have hb1 : Below w.heap.size w w1 := (hbw.alloc hsz _).grown hg (by rw [World.size_alloc]; omega) hrow
                  clear hg hrow hown hbw
                  go_wp2
                  go_roundw
                  case rel =>
                    refine ⟨pos + 2, acc ++ [(V : Int)], by go_num, by omega, ?_, hb1, HR2.out, by simp; omega⟩
                    rw [List.length_append, List.map_append]; exact hown'
                  case measure => simp [intOf]; omega
        · obtain ⟨hn, hmm⟩ := hcase.out
          subst hn
          have HMM : Hid (m = (s[pos]'hp).toNat % 16) := hmm
          clear hmm hcase
          go_wp2_with (go_at_call 41; refine (HCALL.out _).mono ?_; rintro e w' ⟨rfl, rfl⟩)
          go_loop [6, 7] (fun r k => ∃ j : Nat, j + 1 ≤ 3 ∧ k = .int .i64 (j + 1 : Nat) ∧ r = .int .i64 (rpart L m j)) (fun _ k => 3 - (intOf k).toNat)
          case atStart => exact ⟨0, by omega, rfl, by rw [show rpart L m 0 = m from rfl, HMM.out]; simp⟩
          case round =>
            obtain ⟨j, hj, rfl, rfl⟩ := hrel
            have hpl := rpart_le L m hm j (by omega)
            by_cases hjn : j + 1 < 3
            · have hjn' : ((j + 1 : Nat) : Int) < 3 := by omega
              have hpj : pos + (j + 1) < s.size := by omega
              have hbj := HBy.out (j + 1) hpj
              have h256 := byt_lt L (j + 1)
              rw [hbj] at h256
              have a63 := and63 ⟨(s[pos + (j + 1)]'hpj).toNat, h256⟩
              have HST : Hid (rpart L m (j + 1) = rpart L m j * 64 + (s[pos + (j + 1)]'hpj).toNat % 64) := by show _ = _; rw [← hbj]; rfl
              clear hbj a31 a15 a7
              go_wp2
              go_round
              case rel => exact ⟨j + 1, by omega, by go_num, by rw [HST.out]; go_num⟩
              case measure => simp [intOf]; omega
            · obtain rfl : j = 2 := by omega
              obtain ⟨V, hV⟩ : ∃ V, rpart L m 2 = V := ⟨_, rfl⟩
              have HV2 : Hid (V = val L 3) := by show _ = _; rw [← hV]; exact HV.out
              rw [hV] at hpl
              rw [hV]
              clear hV HV hjn hj a31 a15 a7
              by_cases g1 : V < 32
              · have g1' : (V : Int) < 32 := by omega
                by_cases g2 : V = 10
                · have G2 : Hid (V = 10) := g2
                  have g2' : ((V : Int) != 10) = false := by rw [g2]; rfl
                  have HR2 : Hid ((acc ++ [(V : Int)]) ++ runes (s.data.toList.drop (pos + 3)) = runes s.data.toList) := by
                    have := HR.out; rw [← HV2.out, show shownI (V : Int) = V by rw [g2]; rfl] at this; exact this
                  clear g2
                  go_wp2_with (at_builtin; refine wpList_append_own _ rfl _ _ 76 rfl w.heap.size 3 i0 (.int .i64 0) 1 8 Tryz.underlying76 hi hz0 hz1 hz2 rfl (by decide) _ _ _ rfl (hown.alloc _) _ 1 1 [.int .i64 (V : Int)] rfl rfl ?c1k15 ?c2k15 ?c3k15 ?c4k15 ?c5k15 ?_)
                  try case c1k15 => exact cell_one_new _ _ _
                  case c2k15 => first | (intro u hu; simp at hu; subst hu; rfl) | rfl | (simp; done)
                  case c3k15 => first | (unfold maxLen; omega) | omega
                  case c4k15 => omega
                  case c5k15 => first | omega | (rw [World.size_alloc]; omega)
                  intro v' w1 hown' hg _
                  have hrow : ∀ q, Value.ownBlock u3 = some q → w.heap.size ≤ q := fun q hq => (hown.lt q hq).1
                  have hb1 : Below w.heap.size w w1 := (hbw.alloc hsz _).grown hg (by rw [World.size_alloc]; omega) hrow
                  clear hg hrow hown hbw
                  go_wp2
                  go_roundw
                  case rel =>
                    refine ⟨pos + 3, acc ++ [(V : Int)], by go_num, by omega, ?_, hb1, HR2.out, by simp; omega⟩
                    rw [List.length_append, List.map_append]; exact hown'
                  case measure => simp [intOf]; omega
                · have g2' : ((V : Int) != 10) = true := by rw [bne_iff_ne]; omega
                  have HR2 : Hid ((acc ++ [65533]) ++ runes (s.data.toList.drop (pos + 3)) = runes s.data.toList) := by
                    have := HR.out; rw [← HV2.out, show shownI (V : Int) = 65533 by unfold shownI; rw [if_pos (by omega)]] at this; exact this
                  clear g2
                  go_wp2_with (at_builtin; refine wpList_append_own _ rfl _ _ 76 rfl w.heap.size 3 i0 (.int .i64 0) 1 8 Tryz.underlying76 hi hz0 hz1 hz2 rfl (by decide) _ _ _ rfl (hown.alloc _) _ 1 1 [.int .i64 65533] rfl rfl ?c1k16 ?c2k16 ?c3k16 ?c4k16 ?c5k16 ?_)
                  try case c1k16 => exact cell_one_new _ _ _
                  case c2k16 => first | (intro u hu; simp at hu; subst hu; rfl) | rfl | (simp; done)
                  case c3k16 => first | (unfold maxLen; omega) | omega
                  case c4k16 => omega
                  case c5k16 => first | omega | (rw [World.size_alloc]; omega)
                  intro v' w1 hown' hg _
                  have hrow : ∀ q, Value.ownBlock u3 = some q → w.heap.size ≤ q := fun q hq => (hown.lt q hq).1
                  have hb1 : Below w.heap.size w w1 := (hbw.alloc hsz _).grown hg (by rw [World.size_alloc]; omega) hrow
                  clear hg hrow hown hbw
                  go_wp2
                  go_roundw
                  case rel =>
                    refine ⟨pos + 3, acc ++ [65533], by go_num, by omega, ?_, hb1, HR2.out, by simp; omega⟩
                    rw [List.length_append, List.map_append]; exact hown'
                  case measure => simp [intOf]; omega
              · have g1' : ¬ (V : Int) < 32 := by omega
                by_cases g3 : 127 ≤ V
                · have g3' : 127 ≤ (V : Int) := by omega
                  by_cases g4 : V ≤ 159
                  · have g4' : (V : Int) ≤ 159 := by omega
                    have HR2 : Hid ((acc ++ [65533]) ++ runes (s.data.toList.drop (pos + 3)) = runes s.data.toList) := by
                      have := HR.out; rw [← HV2.out, show shownI (V : Int) = 65533 by unfold shownI; rw [if_pos (by omega)]] at this; exact this
                    go_wp2_with (at_builtin; refine wpList_append_own _ rfl _ _ 76 rfl w.heap.size 3 i0 (.int .i64 0) 1 8 Tryz.underlying76 hi hz0 hz1 hz2 rfl (by decide) _ _ _ rfl (hown.alloc _) _ 1 1 [.int .i64 65533] rfl rfl ?c1k17 ?c2k17 ?c3k17 ?c4k17 ?c5k17 ?_)
                    try case c1k17 => exact cell_one_new _ _ _
                    case c2k17 => first | (intro u hu; simp at hu; subst hu; rfl) | rfl | (simp; done)
                    case c3k17 => first | (unfold maxLen; omega) | omega
                    case c4k17 => omega
                    case c5k17 => first | omega | (rw [World.size_alloc]; omega)
                    intro v' w1 hown' hg _
                    have hrow : ∀ q, Value.ownBlock u3 = some q → w.heap.size ≤ q := fun q hq => (hown.lt q hq).1
                    have hb1 : Below w.heap.size w w1 := (hbw.alloc hsz _).grown hg (by rw [World.size_alloc]; omega) hrow
                    clear hg hrow hown hbw
                    go_wp2
                    go_roundw
                    case rel =>
                      refine ⟨pos + 3, acc ++ [65533], by go_num, by omega, ?_, hb1, HR2.out, by simp; omega⟩
                      rw [List.length_append, List.map_append]; exact hown'
                    case measure => simp [intOf]; omega
                  · have g4' : ¬ (V : Int) ≤ 159 := by omega
                    have HR2 : Hid ((acc ++ [(V : Int)]) ++ runes (s.data.toList.drop (pos + 3)) = runes s.data.toList) := by
                      have := HR.out; rw [← HV2.out, show shownI (V : Int) = V by unfold shownI; rw [if_neg (by omega)]] at this; exact this
                    go_wp2_with (at_builtin; refine wpList_append_own _ rfl _ _ 76 rfl w.heap.size 3 i0 (.int .i64 0) 1 8 Tryz.underlying76 hi hz0 hz1 hz2 rfl (by decide) _ _ _ rfl (hown.alloc _) _ 1 1 [.int .i64 (V : Int)] rfl rfl ?c1k18 ?c2k18 ?c3k18 ?c4k18 ?c5k18 ?_)
                    try case c1k18 => exact cell_one_new _ _ _
                    case c2k18 => first | (intro u hu; simp at hu; subst hu; rfl) | rfl | (simp; done)
                    case c3k18 => first | (unfold maxLen; omega) | omega
                    case c4k18 => omega
                    case c5k18 => first | omega | (rw [World.size_alloc]; omega)
                    intro v' w1 hown' hg _
                    have hrow : ∀ q, Value.ownBlock u3 = some q → w.heap.size ≤ q := fun q hq => (hown.lt q hq).1
                    have hb1 : Below w.heap.size w w1 := (hbw.alloc hsz _).grown hg (by rw [World.size_alloc]; omega) hrow
                    clear hg hrow hown hbw
                    go_wp2
                    go_roundw
                    case rel =>
                      refine ⟨pos + 3, acc ++ [(V : Int)], by go_num, by omega, ?_, hb1, HR2.out, by simp; omega⟩
                      rw [List.length_append, List.map_append]; exact hown'
                    case measure => simp [intOf]; omega
                · have g3' : ¬ 127 ≤ (V : Int) := by omega
                  have HR2 : Hid ((acc ++ [(V : Int)]) ++ runes (s.data.toList.drop (pos + 3)) = runes s.data.toList) := by
                    have := HR.out; rw [← HV2.out, show shownI (V : Int) = V by unfold shownI; rw [if_neg (by omega)]] at this; exact this
                  go_wp2_with (at_builtin; refine wpList_append_own _ rfl _ _ 76 rfl w.heap.size 3 i0 (.int .i64 0) 1 8 Tryz.underlying76 hi hz0 hz1 hz2 rfl (by decide) _ _ _ rfl (hown.alloc _) _ 1 1 [.int .i64 (V : Int)] rfl rfl ?c1k19 ?c2k19 ?c3k19 ?c4k19 ?c5k19 ?_)
                  try case c1k19 => exact cell_one_new _ _ _
                  case c2k19 => first | (intro u hu; simp at hu; subst hu; rfl) | rfl | (simp; done)
                  case c3k19 => first | (unfold maxLen; omega) | omega
                  case c4k19 => omega
                  case c5k19 => first | omega | (rw [World.size_alloc]; omega)
                  intro v' w1 hown' hg _
                  have hrow : ∀ q, Value.ownBlock u3 = some q → w.heap.size ≤ q := fun q hq => (hown.lt q hq).1
                  have hb1 : Below w.heap.size w w1 := (hbw.alloc hsz _).grown hg (by rw [World.size_alloc]; omega) hrow
                  clear hg hrow hown hbw
                  go_wp2
                  go_roundw
                  case rel =>
                    refine ⟨pos + 3, acc ++ [(V : Int)], by go_num, by omega, ?_, hb1, HR2.out, by simp; omega⟩
                    rw [List.length_append, List.map_append]; exact hown'
                  case measure => simp [intOf]; omega
        · obtain ⟨hn, hmm⟩ := hcase.out
          subst hn
          have HMM : Hid (m = (s[pos]'hp).toNat % 8) := hmm
          clear hmm hcase
          go_wp2_with (go_at_call 41; refine (HCALL.out _).mono ?_; rintro e w' ⟨rfl, rfl⟩)
          go_loop [6, 7] (fun r k => ∃ j : Nat, j + 1 ≤ 4 ∧ k = .int .i64 (j + 1 : Nat) ∧ r = .int .i64 (rpart L m j)) (fun _ k => 4 - (intOf k).toNat)
          case atStart => exact ⟨0, by omega, rfl, by rw [show rpart L m 0 = m from rfl, HMM.out]; simp⟩
          case round =>
            obtain ⟨j, hj, rfl, rfl⟩ := hrel
            have hpl := rpart_le L m hm j (by omega)
            by_cases hjn : j + 1 < 4
            · have hjn' : ((j + 1 : Nat) : Int) < 4 := by omega
              have hpj : pos + (j + 1) < s.size := by omega
              have hbj := HBy.out (j + 1) hpj
              have h256 := byt_lt L (j + 1)
              rw [hbj] at h256
              have a63 := and63 ⟨(s[pos + (j + 1)]'hpj).toNat, h256⟩
              have HST : Hid (rpart L m (j + 1) = rpart L m j * 64 + (s[pos + (j + 1)]'hpj).toNat % 64) := by show _ = _; rw [← hbj]; rfl
              clear hbj a31 a15 a7
              go_wp2
              go_round
              case rel => exact ⟨j + 1, by omega, by go_num, by rw [HST.out]; go_num⟩
              case measure => simp [intOf]; omega
            · obtain rfl : j = 3 := by omega
              obtain ⟨V, hV⟩ : ∃ V, rpart L m 3 = V := ⟨_, rfl⟩
              have HV2 : Hid (V = val L 4) := by show _ = _; rw [← hV]; exact HV.out
              rw [hV] at hpl
              rw [hV]
              clear hV HV hjn hj a31 a15 a7
              by_cases g1 : V < 32
              · have g1' : (V : Int) < 32 := by omega
                by_cases g2 : V = 10
                · have G2 : Hid (V = 10) := g2
                  have g2' : ((V : Int) != 10) = false := by rw [g2]; rfl
                  have HR2 : Hid ((acc ++ [(V : Int)]) ++ runes (s.data.toList.drop (pos + 4)) = runes s.data.toList) := by
                    have := HR.out; rw [← HV2.out, show shownI (V : Int) = V by rw [g2]; rfl] at this; exact this
                  clear g2
                  go_wp2_with (at_builtin; refine wpList_append_own _ rfl _ _ 76 rfl w.heap.size 3 i0 (.int .i64 0) 1 8 Tryz.underlying76 hi hz0 hz1 hz2 rfl (by decide) _ _ _ rfl (hown.alloc _) _ 1 1 [.int .i64 (V : Int)] rfl rfl ?c1k21 ?c2k21 ?c3k21 ?c4k21 ?c5k21 ?_)
                  try case c1k21 => exact cell_one_new _ _ _
                  case c2k21 => first | (intro u hu; simp at hu; subst hu; rfl) | rfl | (simp; done)
                  case c3k21 => first | (unfold maxLen; omega) | omega
                  case c4k21 => omega
                  case c5k21 => first | omega | (rw [World.size_alloc]; omega)
                  intro v' w1 hown' hg _
                  have hrow : ∀ q, Value.ownBlock u3 = some q → w.heap.size ≤ q := fun q hq => (hown.lt q hq).1
                  have hb1 : Below w.heap.size w w1 := (hbw.alloc hsz _).grown hg (by rw [World.size_alloc]; omega) hrow
                  clear hg hrow hown hbw
                  go_wp2
                  go_roundw
                  case rel =>
                    refine ⟨pos + 4, acc ++ [(V : Int)], by go_num, by omega, ?_, hb1, HR2.out, by simp; omega⟩
                    rw [List.length_append, List.map_append]; exact hown'
                  case measure => simp [intOf]; omega
                · have g2' : ((V : Int) != 10) = true := by rw [bne_iff_ne]; omega
                  have HR2 : Hid ((acc ++ [65533]) ++ runes (s.data.toList.drop (pos + 4)) = runes s.data.toList) := by
                    have := HR.out; rw [← HV2.out, show shownI (V : Int) = 65533 by unfold shownI; rw [if_pos (by omega)]] at this; exact this
                  clear g2
                  go_wp2_with (at_builtin; refine wpList_append_own _ rfl _ _ 76 rfl w.heap.size 3 i0 (.int .i64 0) 1 8 Tryz.underlying76 hi hz0 hz1 hz2 rfl (by decide) _ _ _ rfl (hown.alloc _) _ 1 1 [.int .i64 65533] rfl rfl ?c1k22 ?c2k22 ?c3k22 ?c4k22 ?c5k22 ?_)
                  try case c1k22 => exact cell_one_new _ _ _
                  case c2k22 => first | (intro u hu; simp at hu; subst hu; rfl) | rfl | (simp; done)
                  case c3k22 => first | (unfold maxLen; omega) | omega
                  case c4k22 => omega
                  case c5k22 => first | omega | (rw [World.size_alloc]; omega)
                  intro v' w1 hown' hg _
                  have hrow : ∀ q, Value.ownBlock u3 = some q → w.heap.size ≤ q := fun q hq => (hown.lt q hq).1
                  have hb1 : Below w.heap.size w w1 := (hbw.alloc hsz _).grown hg (by rw [World.size_alloc]; omega) hrow
                  clear hg hrow hown hbw
                  go_wp2
                  go_roundw
                  case rel =>
                    refine ⟨pos + 4, acc ++ [65533], by go_num, by omega, ?_, hb1, HR2.out, by simp; omega⟩
                    rw [List.length_append, List.map_append]; exact hown'
                  case measure => simp [intOf]; omega
              · have g1' : ¬ (V : Int) < 32 := by omega
                by_cases g3 : 127 ≤ V
                · have g3' : 127 ≤ (V : Int) := by omega
                  by_cases g4 : V ≤ 159
                  · have g4' : (V : Int) ≤ 159 := by omega
                    have HR2 : Hid ((acc ++ [65533]) ++ runes (s.data.toList.drop (pos + 4)) = runes s.data.toList) := by
                      have := HR.out; rw [← HV2.out, show shownI (V : Int) = 65533 by unfold shownI; rw [if_pos (by omega)]] at this; exact this
                    go_wp2_with (at_builtin; refine wpList_append_own _ rfl _ _ 76 rfl w.heap.size 3 i0 (.int .i64 0) 1 8 Tryz.underlying76 hi hz0 hz1 hz2 rfl (by decide) _ _ _ rfl (hown.alloc _) _ 1 1 [.int .i64 65533] rfl rfl ?c1k23 ?c2k23 ?c3k23 ?c4k23 ?c5k23 ?_)
                    try case c1k23 => exact cell_one_new _ _ _
                    case c2k23 => first | (intro u hu; simp at hu; subst hu; rfl) | rfl | (simp; done)
                    case c3k23 => first | (unfold maxLen; omega) | omega
                    case c4k23 => omega
                    case c5k23 => first | omega | (rw [World.size_alloc]; omega)
                    intro v' w1 hown' hg _
                    have hrow : ∀ q, Value.ownBlock u3 = some q → w.heap.size ≤ q := fun q hq => (hown.lt q hq).1
                    have hb1 : Below w.heap.size w w1 := (hbw.alloc hsz _).grown hg (by rw [World.size_alloc]; omega) hrow
                    clear hg hrow hown hbw
                    go_wp2
                    go_roundw
                    case rel =>
                      refine ⟨pos + 4, acc ++ [65533], by go_num, by omega, ?_, hb1, HR2.out, by simp; omega⟩
                      rw [List.length_append, List.map_append]; exact hown'
                    case measure => simp [intOf]; omega
                  · have g4' : ¬ (V : Int) ≤ 159 := by omega
                    have HR2 : Hid ((acc ++ [(V : Int)]) ++ runes (s.data.toList.drop (pos + 4)) = runes s.data.toList) := by
                      have := HR.out; rw [← HV2.out, show shownI (V : Int) = V by unfold shownI; rw [if_neg (by omega)]] at this; exact this
                    go_wp2_with (at_builtin; refine wpList_append_own _ rfl _ _ 76 rfl w.heap.size 3 i0 (.int .i64 0) 1 8 Tryz.underlying76 hi hz0 hz1 hz2 rfl (by decide) _ _ _ rfl (hown.alloc _) _ 1 1 [.int .i64 (V : Int)] rfl rfl ?c1k24 ?c2k24 ?c3k24 ?c4k24 ?c5k24 ?_)
                    try case c1k24 => exact cell_one_new _ _ _
                    case c2k24 => first | (intro u hu; simp at hu; subst hu; rfl) | rfl | (simp; done)
                    case c3k24 => first | (unfold maxLen; omega) | omega
                    case c4k24 => omega
                    case c5k24 => first | omega | (rw [World.size_alloc]; omega)
                    intro v' w1 hown' hg _
                    have hrow : ∀ q, Value.ownBlock u3 = some q → w.heap.size ≤ q := fun q hq => (hown.lt q hq).1
                    have hb1 : Below w.heap.size w w1 := (hbw.alloc hsz _).grown hg (by rw [World.size_alloc]; omega) hrow
                    clear hg hrow hown hbw
                    go_wp2
                    go_roundw
                    case rel =>
                      refine ⟨pos + 4, acc ++ [(V : Int)], by go_num, by omega, ?_, hb1, HR2.out, by simp; omega⟩
                      rw [List.length_append, List.map_append]; exact hown'
                    case measure => simp [intOf]; omega
                · have g3' : ¬ 127 ≤ (V : Int) := by omega
                  have HR2 : Hid ((acc ++ [(V : Int)]) ++ runes (s.data.toList.drop (pos + 4)) = runes s.data.toList) := by
                    have := HR.out; rw [← HV2.out, show shownI (V : Int) = V by unfold shownI; rw [if_neg (by omega)]] at this; exact this
                  go_wp2_with (at_builtin; refine wpList_append_own _ rfl _ _ 76 rfl w.heap.size 3 i0 (.int .i64 0) 1 8 Tryz.underlying76 hi hz0 hz1 hz2 rfl (by decide) _ _ _ rfl (hown.alloc _) _ 1 1 [.int .i64 (V : Int)] rfl rfl ?c1k25 ?c2k25 ?c3k25 ?c4k25 ?c5k25 ?_)
                  try case c1k25 => exact cell_one_new _ _ _
                  case c2k25 => first | (intro u hu; simp at hu; subst hu; rfl) | rfl | (simp; done)
                  case c3k25 => first | (unfold maxLen; omega) | omega
                  case c4k25 => omega
                  case c5k25 => first | omega | (rw [World.size_alloc]; omega)
                  intro v' w1 hown' hg _
                  have hrow : ∀ q, Value.ownBlock u3 = some q → w.heap.size ≤ q := fun q hq => (hown.lt q hq).1
                  have hb1 : Below w.heap.size w w1 := (hbw.alloc hsz _).grown hg (by rw [World.size_alloc]; omega) hrow
                  clear hg hrow hown hbw
                  go_wp2
                  go_roundw
                  case rel =>
                    refine ⟨pos + 4, acc ++ [(V : Int)], by go_num, by omega, ?_, hb1, HR2.out, by simp; omega⟩
                    rw [List.length_append, List.map_append]; exact hown'
                  case measure => simp [intOf]; omega
    · have hlt' : ¬ (pos : Int) < (s.size : Int) := by omega
      have he : runes (s.data.toList.drop pos) = [] := by
        rw [List.drop_eq_nil_of_le (by rw [Array.length_toList]; exact Nat.le_of_not_lt hp), runes_nil]
      rw [he, List.append_nil] at hacc
      subst hacc
      clear he
      go_wp2
      go_ret
      exact ⟨_, rfl, hown, hbw⟩

end Go.Proofs.YtkdajaphbmclkaaGreatDoor
