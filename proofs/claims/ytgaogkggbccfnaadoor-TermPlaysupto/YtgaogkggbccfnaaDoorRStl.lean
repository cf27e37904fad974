/-
  The walk of paneref.Decode.
-/
import Derived.Test.YtgaogkggbccfnaaDoorSeq
import Derived.Test.YtgaogkggbccfnaaDoorDec
import Derived.Test.YtgaogkggbccfnaaDoorYApl
import Derived.Test.YtgaogkggbccfnaaDoorCCel
import Derived.Test.YtgaogkggbccfnaaDoorBRfa
import Derived.Test.YtgaogkggbccfnaaDoorYNum
import Derived.Test.YtgaogkggbccfnaaDoorRPrt
import Derived.Test.YtgaogkggbccfnaaDoorWritten
import Derived.Test.YtgaogkggbccfnaaDoorMFul
namespace Go.Proofs.YtgaogkggbccfnaaDoor
open Go.RowKit
set_option linter.unusedVariables false

theorem and31 : ∀ c : Fin 256, bits .and .i64 ((c.val : Nat) : Int) 31 = ((c.val % 32 : Nat) : Int) := by decide +kernel
theorem and15 : ∀ c : Fin 256, bits .and .i64 ((c.val : Nat) : Int) 15 = ((c.val % 16 : Nat) : Int) := by decide +kernel
theorem and7 : ∀ c : Fin 256, bits .and .i64 ((c.val : Nat) : Int) 7 = ((c.val % 8 : Nat) : Int) := by decide +kernel
theorem and63 : ∀ c : Fin 256, bits .and .u8 ((c.val : Nat) : Int) 63 = ((c.val % 64 : Nat) : Int) := by decide +kernel

/-- A sequence's value, byte by byte: behind j further bytes. -/
def rpart (l : List UInt8) (m : Nat) : Nat → Nat
  | 0 => m
  | j + 1 => rpart l m j * 64 + byt l (j + 1) % 64
theorem rpart_le (l : List UInt8) (m : Nat) (hm : m < 256) (j : Nat) (hj : j ≤ 3) : rpart l m j < 67108864 := by
  have h1 : rpart l m 0 = m := rfl
  have h2 : rpart l m 1 = m * 64 + byt l 1 % 64 := rfl
  have h3 : rpart l m 2 = (m * 64 + byt l 1 % 64) * 64 + byt l 2 % 64 := rfl
  have h4 : rpart l m 3 = ((m * 64 + byt l 1 % 64) * 64 + byt l 2 % 64) * 64 + byt l 3 % 64 := rfl
  obtain rfl | rfl | rfl | rfl : j = 0 ∨ j = 1 ∨ j = 2 ∨ j = 3 := by omega
  all_goals omega
theorem rpart_val (l : List UInt8) (n m : Nat) (hn : n = 1 ∧ m = byt l 0 ∨ n = 2 ∧ m = byt l 0 % 32 ∨ n = 3 ∧ m = byt l 0 % 16 ∨ n = 4 ∧ m = byt l 0 % 8) : rpart l m (n - 1) = val l n := by
  rcases hn with ⟨rfl, rfl⟩ | ⟨rfl, rfl⟩ | ⟨rfl, rfl⟩ | ⟨rfl, rfl⟩
  · rfl
  · rfl
  · show (byt l 0 % 16 * 64 + byt l 1 % 64) * 64 + byt l 2 % 64 = byt l 0 % 16 * 4096 + (byt l 1 % 64) * 64 + byt l 2 % 64
    omega
  · show ((byt l 0 % 8 * 64 + byt l 1 % 64) * 64 + byt l 2 % 64) * 64 + byt l 3 % 64 = byt l 0 % 8 * 262144 + (byt l 1 % 64) * 4096 + (byt l 2 % 64) * 64 + byt l 3 % 64
    omega

/-- A right sequence lies within its text. -/
theorem seq_within (l : List UInt8) (hl : l ≠ []) : seq l ≤ l.length := by
  have h1 : 0 < l.length := List.length_pos_iff.2 hl
  have nb := n_bd (byt l 0)
  unfold seq
  by_cases a : byt l 0 < 0x80
  · rw [if_pos a]; omega
  · rw [if_neg a]
    by_cases b : byt l 0 < 0xC2 ∨ 0xF4 < byt l 0
    · rw [if_pos b]; omega
    · rw [if_neg b]
      by_cases m1 : mor l 1 (seqLo (byt l 0)) (seqHi (byt l 0)) = false
      · rw [if_pos m1]; omega
      · rw [if_neg m1]
        have k1 := ((mor_iff _ _ _ _).1 (by simpa using m1)).1
        by_cases m2 : 2 < seqN (byt l 0) ∧ mor l 2 0x80 0xBF = false
        · rw [if_pos m2]; omega
        · rw [if_neg m2]
          by_cases m3 : 3 < seqN (byt l 0) ∧ mor l 3 0x80 0xBF = false
          · rw [if_pos m3]; omega
          · rw [if_neg m3]
            have k2 : 2 < seqN (byt l 0) → 2 < l.length := fun q => ((mor_iff _ _ _ _).1 (by cases h : mor l 2 0x80 0xBF; exact absurd ⟨q, h⟩ m2; rfl)).1
            have k3 : 3 < seqN (byt l 0) → 3 < l.length := fun q => ((mor_iff _ _ _ _).1 (by cases h : mor l 3 0x80 0xBF; exact absurd ⟨q, h⟩ m3; rfl)).1
            omega

theorem step_bad {s : ByteArray} {pos : Nat} {acc : List Int} (hp : pos < s.size) (h : acc ++ runes (s.data.toList.drop pos) = runes s.data.toList) (hq : seq (s.data.toList.drop pos) = 0) :
    (acc ++ [65533]) ++ runes (s.data.toList.drop (pos + 1)) = runes s.data.toList := by
  have hdd : dec (s.data.toList.drop pos) = (65533, 1) := by rw [dec_seq, if_pos hq]
  rw [← h, runes_step (drop_ne_nil hp), hdd, List.drop_drop]; simp [shownI]
theorem step_good {s : ByteArray} {pos : Nat} {acc : List Int} (hp : pos < s.size) (h : acc ++ runes (s.data.toList.drop pos) = runes s.data.toList) (n : Nat) (hq : seq (s.data.toList.drop pos) = n) (hn : n ≠ 0) :
    (acc ++ [shownI (val (s.data.toList.drop pos) n)]) ++ runes (s.data.toList.drop (pos + n)) = runes s.data.toList := by
  have hdd : dec (s.data.toList.drop pos) = (val (s.data.toList.drop pos) n, n) := by rw [dec_seq, if_neg (by rw [hq]; exact hn), hq]
  rw [← h, runes_step (drop_ne_nil hp), hdd, List.drop_drop]; simp

set_option maxRecDepth 100000 in
set_option maxHeartbeats 4000000 in
theorem rDecode_any (s : ByteArray) (w : World) (hs : s.size ≤ 17592186044416) :
    Calls Tryd.prog 32 #[.string s] w fun e w' => ∃ v, e = .returned v ∧ w'.ownsRow w.heap.size 3 1 v (runes s.data.toList).length ((runes s.data.toList).map (Value.int .i64)) ∧ Below w.heap.size w w' := by
  obtain ⟨i0, hi, hz0, hz1, hz2⟩ := info_parts info3
  go_enter Tryd.func32, Tryd.ntmps32
  go_wp2
  go_loopw [3, 4] (fun v i wr => ∃ (pos : Nat) (acc : List Int), i = .int .i64 pos ∧ pos ≤ s.size ∧ wr.ownsRow w.heap.size 3 1 v acc.length (acc.map (Value.int .i64)) ∧ Below w.heap.size w wr ∧ acc ++ runes (s.data.toList.drop pos) = runes s.data.toList ∧ acc.length ≤ pos) (fun _ i _ => s.size - (intOf i).toNat)
  case atStart => exact ⟨0, [], rfl, Nat.zero_le _, World.ownsRow_nil _ _ _ _, Below.refl _ _, rfl, Nat.le_refl _⟩
  case round =>
    obtain ⟨pos, acc, rfl, hps, hown, hbw, hacc, hal⟩ := hrel
    have hsz := hbw.size
    by_cases hp : pos < s.size
    · have hlt' : (pos : Int) < (s.size : Int) := by omega
      have hsw := seq_within _ (drop_ne_nil hp)
      rw [List.length_drop, len_data] at hsw
      have hs4 := seq_le (s.data.toList.drop pos)
      obtain ⟨n, hn⟩ : ∃ n, seq (s.data.toList.drop pos) = n := ⟨_, rfl⟩
      rw [hn] at hsw hs4
      have hcall := sequence_any s pos hp (by omega)
      rw [hn] at hcall
      have HCALL : Hid (∀ w, Calls Tryd.prog 31 #[.string s, .int .i64 pos] w fun e w' => e = .returned (.int .i64 n) ∧ w' = w) := hcall
      clear hcall
      have hb0 : byt (s.data.toList.drop pos) 0 = (s[pos]'hp).toNat := by rw [byt_drop]; exact byt_at s pos hp
      have HB : Hid (byt (s.data.toList.drop pos) 0 = (s[pos]'hp).toNat) := hb0
      have hc256 := byt_lt (s.data.toList.drop pos) 0
      rw [hb0] at hc256
      clear hb0
      by_cases h0 : n = 0
      · have HR : Hid ((acc ++ [65533]) ++ runes (s.data.toList.drop (pos + 1)) = runes s.data.toList) := step_bad hp hacc (by rw [hn]; exact h0)
        subst h0
        clear hacc hn hsw hs4 HB hc256
        go_wp2_with (first | (go_at_call 31; refine (HCALL.out _).mono ?_; rintro e w' ⟨rfl, rfl⟩) | (at_builtin; refine wpList_append_own _ rfl _ _ 27 rfl w.heap.size 3 i0 (.int .i64 0) 1 8 Tryd.underlying27 hi hz0 hz1 hz2 rfl (by decide) _ _ _ rfl (hown.alloc _) _ 1 1 [.int .i64 65533] rfl rfl ?c1k1 ?c2k1 ?c3k1 ?c4k1 ?c5k1 ?_))
        try case c1k1 => exact cell_one_new _ _ _
        case c2k1 => first | (intro u hu; simp at hu; subst hu; rfl) | rfl | (simp; done)
        case c3k1 => first | (unfold maxLen; omega) | omega
        case c4k1 => omega
        case c5k1 => first | omega | (rw [World.size_alloc]; omega)
        intro v' w1 hown' hg _
        have hrow : ∀ q, Value.ownBlock u3 = some q → w.heap.size ≤ q := fun q hq => (hown.lt q hq).1
        have hb1 : Below w.heap.size w w1 := (hbw.alloc hsz _).grown hg (by rw [World.size_alloc]; omega) hrow
        clear hg hrow hown hbw
        go_wp2
        go_roundw
        case rel =>
          refine ⟨pos + 1, acc ++ [65533], by go_num, by omega, ?_, hb1, HR.out, by simp; omega⟩
          rw [List.length_append, List.map_append]; exact hown'
        case measure => simp [intOf]; omega
      · have HR : Hid ((acc ++ [shownI (val (s.data.toList.drop pos) n)]) ++ runes (s.data.toList.drop (pos + n)) = runes s.data.toList) := step_good hp hacc n hn h0
        clear hacc hn
        obtain ⟨m, hm, hmv⟩ : ∃ m : Nat, m < 256 ∧ (n = 1 ∧ m = (s[pos]'hp).toNat ∨ n = 2 ∧ m = (s[pos]'hp).toNat % 32 ∨ n = 3 ∧ m = (s[pos]'hp).toNat % 16 ∨ n = 4 ∧ m = (s[pos]'hp).toNat % 8) := by
          obtain h | h | h | h : n = 1 ∨ n = 2 ∨ n = 3 ∨ n = 4 := by omega
          · exact ⟨(s[pos]'hp).toNat, by omega, .inl ⟨h, rfl⟩⟩
          · exact ⟨(s[pos]'hp).toNat % 32, by omega, .inr (.inl ⟨h, rfl⟩)⟩
          · exact ⟨(s[pos]'hp).toNat % 16, by omega, .inr (.inr (.inl ⟨h, rfl⟩))⟩
          · exact ⟨(s[pos]'hp).toNat % 8, by omega, .inr (.inr (.inr ⟨h, rfl⟩))⟩
        have HV : Hid (rpart (s.data.toList.drop pos) m (n - 1) = val (s.data.toList.drop pos) n) := rpart_val _ n m (by rw [HB.out]; exact hmv)
        obtain ⟨L, hL⟩ : ∃ L, s.data.toList.drop pos = L := ⟨_, rfl⟩
        have HBy : Hid (∀ j (h : pos + j < s.size), byt L j = (s[pos + j]'h).toNat) := by
          intro j h; rw [← hL, byt_drop]; exact byt_at s (pos + j) h
        rw [hL] at HR HV HB
        have a31 := and31 ⟨(s[pos]'hp).toNat, hc256⟩
        have a15 := and15 ⟨(s[pos]'hp).toNat, hc256⟩
        have a7 := and7 ⟨(s[pos]'hp).toNat, hc256⟩
        clear hL HB
        have first : ∀ (Z : Prop), (Hid (n = 1 ∧ m = (s[pos]'hp).toNat) → Z) → (Hid (n = 2 ∧ m = (s[pos]'hp).toNat % 32) → Z) → (Hid (n = 3 ∧ m = (s[pos]'hp).toNat % 16) → Z) → (Hid (n = 4 ∧ m = (s[pos]'hp).toNat % 8) → Z) → Z := by
          intro Z z1 z2 z3 z4
          rcases hmv with h | h | h | h
          · exact z1 h
          · exact z2 h
          · exact z3 h
          · exact z4 h
        clear hmv
        apply first <;> clear first <;> intro hcase
        · obtain ⟨hn, hmm⟩ := hcase.out
          subst hn
          have HMM : Hid (m = (s[pos]'hp).toNat) := hmm
          clear hmm hcase
          go_wp2_with (go_at_call 31; refine (HCALL.out _).mono ?_; rintro e w' ⟨rfl, rfl⟩)
          go_loop [6, 7] (fun r k => ∃ j : Nat, j + 1 ≤ 1 ∧ k = .int .i64 (j + 1 : Nat) ∧ r = .int .i64 (rpart L m j)) (fun _ k => 1 - (intOf k).toNat)
          case atStart => exact ⟨0, by omega, rfl, by rw [show rpart L m 0 = m from rfl, HMM.out]⟩
          case round =>
            obtain ⟨j, hj, rfl, rfl⟩ := hrel
            have hpl := rpart_le L m hm j (by omega)
            by_cases hjn : j + 1 < 1
            · exact absurd hjn (by omega)
            · obtain rfl : j = 0 := by omega
              obtain ⟨V, hV⟩ : ∃ V, rpart L m 0 = V := ⟨_, rfl⟩
              have HV2 : Hid (V = val L 1) := by show _ = _; rw [← hV]; exact HV.out
              rw [hV] at hpl
              rw [hV]
              clear hV HV hjn hj a31 a15 a7
              by_cases g1 : V < 32
              · have g1' : (V : Int) < 32 := by omega
                by_cases g2 : V = 10
                · have G2 : Hid (V = 10) := g2
                  have g2' : ((V : Int) != 10) = false := by rw [g2]; rfl
                  have HR2 : Hid ((acc ++ [(V : Int)]) ++ runes (s.data.toList.drop (pos + 1)) = runes s.data.toList) := by
                    have := HR.out; rw [← HV2.out, show shownI (V : Int) = V by rw [g2]; rfl] at this; exact this
                  clear g2
                  go_wp2_with (at_builtin; refine wpList_append_own _ rfl _ _ 27 rfl w.heap.size 3 i0 (.int .i64 0) 1 8 Tryd.underlying27 hi hz0 hz1 hz2 rfl (by decide) _ _ _ rfl (hown.alloc _) _ 1 1 [.int .i64 (V : Int)] rfl rfl ?c1k3 ?c2k3 ?c3k3 ?c4k3 ?c5k3 ?_)
                  try case c1k3 => exact cell_one_new _ _ _
                  case c2k3 => first | (intro u hu; simp at hu; subst hu; rfl) | rfl | (simp; done)
                  case c3k3 => first | (unfold maxLen; omega) | omega
                  case c4k3 => omega
                  case c5k3 => first | omega | (rw [World.size_alloc]; omega)
                  intro v' w1 hown' hg _
                  have hrow : ∀ q, Value.ownBlock u3 = some q → w.heap.size ≤ q := fun q hq => (hown.lt q hq).1
                  have hb1 : Below w.heap.size w w1 := (hbw.alloc hsz _).grown hg (by rw [World.size_alloc]; omega) hrow
                  clear hg hrow hown hbw
                  go_wp2
                  go_roundw
                  case rel =>
                    refine ⟨pos + 1, acc ++ [(V : Int)], by go_num, by omega, ?_, hb1, HR2.out, by simp; omega⟩
                    rw [List.length_append, List.map_append]; exact hown'
                  case measure => simp [intOf]; omega
                · have g2' : ((V : Int) != 10) = true := by rw [bne_iff_ne]; omega
                  have HR2 : Hid ((acc ++ [65533]) ++ runes (s.data.toList.drop (pos + 1)) = runes s.data.toList) := by
                    have := HR.out; rw [← HV2.out, show shownI (V : Int) = 65533 by unfold shownI; rw [if_pos (by omega)]] at this; exact this
                  clear g2
                  go_wp2_with (at_builtin; refine wpList_append_own _ rfl _ _ 27 rfl w.heap.size 3 i0 (.int .i64 0) 1 8 Tryd.underlying27 hi hz0 hz1 hz2 rfl (by decide) _ _ _ rfl (hown.alloc _) _ 1 1 [.int .i64 65533] rfl rfl ?c1k4 ?c2k4 ?c3k4 ?c4k4 ?c5k4 ?_)
                  try case c1k4 => exact cell_one_new _ _ _
                  case c2k4 => first | (intro u hu; simp at hu; subst hu; rfl) | rfl | (simp; done)
                  case c3k4 => first | (unfold maxLen; omega) | omega
                  case c4k4 => omega
                  case c5k4 => first | omega | (rw [World.size_alloc]; omega)
                  intro v' w1 hown' hg _
                  have hrow : ∀ q, Value.ownBlock u3 = some q → w.heap.size ≤ q := fun q hq => (hown.lt q hq).1
                  have hb1 : Below w.heap.size w w1 := (hbw.alloc hsz _).grown hg (by rw [World.size_alloc]; omega) hrow
                  clear hg hrow hown hbw
                  go_wp2
                  go_roundw
                  case rel =>
                    refine ⟨pos + 1, acc ++ [65533], by go_num, by omega, ?_, hb1, HR2.out, by simp; omega⟩
                    rw [List.length_append, List.map_append]; exact hown'
                  case measure => simp [intOf]; omega
              · have g1' : ¬ (V : Int) < 32 := by omega
                by_cases g3 : 127 ≤ V
                · have g3' : 127 ≤ (V : Int) := by omega
                  by_cases g4 : V ≤ 159
                  · have g4' : (V : Int) ≤ 159 := by omega
                    have HR2 : Hid ((acc ++ [65533]) ++ runes (s.data.toList.drop (pos + 1)) = runes s.data.toList) := by
                      have := HR.out; rw [← HV2.out, show shownI (V : Int) = 65533 by unfold shownI; rw [if_pos (by omega)]] at this; exact this
                    go_wp2_with (at_builtin; refine wpList_append_own _ rfl _ _ 27 rfl w.heap.size 3 i0 (.int .i64 0) 1 8 Tryd.underlying27 hi hz0 hz1 hz2 rfl (by decide) _ _ _ rfl (hown.alloc _) _ 1 1 [.int .i64 65533] rfl rfl ?c1k5 ?c2k5 ?c3k5 ?c4k5 ?c5k5 ?_)
                    try case c1k5 => exact cell_one_new _ _ _
                    case c2k5 => first | (intro u hu; simp at hu; subst hu; rfl) | rfl | (simp; done)
                    case c3k5 => first | (unfold maxLen; omega) | omega
                    case c4k5 => omega
                    case c5k5 => first | omega | (rw [World.size_alloc]; omega)
                    intro v' w1 hown' hg _
                    have hrow : ∀ q, Value.ownBlock u3 = some q → w.heap.size ≤ q := fun q hq => (hown.lt q hq).1
                    have hb1 : Below w.heap.size w w1 := (hbw.alloc hsz _).grown hg (by rw [World.size_alloc]; omega) hrow
                    clear hg hrow hown hbw
                    go_wp2
                    go_roundw
                    case rel =>
                      refine ⟨pos + 1, acc ++ [65533], by go_num, by omega, ?_, hb1, HR2.out, by simp; omega⟩
                      rw [List.length_append, List.map_append]; exact hown'
                    case measure => simp [intOf]; omega
                  · have g4' : ¬ (V : Int) ≤ 159 := by omega
                    have HR2 : Hid ((acc ++ [(V : Int)]) ++ runes (s.data.toList.drop (pos + 1)) = runes s.data.toList) := by
                      have := HR.out; rw [← HV2.out, show shownI (V : Int) = V by unfold shownI; rw [if_neg (by omega)]] at this; exact this
                    go_wp2_with (at_builtin; refine wpList_append_own _ rfl _ _ 27 rfl w.heap.size 3 i0 (.int .i64 0) 1 8 Tryd.underlying27 hi hz0 hz1 hz2 rfl (by decide) _ _ _ rfl (hown.alloc _) _ 1 1 [.int .i64 (V : Int)] rfl rfl ?c1k6 ?c2k6 ?c3k6 ?c4k6 ?c5k6 ?_)
                    try case c1k6 => exact cell_one_new _ _ _
                    case c2k6 => first | (intro u hu; simp at hu; subst hu; rfl) | rfl | (simp; done)
                    case c3k6 => first | (unfold maxLen; omega) | omega
                    case c4k6 => omega
                    case c5k6 => first | omega | (rw [World.size_alloc]; omega)
                    intro v' w1 hown' hg _
                    have hrow : ∀ q, Value.ownBlock u3 = some q → w.heap.size ≤ q := fun q hq => (hown.lt q hq).1
                    have hb1 : Below w.heap.size w w1 := (hbw.alloc hsz _).grown hg (by rw [World.size_alloc]; omega) hrow
                    clear hg hrow hown hbw
                    go_wp2
                    go_roundw
                    case rel =>
                      refine ⟨pos + 1, acc ++ [(V : Int)], by go_num, by omega, ?_, hb1, HR2.out, by simp; omega⟩
                      rw [List.length_append, List.map_append]; exact hown'
                    case measure => simp [intOf]; omega
                · have g3' : ¬ 127 ≤ (V : Int) := by omega
                  have HR2 : Hid ((acc ++ [(V : Int)]) ++ runes (s.data.toList.drop (pos + 1)) = runes s.data.toList) := by
                    have := HR.out; rw [← HV2.out, show shownI (V : Int) = V by unfold shownI; rw [if_neg (by omega)]] at this; exact this
                  go_wp2_with (at_builtin; refine wpList_append_own _ rfl _ _ 27 rfl w.heap.size 3 i0 (.int .i64 0) 1 8 Tryd.underlying27 hi hz0 hz1 hz2 rfl (by decide) _ _ _ rfl (hown.alloc _) _ 1 1 [.int .i64 (V : Int)] rfl rfl ?c1k7 ?c2k7 ?c3k7 ?c4k7 ?c5k7 ?_)
                  try case c1k7 => exact cell_one_new _ _ _
                  case c2k7 => first | (intro u hu; simp at hu; subst hu; rfl) | rfl | (simp; done)
                  case c3k7 => first | (unfold maxLen; omega) | omega
                  case c4k7 => omega
                  case c5k7 => first | omega | (rw [World.size_alloc]; omega)
                  intro v' w1 hown' hg _
                  have hrow : ∀ q, Value.ownBlock u3 = some q → w.heap.size ≤ q := fun q hq => (hown.lt q hq).1
                  have hb1 : Below w.heap.size w w1 := (hbw.alloc hsz _).grown hg (by rw [World.size_alloc]; omega) hrow
                  clear hg hrow hown hbw
                  go_wp2
                  go_roundw
                  case rel =>
                    refine ⟨pos + 1, acc ++ [(V : Int)], by go_num, by omega, ?_, hb1, HR2.out, by simp; omega⟩
                    rw [List.length_append, List.map_append]; exact hown'
                  case measure => simp [intOf]; omega
        · obtain ⟨hn, hmm⟩ := hcase.out
          subst hn
          have HMM : Hid (m = (s[pos]'hp).toNat % 32) := hmm
          clear hmm hcase
          go_wp2_with (go_at_call 31; refine (HCALL.out _).mono ?_; rintro e w' ⟨rfl, rfl⟩)
          go_loop [6, 7] (fun r k => ∃ j : Nat, j + 1 ≤ 2 ∧ k = .int .i64 (j + 1 : Nat) ∧ r = .int .i64 (rpart L m j)) (fun _ k => 2 - (intOf k).toNat)
          case atStart => exact ⟨0, by omega, rfl, by rw [show rpart L m 0 = m from rfl, HMM.out]; simp⟩
          case round =>
            obtain ⟨j, hj, rfl, rfl⟩ := hrel
            have hpl := rpart_le L m hm j (by omega)
            by_cases hjn : j + 1 < 2
            · have hjn' : ((j + 1 : Nat) : Int) < 2 := by omega
              have hpj : pos + (j + 1) < s.size := by omega
              have hbj := HBy.out (j + 1) hpj
              have h256 := byt_lt L (j + 1)
              rw [hbj] at h256
              have a63 := and63 ⟨(s[pos + (j + 1)]'hpj).toNat, h256⟩
              have HST : Hid (rpart L m (j + 1) = rpart L m j * 64 + (s[pos + (j + 1)]'hpj).toNat % 64) := by show _ = _; rw [← hbj]; rfl
              clear hbj a31 a15 a7
              go_wp2
              go_round
              case rel => exact ⟨j + 1, by omega, by go_num, by rw [HST.out]; go_num⟩
              case measure => simp [intOf]; omega
            · obtain rfl : j = 1 := by omega
              obtain ⟨V, hV⟩ : ∃ V, rpart L m 1 = V := ⟨_, rfl⟩
              have HV2 : Hid (V = val L 2) := by show _ = _; rw [← hV]; exact HV.out
              rw [hV] at hpl
              rw [hV]
              clear hV HV hjn hj a31 a15 a7
              by_cases g1 : V < 32
              · have g1' : (V : Int) < 32 := by omega
                by_cases g2 : V = 10
                · have G2 : Hid (V = 10) := g2
                  have g2' : ((V : Int) != 10) = false := by rw [g2]; rfl
                  have HR2 : Hid ((acc ++ [(V : Int)]) ++ runes (s.data.toList.drop (pos + 2)) = runes s.data.toList) := by
                    have := HR.out; rw [← HV2.out, show shownI (V : Int) = V by rw [g2]; rfl] at this; exact this
                  clear g2
                  go_wp2_with (at_builtin; refine wpList_append_own _ rfl _ _ 27 rfl w.heap.size 3 i0 (.int .i64 0) 1 8 Tryd.underlying27 hi hz0 hz1 hz2 rfl (by decide) _ _ _ rfl (hown.alloc _) _ 1 1 [.int .i64 (V : Int)] rfl rfl ?c1k9 ?c2k9 ?c3k9 ?c4k9 ?c5k9 ?_)
                  try case c1k9 => exact cell_one_new _ _ _
                  case c2k9 => first | (intro u hu; simp at hu; subst hu; rfl) | rfl | (simp; done)
                  case c3k9 => first | (unfold maxLen; omega) | omega
                  case c4k9 => omega
                  case c5k9 => first | omega | (rw [World.size_alloc]; omega)
                  intro v' w1 hown' hg _
                  have hrow : ∀ q, Value.ownBlock u3 = some q → w.heap.size ≤ q := fun q hq => (hown.lt q hq).1
                  have hb1 : Below w.heap.size w w1 := (hbw.alloc hsz _).grown hg (by rw [World.size_alloc]; omega) hrow
                  clear hg hrow hown hbw
                  go_wp2
                  go_roundw
                  case rel =>
                    refine ⟨pos + 2, acc ++ [(V : Int)], by go_num, by omega, ?_, hb1, HR2.out, by simp; omega⟩
                    rw [List.length_append, List.map_append]; exact hown'
                  case measure => simp [intOf]; omega
                · have g2' : ((V : Int) != 10) = true := by rw [bne_iff_ne]; omega
                  have HR2 : Hid ((acc ++ [65533]) ++ runes (s.data.toList.drop (pos + 2)) = runes s.data.toList) := by
                    have := HR.out; rw [← HV2.out, show shownI (V : Int) = 65533 by unfold shownI; rw [if_pos (by omega)]] at this; exact this
                  clear g2
                  go_wp2_with (at_builtin; refine wpList_append_own _ rfl _ _ 27 rfl w.heap.size 3 i0 (.int .i64 0) 1 8 Tryd.underlying27 hi hz0 hz1 hz2 rfl (by decide) _ _ _ rfl (hown.alloc _) _ 1 1 [.int .i64 65533] rfl rfl ?c1k10 ?c2k10 ?c3k10 ?c4k10 ?c5k10 ?_)
                  try case c1k10 => exact cell_one_new _ _ _
                  case c2k10 => first | (intro u hu; simp at hu; subst hu; rfl) | rfl | (simp; done)
                  case c3k10 => first | (unfold maxLen; omega) | omega
                  case c4k10 => omega
                  case c5k10 => first | omega | (rw [World.size_alloc]; omega)
                  intro v' w1 hown' hg _
                  have hrow : ∀ q, Value.ownBlock u3 = some q → w.heap.size ≤ q := fun q hq => (hown.lt q hq).1
                  have hb1 : Below w.heap.size w w1 := (hbw.alloc hsz _).grown hg (by rw [World.size_alloc]; omega) hrow
                  clear hg hrow hown hbw
                  go_wp2
                  go_roundw
                  case rel =>
                    refine ⟨pos + 2, acc ++ [65533], by go_num, by omega, ?_, hb1, HR2.out, by simp; omega⟩
                    rw [List.length_append, List.map_append]; exact hown'
                  case measure => simp [intOf]; omega
              · have g1' : ¬ (V : Int) < 32 := by omega
                by_cases g3 : 127 ≤ V
                · have g3' : 127 ≤ (V : Int) := by omega
                  by_cases g4 : V ≤ 159
                  · have g4' : (V : Int) ≤ 159 := by omega
                    have HR2 : Hid ((acc ++ [65533]) ++ runes (s.data.toList.drop (pos + 2)) = runes s.data.toList) := by
                      have := HR.out; rw [← HV2.out, show shownI (V : Int) = 65533 by unfold shownI; rw [if_pos (by omega)]] at this; exact this
                    go_wp2_with (at_builtin; refine wpList_append_own _ rfl _ _ 27 rfl w.heap.size 3 i0 (.int .i64 0) 1 8 Tryd.underlying27 hi hz0 hz1 hz2 rfl (by decide) _ _ _ rfl (hown.alloc _) _ 1 1 [.int .i64 65533] rfl rfl ?c1k11 ?c2k11 ?c3k11 ?c4k11 ?c5k11 ?_)
                    try case c1k11 => exact cell_one_new _ _ _
                    case c2k11 => first | (intro u hu; simp at hu; subst hu; rfl) | rfl | (simp; done)
                    case c3k11 => first | (unfold maxLen; omega) | omega
                    case c4k11 => omega
                    case c5k11 => first | omega | (rw [World.size_alloc]; omega)
                    intro v' w1 hown' hg _
                    have hrow : ∀ q, Value.ownBlock u3 = some q → w.heap.size ≤ q := fun q hq => (hown.lt q hq).1
                    have hb1 : Below w.heap.size w w1 := (hbw.alloc hsz _).grown hg (by rw [World.size_alloc]; omega) hrow
                    clear hg hrow hown hbw
                    go_wp2
                    go_roundw
                    case rel =>
                      refine ⟨pos + 2, acc ++ [65533], by go_num, by omega, ?_, hb1, HR2.out, by simp; omega⟩
                      rw [List.length_append, List.map_append]; exact hown'
                    case measure => simp [intOf]; omega
                  · have g4' : ¬ (V : Int) ≤ 159 := by omega
                    have HR2 : Hid ((acc ++ [(V : Int)]) ++ runes (s.data.toList.drop (pos + 2)) = runes s.data.toList) := by
                      have := HR.out; rw [← HV2.out, show shownI (V : Int) = V by unfold shownI; rw [if_neg (by omega)]] at this; exact this
                    go_wp2_with (at_builtin; refine wpList_append_own _ rfl _ _ 27 rfl w.heap.size 3 i0 (.int .i64 0) 1 8 Tryd.underlying27 hi hz0 hz1 hz2 rfl (by decide) _ _ _ rfl (hown.alloc _) _ 1 1 [.int .i64 (V : Int)] rfl rfl ?c1k12 ?c2k12 ?c3k12 ?c4k12 ?c5k12 ?_)
                    try case c1k12 => exact cell_one_new _ _ _
                    case c2k12 => first | (intro u hu; simp at hu; subst hu; rfl) | rfl | (simp; done)
                    case c3k12 => first | (unfold maxLen; omega) | omega
                    case c4k12 => omega
                    case c5k12 => first | omega | (rw [World.size_alloc]; omega)
                    intro v' w1 hown' hg _
                    have hrow : ∀ q, Value.ownBlock u3 = some q → w.heap.size ≤ q := fun q hq => (hown.lt q hq).1
                    have hb1 : Below w.heap.size w w1 := (hbw.alloc hsz _).grown hg (by rw [World.size_alloc]; omega) hrow
                    clear hg hrow hown hbw
                    go_wp2
                    go_roundw
                    case rel =>
                      refine ⟨pos + 2, acc ++ [(V : Int)], by go_num, by omega, ?_, hb1, HR2.out, by simp; omega⟩
                      rw [List.length_append, List.map_append]; exact hown'
                    case measure => simp [intOf]; omega
                · have g3' : ¬ 127 ≤ (V : Int) := by omega
                  have HR2 : Hid ((acc ++ [(V : Int)]) ++ runes (s.data.toList.drop (pos + 2)) = runes s.data.toList) := by
                    have := HR.out; rw [← HV2.out, show shownI (V : Int) = V by unfold shownI; rw [if_neg (by omega)]] at this; exact this
                  go_wp2_with (at_builtin; refine wpList_append_own _ rfl _ _ 27 rfl w.heap.size 3 i0 (.int .i64 0) 1 8 Tryd.underlying27 hi hz0 hz1 hz2 rfl (by decide) _ _ _ rfl (hown.alloc _) _ 1 1 [.int .i64 (V : Int)] rfl rfl ?c1k13 ?c2k13 ?c3k13 ?c4k13 ?c5k13 ?_)
                  try case c1k13 => exact cell_one_new _ _ _
                  case c2k13 => first | (intro u hu; simp at hu; subst hu; rfl) | rfl | (simp; done)
                  case c3k13 => first | (unfold maxLen; omega) | omega
                  case c4k13 => omega
                  case c5k13 => first | omega | (rw [World.size_alloc]; omega)
                  intro v' w1 hown' hg _
                  have hrow : ∀ q, Value.ownBlock u3 = some q → w.heap.size ≤ q := fun q hq => (hown.lt q hq).1
                  have hb1 : Below w.heap.size w w1 := (hbw.alloc hsz _).grown hg (by rw [World.size_alloc]; omega) hrow
                  clear hg hrow hown hbw
                  go_wp2
                  go_roundw
                  case rel =>
                    refine ⟨pos + 2, acc ++ [(V : Int)], by go_num, by omega, ?_, hb1, HR2.out, by simp; omega⟩
                    rw [List.length_append, List.map_append]; exact hown'
                  case measure => simp [intOf]; omega
        · obtain ⟨hn, hmm⟩ := hcase.out
          subst hn
          have HMM : Hid (m = (s[pos]'hp).toNat % 16) := hmm
          clear hmm hcase
          go_wp2_with (go_at_call 31; refine (HCALL.out _).mono ?_; rintro e w' ⟨rfl, rfl⟩)
          go_loop [6, 7] (fun r k => ∃ j : Nat, j + 1 ≤ 3 ∧ k = .int .i64 (j + 1 : Nat) ∧ r = .int .i64 (rpart L m j)) (fun _ k => 3 - (intOf k).toNat)
          case atStart => exact ⟨0, by omega, rfl, by rw [show rpart L m 0 = m from rfl, HMM.out]; simp⟩
          case round =>
            obtain ⟨j, hj, rfl, rfl⟩ := hrel
            have hpl := rpart_le L m hm j (by omega)
            by_cases hjn : j + 1 < 3
            · have hjn' : ((j + 1 : Nat) : Int) < 3 := by omega
              have hpj : pos + (j + 1) < s.size := by omega
              have hbj := HBy.out (j + 1) hpj
              have h256 := byt_lt L (j + 1)
              rw [hbj] at h256
              have a63 := and63 ⟨(s[pos + (j + 1)]'hpj).toNat, h256⟩
              have HST : Hid (rpart L m (j + 1) = rpart L m j * 64 + (s[pos + (j + 1)]'hpj).toNat % 64) := by show _ = _; rw [← hbj]; rfl
              clear hbj a31 a15 a7
              go_wp2
              go_round
              case rel => exact ⟨j + 1, by omega, by go_num, by rw [HST.out]; go_num⟩
              case measure => simp [intOf]; omega
            · obtain rfl : j = 2 := by omega
              obtain ⟨V, hV⟩ : ∃ V, rpart L m 2 = V := ⟨_, rfl⟩
              have HV2 : Hid (V = val L 3) := by show _ = _; rw [← hV]; exact HV.out
              rw [hV] at hpl
              rw [hV]
              clear hV HV hjn hj a31 a15 a7
              by_cases g1 : V < 32
              · have g1' : (V : Int) < 32 := by omega
                by_cases g2 : V = 10
                · have G2 : Hid (V = 10) := g2
                  have g2' : ((V : Int) != 10) = false := by rw [g2]; rfl
                  have HR2 : Hid ((acc ++ [(V : Int)]) ++ runes (s.data.toList.drop (pos + 3)) = runes s.data.toList) := by
                    have := HR.out; rw [← HV2.out, show shownI (V : Int) = V by rw [g2]; rfl] at this; exact this
                  clear g2
                  go_wp2_with (at_builtin; refine wpList_append_own _ rfl _ _ 27 rfl w.heap.size 3 i0 (.int .i64 0) 1 8 Tryd.underlying27 hi hz0 hz1 hz2 rfl (by decide) _ _ _ rfl (hown.alloc _) _ 1 1 [.int .i64 (V : Int)] rfl rfl ?c1k15 ?c2k15 ?c3k15 ?c4k15 ?c5k15 ?_)
                  try case c1k15 => exact cell_one_new _ _ _
                  case c2k15 => first | (intro u hu; simp at hu; subst hu; rfl) | rfl | (simp; done)
                  case c3k15 => first | (unfold maxLen; omega) | omega
                  case c4k15 => omega
                  case c5k15 => first | omega | (rw [World.size_alloc]; omega)
                  intro v' w1 hown' hg _
                  have hrow : ∀ q, Value.ownBlock u3 = some q → w.heap.size ≤ q := fun q hq => (hown.lt q hq).1
                  have hb1 : Below w.heap.size w w1 := (hbw.alloc hsz _).grown hg (by rw [World.size_alloc]; omega) hrow
                  clear hg hrow hown hbw
                  go_wp2
                  go_roundw
                  case rel =>
                    refine ⟨pos + 3, acc ++ [(V : Int)], by go_num, by omega, ?_, hb1, HR2.out, by simp; omega⟩
                    rw [List.length_append, List.map_append]; exact hown'
                  case measure => simp [intOf]; omega
                · have g2' : ((V : Int) != 10) = true := by rw [bne_iff_ne]; omega
                  have HR2 : Hid ((acc ++ [65533]) ++ runes (s.data.toList.drop (pos + 3)) = runes s.data.toList) := by
                    have := HR.out; rw [← HV2.out, show shownI (V : Int) = 65533 by unfold shownI; rw [if_pos (by omega)]] at this; exact this
                  clear g2
                  go_wp2_with (at_builtin; refine wpList_append_own _ rfl _ _ 27 rfl w.heap.size 3 i0 (.int .i64 0) 1 8 Tryd.underlying27 hi hz0 hz1 hz2 rfl (by decide) _ _ _ rfl (hown.alloc _) _ 1 1 [.int .i64 65533] rfl rfl ?c1k16 ?c2k16 ?c3k16 ?c4k16 ?c5k16 ?_)
                  try case c1k16 => exact cell_one_new _ _ _
                  case c2k16 => first | (intro u hu; simp at hu; subst hu; rfl) | rfl | (simp; done)
                  case c3k16 => first | (unfold maxLen; omega) | omega
                  case c4k16 => omega
                  case c5k16 => first | omega | (rw [World.size_alloc]; omega)
                  intro v' w1 hown' hg _
                  have hrow : ∀ q, Value.ownBlock u3 = some q → w.heap.size ≤ q := fun q hq => (hown.lt q hq).1
                  have hb1 : Below w.heap.size w w1 := (hbw.alloc hsz _).grown hg (by rw [World.size_alloc]; omega) hrow
                  clear hg hrow hown hbw
                  go_wp2
                  go_roundw
                  case rel =>
                    refine ⟨pos + 3, acc ++ [65533], by go_num, by omega, ?_, hb1, HR2.out, by simp; omega⟩
                    rw [List.length_append, List.map_append]; exact hown'
                  case measure => simp [intOf]; omega
              · have g1' : ¬ (V : Int) < 32 := by omega
                by_cases g3 : 127 ≤ V
                · have g3' : 127 ≤ (V : Int) := by omega
                  by_cases g4 : V ≤ 159
                  · have g4' : (V : Int) ≤ 159 := by omega
                    have HR2 : Hid ((acc ++ [65533]) ++ runes (s.data.toList.drop (pos + 3)) = runes s.data.toList) := by
                      have := HR.out; rw [← HV2.out, show shownI (V : Int) = 65533 by unfold shownI; rw [if_pos (by omega)]] at this; exact this
                    go_wp2_with (at_builtin; refine wpList_append_own _ rfl _ _ 27 rfl w.heap.size 3 i0 (.int .i64 0) 1 8 Tryd.underlying27 hi hz0 hz1 hz2 rfl (by decide) _ _ _ rfl (hown.alloc _) _ 1 1 [.int .i64 65533] rfl rfl ?c1k17 ?c2k17 ?c3k17 ?c4k17 ?c5k17 ?_)
                    try case c1k17 => exact cell_one_new _ _ _
                    case c2k17 => first | (intro u hu; simp at hu; subst hu; rfl) | rfl | (simp; done)
                    case c3k17 => first | (unfold maxLen; omega) | omega
                    case c4k17 => omega
                    case c5k17 => first | omega | (rw [World.size_alloc]; omega)
                    intro v' w1 hown' hg _
                    have hrow : ∀ q, Value.ownBlock u3 = some q → w.heap.size ≤ q := fun q hq => (hown.lt q hq).1
                    have hb1 : Below w.heap.size w w1 := (hbw.alloc hsz _).grown hg (by rw [World.size_alloc]; omega) hrow
                    clear hg hrow hown hbw
                    go_wp2
                    go_roundw
                    case rel =>
                      refine ⟨pos + 3, acc ++ [65533], by go_num, by omega, ?_, hb1, HR2.out, by simp; omega⟩
                      rw [List.length_append, List.map_append]; exact hown'
                    case measure => simp [intOf]; omega
                  · have g4' : ¬ (V : Int) ≤ 159 := by omega
                    have HR2 : Hid ((acc ++ [(V : Int)]) ++ runes (s.data.toList.drop (pos + 3)) = runes s.data.toList) := by
                      have := HR.out; rw [← HV2.out, show shownI (V : Int) = V by unfold shownI; rw [if_neg (by omega)]] at this; exact this
                    go_wp2_with (at_builtin; refine wpList_append_own _ rfl _ _ 27 rfl w.heap.size 3 i0 (.int .i64 0) 1 8 Tryd.underlying27 hi hz0 hz1 hz2 rfl (by decide) _ _ _ rfl (hown.alloc _) _ 1 1 [.int .i64 (V : Int)] rfl rfl ?c1k18 ?c2k18 ?c3k18 ?c4k18 ?c5k18 ?_)
                    try case c1k18 => exact cell_one_new _ _ _
                    case c2k18 => first | (intro u hu; simp at hu; subst hu; rfl) | rfl | (simp; done)
                    case c3k18 => first | (unfold maxLen; omega) | omega
                    case c4k18 => omega
                    case c5k18 => first | omega | (rw [World.size_alloc]; omega)
                    intro v' w1 hown' hg _
                    have hrow : ∀ q, Value.ownBlock u3 = some q → w.heap.size ≤ q := fun q hq => (hown.lt q hq).1
                    have hb1 : Below w.heap.size w w1 := (hbw.alloc hsz _).grown hg (by rw [World.size_alloc]; omega) hrow
                    clear hg hrow hown hbw
                    go_wp2
                    go_roundw
                    case rel =>
                      refine ⟨pos + 3, acc ++ [(V : Int)], by go_num, by omega, ?_, hb1, HR2.out, by simp; omega⟩
                      rw [List.length_append, List.map_append]; exact hown'
                    case measure => simp [intOf]; omega
                · have g3' : ¬ 127 ≤ (V : Int) := by omega
                  have HR2 : Hid ((acc ++ [(V : Int)]) ++ runes (s.data.toList.drop (pos + 3)) = runes s.data.toList) := by
                    have := HR.out; rw [← HV2.out, show shownI (V : Int) = V by unfold shownI; rw [if_neg (by omega)]] at this; exact this
                  go_wp2_with (at_builtin; refine wpList_append_own _ rfl _ _ 27 rfl w.heap.size 3 i0 (.int .i64 0) 1 8 Tryd.underlying27 hi hz0 hz1 hz2 rfl (by decide) _ _ _ rfl (hown.alloc _) _ 1 1 [.int .i64 (V : Int)] rfl rfl ?c1k19 ?c2k19 ?c3k19 ?c4k19 ?c5k19 ?_)
                  try case c1k19 => exact cell_one_new _ _ _
                  case c2k19 => first | (intro u hu; simp at hu; subst hu; rfl) | rfl | (simp; done)
                  case c3k19 => first | (unfold maxLen; omega) | omega
                  case c4k19 => omega
                  case c5k19 => first | omega | (rw [World.size_alloc]; omega)
                  intro v' w1 hown' hg _
                  have hrow : ∀ q, Value.ownBlock u3 = some q → w.heap.size ≤ q := fun q hq => (hown.lt q hq).1
                  have hb1 : Below w.heap.size w w1 := (hbw.alloc hsz _).grown hg (by rw [World.size_alloc]; omega) hrow
                  clear hg hrow hown hbw
                  go_wp2
                  go_roundw
                  case rel =>
                    refine ⟨pos + 3, acc ++ [(V : Int)], by go_num, by omega, ?_, hb1, HR2.out, by simp; omega⟩
                    rw [List.length_append, List.map_append]; exact hown'
                  case measure => simp [intOf]; omega
        · obtain ⟨hn, hmm⟩ := hcase.out
          subst hn
          have HMM : Hid (m = (s[pos]'hp).toNat % 8) := hmm
          clear hmm hcase
          go_wp2_with (go_at_call 31; refine (HCALL.out _).mono ?_; rintro e w' ⟨rfl, rfl⟩)
          go_loop [6, 7] (fun r k => ∃ j : Nat, j + 1 ≤ 4 ∧ k = .int .i64 (j + 1 : Nat) ∧ r = .int .i64 (rpart L m j)) (fun _ k => 4 - (intOf k).toNat)
          case atStart => exact ⟨0, by omega, rfl, by rw [show rpart L m 0 = m from rfl, HMM.out]; simp⟩
          case round =>
            obtain ⟨j, hj, rfl, rfl⟩ := hrel
            have hpl := rpart_le L m hm j (by omega)
            by_cases hjn : j + 1 < 4
            · have hjn' : ((j + 1 : Nat) : Int) < 4 := by omega
              have hpj : pos + (j + 1) < s.size := by omega
              have hbj := HBy.out (j + 1) hpj
              have h256 := byt_lt L (j + 1)
              rw [hbj] at h256
              have a63 := and63 ⟨(s[pos + (j + 1)]'hpj).toNat, h256⟩
              have HST : Hid (rpart L m (j + 1) = rpart L m j * 64 + (s[pos + (j + 1)]'hpj).toNat % 64) := by show _ = _; rw [← hbj]; rfl
              clear hbj a31 a15 a7
              go_wp2
              go_round
              case rel => exact ⟨j + 1, by omega, by go_num, by rw [HST.out]; go_num⟩
              case measure => simp [intOf]; omega
            · obtain rfl : j = 3 := by omega
              obtain ⟨V, hV⟩ : ∃ V, rpart L m 3 = V := ⟨_, rfl⟩
              have HV2 : Hid (V = val L 4) := by show _ = _; rw [← hV]; exact HV.out
              rw [hV] at hpl
              rw [hV]
              clear hV HV hjn hj a31 a15 a7
              by_cases g1 : V < 32
              · have g1' : (V : Int) < 32 := by omega
                by_cases g2 : V = 10
                · have G2 : Hid (V = 10) := g2
                  have g2' : ((V : Int) != 10) = false := by rw [g2]; rfl
                  have HR2 : Hid ((acc ++ [(V : Int)]) ++ runes (s.data.toList.drop (pos + 4)) = runes s.data.toList) := by
                    have := HR.out; rw [← HV2.out, show shownI (V : Int) = V by rw [g2]; rfl] at this; exact this
                  clear g2
                  go_wp2_with (at_builtin; refine wpList_append_own _ rfl _ _ 27 rfl w.heap.size 3 i0 (.int .i64 0) 1 8 Tryd.underlying27 hi hz0 hz1 hz2 rfl (by decide) _ _ _ rfl (hown.alloc _) _ 1 1 [.int .i64 (V : Int)] rfl rfl ?c1k21 ?c2k21 ?c3k21 ?c4k21 ?c5k21 ?_)
                  try case c1k21 => exact cell_one_new _ _ _
                  case c2k21 => first | (intro u hu; simp at hu; subst hu; rfl) | rfl | (simp; done)
                  case c3k21 => first | (unfold maxLen; omega) | omega
                  case c4k21 => omega
                  case c5k21 => first | omega | (rw [World.size_alloc]; omega)
                  intro v' w1 hown' hg _
                  have hrow : ∀ q, Value.ownBlock u3 = some q → w.heap.size ≤ q := fun q hq => (hown.lt q hq).1
                  have hb1 : Below w.heap.size w w1 := (hbw.alloc hsz _).grown hg (by rw [World.size_alloc]; omega) hrow
                  clear hg hrow hown hbw
                  go_wp2
                  go_roundw
                  case rel =>
                    refine ⟨pos + 4, acc ++ [(V : Int)], by go_num, by omega, ?_, hb1, HR2.out, by simp; omega⟩
                    rw [List.length_append, List.map_append]; exact hown'
                  case measure => simp [intOf]; omega
                · have g2' : ((V : Int) != 10) = true := by rw [bne_iff_ne]; omega
                  have HR2 : Hid ((acc ++ [65533]) ++ runes (s.data.toList.drop (pos + 4)) = runes s.data.toList) := by
                    have := HR.out; rw [← HV2.out, show shownI (V : Int) = 65533 by unfold shownI; rw [if_pos (by omega)]] at this; exact this
                  clear g2
                  go_wp2_with (at_builtin; refine wpList_append_own _ rfl _ _ 27 rfl w.heap.size 3 i0 (.int .i64 0) 1 8 Tryd.underlying27 hi hz0 hz1 hz2 rfl (by decide) _ _ _ rfl (hown.alloc _) _ 1 1 [.int .i64 65533] rfl rfl ?c1k22 ?c2k22 ?c3k22 ?c4k22 ?c5k22 ?_)
                  try case c1k22 => exact cell_one_new _ _ _
                  case c2k22 => first | (intro u hu; simp at hu; subst hu; rfl) | rfl | (simp; done)
                  case c3k22 => first | (unfold maxLen; omega) | omega
                  case c4k22 => omega
                  case c5k22 => first | omega | (rw [World.size_alloc]; omega)
                  intro v' w1 hown' hg _
                  have hrow : ∀ q, Value.ownBlock u3 = some q → w.heap.size ≤ q := fun q hq => (hown.lt q hq).1
                  have hb1 : Below w.heap.size w w1 := (hbw.alloc hsz _).grown hg (by rw [World.size_alloc]; omega) hrow
                  clear hg hrow hown hbw
                  go_wp2
                  go_roundw
                  case rel =>
                    refine ⟨pos + 4, acc ++ [65533], by go_num, by omega, ?_, hb1, HR2.out, by simp; omega⟩
                    rw [List.length_append, List.map_append]; exact hown'
                  case measure => simp [intOf]; omega
              · have g1' : ¬ (V : Int) < 32 := by omega
                by_cases g3 : 127 ≤ V
                · have g3' : 127 ≤ (V : Int) := by omega
                  by_cases g4 : V ≤ 159
                  · have g4' : (V : Int) ≤ 159 := by omega
                    have HR2 : Hid ((acc ++ [65533]) ++ runes (s.data.toList.drop (pos + 4)) = runes s.data.toList) := by
                      have := HR.out; rw [← HV2.out, show shownI (V : Int) = 65533 by unfold shownI; rw [if_pos (by omega)]] at this; exact this
                    go_wp2_with (at_builtin; refine wpList_append_own _ rfl _ _ 27 rfl w.heap.size 3 i0 (.int .i64 0) 1 8 Tryd.underlying27 hi hz0 hz1 hz2 rfl (by decide) _ _ _ rfl (hown.alloc _) _ 1 1 [.int .i64 65533] rfl rfl ?c1k23 ?c2k23 ?c3k23 ?c4k23 ?c5k23 ?_)
                    try case c1k23 => exact cell_one_new _ _ _
                    case c2k23 => first | (intro u hu; simp at hu; subst hu; rfl) | rfl | (simp; done)
                    case c3k23 => first | (unfold maxLen; omega) | omega
                    case c4k23 => omega
                    case c5k23 => first | omega | (rw [World.size_alloc]; omega)
                    intro v' w1 hown' hg _
                    have hrow : ∀ q, Value.ownBlock u3 = some q → w.heap.size ≤ q := fun q hq => (hown.lt q hq).1
                    have hb1 : Below w.heap.size w w1 := (hbw.alloc hsz _).grown hg (by rw [World.size_alloc]; omega) hrow
                    clear hg hrow hown hbw
                    go_wp2
                    go_roundw
                    case rel =>
                      refine ⟨pos + 4, acc ++ [65533], by go_num, by omega, ?_, hb1, HR2.out, by simp; omega⟩
                      rw [List.length_append, List.map_append]; exact hown'
                    case measure => simp [intOf]; omega
                  · have g4' : ¬ (V : Int) ≤ 159 := by omega
                    have HR2 : Hid ((acc ++ [(V : Int)]) ++ runes (s.data.toList.drop (pos + 4)) = runes s.data.toList) := by
                      have := HR.out; rw [← HV2.out, show shownI (V : Int) = V by unfold shownI; rw [if_neg (by omega)]] at this; exact this
                    go_wp2_with (at_builtin; refine wpList_append_own _ rfl _ _ 27 rfl w.heap.size 3 i0 (.int .i64 0) 1 8 Tryd.underlying27 hi hz0 hz1 hz2 rfl (by decide) _ _ _ rfl (hown.alloc _) _ 1 1 [.int .i64 (V : Int)] rfl rfl ?c1k24 ?c2k24 ?c3k24 ?c4k24 ?c5k24 ?_)
                    try case c1k24 => exact cell_one_new _ _ _
                    case c2k24 => first | (intro u hu; simp at hu; subst hu; rfl) | rfl | (simp; done)
                    case c3k24 => first | (unfold maxLen; omega) | omega
                    case c4k24 => omega
                    case c5k24 => first | omega | (rw [World.size_alloc]; omega)
                    intro v' w1 hown' hg _
                    have hrow : ∀ q, Value.ownBlock u3 = some q → w.heap.size ≤ q := fun q hq => (hown.lt q hq).1
                    have hb1 : Below w.heap.size w w1 := (hbw.alloc hsz _).grown hg (by rw [World.size_alloc]; omega) hrow
                    clear hg hrow hown hbw
                    go_wp2
                    go_roundw
                    case rel =>
                      refine ⟨pos + 4, acc ++ [(V : Int)], by go_num, by omega, ?_, hb1, HR2.out, by simp; omega⟩
                      rw [List.length_append, List.map_append]; exact hown'
                    case measure => simp [intOf]; omega
                · have g3' : ¬ 127 ≤ (V : Int) := by omega
                  have HR2 : Hid ((acc ++ [(V : Int)]) ++ runes (s.data.toList.drop (pos + 4)) = runes s.data.toList) := by
                    have := HR.out; rw [← HV2.out, show shownI (V : Int) = V by unfold shownI; rw [if_neg (by omega)]] at this; exact this
                  go_wp2_with (at_builtin; refine wpList_append_own _ rfl _ _ 27 rfl w.heap.size 3 i0 (.int .i64 0) 1 8 Tryd.underlying27 hi hz0 hz1 hz2 rfl (by decide) _ _ _ rfl (hown.alloc _) _ 1 1 [.int .i64 (V : Int)] rfl rfl ?c1k25 ?c2k25 ?c3k25 ?c4k25 ?c5k25 ?_)
                  try case c1k25 => exact cell_one_new _ _ _
                  case c2k25 => first | (intro u hu; simp at hu; subst hu; rfl) | rfl | (simp; done)
                  case c3k25 => first | (unfold maxLen; omega) | omega
                  case c4k25 => omega
                  case c5k25 => first | omega | (rw [World.size_alloc]; omega)
                  intro v' w1 hown' hg _
                  have hrow : ∀ q, Value.ownBlock u3 = some q → w.heap.size ≤ q := fun q hq => (hown.lt q hq).1
                  have hb1 : Below w.heap.size w w1 := (hbw.alloc hsz _).grown hg (by rw [World.size_alloc]; omega) hrow
                  clear hg hrow hown hbw
                  go_wp2
                  go_roundw
                  case rel =>
                    refine ⟨pos + 4, acc ++ [(V : Int)], by go_num, by omega, ?_, hb1, HR2.out, by simp; omega⟩
                    rw [List.length_append, List.map_append]; exact hown'
                  case measure => simp [intOf]; omega
    · have hlt' : ¬ (pos : Int) < (s.size : Int) := by omega
      have he : runes (s.data.toList.drop pos) = [] := by
        rw [List.drop_eq_nil_of_le (by rw [Array.length_toList]; exact Nat.le_of_not_lt hp), runes_nil]
      rw [he, List.append_nil] at hacc
      subst hacc
      clear he
      go_wp2
      go_ret
      exact ⟨_, rfl, hown, hbw⟩

end Go.Proofs.YtgaogkggbccfnaaDoor

namespace Go.Proofs.YtgaogkggbccfnaaDoor
open Go.RowKit Go.Sort
set_option linter.unusedVariables false

set_option maxRecDepth 100000 in
set_option maxHeartbeats 4000000 in
theorem rApplied_any (f g b n : Int) (w : World) : Calls Tryd.prog 78 #[sv f g b, .int .i64 n] w fun e w' => e = .returned (sv (apf n f) (apg n g) (apb n b)) ∧ Gr w w' := by
  by_cases h0 : n = 0
  · subst h0
    unfold sv
    go_enter Tryd.func78, Tryd.ntmps78
    go_wp2
    refine bodyPost_ret (v := sv 0 0 0) (by simp [results, Tryd.results78, go_sem, sv]) rfl ?_
    exact ⟨by rfl, ((Gr.refl w).alloc _).alloc _⟩
  by_cases h1 : n = 1
  · subst h1
    unfold sv
    go_enter Tryd.func78, Tryd.ntmps78
    go_wp2
    refine bodyPost_ret (v := sv f g 1) (by simp [results, Tryd.results78, go_sem, sv]) rfl ?_
    exact ⟨by rfl, ((Gr.refl w).alloc _).alloc _⟩
  by_cases h2 : n = 22
  · subst h2
    unfold sv
    go_enter Tryd.func78, Tryd.ntmps78
    go_wp2
    refine bodyPost_ret (v := sv f g 0) (by simp [results, Tryd.results78, go_sem, sv]) rfl ?_
    exact ⟨by rfl, ((Gr.refl w).alloc _).alloc _⟩
  by_cases h3 : n = 39
  · subst h3
    unfold sv
    go_enter Tryd.func78, Tryd.ntmps78
    go_wp2
    refine bodyPost_ret (v := sv 0 g b) (by simp [results, Tryd.results78, go_sem, sv]) rfl ?_
    exact ⟨by rfl, ((Gr.refl w).alloc _).alloc _⟩
  by_cases h4 : n = 49
  · subst h4
    unfold sv
    go_enter Tryd.func78, Tryd.ntmps78
    go_wp2
    refine bodyPost_ret (v := sv f 0 b) (by simp [results, Tryd.results78, go_sem, sv]) rfl ?_
    exact ⟨by rfl, ((Gr.refl w).alloc _).alloc _⟩
  by_cases h5 : 30 ≤ n ∧ n ≤ 37
  · rw [apf_in f h5, apg_no g h0 h4 (by omega), apb_no b h0 h1 h2]
    have q1 : 30 ≤ n := by omega
    have q2 : n ≤ 37 := by omega
    have q3 : ¬ 40 ≤ n := by omega
    unfold sv
    go_enter Tryd.func78, Tryd.ntmps78
    go_wp2
    refine bodyPost_ret (v := sv (n - 29) g b) (by simp [results, Tryd.results78, go_sem, sv]) rfl ?_
    exact ⟨by rfl, ((Gr.refl w).alloc _).alloc _⟩
  by_cases h6 : 40 ≤ n ∧ n ≤ 47
  · rw [apf_no f h0 h3 h5, apg_in g h6, apb_no b h0 h1 h2]
    have q1 : 40 ≤ n := by omega
    have q2 : n ≤ 47 := by omega
    have q3 : ¬ n ≤ 37 := by omega
    have q4 : 30 ≤ n := by omega
    unfold sv
    go_enter Tryd.func78, Tryd.ntmps78
    go_wp2
    refine bodyPost_ret (v := sv f (n - 39) b) (by simp [results, Tryd.results78, go_sem, sv]) rfl ?_
    exact ⟨by rfl, ((Gr.refl w).alloc _).alloc _⟩
  rw [apf_no f h0 h3 h5, apg_no g h0 h4 h6, apb_no b h0 h1 h2]
  unfold sv
  go_enter Tryd.func78, Tryd.ntmps78
  go_wp2
  all_goals
    refine bodyPost_ret (v := sv f g b) (by simp [results, Tryd.results78, go_sem, sv]) rfl ?_
    exact ⟨by rfl, ((Gr.refl w).alloc _).alloc _⟩

set_option maxRecDepth 100000 in
set_option maxHeartbeats 4000000 in
theorem rApply_none (f g b : Int) (a : Option Addr) (cap : Nat) (w : World) : Calls Tryd.prog 59 #[sv f g b, .slice a 0 cap] w fun e w' => e = .returned (sv 0 0 0) ∧ Gr w w' := by
  have CC : Hid (∀ f g b w, Calls Tryd.prog 63 #[sv f g b] w fun e w' => e = .returned (sv (kn f) (kn g) (bo b)) ∧ Gr w w') := sound_any
  unfold sv at CC ⊢
  go_enter Tryd.func59, Tryd.ntmps59
  go_wp2_with fail
  obtain ⟨S, hS⟩ : ∃ x, w.heap.size = x := ⟨_, rfl⟩
  obtain ⟨W0, hW0⟩ : ∃ x, (w.alloc (.cells #[.int .i64 f, .int .i64 g, .int .i64 b] 64)).alloc (.cells #[.int .i64 0, .int .i64 0, .int .i64 0] 64) = x := ⟨_, rfl⟩
  have G0 : Hid (Gr w W0) := by rw [← hW0]; exact ((Gr.refl w).alloc _).alloc _
  have RA : Hid (R3 64 W0 S f g b) := by rw [← hW0, ← hS]; exact (R3.new w _ _ _ _).gr ((Gr.refl _).alloc _)
  have RC : Hid (R3 64 W0 (S + 1) 0 0 0) := by
    have := R3.new (w.alloc (.cells #[.int .i64 f, .int .i64 g, .int .i64 b] 64)) 0 0 0 64
    simp only [World.size_alloc, hS] at this
    rw [← hW0]; exact this
  rw [hW0, hS]
  clear hW0
  have HS : Hid (w.heap.size = S) := hS
  clear hS
  refine (CC.out _ _ _ _).mono ?_
  rintro e w1 ⟨rfl, g1⟩
  have RA1 := RA.out.gr g1
  have RC1 := RC.out.gr g1
  have RA2 := RA1.set (kn f) (kn g) (bo b)
  have RC2 := RC1.others (k := S) (by omega) (.int .i64 (kn f)) (.int .i64 (kn g)) (.int .i64 (bo b))
  have GG : Hid (Gr w _) := (G0.out.trans g1).set3 (k := S) (by rw [HS.out]; omega) (.int .i64 (kn f)) (.int .i64 (kn g)) (.int .i64 (bo b))
  have a0 := RA1.c0
  have a1 := RA1.c1
  have a2 := RA1.c2
  have f0 := RA1.fz 0
  have f1 := RA1.fz 1
  have f2 := RA1.fz 2
  have c0 := RC2.c0
  have c1 := RC2.c1
  have c2 := RC2.c2
  have k0 := RC2.fz 0
  have k1 := RC2.fz 1
  have k2 := RC2.fz 2
  go_wp2
  refine bodyPost_ret (results_cell_row rfl _ _ (S + 1) _ _ _ _ rfl (RC2.set _ _ _) Tryd.underlying64 rfl (by kernel_rfl)) rfl ?_
  exact ⟨rfl, GG.out.set3 (by rw [HS.out]; omega) _ _ _⟩

set_option maxRecDepth 100000 in
set_option maxHeartbeats 4000000 in
theorem rApply_some (f g b : Int) (zs : List Int) (B off cap : Nat) (w : World) (hp : 0 < zs.length) (hB : B < w.heap.size) (hc : ∀ j, j < zs.length → w.cell? ⟨B, off + j, none⟩ = some (.int .i64 (zs[j]?.getD 0))) (hlen : zs.length ≤ 17592186044416) :
    Calls Tryd.prog 59 #[sv f g b, .slice (some ⟨B, off, none⟩) zs.length cap] w fun e w' => e = .returned (sv (apF zs (kn f)) (apG zs (kn g)) (apB zs (bo b))) ∧ Gr w w' := by
  have HC : Hid (∀ j, j < zs.length → w.cell? ⟨B, off + j, none⟩ = some (.int .i64 (zs[j]?.getD 0))) := hc
  clear hc
  have CC : Hid (∀ f g b w, Calls Tryd.prog 63 #[sv f g b] w fun e w' => e = .returned (sv (kn f) (kn g) (bo b)) ∧ Gr w w') := sound_any
  have AA : Hid (∀ f g b n w, Calls Tryd.prog 78 #[sv f g b, .int .i64 n] w fun e w' => e = .returned (sv (apf n f) (apg n g) (apb n b)) ∧ Gr w w') := rApplied_any
  obtain ⟨x, hx⟩ : ∃ z, kn f = z := ⟨_, rfl⟩
  obtain ⟨y, hy⟩ : ∃ z, kn g = z := ⟨_, rfl⟩
  obtain ⟨z, hz⟩ : ∃ z, bo b = z := ⟨_, rfl⟩
  have C1 : Hid (∀ w, _) := CC.out f g b
  rw [hx, hy, hz] at C1 ⊢
  clear CC hx hy hz
  unfold sv at C1 AA ⊢
  have hp' : ¬ ((zs.length : Int) = 0) := by omega
  have hpb : ((zs.length : Int) == 0) = false := by simpa using hp'
  have hpd : decide ((zs.length : Int) = 0) = false := by simpa using hp'
  go_enter Tryd.func59, Tryd.ntmps59
  go_wp2_with fail
  obtain ⟨S, hS⟩ : ∃ x, w.heap.size = x := ⟨_, rfl⟩
  obtain ⟨W0, hW0⟩ : ∃ x, (w.alloc (.cells #[.int .i64 f, .int .i64 g, .int .i64 b] 64)).alloc (.cells #[.int .i64 0, .int .i64 0, .int .i64 0] 64) = x := ⟨_, rfl⟩
  have G0 : Hid (Gr w W0) := by rw [← hW0]; exact ((Gr.refl w).alloc _).alloc _
  have RA : Hid (R3 64 W0 S f g b) := by rw [← hW0, ← hS]; exact (R3.new w _ _ _ _).gr ((Gr.refl _).alloc _)
  have RC : Hid (R3 64 W0 (S + 1) 0 0 0) := by
    have := R3.new (w.alloc (.cells #[.int .i64 f, .int .i64 g, .int .i64 b] 64)) 0 0 0 64
    simp only [World.size_alloc, hS] at this
    rw [← hW0]; exact this
  rw [hW0, hS]
  clear hW0
  have HS : Hid (w.heap.size = S) := hS
  have HB : Hid (B < w.heap.size) := hB
  clear hS hB
  refine (C1.out _).mono ?_
  rintro e w1 ⟨rfl, g1⟩
  have RA1 := RA.out.gr g1
  have R2 : Hid (R3 64 _ S x y z) := RA1.set x y z
  have RC2 : Hid (R3 64 _ (S + 1) 0 0 0) := (RC.out.gr g1).others (k := S) (by omega) (.int .i64 x) (.int .i64 y) (.int .i64 z)
  have G2 : Hid (Gr w _) := (G0.out.trans g1).set3 (k := S) (by rw [HS.out]; omega) (.int .i64 x) (.int .i64 y) (.int .i64 z)
  have a0 := RA1.c0
  have a1 := RA1.c1
  have a2 := RA1.c2
  have f0 := RA1.fz 0
  have f1 := RA1.fz 1
  have f2 := RA1.fz 2
  clear RA1 g1
  go_wp2_with fail
  obtain ⟨W2, hW2⟩ : ∃ q, (((w1.setCell ⟨S, 0, none⟩ (.int .i64 x)).setCell ⟨S, 1, none⟩ (.int .i64 y)).setCell ⟨S, 2, none⟩ (.int .i64 z)) = q := ⟨_, rfl⟩
  rw [hW2] at R2 RC2 G2 ⊢
  clear hW2 a0 a1 a2 f0 f1 f2 RA RC G0
  go_loopw [5] (fun i wr => ∃ k : Nat, k ≤ zs.length ∧ i = .int .i64 k ∧ Hid (R3 64 wr S (apF (zs.take k) x) (apG (zs.take k) y) (apB (zs.take k) z) ∧ R3 64 wr (S + 1) 0 0 0 ∧ Gr w wr)) (fun i _ => zs.length - (intOf i).toNat)
  case atStart => exact ⟨0, Nat.zero_le _, rfl, R2.out, RC2.out, G2.out⟩
  case round =>
    obtain ⟨k, hk, rfl, HR⟩ := hrel
    by_cases hlt : k < zs.length
    · obtain ⟨n, hn⟩ : ∃ q, zs[k]?.getD 0 = q := ⟨_, rfl⟩
      have hcx : wr.cell? ⟨B, off + k, none⟩ = some (.int .i64 n) := by rw [← hn]; exact (HR.out.2.2.below.cell (p := ⟨B, off + k, none⟩) HB.out).trans (HC.out k hlt)
      have N1 : Hid (apF (zs.take (k + 1)) x = apf n (apF (zs.take k) x)) := by rw [← hn]; exact apF_next zs k x hlt
      have N2 : Hid (apG (zs.take (k + 1)) y = apg n (apG (zs.take k) y)) := by rw [← hn]; exact apG_next zs k y hlt
      have N3 : Hid (apB (zs.take (k + 1)) z = apb n (apB (zs.take k) z)) := by rw [← hn]; exact apB_next zs k z hlt
      obtain ⟨p, hp1⟩ : ∃ q, apF (zs.take k) x = q := ⟨_, rfl⟩
      obtain ⟨q, hq1⟩ : ∃ q, apG (zs.take k) y = q := ⟨_, rfl⟩
      obtain ⟨r, hr1⟩ : ∃ q, apB (zs.take k) z = q := ⟨_, rfl⟩
      rw [hp1, hq1, hr1] at HR
      rw [hp1] at N1
      rw [hq1] at N2
      rw [hr1] at N3
      clear hn hp1 hq1 hr1
      have A1 : Hid (∀ w, _) := AA.out p q r n
      obtain ⟨p', hp2⟩ : ∃ q, apf n p = q := ⟨_, rfl⟩
      obtain ⟨q', hq2⟩ : ∃ z, apg n q = z := ⟨_, rfl⟩
      obtain ⟨r', hr2⟩ : ∃ q, apb n r = q := ⟨_, rfl⟩
      rw [hp2, hq2, hr2] at A1
      rw [hp2] at N1
      rw [hq2] at N2
      rw [hr2] at N3
      clear hp2 hq2 hr2
      have hlt' : (k : Int) < (zs.length : Int) := by omega
      have b0 := HR.out.1.c0
      have b1 := HR.out.1.c1
      have b2 := HR.out.1.c2
      have bb : B < wr.heap.size := Nat.lt_of_lt_of_le HB.out HR.out.2.2.size
      go_wp2_with fail
      go_region_with (go_at_call 78; refine Calls.mono (A1.out _) ?_; rintro e w5 ⟨rfl, g5⟩; have HG5 : Hid (Gr wr w5) := (by first | exact g5 | exact ((Gr.refl wr).drew).trans g5); have R5 : Hid (R3 64 w5 S p q r) := HR.out.1.gr HG5.out; clear g5; have d0 := R5.out.c0; have d1 := R5.out.c1; have d2 := R5.out.c2; have e0 := R5.out.fz 0; have e1 := R5.out.fz 1; have e2 := R5.out.fz 2; have hcy : w5.cell? ⟨B, off + k, none⟩ = some (.int .i64 n) := (HG5.out.below.cell (p := ⟨B, off + k, none⟩) bb).trans hcx)
      all_goals
        go_wp2_with fail
        go_roundw
        case rel => exact ⟨k + 1, by omega, by go_num, by show _ ∧ _ ∧ _; rw [N1.out, N2.out, N3.out]; exact ⟨R5.out.set p' q' r', (HR.out.2.1.gr HG5.out).others (by omega) _ _ _, (HR.out.2.2.trans HG5.out).set3 (by rw [HS.out]; omega) _ _ _⟩⟩
        case measure => simp [intOf]; omega
    · have hlt' : ¬ (k : Int) < (zs.length : Int) := by omega
      have hkk : k = zs.length := by omega
      have HK : Hid (R3 64 wr S (apF zs x) (apG zs y) (apB zs z)) := by have := HR.out.1; rw [hkk, List.take_length] at this; exact this
      obtain ⟨p, hp1⟩ : ∃ q, apF zs x = q := ⟨_, rfl⟩
      obtain ⟨q, hq1⟩ : ∃ q, apG zs y = q := ⟨_, rfl⟩
      obtain ⟨r, hr1⟩ : ∃ q, apB zs z = q := ⟨_, rfl⟩
      rw [hp1, hq1, hr1] at HK
      have HP : Hid (apF zs x = p) := hp1
      have HQ : Hid (apG zs y = q) := hq1
      have HRR : Hid (apB zs z = r) := hr1
      clear hp1 hq1 hr1
      have b0 := HK.out.c0
      have b1 := HK.out.c1
      have b2 := HK.out.c2
      have c0 := HR.out.2.1.c0
      have c1 := HR.out.2.1.c1
      have c2 := HR.out.2.1.c2
      have k0 := HR.out.2.1.fz 0
      have k1 := HR.out.2.1.fz 1
      have k2 := HR.out.2.1.fz 2
      go_wp2
      refine bodyPost_ret (results_cell_row rfl _ _ (S + 1) _ _ _ _ rfl (HR.out.2.1.set _ _ _) Tryd.underlying64 rfl (by kernel_rfl)) rfl ?_
      exact ⟨by rw [HP.out, HQ.out, HRR.out], HR.out.2.2.set3 (by rw [HS.out]; omega) _ _ _⟩

theorem rApply_any (f g b : Int) (zs : List Int) (v : Value) (w : World) (h : Ints w v zs) (hlen : zs.length ≤ 17592186044416) : Calls Tryd.prog 59 #[sv f g b, v] w fun e w' => e = .returned (sv (aplF zs f) (aplG zs g) (aplB zs b)) ∧ Gr w w' := by
  obtain ⟨a, cap, rfl, hh⟩ := h
  by_cases hz : zs = []
  · subst hz; exact rApply_none f g b a cap w
  · obtain ⟨B, off, rfl, hb, hc⟩ := hh.resolve_left hz
    unfold aplF aplG aplB
    rw [if_neg hz, if_neg hz, if_neg hz]
    exact rApply_some f g b zs B off cap w (List.length_pos_iff.2 hz) hb hc hlen

end Go.Proofs.YtgaogkggbccfnaaDoor

namespace Go.Proofs.YtgaogkggbccfnaaDoor
open Go.RowKit Go.Sort
set_option linter.unusedVariables false

theorem infoRC : (Tryd.prog.info? 85).map (fun i => (i.zero, i.size, i.bytes)) = some (some (.agg #[.string ⟨#[]⟩, .int .i64 0, .int .i64 0, .int .i64 0, .int .i64 0]), 5, 48) := by kernel_rfl
/-- Blank cells, one behind another. -/
def rows5 : Nat → List Value
  | 0 => []
  | n + 1 => rows5 n ++ c5 (bk 0 0 0)
theorem rows5_len (n : Nat) : (rows5 n).length = n * 5 := by
  induction n with
  | zero => rfl
  | succ n ih => rw [rows5, List.length_append, ih, c5_len]; omega
theorem rows5_get {n i k : Nat} {u : Value} (hi : i < n) (hu : (c5 (bk 0 0 0))[k]? = some u) : (rows5 n)[i * 5 + k]? = some u := by
  induction n with
  | zero => omega
  | succ n ih =>
    have hk : k < 5 := (List.getElem?_eq_some_iff.1 hu).1
    rw [rows5]
    by_cases h : i < n
    · rw [List.getElem?_append_left (by rw [rows5_len]; omega)]; exact ih h
    · obtain rfl : i = n := by omega
      rw [List.getElem?_append_right (by rw [rows5_len]; omega), rows5_len, show i * 5 + k - i * 5 = k by omega]; exact hu
/-- The struct of a canvas that is being made. -/
def KB (T : TypeId) (Q : World) (K W H : Nat) (v : Value) : Prop := Q.heap[K]? = some (.cells #[.int .i64 W, .int .i64 H, v] T (0, 0))
theorem KB.lt {T : TypeId} {Q : World} {K W H : Nat} {v : Value} (h : KB T Q K W H v) : K < Q.heap.size := (Array.getElem?_eq_some_iff.1 h).1
theorem KB.c2 {T : TypeId} {Q : World} {K W H : Nat} {v : Value} (h : KB T Q K W H v) : Q.cell? ⟨K, 2, none⟩ = some v := by unfold KB at h; simp [World.cell?, h]
theorem KB.fz {T : TypeId} {Q : World} {K W H : Nat} {v : Value} (h : KB T Q K W H v) (j : Nat) : Q.frozen? ⟨K, j, none⟩ = false := frozen_of_row _ _ _ _ _ h
theorem KB.set {T : TypeId} {Q : World} {K W H : Nat} {v : Value} (h : KB T Q K W H v) (v' : Value) : KB T (Q.setCell ⟨K, 2, none⟩ v') K W H v' := heap_setCell_same _ K 2 _ T _ h
theorem cell_five_new (w : World) (e : Ce) (T : TypeId) (j : Nat) (u : Value) (hj : (c5 e)[j]? = some u) : (w.alloc (.cells #[.string e.t, .int .i64 e.f, .int .i64 e.g, .int .i64 e.b, .int .i64 e.p] T)).cell? ((⟨w.heap.size, 0, none⟩ : Addr).add j) = some u := by
  have h := R5.new w e T
  have hk : j < 5 := (List.getElem?_eq_some_iff.1 hj).1
  rcases (by omega : j = 0 ∨ j = 1 ∨ j = 2 ∨ j = 3 ∨ j = 4) with rfl | rfl | rfl | rfl | rfl
  · exact h.c0.trans hj
  · exact h.c1.trans hj
  · exact h.c2.trans hj
  · exact h.c3.trans hj
  · exact h.c4.trans hj

theorem own_set {w : World} {B n size k : Nat} {e : TypeId} {v : Value} {xs : List Value} (h : w.ownsRow B e size v n xs) (hk : k < B) (o : Nat) (u : Value) : (w.setCell ⟨k, o, none⟩ u).ownsRow B e size v n xs := by
  refine ⟨h.1, ?_⟩
  rcases h.2 with h2 | ⟨g, cap, cur, a, b, c, d⟩
  · exact .inl h2
  · exact .inr ⟨g, cap, cur, a, b, (Below.heap_setCell w ⟨k, o, none⟩ u g (by show g ≠ k; omega)).trans c, d⟩
/-- A new canvas of the reference's stands at K. -/
def RN (w w' : World) (W H K : Nat) : Prop := w.heap.size ≤ K ∧ ∃ M cap, CS 72 85 w' K M cap W H (fun _ _ => bk 0 0 0) ∧ w.heap.size ≤ M ∧ Below w.heap.size w w'

set_option maxRecDepth 100000 in
set_option maxHeartbeats 4000000 in
theorem rnew_ok (W H : Nat) (hW : 1 ≤ W ∧ W ≤ 400) (hH : 1 ≤ H ∧ H ≤ 400) (w : World) : Calls Tryd.prog 29 #[.int .i64 W, .int .i64 H] w fun e w' => ∃ K, e = .returned (.tuple #[.pointer (some ⟨K, 0, none⟩), .int .i64 0]) ∧ RN w w' W H K := by
  obtain ⟨i0, hi0, hz0, hz1, hz2⟩ := info_parts infoRC
  obtain ⟨n, hnn⟩ : ∃ n, W * H = n := ⟨_, rfl⟩
  have nb : 1 ≤ n ∧ n ≤ 160000 := by rw [← hnn]; exact ⟨Nat.mul_le_mul hW.1 hH.1, Nat.mul_le_mul hW.2 hH.2⟩
  have eN : (W : Int) * (H : Int) = (n : Int) := by rw [← hnn]; simp
  have HN : Hid (W * H = n) := hnn
  clear hnn
  obtain ⟨S, hS⟩ : ∃ z, w.heap.size = z := ⟨_, rfl⟩
  have HS : Hid (w.heap.size = S) := hS
  go_enter Tryd.func29, Tryd.ntmps29
  go_wp2_with fail
  obtain ⟨W0, hW0⟩ : ∃ z, w.alloc (.cells #[.int .i64 W, .int .i64 H, .slice none 0 0] 72) = z := ⟨_, rfl⟩
  have B0 : Hid (Below w.heap.size w W0 ∧ S + 1 ≤ W0.heap.size) := by
    rw [← hW0]; exact ⟨((Gr.refl w).alloc _).below, by rw [World.size_alloc, hS]; omega⟩
  have R0 : Hid (KB 72 W0 S W H (.slice none 0 0)) := by rw [← hW0, ← hS]; exact heap_alloc_new _ _
  try rw [hW0]
  try rw [hS]
  clear hW0 hS
  go_loopw [7] (fun iv wi => ∃ i : Nat, i ≤ n ∧ iv = .int .i64 i ∧ ∃ v, Hid (KB 72 wi S W H v ∧ wi.ownsRow (S + 1) 85 5 v i (rows5 i) ∧ Below w.heap.size w wi ∧ S + 1 ≤ wi.heap.size)) (fun iv _ => n - (intOf iv).toNat)
  case atStart => exact ⟨0, by omega, rfl, _, R0.out, World.ownsRow_nil _ _ _ _, B0.out.1, B0.out.2⟩
  case round =>
    obtain ⟨i, hi, rfl, v, HI⟩ := hrel
    by_cases hil : i < n
    · have hil' : (i : Int) < (n : Int) := by omega
      have k2 := HI.out.1.c2
      have hsz := HI.out.2.2.2
      go_wp2_with (at_builtin; refine wpList_append_own _ rfl _ _ 70 rfl (S + 1) 85 i0 (.agg #[.string ⟨#[]⟩, .int .i64 0, .int .i64 0, .int .i64 0, .int .i64 0]) 5 48 Tryd.underlying70 hi0 hz0 hz1 hz2 rfl (by decide) _ _ _ rfl (HI.out.2.1.alloc _) _ 1 1 (c5 (bk 0 0 0)) rfl rfl ?c1 ?c2 ?c3 ?c4 ?c5 ?_)
      case c1 => exact cell_five_new _ (bk 0 0 0) _
      case c2 => intro u hu; unfold c5 at hu; simp at hu; rcases hu with rfl | rfl | rfl | rfl | rfl <;> rfl
      case c3 => unfold maxLen; omega
      case c4 => omega
      case c5 => simp; omega
      intro v' w6 hown' hg _
      have hrow : ∀ q, Value.ownBlock v = some q → S + 1 ≤ q ∧ q < wr.heap.size := fun q hq => HI.out.2.1.lt q hq
      have kl := HI.out.1.lt
      have K6 : KB 72 w6 S W H v := by
        refine (hg.block S (by rw [World.size_alloc]; omega) (fun e => by have := hrow _ e.symm; omega)).trans ?_
        exact (((Gr.refl wr).alloc _).block kl).trans HI.out.1
      have hb6 : Below w.heap.size w w6 := (HI.out.2.2.1.alloc (by rw [HS.out]; omega) _).grown hg (by rw [World.size_alloc, HS.out]; omega) (fun q hq => by have := hrow q hq; rw [HS.out]; omega)
      have hs6 : S + 1 ≤ w6.heap.size := by have := hg.size; rw [World.size_alloc] at this; omega
      have HK : Hid (KB 72 w6 S W H v ∧ w6.ownsRow (S + 1) 85 5 v' (i + 1) (rows5 (i + 1)) ∧ Below w.heap.size w w6 ∧ S + 1 ≤ w6.heap.size) := ⟨K6, hown', hb6, hs6⟩
      rcases hown'.2 with ⟨_, h0⟩ | ⟨g, cp, cur, hvv, _⟩
      · omega
      subst hvv
      have k2' := K6.c2
      have fz := K6.fz
      clear K6 hb6 hs6 hg hown' hrow k2
      go_wp2
      go_roundw
      case rel =>
        refine ⟨i + 1, by omega, by go_num, _, HK.out.1.set _, own_set HK.out.2.1 (by omega) _ _, ?_, ?_⟩
        · exact HK.out.2.2.1.setCell (p := ⟨S, 2, none⟩) (by show w.heap.size ≤ S; rw [HS.out]; omega) _
        · simpa [World.setCell] using HK.out.2.2.2
      case measure => simp [intOf]; omega
    · have hil' : ¬ (i : Int) < (n : Int) := by omega
      obtain rfl : i = n := by omega
      rcases HI.out.2.1.2 with ⟨_, h0⟩ | ⟨M, cap, cur, hv, hM, hcur, hc1, hc2, hc3, hc4⟩
      · omega
      have hce := HI.out.2.1.cells (g := M) (by rw [hv]; rfl)
      have HCS : Hid (CS 72 85 wr S M cap W H (fun _ _ => bk 0 0 0)) := by
        refine ⟨?_, ⟨⟨cur, hcur⟩, fun y x hy hx k u hu => ?_⟩, by omega, by rw [HN.out]; exact hc1⟩
        · have := HI.out.1; rw [hv, ← HN.out] at this; exact this
        · have hl := lin_lt hy hx
          rw [HN.out] at hl
          have := hce _ u (rows5_get hl hu)
          rw [show (⟨M, 0, none⟩ : Addr).add ((y * W + x) * 5 + k) = ⟨M, y * W * 5 + x * 5 + k, none⟩ by unfold Addr.add; split <;> simp_all [Nat.add_mul]] at this
          exact this
      have HF : Hid (S + 1 ≤ M) := hM
      clear hv hcur hc1 hc2 hc3 hc4 hM hce
      go_wp2
      refine bodyPost_ret (results_tmp2 rfl _ _ _) rfl ?_
      exact ⟨S, rfl, by rw [HS.out]; omega, M, cap, HCS.out, by rw [HS.out]; have := HF.out; omega, HI.out.2.2.1⟩
end Go.Proofs.YtgaogkggbccfnaaDoor

namespace Go.Proofs.YtgaogkggbccfnaaDoor
open Go.RowKit Go.Sort
set_option linter.unusedVariables false

/-- What is read so far: the numbers that are whole, and the one that is not. -/
def parS : List Int × Int → List UInt8 → List Int × Int
  | p, [] => p
  | p, b :: l => parS (if b.toNat = 59 then (if p.1.length < 16 then p.1 ++ [p.2] else p.1, 0) else if b.toNat = 58 then p else (p.1, min 999999 (10 * p.2 + (b.toNat : Int) - 48))) l
def parE (p : List Int × Int) : List Int := if p.1.length < 16 then p.1 ++ [p.2] else p.1
def parL (l : List UInt8) : List Int := parE (parS ([], 0) l)
def par1 (p : List Int × Int) (b : UInt8) : List Int × Int := if b.toNat = 59 then (if p.1.length < 16 then p.1 ++ [p.2] else p.1, 0) else if b.toNat = 58 then p else (p.1, min 999999 (10 * p.2 + (b.toNat : Int) - 48))
theorem parS_app (p : List Int × Int) (l : List UInt8) (b : UInt8) : parS p (l ++ [b]) = par1 (parS p l) b := by
  induction l generalizing p with
  | nil => rfl
  | cons a l ih => exact ih _
theorem parL_pos (l : List UInt8) : 0 < (parL l).length := by
  unfold parL parE
  split
  · simp
  · omega
theorem parL_le (l : List UInt8) (p : List Int × Int) (hp : p.1.length ≤ 16) : (parS p l).1.length ≤ 16 := by
  induction l generalizing p with
  | nil => exact hp
  | cons b l ih =>
    refine ih _ ?_
    by_cases h1 : b.toNat = 59
    · rw [if_pos h1]
      by_cases h2 : p.1.length < 16
      · rw [if_pos h2]; simp; omega
      · rw [if_neg h2]; exact hp
    · rw [if_neg h1]
      by_cases h3 : b.toNat = 58
      · rw [if_pos h3]; exact hp
      · rw [if_neg h3]; exact hp

theorem par_slice {W : World} {B n size : Nat} {e : TypeId} {v : Value} {xs : List Value} (h : W.ownsRow B e size v n xs) : ∃ p c, v = .slice p n c := by
  rcases h.2 with ⟨rfl, rfl⟩ | ⟨g, cap, cur, rfl, _⟩
  · exact ⟨none, 0, rfl⟩
  · exact ⟨_, _, rfl⟩

set_option maxRecDepth 100000 in
set_option maxHeartbeats 8000000 in
theorem params_any (x : ByteArray) (hx : x.size ≤ 4611686018427387904) (hb : ∀ b ∈ x.data.toList, 48 ≤ b.toNat ∧ b.toNat ≤ 59) (w : World) :
    Calls Tryd.prog 45 #[.string x] w fun e w' => ∃ v, e = .returned v ∧ Ints w' v (parL x.data.toList) ∧ Below w.heap.size w w' := by
  obtain ⟨i0, hi, hz0, hz1, hz2⟩ := info_parts info3
  have LE : Hid (∀ a b w, Calls Tryd.prog 58 #[.int .i64 a, .int .i64 b] w fun e w' => e = .returned (.int .i64 (min a b)) ∧ w' = w) := least_any
  have HX : Hid (∀ b ∈ x.data.toList, 48 ≤ b.toNat ∧ b.toNat ≤ 59) := hb
  clear hb
  go_enter Tryd.func45, Tryd.ntmps45
  go_wp2
  go_loopw [3, 4, 5] (fun v nv iv wr => ∃ (i : Nat) (acc : List Int) (n : Int), iv = .int .i64 i ∧ i ≤ x.size + 1 ∧ nv = .int .i64 n ∧ 0 ≤ n ∧ n ≤ 999999 ∧ wr.ownsRow w.heap.size 3 1 v acc.length (acc.map (Value.int .i64)) ∧ Below w.heap.size w wr ∧ acc.length ≤ 16 ∧ Hid (i ≤ x.size → (acc, n) = parS ([], 0) (x.data.toList.take i)) ∧ Hid (i = x.size + 1 → acc = parL x.data.toList)) (fun _ _ i _ => x.size + 1 - (intOf i).toNat)
  case atStart => exact ⟨0, [], 0, rfl, Nat.zero_le _, rfl, by omega, by omega, World.ownsRow_nil _ _ _ _, Below.refl _ _, by simp, fun _ => rfl, fun h => by omega⟩
  case round =>
    obtain ⟨i, acc, n, rfl, hil, rfl, hn0, hn1, hown, hbw, hal, HS, HE⟩ := hrel
    obtain ⟨p0, c0, rfl⟩ := par_slice hown
    have hsz := hbw.size
    by_cases hle : i ≤ x.size
    · have hle' : (i : Int) ≤ (x.size : Int) := by omega
      have HS2 : Hid ((acc, n) = parS ([], 0) (x.data.toList.take i)) := HS.out hle
      by_cases hend : i = x.size
      · have he1 : ((i : Int) == (x.size : Int)) = true := by simpa using (by omega : (i : Int) = (x.size : Int))
        have HPL : Hid (parE (acc, n) = parL x.data.toList) := by
          show _ = _
          unfold parL
          rw [HS2.out, hend, List.take_of_length_le (by rw [len_data]; exact Nat.le_refl _)]
        clear HS HE HS2
        by_cases h16 : acc.length < 16
        · have h16' : (acc.length : Int) < 16 := by omega
          go_wp2_with (first | (at_builtin; refine wpList_append_own _ rfl _ _ 27 rfl w.heap.size 3 i0 (.int .i64 0) 1 8 Tryd.underlying27 hi hz0 hz1 hz2 rfl (by decide) _ _ _ rfl (hown.alloc _) _ 1 1 [.int .i64 n] rfl rfl ?c1k1 ?c2k1 ?c3k1 ?c4k1 ?c5k1 ?_))
          try case c1k1 => exact cell_one_new _ _ _
          case c2k1 => first | (intro u hu; simp at hu; subst hu; rfl) | rfl | (simp; done)
          case c3k1 => first | (unfold maxLen; omega) | omega
          case c4k1 => omega
          case c5k1 => first | omega | (rw [World.size_alloc]; omega)
          intro v' w1 hown' hg _
          have hrow : ∀ q, Value.ownBlock (.slice p0 acc.length c0) = some q → w.heap.size ≤ q := fun q hq => (hown.lt q hq).1
          have hb1 : Below w.heap.size w w1 := (hbw.alloc hsz _).grown hg (by rw [World.size_alloc]; omega) hrow
          clear hg hrow hown hbw
          go_wp2
          go_roundw
          case rel =>
            refine ⟨i + 1, acc ++ [n], 0, by go_num, by omega, rfl, by omega, by omega, ?_, hb1, by simp; omega, ?_, ?_⟩
            · rw [List.length_append, List.map_append]; exact hown'
            · exact fun q => absurd q (by omega)
            · exact fun _ => by rw [← HPL.out]; unfold parE; rw [if_pos h16]
          case measure => simp [intOf]; omega
        · have h16' : ¬ (acc.length : Int) < 16 := by omega
          go_wp2
          go_roundw
          case rel => exact ⟨i + 1, acc, 0, by go_num, by omega, rfl, by omega, by omega, hown, hbw, hal, fun q => absurd q (by omega), fun _ => by rw [← HPL.out]; unfold parE; rw [if_neg h16]⟩
          case measure => simp [intOf]; omega
      · have hlt : i < x.size := by omega
        have he1 : ((i : Int) == (x.size : Int)) = false := by simpa using (by omega : ¬ (i : Int) = (x.size : Int))
        obtain ⟨bt, hbt⟩ : ∃ b, x[i]'hlt = b := ⟨_, rfl⟩
        have HP : Hid (parS ([], 0) (x.data.toList.take (i + 1)) = par1 (acc, n) bt) := by
          show _ = _
          have e : x.data.toList[i]? = some bt := by rw [Array.getElem?_toList, ← hbt]; exact Array.getElem?_eq_getElem hlt
          rw [List.take_add_one, e, HS2.out, ← parS_app]
          rfl
        have hbd : 48 ≤ bt.toNat ∧ bt.toNat ≤ 59 := HX.out bt (by rw [← hbt]; exact List.mem_of_getElem? (i := i) (by rw [Array.getElem?_toList]; exact Array.getElem?_eq_getElem hlt))
        clear HS HE HS2
        by_cases h59 : bt.toNat = 59
        · have e59 : ((bt.toNat : Int) == 59) = true := by simpa using (by omega : (bt.toNat : Int) = 59)
          by_cases h16 : acc.length < 16
          · have h16' : (acc.length : Int) < 16 := by omega
            go_wp2_with (first | (at_builtin; refine wpList_append_own _ rfl _ _ 27 rfl w.heap.size 3 i0 (.int .i64 0) 1 8 Tryd.underlying27 hi hz0 hz1 hz2 rfl (by decide) _ _ _ rfl (hown.alloc _) _ 1 1 [.int .i64 n] rfl rfl ?c1k1 ?c2k1 ?c3k1 ?c4k1 ?c5k1 ?_))
            try case c1k1 => exact cell_one_new _ _ _
            case c2k1 => first | (intro u hu; simp at hu; subst hu; rfl) | rfl | (simp; done)
            case c3k1 => first | (unfold maxLen; omega) | omega
            case c4k1 => omega
            case c5k1 => first | omega | (rw [World.size_alloc]; omega)
            intro v' w1 hown' hg _
            have hrow : ∀ q, Value.ownBlock (.slice p0 acc.length c0) = some q → w.heap.size ≤ q := fun q hq => (hown.lt q hq).1
            have hb1 : Below w.heap.size w w1 := (hbw.alloc hsz _).grown hg (by rw [World.size_alloc]; omega) hrow
            clear hg hrow hown hbw
            go_wp2
            go_roundw
            case rel =>
              refine ⟨i + 1, acc ++ [n], 0, by go_num, by omega, rfl, by omega, by omega, ?_, hb1, by simp; omega, ?_, ?_⟩
              · rw [List.length_append, List.map_append]; exact hown'
              · exact fun _ => by rw [HP.out]; unfold par1; rw [if_pos h59, if_pos h16]
              · exact fun q => absurd q (by omega)
            case measure => simp [intOf]; omega
          · have h16' : ¬ (acc.length : Int) < 16 := by omega
            go_wp2
            go_roundw
            case rel => exact ⟨i + 1, acc, 0, by go_num, by omega, rfl, by omega, by omega, hown, hbw, hal, fun _ => by rw [HP.out]; unfold par1; rw [if_pos h59, if_neg h16], fun q => absurd q (by omega)⟩
            case measure => simp [intOf]; omega
        · have e59 : ((bt.toNat : Int) == 59) = false := by simpa using (by omega : ¬ (bt.toNat : Int) = 59)
          by_cases h58 : bt.toNat = 58
          · have e58 : ((bt.toNat : Int) != 58) = false := by simpa using (by omega : (bt.toNat : Int) = 58)
            go_wp2
            go_roundw
            case rel => exact ⟨i + 1, acc, n, by go_num, by omega, rfl, hn0, hn1, hown, hbw, hal, fun _ => by rw [HP.out]; unfold par1; rw [if_neg h59, if_pos h58], fun q => absurd q (by omega)⟩
            case measure => simp [intOf]; omega
          · have e58 : ((bt.toNat : Int) != 58) = true := by simpa using (by omega : ¬ (bt.toNat : Int) = 58)
            go_wp2_with fail
            refine (LE.out _ _ _).mono ?_
            rintro e w1 ⟨rfl, hw⟩
            obtain rfl := hw.symm
            go_wp2
            go_roundw
            case rel => exact ⟨i + 1, acc, min 999999 (10 * n + (bt.toNat : Int) - 48), by go_num, by omega, by go_num, by omega, by omega, hown, hbw, hal, fun _ => by rw [HP.out]; unfold par1; rw [if_neg h59, if_neg h58], fun q => absurd q (by omega)⟩
            case measure => simp [intOf]; omega
    · have hle' : ¬ (i : Int) ≤ (x.size : Int) := by omega
      have HEE : Hid (acc = parL x.data.toList) := HE.out (by omega)
      go_wp2
      go_ret
      exact ⟨_, rfl, by rw [← HEE.out]; exact ints_own hown, hbw⟩

end Go.Proofs.YtgaogkggbccfnaaDoor

namespace Go.Proofs.YtgaogkggbccfnaaDoor
open Go.RowKit Go.Sort
set_option linter.unusedVariables false

theorem pall1 (W H : Nat) : PAll W H (fun _ _ => bk 0 0 0) := fun y hy => ⟨fun i hi => .inl rfl, fun i hi h => absurd h (by show ¬ (0 : Int) = 1; decide), fun i hi h => absurd h (by show ¬ (0 : Int) = 2; decide)⟩
def doR (s : Rm) (b : Int) (zs : List Int) : Rm :=
  if b = 72 then { s with y := min (max 1 (zs[(0 : Nat)]?.getD 0)) s.H - 1, x := min (if 1 < zs.length then max 1 (zs[(1 : Nat)]?.getD 0) else 1) s.W - 1 }
  else if b = 74 then (if zs[(0 : Nat)]?.getD 0 = 2 then { s with c := fun _ _ => bk 0 0 0, wv := fun _ => true } else s)
  else if b = 109 then { s with f := aplF zs s.f, g := aplG zs s.g, b := aplB zs s.b }
  else s
/-- What it leaves: the cells may lie elsewhere. -/
structure DoOut (w w' : World) (T M B bc : Nat) (s : Rm) : Prop where
  rt : ∃ K' M' cap', RT w' T K' M' cap' B bc s ∧ (M' = M ∨ w.heap.size ≤ M')
  c3 : C3 T M B w w'
def DoEnd (w w' : World) (e : Ending) (T M B bc : Nat) (s : Rm) : Prop := e = .returned (.tuple #[]) ∧ DoOut w w' T M B bc s

theorem keepb {w w' : World} {p : Addr} {v : Value} (g : Below w.heap.size w w') (h : w.cell? p = some v) : w'.cell? p = some v := (g.cell (World.block_lt_of_cell? w p h)).trans h
section
variable {T K M cap B bc : Nat} {s : Rm}
set_option maxRecDepth 100000 in
set_option maxHeartbeats 8000000 in
theorem do_H (w : World) (h : RT w T K M cap B bc s) (zs : List Int) (v : Value) (hv : Ints w v zs) (hz : 0 < zs.length) (hzl : zs.length ≤ 16) (hzb : ∀ z ∈ zs, 0 ≤ z ∧ z ≤ 999999) : Calls Tryd.prog 44 #[.pointer (some ⟨T, 0, none⟩), .int .u8 72, v] w fun e w' => DoEnd w w' e T M B bc (doR s 72 zs) := by
  have LE : Hid (∀ a b w, Calls Tryd.prog 58 #[.int .i64 a, .int .i64 b] w fun e w' => e = .returned (.int .i64 (min a b)) ∧ w' = w) := least_any
  have GE : Hid (∀ a b w, Calls Tryd.prog 57 #[.int .i64 a, .int .i64 b] w fun e w' => e = .returned (.int .i64 (max a b)) ∧ w' = w) := greatest_any
  obtain ⟨p, c, rfl, hh⟩ := hv
  obtain ⟨b0, off, rfl, hb, hc⟩ := hh.resolve_left (fun e => by rw [e] at hz; simp at hz)
  have HR : Hid (RT w T K M cap B bc s) := h
  have z0 : w.cell? ⟨b0, off, none⟩ = some (.int .i64 (zs[0]?.getD 0)) := hc 0 hz
  obtain ⟨a0, ha0⟩ : ∃ z, zs[0]?.getD 0 = z := ⟨_, rfl⟩
  have hab : 0 ≤ a0 ∧ a0 ≤ 999999 := by rw [← ha0, List.getElem?_eq_getElem hz]; exact hzb _ (List.getElem_mem _)
  rw [ha0] at z0
  have t0 : w.cell? ⟨T, 0, none⟩ = some (.pointer (some ⟨K, 0, none⟩)) := h.at rfl
  have k0 : w.cell? ⟨K, 0, none⟩ = some (.int .i64 s.W) := h.cs.k0
  have k1 : w.cell? ⟨K, 1, none⟩ = some (.int .i64 s.H) := h.cs.k1
  have t1 : w.cell? ⟨T, 1, none⟩ = some (.int .i64 s.x) := h.at rfl
  have t2 : w.cell? ⟨T, 2, none⟩ = some (.int .i64 s.y) := h.at rfl
  have f1 := h.fz 1
  have f2 := h.fz 2
  have hW := h.hW
  have hH := h.hH
  have hTK := h.tk
  clear h hh
  by_cases h1 : 1 < zs.length
  · have h1' : (1 : Int) < (zs.length : Int) := by omega
    have z1 : w.cell? ⟨b0, off + 1, none⟩ = some (.int .i64 (zs[1]?.getD 0)) := hc 1 h1
    obtain ⟨a1, ha1⟩ : ∃ z, zs[1]?.getD 0 = z := ⟨_, rfl⟩
    have hab1 : 0 ≤ a1 ∧ a1 ≤ 999999 := by rw [← ha1, List.getElem?_eq_getElem h1]; exact hzb _ (List.getElem_mem _)
    rw [ha1] at z1
    have HE : Hid (doR s 72 zs = { s with y := min (max 1 a0) s.H - 1, x := min (max 1 a1) s.W - 1 }) := by show _ = _; unfold doR; rw [if_pos rfl, if_pos h1, ha0, ha1]
    clear ha0 ha1 hc hzb
    go_enter Tryd.func44, Tryd.ntmps44
    go_wp2_with (first | (go_at_call 58; refine (LE.out _ _ _).mono ?_; rintro e w1 ⟨rfl, rfl⟩) | (go_at_call 57; refine (GE.out _ _ _).mono ?_; rintro e w1 ⟨rfl, rfl⟩))
    go_end0
    refine ⟨rfl, ⟨K, M, cap, ?_, .inl rfl⟩, ((C3.refl _ _ _ _).set _ _).set _ _⟩
    rw [HE.out]
    have e1 := HR.out.set 2 (.int .i64 (min (max 1 a0) s.H - 1)) { s with y := min (max 1 a0) s.H - 1 } rfl ⟨rfl, rfl, rfl, rfl⟩
    exact e1.set 1 (.int .i64 (min (max 1 a1) s.W - 1)) { s with y := min (max 1 a0) s.H - 1, x := min (max 1 a1) s.W - 1 } rfl ⟨rfl, rfl, rfl, rfl⟩
  · have h1' : ¬ (1 : Int) < (zs.length : Int) := by omega
    have HE : Hid (doR s 72 zs = { s with y := min (max 1 a0) s.H - 1, x := min (1 : Int) s.W - 1 }) := by show _ = _; unfold doR; rw [if_pos rfl, if_neg h1, ha0]
    clear ha0 hc hzb
    go_enter Tryd.func44, Tryd.ntmps44
    go_wp2_with (first | (go_at_call 58; refine (LE.out _ _ _).mono ?_; rintro e w1 ⟨rfl, rfl⟩) | (go_at_call 57; refine (GE.out _ _ _).mono ?_; rintro e w1 ⟨rfl, rfl⟩))
    go_end0
    refine ⟨rfl, ⟨K, M, cap, ?_, .inl rfl⟩, ((C3.refl _ _ _ _).set _ _).set _ _⟩
    rw [HE.out]
    have e1 := HR.out.set 2 (.int .i64 (min (max 1 a0) s.H - 1)) { s with y := min (max 1 a0) s.H - 1 } rfl ⟨rfl, rfl, rfl, rfl⟩
    exact e1.set 1 (.int .i64 (min (1 : Int) s.W - 1)) { s with y := min (max 1 a0) s.H - 1, x := min (1 : Int) s.W - 1 } rfl ⟨rfl, rfl, rfl, rfl⟩

set_option maxRecDepth 100000 in
set_option maxHeartbeats 8000000 in
theorem do_m (w : World) (h : RT w T K M cap B bc s) (zs : List Int) (v : Value) (hv : Ints w v zs) (hz : 0 < zs.length) (hzl : zs.length ≤ 16) : Calls Tryd.prog 44 #[.pointer (some ⟨T, 0, none⟩), .int .u8 109, v] w fun e w' => DoEnd w w' e T M B bc (doR s 109 zs) := by
  have AP : Hid (Calls Tryd.prog 59 #[.agg #[.int .i64 s.f, .int .i64 s.g, .int .i64 s.b], v] w fun e w' => e = .returned (.agg #[.int .i64 (aplF zs s.f), .int .i64 (aplG zs s.g), .int .i64 (aplB zs s.b)]) ∧ Gr w w') := rApply_any s.f s.g s.b zs v w hv (by omega)
  obtain ⟨p, c, rfl, hh⟩ := hv
  have HR : Hid (RT w T K M cap B bc s) := h
  have t3 : w.cell? ⟨T, 3, none⟩ = some (.int .i64 s.f) := h.at rfl
  have t4 : w.cell? ⟨T, 4, none⟩ = some (.int .i64 s.g) := h.at rfl
  have t5 : w.cell? ⟨T, 5, none⟩ = some (.int .i64 s.b) := h.at rfl
  have HE : Hid (doR s 109 zs = { s with f := aplF zs s.f, g := aplG zs s.g, b := aplB zs s.b }) := by show _ = _; unfold doR; rw [if_neg (by decide), if_neg (by decide), if_pos rfl]
  clear h hh
  go_enter Tryd.func44, Tryd.ntmps44
  go_wp2_with fail
  refine AP.out.mono ?_
  rintro e w1 ⟨rfl, g1⟩
  have H1 : Hid (RT w1 T K M cap B bc s) := HR.out.gr g1
  have B1 : Hid (C3 T M B w w1) := C3.gr g1
  have u3 : w1.cell? ⟨T, 3, none⟩ = some (.int .i64 s.f) := H1.out.at rfl
  have u4 : w1.cell? ⟨T, 4, none⟩ = some (.int .i64 s.g) := H1.out.at rfl
  have u5 : w1.cell? ⟨T, 5, none⟩ = some (.int .i64 s.b) := H1.out.at rfl
  have f3 := H1.out.fz 3
  have f4 := H1.out.fz 4
  have f5 := H1.out.fz 5
  obtain ⟨af, haf⟩ : ∃ z, aplF zs s.f = z := ⟨_, rfl⟩
  obtain ⟨ag, hag⟩ : ∃ z, aplG zs s.g = z := ⟨_, rfl⟩
  obtain ⟨ab, hab⟩ : ∃ z, aplB zs s.b = z := ⟨_, rfl⟩
  rw [haf, hag, hab] at HE ⊢
  clear g1 AP t3 t4 t5 haf hag hab
  go_wp2
  go_end0
  refine ⟨rfl, ⟨K, M, cap, ?_, .inl rfl⟩, ((B1.out.set _ _).set _ _).set _ _⟩
  rw [HE.out]
  have e1 := H1.out.set 3 (.int .i64 af) { s with f := af } rfl ⟨rfl, rfl, rfl, rfl⟩
  have e2 := e1.set 4 (.int .i64 ag) { s with f := af, g := ag } rfl ⟨rfl, rfl, rfl, rfl⟩
  exact e2.set 5 (.int .i64 ab) { s with f := af, g := ag, b := ab } rfl ⟨rfl, rfl, rfl, rfl⟩

set_option maxRecDepth 100000 in
set_option maxHeartbeats 8000000 in
theorem do_no (w : World) (h : RT w T K M cap B bc s) (zs : List Int) (v : Value) (hv : Ints w v zs) (b : Int) (h1 : b ≠ 72) (h2 : b ≠ 74) (h3 : b ≠ 109) : Calls Tryd.prog 44 #[.pointer (some ⟨T, 0, none⟩), .int .u8 b, v] w fun e w' => DoEnd w w' e T M B bc (doR s b zs) := by
  obtain ⟨p, c, rfl, hh⟩ := hv
  have HR : Hid (RT w T K M cap B bc s) := h
  have e1 : (b == 72) = false := by simpa using h1
  have e2 : (b == 74) = false := by simpa using h2
  have e3 : (b == 109) = false := by simpa using h3
  have HE : Hid (doR s b zs = s) := by show _ = _; unfold doR; rw [if_neg h1, if_neg h2, if_neg h3]
  clear h hh
  go_enter Tryd.func44, Tryd.ntmps44
  go_wp2
  go_end0
  refine ⟨rfl, ⟨K, M, cap, ?_, .inl rfl⟩, C3.refl _ _ _ _⟩
  rw [HE.out]
  exact HR.out

set_option maxRecDepth 100000 in
set_option maxHeartbeats 8000000 in
theorem do_J (w : World) (h : RT w T K M cap B bc s) (zs : List Int) (v : Value) (hv : Ints w v zs) (hz : 0 < zs.length) : Calls Tryd.prog 44 #[.pointer (some ⟨T, 0, none⟩), .int .u8 74, v] w fun e w' => DoEnd w w' e T M B bc (doR s 74 zs) := by
  have hmix : Tryd.prog.follows .mixedOrders = true := by kernel_rfl
  obtain ⟨p, c, rfl, hh⟩ := hv
  obtain ⟨b0, off, rfl, hb, hc⟩ := hh.resolve_left (fun e => by rw [e] at hz; simp at hz)
  have HR : Hid (RT w T K M cap B bc s) := h
  have z0 : w.cell? ⟨b0, off, none⟩ = some (.int .i64 (zs[(0 : Nat)]?.getD 0)) := hc 0 hz
  obtain ⟨a0, ha0⟩ : ∃ z, zs[(0 : Nat)]?.getD 0 = z := ⟨_, rfl⟩
  rw [ha0] at z0
  have hz' : (0 : Int) < (zs.length : Int) := by omega
  by_cases h2 : a0 = 2
  · have e2 : (a0 == 2) = true := by simpa using h2
    have HE : Hid (doR s 74 zs = { s with c := fun _ _ => bk 0 0 0, wv := fun _ => true }) := by show _ = _; unfold doR; rw [if_neg (by decide), if_pos rfl, if_pos (by rw [ha0]; exact h2)]
    have t0 : w.cell? ⟨T, 0, none⟩ = some (.pointer (some ⟨K, 0, none⟩)) := h.at rfl
    have k0 : w.cell? ⟨K, 0, none⟩ = some (.int .i64 s.W) := h.cs.k0
    have k1 : w.cell? ⟨K, 1, none⟩ = some (.int .i64 s.H) := h.cs.k1
    have RNC : Hid (∀ w, Calls Tryd.prog 29 #[.int .i64 s.W, .int .i64 s.H] w fun e w' => ∃ K, e = .returned (.tuple #[.pointer (some ⟨K, 0, none⟩), .int .i64 0]) ∧ RN w w' s.W s.H K) := fun w => rnew_ok s.W s.H h.hW h.hH w
    clear h hh ha0 hc
    go_enter Tryd.func44, Tryd.ntmps44
    go_wp2_with fail
    go_region_held (fun W_ => W_.cell? ⟨T, 0, none⟩ = some (.pointer (some ⟨K, 0, none⟩)) ∧ W_.cell? ⟨K, 0, none⟩ = some (.int .i64 s.W) ∧ W_.cell? ⟨K, 1, none⟩ = some (.int .i64 s.H)) (first | exact ⟨t0, k0, k1⟩ | exact ⟨keepb g1 t0, keepb g1 k0, keepb g1 k1⟩) (first | (go_at_call 29; refine Calls.mono (RNC.out _) ?_; rintro e1 w1 ⟨K', rfl, hK', M', cap', hcs, hM', g1⟩))
    have g1' : Below w.heap.size w w1 := (Gr.refl w).drew.below.trans g1
    have hsz : w.heap.size ≤ K' ∧ w.heap.size ≤ M' := ⟨hK', hM'⟩
    have H1 : Hid (RT w1 T K M cap B bc s) := HR.out.below g1'
    have B1 : Hid (C3 T M B w w1) := C3.below g1'
    have CS1 : Hid (CS 72 85 w1 K' M' cap' s.W s.H (fun _ _ => bk 0 0 0)) := hcs
    have hTl := HR.out.lt
    have hBl := HR.out.bv.lt
    have u0 : w1.cell? ⟨T, 0, none⟩ = some (.pointer (some ⟨K, 0, none⟩)) := H1.out.at rfl
    have uf := H1.out.fz 0
    have H2 : Hid (RT (w1.setCell ⟨T, 0, none⟩ (.pointer (some ⟨K', 0, none⟩))) T K' M' cap' B bc { s with c := fun _ _ => bk 0 0 0 }) :=
      ⟨heap_setCell_same w1 T 0 _ _ (.pointer (some ⟨K', 0, none⟩)) H1.out.tb,
       ⟨(Below.heap_setCell w1 ⟨T, 0, none⟩ _ K' (by show K' ≠ T; omega)).trans CS1.out.kb, CS1.out.cv.other (by omega) 0 _, CS1.out.ne, CS1.out.hc⟩,
       H1.out.bv.keep (Below.heap_setCell w1 ⟨T, 0, none⟩ _ B (fun e => H1.out.tB e.symm)), by omega, by omega, H1.out.tB, by omega, by omega, H1.out.hb, H1.out.hW, H1.out.hH, pall1 _ _⟩
    have B2 : Hid (C3 T M B w (w1.setCell ⟨T, 0, none⟩ (.pointer (some ⟨K', 0, none⟩)))) := B1.out.set _ _
    obtain ⟨n, hn⟩ : ∃ n, s.W * s.H = n := ⟨_, rfl⟩
    have HN : Hid (s.W * s.H = n) := hn
    have hnb : n ≤ 160000 := by rw [← hn]; exact Nat.le_trans (Nat.mul_le_mul H1.out.hW.2 H1.out.hH.2) (by decide)
    clear g1 g1' hcs H1 B1 CS1 HR t0 k0 k1 hn RNC hK' hM'
    go_wp2_with fail
    obtain ⟨W2, hW2⟩ : ∃ z, w1.setCell ⟨T, 0, none⟩ (.pointer (some ⟨K', 0, none⟩)) = z := ⟨_, rfl⟩
    rw [hW2] at H2 B2 ⊢
    clear hW2 u0 uf
    go_loopw [10] (fun iv wr => ∃ i : Nat, i ≤ n ∧ iv = .int .i64 i ∧ Hid (RT wr T K' M' cap' B bc { s with c := fun _ _ => bk 0 0 0, wv := fun z => if z < i then true else s.wv z }) ∧ Hid (C3 T M B w wr)) (fun iv _ => n - (intOf iv).toNat)
    case atStart => exact ⟨0, by omega, rfl, H2.out.sameW (fun z hz => by rw [if_neg (by omega)]), B2.out⟩
    case round =>
      obtain ⟨i, hi, rfl, HQ, HC⟩ := hrel
      have d9 : wr.cell? ⟨T, 9, none⟩ = some (.slice (some ⟨B, 0, none⟩) n bc) := by rw [← HN.out]; exact HQ.out.at rfl
      by_cases hlt : i < n
      · have hlt' : (i : Int) < (n : Int) := by omega
        have b0 : ∃ z : Bool, wr.cell? ⟨B, i, none⟩ = some (.bool z) := ⟨_, HQ.out.bv.cell i (by show i < s.W * s.H; rw [HN.out]; exact hlt)⟩
        obtain ⟨z0, b0⟩ := b0
        have bf := HQ.out.bv.fz i
        have HQ2 : Hid (RT (wr.setCell ⟨B, i, none⟩ (.bool true)) T K' M' cap' B bc { s with c := fun _ _ => bk 0 0 0, wv := fun z => if z < i + 1 then true else s.wv z }) := by
          have q := (HQ.out.wrote (i := i) (by show i < s.W * s.H; rw [HN.out]; exact hlt)).sameW (wv' := fun z => if z < i + 1 then true else s.wv z) (fun z hz => by
            show (if z = i then true else (if z < i then true else s.wv z)) = _
            by_cases e : z = i
            · subst e; rw [if_pos rfl, if_pos (by omega)]
            · rw [if_neg e]
              by_cases e2 : z < i
              · rw [if_pos e2, if_pos (by omega)]
              · rw [if_neg e2, if_neg (by omega)])
          exact q
        have HC2 : Hid (C3 T M B w (wr.setCell ⟨B, i, none⟩ (.bool true))) := HC.out.setB _ _
        go_wp2
        go_roundw
        case rel => exact ⟨i + 1, by omega, by go_num, HQ2.out, HC2.out⟩
        case measure => simp [intOf]; omega
      · have hlt' : ¬ (i : Int) < (n : Int) := by omega
        obtain rfl : i = n := by omega
        go_wp2
        go_end0
        refine ⟨rfl, ⟨K', M', cap', ?_, .inr hsz.2⟩, HC.out⟩
        rw [HE.out]
        exact HQ.out.sameW (fun z hz => by show (if z < i then true else s.wv z) = true; rw [if_pos (by rw [← HN.out]; exact hz)])
  · have e2 : (a0 == 2) = false := by simpa using h2
    have HE : Hid (doR s 74 zs = s) := by show _ = _; unfold doR; rw [if_neg (by decide), if_pos rfl, if_neg (by rw [ha0]; exact h2)]
    clear h hh ha0 hc
    go_enter Tryd.func44, Tryd.ntmps44
    go_wp2
    go_end0
    refine ⟨rfl, ⟨K, M, cap, ?_, .inl rfl⟩, C3.refl _ _ _ _⟩
    rw [HE.out]
    exact HR.out
end

end Go.Proofs.YtgaogkggbccfnaaDoor

namespace Go.Proofs.YtgaogkggbccfnaaDoor
open Go.RowKit Go.Sort
set_option linter.unusedVariables false

theorem parS_bd (l : List UInt8) (hl : ∀ b ∈ l, 48 ≤ b.toNat) (p : List Int × Int) (h1 : ∀ z ∈ p.1, 0 ≤ z ∧ z ≤ 999999) (h2 : 0 ≤ p.2 ∧ p.2 ≤ 999999) : (∀ z ∈ (parS p l).1, 0 ≤ z ∧ z ≤ 999999) ∧ 0 ≤ (parS p l).2 ∧ (parS p l).2 ≤ 999999 := by
  induction l generalizing p with
  | nil => exact ⟨h1, h2⟩
  | cons b l ih =>
    have hb := hl b (List.mem_cons_self ..)
    refine ih (fun c hc => hl c (List.mem_cons_of_mem _ hc)) _ ?_ ?_
    · split
      · split
        · intro z hz
          rcases List.mem_append.1 hz with h | h
          · exact h1 z h
          · rw [List.mem_singleton] at h; rw [h]; exact h2
        · exact h1
      · split
        · exact h1
        · exact h1
    · split
      · exact ⟨Int.le_refl 0, (by decide : (0 : Int) ≤ 999999)⟩
      · split
        · exact h2
        · show 0 ≤ min 999999 (10 * p.2 + (b.toNat : Int) - 48) ∧ min 999999 (10 * p.2 + (b.toNat : Int) - 48) ≤ 999999
          omega
theorem parL_bd (l : List UInt8) (hl : ∀ b ∈ l, 48 ≤ b.toNat) : ∀ z ∈ parL l, 0 ≤ z ∧ z ≤ 999999 := by
  have h := parS_bd l hl ([], 0) (fun z hz => by cases hz) ⟨by decide, by decide⟩
  unfold parL parE
  split
  · intro z hz
    rcases List.mem_append.1 hz with q | q
    · exact h.1 z q
    · rw [List.mem_singleton] at q; rw [q]; exact h.2
  · exact h.1
theorem parL_len (l : List UInt8) : (parL l).length ≤ 16 := by
  have := parL_le l ([], 0) (by simp)
  unfold parL parE
  split
  · rw [List.length_append]; simp; omega
  · exact this

section
variable {T K M cap B bc : Nat} {s : Rm}
theorem do_any (w : World) (h : RT w T K M cap B bc s) (zs : List Int) (v : Value) (hv : Ints w v zs) (hz : 0 < zs.length) (hzl : zs.length ≤ 16) (hzb : ∀ z ∈ zs, 0 ≤ z ∧ z ≤ 999999) (b : Int) : Calls Tryd.prog 44 #[.pointer (some ⟨T, 0, none⟩), .int .u8 b, v] w fun e w' => DoEnd w w' e T M B bc (doR s b zs) := by
  by_cases h1 : b = 72
  · subst h1; exact do_H w h zs v hv hz hzl hzb
  · by_cases h2 : b = 74
    · subst h2; exact do_J w h zs v hv hz
    · by_cases h3 : b = 109
      · subst h3; exact do_m w h zs v hv hz hzl
      · exact do_no w h zs v hv b h1 h2 h3

/-- What a step leaves: told by a truth. -/
def StEnd (w w' : World) (e : Ending) (T M B bc : Nat) (s : Rm) (a : Bool) : Prop := e = .returned (.bool a) ∧ DoOut w w' T M B bc s
def esc0 (s : Rm) : Rm := { s with la := -1 }
theorem esc0_set (w : World) (h : RT w T K M cap B bc s) : RT (w.setCell ⟨T, 7, none⟩ (.int .i64 (-1))) T K M cap B bc (esc0 s) := h.set 7 (.int .i64 (-1)) (esc0 s) rfl ⟨rfl, rfl, rfl, rfl⟩
theorem DoOut.q {w w' : World} {T M B bc : Nat} {s : Rm} (h : DoOut w w' T M B bc s) (y : ByteArray) : DoOut w (w'.setCell ⟨T, 6, none⟩ (.string y)) T M B bc { s with q := y } := by
  obtain ⟨⟨K', M', cap', r, hm⟩, c⟩ := h
  exact ⟨⟨K', M', cap', r.set 6 (.string y) { s with q := y } rfl ⟨rfl, rfl, rfl, rfl⟩, hm⟩, c.set _ _⟩

set_option maxRecDepth 100000 in
set_option maxHeartbeats 8000000 in
/-- It has but begun, or is no sequence. -/
theorem esc_short (w : World) (h : RT w T K M cap B bc s) (hq : s.q.size = 1) : Calls Tryd.prog 30 #[.pointer (some ⟨T, 0, none⟩)] w fun e w' => StEnd w w' e T M B bc (esc0 s) false := by
  have HR : Hid (RT w T K M cap B bc s) := h
  have t7 : w.cell? ⟨T, 7, none⟩ = some (.int .i64 s.la) := h.at rfl
  have t6 : w.cell? ⟨T, 6, none⟩ = some (.string s.q) := h.at rfl
  have f7 := h.fz 7
  have hq' : (s.q.size : Int) < 2 := by omega
  clear h
  go_enter Tryd.func30, Tryd.ntmps30
  go_wp2
  go_ret
  exact ⟨rfl, ⟨K, M, cap, esc0_set w HR.out, .inl rfl⟩, (C3.refl _ _ _ _).set _ _⟩
set_option maxRecDepth 100000 in
set_option maxHeartbeats 8000000 in
theorem esc_none (w : World) (h : RT w T K M cap B bc s) (hq : 2 ≤ s.q.size) (hb : (s.q[1]'(by omega)).toNat ≠ 91) : Calls Tryd.prog 30 #[.pointer (some ⟨T, 0, none⟩)] w fun e w' => StEnd w w' e T M B bc { esc0 s with q := s.q.extract 2 s.q.size } true := by
  have HR : Hid (RT w T K M cap B bc s) := h
  have t7 : w.cell? ⟨T, 7, none⟩ = some (.int .i64 s.la) := h.at rfl
  have t6 : w.cell? ⟨T, 6, none⟩ = some (.string s.q) := h.at rfl
  have f7 := h.fz 7
  have f6 := h.fz 6
  have hq' : ¬ (s.q.size : Int) < 2 := by omega
  have hq2 : 1 < s.q.size := by omega
  obtain ⟨bt, hbt⟩ : ∃ b, s.q[1]'hq2 = b := ⟨_, rfl⟩
  have e1 : ((bt.toNat : Int) != 91) = true := by rw [hbt] at hb; simpa using (by omega : ¬ (bt.toNat : Int) = 91)
  clear h hb
  go_enter Tryd.func30, Tryd.ntmps30
  go_wp2
  go_ret
  exact ⟨rfl, DoOut.q ⟨⟨K, M, cap, esc0_set w HR.out, .inl rfl⟩, (C3.refl _ _ _ _).set _ _⟩ _⟩
/-- Its numbers stand from the third byte to the k-th. -/
def escR (s : Rm) (k : Nat) : Rm := if k < s.q.size then { (if 64 ≤ byt s.q.data.toList k ∧ byt s.q.data.toList k ≤ 126 then doR (esc0 s) (byt s.q.data.toList k) (parL (s.q.extract 2 k).data.toList) else esc0 s) with q := s.q.extract (k + 1) s.q.size } else esc0 s
theorem doR_q (s : Rm) (b : Int) (zs : List Int) : (doR s b zs).q = s.q := by
  unfold doR
  split
  · rfl
  · split
    · split <;> rfl
    · split <;> rfl
set_option maxRecDepth 100000 in
set_option maxHeartbeats 16000000 in
theorem esc_long (w : World) (h : RT w T K M cap B bc s) (hq : 2 ≤ s.q.size) (hqs : s.q.size ≤ 4611686018427387904) (hb : (s.q[1]'(by omega)).toNat = 91) (k : Nat) (hk : 2 ≤ k) (hks : k ≤ s.q.size) (hm : ∀ j (hj : j < s.q.size), 2 ≤ j → j < k → 48 ≤ (s.q[j]'hj).toNat ∧ (s.q[j]'hj).toNat ≤ 59) (hn : ∀ hj : k < s.q.size, ¬ (48 ≤ (s.q[k]'hj).toNat ∧ (s.q[k]'hj).toNat ≤ 59)) :
    Calls Tryd.prog 30 #[.pointer (some ⟨T, 0, none⟩)] w fun e w' => StEnd w w' e T M B bc (escR s k) (decide (k < s.q.size)) := by
  have hmix : Tryd.prog.follows .mixedOrders = true := by kernel_rfl
  obtain ⟨q, hsq⟩ : ∃ q, s.q = q := ⟨_, rfl⟩
  have HR : Hid (RT w T K M cap B bc s) := h
  have t7 : w.cell? ⟨T, 7, none⟩ = some (.int .i64 s.la) := h.at rfl
  have t6 : w.cell? ⟨T, 6, none⟩ = some (.string q) := by rw [← hsq]; exact h.at rfl
  have f7 := h.fz 7
  have HS : Hid (s.q = q) := hsq
  clear h
  subst hsq
  have hq' : ¬ (s.q.size : Int) < 2 := by omega
  have hq2 : 1 < s.q.size := by omega
  obtain ⟨bt, hbt⟩ : ∃ b, s.q[1]'hq2 = b := ⟨_, rfl⟩
  have e1 : ((bt.toNat : Int) != 91) = false := by rw [hbt] at hb; simpa using (by omega : (bt.toNat : Int) = 91)
  have H1 : Hid (RT (w.setCell ⟨T, 7, none⟩ (.int .i64 (-1))) T K M cap B bc (esc0 s)) := esc0_set w HR.out
  have B1 : Hid (C3 T M B w (w.setCell ⟨T, 7, none⟩ (.int .i64 (-1)))) := (C3.refl _ _ _ _).set _ _
  have HM : Hid (∀ j (hj : j < s.q.size), 2 ≤ j → j < k → 48 ≤ (s.q[j]'hj).toNat ∧ (s.q[j]'hj).toNat ≤ 59) := hm
  have HNN : Hid (∀ hj : k < s.q.size, ¬ (48 ≤ (s.q[k]'hj).toNat ∧ (s.q[k]'hj).toNat ≤ 59)) := hn
  clear hb hm hn HS
  go_enter Tryd.func30, Tryd.ntmps30
  go_wp2_with fail
  obtain ⟨w1, hw1⟩ : ∃ z, w.setCell ⟨T, 7, none⟩ (.int .i64 (-1)) = z := ⟨_, rfl⟩
  rw [hw1] at H1 B1 ⊢
  clear hw1 t7 f7 t6 HR
  go_loopw [4] (fun iv wr => ∃ i : Nat, 2 ≤ i ∧ i ≤ k ∧ iv = .int .i64 i ∧ wr = w1) (fun iv _ => k - (intOf iv).toNat)
  case atStart => exact ⟨2, by omega, by omega, rfl, by first | rfl | trivial⟩
  case round =>
    obtain ⟨i, hi2, hik, rfl, rfl⟩ := hrel
    by_cases hlt : i < k
    · have hil : i < s.q.size := by omega
      have hil' : (i : Int) < (s.q.size : Int) := by omega
      obtain ⟨b2, hb2⟩ : ∃ b, s.q[i]'hil = b := ⟨_, rfl⟩
      have hbd := HM.out i hil hi2 hlt
      rw [hb2] at hbd
      have g1 : (48 : Int) ≤ (b2.toNat : Int) := by omega
      have g2 : (b2.toNat : Int) ≤ 59 := by omega
      go_wp2
      go_roundw
      case rel => exact ⟨i + 1, by omega, by omega, by go_num, by first | rfl | trivial⟩
      case measure => simp [intOf]; omega
    · obtain rfl : i = k := by omega
      by_cases hend : i < s.q.size
      · have hil' : (i : Int) < (s.q.size : Int) := by omega
        have hne : ((i : Int) == (s.q.size : Int)) = false := by simpa using (by omega : ¬ (i : Int) = (s.q.size : Int))
        obtain ⟨b2, hb2⟩ : ∃ b, s.q[i]'hend = b := ⟨_, rfl⟩
        have hbd := HNN.out hend
        rw [hb2] at hbd
        have HMM : Hid (∀ b ∈ (s.q.extract 2 i).data.toList, 48 ≤ b.toNat ∧ b.toNat ≤ 59) := fun b hb => by
          obtain ⟨j, hj, rfl⟩ := List.mem_iff_getElem.1 hb
          have hjl : j < i - 2 := by rw [len_data, ByteArray.size_extract] at hj; omega
          have e : ((s.q.extract 2 i).data.toList[j]'hj) = s.q[2 + j]'(by omega) := by
            have e1 : (s.q.extract 2 i).data.toList = (s.q.data.toList.take i).drop 2 := by
              rw [ByteArray.data_extract, Array.toList_extract]
              simp [List.extract, List.drop_take]
            have e2 : (s.q.extract 2 i).data.toList[j]? = s.q.data.toList[2 + j]? := by
              rw [e1, List.getElem?_drop, List.getElem?_take, if_pos (by omega)]
            rw [List.getElem?_eq_getElem hj, Array.getElem?_toList, show s.q.data[2 + j]? = some (s.q[2 + j]'(by omega)) from Array.getElem?_eq_getElem (by show 2 + j < s.q.size; omega)] at e2
            exact Option.some.inj e2
          rw [e]
          exact HM.out (2 + j) (by omega) (by omega) (by omega)
        have PAR : Hid (∀ w, Calls Tryd.prog 45 #[.string (s.q.extract 2 i)] w fun e w' => ∃ v, e = .returned v ∧ Ints w' v (parL (s.q.extract 2 i).data.toList) ∧ Below w.heap.size w w') := fun w => params_any (s.q.extract 2 i) (by simp [ByteArray.size_extract]; omega) (fun b hb => HMM.out b hb) w
        have HBY : Hid (byt s.q.data.toList i = b2.toNat) := by show _ = _; rw [byt_at s.q i hend, hb2]
        have t6 : wr.cell? ⟨T, 6, none⟩ = some (.string s.q) := H1.out.at rfl
        have f6 := H1.out.fz 6
        by_cases g3 : (48 : Int) ≤ (b2.toNat : Int)
        · by_cases g4 : (b2.toNat : Int) ≤ 59
          · exact absurd ⟨by omega, by omega⟩ hbd
          · by_cases g5 : (64 : Int) ≤ (b2.toNat : Int)
            · by_cases g6 : (b2.toNat : Int) ≤ 126
              · have HE : Hid (escR s i = { doR (esc0 s) b2.toNat (parL (s.q.extract 2 i).data.toList) with q := s.q.extract (i + 1) s.q.size }) := by
                  show _ = _
                  unfold escR
                  rw [if_pos hend, HBY.out, if_pos (by omega)]
                obtain ⟨zs, hzs⟩ : ∃ z, parL (s.q.extract 2 i).data.toList = z := ⟨_, rfl⟩
                have ZB : Hid (0 < zs.length ∧ zs.length ≤ 16 ∧ ∀ z ∈ zs, 0 ≤ z ∧ z ≤ 999999) := by
                  refine ⟨by rw [← hzs]; exact parL_pos _, by rw [← hzs]; exact parL_len _, by rw [← hzs]; exact parL_bd _ (fun b hb => (HMM.out b hb).1)⟩
                rw [hzs] at HE PAR
                have DO : Hid (∀ (w' : World) v, Below wr.heap.size wr w' → Ints w' v zs → Calls Tryd.prog 44 #[.pointer (some ⟨T, 0, none⟩), .int .u8 b2.toNat, v] w' fun e w'' => e = .returned (.tuple #[]) ∧ DoOut w w'' T M B bc (doR (esc0 s) b2.toNat zs)) := fun w' v g hv => (do_any w' (H1.out.below g) zs v hv ZB.out.1 ZB.out.2.1 ZB.out.2.2 b2.toNat).mono fun e w'' q => by
                  obtain ⟨q1, ⟨K', M', cap', q2, q3⟩, q4⟩ := q
                  have hsz := B1.out.size
                  have hsz2 := g.size
                  exact ⟨q1, ⟨K', M', cap', q2, by rcases q3 with h | h; exact .inl h; exact .inr (by omega)⟩, (B1.out.trans (C3.below g)).trans q4⟩
                clear hzs t6 f6 HM HNN hbd
                go_wp2_with fail
                go_region_held (fun _ => True) (trivial) (first | (go_at_call 45; refine Calls.mono (PAR.out _) ?_; rintro e1 w2 ⟨v2, rfl, I2, g2⟩) | (go_at_call 44; refine Calls.mono (DO.out _ _ ((Gr.refl wr).drew.below.trans g2) I2) ?_; rintro e1 w3 ⟨rfl, D3⟩))
                all_goals
                  have D4 : Hid (DoOut w (w3.setCell ⟨T, 6, none⟩ (.string (s.q.extract (i + 1) s.q.size))) T M B bc (escR s i)) := by
                    show DoOut _ _ _ _ _ _ _
                    rw [HE.out]
                    exact D3.q _
                  have t6 : w3.cell? ⟨T, 6, none⟩ = some (.string s.q) := by
                    obtain ⟨⟨K', M', cap', q2, q3⟩, q4⟩ := D3
                    have e : w3.cell? ⟨T, 6, none⟩ = some (.string (doR (esc0 s) b2.toNat zs).q) := q2.at rfl
                    rw [doR_q] at e
                    exact e
                  have f6 : w3.frozen? ⟨T, 6, none⟩ = false := by
                    obtain ⟨⟨K', M', cap', q2, q3⟩, q4⟩ := D3
                    exact q2.fz 6
                  clear D3 g2 I2 PAR DO HE
                  go_wp2
                  go_ret
                  exact ⟨by first | rfl | (rw [decide_eq_true hend]; rfl), D4.out⟩
              · have HE : Hid (escR s i = { esc0 s with q := s.q.extract (i + 1) s.q.size }) := by
                  show _ = _
                  unfold escR
                  rw [if_pos hend, HBY.out, if_neg (by omega)]
                go_wp2
                go_ret
                refine ⟨by first | rfl | (rw [decide_eq_true hend]; rfl), ?_⟩
                rw [HE.out]
                exact DoOut.q ⟨⟨K, M, cap, H1.out, .inl rfl⟩, B1.out⟩ _
            · have HE : Hid (escR s i = { esc0 s with q := s.q.extract (i + 1) s.q.size }) := by
                show _ = _
                unfold escR
                rw [if_pos hend, HBY.out, if_neg (by omega)]
              go_wp2
              go_ret
              refine ⟨by first | rfl | (rw [decide_eq_true hend]; rfl), ?_⟩
              rw [HE.out]
              exact DoOut.q ⟨⟨K, M, cap, H1.out, .inl rfl⟩, B1.out⟩ _
        · have HE : Hid (escR s i = { esc0 s with q := s.q.extract (i + 1) s.q.size }) := by
            show _ = _
            unfold escR
            rw [if_pos hend, HBY.out, if_neg (by omega)]
          go_wp2
          go_ret
          refine ⟨by first | rfl | (rw [decide_eq_true hend]; rfl), ?_⟩
          rw [HE.out]
          exact DoOut.q ⟨⟨K, M, cap, H1.out, .inl rfl⟩, B1.out⟩ _
      · have hil' : ¬ (i : Int) < (s.q.size : Int) := by omega
        have hne : ((i : Int) == (s.q.size : Int)) = true := by simpa using (by omega : (i : Int) = (s.q.size : Int))
        have HE : Hid (escR s i = esc0 s) := by show _ = _; unfold escR; rw [if_neg hend]
        go_wp2
        go_ret
        refine ⟨by first | rfl | (rw [decide_eq_false hend]; rfl), ?_⟩
        rw [HE.out]
        exact ⟨⟨K, M, cap, H1.out, .inl rfl⟩, B1.out⟩
end

end Go.Proofs.YtgaogkggbccfnaaDoor

namespace Go.Proofs.YtgaogkggbccfnaaDoor
open Go.RowKit Go.Sort
set_option linter.unusedVariables false

/-- A byte that may go on. -/
def fillB (l : List UInt8) : UInt8 := if l.length = 1 ∧ (byt l 0 = 0xE0 ∨ byt l 0 = 0xF0) then 0xA0 else 0x80
/-- n bytes more. -/
def fillN (l : List UInt8) : Nat → List UInt8
  | 0 => l
  | n + 1 => fillN l n ++ [fillB (fillN l n)]
theorem fillN_len (l : List UInt8) (n : Nat) : (fillN l n).length = l.length + n := by
  induction n with
  | zero => rfl
  | succ n ih => show (fillN l n ++ [_]).length = _; rw [List.length_append, ih]; simp; omega
def begN (l : List UInt8) (n : Nat) : Prop := seq (fillN l n) = (fillN l n).length ∧ l.length < seq (fillN l n)

set_option maxRecDepth 100000 in
set_option maxHeartbeats 2000000 in
theorem filler_any (x : ByteArray) (hx : x.size ≤ 70368744177664) (w : World) : Calls Tryd.prog 50 #[.string x] w fun e w' => e = .returned (.string ⟨#[fillB x.data.toList]⟩) ∧ Below w.heap.size w w' := by
  have c1 := conv1 160 (by omega)
  have c2 := conv1 128 (by omega)
  by_cases h1 : x.size = 1
  · have hs : 0 < x.size := by omega
    obtain ⟨bt, hbt⟩ : ∃ b, x[0]'hs = b := ⟨_, rfl⟩
    have HB : Hid (byt x.data.toList 0 = bt.toNat) := by show _ = _; rw [byt_at x 0 hs, hbt]
    have HL : Hid (x.data.toList.length = 1) := (len_data x).trans h1
    have e1 : ((x.size : Int) == 1) = true := by simpa using (by omega : (x.size : Int) = 1)
    by_cases h2 : bt.toNat = 224
    · have e2 : ((bt.toNat : Int) == 224) = true := by simpa using (by omega : (bt.toNat : Int) = 224)
      go_enter Tryd.func50, Tryd.ntmps50
      go_wp2
      go_ret
      exact ⟨by unfold fillB; rw [if_pos ⟨HL.out, .inl (by rw [HB.out]; exact h2)⟩]; rfl, (Below.refl _ _).alloc (Nat.le_refl _) _⟩
    · have e2 : ((bt.toNat : Int) == 224) = false := by simpa using (by omega : ¬ (bt.toNat : Int) = 224)
      by_cases h3 : bt.toNat = 240
      · have e3 : ((bt.toNat : Int) == 240) = true := by simpa using (by omega : (bt.toNat : Int) = 240)
        go_enter Tryd.func50, Tryd.ntmps50
        go_wp2
        go_ret
        exact ⟨by unfold fillB; rw [if_pos ⟨HL.out, .inr (by rw [HB.out]; exact h3)⟩]; rfl, (Below.refl _ _).alloc (Nat.le_refl _) _⟩
      · have e3 : ((bt.toNat : Int) == 240) = false := by simpa using (by omega : ¬ (bt.toNat : Int) = 240)
        go_enter Tryd.func50, Tryd.ntmps50
        go_wp2
        go_ret
        exact ⟨by unfold fillB; rw [if_neg (fun q => by have := HB.out; omega)]; rfl, (Below.refl _ _).alloc (Nat.le_refl _) _⟩
  · have e1 : ((x.size : Int) == 1) = false := by simpa using (by omega : ¬ (x.size : Int) = 1)
    have HL : Hid (x.data.toList.length = x.size) := len_data x
    go_enter Tryd.func50, Tryd.ntmps50
    go_wp2
    go_ret
    exact ⟨by unfold fillB; rw [if_neg (fun q => by have := HL.out; omega)]; rfl, (Below.refl _ _).alloc (Nat.le_refl _) _⟩

def BgOut (w w' : World) (e : Ending) (l : List UInt8) : Prop := ∃ bb : Bool, e = .returned (.bool bb) ∧ Hid (bb = true ↔ ∃ n, 1 ≤ n ∧ n < 4 ∧ begN l n) ∧ Below w.heap.size w w'
set_option maxRecDepth 100000 in
set_option maxHeartbeats 8000000 in
theorem begins_any (x : ByteArray) (h0 : 0 < x.size) (hx : x.size ≤ 1000) (w : World) : Calls Tryd.prog 34 #[.string x] w fun e w' => BgOut w w' e x.data.toList := by
  have FI : Hid (∀ (y : ByteArray) w, y.size ≤ 70368744177664 → Calls Tryd.prog 50 #[.string y] w fun e w' => e = .returned (.string ⟨#[fillB y.data.toList]⟩) ∧ Below w.heap.size w w') := fun y w h => filler_any y h w
  have SQ : Hid (∀ (y : ByteArray) w, 0 < y.size → y.size ≤ 70368744177664 → Calls Tryd.prog 31 #[.string y, .int .i64 (0 : Nat)] w fun e w' => e = .returned (.int .i64 (seq y.data.toList)) ∧ w' = w) := fun y w h1 h2 => by
    have := sequence_any y 0 h1 h2 w
    rw [List.drop_zero] at this
    exact this
  have HL : Hid (x.data.toList.length = x.size) := len_data x
  go_enter Tryd.func34, Tryd.ntmps34
  go_wp2
  go_loopw [3] (fun nv wr => ∃ n : Nat, 1 ≤ n ∧ n ≤ 4 ∧ nv = .int .i64 n ∧ Hid (∀ k, 1 ≤ k → k < n → ¬ begN x.data.toList k) ∧ Hid (Below w.heap.size w wr)) (fun nv _ => 4 - (intOf nv).toNat)
  case atStart => exact ⟨1, by omega, by omega, rfl, fun k h1 h2 => by omega, Below.refl _ _⟩
  case round =>
    obtain ⟨n, hn1, hn4, rfl, HB, HW⟩ := hrel
    by_cases hlt : n < 4
    · have hlt' : (n : Int) < 4 := by omega
      go_wp2
      go_loopw [4, 5] (fun fv iv wk => ∃ (i : Nat) (y : ByteArray), i ≤ n ∧ iv = .int .i64 i ∧ fv = .string y ∧ y.size = x.size + i ∧ Hid (y.data.toList = fillN x.data.toList i) ∧ Hid (Below w.heap.size w wk)) (fun _ iv _ => n - (intOf iv).toNat)
      case atStart => exact ⟨0, x, by omega, rfl, rfl, rfl, rfl, HW.out⟩
      case round =>
        obtain ⟨i, y, hi, rfl, rfl, hy, HY, HK⟩ := hrel
        by_cases hil : i < n
        · have hil' : (i : Int) < (n : Int) := by omega
          go_wp2_with fail
          refine (FI.out y _ (by omega)).mono ?_
          rintro e w1 ⟨rfl, b1⟩
          have HK1 : Hid (Below w.heap.size w w1) := HK.out.trans (b1.mono HK.out.size)
          have HY1 : Hid ((y ++ (⟨#[fillB y.data.toList]⟩ : ByteArray)).data.toList = fillN x.data.toList (i + 1)) := by
            show _ = fillN x.data.toList i ++ [fillB (fillN x.data.toList i)]
            rw [← HY.out]
            simp
          obtain ⟨fb, hfb⟩ : ∃ z : ByteArray, (⟨#[fillB y.data.toList]⟩ : ByteArray) = z := ⟨_, rfl⟩
          have hfs : fb.size = 1 := by rw [← hfb]; rfl
          rw [hfb] at HY1 ⊢
          have hcc : ¬ 9223372036854775807 < y.size + fb.size := by omega
          have hya : (y ++ fb).size = x.size + (i + 1) := by rw [ByteArray.size_append]; omega
          clear b1 hfb
          go_wp2
          go_roundw
          case rel => exact ⟨i + 1, y ++ fb, by omega, by go_num, rfl, hya, HY1.out, HK1.out⟩
          case measure => simp [intOf]; omega
        · have hil' : ¬ (i : Int) < (n : Int) := by omega
          obtain rfl : i = n := by omega
          have HSQ : Hid (∀ w, Calls Tryd.prog 31 #[.string y, .int .i64 0] w fun e w' => e = .returned (.int .i64 (seq y.data.toList)) ∧ w' = w) := fun w => SQ.out y w (by omega) (by omega)
          obtain ⟨q, hq⟩ : ∃ z, seq y.data.toList = z := ⟨_, rfl⟩
          rw [hq] at HSQ
          have HQ : Hid (begN x.data.toList i ↔ q = y.size ∧ x.size < q) := by
            show _ ↔ _
            unfold begN
            rw [← HY.out, hq, len_data, HL.out]
          clear hq
          go_wp2_with fail
          refine (HSQ.out _).mono ?_
          rintro e w1 ⟨rfl, hw⟩
          obtain rfl := hw.symm
          by_cases h1 : q = y.size
          · have e1 : ((q : Int) == (y.size : Int)) = true := by simpa using (by omega : (q : Int) = (y.size : Int))
            by_cases h2 : x.size < q
            · have h2' : (x.size : Int) < (q : Int) := by omega
              go_wp2
              go_ret
              exact ⟨true, rfl, ⟨fun _ => ⟨i, hn1, hlt, HQ.out.2 ⟨h1, h2⟩⟩, fun _ => rfl⟩, HK.out⟩
            · exact absurd (by omega) h2
          · have e1 : ((q : Int) == (y.size : Int)) = false := by simpa using (by omega : ¬ (q : Int) = (y.size : Int))
            go_wp2
            go_roundw
            case rel => exact ⟨i + 1, by omega, by omega, by go_num, fun k k1 k2 => by
              by_cases e : k = i
              · subst e; exact fun z => h1 (HQ.out.1 z).1
              · exact HB.out k k1 (by omega), HK.out⟩
            case measure => simp [intOf]; omega
    · have hlt' : ¬ (n : Int) < 4 := by omega
      go_wp2
      go_ret
      exact ⟨false, rfl, ⟨fun h => (by cases h), fun ⟨k, k1, k2, k3⟩ => absurd k3 (HB.out k k1 (by omega))⟩, HW.out⟩

end Go.Proofs.YtgaogkggbccfnaaDoor

namespace Go.Proofs.YtgaogkggbccfnaaDoor
open Go.RowKit Go.Sort
set_option linter.unusedVariables false

def prR (s : Rm) (r : Int) : Rm := if wid r = 0 then markR s r else bigR s r
section
variable {T K M cap B bc : Nat} {s : Rm}
theorem rprint_any (w : World) (h : RT w T K M cap B bc s) (hi : Ri s) (r : Int) : Calls Tryd.prog 33 #[.pointer (some ⟨T, 0, none⟩), .int .i64 r] w fun e w' => PrOut w w' e T K M cap B bc (prR s r) := by
  unfold prR
  have hw := wid_bd r
  by_cases h0 : wid r = 0
  · rw [if_pos h0]; exact rmark_any w h hi r h0
  · rw [if_neg h0]; exact rbig_any w h hi r (by omega)
theorem Ri.q (h : Ri s) (y : ByteArray) : Ri { s with q := y } := ⟨h.x0, h.x1, h.y0, h.y1, h.la⟩
theorem RT.q (w : World) (h : RT w T K M cap B bc s) (y : ByteArray) : RT (w.setCell ⟨T, 6, none⟩ (.string y)) T K M cap B bc { s with q := y } := h.set 6 (.string y) { s with q := y } rfl ⟨rfl, rfl, rfl, rfl⟩

set_option maxRecDepth 100000 in
set_option maxHeartbeats 4000000 in
theorem step_0 (w : World) (h : RT w T K M cap B bc s) (hq : s.q.size = 0) : Calls Tryd.prog 21 #[.pointer (some ⟨T, 0, none⟩)] w fun e w' => StEnd w w' e T M B bc s false := by
  have HR : Hid (RT w T K M cap B bc s) := h
  have e : s.q = ⟨#[]⟩ := by
    apply ByteArray.ext
    exact Array.eq_empty_of_size_eq_zero hq
  have t6 : w.cell? ⟨T, 6, none⟩ = some (.string ⟨#[]⟩) := by rw [← e]; exact h.at rfl
  clear h e
  go_enter Tryd.func21, Tryd.ntmps21
  go_wp2
  go_ret
  exact ⟨rfl, ⟨K, M, cap, HR.out, .inl rfl⟩, C3.refl _ _ _ _⟩

theorem ne_empty {q : ByteArray} (h : 0 < q.size) : q.toList.isEmpty = false := by
  cases hh : q.toList.isEmpty with
  | false => rfl
  | true =>
    rw [List.isEmpty_iff, ByteArray.toList_eq] at hh
    have := len_data q
    rw [hh] at this
    simp at this
    omega

set_option maxRecDepth 100000 in
set_option maxHeartbeats 4000000 in
theorem step_esc (w : World) (h : RT w T K M cap B bc s) (hq : 0 < s.q.size) (hb : (s.q[0]'hq).toNat = 27) {s' : Rm} {a : Bool} (hE : Calls Tryd.prog 30 #[.pointer (some ⟨T, 0, none⟩)] w fun e w' => StEnd w w' e T M B bc s' a) :
    Calls Tryd.prog 21 #[.pointer (some ⟨T, 0, none⟩)] w fun e w' => StEnd w w' e T M B bc s' a := by
  have HE : Hid (Calls Tryd.prog 30 #[.pointer (some ⟨T, 0, none⟩)] w fun e w' => e = .returned (.bool a) ∧ DoOut w w' T M B bc s') := hE
  have t6 : w.cell? ⟨T, 6, none⟩ = some (.string s.q) := h.at rfl
  have ne := ne_empty hq
  obtain ⟨bt, hbt⟩ : ∃ b, s.q[0]'hq = b := ⟨_, rfl⟩
  have e1 : ((bt.toNat : Int) == 27) = true := by rw [hbt] at hb; simpa using (by omega : (bt.toNat : Int) = 27)
  have hq' : (0 : Int) < (s.q.size : Int) := by omega
  clear h hE hb
  go_enter Tryd.func21, Tryd.ntmps21
  go_wp2_with fail
  refine HE.out.mono ?_
  rintro e w1 ⟨rfl, d⟩
  have HD : Hid (DoOut w w1 T M B bc s') := d
  clear d
  go_wp2
  go_ret
  exact ⟨rfl, HD.out⟩

set_option maxRecDepth 100000 in
set_option maxHeartbeats 4000000 in
theorem step_ctl (w : World) (h : RT w T K M cap B bc s) (hq : 0 < s.q.size) (hb : (s.q[0]'hq).toNat ≠ 27) (hc : (s.q[0]'hq).toNat < 32 ∨ (s.q[0]'hq).toNat = 127) :
    Calls Tryd.prog 21 #[.pointer (some ⟨T, 0, none⟩)] w fun e w' => StEnd w w' e T M B bc { s with la := -1, q := s.q.extract 1 s.q.size } true := by
  have HR : Hid (RT w T K M cap B bc s) := h
  have t6 : w.cell? ⟨T, 6, none⟩ = some (.string s.q) := h.at rfl
  have t7 : w.cell? ⟨T, 7, none⟩ = some (.int .i64 s.la) := h.at rfl
  have f6 := h.fz 6
  have f7 := h.fz 7
  have ne := ne_empty hq
  obtain ⟨bt, hbt⟩ : ∃ b, s.q[0]'hq = b := ⟨_, rfl⟩
  rw [hbt] at hb hc
  have e1 : ((bt.toNat : Int) == 27) = false := by simpa using (by omega : ¬ (bt.toNat : Int) = 27)
  have hq' : (0 : Int) < (s.q.size : Int) := by omega
  have HF : Hid (StEnd w ((w.setCell ⟨T, 7, none⟩ (.int .i64 (-1))).setCell ⟨T, 6, none⟩ (.string (s.q.extract 1 s.q.size))) (.returned (.bool true)) T M B bc { s with la := -1, q := s.q.extract 1 s.q.size } true) :=
    ⟨rfl, DoOut.q (s := esc0 s) ⟨⟨K, M, cap, esc0_set w HR.out, .inl rfl⟩, (C3.refl _ _ _ _).set _ _⟩ _⟩
  clear h hb
  by_cases h32 : (bt.toNat : Int) < 32
  · go_enter Tryd.func21, Tryd.ntmps21
    go_wp2
    go_ret
    exact ⟨rfl, HF.out.2⟩
  · have e2 : ((bt.toNat : Int) == 127) = true := by simpa using (by omega : (bt.toNat : Int) = 127)
    go_enter Tryd.func21, Tryd.ntmps21
    go_wp2
    go_ret
    exact ⟨rfl, HF.out.2⟩

set_option maxRecDepth 100000 in
set_option maxHeartbeats 8000000 in
theorem step_seq (w : World) (h : RT w T K M cap B bc s) (hi : Ri s) (hq : 0 < s.q.size) (hqs : s.q.size ≤ 1000) (hb : (s.q[0]'hq).toNat ≠ 27) (hc : ¬ ((s.q[0]'hq).toNat < 32 ∨ (s.q[0]'hq).toNat = 127)) (n : Nat) (hn : seq s.q.data.toList = n) (hn0 : 0 < n) (hns : n ≤ s.q.size) (r : Int) (hr : runes (s.q.extract 0 n).data.toList = [r]) :
    Calls Tryd.prog 21 #[.pointer (some ⟨T, 0, none⟩)] w fun e w' => StEnd w w' e T M B bc (prR { s with q := s.q.extract n s.q.size } r) true := by
  have HR : Hid (RT w T K M cap B bc s) := h
  have HI : Hid (Ri s) := hi
  have t6 : w.cell? ⟨T, 6, none⟩ = some (.string s.q) := h.at rfl
  have ne := ne_empty hq
  obtain ⟨bt, hbt⟩ : ∃ b, s.q[0]'hq = b := ⟨_, rfl⟩
  rw [hbt] at hb hc
  have e1 : ((bt.toNat : Int) == 27) = false := by simpa using (by omega : ¬ (bt.toNat : Int) = 27)
  have h32 : ¬ (bt.toNat : Int) < 32 := by omega
  have e2 : ((bt.toNat : Int) == 127) = false := by simpa using (by omega : ¬ (bt.toNat : Int) = 127)
  have hq' : (0 : Int) < (s.q.size : Int) := by omega
  have hn0' : (0 : Int) < (n : Int) := by omega
  have hns' : (n : Int) ≤ (s.q.size : Int) := by omega
  have SQ : Hid (∀ w, Calls Tryd.prog 31 #[.string s.q, .int .i64 0] w fun e w' => e = .returned (.int .i64 n) ∧ w' = w) := fun w => by
    have := sequence_any s.q 0 hq (by omega) w
    rw [List.drop_zero, hn] at this
    exact this
  have DC : Hid (∀ w, Calls Tryd.prog 32 #[.string (s.q.extract 0 n)] w fun e w' => ∃ b off c, e = .returned (.slice (some ⟨b, off, none⟩) 1 c) ∧ w.heap.size ≤ b ∧ w'.cell? ⟨b, off, none⟩ = some (.int .i64 r) ∧ Below w.heap.size w w') := fun w => (rDecode_any (s.q.extract 0 n) w (by simp [ByteArray.size_extract]; omega)).mono fun e w' q => by
    obtain ⟨v, q1, q2, q3⟩ := q
    rw [hr] at q2
    rcases q2.2 with ⟨_, h0⟩ | ⟨g, c, cur, rfl, hg, hcell, _⟩
    · exact absurd h0 (by simp)
    · have := q2.cells (g := g) rfl 0 (.int .i64 r) rfl
      exact ⟨g, 0, c, q1, hg, this, q3⟩
  clear h hi hb hc hr hn
  go_enter Tryd.func21, Tryd.ntmps21
  go_wp2_with fail
  refine (SQ.out _).mono ?_
  rintro e w1 ⟨rfl, hw⟩
  obtain rfl := hw.symm
  go_wp2_with fail
  refine (DC.out _).mono ?_
  rintro e w2 ⟨b0, off, c0, rfl, hb0, z0, g2⟩
  have H2 : Hid (RT w2 T K M cap B bc s) := HR.out.below g2
  have B2 : Hid (C3 T M B w w2) := C3.below g2
  have hTl := HR.out.lt
  have u6 : w2.cell? ⟨T, 6, none⟩ = some (.string s.q) := H2.out.at rfl
  have f6 := H2.out.fz 6
  have z1 : (w2.setCell ⟨T, 6, none⟩ (.string (s.q.extract n s.q.size))).cell? ⟨b0, off, none⟩ = some (.int .i64 r) := keepo z0 (by show b0 ≠ T; omega)
  have H3 : Hid (RT (w2.setCell ⟨T, 6, none⟩ (.string (s.q.extract n s.q.size))) T K M cap B bc { s with q := s.q.extract n s.q.size }) := RT.q w2 H2.out _
  have B3 : Hid (C3 T M B w (w2.setCell ⟨T, 6, none⟩ (.string (s.q.extract n s.q.size)))) := B2.out.set _ _
  have I3 : Hid (Ri { s with q := s.q.extract n s.q.size }) := HI.out.q _
  clear g2 H2 B2 SQ DC t6 hb0
  go_wp2_with fail
  refine (rprint_any _ H3.out I3.out r).mono ?_
  rintro e w4 ⟨rfl, h4, c4⟩
  have H4 : Hid (RT w4 T K M cap B bc (prR { s with q := s.q.extract n s.q.size } r)) := h4
  have B4 : Hid (C3 T M B w w4) := B3.out.trans c4
  clear h4 c4 H3 B3
  go_wp2
  go_ret
  exact ⟨rfl, ⟨K, M, cap, H4.out, .inl rfl⟩, B4.out⟩

set_option maxRecDepth 100000 in
set_option maxHeartbeats 8000000 in
theorem step_amid (w : World) (h : RT w T K M cap B bc s) (hi : Ri s) (hq : 0 < s.q.size) (hqs : s.q.size ≤ 1000) (hb : (s.q[0]'hq).toNat ≠ 27) (hc : ¬ ((s.q[0]'hq).toNat < 32 ∨ (s.q[0]'hq).toNat = 127)) (hn : seq s.q.data.toList = 0) (bb : Bool) (hbb : bb = true ↔ ∃ n, 1 ≤ n ∧ n < 4 ∧ begN s.q.data.toList n) :
    Calls Tryd.prog 21 #[.pointer (some ⟨T, 0, none⟩)] w fun e w' => StEnd w w' e T M B bc (if bb then s else prR { s with q := s.q.extract 1 s.q.size } 65533) (!bb) := by
  have HR : Hid (RT w T K M cap B bc s) := h
  have HI : Hid (Ri s) := hi
  have t6 : w.cell? ⟨T, 6, none⟩ = some (.string s.q) := h.at rfl
  have ne := ne_empty hq
  obtain ⟨bt, hbt⟩ : ∃ b, s.q[0]'hq = b := ⟨_, rfl⟩
  rw [hbt] at hb hc
  have e1 : ((bt.toNat : Int) == 27) = false := by simpa using (by omega : ¬ (bt.toNat : Int) = 27)
  have h32 : ¬ (bt.toNat : Int) < 32 := by omega
  have e2 : ((bt.toNat : Int) == 127) = false := by simpa using (by omega : ¬ (bt.toNat : Int) = 127)
  have hq' : (0 : Int) < (s.q.size : Int) := by omega
  have SQ : Hid (∀ w, Calls Tryd.prog 31 #[.string s.q, .int .i64 0] w fun e w' => e = .returned (.int .i64 0) ∧ w' = w) := fun w => by
    have := sequence_any s.q 0 hq (by omega) w
    rw [List.drop_zero, hn] at this
    exact this
  have BG : Hid (∀ w, Calls Tryd.prog 34 #[.string s.q] w fun e w' => e = .returned (.bool bb) ∧ Below w.heap.size w w') := fun w => (begins_any s.q hq hqs w).mono fun e w' q => by
    obtain ⟨b2, q1, q2, q3⟩ := q
    obtain rfl : b2 = bb := by
      cases b2 <;> cases bb
      · rfl
      · exact absurd (q2.2 (hbb.1 rfl)) (by decide)
      · exact absurd (hbb.2 (q2.1 rfl)) (by decide)
      · rfl
    exact ⟨q1, q3⟩
  clear h hi hb hc hn hbb
  cases bb with
  | true =>
    go_enter Tryd.func21, Tryd.ntmps21
    go_wp2_with fail
    refine (SQ.out _).mono ?_
    rintro e w1 ⟨rfl, hw⟩
    obtain rfl := hw.symm
    go_wp2_with fail
    refine (BG.out _).mono ?_
    rintro e w2 ⟨rfl, g2⟩
    have H2 : Hid (RT w2 T K M cap B bc s) := HR.out.below g2
    have B2 : Hid (C3 T M B w w2) := C3.below g2
    clear g2
    go_wp2
    go_ret
    exact ⟨rfl, ⟨K, M, cap, H2.out, .inl rfl⟩, B2.out⟩
  | false =>
    go_enter Tryd.func21, Tryd.ntmps21
    go_wp2_with fail
    refine (SQ.out _).mono ?_
    rintro e w1 ⟨rfl, hw⟩
    obtain rfl := hw.symm
    go_wp2_with fail
    refine (BG.out _).mono ?_
    rintro e w2 ⟨rfl, g2⟩
    have H2 : Hid (RT w2 T K M cap B bc s) := HR.out.below g2
    have B2 : Hid (C3 T M B w w2) := C3.below g2
    have u6 : w2.cell? ⟨T, 6, none⟩ = some (.string s.q) := H2.out.at rfl
    have f6 := H2.out.fz 6
    have H3 : Hid (RT (w2.setCell ⟨T, 6, none⟩ (.string (s.q.extract 1 s.q.size))) T K M cap B bc { s with q := s.q.extract 1 s.q.size }) := RT.q w2 H2.out _
    have B3 : Hid (C3 T M B w (w2.setCell ⟨T, 6, none⟩ (.string (s.q.extract 1 s.q.size)))) := B2.out.set _ _
    have I3 : Hid (Ri { s with q := s.q.extract 1 s.q.size }) := HI.out.q _
    clear g2 H2 B2 SQ BG t6
    go_wp2_with fail
    refine (rprint_any _ H3.out I3.out 65533).mono ?_
    rintro e w4 ⟨rfl, h4, c4⟩
    have H4 : Hid (RT w4 T K M cap B bc (prR { s with q := s.q.extract 1 s.q.size } 65533)) := h4
    have B4 : Hid (C3 T M B w w4) := B3.out.trans c4
    clear h4 c4 H3 B3
    go_wp2
    go_ret
    exact ⟨rfl, ⟨K, M, cap, H4.out, .inl rfl⟩, B4.out⟩
end

end Go.Proofs.YtgaogkggbccfnaaDoor

namespace Go.Proofs.YtgaogkggbccfnaaDoor
set_option linter.unusedVariables false

/-- Right, and whole. -/
def Vd (l : List UInt8) : Prop := (0xC2 ≤ byt l 0 ∧ byt l 0 ≤ 0xF4) ∧ (1 < l.length ∧ seqLo (byt l 0) ≤ byt l 1 ∧ byt l 1 ≤ seqHi (byt l 0)) ∧ (2 < seqN (byt l 0) → 2 < l.length ∧ 0x80 ≤ byt l 2 ∧ byt l 2 ≤ 0xBF) ∧ (3 < seqN (byt l 0) → 3 < l.length ∧ 0x80 ≤ byt l 3 ∧ byt l 3 ≤ 0xBF)
theorem seq_vd {l : List UInt8} (h80 : 0x80 ≤ byt l 0) : (Vd l ∧ seq l = seqN (byt l 0)) ∨ (¬ Vd l ∧ seq l = 0) := by
  unfold seq Vd
  rw [if_neg (by omega)]
  by_cases b : byt l 0 < 0xC2 ∨ 0xF4 < byt l 0
  · rw [if_pos b]; right; exact ⟨fun q => by omega, rfl⟩
  · rw [if_neg b]
    by_cases m1 : mor l 1 (seqLo (byt l 0)) (seqHi (byt l 0)) = true
    · rw [if_neg (by rw [m1]; decide)]
      have g1 := (mor_iff _ _ _ _).1 m1
      by_cases m2 : mor l 2 0x80 0xBF = true
      · have g2 := (mor_iff _ _ _ _).1 m2
        rw [if_neg (fun q => by rw [m2] at q; exact absurd q.2 (by decide))]
        by_cases m3 : mor l 3 0x80 0xBF = true
        · have g3 := (mor_iff _ _ _ _).1 m3
          rw [if_neg (fun q => by rw [m3] at q; exact absurd q.2 (by decide))]
          left
          exact ⟨⟨by omega, g1, fun _ => g2, fun _ => g3⟩, rfl⟩
        · have g3 := (mor_false _ _ _ _).1 (by simpa using m3)
          by_cases n3 : 3 < seqN (byt l 0)
          · rw [if_pos ⟨n3, by simpa using m3⟩]; right; exact ⟨fun q => g3 (q.2.2.2 n3), rfl⟩
          · rw [if_neg (fun q => n3 q.1)]; left; exact ⟨⟨by omega, g1, fun _ => g2, fun q => absurd q n3⟩, rfl⟩
      · have g2 := (mor_false _ _ _ _).1 (by simpa using m2)
        by_cases n2 : 2 < seqN (byt l 0)
        · rw [if_pos ⟨n2, by simpa using m2⟩]; right; exact ⟨fun q => g2 (q.2.2.1 n2), rfl⟩
        · rw [if_neg (fun q => n2 q.1), if_neg (fun q => by omega)]; left; exact ⟨⟨by omega, g1, fun q => absurd q n2, fun q => by omega⟩, rfl⟩
    · have g1 := (mor_false _ _ _ _).1 (by simpa using m1)
      rw [if_pos (by simpa using m1)]
      right; exact ⟨fun q => g1 q.2.1, rfl⟩
theorem seq_low {l : List UInt8} (h80 : 0x80 ≤ byt l 0) (hc : byt l 0 < 0xC2) : seq l = 0 := by
  rcases seq_vd h80 with ⟨v, _⟩ | ⟨_, e⟩
  · exact absurd v.1.1 (by omega)
  · exact e
theorem seq_high {l : List UInt8} (hc : 0xF4 < byt l 0) : seq l = 0 := by
  rcases seq_vd (l := l) (by omega) with ⟨v, _⟩ | ⟨_, e⟩
  · exact absurd v.1.2 (by omega)
  · exact e
/-- What has come, and is not whole. -/
theorem not_full {l : List UInt8} (hl : l ≠ []) (h : ¬ full l) : (0xC2 ≤ byt l 0 ∧ byt l 0 ≤ 0xF4) ∧ l.length < seqN (byt l 0) ∧ (1 < l.length → seqLo (byt l 0) ≤ byt l 1 ∧ byt l 1 ≤ seqHi (byt l 0)) ∧ (2 < l.length → 0x80 ≤ byt l 2 ∧ byt l 2 ≤ 0xBF) := by
  have h' : ¬ (byt l 0 < 0xC2 ∨ 0xF4 < byt l 0 ∨ seqN (byt l 0) ≤ l.length ∨ (1 < l.length ∧ (byt l 1 < seqLo (byt l 0) ∨ seqHi (byt l 0) < byt l 1)) ∨ (2 < l.length ∧ (byt l 2 < 0x80 ∨ 0xBF < byt l 2))) := fun q => h ⟨hl, q⟩
  refine ⟨by omega, by omega, fun q => by omega, fun q => by omega⟩
theorem full_of {l : List UInt8} (hl : l ≠ []) (h : ¬ ((0xC2 ≤ byt l 0 ∧ byt l 0 ≤ 0xF4) ∧ l.length < seqN (byt l 0) ∧ (1 < l.length → seqLo (byt l 0) ≤ byt l 1 ∧ byt l 1 ≤ seqHi (byt l 0)) ∧ (2 < l.length → 0x80 ≤ byt l 2 ∧ byt l 2 ≤ 0xBF))) : full l := by
  refine ⟨hl, ?_⟩
  by_cases q1 : byt l 0 < 0xC2
  · exact .inl q1
  by_cases q2 : 0xF4 < byt l 0
  · exact .inr (.inl q2)
  by_cases q3 : seqN (byt l 0) ≤ l.length
  · exact .inr (.inr (.inl q3))
  by_cases q4 : 1 < l.length ∧ (byt l 1 < seqLo (byt l 0) ∨ seqHi (byt l 0) < byt l 1)
  · exact .inr (.inr (.inr (.inl q4)))
  by_cases q5 : 2 < l.length ∧ (byt l 2 < 0x80 ∨ 0xBF < byt l 2)
  · exact .inr (.inr (.inr (.inr q5)))
  exact absurd ⟨by omega, by omega, fun z => by omega, fun z => by omega⟩ h
theorem byt_fill (l : List UInt8) (n k : Nat) (hk : k < l.length) : byt (fillN l n) k = byt l k := by
  induction n with
  | zero => rfl
  | succ n ih =>
    show byt (fillN l n ++ [_]) k = _
    rw [← ih]
    unfold byt
    rw [List.getD_eq_getElem?_getD, List.getElem?_append_left (by rw [fillN_len]; omega), List.getD_eq_getElem?_getD]
theorem byt_at_fill (l : List UInt8) (n k : Nat) (hk : k < n) : byt (fillN l n) (l.length + k) = (fillB (fillN l k)).toNat := by
  induction n with
  | zero => omega
  | succ n ih =>
    show byt (fillN l n ++ [fillB (fillN l n)]) _ = _
    by_cases e : k = n
    · subst e
      unfold byt
      rw [List.getD_eq_getElem?_getD, List.getElem?_append_right (by rw [fillN_len]; omega), fillN_len]
      simp
    · have := ih (by omega)
      rw [← this]
      unfold byt
      rw [List.getD_eq_getElem?_getD, List.getElem?_append_left (by rw [fillN_len]; omega), List.getD_eq_getElem?_getD]
theorem fillB_more {l : List UInt8} (h : l.length ≠ 1) : (fillB l).toNat = 0x80 := by unfold fillB; rw [if_neg (fun q => h q.1)]; rfl
theorem fillB_one {l : List UInt8} (h : l.length = 1) (hb : 0xC2 ≤ byt l 0 ∧ byt l 0 ≤ 0xF4) : seqLo (byt l 0) ≤ (fillB l).toNat ∧ (fillB l).toNat ≤ seqHi (byt l 0) := by
  have h1 := lo_bd (byt l 0)
  have h2 := hi_bd (byt l 0)
  unfold fillB
  by_cases q : byt l 0 = 0xE0 ∨ byt l 0 = 0xF0
  · rw [if_pos ⟨h, q⟩]
    have e : (0xA0 : UInt8).toNat = 160 := rfl
    rw [e]; omega
  · rw [if_neg (fun z => q z.2)]
    have e : (0x80 : UInt8).toNat = 128 := rfl
    rw [e]; omega
/-- A beginning: what is not full. -/
theorem beg_iff {l : List UInt8} (hl : l ≠ []) (h80 : 0x80 ≤ byt l 0) : (∃ n, 1 ≤ n ∧ n < 4 ∧ begN l n) ↔ ¬ full l := by
  have hp : 0 < l.length := List.length_pos_iff.2 hl
  have hN := n_bd (byt l 0)
  constructor
  · rintro ⟨n, hn1, hn4, hb1, hb2⟩ hf
    have e0 : byt (fillN l n) 0 = byt l 0 := byt_fill l n 0 hp
    rcases seq_vd (l := fillN l n) (by rw [e0]; exact h80) with ⟨v, e⟩ | ⟨_, e⟩
    · rw [e, e0] at hb1 hb2
      obtain ⟨v1, v2, v3, v4⟩ := v
      rw [e0] at v1 v2 v3 v4
      rw [fillN_len] at hb1
      have hf2 := hf.2
      have b1 : 1 < l.length → byt (fillN l n) 1 = byt l 1 := fun q => byt_fill l n 1 q
      have b2 : 2 < l.length → byt (fillN l n) 2 = byt l 2 := fun q => byt_fill l n 2 q
      rcases hf2 with q | q | q | ⟨q, z⟩ | ⟨q, z⟩
      · omega
      · omega
      · omega
      · have := b1 q; omega
      · have := b2 q; have := v3 (by omega); omega
    · rw [e] at hb2; omega
  · intro hf
    obtain ⟨q0, q1, q2, q3⟩ := not_full hl hf
    refine ⟨seqN (byt l 0) - l.length, by omega, by omega, ?_⟩
    obtain ⟨n, hn⟩ : ∃ n, seqN (byt l 0) - l.length = n := ⟨_, rfl⟩
    rw [hn]
    have e0 : byt (fillN l n) 0 = byt l 0 := byt_fill l n 0 hp
    have hlen := fillN_len l n
    have at1 : seqLo (byt l 0) ≤ byt (fillN l n) 1 ∧ byt (fillN l n) 1 ≤ seqHi (byt l 0) := by
      by_cases c : 1 < l.length
      · rw [byt_fill l n 1 c]; exact q2 c
      · have h1 : l.length = 1 := by omega
        have := byt_at_fill l n 0 (by omega)
        rw [Nat.add_zero, h1] at this
        rw [this]
        exact fillB_one h1 q0
    have at2 : 2 < seqN (byt l 0) → 0x80 ≤ byt (fillN l n) 2 ∧ byt (fillN l n) 2 ≤ 0xBF := fun z => by
      by_cases c : 2 < l.length
      · rw [byt_fill l n 2 c]; exact q3 c
      · have := byt_at_fill l n (2 - l.length) (by omega)
        rw [show l.length + (2 - l.length) = 2 by omega] at this
        rw [this, fillB_more (by rw [fillN_len]; omega)]
        omega
    have at3 : 3 < seqN (byt l 0) → 0x80 ≤ byt (fillN l n) 3 ∧ byt (fillN l n) 3 ≤ 0xBF := fun z => by
      have := byt_at_fill l n (3 - l.length) (by omega)
      rw [show l.length + (3 - l.length) = 3 by omega] at this
      rw [this, fillB_more (by rw [fillN_len]; omega)]
      omega
    have vd : Vd (fillN l n) := by
      unfold Vd
      rw [e0, hlen]
      exact ⟨q0, ⟨by omega, at1⟩, fun z => ⟨by omega, at2 z⟩, fun z => ⟨by omega, at3 z⟩⟩
    rcases seq_vd (l := fillN l n) (by rw [e0]; exact h80) with ⟨_, e⟩ | ⟨nv, _⟩
    · unfold begN
      rw [e, e0, hlen]
      omega
    · exact absurd vd nv

theorem runes_bad {l : List UInt8} (hl : l ≠ []) (h : seq l = 0) : runes l = 65533 :: runes (l.drop 1) := by
  rw [runes_step hl, dec_seq, if_pos h]
  rfl
theorem runes_cont (u : List UInt8) (h : ∀ b ∈ u, 0x80 ≤ b.toNat ∧ b.toNat ≤ 0xBF) : runes u = List.replicate u.length 65533 := by
  induction u with
  | nil => rfl
  | cons b u ih =>
    have hb := h b (List.mem_cons_self ..)
    have e : byt (b :: u) 0 = b.toNat := rfl
    rw [runes_bad (by simp) (seq_low (by rw [e]; omega) (by rw [e]; omega))]
    show 65533 :: runes u = _
    rw [ih (fun c hc => h c (List.mem_cons_of_mem _ hc))]
    rfl
/-- The bytes behind the first one of what is not whole. -/
theorem tail_cont {a : UInt8} {u : List UInt8} (h : ¬ full (a :: u)) : ∀ b ∈ u, 0x80 ≤ b.toNat ∧ b.toNat ≤ 0xBF := by
  obtain ⟨q0, q1, q2, q3⟩ := not_full (by simp) h
  have hN := n_bd (byt (a :: u) 0)
  have h1 := lo_bd (byt (a :: u) 0)
  have h2 := hi_bd (byt (a :: u) 0)
  match u, q1, q2, q3 with
  | [], _, _, _ => intro b hb; cases hb
  | [b], q1, q2, q3 =>
    intro c hc
    rw [List.mem_singleton] at hc
    subst hc
    have e : byt [a, c] 1 = c.toNat := rfl
    have := q2 (by simp)
    rw [e] at this
    omega
  | [b, d], q1, q2, q3 =>
    have e1 : byt [a, b, d] 1 = b.toNat := rfl
    have e2 : byt [a, b, d] 2 = d.toNat := rfl
    have w1 := q2 (by simp)
    have w2 := q3 (by simp)
    rw [e1] at w1
    rw [e2] at w2
    intro c hc
    rcases List.mem_cons.1 hc with rfl | hc
    · omega
    · rw [List.mem_singleton] at hc; subst hc; omega
  | b :: d :: e :: v, q1, _, _ =>
    simp only [List.length_cons] at q1
    omega
theorem runes_amid {l : List UInt8} (hl : l ≠ []) (h : ¬ full l) : runes l = List.replicate l.length 65533 := by
  obtain ⟨a, u, rfl⟩ := List.exists_cons_of_ne_nil hl
  obtain ⟨q0, q1, q2, q3⟩ := not_full hl h
  have hs : seq (a :: u) = 0 := by
    rcases seq_vd (l := a :: u) (by omega) with ⟨v, e⟩ | ⟨_, e⟩
    · have hN := n_bd (byt (a :: u) 0)
      obtain ⟨v1, v2, v3, v4⟩ := v
      rcases hN with ⟨_, hn⟩ | ⟨_, _, hn⟩ | ⟨_, hn⟩
      · omega
      · have := v3 (by omega); omega
      · have := v4 (by omega); omega
    · exact e
  rw [runes_bad hl hs]
  show 65533 :: runes u = _
  rw [runes_cont u (tail_cont h)]
  rfl
theorem runes_sole {l : List UInt8} (hl : l ≠ []) (h : seq l = l.length) : ∃ r, runes l = [r] := by
  have hp : 0 < l.length := List.length_pos_iff.2 hl
  rw [runes_step hl, dec_seq, if_neg (by omega)]
  refine ⟨shownI (val l (seq l)), ?_⟩
  show shownI (val l (seq l)) :: runes (l.drop (seq l)) = [_]
  rw [h, List.drop_length, runes_nil]
/-- One byte more. -/
theorem more_one {h : List UInt8} (hh : h ≠ []) (hf : ¬ full h) (b : UInt8) (hs : seq (h ++ [b]) ≠ 0) : seq (h ++ [b]) = (h ++ [b]).length := by
  obtain ⟨q0, q1, q2, q3⟩ := not_full hh hf
  have hp : 0 < h.length := List.length_pos_iff.2 hh
  have e0 : byt (h ++ [b]) 0 = byt h 0 := by unfold byt; rw [List.getD_eq_getElem?_getD, List.getElem?_append_left hp, List.getD_eq_getElem?_getD]
  rcases seq_vd (l := h ++ [b]) (by rw [e0]; omega) with ⟨v, e⟩ | ⟨_, e⟩
  · have hN := n_bd (byt (h ++ [b]) 0)
    obtain ⟨v1, v2, v3, v4⟩ := v
    rw [e0] at hN v1 v2 v3 v4 e
    rw [e]
    have hl : (h ++ [b]).length = h.length + 1 := by simp
    rcases hN with ⟨_, hn⟩ | ⟨_, _, hn⟩ | ⟨_, hn⟩
    · omega
    · have := v3 (by omega); omega
    · have := v4 (by omega); omega
  · exact absurd e hs
theorem full_seq {l : List UInt8} (hl : l ≠ []) (h : seq l = l.length) : full l := by
  have hp : 0 < l.length := List.length_pos_iff.2 hl
  by_cases h80 : byt l 0 < 0x80
  · exact ⟨hl, .inl (by omega)⟩
  · rcases seq_vd (l := l) (by omega) with ⟨v, e⟩ | ⟨_, e⟩
    · exact ⟨hl, .inr (.inr (.inl (by omega)))⟩
    · omega

end Go.Proofs.YtgaogkggbccfnaaDoor

namespace Go.Proofs.YtgaogkggbccfnaaDoor
open Go.RowKit Go.Sort
set_option linter.unusedVariables false

def StepTo (s s' : Rm) (a : Bool) : Prop := ∀ (w : World) (T K M cap B bc : Nat), RT w T K M cap B bc s → Calls Tryd.prog 21 #[.pointer (some ⟨T, 0, none⟩)] w fun e w' => StEnd w w' e T M B bc s' a
theorem StepTo.same {s s' : Rm} {a : Bool} {c' : Nat → Nat → Ce} (h : StepTo s s' a) (hc : ∀ y x, y < s'.H → x < s'.W → s'.c y x = c' y x) (hp : PAll s'.W s'.H c') : StepTo s { s' with c := c' } a := fun w T K M cap B bc r => (h w T K M cap B bc r).mono fun e w' q => by
  obtain ⟨q1, ⟨K', M', cap', q2, q3⟩, q4⟩ := q
  exact ⟨q1, ⟨K', M', cap', q2.same hc hp, q3⟩, q4⟩
theorem ext_drop (q : ByteArray) (n : Nat) : q.extract n q.size = ⟨(q.data.toList.drop n).toArray⟩ := by
  apply ByteArray.ext
  rw [ByteArray.data_extract]
  apply Array.ext'
  rw [Array.toList_extract]
  simp only [List.extract]
  rw [List.take_of_length_le (by rw [List.length_drop, len_data]; exact Nat.le_refl _)]
theorem ext_take (q : ByteArray) (a n : Nat) : (q.extract a n).data.toList = (q.data.toList.take n).drop a := by
  rw [ByteArray.data_extract, Array.toList_extract]
  simp [List.extract, List.drop_take]
theorem size_of {q : ByteArray} {l : List UInt8} (h : q.data.toList = l) : q.size = l.length := by rw [← h, len_data]
theorem at_of {q : ByteArray} {l : List UInt8} (h : q.data.toList = l) (j : Nat) (hj : j < q.size) : (q[j]'hj).toNat = byt l j := by rw [← byt_at q j hj, h]
variable {s : Rm}
theorem st_nil (h : s.q.data.toList = []) : StepTo s s false := fun w T K M cap B bc r => step_0 w r (by rw [size_of h]; rfl)
theorem st_esc (h : s.q.data.toList = [27]) : StepTo s (esc0 s) false := fun w T K M cap B bc r =>
  step_esc w r (by rw [size_of h]; decide) (by rw [at_of h]; rfl) (esc_short w r (by rw [size_of h]; rfl))
theorem st_none {b : UInt8} (h : s.q.data.toList = [27, b]) (hb : b.toNat ≠ 91) : StepTo s { esc0 s with q := ⟨#[]⟩ } true := fun w T K M cap B bc r => by
  have e := ext_drop s.q 2
  rw [h] at e
  have := esc_none w r (by rw [size_of h]; simp) (by rw [at_of h]; exact hb)
  rw [e] at this
  exact step_esc w r (by rw [size_of h]; simp) (by rw [at_of h]; rfl) this
theorem st_more {m : List UInt8} (h : s.q.data.toList = 27 :: 91 :: m) (hm : ∀ b ∈ m, 48 ≤ b.toNat ∧ b.toNat ≤ 59) (hs : s.q.size ≤ 4611686018427387904) : StepTo s (esc0 s) false := fun w T K M cap B bc r => by
  have hz := size_of h
  simp only [List.length_cons] at hz
  have := esc_long w r (by omega) hs (by rw [at_of h]; rfl) s.q.size (by omega) (Nat.le_refl _) (fun j hj h2 _ => by
    rw [at_of h]
    obtain ⟨i, rfl⟩ : ∃ i, j = i + 2 := ⟨j - 2, by omega⟩
    have hi : i < m.length := by omega
    have e : byt (27 :: 91 :: m) (i + 2) = (m[i]'hi).toNat := by unfold byt; rw [List.getD_eq_getElem?_getD]; simp [hi]
    rw [e]
    exact hm _ (List.getElem_mem hi)) (fun hj => absurd hj (by omega))
  have e1 : escR s s.q.size = esc0 s := by unfold escR; rw [if_neg (by omega)]
  rw [e1, decide_eq_false (by omega)] at this
  exact step_esc w r (by omega) (by rw [at_of h]; rfl) this
theorem st_end {m : List UInt8} {b : UInt8} (h : s.q.data.toList = 27 :: 91 :: (m ++ [b])) (hm : ∀ b ∈ m, 48 ≤ b.toNat ∧ b.toNat ≤ 59) (hb : ¬ (48 ≤ b.toNat ∧ b.toNat ≤ 59)) (hs : s.q.size ≤ 4611686018427387904) :
    StepTo s { (if 64 ≤ b.toNat ∧ b.toNat ≤ 126 then doR (esc0 s) b.toNat (parL m) else esc0 s) with q := ⟨#[]⟩ } true := fun w T K M cap B bc r => by
  have hz := size_of h
  simp only [List.length_cons, List.length_append, List.length_nil] at hz
  have eb : byt (27 :: 91 :: (m ++ [b])) (2 + m.length) = b.toNat := by
    unfold byt
    rw [List.getD_eq_getElem?_getD, show 2 + m.length = m.length + 1 + 1 by omega, List.getElem?_cons_succ, List.getElem?_cons_succ, List.getElem?_append_right (Nat.le_refl _)]
    simp
  have := esc_long w r (by omega) hs (by rw [at_of h]; rfl) (2 + m.length) (by omega) (by omega) (fun j hj h2 h3 => by
    rw [at_of h]
    obtain ⟨i, rfl⟩ : ∃ i, j = i + 2 := ⟨j - 2, by omega⟩
    have hi : i < m.length := by omega
    have e : byt (27 :: 91 :: (m ++ [b])) (i + 2) = (m[i]'hi).toNat := by
      unfold byt
      rw [List.getD_eq_getElem?_getD, List.getElem?_cons_succ, List.getElem?_cons_succ, List.getElem?_append_left hi, List.getElem?_eq_getElem hi]
      rfl
    rw [e]
    exact hm _ (List.getElem_mem hi)) (fun hj => by rw [at_of h, eb]; exact hb)
  have e2 : (s.q.extract 2 (2 + m.length)).data.toList = m := by
    rw [ext_take, h, show 2 + m.length = m.length + 1 + 1 by omega]
    simp
  have e3 : s.q.extract (2 + m.length + 1) s.q.size = ⟨#[]⟩ := by
    rw [ext_drop, h, List.drop_of_length_le (by simp; omega)]
  have e1 : escR s (2 + m.length) = { (if 64 ≤ b.toNat ∧ b.toNat ≤ 126 then doR (esc0 s) b.toNat (parL m) else esc0 s) with q := ⟨#[]⟩ } := by
    unfold escR
    rw [if_pos (by omega), h, eb, e2, e3]
  rw [e1, decide_eq_true (by omega)] at this
  exact step_esc w r (by omega) (by rw [at_of h]; rfl) this
theorem st_ctl {b : UInt8} {u : List UInt8} (h : s.q.data.toList = b :: u) (h27 : b.toNat ≠ 27) (hc : b.toNat < 32 ∨ b.toNat = 127) : StepTo s { s with la := -1, q := ⟨u.toArray⟩ } true := fun w T K M cap B bc r => by
  have hz := size_of h
  simp only [List.length_cons] at hz
  have eb : byt (b :: u) 0 = b.toNat := rfl
  have e := ext_drop s.q 1
  rw [h] at e
  have := step_ctl w r (by omega) (by rw [at_of h, eb]; exact h27) (by rw [at_of h, eb]; exact hc)
  rw [e] at this
  exact this
theorem st_seq {l : List UInt8} (h : s.q.data.toList = l) (hl : l ≠ []) (hll : l.length ≤ 1000) (h27 : byt l 0 ≠ 27) (hc : ¬ (byt l 0 < 32 ∨ byt l 0 = 127)) (hs : seq l = l.length) (hi : Ri s) {r : Int} (hr : runes l = [r]) : StepTo s (prR { s with q := ⟨#[]⟩ } r) true := fun w T K M cap B bc rt => by
  have hz := size_of h
  have hp : 0 < l.length := List.length_pos_iff.2 hl
  have e := ext_drop s.q l.length
  rw [h, List.drop_length] at e
  have e2 : (s.q.extract 0 l.length).data.toList = l := by rw [ext_take, h, List.take_length]; rfl
  have := step_seq w rt hi (by omega) (by omega) (by rw [at_of h]; exact h27) (by rw [at_of h]; exact hc) l.length (by rw [h]; exact hs) hp (by omega) r (by rw [e2]; exact hr)
  rw [← hz] at this e
  rw [e] at this
  exact this
theorem st_bad {b : UInt8} {u : List UInt8} (h : s.q.data.toList = b :: u) (hll : u.length ≤ 900) (hb : 0x80 ≤ b.toNat) (hs : seq (b :: u) = 0) (hf : full (b :: u)) (hi : Ri s) : StepTo s (prR { s with q := ⟨u.toArray⟩ } 65533) true := fun w T K M cap B bc rt => by
  have hz := size_of h
  simp only [List.length_cons] at hz
  have eb : byt (b :: u) 0 = b.toNat := rfl
  have e := ext_drop s.q 1
  rw [h] at e
  have := step_amid w rt hi (by omega) (by omega) (by rw [at_of h, eb]; omega) (by rw [at_of h, eb]; omega) (by rw [h]; exact hs) false (by
    rw [h, beg_iff (by simp) (by rw [eb]; exact hb)]
    exact ⟨fun q => (by cases q), fun q => absurd hf q⟩)
  rw [e] at this
  exact this
theorem st_wait {l : List UInt8} (h : s.q.data.toList = l) (hl : l ≠ []) (hll : l.length ≤ 900) (hb : 0x80 ≤ byt l 0) (hs : seq l = 0) (hf : ¬ full l) (hi : Ri s) : StepTo s s false := fun w T K M cap B bc rt => by
  have hz := size_of h
  have hp : 0 < l.length := List.length_pos_iff.2 hl
  have := step_amid w rt hi (by omega) (by omega) (by rw [at_of h]; omega) (by rw [at_of h]; omega) (by rw [h]; exact hs) true (by
    rw [h, beg_iff hl hb]
    exact ⟨fun _ => hf, fun _ => rfl⟩)
  exact this

end Go.Proofs.YtgaogkggbccfnaaDoor
