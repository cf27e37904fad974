/-
  The walks of the leaves: glyph.shown, glyph.runeOf, paneref.more, paneref.sequence, paneref.written.
-/
import Derived.Test.YtlfffpoeioecjaaDoorX00
import Derived.Test.YtlfffpoeioecjaaDoorRows
import Derived.WalkKit
import Derived.WalkSpells
import Derived.WalkLawsBesides
import Derived.Laws.IdiomStrings
namespace Go.Proofs.YtlfffpoeioecjaaDoor
open Go.RowKit

set_option maxRecDepth 100000 in
set_option maxHeartbeats 400000 in
theorem shown_any (r : Int) (w : World) :
    Calls Tryd.prog 96 #[.int .i32 r] w fun e w' => e = .returned (.int .i32 (shownI r)) ∧ w' = w := by
  unfold shownI
  by_cases h1 : r < 32
  · by_cases h2 : r = 10
    · subst h2
      go_enter Tryd.func96, Tryd.ntmps96
      go_wp2
      go_ret
      exact ⟨rfl, rfl⟩
    · have h2' : (r != 10) = true := by simp [h2]
      rw [if_pos (Or.inl ⟨h1, h2⟩)]
      clear h2
      go_enter Tryd.func96, Tryd.ntmps96
      go_wp2
      go_ret
      exact ⟨rfl, rfl⟩
  · by_cases h3 : 127 ≤ r
    · by_cases h4 : r ≤ 159
      · rw [if_pos (Or.inr ⟨h3, h4⟩)]
        go_enter Tryd.func96, Tryd.ntmps96
        go_wp2
        go_ret
        exact ⟨rfl, rfl⟩
      · rw [if_neg (by omega)]
        go_enter Tryd.func96, Tryd.ntmps96
        go_wp2
        go_ret
        exact ⟨rfl, rfl⟩
    · rw [if_neg (by omega)]
      go_enter Tryd.func96, Tryd.ntmps96
      go_wp2
      go_ret
      exact ⟨rfl, rfl⟩

/-- A number as a rune: what glyph.runeOf makes of it. -/
def runeI (n : Int) : Int := if n < 0 ∨ 1114111 < n ∨ (55296 ≤ n ∧ n ≤ 57343) then 65533 else n

theorem runeI_bd (n : Int) : 0 ≤ runeI n ∧ runeI n ≤ 1114111 := by unfold runeI; split <;> omega
theorem encode_runeI (n : Int) : Lib.encodeRuneZ (runeI n) = Lib.encodeRuneZ n := by
  unfold runeI
  split
  · rename_i h
    rw [Lib.encodeRuneZ_bad (r := n) (by omega)]
    rfl
  · rfl

set_option maxRecDepth 100000 in
set_option maxHeartbeats 400000 in
theorem runeOf_any (n : Int) (w : World) :
    Calls Tryd.prog 116 #[.int .i64 n] w fun e w' => e = .returned (.int .i32 (runeI n)) ∧ w' = w := by
  unfold runeI
  by_cases h1 : n < 0
  · rw [if_pos (Or.inl h1)]
    go_enter Tryd.func116, Tryd.ntmps116
    go_wp2
    go_ret
    exact ⟨rfl, rfl⟩
  · by_cases h2 : 1114111 < n
    · rw [if_pos (Or.inr (Or.inl h2))]
      go_enter Tryd.func116, Tryd.ntmps116
      go_wp2
      go_ret
      exact ⟨rfl, rfl⟩
    · by_cases h3 : 55296 ≤ n
      · by_cases h4 : n ≤ 57343
        · rw [if_pos (Or.inr (Or.inr ⟨h3, h4⟩))]
          go_enter Tryd.func116, Tryd.ntmps116
          go_wp2
          go_ret
          exact ⟨rfl, rfl⟩
        · rw [if_neg (by omega)]
          go_enter Tryd.func116, Tryd.ntmps116
          go_wp2
          go_ret
          exact ⟨rfl, rfl⟩
      · rw [if_neg (by omega)]
        go_enter Tryd.func116, Tryd.ntmps116
        go_wp2
        go_ret
        exact ⟨rfl, rfl⟩

end Go.Proofs.YtlfffpoeioecjaaDoor

namespace Go.Proofs.YtlfffpoeioecjaaDoor
open Go.RowKit
set_option linter.unusedVariables false

theorem shownI_bd {r : Int} (h0 : 0 ≤ r) (h1 : r ≤ 2147483647) : 0 ≤ shownI r ∧ shownI r ≤ 2147483647 := by unfold shownI; split <;> omega
theorem info3 : (Tryd.prog.info? 3).map (fun i => (i.zero, i.size, i.bytes)) = some (some (.int .i64 0), 1, 8) := by kernel_rfl

theorem ownsRow_base {w : World} {B B' : Nat} {e : TypeId} {size : Nat} {v : Value} {n : Nat} {xs : List Value} (h : w.ownsRow B e size v n xs) (hB : B' ≤ B) : w.ownsRow B' e size v n xs := by
  refine ⟨h.1, ?_⟩
  rcases h.2 with h2 | ⟨g, cap, cur, a, b, c⟩
  · exact .inl h2
  · exact .inr ⟨g, cap, cur, a, Nat.le_trans hB b, c⟩

theorem drop_ne_nil {s : ByteArray} {pos : Nat} (h : pos < s.size) : s.data.toList.drop pos ≠ [] := by
  intro e
  have := congrArg List.length e
  rw [List.length_drop, Array.length_toList] at this
  simp only [List.length_nil] at this
  have e2 : s.data.size = s.size := rfl
  omega

set_option maxRecDepth 100000 in
set_option maxHeartbeats 1000000 in
theorem gDecode_any (s : ByteArray) (w : World) (hs : s.size ≤ 17592186044416) :
    Calls Tryd.prog 78 #[.string s] w fun e w' => ∃ v, e = .returned v ∧ w'.ownsRow w.heap.size 3 1 v (runes s.data.toList).length ((runes s.data.toList).map (Value.int .i64)) ∧ Below w.heap.size w w' := by
  obtain ⟨i0, hi, hz0, hz1, hz2⟩ := info_parts info3
  go_enter Tryd.func78, Tryd.ntmps78
  go_wp2
  go_loopw [3] (fun v wr => ∃ (pos : Nat) (acc : List Int), wr.ownsRow (w.heap.size + 1) 3 1 v acc.length (acc.map (Value.int .i64)) ∧ wr.heap[w.heap.size]? = some (.stringIter s pos) ∧ Below w.heap.size w wr ∧ acc ++ runes (s.data.toList.drop pos) = runes s.data.toList ∧ acc.length ≤ pos) (fun _ wr => s.size - wr.iterPos w.heap.size)
  case atStart =>
    refine ⟨0, [], World.ownsRow_nil _ _ _ _, ?_, (Below.refl _ w).alloc (Nat.le_refl _) _, rfl, Nat.le_refl _⟩
    have := World.iter_heap w s 0
    simpa using this
  case round =>
    obtain ⟨pos, acc, hown, hit, hbw, hacc, hal⟩ := hrel
    have hsz : w.heap.size < wr.heap.size := (Array.getElem?_eq_some_iff.1 hit).1
    by_cases hp : pos < s.size
    · obtain ⟨r, n, hd⟩ : ∃ r n, Utf8.decode s pos = (r, n) := ⟨_, _, rfl⟩
      have hnx : ∀ ty, (Instr.next (.pointer (some ⟨w.heap.size, 0, none⟩)) true ty).run Tryd.prog wr = .ok (.tuple #[.bool true, .int .i64 pos, .int .i32 r]) (wr.iterAt w.heap.size s (pos + n)) := fun ty => by
        have := Lib.run_next_any_at (P := Tryd.prog) wr w.heap.size s pos ty hit hp
        rw [hd] at this; exact this
      have hdd : dec (s.data.toList.drop pos) = (r, n) := by rw [← decode_dec, hd]
      have hn1 : 1 ≤ n := by have := dec_pos (s.data.toList.drop pos); rw [hdd] at this; exact this
      have hr1 : r ≤ 2147483647 := by have := dec_val_le (s.data.toList.drop pos); rw [hdd] at this; exact this
      have hy := shownI_bd (r := (r : Int)) (by omega) (by omega)
      have HR : Hid ((acc ++ [shownI r]) ++ runes (s.data.toList.drop (pos + n)) = runes s.data.toList) := by
        show _ = _
        rw [← hacc, runes_step (drop_ne_nil hp), hdd, List.drop_drop]; simp
      have hit2 := Lib.iterAt_heap wr w.heap.size s pos (pos + n) hit
      have hbw2 := Lib.below_iterAt hbw (k := w.heap.size) (Nat.le_refl _) s (pos + n)
      have hown2 := ownsRow_iterAt hown (k := w.heap.size) (by omega) s (pos + n)
      have hsz2 : (wr.iterAt w.heap.size s (pos + n)).heap.size = wr.heap.size := Lib.iterAt_size _ _ _ _
      have HS : Hid ((wr.iterAt w.heap.size s (pos + n)).heap.size = wr.heap.size) := hsz2
      clear hd hdd hacc hown hbw hsz2
      go_wp2_with (first
        | (go_at_call 96; refine (shown_any _ _).mono ?_; rintro e w' ⟨rfl, rfl⟩)
        | (at_builtin; refine wpList_append_own _ rfl _ _ 113 rfl (w.heap.size + 1) 3 i0 (.int .i64 0) 1 8 Tryd.underlying113 hi hz0 hz1 hz2 rfl (by decide) _ _ _ rfl (hown2.alloc _) _ 1 1 [.int .i64 (shownI r)] rfl rfl ?c1 ?c2 ?c3 ?c4 ?c5 ?_))
      case c1 => exact cell_one_new _ _ _
      case c2 => intro u hu; simp at hu; subst hu; rfl
      case c3 => unfold maxLen; omega
      case c4 => omega
      case c5 => rw [World.size_alloc, HS.out]; omega
      intro v' w1 hown' hg _
      have hrow : ∀ q, Value.ownBlock u3 = some q → w.heap.size + 1 ≤ q := fun q hq => (hown2.lt q hq).1
      have hb1 : Below w.heap.size w w1 := (hbw2.alloc (by rw [HS.out]; omega) _).grown hg (by rw [World.size_alloc, HS.out]; omega) (fun q hq => by have := hrow q hq; omega)
      have hit3 : w1.heap[w.heap.size]? = some (.stringIter s (pos + n)) := by
        rw [hg.block w.heap.size (by rw [World.size_alloc, HS.out]; omega) (fun e => by have := hrow _ e.symm; omega)]
        rw [Below.heap_alloc _ _ _ (by rw [HS.out]; omega)]
        exact hit2
      clear hg hrow hown2 hbw2 hnx hit2
      go_wp2
      go_roundw
      case rel =>
        refine ⟨pos + n, acc ++ [shownI r], ?_, hit3, hb1, HR.out, by simp; omega⟩
        rw [List.length_append, List.map_append]; exact hown'
      case measure =>
        rw [iterPos_of hit3, iterPos_of hit]; omega
    · have hnx : ∀ ty, (Instr.next (.pointer (some ⟨w.heap.size, 0, none⟩)) true ty).run Tryd.prog wr = _ := fun ty => Lib.run_next_end_at wr w.heap.size s pos ty hit hp
      have he : runes (s.data.toList.drop pos) = [] := by
        rw [List.drop_eq_nil_of_le (by rw [Array.length_toList]; exact Nat.le_of_not_lt hp), runes_nil]
      rw [he, List.append_nil] at hacc
      subst hacc
      clear he
      go_wp2
      go_ret
      exact ⟨_, rfl, ownsRow_base hown (by omega), hbw⟩

end Go.Proofs.YtlfffpoeioecjaaDoor

namespace Go.Proofs.YtlfffpoeioecjaaDoor
open Go.RowKit
set_option linter.unusedVariables false

/-- A new row of bytes, made a string. -/
theorem conv_new (xs : List Int) (hx : ∀ x ∈ xs, 0 ≤ x ∧ x < 256) (w : World) :
    (convert 76 9 (.slice (some ⟨w.heap.size, 0, none⟩) xs.length xs.length)).run Tryd.prog (w.alloc (.cells (xs.map (Value.int .u8)).toArray 5)) =
      .ok (.string ⟨(xs.map fun x => x.toNat.toUInt8).toArray⟩) (w.alloc (.cells (xs.map (Value.int .u8)).toArray 5)) := by
  have h := run_convert_bytes_back (P := Tryd.prog) (w.alloc (.cells (xs.map (Value.int .u8)).toArray 5)) 76 9 5 ⟨w.heap.size, 0, none⟩ xs.length (xs.map fun x => x.toNat.toUInt8) Tryd.underlying76 Tryd.underlying5 Tryd.underlying9 (by
    intro j hj
    simp only [List.length_map] at hj
    have e : (⟨w.heap.size, 0, none⟩ : Addr).add j = ⟨w.heap.size, j, none⟩ := by unfold Addr.add; split <;> simp_all
    rw [e, World.cell?_alloc_mark]
    have hb := hx xs[j] (List.getElem_mem hj)
    simp [hj]
    omega)
  simpa using h

theorem conv1 (a : Int) (ha : 0 ≤ a ∧ a < 256) (w : World) :
    (convert 76 9 (.slice (some ⟨w.heap.size, 0, none⟩) 1 1)).run Tryd.prog (w.alloc (.cells #[.int .u8 a] 5)) = .ok (.string ⟨#[a.toNat.toUInt8]⟩) (w.alloc (.cells #[.int .u8 a] 5)) :=
  conv_new [a] (by simpa using ha) w
theorem conv2 (a b : Int) (ha : 0 ≤ a ∧ a < 256) (hb : 0 ≤ b ∧ b < 256) (w : World) :
    (convert 76 9 (.slice (some ⟨w.heap.size, 0, none⟩) 2 2)).run Tryd.prog (w.alloc (.cells #[.int .u8 a, .int .u8 b] 5)) = .ok (.string ⟨#[a.toNat.toUInt8, b.toNat.toUInt8]⟩) (w.alloc (.cells #[.int .u8 a, .int .u8 b] 5)) :=
  conv_new [a, b] (by simp; exact ⟨ha, hb⟩) w
theorem conv3 (a b c : Int) (ha : 0 ≤ a ∧ a < 256) (hb : 0 ≤ b ∧ b < 256) (hc : 0 ≤ c ∧ c < 256) (w : World) :
    (convert 76 9 (.slice (some ⟨w.heap.size, 0, none⟩) 3 3)).run Tryd.prog (w.alloc (.cells #[.int .u8 a, .int .u8 b, .int .u8 c] 5)) = .ok (.string ⟨#[a.toNat.toUInt8, b.toNat.toUInt8, c.toNat.toUInt8]⟩) (w.alloc (.cells #[.int .u8 a, .int .u8 b, .int .u8 c] 5)) :=
  conv_new [a, b, c] (by simp; exact ⟨ha, hb, hc⟩) w
theorem conv4 (a b c d : Int) (ha : 0 ≤ a ∧ a < 256) (hb : 0 ≤ b ∧ b < 256) (hc : 0 ≤ c ∧ c < 256) (hd : 0 ≤ d ∧ d < 256) (w : World) :
    (convert 76 9 (.slice (some ⟨w.heap.size, 0, none⟩) 4 4)).run Tryd.prog (w.alloc (.cells #[.int .u8 a, .int .u8 b, .int .u8 c, .int .u8 d] 5)) = .ok (.string ⟨#[a.toNat.toUInt8, b.toNat.toUInt8, c.toNat.toUInt8, d.toNat.toUInt8]⟩) (w.alloc (.cells #[.int .u8 a, .int .u8 b, .int .u8 c, .int .u8 d] 5)) :=
  conv_new [a, b, c, d] (by simp; exact ⟨ha, hb, hc, hd⟩) w

set_option maxRecDepth 100000 in
set_option maxHeartbeats 1000000 in
theorem written_one (r : Int) (h0 : 0 ≤ r) (h1 : r ≤ 127) (w : World) :
    Calls Tryd.prog 50 #[.int .i64 r] w fun e w' => e = .returned (.string ⟨(Lib.encodeRune r).toArray⟩) ∧ ∃ o, w' = w.alloc o := by
  have he : Hid (Lib.encodeRune r = [r.toNat.toUInt8]) := by show _ = _; unfold Lib.encodeRune; rw [Lib.encodeRuneZ_one h0 h1]; rfl
  have hk := conv1 r (by omega) w
  go_enter Tryd.func50, Tryd.ntmps50
  go_wp2
  go_ret
  rw [he.out]
  exact ⟨rfl, _, rfl⟩
set_option maxRecDepth 100000 in
set_option maxHeartbeats 1000000 in
theorem written_two (r : Int) (h0 : 128 ≤ r) (h1 : r ≤ 2047) (w : World) :
    Calls Tryd.prog 50 #[.int .i64 r] w fun e w' => e = .returned (.string ⟨(Lib.encodeRune r).toArray⟩) ∧ ∃ o, w' = w.alloc o := by
  have he : Hid (Lib.encodeRune r = [(192 + r / 64).toNat.toUInt8, (128 + r % 64).toNat.toUInt8]) := by show _ = _; unfold Lib.encodeRune; rw [Lib.encodeRuneZ_two h0 h1]; rfl
  have hk := conv2 (192 + r / 64) (128 + r % 64) (by omega) (by omega) w
  go_enter Tryd.func50, Tryd.ntmps50
  go_wp2
  go_ret
  rw [he.out]
  exact ⟨rfl, _, rfl⟩
set_option maxRecDepth 100000 in
set_option maxHeartbeats 1000000 in
theorem written_three (r : Int) (h0 : (2048 ≤ r ∧ r < 55296) ∨ (57343 < r ∧ r ≤ 65535)) (w : World) :
    Calls Tryd.prog 50 #[.int .i64 r] w fun e w' => e = .returned (.string ⟨(Lib.encodeRune r).toArray⟩) ∧ ∃ o, w' = w.alloc o := by
  have he : Hid (Lib.encodeRune r = [(224 + r / 4096).toNat.toUInt8, (128 + r / 64 % 64).toNat.toUInt8, (128 + r % 64).toNat.toUInt8]) := by show _ = _; unfold Lib.encodeRune; rw [Lib.encodeRuneZ_three h0]; rfl
  have hk := conv3 (224 + r / 4096) (128 + r / 64 % 64) (128 + r % 64) (by omega) (by omega) (by omega) w
  rcases h0 with ⟨h0, h1⟩ | ⟨h0, h1⟩
  all_goals
    go_enter Tryd.func50, Tryd.ntmps50
    go_wp2
    go_ret
    rw [he.out]
    exact ⟨rfl, _, rfl⟩
set_option maxRecDepth 100000 in
set_option maxHeartbeats 1000000 in
theorem written_four (r : Int) (h0 : 65536 ≤ r) (h1 : r ≤ 1114111) (w : World) :
    Calls Tryd.prog 50 #[.int .i64 r] w fun e w' => e = .returned (.string ⟨(Lib.encodeRune r).toArray⟩) ∧ ∃ o, w' = w.alloc o := by
  have he : Hid (Lib.encodeRune r = [(240 + r / 262144).toNat.toUInt8, (128 + r / 4096 % 64).toNat.toUInt8, (128 + r / 64 % 64).toNat.toUInt8, (128 + r % 64).toNat.toUInt8]) := by show _ = _; unfold Lib.encodeRune; rw [Lib.encodeRuneZ_four h0 h1]; rfl
  have hk := conv4 (240 + r / 262144) (128 + r / 4096 % 64) (128 + r / 64 % 64) (128 + r % 64) (by omega) (by omega) (by omega) (by omega) w
  go_enter Tryd.func50, Tryd.ntmps50
  go_wp2
  go_ret
  rw [he.out]
  exact ⟨rfl, _, rfl⟩
set_option maxRecDepth 100000 in
set_option maxHeartbeats 1000000 in
theorem written_bad (r : Int) (h : r < 0 ∨ (55296 ≤ r ∧ r ≤ 57343) ∨ 1114111 < r) (w : World) :
    Calls Tryd.prog 50 #[.int .i64 r] w fun e w' => e = .returned (.string ⟨(Lib.encodeRune r).toArray⟩) ∧ ∃ o, w' = w.alloc o := by
  have he : Hid (Lib.encodeRune r = [239, 191, 189]) := by show _ = _; unfold Lib.encodeRune; rw [Lib.encodeRuneZ_bad h]; rfl
  have hk := conv3 239 191 189 (by omega) (by omega) (by omega) w
  rcases h with h | ⟨h, h'⟩ | h
  all_goals
    go_enter Tryd.func50, Tryd.ntmps50
    go_wp2
    go_ret
    rw [he.out]
    exact ⟨rfl, _, rfl⟩

/-- It makes one block. -/
theorem written_new (r : Int) (w : World) :
    Calls Tryd.prog 50 #[.int .i64 r] w fun e w' => e = .returned (.string ⟨(Lib.encodeRune r).toArray⟩) ∧ ∃ o, w' = w.alloc o := by
  by_cases a : 0 ≤ r ∧ r ≤ 127
  · exact written_one r a.1 a.2 w
  by_cases b : 128 ≤ r ∧ r ≤ 2047
  · exact written_two r b.1 b.2 w
  by_cases c : (2048 ≤ r ∧ r < 55296) ∨ (57343 < r ∧ r ≤ 65535)
  · exact written_three r c w
  by_cases d : 65536 ≤ r ∧ r ≤ 1114111
  · exact written_four r d.1 d.2 w
  · exact written_bad r (by omega) w
theorem written_any (r : Int) (w : World) :
    Calls Tryd.prog 50 #[.int .i64 r] w fun e w' => e = .returned (.string ⟨(Lib.encodeRune r).toArray⟩) ∧ Below w.heap.size w w' :=
  (written_new r w).mono fun e w' q => ⟨q.1, by obtain ⟨o, rfl⟩ := q.2; exact (Below.refl _ _).alloc (Nat.le_refl _) _⟩
end Go.Proofs.YtlfffpoeioecjaaDoor
