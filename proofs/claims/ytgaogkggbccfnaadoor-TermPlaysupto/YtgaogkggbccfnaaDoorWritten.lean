/-
  The walk of paneref.written: the right sequence of a rune.
-/
import Derived.Test.YtgaogkggbccfnaaDoorLeaves
import Derived.Laws.IdiomStrings
namespace Go.Proofs.YtgaogkggbccfnaaDoor
open Go.RowKit
set_option linter.unusedVariables false

/-- A new row of bytes, made a string. -/
theorem conv_new (xs : List Int) (hx : ∀ x ∈ xs, 0 ≤ x ∧ x < 256) (w : World) :
    (convert 109 9 (.slice (some ⟨w.heap.size, 0, none⟩) xs.length xs.length)).run Tryd.prog (w.alloc (.cells (xs.map (Value.int .u8)).toArray 5)) =
      .ok (.string ⟨(xs.map fun x => x.toNat.toUInt8).toArray⟩) (w.alloc (.cells (xs.map (Value.int .u8)).toArray 5)) := by
  have h := run_convert_bytes_back (P := Tryd.prog) (w.alloc (.cells (xs.map (Value.int .u8)).toArray 5)) 109 9 5 ⟨w.heap.size, 0, none⟩ xs.length (xs.map fun x => x.toNat.toUInt8) Tryd.underlying109 Tryd.underlying5 Tryd.underlying9 (by
    intro j hj
    simp only [List.length_map] at hj
    have e : (⟨w.heap.size, 0, none⟩ : Addr).add j = ⟨w.heap.size, j, none⟩ := by unfold Addr.add; split <;> simp_all
    rw [e, World.cell?_alloc_mark]
    have hb := hx xs[j] (List.getElem_mem hj)
    simp [hj]
    omega)
  simpa using h

theorem conv1 (a : Int) (ha : 0 ≤ a ∧ a < 256) (w : World) :
    (convert 109 9 (.slice (some ⟨w.heap.size, 0, none⟩) 1 1)).run Tryd.prog (w.alloc (.cells #[.int .u8 a] 5)) = .ok (.string ⟨#[a.toNat.toUInt8]⟩) (w.alloc (.cells #[.int .u8 a] 5)) :=
  conv_new [a] (by simpa using ha) w
theorem conv2 (a b : Int) (ha : 0 ≤ a ∧ a < 256) (hb : 0 ≤ b ∧ b < 256) (w : World) :
    (convert 109 9 (.slice (some ⟨w.heap.size, 0, none⟩) 2 2)).run Tryd.prog (w.alloc (.cells #[.int .u8 a, .int .u8 b] 5)) = .ok (.string ⟨#[a.toNat.toUInt8, b.toNat.toUInt8]⟩) (w.alloc (.cells #[.int .u8 a, .int .u8 b] 5)) :=
  conv_new [a, b] (by simp; exact ⟨ha, hb⟩) w
theorem conv3 (a b c : Int) (ha : 0 ≤ a ∧ a < 256) (hb : 0 ≤ b ∧ b < 256) (hc : 0 ≤ c ∧ c < 256) (w : World) :
    (convert 109 9 (.slice (some ⟨w.heap.size, 0, none⟩) 3 3)).run Tryd.prog (w.alloc (.cells #[.int .u8 a, .int .u8 b, .int .u8 c] 5)) = .ok (.string ⟨#[a.toNat.toUInt8, b.toNat.toUInt8, c.toNat.toUInt8]⟩) (w.alloc (.cells #[.int .u8 a, .int .u8 b, .int .u8 c] 5)) :=
  conv_new [a, b, c] (by simp; exact ⟨ha, hb, hc⟩) w
theorem conv4 (a b c d : Int) (ha : 0 ≤ a ∧ a < 256) (hb : 0 ≤ b ∧ b < 256) (hc : 0 ≤ c ∧ c < 256) (hd : 0 ≤ d ∧ d < 256) (w : World) :
    (convert 109 9 (.slice (some ⟨w.heap.size, 0, none⟩) 4 4)).run Tryd.prog (w.alloc (.cells #[.int .u8 a, .int .u8 b, .int .u8 c, .int .u8 d] 5)) = .ok (.string ⟨#[a.toNat.toUInt8, b.toNat.toUInt8, c.toNat.toUInt8, d.toNat.toUInt8]⟩) (w.alloc (.cells #[.int .u8 a, .int .u8 b, .int .u8 c, .int .u8 d] 5)) :=
  conv_new [a, b, c, d] (by simp; exact ⟨ha, hb, hc, hd⟩) w

set_option maxRecDepth 100000 in
set_option maxHeartbeats 1000000 in
theorem written_one (r : Int) (h0 : 0 ≤ r) (h1 : r ≤ 127) (w : World) :
    Calls Tryd.prog 48 #[.int .i64 r] w fun e w' => e = .returned (.string ⟨(Lib.encodeRune r).toArray⟩) ∧ ∃ o, w' = w.alloc o := by
  have he : Hid (Lib.encodeRune r = [r.toNat.toUInt8]) := by show _ = _; unfold Lib.encodeRune; rw [Lib.encodeRuneZ_one h0 h1]; rfl
  have hk := conv1 r (by omega) w
  go_enter Tryd.func48, Tryd.ntmps48
  go_wp2
  go_ret
  rw [he.out]
  exact ⟨rfl, _, rfl⟩
set_option maxRecDepth 100000 in
set_option maxHeartbeats 1000000 in
theorem written_two (r : Int) (h0 : 128 ≤ r) (h1 : r ≤ 2047) (w : World) :
    Calls Tryd.prog 48 #[.int .i64 r] w fun e w' => e = .returned (.string ⟨(Lib.encodeRune r).toArray⟩) ∧ ∃ o, w' = w.alloc o := by
  have he : Hid (Lib.encodeRune r = [(192 + r / 64).toNat.toUInt8, (128 + r % 64).toNat.toUInt8]) := by show _ = _; unfold Lib.encodeRune; rw [Lib.encodeRuneZ_two h0 h1]; rfl
  have hk := conv2 (192 + r / 64) (128 + r % 64) (by omega) (by omega) w
  go_enter Tryd.func48, Tryd.ntmps48
  go_wp2
  go_ret
  rw [he.out]
  exact ⟨rfl, _, rfl⟩
set_option maxRecDepth 100000 in
set_option maxHeartbeats 1000000 in
theorem written_three (r : Int) (h0 : (2048 ≤ r ∧ r < 55296) ∨ (57343 < r ∧ r ≤ 65535)) (w : World) :
    Calls Tryd.prog 48 #[.int .i64 r] w fun e w' => e = .returned (.string ⟨(Lib.encodeRune r).toArray⟩) ∧ ∃ o, w' = w.alloc o := by
  have he : Hid (Lib.encodeRune r = [(224 + r / 4096).toNat.toUInt8, (128 + r / 64 % 64).toNat.toUInt8, (128 + r % 64).toNat.toUInt8]) := by show _ = _; unfold Lib.encodeRune; rw [Lib.encodeRuneZ_three h0]; rfl
  have hk := conv3 (224 + r / 4096) (128 + r / 64 % 64) (128 + r % 64) (by omega) (by omega) (by omega) w
  rcases h0 with ⟨h0, h1⟩ | ⟨h0, h1⟩
  all_goals
    go_enter Tryd.func48, Tryd.ntmps48
    go_wp2
    go_ret
    rw [he.out]
    exact ⟨rfl, _, rfl⟩
set_option maxRecDepth 100000 in
set_option maxHeartbeats 1000000 in
theorem written_four (r : Int) (h0 : 65536 ≤ r) (h1 : r ≤ 1114111) (w : World) :
    Calls Tryd.prog 48 #[.int .i64 r] w fun e w' => e = .returned (.string ⟨(Lib.encodeRune r).toArray⟩) ∧ ∃ o, w' = w.alloc o := by
  have he : Hid (Lib.encodeRune r = [(240 + r / 262144).toNat.toUInt8, (128 + r / 4096 % 64).toNat.toUInt8, (128 + r / 64 % 64).toNat.toUInt8, (128 + r % 64).toNat.toUInt8]) := by show _ = _; unfold Lib.encodeRune; rw [Lib.encodeRuneZ_four h0 h1]; rfl
  have hk := conv4 (240 + r / 262144) (128 + r / 4096 % 64) (128 + r / 64 % 64) (128 + r % 64) (by omega) (by omega) (by omega) (by omega) w
  go_enter Tryd.func48, Tryd.ntmps48
  go_wp2
  go_ret
  rw [he.out]
  exact ⟨rfl, _, rfl⟩
set_option maxRecDepth 100000 in
set_option maxHeartbeats 1000000 in
theorem written_bad (r : Int) (h : r < 0 ∨ (55296 ≤ r ∧ r ≤ 57343) ∨ 1114111 < r) (w : World) :
    Calls Tryd.prog 48 #[.int .i64 r] w fun e w' => e = .returned (.string ⟨(Lib.encodeRune r).toArray⟩) ∧ ∃ o, w' = w.alloc o := by
  have he : Hid (Lib.encodeRune r = [239, 191, 189]) := by show _ = _; unfold Lib.encodeRune; rw [Lib.encodeRuneZ_bad h]; rfl
  have hk := conv3 239 191 189 (by omega) (by omega) (by omega) w
  rcases h with h | ⟨h, h'⟩ | h
  all_goals
    go_enter Tryd.func48, Tryd.ntmps48
    go_wp2
    go_ret
    rw [he.out]
    exact ⟨rfl, _, rfl⟩

/-- It makes one block. -/
theorem written_new (r : Int) (w : World) :
    Calls Tryd.prog 48 #[.int .i64 r] w fun e w' => e = .returned (.string ⟨(Lib.encodeRune r).toArray⟩) ∧ ∃ o, w' = w.alloc o := by
  by_cases a : 0 ≤ r ∧ r ≤ 127
  · exact written_one r a.1 a.2 w
  by_cases b : 128 ≤ r ∧ r ≤ 2047
  · exact written_two r b.1 b.2 w
  by_cases c : (2048 ≤ r ∧ r < 55296) ∨ (57343 < r ∧ r ≤ 65535)
  · exact written_three r c w
  by_cases d : 65536 ≤ r ∧ r ≤ 1114111
  · exact written_four r d.1 d.2 w
  · exact written_bad r (by omega) w
theorem written_any (r : Int) (w : World) :
    Calls Tryd.prog 48 #[.int .i64 r] w fun e w' => e = .returned (.string ⟨(Lib.encodeRune r).toArray⟩) ∧ Below w.heap.size w w' :=
  (written_new r w).mono fun e w' q => ⟨q.1, by obtain ⟨o, rfl⟩ := q.2; exact (Below.refl _ _).alloc (Nat.le_refl _) _⟩
end Go.Proofs.YtgaogkggbccfnaaDoor
