/-
  glyph.Encode of an empty list; paneref.Encode.
-/
import Derived.Test.YtlioofikfgdnmaaEnc
import Derived.Test.YtlioofikfgdnmaaWritten
namespace Go.Proofs.Ytlioofikfgdnmaa
open Go.RowKit
set_option linter.unusedVariables false

set_option maxHeartbeats 1000000 in
theorem gEncode_none (a : Option Addr) (cap : Nat) (w : World) :
    Calls Try.prog 10 #[.slice a 0 cap] w fun e w' => e = .returned (.string ⟨#[]⟩) ∧ Below w.heap.size w w' := by
  have hcv := conv_own (l := []) (show w.ownsRow w.heap.size 5 1 (.slice none 0 0) 0 (Lib.byteCells []) from World.ownsRow_nil w w.heap.size 5 1)
  go_enter Try.func10, Try.ntmps10
  go_wp2
  go_loop [3, 8] (fun v i => v = .slice none 0 0 ∧ i = .int .i64 0) (fun _ _ => 0)
  case atStart => exact ⟨rfl, rfl⟩
  case round =>
    obtain ⟨rfl, rfl⟩ := hrel
    go_wp2
    go_ret
    exact ⟨rfl, Below.refl _ _⟩

theorem gEncode_any (zs : List Int) (v : Value) (w : World) (h : Ints w v zs) (hlen : zs.length ≤ 17592186044416) :
    Calls Try.prog 10 #[v] w fun e w' => e = .returned (.string ⟨(enc zs).toArray⟩) ∧ Below w.heap.size w w' := by
  obtain ⟨a, cap, rfl, rfl | ⟨b, off, rfl, hb, hc⟩⟩ := h
  · exact gEncode_none a cap w
  · exact gEncode_some zs b off cap w hb hc hlen

theorem str_append (a b : List UInt8) : (⟨a.toArray⟩ : ByteArray) ++ (⟨b.toArray⟩ : ByteArray) = ⟨(a ++ b).toArray⟩ := by
  apply ByteArray.ext
  simp

set_option maxHeartbeats 1000000 in
theorem rEncode_some (zs : List Int) (b off cap : Nat) (w : World) (hb : b < w.heap.size) (hc : ∀ j, j < zs.length → w.cell? ⟨b, off + j, none⟩ = some (.int .i64 (zs[j]?.getD 0))) (hlen : zs.length ≤ 17592186044416) :
    Calls Try.prog 11 #[.slice (some ⟨b, off, none⟩) zs.length cap] w fun e w' => e = .returned (.string ⟨(enc zs).toArray⟩) ∧ Below w.heap.size w w' := by
  have HC : Hid (∀ j, j < zs.length → w.cell? ⟨b, off + j, none⟩ = some (.int .i64 (zs[j]?.getD 0))) := hc
  clear hc
  go_enter Try.func11, Try.ntmps11
  go_wp2
  go_loopw [3, 4] (fun v i wr => ∃ k : Nat, k ≤ zs.length ∧ i = .int .i64 k ∧ v = .string ⟨(enc (zs.take k)).toArray⟩ ∧ Below w.heap.size w wr) (fun _ i _ => zs.length - (intOf i).toNat)
  case atStart => exact ⟨0, Nat.zero_le _, rfl, by simp [enc], Below.refl _ _⟩
  case round =>
    obtain ⟨k, hk, rfl, rfl, hnx⟩ := hrel
    have hte := take_le zs k hk
    by_cases hlt : k < zs.length
    · obtain ⟨x, hx⟩ : ∃ x, zs[k]?.getD 0 = x := ⟨_, rfl⟩
      have hcx : wr.cell? ⟨b, off + k, none⟩ = some (.int .i64 x) := by rw [← hx]; exact (hnx.cell (p := ⟨b, off + k, none⟩) hb).trans (HC.out k hlt)
      have hsz := hnx.size
      have HX : Hid (enc (zs.take (k + 1)) = enc (zs.take k) ++ Lib.encodeRune x) := by show _ = _; rw [enc_snoc zs k hlt, hx]
      clear hx
      have hlt' : (k : Int) < (zs.length : Int) := by omega
      go_wp2_with (go_at_call 16; refine (written_any _ _).mono ?_)
      rintro e W1 ⟨rfl, hb1⟩
      have hb2 : Below w.heap.size w W1 := hnx.trans (hb1.mono hsz)
      have hl4 := encodeRune_le x
      obtain ⟨T, hT⟩ : ∃ T, enc (zs.take k) = T := ⟨_, rfl⟩
      obtain ⟨U, hU⟩ : ∃ U, Lib.encodeRune x = U := ⟨_, rfl⟩
      rw [hT, hU] at HX
      rw [hT] at hte
      rw [hU] at hl4
      rw [hT, hU]
      clear hcx hnx hb1 hT hU
      go_wp2
      go_roundw
      case rel =>
        refine ⟨k + 1, by omega, by go_num, ?_, hb2⟩
        rw [HX.out, ← str_append]
      case measure => simp [intOf]; omega
    · have ek : k = zs.length := by omega
      have hlt' : ¬ (k : Int) < (zs.length : Int) := by omega
      have EK : Hid (zs.take k = zs) := by show _ = _; rw [ek, List.take_length]
      clear ek
      go_wp2
      go_ret
      rw [EK.out]
      exact ⟨rfl, hnx⟩

set_option maxHeartbeats 1000000 in
theorem rEncode_none (a : Option Addr) (cap : Nat) (w : World) :
    Calls Try.prog 11 #[.slice a 0 cap] w fun e w' => e = .returned (.string ⟨#[]⟩) ∧ Below w.heap.size w w' := by
  go_enter Try.func11, Try.ntmps11
  go_wp2
  go_loop [3, 4] (fun v i => v = .string ⟨#[]⟩ ∧ i = .int .i64 0) (fun _ _ => 0)
  case atStart => exact ⟨rfl, rfl⟩
  case round =>
    obtain ⟨rfl, rfl⟩ := hrel
    go_wp2
    go_ret
    exact ⟨rfl, Below.refl _ _⟩

theorem rEncode_any (zs : List Int) (v : Value) (w : World) (h : Ints w v zs) (hlen : zs.length ≤ 17592186044416) :
    Calls Try.prog 11 #[v] w fun e w' => e = .returned (.string ⟨(enc zs).toArray⟩) ∧ Below w.heap.size w w' := by
  obtain ⟨a, cap, rfl, rfl | ⟨b, off, rfl, hb, hc⟩⟩ := h
  · exact rEncode_none a cap w
  · exact rEncode_some zs b off cap w hb hc hlen

end Go.Proofs.Ytlioofikfgdnmaa
