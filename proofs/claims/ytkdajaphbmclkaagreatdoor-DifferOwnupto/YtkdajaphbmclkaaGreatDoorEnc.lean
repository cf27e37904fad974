/-
  The walks of glyph.Encode and paneref.Encode: both write the runes' right sequences one behind the other.
-/
import Derived.Test.YtkdajaphbmclkaaGreatDoorInts
import Derived.Test.YtkdajaphbmclkaaGreatDoorLeaves
import Derived.Laws.IdiomStrings
import Derived.Test.YtkdajaphbmclkaaGreatDoorShelf
import Derived.Lib.BufferRead
namespace Go.Proofs.YtkdajaphbmclkaaGreatDoor
open Go.RowKit
set_option linter.unusedVariables false


/-- G2 on lists. -/
def enc (zs : List Int) : List UInt8 := zs.flatMap Lib.encodeRune

theorem enc_snoc (zs : List Int) (k : Nat) (h : k < zs.length) : enc (zs.take (k + 1)) = enc (zs.take k) ++ Lib.encodeRune (zs[k]?.getD 0) := by
  unfold enc
  rw [List.take_succ_eq_append_getElem h, List.flatMap_append]
  simp [h]
theorem encodeRune_le (r : Int) : (Lib.encodeRune r).length ≤ 4 := by
  have := (Lib.runeCells_le r).2
  rwa [Lib.runeCells_length] at this
theorem enc_le (zs : List Int) : (enc zs).length ≤ 4 * zs.length := by
  induction zs with
  | nil => simp [enc]
  | cons z zs ih =>
    have := encodeRune_le z
    unfold enc at *
    simp only [List.flatMap_cons, List.length_append, List.length_cons]; omega
theorem take_le (zs : List Int) (k : Nat) (h : k ≤ zs.length) : (enc (zs.take k)).length ≤ 4 * k := by
  have := enc_le (zs.take k)
  rw [List.length_take, Nat.min_eq_left h] at this
  exact this

theorem encodeRune_runeI (n : Int) : Lib.encodeRune (runeI n) = Lib.encodeRune n := by unfold Lib.encodeRune; rw [encode_runeI]

/-- A row of bytes of the call's own, made a string. -/
theorem conv_own {w : World} {B n : Nat} {v : Value} {l : List UInt8} (h : w.ownsRow B 5 1 v n (Lib.byteCells l)) :
    (convert 60 9 v).run Tryz.prog w = .ok (.string ⟨l.toArray⟩) w := by
  obtain ⟨hl, h2⟩ := h
  rw [Lib.byteCells_length] at hl
  rcases h2 with ⟨rfl, rfl⟩ | ⟨g, cap, cur, rfl, _, hg, _, _, _, htake⟩
  · have : l = [] := List.length_eq_zero_iff.1 (by omega)
    subst this
    exact Lib.run_convert_nil_bytes w 60 9 5 0 Tryz.underlying60 Tryz.underlying5 Tryz.underlying9
  · have e : n = l.length := by omega
    subst e
    exact run_convert_bytes_back w 60 9 5 ⟨g, 0, none⟩ cap l Tryz.underlying60 Tryz.underlying5 Tryz.underlying9 (Lib.bytes_of_row hg (by rw [Nat.mul_one] at htake; exact htake))

theorem own_snoc {w : World} {B : Nat} {v : Value} {l : List UInt8} {r : Int} (h : w.ownsRow B 5 1 v (l.length + (Lib.runeCells r).length) (Lib.byteCells l ++ Lib.runeCells r)) :
    w.ownsRow B 5 1 v (l ++ Lib.encodeRune r).length (Lib.byteCells (l ++ Lib.encodeRune r)) := by
  rw [Lib.byteCells_append, Lib.byteCells_encodeRune, List.length_append, ← Lib.runeCells_length]; exact h

set_option maxRecDepth 100000 in
set_option maxHeartbeats 1000000 in
theorem gEncode_some (zs : List Int) (b off cap : Nat) (w : World) (hb : b < w.heap.size) (hc : ∀ j, j < zs.length → w.cell? ⟨b, off + j, none⟩ = some (.int .i64 (zs[j]?.getD 0))) (hlen : zs.length ≤ 17592186044416) :
    Calls Tryz.prog 63 #[.slice (some ⟨b, off, none⟩) zs.length cap] w fun e w' => e = .returned (.string ⟨(enc zs).toArray⟩) ∧ Below w.heap.size w w' := by
  have HC : Hid (∀ j, j < zs.length → w.cell? ⟨b, off + j, none⟩ = some (.int .i64 (zs[j]?.getD 0))) := hc
  clear hc
  go_enter Tryz.func63, Tryz.ntmps63
  go_wp2
  go_loopw [3, 8] (fun v i wr => ∃ k : Nat, k ≤ zs.length ∧ i = .int .i64 k ∧ wr.ownsRow w.heap.size 5 1 v (enc (zs.take k)).length (Lib.byteCells (enc (zs.take k))) ∧ Below w.heap.size w wr) (fun _ i _ => zs.length - (intOf i).toNat)
  case atStart => exact ⟨0, Nat.zero_le _, rfl, by simpa [enc, Lib.byteCells] using World.ownsRow_nil _ _ _ _, Below.refl _ _⟩
  case round =>
    obtain ⟨k, hk, rfl, hown, hnx⟩ := hrel
    have hte := take_le zs k hk
    by_cases hlt : k < zs.length
    · obtain ⟨x, hx⟩ : ∃ x, zs[k]?.getD 0 = x := ⟨_, rfl⟩
      have hcx : wr.cell? ⟨b, off + k, none⟩ = some (.int .i64 x) := by rw [← hx]; exact (hnx.cell (p := ⟨b, off + k, none⟩) hb).trans (HC.out k hlt)
      have hr := runeI_bd x
      have hsz := hnx.size
      have HX : Hid (enc (zs.take (k + 1)) = enc (zs.take k) ++ Lib.encodeRune (runeI x)) := by show _ = _; rw [enc_snoc zs k hlt, hx, encodeRune_runeI]
      clear hx
      have hlt' : (k : Int) < (zs.length : Int) := by omega
      go_wp2_with (first | (go_at_call 80; refine (runeOf_any _ _).mono ?_; rintro e w' ⟨rfl, rfl⟩) | (go_at_call 79; refine (appendRune_any w.heap.size _ _ _ _ (by omega) (by omega) _ hown (by omega) hsz).mono ?_))
      rintro e W1 ⟨v', rfl, hown', o, hg⟩
      have hrow : ∀ q, Value.ownBlock u3 = some q → w.heap.size ≤ q := fun q hq => (hown.lt q hq).1
      have hb1 : Below w.heap.size w W1 := (hnx.alloc hsz o).grown hg (by simp; omega) hrow
      clear hcx hown hg hrow hnx
      go_wp2
      go_roundw
      case rel =>
        refine ⟨k + 1, by omega, by go_num, ?_, hb1⟩
        rw [HX.out]
        exact own_snoc hown'
      case measure => simp [intOf]; omega
    · have ek : k = zs.length := by omega
      have hlt' : ¬ (k : Int) < (zs.length : Int) := by omega
      rw [ek, List.take_length] at hown
      have hcv := conv_own hown
      clear ek
      go_wp2
      go_ret
      exact ⟨rfl, hnx⟩

end Go.Proofs.YtkdajaphbmclkaaGreatDoor
