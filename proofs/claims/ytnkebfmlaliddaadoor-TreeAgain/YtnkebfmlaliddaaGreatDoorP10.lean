/-
  The reference's form of a node, in parts: decimal, escaped, braces.
-/
import Derived.Test.YtnkebfmlaliddaaGreatDoorP03
import Derived.Test.YtnkebfmlaliddaaGreatDoorP09
import Derived.Lib.ItoaNum
import Derived.OwnWalk
import Derived.Deep.RegionHeld
namespace Go.Proofs.YtnkebfmlaliddaaGreatDoor
open Go.RowKit Go.Sort
set_option linter.unusedVariables false

/-- A number's digits. -/
def dcn (n : Nat) : List UInt8 := Lib.decDigits n
theorem dcn_small {n : Nat} (h : n < 10) : dcn n = [(48 + (n : Int)).toNat.toUInt8] := by
  unfold dcn
  rw [Lib.decDigits, dif_pos h]
  have : 48 + n = (48 + (n : Int)).toNat := by omega
  rw [this]
theorem dcn_great {n : Nat} (h : ¬ n < 10) : dcn n = dcn (n / 10) ++ [(48 + ((n % 10 : Nat) : Int)).toNat.toUInt8] := by
  unfold dcn
  conv => lhs; rw [Lib.decDigits]
  rw [dif_neg h]
  have : 48 + n % 10 = (48 + ((n % 10 : Nat) : Int)).toNat := by omega
  rw [this]
theorem dcn_len (n : Nat) : (dcn n).length ≤ n + 1 := by
  induction n using Nat.strongRecOn with
  | _ n ih =>
    by_cases h : n < 10
    · rw [dcn_small h]; simp
    · rw [dcn_great h, List.length_append]
      have := ih (n / 10) (by omega)
      simp only [List.length_cons, List.length_nil]
      omega
/-- Escaped, between quotation marks. -/
def escQ (b : UInt8) : List UInt8 := if b = 34 then [92, 34] else if b = 92 then [92, 92] else if b = 10 then [92, 110] else [b]
def escF (l : List UInt8) : List UInt8 := l.flatMap escQ
def escR (l : List UInt8) : List UInt8 := 34 :: (escF l ++ [34])
theorem escQ_len (b : UInt8) : (escQ b).length ≤ 2 := by unfold escQ; (repeat' split) <;> simp
theorem escF_len : ∀ l : List UInt8, (escF l).length ≤ 2 * l.length
  | [] => by simp [escF]
  | b :: l => by
    have h1 := escQ_len b
    have h2 := escF_len l
    unfold escF at *
    rw [List.flatMap_cons, List.length_append, List.length_cons]
    omega
theorem escF_snoc (l : List UInt8) (b : UInt8) : escF (l ++ [b]) = escF l ++ escQ b := by simp [escF]
/-- What stands in braces: the attributes up to k. -/
def braF (a : List Int) : Nat → List UInt8
  | 0 => []
  | k + 1 => if a[k]?.getD 0 ≠ withoutL[k]?.getD 0 then (if braF a k = [] then [] else braF a k ++ [59]) ++ ((namesL[k]?.getD ByteArray.empty).data.toList ++ 61 :: dcn (a[k]?.getD 0).toNat) else braF a k
def braR (a : List Int) : List UInt8 := if braF a 12 = [] then [] else 123 :: (braF a 12 ++ [125])

theorem bytes_cat (D E : List UInt8) : (⟨D.toArray⟩ : ByteArray) ++ (⟨E.toArray⟩ : ByteArray) = ⟨(D ++ E).toArray⟩ := by
  apply ByteArray.ext
  simp
set_option maxRecDepth 100000 in
set_option maxHeartbeats 2000000 in
theorem rdec_k : ∀ (k : Nat) (n : Int), 0 ≤ n → n ≤ 1000000 → n.toNat ≤ k → ∀ w, Calls Tryz.prog 60 #[.int .i64 n] w fun e w' => e = .returned (.string ⟨(dcn n.toNat).toArray⟩) ∧ Gr w w' := by
  intro k
  induction k with
  | zero =>
    intro n h0 h1 hk w
    obtain rfl : n = 0 := by omega
    have cv := conv1 48 (by omega)
    have HD : Hid (dcn (Int.toNat 0) = [48]) := by
      show _ = _
      rw [show Int.toNat 0 = 0 from rfl, dcn_small (by decide)]
      rfl
    go_enter Tryz.func60, Tryz.ntmps60
    go_wp2
    go_ret
    exact ⟨by rw [HD.out]; rfl, (Gr.refl w).alloc _⟩
  | succ k ih =>
    intro n h0 h1 hk w
    by_cases h2 : n < 10
    · have cv := conv1 (48 + n) (by omega)
      have HD : Hid (dcn n.toNat = [(48 + n).toNat.toUInt8]) := by
        have := dcn_small (n := n.toNat) (by omega)
        rw [Int.toNat_of_nonneg h0] at this
        exact this
      have b1 : 0 ≤ n ∧ n < 10 := ⟨h0, h2⟩
      clear h0 h1 hk ih
      go_enter Tryz.func60, Tryz.ntmps60
      go_wp2
      go_ret
      exact ⟨by rw [HD.out]; rfl, (Gr.refl w).alloc _⟩
    · obtain ⟨D, hD⟩ : ∃ z, dcn (n / 10).toNat = z := ⟨_, rfl⟩
      have D1 : Hid (∀ w, Calls Tryz.prog 60 #[.int .i64 (n / 10)] w fun e w' => e = .returned (.string ⟨D.toArray⟩) ∧ Gr w w') := fun w => by
        have := ih (n / 10) (by omega) (by omega) (by omega) w
        rw [hD] at this
        exact this
      have HD : Hid (dcn n.toNat = D ++ [(48 + n % 10).toNat.toUInt8]) := by
        have := dcn_great (n := n.toNat) (by omega)
        rw [show n.toNat / 10 = (n / 10).toNat by omega, hD, show ((n.toNat % 10 : Nat) : Int) = n % 10 by omega] at this
        exact this
      have hl : D.length ≤ 100001 := by rw [← hD]; have := dcn_len (n / 10).toNat; omega
      have j1 : ¬ 9223372036854775807 < D.length + 1 := by omega
      have cv := conv1 (48 + n % 10) (by omega)
      have b1 : 10 ≤ n ∧ n ≤ 1000000 := by omega
      clear h0 h1 hk ih hD hl h2
      go_enter Tryz.func60, Tryz.ntmps60
      go_wp2_with (go_at_call 60; refine Calls.mono (D1.out _) ?_; rintro e w1 ⟨rfl, g1⟩; have G1 : Hid (Gr w w1) := g1; clear g1)
      go_ret
      exact ⟨by rw [HD.out, ← bytes_cat]; rfl, G1.out.alloc _⟩
theorem rdec_any (n : Int) (h : 0 ≤ n ∧ n ≤ 1000000) (w : World) : Calls Tryz.prog 60 #[.int .i64 n] w fun e w' => e = .returned (.string ⟨(dcn n.toNat).toArray⟩) ∧ Gr w w' := rdec_k n.toNat n h.1 h.2 (Nat.le_refl _) w

set_option maxRecDepth 100000 in
set_option maxHeartbeats 4000000 in
theorem escaped_any (s : ByteArray) (hs : s.size ≤ 1099511627776) (w : World) : Calls Tryz.prog 40 #[.string s] w fun e w' => e = .returned (.string ⟨(escR s.data.toList).toArray⟩) ∧ Gr w w' := by
  have hE : Hid (∀ i (h : i < s.size), escF (s.data.toList.take (i + 1)) = escF (s.data.toList.take i) ++ escQ s[i]) := fun i h => by
    have hl : i < s.data.toList.length := h
    rw [List.take_succ_eq_append_getElem hl, escF_snoc]
    rfl
  have hX : Hid (∀ i (h : i < s.size), (s.extract i (i + 1)).data.toList = [s[i]] ∧ (s.extract i (i + 1)).size = 1) := fun i h => by
    have hl : i < s.data.toList.length := h
    have e : (s.extract i (i + 1)).data.toList = [s[i]] := by
      rw [ByteArray.data_extract, Array.toList_extract]
      simp only [List.extract]
      rw [List.drop_eq_getElem_cons hl]
      simp
      rfl
    exact ⟨e, by have : (s.extract i (i + 1)).size = (s.extract i (i + 1)).data.toList.length := rfl; rw [this, e]; rfl⟩
  go_enter Tryz.func40, Tryz.ntmps40
  go_wp2
  go_loopw [3, 4] (fun ov iv wr => ∃ (i : Nat) (Z : ByteArray), iv = .int .i64 i ∧ ov = .string Z ∧ i ≤ s.size ∧ Z.size ≤ 2 * i + 1 ∧ Hid (Z.data.toList = 34 :: escF (s.data.toList.take i)) ∧ wr = w) (fun _ iv _ => s.size - (intOf iv).toNat)
  case atStart => exact ⟨0, ⟨#[34]⟩, rfl, rfl, Nat.zero_le _, by decide, rfl, rfl⟩
  case round =>
    obtain ⟨i, Z, rfl, rfl, hi, hZ, HZ, hw⟩ := hrel
    obtain rfl := hw.symm
    by_cases hil : i < s.size
    · have hil' : (i : Int) < (s.size : Int) := by omega
      obtain ⟨x, hx⟩ : ∃ x, s[i].toNat = x := ⟨_, rfl⟩
      have hsi : s[i] = UInt8.ofNat x := by rw [← hx]; exact (UInt8.ofNat_toNat).symm
      have HS1 : Hid (escF (s.data.toList.take (i + 1)) = escF (s.data.toList.take i) ++ escQ s[i]) := hE.out i hil
      have j2 : ¬ 9223372036854775807 < Z.size + 2 := by omega
      by_cases q1 : x = 34
      · subst q1
        have HN : Hid ((Z ++ ⟨#[92, 34]⟩).data.toList = 34 :: escF (s.data.toList.take (i + 1))) := by
          show _ = _
          rw [HS1.out, hsi]
          have : (Z ++ (⟨#[92, 34]⟩ : ByteArray)).data.toList = Z.data.toList ++ [92, 34] := by simp
          rw [this, HZ.out]
          rfl
        have hZ2 : (Z ++ (⟨#[92, 34]⟩ : ByteArray)).size ≤ 2 * (i + 1) + 1 := by rw [ByteArray.size_append]; show Z.size + 2 ≤ _; omega
        clear hsi HS1
        go_wp2
        go_roundw
        case rel => exact ⟨i + 1, _, by go_num, rfl, by omega, hZ2, HN.out, by first | rfl | trivial⟩
        case measure => simp [intOf]; omega
      · by_cases q2 : x = 92
        · subst q2
          have HN : Hid ((Z ++ ⟨#[92, 92]⟩).data.toList = 34 :: escF (s.data.toList.take (i + 1))) := by
            show _ = _
            rw [HS1.out, hsi]
            have : (Z ++ (⟨#[92, 92]⟩ : ByteArray)).data.toList = Z.data.toList ++ [92, 92] := by simp
            rw [this, HZ.out]
            rfl
          have hZ2 : (Z ++ (⟨#[92, 92]⟩ : ByteArray)).size ≤ 2 * (i + 1) + 1 := by rw [ByteArray.size_append]; show Z.size + 2 ≤ _; omega
          clear hsi HS1 q1
          go_wp2
          go_roundw
          case rel => exact ⟨i + 1, _, by go_num, rfl, by omega, hZ2, HN.out, by first | rfl | trivial⟩
          case measure => simp [intOf]; omega
        · by_cases q3 : x = 10
          · subst q3
            have HN : Hid ((Z ++ ⟨#[92, 110]⟩).data.toList = 34 :: escF (s.data.toList.take (i + 1))) := by
              show _ = _
              rw [HS1.out, hsi]
              have : (Z ++ (⟨#[92, 110]⟩ : ByteArray)).data.toList = Z.data.toList ++ [92, 110] := by simp
              rw [this, HZ.out]
              rfl
            have hZ2 : (Z ++ (⟨#[92, 110]⟩ : ByteArray)).size ≤ 2 * (i + 1) + 1 := by rw [ByteArray.size_append]; show Z.size + 2 ≤ _; omega
            clear hsi HS1 q1 q2
            go_wp2
            go_roundw
            case rel => exact ⟨i + 1, _, by go_num, rfl, by omega, hZ2, HN.out, by first | rfl | trivial⟩
            case measure => simp [intOf]; omega
          · obtain ⟨fb, hfb⟩ : ∃ z, s.extract i (i + 1) = z := ⟨_, rfl⟩
            obtain ⟨e1, e2⟩ := hX.out i hil
            rw [hfb] at e1 e2
            have j3 : ¬ 9223372036854775807 < Z.size + fb.size := by omega
            have p1 : ((x : Int) == 34) = false := by simpa using fun e => q1 (Int.ofNat.inj e)
            have p2 : ((x : Int) == 92) = false := by simpa using fun e => q2 (Int.ofNat.inj e)
            have p3 : ((x : Int) == 10) = false := by simpa using fun e => q3 (Int.ofNat.inj e)
            have HN : Hid ((Z ++ fb).data.toList = 34 :: escF (s.data.toList.take (i + 1))) := by
              show _ = _
              have hb : escQ s[i] = [s[i]] := by
                have hne : ∀ k : UInt8, x ≠ k.toNat → s[i] ≠ k := fun k hk e => hk (by rw [← hx, e])
                unfold escQ
                rw [if_neg (hne 34 q1), if_neg (hne 92 q2), if_neg (hne 10 q3)]
              rw [HS1.out, hb]
              have : (Z ++ fb).data.toList = Z.data.toList ++ fb.data.toList := by simp
              rw [this, HZ.out, e1]
              rfl
            have hZ2 : (Z ++ fb).size ≤ 2 * (i + 1) + 1 := by rw [ByteArray.size_append]; omega
            have hxw : IntKind.i64.wrap ((i : Int) + 1) = (i : Int) + 1 := IntWalk.i64_in _ (by omega)
            clear hsi HS1 e1
            go_wp2
            try rw [hfb]
            go_roundw
            case rel => exact ⟨i + 1, _, by go_num, rfl, by omega, hZ2, HN.out, by first | rfl | trivial⟩
            case measure => simp [intOf]; omega
    · have hil' : ¬ (i : Int) < (s.size : Int) := by omega
      obtain rfl : i = s.size := by omega
      have j2 : ¬ 9223372036854775807 < Z.size + 1 := by omega
      have HR : Hid ((⟨(escR s.data.toList).toArray⟩ : ByteArray) = Z ++ ⟨#[34]⟩) := by
        show _ = _
        apply ByteArray.ext
        apply Array.toList_inj.1
        have h1 : (Z ++ (⟨#[34]⟩ : ByteArray)).data.toList = Z.data.toList ++ [34] := by simp
        rw [h1, HZ.out, List.take_of_length_le (by show s.data.toList.length ≤ s.size; exact Nat.le_refl _)]
        rfl
      go_wp2
      go_ret
      exact ⟨by rw [HR.out]; rfl, Gr.refl _⟩

end Go.Proofs.YtnkebfmlaliddaaGreatDoor

namespace Go.Proofs.YtnkebfmlaliddaaGreatDoor
open Go.RowKit Go.Sort
set_option linter.unusedVariables false

theorem braF_len (a : List Int) (ha : ∀ k, k < 12 → a[k]?.getD 0 ≠ withoutL[k]?.getD 0 → 0 ≤ a[k]?.getD 0 ∧ a[k]?.getD 0 ≤ 1000000) : ∀ k, k ≤ 12 → (braF a k).length ≤ 2000000 * k
  | 0, _ => by simp [braF]
  | k + 1, h => by
    have ih := braF_len a ha k (by omega)
    have h2 := dcn_len (a[k]?.getD 0).toNat
    have h3 : (namesL[k]?.getD ByteArray.empty).data.toList.length ≤ 100 := by
      have : k = 0 ∨ k = 1 ∨ k = 2 ∨ k = 3 ∨ k = 4 ∨ k = 5 ∨ k = 6 ∨ k = 7 ∨ k = 8 ∨ k = 9 ∨ k = 10 ∨ k = 11 := by omega
      rcases this with rfl | rfl | rfl | rfl | rfl | rfl | rfl | rfl | rfl | rfl | rfl | rfl <;> decide
    unfold braF
    split
    · rename_i hne
      have h1 := ha k (by omega) hne
      rw [List.length_append, List.length_append, List.length_cons]
      split
      · simp only [List.length_nil]; omega
      · rw [List.length_append]; simp only [List.length_cons, List.length_nil]; omega
    · omega
set_option maxRecDepth 100000 in
set_option maxHeartbeats 8000000 in
theorem braces_any (a : List Int) (ab : Nat) (kd up : Value) (tx kv : Value) (w : World) (hab : ab < w.heap.size) (hc : ∀ j, j < 12 → w.cell? ⟨ab, j, none⟩ = some (.int .i64 (a[j]?.getD 0))) (ha : ∀ k, k < 12 → a[k]?.getD 0 ≠ withoutL[k]?.getD 0 → 0 ≤ a[k]?.getD 0 ∧ a[k]?.getD 0 ≤ 1000000) :
    Calls Tryz.prog 38 #[.agg #[kd, .slice (some ⟨ab, 0, none⟩) 12 12, tx, kv, up]] w fun e w' => e = .returned (.string ⟨(braR a).toArray⟩) ∧ Hid (Below w.heap.size w w') := by
  have hmix : Tryz.prog.follows .mixedOrders = true := by kernel_rfl
  have HC : Hid (∀ j, j < 12 → w.cell? ⟨ab, j, none⟩ = some (.int .i64 (a[j]?.getD 0))) := hc
  have HA : Hid (∀ k, k < 12 → a[k]?.getD 0 ≠ withoutL[k]?.getD 0 → 0 ≤ a[k]?.getD 0 ∧ a[k]?.getD 0 ≤ 1000000) := ha
  have HL : Hid (∀ k, k ≤ 12 → (braF a k).length ≤ 2000000 * k) := braF_len a ha
  have WO : Hid (∀ k, k < 12 → ∀ w, Calls Tryz.prog 59 #[] w fun e w' => ∃ S, e = .returned (.slice (some ⟨S, 0, none⟩) 12 12) ∧ w'.cell? ⟨S, k, none⟩ = some (.int .i64 (withoutL[k]?.getD 0)) ∧ Hid (Below w.heap.size w w')) := fun k hk w => (without_any w).mono fun e w' q => ⟨w.heap.size, q.1, by have := (q.2.1 k hk).1; rw [Nat.zero_add] at this; exact this, q.2.2.2⟩
  have NO : Hid (∀ k, k < 12 → ∀ w, Calls Tryz.prog 61 #[] w fun e w' => ∃ S, e = .returned (.slice (some ⟨S, 0, none⟩) 12 12) ∧ w'.cell? ⟨S, k, none⟩ = some (.string (namesL[k]?.getD ByteArray.empty)) ∧ Hid (Below w.heap.size w w')) := fun k hk w => (names_any w).mono fun e w' q => ⟨w.heap.size, q.1, by have := q.2.1 k hk; rw [Nat.zero_add] at this; exact this, q.2.2.2⟩
  have DE : Hid (∀ n, 0 ≤ n ∧ n ≤ 1000000 → ∀ w, Calls Tryz.prog 60 #[.int .i64 n] w fun e w' => e = .returned (.string ⟨(dcn n.toNat).toArray⟩) ∧ Gr w w') := fun n hn w => rdec_any n hn w
  clear hc ha
  go_enter Tryz.func38, Tryz.ntmps38
  go_wp2_with fail
  obtain ⟨W0, hW0⟩ : ∃ z, w.alloc (.cells #[kd, .slice (some ⟨ab, 0, none⟩) 12 12, tx, kv, up] 74) = z := ⟨_, rfl⟩
  obtain ⟨S0, hS0⟩ : ∃ z, w.heap.size = z := ⟨_, rfl⟩
  have HB0 : Hid (Below w.heap.size w W0) := by rw [← hW0]; exact ((Gr.refl w).alloc _).below
  have N0 : Hid (W0.heap[S0]? = some (.cells #[kd, .slice (some ⟨ab, 0, none⟩) 12 12, tx, kv, up] 74 (0, 0))) := by rw [← hW0, ← hS0]; show (w.heap.push _)[w.heap.size]? = _; exact Array.getElem?_push_size
  have lt0 : S0 < W0.heap.size := (Array.getElem?_eq_some_iff.1 N0.out).1
  have s1 : W0.cell? ⟨S0, 1, none⟩ = some (.slice (some ⟨ab, 0, none⟩) 12 12) := by rw [Lib.cell_of_heap N0.out]; rfl
  have HS1 : Hid (W0.cell? ⟨S0, 1, none⟩ = some (.slice (some ⟨ab, 0, none⟩) 12 12)) := s1
  have HSZ : Hid (w.heap.size = S0) := hS0
  rw [hW0, hS0]
  clear hW0 hS0 s1
  go_loopw [3, 4] (fun ov iv wr => ∃ (i : Nat) (Z : ByteArray), iv = .int .i64 i ∧ ov = .string Z ∧ i ≤ 12 ∧ Z.size ≤ 2000000 * i ∧ Hid (Z.data.toList = braF a i) ∧ Hid (Below W0.heap.size W0 wr)) (fun _ iv _ => 12 - (intOf iv).toNat)
  case atStart => exact ⟨0, ⟨#[]⟩, rfl, rfl, Nat.zero_le _, by decide, rfl, Below.refl _ _⟩
  case round =>
    obtain ⟨i, Z, rfl, rfl, hi, hZ, HZ, HB⟩ := hrel
    have s1 : wr.cell? ⟨S0, 1, none⟩ = some (.slice (some ⟨ab, 0, none⟩) 12 12) := (HB.out.cell (p := ⟨S0, 1, none⟩) lt0).trans HS1.out
    by_cases hil : i < 12
    · have hil' : (i : Int) < 12 := by omega
      have KA : Hid (∀ u, Below W0.heap.size W0 u → u.cell? ⟨ab, i, none⟩ = some (.int .i64 (a[i]?.getD 0)) ∧ u.cell? ⟨S0, 1, none⟩ = some (.slice (some ⟨ab, 0, none⟩) 12 12)) := fun u hu => ⟨(hu.cell (p := ⟨ab, i, none⟩) (by have := HB0.out.size; show ab < _; omega)).trans ((HB0.out.cell (p := ⟨ab, i, none⟩) hab).trans (HC.out i hil)), (hu.cell (p := ⟨S0, 1, none⟩) lt0).trans HS1.out⟩
      have ca := (KA.out wr HB.out).1
      have HBS : Hid (braF a (i + 1) = if a[i]?.getD 0 ≠ withoutL[i]?.getD 0 then (if braF a i = [] then [] else braF a i ++ [59]) ++ ((namesL[i]?.getD ByteArray.empty).data.toList ++ 61 :: dcn (a[i]?.getD 0).toNat) else braF a i) := rfl
      have HAI := HA.out i hil
      have WOI := WO.out i hil
      have NOI := NO.out i hil
      obtain ⟨x, hx⟩ : ∃ x, a[i]?.getD 0 = x := ⟨_, rfl⟩
      obtain ⟨y, hy⟩ : ∃ y, withoutL[i]?.getD 0 = y := ⟨_, rfl⟩
      obtain ⟨nm, hnm⟩ : ∃ y, namesL[i]?.getD ByteArray.empty = y := ⟨_, rfl⟩
      have hnl : nm.size ≤ 100 := by
        rw [← hnm]
        have : i = 0 ∨ i = 1 ∨ i = 2 ∨ i = 3 ∨ i = 4 ∨ i = 5 ∨ i = 6 ∨ i = 7 ∨ i = 8 ∨ i = 9 ∨ i = 10 ∨ i = 11 := by omega
        rcases this with rfl | rfl | rfl | rfl | rfl | rfl | rfl | rfl | rfl | rfl | rfl | rfl <;> decide
      rw [hx] at ca HBS HAI KA
      rw [hy] at HBS HAI WOI
      rw [hnm] at HBS NOI
      have HWO : Hid (∀ w, Calls Tryz.prog 59 #[] w fun e w' => ∃ S, e = .returned (.slice (some ⟨S, 0, none⟩) 12 12) ∧ w'.cell? ⟨S, i, none⟩ = some (.int .i64 y) ∧ Hid (Below w.heap.size w w')) := WOI
      have HNO : Hid (∀ w, Calls Tryz.prog 61 #[] w fun e w' => ∃ S, e = .returned (.slice (some ⟨S, 0, none⟩) 12 12) ∧ w'.cell? ⟨S, i, none⟩ = some (.string nm) ∧ Hid (Below w.heap.size w w')) := NOI
      clear WOI NOI hx hy hnm
      by_cases hxy : x = y
      · have HE : Hid (braF a (i + 1) = braF a i) := by show _ = _; rw [HBS.out, if_neg (fun q => q hxy)]
        have hne : (x != y) = false := by simpa using hxy
        clear HBS HAI
        go_wp2_with fail
        go_region_with (go_at_call 59; refine Calls.mono (HWO.out _) ?_; rintro e1 u1 ⟨S, rfl, dk, hb1⟩; have HB1 : Hid (Below W0.heap.size W0 u1) := (by first | exact HB.out.trans (hb1.out.mono HB.out.size) | exact (Below.drew HB.out).trans (hb1.out.mono (Below.drew HB.out).size)); have s1 := (KA.out u1 HB1.out).2; have ca := (KA.out u1 HB1.out).1)
        all_goals
          go_wp2
          go_roundw
          case rel => exact ⟨i + 1, Z, by go_num, rfl, by omega, by omega, by rw [HE.out]; exact HZ.out, by first | exact HB1.out | exact Below.drew HB1.out⟩
          case measure => simp [intOf]; omega
      · have hne : (x != y) = true := by simpa using hxy
        have hx01 := HAI hxy
        obtain ⟨D, hD⟩ : ∃ z, dcn x.toNat = z := ⟨_, rfl⟩
        have hDl : D.length ≤ 1000001 := by rw [← hD]; have := dcn_len x.toNat; omega
        have DX : Hid (∀ w, Calls Tryz.prog 60 #[.int .i64 x] w fun e w' => e = .returned (.string ⟨D.toArray⟩) ∧ Gr w w') := fun w => by have := DE.out x hx01 w; rw [hD] at this; exact this
        have HE : Hid (braF a (i + 1) = (if braF a i = [] then [] else braF a i ++ [59]) ++ (nm.data.toList ++ 61 :: D)) := by show _ = _; rw [HBS.out, if_pos hxy, hD]
        clear HBS HAI hD
        have hcat : ∀ Y : ByteArray, (Y ++ nm ++ (⟨#[61]⟩ : ByteArray) ++ (⟨D.toArray⟩ : ByteArray)).data.toList = Y.data.toList ++ (nm.data.toList ++ 61 :: D) := fun Y => by simp
        have HCT : Hid (∀ Y : ByteArray, (Y ++ nm ++ (⟨#[61]⟩ : ByteArray) ++ (⟨D.toArray⟩ : ByteArray)).data.toList = Y.data.toList ++ (nm.data.toList ++ 61 :: D)) := hcat
        have hsz : ∀ Y : ByteArray, (Y ++ nm ++ (⟨#[61]⟩ : ByteArray) ++ (⟨D.toArray⟩ : ByteArray)).size = Y.size + nm.size + 1 + D.length := fun Y => by
          rw [ByteArray.size_append, ByteArray.size_append, ByteArray.size_append]
          first | rfl | (show Y.size + nm.size + 1 + D.toArray.size = _; simp)
        have HSY : Hid (∀ Y : ByteArray, (Y ++ nm ++ (⟨#[61]⟩ : ByteArray) ++ (⟨D.toArray⟩ : ByteArray)).size = Y.size + nm.size + 1 + D.length) := hsz
        clear hcat hsz
        by_cases hZe : Z = ⟨#[]⟩
        · subst hZe
          have HN : Hid (((⟨#[]⟩ : ByteArray) ++ nm ++ (⟨#[61]⟩ : ByteArray) ++ (⟨D.toArray⟩ : ByteArray)).data.toList = braF a (i + 1)) := by
            show _ = _
            rw [HCT.out, HE.out, ← HZ.out, if_pos rfl]
          have hN2 : ((⟨#[]⟩ : ByteArray) ++ nm ++ (⟨#[61]⟩ : ByteArray) ++ (⟨D.toArray⟩ : ByteArray)).size ≤ 2000000 * (i + 1) := by
            rw [HSY.out]
            show 0 + nm.size + 1 + D.length ≤ _
            omega
          have k1 : ¬ 9223372036854775807 < nm.size := by omega
          have k2 : ¬ 9223372036854775807 < nm.size + 1 := by omega
          have k3 : ¬ 9223372036854775807 < nm.size + 1 + D.length := by omega
          have k4 : ¬ 9223372036854775807 < 0 + nm.size := by omega
          have k5 : ¬ 9223372036854775807 < 0 + nm.size + 1 := by omega
          have k6 : ¬ 9223372036854775807 < 0 + nm.size + 1 + D.length := by omega
          go_wp2_with fail
          go_region_with (go_at_call 59; refine Calls.mono (HWO.out _) ?_; rintro e1 u1 ⟨S, rfl, dk, hb1⟩; have HB1 : Hid (Below W0.heap.size W0 u1) := (by first | exact HB.out.trans (hb1.out.mono HB.out.size) | exact (Below.drew HB.out).trans (hb1.out.mono (Below.drew HB.out).size)); have s1 := (KA.out u1 HB1.out).2; have ca := (KA.out u1 HB1.out).1)
          all_goals
            go_wp2_with fail
            refine (DX.out _).mono ?_
            rintro e2 u2 ⟨rfl, g2⟩
            have HB2 : Hid (Below W0.heap.size W0 u2) := by first | exact HB1.out.trans (g2.below.mono HB1.out.size) | exact (Below.drew HB1.out).trans (g2.below.mono (Below.drew HB1.out).size)
            clear g2
            go_wp2_with fail
            refine (HNO.out _).mono ?_
            rintro e3 u3 ⟨S', rfl, dn, hb3⟩
            have HB3 : Hid (Below W0.heap.size W0 u3) := by first | exact HB2.out.trans (hb3.out.mono HB2.out.size) | exact (Below.drew HB2.out).trans (hb3.out.mono (Below.drew HB2.out).size)
            clear hb3
            go_wp2
            go_roundw
            case rel => exact ⟨i + 1, _, by go_num, rfl, by omega, hN2, HN.out, by first | exact HB3.out | exact Below.drew HB3.out⟩
            case measure => simp [intOf]; omega
        · have z0 : (Z.toList == []) = false := by
            cases h : Z.toList with
            | nil => exact absurd (by apply ByteArray.ext; apply Array.toList_inj.1; rw [ByteArray.toList_eq] at h; exact h) hZe
            | cons a l => rfl
          have z1 : Z.toList.isEmpty = false := by cases h : Z.toList with
            | nil => rw [h] at z0; exact absurd z0 (by decide)
            | cons a l => rfl
          have z2 : ¬ Z.toList = [] := fun e => by rw [e] at z0; exact absurd z0 (by decide)
          have HN : Hid ((Z ++ (⟨#[59]⟩ : ByteArray) ++ nm ++ (⟨#[61]⟩ : ByteArray) ++ (⟨D.toArray⟩ : ByteArray)).data.toList = braF a (i + 1)) := by
            show _ = _
            have h1 : (Z ++ (⟨#[59]⟩ : ByteArray)).data.toList = Z.data.toList ++ [59] := by simp
            rw [HCT.out, HE.out, h1, HZ.out, if_neg (fun e => z2 (by rw [ByteArray.toList_eq, HZ.out, e]))]
          have hN2 : (Z ++ (⟨#[59]⟩ : ByteArray) ++ nm ++ (⟨#[61]⟩ : ByteArray) ++ (⟨D.toArray⟩ : ByteArray)).size ≤ 2000000 * (i + 1) := by
            rw [HSY.out, ByteArray.size_append]
            show Z.size + 1 + nm.size + 1 + D.length ≤ _
            omega
          have k0 : ¬ 9223372036854775807 < Z.size + 1 := by omega
          have k1 : ¬ 9223372036854775807 < Z.size + 1 + nm.size := by omega
          have k2 : ¬ 9223372036854775807 < Z.size + 1 + nm.size + 1 := by omega
          have k3 : ¬ 9223372036854775807 < Z.size + 1 + nm.size + 1 + D.length := by omega
          go_wp2_with fail
          go_region_with (go_at_call 59; refine Calls.mono (HWO.out _) ?_; rintro e1 u1 ⟨S, rfl, dk, hb1⟩; have HB1 : Hid (Below W0.heap.size W0 u1) := (by first | exact HB.out.trans (hb1.out.mono HB.out.size) | exact (Below.drew HB.out).trans (hb1.out.mono (Below.drew HB.out).size)); have s1 := (KA.out u1 HB1.out).2; have ca := (KA.out u1 HB1.out).1)
          all_goals
            go_wp2_with fail
            refine (DX.out _).mono ?_
            rintro e2 u2 ⟨rfl, g2⟩
            have HB2 : Hid (Below W0.heap.size W0 u2) := by first | exact HB1.out.trans (g2.below.mono HB1.out.size) | exact (Below.drew HB1.out).trans (g2.below.mono (Below.drew HB1.out).size)
            clear g2
            go_wp2_with fail
            refine (HNO.out _).mono ?_
            rintro e3 u3 ⟨S', rfl, dn, hb3⟩
            have HB3 : Hid (Below W0.heap.size W0 u3) := by first | exact HB2.out.trans (hb3.out.mono HB2.out.size) | exact (Below.drew HB2.out).trans (hb3.out.mono (Below.drew HB2.out).size)
            clear hb3
            go_wp2
            go_roundw
            case rel => exact ⟨i + 1, _, by go_num, rfl, by omega, hN2, HN.out, by first | exact HB3.out | exact Below.drew HB3.out⟩
            case measure => simp [intOf]; omega
    · have hil' : ¬ (i : Int) < 12 := by omega
      obtain rfl : i = 12 := by omega
      have HBW : Hid (Below w.heap.size w wr) := HB0.out.trans (HB.out.mono HB0.out.size)
      by_cases hZe : Z = ⟨#[]⟩
      · subst hZe
        have HR : Hid (braR a = []) := by show _ = _; unfold braR; rw [← HZ.out]; exact if_pos rfl
        go_wp2
        go_ret
        exact ⟨by rw [HR.out]; rfl, HBW.out⟩
      · have z0 : (Z.toList == []) = false := by
          cases h : Z.toList with
          | nil => exact absurd (by apply ByteArray.ext; apply Array.toList_inj.1; rw [ByteArray.toList_eq] at h; exact h) hZe
          | cons a l => rfl
        have z1 : Z.toList.isEmpty = false := by cases h : Z.toList with
          | nil => rw [h] at z0; exact absurd z0 (by decide)
          | cons a l => rfl
        have z2 : ¬ Z.toList = [] := fun e => by rw [e] at z0; exact absurd z0 (by decide)
        have k0 : ¬ 9223372036854775807 < 1 + Z.size := by omega
        have k1 : ¬ 9223372036854775807 < 1 + Z.size + 1 := by omega
        have HR : Hid ((⟨(braR a).toArray⟩ : ByteArray) = (⟨#[123]⟩ : ByteArray) ++ Z ++ ⟨#[125]⟩) := by
          show _ = _
          apply ByteArray.ext
          apply Array.toList_inj.1
          have h1 : ((⟨#[123]⟩ : ByteArray) ++ Z ++ (⟨#[125]⟩ : ByteArray)).data.toList = [123] ++ Z.data.toList ++ [125] := by simp
          rw [h1, HZ.out]
          unfold braR
          rw [if_neg (fun e => z2 (by rw [ByteArray.toList_eq, HZ.out, e]))]
          simp
        go_wp2
        go_ret
        exact ⟨by rw [HR.out]; rfl, HBW.out⟩

end Go.Proofs.YtnkebfmlaliddaaGreatDoor

namespace Go.Proofs.YtnkebfmlaliddaaGreatDoor
set_option linter.unusedVariables false

/-- The nodes that a node's form tells of. -/
def vis (kids : Nat → List Nat) : Nat → Nat → List Nat
  | 0, _ => []
  | f + 1, k => k :: (kids k).flatMap (vis kids f)
def upN (up : Nat → Int) : Nat → Int → Int
  | 0, x => x
  | t + 1, x => up (upN up t x).toNat
/-- Kids are around by one node alone. -/
structure Nest (n : Nat) (kids : Nat → List Nat) (up : Nat → Int) : Prop where
  kid : ∀ i c, i < n → c ∈ kids i → i < c ∧ c < n ∧ up c = (i : Int)
  nd : ∀ i, i < n → (kids i).Nodup
  upl : ∀ i, i < n → up i < (i : Int)
  lo : ∀ i, i < n → -1 ≤ up i
section
variable {n : Nat} {kids : Nat → List Nat} {up : Nat → Int}
theorem upN_add (s : Nat) (x : Int) : ∀ t, upN up (s + t) x = upN up t (upN up s x)
  | 0 => rfl
  | t + 1 => by
    show up (upN up (s + t) x).toNat = up (upN up t (upN up s x)).toNat
    rw [upN_add s x t]
theorem upN_le (h : Nest n kids up) (hn : 0 < n) : ∀ (t : Nat) (x : Int), -1 ≤ x → x < n → -1 ≤ upN up t x ∧ upN up t x ≤ x
  | 0, x, h1, h2 => ⟨h1, Int.le_refl _⟩
  | t + 1, x, h1, h2 => by
    obtain ⟨k1, k2⟩ := upN_le h hn t x h1 h2
    show -1 ≤ up (upN up t x).toNat ∧ up (upN up t x).toNat ≤ x
    have hl : (upN up t x).toNat < n := by omega
    have a1 := h.lo _ hl
    have a2 := h.upl _ hl
    refine ⟨a1, ?_⟩
    omega
theorem vis_in (h : Nest n kids up) : ∀ (f k : Nat), k < n → ∀ j, j ∈ vis kids f k → k ≤ j ∧ j < n ∧ ∃ t, upN up t (j : Int) = (k : Int)
  | 0, k, hk, j, hj => by cases hj
  | f + 1, k, hk, j, hj => by
    rcases List.mem_cons.1 hj with e | hj
    · subst e; exact ⟨Nat.le_refl _, hk, 0, rfl⟩
    · obtain ⟨c, hc, hj⟩ := List.mem_flatMap.1 hj
      obtain ⟨c1, c2, c3⟩ := h.kid k c hk hc
      obtain ⟨d1, d2, t, ht⟩ := vis_in h f c c2 j hj
      refine ⟨by omega, d2, t + 1, ?_⟩
      show up (upN up t (j : Int)).toNat = (k : Int)
      rw [ht]
      exact c3
theorem vis_apart (h : Nest n kids up) {f k c d : Nat} (hk : k < n) (hc : c ∈ kids k) (hd : d ∈ kids k) (hcd : c ≠ d) {j : Nat} (h1 : j ∈ vis kids f c) (h2 : j ∈ vis kids f d) : False := by
  obtain ⟨c1, c2, c3⟩ := h.kid k c hk hc
  obtain ⟨d1, d2, d3⟩ := h.kid k d hk hd
  obtain ⟨_, _, s, hs⟩ := vis_in h f c c2 j h1
  obtain ⟨_, _, t, ht⟩ := vis_in h f d d2 j h2
  have hn : 0 < n := by omega
  have key : ∀ (c d : Nat) (s t : Nat), c ≠ d → up c = (k : Int) → k < d → c < n → upN up s (j : Int) = (c : Int) → upN up t (j : Int) = (d : Int) → s ≤ t → False := fun c d s t hcd hup hkd hcn hs ht hst => by
    obtain ⟨r, rfl⟩ : ∃ r, t = s + r := ⟨t - s, by omega⟩
    rw [upN_add, hs] at ht
    cases r with
    | zero => exact hcd (Int.ofNat.inj ht)
    | succ r =>
      rw [Nat.add_comm r 1, upN_add] at ht
      have e : upN up 1 (c : Int) = (k : Int) := by show up ((c : Int)).toNat = _; exact hup
      rw [e] at ht
      have := (upN_le h hn r (k : Int) (by omega) (by omega)).2
      omega
  rcases Nat.le_total s t with g | g
  · exact key c d s t hcd c3 d1 c2 hs ht g
  · exact key d c t s (fun e => hcd e.symm) d3 c1 d2 ht hs g
theorem vis_nodup (h : Nest n kids up) : ∀ (f k : Nat), k < n → (vis kids f k).Nodup
  | 0, k, hk => List.nodup_nil
  | f + 1, k, hk => by
    show (k :: (kids k).flatMap (vis kids f)).Nodup
    refine List.nodup_cons.2 ⟨fun q => ?_, ?_⟩
    · obtain ⟨c, hc, hj⟩ := List.mem_flatMap.1 q
      obtain ⟨c1, c2, c3⟩ := h.kid k c hk hc
      have := (vis_in h f c c2 k hj).1
      omega
    · have key : ∀ ks : List Nat, (∀ c ∈ ks, c ∈ kids k) → ks.Nodup → (ks.flatMap (vis kids f)).Nodup := by
        intro ks
        induction ks with
        | nil => intro _ _; exact List.nodup_nil
        | cons c ks ih =>
          intro h1 h2
          rw [List.flatMap_cons]
          obtain ⟨m1, m2⟩ := List.nodup_cons.1 h2
          have hc := h1 c (List.mem_cons_self ..)
          obtain ⟨c1, c2, c3⟩ := h.kid k c hk hc
          refine List.nodup_append.2 ⟨vis_nodup h f c c2, ih (fun x hx => h1 x (List.mem_cons_of_mem _ hx)) m2, fun a ha b hb e => ?_⟩
          subst e
          obtain ⟨d, hd, hj⟩ := List.mem_flatMap.1 hb
          exact vis_apart h hk hc (h1 d (List.mem_cons_of_mem _ hd)) (fun e => m1 (e ▸ hd)) ha hj
      exact key (kids k) (fun _ hc => hc) (h.nd k hk)
/-- As many numbers below n, each once, are at most n. -/
theorem nodup_len : ∀ (n : Nat) (l : List Nat), l.Nodup → (∀ x ∈ l, x < n) → l.length ≤ n
  | 0, l, _, h => by
    cases l with
    | nil => exact Nat.le_refl _
    | cons a l => exact absurd (h a (List.mem_cons_self ..)) (by omega)
  | n + 1, l, hd, h => by
    by_cases hm : n ∈ l
    · have h1 : (l.erase n).length = l.length - 1 := List.length_erase_of_mem hm
      have h2 := nodup_len n (l.erase n) (hd.erase n) (fun x hx => by
        have hx1 := List.mem_of_mem_erase hx
        have hx2 : x ≠ n := fun e => by rw [e] at hx; exact (List.Nodup.not_mem_erase hd) hx
        have := h x hx1
        omega)
      have : 0 < l.length := List.length_pos_of_mem hm
      omega
    · have := nodup_len n l hd (fun x hx => by
        have h1 := h x hx
        have h2 : x ≠ n := fun e => hm (e ▸ hx)
        omega)
      omega
theorem vis_len (h : Nest n kids up) (f k : Nat) (hk : k < n) : (vis kids f k).length ≤ n := nodup_len n _ (vis_nodup h f k hk) fun x hx => (vis_in h f k hk x hx).2.1
end

end Go.Proofs.YtnkebfmlaliddaaGreatDoor

namespace Go.Proofs.YtnkebfmlaliddaaGreatDoor
set_option linter.unusedVariables false

/-- What stands ahead of a node's body. -/
def ownS (d : Nd) : List UInt8 := (kindsL[d.kind]?.getD ByteArray.empty).data.toList ++ braR d.attr
/-- The first i kids, commas between. -/
def kjI (g : Nat → List UInt8) (ks : List Nat) : Nat → List UInt8
  | 0 => []
  | i + 1 => kjI g ks i ++ ((if i = 0 then [] else [44]) ++ g (ks[i]?.getD 0))
def formF (L : Nat → Nd) : Nat → Nat → List UInt8
  | 0, _ => []
  | f + 1, k => ownS (L k) ++ (if (L k).kind = 5 then escR (L k).text else if (L k).kind = 6 then [] else 91 :: (kjI (formF L f) (L k).kids (L k).kids.length ++ [93]))
def ownN (L : Nat → Nd) (j : Nat) : Nat := (ownS (L j)).length + (escR (L j).text).length + 3
def sumN (o : Nat → Nat) : List Nat → Nat
  | [] => 0
  | j :: l => o j + sumN o l
theorem sumN_app (o : Nat → Nat) : ∀ a b : List Nat, sumN o (a ++ b) = sumN o a + sumN o b
  | [], b => by simp [sumN]
  | j :: a, b => by show o j + sumN o (a ++ b) = o j + sumN o a + sumN o b; rw [sumN_app o a b]; omega
theorem sumN_le (o : Nat → Nat) (m : Nat) : ∀ l : List Nat, (∀ j ∈ l, o j ≤ m) → sumN o l ≤ l.length * m
  | [], _ => by simp [sumN]
  | j :: l, h => by
    have h1 := h j (List.mem_cons_self ..)
    have h2 := sumN_le o m l (fun x hx => h x (List.mem_cons_of_mem _ hx))
    show o j + sumN o l ≤ (l.length + 1) * m
    rw [Nat.add_mul, Nat.one_mul]
    omega
/-- It is no longer than the own parts of all that it tells of. -/
theorem form_len {n : Nat} {up : Nat → Int} (L : Nat → Nd) (h : Nest n (fun j => (L j).kids) up) : ∀ (f k : Nat), k < n → n - k ≤ f → (formF L f k).length + 1 ≤ sumN (ownN L) (vis (fun j => (L j).kids) f k)
  | 0, k, hk, hf => by omega
  | f + 1, k, hk, hf => by
    have key : ∀ i, i ≤ (L k).kids.length → (kjI (formF L f) (L k).kids i).length ≤ sumN (ownN L) (((L k).kids.take i).flatMap (vis (fun j => (L j).kids) f)) := by
      intro i
      induction i with
      | zero => intro _; simp [kjI]
      | succ i ih =>
        intro hi
        have h1 := ih (by omega)
        have hl : i < (L k).kids.length := by omega
        rw [List.take_succ_eq_append_getElem hl, List.flatMap_append, sumN_app]
        have e : ((L k).kids[i]?.getD 0) = (L k).kids[i] := by rw [List.getElem?_eq_getElem hl]; rfl
        obtain ⟨c1, c2, _⟩ := h.kid k ((L k).kids[i]) hk (List.getElem_mem hl)
        have h2 := form_len L h f ((L k).kids[i]) c2 (by omega)
        have e2 : [(L k).kids[i]].flatMap (vis (fun j => (L j).kids) f) = vis (fun j => (L j).kids) f ((L k).kids[i]) := by rw [List.flatMap_cons, List.flatMap_nil, List.append_nil]
        rw [e2]
        show (kjI (formF L f) (L k).kids i ++ ((if i = 0 then [] else [44]) ++ formF L f ((L k).kids[i]?.getD 0))).length ≤ _
        rw [e, List.length_append, List.length_append]
        have h3 : (if i = 0 then ([] : List UInt8) else [44]).length ≤ 1 := by split <;> simp
        omega
    have hk2 := key (L k).kids.length (Nat.le_refl _)
    rw [List.take_length] at hk2
    show (ownS (L k) ++ (if (L k).kind = 5 then escR (L k).text else if (L k).kind = 6 then [] else 91 :: (kjI (formF L f) (L k).kids (L k).kids.length ++ [93]))).length + 1 ≤ ownN L k + sumN (ownN L) ((L k).kids.flatMap (vis (fun j => (L j).kids) f))
    unfold ownN at *
    rw [List.length_append]
    by_cases c5 : (L k).kind = 5
    · rw [if_pos c5]; omega
    · rw [if_neg c5]
      by_cases c6 : (L k).kind = 6
      · rw [if_pos c6, List.length_nil]; omega
      · rw [if_neg c6, List.length_cons, List.length_append]
        simp only [List.length_cons, List.length_nil]
        omega
/-- So it is short. -/
theorem form_short {n m : Nat} {up : Nat → Int} (L : Nat → Nd) (h : Nest n (fun j => (L j).kids) up) (hm : ∀ j, j < n → ownN L j ≤ m) (f k : Nat) (hk : k < n) (hf : n - k ≤ f) : (formF L f k).length ≤ n * m := by
  have h1 := form_len L h f k hk hf
  have h2 := sumN_le (ownN L) m _ (fun j hj => hm j (vis_in h f k hk j hj).2.1)
  have h3 := Nat.mul_le_mul_right m (vis_len h f k hk)
  omega

end Go.Proofs.YtnkebfmlaliddaaGreatDoor
