/-
  The walks of flow.firstLine and flow.lineOf.
-/
import Derived.Test.YtbjfckhijjjnkabDoorFText
import Derived.Test.YtbjfckhijjjnkabDoorFFit
import Derived.Test.YtbjfckhijjjnkabDoorFShelf
namespace Go.Proofs.YtbjfckhijjjnkabDoor
open Go.RowKit
set_option linter.unusedVariables false

/-- Clusters in memory; the slice has room for them. -/
def ClsC (w : World) (v : Value) (l : List (List UInt8 × Int)) : Prop :=
  ∃ a cap, v = .slice a l.length cap ∧ l.length ≤ cap ∧ cap ≤ maxLen ∧ (l = [] ∨ ∃ b off, a = some ⟨b, off, none⟩ ∧ b < w.heap.size ∧ ∀ j (hj : j < l.length), w.cell? ⟨b, off + j * 2, none⟩ = some (.string ⟨(l[j]).1.toArray⟩) ∧ w.cell? ⟨b, off + j * 2 + 1, none⟩ = some (.int .i64 (l[j]).2))
theorem ClsC.cls {w : World} {v : Value} {l : List (List UInt8 × Int)} (h : ClsC w v l) : Cls w v l := by
  obtain ⟨a, cap, rfl, _, _, hh⟩ := h
  exact ⟨a, cap, rfl, hh⟩
theorem ClsC.below {w w' : World} {v : Value} {l : List (List UInt8 × Int)} (h : ClsC w v l) (hb : Below w.heap.size w w') : ClsC w' v l := by
  obtain ⟨a, cap, rfl, h1, h2, hh⟩ := h
  obtain ⟨a', cap', e, hh'⟩ := (Cls.below ⟨a, cap, rfl, hh⟩ hb : Cls w' (.slice a l.length cap) l)
  cases e
  exact ⟨a, cap, rfl, h1, h2, hh'⟩
theorem ClsO.clsC {B : Nat} {w : World} {v : Value} {l : List (List UInt8 × Int)} (h : ClsO B w v l) : ClsC w v l := by
  obtain ⟨a, cap, rfl, h1, h2, hh⟩ := h
  refine ⟨a, cap, rfl, h1, h2, hh.imp id ?_⟩
  rintro ⟨b, off, rfl, _, hb, hc⟩
  exact ⟨b, off, rfl, hb, fun j hj => ⟨(hc j hj).1, (hc j hj).2.1⟩⟩
/-- The first n of them. -/
theorem cls_take {w : World} {b off cap n : Nat} {l : List (List UInt8 × Int)} (hb : b < w.heap.size) (hc : ∀ j (hj : j < l.length), w.cell? ⟨b, off + j * 2, none⟩ = some (.string ⟨(l[j]).1.toArray⟩) ∧ w.cell? ⟨b, off + j * 2 + 1, none⟩ = some (.int .i64 (l[j]).2)) (hn : n ≤ l.length) :
    Cls w (.slice (some ⟨b, off, none⟩) n cap) (l.take n) := by
  refine ⟨_, cap, by rw [List.length_take, Nat.min_eq_left hn], .inr ⟨b, off, rfl, hb, fun j hj => ?_⟩⟩
  rw [List.length_take] at hj
  have := hc j (by omega)
  rw [List.getElem_take]
  exact this

theorem lastB_take (l : List (List UInt8 × Int)) (n : Nat) (hn : n ≤ l.length) : ∀ k, k ≤ n → lastB (l.take n) k = lastB l k
  | 0, _ => rfl
  | k + 1, h => by
    have e : tx (l.take n) k = tx l k := by simp [tx, show k < n by omega]
    simp only [lastB, e, lastB_take l n hn k (by omega)]

set_option maxRecDepth 100000 in
set_option maxHeartbeats 4000000 in
theorem firstLine_any (l : List (List UInt8 × Int)) (v : Value) (W : Int) (w : World) (hcl : ClsC w v l) (hbd : ∀ c ∈ l, 0 ≤ c.2 ∧ c.2 ≤ 2) (hlen : l.length ≤ 1099511627776) (hW0 : 1 ≤ W) (hW1 : W ≤ 9223372036854775807) :
    Calls Tryd.prog 41 #[v, .int .i64 W] w fun e w' => e = .returned (.tuple #[.int .i64 (firstL l W).n, .int .i64 (firstL l W).d, .int .i64 (firstL l W).e]) ∧ Below w.heap.size w w' := by
  have HF : Hid (Calls Tryd.prog 30 #[v, .int .i64 W] w fun e w' => e = .returned (.int .i64 (fitN l W)) ∧ Below w.heap.size w w') := fitting_any l v W w hcl.cls hbd hlen (by omega) hW1
  have hle := fitN_le l W
  obtain ⟨n, hn⟩ : ∃ n, fitN l W = n := ⟨_, rfl⟩
  have HL : Hid (firstL l W = if n = l.length then ⟨n, 0, 3⟩
    else if tx l n = [10] then ⟨n, 1, 2⟩
    else if n = 0 then ⟨1, 0, 1⟩
    else if tx l n = [32] then ⟨n, 1, 0⟩
    else if 0 ≤ lastB l n then ⟨(lastB l n).toNat, 1, 0⟩
    else ⟨n, 0, 1⟩) := by show _ = _; unfold firstL; rw [hn]
  rw [hn] at HF hle
  clear hn hbd
  have HCL : Hid (ClsC w v l) := hcl
  obtain ⟨a, cap, rfl, hcap, hmax, hh⟩ := hcl
  go_enter Tryd.func41, Tryd.ntmps41
  go_wp2_with fail
  refine HF.out.mono ?_
  rintro e w1 ⟨rfl, b1⟩
  clear HF
  by_cases h1 : n = l.length
  · have HE : Hid (firstL l W = ⟨n, 0, 3⟩) := by show _ = _; rw [HL.out, if_pos h1]
    clear hh
    subst h1
    go_wp2
    go_ret3
    rw [HE.out]
    exact ⟨rfl, b1⟩
  have hlt : n < l.length := by omega
  have hne : l ≠ [] := fun e => by rw [e] at hlt; simp at hlt
  obtain ⟨b, off, rfl, hb, hc⟩ := hh.resolve_left hne
  have hb' : b < w1.heap.size := Nat.lt_of_lt_of_le hb b1.size
  have hc1 : Hid (∀ j (hj : j < l.length), w1.cell? ⟨b, off + j * 2, none⟩ = some (.string ⟨(l[j]).1.toArray⟩) ∧ w1.cell? ⟨b, off + j * 2 + 1, none⟩ = some (.int .i64 (l[j]).2)) :=
    fun j hj => ⟨(b1.cell (p := ⟨b, off + j * 2, none⟩) hb).trans (hc j hj).1, (b1.cell (p := ⟨b, off + j * 2 + 1, none⟩) hb).trans (hc j hj).2⟩
  have HT : Hid (Cls w1 (.slice (some ⟨b, off, none⟩) n cap) (l.take n)) := cls_take hb' hc1.out (by omega)
  obtain ⟨T, V, hTV⟩ : ∃ T V, l[n] = (T, V) := ⟨_, _, rfl⟩
  have c0 : w1.cell? ⟨b, off + n * 2, none⟩ = some (.string ⟨T.toArray⟩) := by have := (hc1.out n hlt).1; rw [hTV] at this; exact this
  have HX : Hid (tx l n = T) := by show _ = _; rw [tx_at hlt, hTV]
  have h1' : (n : Int) < (l.length : Int) := by omega
  clear hh hc hTV hne
  by_cases h10 : T = [10]
  · have HE : Hid (firstL l W = ⟨n, 1, 2⟩) := by show _ = _; rw [HL.out, if_neg h1, if_pos (by rw [HX.out, h10])]
    have h10' : (T == [10]) = true := by rw [h10]; rfl
    go_wp2
    go_ret3
    rw [HE.out]
    exact ⟨rfl, b1⟩
  have h10' : (T == [10]) = false := by simpa using h10
  by_cases h0 : n = 0
  · have HE : Hid (firstL l W = ⟨1, 0, 1⟩) := by show _ = _; rw [HL.out, if_neg h1, if_neg (by rw [HX.out]; exact h10), if_pos h0]
    subst h0
    have c0' : w1.cell? ⟨b, off, none⟩ = some (.string ⟨T.toArray⟩) := by simpa using c0
    clear c0
    go_wp2
    go_ret3
    rw [HE.out]
    exact ⟨rfl, b1⟩
  by_cases h32 : T = [32]
  · have HE : Hid (firstL l W = ⟨n, 1, 0⟩) := by show _ = _; rw [HL.out, if_neg h1, if_neg (by rw [HX.out]; exact h10), if_neg h0, if_pos (by rw [HX.out, h32])]
    have h32' : (T == [32]) = true := by rw [h32]; rfl
    have h0' : ¬ (n : Int) = 0 := by omega
    go_wp2
    go_ret3
    rw [HE.out]
    exact ⟨rfl, b1⟩
  have h32' : (T == [32]) = false := by simpa using h32
  have h0' : ¬ (n : Int) = 0 := by omega
  have HB := lastBlank_any (l.take n) _ w1 HT.out (by rw [List.length_take]; omega)
  have hbn := lastB_lt l n
  rw [List.length_take, Nat.min_eq_left hle, lastB_take l n hle n (Nat.le_refl _)] at HB
  have HB' : Hid (Calls Tryd.prog 53 #[.slice (some ⟨b, off, none⟩) n cap] w1 fun e w' => e = .returned (.int .i64 (lastB l n)) ∧ Below w1.heap.size w1 w') := HB
  obtain ⟨m, hm⟩ : ∃ m, lastB l n = m := ⟨_, rfl⟩
  have HM : Hid (lastB l n = m) := hm
  rw [hm] at HB' hbn
  clear HB hm
  go_wp2_with fail
  refine HB'.out.mono ?_
  rintro e w2 ⟨rfl, b2⟩
  have hB : Below w.heap.size w w2 := b1.trans (b2.mono b1.size)
  clear HB' HT hc1 HCL
  by_cases hm0 : 0 ≤ m
  · have HE : Hid (firstL l W = ⟨m.toNat, 1, 0⟩) := by show _ = _; rw [HL.out, if_neg h1, if_neg (by rw [HX.out]; exact h10), if_neg h0, if_neg (by rw [HX.out]; exact h32), HM.out, if_pos hm0]
    have hmm : ((m.toNat : Nat) : Int) = m := by omega
    have HMM : Hid (((m.toNat : Nat) : Int) = m) := hmm
    clear hmm
    go_wp2
    go_ret3
    rw [HE.out]
    simp only [HMM.out]
    exact ⟨rfl, hB⟩
  · have HE : Hid (firstL l W = ⟨n, 0, 1⟩) := by show _ = _; rw [HL.out, if_neg h1, if_neg (by rw [HX.out]; exact h10), if_neg h0, if_neg (by rw [HX.out]; exact h32), HM.out, if_neg hm0]
    have hm0' : m < 0 := by omega
    go_wp2
    go_ret3
    rw [HE.out]
    exact ⟨rfl, hB⟩

theorem row5 {w : World} {B : Nat} {t : TypeId} {a0 a1 a2 a3 a4 b0 b1 b2 b3 b4 : Value} (h : w.heap[B]? = some (.cells #[a0, a1, a2, a3, a4] t (0, 0))) :
    (((((w.setCell ⟨B, 0, none⟩ b0).setCell ⟨B, 1, none⟩ b1).setCell ⟨B, 2, none⟩ b2).setCell ⟨B, 3, none⟩ b3).setCell ⟨B, 4, none⟩ b4).heap[B]? = some (.cells #[b0, b1, b2, b3, b4] t (0, 0)) := by
  rw [heap_setCell_same _ _ _ _ _ _ (heap_setCell_same _ _ _ _ _ _ (heap_setCell_same _ _ _ _ _ _ (heap_setCell_same _ _ _ _ _ _ (heap_setCell_same _ _ _ _ _ _ h))))]
  rfl

/-- A line's value. -/
def lineV (T : List UInt8) (W : Int) (F N E : Int) : Value := .agg #[.string ⟨T.toArray⟩, .int .i64 W, .int .i64 F, .int .i64 N, .int .i64 E]

def lineO (l : List (List UInt8 × Int)) (W : Int) : Value := if W < wideSum l then lineV (List.replicate W.toNat 32) W 0 1 0 else lineV (joined l) (wideSum l) 0 l.length 0

set_option maxRecDepth 100000 in
set_option maxHeartbeats 4000000 in
theorem lineOf_any (l : List (List UInt8 × Int)) (v : Value) (W : Int) (w : World) (hcl : Cls w v l) (hbd : ∀ c ∈ l, 0 ≤ c.2 ∧ c.2 ≤ 2) (hlen : l.length ≤ 1099511627776) (hj : (joined l).length ≤ 70368744177664) (hW0 : 1 ≤ W) (hW1 : W < wideSum l → W ≤ 1099511627776) :
    Calls Tryd.prog 42 #[v, .int .i64 W] w fun e w' => e = .returned (lineO l W) ∧ Below w.heap.size w w' := by
  have HBD : Hid (∀ c ∈ l, 0 ≤ c.2 ∧ c.2 ≤ 2) := hbd
  have hall := wideSum_bd l hbd l.length
  rw [List.take_length] at hall
  have HCL : Hid (Cls w v l) := hcl
  obtain ⟨a, cap, rfl, hh⟩ := hcl
  clear hbd
  go_enter Tryd.func42, Tryd.ntmps42
  go_wp2
  go_loopw [5, 10] (fun t i wr => ∃ k : Nat, k ≤ l.length ∧ i = .int .i64 k ∧ t = .int .i64 (wideSum (l.take k)) ∧ Below w.heap.size w wr ∧ w.heap.size < wr.heap.size ∧ wr.heap[w.heap.size]? = some (.cells #[.string ⟨#[]⟩, .int .i64 0, .int .i64 0, .int .i64 0, .int .i64 0] 33)) (fun _ i _ => l.length - (intOf i).toNat)
  case atStart => exact ⟨0, Nat.zero_le _, rfl, rfl, (Below.refl _ _).alloc (Nat.le_refl _) _, by simp, heap_alloc_new _ _⟩
  case round =>
    obtain ⟨k, hk, rfl, rfl, hbw, hsw, hrow⟩ := hrel
    have hwb := wideSum_bd l HBD.out k
    have hsz := hbw.size
    by_cases hlt : k < l.length
    · have hlt' : (k : Int) < (l.length : Int) := by omega
      have hne : l ≠ [] := fun e => by rw [e] at hlt; simp at hlt
      obtain ⟨b, off, rfl, hb, hc⟩ := hh.resolve_left hne
      obtain ⟨T, V, hTV⟩ : ∃ T V, l[k] = (T, V) := ⟨_, _, rfl⟩
      have hV := HBD.out l[k] (List.getElem_mem hlt)
      have c0 : wr.cell? ⟨b, off + k * 2, none⟩ = some (.string ⟨T.toArray⟩) := by
        have := (hc k hlt).1; rw [hTV] at this; exact (hbw.cell (p := ⟨b, off + k * 2, none⟩) hb).trans this
      have c1 : wr.cell? ⟨b, off + k * 2 + 1, none⟩ = some (.int .i64 V) := by
        have := (hc k hlt).2; rw [hTV] at this; exact (hbw.cell (p := ⟨b, off + k * 2 + 1, none⟩) hb).trans this
      have HS : Hid (wideSum (l.take (k + 1)) = wideSum (l.take k) + V) := by show _ = _; rw [wideSum_snoc l k hlt, hTV]
      rw [hTV] at hV
      obtain ⟨X, hX⟩ : ∃ X, wideSum (l.take k) = X := ⟨_, rfl⟩
      rw [hX] at HS hwb
      rw [hX]
      simp only at hV
      have HROW : Hid (wr.heap[w.heap.size]? = some (.cells #[.string ⟨#[]⟩, .int .i64 0, .int .i64 0, .int .i64 0, .int .i64 0] 33)) := hrow
      clear hh hc hTV hX hne hrow
      go_wp2
      go_roundw
      case rel => exact ⟨k + 1, by omega, by go_num, by rw [HS.out], hbw.alloc hsz _, by simp; omega, (((Below.refl wr.heap.size wr).alloc (Nat.le_refl _) _).block w.heap.size hsw).trans HROW.out⟩
      case measure => simp [intOf]; omega
    · have hlt' : ¬ (k : Int) < (l.length : Int) := by omega
      have e : l.take k = l := List.take_of_length_le (by omega)
      rw [e] at hwb ⊢
      have HROW : Hid (wr.heap[w.heap.size]? = some (.cells #[.string ⟨#[]⟩, .int .i64 0, .int .i64 0, .int .i64 0, .int .i64 0] 33)) := hrow
      have HCL2 : Hid (Cls wr (.slice a l.length cap) l) := HCL.out.below hbw
      have HJ : Hid (Calls Tryd.prog 31 #[.slice a l.length cap] wr fun e w' => e = .returned (.string ⟨(joined l).toArray⟩) ∧ Below wr.heap.size wr w') := textOf_any l _ wr HCL2.out hlen hj
      obtain ⟨X, hX⟩ : ∃ X, wideSum l = X := ⟨_, rfl⟩
      have HXE : Hid (wideSum l = X) := hX
      rw [hX] at hwb hall hW1 ⊢
      obtain ⟨J, hJ⟩ : ∃ J, joined l = J := ⟨_, rfl⟩
      have HJE : Hid (joined l = J) := hJ
      rw [hJ] at HJ
      clear e hh hrow hX hJ hj
      by_cases hgt : W < X
      · obtain ⟨c, hc⟩ : ∃ c : Nat, W = c := ⟨W.toNat, by omega⟩
        have hW2 := hW1 hgt
        subst hc
        have HR : Hid (Calls Tryd.prog 25 #[.string ⟨#[32]⟩, .int .i64 c] wr fun e w' => e = .returned (.string ⟨(List.replicate c 32).toArray⟩) ∧ Below wr.heap.size wr w') := blank_any c wr (by omega)
        obtain ⟨Y, hY⟩ : ∃ Y, List.replicate c (32 : UInt8) = Y := ⟨_, rfl⟩
        have HY : Hid (List.replicate c (32 : UInt8) = Y) := hY
        rw [hY] at HR
        clear hY hW1
        go_wp2_with fail
        refine HR.out.mono ?_
        rintro e w2 ⟨rfl, b2⟩
        have hs2 := b2.size
        have hr2 := (b2.block w.heap.size hsw).trans HROW.out
        have hlt2 : w.heap.size < w2.heap.size := by omega
        have q0 : w2.cell? ⟨w.heap.size, 0, none⟩ = some (.string ⟨#[]⟩) := by simp [World.cell?, hr2]
        have q1 : w2.cell? ⟨w.heap.size, 1, none⟩ = some (.int .i64 0) := by simp [World.cell?, hr2]
        have q2 : w2.cell? ⟨w.heap.size, 2, none⟩ = some (.int .i64 0) := by simp [World.cell?, hr2]
        have q3 : w2.cell? ⟨w.heap.size, 3, none⟩ = some (.int .i64 0) := by simp [World.cell?, hr2]
        have q4 : w2.cell? ⟨w.heap.size, 4, none⟩ = some (.int .i64 0) := by simp [World.cell?, hr2]
        have fr : ∀ j, w2.frozen? ⟨w.heap.size, j, none⟩ = false := fun j => frozen_of_row _ _ _ _ _ hr2
        have HR2 : Hid (w2.heap[w.heap.size]? = some (.cells #[.string ⟨#[]⟩, .int .i64 0, .int .i64 0, .int .i64 0, .int .i64 0] 33)) := hr2
        clear hr2 HR HJ HCL2 HCL HROW
        go_wp2
        try simp only [Exit.inBlock, Exit.then]
        refine bodyPost_ret (results_cell_row rfl _ _ w.heap.size _ _ _ _ rfl (row5 HR2.out) Tryd.underlying33 rfl (by kernel_rfl)) rfl ?_
        rw [lineO, HXE.out, if_pos hgt]
        refine ⟨?_, ?_⟩
        · rw [show ((c : Int)).toNat = c from rfl, HY.out]; rfl
        · have hB2 : Below w.heap.size w w2 := hbw.trans (b2.mono hsz)
          exact ((((hB2.setCell (p := ⟨w.heap.size, 0, none⟩) (Nat.le_refl _) _).setCell (p := ⟨w.heap.size, 1, none⟩) (Nat.le_refl _) _).setCell (p := ⟨w.heap.size, 2, none⟩) (Nat.le_refl _) _).setCell (p := ⟨w.heap.size, 3, none⟩) (Nat.le_refl _) _).setCell (p := ⟨w.heap.size, 4, none⟩) (Nat.le_refl _) _
      · go_wp2_with fail
        refine HJ.out.mono ?_
        rintro e w2 ⟨rfl, b2⟩
        have hs2 := b2.size
        have hr2 := (b2.block w.heap.size hsw).trans HROW.out
        have hlt2 : w.heap.size < w2.heap.size := by omega
        have q0 : w2.cell? ⟨w.heap.size, 0, none⟩ = some (.string ⟨#[]⟩) := by simp [World.cell?, hr2]
        have q1 : w2.cell? ⟨w.heap.size, 1, none⟩ = some (.int .i64 0) := by simp [World.cell?, hr2]
        have q2 : w2.cell? ⟨w.heap.size, 2, none⟩ = some (.int .i64 0) := by simp [World.cell?, hr2]
        have q3 : w2.cell? ⟨w.heap.size, 3, none⟩ = some (.int .i64 0) := by simp [World.cell?, hr2]
        have q4 : w2.cell? ⟨w.heap.size, 4, none⟩ = some (.int .i64 0) := by simp [World.cell?, hr2]
        have fr : ∀ j, w2.frozen? ⟨w.heap.size, j, none⟩ = false := fun j => frozen_of_row _ _ _ _ _ hr2
        have HR2 : Hid (w2.heap[w.heap.size]? = some (.cells #[.string ⟨#[]⟩, .int .i64 0, .int .i64 0, .int .i64 0, .int .i64 0] 33)) := hr2
        clear hr2 HJ HCL2 HCL HROW
        go_wp2
        try simp only [Exit.inBlock, Exit.then]
        refine bodyPost_ret (results_cell_row rfl _ _ w.heap.size _ _ _ _ rfl (row5 HR2.out) Tryd.underlying33 rfl (by kernel_rfl)) rfl ?_
        rw [lineO, HXE.out, HJE.out, if_neg (by omega)]
        refine ⟨rfl, ?_⟩
        have hB2 : Below w.heap.size w w2 := hbw.trans (b2.mono hsz)
        exact ((((hB2.setCell (p := ⟨w.heap.size, 0, none⟩) (Nat.le_refl _) _).setCell (p := ⟨w.heap.size, 1, none⟩) (Nat.le_refl _) _).setCell (p := ⟨w.heap.size, 2, none⟩) (Nat.le_refl _) _).setCell (p := ⟨w.heap.size, 3, none⟩) (Nat.le_refl _) _).setCell (p := ⟨w.heap.size, 4, none⟩) (Nat.le_refl _) _

end Go.Proofs.YtbjfckhijjjnkabDoor
