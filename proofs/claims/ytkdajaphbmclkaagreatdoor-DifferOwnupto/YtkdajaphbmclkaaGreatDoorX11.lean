/-
  Clusters in memory.
-/
import Derived.Test.YtkdajaphbmclkaaGreatDoorGClus
import Derived.BigQuiet
import Derived.Deep.QuietTactic
import Derived.Test.YtkdajaphbmclkaaGreatDoorX02
import Derived.Test.YtkdajaphbmclkaaGreatDoorX01
import Derived.Test.YtkdajaphbmclkaaGreatDoorX09
namespace Go.Proofs.YtkdajaphbmclkaaGreatDoor
open Go.RowKit
set_option linter.unusedVariables false

/-- A list of clusters in memory. -/
def Cls (w : World) (v : Value) (l : List (List UInt8 × Int)) : Prop :=
  ∃ a cap, v = .slice a l.length cap ∧ (l = [] ∨ ∃ b off, a = some ⟨b, off, none⟩ ∧ b < w.heap.size ∧ ∀ j (hj : j < l.length), w.cell? ⟨b, off + j * 2, none⟩ = some (.string ⟨(l[j]).1.toArray⟩) ∧ w.cell? ⟨b, off + j * 2 + 1, none⟩ = some (.int .i64 (l[j]).2))

theorem Cls.below {w w' : World} {v : Value} {l : List (List UInt8 × Int)} (h : Cls w v l) (hb : Below w.heap.size w w') : Cls w' v l := by
  obtain ⟨a, cap, rfl, hh⟩ := h
  refine ⟨a, cap, rfl, ?_⟩
  rcases hh with rfl | ⟨b, off, rfl, hl, hc⟩
  · exact .inl rfl
  · exact .inr ⟨b, off, rfl, Nat.lt_of_lt_of_le hl hb.size, fun j hj => ⟨(hb.cell (p := ⟨b, off + j * 2, none⟩) hl).trans (hc j hj).1, (hb.cell (p := ⟨b, off + j * 2 + 1, none⟩) hl).trans (hc j hj).2⟩⟩

theorem cCells_length (l : List (List UInt8 × Int)) : (cCells l).length = l.length * 2 := by
  induction l with
  | nil => rfl
  | cons c l ih => simp only [cCells, List.flatMap_cons, List.length_append, List.length_cons, List.length_nil] at *; omega
theorem cCells_at (l : List (List UInt8 × Int)) (j : Nat) (hj : j < l.length) : (cCells l)[j * 2]? = some (.string ⟨(l[j]).1.toArray⟩) ∧ (cCells l)[j * 2 + 1]? = some (.int .i64 (l[j]).2) := by
  induction l generalizing j with
  | nil => simp at hj
  | cons c l ih =>
    have e : cCells (c :: l) = .string ⟨c.1.toArray⟩ :: .int .i64 c.2 :: cCells l := rfl
    cases j with
    | zero => rw [e]; simp
    | succ j =>
      have := ih j (by simpa using hj)
      rw [e, show (j + 1) * 2 = j * 2 + 1 + 1 by omega]
      simpa using this

theorem cls_own {w : World} {B n : Nat} {e : TypeId} {v : Value} {l : List (List UInt8 × Int)} (h : w.ownsRow B e 2 v n (cCells l)) : Cls w v l := by
  have hl : l.length = n := by have := h.1; rw [cCells_length] at this; omega
  rcases h.2 with ⟨rfl, rfl⟩ | ⟨g, cap, cur, rfl, _, hg, _⟩
  · have hz : l = [] := List.length_eq_zero_iff.1 hl
    subst hz
    exact ⟨none, 0, rfl, .inl rfl⟩
  · refine ⟨some ⟨g, 0, none⟩, cap, by rw [hl], .inr ⟨g, 0, rfl, (Array.getElem?_eq_some_iff.1 hg).1, fun j hj => ?_⟩⟩
    have c := cCells_at l j hj
    have a0 := h.cells (g := g) rfl (j * 2) _ c.1
    have a1 := h.cells (g := g) rfl (j * 2 + 1) _ c.2
    have e0 : (⟨g, 0, none⟩ : Addr).add (j * 2) = ⟨g, 0 + j * 2, none⟩ := by unfold Addr.add; split <;> simp_all
    have e1 : (⟨g, 0, none⟩ : Addr).add (j * 2 + 1) = ⟨g, 0 + j * 2 + 1, none⟩ := by unfold Addr.add; split <;> simp_all
    rw [e0] at a0
    rw [e1] at a1
    exact ⟨a0, a1⟩

end Go.Proofs.YtkdajaphbmclkaaGreatDoor

namespace Go.Proofs.YtkdajaphbmclkaaGreatDoor
open Go.RowKit
set_option linter.unusedVariables false

theorem str_append' (a b : List UInt8) : (⟨a.toArray⟩ : ByteArray) ++ (⟨b.toArray⟩ : ByteArray) = ⟨(a ++ b).toArray⟩ := by
  apply ByteArray.ext
  simp
theorem infoRCluster : (Tryz.prog.info? 45).map (fun i => (i.zero, i.size, i.bytes)) = some (some (.agg #[.string ⟨#[]⟩, .int .i64 0]), 2, 24) := by kernel_rfl
theorem enc_snoc1 (l : List Int) (x : Int) : enc (l ++ [x]) = enc l ++ Lib.encodeRune x := by simp [enc]
theorem keep_enc_le (b : Int) (L : List Int) (k : Nat) (h : k ≤ L.length) : (enc (b :: keep L k)).length ≤ 20 := by
  have h1 := enc_le (b :: keep L k)
  have h2 := keep_length L k h
  rw [List.length_cons] at h1
  omega

theorem clus_ten {R : List Int} {pos : Nat} {acc : List (List UInt8 × Int)} (hp : pos < R.length) (h : acc ++ clus (R.drop pos) = clus R) (hr : R[pos] = 10) :
    (acc ++ [([10], 0)]) ++ clus (R.drop (pos + 1)) = clus R := by
  have e : R.drop pos = 10 :: R.drop (pos + 1) := by rw [List.drop_eq_getElem_cons hp, hr]
  have e2 : clus (10 :: R.drop (pos + 1)) = ([10], 0) :: clus (R.drop (pos + 1)) := by
    rw [clus_step (R := 10 :: R.drop (pos + 1)) (by simp)]
    simp [cText, cWide, cNum]
  rw [← h, e, e2]
  simp
theorem clus_mark {R : List Int} {pos k : Nat} {acc : List (List UInt8 × Int)} {r : Int} (hp : pos < R.length) (h : acc ++ clus (R.drop pos) = clus R) (hr : R[pos] = r) (h10 : r ≠ 10) (hm : isMk r = true) (hk : mks (R.drop pos) = (R.drop pos).take k) (hkl : k ≤ (R.drop pos).length) :
    (acc ++ [(enc (32 :: keep (R.drop pos) k), 1)]) ++ clus (R.drop (pos + k)) = clus R := by
  have e : R.drop pos = r :: R.drop (pos + 1) := by rw [List.drop_eq_getElem_cons hp, hr]
  have e1 : cOwn (r :: R.drop (pos + 1)) = 0 := by simp only [cOwn, if_pos hm]
  have e2 : cBase (r :: R.drop (pos + 1)) = 32 := by simp only [cBase, if_pos hm]
  have e3 : cMarks (r :: R.drop (pos + 1)) = (R.drop pos).take k := by unfold cMarks; rw [e1, List.drop_zero, ← e, hk]
  have hne : R.drop pos ≠ [] := by rw [e]; simp
  rw [← h, clus_step hne]
  have c1 : cText (R.drop pos) = enc (32 :: keep (R.drop pos) k) := by
    rw [e]; simp only [cText, if_neg h10, e2, e3]; rw [← e]; rfl
  have c2 : cWide (R.drop pos) = 1 := by rw [e]; simp only [cWide, if_neg h10, e2]; exact wid_blank
  have c3 : cNum (R.drop pos) = k := by
    rw [e]; simp only [cNum, if_neg h10, e1, e3, List.length_take, Nat.zero_add]; omega
  rw [c1, c2, c3, List.drop_drop]
  simp
theorem clus_base {R : List Int} {pos k : Nat} {acc : List (List UInt8 × Int)} {r : Int} (hp : pos < R.length) (h : acc ++ clus (R.drop pos) = clus R) (hr : R[pos] = r) (h10 : r ≠ 10) (hm : isMk r = false) (hk : mks (R.drop (pos + 1)) = (R.drop (pos + 1)).take k) (hkl : k ≤ (R.drop (pos + 1)).length) :
    (acc ++ [(enc (r :: keep (R.drop (pos + 1)) k), wid r)]) ++ clus (R.drop (pos + 1 + k)) = clus R := by
  have hm' : ¬ isMk r = true := by rw [hm]; simp
  have e : R.drop pos = r :: R.drop (pos + 1) := by rw [List.drop_eq_getElem_cons hp, hr]
  have e1 : cOwn (r :: R.drop (pos + 1)) = 1 := by simp only [cOwn, if_neg hm']
  have e2 : cBase (r :: R.drop (pos + 1)) = r := by simp only [cBase, if_neg hm']
  have e3 : cMarks (r :: R.drop (pos + 1)) = (R.drop (pos + 1)).take k := by unfold cMarks; rw [e1]; exact hk
  have hne : R.drop pos ≠ [] := by rw [e]; simp
  rw [← h, clus_step hne]
  have c1 : cText (R.drop pos) = enc (r :: keep (R.drop (pos + 1)) k) := by
    rw [e]; simp only [cText, if_neg h10, e2, e3]; rfl
  have c2 : cWide (R.drop pos) = wid r := by rw [e]; simp only [cWide, if_neg h10, e2]
  have c3 : cNum (R.drop pos) = 1 + k := by
    rw [e]; simp only [cNum, if_neg h10, e1, e3, List.length_take]; omega
  rw [c1, c2, c3, List.drop_drop, Nat.add_assoc]
  simp

theorem mark_pos {R : List Int} {pos k : Nat} {r : Int} (hp : pos < R.length) (hr : R[pos] = r) (hm : isMk r = true) (hk : mks (R.drop pos) = (R.drop pos).take k) : 1 ≤ k := by
  rcases Nat.eq_zero_or_pos k with e | e
  · subst e
    have e : R.drop pos = r :: R.drop (pos + 1) := by rw [List.drop_eq_getElem_cons hp, hr]
    rw [e] at hk
    unfold mks at hk
    rw [List.takeWhile_cons, if_pos hm] at hk
    simp at hk
  · exact e

set_option maxRecDepth 100000 in
set_option maxHeartbeats 8000000 in
set_option maxRecDepth 100000 in
theorem rClusters_any (s : ByteArray) (w : World) (hs : s.size ≤ 1099511627776) :
    Calls Tryz.prog 13 #[.string s] w fun e w' => ∃ v, e = .returned v ∧ w'.ownsRow w.heap.size 45 2 v (clus (runes s.data.toList)).length (cCells (clus (runes s.data.toList))) ∧ Below w.heap.size w w' := by
  obtain ⟨i0, hi, hz0, hz1, hz2⟩ := info_parts infoRCluster
  have hR := runes_length s.data.toList
  rw [len_data] at hR
  go_enter Tryz.func13, Tryz.ntmps13
  go_wp2_with fail
  refine (rDecode_any s _ (by omega)).mono ?_
  rintro e w1 ⟨v1, rfl, o1, b1⟩
  obtain ⟨R, hRe⟩ : ∃ R, runes s.data.toList = R := ⟨_, rfl⟩
  rw [hRe] at o1 hR
  have HRe : Hid (runes s.data.toList = R) := hRe
  obtain ⟨a, cap, rfl, hh⟩ := ints_own' o1
  clear o1 hRe
  have hs1 := b1.size
  go_wp2
  go_loopw [4, 5] (fun v i wr => ∃ (pos : Nat) (acc : List (List UInt8 × Int)), i = .int .i64 pos ∧ pos ≤ R.length ∧ wr.ownsRow w1.heap.size 45 2 v acc.length (cCells acc) ∧ Below w1.heap.size w1 wr ∧ Hid (acc ++ clus (R.drop pos) = clus R) ∧ acc.length ≤ pos) (fun _ i _ => R.length - (intOf i).toNat)
  case atStart => exact ⟨0, [], rfl, Nat.zero_le _, World.ownsRow_nil _ _ _ _, Below.refl _ _, rfl, Nat.le_refl _⟩
  case round =>
    obtain ⟨pos, acc, rfl, hps, hown, hbw, hacc, hal⟩ := hrel
    have hsz := hbw.size
    by_cases hp : pos < R.length
    · have hp' : (pos : Int) < (R.length : Int) := by omega
      have hne : R ≠ [] := fun e => by rw [e] at hp; simp at hp
      obtain ⟨b, off, rfl, hb, hc⟩ := hh.resolve_left hne
      have HC : Hid (∀ (wX : World), Below w1.heap.size w1 wX → ∀ j (hj : j < R.length), wX.cell? ⟨b, off + j, none⟩ = some (.int .i64 R[j])) := by
        intro wX hX j hj
        rw [(hX.cell (p := ⟨b, off + j, none⟩) hb), hc j hj, List.getElem?_eq_getElem hj]; rfl
      obtain ⟨r, hr⟩ : ∃ r, R[pos] = r := ⟨_, rfl⟩
      have hcr : wr.cell? ⟨b, off + pos, none⟩ = some (.int .i64 r) := by have := HC.out wr hbw pos hp; rw [hr] at this; exact this
      have HR : Hid (R[pos] = r) := hr
      clear hh hc hr hne
      by_cases h10 : r = 10
      · have HS : Hid ((acc ++ [([10], 0)]) ++ clus (R.drop (pos + 1)) = clus R) := clus_ten hp hacc.out (by rw [HR.out]; exact h10)
        subst h10
        clear hacc HC HR
        go_wp2_with (at_builtin; refine wpList_append_own _ rfl _ _ 42 rfl w1.heap.size 45 i0 (.agg #[.string ⟨#[]⟩, .int .i64 0]) 2 24 Tryz.underlying42 hi hz0 hz1 hz2 rfl (by decide) _ _ _ rfl (hown.alloc _) _ 1 1 [.string ⟨#[10]⟩, .int .i64 0] rfl rfl ?c1k1 ?c2k1 ?c3k1 ?c4k1 ?c5k1 ?_)
        try case c1k1 => exact cell_two_new _ _ _ _
        case c2k1 => first | (intro u hu; simp at hu; rcases hu with rfl | rfl <;> rfl) | rfl | (exact ⟨rfl, rfl⟩) | (rintro u (rfl | rfl) <;> rfl) | (intro u hu; rcases List.mem_cons.1 hu with rfl | hu; rfl; rcases List.mem_cons.1 hu with rfl | hu; rfl; cases hu) | trivial
        case c3k1 => first | (unfold maxLen; omega) | omega
        case c4k1 => omega
        case c5k1 => first | omega | (rw [World.size_alloc]; omega)
        intro v' w9 hown' hg _
        have hrow : ∀ q, Value.ownBlock u4 = some q → w1.heap.size ≤ q := fun q hq => (hown.lt q hq).1
        have hb9 : Below w1.heap.size w1 w9 := (hbw.alloc hsz _).grown hg (by rw [World.size_alloc]; omega) hrow
        clear hg hrow hown hbw
        go_wp2
        go_roundw
        case rel =>
          refine ⟨pos + 1, acc ++ [([10], 0)], by go_num, by omega, ?_, hb9, HS.out, by simp; omega⟩
          rw [List.length_append, cCells_append]; exact hown'
        case measure => simp [intOf]; omega
      · have h10' : (r == 10) = false := by simp [h10]
        have H10 : Hid (r ≠ 10) := h10
        clear h10
        by_cases hm : wid r = 0
        · have HM : Hid (isMk r = true) := (isMk_iff r).2 ⟨H10.out, hm⟩
          have HWd : Hid (∀ w, Calls Tryz.prog 25 #[.int .i64 r] w fun e w' => e = .returned (.int .i64 0) ∧ Below w.heap.size w w') := by
            intro w; have := rWidth_any r w; rw [hm] at this; exact this
          clear hm
          go_wp2_with fail
          refine (HWd.out _).mono ?_
          rintro e w2 ⟨rfl, b2⟩
          have hown2 := own_below2 hown b2
          have hB2 : Below w1.heap.size w1 w2 := hbw.trans (b2.mono hsz)
          have hcr2 : w2.cell? ⟨b, off + pos, none⟩ = some (.int .i64 r) := by have := HC.out w2 hB2 pos hp; rw [HR.out] at this; exact this
          clear b2 hown hbw hcr
          go_wp2_with fail
          refine (written_any _ _).mono ?_
          rintro e w3 ⟨rfl, b3⟩
          have hs12 := hB2.size
          have hown3 := own_below2 hown2 b3
          have hB3 : Below w1.heap.size w1 w3 := hB2.trans (b3.mono hs12)
          have hs13 := hB3.size
          clear b3 hown2 hB2 hcr2
          obtain ⟨L, hL⟩ : ∃ L, R.drop (pos) = L := ⟨_, rfl⟩
          have hL1 : L.length + (pos) ≤ R.length := by rw [← hL, List.length_drop]; omega
          have hL2 : R.length ≤ L.length + (pos) := by rw [← hL, List.length_drop]; omega
          have HL : Hid (R.drop (pos) = L) := hL
          have HLk : Hid (∀ k (hk : k < L.length) (hk2 : pos + k < R.length), R[pos + k] = L[k]) := by
            intro k hk hk2
            have e : L[k]? = R[pos + k]? := by rw [← HL.out, List.getElem?_drop]
            rw [List.getElem?_eq_getElem hk, List.getElem?_eq_getElem hk2] at e
            exact (Option.some.inj e).symm
          clear hL
          skip
          go_wp2
          go_loopw [5, 7, 8] (fun q tx m wr => ∃ k : Nat, k ≤ L.length ∧ q = .int .i64 (((pos + k : Nat) : Int) - 1) ∧ m = .int .i64 k ∧ tx = .string ⟨(enc (32 :: keep L k)).toArray⟩ ∧ Below w3.heap.size w3 wr ∧ Hid (∀ j (hj : j < L.length), j < k → isMk (L[j]) = true)) (fun _ _ m _ => L.length - (intOf m).toNat)
          case atStart => exact ⟨0, Nat.zero_le _, by simp, rfl, rfl, Below.refl _ _, fun j hj h => by omega⟩
          case round =>
            obtain ⟨k, hk, rfl, rfl, rfl, hbw, hmk⟩ := hrel
            have hszr := hbw.size
            have hB4 : Below w1.heap.size w1 wr := hB3.trans (hbw.mono hs13)
            have hel := keep_enc_le 32 L k hk
            by_cases hlt : k < L.length
            · have hlt' : ((pos + k : Nat) : Int) < (R.length : Int) := by omega
              obtain ⟨x, hx⟩ : ∃ x, L[k] = x := ⟨_, rfl⟩
              have HX : Hid (L[k] = x) := hx
              have HCX : Hid (∀ (wX : World), Below w1.heap.size w1 wX → wX.cell? ⟨b, off + (pos + k), none⟩ = some (.int .i64 x)) := by
                intro wX hX
                have := HC.out wX hX (pos + k) (by omega)
                rw [HLk.out k hlt (by omega), HX.out] at this; exact this
              have hcx := HCX.out wr hB4
              clear hx
              by_cases hx10 : x = 10
              · have HMK : Hid (mks L = L.take k) := takeWhile_stop isMk _ k hk hmk.out (fun hj => by rw [HX.out, isMk_false, hx10]; simp)
                have hk1 : 1 ≤ k := mark_pos hp HR.out HM.out (by rw [HL.out]; exact HMK.out); have HS : Hid ((acc ++ [(enc (32 :: keep L k), 1)]) ++ clus (R.drop (pos + k)) = clus R) := by
                  have := clus_mark (k := k) hp hacc.out HR.out H10.out HM.out (by rw [HL.out]; exact HMK.out) (by rw [HL.out]; exact hk)
                  rw [HL.out] at this; exact this
                have hown4 := own_below2 hown3 hbw
                have hx10' : (x != 10) = false := by rw [hx10]; rfl
                obtain ⟨TX, hTX⟩ : ∃ TX, enc (32 :: keep L k) = TX := ⟨_, rfl⟩
                rw [hTX] at HS
                rw [hTX]
                clear hx10 hmk HX hTX hown3 hB3 hel hbw
                go_wp2_with (at_builtin; refine wpList_append_own _ rfl _ _ 42 rfl w1.heap.size 45 i0 (.agg #[.string ⟨#[]⟩, .int .i64 0]) 2 24 Tryz.underlying42 hi hz0 hz1 hz2 rfl (by decide) _ _ _ rfl (hown4.alloc _) _ 1 1 [.string ⟨TX.toArray⟩, .int .i64 1] rfl rfl ?c1k2 ?c2k2 ?c3k2 ?c4k2 ?c5k2 ?_)
                try case c1k2 => exact cell_two_new _ _ _ _
                case c2k2 => first | (intro u hu; simp at hu; rcases hu with rfl | rfl <;> rfl) | rfl | (exact ⟨rfl, rfl⟩) | (rintro u (rfl | rfl) <;> rfl) | (intro u hu; rcases List.mem_cons.1 hu with rfl | hu; rfl; rcases List.mem_cons.1 hu with rfl | hu; rfl; cases hu) | trivial
                case c3k2 => first | (unfold maxLen; omega) | omega
                case c4k2 => omega
                case c5k2 => first | omega | (rw [World.size_alloc]; omega)
                intro v' w9 hown' hg _
                have hrow : ∀ q, Value.ownBlock u4 = some q → w1.heap.size ≤ q := fun q hq => (hown4.lt q hq).1
                have hb9 : Below w1.heap.size w1 w9 := (hB4.alloc (by omega) _).grown hg (by rw [World.size_alloc]; omega) hrow
                clear hg hrow hown4 hB4
                go_wp2
                go_roundw
                case rel =>
                  refine ⟨pos + k, acc ++ [(TX, 1)], by go_num, by omega, ?_, hb9, HS.out, by simp; omega⟩
                  rw [List.length_append, cCells_append]; exact hown'
                case measure => simp [intOf]; omega
              · have hx10' : (x != 10) = true := by simp [hx10]
                have HX10 : Hid (x ≠ 10) := hx10
                clear hx10
                by_cases hxw : wid x = 0
                · have HXM : Hid (isMk x = true) := (isMk_iff x).2 ⟨HX10.out, hxw⟩
                  have hmk' : Hid (∀ j (hj : j < L.length), j < k + 1 → isMk (L[j]) = true) := by
                    intro j hj h
                    by_cases ej : j = k
                    · subst ej; rw [HX.out]; exact HXM.out
                    · exact hmk.out j hj (by omega)
                  have HXW : Hid (∀ w, Calls Tryz.prog 25 #[.int .i64 x] w fun e w' => e = .returned (.int .i64 0) ∧ Below w.heap.size w w') := by
                    intro w; have := rWidth_any x w; rw [hxw] at this; exact this
                  clear hxw hmk
                  go_wp2_with fail
                  refine (HXW.out _).mono ?_
                  rintro e w5 ⟨rfl, b5⟩
                  have hbw5 : Below w3.heap.size w3 w5 := hbw.trans (b5.mono hszr)
                  have hcx5 := HCX.out w5 (hB4.trans (b5.mono (by omega)))
                  have hs35 := hbw5.size
                  clear b5 hbw hB4 hcx
                  by_cases h4 : k < 4
                  · have h4' : ((k + 1 : Nat) : Int) ≤ 4 := by omega
                    have HKA : Hid (enc (32 :: keep L (k + 1)) = enc (32 :: keep L k) ++ Lib.encodeRune x) := by
                      show _ = _; rw [keep_add _ _ hlt h4, HX.out, ← List.cons_append, enc_snoc1]
                    go_wp2_with (go_at_call 26; refine (written_any x _).mono ?_)
                    rintro e w6 ⟨rfl, b6⟩
                    have hl4 := encodeRune_le x
                    have hbw6 : Below w3.heap.size w3 w6 := hbw5.trans (b6.mono hs35)
                    obtain ⟨TX, hTX⟩ : ∃ TX, enc (32 :: keep L k) = TX := ⟨_, rfl⟩
                    obtain ⟨U, hU⟩ : ∃ U, Lib.encodeRune x = U := ⟨_, rfl⟩
                    rw [hTX, hU] at HKA
                    rw [hTX] at hel
                    rw [hU] at hl4
                    rw [hTX, hU]
                    clear b6 hbw5 hcx5 hTX hU
                    go_wp2
                    go_roundw
                    case rel => exact ⟨k + 1, by omega, by go_num, by go_num, by rw [HKA.out, ← str_append'], hbw6, hmk'⟩
                    case measure => simp [intOf]; omega
                  · have h4' : ¬ ((k + 1 : Nat) : Int) ≤ 4 := by omega
                    have HKF : Hid (keep L (k + 1) = keep L k) := keep_full _ _ (by omega)
                    go_wp2
                    go_roundw
                    case rel => exact ⟨k + 1, by omega, by go_num, by go_num, by rw [HKF.out], hbw5, hmk'⟩
                    case measure => simp [intOf]; omega
                · obtain ⟨y, hy⟩ : ∃ y, wid x = y := ⟨_, rfl⟩
                  have hy0 : (y == 0) = false := by rw [← hy]; simp [hxw]
                  have HXW : Hid (∀ w, Calls Tryz.prog 25 #[.int .i64 x] w fun e w' => e = .returned (.int .i64 y) ∧ Below w.heap.size w w') := by
                    intro w; have := rWidth_any x w; rw [hy] at this; exact this
                  have HMK : Hid (mks L = L.take k) := takeWhile_stop isMk _ k hk hmk.out (fun hj => by rw [HX.out, isMk_false]; exact fun h => hxw h.2)
                  have hk1 : 1 ≤ k := mark_pos hp HR.out HM.out (by rw [HL.out]; exact HMK.out); have HS : Hid ((acc ++ [(enc (32 :: keep L k), 1)]) ++ clus (R.drop (pos + k)) = clus R) := by
                    have := clus_mark (k := k) hp hacc.out HR.out H10.out HM.out (by rw [HL.out]; exact HMK.out) (by rw [HL.out]; exact hk)
                    rw [HL.out] at this; exact this
                  have hown4 := own_below2 hown3 hbw
                  obtain ⟨TX, hTX⟩ : ∃ TX, enc (32 :: keep L k) = TX := ⟨_, rfl⟩
                  rw [hTX] at HS
                  rw [hTX]
                  clear hmk HX hTX hown3 hB3 hel hbw hxw hy
                  go_wp2_with fail
                  refine (HXW.out _).mono ?_
                  rintro e w5 ⟨rfl, b5⟩
                  have hown5 := own_below2 hown4 b5
                  have hB5 : Below w1.heap.size w1 w5 := hB4.trans (b5.mono (by omega))
                  have hs15 := hB5.size
                  clear b5 hown4 hB4 hcx
                  go_wp2_with (at_builtin; refine wpList_append_own _ rfl _ _ 42 rfl w1.heap.size 45 i0 (.agg #[.string ⟨#[]⟩, .int .i64 0]) 2 24 Tryz.underlying42 hi hz0 hz1 hz2 rfl (by decide) _ _ _ rfl (hown5.alloc _) _ 1 1 [.string ⟨TX.toArray⟩, .int .i64 1] rfl rfl ?c1k3 ?c2k3 ?c3k3 ?c4k3 ?c5k3 ?_)
                  try case c1k3 => exact cell_two_new _ _ _ _
                  case c2k3 => first | (intro u hu; simp at hu; rcases hu with rfl | rfl <;> rfl) | rfl | (exact ⟨rfl, rfl⟩) | (rintro u (rfl | rfl) <;> rfl) | (intro u hu; rcases List.mem_cons.1 hu with rfl | hu; rfl; rcases List.mem_cons.1 hu with rfl | hu; rfl; cases hu) | trivial
                  case c3k3 => first | (unfold maxLen; omega) | omega
                  case c4k3 => omega
                  case c5k3 => first | omega | (rw [World.size_alloc]; omega)
                  intro v' w9 hown' hg _
                  have hrow : ∀ q, Value.ownBlock u4 = some q → w1.heap.size ≤ q := fun q hq => (hown5.lt q hq).1
                  have hb9 : Below w1.heap.size w1 w9 := (hB5.alloc (by omega) _).grown hg (by rw [World.size_alloc]; omega) hrow
                  clear hg hrow hown5 hB5
                  go_wp2
                  go_roundw
                  case rel =>
                    refine ⟨pos + k, acc ++ [(TX, 1)], by go_num, by omega, ?_, hb9, HS.out, by simp; omega⟩
                    rw [List.length_append, cCells_append]; exact hown'
                  case measure => simp [intOf]; omega
            · have hlt' : ¬ ((pos + k : Nat) : Int) < (R.length : Int) := by omega
              have HMK : Hid (mks L = L.take k) := takeWhile_stop isMk _ k hk hmk.out (fun hj => absurd hj hlt)
              have hk1 : 1 ≤ k := mark_pos hp HR.out HM.out (by rw [HL.out]; exact HMK.out); have HS : Hid ((acc ++ [(enc (32 :: keep L k), 1)]) ++ clus (R.drop (pos + k)) = clus R) := by
                have := clus_mark (k := k) hp hacc.out HR.out H10.out HM.out (by rw [HL.out]; exact HMK.out) (by rw [HL.out]; exact hk)
                rw [HL.out] at this; exact this
              have hown4 := own_below2 hown3 hbw
              obtain ⟨TX, hTX⟩ : ∃ TX, enc (32 :: keep L k) = TX := ⟨_, rfl⟩
              rw [hTX] at HS
              rw [hTX]
              clear hmk hTX hown3 hB3 hel hbw
              go_wp2_with (at_builtin; refine wpList_append_own _ rfl _ _ 42 rfl w1.heap.size 45 i0 (.agg #[.string ⟨#[]⟩, .int .i64 0]) 2 24 Tryz.underlying42 hi hz0 hz1 hz2 rfl (by decide) _ _ _ rfl (hown4.alloc _) _ 1 1 [.string ⟨TX.toArray⟩, .int .i64 1] rfl rfl ?c1k4 ?c2k4 ?c3k4 ?c4k4 ?c5k4 ?_)
              try case c1k4 => exact cell_two_new _ _ _ _
              case c2k4 => first | (intro u hu; simp at hu; rcases hu with rfl | rfl <;> rfl) | rfl | (exact ⟨rfl, rfl⟩) | (rintro u (rfl | rfl) <;> rfl) | (intro u hu; rcases List.mem_cons.1 hu with rfl | hu; rfl; rcases List.mem_cons.1 hu with rfl | hu; rfl; cases hu) | trivial
              case c3k4 => first | (unfold maxLen; omega) | omega
              case c4k4 => omega
              case c5k4 => first | omega | (rw [World.size_alloc]; omega)
              intro v' w9 hown' hg _
              have hrow : ∀ q, Value.ownBlock u4 = some q → w1.heap.size ≤ q := fun q hq => (hown4.lt q hq).1
              have hb9 : Below w1.heap.size w1 w9 := (hB4.alloc (by omega) _).grown hg (by rw [World.size_alloc]; omega) hrow
              clear hg hrow hown4 hB4
              go_wp2
              go_roundw
              case rel =>
                refine ⟨pos + k, acc ++ [(TX, 1)], by go_num, by omega, ?_, hb9, HS.out, by simp; omega⟩
                rw [List.length_append, cCells_append]; exact hown'
              case measure => simp [intOf]; omega
        · have HM : Hid (isMk r = false) := (isMk_false r).2 (fun h => hm h.2)
          obtain ⟨W, hW⟩ : ∃ W, wid r = W := ⟨_, rfl⟩
          have hW0 : (W == 0) = false := by rw [← hW]; simp [hm]
          have HWW : Hid (wid r = W) := hW
          have HWd : Hid (∀ w, Calls Tryz.prog 25 #[.int .i64 r] w fun e w' => e = .returned (.int .i64 W) ∧ Below w.heap.size w w') := by
            intro w; have := rWidth_any r w; rw [hW] at this; exact this
          clear hm hW
          go_wp2_with fail
          refine (HWd.out _).mono ?_
          rintro e w2 ⟨rfl, b2⟩
          have hown2 := own_below2 hown b2
          have hB2 : Below w1.heap.size w1 w2 := hbw.trans (b2.mono hsz)
          have hcr2 : w2.cell? ⟨b, off + pos, none⟩ = some (.int .i64 r) := by have := HC.out w2 hB2 pos hp; rw [HR.out] at this; exact this
          clear b2 hown hbw hcr
          go_wp2_with fail
          refine (written_any _ _).mono ?_
          rintro e w3 ⟨rfl, b3⟩
          have hs12 := hB2.size
          have hown3 := own_below2 hown2 b3
          have hB3 : Below w1.heap.size w1 w3 := hB2.trans (b3.mono hs12)
          have hs13 := hB3.size
          clear b3 hown2 hB2 hcr2
          obtain ⟨L, hL⟩ : ∃ L, R.drop (pos + 1) = L := ⟨_, rfl⟩
          have hL1 : L.length + (pos + 1) ≤ R.length := by rw [← hL, List.length_drop]; omega
          have hL2 : R.length ≤ L.length + (pos + 1) := by rw [← hL, List.length_drop]; omega
          have HL : Hid (R.drop (pos + 1) = L) := hL
          have HLk : Hid (∀ k (hk : k < L.length) (hk2 : pos + k + 1 < R.length), R[pos + k + 1] = L[k]) := by
            intro k hk hk2
            have e : L[k]? = R[pos + k + 1]? := by rw [← HL.out, List.getElem?_drop]; congr 1; omega
            rw [List.getElem?_eq_getElem hk, List.getElem?_eq_getElem hk2] at e
            exact (Option.some.inj e).symm
          clear hL
          rw [show Lib.encodeRune r = enc [r] by simp [enc]]
          go_wp2
          go_loopw [5, 7, 8] (fun q tx m wr => ∃ k : Nat, k ≤ L.length ∧ q = .int .i64 (((pos + k : Nat) : Int)) ∧ m = .int .i64 k ∧ tx = .string ⟨(enc (r :: keep L k)).toArray⟩ ∧ Below w3.heap.size w3 wr ∧ Hid (∀ j (hj : j < L.length), j < k → isMk (L[j]) = true)) (fun _ _ m _ => L.length - (intOf m).toNat)
          case atStart => exact ⟨0, Nat.zero_le _, rfl, rfl, rfl, Below.refl _ _, fun j hj h => by omega⟩
          case round =>
            obtain ⟨k, hk, rfl, rfl, rfl, hbw, hmk⟩ := hrel
            have hszr := hbw.size
            have hB4 : Below w1.heap.size w1 wr := hB3.trans (hbw.mono hs13)
            have hel := keep_enc_le r L k hk
            by_cases hlt : k < L.length
            · have hlt' : ((pos + k + 1 : Nat) : Int) < (R.length : Int) := by omega
              obtain ⟨x, hx⟩ : ∃ x, L[k] = x := ⟨_, rfl⟩
              have HX : Hid (L[k] = x) := hx
              have HCX : Hid (∀ (wX : World), Below w1.heap.size w1 wX → wX.cell? ⟨b, off + (pos + k + 1), none⟩ = some (.int .i64 x)) := by
                intro wX hX
                have := HC.out wX hX (pos + k + 1) (by omega)
                rw [HLk.out k hlt (by omega), HX.out] at this; exact this
              have hcx := HCX.out wr hB4
              clear hx
              by_cases hx10 : x = 10
              · have HMK : Hid (mks L = L.take k) := takeWhile_stop isMk _ k hk hmk.out (fun hj => by rw [HX.out, isMk_false, hx10]; simp)
                have HS : Hid ((acc ++ [(enc (r :: keep L k), W)]) ++ clus (R.drop (pos + 1 + k)) = clus R) := by
                  have := clus_base (k := k) hp hacc.out HR.out H10.out HM.out (by rw [HL.out]; exact HMK.out) (by rw [HL.out]; exact hk)
                  rw [HL.out] at this; rw [HWW.out] at this; exact this
                have hown4 := own_below2 hown3 hbw
                have hx10' : (x != 10) = false := by rw [hx10]; rfl
                obtain ⟨TX, hTX⟩ : ∃ TX, enc (r :: keep L k) = TX := ⟨_, rfl⟩
                rw [hTX] at HS
                rw [hTX]
                clear hx10 hmk HX hTX hown3 hB3 hel hbw
                go_wp2_with (at_builtin; refine wpList_append_own _ rfl _ _ 42 rfl w1.heap.size 45 i0 (.agg #[.string ⟨#[]⟩, .int .i64 0]) 2 24 Tryz.underlying42 hi hz0 hz1 hz2 rfl (by decide) _ _ _ rfl (hown4.alloc _) _ 1 1 [.string ⟨TX.toArray⟩, .int .i64 W] rfl rfl ?c1k5 ?c2k5 ?c3k5 ?c4k5 ?c5k5 ?_)
                try case c1k5 => exact cell_two_new _ _ _ _
                case c2k5 => first | (intro u hu; simp at hu; rcases hu with rfl | rfl <;> rfl) | rfl | (exact ⟨rfl, rfl⟩) | (rintro u (rfl | rfl) <;> rfl) | (intro u hu; rcases List.mem_cons.1 hu with rfl | hu; rfl; rcases List.mem_cons.1 hu with rfl | hu; rfl; cases hu) | trivial
                case c3k5 => first | (unfold maxLen; omega) | omega
                case c4k5 => omega
                case c5k5 => first | omega | (rw [World.size_alloc]; omega)
                intro v' w9 hown' hg _
                have hrow : ∀ q, Value.ownBlock u4 = some q → w1.heap.size ≤ q := fun q hq => (hown4.lt q hq).1
                have hb9 : Below w1.heap.size w1 w9 := (hB4.alloc (by omega) _).grown hg (by rw [World.size_alloc]; omega) hrow
                clear hg hrow hown4 hB4
                go_wp2
                go_roundw
                case rel =>
                  refine ⟨pos + 1 + k, acc ++ [(TX, W)], by go_num, by omega, ?_, hb9, HS.out, by simp; omega⟩
                  rw [List.length_append, cCells_append]; exact hown'
                case measure => simp [intOf]; omega
              · have hx10' : (x != 10) = true := by simp [hx10]
                have HX10 : Hid (x ≠ 10) := hx10
                clear hx10
                by_cases hxw : wid x = 0
                · have HXM : Hid (isMk x = true) := (isMk_iff x).2 ⟨HX10.out, hxw⟩
                  have hmk' : Hid (∀ j (hj : j < L.length), j < k + 1 → isMk (L[j]) = true) := by
                    intro j hj h
                    by_cases ej : j = k
                    · subst ej; rw [HX.out]; exact HXM.out
                    · exact hmk.out j hj (by omega)
                  have HXW : Hid (∀ w, Calls Tryz.prog 25 #[.int .i64 x] w fun e w' => e = .returned (.int .i64 0) ∧ Below w.heap.size w w') := by
                    intro w; have := rWidth_any x w; rw [hxw] at this; exact this
                  clear hxw hmk
                  go_wp2_with fail
                  refine (HXW.out _).mono ?_
                  rintro e w5 ⟨rfl, b5⟩
                  have hbw5 : Below w3.heap.size w3 w5 := hbw.trans (b5.mono hszr)
                  have hcx5 := HCX.out w5 (hB4.trans (b5.mono (by omega)))
                  have hs35 := hbw5.size
                  clear b5 hbw hB4 hcx
                  by_cases h4 : k < 4
                  · have h4' : ((k + 1 : Nat) : Int) ≤ 4 := by omega
                    have HKA : Hid (enc (r :: keep L (k + 1)) = enc (r :: keep L k) ++ Lib.encodeRune x) := by
                      show _ = _; rw [keep_add _ _ hlt h4, HX.out, ← List.cons_append, enc_snoc1]
                    go_wp2_with (go_at_call 26; refine (written_any x _).mono ?_)
                    rintro e w6 ⟨rfl, b6⟩
                    have hl4 := encodeRune_le x
                    have hbw6 : Below w3.heap.size w3 w6 := hbw5.trans (b6.mono hs35)
                    obtain ⟨TX, hTX⟩ : ∃ TX, enc (r :: keep L k) = TX := ⟨_, rfl⟩
                    obtain ⟨U, hU⟩ : ∃ U, Lib.encodeRune x = U := ⟨_, rfl⟩
                    rw [hTX, hU] at HKA
                    rw [hTX] at hel
                    rw [hU] at hl4
                    rw [hTX, hU]
                    clear b6 hbw5 hcx5 hTX hU
                    go_wp2
                    go_roundw
                    case rel => exact ⟨k + 1, by omega, by go_num, by go_num, by rw [HKA.out, ← str_append'], hbw6, hmk'⟩
                    case measure => simp [intOf]; omega
                  · have h4' : ¬ ((k + 1 : Nat) : Int) ≤ 4 := by omega
                    have HKF : Hid (keep L (k + 1) = keep L k) := keep_full _ _ (by omega)
                    go_wp2
                    go_roundw
                    case rel => exact ⟨k + 1, by omega, by go_num, by go_num, by rw [HKF.out], hbw5, hmk'⟩
                    case measure => simp [intOf]; omega
                · obtain ⟨y, hy⟩ : ∃ y, wid x = y := ⟨_, rfl⟩
                  have hy0 : (y == 0) = false := by rw [← hy]; simp [hxw]
                  have HXW : Hid (∀ w, Calls Tryz.prog 25 #[.int .i64 x] w fun e w' => e = .returned (.int .i64 y) ∧ Below w.heap.size w w') := by
                    intro w; have := rWidth_any x w; rw [hy] at this; exact this
                  have HMK : Hid (mks L = L.take k) := takeWhile_stop isMk _ k hk hmk.out (fun hj => by rw [HX.out, isMk_false]; exact fun h => hxw h.2)
                  have HS : Hid ((acc ++ [(enc (r :: keep L k), W)]) ++ clus (R.drop (pos + 1 + k)) = clus R) := by
                    have := clus_base (k := k) hp hacc.out HR.out H10.out HM.out (by rw [HL.out]; exact HMK.out) (by rw [HL.out]; exact hk)
                    rw [HL.out] at this; rw [HWW.out] at this; exact this
                  have hown4 := own_below2 hown3 hbw
                  obtain ⟨TX, hTX⟩ : ∃ TX, enc (r :: keep L k) = TX := ⟨_, rfl⟩
                  rw [hTX] at HS
                  rw [hTX]
                  clear hmk HX hTX hown3 hB3 hel hbw hxw hy
                  go_wp2_with fail
                  refine (HXW.out _).mono ?_
                  rintro e w5 ⟨rfl, b5⟩
                  have hown5 := own_below2 hown4 b5
                  have hB5 : Below w1.heap.size w1 w5 := hB4.trans (b5.mono (by omega))
                  have hs15 := hB5.size
                  clear b5 hown4 hB4 hcx
                  go_wp2_with (at_builtin; refine wpList_append_own _ rfl _ _ 42 rfl w1.heap.size 45 i0 (.agg #[.string ⟨#[]⟩, .int .i64 0]) 2 24 Tryz.underlying42 hi hz0 hz1 hz2 rfl (by decide) _ _ _ rfl (hown5.alloc _) _ 1 1 [.string ⟨TX.toArray⟩, .int .i64 W] rfl rfl ?c1k6 ?c2k6 ?c3k6 ?c4k6 ?c5k6 ?_)
                  try case c1k6 => exact cell_two_new _ _ _ _
                  case c2k6 => first | (intro u hu; simp at hu; rcases hu with rfl | rfl <;> rfl) | rfl | (exact ⟨rfl, rfl⟩) | (rintro u (rfl | rfl) <;> rfl) | (intro u hu; rcases List.mem_cons.1 hu with rfl | hu; rfl; rcases List.mem_cons.1 hu with rfl | hu; rfl; cases hu) | trivial
                  case c3k6 => first | (unfold maxLen; omega) | omega
                  case c4k6 => omega
                  case c5k6 => first | omega | (rw [World.size_alloc]; omega)
                  intro v' w9 hown' hg _
                  have hrow : ∀ q, Value.ownBlock u4 = some q → w1.heap.size ≤ q := fun q hq => (hown5.lt q hq).1
                  have hb9 : Below w1.heap.size w1 w9 := (hB5.alloc (by omega) _).grown hg (by rw [World.size_alloc]; omega) hrow
                  clear hg hrow hown5 hB5
                  go_wp2
                  go_roundw
                  case rel =>
                    refine ⟨pos + 1 + k, acc ++ [(TX, W)], by go_num, by omega, ?_, hb9, HS.out, by simp; omega⟩
                    rw [List.length_append, cCells_append]; exact hown'
                  case measure => simp [intOf]; omega
            · have hlt' : ¬ ((pos + k + 1 : Nat) : Int) < (R.length : Int) := by omega
              have HMK : Hid (mks L = L.take k) := takeWhile_stop isMk _ k hk hmk.out (fun hj => absurd hj hlt)
              have HS : Hid ((acc ++ [(enc (r :: keep L k), W)]) ++ clus (R.drop (pos + 1 + k)) = clus R) := by
                have := clus_base (k := k) hp hacc.out HR.out H10.out HM.out (by rw [HL.out]; exact HMK.out) (by rw [HL.out]; exact hk)
                rw [HL.out] at this; rw [HWW.out] at this; exact this
              have hown4 := own_below2 hown3 hbw
              obtain ⟨TX, hTX⟩ : ∃ TX, enc (r :: keep L k) = TX := ⟨_, rfl⟩
              rw [hTX] at HS
              rw [hTX]
              clear hmk hTX hown3 hB3 hel hbw
              go_wp2_with (at_builtin; refine wpList_append_own _ rfl _ _ 42 rfl w1.heap.size 45 i0 (.agg #[.string ⟨#[]⟩, .int .i64 0]) 2 24 Tryz.underlying42 hi hz0 hz1 hz2 rfl (by decide) _ _ _ rfl (hown4.alloc _) _ 1 1 [.string ⟨TX.toArray⟩, .int .i64 W] rfl rfl ?c1k7 ?c2k7 ?c3k7 ?c4k7 ?c5k7 ?_)
              try case c1k7 => exact cell_two_new _ _ _ _
              case c2k7 => first | (intro u hu; simp at hu; rcases hu with rfl | rfl <;> rfl) | rfl | (exact ⟨rfl, rfl⟩) | (rintro u (rfl | rfl) <;> rfl) | (intro u hu; rcases List.mem_cons.1 hu with rfl | hu; rfl; rcases List.mem_cons.1 hu with rfl | hu; rfl; cases hu) | trivial
              case c3k7 => first | (unfold maxLen; omega) | omega
              case c4k7 => omega
              case c5k7 => first | omega | (rw [World.size_alloc]; omega)
              intro v' w9 hown' hg _
              have hrow : ∀ q, Value.ownBlock u4 = some q → w1.heap.size ≤ q := fun q hq => (hown4.lt q hq).1
              have hb9 : Below w1.heap.size w1 w9 := (hB4.alloc (by omega) _).grown hg (by rw [World.size_alloc]; omega) hrow
              clear hg hrow hown4 hB4
              go_wp2
              go_roundw
              case rel =>
                refine ⟨pos + 1 + k, acc ++ [(TX, W)], by go_num, by omega, ?_, hb9, HS.out, by simp; omega⟩
                rw [List.length_append, cCells_append]; exact hown'
              case measure => simp [intOf]; omega
    · have hp' : ¬ (pos : Int) < (R.length : Int) := by omega
      have e := hacc.out
      rw [List.drop_eq_nil_of_le (by omega), clus_nil, List.append_nil] at e
      have HE : Hid (acc = clus R) := e
      clear e hh hacc
      go_wp2
      go_ret
      rw [HRe.out, ← HE.out]
      exact ⟨_, rfl, ownsRow_base hown hs1, b1.trans (hbw.mono hs1)⟩

end Go.Proofs.YtkdajaphbmclkaaGreatDoor
