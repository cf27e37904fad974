/-
  The walks of glyph.isMark and glyph.firstCluster.
-/
import Derived.Test.YtkdajaphbmclkaaGreatDoorClus
import Derived.Test.YtkdajaphbmclkaaGreatDoorGWidth
import Derived.Test.YtkdajaphbmclkaaGreatDoorEncNil
import Derived.Test.YtkdajaphbmclkaaGreatDoorTable
import Derived.Test.YtkdajaphbmclkaaGreatDoorDec
namespace Go.Proofs.YtkdajaphbmclkaaGreatDoor
open Go.RowKit
set_option linter.unusedVariables false

set_option maxRecDepth 100000 in
set_option maxHeartbeats 1000000 in
theorem isMark_is (r : Int) (w : World) (ht : TabAt w) (b : Bool) (hb : isMk r = b) :
    Calls Tryz.prog 94 #[.int .i64 r] w fun e w' => e = .returned (.bool b) ∧ w' = w := by
  have HT : Hid (TabAt w) := ht
  clear ht
  by_cases h10 : r = 10
  · have e : b = false := by rw [← hb, isMk_false]; omega
    subst e
    subst h10
    clear hb
    go_enter Tryz.func94, Tryz.ntmps94
    go_wp2
    go_ret
    exact ⟨rfl, rfl⟩
  · have h10' : (r != 10) = true := by simp [h10]
    obtain ⟨k, hk⟩ : ∃ k, wid r = k := ⟨_, rfl⟩
    have G : Hid (Calls Tryz.prog 64 #[.int .i64 r] w fun e w' => e = .returned (.int .i64 k) ∧ w' = w) := by
      show Calls _ _ _ _ _; rw [← hk]; exact gWidth_any r w HT.out
    have hk0 : Hid (b = (k == 0)) := by
      show _ = _; rw [← hb, ← hk, Bool.eq_iff_iff, isMk_iff]; simp [h10]
    clear hb hk h10
    go_enter Tryz.func94, Tryz.ntmps94
    go_wp2_with fail
    refine G.out.mono ?_
    rintro e w1 ⟨rfl, rfl⟩
    go_wp2
    go_ret
    rw [hk0.out]
    exact ⟨rfl, rfl⟩

/-- One cell more, while fewer than five are kept. -/
def keep (L : List Int) (k : Nat) : List Int := (L.take k).take 4
theorem keep_add (L : List Int) (k : Nat) (h : k < L.length) (h4 : k < 4) : keep L (k + 1) = keep L k ++ [L[k]] := by
  unfold keep
  rw [List.take_take, List.take_take, Nat.min_eq_right (by omega), Nat.min_eq_right (by omega), List.take_succ_eq_append_getElem h]
theorem keep_full (L : List Int) (k : Nat) (h4 : 4 ≤ k) : keep L (k + 1) = keep L k := by
  unfold keep
  rw [List.take_take, List.take_take, Nat.min_eq_left (by omega), Nat.min_eq_left (by omega)]
theorem keep_length (L : List Int) (k : Nat) (h : k ≤ L.length) : (keep L k).length = min 4 k := by
  unfold keep
  rw [List.length_take, List.length_take, Nat.min_eq_left h]

theorem own_start (w : World) (o : Obj) (b : Int) : ((w.alloc o).alloc (.cells #[.int .i64 b] 3)).ownsRow (w.heap.size + 1) 3 1 (.slice (some ⟨w.heap.size + 1, 0, none⟩) 1 1) (1 + 0) ([b].map (Value.int .i64)) := by
  refine ⟨rfl, .inr ⟨w.heap.size + 1, 1, #[.int .i64 b], rfl, Nat.le_refl _, ?_, by omega, by unfold maxLen; omega, rfl, rfl⟩⟩
  have := heap_alloc_new (w.alloc o) (.cells #[.int .i64 b] 3)
  rw [World.size_alloc] at this
  exact this

theorem infoInt : (Tryz.prog.info? 3).map (fun i => (i.zero, i.size, i.bytes)) = some (some (.int .i64 0), 1, 8) := by kernel_rfl

set_option maxRecDepth 100000 in
set_option maxHeartbeats 1000000 in
theorem first_ten (R : List Int) (b off cap : Nat) (w : World) (hne : R ≠ []) (hb : b < w.heap.size) (hc : ∀ j, j < R.length → w.cell? ⟨b, off + j, none⟩ = some (.int .i64 (R[j]?.getD 0))) (h10 : R[0]?.getD 0 = 10) :
    Calls Tryz.prog 83 #[.slice (some ⟨b, off, none⟩) R.length cap] w fun e w' => e = .returned (.tuple #[.agg #[.string ⟨#[10]⟩, .int .i64 0], .int .i64 1]) ∧ Below w.heap.size w w' := by
  have hp : 0 < R.length := List.length_pos_iff.2 hne
  have h0 : w.cell? ⟨b, off, none⟩ = some (.int .i64 10) := by have := hc 0 hp; rw [h10] at this; exact this
  have hp' : (0 : Int) < (R.length : Int) := by omega
  have h0' : (w.alloc (.cells #[.string ⟨#[]⟩, .int .i64 0] 51)).cell? ⟨b, off, none⟩ = some (.int .i64 10) := (((Below.refl w.heap.size w).alloc (Nat.le_refl _) _).cell (p := ⟨b, off, none⟩) hb).trans h0
  clear hc h10 hne
  go_enter Tryz.func83, Tryz.ntmps83
  go_wp2
  exact bodyPost_ret (v := .tuple #[.agg #[.string ⟨#[10]⟩, .int .i64 0], .int .i64 1]) (by simp [results, Tryz.results83, go_sem]) rfl ⟨rfl, (Below.refl _ _).alloc (Nat.le_refl _) _⟩


set_option maxRecDepth 100000 in
set_option maxHeartbeats 2000000 in
theorem first_mark (R : List Int) (r : Int) (b off cap : Nat) (w : World) (ht : TabAt w) (hne : R ≠ []) (hlen : R.length ≤ 17592186044416) (hb : b < w.heap.size) (hc : ∀ j, j < R.length → w.cell? ⟨b, off + j, none⟩ = some (.int .i64 (R[j]?.getD 0)))
    (hr : R[0]?.getD 0 = r) (L : List Int) (hL : R.drop 0 = L) (h10 : r ≠ 10) (hm : isMk r = true) (n : Nat) (hn : n = 0 + (mks L).length) (T : List UInt8) (hT : T = enc (32 :: (mks L).take 4)) (W : Int) (hW : W = wid 32) :
    Calls Tryz.prog 83 #[.slice (some ⟨b, off, none⟩) R.length cap] w fun e w' => e = .returned (.tuple #[.agg #[.string ⟨T.toArray⟩, .int .i64 W], .int .i64 n]) ∧ Below w.heap.size w w' := by
  obtain ⟨i0, hi, hz0, hz1, hz2⟩ := info_parts infoInt
  have hp : 0 < R.length := List.length_pos_iff.2 hne
  have HT : Hid (TabAt w) := ht
  have hLn : L.length + 0 = R.length := by rw [← hL, List.length_drop]; omega
  have hL1 : L.length + 0 ≤ R.length := by omega
  have hL2 : R.length ≤ L.length + 0 := by omega
  have HC : Hid (∀ k (hk : k < L.length), w.cell? ⟨b, off + (k), none⟩ = some (.int .i64 L[k])) := by
    intro k hk
    have e : L[k] = R[k]'(by omega) := by subst hL; first | (simp; done) | (rw [List.getElem_drop])
    rw [hc (k) (by omega), List.getElem?_eq_getElem (by omega), e]; rfl
  have HN : Hid (n = 0 + (mks L).length) := hn
  have HTx : Hid (T = enc (32 :: (mks L).take 4)) := hT
  have HW : Hid (W = wid 32) := hW
  have HM : Hid (isMk r = true) := hm
  have hp' : (0 : Int) < (R.length : Int) := by omega
  have h10' : (r == 10) = false := by simp [h10]
  have hb0 : Below w.heap.size w (w.alloc (.cells #[.string ⟨#[]⟩, .int .i64 0] 51)) := (Below.refl _ _).alloc (Nat.le_refl _) _
  have h0 : (w.alloc (.cells #[.string ⟨#[]⟩, .int .i64 0] 51)).cell? ⟨b, off, none⟩ = some (.int .i64 r) := (hb0.cell (p := ⟨b, off, none⟩) hb).trans (by have := hc 0 hp; rw [hr] at this; exact this)
  have HT0 : Hid (TabAt (w.alloc (.cells #[.string ⟨#[]⟩, .int .i64 0] 51))) := ht.below hb0
  clear hc hn hT hW hm ht h10 hr hne hb0 hL hLn
  go_enter Tryz.func83, Tryz.ntmps83
  go_wp2_with (go_at_call 94; refine (isMark_is r _ HT0.out _ HM.out).mono ?_; rintro e w' ⟨rfl, rfl⟩)
  go_loopw [5, 6] (fun q v wr => ∃ k : Nat, k ≤ L.length ∧ q = .int .i64 (k : Nat) ∧ wr.ownsRow (w.heap.size + 1) 3 1 v (1 + min 4 k) ((32 :: keep L k).map (Value.int .i64)) ∧ wr.heap[w.heap.size]? = some (.cells #[.string ⟨#[]⟩, .int .i64 0] 51 (0, 0)) ∧ Below w.heap.size w wr ∧ Hid (∀ j (hj : j < L.length), j < k → isMk (L[j]) = true)) (fun q _ _ => R.length - (intOf q).toNat)
  case atStart =>
    refine ⟨0, by omega, rfl, own_start w _ 32, ?_, ((Below.refl _ _).alloc (Nat.le_refl _) _).alloc (by simp) _, fun j hj h => by omega⟩
    rw [Below.heap_alloc _ _ _ (by simp)]
    exact heap_alloc_new w _
  case round =>
    obtain ⟨k, hk, rfl, hown, hres, hbw, hmk⟩ := hrel
    have hsz : w.heap.size < wr.heap.size := (Array.getElem?_eq_some_iff.1 hres).1
    have HTr : Hid (TabAt wr) := HT.out.below hbw
    by_cases hlt : k < L.length
    · obtain ⟨x, hx⟩ : ∃ x, L[k] = x := ⟨_, rfl⟩
      have hcx : wr.cell? ⟨b, off + (k), none⟩ = some (.int .i64 x) := (hbw.cell (p := ⟨b, off + (k), none⟩) hb).trans (by have := HC.out k hlt; rw [hx] at this; exact this)
      have HX : Hid (L[k] = x) := hx
      have hlt' : ((k : Nat) : Int) < (R.length : Int) := by omega
      clear hx
      by_cases hxm : isMk x = true
      · have HXM : Hid (isMk x = true) := hxm
        clear hxm
        have hmk' : Hid (∀ j (hj : j < L.length), j < k + 1 → isMk (L[j]) = true) := by
          intro j hj h
          by_cases ej : j = k
          · subst ej; rw [HX.out]; exact HXM.out
          · exact hmk.out j hj (by omega)
        by_cases h4 : k < 4
        · have hmin : min 4 k = k := by omega
          rw [hmin] at hown
          have HKA : Hid (keep L (k + 1) = keep L k ++ [x]) := by show _ = _; rw [keep_add _ _ hlt h4, HX.out]
          obtain ⟨g, cp, rfl⟩ : ∃ g cp, u6 = .slice (some ⟨g, 0, none⟩) (1 + k) cp := by
            rcases hown.2 with ⟨_, h⟩ | ⟨g, cp, cur, h, _⟩
            · omega
            · exact ⟨g, cp, h⟩
          have h4' : ((1 + k : Nat) : Int) ≤ 4 := by omega
          clear hmk HX
          go_wp2_with (first
            | (go_at_call 94; refine (isMark_is x _ HTr.out _ HXM.out).mono ?_; rintro e w' ⟨rfl, rfl⟩)
            | (at_builtin; refine wpList_append_own _ rfl _ _ 76 rfl (w.heap.size + 1) 3 i0 (.int .i64 0) 1 8 Tryz.underlying76 hi hz0 hz1 hz2 rfl (by decide) _ _ _ rfl (hown.alloc _) _ 1 1 [.int .i64 x] rfl rfl ?c1k3 ?c2k3 ?c3k3 ?c4k3 ?c5k3 ?_))
          try case c1k3 => exact cell_one_new _ _ _
          case c2k3 => first | (intro u hu; simp at hu; subst hu; rfl) | rfl | (simp; done)
          case c3k3 => first | (unfold maxLen; omega) | omega
          case c4k3 => omega
          case c5k3 => first | omega | (rw [World.size_alloc]; omega)
          intro v' w1 hown' hg _
          have hrow : ∀ q, Value.ownBlock (.slice (some ⟨g, 0, none⟩) (1 + k) cp) = some q → w.heap.size + 1 ≤ q := fun q hq => (hown.lt q hq).1
          have hb1 : Below w.heap.size w w1 := (hbw.alloc (by omega) _).grown hg (by rw [World.size_alloc]; omega) (fun q hq => by have := hrow q hq; omega)
          have hres1 : w1.heap[w.heap.size]? = some (.cells #[.string ⟨#[]⟩, .int .i64 0] 51 (0, 0)) := by
            rw [hg.block w.heap.size (by rw [World.size_alloc]; omega) (fun e => by have := hrow _ e.symm; omega), Below.heap_alloc _ _ _ (by omega)]
            exact hres
          clear hg hrow hown hbw hres HTr hcx
          go_wp2
          go_roundw
          case rel =>
            refine ⟨k + 1, by omega, by go_num, ?_, hres1, hb1, hmk'⟩
            rw [HKA.out, ← List.cons_append, List.map_append, show 1 + min 4 (k + 1) = 1 + k + 1 by omega]
            exact hown'
          case measure => simp [intOf]; omega
        · have hmin : min 4 k = 4 := by omega
          have HKF : Hid (keep L (k + 1) = keep L k) := keep_full _ _ (by omega)
          rw [hmin] at hown
          obtain ⟨g, cp, rfl⟩ : ∃ g cp, u6 = .slice (some ⟨g, 0, none⟩) (1 + 4) cp := by
            rcases hown.2 with ⟨_, h⟩ | ⟨g, cp, cur, h, _⟩
            · omega
            · exact ⟨g, cp, h⟩
          clear hmk HX
          go_wp2_with (go_at_call 94; refine (isMark_is x _ HTr.out _ HXM.out).mono ?_; rintro e w' ⟨rfl, rfl⟩)
          go_roundw
          case rel =>
            refine ⟨k + 1, by omega, by go_num, ?_, hres, hbw, hmk'⟩
            rw [HKF.out, show 1 + min 4 (k + 1) = 1 + 4 by omega]
            exact hown
          case measure => simp [intOf]; omega
      · have HXM : Hid (isMk x = false) := by show _ = _; simpa using hxm
        have HMK : Hid (mks L = L.take k) := takeWhile_stop isMk _ k hk hmk.out (fun hj => by rw [HX.out]; exact HXM.out)
        have HNk : Hid (n = 0 + k) := by show _ = _; rw [HN.out, HMK.out, List.length_take]; omega
        have HTk : Hid (enc (32 :: keep L k) = T) := by show _ = _; rw [HTx.out, HMK.out]; rfl
        have hI := ints_own' hown
        have HI : Hid (Ints wr u6 (32 :: keep L k)) := hI
        have hkl := keep_length L k hk
        have HKL : Hid ((32 :: keep L k).length ≤ 17592186044416) := by show _ ≤ _; rw [List.length_cons, hkl]; omega
        clear hxm hmk hI hown hkl
        go_wp2_with (go_at_call 94; refine (isMark_is x _ HTr.out _ HXM.out).mono ?_; rintro e w' ⟨rfl, rfl⟩)
        refine (gEncode_all _ _ _ HI.out HKL.out).mono ?_
        rintro e w2 ⟨rfl, b2⟩
        rw [HTk.out]
        have hres2 : w2.heap[w.heap.size]? = some (.cells #[.string ⟨#[]⟩, .int .i64 0] 51 (0, 0)) := by rw [b2.block _ hsz]; exact hres
        have G2 : Hid (Calls Tryz.prog 64 #[.int .i64 32] w2 fun e w' => e = .returned (.int .i64 W) ∧ w' = w2) := by
          show Calls _ _ _ _ _; rw [HW.out]; exact gWidth_any 32 w2 (HTr.out.below b2)
        have q0 : w2.cell? ⟨w.heap.size, 0, none⟩ = some (.string ⟨#[]⟩) := by rw [cell_of_row _ _ _ _ _ _ hres2]; rfl
        have q1 : w2.cell? ⟨w.heap.size, 1, none⟩ = some (.int .i64 0) := by rw [cell_of_row _ _ _ _ _ _ hres2]; rfl
        have f0 := frozen_of_row w2 w.heap.size 0 _ _ hres2
        have f1 := frozen_of_row w2 w.heap.size 1 _ _ hres2
        have hB2 : Below w.heap.size w w2 := hbw.trans (b2.mono (by omega))
        have hsz2 : w.heap.size < w2.heap.size := Nat.lt_of_lt_of_le hsz b2.size
        clear b2 hres hbw HI HTr
        go_wp2_with fail
        refine G2.out.mono ?_
        rintro e w3 ⟨rfl, rfl⟩
        go_wp2
        rw [HNk.out]
        refine bodyPost_ret (v := .tuple #[.agg #[.string ⟨T.toArray⟩, .int .i64 W], .int .i64 ((k : Nat) : Int)]) ?_ rfl ⟨by simp, (hB2.setCell (p := ⟨w.heap.size, 0, none⟩) (Nat.le_refl _) _).setCell (p := ⟨w.heap.size, 1, none⟩) (Nat.le_refl _) _⟩
        simp [results, Tryz.results83, go_sem, q0, q1]
    · have hlt' : ¬ ((k : Nat) : Int) < (R.length : Int) := by omega
      have HMK : Hid (mks L = L.take k) := takeWhile_stop isMk _ k hk hmk.out (fun hj => absurd hj hlt)
      have HNk : Hid (n = 0 + k) := by show _ = _; rw [HN.out, HMK.out, List.length_take]; omega
      have HTk : Hid (enc (32 :: keep L k) = T) := by show _ = _; rw [HTx.out, HMK.out]; rfl
      have hI := ints_own' hown
      have HI : Hid (Ints wr u6 (32 :: keep L k)) := hI
      have hkl := keep_length L k hk
      have HKL : Hid ((32 :: keep L k).length ≤ 17592186044416) := by show _ ≤ _; rw [List.length_cons, hkl]; omega
      clear hmk hI hown hkl
      go_wp2_with fail
      refine (gEncode_all _ _ _ HI.out HKL.out).mono ?_
      rintro e w2 ⟨rfl, b2⟩
      rw [HTk.out]
      have hres2 : w2.heap[w.heap.size]? = some (.cells #[.string ⟨#[]⟩, .int .i64 0] 51 (0, 0)) := by rw [b2.block _ hsz]; exact hres
      have G2 : Hid (Calls Tryz.prog 64 #[.int .i64 32] w2 fun e w' => e = .returned (.int .i64 W) ∧ w' = w2) := by
        show Calls _ _ _ _ _; rw [HW.out]; exact gWidth_any 32 w2 (HTr.out.below b2)
      have q0 : w2.cell? ⟨w.heap.size, 0, none⟩ = some (.string ⟨#[]⟩) := by rw [cell_of_row _ _ _ _ _ _ hres2]; rfl
      have q1 : w2.cell? ⟨w.heap.size, 1, none⟩ = some (.int .i64 0) := by rw [cell_of_row _ _ _ _ _ _ hres2]; rfl
      have f0 := frozen_of_row w2 w.heap.size 0 _ _ hres2
      have f1 := frozen_of_row w2 w.heap.size 1 _ _ hres2
      have hB2 : Below w.heap.size w w2 := hbw.trans (b2.mono (by omega))
      have hsz2 : w.heap.size < w2.heap.size := Nat.lt_of_lt_of_le hsz b2.size
      clear b2 hres hbw HI HTr
      go_wp2_with fail
      refine G2.out.mono ?_
      rintro e w3 ⟨rfl, rfl⟩
      go_wp2
      rw [HNk.out]
      refine bodyPost_ret (v := .tuple #[.agg #[.string ⟨T.toArray⟩, .int .i64 W], .int .i64 ((k : Nat) : Int)]) ?_ rfl ⟨by simp, (hB2.setCell (p := ⟨w.heap.size, 0, none⟩) (Nat.le_refl _) _).setCell (p := ⟨w.heap.size, 1, none⟩) (Nat.le_refl _) _⟩
      simp [results, Tryz.results83, go_sem, q0, q1]

set_option maxRecDepth 100000 in
set_option maxHeartbeats 2000000 in
theorem first_base (R : List Int) (r : Int) (b off cap : Nat) (w : World) (ht : TabAt w) (hne : R ≠ []) (hlen : R.length ≤ 17592186044416) (hb : b < w.heap.size) (hc : ∀ j, j < R.length → w.cell? ⟨b, off + j, none⟩ = some (.int .i64 (R[j]?.getD 0)))
    (hr : R[0]?.getD 0 = r) (L : List Int) (hL : R.drop 1 = L) (h10 : r ≠ 10) (hm : isMk r = false) (n : Nat) (hn : n = 1 + (mks L).length) (T : List UInt8) (hT : T = enc (r :: (mks L).take 4)) (W : Int) (hW : W = wid r) :
    Calls Tryz.prog 83 #[.slice (some ⟨b, off, none⟩) R.length cap] w fun e w' => e = .returned (.tuple #[.agg #[.string ⟨T.toArray⟩, .int .i64 W], .int .i64 n]) ∧ Below w.heap.size w w' := by
  obtain ⟨i0, hi, hz0, hz1, hz2⟩ := info_parts infoInt
  have hp : 0 < R.length := List.length_pos_iff.2 hne
  have HT : Hid (TabAt w) := ht
  have hLn : L.length + 1 = R.length := by rw [← hL, List.length_drop]; omega
  have hL1 : L.length + 1 ≤ R.length := by omega
  have hL2 : R.length ≤ L.length + 1 := by omega
  have HC : Hid (∀ k (hk : k < L.length), w.cell? ⟨b, off + (1 + k), none⟩ = some (.int .i64 L[k])) := by
    intro k hk
    have e : L[k] = R[1 + k]'(by omega) := by subst hL; first | (simp; done) | (rw [List.getElem_drop])
    rw [hc (1 + k) (by omega), List.getElem?_eq_getElem (by omega), e]; rfl
  have HN : Hid (n = 1 + (mks L).length) := hn
  have HTx : Hid (T = enc (r :: (mks L).take 4)) := hT
  have HW : Hid (W = wid r) := hW
  have HM : Hid (isMk r = false) := hm
  have hp' : (0 : Int) < (R.length : Int) := by omega
  have h10' : (r == 10) = false := by simp [h10]
  have hb0 : Below w.heap.size w (w.alloc (.cells #[.string ⟨#[]⟩, .int .i64 0] 51)) := (Below.refl _ _).alloc (Nat.le_refl _) _
  have h0 : (w.alloc (.cells #[.string ⟨#[]⟩, .int .i64 0] 51)).cell? ⟨b, off, none⟩ = some (.int .i64 r) := (hb0.cell (p := ⟨b, off, none⟩) hb).trans (by have := hc 0 hp; rw [hr] at this; exact this)
  have HT0 : Hid (TabAt (w.alloc (.cells #[.string ⟨#[]⟩, .int .i64 0] 51))) := ht.below hb0
  clear hc hn hT hW hm ht h10 hr hne hb0 hL hLn
  go_enter Tryz.func83, Tryz.ntmps83
  go_wp2_with (go_at_call 94; refine (isMark_is r _ HT0.out _ HM.out).mono ?_; rintro e w' ⟨rfl, rfl⟩)
  go_loopw [5, 6] (fun q v wr => ∃ k : Nat, k ≤ L.length ∧ q = .int .i64 (1 + k : Nat) ∧ wr.ownsRow (w.heap.size + 1) 3 1 v (1 + min 4 k) ((r :: keep L k).map (Value.int .i64)) ∧ wr.heap[w.heap.size]? = some (.cells #[.string ⟨#[]⟩, .int .i64 0] 51 (0, 0)) ∧ Below w.heap.size w wr ∧ Hid (∀ j (hj : j < L.length), j < k → isMk (L[j]) = true)) (fun q _ _ => R.length - (intOf q).toNat)
  case atStart =>
    refine ⟨0, by omega, rfl, own_start w _ r, ?_, ((Below.refl _ _).alloc (Nat.le_refl _) _).alloc (by simp) _, fun j hj h => by omega⟩
    rw [Below.heap_alloc _ _ _ (by simp)]
    exact heap_alloc_new w _
  case round =>
    obtain ⟨k, hk, rfl, hown, hres, hbw, hmk⟩ := hrel
    have hsz : w.heap.size < wr.heap.size := (Array.getElem?_eq_some_iff.1 hres).1
    have HTr : Hid (TabAt wr) := HT.out.below hbw
    by_cases hlt : k < L.length
    · obtain ⟨x, hx⟩ : ∃ x, L[k] = x := ⟨_, rfl⟩
      have hcx : wr.cell? ⟨b, off + (1 + k), none⟩ = some (.int .i64 x) := (hbw.cell (p := ⟨b, off + (1 + k), none⟩) hb).trans (by have := HC.out k hlt; rw [hx] at this; exact this)
      have HX : Hid (L[k] = x) := hx
      have hlt' : ((1 + k : Nat) : Int) < (R.length : Int) := by omega
      clear hx
      by_cases hxm : isMk x = true
      · have HXM : Hid (isMk x = true) := hxm
        clear hxm
        have hmk' : Hid (∀ j (hj : j < L.length), j < k + 1 → isMk (L[j]) = true) := by
          intro j hj h
          by_cases ej : j = k
          · subst ej; rw [HX.out]; exact HXM.out
          · exact hmk.out j hj (by omega)
        by_cases h4 : k < 4
        · have hmin : min 4 k = k := by omega
          rw [hmin] at hown
          have HKA : Hid (keep L (k + 1) = keep L k ++ [x]) := by show _ = _; rw [keep_add _ _ hlt h4, HX.out]
          obtain ⟨g, cp, rfl⟩ : ∃ g cp, u6 = .slice (some ⟨g, 0, none⟩) (1 + k) cp := by
            rcases hown.2 with ⟨_, h⟩ | ⟨g, cp, cur, h, _⟩
            · omega
            · exact ⟨g, cp, h⟩
          have h4' : ((1 + k : Nat) : Int) ≤ 4 := by omega
          clear hmk HX
          go_wp2_with (first
            | (go_at_call 94; refine (isMark_is x _ HTr.out _ HXM.out).mono ?_; rintro e w' ⟨rfl, rfl⟩)
            | (at_builtin; refine wpList_append_own _ rfl _ _ 76 rfl (w.heap.size + 1) 3 i0 (.int .i64 0) 1 8 Tryz.underlying76 hi hz0 hz1 hz2 rfl (by decide) _ _ _ rfl (hown.alloc _) _ 1 1 [.int .i64 x] rfl rfl ?c1k4 ?c2k4 ?c3k4 ?c4k4 ?c5k4 ?_))
          try case c1k4 => exact cell_one_new _ _ _
          case c2k4 => first | (intro u hu; simp at hu; subst hu; rfl) | rfl | (simp; done)
          case c3k4 => first | (unfold maxLen; omega) | omega
          case c4k4 => omega
          case c5k4 => first | omega | (rw [World.size_alloc]; omega)
          intro v' w1 hown' hg _
          have hrow : ∀ q, Value.ownBlock (.slice (some ⟨g, 0, none⟩) (1 + k) cp) = some q → w.heap.size + 1 ≤ q := fun q hq => (hown.lt q hq).1
          have hb1 : Below w.heap.size w w1 := (hbw.alloc (by omega) _).grown hg (by rw [World.size_alloc]; omega) (fun q hq => by have := hrow q hq; omega)
          have hres1 : w1.heap[w.heap.size]? = some (.cells #[.string ⟨#[]⟩, .int .i64 0] 51 (0, 0)) := by
            rw [hg.block w.heap.size (by rw [World.size_alloc]; omega) (fun e => by have := hrow _ e.symm; omega), Below.heap_alloc _ _ _ (by omega)]
            exact hres
          clear hg hrow hown hbw hres HTr hcx
          go_wp2
          go_roundw
          case rel =>
            refine ⟨k + 1, by omega, by go_num, ?_, hres1, hb1, hmk'⟩
            rw [HKA.out, ← List.cons_append, List.map_append, show 1 + min 4 (k + 1) = 1 + k + 1 by omega]
            exact hown'
          case measure => simp [intOf]; omega
        · have hmin : min 4 k = 4 := by omega
          have HKF : Hid (keep L (k + 1) = keep L k) := keep_full _ _ (by omega)
          rw [hmin] at hown
          obtain ⟨g, cp, rfl⟩ : ∃ g cp, u6 = .slice (some ⟨g, 0, none⟩) (1 + 4) cp := by
            rcases hown.2 with ⟨_, h⟩ | ⟨g, cp, cur, h, _⟩
            · omega
            · exact ⟨g, cp, h⟩
          clear hmk HX
          go_wp2_with (go_at_call 94; refine (isMark_is x _ HTr.out _ HXM.out).mono ?_; rintro e w' ⟨rfl, rfl⟩)
          go_roundw
          case rel =>
            refine ⟨k + 1, by omega, by go_num, ?_, hres, hbw, hmk'⟩
            rw [HKF.out, show 1 + min 4 (k + 1) = 1 + 4 by omega]
            exact hown
          case measure => simp [intOf]; omega
      · have HXM : Hid (isMk x = false) := by show _ = _; simpa using hxm
        have HMK : Hid (mks L = L.take k) := takeWhile_stop isMk _ k hk hmk.out (fun hj => by rw [HX.out]; exact HXM.out)
        have HNk : Hid (n = 1 + k) := by show _ = _; rw [HN.out, HMK.out, List.length_take]; omega
        have HTk : Hid (enc (r :: keep L k) = T) := by show _ = _; rw [HTx.out, HMK.out]; rfl
        have hI := ints_own' hown
        have HI : Hid (Ints wr u6 (r :: keep L k)) := hI
        have hkl := keep_length L k hk
        have HKL : Hid ((r :: keep L k).length ≤ 17592186044416) := by show _ ≤ _; rw [List.length_cons, hkl]; omega
        clear hxm hmk hI hown hkl
        go_wp2_with (go_at_call 94; refine (isMark_is x _ HTr.out _ HXM.out).mono ?_; rintro e w' ⟨rfl, rfl⟩)
        refine (gEncode_all _ _ _ HI.out HKL.out).mono ?_
        rintro e w2 ⟨rfl, b2⟩
        rw [HTk.out]
        have hres2 : w2.heap[w.heap.size]? = some (.cells #[.string ⟨#[]⟩, .int .i64 0] 51 (0, 0)) := by rw [b2.block _ hsz]; exact hres
        have G2 : Hid (Calls Tryz.prog 64 #[.int .i64 r] w2 fun e w' => e = .returned (.int .i64 W) ∧ w' = w2) := by
          show Calls _ _ _ _ _; rw [HW.out]; exact gWidth_any r w2 (HTr.out.below b2)
        have q0 : w2.cell? ⟨w.heap.size, 0, none⟩ = some (.string ⟨#[]⟩) := by rw [cell_of_row _ _ _ _ _ _ hres2]; rfl
        have q1 : w2.cell? ⟨w.heap.size, 1, none⟩ = some (.int .i64 0) := by rw [cell_of_row _ _ _ _ _ _ hres2]; rfl
        have f0 := frozen_of_row w2 w.heap.size 0 _ _ hres2
        have f1 := frozen_of_row w2 w.heap.size 1 _ _ hres2
        have hB2 : Below w.heap.size w w2 := hbw.trans (b2.mono (by omega))
        have hsz2 : w.heap.size < w2.heap.size := Nat.lt_of_lt_of_le hsz b2.size
        clear b2 hres hbw HI HTr
        go_wp2_with fail
        refine G2.out.mono ?_
        rintro e w3 ⟨rfl, rfl⟩
        go_wp2
        rw [HNk.out]
        refine bodyPost_ret (v := .tuple #[.agg #[.string ⟨T.toArray⟩, .int .i64 W], .int .i64 ((1 + k : Nat) : Int)]) ?_ rfl ⟨by simp, (hB2.setCell (p := ⟨w.heap.size, 0, none⟩) (Nat.le_refl _) _).setCell (p := ⟨w.heap.size, 1, none⟩) (Nat.le_refl _) _⟩
        simp [results, Tryz.results83, go_sem, q0, q1]
    · have hlt' : ¬ ((1 + k : Nat) : Int) < (R.length : Int) := by omega
      have HMK : Hid (mks L = L.take k) := takeWhile_stop isMk _ k hk hmk.out (fun hj => absurd hj hlt)
      have HNk : Hid (n = 1 + k) := by show _ = _; rw [HN.out, HMK.out, List.length_take]; omega
      have HTk : Hid (enc (r :: keep L k) = T) := by show _ = _; rw [HTx.out, HMK.out]; rfl
      have hI := ints_own' hown
      have HI : Hid (Ints wr u6 (r :: keep L k)) := hI
      have hkl := keep_length L k hk
      have HKL : Hid ((r :: keep L k).length ≤ 17592186044416) := by show _ ≤ _; rw [List.length_cons, hkl]; omega
      clear hmk hI hown hkl
      go_wp2_with fail
      refine (gEncode_all _ _ _ HI.out HKL.out).mono ?_
      rintro e w2 ⟨rfl, b2⟩
      rw [HTk.out]
      have hres2 : w2.heap[w.heap.size]? = some (.cells #[.string ⟨#[]⟩, .int .i64 0] 51 (0, 0)) := by rw [b2.block _ hsz]; exact hres
      have G2 : Hid (Calls Tryz.prog 64 #[.int .i64 r] w2 fun e w' => e = .returned (.int .i64 W) ∧ w' = w2) := by
        show Calls _ _ _ _ _; rw [HW.out]; exact gWidth_any r w2 (HTr.out.below b2)
      have q0 : w2.cell? ⟨w.heap.size, 0, none⟩ = some (.string ⟨#[]⟩) := by rw [cell_of_row _ _ _ _ _ _ hres2]; rfl
      have q1 : w2.cell? ⟨w.heap.size, 1, none⟩ = some (.int .i64 0) := by rw [cell_of_row _ _ _ _ _ _ hres2]; rfl
      have f0 := frozen_of_row w2 w.heap.size 0 _ _ hres2
      have f1 := frozen_of_row w2 w.heap.size 1 _ _ hres2
      have hB2 : Below w.heap.size w w2 := hbw.trans (b2.mono (by omega))
      have hsz2 : w.heap.size < w2.heap.size := Nat.lt_of_lt_of_le hsz b2.size
      clear b2 hres hbw HI HTr
      go_wp2_with fail
      refine G2.out.mono ?_
      rintro e w3 ⟨rfl, rfl⟩
      go_wp2
      rw [HNk.out]
      refine bodyPost_ret (v := .tuple #[.agg #[.string ⟨T.toArray⟩, .int .i64 W], .int .i64 ((1 + k : Nat) : Int)]) ?_ rfl ⟨by simp, (hB2.setCell (p := ⟨w.heap.size, 0, none⟩) (Nat.le_refl _) _).setCell (p := ⟨w.heap.size, 1, none⟩) (Nat.le_refl _) _⟩
      simp [results, Tryz.results83, go_sem, q0, q1]

end Go.Proofs.YtkdajaphbmclkaaGreatDoor
