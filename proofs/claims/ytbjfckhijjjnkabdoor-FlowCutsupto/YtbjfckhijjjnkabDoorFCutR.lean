/-
  The walk of paneref.Cut.
-/
import Derived.Test.YtbjfckhijjjnkabDoorFCut
import Derived.Test.YtbjfckhijjjnkabDoorFRef
namespace Go.Proofs.YtbjfckhijjjnkabDoor
open Go.RowKit
set_option linter.unusedVariables false

theorem enc_dots' : Lib.encodeRune 8230 = [226, 128, 166] := by decide +kernel

set_option maxRecDepth 100000 in
set_option maxHeartbeats 4000000 in
theorem rcut_any (s : ByteArray) (W : Int) (w : World) (hs : s.size ≤ 1099511627776) (hW0 : -9223372036854775808 ≤ W) (hW1 : W ≤ 9223372036854775807) :
    Calls Tryd.prog 17 #[.string s, .int .i64 W] w fun e w' => e = .returned (.string ⟨(cutL (one (clus (runes s.data.toList))) W).toArray⟩) ∧ Below w.heap.size w w' := by
  have hsl : s.data.toList.length = s.size := by rw [Array.length_toList]; rfl
  have hR := runes_length s.data.toList
  have hC := clus_length (runes s.data.toList)
  rw [hsl] at hR
  by_cases hlt : W < 1
  · have HE : Hid (cutL (one (clus (runes s.data.toList))) W = []) := by show _ = _; rw [cutL, if_pos hlt]
    go_enter Tryd.func17, Tryd.ntmps17
    go_wp2
    go_ret
    rw [HE.out]
    exact ⟨rfl, Below.refl _ _⟩
  have hol := one_length (clus (runes s.data.toList))
  have hbd := one_wide (clus_wide (runes s.data.toList))
  have h10 := one_ten (clus (runes s.data.toList))
  have hjb := joined_bd _ (one_short (clus_short (runes s.data.toList)))
  have G : Hid (Calls Tryd.prog 23 #[.string s] w fun e w' => ∃ v, e = .returned v ∧ ClsO w.heap.size w' v (clus (runes s.data.toList)) ∧ Below w.heap.size w w') := by
    refine (rClusters_any s w hs).mono ?_
    rintro e w1 ⟨v, rfl, o, b⟩
    exact ⟨v, rfl, clsO_own o, b⟩
  obtain ⟨l, hl⟩ : ∃ l, clus (runes s.data.toList) = l := ⟨_, rfl⟩
  rw [hl] at hC hol hbd h10 hjb G ⊢
  have HOA : Hid (∀ (j : Nat) (hj : j < l.length) (hj' : j < (one l).length), (one l)[j] = if (l[j]).1 = [10] then ([32], 1) else l[j]) := fun j hj hj' => one_at l j hj hj'
  obtain ⟨m, hm⟩ : ∃ m, one l = m := ⟨_, rfl⟩
  rw [hm] at hol hbd h10 hjb ⊢
  have hf1 := fitN_le m (W - 1)
  have hml : m.length ≤ 1099511627776 := by omega
  have HC : Hid (cutL m W = if wideSum m ≤ W then joined m else joined (m.take (fitN m (W - 1))) ++ [226, 128, 166]) := by show _ = _; rw [cutL, if_neg hlt]
  have HBD : Hid (∀ c ∈ m, 0 ≤ c.2 ∧ c.2 ≤ 2) := hbd
  have hwm := wideSum_bd m hbd m.length
  rw [List.take_length] at hwm
  have HJT : Hid (∀ k, (joined (m.take k)).length ≤ (joined m).length) := fun k => joined_take_le m k
  have HOA' : Hid (∀ (j : Nat) (hj : j < l.length) (hj' : j < m.length), m[j] = if (l[j]).1 = [10] then ([32], 1) else l[j]) := by
    subst hm; exact HOA.out
  have HOL : Hid (m.length = l.length) := hol
  have hol1 : m.length ≤ l.length := by omega
  have hol2 : l.length ≤ m.length := by omega
  clear hm hl hsl hbd h10 HOA hol
  go_enter Tryd.func17, Tryd.ntmps17
  go_wp2_with fail
  refine G.out.mono ?_
  rintro e w1 ⟨v1, rfl, ⟨a, cap, rfl, hcap, hmax, hh⟩, b1⟩
  clear G
  have hs1 := b1.size
  have HO : Hid (l = [] ∨ ∃ b off, a = some ⟨b, off, none⟩ ∧ w.heap.size ≤ b ∧ b < w1.heap.size ∧ ∀ j (hj : j < l.length), w1.cell? ⟨b, off + j * 2, none⟩ = some (.string ⟨(l[j]).1.toArray⟩) ∧ w1.cell? ⟨b, off + j * 2 + 1, none⟩ = some (.int .i64 (l[j]).2) ∧ w1.frozen? ⟨b, off + j * 2, none⟩ = false ∧ w1.frozen? ⟨b, off + j * 2 + 1, none⟩ = false) := hh
  clear hh
  go_wp2
  go_loopw [6] (fun i wr => ∃ k : Nat, k ≤ l.length ∧ i = .int .i64 k ∧ Below w.heap.size w wr ∧ Hid (l = [] ∨ ∃ b off, a = some ⟨b, off, none⟩ ∧ w.heap.size ≤ b ∧ b < wr.heap.size ∧ ∀ j (hj : j < l.length) (hj' : j < m.length), (j < k → wr.cell? ⟨b, off + j * 2, none⟩ = some (.string ⟨(m[j]).1.toArray⟩) ∧ wr.cell? ⟨b, off + j * 2 + 1, none⟩ = some (.int .i64 (m[j]).2)) ∧ (k ≤ j → wr.cell? ⟨b, off + j * 2, none⟩ = some (.string ⟨(l[j]).1.toArray⟩) ∧ wr.cell? ⟨b, off + j * 2 + 1, none⟩ = some (.int .i64 (l[j]).2)) ∧ wr.frozen? ⟨b, off + j * 2, none⟩ = false ∧ wr.frozen? ⟨b, off + j * 2 + 1, none⟩ = false)) (fun i _ => l.length - (intOf i).toNat)
  case atStart =>
    refine ⟨0, Nat.zero_le _, rfl, b1, HO.out.imp id ?_⟩
    rintro ⟨b, off, rfl, hB, hb, hc⟩
    exact ⟨b, off, rfl, hB, hb, fun j hj _ => ⟨fun h => by omega, fun _ => ⟨(hc j hj).1, (hc j hj).2.1⟩, (hc j hj).2.2⟩⟩
  case round =>
    obtain ⟨k, hk, rfl, hbw, HR⟩ := hrel
    have hsz := hbw.size
    by_cases hlt2 : k < l.length
    · have hlt' : (k : Int) < (l.length : Int) := by omega
      have hne : l ≠ [] := fun e => by rw [e] at hlt2; simp at hlt2
      obtain ⟨b, off, rfl, hB, hbr, hrow⟩ := HR.out.resolve_left hne
      have HR2 : Hid (∀ j (hj : j < l.length) (hj' : j < m.length), (j < k → wr.cell? ⟨b, off + j * 2, none⟩ = some (.string ⟨(m[j]).1.toArray⟩) ∧ wr.cell? ⟨b, off + j * 2 + 1, none⟩ = some (.int .i64 (m[j]).2)) ∧ (k ≤ j → wr.cell? ⟨b, off + j * 2, none⟩ = some (.string ⟨(l[j]).1.toArray⟩) ∧ wr.cell? ⟨b, off + j * 2 + 1, none⟩ = some (.int .i64 (l[j]).2)) ∧ wr.frozen? ⟨b, off + j * 2, none⟩ = false ∧ wr.frozen? ⟨b, off + j * 2 + 1, none⟩ = false) := hrow
      obtain ⟨T, V, hTV⟩ : ∃ T V, l[k] = (T, V) := ⟨_, _, rfl⟩
      have hRk := HR2.out k hlt2 (by omega)
      have c0 : wr.cell? ⟨b, off + k * 2, none⟩ = some (.string ⟨T.toArray⟩) := by have := (hRk.2.1 (Nat.le_refl _)).1; rw [hTV] at this; exact this
      have c1 : wr.cell? ⟨b, off + k * 2 + 1, none⟩ = some (.int .i64 V) := by have := (hRk.2.1 (Nat.le_refl _)).2; rw [hTV] at this; exact this
      have f0 := hRk.2.2.1
      have f1 := hRk.2.2.2
      have HOK : Hid (∀ hj' : k < m.length, m[k] = if T = [10] then ([32], 1) else (T, V)) := fun hj' => by rw [HOA'.out k hlt2 hj', hTV]
      clear hRk hTV HR hrow HO
      by_cases h10 : T = [10]
      · have h10' : (T == [10]) = true := by rw [h10]; rfl
        go_wp2
        go_roundw
        case rel =>
          refine ⟨k + 1, by omega, by go_num, (hbw.setCell (p := ⟨b, off + k * 2, none⟩) hB _).setCell (p := ⟨b, off + k * 2 + 1, none⟩) hB _, .inr ⟨b, off, rfl, hB, by simpa using hbr, fun j hj hj' => ?_⟩⟩
          have hR := HR2.out j hj hj'
          simp only [World.frozen?_setCell]
          refine ⟨fun h => ?_, fun h => ?_, hR.2.2⟩
          · by_cases e : j = k
            · subst e
              rw [HOK.out hj', if_pos h10]
              refine ⟨?_, ?_⟩
              · rw [cell_off _ _ _ _ _ (by omega)]
                exact World.cell?_setCell_same' _ _ _ (by rw [c0]; rfl)
              · exact World.cell?_setCell_same' _ _ _ (by rw [cell_off _ _ _ _ _ (by omega)]; rw [c1]; rfl)
            · have h2 := hR.1 (by omega)
              refine ⟨?_, ?_⟩
              · rw [cell_off _ _ _ _ _ (by omega), cell_off _ _ _ _ _ (by omega)]; exact h2.1
              · rw [cell_off _ _ _ _ _ (by omega), cell_off _ _ _ _ _ (by omega)]; exact h2.2
          · have h2 := hR.2.1 (by omega)
            refine ⟨?_, ?_⟩
            · rw [cell_off _ _ _ _ _ (by omega), cell_off _ _ _ _ _ (by omega)]; exact h2.1
            · rw [cell_off _ _ _ _ _ (by omega), cell_off _ _ _ _ _ (by omega)]; exact h2.2
        case measure => simp [intOf]; omega
      · have h10' : (T == [10]) = false := by simpa using h10
        go_wp2
        go_roundw
        case rel =>
          refine ⟨k + 1, by omega, by go_num, hbw, .inr ⟨b, off, rfl, hB, hbr, fun j hj hj' => ?_⟩⟩
          have hR := HR2.out j hj hj'
          refine ⟨fun h => ?_, fun h => hR.2.1 (by omega), hR.2.2⟩
          by_cases e : j = k
          · subst e
            rw [HOK.out hj', if_neg h10]
            exact ⟨c0, c1⟩
          · exact hR.1 (by omega)
        case measure => simp [intOf]; omega
    · have hlt' : ¬ (k : Int) < (l.length : Int) := by omega
      have HCl : Hid (Cls wr (.slice a m.length cap) m) := by
        refine ⟨a, cap, rfl, HR.out.imp (fun e => List.length_eq_zero_iff.1 (by rw [HOL.out, e]; rfl)) ?_⟩
        rintro ⟨b, off, rfl, hB, hb, hc⟩
        exact ⟨b, off, rfl, hb, fun j hj => (hc j (by omega) hj).1 (by omega)⟩
      have HWD : Hid (∀ w, Cls w (.slice a m.length cap) m → Calls Tryd.prog 32 #[.slice a l.length cap] w fun e w' => e = .returned (.int .i64 (wideSum m)) ∧ w' = w) := by
        intro w h; rw [← HOL.out]; exact rwide_any m _ w h HBD.out hml
      have HTX : Hid (∀ w, Cls w (.slice a m.length cap) m → Calls Tryd.prog 33 #[.slice a l.length cap] w fun e w' => e = .returned (.string ⟨(joined m).toArray⟩) ∧ w' = w) := by
        intro w h; rw [← HOL.out]; exact rtext_any m _ w h hml (by omega)
      have HFT : Hid (∀ w, Cls w (.slice a m.length cap) m → Calls Tryd.prog 34 #[.slice a l.length cap, .int .i64 (W - 1)] w fun e w' => e = .returned (.int .i64 (fitN m (W - 1))) ∧ w' = w) := by
        intro w h; rw [← HOL.out]; exact rfitting_any m _ (W - 1) w h HBD.out hml
      clear HR HO
      go_wp2_with fail
      refine (HWD.out _ HCl.out).mono ?_
      rintro e w2 ⟨rfl, rfl⟩
      obtain ⟨X, hX⟩ : ∃ X, wideSum m = X := ⟨_, rfl⟩
      rw [hX] at hwm HC ⊢
      clear hX HWD
      by_cases hall : X ≤ W
      · have HE : Hid (cutL m W = joined m) := by show _ = _; rw [HC.out, if_pos hall]
        go_wp2_with fail
        refine (HTX.out _ HCl.out).mono ?_
        rintro e w3 ⟨rfl, rfl⟩
        go_wp2
        go_ret
        rw [HE.out]
        exact ⟨rfl, hbw⟩
      · have HE : Hid (cutL m W = joined (m.take (fitN m (W - 1))) ++ [226, 128, 166]) := by show _ = _; rw [HC.out, if_neg hall]
        have hne : m ≠ [] := by
          intro e
          have : X ≤ 2 * (m.length : Int) := hwm.2
          rw [e] at this; simp at this; omega
        go_wp2_with fail
        refine (HFT.out _ HCl.out).mono ?_
        rintro e w3 ⟨rfl, rfl⟩
        obtain ⟨g, hg⟩ : ∃ g, fitN m (W - 1) = g := ⟨_, rfl⟩
        rw [hg] at HE hf1 ⊢
        obtain ⟨b, off, rfl, hc⟩ : ∃ b off, a = some ⟨b, off, none⟩ ∧ Cls w3 (.slice a g cap) (m.take g) := by
          obtain ⟨a', cap', e1, hh⟩ := HCl.out
          cases e1
          obtain ⟨b', off', rfl, hb', hc'⟩ := hh.resolve_left hne
          exact ⟨b', off', rfl, cls_take hb' hc' hf1⟩
        have HT : Hid (Cls w3 (.slice (some ⟨b, off, none⟩) g cap) (m.take g)) := hc
        have hjg := HJT.out g
        have hlg : (m.take g).length ≤ 1099511627776 := by rw [List.length_take]; omega
        clear hg HCl hc HTX HFT
        have hgc : (g : Int) ≤ (cap : Int) := by omega
        go_wp2_with fail
        refine (rtext_any (m.take g) _ w3 HT.out hlg (by omega)).mono ?_
        rintro e w4 ⟨rfl, rfl⟩
        obtain ⟨Y, hY⟩ : ∃ Y, joined (m.take g) = Y := ⟨_, rfl⟩
        rw [hY] at HE hjg ⊢
        clear hY HT
        go_wp2_with fail
        refine (written_any 8230 w4).mono ?_
        rw [enc_dots']
        rintro e w5 ⟨rfl, b5⟩
        go_wp2
        go_ret
        rw [HE.out, ← str_app]
        exact ⟨rfl, hbw.trans (b5.mono hsz)⟩

end Go.Proofs.YtbjfckhijjjnkabDoor
