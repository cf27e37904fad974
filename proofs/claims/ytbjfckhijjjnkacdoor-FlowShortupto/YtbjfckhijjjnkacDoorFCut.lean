/-
  The walk of flow.Cut.
-/
import Derived.Test.YtbjfckhijjjnkacDoorFLine
namespace Go.Proofs.YtbjfckhijjjnkacDoor
open Go.RowKit
set_option linter.unusedVariables false

/-- F4, of the clusters in one line. -/
def cutL (m : List (List UInt8 × Int)) (W : Int) : List UInt8 := if W < 1 then [] else if wideSum m ≤ W then joined m else joined (m.take (fitN m (W - 1))) ++ [226, 128, 166]

set_option maxRecDepth 100000 in
set_option maxHeartbeats 2000000 in
theorem cut_any (s : ByteArray) (W : Int) (w : World) (ht : TabAt w) (hs : s.size ≤ 1099511627776) (hW0 : -9223372036854775808 ≤ W) (hW1 : W ≤ 9223372036854775807) :
    Calls Tryd.prog 10 #[.string s, .int .i64 W] w fun e w' => e = .returned (.string ⟨(cutL (one (clus (runes s.data.toList))) W).toArray⟩) ∧ Below w.heap.size w w' := by
  have hsl : s.data.toList.length = s.size := by rw [Array.length_toList]; rfl
  have hR := runes_length s.data.toList
  have hC := clus_length (runes s.data.toList)
  rw [hsl] at hR
  by_cases hlt : W < 1
  · have HE : Hid (cutL (one (clus (runes s.data.toList))) W = []) := by show _ = _; rw [cutL, if_pos hlt]
    go_enter Tryd.func10, Tryd.ntmps10
    go_wp2
    go_ret
    rw [HE.out]
    exact ⟨rfl, Below.refl _ _⟩
  have hol := one_length (clus (runes s.data.toList))
  have hbd := one_wide (clus_wide (runes s.data.toList))
  have h10 := one_ten (clus (runes s.data.toList))
  have hjb := joined_bd _ (one_short (clus_short (runes s.data.toList)))
  have G : Hid (Calls Tryd.prog 15 #[.string s] w fun e w' => ∃ v, e = .returned v ∧ ClsO w.heap.size w' v (one (clus (runes s.data.toList))) ∧ Below w.heap.size w w') := inOneLine_any s w ht hs
  obtain ⟨m, hm⟩ : ∃ m, one (clus (runes s.data.toList)) = m := ⟨_, rfl⟩
  rw [hm] at hol hbd h10 hjb G ⊢
  have hfa := fit_all m W hbd h10 (by omega)
  have hf1 := fitN_le m (W - 1)
  have hml : m.length ≤ 1099511627776 := by omega
  have HC : Hid (cutL m W = if wideSum m ≤ W then joined m else joined (m.take (fitN m (W - 1))) ++ [226, 128, 166]) := by show _ = _; rw [cutL, if_neg hlt]
  have HBD : Hid (∀ c ∈ m, 0 ≤ c.2 ∧ c.2 ≤ 2) := hbd
  have HJT : Hid (∀ k, (joined (m.take k)).length ≤ (joined m).length) := fun k => joined_take_le m k
  clear hm hsl hC hbd h10 ht hol
  go_enter Tryd.func10, Tryd.ntmps10
  go_wp2_with fail
  refine G.out.mono ?_
  rintro e w1 ⟨v1, rfl, co, b1⟩
  have HCC : Hid (ClsC w1 v1 m) := co.clsC
  obtain ⟨a, cap, rfl, hcap, hmax, hh⟩ := co
  clear G
  go_wp2_with fail
  refine (fitting_any m _ W w1 HCC.out.cls HBD.out hml hW0 hW1).mono ?_
  rintro e w2 ⟨rfl, b2⟩
  have HC2 : Hid (ClsC w2 (.slice a m.length cap) m) := HCC.out.below b2
  have hfw := fitN_le m W
  obtain ⟨f, hf⟩ : ∃ f, fitN m W = f := ⟨_, rfl⟩
  rw [hf] at hfa hfw ⊢
  clear hf HCC
  by_cases hall : f = m.length
  · have HE : Hid (cutL m W = joined m) := by show _ = _; rw [HC.out, if_pos (hfa.1 hall)]
    subst hall
    clear hfa hh
    go_wp2_with fail
    refine (textOf_any m _ w2 HC2.out.cls hml (by omega)).mono ?_
    rintro e w3 ⟨rfl, b3⟩
    go_wp2
    go_ret
    rw [HE.out]
    exact ⟨rfl, b1.trans ((b2.mono b1.size).trans (b3.mono (Nat.le_trans b1.size b2.size)))⟩
  · have HE : Hid (cutL m W = joined (m.take (fitN m (W - 1))) ++ [226, 128, 166]) := by show _ = _; rw [HC.out, if_neg (fun h => hall (hfa.2 h))]
    have hne : m ≠ [] := fun e => by rw [e] at hall hfw; simp at hall hfw; omega
    obtain ⟨b, off, rfl, hB, hb, hc⟩ := hh.resolve_left hne
    have hall' : ¬ (f : Int) = (m.length : Int) := by omega
    clear hfa hh hc
    go_wp2_with fail
    refine (fitting_any m _ (W - 1) w2 HC2.out.cls HBD.out hml (by omega) (by omega)).mono ?_
    rintro e w3 ⟨rfl, b3⟩
    have HC3 : Hid (ClsC w3 (.slice (some ⟨b, off, none⟩) m.length cap) m) := HC2.out.below b3
    obtain ⟨g, hg⟩ : ∃ g, fitN m (W - 1) = g := ⟨_, rfl⟩
    rw [hg] at HE hf1 ⊢
    have HT : Hid (Cls w3 (.slice (some ⟨b, off, none⟩) g cap) (m.take g)) := by
      obtain ⟨a', cap', e1, _, _, hh⟩ := HC3.out
      cases e1
      obtain ⟨b', off', e2, hb', hc'⟩ := hh.resolve_left hne
      cases e2
      exact cls_take hb' hc' hf1
    have hjg := HJT.out g
    have hlg : (m.take g).length ≤ 1099511627776 := by rw [List.length_take]; omega
    clear hg HC2 HC3
    have hgc : (g : Int) ≤ (cap : Int) := by omega
    go_wp2_with fail
    refine (textOf_any (m.take g) _ w3 HT.out hlg (by omega)).mono ?_
    rintro e w4 ⟨rfl, b4⟩
    obtain ⟨Y, hY⟩ : ∃ Y, joined (m.take g) = Y := ⟨_, rfl⟩
    rw [hY] at HE hjg ⊢
    clear hY HT
    go_wp2
    go_ret
    rw [HE.out, ← str_app]
    have s1 := b1.size; have s2 := b2.size; have s3 := b3.size
    exact ⟨rfl, b1.trans ((b2.mono s1).trans ((b3.mono (by omega)).trans (b4.mono (by omega))))⟩

end Go.Proofs.YtbjfckhijjjnkacDoor
