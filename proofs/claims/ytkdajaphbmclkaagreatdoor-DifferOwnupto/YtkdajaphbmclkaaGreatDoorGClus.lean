/-
  The walk of glyph.Clusters.
-/
import Derived.Test.YtkdajaphbmclkaaGreatDoorFirst
namespace Go.Proofs.YtkdajaphbmclkaaGreatDoor
open Go.RowKit
set_option linter.unusedVariables false

theorem first_any (R : List Int) (v : Value) (w : World) (ht : TabAt w) (hne : R ≠ []) (hlen : R.length ≤ 17592186044416) (h : Ints w v R) :
    Calls Tryz.prog 83 #[v] w fun e w' => e = .returned (.tuple #[.agg #[.string ⟨(cText R).toArray⟩, .int .i64 (cWide R)], .int .i64 (cNum R)]) ∧ Below w.heap.size w w' := by
  obtain ⟨a, cap, rfl, hh⟩ := h
  obtain ⟨b, off, rfl, hb, hc⟩ := hh.resolve_left hne
  match R, hne with
  | r :: t, hne =>
    by_cases h10 : r = 10
    · have := first_ten (r :: t) b off cap w hne hb hc (by simpa using h10)
      simp only [cText, cWide, cNum, if_pos h10]
      exact this
    · by_cases hm : isMk r = true
      · have e1 : cOwn (r :: t) = 0 := by simp only [cOwn, if_pos hm]
        have e2 : cBase (r :: t) = 32 := by simp only [cBase, if_pos hm]
        have e3 : cMarks (r :: t) = mks (r :: t) := by unfold cMarks; rw [e1]; rfl
        simp only [cText, cWide, cNum, if_neg h10, e1, e2, e3]
        exact first_mark (r :: t) r b off cap w ht hne hlen hb hc rfl (r :: t) rfl h10 hm _ rfl _ rfl _ rfl
      · have e1 : cOwn (r :: t) = 1 := by simp only [cOwn, if_neg hm]
        have e2 : cBase (r :: t) = r := by simp only [cBase, if_neg hm]
        have e3 : cMarks (r :: t) = mks t := by unfold cMarks; rw [e1]; rfl
        simp only [cText, cWide, cNum, if_neg h10, e1, e2, e3]
        exact first_base (r :: t) r b off cap w ht hne hlen hb hc rfl t rfl h10 (by simpa using hm) _ rfl _ rfl _ rfl

/-- Clusters as cells. -/
def cCells (l : List (List UInt8 × Int)) : List Value := l.flatMap fun c => [.string ⟨c.1.toArray⟩, .int .i64 c.2]
theorem cCells_append (a b : List (List UInt8 × Int)) : cCells (a ++ b) = cCells a ++ cCells b := by simp [cCells]
theorem infoCluster : (Tryz.prog.info? 51).map (fun i => (i.zero, i.size, i.bytes)) = some (some (.agg #[.string ⟨#[]⟩, .int .i64 0]), 2, 24) := by kernel_rfl

def lenOfV : Value → Nat
  | .slice _ n _ => n
  | _ => 0
/-- A list of numbers in memory, with its capacity. -/
def IntsC (w : World) (v : Value) (zs : List Int) : Prop :=
  ∃ a cap, v = .slice a zs.length cap ∧ zs.length ≤ cap ∧ cap ≤ maxLen ∧ (zs = [] ∨ ∃ b off, a = some ⟨b, off, none⟩ ∧ b < w.heap.size ∧ ∀ j, j < zs.length → w.cell? ⟨b, off + j, none⟩ = some (.int .i64 (zs[j]?.getD 0)))
theorem intsC_own {w : World} {B n : Nat} {v : Value} {zs : List Int} (h : w.ownsRow B 3 1 v n (zs.map (Value.int .i64))) : IntsC w v zs := by
  have hl : zs.length = n := by have := h.1; simpa using this
  obtain ⟨a, cap, hv, hh⟩ := ints_own' h
  rcases h.2 with ⟨rfl, rfl⟩ | ⟨g, cap', cur, rfl, _, hg, h1, h2, _⟩
  · have hz : zs = [] := List.length_eq_zero_iff.1 hl
    subst hz
    exact ⟨none, 0, rfl, Nat.le_refl _, by unfold maxLen; omega, .inl rfl⟩
  · simp only [Value.slice.injEq] at hv
    obtain ⟨rfl, _, rfl⟩ := hv
    exact ⟨_, _, by rw [hl], by omega, h2, hh⟩
theorem own_below2 {w w' : World} {B n size : Nat} {e : TypeId} {v : Value} {xs : List Value} (h : w.ownsRow B e size v n xs) (hb : Below w.heap.size w w') : w'.ownsRow B e size v n xs := by
  refine ⟨h.1, ?_⟩
  rcases h.2 with h2 | ⟨g, cap, cur, a, b, c, d⟩
  · exact .inl h2
  · exact .inr ⟨g, cap, cur, a, b, by rw [hb.block g (Array.getElem?_eq_some_iff.1 c).1]; exact c, d⟩

theorem intsC_drop {w : World} {b off cap n : Nat} {zs : List Int} (hn : n ≤ zs.length) (hcap : zs.length ≤ cap) (hmax : cap ≤ maxLen) (hb : b < w.heap.size) (hc : ∀ j, j < zs.length → w.cell? ⟨b, off + j, none⟩ = some (.int .i64 (zs[j]?.getD 0))) :
    IntsC w (.slice (if cap = n then some ⟨b, off, none⟩ else some ⟨b, off + n, none⟩) (zs.length - n) (cap - n)) (zs.drop n) := by
  refine ⟨_, _, by rw [List.length_drop], by rw [List.length_drop]; omega, by omega, ?_⟩
  by_cases e : cap = n
  · left; exact List.drop_eq_nil_of_le (by omega)
  · right
    rw [if_neg e]
    refine ⟨b, off + n, rfl, hb, fun j hj => ?_⟩
    rw [List.length_drop] at hj
    rw [Nat.add_assoc, hc (n + j) (by omega), List.getElem?_drop]

set_option maxRecDepth 100000 in
set_option maxHeartbeats 2000000 in
theorem gClusters_any (s : ByteArray) (w : World) (ht : TabAt w) (hs : s.size ≤ 1099511627776) :
    Calls Tryz.prog 69 #[.string s] w fun e w' => ∃ v, e = .returned v ∧ w'.ownsRow w.heap.size 51 2 v (clus (runes s.data.toList)).length (cCells (clus (runes s.data.toList))) ∧ Below w.heap.size w w' := by
  obtain ⟨i0, hi, hz0, hz1, hz2⟩ := info_parts infoCluster
  have HT : Hid (TabAt w) := ht
  clear ht
  have hR := runes_length s.data.toList
  have hsl : s.data.toList.length = s.size := by rw [Array.length_toList]; rfl
  rw [hsl] at hR
  go_enter Tryz.func69, Tryz.ntmps69
  go_wp2_with fail
  refine (gDecode_any s _ (by omega)).mono ?_
  rintro e w1 ⟨v1, rfl, o1, b1⟩
  obtain ⟨R, hRe⟩ : ∃ R, runes s.data.toList = R := ⟨_, rfl⟩
  rw [hRe] at o1 hR
  have HRe : Hid (runes s.data.toList = R) := hRe
  have I1 : Hid (IntsC w1 v1 R) := intsC_own o1
  have HT1 : Hid (TabAt w1) := HT.out.below b1
  clear o1 hRe hsl
  have hs1 := b1.size
  go_wp2
  go_loopw [3, 4] (fun v rest wr => ∃ (R' : List Int) (acc : List (List UInt8 × Int)), Hid (IntsC w1 rest R') ∧ wr.ownsRow w1.heap.size 51 2 v acc.length (cCells acc) ∧ Below w1.heap.size w1 wr ∧ Hid (acc ++ clus R' = clus R) ∧ acc.length + R'.length ≤ R.length) (fun _ rest _ => lenOfV rest)
  case atStart => exact ⟨R, [], I1.out, World.ownsRow_nil _ _ _ _, Below.refl _ _, rfl, by simp⟩
  case round =>
    obtain ⟨R', acc, hI, hown, hbw, hacc, hlen⟩ := hrel
    obtain ⟨a, cap, rfl, hcap, hmax, hh⟩ := hI.out
    by_cases hne : R' = []
    · subst hne
      have e := hacc.out
      rw [clus_nil, List.append_nil] at e
      have HE : Hid (acc = clus R) := e
      clear e hh hI hacc
      go_wp2
      go_ret
      rw [HRe.out, ← HE.out]
      exact ⟨_, rfl, ownsRow_base hown hs1, b1.trans (hbw.mono hs1)⟩
    · have hp : 0 < R'.length := List.length_pos_iff.2 hne
      have hp' : (0 : Int) < (R'.length : Int) := by omega
      obtain ⟨b, off, rfl, hb, hc⟩ := hh.resolve_left hne
      have hsz := hbw.size
      have F : Hid (Calls Tryz.prog 83 #[.slice (some ⟨b, off, none⟩) R'.length cap] wr fun e w' => e = .returned (.tuple #[.agg #[.string ⟨(cText R').toArray⟩, .int .i64 (cWide R')], .int .i64 (cNum R')]) ∧ Below wr.heap.size wr w') :=
        first_any R' _ wr (HT1.out.below hbw) hne (by omega) ⟨_, cap, rfl, .inr ⟨b, off, rfl, by omega, fun j hj => (hbw.cell (p := ⟨b, off + j, none⟩) hb).trans (hc j hj)⟩⟩
      have hnl := cNum_le R'
      have hn1 := cNum_pos hne
      have HS : Hid ((acc ++ [(cText R', cWide R')]) ++ clus (R'.drop (cNum R')) = clus R) := by
        show _ = _; rw [← hacc.out, clus_step hne]; simp
      obtain ⟨T, hT⟩ : ∃ T, cText R' = T := ⟨_, rfl⟩
      obtain ⟨W, hW⟩ : ∃ W, cWide R' = W := ⟨_, rfl⟩
      obtain ⟨n, hn⟩ : ∃ n, cNum R' = n := ⟨_, rfl⟩
      rw [hT, hW, hn] at F
      rw [hT, hW, hn] at HS
      rw [hn] at hnl hn1
      have HC : Hid (∀ j, j < R'.length → w1.cell? ⟨b, off + j, none⟩ = some (.int .i64 (R'[j]?.getD 0))) := hc
      unfold maxLen at hmax
      clear hT hW hn hacc hI hh hc hne
      go_wp2_with fail
      refine F.out.mono ?_
      rintro e w2 ⟨rfl, b2⟩
      have hs2 := b2.size
      have hown2 := own_below2 hown b2
      have hB2 : Below w1.heap.size w1 w2 := hbw.trans (b2.mono hsz)
      clear b2 F hown hbw
      go_wp2_with (at_builtin; refine wpList_append_own _ rfl _ _ 125 rfl w1.heap.size 51 i0 (.agg #[.string ⟨#[]⟩, .int .i64 0]) 2 24 Tryz.underlying125 hi hz0 hz1 hz2 rfl (by decide) _ _ _ rfl ((hown2.alloc _).alloc _) _ 1 1 [.string ⟨T.toArray⟩, .int .i64 W] rfl rfl ?c1 ?c2 ?c3 ?c4 ?c5 ?_)
      case c1 => have := cell_two_new (w2.alloc (.cells #[.string ⟨T.toArray⟩, .int .i64 W] 51)) (.string ⟨T.toArray⟩) (.int .i64 W) 51; rw [World.size_alloc] at this; exact this
      case c2 => intro u hu; simp at hu; rcases hu with rfl | rfl <;> rfl
      case c3 => unfold maxLen; omega
      case c4 => omega
      case c5 => rw [World.size_alloc, World.size_alloc]; omega
      intro v' w3 hown' hg _
      have hrow : ∀ q, Value.ownBlock u3 = some q → w1.heap.size ≤ q := fun q hq => (hown2.lt q hq).1
      have hs12 : w1.heap.size ≤ w2.heap.size := hB2.size
      have hB3 : Below w1.heap.size w1 w3 := ((hB2.alloc hs12 _).alloc (by rw [World.size_alloc]; omega) _).grown hg (by rw [World.size_alloc, World.size_alloc]; omega) hrow
      clear hg hrow hown2 hB2
      have hnl' : (n : Int) ≤ (R'.length : Int) := by omega
      have hcl' : (R'.length : Int) ≤ (cap : Int) := by omega
      have HD : Hid (IntsC w1 (.slice (if cap = n then some ⟨b, off, none⟩ else some ⟨b, off + n, none⟩) (R'.length - n) (cap - n)) (R'.drop n)) := intsC_drop hnl hcap (by unfold maxLen; exact hmax) hb HC.out
      go_wp2
      go_roundw
      case rel =>
        refine ⟨R'.drop n, acc ++ [(T, W)], HD.out, ?_, hB3, HS.out, by rw [List.length_append, List.length_drop]; simp; omega⟩
        rw [List.length_append, cCells_append]; exact hown'
      case measure => show R'.length - n < R'.length; omega

end Go.Proofs.YtkdajaphbmclkaaGreatDoor
