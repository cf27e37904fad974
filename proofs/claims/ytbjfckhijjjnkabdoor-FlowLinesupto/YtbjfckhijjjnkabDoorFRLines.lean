/-
  The walk of paneref.Lines.
-/
import Derived.Test.YtbjfckhijjjnkabDoorFRLine
import Derived.Test.YtbjfckhijjjnkabDoorFRound
namespace Go.Proofs.YtbjfckhijjjnkabDoor
open Go.RowKit
set_option linter.unusedVariables false

theorem infoRLine : (Tryd.prog.info? 32).map (fun i => (i.zero, i.size, i.bytes)) = some (some (.agg #[.string ⟨#[]⟩, .int .i64 0, .int .i64 0, .int .i64 0, .int .i64 0]), 5, 48) := by kernel_rfl

theorem own_belowN {w w' : World} {B n k : Nat} {e : TypeId} {v : Value} {xs : List Value} (h : w.ownsRow B e k v n xs) (hb : Below w.heap.size w w') : w'.ownsRow B e k v n xs := by
  refine ⟨h.1, h.2.imp id ?_⟩
  rintro ⟨g, cap, cur, e1, e2, e3, e4⟩
  exact ⟨g, cap, cur, e1, e2, (hb.block g (Array.getElem?_eq_some_iff.1 e3).1).trans e3, e4⟩
def boolN : Value → Nat
  | .bool true => 1
  | _ => 0
/-- Of no clusters: one line. -/
theorem lnAt_nil (W : Int) (hW : 1 ≤ W) : lnAt [] W 0 = ⟨[], 0, 0, 0, 3⟩ ∧ nxt [] W 0 = 0 := by
  have h1 : ¬ W < 0 := by omega
  constructor
  · simp [lnAt, firstL, fitN, joined, wideSum, h1]
  · simp [nxt, firstL, fitN]

set_option maxRecDepth 100000 in
set_option maxHeartbeats 4000000 in
theorem rline_none (W : Int) (w : World) (hW0 : 1 ≤ W) (hW1 : W ≤ 9223372036854775807) :
    Calls Tryd.prog 24 #[.slice none 0 0, .int .i64 0, .int .i64 W] w fun e w' => e = .returned (.tuple #[.agg #[.string ⟨#[]⟩, .int .i64 0, .int .i64 0, .int .i64 0, .int .i64 3], .int .i64 0]) ∧ Below w.heap.size w w' := by
  have hcl0 : ∀ w' : World, Cls w' (.slice none 0 0) [] := fun w' => ⟨none, 0, rfl, .inl rfl⟩
  have HFT : Hid (∀ w', Calls Tryd.prog 34 #[.slice none 0 0, .int .i64 W] w' fun e w2 => e = .returned (.int .i64 0) ∧ w2 = w') := fun w' => rfitting_any [] _ W w' (hcl0 w') (by simp) (by simp)
  have T1 : Hid (∀ w', Calls Tryd.prog 33 #[.slice none 0 0] w' fun e w2 => e = .returned (.string ⟨#[]⟩) ∧ w2 = w') := fun w' => rtext_any [] _ w' (hcl0 w') (by simp) (by simp [joined])
  have W1 : Hid (∀ w', Calls Tryd.prog 32 #[.slice none 0 0] w' fun e w2 => e = .returned (.int .i64 0) ∧ w2 = w') := fun w' => rwide_any [] _ w' (hcl0 w') (by simp) (by simp)
  have hmx : Tryd.prog.follows .mixedOrders = true := by kernel_rfl
  clear hcl0
  go_enter Tryd.func24, Tryd.ntmps24
  go_wp2_with fail
  refine (HFT.out _).mono ?_
  rintro e w1 ⟨rfl, rfl⟩
  clear HFT
  obtain ⟨w1, hw1⟩ : ∃ w1, w.alloc (.cells #[.string ⟨#[]⟩, .int .i64 0, .int .i64 0, .int .i64 0, .int .i64 0] 32) = w1 := ⟨_, rfl⟩
  have hrow0 : Hid (w1.heap[w.heap.size]? = some (.cells #[.string ⟨#[]⟩, .int .i64 0, .int .i64 0, .int .i64 0, .int .i64 0] 32 (0, 0))) := by show _ = _; rw [← hw1]; exact heap_alloc_new w _
  have hB1 : Below w.heap.size w w1 := by rw [← hw1]; exact (Below.refl _ _).alloc (Nat.le_refl _) _
  have hs1 : w.heap.size < w1.heap.size := by rw [← hw1, World.size_alloc]; omega
  rw [hw1]
  clear hw1
  go_wp2_with fail
  go_cut [10] from 12 to 32 (fun p wx => ∃ B, p = .pointer (some ⟨B, 0, none⟩) ∧ w1.heap.size ≤ B ∧ wx.heap[B]? = some (.cells #[.string ⟨#[]⟩, .int .i64 0, .int .i64 0, .int .i64 0, .int .i64 0] 32 (0, 0)) ∧ Below w1.heap.size w1 wx)
  case first =>
    go_region_with (first | (go_at_call 33; refine (T1.out _).mono ?_; rintro e wq ⟨rfl, rfl⟩) | (go_at_call 32; refine (W1.out _).mono ?_; rintro e wq ⟨rfl, rfl⟩))
    all_goals (go_wp2_with fail)
    all_goals go_meet
    all_goals exact ⟨_, rfl, Nat.le_refl _, heap_alloc_new w1 _, ((Below.refl _ _).alloc (Nat.le_refl _) _).drew⟩
  case rest =>
    obtain ⟨B, rfl, hB, hrow, by2⟩ := hcut
    have hBR : B ≠ w.heap.size := by omega
    have hsy := by2.size
    have hrR : wc.heap[w.heap.size]? = some (.cells #[.string ⟨#[]⟩, .int .i64 0, .int .i64 0, .int .i64 0, .int .i64 0] 32 (0, 0)) := (by2.block _ hs1).trans hrow0.out
    have hRc : w.heap.size < wc.heap.size := by omega
    have q0 : wc.cell? ⟨B, 0, none⟩ = some (.string ⟨#[]⟩) := by simp [World.cell?, hrow]
    have q1 : wc.cell? ⟨B, 1, none⟩ = some (.int .i64 0) := by simp [World.cell?, hrow]
    have q2 : wc.cell? ⟨B, 2, none⟩ = some (.int .i64 0) := by simp [World.cell?, hrow]
    have q3 : wc.cell? ⟨B, 3, none⟩ = some (.int .i64 0) := by simp [World.cell?, hrow]
    have q4 : wc.cell? ⟨B, 4, none⟩ = some (.int .i64 0) := by simp [World.cell?, hrow]
    have fr : ∀ j, wc.frozen? ⟨B, j, none⟩ = false := fun j => frozen_of_row _ _ _ _ _ hrow
    have r0 : wc.cell? ⟨w.heap.size, 0, none⟩ = some (.string ⟨#[]⟩) := by simp [World.cell?, hrR]
    have r1 : wc.cell? ⟨w.heap.size, 1, none⟩ = some (.int .i64 0) := by simp [World.cell?, hrR]
    have r2 : wc.cell? ⟨w.heap.size, 2, none⟩ = some (.int .i64 0) := by simp [World.cell?, hrR]
    have r3 : wc.cell? ⟨w.heap.size, 3, none⟩ = some (.int .i64 0) := by simp [World.cell?, hrR]
    have r4 : wc.cell? ⟨w.heap.size, 4, none⟩ = some (.int .i64 0) := by simp [World.cell?, hrR]
    have frR : ∀ j, wc.frozen? ⟨w.heap.size, j, none⟩ = false := fun j => frozen_of_row _ _ _ _ _ hrR
    have hBc : Below w.heap.size w wc := hB1.trans (by2.mono (by omega))
    have HBl : Hid (w.heap.size ≤ B) := by show w.heap.size ≤ B; omega
    have HZ : Hid ((wc.setCell ⟨B, 4, none⟩ (.int .i64 3)).heap[w.heap.size]? = some (.cells #[.string ⟨#[]⟩, .int .i64 0, .int .i64 0, .int .i64 0, .int .i64 0] 32 (0, 0))) := by
      show _ = _; rw [heap_setCell_other _ _ _ _ (fun e => hBR e.symm)]; exact hrR
    clear hrow hrR T1 W1
    go_wp2
    try simp only [Exit.inBlock, Exit.then]
    refine bodyPost_ret (results_line rfl _ _ _ w.heap.size _ rfl (run_loadVar_row _ _ _ _ _ _ _ (row5 HZ.out) Tryd.underlying32 rfl (by kernel_rfl))) rfl ?_
    refine ⟨rfl, ?_⟩
    have h := hBc.setCell (p := ⟨B, 4, none⟩) HBl.out (.int .i64 3)
    exact ((((h.setCell (p := ⟨w.heap.size, 0, none⟩) (Nat.le_refl _) _).setCell (p := ⟨w.heap.size, 1, none⟩) (Nat.le_refl _) _).setCell (p := ⟨w.heap.size, 2, none⟩) (Nat.le_refl _) _).setCell (p := ⟨w.heap.size, 3, none⟩) (Nat.le_refl _) _).setCell (p := ⟨w.heap.size, 4, none⟩) (Nat.le_refl _) _

/-- paneref.line at every clusters of the call's own. -/
theorem rline_any (l : List (List UInt8 × Int)) (B0 : Nat) (v : Value) (a : Nat) (W : Int) (w : World) (ho : w.ownsRow B0 57 2 v l.length (cCells l))
    (ha : a ≤ l.length) (hbd : ∀ c ∈ l, 0 ≤ c.2 ∧ c.2 ≤ 2) (hsh : ∀ c ∈ l, c.1.length ≤ 20) (hlen : l.length ≤ 68719476736) (hW0 : 1 ≤ W) (hW1 : W ≤ 9223372036854775807) :
    Calls Tryd.prog 24 #[v, .int .i64 a, .int .i64 W] w fun e w' => e = .returned (.tuple #[.agg #[.string ⟨(lnAt l W a).T.toArray⟩, .int .i64 (lnAt l W a).W, .int .i64 (lnAt l W a).F, .int .i64 (lnAt l W a).N, .int .i64 (lnAt l W a).E], .int .i64 (nxt l W a)]) ∧ Below w.heap.size w w' := by
  have hO := clsO_own ho
  rcases ho.2 with ⟨rfl, h0⟩ | ⟨g, cap, cur, rfl, _, hg, hcap, _⟩
  · have hl : l = [] := List.length_eq_zero_iff.1 h0
    subst hl
    obtain rfl : a = 0 := by simpa using ha
    obtain ⟨e1, e2⟩ := lnAt_nil W hW0
    rw [e1, e2]
    exact rline_none W w hW0 hW1
  · obtain ⟨a', cap', e1, _, _, hh⟩ := hO
    cases e1
    have hgl := (Array.getElem?_eq_some_iff.1 hg).1
    rcases hh with hz | ⟨b, off, e2, _, hb, hc⟩
    · subst hz
      exact rline_some [] g 0 cap a W w hgl hcap (fun j hj => by simp at hj) ha hbd hsh hlen hW0 hW1
    · cases e2
      exact rline_some l g 0 cap a W w hgl hcap (fun j hj => ⟨(hc j hj).1, (hc j hj).2.1⟩) ha hbd hsh hlen hW0 hW1

set_option maxRecDepth 100000 in
set_option maxHeartbeats 4000000 in
theorem rlines_any (s : ByteArray) (W : Int) (w : World) (hs : s.size ≤ 68719476736) (hW0 : -9223372036854775808 ≤ W) (hW1 : W ≤ 9223372036854775807) :
    Calls Tryd.prog 12 #[.string s, .int .i64 W] w fun e w' => ∃ v, e = .returned v ∧ w'.ownsRow w.heap.size 32 5 v (linesOf (clus (runes s.data.toList)) W).length (lCells (linesOf (clus (runes s.data.toList)) W)) ∧ Below w.heap.size w w' := by
  obtain ⟨i0, hi, hz0, hz1, hz2⟩ := info_parts infoRLine
  have hsl : s.data.toList.length = s.size := by rw [Array.length_toList]; rfl
  have hR := runes_length s.data.toList
  have hC := clus_length (runes s.data.toList)
  rw [hsl] at hR
  have hbd := clus_wide (runes s.data.toList)
  have hsh := clus_short (runes s.data.toList)
  have G : Hid (Calls Tryd.prog 23 #[.string s] w fun e w' => ∃ v, e = .returned v ∧ w'.ownsRow w.heap.size 57 2 v (clus (runes s.data.toList)).length (cCells (clus (runes s.data.toList))) ∧ Below w.heap.size w w') := rClusters_any s w (by omega)
  obtain ⟨l, hl⟩ : ∃ l, clus (runes s.data.toList) = l := ⟨_, rfl⟩
  rw [hl] at hC hbd hsh G ⊢
  have HBD : Hid (∀ c ∈ l, 0 ≤ c.2 ∧ c.2 ≤ 2) := hbd
  have HSH : Hid (∀ c ∈ l, c.1.length ≤ 20) := hsh
  clear hl hsl hbd hsh
  by_cases hlt : W < 1
  · have HE : Hid (linesOf l W = []) := by show _ = _; rw [linesOf, if_pos hlt]
    go_enter Tryd.func12, Tryd.ntmps12
    go_wp2
    go_ret
    rw [HE.out]
    exact ⟨_, rfl, World.ownsRow_nil _ _ _ _, Below.refl _ _⟩
  have hW1' : 1 ≤ W := by omega
  have HE : Hid (linesOf l W = linesA l W 0) := by show _ = _; rw [linesOf, if_neg hlt]
  have hLl := (linesA_length l W 0 (Nat.zero_le _)).2
  go_enter Tryd.func12, Tryd.ntmps12
  go_wp2_with fail
  refine G.out.mono ?_
  rintro e w1 ⟨v1, rfl, o1, b1⟩
  have HO : Hid (w1.ownsRow w.heap.size 57 2 v1 l.length (cCells l)) := o1
  have hs1 := b1.size
  clear G o1
  go_wp2
  go_loopw [6, 7, 8] (fun o p m wr => ∃ (pre : List Ln) (a : Nat), wr.ownsRow w1.heap.size 32 5 o pre.length (lCells pre) ∧ Below w1.heap.size w1 wr ∧ p = .int .i64 a ∧ a ≤ l.length ∧ ((m = .bool true ∧ Hid (pre ++ linesA l W a = linesA l W 0)) ∨ (m = .bool false ∧ Hid (pre = linesA l W 0)))) (fun _ p m _ => 2 * (l.length + 1 - (intOf p).toNat) + boolN m)
  case atStart => exact ⟨[], 0, World.ownsRow_nil _ _ _ _, Below.refl _ _, rfl, Nat.zero_le _, .inl ⟨rfl, rfl⟩⟩
  case round =>
    obtain ⟨pre, a, hown, hbw, rfl, ha, hst⟩ := hrel
    have hsz := hbw.size
    rcases hst with ⟨rfl, hpre⟩ | ⟨rfl, hpre⟩
    · have hpl : pre.length < l.length + 1 := by
        have := congrArg List.length hpre.out
        have h2 := (linesA_length l W a ha).1
        rw [List.length_append] at this
        omega
      have HLC : Hid (Calls Tryd.prog 24 #[v1, .int .i64 a, .int .i64 W] wr fun e w' => e = .returned (.tuple #[.agg #[.string ⟨(lnAt l W a).T.toArray⟩, .int .i64 (lnAt l W a).W, .int .i64 (lnAt l W a).F, .int .i64 (lnAt l W a).N, .int .i64 (lnAt l W a).E], .int .i64 (nxt l W a)]) ∧ Below wr.heap.size wr w') :=
        rline_any l _ v1 a W wr (own_belowN HO.out hbw) ha HBD.out HSH.out (by omega) hW1' hW1
      have hnl := nxt_le l W a ha
      have HNL : Hid ((lnAt l W a).E ≠ 3 → a < nxt l W a) := nxt_lt l W a
      have HST : Hid (linesA l W a = if (lnAt l W a).E = 3 then [lnAt l W a] else lnAt l W a :: linesA l W (nxt l W a)) := by
        show _ = _
        by_cases h : (lnAt l W a).E = 3
        · rw [if_pos h, linesA_end ha h]
        · rw [if_neg h, linesA_step ha h]
      have hgea : a ≤ nxt l W a := by unfold nxt; omega
      obtain ⟨⟨T, V, F, N, E⟩, hx⟩ : ∃ x, lnAt l W a = x := ⟨_, rfl⟩
      rw [hx] at HLC HNL HST
      simp only at HLC HNL HST
      obtain ⟨m, hm⟩ : ∃ m, nxt l W a = m := ⟨_, rfl⟩
      rw [hm] at HLC HNL HST hnl hgea
      clear hx hm
      go_wp2_with fail
      refine HLC.out.mono ?_
      rintro e w2 ⟨rfl, b2⟩
      have hs2 := b2.size
      have hown2 := own_belowN hown b2
      have hB2 : Below w1.heap.size w1 w2 := hbw.trans (b2.mono hsz)
      clear b2 HLC hown hbw
      go_wp2_with (at_builtin; refine wpList_append_own _ rfl _ _ 28 rfl w1.heap.size 32 i0 (.agg #[.string ⟨#[]⟩, .int .i64 0, .int .i64 0, .int .i64 0, .int .i64 0]) 5 48 Tryd.underlying28 hi hz0 hz1 hz2 rfl (by decide) _ _ _ rfl ((hown2.alloc _).alloc _) _ 1 1 (lnCells ⟨T, V, F, N, E⟩) rfl rfl ?c1 ?c2 ?c3 ?c4 ?c5 ?_)
      case c1 => have := new_five (w2.alloc (.cells #[.string ⟨T.toArray⟩, .int .i64 V, .int .i64 F, .int .i64 N, .int .i64 E] 32)) ⟨T, V, F, N, E⟩ 32; rw [World.size_alloc] at this; exact this
      case c2 => intro u hu; simp [lnCells] at hu; rcases hu with rfl | rfl | rfl | rfl | rfl <;> rfl
      case c3 => unfold maxLen; omega
      case c4 => omega
      case c5 => rw [World.size_alloc, World.size_alloc]; omega
      intro v' w3 hown' hg _
      have hrow : ∀ q, Value.ownBlock u6 = some q → w1.heap.size ≤ q := fun q hq => (hown2.lt q hq).1
      have hs12 : w1.heap.size ≤ w2.heap.size := hB2.size
      have hne9 : ∀ q, Value.ownBlock u6 = some q → q < w2.heap.size := fun q hq => (hown2.lt q hq).2
      have hB3 : Below w1.heap.size w1 w3 := ((hB2.alloc hs12 _).alloc (by rw [World.size_alloc]; omega) _).grown hg (by rw [World.size_alloc, World.size_alloc]; omega) hrow
      have hx4 : w3.cell? ⟨w2.heap.size, 4, none⟩ = some (.int .i64 E) := by
        have h1 : (⟨w2.heap.size, 4, none⟩ : Addr).block < ((w2.alloc (.cells #[.string ⟨T.toArray⟩, .int .i64 V, .int .i64 F, .int .i64 N, .int .i64 E] 32)).alloc (.cells (lnCells ⟨T, V, F, N, E⟩).toArray 32)).heap.size := by rw [World.size_alloc, World.size_alloc]; show w2.heap.size < _; omega
        have h2 := World.cell?_of_block (a := ⟨w2.heap.size, 4, none⟩) (hg.block w2.heap.size h1 (fun e => by have := hne9 _ e.symm; omega))
        refine h2.trans ?_
        have h3 := World.cell?_of_block (a := ⟨w2.heap.size, 4, none⟩) (((Below.refl _ (w2.alloc (.cells #[.string ⟨T.toArray⟩, .int .i64 V, .int .i64 F, .int .i64 N, .int .i64 E] 32))).alloc (Nat.le_refl _) (.cells (lnCells ⟨T, V, F, N, E⟩).toArray 32)).block w2.heap.size (by rw [World.size_alloc]; omega))
        refine h3.trans ?_
        simp
      clear hg hrow hown2 hB2 hne9
      by_cases h3 : E = 3
      · have HF : Hid (pre ++ [⟨T, V, F, N, E⟩] = linesA l W 0) := by show _ = _; rw [← hpre.out, HST.out, if_pos h3]
        subst h3
        go_wp2
        go_roundw
        case rel => exact ⟨pre ++ [⟨T, V, F, N, 3⟩], m, by rw [List.length_append, lCells_snoc]; exact hown', hB3, rfl, hnl, .inr ⟨rfl, HF⟩⟩
        case measure => simp [intOf, boolN]; omega
      · have HF : Hid ((pre ++ [⟨T, V, F, N, E⟩]) ++ linesA l W m = linesA l W 0) := by show _ = _; rw [← hpre.out, HST.out, if_neg h3]; simp
        have hlt2 := HNL.out h3
        have hb3 : (E != 3) = true := by simpa using h3
        go_wp2
        go_roundw
        case rel => exact ⟨pre ++ [⟨T, V, F, N, E⟩], m, by rw [List.length_append, lCells_snoc]; exact hown', hB3, rfl, hnl, .inl ⟨rfl, HF⟩⟩
        case measure => simp [intOf, boolN]; omega
    · go_wp2
      go_ret
      rw [HE.out, ← hpre.out]
      exact ⟨_, rfl, ownsRow_base hown hs1, b1.trans (hbw.mono hs1)⟩

end Go.Proofs.YtbjfckhijjjnkabDoor
