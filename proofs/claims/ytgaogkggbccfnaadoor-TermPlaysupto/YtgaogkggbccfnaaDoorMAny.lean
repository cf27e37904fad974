/-
  The byte amid a rune, whichever it is.
-/
import Derived.Test.YtgaogkggbccfnaaDoorMOut
namespace Go.Proofs.YtgaogkggbccfnaaDoor
open Go.RowKit Go.Sort
set_option linter.unusedVariables false

theorem Ti.clr {s : Tm} (h : Ti s) : Ti { s with r := clr s.r } := ⟨h.x0, h.x1, h.y0, h.y1, by show (0 : Int) ≤ 0; decide, by show (0 : Int) ≤ 4; decide, by show ((⟨#[]⟩ : ByteArray).size : Int) ≤ 4 + 4 * 0; decide⟩
theorem Ti.mark {s : Tm} (h : Ti s) (mk : ByteArray) (hm : mk.size ≤ 4) : Ti (markT s mk) := by
  unfold markT
  split
  · exact h
  · rename_i hn
    have h1 := h.m0
    have h2 := h.m1
    have h3 := h.ts
    refine ⟨h.x0, h.x1, h.y0, h.y1, ?_, ?_, ?_⟩
    · show 0 ≤ s.r.lm + 1; omega
    · show s.r.lm + 1 ≤ 4; omega
    · show ((s.r.lt ++ mk).size : Int) ≤ 4 + 4 * (s.r.lm + 1)
      rw [ByteArray.size_append]; omega
theorem Ti.pr {s : Tm} (h : Ti s) (r : Int) : Ti (prT s r) := by
  have hs := enc_one_size r
  have hw := wid_bd r
  unfold prT
  split
  · exact h.mark _ hs
  · split
    · exact h.clr
    · rename_i h1 h2
      have hx0 := h.x0
      refine ⟨?_, ?_, h.y0, h.y1, by show (0 : Int) ≤ 0; decide, by show (0 : Int) ≤ 4; decide, ?_⟩
      · show 0 ≤ s.r.x + wid r; omega
      · show s.r.x + wid r ≤ (s.W : Int); omega
      · show ((⟨(enc [r]).toArray⟩ : ByteArray).size : Int) ≤ 4 + 4 * 0; omega
def prsT (s : Tm) : List Int → Tm
  | [] => s
  | r :: R => prsT (prT s r) R
theorem prsT_app (s : Tm) (R : List Int) (r : Int) : prsT s (R ++ [r]) = prT (prsT s R) r := by
  induction R generalizing s with
  | nil => rfl
  | cons a R ih => exact ih (prT s a)
theorem Ti.prs {s : Tm} (h : Ti s) : ∀ R : List Int, Ti (prsT s R)
  | [] => h
  | r :: R => Ti.prs (h.pr r) R
/-- A byte that comes behind h. -/
def amA (s : Tm) (h : ByteArray) (b : UInt8) : Tm × St := if full (h ++ ⟨#[b]⟩).data.toList ∧ (runes (h ++ ⟨#[b]⟩).data.toList).length ≠ 1 then outT (prsT s (runes h.data.toList)) b else amT s (h ++ ⟨#[b]⟩)

/-- The tables' blocks are not the terminal's. -/
structure Far (T M : Nat) : Prop where
  a : 2 ≠ T ∧ 2 ≠ M
  b : 0 ≠ T ∧ 0 ≠ M
  c : 1 ≠ T ∧ 1 ≠ M
theorem TabAt.c2 {w w' : World} {T M : Nat} (h : TabAt w) (g : C2 T M w w') (f : Far T M) : TabAt w' := by
  have hl : 2 < w.heap.size := by
    have h0 := (h 0 (by decide)).1
    exact World.block_lt_of_cell? w _ h0
  have e : ∀ j, w'.cell? ⟨2, j, none⟩ = w.cell? ⟨2, j, none⟩ := fun j => World.cell?_of_block (a := ⟨2, j, none⟩) (g.block _ hl f.a.1 f.a.2)
  intro i hi
  have := h i hi
  rw [e, e, e]
  exact this
theorem Utf.c2 {w w' : World} {T M : Nat} (h : Utf w) (g : C2 T M w w') (f : Far T M) : Utf w' := by
  have e1 : ∀ j, w'.cell? ⟨0, j, none⟩ = w.cell? ⟨0, j, none⟩ := fun j => World.cell?_of_block (a := ⟨0, j, none⟩) (g.block _ h.sz.1 f.b.1 f.b.2)
  have e2 : ∀ j, w'.cell? ⟨1, j, none⟩ = w.cell? ⟨1, j, none⟩ := fun j => World.cell?_of_block (a := ⟨1, j, none⟩) (g.block _ h.sz.2 f.c.1 f.c.2)
  exact ⟨⟨Nat.lt_of_lt_of_le h.sz.1 g.size, Nat.lt_of_lt_of_le h.sz.2 g.size⟩, fun c hc => (e1 c).trans (h.fi c hc), fun i hi => (e2 _).trans (h.lo i hi), fun i hi => (e2 _).trans (h.hi i hi)⟩

section
variable {T K M cap : Nat} {s : Tm} {nv : Value}
set_option maxRecDepth 100000 in
set_option maxHeartbeats 8000000 in
theorem amid1_any (w : World) (h : TM w T K M cap s nv) (hi : Ti s) (ht : TabAt w) (hU : Utf w) (bt : UInt8) (hf : ByteArray) (hfs : hf.size ≤ 3) (hfar : Far T M) (k : Nat) (hk : w.heap[k]? = some (.cells #[.string hf] 9 (0, 0))) :
    Calls Tryd.prog 53 #[.pointer (some ⟨T, 0, none⟩), .int .u8 (bt.toNat : Int), .pointer (some ⟨k, 0, none⟩)] w fun e w' => Done w w' e T K M cap (amA s hf bt).1 nv (amA s hf bt).2 := by
  by_cases hq : full (hf ++ ⟨#[bt]⟩).data.toList ∧ (runes (hf ++ ⟨#[bt]⟩).data.toList).length ≠ 1
  · have HA : Hid (amA s hf bt = outT (prsT s (runes hf.data.toList)) bt) := if_pos hq
    have HM : Hid (TM w T K M cap s nv) := h
    have HT : Hid (TabAt w) := ht
    have HI : Hid (Ti s) := hi
    have HU : Hid (Utf w) := hU
    have HK : Hid (w.heap[k]? = some (.cells #[.string hf] 9 (0, 0))) := hk
    have ck : w.cell? ⟨k, 0, none⟩ = some (.string hf) := by simp [World.cell?, hk]
    have cv := conv_one bt w
    obtain ⟨tx, htx⟩ : ∃ z, hf ++ (⟨#[bt]⟩ : ByteArray) = z := ⟨_, rfl⟩
    have hts : tx.size ≤ 1000000 := by
      have e : (hf ++ (⟨#[bt]⟩ : ByteArray)).size = hf.size + 1 := ByteArray.size_append
      rw [← htx, e]; omega
    rw [htx] at hq
    obtain ⟨R, hR⟩ : ∃ R, runes tx.data.toList = R := ⟨_, rfl⟩
    obtain ⟨Q, hQ⟩ : ∃ Q, runes hf.data.toList = Q := ⟨_, rfl⟩
    have hq1 := hq.1
    have hq2 := hq.2
    rw [hR] at hq2
    rw [hQ] at HA
    obtain ⟨m, hm⟩ : ∃ m, R.length = m := ⟨_, rfl⟩
    have hm1 : ((m : Int) == 1) = false := beq_eq_false_iff_ne.2 (by omega)
    have hQl : Q.length ≤ 3 := by have := runes_length hf.data.toList; rw [hQ, len_data] at this; omega
    have DC : Hid (∀ w1, Calls Tryd.prog 55 #[.string tx] w1 fun e w' => ∃ v, e = .returned v ∧ (∃ p c, v = .slice p m c) ∧ Below w1.heap.size w1 w') := fun w1 => (gDecode_any tx w1 (by omega)).mono fun e w' q => by
      obtain ⟨v, q1, q2, q3⟩ := q
      rw [hR, hm] at q2
      refine ⟨v, q1, ?_, q3⟩
      rcases q2.2 with ⟨q4, q5⟩ | ⟨g, cp, cur, q4, _⟩
      · exact ⟨none, 0, by rw [q4, q5]⟩
      · exact ⟨_, _, q4⟩
    have DH : Hid (∀ w1, Calls Tryd.prog 55 #[.string hf] w1 fun e w' => ∃ v, e = .returned v ∧ w'.ownsRow w1.heap.size 3 1 v Q.length (Q.map (Value.int .i64)) ∧ Below w1.heap.size w1 w') := fun w1 => by have := gDecode_any hf w1 (by omega); rw [hQ] at this; exact this
    clear h ht hi hU hk hq hR hQ hm hq2
    go_enter Tryd.func53, Tryd.ntmps53
    go_wp2_with fail
    clear cv ck
    have G0 : Gr w (w.alloc (.cells #[.int .u8 (bt.toNat : Int)] 5)) := (Gr.refl w).alloc _
    refine (full_any tx _ (HU.out.below G0.below) hts).mono ?_
    rintro e w1 ⟨b, rfl, hb, g1⟩
    have G1 : Hid (Gr w w1) := G0.trans g1
    have hbt : b = true := hb.2 hq1
    subst hbt
    clear G0 g1 hb hq1
    go_wp2_with fail
    refine (DC.out w1).mono ?_
    rintro e w2 ⟨v, rfl, ⟨p2, c2, rfl⟩, b2⟩
    have HB2 : Hid (Below w.heap.size w w2) := G1.out.below.trans (b2.mono G1.out.size)
    have ck : w2.cell? ⟨k, 0, none⟩ = some (.string hf) := by
      have e := (HB2.out.block k (Array.getElem?_eq_some_iff.1 HK.out).1).trans HK.out
      simp [World.cell?, e]
    clear b2 DC
    go_wp2_with fail
    refine (DH.out w2).mono ?_
    rintro e w3 ⟨v, rfl, hv, b3⟩
    have HB3 : Hid (Below w.heap.size w w3) := HB2.out.trans (b3.mono HB2.out.size)
    have HV : Hid (w3.ownsRow w2.heap.size 3 1 v Q.length (Q.map (Value.int .i64))) := hv
    obtain ⟨p3, c3, rfl⟩ : ∃ p c, v = .slice p Q.length c := by
      rcases hv.2 with ⟨q4, q5⟩ | ⟨g, cp, cur, q4, _⟩
      · exact ⟨none, 0, by rw [q4, q5]⟩
      · exact ⟨_, _, q4⟩
    have hs2 := HB2.out.size
    clear b3 hv DH ck
    go_wp2
    go_loopw [33] (fun iv wr => ∃ j : Nat, j ≤ Q.length ∧ iv = .int .i64 (j : Int) ∧ Hid (TM wr T K M cap (prsT s (Q.take j)) nv ∧ C2 T M w3 wr)) (fun iv _ => Q.length - (intOf iv).toNat)
    case atStart => exact ⟨0, Nat.zero_le _, rfl, HM.out.below HB3.out, C2.refl _ _ _⟩
    case round =>
      obtain ⟨j, hj, rfl, HJ⟩ := hrel
      by_cases hlt : j < Q.length
      · have hlt' : (j : Int) < (Q.length : Int) := by omega
        obtain ⟨g, cp, hv, hgB, hgr⟩ : ∃ g cp, Value.slice p3 Q.length c3 = .slice (some ⟨g, 0, none⟩) Q.length cp ∧ w2.heap.size ≤ g ∧ g < w3.heap.size := by
          rcases HV.out.2 with ⟨_, q5⟩ | ⟨g, cp, cur, q4, q5, q6, _⟩
          · omega
          · exact ⟨g, cp, q4, q5, (Array.getElem?_eq_some_iff.1 q6).1⟩
        simp only [Value.slice.injEq, true_and] at hv
        obtain ⟨rfl, rfl⟩ := hv
        obtain ⟨r, hr⟩ : ∃ r, Q[j]? = some r := ⟨_, List.getElem?_eq_getElem hlt⟩
        have y3 : w3.cell? ⟨g, j, none⟩ = some (.int .i64 r) := by
          have e := HV.out.cellAt j (by omega)
          rw [List.getElem?_map, hr] at e
          exact e
        have hTl := HM.out.lt
        have hMl := HM.out.cs.cv.lt
        have yj : wr.cell? ⟨g, j, none⟩ = some (.int .i64 r) := (World.cell?_of_block (a := ⟨g, j, none⟩) (HJ.out.2.block g hgr (by omega) (by omega))).trans y3
        have HP : Hid (prsT s (Q.take (j + 1)) = prT (prsT s (Q.take j)) r) := by
          show _ = _
          rw [List.take_add_one, hr, ← prsT_app]
          rfl
        have PR : Hid (Calls Tryd.prog 56 #[.pointer (some ⟨T, 0, none⟩), .int .i64 r] wr fun e w' => e = .returned (.tuple #[]) ∧ TM w' T K M cap (prT (prsT s (Q.take j)) r) nv ∧ C2 T M wr w') := print_any wr HJ.out.1 (HI.out.prs _) ((HT.out.below HB3.out).c2 HJ.out.2 hfar) r
        clear hr y3 hTl hMl
        go_wp2_with fail
        refine PR.out.mono ?_
        rintro e w4 ⟨rfl, h4, g4⟩
        have HJ4 : Hid (TM w4 T K M cap (prsT s (Q.take (j + 1))) nv ∧ C2 T M w3 w4) := by show _ ∧ _; rw [HP.out]; exact ⟨h4, HJ.out.2.trans g4⟩
        clear h4 g4 yj PR
        go_wp2
        go_roundw
        case rel => exact ⟨j + 1, by omega, by go_num, HJ4.out⟩
        case measure => simp [intOf]; omega
      · have hlt' : ¬ (j : Int) < (Q.length : Int) := by omega
        have HJ5 : Hid (TM wr T K M cap (prsT s Q) nv ∧ C2 T M w3 wr) := by
          have := HJ.out
          rw [List.take_of_length_le (by omega)] at this
          exact this
        have OU : Hid (Calls Tryd.prog 28 #[.pointer (some ⟨T, 0, none⟩), .int .u8 (bt.toNat : Int)] wr fun e w' => Done wr w' e T K M cap (outT (prsT s Q) bt).1 nv (outT (prsT s Q) bt).2) := outside_any wr HJ5.out.1 (HI.out.prs Q) ((HT.out.below HB3.out).c2 HJ5.out.2 hfar) ((HU.out.below HB3.out).c2 HJ5.out.2 hfar) bt
        go_wp2_with fail
        refine OU.out.mono ?_
        rintro e w4 ⟨v, rfl, h4, n4, c4⟩
        have HD : Hid (TM w4 T K M cap (outT (prsT s Q) bt).1 nv ∧ Nx w4 T M v (outT (prsT s Q) bt).2 ∧ C2 T M w w4) := ⟨h4, n4, ((C2.below HB3.out).trans HJ5.out.2).trans c4⟩
        clear h4 n4 c4
        go_wp2
        go_ret
        rw [HA.out]
        exact ⟨v, rfl, HD.out.1, HD.out.2.1, HD.out.2.2⟩
  · have HA : amA s hf bt = amT s (hf ++ ⟨#[bt]⟩) := if_neg hq
    rw [HA]
    exact amid1_on w h hi ht hU bt hf hfs k hk (fun hfu => by
      by_cases q : (runes (hf ++ ⟨#[bt]⟩).data.toList).length = 1
      · exact q
      · exact absurd ⟨hfu, q⟩ hq)
end

end Go.Proofs.YtgaogkggbccfnaaDoor
