/-
  outside; and the byte amid a rune, whichever it is.
-/
import Derived.Test.YtkdajaphbmclkaaGreatDoorX13
import Derived.Test.YtkdajaphbmclkaaGreatDoorX05
import Derived.Deep.RegionLaw
namespace Go.Proofs.YtkdajaphbmclkaaGreatDoor
open Go.RowKit Go.Sort
set_option linter.unusedVariables false

theorem runes_one (b : UInt8) : (runes [b]).length = 1 := by
  rw [runes_step (by simp)]
  have h : ([b] : List UInt8).drop (dec [b]).2 = [] := by
    have h1 : 1 ≤ (dec [b]).2 := dec_pos [b]
    apply List.drop_eq_nil_of_le
    simpa using h1
  rw [h]
  rfl
def outT (s : Tm) (b : UInt8) : Tm × St :=
  if b.toNat = 27 then ({ s with r := clr s.r }, .esc) else if b.toNat < 32 ∨ b.toNat = 127 then ({ s with r := clr s.r }, .out) else amT s ⟨#[b]⟩

section
variable {T K M cap : Nat} {s : Tm} {nv : Value}
set_option maxRecDepth 100000 in
set_option maxHeartbeats 8000000 in
theorem outside_any (w : World) (h : TM w T K M cap s nv) (hi : Ti s) (ht : TabAt w) (hU : Utf w) (bt : UInt8) :
    Calls Tryz.prog 15 #[.pointer (some ⟨T, 0, none⟩), .int .u8 (bt.toNat : Int)] w fun e w' => Done w w' e T K M cap (outT s bt).1 nv (outT s bt).2 := by
  have HM : Hid (TM w T K M cap s nv) := h
  have HT : Hid (TabAt w) := ht
  have HI : Hid (Ti s) := hi
  have HU : Hid (Utf w) := hU
  clear h ht hi hU
  obtain ⟨n, hn⟩ : ∃ n, bt.toNat = n := ⟨_, rfl⟩
  have HN : Hid (bt.toNat = n) := hn
  by_cases h27 : n = 27
  · have HO : Hid (outT s bt = ({ s with r := clr s.r }, .esc)) := by show _ = _; unfold outT; rw [if_pos (hn.trans h27)]
    rw [hn, h27]
    clear hn
    go_enter Tryz.func15, Tryz.ntmps15
    go_wp2_with fail
    refine (forget_any w HM.out).mono ?_
    rintro e w1 ⟨rfl, h1, g1⟩
    have HD : Hid (TM w1 T K M cap { s with r := clr s.r } nv ∧ C2 T M w w1) := ⟨h1, g1⟩
    clear h1 g1
    go_wp2
    go_ret
    rw [HO.out]
    exact ⟨_, rfl, HD.out.1, rfl, HD.out.2⟩
  · have e27 : ((n : Int) == 27) = false := beq_eq_false_iff_ne.2 (by omega)
    by_cases hc : n < 32 ∨ n = 127
    · have HO : Hid (outT s bt = ({ s with r := clr s.r }, .out)) := by show _ = _; unfold outT; rw [hn, if_neg h27, if_pos hc]
      rw [hn]
      clear hn
      have hcc : (decide ((n : Int) < 32) = true) ∨ (decide ((n : Int) < 32) = false ∧ n = 127) := by
        by_cases q : n < 32
        · exact .inl (decide_eq_true (by omega))
        · exact .inr ⟨decide_eq_false (by omega), by omega⟩
      rcases hcc with q1 | ⟨q1, rfl⟩
      · go_enter Tryz.func15, Tryz.ntmps15
        go_wp2_with fail
        refine (forget_any w HM.out).mono ?_
        rintro e w1 ⟨rfl, h1, g1⟩
        have HD : Hid (TM w1 T K M cap { s with r := clr s.r } nv ∧ C2 T M w w1) := ⟨h1, g1⟩
        clear h1 g1
        go_wp2
        go_ret
        rw [HO.out]
        exact ⟨_, rfl, HD.out.1, rfl, HD.out.2⟩
      · go_enter Tryz.func15, Tryz.ntmps15
        go_wp2_with fail
        refine (forget_any w HM.out).mono ?_
        rintro e w1 ⟨rfl, h1, g1⟩
        have HD : Hid (TM w1 T K M cap { s with r := clr s.r } nv ∧ C2 T M w w1) := ⟨h1, g1⟩
        clear h1 g1
        go_wp2
        go_ret
        rw [HO.out]
        exact ⟨_, rfl, HD.out.1, rfl, HD.out.2⟩
    · have HO : Hid (outT s bt = amT s ⟨#[bt]⟩) := by show _ = _; unfold outT; rw [hn, if_neg h27, if_neg hc]
      have q1 : decide ((n : Int) < 32) = false := decide_eq_false (by omega)
      have q2 : ((n : Int) == 127) = false := beq_eq_false_iff_ne.2 (by omega)
      have AM : Hid (∀ w1 k, Gr w w1 → w1.heap[k]? = some (.cells #[.string ⟨#[]⟩] 9 (0, 0)) → Calls Tryz.prog 46 #[.pointer (some ⟨T, 0, none⟩), .int .u8 (n : Int), .pointer (some ⟨k, 0, none⟩)] w1 fun e w' => Done w1 w' e T K M cap (amT s ⟨#[bt]⟩).1 nv (amT s ⟨#[bt]⟩).2) := fun w1 k g hk => by
        have := amid1_on w1 (HM.out.gr g) HI.out (HT.out.below g.below) (HU.out.below g.below) bt ⟨#[]⟩ (by decide) k hk (fun _ => by
          have e : ((⟨#[]⟩ : ByteArray) ++ ⟨#[bt]⟩) = ⟨#[bt]⟩ := rfl
          rw [e]
          exact runes_one bt)
        rw [hn] at this
        exact this
      rw [hn]
      clear hn
      go_enter Tryz.func15, Tryz.ntmps15
      go_wp2_with fail
      refine (amid_mk _ w).mono ?_
      rintro e w1 ⟨rfl, n1, g1⟩
      have AM1 : Hid (Calls Tryz.prog 46 #[.pointer (some ⟨T, 0, none⟩), .int .u8 (n : Int), .pointer (some ⟨w.heap.size, 0, none⟩)] w1 fun e w' => Done w1 w' e T K M cap (amT s ⟨#[bt]⟩).1 nv (amT s ⟨#[bt]⟩).2) := AM.out w1 _ g1 n1
      have C1 : Hid (C2 T M w w1) := C2.gr g1
      clear n1 g1 AM
      unfold fnV
      go_wp2_with fail
      refine AM1.out.mono ?_
      rintro e w2 ⟨v, rfl, h2, n2, c2⟩
      have HD : Hid (TM w2 T K M cap (amT s ⟨#[bt]⟩).1 nv ∧ Nx w2 T M v (amT s ⟨#[bt]⟩).2 ∧ C2 T M w w2) := ⟨h2, n2, C1.out.trans c2⟩
      clear h2 n2 c2
      go_wp2
      go_ret
      rw [HO.out]
      exact ⟨v, rfl, HD.out.1, HD.out.2.1, HD.out.2.2⟩
end

end Go.Proofs.YtkdajaphbmclkaaGreatDoor

namespace Go.Proofs.YtkdajaphbmclkaaGreatDoor
open Go.RowKit Go.Sort
set_option linter.unusedVariables false

theorem Ti.clr {s : Tm} (h : Ti s) : Ti { s with r := clr s.r } := ⟨h.x0, h.x1, h.y0, h.y1, by show (0 : Int) ≤ 0; decide, by show (0 : Int) ≤ 4; decide, by show ((⟨#[]⟩ : ByteArray).size : Int) ≤ 4 + 4 * 0; decide⟩
theorem Ti.mark {s : Tm} (h : Ti s) (mk : ByteArray) (hm : mk.size ≤ 4) : Ti (markT s mk) := by
  unfold markT
  split
  · exact h
  · rename_i hn
    have h1 := h.m0
    have h2 := h.m1
    have h3 := h.ts
    refine ⟨h.x0, h.x1, h.y0, h.y1, ?_, ?_, ?_⟩
    · show 0 ≤ s.r.lm + 1; omega
    · show s.r.lm + 1 ≤ 4; omega
    · show ((s.r.lt ++ mk).size : Int) ≤ 4 + 4 * (s.r.lm + 1)
      rw [ByteArray.size_append]; omega
theorem Ti.pr {s : Tm} (h : Ti s) (r : Int) : Ti (prT s r) := by
  have hs := enc_one_size r
  have hw := wid_bd r
  unfold prT
  split
  · exact h.mark _ hs
  · split
    · exact h.clr
    · rename_i h1 h2
      have hx0 := h.x0
      refine ⟨?_, ?_, h.y0, h.y1, by show (0 : Int) ≤ 0; decide, by show (0 : Int) ≤ 4; decide, ?_⟩
      · show 0 ≤ s.r.x + wid r; omega
      · show s.r.x + wid r ≤ (s.W : Int); omega
      · show ((⟨(enc [r]).toArray⟩ : ByteArray).size : Int) ≤ 4 + 4 * 0; omega
def prsT (s : Tm) : List Int → Tm
  | [] => s
  | r :: R => prsT (prT s r) R
theorem prsT_app (s : Tm) (R : List Int) (r : Int) : prsT s (R ++ [r]) = prT (prsT s R) r := by
  induction R generalizing s with
  | nil => rfl
  | cons a R ih => exact ih (prT s a)
theorem Ti.prs {s : Tm} (h : Ti s) : ∀ R : List Int, Ti (prsT s R)
  | [] => h
  | r :: R => Ti.prs (h.pr r) R
/-- A byte that comes behind h. -/
def amA (s : Tm) (h : ByteArray) (b : UInt8) : Tm × St := if full (h ++ ⟨#[b]⟩).data.toList ∧ (runes (h ++ ⟨#[b]⟩).data.toList).length ≠ 1 then outT (prsT s (runes h.data.toList)) b else amT s (h ++ ⟨#[b]⟩)

/-- The tables' blocks are not the terminal's. -/
structure Far (T M : Nat) : Prop where
  a : 2 ≠ T ∧ 2 ≠ M
  b : 0 ≠ T ∧ 0 ≠ M
  c : 1 ≠ T ∧ 1 ≠ M
theorem TabAt.c2 {w w' : World} {T M : Nat} (h : TabAt w) (g : C2 T M w w') (f : Far T M) : TabAt w' := by
  have hl : 2 < w.heap.size := by
    have h0 := (h 0 (by decide)).1
    exact World.block_lt_of_cell? w _ h0
  have e : ∀ j, w'.cell? ⟨2, j, none⟩ = w.cell? ⟨2, j, none⟩ := fun j => World.cell?_of_block (a := ⟨2, j, none⟩) (g.block _ hl f.a.1 f.a.2)
  intro i hi
  have := h i hi
  rw [e, e, e]
  exact this
theorem Utf.c2 {w w' : World} {T M : Nat} (h : Utf w) (g : C2 T M w w') (f : Far T M) : Utf w' := by
  have e1 : ∀ j, w'.cell? ⟨0, j, none⟩ = w.cell? ⟨0, j, none⟩ := fun j => World.cell?_of_block (a := ⟨0, j, none⟩) (g.block _ h.sz.1 f.b.1 f.b.2)
  have e2 : ∀ j, w'.cell? ⟨1, j, none⟩ = w.cell? ⟨1, j, none⟩ := fun j => World.cell?_of_block (a := ⟨1, j, none⟩) (g.block _ h.sz.2 f.c.1 f.c.2)
  exact ⟨⟨Nat.lt_of_lt_of_le h.sz.1 g.size, Nat.lt_of_lt_of_le h.sz.2 g.size⟩, fun c hc => (e1 c).trans (h.fi c hc), fun i hi => (e2 _).trans (h.lo i hi), fun i hi => (e2 _).trans (h.hi i hi)⟩

section
variable {T K M cap : Nat} {s : Tm} {nv : Value}
set_option maxRecDepth 100000 in
set_option maxHeartbeats 8000000 in
theorem amid1_any (w : World) (h : TM w T K M cap s nv) (hi : Ti s) (ht : TabAt w) (hU : Utf w) (bt : UInt8) (hf : ByteArray) (hfs : hf.size ≤ 3) (hfar : Far T M) (k : Nat) (hk : w.heap[k]? = some (.cells #[.string hf] 9 (0, 0))) :
    Calls Tryz.prog 46 #[.pointer (some ⟨T, 0, none⟩), .int .u8 (bt.toNat : Int), .pointer (some ⟨k, 0, none⟩)] w fun e w' => Done w w' e T K M cap (amA s hf bt).1 nv (amA s hf bt).2 := by
  by_cases hq : full (hf ++ ⟨#[bt]⟩).data.toList ∧ (runes (hf ++ ⟨#[bt]⟩).data.toList).length ≠ 1
  · have HA : Hid (amA s hf bt = outT (prsT s (runes hf.data.toList)) bt) := if_pos hq
    have HM : Hid (TM w T K M cap s nv) := h
    have HT : Hid (TabAt w) := ht
    have HI : Hid (Ti s) := hi
    have HU : Hid (Utf w) := hU
    have HK : Hid (w.heap[k]? = some (.cells #[.string hf] 9 (0, 0))) := hk
    have ck : w.cell? ⟨k, 0, none⟩ = some (.string hf) := by simp [World.cell?, hk]
    have cv := conv_one bt w
    obtain ⟨tx, htx⟩ : ∃ z, hf ++ (⟨#[bt]⟩ : ByteArray) = z := ⟨_, rfl⟩
    have hts : tx.size ≤ 1000000 := by
      have e : (hf ++ (⟨#[bt]⟩ : ByteArray)).size = hf.size + 1 := ByteArray.size_append
      rw [← htx, e]; omega
    rw [htx] at hq
    obtain ⟨R, hR⟩ : ∃ R, runes tx.data.toList = R := ⟨_, rfl⟩
    obtain ⟨Q, hQ⟩ : ∃ Q, runes hf.data.toList = Q := ⟨_, rfl⟩
    have hq1 := hq.1
    have hq2 := hq.2
    rw [hR] at hq2
    rw [hQ] at HA
    obtain ⟨m, hm⟩ : ∃ m, R.length = m := ⟨_, rfl⟩
    have hm1 : ((m : Int) == 1) = false := beq_eq_false_iff_ne.2 (by omega)
    have hQl : Q.length ≤ 3 := by have := runes_length hf.data.toList; rw [hQ, len_data] at this; omega
    have DC : Hid (∀ w1, Calls Tryz.prog 48 #[.string tx] w1 fun e w' => ∃ v, e = .returned v ∧ (∃ p c, v = .slice p m c) ∧ Below w1.heap.size w1 w') := fun w1 => (gDecode_any tx w1 (by omega)).mono fun e w' q => by
      obtain ⟨v, q1, q2, q3⟩ := q
      rw [hR, hm] at q2
      refine ⟨v, q1, ?_, q3⟩
      rcases q2.2 with ⟨q4, q5⟩ | ⟨g, cp, cur, q4, _⟩
      · exact ⟨none, 0, by rw [q4, q5]⟩
      · exact ⟨_, _, q4⟩
    have DH : Hid (∀ w1, Calls Tryz.prog 48 #[.string hf] w1 fun e w' => ∃ v, e = .returned v ∧ w'.ownsRow w1.heap.size 3 1 v Q.length (Q.map (Value.int .i64)) ∧ Below w1.heap.size w1 w') := fun w1 => by have := gDecode_any hf w1 (by omega); rw [hQ] at this; exact this
    clear h ht hi hU hk hq hR hQ hm hq2
    go_enter Tryz.func46, Tryz.ntmps46
    go_wp2_with fail
    clear cv ck
    have G0 : Gr w (w.alloc (.cells #[.int .u8 (bt.toNat : Int)] 5)) := (Gr.refl w).alloc _
    refine (full_any tx _ (HU.out.below G0.below) hts).mono ?_
    rintro e w1 ⟨b, rfl, hb, g1⟩
    have G1 : Hid (Gr w w1) := G0.trans g1
    have hbt : b = true := hb.2 hq1
    subst hbt
    clear G0 g1 hb hq1
    go_wp2_with fail
    refine (DC.out w1).mono ?_
    rintro e w2 ⟨v, rfl, ⟨p2, c2, rfl⟩, b2⟩
    have HB2 : Hid (Below w.heap.size w w2) := G1.out.below.trans (b2.mono G1.out.size)
    have ck : w2.cell? ⟨k, 0, none⟩ = some (.string hf) := by
      have e := (HB2.out.block k (Array.getElem?_eq_some_iff.1 HK.out).1).trans HK.out
      simp [World.cell?, e]
    clear b2 DC
    go_wp2_with fail
    refine (DH.out w2).mono ?_
    rintro e w3 ⟨v, rfl, hv, b3⟩
    have HB3 : Hid (Below w.heap.size w w3) := HB2.out.trans (b3.mono HB2.out.size)
    have HV : Hid (w3.ownsRow w2.heap.size 3 1 v Q.length (Q.map (Value.int .i64))) := hv
    obtain ⟨p3, c3, rfl⟩ : ∃ p c, v = .slice p Q.length c := by
      rcases hv.2 with ⟨q4, q5⟩ | ⟨g, cp, cur, q4, _⟩
      · exact ⟨none, 0, by rw [q4, q5]⟩
      · exact ⟨_, _, q4⟩
    have hs2 := HB2.out.size
    clear b3 hv DH ck
    go_wp2
    go_loopw [33] (fun iv wr => ∃ j : Nat, j ≤ Q.length ∧ iv = .int .i64 (j : Int) ∧ Hid (TM wr T K M cap (prsT s (Q.take j)) nv ∧ C2 T M w3 wr)) (fun iv _ => Q.length - (intOf iv).toNat)
    case atStart => exact ⟨0, Nat.zero_le _, rfl, HM.out.below HB3.out, C2.refl _ _ _⟩
    case round =>
      obtain ⟨j, hj, rfl, HJ⟩ := hrel
      by_cases hlt : j < Q.length
      · have hlt' : (j : Int) < (Q.length : Int) := by omega
        obtain ⟨g, cp, hv, hgB, hgr⟩ : ∃ g cp, Value.slice p3 Q.length c3 = .slice (some ⟨g, 0, none⟩) Q.length cp ∧ w2.heap.size ≤ g ∧ g < w3.heap.size := by
          rcases HV.out.2 with ⟨_, q5⟩ | ⟨g, cp, cur, q4, q5, q6, _⟩
          · omega
          · exact ⟨g, cp, q4, q5, (Array.getElem?_eq_some_iff.1 q6).1⟩
        simp only [Value.slice.injEq, true_and] at hv
        obtain ⟨rfl, rfl⟩ := hv
        obtain ⟨r, hr⟩ : ∃ r, Q[j]? = some r := ⟨_, List.getElem?_eq_getElem hlt⟩
        have y3 : w3.cell? ⟨g, j, none⟩ = some (.int .i64 r) := by
          have e := HV.out.cellAt j (by omega)
          rw [List.getElem?_map, hr] at e
          exact e
        have hTl := HM.out.lt
        have hMl := HM.out.cs.cv.lt
        have yj : wr.cell? ⟨g, j, none⟩ = some (.int .i64 r) := (World.cell?_of_block (a := ⟨g, j, none⟩) (HJ.out.2.block g hgr (by omega) (by omega))).trans y3
        have HP : Hid (prsT s (Q.take (j + 1)) = prT (prsT s (Q.take j)) r) := by
          show _ = _
          rw [List.take_add_one, hr, ← prsT_app]
          rfl
        have PR : Hid (Calls Tryz.prog 49 #[.pointer (some ⟨T, 0, none⟩), .int .i64 r] wr fun e w' => e = .returned (.tuple #[]) ∧ TM w' T K M cap (prT (prsT s (Q.take j)) r) nv ∧ C2 T M wr w') := print_any wr HJ.out.1 (HI.out.prs _) ((HT.out.below HB3.out).c2 HJ.out.2 hfar) r
        clear hr y3 hTl hMl
        go_wp2_with fail
        refine PR.out.mono ?_
        rintro e w4 ⟨rfl, h4, g4⟩
        have HJ4 : Hid (TM w4 T K M cap (prsT s (Q.take (j + 1))) nv ∧ C2 T M w3 w4) := by show _ ∧ _; rw [HP.out]; exact ⟨h4, HJ.out.2.trans g4⟩
        clear h4 g4 yj PR
        go_wp2
        go_roundw
        case rel => exact ⟨j + 1, by omega, by go_num, HJ4.out⟩
        case measure => simp [intOf]; omega
      · have hlt' : ¬ (j : Int) < (Q.length : Int) := by omega
        have HJ5 : Hid (TM wr T K M cap (prsT s Q) nv ∧ C2 T M w3 wr) := by
          have := HJ.out
          rw [List.take_of_length_le (by omega)] at this
          exact this
        have OU : Hid (Calls Tryz.prog 15 #[.pointer (some ⟨T, 0, none⟩), .int .u8 (bt.toNat : Int)] wr fun e w' => Done wr w' e T K M cap (outT (prsT s Q) bt).1 nv (outT (prsT s Q) bt).2) := outside_any wr HJ5.out.1 (HI.out.prs Q) ((HT.out.below HB3.out).c2 HJ5.out.2 hfar) ((HU.out.below HB3.out).c2 HJ5.out.2 hfar) bt
        go_wp2_with fail
        refine OU.out.mono ?_
        rintro e w4 ⟨v, rfl, h4, n4, c4⟩
        have HD : Hid (TM w4 T K M cap (outT (prsT s Q) bt).1 nv ∧ Nx w4 T M v (outT (prsT s Q) bt).2 ∧ C2 T M w w4) := ⟨h4, n4, ((C2.below HB3.out).trans HJ5.out.2).trans c4⟩
        clear h4 n4 c4
        go_wp2
        go_ret
        rw [HA.out]
        exact ⟨v, rfl, HD.out.1, HD.out.2.1, HD.out.2.2⟩
  · have HA : amA s hf bt = amT s (hf ++ ⟨#[bt]⟩) := if_neg hq
    rw [HA]
    exact amid1_on w h hi ht hU bt hf hfs k hk (fun hfu => by
      by_cases q : (runes (hf ++ ⟨#[bt]⟩).data.toList).length = 1
      · exact q
      · exact absurd ⟨hfu, q⟩ hq)
end

end Go.Proofs.YtkdajaphbmclkaaGreatDoor

namespace Go.Proofs.YtkdajaphbmclkaaGreatDoor
open Go.RowKit Go.Sort
set_option linter.unusedVariables false

/-- n cells in a block, from off on. -/
structure CL (Q : World) (g off n : Nat) (C : Nat → Ce) : Prop where
  lt : g < Q.heap.size
  cell : ∀ i, i < n → ∀ (k : Nat) u, (c5 (C i))[k]? = some u → Q.cell? ⟨g, off + i * 5 + k, none⟩ = some u
theorem CL.below {Q Q' : World} {g off n : Nat} {C : Nat → Ce} (h : CL Q g off n C) (hb : Below Q.heap.size Q Q') : CL Q' g off n C :=
  ⟨Nat.lt_of_lt_of_le h.lt hb.size, fun i hi k u hu => (hb.cell (p := ⟨g, off + i * 5 + k, none⟩) h.lt).trans (h.cell i hi k u hu)⟩
def lenOf : Value → Nat
  | .slice _ n _ => n
  | _ => 0

set_option maxRecDepth 100000 in
set_option maxHeartbeats 8000000 in
theorem isRow_any (C : Nat → Ce) (g lo n hi cap N : Nat) (hn : lo + n = hi) (hN : hi ≤ N) (hb : N ≤ 1048576) (hc1 : n ≤ cap) (hc2 : cap ≤ 9223372036854775807) (w : World) (hC : CL w g 0 N C) (ht : TabAt w) (hs : ∀ i, i < N → (C i).t.size ≤ 1099511627776) :
    Calls Tryz.prog 33 #[.slice (some ⟨g, lo * 5, none⟩) n cap] w fun r w' => Tells w w' r (RowOk C lo hi) := by
  have hmix : Tryz.prog.follows .mixedOrders = true := by kernel_rfl
  have HC : Hid (CL w g 0 N C) := hC
  have HT : Hid (TabAt w) := ht
  have HZ : Hid (∀ i, i < N → (C i).t.size ≤ 1099511627776) := hs
  clear hC ht hs
  go_enter Tryz.func33, Tryz.ntmps33
  go_wp2
  go_loopw [0] (fun rv wr => ∃ (x m c : Nat) (p : Option Addr), Hid (Upto C lo hi x) ∧ x + m = hi ∧ rv = .slice p m c ∧ m ≤ c ∧ c ≤ 9223372036854775807 ∧ (x < hi → p = some ⟨g, x * 5, none⟩) ∧ Hid (Below w.heap.size w wr)) (fun rv _ => lenOf rv)
  case atStart => exact ⟨lo, n, cap, _, Upto.start (by omega), hn, rfl, hc1, hc2, fun _ => rfl, Below.refl _ _⟩
  case round =>
    obtain ⟨x, m, c, p, HU, hm, rfl, hmc, hc3, hp, HB⟩ := hrel
    by_cases hlt : x < hi
    · obtain rfl := hp hlt
      have hm0 : (0 : Int) < (m : Int) := by omega
      have hxN : x < N := by omega
      have V := HC.out.below HB.out
      obtain ⟨e, he⟩ : ∃ e, C x = e := ⟨_, rfl⟩
      have hC1 : ∀ (k : Nat) u, (c5 e)[k]? = some u → wr.cell? ⟨g, x * 5 + k, none⟩ = some u := fun k u h => by
        have := V.cell x hxN k u (by rw [he]; exact h)
        rw [Nat.zero_add] at this
        exact this
      obtain ⟨t, f, g0, b, q⟩ := e
      have d0 : wr.cell? ⟨g, x * 5, none⟩ = some (.string t) := hC1 0 _ rfl
      have d1 := hC1 1 (.int .i64 f) rfl
      have d2 := hC1 2 (.int .i64 g0) rfl
      have d3 := hC1 3 (.int .i64 b) rfl
      have d4 := hC1 4 (.int .i64 q) rfl
      clear hC1
      have HE : Hid (C x = ⟨t, f, g0, b, q⟩) := he
      clear he
      go_wp2_with fail
      obtain ⟨W0, hW0⟩ : ∃ z, wr.alloc (.cells #[.string t, .int .i64 f, .int .i64 g0, .int .i64 b, .int .i64 q] 71) = z := ⟨_, rfl⟩
      obtain ⟨S, hS⟩ : ∃ z, wr.heap.size = z := ⟨_, rfl⟩
      have G0 : Hid (Gr wr W0) := by rw [← hW0]; exact (Gr.refl wr).alloc _
      have R0 : Hid (R5 71 W0 S ⟨t, f, g0, b, q⟩) := by rw [← hW0, ← hS]; exact R5.new wr ⟨t, f, g0, b, q⟩ _
      have HB0 : Hid (Below w.heap.size w W0) := HB.out.trans (G0.out.below.mono HB.out.size)
      have hsz : t.size ≤ 1099511627776 := by have := HZ.out x hxN; rw [HE.out] at this; exact this
      have IS : Hid (∀ n, Calls Tryz.prog 51 #[.agg #[.string t, .int .i64 f, .int .i64 g0, .int .i64 b, .int .i64 q], .int .i64 n] W0 fun r w' => ∃ bb : Bool, r = .returned (.bool bb) ∧ Hid (bb = true ↔ (n ≠ 0 ∧ Sty (C x) ∧ Txt (C x) n)) ∧ Hid (Below w.heap.size w w') ∧ Hid (Below W0.heap.size W0 w')) := fun n => (isShown_any ⟨t, f, g0, b, q⟩ n W0 (HT.out.below HB0.out) hsz).mono fun r w' h => by
        obtain ⟨bb, h1, h2, h3⟩ := h
        rw [HE.out]
        exact ⟨bb, h1, h2, HB0.out.trans (h3.mono HB0.out.size), h3⟩
      have CO : Hid (∀ w, Calls Tryz.prog 50 #[.int .i64 q] w fun e w' => e = .returned (.int .i64 (colI q)) ∧ w' = w) := columnsOf_any q
      rw [hW0, hS]
      clear hsz V hW0 hS
      by_cases hq0 : q = 0
      · subst hq0
        have HP : Hid ((C x).p = 0) := by show _ = _; rw [HE.out]
        have CO : Hid (∀ w, Calls Tryz.prog 50 #[.int .i64 0] w fun e w' => e = .returned (.int .i64 1) ∧ w' = w) := CO.out
        refine (CO.out _).mono ?_
        rintro e w1 ⟨rfl, hw⟩
        obtain rfl := hw.symm
        have c0 := R0.out.c0
        have c1 := R0.out.c1
        have c2 := R0.out.c2
        have c3 := R0.out.c3
        have c4 := R0.out.c4
        go_wp2_with fail
        refine (IS.out 1).mono ?_
        rintro r w2 ⟨bb, rfl, HI, HB2, _⟩
        clear c0 c1 c2 c3 c4
        have hm1 : decide ((m : Int) < 1) = false := decide_eq_false (by omega)
        cases bb with
        | false =>
          go_wp2
          go_ret
          exact ⟨false, rfl, ⟨fun h => (nomatch h), fun h => absurd h (HU.out.bad0 hlt HP.out fun k => (nomatch HI.out.2 ⟨by decide, k.1, k.2⟩))⟩, HB2.out⟩
        | true =>
          have HU2 : Hid (Upto C lo hi (x + 1)) := HU.out.one hlt HP.out (HI.out.1 rfl).2.1 (HI.out.1 rfl).2.2
          go_wp2_with fail
          go_quiet (fail)
          go_wp2
          refine ⟨⟨x + 1, m - 1, c - 1, _, HU2.out, by omega, rfl, by omega, by omega, fun hx => ?_, (HB2.out.trans ((Gr.below ((Gr.refl _).drewN _)).mono HB2.out.size))⟩, by simp only [lenOf]; omega⟩
          rw [if_neg (by omega), Nat.add_mul, Nat.one_mul]
      · by_cases hq1 : q = 1
        · subst hq1
          have HP : Hid ((C x).p = 1) := by show _ = _; rw [HE.out]
          have CO : Hid (∀ w, Calls Tryz.prog 50 #[.int .i64 1] w fun e w' => e = .returned (.int .i64 2) ∧ w' = w) := CO.out
          refine (CO.out _).mono ?_
          rintro e w1 ⟨rfl, hw⟩
          obtain rfl := hw.symm
          have c0 := R0.out.c0
          have c1 := R0.out.c1
          have c2 := R0.out.c2
          have c3 := R0.out.c3
          have c4 := R0.out.c4
          go_wp2_with fail
          refine (IS.out 2).mono ?_
          rintro r w2 ⟨bb, rfl, HI, HB2, HB02⟩
          clear c0 c1 c2 c3 c4
          cases bb with
          | false =>
            go_wp2
            go_ret
            exact ⟨false, rfl, ⟨fun h => (nomatch h), fun h => absurd h (HU.out.bad1 hlt HP.out fun k => (nomatch HI.out.2 ⟨by decide, k.1, k.2⟩))⟩, HB2.out⟩
          | true =>
            have HY : Hid (Sty (C x) ∧ Txt (C x) 2) := (HI.out.1 rfl).2
            by_cases hm2 : x + 2 ≤ hi
            · have hm1 : decide ((m : Int) < 2) = false := decide_eq_false (by omega)
              have hm1' : (1 : Int) < (m : Int) := by omega
              have R2 : Hid (R5 71 w2 S ⟨t, f, g0, b, 1⟩) := (HB02.out.block _ R0.out.lt).trans R0.out
              have c1 := R2.out.c1
              have c2 := R2.out.c2
              have c3 := R2.out.c3
              have V := HC.out.below HB2.out
              obtain ⟨e, he⟩ : ∃ e, C (x + 1) = e := ⟨_, rfl⟩
              have hC1 : ∀ (k : Nat) u, (c5 e)[k]? = some u → w2.cell? ⟨g, x * 5 + 5 + k, none⟩ = some u := fun k u h => by
                have := V.cell (x + 1) (by omega) k u (by rw [he]; exact h)
                rw [Nat.zero_add, Nat.add_mul, Nat.one_mul] at this
                exact this
              obtain ⟨t1, f1, g1, b1, q1⟩ := e
              have d0 : w2.cell? ⟨g, x * 5 + 5, none⟩ = some (.string t1) := hC1 0 _ rfl
              have d1 : w2.cell? ⟨g, x * 5 + 6, none⟩ = some (.int .i64 f1) := hC1 1 _ rfl
              have d2 : w2.cell? ⟨g, x * 5 + 7, none⟩ = some (.int .i64 g1) := hC1 2 _ rfl
              have d3 : w2.cell? ⟨g, x * 5 + 8, none⟩ = some (.int .i64 b1) := hC1 3 _ rfl
              have d4 : w2.cell? ⟨g, x * 5 + 9, none⟩ = some (.int .i64 q1) := hC1 4 _ rfl
              have HE1 : Hid (C (x + 1) = ⟨t1, f1, g1, b1, q1⟩) := he
              clear he hC1 V
              go_wp2_with fail
              by_cases k0 : t1 = ⟨#[]⟩
              · subst k0
                by_cases k1 : f1 = f
                · subst k1
                  by_cases k2 : g1 = g0
                  · subst k2
                    by_cases k3 : b1 = b
                    · subst k3
                      by_cases k4 : q1 = 2
                      · subst k4
                        have HU2 : Hid (Upto C lo hi (x + 2)) := HU.out.two hm2 HP.out HY.out.1 HY.out.2 (by rw [HE1.out, HE.out])
                        go_quiet (fail)
                        go_wp2
                        refine ⟨⟨x + 2, m - 2, c - 2, _, HU2.out, by omega, rfl, by omega, by omega, fun hx => ?_, (HB2.out.trans ((Gr.below ((Gr.refl _).drewN _)).mono HB2.out.size))⟩, by simp only [lenOf]; omega⟩
                        rw [if_neg (by omega), Nat.add_mul]
                      · have e5 : (q1 == 2) = false := by simpa using k4
                        go_quiet (fail)
                        go_wp2
                        go_ret
                        exact ⟨false, rfl, ⟨fun h => (nomatch h), fun h => absurd h (HU.out.bad2 hlt HP.out fun k => by have k2 := k.2; rw [HE1.out, HE.out] at k2; injection k2 with k00 k11 k22 k33 k44; exact k4 k44)⟩, (HB2.out.trans ((Gr.below ((Gr.refl _).drewN _)).mono HB2.out.size))⟩
                    · have e5 : (b1 == b) = false := by simpa using k3
                      go_quiet (fail)
                      go_wp2
                      go_ret
                      exact ⟨false, rfl, ⟨fun h => (nomatch h), fun h => absurd h (HU.out.bad2 hlt HP.out fun k => by have k2 := k.2; rw [HE1.out, HE.out] at k2; injection k2 with k00 k11 k22 k33 k44; exact k3 k33)⟩, (HB2.out.trans ((Gr.below ((Gr.refl _).drewN _)).mono HB2.out.size))⟩
                  · have e5 : (g1 == g0) = false := by simpa using k2
                    go_quiet (fail)
                    go_wp2
                    go_ret
                    exact ⟨false, rfl, ⟨fun h => (nomatch h), fun h => absurd h (HU.out.bad2 hlt HP.out fun k => by have k2 := k.2; rw [HE1.out, HE.out] at k2; injection k2 with k00 k11 k22 k33 k44; exact k2 k22)⟩, (HB2.out.trans ((Gr.below ((Gr.refl _).drewN _)).mono HB2.out.size))⟩
                · have e5 : (f1 == f) = false := by simpa using k1
                  go_quiet (fail)
                  go_wp2
                  go_ret
                  exact ⟨false, rfl, ⟨fun h => (nomatch h), fun h => absurd h (HU.out.bad2 hlt HP.out fun k => by have k2 := k.2; rw [HE1.out, HE.out] at k2; injection k2 with k00 k11 k22 k33 k44; exact k1 k11)⟩, (HB2.out.trans ((Gr.below ((Gr.refl _).drewN _)).mono HB2.out.size))⟩
              · have e5 : (t1.toList == (⟨#[]⟩ : ByteArray).toList) = false := str_ne k0
                have e6 : (t1.toList == []) = false := by have q := e5; rw [ByteArray.toList_eq (⟨#[]⟩ : ByteArray)] at q; exact q
                have e7 : t1.toList.isEmpty = false := by rw [beq_eq_false_iff_ne] at e6; cases h : t1.toList with
                  | nil => exact absurd h e6
                  | cons a l => rfl
                have e8 : ¬ t1.toList = [] := by rw [beq_eq_false_iff_ne] at e6; exact e6
                go_quiet (fail)
                go_wp2
                go_ret
                exact ⟨false, rfl, ⟨fun h => (nomatch h), fun h => absurd h (HU.out.bad2 hlt HP.out fun k => by have k2 := k.2; rw [HE1.out, HE.out] at k2; injection k2 with k00 k11 k22 k33 k44; exact k0 k00)⟩, (HB2.out.trans ((Gr.below ((Gr.refl _).drewN _)).mono HB2.out.size))⟩
            · have hm1 : decide ((m : Int) < 2) = true := decide_eq_true (by omega)
              go_wp2
              go_ret
              exact ⟨false, rfl, ⟨fun h => (nomatch h), fun h => absurd h (HU.out.bad2 hlt HP.out fun k => hm2 k.1)⟩, HB2.out⟩
        · have HP0 : Hid ((C x).p ≠ 0) := by show _ ≠ _; rw [HE.out]; exact hq0
          have HP1 : Hid ((C x).p ≠ 1) := by show _ ≠ _; rw [HE.out]; exact hq1
          have CO : Hid (∀ w, Calls Tryz.prog 50 #[.int .i64 q] w fun e w' => e = .returned (.int .i64 0) ∧ w' = w) := fun w => by have := CO.out w; unfold colI at this; rw [if_neg hq0, if_neg hq1] at this; exact this
          refine (CO.out _).mono ?_
          rintro e w1 ⟨rfl, hw⟩
          obtain rfl := hw.symm
          have c0 := R0.out.c0
          have c1 := R0.out.c1
          have c2 := R0.out.c2
          have c3 := R0.out.c3
          have c4 := R0.out.c4
          go_wp2_with fail
          refine (IS.out 0).mono ?_
          rintro r w2 ⟨bb, rfl, HI, HB2, HB02⟩
          clear c0 c1 c2 c3 c4
          cases bb with
          | true => exact absurd rfl (HI.out.1 rfl).1
          | false =>
            go_wp2
            go_ret
            exact ⟨false, rfl, ⟨fun h => (nomatch h), fun h => absurd h (HU.out.bad3 hlt HP0.out HP1.out)⟩, HB2.out⟩
    · have hm0 : ¬ (0 : Int) < (m : Int) := by omega
      obtain rfl : x = hi := by have := HU.out.high; omega
      go_wp2
      go_ret
      exact ⟨true, rfl, ⟨fun _ => HU.out.all, fun _ => rfl⟩, HB.out⟩

end Go.Proofs.YtkdajaphbmclkaaGreatDoor

namespace Go.Proofs.YtkdajaphbmclkaaGreatDoor
open Go.RowKit Go.Sort
set_option linter.unusedVariables false

theorem infoCell : (Tryz.prog.info? 71).map (fun i => (i.zero, i.size, i.bytes)) = some (some (.agg #[.string ⟨#[]⟩, .int .i64 0, .int .i64 0, .int .i64 0, .int .i64 0]), 5, 48) := by kernel_rfl

/-- Cells, laid one behind the other. -/
def lay5 (C : Nat → Ce) : Nat → List Value
  | 0 => []
  | k + 1 => lay5 C k ++ c5 (C k)
theorem lay5_len (C : Nat → Ce) : ∀ k, (lay5 C k).length = k * 5
  | 0 => rfl
  | k + 1 => by rw [lay5, List.length_append, lay5_len C k, c5_len]; omega
theorem lay5_at (C : Nat → Ce) : ∀ k j, j < k → ∀ (q : Nat) u, (c5 (C j))[q]? = some u → (lay5 C k)[j * 5 + q]? = some u
  | 0, j, h => by omega
  | k + 1, j, h => by
    intro q u hu
    have hq : q < 5 := by have := (List.getElem?_eq_some_iff.1 hu).1; rw [c5_len] at this; exact this
    have hl := lay5_len C k
    by_cases e : j < k
    · have := lay5_at C k j e q u hu
      simp only [lay5]
      rw [List.getElem?_append_left (by omega)]
      exact this
    · obtain rfl : j = k := by omega
      simp only [lay5]
      rw [List.getElem?_append_right (by omega), hl, show j * 5 + q - j * 5 = q by omega]
      exact hu
/-- n cells in a block of cells, from off on. -/
structure CB (Q : World) (g off n : Nat) (C : Nat → Ce) : Prop where
  at_ : ∃ cs fz, Q.heap[g]? = some (.cells cs 71 fz)
  cl : CL Q g off n C
theorem CB.kept {Q Q' : World} {g off n : Nat} {C : Nat → Ce} (h : CB Q g off n C) (he : ∀ cs fz, Q.heap[g]? = some (.cells cs 71 fz) → Q'.heap[g]? = some (.cells cs 71 fz)) : CB Q' g off n C := by
  obtain ⟨cs, fz, h1⟩ := h.at_
  have h2 := he cs fz h1
  refine ⟨⟨cs, fz, h2⟩, (Array.getElem?_eq_some_iff.1 h2).1, fun i hi k u hu => ?_⟩
  have := h.cl.cell i hi k u hu
  rw [Lib.cell_of_heap h1] at this
  rw [Lib.cell_of_heap h2]
  exact this
theorem CB.low {w w2 : World} {q off n : Nat} {C : Nat → Ce} (h : CB w q off n C) (ht : Below w.heap.size w w2) : CB w2 q off n C := h.kept fun cs fz he => (ht.block _ (Array.getElem?_eq_some_iff.1 he).1).trans he
/-- What painting answers. -/
def Pic (W : World) (v : Value) (n : Nat) (C : Nat → Ce) : Prop := ∃ p cap, v = .slice p n cap ∧ n ≤ cap ∧ cap ≤ 9223372036854775807 ∧ (n = 0 ∨ ∃ g, p = some ⟨g, 0, none⟩ ∧ CB W g 0 n C)
theorem pic_own {W : World} {B n : Nat} {v : Value} {C : Nat → Ce} (h : W.ownsRow B 71 5 v n (lay5 C n)) : Pic W v n C := by
  have h0 := h
  rcases h.2 with ⟨rfl, rfl⟩ | ⟨g, cap, cur, rfl, hb, hg, h1, h2, _⟩
  · exact ⟨none, 0, rfl, Nat.le_refl _, by omega, .inl rfl⟩
  · refine ⟨some ⟨g, 0, none⟩, cap, rfl, h1, by unfold maxLen at h2; omega, .inr ⟨g, rfl, ⟨_, _, hg⟩, (Array.getElem?_eq_some_iff.1 hg).1, fun i hi k u hu => ?_⟩⟩
    have hk : k < 5 := by have := (List.getElem?_eq_some_iff.1 hu).1; rw [c5_len] at this; exact this
    rw [Nat.zero_add, h0.cellAt _ (by omega)]
    exact lay5_at C n i hi k u hu
theorem cell_five_pn (w : World) (e : Ce) (t : TypeId) : ∀ j u, (c5 e)[j]? = some u → (w.alloc (.cells #[.string e.t, .int .i64 e.f, .int .i64 e.g, .int .i64 e.b, .int .i64 e.p] t)).cell? ((⟨w.heap.size, 0, none⟩ : Addr).add j) = some u := by
  intro j u h
  have e' : (⟨w.heap.size, 0, none⟩ : Addr).add j = ⟨w.heap.size, 0 + j, none⟩ := by unfold Addr.add; split <;> simp_all
  rw [e', Nat.zero_add, World.cell?_alloc_at _ _ _ _ rfl]
  rw [← h]
  match j with
  | 0 => rfl
  | 1 => rfl
  | 2 => rfl
  | 3 => rfl
  | 4 => rfl
  | _ + 5 => rfl

set_option maxRecDepth 100000 in
set_option maxHeartbeats 8000000 in
theorem painting_some (n blk off cap : Nat) (C : Nat → Ce) (w : World) (h : CL w blk off n C) (hn : n ≤ 1048576) :
    Calls Tryz.prog 8 #[.slice (some ⟨blk, off, none⟩) n cap] w fun e w' => ∃ v, e = .returned v ∧ Pic w' v n C ∧ Below w.heap.size w w' := by
  have hmix : Tryz.prog.follows .mixedOrders = true := by kernel_rfl
  obtain ⟨i0, hi, hz0, hz1, hz2⟩ := info_parts infoCell
  have HW : Hid (CL w blk off n C) := h
  have HL : Hid (∀ e w, Calls Tryz.prog 21 #[cev e] w fun r w' => r = .returned (cev e) ∧ Gr w w') := cell_any
  clear h
  go_enter Tryz.func8, Tryz.ntmps8
  go_wp2
  go_loopw [3, 4] (fun v i wr => ∃ k : Nat, i = .int .i64 k ∧ k ≤ n ∧ Hid (wr.ownsRow w.heap.size 71 5 v k (lay5 C k)) ∧ Hid (Below w.heap.size w wr)) (fun _ i _ => n - (intOf i).toNat)
  case atStart => exact ⟨0, rfl, Nat.zero_le _, World.ownsRow_nil _ _ _ _, Below.refl _ _⟩
  case round =>
    obtain ⟨k, rfl, hk, HO, HB⟩ := hrel
    by_cases hlt : k < n
    · have hlt' : (k : Int) < (n : Int) := by omega
      have V := HW.out.below HB.out
      obtain ⟨e, he⟩ : ∃ e, C k = e := ⟨_, rfl⟩
      have hC1 : ∀ (q : Nat) u, (c5 e)[q]? = some u → wr.cell? ⟨blk, off + k * 5 + q, none⟩ = some u := fun q u h => V.cell k hlt q u (by rw [he]; exact h)
      have HS : Hid (lay5 C (k + 1) = lay5 C k ++ c5 e) := by show _ = _; rw [lay5, he]
      obtain ⟨t, f, g, b, p⟩ := e
      have d0 : wr.cell? ⟨blk, off + k * 5, none⟩ = some (.string t) := hC1 0 _ rfl
      have d1 := hC1 1 (.int .i64 f) rfl
      have d2 := hC1 2 (.int .i64 g) rfl
      have d3 := hC1 3 (.int .i64 b) rfl
      have d4 := hC1 4 (.int .i64 p) rfl
      have CA : Hid (∀ w, Calls Tryz.prog 21 #[.agg #[.string t, .int .i64 f, .int .i64 g, .int .i64 b, .int .i64 p]] w fun r w' => r = .returned (.agg #[.string t, .int .i64 f, .int .i64 g, .int .i64 b, .int .i64 p]) ∧ Gr w w') := fun w => HL.out ⟨t, f, g, b, p⟩ w
      clear hC1 V he
      go_wp2_with fail
      refine (CA.out wr).mono ?_
      rintro e w1 ⟨rfl, g1⟩
      have HB1 : Hid (Below w.heap.size w w1) := HB.out.trans (g1.below.mono HB.out.size)
      have HO1 : Hid (w1.ownsRow w.heap.size 71 5 u3 k (lay5 C k)) := own_below2 HO.out g1.below
      clear d0 d1 d2 d3 d4 g1 CA
      have hzr := HB1.out.size
      go_wp2_with (at_builtin; refine wpList_append_own _ rfl _ _ 31 rfl w.heap.size 71 i0 (.agg #[.string ⟨#[]⟩, .int .i64 0, .int .i64 0, .int .i64 0, .int .i64 0]) 5 48 Tryz.underlying31 hi hz0 hz1 hz2 rfl (by decide) _ _ _ rfl (World.ownsRow.alloc (w := w1) HO1.out _) _ 1 1 [.string t, .int .i64 f, .int .i64 g, .int .i64 b, .int .i64 p] rfl rfl ?c1 ?c2 ?c3 ?c4 ?c5 ?_)
      case c1 => exact cell_five_pn w1 ⟨t, f, g, b, p⟩ _
      case c2 => intro u hu; simp at hu; rcases hu with rfl | rfl | rfl | rfl | rfl <;> rfl
      case c3 => unfold maxLen; omega
      case c4 => omega
      case c5 => simp; omega
      intro v' w3 hown' hg _
      have HB3 : Hid (Below w.heap.size w w3) := (HB1.out.alloc (by omega) _).grown hg (by simp; omega) (fun q hq => (HO1.out.lt q hq).1)
      have HO3 : Hid (w3.ownsRow w.heap.size 71 5 v' (k + 1) (lay5 C (k + 1))) := by show World.ownsRow _ _ _ _ _ _ _; rw [HS.out]; exact hown'
      clear hown' hg
      go_wp2
      go_roundw
      case rel => exact ⟨k + 1, by go_num, by omega, HO3.out, HB3.out⟩
      case measure => simp [intOf]; omega
    · have hge : ¬ (k : Int) < (n : Int) := by omega
      obtain rfl : n = k := by omega
      have HV := pic_own HO.out
      go_wp2
      go_ret
      exact ⟨_, rfl, HV, HB.out⟩

set_option maxRecDepth 100000 in
set_option maxHeartbeats 1000000 in
theorem painting_none (p : Option Addr) (cap : Nat) (C : Nat → Ce) (w : World) :
    Calls Tryz.prog 8 #[.slice p 0 cap] w fun e w' => ∃ v, e = .returned v ∧ Pic w' v 0 C ∧ Below w.heap.size w w' := by
  go_enter Tryz.func8, Tryz.ntmps8
  go_wp2
  go_loop [3, 4] (fun v i => v = .slice none 0 0 ∧ i = .int .i64 0) (fun _ _ => 0)
  case atStart => exact ⟨rfl, rfl⟩
  case round =>
    obtain ⟨rfl, rfl⟩ := hrel
    go_wp2
    go_ret
    exact ⟨_, rfl, ⟨none, 0, rfl, Nat.le_refl _, by omega, .inl rfl⟩, Below.refl _ _⟩

theorem painting_any (n cap : Nat) (p : Option Addr) (C : Nat → Ce) (w : World) (hC : n = 0 ∨ ∃ g off, p = some ⟨g, off, none⟩ ∧ CL w g off n C) (hn : n ≤ 1048576) :
    Calls Tryz.prog 8 #[.slice p n cap] w fun e w' => ∃ v, e = .returned v ∧ Pic w' v n C ∧ Below w.heap.size w w' := by
  rcases hC with rfl | ⟨g, off, rfl, h⟩
  · exact painting_none p cap C w
  · exact painting_some n g off cap C w h hn

end Go.Proofs.YtkdajaphbmclkaaGreatDoor

namespace Go.Proofs.YtkdajaphbmclkaaGreatDoor
open Go.RowKit Go.Sort
set_option linter.unusedVariables false

theorem not_scr {C : Nat → Ce} {n : Nat} {v : Int} (h : ¬ (1 ≤ v ∧ v ≤ 400)) : ¬ Scr C n v := fun ⟨W, H, h1, _, h3, h4, _⟩ => h (by omega)
theorem not_scr_rem {C : Nat → Ce} {n W : Nat} (h : ¬ n % W = 0) : ¬ Scr C n (W : Int) := fun ⟨W', H, h1, h2, _⟩ => by
  obtain rfl : W = W' := by omega
  exact h (by rw [h2]; exact Nat.mul_mod_left _ _)
theorem not_scr_quo {C : Nat → Ce} {W H : Nat} (hW : 1 ≤ W) (h : ¬ (1 ≤ H ∧ H ≤ 400)) : ¬ Scr C (H * W) (W : Int) := fun ⟨W', H', h1, h2, _, _, h3, h4, _⟩ => by
  obtain rfl : W = W' := by omega
  have : H = H' := Nat.eq_of_mul_eq_mul_right hW h2
  subst this
  exact h ⟨h3, h4⟩
theorem scr_iff {C : Nat → Ce} {W H : Nat} (hW : 1 ≤ W) (hW4 : W ≤ 400) (hH : 1 ≤ H) (hH4 : H ≤ 400) : Scr C (H * W) (W : Int) ↔ ∀ y, y < H → RowOk C (y * W) (y * W + W) := by
  constructor
  · rintro ⟨W', H', h1, h2, _, _, _, _, h5⟩
    obtain rfl : W = W' := by omega
    have : H = H' := Nat.eq_of_mul_eq_mul_right hW h2
    subst this
    exact h5
  · intro h
    exact ⟨W, H, rfl, rfl, hW, hW4, hH, hH4, h⟩

set_option maxRecDepth 100000 in
set_option maxHeartbeats 8000000 in
theorem dSound_any (C : Nat → Ce) (v : Int) (p : Option Addr) (n cap : Nat) (hb : n ≤ 1048576) (hc1 : n ≤ cap) (hc2 : cap ≤ 9223372036854775807) (w : World) (hC : n = 0 ∨ ∃ g, p = some ⟨g, 0, none⟩ ∧ CL w g 0 n C) (ht : TabAt w) (hs : ∀ i, i < n → (C i).t.size ≤ 1099511627776) :
    Calls Tryz.prog 16 #[.slice p n cap, .int .i64 v] w fun r w' => Tells w w' r (Scr C n v) := by
  have DS : Hid (∀ n w, Calls Tryz.prog 32 #[.int .i64 n] w fun e w' => e = .returned (.bool (decide (1 ≤ n ∧ n ≤ 400))) ∧ w' = w) := dSide_any
  by_cases hv : 1 ≤ v ∧ v ≤ 400
  · obtain ⟨W, rfl⟩ : ∃ W : Nat, v = (W : Int) := ⟨v.toNat, by omega⟩
    have DS1 : Hid (∀ w, Calls Tryz.prog 32 #[.int .i64 (W : Int)] w fun e w' => e = .returned (.bool true) ∧ w' = w) := fun w => by have := DS.out (W : Int) w; rw [decide_eq_true hv] at this; exact this
    have hW0 : ¬ (W : Int) = 0 := by omega
    by_cases hr : n % W = 0
    · have hr' : ((n : Int) % (W : Int) != 0) = false := by
        have : (n : Int) % (W : Int) = ((n % W : Nat) : Int) := by omega
        rw [this, hr]; rfl
      obtain ⟨H, hH⟩ : ∃ H, n = H * W := ⟨n / W, by have := Nat.div_add_mod n W; rw [hr, Nat.mul_comm] at this; omega⟩
      have hq : (n : Int) / (W : Int) = (H : Int) := by
        rw [hH, Int.natCast_mul]
        exact Int.mul_ediv_cancel _ hW0
      have HSC : Hid (n = H * W) := hH
      have hHn : H ≤ n := by rw [hH]; exact Nat.le_mul_of_pos_right _ (by omega)
      have hq2 : wrap64 ((n : Int) / (W : Int)) = (H : Int) := by rw [hq]; unfold wrap64; omega
      by_cases hh : 1 ≤ H ∧ H ≤ 400
      · have DS2 : Hid (∀ w, Calls Tryz.prog 32 #[.int .i64 (H : Int)] w fun e w' => e = .returned (.bool true) ∧ w' = w) := fun w => by have := DS.out (H : Int) w; rw [decide_eq_true (by omega)] at this; exact this
        obtain ⟨g, rfl, hCL⟩ : ∃ g, p = some ⟨g, 0, none⟩ ∧ CL w g 0 n C := by
          rcases hC with h | h
          · have : H * W = 0 := by omega
            rcases Nat.mul_eq_zero.1 this with h | h <;> omega
          · exact h
        have HC : Hid (CL w g 0 n C) := hCL
        have HT : Hid (TabAt w) := ht
        have HZ : Hid (∀ i, i < n → (C i).t.size ≤ 1099511627776) := hs
        have HSI : Hid (Scr C n (W : Int) ↔ ∀ y, y < H → RowOk C (y * W) (y * W + W)) := by show _ ↔ _; rw [hH]; exact scr_iff (by omega) (by omega) hh.1 hh.2
        clear hCL hC ht hs hq hr hH
        go_enter Tryz.func16, Tryz.ntmps16
        go_wp2_with fail
        refine (DS1.out _).mono ?_
        rintro e w1 ⟨rfl, hw⟩
        obtain rfl := hw.symm
        go_wp2_with fail
        refine (DS2.out _).mono ?_
        rintro e w1 ⟨rfl, hw⟩
        obtain rfl := hw.symm
        go_wp2
        go_loopw [0] (fun rv wr => ∃ (y x m c : Nat) (p : Option Addr), y ≤ H ∧ Hid (x = y * W) ∧ Hid (∀ y', y' < y → RowOk C (y' * W) (y' * W + W)) ∧ x + m = n ∧ rv = .slice p m c ∧ m ≤ c ∧ c ≤ 9223372036854775807 ∧ (x < n → p = some ⟨g, x * 5, none⟩) ∧ Hid (Below w.heap.size w wr)) (fun rv _ => lenOf rv)
        case atStart => exact ⟨0, 0, n, cap, _, Nat.zero_le _, by show 0 = 0 * W; rw [Nat.zero_mul], fun y' h => absurd h (by omega), by omega, rfl, hc1, hc2, fun _ => rfl, Below.refl _ _⟩
        case round =>
          obtain ⟨y, x, m, c, p, hy, HX, HR, hm, rfl, hmc, hc3, hp, HB⟩ := hrel
          by_cases hlt : x < n
          · obtain rfl := hp hlt
            have hm0 : (0 : Int) < (m : Int) := by omega
            have hy1 : y < H := by
              rcases Nat.lt_or_ge y H with h | h
              · exact h
              · have h1 : y = H := by omega
                have h2 := HX.out
                have h3 := HSC.out
                rw [h1] at h2
                omega
            have hxW : x + W ≤ n := by
              have h1 : (y + 1) * W ≤ H * W := Nat.mul_le_mul_right _ hy1
              rw [Nat.add_mul, Nat.one_mul, ← HX.out, ← HSC.out] at h1
              exact h1
            have hWm : W ≤ m := by omega
            have IR : Hid (∀ cap, W ≤ cap → cap ≤ 9223372036854775807 → Calls Tryz.prog 33 #[.slice (some ⟨g, x * 5, none⟩) W cap] wr fun r w' => ∃ bb : Bool, r = .returned (.bool bb) ∧ Hid (bb = true ↔ RowOk C (y * W) (y * W + W)) ∧ Hid (Below w.heap.size w w')) := fun cap h1 h2 => (isRow_any C g x W (x + W) cap n rfl hxW hb h1 h2 wr (HC.out.below HB.out) (HT.out.below HB.out) HZ.out).mono fun r w' h => by
              obtain ⟨bb, h1, h2, h3⟩ := h
              rw [← HX.out]
              exact ⟨bb, h1, h2, HB.out.trans (h3.mono HB.out.size)⟩
            have hWc : W ≤ c := by omega
            go_wp2_with fail
            refine (IR.out _ (by omega) (by omega)).mono ?_
            rintro r w2 ⟨bb, rfl, HI, HB2⟩
            cases bb with
            | false =>
              go_wp2
              go_ret
              exact ⟨false, rfl, ⟨fun h => (nomatch h), fun h => (nomatch HI.out.2 (HSI.out.1 h y hy1))⟩, HB2.out⟩
            | true =>
              have HR2 : Hid (∀ y', y' < y + 1 → RowOk C (y' * W) (y' * W + W)) := fun y' h => by
                by_cases e : y' = y
                · subst e; exact HI.out.1 rfl
                · exact HR.out y' (by omega)
              go_wp2
              refine ⟨⟨y + 1, x + W, m - W, c - W, _, hy1, by show _ = _; rw [HX.out, Nat.add_mul, Nat.one_mul], HR2.out, by omega, rfl, by omega, by omega, fun hx => ?_, HB2.out⟩, by simp only [lenOf]; omega⟩
              rw [if_neg (by omega), Nat.add_mul]
          · have hm0 : ¬ (0 : Int) < (m : Int) := by omega
            have hyH : y = H := by
              have h2 := HX.out
              have h3 := HSC.out
              have h4 : y * W = H * W := by omega
              exact Nat.eq_of_mul_eq_mul_right (by omega) h4
            subst hyH
            go_wp2
            go_ret
            exact ⟨true, rfl, ⟨fun _ => HSI.out.2 HR.out, fun _ => rfl⟩, HB.out⟩
      · have DS2 : Hid (∀ w, Calls Tryz.prog 32 #[.int .i64 (H : Int)] w fun e w' => e = .returned (.bool false) ∧ w' = w) := fun w => by have := DS.out (H : Int) w; rw [decide_eq_false (by omega)] at this; exact this
        have HNS : Hid (¬ Scr C n (W : Int)) := by show ¬ _; rw [hH]; exact not_scr_quo (by omega) hh
        clear hq hH hr
        go_enter Tryz.func16, Tryz.ntmps16
        go_wp2_with fail
        refine (DS1.out _).mono ?_
        rintro e w1 ⟨rfl, hw⟩
        obtain rfl := hw.symm
        go_wp2_with fail
        refine (DS2.out _).mono ?_
        rintro e w1 ⟨rfl, hw⟩
        obtain rfl := hw.symm
        go_wp2
        go_ret
        exact ⟨false, rfl, ⟨fun h => (nomatch h), fun h => absurd h HNS.out⟩, Below.refl _ _⟩
    · have hr' : ((n : Int) % (W : Int) != 0) = true := by
        have : (n : Int) % (W : Int) = ((n % W : Nat) : Int) := by omega
        rw [this]; simp; omega
      have HNS : Hid (¬ Scr C n (W : Int)) := not_scr_rem hr
      clear hr
      go_enter Tryz.func16, Tryz.ntmps16
      go_wp2_with fail
      refine (DS1.out _).mono ?_
      rintro e w1 ⟨rfl, hw⟩
      obtain rfl := hw.symm
      go_wp2
      go_ret
      exact ⟨false, rfl, ⟨fun h => (nomatch h), fun h => absurd h HNS.out⟩, Below.refl _ _⟩
  · have DS1 : Hid (∀ w, Calls Tryz.prog 32 #[.int .i64 v] w fun e w' => e = .returned (.bool false) ∧ w' = w) := fun w => by have := DS.out v w; rw [decide_eq_false hv] at this; exact this
    go_enter Tryz.func16, Tryz.ntmps16
    go_wp2_with fail
    refine (DS1.out _).mono ?_
    rintro e w1 ⟨rfl, hw⟩
    obtain rfl := hw.symm
    go_wp2
    go_ret
    exact ⟨false, rfl, ⟨fun h => (nomatch h), fun h => absurd h (not_scr hv)⟩, Below.refl _ _⟩

end Go.Proofs.YtkdajaphbmclkaaGreatDoor

namespace Go.Proofs.YtkdajaphbmclkaaGreatDoor
open Go.RowKit Go.Sort
set_option linter.unusedVariables false

set_option maxRecDepth 100000 in
theorem dnum_any (n : Int) (w : World) : Calls Tryz.prog 6 #[.int .i64 n] w fun e w' => e = .returned (.int .i64 n) ∧ w' = w := by
  go_enter Tryz.func6, Tryz.ntmps6
  go_wp2
  go_ret
  exact ⟨rfl, rfl⟩

/-- Cells of two lists are the same. -/
theorem cell_gr1 {w w' : World} {g off n : Nat} {C : Nat → Ce} (h : CL w g off n C) (hg : Gr w w') : CL w' g off n C := h.below hg.below
section
variable {g off g' off' cap cap' n : Nat} {C : Nat → Ce}
set_option maxRecDepth 100000 in
set_option maxHeartbeats 4000000 in
theorem dcells_some (w : World) (h : CL w g off n C) (h' : CL w g' off' n C) (nb : n ≤ 1048576) : Calls Tryz.prog 11 #[.slice (some ⟨g, off, none⟩) n cap, .slice (some ⟨g', off', none⟩) n cap'] w fun e w' => e = .returned (.bool true) ∧ Gr w w' := by
  have HL : Hid (∀ e w, Calls Tryz.prog 21 #[cev e] w fun r w' => r = .returned (cev e) ∧ Gr w w') := cell_any
  have HV : Hid (CL w g off n C) := h
  have HV' : Hid (CL w g' off' n C) := h'
  clear h h'
  go_enter Tryz.func11, Tryz.ntmps11
  go_wp2_with fail
  go_loopw [5] (fun iv wi => ∃ i : Nat, i ≤ n ∧ iv = .int .i64 i ∧ Hid (Gr w wi)) (fun iv _ => n - (intOf iv).toNat)
  case atStart => exact ⟨0, by omega, rfl, Gr.refl w⟩
  case round =>
    obtain ⟨i, hi, rfl, HI⟩ := hrel
    by_cases hil : i < n
    · have V1 := cell_gr1 HV.out HI.out
      have V2 := cell_gr1 HV'.out HI.out
      obtain ⟨e, he⟩ : ∃ e, C i = e := ⟨_, rfl⟩
      obtain ⟨t, f, g0, b, p⟩ := e
      have L1 : ∀ (k : Nat) u, (c5 ⟨t, f, g0, b, p⟩)[k]? = some u → wr.cell? ⟨g, off + i * 5 + k, none⟩ = some u := fun k u hu => V1.cell i hil k u (by rw [he]; exact hu)
      have L2 : ∀ (k : Nat) u, (c5 ⟨t, f, g0, b, p⟩)[k]? = some u → wr.cell? ⟨g', off' + i * 5 + k, none⟩ = some u := fun k u hu => V2.cell i hil k u (by rw [he]; exact hu)
      have hil' : (i : Int) < (n : Int) := by omega
      have CA : Hid (∀ w, Calls Tryz.prog 21 #[.agg #[.string t, .int .i64 f, .int .i64 g0, .int .i64 b, .int .i64 p]] w fun r w' => r = .returned (.agg #[.string t, .int .i64 f, .int .i64 g0, .int .i64 b, .int .i64 p]) ∧ Gr w w') := fun w => HL.out ⟨t, f, g0, b, p⟩ w
      have d0 : wr.cell? ⟨g, off + i * 5, none⟩ = some (.string t) := L1 0 _ rfl
      have q0 : wr.cell? ⟨g', off' + i * 5, none⟩ = some (.string t) := L2 0 _ rfl
      have a0 := cell_grown V1.lt d0
      have a1 := cell_grown V1.lt (L1 1 (.int .i64 f) rfl)
      have a2 := cell_grown V1.lt (L1 2 (.int .i64 g0) rfl)
      have a3 := cell_grown V1.lt (L1 3 (.int .i64 b) rfl)
      have a4 := cell_grown V1.lt (L1 4 (.int .i64 p) rfl)
      have b0 := cell_grown V2.lt q0
      have b1 := cell_grown V2.lt (L2 1 (.int .i64 f) rfl)
      have b2 := cell_grown V2.lt (L2 2 (.int .i64 g0) rfl)
      have b3 := cell_grown V2.lt (L2 3 (.int .i64 b) rfl)
      have b4 := cell_grown V2.lt (L2 4 (.int .i64 p) rfl)
      clear V1 V2 he d0 q0 L1 L2
      go_wp2_with fail
      have hmix : Tryz.prog.follows .mixedOrders = true := by kernel_rfl
      go_quiet_grown (first | (go_at_call 21; exact Calls.grown_of (CA.out _)))
      have HG : Hid (Gr w (grow (wr.drewN nq) osq)) := HI.out.trans ⟨nq, osq, rfl⟩
      go_wp2
      go_roundw
      case rel => exact ⟨i + 1, by omega, by go_num, HG.out⟩
      case measure => simp [intOf]; omega
    · have hil' : ¬ (i : Int) < (n : Int) := by omega
      go_wp2
      go_ret
      exact ⟨rfl, HI.out⟩
set_option maxRecDepth 100000 in
set_option maxHeartbeats 1000000 in
theorem dcells_none (p p' : Option Addr) (w : World) : Calls Tryz.prog 11 #[.slice p 0 cap, .slice p' 0 cap'] w fun e w' => e = .returned (.bool true) ∧ Gr w w' := by
  go_enter Tryz.func11, Tryz.ntmps11
  go_wp2_with fail
  go_loop [5] (fun iv => iv = .int .i64 0) (fun _ => 0)
  case atStart => exact rfl
  case round =>
    obtain rfl := hrel
    go_wp2
    go_ret
    exact ⟨rfl, Gr.refl w⟩
theorem dcells_any (p p' : Option Addr) (w : World) (h : n = 0 ∨ ∃ g off, p = some ⟨g, off, none⟩ ∧ CL w g off n C) (h' : n = 0 ∨ ∃ g off, p' = some ⟨g, off, none⟩ ∧ CL w g off n C) (nb : n ≤ 1048576) : Calls Tryz.prog 11 #[.slice p n cap, .slice p' n cap'] w fun e w' => e = .returned (.bool true) ∧ Gr w w' := by
  by_cases h0 : n = 0
  · subst h0; exact dcells_none p p' w
  · rcases h with h | ⟨g, off, rfl, h⟩
    · exact absurd h h0
    · rcases h' with h' | ⟨g', off', rfl, h'⟩
      · exact absurd h' h0
      · exact dcells_some w h h' nb
end

end Go.Proofs.YtkdajaphbmclkaaGreatDoor
