/-
  Print of the program and of the document: both answer the one form.
-/
import Derived.Test.YtnkebfmlaliddaaGreatDoorP33
import Derived.Test.YtnkebfmlaliddaaGreatDoorP21
import Derived.Test.YtnkebfmlaliddaaGreatDoorP28
namespace Go.Proofs.YtnkebfmlaliddaaGreatDoor
open Go.RowKit Go.Sort
set_option linter.unusedVariables false

theorem rise_lt : ∀ ks : List Nat, (∀ k c d, ks[k]? = some c → ks[k + 1]? = some d → c < d) → ks.Pairwise (· < ·)
  | [], _ => .nil
  | [x], _ => by simp
  | x :: y :: r, h => by
    have ih := rise_lt (y :: r) (fun k c d h1 h2 => h (k + 1) c d h1 h2)
    have hxy : x < y := h 0 x y rfl rfl
    refine List.Pairwise.cons (fun z hz => ?_) ih
    rcases List.mem_cons.1 hz with e | hz
    · subst e; exact hxy
    · have := List.rel_of_pairwise_cons ih hz
      omega
theorem rise_nodup {ks : List Nat} (h : ∀ k c d, ks[k]? = some c → ks[k + 1]? = some d → c < d) : ks.Nodup :=
  (rise_lt ks h).imp (fun h e => by omega)
theorem kd_len (k : Nat) : (kindsL[k]?.getD ByteArray.empty).data.toList.length ≤ 6 := by
  by_cases h : k < 7
  · have : k = 0 ∨ k = 1 ∨ k = 2 ∨ k = 3 ∨ k = 4 ∨ k = 5 ∨ k = 6 := by omega
    rcases this with rfl | rfl | rfl | rfl | rfl | rfl | rfl <;> decide
  · rw [List.getElem?_eq_none (by show 7 ≤ k; omega)]
    decide
theorem most_le (k : Nat) (h : k < 12) : mostL[k]?.getD 0 ≤ 999999 := by
  have : k = 0 ∨ k = 1 ∨ k = 2 ∨ k = 3 ∨ k = 4 ∨ k = 5 ∨ k = 6 ∨ k = 7 ∨ k = 8 ∨ k = 9 ∨ k = 10 ∨ k = 11 := by omega
  rcases this with rfl | rfl | rfl | rfl | rfl | rfl | rfl | rfl | rfl | rfl | rfl | rfl <;> decide
theorem Nv.attB {d : Nd} (h : Nv d) : AttB d.attr := fun k hk hne => by
  rcases h.att k hk with e | ⟨_, h1, h2⟩
  · exact absurd e hne
  · have := most_le k hk
    exact ⟨h1, by omega⟩
theorem own_le {s : ByteArray} {L : List Nd} (h : Vl s L) (hs : s.size ≤ 4000) (j : Nat) (hj : j < L.length) : ownN (nth L) j ≤ 25000000 := by
  unfold ownN ownS
  rw [List.length_append]
  have h1 := kd_len (nth L j).kind
  have h2 := braR_len (h.nv j hj).attB
  have h3 := h.tl j hj
  have h4 : (escR (nth L j).text).length ≤ 2 * (nth L j).text.length + 2 := by
    unfold escR
    have := escF_len (nth L j).text
    rw [List.length_cons, List.length_append, List.length_cons, List.length_nil]
    omega
  omega
/-- What the form asks of a tree. -/
theorem Tree.fine {s : ByteArray} {L : List Nd} (h : Tree s L) : Fine L.length 25000000 (nth L) (fun i => (nth L i).up) := by
  have hc := h.vl.cnt
  refine ⟨⟨fun i c hi hc => ?_, fun i hi => rise_nodup (fun k c d h1 h2 => h.gr.rise i k c d hi h1 h2), fun i hi => h.gr.upl i hi, fun i hi => ?_⟩, fun j hj => own_le h.vl h.sz j hj, by omega, fun j hj => (h.vl.nv j hj).kind, fun j hj => (h.vl.nv j hj).attB, by omega⟩
  · obtain ⟨k, hk⟩ := List.mem_iff_getElem?.1 hc
    exact h.gr.kid i k c hi hk
  · by_cases e : i = 0
    · subst e; show -1 ≤ (nth L 0).up; rw [h.up0]; decide
    · have := h.gr.up0 i hi
      show -1 ≤ (nth L i).up
      have hn : ¬ (nth L i).up < 0 := fun q => e (this.1 q)
      omega
theorem kids_read {W : World} {B : Nat} {kv : Value} {ks : List Nat} (h : W.ownsRow B 3 1 kv ks.length (kInts ks)) : ∃ p c, kv = .slice p ks.length c ∧ (ks = [] ∨ ∃ kb ko, p = some ⟨kb, ko, none⟩ ∧ kb < W.heap.size ∧ ∀ i, i < ks.length → W.cell? ⟨kb, ko + i, none⟩ = some (.int .i64 ((ks[i]?.getD 0 : Nat) : Int))) := by
  rcases own_form h with ⟨rfl, h0⟩ | ⟨g, cap, rfl, h1, h2, h3, h4⟩
  · exact ⟨none, 0, by rw [h0], .inl (List.eq_nil_of_length_eq_zero h0)⟩
  · refine ⟨_, _, rfl, .inr ⟨g, 0, rfl, h2, fun i hi => ?_⟩⟩
    rw [Nat.zero_add, h.cellAt i (by omega)]
    unfold kInts
    rw [List.getElem?_map, List.getElem?_eq_getElem hi]
    rfl
theorem RD.nds {W : World} {B : Nat} {g cap : Nat} {L : List Nd} {AV : Nat → Nat} {KV : Nat → Value} (h : RD W B (.slice (some ⟨g, 0, none⟩) L.length cap) L AV KV) (hg : g < W.heap.size) : NdsR W g L.length (nth L) := by
  refine ⟨hg, fun j hj => ⟨AV j, KV j, ?_⟩⟩
  have c : ∀ t u, (ndCells (nth L j) (avV (AV j)) (KV j))[t]? = some u → W.cell? ⟨g, j * 5 + t, none⟩ = some u := fun t u ht => h.nr.cells g rfl j hj t u ht
  exact ⟨c 0 _ rfl, c 1 _ rfl, c 2 _ rfl, c 3 _ rfl, c 4 _ rfl, (h.att j hj).2.1, fun k hk => ((h.att j hj).2.2 k hk).1, kids_read (h.nr.kids j hj)⟩

/-- What the document's Print answers. -/
def PrR (r : Except (Nat × Nat) (List Nd)) : Value := match r with
  | .error (c, p) => .tuple #[.string ⟨#[]⟩, .int .i64 (c : Int), .int .i64 (p : Int)]
  | .ok L => .tuple #[.string ⟨(formF (nth L) L.length 0).toArray⟩, .int .i64 0, .int .i64 0]
theorem parse_pos {s : ByteArray} {c p : Nat} (h : parse s = .error (c, p)) : 1 ≤ c := by
  cases hp : pTree s with
  | ok L => rw [parse_of_ok hp] at h; cases h
  | error x =>
    have h1 := parse_of_err hp
    rw [h] at h1
    injection h1 with h1
    injection h1 with h1 h2
    rw [h1]
    exact err_pos hp
set_option maxRecDepth 100000 in
set_option maxHeartbeats 4000000 in
theorem rprint_any (s : ByteArray) (w : World) : Calls Tryz.prog 6 #[.string s] w fun e w' => e = .returned (PrR (parse s)) ∧ Hid (Below w.heap.size w w') := by
  have RP : Hid (Calls Tryz.prog 9 #[.string s] w fun e w' => RpOut w w' e (parse s)) := rparse_any s w
  cases hp : parse s with
  | error q =>
    obtain ⟨c, p⟩ := q
    have hc := parse_pos hp
    rw [hp] at RP
    have hne : ((c : Int) != 0) = true := by simp; omega
    clear hp
    have RP2 : Hid (Calls Tryz.prog 9 #[.string s] w fun e w' => Below w.heap.size w w' ∧ e = .returned (.tuple #[.slice none 0 0, .int .i64 (c : Int), .int .i64 (p : Int)])) := RP.out
    clear RP
    go_enter Tryz.func6, Tryz.ntmps6
    go_wp2_with fail
    refine RP2.out.mono ?_
    rintro e w1 ⟨hb, rfl⟩
    have HB : Hid (Below w.heap.size w w1) := hb
    clear hb
    go_wp2
    go_ret3
    exact ⟨rfl, HB.out⟩
  | ok L =>
    have hT := parse_tree hp
    have hF := hT.fine
    rw [hp] at RP
    have RP2 : Hid (Calls Tryz.prog 9 #[.string s] w fun e w' => ∃ g cap, e = .returned (.tuple #[.slice (some ⟨g, 0, none⟩) L.length cap, .int .i64 0, .int .i64 0]) ∧ Hid (NdsR w' g L.length (nth L)) ∧ Hid (Below w.heap.size w w')) := RP.out.mono fun e w' ⟨h1, nv, AV, KV, h2, h3⟩ => by
      obtain ⟨g, cap, rfl, _, hg, _⟩ := h3.nr.form hT.pos
      exact ⟨g, cap, h2, h3.nds hg, h1⟩
    obtain ⟨FM, hFM⟩ : ∃ z, formF (nth L) L.length 0 = z := ⟨_, rfl⟩
    have FO : Hid (∀ g cap u, NdsR u g L.length (nth L) → Calls Tryz.prog 14 #[.slice (some ⟨g, 0, none⟩) L.length cap, .int .i64 0] u fun e w' => e = .returned (.string ⟨FM.toArray⟩) ∧ Hid (Below u.heap.size u w')) := fun g cap u hu => by
      have := form_any hF g cap L.length 0 hT.pos (by omega) u hu
      rw [hFM] at this
      exact this
    have HPR : Hid (PrR (.ok L) = .tuple #[.string ⟨FM.toArray⟩, .int .i64 0, .int .i64 0]) := by show _ = _; rw [← hFM]; rfl
    have hl100 := hT.vl.cnt
    clear hp hT hF hFM RP
    go_enter Tryz.func6, Tryz.ntmps6
    go_wp2_with fail
    refine RP2.out.mono ?_
    rintro e w1 ⟨g, cap, rfl, HN, HB⟩
    go_wp2_with fail
    refine (FO.out g cap _ HN.out).mono ?_
    rintro e w2 ⟨rfl, HB2⟩
    go_wp2
    go_ret3
    exact ⟨by rw [HPR.out]; rfl, HB.out.trans (HB2.out.mono HB.out.size)⟩

theorem PN.pst {W W' : World} {B0 B : Nat} {g cap ab : Nat} {L : List Nd} {KV : Nat → Value} (h : PN W B0 (.slice (some ⟨g, 0, none⟩) L.length cap) L KV) (hg : g < W.heap.size) (hb : Below W.heap.size W W') (hB : W.heap.size ≤ B) (hab : ab < B) (ht : Tab W' ab) (hte : TensAt W') (htg : 9 < B) (hk : Kn W') (hkg : 0 < B) : PSt W' B g L.length ab (nth L) := by
  refine ⟨by omega, hab, ht, hte, htg, hk, hkg, fun j hj => ⟨KV j, ?_⟩⟩
  have c : ∀ t u, (pnCells (nth L j) (KV j))[t]? = some u → W'.cell? ⟨g, j * 16 + t, none⟩ = some u := fun t u hu => (hb.cell (p := ⟨g, _, none⟩) hg).trans (h.nr.cells g rfl j hj t u hu)
  have hlen := h.len j hj
  refine ⟨c 0 _ (pn_kind _ _), fun k hk => c (k + 1) _ (pn_attr (by omega)), c 13 _ (pn_text hlen), c 14 _ (pn_kids hlen), ?_⟩
  obtain ⟨p, cc, e, r⟩ := kids_read (h.nr.kids j hj)
  refine ⟨p, cc, e, ?_⟩
  rcases r with r | ⟨kb, ko, e2, h1, h2⟩
  · exact .inl r
  · exact .inr ⟨kb, ko, e2, by omega, fun i hi => (hb.cell (p := ⟨kb, ko + i, none⟩) h1).trans (h2 i hi)⟩
set_option maxRecDepth 100000 in
set_option maxHeartbeats 4000000 in
theorem tprint_any (s : ByteArray) (E : Nat → Addr) (w : World) (hG : Glo w E) (hA : Apart w E) (hT : ErT w) (hTe : TensAt w) (htg : 9 < w.heap.size) (hkg : 0 < w.heap.size) :
    Calls Tryz.prog 5 #[.string s] w fun e w' => e = .returned (PrR (parse s)) ∧ Hid (Below w.heap.size w w') := by
  have TP : Hid (Calls Tryz.prog 8 #[.string s] w fun e w' => TpOut w w' e (pTree s)) := tparse_any s E w hG hA hT
  have HKn : Hid (Kn w) := hG.kn
  have HTe : Hid (TensAt w) := hTe
  clear hG hA hT hTe
  cases hp : pTree s with
  | error x =>
    have HQ : Hid (parse s = .error (errC x, errP x)) := parse_of_err hp
    have hc := err_pos hp
    rw [hp] at TP
    rw [HQ.out]
    obtain ⟨cc, hcc⟩ : ∃ q, errC x = q := ⟨_, rfl⟩
    obtain ⟨pp, hpp⟩ : ∃ q, errP x = q := ⟨_, rfl⟩
    have TP2 : Hid (Calls Tryz.prog 8 #[.string s] w fun e w' => Hid (Below w.heap.size w w') ∧ e = .returned (.tuple #[.slice none 0 0, .int .i64 (cc : Int), .int .i64 (pp : Int)])) := TP.out.mono fun e w' h => ⟨h.1, by have := h.2; rw [← hcc, ← hpp]; exact this⟩
    rw [hcc] at hc
    rw [hcc, hpp]
    have hne : ((cc : Int) != 0) = true := by simp; omega
    clear hp hcc hpp TP HQ
    go_enter Tryz.func5, Tryz.ntmps5
    go_wp2_with fail
    refine TP2.out.mono ?_
    rintro e w1 ⟨HB, rfl⟩
    go_wp2
    go_ret3
    exact ⟨rfl, HB.out⟩
  | ok L =>
    have hq := parse_of_ok hp
    have hTr := parse_tree hq
    have hF := hTr.fine
    rw [hp] at TP
    rw [hq]
    have TP2 : Hid (Calls Tryz.prog 8 #[.string s] w fun e w' => ∃ g cap KV, e = .returned (.tuple #[.slice (some ⟨g, 0, none⟩) L.length cap, .int .i64 0, .int .i64 0]) ∧ Hid (PN w' w.heap.size (.slice (some ⟨g, 0, none⟩) L.length cap) L KV ∧ g < w'.heap.size) ∧ Hid (Below w.heap.size w w')) := TP.out.mono fun e w' ⟨h1, nv, KV, h2, h3⟩ => by
      obtain ⟨g, cap, rfl, _, hg, _⟩ := h3.nr.form hTr.pos
      exact ⟨g, cap, KV, h2, ⟨h3, hg⟩, h1⟩
    obtain ⟨FM, hFM⟩ : ∃ z, formF (nth L) L.length 0 = z := ⟨_, rfl⟩
    have hfl : FM.length ≤ 70368744177664 := by
      have h1 := form_short (nth L) hF.nest hF.own L.length 0 hTr.pos (by omega)
      rw [hFM] at h1
      have := hF.mul
      omega
    have PNd : Hid (∀ B b g cap ab, NodeP B b g L.length cap ab (nth L) L.length) := fun B b g cap ab => printNode_all hF L.length
    have HPR : Hid (PrR (.ok L) = .tuple #[.string ⟨FM.toArray⟩, .int .i64 0, .int .i64 0]) := by show _ = _; rw [← hFM]; rfl
    have HFM : Hid (formF (nth L) L.length 0 = FM) := hFM
    have hpos := hTr.pos
    clear hp hq hTr hF hFM TP
    go_enter Tryz.func5, Tryz.ntmps5
    go_wp2_with fail
    refine TP2.out.mono ?_
    rintro e w1 ⟨g, cap, KV, rfl, HN, HB⟩
    clear TP2
    have AT := attributes_any w1
    obtain ⟨w2, hw2⟩ : ∃ z, w1.alloc (.cells attCells 64) = z := ⟨_, rfl⟩
    have hb2 : Below w1.heap.size w1 w2 := by rw [← hw2]; exact ((Gr.refl w1).alloc _).below
    have hs2 : w2.heap.size = w1.heap.size + 1 := by rw [← hw2]; simp
    have ht2 : Tab w2 w1.heap.size := by rw [← hw2]; exact tab_new w1
    rw [hw2] at AT
    obtain ⟨ab, hab⟩ : ∃ z, w1.heap.size = z := ⟨_, rfl⟩
    obtain ⟨w3, hw3⟩ : ∃ z, w2.alloc (.cells #[.slice (some ⟨g, 0, none⟩) L.length cap, .slice (some ⟨ab, 0, none⟩) 12 12, .pointer none, .slice none 0 0] 46) = z := ⟨_, rfl⟩
    obtain ⟨b, hbb⟩ : ∃ z, w2.heap.size = z := ⟨_, rfl⟩
    have hb3 : Below w2.heap.size w2 w3 := by rw [← hw3]; exact ((Gr.refl w2).alloc _).below
    have hat : w3.heap[b]? = some (.cells #[.slice (some ⟨g, 0, none⟩) L.length cap, .slice (some ⟨ab, 0, none⟩) 12 12, .pointer none, .slice none 0 0] 46 (0, 0)) := by rw [← hw3, ← hbb]; show (w2.heap.push _)[w2.heap.size]? = _; exact Array.getElem?_push_size
    have HPL : Hid (PrL w3 b b (.slice (some ⟨g, 0, none⟩) L.length cap) (.slice (some ⟨ab, 0, none⟩) 12 12) []) := ⟨_, _, Nat.le_refl _, .inl rfl, hat, ⟨rfl, .inl ⟨rfl, rfl⟩⟩, by show (none : Option Nat) ≠ some b; intro e; cases e⟩
    have hb13 : Below w1.heap.size w1 w3 := hb2.trans (hb3.mono hb2.size)
    have HB3 : Hid (Below w.heap.size w w3) := HB.out.trans (hb13.mono HB.out.size)
    have HPS : Hid (PSt w3 b g L.length ab (nth L)) := by
      have hz := HB.out.size
      refine HN.out.1.pst HN.out.2 hb13 (by omega) (by omega) ?_ (HTe.out.below HB3.out htg) (by omega) (fun j hj => (HB3.out.cell (p := ⟨_, j, none⟩) hkg).trans (HKn.out j hj)) (by omega)
      rw [← hab]
      exact below_tab ht2 hb3
    have NC : Hid (Calls Tryz.prog 12 #[.pointer (some ⟨b, 0, none⟩), .int .i64 0] w3 fun e w' => e = .returned (.tuple #[]) ∧ Hid (PrL w' b b (.slice (some ⟨g, 0, none⟩) L.length cap) (.slice (some ⟨ab, 0, none⟩) 12 12) FM) ∧ Hid (Below b w3 w')) := by
      have := PNd.out b b g cap ab 0 hpos (by omega) w3 [] HPL.out HPS.out (by rw [HFM.out]; simp; omega)
      rw [HFM.out, List.nil_append] at this
      exact this
    have HBb : Hid (w.heap.size ≤ b) := by show _ ≤ _; have := HB.out.size; omega
    rw [hab] at AT
    have AT2 : Hid (Calls Tryz.prog 11 #[] w1 fun e w' => e = .returned (.slice (some ⟨ab, 0, none⟩) 12 12) ∧ w' = w2) := AT
    have HBB : Hid (w2.heap.size = b) := hbb
    rw [← hbb] at NC
    have HW3 : Hid (w2.alloc (.cells #[.slice (some ⟨g, 0, none⟩) L.length cap, .slice (some ⟨ab, 0, none⟩) 12 12, .pointer none, .slice none 0 0] 46) = w3) := hw3
    rw [← hw3] at NC
    clear AT hb2 hb3 hb13 hat ht2 hs2 hw2 hbb hw3
    go_wp2_with fail
    refine AT2.out.mono ?_
    rintro e wx ⟨rfl, hwx⟩
    obtain rfl := hwx.symm
    go_wp2_with fail
    refine NC.out.mono ?_
    rintro e w4 ⟨rfl, HP4, HB4⟩
    have SC : Hid (Calls Tryz.prog 13 #[.pointer (some ⟨w2.heap.size, 2, none⟩)] w4 fun e w' => e = .returned (.string ⟨FM.toArray⟩) ∧ Hid (Below b w4 w')) := by
      rw [HBB.out]
      rw [HBB.out] at HP4
      have hz := HP4.out.size
      obtain ⟨p, v, q⟩ := HP4.out
      exact (prStr_any b b _ _ p v FM w4 q hz).mono fun e w' ⟨h1, h2⟩ => ⟨h1, h2.out.1⟩
    go_wp2_with fail
    refine SC.out.mono ?_
    rintro e w5 ⟨rfl, HB5⟩
    go_wp2
    go_ret3
    rw [HBB.out, HW3.out] at HB4
    exact ⟨by rw [HPR.out]; rfl, HB3.out.trans ((HB4.out.trans HB5.out).mono HBb.out)⟩

end Go.Proofs.YtnkebfmlaliddaaGreatDoor
