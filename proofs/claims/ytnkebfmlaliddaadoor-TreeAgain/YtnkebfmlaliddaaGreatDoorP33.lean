/-
  The printer's printNode: a node's form, written.
-/
import Derived.Test.YtnkebfmlaliddaaGreatDoorP32
import Derived.Test.YtnkebfmlaliddaaGreatDoorP11
import Derived.Test.YtnkebfmlaliddaaGreatDoorP24
namespace Go.Proofs.YtnkebfmlaliddaaGreatDoor
open Go.RowKit Go.Sort
set_option linter.unusedVariables false

def KidsB (W : World) (B : Nat) (kv : Value) (ks : List Nat) : Prop := ∃ p c, kv = .slice p ks.length c ∧ (ks = [] ∨ ∃ kb ko, p = some ⟨kb, ko, none⟩ ∧ kb < B ∧ ∀ i, i < ks.length → W.cell? ⟨kb, ko + i, none⟩ = some (.int .i64 ((ks[i]?.getD 0 : Nat) : Int)))
/-- A node of the program's, to be read. -/
structure Pd1 (W : World) (B g j : Nat) (d : Nd) (kv : Value) : Prop where
  c0 : W.cell? ⟨g, j * 16, none⟩ = some (.int .i64 (d.kind : Int))
  att : ∀ k, k < 12 → W.cell? ⟨g, j * 16 + (k + 1), none⟩ = some (.int .i64 (d.attr[k]?.getD 0))
  c13 : W.cell? ⟨g, j * 16 + 13, none⟩ = some (.string ⟨d.text.toArray⟩)
  c14 : W.cell? ⟨g, j * 16 + 14, none⟩ = some kv
  kids : KidsB W B kv d.kids
/-- All that the printer reads, below B. -/
structure PSt (W : World) (B g n ab : Nat) (L : Nat → Nd) : Prop where
  gl : g < B
  abl : ab < B
  tab : Tab W ab
  ten : TensAt W
  tg : 9 < B
  kn : Kn W
  kg : 0 < B
  nd : ∀ j, j < n → ∃ kv, Pd1 W B g j (L j) kv
theorem PSt.below {W W' : World} {B g n ab : Nat} {L : Nat → Nd} (h : PSt W B g n ab L) (hb : Below B W W') (hB : B ≤ W.heap.size) : PSt W' B g n ab L := by
  refine ⟨h.gl, h.abl, h.tab.fr (r := B) (Fr.below hb (Nat.le_refl _)) h.abl (by have := h.abl; omega), h.ten.below hb h.tg, h.tg, fun j hj => (hb.cell (p := ⟨_, j, none⟩) h.kg).trans (h.kn j hj), h.kg, fun j hj => ?_⟩
  obtain ⟨kv, q⟩ := h.nd j hj
  refine ⟨kv, (hb.cell (p := ⟨g, _, none⟩) h.gl).trans q.c0, fun k hk => (hb.cell (p := ⟨g, _, none⟩) h.gl).trans (q.att k hk), (hb.cell (p := ⟨g, _, none⟩) h.gl).trans q.c13, (hb.cell (p := ⟨g, _, none⟩) h.gl).trans q.c14, ?_⟩
  obtain ⟨p, c, e, r⟩ := q.kids
  refine ⟨p, c, e, ?_⟩
  rcases r with r | ⟨kb, ko, e2, h1, h2⟩
  · exact .inl r
  · exact .inr ⟨kb, ko, e2, h1, fun i hi => (hb.cell (p := ⟨kb, ko + i, none⟩) h1).trans (h2 i hi)⟩
theorem PrL.cellN {w : World} {B b : Nat} {nv av : Value} {l : List UInt8} (h : PrL w B b nv av l) : w.cell? ⟨b, 0, none⟩ = some nv ∧ b < w.heap.size := by
  obtain ⟨p, v, q⟩ := h
  exact ⟨q.cell (k := 0) rfl, q.lt⟩

/-- Nodes up to a fuel are printed. -/
def NodeP (B b g n cap ab : Nat) (L : Nat → Nd) (f : Nat) : Prop := ∀ k, k < n → n - k ≤ f → ∀ (w : World) (l : List UInt8), PrL w B b (.slice (some ⟨g, 0, none⟩) n cap) (.slice (some ⟨ab, 0, none⟩) 12 12) l → PSt w B g n ab L → l.length + (formF L f k).length ≤ 70368744177664 →
  Calls Tryz.prog 12 #[.pointer (some ⟨b, 0, none⟩), .int .i64 (k : Int)] w fun e w' => e = .returned (.tuple #[]) ∧ Hid (PrL w' B b (.slice (some ⟨g, 0, none⟩) n cap) (.slice (some ⟨ab, 0, none⟩) 12 12) (l ++ formF L f k)) ∧ Hid (Below B w w')

set_option maxRecDepth 100000 in
set_option maxHeartbeats 8000000 in
theorem printKids_of {B b g n cap ab : Nat} {L : Nat → Nd} {f : Nat} (IH : Hid (NodeP B b g n cap ab L f)) (hn : n ≤ 1000000) (ks : List Nat) (hks : Hid (∀ c ∈ ks, c < n ∧ n - c ≤ f)) (hkl : ks.length ≤ n) (kv : Value) (w : World) (l : List UInt8)
    (h : Hid (PrL w B b (.slice (some ⟨g, 0, none⟩) n cap) (.slice (some ⟨ab, 0, none⟩) 12 12) l)) (hS : Hid (PSt w B g n ab L)) (hK : KidsB w B kv ks) (hl : l.length + (91 :: (kjI (formF L f) ks ks.length ++ [93])).length ≤ 70368744177664) :
    Calls Tryz.prog 37 #[.pointer (some ⟨b, 0, none⟩), kv] w fun e w' => e = .returned (.tuple #[]) ∧ Hid (PrL w' B b (.slice (some ⟨g, 0, none⟩) n cap) (.slice (some ⟨ab, 0, none⟩) 12 12) (l ++ 91 :: (kjI (formF L f) ks ks.length ++ [93]))) ∧ Hid (Below B w w') := by
  obtain ⟨p, c, rfl, hK⟩ := hK
  have HK : Hid (∀ u, Below B w u → ∀ i, i < ks.length → ∃ kb ko, p = some ⟨kb, ko, none⟩ ∧ u.cell? ⟨kb, ko + i, none⟩ = some (.int .i64 ((ks[i]?.getD 0 : Nat) : Int))) := fun u hu i hi => by
    rcases hK with q | ⟨kb, ko, q1, q2, q3⟩
    · rw [q] at hi; exact absurd hi (by simp)
    · exact ⟨kb, ko, q1, (hu.cell (p := ⟨kb, ko + i, none⟩) q2).trans (q3 i hi)⟩
  obtain ⟨J, hJ⟩ : ∃ z, kjI (formF L f) ks = z := ⟨_, rfl⟩
  have HJS : Hid (∀ i, J (i + 1) = J i ++ ((if i = 0 then [] else [44]) ++ formF L f (ks[i]?.getD 0))) := fun i => by rw [← hJ]; rfl
  have HJM : Hid (∀ i j, i ≤ j → (J i).length ≤ (J j).length) := fun i j hij => by rw [← hJ]; exact kjI_mono _ _ i j hij
  have HJ0 : Hid (J 0 = []) := by show _ = _; rw [← hJ]; rfl
  rw [hJ] at hl ⊢
  rw [List.length_cons, List.length_append] at hl
  simp only [List.length_cons, List.length_nil] at hl
  have W1 : Hid (Calls Tryz.prog 58 #[.pointer (some ⟨b, 2, none⟩), .int .u8 91] w fun e w' => e = .returned .nilIface ∧ Hid (PrL w' B b (.slice (some ⟨g, 0, none⟩) n cap) (.slice (some ⟨ab, 0, none⟩) 12 12) (l ++ [91])) ∧ Hid (Below B w w')) := h.out.byte 91 (by omega)
  have HBs : Hid (B ≤ w.heap.size) := h.out.size
  clear hK hJ
  go_enter Tryz.func37, Tryz.ntmps37
  go_wp2_with fail
  refine W1.out.mono ?_
  rintro e w1 ⟨rfl, HP1, HB1⟩
  clear W1
  go_wp2
  go_loopw [12] (fun iv wr => ∃ i : Nat, i ≤ ks.length ∧ iv = .int .i64 (i : Int) ∧ Hid (PrL wr B b (.slice (some ⟨g, 0, none⟩) n cap) (.slice (some ⟨ab, 0, none⟩) 12 12) (l ++ 91 :: J i)) ∧ Hid (Below B w wr)) (fun iv _ => ks.length - (intOf iv).toNat)
  case atStart => exact ⟨0, Nat.zero_le _, rfl, by rw [HJ0.out]; exact HP1.out, HB1.out⟩
  case round =>
    obtain ⟨i, hi, rfl, HP, HB⟩ := hrel
    by_cases hil : i < ks.length
    · have hil' : (i : Int) < (ks.length : Int) := by omega
      obtain ⟨kb, ko, rfl, ck⟩ := HK.out wr HB.out i hil
      obtain ⟨cc, hcc⟩ : ∃ z, ks[i]?.getD 0 = z := ⟨_, rfl⟩
      have hmem : cc ∈ ks := by rw [← hcc, List.getElem?_eq_getElem hil]; exact List.getElem_mem hil
      obtain ⟨hk1, hk2⟩ := hks.out cc hmem
      obtain ⟨G, hG⟩ : ∃ z, formF L f cc = z := ⟨_, rfl⟩
      have HJ1 : Hid (J (i + 1) = J i ++ ((if i = 0 then [] else [44]) ++ G)) := by show _ = _; rw [HJS.out i, hcc, hG]
      have hm1 := HJM.out (i + 1) ks.length hil
      have hm0 := HJM.out i ks.length hi
      have NP : Hid (∀ u l', Below B w u → PrL u B b (.slice (some ⟨g, 0, none⟩) n cap) (.slice (some ⟨ab, 0, none⟩) 12 12) l' → l'.length + G.length ≤ 70368744177664 → Calls Tryz.prog 12 #[.pointer (some ⟨b, 0, none⟩), .int .i64 (cc : Int)] u fun e w' => e = .returned (.tuple #[]) ∧ Hid (PrL w' B b (.slice (some ⟨g, 0, none⟩) n cap) (.slice (some ⟨ab, 0, none⟩) 12 12) (l' ++ G)) ∧ Hid (Below B u w')) := fun u l' hu hp hl' => by
        have := IH.out cc hk1 hk2 u l' hp (hS.out.below hu HBs.out) (by rw [hG]; exact hl')
        rw [hG] at this
        exact this
      rw [hcc] at ck
      have hcc2 : cc < 1000000 := by omega
      clear hcc hG hmem hk1 hk2
      by_cases h0 : i = 0
      · subst h0
        have ck0 : wr.cell? ⟨kb, ko, none⟩ = some (.int .i64 (cc : Int)) := ck
        have hGl : (J 0).length + G.length = (J (0 + 1)).length := by rw [HJ1.out, if_pos rfl, List.length_append]; rfl
        have HN : Hid (l ++ 91 :: J 0 ++ G = l ++ 91 :: J (0 + 1)) := by show _ = _; rw [HJ1.out, if_pos rfl]; simp
        have hbd : (l ++ 91 :: J 0).length + G.length ≤ 70368744177664 := by rw [List.length_append, List.length_cons]; omega
        go_wp2_with fail
        refine (NP.out _ _ HB.out HP.out hbd).mono ?_
        rintro e2 w2 ⟨rfl, HP2, HB2⟩
        rw [HN.out] at HP2
        go_wp2
        go_roundw
        case rel => exact ⟨0 + 1, hil, by go_num, HP2.out, HB.out.trans HB2.out⟩
        case measure => simp [intOf]; omega
      · have h0' : (0 : Int) < (i : Int) := by omega
        have hGl : (J i).length + 1 + G.length = (J (i + 1)).length := by rw [HJ1.out, if_neg h0, List.length_append, List.length_append, List.length_cons, List.length_nil]; omega
        have HN : Hid (l ++ 91 :: J i ++ [44] ++ G = l ++ 91 :: J (i + 1)) := by show _ = _; rw [HJ1.out, if_neg h0]; simp
        have hbd : (l ++ 91 :: J i ++ [44]).length + G.length ≤ 70368744177664 := by rw [List.length_append, List.length_append, List.length_cons, List.length_cons, List.length_nil]; omega
        have W2 : Hid (Calls Tryz.prog 58 #[.pointer (some ⟨b, 2, none⟩), .int .u8 44] wr fun e w' => e = .returned .nilIface ∧ Hid (PrL w' B b (.slice (some ⟨g, 0, none⟩) n cap) (.slice (some ⟨ab, 0, none⟩) 12 12) (l ++ 91 :: J i ++ [44])) ∧ Hid (Below B wr w')) := HP.out.byte 44 (by rw [List.length_append, List.length_cons]; omega)
        go_wp2_with fail
        refine W2.out.mono ?_
        rintro e1 wz ⟨rfl, HPz, HBz⟩
        have HBw : Hid (Below B w wz) := HB.out.trans HBz.out
        clear W2
        go_wp2_with fail
        refine (NP.out _ _ HBw.out HPz.out hbd).mono ?_
        rintro e2 w2 ⟨rfl, HP2, HB2⟩
        rw [HN.out] at HP2
        go_wp2
        go_roundw
        case rel => exact ⟨i + 1, hil, by go_num, HP2.out, HBw.out.trans HB2.out⟩
        case measure => simp [intOf]; omega
    · have hil' : ¬ (i : Int) < (ks.length : Int) := by omega
      obtain rfl : i = ks.length := by omega
      have W2 : Hid (Calls Tryz.prog 58 #[.pointer (some ⟨b, 2, none⟩), .int .u8 93] wr fun e w' => e = .returned .nilIface ∧ Hid (PrL w' B b (.slice (some ⟨g, 0, none⟩) n cap) (.slice (some ⟨ab, 0, none⟩) 12 12) (l ++ 91 :: J ks.length ++ [93])) ∧ Hid (Below B wr w')) := HP.out.byte 93 (by rw [List.length_append, List.length_cons]; omega)
      have HN : Hid (l ++ 91 :: J ks.length ++ [93] = l ++ 91 :: (J ks.length ++ [93])) := by show _ = _; simp
      go_wp2_with fail
      refine W2.out.mono ?_
      rintro e1 wz ⟨rfl, HPz, HBz⟩
      rw [HN.out] at HPz
      go_wp2
      go_end0
      exact ⟨rfl, HPz.out, HB.out.trans HBz.out⟩

set_option maxRecDepth 100000 in
set_option maxHeartbeats 8000000 in
theorem printNode_all {B b g n m cap ab : Nat} {L : Nat → Nd} {up : Nat → Int} (hF : Fine n m L up) : ∀ f, NodeP B b g n cap ab L f := by
  intro f
  induction f with
  | zero => intro k hk hf; omega
  | succ f ih =>
    intro k hk hf w l hP hS hl
    obtain ⟨d, hd⟩ : ∃ d, L k = d := ⟨_, rfl⟩
    have hkn : ∀ c ∈ d.kids, k < c ∧ c < n := fun c hc => by
      have := hF.nest.kid k c hk (by rw [← hd] at hc; exact hc)
      exact ⟨this.1, this.2.1⟩
    have HKN : Hid (∀ c ∈ d.kids, c < n ∧ n - c ≤ f) := fun c hc => by have := hkn c hc; omega
    have hkN : d.kids.length ≤ n := nodup_len n d.kids (by have := hF.nest.nd k hk; rw [← hd]; exact this) (fun c hc => (hkn c hc).2)
    have hkd : d.kind < 7 := by rw [← hd]; exact hF.kind k hk
    have HAT : Hid (AttB d.attr) := by show AttB d.attr; rw [← hd]; exact hF.att k hk
    obtain ⟨kv, q⟩ := hS.nd k hk
    have HFF : Hid (formF L (f + 1) k = ownS d ++ (if d.kind = 5 then escR d.text else if d.kind = 6 then [] else 91 :: (kjI (formF L f) d.kids d.kids.length ++ [93]))) := by
      show _ = _
      rw [← hd]; rfl
    rw [hd] at q
    have nn := hF.nn
    have hesc : (escR d.text).length ≤ 1099511627776 := by
      have h1 := hF.own k hk
      unfold ownN at h1
      rw [hd] at h1
      have h2 : m ≤ n * m := Nat.le_mul_of_pos_left m (by omega)
      have h3 := hF.mul
      omega
    obtain ⟨cN, hbl⟩ := hP.cellN
    have c0 := q.c0
    have c13 := q.c13
    have c14 := q.c14
    have HPA : Hid (∀ t, t < 12 → w.cell? ⟨g, k * 16 + (t + 1), none⟩ = some (.int .i64 (d.attr[t]?.getD 0))) := q.att
    have HKB : Hid (KidsB w B kv d.kids) := q.kids
    have HPL : Hid (PrL w B b (.slice (some ⟨g, 0, none⟩) n cap) (.slice (some ⟨ab, 0, none⟩) 12 12) l) := hP
    have HPS : Hid (PSt w B g n ab L) := hS
    have IH : Hid (NodeP B b g n cap ab L f) := ih
    have HBs : Hid (B ≤ w.heap.size) := hP.size
    obtain ⟨nm, hnm⟩ : ∃ z, kindsL[d.kind]?.getD ByteArray.empty = z := ⟨_, rfl⟩
    have cK : w.cell? ⟨0, d.kind, none⟩ = some (.string nm) := by rw [← hnm]; exact hS.kn d.kind hkd
    have HOW : Hid (ownS d = nm.data.toList ++ braR d.attr) := by show _ = _; unfold ownS; rw [hnm]
    have hol : (ownS d).length = nm.size + (braR d.attr).length := by rw [HOW.out, List.length_append]; rfl
    rw [HFF.out, List.length_append, hol] at hl
    have hkI : (k : Int) < (n : Int) := by omega
    have hkdI : (d.kind : Int) < 7 := by omega
    have hcap : n ≤ 1000000 := nn
    clear hP hS q hkn ih hF hd hnm hol
    have W1 : Hid (∀ u, Below w.heap.size w u → Calls Tryz.prog 34 #[.pointer (some ⟨b, 2, none⟩), .string nm] u fun e w' => ∃ n', e = .returned (.tuple #[.int .i64 n', .nilIface]) ∧ Hid (PrL w' B b (.slice (some ⟨g, 0, none⟩) n cap) (.slice (some ⟨ab, 0, none⟩) 12 12) (l ++ nm.data.toList)) ∧ Hid (Below B w w')) := fun u hu =>
      ((HPL.out.below hu).write nm (by omega)).mono fun e w' ⟨q1, q2, q3⟩ => ⟨_, q1, q2, (hu.mono HBs.out).trans q3.out⟩
    have c00 : w.drew.cell? ⟨g, k * 16, none⟩ = some (.int .i64 (d.kind : Int)) := c0
    have cK0 : w.drew.cell? ⟨0, d.kind, none⟩ = some (.string nm) := cK
    have hmix : Tryz.prog.follows .mixedOrders = true := by kernel_rfl
    go_enter Tryz.func12, Tryz.ntmps12
    go_wp2_with fail
    go_region_with (go_at_call 34; refine Calls.mono (W1.out _ (by first | exact Below.drew (Below.refl _ w) | exact Below.refl _ w)) ?_; rintro e1 w1 ⟨n1, rfl, HP1, HB1⟩)
    all_goals
      have PA : Hid (Calls Tryz.prog 35 #[.pointer (some ⟨b, 0, none⟩), .pointer (some ⟨g, k * 16, none⟩)] w1 fun e w' => e = .returned (.tuple #[]) ∧ Hid (PrL w' B b (.slice (some ⟨g, 0, none⟩) n cap) (.slice (some ⟨ab, 0, none⟩) 12 12) (l ++ ownS d)) ∧ Hid (Below B w1 w')) := by
        have hs1 := HPS.out.below HB1.out HBs.out
        have hz1 := HP1.out.size
        have := printAttrs_any d.attr g (k * 16) ab B b _ _ w1 HP1 hs1.tab hs1.ten (by have := hs1.tg; omega) (by have := hs1.gl; omega) (fun t ht => (HB1.out.cell (p := ⟨g, _, none⟩) hs1.gl).trans (HPA.out t ht)) HAT (by rw [List.length_append]; show l.length + nm.size ≤ _; omega)
        rw [List.append_assoc, ← HOW.out] at this
        exact this
      go_wp2_with fail
      refine PA.out.mono ?_
      rintro e2 w2 ⟨rfl, HP2, HB2⟩
      have HBw : Hid (Below B w w2) := HB1.out.trans HB2.out
      have hgB := HPS.out.gl
      have d0 : w2.cell? ⟨g, k * 16, none⟩ = some (.int .i64 (d.kind : Int)) := (HBw.out.cell (p := ⟨g, _, none⟩) hgB).trans c0
      have d13 : w2.cell? ⟨g, k * 16 + 13, none⟩ = some (.string ⟨d.text.toArray⟩) := (HBw.out.cell (p := ⟨g, _, none⟩) hgB).trans c13
      have d14 : w2.cell? ⟨g, k * 16 + 14, none⟩ = some kv := (HBw.out.cell (p := ⟨g, _, none⟩) hgB).trans c14
      clear PA
      have hoL : (ownS d).length = nm.size + (braR d.attr).length := by rw [HOW.out, List.length_append]; rfl
      by_cases c5 : d.kind = 5
      · have e5 : ((d.kind : Int) == 5) = true := by rw [c5]; rfl
        rw [if_pos c5] at HFF hl
        have PS : Hid (Calls Tryz.prog 36 #[.pointer (some ⟨b, 0, none⟩), .string ⟨d.text.toArray⟩] w2 fun e w' => e = .returned (.tuple #[]) ∧ Hid (PrL w' B b (.slice (some ⟨g, 0, none⟩) n cap) (.slice (some ⟨ab, 0, none⟩) 12 12) (l ++ formF L (f + 1) k)) ∧ Hid (Below B w2 w')) := by
          have e0 : (⟨d.text.toArray⟩ : ByteArray).data.toList = d.text := rfl
          have htl : d.text.length ≤ (escR d.text).length := by
            unfold escR
            rw [List.length_cons, List.length_append, escF_cnt]
            omega
          have := printString_any ⟨d.text.toArray⟩ B b _ _ (l ++ ownS d) w2 HP2 (by show d.text.toArray.size ≤ _; simp; omega) (by rw [e0, List.length_append, hoL]; omega)
          rw [e0, List.append_assoc, ← HFF.out] at this
          exact this
        clear c5
        go_wp2_with fail
        refine PS.out.mono ?_
        rintro e3 w3 ⟨rfl, HP3, HB3⟩
        go_wp2
        go_end0
        exact ⟨rfl, HP3.out, HBw.out.trans HB3.out⟩
      · have e5 : ((d.kind : Int) == 5) = false := by simpa using fun e => c5 (Int.ofNat.inj e)
        by_cases c6 : d.kind = 6
        · have e6 : ((d.kind : Int) == 6) = true := by rw [c6]; rfl
          rw [if_neg c5, if_pos c6, List.append_nil] at HFF
          clear c5 c6 hl
          go_wp2
          go_end0
          exact ⟨rfl, by rw [HFF.out]; exact HP2.out, HBw.out⟩
        · have e6 : ((d.kind : Int) == 6) = false := by simpa using fun e => c6 (Int.ofNat.inj e)
          rw [if_neg c5, if_neg c6] at HFF hl
          have PK : Hid (Calls Tryz.prog 37 #[.pointer (some ⟨b, 0, none⟩), kv] w2 fun e w' => e = .returned (.tuple #[]) ∧ Hid (PrL w' B b (.slice (some ⟨g, 0, none⟩) n cap) (.slice (some ⟨ab, 0, none⟩) 12 12) (l ++ formF L (f + 1) k)) ∧ Hid (Below B w2 w')) := by
            have hk2 : KidsB w2 B kv d.kids := by
              obtain ⟨p, c, e, r⟩ := HKB.out
              refine ⟨p, c, e, ?_⟩
              rcases r with r | ⟨kb, ko, e2, h1, h2⟩
              · exact .inl r
              · exact .inr ⟨kb, ko, e2, h1, fun i hi => (HBw.out.cell (p := ⟨kb, ko + i, none⟩) h1).trans (h2 i hi)⟩
            have := printKids_of IH hcap d.kids HKN hkN kv w2 (l ++ ownS d) HP2 (HPS.out.below HBw.out HBs.out) hk2 (by rw [List.length_append, hoL]; omega)
            rw [List.append_assoc, ← HFF.out] at this
            exact this
          clear c5 c6
          go_wp2_with fail
          refine PK.out.mono ?_
          rintro e3 w3 ⟨rfl, HP3, HB3⟩
          go_wp2
          go_end0
          exact ⟨rfl, HP3.out, HBw.out.trans HB3.out⟩

end Go.Proofs.YtnkebfmlaliddaaGreatDoor
