/-
  The program's reader: readAttribute, walked.
-/
import Derived.Test.YtepeepipgkejiadGreatDoorTRat
import Derived.Test.YtepeepipgkejiadGreatDoorTAll
namespace Go.Proofs.YtepeepipgkejiadGreatDoor
open Go.RowKit
set_option linter.unusedVariables false

theorem aof_some {t : ByteArray} {kind c : Nat} {ws : List ByteArray} (E : Nat → Addr) (h : aofO t kind ws = some c) : aofV t kind ws (E 7) (E 5) = .tuple #[zeroA, errV (E c)] := by
  unfold aofO at h
  unfold aofV
  cases hs : srchF t kind 12 0 with
  | none => rw [hs] at h; injection h with h; subst h; rfl
  | some q =>
    rw [hs] at h
    by_cases hf : 0 ≤ findF ws t 0
    · simp only [if_pos hf] at h ⊢; injection h with h; subst h; rfl
    · simp only [if_neg hf] at h; cases h
theorem aof_none {t : ByteArray} {kind : Nat} {ws : List ByteArray} (E : Nat → Addr) (h : aofO t kind ws = none) : aofR t kind < 12 ∧ aofV t kind ws (E 7) (E 5) = .tuple #[rowA (aofR t kind), .nilIface] := by
  unfold aofO at h
  unfold aofV aofR
  cases hs : srchF t kind 12 0 with
  | none => rw [hs] at h; cases h
  | some q =>
    rw [hs] at h
    by_cases hf : 0 ≤ findF ws t 0
    · simp only [if_pos hf] at h; cases h
    · have := srchF_lt t kind 12 0 q hs
      refine ⟨by show q < 12; omega, ?_⟩
      simp only [if_neg hf]; rfl
theorem Txts.f2 {W W' : World} {v : Value} {ws : List ByteArray} {r b : Nat} (h : Txts W v ws) (f : F2 r b W W') (hr : ∀ q, v.ownBlock = some q → q ≠ r ∧ q ≠ b) : Txts W' v ws := by
  obtain ⟨p, c, rfl, rfl | ⟨blk, rfl, h1, h2⟩⟩ := h
  · exact ⟨p, c, rfl, .inl rfl⟩
  · have := hr blk rfl
    exact ⟨_, c, rfl, .inr ⟨blk, rfl, Nat.lt_of_lt_of_le h1 f.size, fun j hj => (World.cell?_of_block (f.block blk h1 this.1 this.2)).trans (h2 j hj)⟩⟩

set_option maxRecDepth 100000 in
set_option maxHeartbeats 8000000 in
theorem readAttribute_any (rb ab B : Nat) (E : Nat → Addr) (s : ByteArray) (i : Nat) (er : Flt) (L : List Nd) (KV : Nat → Value) (bl cap j kind : Nat) (v : Value) (ws : List ByteArray) (w : World) (env : Env w rb ab B E)
    (h : PR w rb s i (.slice (some ⟨ab, 0, none⟩) 12 12) (.slice (some ⟨bl, 0, none⟩) L.length cap) (fltV E er)) (hn : PN w B (.slice (some ⟨bl, 0, none⟩) L.length cap) L KV) (hL : L.length ≤ 100000) (hj : j < L.length) (hkd : (nth L j).kind = kind) (hk7 : kind < 7)
    (hv : Txts w v ws) (hvr : ∀ q, v.ownBlock = some q → q ≠ rb ∧ q ≠ bl) (hwn : ws.length ≤ 1099511627776) (hs : s.size ≤ 1073741824) (hi : i ≤ s.size) :
    Calls Tryz.prog 91 #[.pointer (some ⟨rb, 0, none⟩), .pointer (some ⟨bl, j * 16, none⟩), v] w fun e w' => RaOut w w' e rb B bl E s (.slice (some ⟨ab, 0, none⟩) 12 12) (.slice (some ⟨bl, 0, none⟩) L.length cap) KV (pAttr s kind ws L j i er) := by
  obtain ⟨av, hav⟩ : ∃ z, (Value.slice (some ⟨ab, 0, none⟩) 12 12) = z := ⟨_, rfl⟩
  obtain ⟨nv, hnv⟩ : ∃ z, (Value.slice (some ⟨bl, 0, none⟩) L.length cap) = z := ⟨_, rfl⟩
  have hBl : B ≤ bl := (hn.nr.row.choose_spec.lt bl rfl).1
  have hbll : bl < w.heap.size := (hn.nr.row.choose_spec.lt bl rfl).2
  have hrB := env.rbB
  have hlo := env.lo
  have CW := readWord_any rb s i (.slice (some ⟨ab, 0, none⟩) 12 12) (.slice (some ⟨bl, 0, none⟩) L.length cap) (fltV E er) w h (by omega) hi
  obtain ⟨at_, hat⟩ : ∃ z, sk s i = z := ⟨_, rfl⟩
  have hatl : at_ ≤ s.size := by rw [← hat]; exact sk_le s i hi
  obtain ⟨k, hk⟩ : ∃ z, run letter s at_ = z := ⟨_, rfl⟩
  have hkl : k ≤ s.size := by rw [← hk]; exact run_le _ _ _ hatl
  have hkg : at_ ≤ k := by rw [← hk]; exact run_ge _ _ _
  obtain ⟨t, ht⟩ : ∃ z, s.extract at_ k = z := ⟨_, rfl⟩
  rw [hat, hk, ht] at CW
  have HP : Hid (pAttr s kind ws L j i er = if k = at_ then .error at_ else if isAt s k 61 = true then pNum s kind ws L j er at_ t (gotI s k 61) else .error (sk s k)) := by
    show _ = _
    unfold pAttr
    rw [hat, hk, ht]
  have HCW : Hid (Calls Tryz.prog 64 #[.pointer (some ⟨rb, 0, none⟩)] w fun e w' => e = .returned (.tuple #[.string t, .int .i64 (at_ : Int)]) ∧ PR w' rb s k (.slice (some ⟨ab, 0, none⟩) 12 12) (.slice (some ⟨bl, 0, none⟩) L.length cap) (fltV E er) ∧ w.grownBy w' (some rb)) := CW
  have HEV : Hid (Env w rb ab B E) := env
  have HN : Hid (PN w B (.slice (some ⟨bl, 0, none⟩) L.length cap) L KV) := hn
  have HX : Hid (Txts w v ws) := hv
  have hsz : t.size = k - at_ := by rw [← ht]; simp; omega
  have HKD : Hid ((nth L j).kind = kind) := hkd
  obtain ⟨pv, cv, hpv⟩ : ∃ p c, v = .slice p ws.length c := by obtain ⟨p, c, e, _⟩ := hv; exact ⟨p, c, e⟩
  subst hpv
  clear CW env hn hv hat hk ht hkd h hav hnv av nv
  by_cases hka : k = at_
  · have HPE : Hid (pAttr s kind ws L j i er = .error at_) := by show _ = _; rw [HP.out, if_pos hka]
    have et : t.toList.isEmpty = true := by
      rw [ByteArray.toList_eq]
      have : t.data.size = 0 := by show t.size = 0; omega
      simp [Array.eq_empty_of_size_eq_zero this]
    have HT : Hid (∀ W, W.cell? ⟨8, 0, none⟩ = some (errV (E 2)) → Calls Tryz.prog 31 #[.int .i64 (at_ : Int)] W fun e w' => e = .returned (.iface 66 (.agg #[.int .i64 (at_ : Int), .iface 242 (.pointer (some (E 2)))])) ∧ w' = W) := fun W he => noTree_any _ W (E 2) he
    go_enter Tryz.func91, Tryz.ntmps91
    go_wp2_with fail
    refine HCW.out.mono ?_
    rintro e w1 ⟨rfl, h1, g1⟩
    have HG1 : Hid (w.grownBy w1 (some rb)) := g1
    have HE1 : Hid (Env w1 rb ab B E) := HEV.out.fr (Fr.grown g1 HEV.out.le)
    clear h1 g1
    go_wp2_with fail
    refine (HT.out _ HE1.out.g2).mono ?_
    rintro e w2 ⟨rfl, hw⟩
    obtain rfl := hw.symm
    go_wp2
    refine ⟨rfl, ?_⟩
    rw [HPE.out]
    exact ⟨F2.left HG1.out, rfl⟩
  · have HP2 : Hid (pAttr s kind ws L j i er = if isAt s k 61 = true then pNum s kind ws L j er at_ t (gotI s k 61) else .error (sk s k)) := by show _ = _; rw [HP.out, if_neg hka]
    have et : t.toList.isEmpty = false := by
      rw [ByteArray.toList_eq]
      have : t.data.size ≠ 0 := by show t.size ≠ 0; omega
      cases hd : t.data.toList with
      | nil => exact absurd (by rw [← Array.length_toList, hd]; rfl) this
      | cons a r => rfl
    clear HP
    go_enter Tryz.func91, Tryz.ntmps91
    go_wp2_with fail
    refine HCW.out.mono ?_
    rintro e w1 ⟨rfl, h1, g1⟩
    have HG1 : Hid (w.grownBy w1 (some rb)) := g1
    have HE1 : Hid (Env w1 rb ab B E) := HEV.out.fr (Fr.grown g1 HEV.out.le)
    have HN1 : Hid (PN w1 B (.slice (some ⟨bl, 0, none⟩) L.length cap) L KV) := HN.out.up (Up.grown g1 hrB)
    have HR1 : Hid (PR w1 rb s k (.slice (some ⟨ab, 0, none⟩) 12 12) (.slice (some ⟨bl, 0, none⟩) L.length cap) (fltV E er)) := h1
    have HX1 : Hid (Txts w1 (.slice pv ws.length cv) ws) := HX.out.f2 (F2.left (b := bl) g1) hvr
    have ck : w1.cell? ⟨bl, j * 16, none⟩ = some (.int .i64 (kind : Int)) := by
      have := HN1.out.nr.cells bl rfl j hj 0 _ (pn_kind _ _)
      rw [HKD.out] at this
      exact this
    have CA : Hid (Calls Tryz.prog 99 #[.pointer (some ⟨rb, 0, none⟩), .int .i64 (kind : Int), .string t, .slice pv ws.length cv] w1 fun e w' => e = .returned (aofV t kind ws (E 7) (E 5)) ∧ Below w1.heap.size w1 w') := attributeOf_any rb ab s k _ _ kind t _ ws (E 7) (E 5) w1 h1 HE1.out.tab hk7 HX1.out hwn HE1.out.g7 HE1.out.g5
    clear h1 g1
    go_wp2_with fail
    refine CA.out.mono ?_
    rintro e w2 ⟨rfl, hb2⟩
    have HF2 : Hid (F2 rb bl w w2) := (F2.left HG1.out).trans (F2.below hb2)
    have HE2 : Hid (Env w2 rb ab B E) := HE1.out.fr (Fr.below hb2 HE1.out.le)
    have HN2 : Hid (PN w2 B (.slice (some ⟨bl, 0, none⟩) L.length cap) L KV) := HN1.out.up (Up.below hb2)
    have HR2 : Hid (PR w2 rb s k (.slice (some ⟨ab, 0, none⟩) 12 12) (.slice (some ⟨bl, 0, none⟩) L.length cap) (fltV E er)) := HR1.out.below hb2
    clear hb2 CA ck HG1 HE1 HN1 HR1 HX1
    cases hao : aofO t kind ws with
    | some c =>
      have HAO : Hid (aofO t kind ws = some c) := hao
      have HAV : Hid (aofV t kind ws (E 7) (E 5) = .tuple #[.agg #[.string ⟨#[]⟩, .int .u64 0, .int .i64 0, .int .i64 0, .bool false, .nilFunc], .iface 242 (.pointer (some (E c)))]) := aof_some E hao
      rw [HAV.out]
      clear hao
      have HW3 : Hid (Below w2.heap.size w2 (w2.alloc (.cells #[.string ⟨#[]⟩, .int .u64 0, .int .i64 0, .int .i64 0, .bool false, .nilFunc] 83))) := (Below.refl _ _).alloc (Nat.le_refl _) _
      have CK : Hid (Calls Tryz.prog 66 #[.pointer (some ⟨rb, 0, none⟩), .iface 242 (.pointer (some (E c))), .int .i64 (at_ : Int)] (w2.alloc (.cells #[.string ⟨#[]⟩, .int .u64 0, .int .i64 0, .int .i64 0, .bool false, .nilFunc] 83)) fun e w' => e = .returned (.tuple #[]) ∧ PR w' rb s k (.slice (some ⟨ab, 0, none⟩) 12 12) (.slice (some ⟨bl, 0, none⟩) L.length cap) (fltV E (keepF er (some c) at_)) ∧ (w2.alloc (.cells #[.string ⟨#[]⟩, .int .u64 0, .int .i64 0, .int .i64 0, .bool false, .nilFunc] 83)).grownBy w' (some rb)) := keep_all rb s k _ _ E er (some c) at_ _ (HR2.out.below HW3.out)
      go_wp2_with fail
      refine CK.out.mono ?_
      rintro e w4 ⟨rfl, h4, g4⟩
      have HR4 : Hid (PR w4 rb s k (.slice (some ⟨ab, 0, none⟩) 12 12) (.slice (some ⟨bl, 0, none⟩) L.length cap) (fltV E (keepF er (some c) at_))) := h4
      have HF4 : Hid (F2 rb bl w w4) := HF2.out.trans ((F2.below HW3.out).trans (F2.left g4))
      have HE4 : Hid (Env w4 rb ab B E) := (HE2.out.fr (Fr.below HW3.out HE2.out.le)).fr (Fr.grown g4 (Nat.le_trans HE2.out.le HW3.out.size))
      have HN4 : Hid (PN w4 B (.slice (some ⟨bl, 0, none⟩) L.length cap) L KV) := (HN2.out.up (Up.below HW3.out)).up (Up.grown g4 hrB)
      clear h4 g4 CK HW3 HF2 HE2 HN2 HR2
      by_cases hq : isAt s k 61 = true
      · have hi2 : gotI s k 61 ≤ s.size := gotI_le (by omega) hkl
        have CX : Hid (Calls Tryz.prog 72 #[.pointer (some ⟨rb, 0, none⟩), .int .u8 61] w4 fun e w' => e = .returned (.tuple #[]) ∧ PR w' rb s (gotI s k 61) (.slice (some ⟨ab, 0, none⟩) 12 12) (.slice (some ⟨bl, 0, none⟩) L.length cap) (fltV E (keepF er (some c) at_)) ∧ w4.grownBy w' (some rb)) := expect_yes rb s k _ _ _ 61 w4 HR4.out (by omega) hkl (by omega) hq
        have HP3 : Hid (pAttr s kind ws L j i er = pNum s kind ws L j er at_ t (gotI s k 61)) := by show _ = _; rw [HP2.out, if_pos hq]
        obtain ⟨i2, hi2e⟩ : ∃ z, gotI s k 61 = z := ⟨_, rfl⟩
        rw [hi2e] at CX HP3 hi2
        clear hi2e HP2 hq
        go_wp2_with fail
        refine CX.out.mono ?_
        rintro e w5 ⟨rfl, h5, g5⟩
        have HF5 : Hid (F2 rb bl w w5) := HF4.out.trans (F2.left g5)
        have HE5 : Hid (Env w5 rb ab B E) := HE4.out.fr (Fr.grown g5 HE4.out.le)
        have HN5 : Hid (PN w5 B (.slice (some ⟨bl, 0, none⟩) L.length cap) L KV) := HN4.out.up (Up.grown g5 hrB)
        have HR5 : Hid (PR w5 rb s i2 (.slice (some ⟨ab, 0, none⟩) 12 12) (.slice (some ⟨bl, 0, none⟩) L.length cap) (fltV E (keepF er (some c) at_))) := h5
        clear h5 g5 CX HF4 HE4 HN4 HR4
        by_cases hb : run digit s (sk s i2) = sk s i2 ∨ sk s i2 + 6 < run digit s (sk s i2) ∨ (sk s i2 + 1 < run digit s (sk s i2) ∧ bat s (sk s i2) = 48)
        · have CN : Hid (Calls Tryz.prog 100 #[.pointer (some ⟨rb, 0, none⟩)] w5 fun e w' => e = .panicked [{ v := faultV (sk s i2 : Int) (errV (E 2)), recovered := false }] ∧ w5.grownBy w' (some rb)) := readNumber_no rb s i2 _ _ _ (E 2) w5 HR5.out (by omega) hi2 (by omega) HE5.out.g2 hb
          have HP4 : Hid (pAttr s kind ws L j i er = .error (sk s i2)) := by show _ = _; rw [HP3.out]; unfold pNum numBad; rw [if_pos (decide_eq_true hb)]
          go_wp2_with fail
          refine CN.out.mono ?_
          rintro e w6 ⟨rfl, g6⟩
          refine ⟨rfl, ?_⟩
          rw [HP4.out]
          exact ⟨HF5.out.trans (F2.left g6), rfl⟩
        · have CN : Hid (Calls Tryz.prog 100 #[.pointer (some ⟨rb, 0, none⟩)] w5 fun e w' => e = .returned (.tuple #[.int .i64 (dv s (sk s i2) (run digit s (sk s i2) - sk s i2)), .int .i64 (sk s i2 : Int)]) ∧ PR w' rb s (run digit s (sk s i2)) (.slice (some ⟨ab, 0, none⟩) 12 12) (.slice (some ⟨bl, 0, none⟩) L.length cap) (fltV E (keepF er (some c) at_)) ∧ w5.grownBy w' (some rb)) := readNumber_yes rb s i2 _ _ _ w5 HR5.out (by omega) hi2 hb
          have HP4 : Hid (pAttr s kind ws L j i er = pSet L j er at_ t (run digit s (sk s i2)) (sk s i2) (aofR t kind) (dv s (sk s i2) (run digit s (sk s i2) - sk s i2)) ((some c))) := by show _ = _; rw [HP3.out]; unfold pNum numBad; rw [if_neg (by simpa using hb), HAO.out]
          obtain ⟨n, hn⟩ : ∃ z, dv s (sk s i2) (run digit s (sk s i2) - sk s i2) = z := ⟨_, rfl⟩
          obtain ⟨j2, hj2⟩ : ∃ z, sk s i2 = z := ⟨_, rfl⟩
          obtain ⟨e2, he2⟩ : ∃ z, run digit s j2 = z := ⟨_, rfl⟩
          rw [hn, hj2, he2] at CN HP4
          clear hn hj2 he2 hb HP3
          go_wp2_with fail
          refine CN.out.mono ?_
          rintro e w6 ⟨rfl, h6, g6⟩
          have HF6 : Hid (F2 rb bl w w6) := HF5.out.trans (F2.left g6)
          have HE6 : Hid (Env w6 rb ab B E) := HE5.out.fr (Fr.grown g6 HE5.out.le)
          have HN6 : Hid (PN w6 B (.slice (some ⟨bl, 0, none⟩) L.length cap) L KV) := HN5.out.up (Up.grown g6 hrB)
          have HR6 : Hid (PR w6 rb s e2 (.slice (some ⟨ab, 0, none⟩) 12 12) (.slice (some ⟨bl, 0, none⟩) L.length cap) (fltV E (keepF er (some c) at_))) := h6
          clear h6 g6 CN HF5 HE5 HN5 HR5
          go_wp2
          go_ret
          show RaOut _ _ _ _ _ _ _ _ _ _ _ _
          rw [HP4.out]
          exact ⟨HF6.out, rfl, HR6.out, HN6.out⟩
      · have hq' : isAt s k 61 = false := by simpa using hq
        have CX : Hid (Calls Tryz.prog 72 #[.pointer (some ⟨rb, 0, none⟩), .int .u8 61] w4 fun e w' => e = .panicked [{ v := faultV (sk s k : Int) (errV (E 2)), recovered := false }] ∧ w4.grownBy w' (some rb)) := expect_no rb s k _ _ _ (E 2) 61 w4 HR4.out (by omega) hkl (by omega) hq' (by omega) HE4.out.g2
        have HP3 : Hid (pAttr s kind ws L j i er = .error (sk s k)) := by show _ = _; rw [HP2.out, if_neg hq]
        clear hq hq' HP2
        go_wp2_with fail
        refine CX.out.mono ?_
        rintro e w5 ⟨rfl, g5⟩
        refine ⟨rfl, ?_⟩
        rw [HP3.out]
        exact ⟨HF4.out.trans (F2.left g5), rfl⟩
    | none =>
      have HAO : Hid (aofO t kind ws = none) := hao
      obtain ⟨hix, hav⟩ := aof_none E hao
      obtain ⟨ix, hixe⟩ : ∃ z, aofR t kind = z := ⟨_, rfl⟩
      have HIX : Hid (aofR t kind = ix) := hixe
      rw [hixe] at hix hav
      obtain ⟨a0, a1, a2, a3, a4, g, hrow⟩ : ∃ a0 a1 a2 a3 a4 g, rowA ix = .agg #[.string a0, .int .u64 ((a1 : Nat) : Int), .int .i64 a2, .int .i64 a3, .bool a4, .func (.func g) #[] #[]] := ⟨_, _, _, _, _, _, rfl⟩
      have HROW : Hid (rowA ix = .agg #[.string a0, .int .u64 ((a1 : Nat) : Int), .int .i64 a2, .int .i64 a3, .bool a4, .func (.func g) #[] #[]]) := hrow
      rw [hrow] at hav
      rw [hav]
      clear hao hav hrow hixe
      have HW3 : Hid (Below w2.heap.size w2 (w2.alloc (.cells #[.string a0, .int .u64 (a1 : Int), .int .i64 a2, .int .i64 a3, .bool a4, .func (.func g) #[] #[]] 83))) := (Below.refl _ _).alloc (Nat.le_refl _) _
      have CK : Hid (Calls Tryz.prog 66 #[.pointer (some ⟨rb, 0, none⟩), .nilIface, .int .i64 (at_ : Int)] (w2.alloc (.cells #[.string a0, .int .u64 (a1 : Int), .int .i64 a2, .int .i64 a3, .bool a4, .func (.func g) #[] #[]] 83)) fun e w' => e = .returned (.tuple #[]) ∧ PR w' rb s k (.slice (some ⟨ab, 0, none⟩) 12 12) (.slice (some ⟨bl, 0, none⟩) L.length cap) (fltV E (er)) ∧ (w2.alloc (.cells #[.string a0, .int .u64 (a1 : Int), .int .i64 a2, .int .i64 a3, .bool a4, .func (.func g) #[] #[]] 83)).grownBy w' (some rb)) := keep_all rb s k _ _ E er none at_ _ (HR2.out.below HW3.out)
      go_wp2_with fail
      refine CK.out.mono ?_
      rintro e w4 ⟨rfl, h4, g4⟩
      have HR4 : Hid (PR w4 rb s k (.slice (some ⟨ab, 0, none⟩) 12 12) (.slice (some ⟨bl, 0, none⟩) L.length cap) (fltV E (er))) := h4
      have HF4 : Hid (F2 rb bl w w4) := HF2.out.trans ((F2.below HW3.out).trans (F2.left g4))
      have HE4 : Hid (Env w4 rb ab B E) := (HE2.out.fr (Fr.below HW3.out HE2.out.le)).fr (Fr.grown g4 (Nat.le_trans HE2.out.le HW3.out.size))
      have HN4 : Hid (PN w4 B (.slice (some ⟨bl, 0, none⟩) L.length cap) L KV) := (HN2.out.up (Up.below HW3.out)).up (Up.grown g4 hrB)
      have HB4 : Hid (w4.heap[w2.heap.size]? = some (.cells #[.string a0, .int .u64 (a1 : Int), .int .i64 a2, .int .i64 a3, .bool a4, .func (.func g) #[] #[]] 83 (0, 0))) := (g4.block _ (by simp) (by simp; have := HR2.out.lt; omega)).trans (heap_alloc_new _ _)
      have hw2r := HR2.out.lt
      clear h4 g4 CK HW3 HF2 HE2 HN2 HR2
      obtain ⟨P3, hP3⟩ : ∃ z, w2.heap.size = z := ⟨_, rfl⟩
      rw [hP3] at HB4
      rw [hP3]
      have hP3r : P3 ≠ rb := by omega
      clear hP3
      by_cases hq : isAt s k 61 = true
      · have hi2 : gotI s k 61 ≤ s.size := gotI_le (by omega) hkl
        have CX : Hid (Calls Tryz.prog 72 #[.pointer (some ⟨rb, 0, none⟩), .int .u8 61] w4 fun e w' => e = .returned (.tuple #[]) ∧ PR w' rb s (gotI s k 61) (.slice (some ⟨ab, 0, none⟩) 12 12) (.slice (some ⟨bl, 0, none⟩) L.length cap) (fltV E (er)) ∧ w4.grownBy w' (some rb)) := expect_yes rb s k _ _ _ 61 w4 HR4.out (by omega) hkl (by omega) hq
        have HP3 : Hid (pAttr s kind ws L j i er = pNum s kind ws L j er at_ t (gotI s k 61)) := by show _ = _; rw [HP2.out, if_pos hq]
        obtain ⟨i2, hi2e⟩ : ∃ z, gotI s k 61 = z := ⟨_, rfl⟩
        rw [hi2e] at CX HP3 hi2
        clear hi2e HP2 hq
        go_wp2_with fail
        refine CX.out.mono ?_
        rintro e w5 ⟨rfl, h5, g5⟩
        have HF5 : Hid (F2 rb bl w w5) := HF4.out.trans (F2.left g5)
        have HE5 : Hid (Env w5 rb ab B E) := HE4.out.fr (Fr.grown g5 HE4.out.le)
        have HN5 : Hid (PN w5 B (.slice (some ⟨bl, 0, none⟩) L.length cap) L KV) := HN4.out.up (Up.grown g5 hrB)
        have HR5 : Hid (PR w5 rb s i2 (.slice (some ⟨ab, 0, none⟩) 12 12) (.slice (some ⟨bl, 0, none⟩) L.length cap) (fltV E (er))) := h5
        have HB5 : Hid (w5.heap[P3]? = some (.cells #[.string a0, .int .u64 (a1 : Int), .int .i64 a2, .int .i64 a3, .bool a4, .func (.func g) #[] #[]] 83 (0, 0))) := (g5.block _ (Array.getElem?_eq_some_iff.1 HB4.out).1 (by simp; omega)).trans HB4.out
        clear h5 g5 CX HF4 HE4 HN4 HR4
        by_cases hb : run digit s (sk s i2) = sk s i2 ∨ sk s i2 + 6 < run digit s (sk s i2) ∨ (sk s i2 + 1 < run digit s (sk s i2) ∧ bat s (sk s i2) = 48)
        · have CN : Hid (Calls Tryz.prog 100 #[.pointer (some ⟨rb, 0, none⟩)] w5 fun e w' => e = .panicked [{ v := faultV (sk s i2 : Int) (errV (E 2)), recovered := false }] ∧ w5.grownBy w' (some rb)) := readNumber_no rb s i2 _ _ _ (E 2) w5 HR5.out (by omega) hi2 (by omega) HE5.out.g2 hb
          have HP4 : Hid (pAttr s kind ws L j i er = .error (sk s i2)) := by show _ = _; rw [HP3.out]; unfold pNum numBad; rw [if_pos (decide_eq_true hb)]
          go_wp2_with fail
          refine CN.out.mono ?_
          rintro e w6 ⟨rfl, g6⟩
          refine ⟨rfl, ?_⟩
          rw [HP4.out]
          exact ⟨HF5.out.trans (F2.left g6), rfl⟩
        · have CN : Hid (Calls Tryz.prog 100 #[.pointer (some ⟨rb, 0, none⟩)] w5 fun e w' => e = .returned (.tuple #[.int .i64 (dv s (sk s i2) (run digit s (sk s i2) - sk s i2)), .int .i64 (sk s i2 : Int)]) ∧ PR w' rb s (run digit s (sk s i2)) (.slice (some ⟨ab, 0, none⟩) 12 12) (.slice (some ⟨bl, 0, none⟩) L.length cap) (fltV E (er)) ∧ w5.grownBy w' (some rb)) := readNumber_yes rb s i2 _ _ _ w5 HR5.out (by omega) hi2 hb
          have HP4 : Hid (pAttr s kind ws L j i er = pSet L j er at_ t (run digit s (sk s i2)) (sk s i2) (aofR t kind) (dv s (sk s i2) (run digit s (sk s i2) - sk s i2)) (none)) := by show _ = _; rw [HP3.out]; unfold pNum numBad; rw [if_neg (by simpa using hb), HAO.out]
          obtain ⟨n, hn⟩ : ∃ z, dv s (sk s i2) (run digit s (sk s i2) - sk s i2) = z := ⟨_, rfl⟩
          obtain ⟨j2, hj2⟩ : ∃ z, sk s i2 = z := ⟨_, rfl⟩
          obtain ⟨e2, he2⟩ : ∃ z, run digit s j2 = z := ⟨_, rfl⟩
          rw [hn, hj2, he2] at CN HP4
          clear hn hj2 he2 hb HP3
          go_wp2_with fail
          refine CN.out.mono ?_
          rintro e w6 ⟨rfl, h6, g6⟩
          have HF6 : Hid (F2 rb bl w w6) := HF5.out.trans (F2.left g6)
          have HE6 : Hid (Env w6 rb ab B E) := HE5.out.fr (Fr.grown g6 HE5.out.le)
          have HN6 : Hid (PN w6 B (.slice (some ⟨bl, 0, none⟩) L.length cap) L KV) := HN5.out.up (Up.grown g6 hrB)
          have HR6 : Hid (PR w6 rb s e2 (.slice (some ⟨ab, 0, none⟩) 12 12) (.slice (some ⟨bl, 0, none⟩) L.length cap) (fltV E (er))) := h6
          have HB6 : Hid (w6.heap[P3]? = some (.cells #[.string a0, .int .u64 (a1 : Int), .int .i64 a2, .int .i64 a3, .bool a4, .func (.func g) #[] #[]] 83 (0, 0))) := (g6.block _ (Array.getElem?_eq_some_iff.1 HB5.out).1 (by simp; omega)).trans HB5.out
          clear h6 g6 CN HF5 HE5 HN5 HR5
          have hb6 := HB6.out
          have y0 : w6.cell? ⟨P3, 0, none⟩ = some (.string a0) := by simp [World.cell?, hb6]
          have y1 : w6.cell? ⟨P3, 1, none⟩ = some (.int .u64 (a1 : Int)) := by simp [World.cell?, hb6]
          have y2 : w6.cell? ⟨P3, 2, none⟩ = some (.int .i64 a2) := by simp [World.cell?, hb6]
          have y3 : w6.cell? ⟨P3, 3, none⟩ = some (.int .i64 a3) := by simp [World.cell?, hb6]
          have y4 : w6.cell? ⟨P3, 4, none⟩ = some (.bool a4) := by simp [World.cell?, hb6]
          have y5 : w6.cell? ⟨P3, 5, none⟩ = some (.func (.func g) #[] #[]) := by simp [World.cell?, hb6]
          clear hb6
          have CS : Hid (Calls Tryz.prog 101 #[.pointer (some ⟨rb, 0, none⟩), .pointer (some ⟨bl, j * 16, none⟩), .agg #[.string a0, .int .u64 (a1 : Int), .int .i64 a2, .int .i64 a3, .bool a4, .func (.func g) #[] #[]], .int .i64 n] w6 fun e w' => w6.grownBy w' (some bl) ∧ e = .returned (eoV E (setO L ix n)) ∧ PR w' rb s e2 (.slice (some ⟨ab, 0, none⟩) 12 12) (.slice (some ⟨bl, 0, none⟩) L.length cap) (fltV E (er)) ∧ PN w' B (.slice (some ⟨bl, 0, none⟩) L.length cap) (setL L j ix n) KV) := by
            have hset := set_any rb B s e2 (.slice (some ⟨ab, 0, none⟩) 12 12) (fltV E (er)) L KV bl cap j ix hix n (E 6) (E 5) w6 HR6.out HN6.out hL hj hrB HE6.out.le (by omega) (by omega) (by omega) (by omega) HE6.out.g6 HE6.out.g5
            rw [HROW.out] at hset
            exact hset.mono fun e w' ⟨q1, q2, q3, q4, _⟩ => ⟨q1, by rw [q2, setE_eo], q3, q4⟩
          go_wp2_with fail
          refine CS.out.mono ?_
          rintro e w7 ⟨g7, rfl, h7, n7⟩
          have HF7 : Hid (F2 rb bl w w7) := HF6.out.trans (F2.right g7)
          have HN7 : Hid (PN w7 B (.slice (some ⟨bl, 0, none⟩) L.length cap) (setL L j ix n) KV) := n7
          have CK2 : Hid (Calls Tryz.prog 66 #[.pointer (some ⟨rb, 0, none⟩), eoV E (setO L ix n), .int .i64 (j2 : Int)] w7 fun e w' => e = .returned (.tuple #[]) ∧ PR w' rb s e2 (.slice (some ⟨ab, 0, none⟩) 12 12) (.slice (some ⟨bl, 0, none⟩) L.length cap) (fltV E (keepF (er) (setO L ix n) j2)) ∧ w7.grownBy w' (some rb)) := keep_all rb s e2 _ _ E (er) (setO L ix n) j2 w7 h7
          clear g7 h7 n7 CS y0 y1 y2 y3 y4 y5
          go_wp2_with fail
          refine CK2.out.mono ?_
          rintro e w8 ⟨rfl, h8, g8⟩
          have HR8 : Hid (PR w8 rb s e2 (.slice (some ⟨ab, 0, none⟩) 12 12) (.slice (some ⟨bl, 0, none⟩) L.length cap) (fltV E (keepF (er) (setO L ix n) j2))) := h8
          have HF8 : Hid (F2 rb bl w w8) := HF7.out.trans (F2.left g8)
          have HN8 : Hid (PN w8 B (.slice (some ⟨bl, 0, none⟩) L.length cap) (setL L j ix n) KV) := HN7.out.up (Up.grown g8 hrB)
          clear h8 g8 CK2
          go_wp2
          go_ret
          show RaOut _ _ _ _ _ _ _ _ _ _ _ _
          rw [HP4.out, HIX.out]
          exact ⟨HF8.out, rfl, HR8.out, HN8.out⟩
      · have hq' : isAt s k 61 = false := by simpa using hq
        have CX : Hid (Calls Tryz.prog 72 #[.pointer (some ⟨rb, 0, none⟩), .int .u8 61] w4 fun e w' => e = .panicked [{ v := faultV (sk s k : Int) (errV (E 2)), recovered := false }] ∧ w4.grownBy w' (some rb)) := expect_no rb s k _ _ _ (E 2) 61 w4 HR4.out (by omega) hkl (by omega) hq' (by omega) HE4.out.g2
        have HP3 : Hid (pAttr s kind ws L j i er = .error (sk s k)) := by show _ = _; rw [HP2.out, if_neg hq]
        clear hq hq' HP2
        go_wp2_with fail
        refine CX.out.mono ?_
        rintro e w5 ⟨rfl, g5⟩
        refine ⟨rfl, ?_⟩
        rw [HP3.out]
        exact ⟨HF4.out.trans (F2.left g5), rfl⟩

end Go.Proofs.YtepeepipgkejiadGreatDoor
