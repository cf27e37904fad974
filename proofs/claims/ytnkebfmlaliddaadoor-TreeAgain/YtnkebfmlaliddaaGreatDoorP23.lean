/-
  The program's reader: readNode.
-/
import Derived.Test.YtnkebfmlaliddaaGreatDoorP20
import Derived.RegionDies
namespace Go.Proofs.YtnkebfmlaliddaaGreatDoor
open Go.RowKit
set_option linter.unusedVariables false

theorem kindV_no {i : Int} (h : i < 0) : kindV i = .tuple #[.int .i64 0, .bool false] := by unfold kindV; rw [if_pos h]
theorem kindV_yes {i : Int} (h : ¬ i < 0) : kindV i = .tuple #[.int .i64 i, .bool true] := by unfold kindV; rw [if_neg h]
theorem kindAt_lt (s : ByteArray) (i : Nat) : kindAt s i < 7 := by
  unfold kindAt
  rcases findF_bd (wordAt s i) kindsL 0 with h | h
  · omega
  · have : kindsL.length = 7 := rfl
    omega
theorem mem_add {w0 w w' : World} {rb ab B : Nat} {E : Nat → Addr} {s : ByteArray} {st : PS} {L : List Nd} {i : Nat} {er : Flt} (h : Mem w0 w rb ab B E s st) (ha : AddOut w w' rb B s i (.slice (some ⟨ab, 0, none⟩) 12 12) (fltV E er) L) (hg : Good s ⟨i, L, er⟩) : Mem w0 w' rb ab B E s ⟨i, L, er⟩ := by
  obtain ⟨e, k, _, f, _⟩ := h
  obtain ⟨nv, KV, p, n, fr, _⟩ := ha
  exact ⟨e.fr fr, k.fr fr e.rbB e.lo, hg, f.trans fr, nv, KV, p, n⟩

set_option maxRecDepth 100000 in
set_option maxHeartbeats 16000000 in
theorem readNode_step (rb ab B : Nat) (E : Nat → Addr) (s : ByteArray) (f : Nat) (hnode : NodeC rb ab B E s f) (hs : s.size ≤ 100000) : NodeC rb ab B E s (f + 1) := by
  intro up depth st w0 w hM hup hd hf
  have HNC : Hid (NodeC rb ab B E s f) := hnode
  have HM : Hid (Mem w0 w rb ab B E s st) := hM
  obtain ⟨env, kn, good, fr, nv, KV, pr, pn⟩ := hM
  have hrB := env.rbB
  have hlo := env.lo
  have hil := good.il
  have hll := good.ll
  have HG : Hid (Good s st) := good
  obtain ⟨pn0, cn0, rfl⟩ : ∃ p c, nv = .slice p st.L.length c := own_slice pn.nr.row.choose_spec
  have CW := readWord_any rb s st.i (.slice (some ⟨ab, 0, none⟩) 12 12) (.slice pn0 st.L.length cn0) (fltV E st.er) w pr (by omega) hil
  obtain ⟨at_, hat⟩ : ∃ z, sk s st.i = z := ⟨_, rfl⟩
  have hatl : at_ ≤ s.size := by rw [← hat]; exact sk_le s st.i hil
  have hatg : st.i ≤ at_ := by rw [← hat]; exact sk_ge s st.i
  obtain ⟨k, hk⟩ : ∃ z, run letter s at_ = z := ⟨_, rfl⟩
  have hkl : k ≤ s.size := by rw [← hk]; exact run_le _ _ _ hatl
  obtain ⟨t, ht⟩ : ∃ z, s.extract at_ k = z := ⟨_, rfl⟩
  have HK : Hid (kindAt s st.i = findF kindsL t 0) := by show _ = _; unfold kindAt wordAt; rw [hat, hk, ht]
  have HW : Hid (¬ kindAt s st.i < 0 → at_ < k) := fun h => by have := kindAt_word h hil; rw [hat, hk] at this; exact this
  rw [hat, hk, ht] at CW
  have HCW : Hid (Calls Tryz.prog 68 #[.pointer (some ⟨rb, 0, none⟩)] w fun e w' => e = .returned (.tuple #[.string t, .int .i64 (at_ : Int)]) ∧ PR w' rb s k (.slice (some ⟨ab, 0, none⟩) 12 12) (.slice pn0 st.L.length cn0) (fltV E st.er) ∧ w.grownBy w' (some rb)) := CW
  have HPN : Hid (PN w B (.slice pn0 st.L.length cn0) st.L KV) := pn
  have CK : Hid (∀ W, Kn W → Calls Tryz.prog 69 #[.string t] W fun e w' => e = .returned (kindV (findF kindsL t 0)) ∧ w' = W) := fun W hW => kindOf_at t W _ _ _ _ _ _ _ (hW 0 (by omega)) (hW 1 (by omega)) (hW 2 (by omega)) (hW 3 (by omega)) (hW 4 (by omega)) (hW 5 (by omega)) (hW 6 (by omega))
  rw [← HK.out] at CK
  have hk7 := kindAt_lt s st.i
  have HP : Hid (pNodeF s (f + 1) up depth st = if kindAt s st.i < 0 then .error at_ else pThen (pBr s (kindAt s st.i).toNat st.L.length k (keepF st.er (roomO st.L.length depth) at_) (grown st.L ⟨(kindAt s st.i).toNat, withoutL, [], [], up⟩)) fun st1 => pBody s (kindAt s st.i).toNat st.L.length (pNodeF s f (st.L.length : Int) (depth + 1)) st1) := by
    show _ = _
    unfold pNodeF
    rw [hat, hk]
  obtain ⟨ki, hki⟩ : ∃ z, kindAt s st.i = z := ⟨_, rfl⟩
  rw [hki] at CK HP HW hk7
  have HT : Hid (∀ W, W.cell? ⟨8, 0, none⟩ = some (errV (E 2)) → Calls Tryz.prog 45 #[.int .i64 (at_ : Int)] W fun e w' => e = .returned (.iface 81 (.agg #[.int .i64 (at_ : Int), .iface 240 (.pointer (some (E 2)))])) ∧ w' = W) := fun W he => noTree_any _ W (E 2) he
  clear CW hat hk ht HK hki pr pn env kn good fr hnode
  by_cases hneg : ki < 0
  · have HPE : Hid (pNodeF s (f + 1) up depth st = .error at_) := by show _ = _; rw [HP.out, if_pos hneg]
    rw [kindV_no hneg] at CK
    clear HP HW
    go_enter Tryz.func43, Tryz.ntmps43
    go_wp2_with fail
    refine HCW.out.mono ?_
    rintro e w1 ⟨rfl, h1, g1⟩
    have HF1 : Hid (Fr B rb w w1) := Fr.grown g1 HM.out.1.le
    have HE1 : Hid (Env w1 rb ab B E) := HM.out.1.fr HF1.out
    have HK1 : Hid (Kn w1) := HM.out.2.1.fr HF1.out hrB hlo
    clear h1 g1
    go_wp2_with fail
    refine (CK.out _ HK1.out).mono ?_
    rintro e w2 ⟨rfl, hw⟩
    obtain rfl := hw.symm
    go_wp2_with fail
    refine (HT.out _ HE1.out.g2).mono ?_
    rintro e w3 ⟨rfl, hw⟩
    obtain rfl := hw.symm
    go_wp2
    refine ⟨rfl, ?_⟩
    rw [HPE.out]
    exact ⟨rfl, HM.out.2.2.2.1.trans HF1.out⟩
  · obtain ⟨kind, rfl⟩ : ∃ q : Nat, ki = (q : Int) := ⟨ki.toNat, by omega⟩
    have hkk : kind < 7 := by omega
    have hatk := HW.out hneg
    have HP2 : Hid (pNodeF s (f + 1) up depth st = pThen (pBr s kind st.L.length k (keepF st.er (roomO st.L.length depth) at_) (grown st.L ⟨kind, withoutL, [], [], up⟩)) fun st1 => pBody s kind st.L.length (pNodeF s f (st.L.length : Int) (depth + 1)) st1) := by
      show _ = _
      rw [HP.out, if_neg hneg]
      simp only [Int.toNat_natCast]
    rw [kindV_yes hneg] at CK
    have hL : st.L.length ≤ 100000 := by omega
    obtain ⟨L1, hL1⟩ : ∃ z, grown st.L ⟨kind, withoutL, [], [], up⟩ = z := ⟨_, rfl⟩
    have hL1l : L1.length = st.L.length + 1 := by rw [← hL1]; exact grown_len _ _
    obtain ⟨er1, her1⟩ : ∃ z, keepF st.er (roomO st.L.length depth) at_ = z := ⟨_, rfl⟩
    have hupl : up < st.L.length := by omega
    have HG1 : Hid (Good s ⟨k, L1, er1⟩) := ⟨hkl, by show L1.length ≤ k; omega, fun j => by show (nth L1 j).kids.length ≤ L1.length; rw [hL1l, ← hL1]; exact grown_kids _ _ rfl hupl HG.out.kl j⟩
    have hL1k : L1.length ≤ k := by omega
    have HKD : Hid ((nth L1 st.L.length).kind = kind) := by
      show _ = _
      rw [← hL1]
      by_cases hu : up < 0
      · unfold grown; rw [if_pos hu, nth_app_new]
      · rw [grown_eq st.L _ up.toNat (by show up = _; omega) (by omega), nth_mod_other _ (by omega), nth_app_new]
    rw [hL1, her1] at HP2
    clear HP HW hneg
    go_enter Tryz.func43, Tryz.ntmps43
    go_wp2_with fail
    refine HCW.out.mono ?_
    rintro e w1 ⟨rfl, h1, g1⟩
    have HF1 : Hid (Fr B rb w w1) := Fr.grown g1 HM.out.1.le
    have HE1 : Hid (Env w1 rb ab B E) := HM.out.1.fr HF1.out
    have HK1 : Hid (Kn w1) := HM.out.2.1.fr HF1.out hrB hlo
    have HR1 : Hid (PR w1 rb s k (.slice (some ⟨ab, 0, none⟩) 12 12) (.slice pn0 st.L.length cn0) (fltV E st.er)) := h1
    have HN1 : Hid (PN w1 B (.slice pn0 st.L.length cn0) st.L KV) := HPN.out.up (Up.grown g1 hrB)
    clear h1 g1
    go_wp2_with fail
    refine (CK.out _ HK1.out).mono ?_
    rintro e w2 ⟨rfl, hw⟩
    obtain rfl := hw.symm
    have CR : Hid (Calls Tryz.prog 71 #[.pointer (some ⟨rb, 0, none⟩), .int .i64 (depth : Int)] w1 fun e w' => e = .returned (eoV E (roomO st.L.length depth)) ∧ w' = w1) := by
      have := roomFor_any rb s k (.slice (some ⟨ab, 0, none⟩) 12 12) (fltV E st.er) pn0 st.L.length cn0 depth (E 3) (E 4) w1 HR1.out HE1.out.g3 HE1.out.g4
      rw [room_eo] at this
      exact this
    go_wp2_with fail
    refine CR.out.mono ?_
    rintro e w3 ⟨rfl, hw⟩
    obtain rfl := hw.symm
    have CP : Hid (Calls Tryz.prog 70 #[.pointer (some ⟨rb, 0, none⟩), eoV E (roomO st.L.length depth), .int .i64 (at_ : Int)] w1 fun e w' => e = .returned (.tuple #[]) ∧ PR w' rb s k (.slice (some ⟨ab, 0, none⟩) 12 12) (.slice pn0 st.L.length cn0) (fltV E er1) ∧ w1.grownBy w' (some rb)) := by
      have := keep_all rb s k (.slice (some ⟨ab, 0, none⟩) 12 12) (.slice pn0 st.L.length cn0) E st.er (roomO st.L.length depth) at_ w1 HR1.out
      rw [her1] at this
      exact this
    clear her1
    go_wp2_with fail
    refine CP.out.mono ?_
    rintro e w4 ⟨rfl, h4, g4⟩
    have HF4 : Hid (Fr B rb w w4) := HF1.out.trans (Fr.grown g4 HE1.out.le)
    have HE4 : Hid (Env w4 rb ab B E) := HM.out.1.fr HF4.out
    have HM4 : Hid (Mem w0 w4 rb ab B E s ⟨k, st.L, er1⟩) := ⟨HE4.out, HM.out.2.1.fr HF4.out hrB hlo, ⟨hkl, by show st.L.length ≤ k; omega, HG.out.kl⟩, HM.out.2.2.2.1.trans HF4.out, _, KV, h4, HN1.out.up (Up.grown g4 hrB)⟩
    have CA : Hid (Calls Tryz.prog 72 #[.pointer (some ⟨rb, 0, none⟩), .int .i64 (kind : Int), .int .i64 up] w4 fun e w' => e = .returned (.int .i64 (st.L.length : Int)) ∧ AddOut w4 w' rb B s k (.slice (some ⟨ab, 0, none⟩) 12 12) (fltV E er1) L1) := by
      have := addNode_any rb ab B s k _ (fltV E er1) st.L KV kind up w4 h4 (HN1.out.up (Up.grown g4 hrB)) HE4.out.tab hrB HE4.out.abB HE4.out.ne HE4.out.le hL hup (fun j ks hj hks => by rw [← hks]; have := HG.out.kl j; omega)
      rw [hL1] at this
      exact this
    clear h4 g4 CP CR HF1 HE1 HK1 HR1 HN1 hL1
    go_wp2_with fail
    refine CA.out.mono ?_
    rintro e w5 ⟨rfl, h5⟩
    have HM5 : Hid (Mem w0 w5 rb ab B E s ⟨k, L1, er1⟩) := mem_add HM4.out h5 HG1.out
    obtain ⟨idx, hidx⟩ : ∃ z, st.L.length = z := ⟨_, rfl⟩
    rw [hidx] at HP2 hL1l HKD hL
    rw [hidx]
    have hki : k = (⟨k, L1, er1⟩ : PS).i := rfl
    have CT : Hid (Calls Tryz.prog 73 #[.pointer (some ⟨rb, 0, none⟩), .int .u8 123] w5 fun e w' => e = .returned (.bool (isAt s k 123)) ∧ Mem w0 w' rb ab B E s ⟨gotI s k 123, L1, er1⟩) := mem_takes (st := ⟨k, L1, er1⟩) 123 HM5.out (by omega) (by omega)
    have hgg := gotI_ge s k 123
    have hgl := gotI_le (s := s) (i := k) (c := 123) (by omega) hkl
    have hd1 : depth + 1 ≤ k := by omega
    have hf1 : s.size < f + k := by omega
    clear h5 HM4 CA HE4 HF4 hidx HG1 HM HG HPN HCW CK HT hup hupl hd hf hil hll hatl hatg hki
    by_cases hq : isAt s k 123 = true
    · obtain ⟨env5, kn5, good5, fr5, nv5, KV5, pr5, pn5⟩ := HM5.out
      rw [hq] at CT
      go_wp2_with fail
      refine CT.out.mono ?_
      rintro e w6 ⟨rfl, h6⟩
      clear env5 kn5 good5 fr5 pr5 pn5
      have HMB : Hid (Mem w0 w6 rb ab B E s ⟨gotI s k 123, L1, er1⟩) := h6
      obtain ⟨env, kn, good, fr, nv, KV2, pr, pn⟩ := h6
      obtain ⟨bl, cap, rfl, hBl, hbll, _, _⟩ := pn.nr.form (by show 0 < L1.length; omega)
      have CA : Hid (Calls Tryz.prog 74 #[.pointer (some ⟨rb, 0, none⟩), .pointer (some ⟨bl, idx * 16, none⟩)] w6 fun e w' => RsOut w6 w' e rb B bl E s (.slice (some ⟨ab, 0, none⟩) 12 12) (.slice (some ⟨bl, 0, none⟩) L1.length cap) KV2 L1.length (pAttrsF s kind idx (s.size + 1) (gotI s k 123) er1 L1 [])) := readAttributes_any rb ab B E s (gotI s k 123) er1 L1 KV2 bl cap idx kind w6 env pr pn (by omega) (by omega) HKD.out hkk (by omega) hgl
      have c3 := pr.c3
      have hix : (idx : Int) < (L1.length : Int) := by omega
      clear env kn good fr pr pn CT HM5
      cases hp : pAttrsF s kind idx (s.size + 1) (gotI s k 123) er1 L1 [] with
      | error b =>
        have HRE : Hid (pNodeF s (f + 1) up depth st = .error b) := by
          show _ = _
          rw [HP2.out]
          unfold pBr
          rw [if_pos hq, hp]
          rfl
        rw [hp] at CA
        clear hp HP2 hq
        go_wp2_with fail
        refine CA.out.mono ?_
        rintro e w7 ⟨f7, rfl⟩
        refine ⟨rfl, ?_⟩
        rw [HRE.out]
        exact ⟨rfl, HMB.out.2.2.2.1.trans (f7.fr HMB.out.1.le hBl)⟩
      | ok r =>
        obtain ⟨i2, er2, L2⟩ := r
        have HP3 : Hid (pNodeF s (f + 1) up depth st = pBody s kind idx (pNodeF s f (idx : Int) (depth + 1)) ⟨i2, L2, er2⟩) := by
          show _ = _
          rw [HP2.out]
          unfold pBr
          rw [if_pos hq, hp]
          rfl
        obtain ⟨b1, b2, b3, b4⟩ := attrs_bd _ _ _ _ _ _ _ _ hgl hp
        rw [hp] at CA
        clear hp HP2 hq
        go_wp2_with fail
        refine CA.out.mono ?_
        rintro e w7 ⟨f7, rfl, h7, n7, l7⟩
        have fr7 : Fr B rb w6 w7 := f7.fr HMB.out.1.le hBl
        obtain ⟨st1, hst1⟩ : ∃ z : PS, ⟨i2, L2, er2⟩ = z := ⟨_, rfl⟩
        have kd1 : depth + 1 ≤ st1.i := by rw [← hst1]; show depth + 1 ≤ i2; omega
        have kf1 : s.size < f + st1.i := by rw [← hst1]; show s.size < f + i2; omega
        have kx1 : idx < st1.L.length := by rw [← hst1]; show idx < L2.length; omega
        have HM6 : Hid (Mem w0 w7 rb ab B E s st1) := by
          rw [← hst1]
          refine ⟨HMB.out.1.fr fr7, HMB.out.2.1.fr fr7 hrB hlo, ⟨b2, ?_, fun j => ?_⟩, HMB.out.2.2.2.1.trans fr7, _, KV2, h7, n7⟩
          · show L2.length ≤ i2
            have : L1.length ≤ gotI s k 123 := HMB.out.2.2.1.ll
            omega
          · show (nth L2 j).kids.length ≤ L2.length
            rw [b4, b3]; exact HMB.out.2.2.1.kl j
        rw [hst1] at HP3
        clear h7 n7 f7 fr7 CA hst1 c3 hgg hgl hd1 hf1 HKD HMB
        have hcs : kind = 0 ∨ kind = 1 ∨ kind = 2 ∨ kind = 3 ∨ kind = 4 ∨ kind = 5 ∨ kind = 6 := by omega
        have hdi : ((depth + 1 : Nat) : Int) = (depth : Int) + 1 := by omega
        have hdb : (depth : Int) + 1 ≤ 1000000 := by have := HM6.out.2.2.1.il; omega
        have CL : Hid (Calls Tryz.prog 77 #[.pointer (some ⟨rb, 0, none⟩), .int .i64 (idx : Int), .int .i64 ((depth : Int) + 1)] w7 fun e w' => NdOut w0 w' e rb ab B E s (pList s (pNodeF s f (idx : Int) (depth + 1)) st1)) := by
          have := readList_of rb ab B E s f HNC.out (by omega) idx (depth + 1) st1 w0 w7 HM6.out kx1 kd1 kf1
          rw [hdi] at this
          exact this
        rcases hcs with rfl | rfl | rfl | rfl | rfl | rfl | rfl
        · have HPB : Hid (pNodeF s (f + 1) up depth st = pList s (pNodeF s f (idx : Int) (depth + 1)) st1) := by show _ = _; rw [HP3.out]; rfl
          obtain ⟨R, hR⟩ : ∃ z, pList s (pNodeF s f (idx : Int) (depth + 1)) st1 = z := ⟨_, rfl⟩
          rw [hR] at CL HPB
          clear hR HP3
          go_wp2_with fail
          refine CL.out.mono ?_
          cases R with
          | error b =>
            rintro e x7 ⟨rfl, f7⟩
            refine ⟨rfl, ?_⟩
            rw [HPB.out]
            exact ⟨rfl, f7⟩
          | ok st2 =>
            rintro e x7 ⟨rfl, h7⟩
            have HM7 : Hid (Mem w0 x7 rb ab B E s st2) := h7
            clear h7 CL
            go_wp2
            go_end0
            show NdOut _ _ _ _ _ _ _ _ _
            rw [HPB.out]
            exact ⟨rfl, HM7.out⟩
        · have HPB : Hid (pNodeF s (f + 1) up depth st = pList s (pNodeF s f (idx : Int) (depth + 1)) st1) := by show _ = _; rw [HP3.out]; rfl
          obtain ⟨R, hR⟩ : ∃ z, pList s (pNodeF s f (idx : Int) (depth + 1)) st1 = z := ⟨_, rfl⟩
          rw [hR] at CL HPB
          clear hR HP3
          go_wp2_with fail
          refine CL.out.mono ?_
          cases R with
          | error b =>
            rintro e x7 ⟨rfl, f7⟩
            refine ⟨rfl, ?_⟩
            rw [HPB.out]
            exact ⟨rfl, f7⟩
          | ok st2 =>
            rintro e x7 ⟨rfl, h7⟩
            have HM7 : Hid (Mem w0 x7 rb ab B E s st2) := h7
            clear h7 CL
            go_wp2
            go_end0
            show NdOut _ _ _ _ _ _ _ _ _
            rw [HPB.out]
            exact ⟨rfl, HM7.out⟩
        · have HPB : Hid (pNodeF s (f + 1) up depth st = pList s (pNodeF s f (idx : Int) (depth + 1)) st1) := by show _ = _; rw [HP3.out]; rfl
          obtain ⟨R, hR⟩ : ∃ z, pList s (pNodeF s f (idx : Int) (depth + 1)) st1 = z := ⟨_, rfl⟩
          rw [hR] at CL HPB
          clear hR HP3
          go_wp2_with fail
          refine CL.out.mono ?_
          cases R with
          | error b =>
            rintro e x7 ⟨rfl, f7⟩
            refine ⟨rfl, ?_⟩
            rw [HPB.out]
            exact ⟨rfl, f7⟩
          | ok st2 =>
            rintro e x7 ⟨rfl, h7⟩
            have HM7 : Hid (Mem w0 x7 rb ab B E s st2) := h7
            clear h7 CL
            go_wp2
            go_end0
            show NdOut _ _ _ _ _ _ _ _ _
            rw [HPB.out]
            exact ⟨rfl, HM7.out⟩
        · by_cases hb : isAt s st1.i 91 = true
          · have CX : Hid (Calls Tryz.prog 76 #[.pointer (some ⟨rb, 0, none⟩), .int .u8 91] w7 fun e w' => NdOut w0 w' e rb ab B E s (pEnd s st1 91)) := mem_expect 91 HM6.out (by omega) (by omega)
            have e1 : pEnd s st1 91 = .ok { st1 with i := gotI s st1.i 91 } := by unfold pEnd; rw [if_pos hb]
            rw [e1] at CX
            obtain ⟨st2, hst2⟩ : ∃ z : PS, { st1 with i := gotI s st1.i 91 } = z := ⟨_, rfl⟩
            have z1 : st1.i ≤ st2.i := by rw [← hst2]; exact gotI_ge _ _ _
            have z2 : st2.L.length = st1.L.length := by rw [← hst2]
            rw [hst2] at CX
            have HPB : Hid (∀ r, pNodeF s f (idx : Int) (depth + 1) st2 = r → pNodeF s (f + 1) up depth st = pThen r fun st3 => pEnd s st3 93) := fun r hr => by
              rw [HP3.out]
              show pOne s (pNodeF s f (idx : Int) (depth + 1)) st1 = _
              unfold pOne
              rw [if_pos hb, hst2, hr]
            clear e1 hst2 hb CL HP3
            go_wp2_with fail
            refine CX.out.mono ?_
            rintro e x7 ⟨rfl, h7⟩
            have CN : Hid (Calls Tryz.prog 43 #[.pointer (some ⟨rb, 0, none⟩), .int .i64 (idx : Int), .int .i64 ((depth : Int) + 1)] x7 fun e w' => NdOut w0 w' e rb ab B E s (pNodeF s f (idx : Int) (depth + 1) st2)) := by
              have := HNC.out (idx : Int) (depth + 1) st2 w0 x7 h7 (.inr ⟨by omega, by omega⟩) (by omega) (by omega)
              rw [hdi] at this
              exact this
            clear h7 CX
            cases hp : pNodeF s f (idx : Int) (depth + 1) st2 with
            | error b =>
              have HRE : Hid (pNodeF s (f + 1) up depth st = .error b) := HPB.out _ hp
              rw [hp] at CN
              clear hp HPB
              go_wp2_with fail
              refine CN.out.mono ?_
              rintro e x8 ⟨rfl, f8⟩
              refine ⟨rfl, ?_⟩
              rw [HRE.out]
              exact ⟨rfl, f8⟩
            | ok st3 =>
              have HRE : Hid (pNodeF s (f + 1) up depth st = pEnd s st3 93) := HPB.out _ hp
              rw [hp] at CN
              clear hp HPB
              go_wp2_with fail
              refine CN.out.mono ?_
              rintro e x8 ⟨rfl, h8⟩
              have CX : Hid (Calls Tryz.prog 76 #[.pointer (some ⟨rb, 0, none⟩), .int .u8 93] x8 fun e w' => NdOut w0 w' e rb ab B E s (pEnd s st3 93)) := mem_expect 93 h8 (by omega) (by omega)
              obtain ⟨R, hR⟩ : ∃ z, pEnd s st3 93 = z := ⟨_, rfl⟩
              rw [hR] at CX HRE
              clear h8 CN hR
              go_wp2_with fail
              refine CX.out.mono ?_
              cases R with
              | error b =>
                rintro e x9 ⟨rfl, f9⟩
                refine ⟨rfl, ?_⟩
                rw [HRE.out]
                exact ⟨rfl, f9⟩
              | ok st4 =>
                rintro e x9 ⟨rfl, h9⟩
                have HM9 : Hid (Mem w0 x9 rb ab B E s st4) := h9
                clear h9 CX
                go_wp2
                go_end0
                show NdOut _ _ _ _ _ _ _ _ _
                rw [HRE.out]
                exact ⟨rfl, HM9.out⟩
          · have CX : Hid (Calls Tryz.prog 76 #[.pointer (some ⟨rb, 0, none⟩), .int .u8 91] w7 fun e w' => NdOut w0 w' e rb ab B E s (pEnd s st1 91)) := mem_expect 91 HM6.out (by omega) (by omega)
            have e1 : pEnd s st1 91 = .error (sk s st1.i) := by unfold pEnd; rw [if_neg hb]
            rw [e1] at CX
            have HRE : Hid (pNodeF s (f + 1) up depth st = .error (sk s st1.i)) := by
              show _ = _
              rw [HP3.out]
              show pOne s (pNodeF s f (idx : Int) (depth + 1)) st1 = _
              unfold pOne
              rw [if_neg hb]
            clear e1 hb CL HP3
            go_wp2_with fail
            refine CX.out.mono ?_
            rintro e x7 ⟨rfl, f7⟩
            refine ⟨rfl, ?_⟩
            rw [HRE.out]
            exact ⟨rfl, f7⟩
        · by_cases hb : isAt s st1.i 91 = true
          · have CX : Hid (Calls Tryz.prog 76 #[.pointer (some ⟨rb, 0, none⟩), .int .u8 91] w7 fun e w' => NdOut w0 w' e rb ab B E s (pEnd s st1 91)) := mem_expect 91 HM6.out (by omega) (by omega)
            have e1 : pEnd s st1 91 = .ok { st1 with i := gotI s st1.i 91 } := by unfold pEnd; rw [if_pos hb]
            rw [e1] at CX
            obtain ⟨st2, hst2⟩ : ∃ z : PS, { st1 with i := gotI s st1.i 91 } = z := ⟨_, rfl⟩
            have z1 : st1.i ≤ st2.i := by rw [← hst2]; exact gotI_ge _ _ _
            have z2 : st2.L.length = st1.L.length := by rw [← hst2]
            rw [hst2] at CX
            have HPB : Hid (∀ r, pNodeF s f (idx : Int) (depth + 1) st2 = r → pNodeF s (f + 1) up depth st = pThen r fun st3 => pEnd s st3 93) := fun r hr => by
              rw [HP3.out]
              show pOne s (pNodeF s f (idx : Int) (depth + 1)) st1 = _
              unfold pOne
              rw [if_pos hb, hst2, hr]
            clear e1 hst2 hb CL HP3
            go_wp2_with fail
            refine CX.out.mono ?_
            rintro e x7 ⟨rfl, h7⟩
            have CN : Hid (Calls Tryz.prog 43 #[.pointer (some ⟨rb, 0, none⟩), .int .i64 (idx : Int), .int .i64 ((depth : Int) + 1)] x7 fun e w' => NdOut w0 w' e rb ab B E s (pNodeF s f (idx : Int) (depth + 1) st2)) := by
              have := HNC.out (idx : Int) (depth + 1) st2 w0 x7 h7 (.inr ⟨by omega, by omega⟩) (by omega) (by omega)
              rw [hdi] at this
              exact this
            clear h7 CX
            cases hp : pNodeF s f (idx : Int) (depth + 1) st2 with
            | error b =>
              have HRE : Hid (pNodeF s (f + 1) up depth st = .error b) := HPB.out _ hp
              rw [hp] at CN
              clear hp HPB
              go_wp2_with fail
              refine CN.out.mono ?_
              rintro e x8 ⟨rfl, f8⟩
              refine ⟨rfl, ?_⟩
              rw [HRE.out]
              exact ⟨rfl, f8⟩
            | ok st3 =>
              have HRE : Hid (pNodeF s (f + 1) up depth st = pEnd s st3 93) := HPB.out _ hp
              rw [hp] at CN
              clear hp HPB
              go_wp2_with fail
              refine CN.out.mono ?_
              rintro e x8 ⟨rfl, h8⟩
              have CX : Hid (Calls Tryz.prog 76 #[.pointer (some ⟨rb, 0, none⟩), .int .u8 93] x8 fun e w' => NdOut w0 w' e rb ab B E s (pEnd s st3 93)) := mem_expect 93 h8 (by omega) (by omega)
              obtain ⟨R, hR⟩ : ∃ z, pEnd s st3 93 = z := ⟨_, rfl⟩
              rw [hR] at CX HRE
              clear h8 CN hR
              go_wp2_with fail
              refine CX.out.mono ?_
              cases R with
              | error b =>
                rintro e x9 ⟨rfl, f9⟩
                refine ⟨rfl, ?_⟩
                rw [HRE.out]
                exact ⟨rfl, f9⟩
              | ok st4 =>
                rintro e x9 ⟨rfl, h9⟩
                have HM9 : Hid (Mem w0 x9 rb ab B E s st4) := h9
                clear h9 CX
                go_wp2
                go_end0
                show NdOut _ _ _ _ _ _ _ _ _
                rw [HRE.out]
                exact ⟨rfl, HM9.out⟩
          · have CX : Hid (Calls Tryz.prog 76 #[.pointer (some ⟨rb, 0, none⟩), .int .u8 91] w7 fun e w' => NdOut w0 w' e rb ab B E s (pEnd s st1 91)) := mem_expect 91 HM6.out (by omega) (by omega)
            have e1 : pEnd s st1 91 = .error (sk s st1.i) := by unfold pEnd; rw [if_neg hb]
            rw [e1] at CX
            have HRE : Hid (pNodeF s (f + 1) up depth st = .error (sk s st1.i)) := by
              show _ = _
              rw [HP3.out]
              show pOne s (pNodeF s f (idx : Int) (depth + 1)) st1 = _
              unfold pOne
              rw [if_neg hb]
            clear e1 hb CL HP3
            go_wp2_with fail
            refine CX.out.mono ?_
            rintro e x7 ⟨rfl, f7⟩
            refine ⟨rfl, ?_⟩
            rw [HRE.out]
            exact ⟨rfl, f7⟩
        · obtain ⟨env, kn, good, fr, nv, KV2, pr, pn⟩ := HM6.out
          obtain ⟨bl, cap, rfl, hBl, hbll, _, _⟩ := pn.nr.form (by omega)
          have HEV : Hid (Env w7 rb ab B E) := env
          have HPR : Hid (PR w7 rb s st1.i (.slice (some ⟨ab, 0, none⟩) 12 12) (.slice (some ⟨bl, 0, none⟩) st1.L.length cap) (fltV E st1.er)) := pr
          have HPN : Hid (PN w7 B (.slice (some ⟨bl, 0, none⟩) st1.L.length cap) st1.L KV2) := pn
          have CS : Hid (∀ W, PR W rb s st1.i (.slice (some ⟨ab, 0, none⟩) 12 12) (.slice (some ⟨bl, 0, none⟩) st1.L.length cap) (fltV E st1.er) → W.cell? ⟨8, 0, none⟩ = some (errV (E 2)) → Calls Tryz.prog 75 #[.pointer (some ⟨rb, 0, none⟩)] W fun e w' => SOut W w' e rb s (.slice (some ⟨ab, 0, none⟩) 12 12) (.slice (some ⟨bl, 0, none⟩) st1.L.length cap) (fltV E st1.er) (E 2) (quoR s st1.i)) := fun W h1 h2 => readString_any rb s st1.i _ _ _ (E 2) W h1 (by omega) good.il (by omega) h2
          have HG1 : Hid (Good s st1) := good
          clear env kn good fr pr pn CL
          cases hqq : quoR s st1.i with
          | error b =>
            have HRE : Hid (pNodeF s (f + 1) up depth st = .error b) := by
              show _ = _
              rw [HP3.out]
              show pText s idx st1 = _
              unfold pText
              rw [hqq]
            rw [hqq] at CS
            clear hqq HP3
            have c3 := HPR.out.c3
            have hix : (idx : Int) < (st1.L.length : Int) := by omega
            go_wp2_with fail
            go_region_dies
            all_goals
              refine (CS.out _ (HPR.out.drewN 1) HEV.out.g2).mono ?_
              rintro e x7 ⟨g7, rfl⟩
              refine ⟨rfl, ?_⟩
              rw [HRE.out]
              exact ⟨rfl, HM6.out.2.2.2.1.trans ((Fr.drewN B rb w7 1).trans (Fr.grown g7 HEV.out.le))⟩
          | ok r =>
            obtain ⟨i2, tt⟩ := r
            have HRE : Hid (pNodeF s (f + 1) up depth st = .ok { st1 with i := i2, L := withText st1.L idx tt }) := by
              show _ = _
              rw [HP3.out]
              show pText s idx st1 = _
              unfold pText
              rw [hqq]
            have HGT : Hid (Good s { st1 with i := i2, L := withText st1.L idx tt }) := (text_fwd (s := s) (idx := idx) HG1.out (by unfold pText; rw [hqq])).good
            rw [hqq] at CS
            clear hqq HP3
            have c3 := HPR.out.c3
            have hix : (idx : Int) < (st1.L.length : Int) := by omega
            have ce := HPN.out.nr.cells bl rfl idx kx1 13 _ (pn_text (HPN.out.len idx kx1))
            obtain ⟨ov, hov⟩ : ∃ z : ByteArray, ⟨(nth st1.L idx).text.toArray⟩ = z := ⟨_, rfl⟩
            rw [hov] at ce
            have cf : w7.frozen? ⟨bl, idx * 16 + 13, none⟩ = false := HPN.out.nr.frz rfl _
            have hbr : bl ≠ rb := by omega
            clear hov
            go_wp2_with fail
            go_region_with (first | (go_at_call 75; refine (CS.out _ (HPR.out.drewN 1) HEV.out.g2).mono ?_; rintro e x7 ⟨g7, rfl, h7⟩; have HR7 : Hid (PR x7 rb s i2 (.slice (some ⟨ab, 0, none⟩) 12 12) (.slice (some ⟨bl, 0, none⟩) st1.L.length cap) (fltV E st1.er)) := h7; have HG7 : Hid ((w7.drewN 1).grownBy x7 (some rb)) := g7; have k3 := h7.c3; have hb7 : x7.heap[bl]? = w7.heap[bl]? := g7.block bl hbll (by simpa using hbr); have kc : x7.cell? ⟨bl, idx * 16 + 13, none⟩ = some (.string ov) := (World.cell?_of_block hb7).trans ce; have kf : x7.frozen? ⟨bl, idx * 16 + 13, none⟩ = false := (World.frozen?_of_block hb7).trans cf; clear h7 g7))
            all_goals
              have HMT : Hid (Mem w0 (x7.setCell ⟨bl, idx * 16 + 13, none⟩ (.string ⟨tt.toArray⟩)) rb ab B E s { st1 with i := i2, L := withText st1.L idx tt }) := by
                have fr7 : Fr B rb w7 x7 := (Fr.drewN B rb w7 1).trans (Fr.grown HG7.out HEV.out.le)
                have fr8 : Fr B rb w7 (x7.setCell ⟨bl, idx * 16 + 13, none⟩ (.string ⟨tt.toArray⟩)) := fr7.trans (Fr.own (gr_set x7 bl _ _) (Nat.le_trans HEV.out.le fr7.size) (fun q e => by injection e with e; omega))
                have pn7 := (HPN.out.up (Up.drewN B w7 1)).up (Up.grown HG7.out hrB)
                have pn8 := pn7.setText kx1 tt
                have hwl : (withText st1.L idx tt).length = st1.L.length := by unfold withText; simp
                refine ⟨HEV.out.fr fr8, HM6.out.2.1.fr fr8 hrB hlo, HGT.out, HM6.out.2.2.2.1.trans fr8, .slice (some ⟨bl, 0, none⟩) st1.L.length cap, KV2, PR.far HR7.out (gr_set x7 bl _ _) (fun q e => by injection e with e; omega) hrB, ?_⟩
                exact pn8
              clear k3 hb7 kc kf HG7 HR7 ce cf c3
              go_wp2
              go_end0
              show NdOut _ _ _ _ _ _ _ _ _
              rw [HRE.out]
              exact ⟨rfl, HMT.out⟩
        · have HPB : Hid (pNodeF s (f + 1) up depth st = .ok st1) := by show _ = _; rw [HP3.out]; rfl
          clear CL HP3
          go_wp2
          go_end0
          show NdOut _ _ _ _ _ _ _ _ _
          rw [HPB.out]
          exact ⟨rfl, HM6.out⟩
    · have HP3 : Hid (pNodeF s (f + 1) up depth st = pBody s kind idx (pNodeF s f (idx : Int) (depth + 1)) ⟨gotI s k 123, L1, er1⟩) := by
        show _ = _
        rw [HP2.out]
        unfold pBr
        rw [if_neg hq]
        rfl
      rw [show isAt s k 123 = false by simpa using hq] at CT
      clear hq HP2
      go_wp2_with fail
      refine CT.out.mono ?_
      rintro e w6 ⟨rfl, h6⟩
      obtain ⟨st1, hst1⟩ : ∃ z : PS, ⟨gotI s k 123, L1, er1⟩ = z := ⟨_, rfl⟩
      have kd1 : depth + 1 ≤ st1.i := by rw [← hst1]; show depth + 1 ≤ gotI s k 123; omega
      have kf1 : s.size < f + st1.i := by rw [← hst1]; show s.size < f + gotI s k 123; omega
      have kx1 : idx < st1.L.length := by rw [← hst1]; show idx < L1.length; omega
      rw [hst1] at h6 HP3
      have HM6 : Hid (Mem w0 w6 rb ab B E s st1) := h6
      clear h6 CT hst1 HM5 hgg hgl hd1 hf1 HKD
      have hcs : kind = 0 ∨ kind = 1 ∨ kind = 2 ∨ kind = 3 ∨ kind = 4 ∨ kind = 5 ∨ kind = 6 := by omega
      have hdi : ((depth + 1 : Nat) : Int) = (depth : Int) + 1 := by omega
      have hdb : (depth : Int) + 1 ≤ 1000000 := by have := HM6.out.2.2.1.il; omega
      have CL : Hid (Calls Tryz.prog 77 #[.pointer (some ⟨rb, 0, none⟩), .int .i64 (idx : Int), .int .i64 ((depth : Int) + 1)] w6 fun e w' => NdOut w0 w' e rb ab B E s (pList s (pNodeF s f (idx : Int) (depth + 1)) st1)) := by
        have := readList_of rb ab B E s f HNC.out (by omega) idx (depth + 1) st1 w0 w6 HM6.out kx1 kd1 kf1
        rw [hdi] at this
        exact this
      rcases hcs with rfl | rfl | rfl | rfl | rfl | rfl | rfl
      · have HPB : Hid (pNodeF s (f + 1) up depth st = pList s (pNodeF s f (idx : Int) (depth + 1)) st1) := by show _ = _; rw [HP3.out]; rfl
        obtain ⟨R, hR⟩ : ∃ z, pList s (pNodeF s f (idx : Int) (depth + 1)) st1 = z := ⟨_, rfl⟩
        rw [hR] at CL HPB
        clear hR HP3
        go_wp2_with fail
        refine CL.out.mono ?_
        cases R with
        | error b =>
          rintro e x7 ⟨rfl, f7⟩
          refine ⟨rfl, ?_⟩
          rw [HPB.out]
          exact ⟨rfl, f7⟩
        | ok st2 =>
          rintro e x7 ⟨rfl, h7⟩
          have HM7 : Hid (Mem w0 x7 rb ab B E s st2) := h7
          clear h7 CL
          go_wp2
          go_end0
          show NdOut _ _ _ _ _ _ _ _ _
          rw [HPB.out]
          exact ⟨rfl, HM7.out⟩
      · have HPB : Hid (pNodeF s (f + 1) up depth st = pList s (pNodeF s f (idx : Int) (depth + 1)) st1) := by show _ = _; rw [HP3.out]; rfl
        obtain ⟨R, hR⟩ : ∃ z, pList s (pNodeF s f (idx : Int) (depth + 1)) st1 = z := ⟨_, rfl⟩
        rw [hR] at CL HPB
        clear hR HP3
        go_wp2_with fail
        refine CL.out.mono ?_
        cases R with
        | error b =>
          rintro e x7 ⟨rfl, f7⟩
          refine ⟨rfl, ?_⟩
          rw [HPB.out]
          exact ⟨rfl, f7⟩
        | ok st2 =>
          rintro e x7 ⟨rfl, h7⟩
          have HM7 : Hid (Mem w0 x7 rb ab B E s st2) := h7
          clear h7 CL
          go_wp2
          go_end0
          show NdOut _ _ _ _ _ _ _ _ _
          rw [HPB.out]
          exact ⟨rfl, HM7.out⟩
      · have HPB : Hid (pNodeF s (f + 1) up depth st = pList s (pNodeF s f (idx : Int) (depth + 1)) st1) := by show _ = _; rw [HP3.out]; rfl
        obtain ⟨R, hR⟩ : ∃ z, pList s (pNodeF s f (idx : Int) (depth + 1)) st1 = z := ⟨_, rfl⟩
        rw [hR] at CL HPB
        clear hR HP3
        go_wp2_with fail
        refine CL.out.mono ?_
        cases R with
        | error b =>
          rintro e x7 ⟨rfl, f7⟩
          refine ⟨rfl, ?_⟩
          rw [HPB.out]
          exact ⟨rfl, f7⟩
        | ok st2 =>
          rintro e x7 ⟨rfl, h7⟩
          have HM7 : Hid (Mem w0 x7 rb ab B E s st2) := h7
          clear h7 CL
          go_wp2
          go_end0
          show NdOut _ _ _ _ _ _ _ _ _
          rw [HPB.out]
          exact ⟨rfl, HM7.out⟩
      · by_cases hb : isAt s st1.i 91 = true
        · have CX : Hid (Calls Tryz.prog 76 #[.pointer (some ⟨rb, 0, none⟩), .int .u8 91] w6 fun e w' => NdOut w0 w' e rb ab B E s (pEnd s st1 91)) := mem_expect 91 HM6.out (by omega) (by omega)
          have e1 : pEnd s st1 91 = .ok { st1 with i := gotI s st1.i 91 } := by unfold pEnd; rw [if_pos hb]
          rw [e1] at CX
          obtain ⟨st2, hst2⟩ : ∃ z : PS, { st1 with i := gotI s st1.i 91 } = z := ⟨_, rfl⟩
          have z1 : st1.i ≤ st2.i := by rw [← hst2]; exact gotI_ge _ _ _
          have z2 : st2.L.length = st1.L.length := by rw [← hst2]
          rw [hst2] at CX
          have HPB : Hid (∀ r, pNodeF s f (idx : Int) (depth + 1) st2 = r → pNodeF s (f + 1) up depth st = pThen r fun st3 => pEnd s st3 93) := fun r hr => by
            rw [HP3.out]
            show pOne s (pNodeF s f (idx : Int) (depth + 1)) st1 = _
            unfold pOne
            rw [if_pos hb, hst2, hr]
          clear e1 hst2 hb CL HP3
          go_wp2_with fail
          refine CX.out.mono ?_
          rintro e x7 ⟨rfl, h7⟩
          have CN : Hid (Calls Tryz.prog 43 #[.pointer (some ⟨rb, 0, none⟩), .int .i64 (idx : Int), .int .i64 ((depth : Int) + 1)] x7 fun e w' => NdOut w0 w' e rb ab B E s (pNodeF s f (idx : Int) (depth + 1) st2)) := by
            have := HNC.out (idx : Int) (depth + 1) st2 w0 x7 h7 (.inr ⟨by omega, by omega⟩) (by omega) (by omega)
            rw [hdi] at this
            exact this
          clear h7 CX
          cases hp : pNodeF s f (idx : Int) (depth + 1) st2 with
          | error b =>
            have HRE : Hid (pNodeF s (f + 1) up depth st = .error b) := HPB.out _ hp
            rw [hp] at CN
            clear hp HPB
            go_wp2_with fail
            refine CN.out.mono ?_
            rintro e x8 ⟨rfl, f8⟩
            refine ⟨rfl, ?_⟩
            rw [HRE.out]
            exact ⟨rfl, f8⟩
          | ok st3 =>
            have HRE : Hid (pNodeF s (f + 1) up depth st = pEnd s st3 93) := HPB.out _ hp
            rw [hp] at CN
            clear hp HPB
            go_wp2_with fail
            refine CN.out.mono ?_
            rintro e x8 ⟨rfl, h8⟩
            have CX : Hid (Calls Tryz.prog 76 #[.pointer (some ⟨rb, 0, none⟩), .int .u8 93] x8 fun e w' => NdOut w0 w' e rb ab B E s (pEnd s st3 93)) := mem_expect 93 h8 (by omega) (by omega)
            obtain ⟨R, hR⟩ : ∃ z, pEnd s st3 93 = z := ⟨_, rfl⟩
            rw [hR] at CX HRE
            clear h8 CN hR
            go_wp2_with fail
            refine CX.out.mono ?_
            cases R with
            | error b =>
              rintro e x9 ⟨rfl, f9⟩
              refine ⟨rfl, ?_⟩
              rw [HRE.out]
              exact ⟨rfl, f9⟩
            | ok st4 =>
              rintro e x9 ⟨rfl, h9⟩
              have HM9 : Hid (Mem w0 x9 rb ab B E s st4) := h9
              clear h9 CX
              go_wp2
              go_end0
              show NdOut _ _ _ _ _ _ _ _ _
              rw [HRE.out]
              exact ⟨rfl, HM9.out⟩
        · have CX : Hid (Calls Tryz.prog 76 #[.pointer (some ⟨rb, 0, none⟩), .int .u8 91] w6 fun e w' => NdOut w0 w' e rb ab B E s (pEnd s st1 91)) := mem_expect 91 HM6.out (by omega) (by omega)
          have e1 : pEnd s st1 91 = .error (sk s st1.i) := by unfold pEnd; rw [if_neg hb]
          rw [e1] at CX
          have HRE : Hid (pNodeF s (f + 1) up depth st = .error (sk s st1.i)) := by
            show _ = _
            rw [HP3.out]
            show pOne s (pNodeF s f (idx : Int) (depth + 1)) st1 = _
            unfold pOne
            rw [if_neg hb]
          clear e1 hb CL HP3
          go_wp2_with fail
          refine CX.out.mono ?_
          rintro e x7 ⟨rfl, f7⟩
          refine ⟨rfl, ?_⟩
          rw [HRE.out]
          exact ⟨rfl, f7⟩
      · by_cases hb : isAt s st1.i 91 = true
        · have CX : Hid (Calls Tryz.prog 76 #[.pointer (some ⟨rb, 0, none⟩), .int .u8 91] w6 fun e w' => NdOut w0 w' e rb ab B E s (pEnd s st1 91)) := mem_expect 91 HM6.out (by omega) (by omega)
          have e1 : pEnd s st1 91 = .ok { st1 with i := gotI s st1.i 91 } := by unfold pEnd; rw [if_pos hb]
          rw [e1] at CX
          obtain ⟨st2, hst2⟩ : ∃ z : PS, { st1 with i := gotI s st1.i 91 } = z := ⟨_, rfl⟩
          have z1 : st1.i ≤ st2.i := by rw [← hst2]; exact gotI_ge _ _ _
          have z2 : st2.L.length = st1.L.length := by rw [← hst2]
          rw [hst2] at CX
          have HPB : Hid (∀ r, pNodeF s f (idx : Int) (depth + 1) st2 = r → pNodeF s (f + 1) up depth st = pThen r fun st3 => pEnd s st3 93) := fun r hr => by
            rw [HP3.out]
            show pOne s (pNodeF s f (idx : Int) (depth + 1)) st1 = _
            unfold pOne
            rw [if_pos hb, hst2, hr]
          clear e1 hst2 hb CL HP3
          go_wp2_with fail
          refine CX.out.mono ?_
          rintro e x7 ⟨rfl, h7⟩
          have CN : Hid (Calls Tryz.prog 43 #[.pointer (some ⟨rb, 0, none⟩), .int .i64 (idx : Int), .int .i64 ((depth : Int) + 1)] x7 fun e w' => NdOut w0 w' e rb ab B E s (pNodeF s f (idx : Int) (depth + 1) st2)) := by
            have := HNC.out (idx : Int) (depth + 1) st2 w0 x7 h7 (.inr ⟨by omega, by omega⟩) (by omega) (by omega)
            rw [hdi] at this
            exact this
          clear h7 CX
          cases hp : pNodeF s f (idx : Int) (depth + 1) st2 with
          | error b =>
            have HRE : Hid (pNodeF s (f + 1) up depth st = .error b) := HPB.out _ hp
            rw [hp] at CN
            clear hp HPB
            go_wp2_with fail
            refine CN.out.mono ?_
            rintro e x8 ⟨rfl, f8⟩
            refine ⟨rfl, ?_⟩
            rw [HRE.out]
            exact ⟨rfl, f8⟩
          | ok st3 =>
            have HRE : Hid (pNodeF s (f + 1) up depth st = pEnd s st3 93) := HPB.out _ hp
            rw [hp] at CN
            clear hp HPB
            go_wp2_with fail
            refine CN.out.mono ?_
            rintro e x8 ⟨rfl, h8⟩
            have CX : Hid (Calls Tryz.prog 76 #[.pointer (some ⟨rb, 0, none⟩), .int .u8 93] x8 fun e w' => NdOut w0 w' e rb ab B E s (pEnd s st3 93)) := mem_expect 93 h8 (by omega) (by omega)
            obtain ⟨R, hR⟩ : ∃ z, pEnd s st3 93 = z := ⟨_, rfl⟩
            rw [hR] at CX HRE
            clear h8 CN hR
            go_wp2_with fail
            refine CX.out.mono ?_
            cases R with
            | error b =>
              rintro e x9 ⟨rfl, f9⟩
              refine ⟨rfl, ?_⟩
              rw [HRE.out]
              exact ⟨rfl, f9⟩
            | ok st4 =>
              rintro e x9 ⟨rfl, h9⟩
              have HM9 : Hid (Mem w0 x9 rb ab B E s st4) := h9
              clear h9 CX
              go_wp2
              go_end0
              show NdOut _ _ _ _ _ _ _ _ _
              rw [HRE.out]
              exact ⟨rfl, HM9.out⟩
        · have CX : Hid (Calls Tryz.prog 76 #[.pointer (some ⟨rb, 0, none⟩), .int .u8 91] w6 fun e w' => NdOut w0 w' e rb ab B E s (pEnd s st1 91)) := mem_expect 91 HM6.out (by omega) (by omega)
          have e1 : pEnd s st1 91 = .error (sk s st1.i) := by unfold pEnd; rw [if_neg hb]
          rw [e1] at CX
          have HRE : Hid (pNodeF s (f + 1) up depth st = .error (sk s st1.i)) := by
            show _ = _
            rw [HP3.out]
            show pOne s (pNodeF s f (idx : Int) (depth + 1)) st1 = _
            unfold pOne
            rw [if_neg hb]
          clear e1 hb CL HP3
          go_wp2_with fail
          refine CX.out.mono ?_
          rintro e x7 ⟨rfl, f7⟩
          refine ⟨rfl, ?_⟩
          rw [HRE.out]
          exact ⟨rfl, f7⟩
      · obtain ⟨env, kn, good, fr, nv, KV2, pr, pn⟩ := HM6.out
        obtain ⟨bl, cap, rfl, hBl, hbll, _, _⟩ := pn.nr.form (by omega)
        have HEV : Hid (Env w6 rb ab B E) := env
        have HPR : Hid (PR w6 rb s st1.i (.slice (some ⟨ab, 0, none⟩) 12 12) (.slice (some ⟨bl, 0, none⟩) st1.L.length cap) (fltV E st1.er)) := pr
        have HPN : Hid (PN w6 B (.slice (some ⟨bl, 0, none⟩) st1.L.length cap) st1.L KV2) := pn
        have CS : Hid (∀ W, PR W rb s st1.i (.slice (some ⟨ab, 0, none⟩) 12 12) (.slice (some ⟨bl, 0, none⟩) st1.L.length cap) (fltV E st1.er) → W.cell? ⟨8, 0, none⟩ = some (errV (E 2)) → Calls Tryz.prog 75 #[.pointer (some ⟨rb, 0, none⟩)] W fun e w' => SOut W w' e rb s (.slice (some ⟨ab, 0, none⟩) 12 12) (.slice (some ⟨bl, 0, none⟩) st1.L.length cap) (fltV E st1.er) (E 2) (quoR s st1.i)) := fun W h1 h2 => readString_any rb s st1.i _ _ _ (E 2) W h1 (by omega) good.il (by omega) h2
        have HG1 : Hid (Good s st1) := good
        clear env kn good fr pr pn CL
        cases hqq : quoR s st1.i with
        | error b =>
          have HRE : Hid (pNodeF s (f + 1) up depth st = .error b) := by
            show _ = _
            rw [HP3.out]
            show pText s idx st1 = _
            unfold pText
            rw [hqq]
          rw [hqq] at CS
          clear hqq HP3
          have c3 := HPR.out.c3
          have hix : (idx : Int) < (st1.L.length : Int) := by omega
          go_wp2_with fail
          go_region_dies
          all_goals
            refine (CS.out _ (HPR.out.drewN 1) HEV.out.g2).mono ?_
            rintro e x7 ⟨g7, rfl⟩
            refine ⟨rfl, ?_⟩
            rw [HRE.out]
            exact ⟨rfl, HM6.out.2.2.2.1.trans ((Fr.drewN B rb w6 1).trans (Fr.grown g7 HEV.out.le))⟩
        | ok r =>
          obtain ⟨i2, tt⟩ := r
          have HRE : Hid (pNodeF s (f + 1) up depth st = .ok { st1 with i := i2, L := withText st1.L idx tt }) := by
            show _ = _
            rw [HP3.out]
            show pText s idx st1 = _
            unfold pText
            rw [hqq]
          have HGT : Hid (Good s { st1 with i := i2, L := withText st1.L idx tt }) := (text_fwd (s := s) (idx := idx) HG1.out (by unfold pText; rw [hqq])).good
          rw [hqq] at CS
          clear hqq HP3
          have c3 := HPR.out.c3
          have hix : (idx : Int) < (st1.L.length : Int) := by omega
          have ce := HPN.out.nr.cells bl rfl idx kx1 13 _ (pn_text (HPN.out.len idx kx1))
          obtain ⟨ov, hov⟩ : ∃ z : ByteArray, ⟨(nth st1.L idx).text.toArray⟩ = z := ⟨_, rfl⟩
          rw [hov] at ce
          have cf : w6.frozen? ⟨bl, idx * 16 + 13, none⟩ = false := HPN.out.nr.frz rfl _
          have hbr : bl ≠ rb := by omega
          clear hov
          go_wp2_with fail
          go_region_with (first | (go_at_call 75; refine (CS.out _ (HPR.out.drewN 1) HEV.out.g2).mono ?_; rintro e x7 ⟨g7, rfl, h7⟩; have HR7 : Hid (PR x7 rb s i2 (.slice (some ⟨ab, 0, none⟩) 12 12) (.slice (some ⟨bl, 0, none⟩) st1.L.length cap) (fltV E st1.er)) := h7; have HG7 : Hid ((w6.drewN 1).grownBy x7 (some rb)) := g7; have k3 := h7.c3; have hb7 : x7.heap[bl]? = w6.heap[bl]? := g7.block bl hbll (by simpa using hbr); have kc : x7.cell? ⟨bl, idx * 16 + 13, none⟩ = some (.string ov) := (World.cell?_of_block hb7).trans ce; have kf : x7.frozen? ⟨bl, idx * 16 + 13, none⟩ = false := (World.frozen?_of_block hb7).trans cf; clear h7 g7))
          all_goals
            have HMT : Hid (Mem w0 (x7.setCell ⟨bl, idx * 16 + 13, none⟩ (.string ⟨tt.toArray⟩)) rb ab B E s { st1 with i := i2, L := withText st1.L idx tt }) := by
              have fr7 : Fr B rb w6 x7 := (Fr.drewN B rb w6 1).trans (Fr.grown HG7.out HEV.out.le)
              have fr8 : Fr B rb w6 (x7.setCell ⟨bl, idx * 16 + 13, none⟩ (.string ⟨tt.toArray⟩)) := fr7.trans (Fr.own (gr_set x7 bl _ _) (Nat.le_trans HEV.out.le fr7.size) (fun q e => by injection e with e; omega))
              have pn7 := (HPN.out.up (Up.drewN B w6 1)).up (Up.grown HG7.out hrB)
              have pn8 := pn7.setText kx1 tt
              have hwl : (withText st1.L idx tt).length = st1.L.length := by unfold withText; simp
              refine ⟨HEV.out.fr fr8, HM6.out.2.1.fr fr8 hrB hlo, HGT.out, HM6.out.2.2.2.1.trans fr8, .slice (some ⟨bl, 0, none⟩) st1.L.length cap, KV2, PR.far HR7.out (gr_set x7 bl _ _) (fun q e => by injection e with e; omega) hrB, ?_⟩
              exact pn8
            clear k3 hb7 kc kf HG7 HR7 ce cf c3
            go_wp2
            go_end0
            show NdOut _ _ _ _ _ _ _ _ _
            rw [HRE.out]
            exact ⟨rfl, HMT.out⟩
      · have HPB : Hid (pNodeF s (f + 1) up depth st = .ok st1) := by show _ = _; rw [HP3.out]; rfl
        clear CL HP3
        go_wp2
        go_end0
        show NdOut _ _ _ _ _ _ _ _ _
        rw [HPB.out]
        exact ⟨rfl, HM6.out⟩

end Go.Proofs.YtnkebfmlaliddaaGreatDoor
