/-
  The program's reader: readString, walked.
-/
import Derived.Test.YtepeepipgkejiadGreatDoorTStr
namespace Go.Proofs.YtepeepipgkejiadGreatDoor
open Go.RowKit
set_option linter.unusedVariables false

set_option maxRecDepth 100000 in
set_option maxHeartbeats 8000000 in
theorem readString_any (rb : Nat) (s : ByteArray) (i : Nat) (av nv fv : Value) (eb : Addr) (w : World) (h : PR w rb s i av nv fv) (hs : s.size ≤ 1073741824) (hi : i ≤ s.size) (hg : 8 ≠ rb) (he : w.cell? ⟨8, 0, none⟩ = some (errV eb)) :
    Calls Tryz.prog 71 #[.pointer (some ⟨rb, 0, none⟩)] w fun e w' => SOut w w' e rb s av nv fv eb (quoR s i) := by
  have HE : Hid (w.cell? ⟨8, 0, none⟩ = some (errV eb)) := he
  by_cases hat : isAt s i 34 = true
  · have CX : Hid (Calls Tryz.prog 72 #[.pointer (some ⟨rb, 0, none⟩), .int .u8 34] w fun e w' => e = .returned (.tuple #[]) ∧ PR w' rb s (gotI s i 34) av nv fv ∧ w.grownBy w' (some rb)) := expect_yes rb s i av nv fv 34 w h (by omega) hi (by omega) hat
    have hq : quoR s i = qF s (s.size + 2) (gotI s i 34) [] := by unfold quoR; rw [if_pos hat]
    have hgl : gotI s i 34 ≤ s.size := by
      unfold isAt at hat
      have h1 : bat s (sk s i) = 34 := by simpa using hat
      have h2 : sk s i < s.size := by
        by_cases hh : sk s i < s.size
        · exact hh
        · rw [bat_out hh] at h1; omega
      unfold gotI; rw [if_pos h1]; omega
    rw [hq]
    obtain ⟨j, hj⟩ : ∃ j, gotI s i 34 = j := ⟨_, rfl⟩
    rw [hj] at CX hgl ⊢
    obtain ⟨R, hR⟩ : ∃ R, qF s (s.size + 2) j [] = R := ⟨_, rfl⟩
    rw [hR]
    have HR0 : Hid (qF s (s.size + 2) j [] = R) := hR
    clear h he hat hq hj hR
    go_enter Tryz.func71, Tryz.ntmps71
    go_wp2_with fail
    refine CX.out.mono ?_
    rintro e w1 ⟨rfl, h1, g1⟩
    have hrl : rb < w1.heap.size := h1.lt
    have HR : Hid (PR w1 rb s j av nv fv) := h1
    have HG1 : Hid (w.grownBy w1 (some rb)) := g1
    clear h1 g1 CX
    go_wp2
    go_loopw [4] (fun _ wr => ∃ (p f : Nat) (acc : List UInt8), p ≤ s.size ∧ acc.length ≤ p ∧ s.size < f + p ∧ Hid (qF s f p acc = R) ∧ Hid (PR wr rb s p av nv fv) ∧ Hid (Lib.IsBuilderF 59 5 w1.heap.size w1.heap.size (Lib.byteCells acc) wr) ∧ Hid (w1.grownBy wr (some rb))) (fun _ wr => s.size - prI wr rb)
    case atStart => exact ⟨j, s.size + 2, [], hgl, Nat.zero_le _, by omega, HR0.out, HR.out.below ((Below.refl _ _).alloc (Nat.le_refl _) _), Lib.IsBuilderF.of (Lib.fresh_isBuilder 59 5 w1), gr_below ((Below.refl _ _).alloc (Nat.le_refl _) _)⟩
    case round =>
      obtain ⟨p, f0, acc, hp, hl, hf, HQ, HS, HB, HG⟩ := hrel
      obtain ⟨f, rfl⟩ : ∃ f, f0 = f + 1 := ⟨f0 - 1, by omega⟩
      have HEr : Hid (wr.cell? ⟨8, 0, none⟩ = some (errV eb)) := HG.out.cell (HG1.out.cell HE.out (by simpa using hg)) (by simpa using hg)
      have HRD : Hid (prI wr rb = p) := HS.out.prI
      by_cases hend : p = s.size
      · have CB : Hid (Calls Tryz.prog 92 #[.pointer (some ⟨rb, 0, none⟩)] wr fun e w' => e = .panicked [{ v := faultV (p : Int) (errV eb), recovered := false }] ∧ wr.grownBy w' (some rb)) := readByte_no rb s p av nv fv eb wr HS.out hend HEr.out
        have HRR : Hid (R = .error p) := by show _ = _; rw [← HQ.out]; exact qF_end (bat_out (by omega))
        go_wp2_with fail
        refine CB.out.mono ?_
        rintro e w2 ⟨rfl, g2⟩
        refine ⟨rfl, ?_⟩
        rw [HRR.out]
        exact ⟨gr_trans HG1.out (gr_trans HG.out g2), rfl⟩
      · have hlt : p < s.size := by omega
        have hbl := bat_lt hlt
        have CB : Hid (Calls Tryz.prog 92 #[.pointer (some ⟨rb, 0, none⟩)] wr fun e w' => e = .returned (.int .u8 (bat s p : Int)) ∧ PR w' rb s (p + 1) av nv fv ∧ wr.grownBy w' (some rb)) := readByte_yes rb s p av nv fv wr HS.out (by omega) hlt
        obtain ⟨x, hx⟩ : ∃ x, bat s p = x := ⟨_, rfl⟩
        have HX : Hid (bat s p = x) := hx
        rw [hx] at CB hbl
        clear hx
        by_cases h34 : x = 34
        · have HRR : Hid (R = .ok (p + 1, acc)) := by show _ = _; rw [← HQ.out]; exact qF_close (by rw [HX.out, h34])
          subst h34
          go_wp2_with fail
          refine CB.out.mono ?_
          rintro e w2 ⟨rfl, h2, g2⟩
          have HR2 : Hid (PR w2 rb s (p + 1) av nv fv) := h2
          have HG2 : Hid (w1.grownBy w2 (some rb)) := gr_trans HG.out g2
          have HB2 : Hid (Lib.IsBuilderF 59 5 w1.heap.size w1.heap.size (Lib.byteCells acc) w2) := isBuilt_grown HB.out g2 hrl
          clear h2 g2 CB
          go_wp2_with (go_at_call 25; refine (string_lib w1.heap.size w1.heap.size acc w2 HB2.out HG2.out.size).mono ?_; rintro e w3 ⟨rfl, hi3, hb3, hk3⟩)
          go_ret
          show SOut _ _ _ _ _ _ _ _ _ _
          rw [HRR.out]
          exact ⟨gr_trans HG1.out (gr_belowB HG2.out hb3), rfl, HR2.out.belowB hb3 hrl⟩
        · have e34 : ((x : Int) == 34) = false := by simp; omega
          by_cases h92 : x = 92
          · have HX92 : Hid (bat s p = 92) := by show _ = _; rw [HX.out, h92]
            subst h92
            clear h34
            have hac : (Lib.byteCells acc).length + 1 ≤ 140737488355328 := by simp [Lib.byteCells]; omega
            go_wp2_with fail
            refine CB.out.mono ?_
            rintro e w2 ⟨rfl, h2, g2⟩
            have HR2 : Hid (PR w2 rb s (p + 1) av nv fv) := h2
            have HG2 : Hid (w1.grownBy w2 (some rb)) := gr_trans HG.out g2
            have HB2 : Hid (Lib.IsBuilderF 59 5 w1.heap.size w1.heap.size (Lib.byteCells acc) w2) := isBuilt_grown HB.out g2 hrl
            have HE2 : Hid (w2.cell? ⟨8, 0, none⟩ = some (errV eb)) := g2.cell HEr.out (by simpa using hg)
            clear h2 g2 CB
            by_cases hend2 : p + 1 = s.size
            · have HRR : Hid (R = .error (p + 1)) := by
                show _ = _; rw [← HQ.out]
                exact qF_bad HX92.out (by rw [bat_out (by omega)]; rfl)
              go_wp2_with (go_at_call 93; refine (readEscaped_end rb s (p + 1) av nv fv eb w2 HR2.out hend2 HE2.out).mono ?_; rintro e w3 ⟨rfl, g3⟩)
              refine ⟨rfl, ?_⟩
              rw [HRR.out]
              exact ⟨gr_trans HG1.out (gr_trans HG2.out g3), by show Ending.panicked _ = Ending.panicked _; rw [hend2]⟩
            · cases hec : escB (bat s (p + 1)) with
              | none =>
                have HRR : Hid (R = .error (p + 1)) := by show _ = _; rw [← HQ.out]; exact qF_bad HX92.out hec
                go_wp2_with (go_at_call 93; refine (readEscaped_no rb s (p + 1) av nv fv eb w2 HR2.out (by omega) (by omega) hec hg HE2.out).mono ?_; rintro e w3 ⟨rfl, g3⟩)
                refine ⟨rfl, ?_⟩
                rw [HRR.out]
                exact ⟨gr_trans HG1.out (gr_trans HG2.out g3), rfl⟩
              | some c =>
                have hc256 : c < 256 := by
                  unfold escB at hec
                  split at hec
                  · cases hec; omega
                  · split at hec
                    · cases hec; omega
                    · split at hec
                      · cases hec; omega
                      · cases hec
                have HQ2 : Hid (qF s f (p + 2) (acc ++ [c.toUInt8]) = R) := by
                  show _ = _; rw [← qF_esc HX92.out hec]; exact HQ.out
                have CE : Hid (Calls Tryz.prog 93 #[.pointer (some ⟨rb, 0, none⟩)] w2 fun e w' => e = .returned (.int .u8 (c : Int)) ∧ PR w' rb s (p + 1 + 1) av nv fv ∧ w2.grownBy w' (some rb)) := readEscaped_yes rb s (p + 1) av nv fv w2 HR2.out (by omega) (by omega) c hec
                clear hec
                go_wp2_with fail
                refine CE.out.mono ?_
                rintro e w3 ⟨rfl, h3, g3⟩
                have HR3 : Hid (PR w3 rb s (p + 2) av nv fv) := h3
                have HG3 : Hid (w1.grownBy w3 (some rb)) := gr_trans HG2.out g3
                have HB3 : Hid (Lib.IsBuilderF 59 5 w1.heap.size w1.heap.size (Lib.byteCells acc) w3) := isBuilt_grown HB2.out g3 hrl
                clear h3 g3 CE
                go_wp2_with (go_at_call 85; refine (writeByte_lib w1.heap.size w1.heap.size (Lib.byteCells acc) (c : Int) w3 HB3.out hac HG3.out.size).mono ?_; rintro e w4 ⟨rfl, hi4, hb4, hk4⟩)
                have HR4 : Hid (PR w4 rb s (p + 2) av nv fv) := HR3.out.belowB hb4 hrl
                go_roundw
                case rel => exact ⟨p + 2, f, acc ++ [c.toUInt8], by omega, by simp; omega, by omega, HQ2.out, HR4.out, by show Lib.IsBuilderF _ _ _ _ _ _; rw [cells_more acc c hc256]; exact .inr hi4, gr_belowB HG3.out hb4⟩
                case measure => rw [HR4.out.prI, HRD.out]; omega
          · have e92 : ((x : Int) == 92) = false := by simp; omega
            have HQ2 : Hid (qF s f (p + 1) (acc ++ [x.toUInt8]) = R) := by
              show _ = _
              have := qF_byte (s := s) (f := f) (p := p) (acc := acc) (by rw [HX.out]; omega) (by rw [HX.out]; exact h34) (by rw [HX.out]; exact h92)
              rw [HX.out] at this
              rw [← this]; exact HQ.out
            have hac : (Lib.byteCells acc).length + 1 ≤ 140737488355328 := by simp [Lib.byteCells]; omega
            clear h34 h92
            go_wp2_with fail
            refine CB.out.mono ?_
            rintro e w2 ⟨rfl, h2, g2⟩
            have HR2 : Hid (PR w2 rb s (p + 1) av nv fv) := h2
            have HG2 : Hid (w1.grownBy w2 (some rb)) := gr_trans HG.out g2
            have HB2 : Hid (Lib.IsBuilderF 59 5 w1.heap.size w1.heap.size (Lib.byteCells acc) w2) := isBuilt_grown HB.out g2 hrl
            clear h2 g2 CB
            go_wp2_with (go_at_call 85; refine (writeByte_lib w1.heap.size w1.heap.size (Lib.byteCells acc) (x : Int) w2 HB2.out hac HG2.out.size).mono ?_; rintro e w3 ⟨rfl, hi3, hb3, hk3⟩)
            have HR3 : Hid (PR w3 rb s (p + 1) av nv fv) := HR2.out.belowB hb3 hrl
            go_roundw
            case rel => exact ⟨p + 1, f, acc ++ [x.toUInt8], by omega, by simp; omega, by omega, HQ2.out, HR3.out, by show Lib.IsBuilderF _ _ _ _ _ _; rw [cells_more acc x hbl]; exact .inr hi3, gr_belowB HG2.out hb3⟩
            case measure => rw [HR3.out.prI, HRD.out]; omega
  · have hat' : isAt s i 34 = false := by simpa using hat
    have CX : Hid (Calls Tryz.prog 72 #[.pointer (some ⟨rb, 0, none⟩), .int .u8 34] w fun e w' => e = .panicked [{ v := faultV (sk s i : Int) (errV eb), recovered := false }] ∧ w.grownBy w' (some rb)) := expect_no rb s i av nv fv eb 34 w h (by omega) hi (by omega) hat' hg he
    have HQ : Hid (quoR s i = .error (sk s i)) := by show _ = _; unfold quoR; rw [if_neg hat]
    clear h he hat hat'
    go_enter Tryz.func71, Tryz.ntmps71
    go_wp2_with fail
    refine CX.out.mono ?_
    rintro e w1 ⟨rfl, g1⟩
    refine ⟨rfl, ?_⟩
    rw [HQ.out]
    exact ⟨g1, rfl⟩

end Go.Proofs.YtepeepipgkejiadGreatDoor
