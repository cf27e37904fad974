/-
  paneref.Whole.
-/
import Derived.Test.YtkdajaphbmclkaaGreatDoorX14
import Derived.Test.YtkdajaphbmclkaaGreatDoorX11
import Derived.Test.YtkdajaphbmclkaaGreatDoorYSnd
namespace Go.Proofs.YtkdajaphbmclkaaGreatDoor
open Go.RowKit Go.Sort
set_option linter.unusedVariables false

theorem rows_iff {C : Nat → Ce} {W H : Nat} (hW : 1 ≤ W) : (∀ y, y < H → RowOk C (y * W) (y * W + W)) ↔ ∀ i, i < H * W → Ok1 C (i / W * W) (i / W * W + W) i := by
  constructor
  · intro h i hi
    have h1 : i / W < H := Nat.div_lt_of_lt_mul (by rw [Nat.mul_comm]; exact hi)
    have h2 := Nat.div_add_mod i W
    have h3 := Nat.mod_lt i (show 0 < W by omega)
    rw [Nat.mul_comm] at h2
    exact h (i / W) h1 i (by omega) (by omega)
  · intro h y hy i h1 h2
    have e : i / W = y := by
      obtain ⟨x, rfl⟩ : ∃ x, i = y * W + x := ⟨i - y * W, by omega⟩
      rw [Nat.mul_comm, Nat.mul_add_div (by omega), Nat.div_eq_of_lt (by omega), Nat.add_zero]
    have h3 : i < H * W := by
      have : (y + 1) * W ≤ H * W := Nat.mul_le_mul_right _ hy
      rw [Nat.add_mul, Nat.one_mul] at this
      omega
    have := h i h3
    rw [e] at this
    exact this

set_option maxRecDepth 100000 in
set_option maxHeartbeats 16000000 in
/-- One cell asked. -/
theorem whole_any (C : Nat → Ce) (v : Int) (p : Option Addr) (n cap : Nat) (hb : n ≤ 1048576) (w : World) (hC : n = 0 ∨ ∃ g off, p = some ⟨g, off, none⟩ ∧ CL w g off n C) (hs : ∀ i, i < n → (C i).t.size ≤ 1099511627776) :
    Calls Tryz.prog 4 #[.slice p n cap, .int .i64 v] w fun r w' => Tells w w' r (Scr C n v) := by
  have hmix : Tryz.prog.follows .mixedOrders = true := by kernel_rfl
  by_cases hv1 : v < 1
  · go_enter Tryz.func4, Tryz.ntmps4
    go_wp2
    go_ret
    exact ⟨false, rfl, ⟨fun h => (nomatch h), fun h => absurd h (not_scr (by omega))⟩, Below.refl _ _⟩
  by_cases hv2 : 400 < v
  · go_enter Tryz.func4, Tryz.ntmps4
    go_wp2
    go_ret
    exact ⟨false, rfl, ⟨fun h => (nomatch h), fun h => absurd h (not_scr (by omega))⟩, Below.refl _ _⟩
  by_cases hn0 : n = 0
  · subst hn0
    have HNS : Hid (¬ Scr C 0 v) := fun ⟨W, H, h1, h2, h3, h4, h5, h6, _⟩ => by
      have := h2.symm
      rcases Nat.mul_eq_zero.1 this with h | h <;> omega
    go_enter Tryz.func4, Tryz.ntmps4
    go_wp2
    go_ret
    exact ⟨false, rfl, ⟨fun h => (nomatch h), fun h => absurd h HNS.out⟩, Below.refl _ _⟩
  obtain ⟨W, rfl⟩ : ∃ W : Nat, v = (W : Int) := ⟨v.toNat, by omega⟩
  have hW0 : ¬ (W : Int) = 0 := by omega
  have hn0' : ((n : Int) == 0) = false := by simp; omega
  by_cases hr : n % W = 0
  · have hr' : ((n : Int) % (W : Int) != 0) = false := by
      have : (n : Int) % (W : Int) = ((n % W : Nat) : Int) := by omega
      rw [this, hr]; rfl
    obtain ⟨H, hH⟩ : ∃ H, n = H * W := ⟨n / W, by have := Nat.div_add_mod n W; rw [hr, Nat.mul_comm] at this; omega⟩
    have hq : (n : Int) / (W : Int) = (H : Int) := by
      rw [hH, Int.natCast_mul]
      exact Int.mul_ediv_cancel _ hW0
    have HSC : Hid (n = H * W) := hH
    have hHn : H ≤ n := by rw [hH]; exact Nat.le_mul_of_pos_right _ (by omega)
    have hH1 : 1 ≤ H := by
      rcases Nat.eq_zero_or_pos H with h | h
      · subst h; rw [Nat.zero_mul] at hH; exact absurd hH hn0
      · exact h
    have hq2 : wrap64 ((n : Int) / (W : Int)) = (H : Int) := by rw [hq]; unfold wrap64; omega
    by_cases hh : H ≤ 400
    · obtain ⟨gb, off, rfl, hCL⟩ : ∃ g off, p = some ⟨g, off, none⟩ ∧ CL w g off n C := by
        rcases hC with h | h
        · exact absurd h hn0
        · exact h
      have HC : Hid (CL w gb off n C) := hCL
      have HZ : Hid (∀ i, i < n → (C i).t.size ≤ 1099511627776) := hs
      have HSI : Hid (Scr C n (W : Int) ↔ ∀ i, i < n → Ok1 C (i / W * W) (i / W * W + W) i) := by show _ ↔ _; rw [hH]; exact (scr_iff (by omega) (by omega) hH1 hh).trans (rows_iff (by omega))
      have HDV : Hid (∀ i, i < n → i / W * W + i % W = i ∧ i % W < W ∧ i / W * W + W ≤ n) := fun i hi => by
        have h2 := Nat.div_add_mod i W
        rw [Nat.mul_comm] at h2
        have h1 : i / W < H := Nat.div_lt_of_lt_mul (by rw [Nat.mul_comm, ← hH]; exact hi)
        have h3 : (i / W + 1) * W ≤ H * W := Nat.mul_le_mul_right _ h1
        rw [Nat.add_mul, Nat.one_mul, ← hH] at h3
        exact ⟨h2, Nat.mod_lt _ (by omega), h3⟩
      have hh' : decide ((400 : Int) < (H : Int)) = false := decide_eq_false (by omega)
      clear hCL hC hs hr hH
      go_enter Tryz.func4, Tryz.ntmps4
      go_wp2
      go_loopw [5] (fun iv wr => ∃ i : Nat, i ≤ n ∧ iv = .int .i64 (i : Int) ∧ Hid (∀ j, j < i → Ok1 C (j / W * W) (j / W * W + W) j) ∧ Hid (Below w.heap.size w wr)) (fun iv _ => n - (intOf iv).toNat)
      case atStart => exact ⟨0, Nat.zero_le _, rfl, fun j h => absurd h (by omega), Below.refl _ _⟩
      case round =>
        obtain ⟨i, hin, rfl, HA, HB⟩ := hrel
        by_cases hlt : i < n
        · have hlt' : (i : Int) < (n : Int) := by omega
          obtain ⟨hd1, hd2, hd3⟩ := HDV.out i hlt
          have V := HC.out.below HB.out
          obtain ⟨e, he⟩ : ∃ e, C i = e := ⟨_, rfl⟩
          have hC1 : ∀ (k : Nat) u, (c5 e)[k]? = some u → wr.cell? ⟨gb, off + i * 5 + k, none⟩ = some u := fun k u h => V.cell i hlt k u (by rw [he]; exact h)
          obtain ⟨t, f, g, b, q⟩ := e
          have d0 : wr.cell? ⟨gb, off + i * 5, none⟩ = some (.string t) := hC1 0 _ rfl
          have d1 := hC1 1 (.int .i64 f) rfl
          have d2 := hC1 2 (.int .i64 g) rfl
          have d3 := hC1 3 (.int .i64 b) rfl
          have d4 := hC1 4 (.int .i64 q) rfl
          have HE : Hid (C i = ⟨t, f, g, b, q⟩) := he
          clear he hC1 V
          go_wp2_with fail
          obtain ⟨W0, hW0⟩ : ∃ z, wr.alloc (.cells #[.string t, .int .i64 f, .int .i64 g, .int .i64 b, .int .i64 q] 40) = z := ⟨_, rfl⟩
          obtain ⟨S, hS⟩ : ∃ z, wr.heap.size = z := ⟨_, rfl⟩
          have G0 : Hid (Gr wr W0) := by rw [← hW0]; exact (Gr.refl wr).alloc _
          have R0 : Hid (R5 40 W0 S ⟨t, f, g, b, q⟩) := by rw [← hW0, ← hS]; exact R5.new wr ⟨t, f, g, b, q⟩ _
          have HB0 : Hid (Below w.heap.size w W0) := HB.out.trans (G0.out.below.mono HB.out.size)
          have hsz : t.size ≤ 1099511627776 := by have := HZ.out i hlt; rw [HE.out] at this; exact this
          rw [hW0, hS]
          clear hW0 hS d0 d1 d2 d3 d4
          have SD : Hid (∀ w, Calls Tryz.prog 12 #[.agg #[.int .i64 f, .int .i64 g, .int .i64 b]] w fun e w' => e = .returned (.agg #[.int .i64 (kn f), .int .i64 (kn g), .int .i64 (bo b)]) ∧ Gr w w') := fun w => sound_any f g b w
          have qa0 := cell_grown R0.out.lt R0.out.c0
          have qa1 := cell_grown R0.out.lt R0.out.c1
          have qa2 := cell_grown R0.out.lt R0.out.c2
          have qa3 := cell_grown R0.out.lt R0.out.c3
          have qa4 := cell_grown R0.out.lt R0.out.c4
          obtain ⟨f2, hf2⟩ : ∃ z, kn f = z := ⟨_, rfl⟩
          obtain ⟨g2, hg2⟩ : ∃ z, kn g = z := ⟨_, rfl⟩
          obtain ⟨b2, hb2⟩ : ∃ z, bo b = z := ⟨_, rfl⟩
          rw [hf2, hg2, hb2] at SD
          by_cases k1 : f = f2
          · subst k1
            by_cases k2 : g = g2
            · subst k2
              by_cases k3 : b = b2
              · subst k3
                have HST : Hid (Sty (C i)) := by show Sty _; rw [HE.out]; exact ⟨hf2, hg2, hb2⟩
                clear hf2 hg2 hb2
                by_cases l0 : q < 0
                · have l0' : decide (q < 0) = true := decide_eq_true l0
                  go_quiet_grown (first | (go_at_call 12; exact Calls.grown_of (SD.out _)))
                  go_wp2
                  go_ret
                  exact ⟨false, rfl, ⟨fun h => (nomatch h), fun h => absurd (HSI.out.1 h i hlt) (fun ok => by have h0 := ok.part; rw [HE.out] at h0; simp only at h0; omega)⟩, (HB0.out.trans ((Gr.below ⟨nq, osq, rfl⟩).mono HB0.out.size))⟩
                by_cases l2 : 2 < q
                · have l0' : decide (q < 0) = false := decide_eq_false l0
                  have l2' : decide (2 < q) = true := decide_eq_true l2
                  go_quiet_grown (first | (go_at_call 12; exact Calls.grown_of (SD.out _)))
                  go_wp2
                  go_ret
                  exact ⟨false, rfl, ⟨fun h => (nomatch h), fun h => absurd (HSI.out.1 h i hlt) (fun ok => by have h0 := ok.part; rw [HE.out] at h0; simp only at h0; omega)⟩, (HB0.out.trans ((Gr.below ⟨nq, osq, rfl⟩).mono HB0.out.size))⟩
                have hq012 : q = 0 ∨ q = 1 ∨ q = 2 := by omega
                clear l0 l2
                rcases hq012 with rfl | rfl | rfl
                · -- a narrow cell
                  go_quiet_grown (first | (go_at_call 12; exact Calls.grown_of (SD.out _)))
                  have HB1 : Hid (Below w.heap.size w (grow (W0.drewN nq) osq)) := HB0.out.trans ((Gr.below ⟨nq, osq, rfl⟩).mono HB0.out.size)
                  have R1 : Hid (R5 40 (grow (W0.drewN nq) osq) S ⟨t, f, g, b, 0⟩) := R0.out.gr ⟨nq, osq, rfl⟩
                  obtain ⟨W1, hW1⟩ : ∃ z, grow (W0.drewN nq) osq = z := ⟨_, rfl⟩
                  rw [hW1] at HB1 R1
                  rw [hW1]
                  have c0 := R1.out.c0
                  have c1 := R1.out.c1
                  have c2 := R1.out.c2
                  have c3 := R1.out.c3
                  have c4 := R1.out.c4
                  clear hW1 qa0 qa1 qa2 qa3 qa4
                  go_wp2_with fail
                  go_quiet (fail)
                  have HBG : Hid (Below w.heap.size w (W1.drewN nq)) := HB1.out.trans ((Gr.below ((Gr.refl _).drewN _)).mono HB1.out.size)
                  have RG : Hid (R5 40 (W1.drewN nq) S ⟨t, f, g, b, 0⟩) := R1.out.gr ((Gr.refl _).drewN _)
                  obtain ⟨W2, hW2⟩ : ∃ z, W1.drewN nq = z := ⟨_, rfl⟩
                  rw [hW2] at HBG RG
                  rw [hW2]
                  clear hW2
                  clear c0 c1 c2 c3 c4
                  have c0 := RG.out.c0
                  have c4 := RG.out.c4
                  have c0 := RG.out.c0
                  have c4 := RG.out.c4
                  have CG : Hid (Calls Tryz.prog 13 #[.string t] W2 fun e w' => ∃ v, e = .returned v ∧ w'.ownsRow W2.heap.size 45 2 v (clus (runes t.data.toList)).length (cCells (clus (runes t.data.toList))) ∧ Below W2.heap.size W2 w') := rClusters_any t W2 hsz
                  obtain ⟨K, hK⟩ : ∃ K, clus (runes t.data.toList) = K := ⟨_, rfl⟩
                  have HTX : Hid (Txt (C i) 1 ↔ K = [(t.data.toList, 1)]) := by show _ ↔ _; unfold Txt; rw [HE.out, hK]
                  rw [hK] at CG
                  clear hK
                  go_wp2_with fail
                  refine CG.out.mono ?_
                  rintro e w3 ⟨cv, rfl, hcv, b3⟩
                  have HB1 : Hid (Below w.heap.size w w3) := HBG.out.trans (b3.mono HBG.out.size)
                  have R3' : Hid (R5 40 w3 S ⟨t, f, g, b, 0⟩) := (b3.block _ RG.out.lt).trans RG.out
                  have z0 := R3'.out.c0
                  have z4 := R3'.out.c4
                  clear b3 CG c0 c4
                  obtain ⟨m, hm⟩ : ∃ m, K.length = m := ⟨_, rfl⟩
                  by_cases h1m : m = 1
                  · have hK1 : ∃ ct cw, K = [(ct, cw)] := by
                      rcases K with _ | ⟨⟨ct, cw⟩, _ | ⟨c2, K⟩⟩
                      · simp at hm; omega
                      · exact ⟨ct, cw, rfl⟩
                      · simp at hm; omega
                    obtain ⟨ct, cw, rfl⟩ := hK1
                    clear hm h1m
                    obtain ⟨g1, c1, rfl, _⟩ : ∃ g1 c1, cv = .slice (some ⟨g1, 0, none⟩) 1 c1 ∧ True := by
                      rcases hcv.2 with ⟨_, h⟩ | ⟨g1, c1, cur, e, _⟩
                      · cases h
                      · exact ⟨g1, c1, e, trivial⟩
                    have y0 : w3.cell? ⟨g1, 0, none⟩ = some (.string ⟨ct.toArray⟩) := hcv.cellAt 0 (by decide)
                    have y1 : w3.cell? ⟨g1, 1, none⟩ = some (.int .i64 cw) := hcv.cellAt 1 (by decide)
                    clear hcv
                    by_cases hct : (⟨ct.toArray⟩ : ByteArray) = t
                    · have HCE : Hid (ct = t.data.toList) := by show _ = _; rw [← hct]
                      rw [hct] at y0
                      clear hct
                      by_cases hcw : cw = 1
                      · subst hcw
                        have HOK : Hid (Ok1 C (i / W * W) (i / W * W + W) i) := ⟨HST.out, .inl (by rw [HE.out]), fun k => (by rw [HE.out] at k; cases k), fun k => (by rw [HE.out] at k; cases k), fun _ => by rw [HE.out]; have := HTX.out.2 (by rw [HCE.out]); rw [HE.out] at this; exact this⟩
                        clear HTX HE
                        go_wp2_with fail
                        go_quiet (fail)
                        go_wp2
                        go_roundw
                        case rel => exact ⟨i + 1, by omega, by go_num, fun j hj => (by
                          by_cases e : j = i
                          · subst e; exact HOK.out
                          · exact HA.out j (by omega)), (HB1.out.trans ((Gr.below ((Gr.refl _).drewN _)).mono HB1.out.size))⟩
                        case measure => simp [intOf]; omega
                      · have e5 : (cw != 1) = true := by simpa using hcw
                        go_wp2_with fail
                        go_quiet (fail)
                        go_wp2
                        go_ret
                        exact ⟨false, rfl, ⟨fun h => (nomatch h), fun h => absurd (HSI.out.1 h i hlt) (fun ok => by have h0 := ok.text (by rw [HE.out]; simp); rw [HE.out] at h0; have := HTX.out.1 (by rw [HE.out]; exact h0); injection this with this; injection this with _ this; exact absurd this hcw)⟩, (HB1.out.trans ((Gr.below ((Gr.refl _).drewN _)).mono HB1.out.size))⟩
                    · have HCT : Hid (K0 ct t) := hct
                      obtain ⟨cb, hcb⟩ : ∃ z, (⟨ct.toArray⟩ : ByteArray) = z := ⟨_, rfl⟩
                      rw [hcb] at hct y0
                      have e5 : (cb.toList == t.toList) = false := str_ne hct
                      have e6 : (cb.toList != t.toList) = true := by unfold bne; rw [e5]; rfl
                      clear hcb
                      go_wp2_with fail
                      go_quiet (fail)
                      go_wp2
                      go_ret
                      exact ⟨false, rfl, ⟨fun h => (nomatch h), fun h => absurd (HSI.out.1 h i hlt) (fun ok => by have h0 := ok.text (by rw [HE.out]; simp); rw [HE.out] at h0; have := HTX.out.1 (by rw [HE.out]; exact h0); injection this with this; injection this with this _; exact absurd (by rw [this]) HCT.out)⟩, (HB1.out.trans ((Gr.below ((Gr.refl _).drewN _)).mono HB1.out.size))⟩
                  · obtain ⟨p1, c1, rfl⟩ : ∃ p c, cv = .slice p m c := by rw [← hm]; exact own_slice hcv
                    have HNK : Hid (∀ x, K ≠ [x]) := fun x hx => h1m (by rw [← hm, hx]; rfl)
                    have e5 : ((m : Int) != 1) = true := by simp; omega
                    clear hcv hm
                    go_wp2_with fail
                    go_quiet (fail)
                    go_wp2
                    go_ret
                    exact ⟨false, rfl, ⟨fun h => (nomatch h), fun h => absurd (HSI.out.1 h i hlt) (fun ok => by have h0 := ok.text (by rw [HE.out]; simp); rw [HE.out] at h0; exact absurd (HTX.out.1 (by rw [HE.out]; exact h0)) (HNK.out _))⟩, (HB1.out.trans ((Gr.below ((Gr.refl _).drewN _)).mono HB1.out.size))⟩
                · -- a head
                  by_cases j1 : i % W = W - 1
                  · have j1' : ((i : Int) % (W : Int) == (W : Int) - 1) = true := by
                      have : (i : Int) % (W : Int) = ((i % W : Nat) : Int) := by omega
                      rw [this, j1]; simp; omega
                    go_quiet_grown (first | (go_at_call 12; exact Calls.grown_of (SD.out _)))
                    have HB1 : Hid (Below w.heap.size w (grow (W0.drewN nq) osq)) := HB0.out.trans ((Gr.below ⟨nq, osq, rfl⟩).mono HB0.out.size)
                    have R1 : Hid (R5 40 (grow (W0.drewN nq) osq) S ⟨t, f, g, b, 1⟩) := R0.out.gr ⟨nq, osq, rfl⟩
                    obtain ⟨W1, hW1⟩ : ∃ z, grow (W0.drewN nq) osq = z := ⟨_, rfl⟩
                    rw [hW1] at HB1 R1
                    rw [hW1]
                    have c0 := R1.out.c0
                    have c1 := R1.out.c1
                    have c2 := R1.out.c2
                    have c3 := R1.out.c3
                    have c4 := R1.out.c4
                    clear hW1 qa0 qa1 qa2 qa3 qa4
                    go_wp2_with fail
                    go_quiet (fail)
                    go_wp2
                    go_ret
                    exact ⟨false, rfl, ⟨fun h => (nomatch h), fun h => absurd (HSI.out.1 h i hlt) (fun ok => by have h0 := (ok.head (by rw [HE.out])).1; omega)⟩, (HB1.out.trans ((Gr.below ((Gr.refl _).drewN _)).mono HB1.out.size))⟩
                  · have j1' : ((i : Int) % (W : Int) == (W : Int) - 1) = false := by
                      have : (i : Int) % (W : Int) = ((i % W : Nat) : Int) := by omega
                      rw [this]; simp; omega
                    have hi1 : i + 1 < n := by omega
                    have hi1' : (i : Int) + 1 < (n : Int) := by omega
                    obtain ⟨e, he⟩ : ∃ e, C (i + 1) = e := ⟨_, rfl⟩
                    obtain ⟨t1, f1, g1, b1, q1⟩ := e
                    have HE1 : Hid (C (i + 1) = ⟨t1, f1, g1, b1, q1⟩) := he
                    clear he
                    go_quiet_grown (first | (go_at_call 12; exact Calls.grown_of (SD.out _)))
                    have HB1 : Hid (Below w.heap.size w (grow (W0.drewN nq) osq)) := HB0.out.trans ((Gr.below ⟨nq, osq, rfl⟩).mono HB0.out.size)
                    have R1 : Hid (R5 40 (grow (W0.drewN nq) osq) S ⟨t, f, g, b, 1⟩) := R0.out.gr ⟨nq, osq, rfl⟩
                    obtain ⟨W1, hW1⟩ : ∃ z, grow (W0.drewN nq) osq = z := ⟨_, rfl⟩
                    rw [hW1] at HB1 R1
                    rw [hW1]
                    have c0 := R1.out.c0
                    have c1 := R1.out.c1
                    have c2 := R1.out.c2
                    have c3 := R1.out.c3
                    have c4 := R1.out.c4
                    clear hW1 qa0 qa1 qa2 qa3 qa4
                    go_wp2_with fail
                    have V := HC.out.below HB1.out
                    have hC1 : ∀ (k : Nat) u, (c5 ⟨t1, f1, g1, b1, q1⟩)[k]? = some u → W1.cell? ⟨gb, off + (i + 1) * 5 + k, none⟩ = some u := fun k u h => V.cell (i + 1) hi1 k u (by rw [HE1.out]; exact h)
                    have d1 := hC1 1 (.int .i64 f1) rfl
                    have d2 := hC1 2 (.int .i64 g1) rfl
                    have d3 := hC1 3 (.int .i64 b1) rfl
                    have d4 := hC1 4 (.int .i64 q1) rfl
                    clear hC1 V
                    by_cases j2 : q1 = 2
                    · subst j2
                      by_cases m1 : f1 = f
                      · subst m1
                        by_cases m2 : g1 = g
                        · subst m2
                          by_cases m3 : b1 = b
                          · subst m3
                            go_quiet (fail)
                            have HBG : Hid (Below w.heap.size w (W1.drewN nq)) := HB1.out.trans ((Gr.below ((Gr.refl _).drewN _)).mono HB1.out.size)
                            have RG : Hid (R5 40 (W1.drewN nq) S ⟨t, f1, g1, b1, 1⟩) := R1.out.gr ((Gr.refl _).drewN _)
                            obtain ⟨W2, hW2⟩ : ∃ z, W1.drewN nq = z := ⟨_, rfl⟩
                            rw [hW2] at HBG RG
                            rw [hW2]
                            clear hW2
                            clear c0 c1 c2 c3 c4 d1 d2 d3 d4
                            have c0 := RG.out.c0
                            have c4 := RG.out.c4
                            have c0 := RG.out.c0
                            have c4 := RG.out.c4
                            have CG : Hid (Calls Tryz.prog 13 #[.string t] W2 fun e w' => ∃ v, e = .returned v ∧ w'.ownsRow W2.heap.size 45 2 v (clus (runes t.data.toList)).length (cCells (clus (runes t.data.toList))) ∧ Below W2.heap.size W2 w') := rClusters_any t W2 hsz
                            obtain ⟨K, hK⟩ : ∃ K, clus (runes t.data.toList) = K := ⟨_, rfl⟩
                            have HTX : Hid (Txt (C i) 2 ↔ K = [(t.data.toList, 2)]) := by show _ ↔ _; unfold Txt; rw [HE.out, hK]
                            rw [hK] at CG
                            clear hK
                            go_wp2_with fail
                            refine CG.out.mono ?_
                            rintro e w3 ⟨cv, rfl, hcv, b3⟩
                            have HB1 : Hid (Below w.heap.size w w3) := HBG.out.trans (b3.mono HBG.out.size)
                            have R3' : Hid (R5 40 w3 S ⟨t, f1, g1, b1, 1⟩) := (b3.block _ RG.out.lt).trans RG.out
                            have z0 := R3'.out.c0
                            have z4 := R3'.out.c4
                            clear b3 CG c0 c4
                            obtain ⟨m, hm⟩ : ∃ m, K.length = m := ⟨_, rfl⟩
                            by_cases h1m : m = 1
                            · have hK1 : ∃ ct cw, K = [(ct, cw)] := by
                                rcases K with _ | ⟨⟨ct, cw⟩, _ | ⟨c2, K⟩⟩
                                · simp at hm; omega
                                · exact ⟨ct, cw, rfl⟩
                                · simp at hm; omega
                              obtain ⟨ct, cw, rfl⟩ := hK1
                              clear hm h1m
                              obtain ⟨g1, c1, rfl, _⟩ : ∃ g1 c1, cv = .slice (some ⟨g1, 0, none⟩) 1 c1 ∧ True := by
                                rcases hcv.2 with ⟨_, h⟩ | ⟨g1, c1, cur, e, _⟩
                                · cases h
                                · exact ⟨g1, c1, e, trivial⟩
                              have y0 : w3.cell? ⟨g1, 0, none⟩ = some (.string ⟨ct.toArray⟩) := hcv.cellAt 0 (by decide)
                              have y1 : w3.cell? ⟨g1, 1, none⟩ = some (.int .i64 cw) := hcv.cellAt 1 (by decide)
                              clear hcv
                              by_cases hct : (⟨ct.toArray⟩ : ByteArray) = t
                              · have HCE : Hid (ct = t.data.toList) := by show _ = _; rw [← hct]
                                rw [hct] at y0
                                clear hct
                                by_cases hcw : cw = 2
                                · subst hcw
                                  have HOK : Hid (Ok1 C (i / W * W) (i / W * W + W) i) := ⟨HST.out, .inr (.inl (by rw [HE.out])), fun _ => ⟨by omega, by rw [HE1.out], by rw [HE1.out, HE.out], by rw [HE1.out, HE.out], by rw [HE1.out, HE.out]⟩, fun k => (by rw [HE.out] at k; cases k), fun _ => by rw [HE.out]; have := HTX.out.2 (by rw [HCE.out]); rw [HE.out] at this; exact this⟩
                                  clear HTX HE
                                  go_wp2_with fail
                                  go_quiet (fail)
                                  go_wp2
                                  go_roundw
                                  case rel => exact ⟨i + 1, by omega, by go_num, fun j hj => (by
                                    by_cases e : j = i
                                    · subst e; exact HOK.out
                                    · exact HA.out j (by omega)), (HB1.out.trans ((Gr.below ((Gr.refl _).drewN _)).mono HB1.out.size))⟩
                                  case measure => simp [intOf]; omega
                                · have e5 : (cw != 2) = true := by simpa using hcw
                                  go_wp2_with fail
                                  go_quiet (fail)
                                  go_wp2
                                  go_ret
                                  exact ⟨false, rfl, ⟨fun h => (nomatch h), fun h => absurd (HSI.out.1 h i hlt) (fun ok => by have h0 := ok.text (by rw [HE.out]; simp); rw [HE.out] at h0; have := HTX.out.1 (by rw [HE.out]; exact h0); injection this with this; injection this with _ this; exact absurd this hcw)⟩, (HB1.out.trans ((Gr.below ((Gr.refl _).drewN _)).mono HB1.out.size))⟩
                              · have HCT : Hid (K0 ct t) := hct
                                obtain ⟨cb, hcb⟩ : ∃ z, (⟨ct.toArray⟩ : ByteArray) = z := ⟨_, rfl⟩
                                rw [hcb] at hct y0
                                have e5 : (cb.toList == t.toList) = false := str_ne hct
                                have e6 : (cb.toList != t.toList) = true := by unfold bne; rw [e5]; rfl
                                clear hcb
                                go_wp2_with fail
                                go_quiet (fail)
                                go_wp2
                                go_ret
                                exact ⟨false, rfl, ⟨fun h => (nomatch h), fun h => absurd (HSI.out.1 h i hlt) (fun ok => by have h0 := ok.text (by rw [HE.out]; simp); rw [HE.out] at h0; have := HTX.out.1 (by rw [HE.out]; exact h0); injection this with this; injection this with this _; exact absurd (by rw [this]) HCT.out)⟩, (HB1.out.trans ((Gr.below ((Gr.refl _).drewN _)).mono HB1.out.size))⟩
                            · obtain ⟨p1, c1, rfl⟩ : ∃ p c, cv = .slice p m c := by rw [← hm]; exact own_slice hcv
                              have HNK : Hid (∀ x, K ≠ [x]) := fun x hx => h1m (by rw [← hm, hx]; rfl)
                              have e5 : ((m : Int) != 1) = true := by simp; omega
                              clear hcv hm
                              go_wp2_with fail
                              go_quiet (fail)
                              go_wp2
                              go_ret
                              exact ⟨false, rfl, ⟨fun h => (nomatch h), fun h => absurd (HSI.out.1 h i hlt) (fun ok => by have h0 := ok.text (by rw [HE.out]; simp); rw [HE.out] at h0; exact absurd (HTX.out.1 (by rw [HE.out]; exact h0)) (HNK.out _))⟩, (HB1.out.trans ((Gr.below ((Gr.refl _).drewN _)).mono HB1.out.size))⟩
                          · have e5 : (b1 == b) = false := by simpa using m3
                            go_quiet (fail)
                            go_wp2
                            go_ret
                            exact ⟨false, rfl, ⟨fun h => (nomatch h), fun h => absurd (HSI.out.1 h i hlt) (fun ok => by have h0 := (ok.head (by rw [HE.out])).2.2.2.2; rw [HE1.out, HE.out] at h0; exact m3 h0)⟩, (HB1.out.trans ((Gr.below ((Gr.refl _).drewN _)).mono HB1.out.size))⟩
                        · have e5 : (g1 == g) = false := by simpa using m2
                          go_quiet (fail)
                          go_wp2
                          go_ret
                          exact ⟨false, rfl, ⟨fun h => (nomatch h), fun h => absurd (HSI.out.1 h i hlt) (fun ok => by have h0 := (ok.head (by rw [HE.out])).2.2.2.1; rw [HE1.out, HE.out] at h0; exact m2 h0)⟩, (HB1.out.trans ((Gr.below ((Gr.refl _).drewN _)).mono HB1.out.size))⟩
                      · have e5 : (f1 == f) = false := by simpa using m1
                        go_quiet (fail)
                        go_wp2
                        go_ret
                        exact ⟨false, rfl, ⟨fun h => (nomatch h), fun h => absurd (HSI.out.1 h i hlt) (fun ok => by have h0 := (ok.head (by rw [HE.out])).2.2.1; rw [HE1.out, HE.out] at h0; exact m1 h0)⟩, (HB1.out.trans ((Gr.below ((Gr.refl _).drewN _)).mono HB1.out.size))⟩
                    · have e5 : (q1 != 2) = true := by simpa using j2
                      go_quiet (fail)
                      go_wp2
                      go_ret
                      exact ⟨false, rfl, ⟨fun h => (nomatch h), fun h => absurd (HSI.out.1 h i hlt) (fun ok => by have h0 := (ok.head (by rw [HE.out])).2.1; rw [HE1.out] at h0; exact j2 h0)⟩, (HB1.out.trans ((Gr.below ((Gr.refl _).drewN _)).mono HB1.out.size))⟩
                · -- a tail
                  go_quiet_grown (first | (go_at_call 12; exact Calls.grown_of (SD.out _)))
                  have HB1 : Hid (Below w.heap.size w (grow (W0.drewN nq) osq)) := HB0.out.trans ((Gr.below ⟨nq, osq, rfl⟩).mono HB0.out.size)
                  have R1 : Hid (R5 40 (grow (W0.drewN nq) osq) S ⟨t, f, g, b, 2⟩) := R0.out.gr ⟨nq, osq, rfl⟩
                  obtain ⟨W1, hW1⟩ : ∃ z, grow (W0.drewN nq) osq = z := ⟨_, rfl⟩
                  rw [hW1] at HB1 R1
                  rw [hW1]
                  have c0 := R1.out.c0
                  have c1 := R1.out.c1
                  have c2 := R1.out.c2
                  have c3 := R1.out.c3
                  have c4 := R1.out.c4
                  clear hW1 qa0 qa1 qa2 qa3 qa4
                  go_wp2_with fail
                  go_quiet (fail)
                  have HBG : Hid (Below w.heap.size w (W1.drewN nq)) := HB1.out.trans ((Gr.below ((Gr.refl _).drewN _)).mono HB1.out.size)
                  have RG : Hid (R5 40 (W1.drewN nq) S ⟨t, f, g, b, 2⟩) := R1.out.gr ((Gr.refl _).drewN _)
                  obtain ⟨W2, hW2⟩ : ∃ z, W1.drewN nq = z := ⟨_, rfl⟩
                  rw [hW2] at HBG RG
                  rw [hW2]
                  clear hW2
                  clear c0 c1 c2 c3 c4
                  have HB1 : Hid (Below w.heap.size w W2) := HBG.out
                  have c0 := RG.out.c0
                  have c4 := RG.out.c4
                  by_cases j1 : i % W = 0
                  · have j1' : ((i : Int) % (W : Int) == 0) = true := by
                      have : (i : Int) % (W : Int) = ((i % W : Nat) : Int) := by omega
                      rw [this, j1]; rfl
                    go_wp2
                    go_ret
                    exact ⟨false, rfl, ⟨fun h => (nomatch h), fun h => absurd (HSI.out.1 h i hlt) (fun ok => by have h0 := (ok.tail (by rw [HE.out])).1; omega)⟩, HB1.out⟩
                  · have j1' : ((i : Int) % (W : Int) == 0) = false := by
                      have : (i : Int) % (W : Int) = ((i % W : Nat) : Int) := by omega
                      rw [this]; simp; omega
                    have hi1 : i - 1 < n := by omega
                    have hi2 : (0 : Int) ≤ (i : Int) - 1 := by omega
                    have hi3 : (i : Int) - 1 < (n : Int) := by omega
                    have hi4 : ((i : Int) - 1).toNat = i - 1 := by omega
                    obtain ⟨e, he⟩ : ∃ e, C (i - 1) = e := ⟨_, rfl⟩
                    obtain ⟨t1, f1, g1, b1, q1⟩ := e
                    have HE1 : Hid (C (i - 1) = ⟨t1, f1, g1, b1, q1⟩) := he
                    have V := HC.out.below HB1.out
                    have d4 : W2.cell? ⟨gb, off + (i - 1) * 5 + 4, none⟩ = some (.int .i64 q1) := V.cell (i - 1) hi1 4 _ (by rw [he]; rfl)
                    clear he V
                    by_cases j2 : q1 = 1
                    · subst j2
                      by_cases k0 : t = ⟨#[]⟩
                      · subst k0
                        have HOK : Hid (Ok1 C (i / W * W) (i / W * W + W) i) := ⟨HST.out, .inr (.inr (by rw [HE.out])), fun k => (by rw [HE.out] at k; cases k), fun _ => ⟨by omega, by rw [HE1.out], by rw [HE.out]⟩, fun k => absurd (by rw [HE.out]) k⟩
                        clear HE HE1
                        go_wp2
                        go_roundw
                        case rel => exact ⟨i + 1, by omega, by go_num, fun j hj => (by
                          by_cases e : j = i
                          · subst e; exact HOK.out
                          · exact HA.out j (by omega)), HB1.out⟩
                        case measure => simp [intOf]; omega
                      · have e5 : (t.toList == (⟨#[]⟩ : ByteArray).toList) = false := str_ne k0
                        have e6 : (t.toList == []) = false := by have q := e5; rw [ByteArray.toList_eq (⟨#[]⟩ : ByteArray)] at q; exact q
                        have e7 : (t.toList != []) = true := by unfold bne; rw [e6]; rfl
                        go_wp2
                        go_ret
                        exact ⟨false, rfl, ⟨fun h => (nomatch h), fun h => absurd (HSI.out.1 h i hlt) (fun ok => by have h0 := (ok.tail (by rw [HE.out])).2.2; rw [HE.out] at h0; exact k0 h0)⟩, HB1.out⟩
                    · have e5 : (q1 != 1) = true := by simpa using j2
                      go_wp2
                      go_ret
                      exact ⟨false, rfl, ⟨fun h => (nomatch h), fun h => absurd (HSI.out.1 h i hlt) (fun ok => by have h0 := (ok.tail (by rw [HE.out])).2.1; rw [HE1.out] at h0; exact j2 h0)⟩, HB1.out⟩
              · have e3 : (b == b2) = false := by simpa using k3
                go_quiet_grown (first | (go_at_call 12; exact Calls.grown_of (SD.out _)))
                go_wp2
                go_ret
                exact ⟨false, rfl, ⟨fun h => (nomatch h), fun h => absurd (HSI.out.1 h i hlt) (fun ok => by have h0 := ok.sty; rw [HE.out] at h0; exact k3 (h0.2.2.symm.trans hb2))⟩, (HB0.out.trans ((Gr.below ⟨nq, osq, rfl⟩).mono HB0.out.size))⟩
            · have e3 : (g == g2) = false := by simpa using k2
              go_quiet_grown (first | (go_at_call 12; exact Calls.grown_of (SD.out _)))
              go_wp2
              go_ret
              exact ⟨false, rfl, ⟨fun h => (nomatch h), fun h => absurd (HSI.out.1 h i hlt) (fun ok => by have h0 := ok.sty; rw [HE.out] at h0; exact k2 (h0.2.1.symm.trans hg2))⟩, (HB0.out.trans ((Gr.below ⟨nq, osq, rfl⟩).mono HB0.out.size))⟩
          · have e3 : (f == f2) = false := by simpa using k1
            go_quiet_grown (first | (go_at_call 12; exact Calls.grown_of (SD.out _)))
            go_wp2
            go_ret
            exact ⟨false, rfl, ⟨fun h => (nomatch h), fun h => absurd (HSI.out.1 h i hlt) (fun ok => by have h0 := ok.sty; rw [HE.out] at h0; exact k1 (h0.1.symm.trans hf2))⟩, (HB0.out.trans ((Gr.below ⟨nq, osq, rfl⟩).mono HB0.out.size))⟩
        · have hge : ¬ (i : Int) < (n : Int) := by omega
          obtain rfl : i = n := by omega
          go_wp2
          go_ret
          exact ⟨true, rfl, ⟨fun _ => HSI.out.2 HA.out, fun _ => rfl⟩, HB.out⟩
    · have HNS : Hid (¬ Scr C n (W : Int)) := by show ¬ _; rw [hH]; exact not_scr_quo (by omega) (fun q => hh q.2)
      have hh' : (400 : Int) < (H : Int) := by omega
      clear hH hr
      go_enter Tryz.func4, Tryz.ntmps4
      go_wp2
      go_ret
      exact ⟨false, rfl, ⟨fun h => (nomatch h), fun h => absurd h HNS.out⟩, Below.refl _ _⟩
  · have hr' : ((n : Int) % (W : Int) != 0) = true := by
      have : (n : Int) % (W : Int) = ((n % W : Nat) : Int) := by omega
      rw [this]; simp; omega
    have HNS : Hid (¬ Scr C n (W : Int)) := not_scr_rem hr
    clear hr
    go_enter Tryz.func4, Tryz.ntmps4
    go_wp2
    go_ret
    exact ⟨false, rfl, ⟨fun h => (nomatch h), fun h => absurd h HNS.out⟩, Below.refl _ _⟩

end Go.Proofs.YtkdajaphbmclkaaGreatDoor
