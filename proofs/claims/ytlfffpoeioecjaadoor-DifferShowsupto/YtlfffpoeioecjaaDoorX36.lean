/-
  The law's own: within, screened, equal, cells, num, fits.
-/
import Derived.Test.YtlfffpoeioecjaaDoorX28
import Derived.Test.YtlfffpoeioecjaaDoorX19
import Derived.Test.YtlfffpoeioecjaaDoorX29
import Derived.Test.YtlfffpoeioecjaaDoorX35
namespace Go.Proofs.YtlfffpoeioecjaaDoor
open Go.RowKit Go.Sort
set_option linter.unusedVariables false

set_option maxRecDepth 100000 in
theorem dnum_any (n : Int) (w : World) : Calls Tryd.prog 14 #[.int .i64 n] w fun e w' => e = .returned (.int .i64 n) ∧ w' = w := by
  go_enter Tryd.func14, Tryd.ntmps14
  go_wp2
  go_ret
  exact ⟨rfl, rfl⟩
set_option maxRecDepth 100000 in
set_option maxHeartbeats 2000000 in
theorem within_any (x : Int) (n : Nat) (hn : 1 ≤ n ∧ n ≤ 1000) (w : World) : Calls Tryd.prog 32 #[.int .i64 x, .int .i64 (n : Int)] w fun e w' => ∃ r : Int, 0 ≤ r ∧ r < n ∧ e = .returned (.int .i64 r) ∧ w' = w := by
  obtain ⟨m, hm⟩ : ∃ m, x.tmod (n : Int) = m := ⟨_, rfl⟩
  have h1 : m < n := by rw [← hm]; exact Int.tmod_lt_of_pos x (by omega)
  have h2 : -(n : Int) < m := by
    have := Int.tmod_lt_of_pos (-x) (b := (n : Int)) (by omega)
    rw [Int.neg_tmod, hm] at this
    omega
  have hn0 : ¬ n = 0 := by omega
  have hn1 : ¬ (n : Int) = 0 := by omega
  by_cases h0 : m < 0
  · have w1 : IntKind.i64.wrap (m + (n : Int)) = m + (n : Int) := IntWalk.i64_in _ (by omega)
    have d0 : decide (m < 0) = true := decide_eq_true h0
    have r1 : 0 ≤ m + (n : Int) := by omega
    have r2 : m + (n : Int) < n := by omega
    clear h1 h2 hn
    go_enter Tryd.func32, Tryd.ntmps32
    go_wp2
    go_ret
    exact ⟨_, r1, r2, rfl, rfl⟩
  · have d0 : decide (m < 0) = false := decide_eq_false h0
    have r1 : 0 ≤ m := by omega
    clear h2 hn
    go_enter Tryd.func32, Tryd.ntmps32
    go_wp2
    go_ret
    exact ⟨_, r1, h1, rfl, rfl⟩

def grd (C : Nat → Ce) (W : Nat) : Nat → Nat → Ce := fun y x => C (y * W + x)
def cI (C : Nat → Ce) (W i : Nat) : Nat → Nat → Ce := fun y x => if y * W + x < i then C (y * W + x) else bk 0 0 0
theorem rws_pall {C : Nat → Ce} {W H : Nat} (h : Rws C W H) : PAll W H (grd C W) := fun y hy => by
  refine ⟨fun i hi => (h.ok hy hi).part, fun i hi hp => ?_, fun i hi hp => ?_⟩
  · have q := (h.ok hy hi).head hp
    exact ⟨by have := q.1; omega, q.2⟩
  · have q := (h.ok hy hi).tail hp
    have hi0 : 0 < i := by have := q.1; omega
    refine ⟨i - 1, by omega, ?_, q.2.2⟩
    have := q.2.1
    rw [show y * W + i - 1 = y * W + (i - 1) by omega] at this
    exact this
/-- A terminal of the document's that shows a screen, in a plain style. -/
structure Scd (w w' : World) (T M B bc W H : Nat) (C : Nat → Ce) (t : Tm) : Prop where
  doc : Doc w' w' T M B bc (t, .out) (fun _ => false) 0
  ti : Ti t
  hW : t.W = W
  hH : t.H = H
  sh : Shows t.c W H C
  sty : t.r.f = 0 ∧ t.r.g = 0 ∧ t.r.b = 0
  tT : w.heap.size ≤ T
  tM : w.heap.size ≤ M
  tB : w.heap.size ≤ B
  bel : Below w.heap.size w w'
/-- The loop's state. -/
structure SL (w1 wr : World) (K M cap W H : Nat) (C : Nat → Ce) (i : Nat) : Prop where
  cv : Cv 57 wr M W H (cI C W i)
  ch : Ch M w1 wr

set_option maxRecDepth 100000 in
set_option maxHeartbeats 4000000 in
theorem screened_any (C : Nat → Ce) (W H n g off cap : Nat) (x y : Int) (w : World) (hW : 1 ≤ W ∧ W ≤ 400) (hH : 1 ≤ H ∧ H ≤ 400) (hn : n = H * W) (hC : CL w g off n C) (hr : Rws C W H) :
    Calls Tryd.prog 16 #[.slice (some ⟨g, off, none⟩) n cap, .int .i64 (W : Int), .int .i64 x, .int .i64 y] w fun e w' => ∃ T, e = .returned (.pointer (some ⟨T, 0, none⟩)) ∧ Hid (∃ M B bc t, Scd w w' T M B bc W H C t) := by
  have hmix : Tryd.prog.follows .mixedOrders = true := by kernel_rfl
  have hn160 : 1 ≤ n ∧ n ≤ 160000 := by
    rw [hn]
    exact ⟨Nat.mul_pos (by omega) (by omega), Nat.le_trans (Nat.mul_le_mul hH.2 hW.2) (by decide)⟩
  have hwh : W * H = n := by rw [hn, Nat.mul_comm]
  have NT : Hid (Calls Tryd.prog 22 #[.int .i64 (W : Int), .int .i64 (H : Int)] w fun e w' => ∃ T B bc, e = .returned (.tuple #[.pointer (some ⟨T, 0, none⟩), .int .i64 0]) ∧ RNw w w' T B bc W H) := rterm_new W H w hW hH
  have HC : Hid (CL w g off n C) := hC
  have hgl : g < w.heap.size := hC.lt
  have HR : Hid (Rws C W H) := hr
  have HWH : Hid (W * H = n) := hwh
  have HHW : Hid (1 ≤ W ∧ W ≤ 400) := hW
  have HHH : Hid (1 ≤ H ∧ H ≤ 400) := hH
  have W1 : Hid (∀ w, Calls Tryd.prog 32 #[.int .i64 x, .int .i64 ((W : Int) + 1)] w fun e w' => ∃ r : Int, 0 ≤ r ∧ r < (W : Int) + 1 ∧ e = .returned (.int .i64 r) ∧ w' = w) := fun w => by
    have := within_any x (W + 1) (by omega) w
    rw [show ((W + 1 : Nat) : Int) = (W : Int) + 1 by omega] at this
    exact this
  have W2 : Hid (∀ w, Calls Tryd.prog 32 #[.int .i64 y, .int .i64 (H : Int)] w fun e w' => ∃ r : Int, 0 ≤ r ∧ r < (H : Int) ∧ e = .returned (.int .i64 r) ∧ w' = w) := within_any y H (by omega)
  have wW : IntKind.i64.wrap ((W : Int) + 1) = (W : Int) + 1 := IntWalk.i64_in _ (by omega)
  have wH : IntKind.i64.wrap (H : Int) = (H : Int) := IntWalk.i64_in _ (by omega)
  have hW0 : ¬ W = 0 := by omega
  have hW1 : ¬ (W : Int) = 0 := by omega
  have hq0 : (n : Int) / (W : Int) = (H : Int) := by
    rw [hn, Int.natCast_mul]
    exact Int.mul_ediv_cancel _ hW1
  have hqw : IntKind.i64.wrap ((n : Int) / (W : Int)) = (H : Int) := by rw [hq0, wH]
  have hq2 : wrap64 ((n : Int) / (W : Int)) = (H : Int) := by rw [hq0]; clear hq0 hqw; unfold wrap64; omega
  clear hC hr hn hwh hW hH
  go_enter Tryd.func16, Tryd.ntmps16
  go_wp2_with fail
  refine NT.out.mono ?_
  rintro e w1 ⟨T, B, bc, rfl, ⟨⟨K, M, cap1, hrt, hk, hm⟩, ht, hb, hbel⟩⟩
  have HRT : Hid (RT w1 T K M cap1 B bc (rm0 W H)) := hrt
  have HB1 : Hid (Below w.heap.size w w1) := hbel
  have S0 : Hid (SL w1 w1 K M cap1 W H C 0) := ⟨hrt.cs.cv.same fun y x _ _ => (if_neg (by omega)).symm, Ch.refl _ _⟩
  have hcc : n ≤ cap1 := by have := hrt.cs.hc; have e : W * H = n := HWH.out; have : W * H ≤ cap1 := this; omega
  clear hrt hbel NT
  go_wp2_with fail
  go_loopw [11] (fun iv wr => ∃ i : Nat, iv = .int .i64 i ∧ i ≤ n ∧ Hid (SL w1 wr K M cap1 W H C i)) (fun iv _ => n - (intOf iv).toNat)
  case atStart => exact ⟨0, rfl, Nat.zero_le _, S0.out⟩
  case round =>
    obtain ⟨i, rfl, hi, HS⟩ := hrel
    by_cases hil : i < n
    · have hil' : (i : Int) < (n : Int) := by omega
      have R1 := HRT.out
      have t0 : wr.cell? ⟨T, 0, none⟩ = some (.pointer (some ⟨K, 0, none⟩)) := (World.cell?_of_block (a := ⟨T, 0, none⟩) (HS.out.ch.block T R1.lt R1.tm)).trans (R1.at rfl)
      have k2 : wr.cell? ⟨K, 2, none⟩ = some (.slice (some ⟨M, 0, none⟩) n cap1) := by
        have h1 := (World.cell?_of_block (a := ⟨K, 2, none⟩) (HS.out.ch.block K R1.cs.klt R1.cs.ne)).trans R1.cs.k2
        have e : (rm0 W H).W * (rm0 W H).H = n := HWH.out
        rw [e] at h1
        exact h1
      have LW : ∀ (k : Nat) u, (c5 (C i))[k]? = some u → wr.cell? ⟨g, off + i * 5 + k, none⟩ = some u := fun k u hu => by
        have h1 := HC.out.cell i hil k u hu
        have h2 : w1.cell? ⟨g, off + i * 5 + k, none⟩ = some u := (HB1.out.cell (p := ⟨g, off + i * 5 + k, none⟩) hgl).trans h1
        exact (World.cell?_of_block (a := ⟨g, off + i * 5 + k, none⟩) (HS.out.ch.block g (by have := HB1.out.size; omega) (by omega))).trans h2
      obtain ⟨yy, xx, hy, hx, hix⟩ := lin_split (W := W) (H := H) (by rw [HWH.out]; exact hil)
      have eo : yy * W * 5 + xx * 5 = i * 5 := by rw [hix, Nat.add_mul]
      obtain ⟨e, he⟩ : ∃ e, C i = e := ⟨_, rfl⟩
      rw [he] at LW
      have V := HS.out.cv
      have d0 := V.c0 hy hx
      have d1 := V.c1 hy hx
      have d2 := V.c2 hy hx
      have d3 := V.c3 hy hx
      have d4 := V.c4 hy hx
      have VS := V.set hy hx e
      rw [eo] at d0 d1 d2 d3 d4 VS
      have CS2 : Hid (∀ z, z = (((((wr.setCell ⟨M, i * 5, none⟩ (.string e.t)).setCell ⟨M, i * 5 + 1, none⟩ (.int .i64 e.f)).setCell ⟨M, i * 5 + 2, none⟩ (.int .i64 e.g)).setCell ⟨M, i * 5 + 3, none⟩ (.int .i64 e.b)).setCell ⟨M, i * 5 + 4, none⟩ (.int .i64 e.p)) → SL w1 z K M cap1 W H C (i + 1)) := fun z hz => by
        subst hz
        refine ⟨VS.same fun y' x' hy' hx' => ?_, HS.out.ch.set5 _ _ _ _ _⟩
        unfold upd cI
        by_cases q : y' = yy ∧ x' = xx
        · obtain ⟨rfl, rfl⟩ := q
          rw [if_pos ⟨rfl, rfl⟩, if_pos (by omega), ← hix, he]
        · rw [if_neg q]
          have hne : y' * W + x' ≠ yy * W + xx := fun q2 => q (idx_inj hx' hx q2)
          by_cases q3 : y' * W + x' < i
          · rw [if_pos q3, if_pos (by omega)]
          · rw [if_neg q3, if_neg (by omega)]
      have z0 := V.fz (i * 5)
      have z1 := V.fz (i * 5 + 1)
      have z2 := V.fz (i * 5 + 2)
      have z3 := V.fz (i * 5 + 3)
      have z4 := V.fz (i * 5 + 4)
      obtain ⟨o, ho⟩ : ∃ o, cI C W i yy xx = o := ⟨_, rfl⟩
      rw [ho] at d0 d1 d2 d3 d4
      obtain ⟨t, f, g0, b, p⟩ := e
      have x0 : wr.cell? ⟨g, off + i * 5, none⟩ = some (.string t) := LW 0 _ rfl
      have x1 := LW 1 (.int .i64 f) rfl
      have x2 := LW 2 (.int .i64 g0) rfl
      have x3 := LW 3 (.int .i64 b) rfl
      have x4 := LW 4 (.int .i64 p) rfl
      simp only at CS2
      clear LW VS V ho he eo hix hx hy R1
      go_wp2_with fail
      go_region
      all_goals
        obtain ⟨w2, hw2⟩ : ∃ z, (((((wr.setCell ⟨M, i * 5, none⟩ (.string t)).setCell ⟨M, i * 5 + 1, none⟩ (.int .i64 f)).setCell ⟨M, i * 5 + 2, none⟩ (.int .i64 g0)).setCell ⟨M, i * 5 + 3, none⟩ (.int .i64 b)).setCell ⟨M, i * 5 + 4, none⟩ (.int .i64 p)) = z := ⟨_, rfl⟩
        have S2 : Hid (SL w1 w2.drew K M cap1 W H C (i + 1)) := by
          have q := CS2.out w2 hw2.symm
          exact ⟨q.cv.gr (Gr.refl _).drew, q.ch.thenGr (Gr.refl _).drew⟩
        rw [hw2]
        clear hw2
        go_wp2
        go_roundw
        case rel => exact ⟨i + 1, by go_num, by omega, S2.out⟩
        case measure => simp [intOf]; omega
    · have hil' : ¬ (i : Int) < (n : Int) := by omega
      obtain rfl : i = n := by omega
      have R1 := HRT.out
      have VE : Hid (RT wr T K M cap1 B bc { rm0 W H with c := grd C W }) := R1.cells (HS.out.cv.same fun y' x' hy' hx' => if_pos (by have := lin_lt hy' hx'; have := HWH.out; omega)) HS.out.ch (rws_pall HR.out)
      have HBW : Hid (Below w.heap.size w wr) := HS.out.ch.low hm HB1.out.size HB1.out
      clear R1
      go_wp2_with fail
      refine (W1.out _).mono ?_
      rintro e2 w2 ⟨r1, h1, h2, rfl, hw⟩
      obtain rfl := hw.symm
      have t1 : wr.cell? ⟨T, 1, none⟩ = some (.int .i64 0) := VE.out.at rfl
      have z1 := VE.out.fz 1
      have VE2 : Hid (RT (wr.setCell ⟨T, 1, none⟩ (.int .i64 r1)) T K M cap1 B bc { rm0 W H with c := grd C W, x := r1 }) := VE.out.set 1 _ _ rfl ⟨rfl, rfl, rfl, rfl⟩
      have HBW2 : Hid (Below w.heap.size w (wr.setCell ⟨T, 1, none⟩ (.int .i64 r1))) := HBW.out.setCell (p := ⟨T, 1, none⟩) ht _
      go_wp2_with fail
      obtain ⟨w3, hw3⟩ : ∃ z, wr.setCell ⟨T, 1, none⟩ (.int .i64 r1) = z := ⟨_, rfl⟩
      rw [hw3] at VE2 HBW2 ⊢
      clear hw3 t1 z1 VE HBW
      refine (W2.out _).mono ?_
      rintro e4 w4 ⟨r2, h3, h4, rfl, hw⟩
      obtain rfl := hw.symm
      have t2 : w3.cell? ⟨T, 2, none⟩ = some (.int .i64 0) := VE2.out.at rfl
      have z2 := VE2.out.fz 2
      have VE3 : Hid (RT (w3.setCell ⟨T, 2, none⟩ (.int .i64 r2)) T K M cap1 B bc { rm0 W H with c := grd C W, x := r1, y := r2 }) := VE2.out.set 2 _ _ rfl ⟨rfl, rfl, rfl, rfl⟩
      have HBW3 : Hid (Below w.heap.size w (w3.setCell ⟨T, 2, none⟩ (.int .i64 r2))) := HBW2.out.setCell (p := ⟨T, 2, none⟩) ht _
      go_wp2
      go_ret
      refine ⟨T, rfl, M, B, bc, { tm0 W H with c := grd C W, r := { (tm0 W H).r with x := r1, y := r2 } }, ⟨⟨K, M, cap1, _, VE3.out, ⟨emp, -1, 0, rfl, .inl ⟨rfl, rfl⟩, rfl⟩, Nat.le_refl _, .inl rfl⟩, C3.refl _ _ _ _⟩, ?_, rfl, rfl, fun _ _ _ _ => rfl, ⟨rfl, rfl, rfl⟩, ht, hm, hb, HBW3.out⟩
      exact ⟨h1, by show r1 ≤ (W : Int); omega, h3, h4, by show (0 : Int) ≤ 0; decide, by show (0 : Int) ≤ 4; decide, by show ((⟨#[]⟩ : ByteArray).size : Int) ≤ 4 + 4 * 0; decide⟩


/-- Cells of two lists are the same. -/
theorem cell_gr1 {w w' : World} {g off n : Nat} {C : Nat → Ce} (h : CL w g off n C) (hg : Gr w w') : CL w' g off n C := h.below hg.below
section
variable {g off g' off' cap cap' n : Nat} {C : Nat → Ce}
set_option maxRecDepth 100000 in
set_option maxHeartbeats 4000000 in
theorem dcells_some (w : World) (h : CL w g off n C) (h' : CL w g' off' n C) (nb : n ≤ 1048576) : Calls Tryd.prog 15 #[.slice (some ⟨g, off, none⟩) n cap, .slice (some ⟨g', off', none⟩) n cap'] w fun e w' => e = .returned (.bool true) ∧ Gr w w' := by
  have HL : Hid (∀ e w, Calls Tryd.prog 24 #[cev e] w fun r w' => r = .returned (cev e) ∧ Gr w w') := cell_any
  have HV : Hid (CL w g off n C) := h
  have HV' : Hid (CL w g' off' n C) := h'
  clear h h'
  go_enter Tryd.func15, Tryd.ntmps15
  go_wp2_with fail
  go_loopw [5] (fun iv wi => ∃ i : Nat, i ≤ n ∧ iv = .int .i64 i ∧ Hid (Gr w wi)) (fun iv _ => n - (intOf iv).toNat)
  case atStart => exact ⟨0, by omega, rfl, Gr.refl w⟩
  case round =>
    obtain ⟨i, hi, rfl, HI⟩ := hrel
    by_cases hil : i < n
    · have V1 := cell_gr1 HV.out HI.out
      have V2 := cell_gr1 HV'.out HI.out
      obtain ⟨e, he⟩ : ∃ e, C i = e := ⟨_, rfl⟩
      obtain ⟨t, f, g0, b, p⟩ := e
      have L1 : ∀ (k : Nat) u, (c5 ⟨t, f, g0, b, p⟩)[k]? = some u → wr.cell? ⟨g, off + i * 5 + k, none⟩ = some u := fun k u hu => V1.cell i hil k u (by rw [he]; exact hu)
      have L2 : ∀ (k : Nat) u, (c5 ⟨t, f, g0, b, p⟩)[k]? = some u → wr.cell? ⟨g', off' + i * 5 + k, none⟩ = some u := fun k u hu => V2.cell i hil k u (by rw [he]; exact hu)
      have hil' : (i : Int) < (n : Int) := by omega
      have CA : Hid (∀ w, Calls Tryd.prog 24 #[.agg #[.string t, .int .i64 f, .int .i64 g0, .int .i64 b, .int .i64 p]] w fun r w' => r = .returned (.agg #[.string t, .int .i64 f, .int .i64 g0, .int .i64 b, .int .i64 p]) ∧ Gr w w') := fun w => HL.out ⟨t, f, g0, b, p⟩ w
      have d0 : wr.cell? ⟨g, off + i * 5, none⟩ = some (.string t) := L1 0 _ rfl
      have q0 : wr.cell? ⟨g', off' + i * 5, none⟩ = some (.string t) := L2 0 _ rfl
      have a0 := cell_grown V1.lt d0
      have a1 := cell_grown V1.lt (L1 1 (.int .i64 f) rfl)
      have a2 := cell_grown V1.lt (L1 2 (.int .i64 g0) rfl)
      have a3 := cell_grown V1.lt (L1 3 (.int .i64 b) rfl)
      have a4 := cell_grown V1.lt (L1 4 (.int .i64 p) rfl)
      have b0 := cell_grown V2.lt q0
      have b1 := cell_grown V2.lt (L2 1 (.int .i64 f) rfl)
      have b2 := cell_grown V2.lt (L2 2 (.int .i64 g0) rfl)
      have b3 := cell_grown V2.lt (L2 3 (.int .i64 b) rfl)
      have b4 := cell_grown V2.lt (L2 4 (.int .i64 p) rfl)
      clear V1 V2 he d0 q0 L1 L2
      go_wp2_with fail
      have hmix : Tryd.prog.follows .mixedOrders = true := by kernel_rfl
      go_quiet_grown (first | (go_at_call 24; exact Calls.grown_of (CA.out _)))
      have HG : Hid (Gr w (grow (wr.drewN nq) osq)) := HI.out.trans ⟨nq, osq, rfl⟩
      go_wp2
      go_roundw
      case rel => exact ⟨i + 1, by omega, by go_num, HG.out⟩
      case measure => simp [intOf]; omega
    · have hil' : ¬ (i : Int) < (n : Int) := by omega
      go_wp2
      go_ret
      exact ⟨rfl, HI.out⟩
set_option maxRecDepth 100000 in
set_option maxHeartbeats 1000000 in
theorem dcells_none (p p' : Option Addr) (w : World) : Calls Tryd.prog 15 #[.slice p 0 cap, .slice p' 0 cap'] w fun e w' => e = .returned (.bool true) ∧ Gr w w' := by
  go_enter Tryd.func15, Tryd.ntmps15
  go_wp2_with fail
  go_loop [5] (fun iv => iv = .int .i64 0) (fun _ => 0)
  case atStart => exact rfl
  case round =>
    obtain rfl := hrel
    go_wp2
    go_ret
    exact ⟨rfl, Gr.refl w⟩
theorem dcells_any (p p' : Option Addr) (w : World) (h : n = 0 ∨ ∃ g off, p = some ⟨g, off, none⟩ ∧ CL w g off n C) (h' : n = 0 ∨ ∃ g off, p' = some ⟨g, off, none⟩ ∧ CL w g off n C) (nb : n ≤ 1048576) : Calls Tryd.prog 15 #[.slice p n cap, .slice p' n cap'] w fun e w' => e = .returned (.bool true) ∧ Gr w w' := by
  by_cases h0 : n = 0
  · subst h0; exact dcells_none p p' w
  · rcases h with h | ⟨g, off, rfl, h⟩
    · exact absurd h h0
    · rcases h' with h' | ⟨g', off', rfl, h'⟩
      · exact absurd h' h0
      · exact dcells_some w h h' nb
set_option maxRecDepth 100000 in
set_option maxHeartbeats 4000000 in
theorem equal_same (w : World) (h : CL w g off n C) (h' : CL w g' off' n C) (nb : n ≤ 1048576) : Calls Tryd.prog 19 #[.slice (some ⟨g, off, none⟩) n cap, .slice (some ⟨g', off', none⟩) n cap'] w fun e w' => e = .returned (.bool true) ∧ Gr w w' := by
  have hmix : Tryd.prog.follows .mixedOrders = true := by kernel_rfl
  have HV : Hid (CL w g off n C) := h
  have HV' : Hid (CL w g' off' n C) := h'
  clear h h'
  go_enter Tryd.func19, Tryd.ntmps19
  go_wp2_with fail
  go_loopw [5] (fun iv wi => ∃ i : Nat, i ≤ n ∧ iv = .int .i64 i ∧ Hid (Gr w wi)) (fun iv _ => n - (intOf iv).toNat)
  case atStart => exact ⟨0, by omega, rfl, Gr.refl w⟩
  case round =>
    obtain ⟨i, hi, rfl, HI⟩ := hrel
    by_cases hil : i < n
    · have V1 := cell_gr1 HV.out HI.out
      have V2 := cell_gr1 HV'.out HI.out
      obtain ⟨e, he⟩ : ∃ e, C i = e := ⟨_, rfl⟩
      obtain ⟨t, f, g0, b, p⟩ := e
      have L1 : ∀ (k : Nat) u, (c5 ⟨t, f, g0, b, p⟩)[k]? = some u → wr.cell? ⟨g, off + i * 5 + k, none⟩ = some u := fun k u hu => V1.cell i hil k u (by rw [he]; exact hu)
      have L2 : ∀ (k : Nat) u, (c5 ⟨t, f, g0, b, p⟩)[k]? = some u → wr.cell? ⟨g', off' + i * 5 + k, none⟩ = some u := fun k u hu => V2.cell i hil k u (by rw [he]; exact hu)
      have hil' : (i : Int) < (n : Int) := by omega
      have d0 : wr.cell? ⟨g, off + i * 5, none⟩ = some (.string t) := L1 0 _ rfl
      have d1 := L1 1 (.int .i64 f) rfl
      have d2 := L1 2 (.int .i64 g0) rfl
      have d3 := L1 3 (.int .i64 b) rfl
      have d4 := L1 4 (.int .i64 p) rfl
      have q0 : wr.cell? ⟨g', off' + i * 5, none⟩ = some (.string t) := L2 0 _ rfl
      have q1 := L2 1 (.int .i64 f) rfl
      have q2 := L2 2 (.int .i64 g0) rfl
      have q3 := L2 3 (.int .i64 b) rfl
      have q4 := L2 4 (.int .i64 p) rfl
      clear V1 V2 he L1 L2
      go_wp2_with fail
      go_quiet (fail)
      go_wp2
      go_roundw
      case rel => exact ⟨i + 1, by omega, by go_num, HI.out.trans ((Gr.refl _).drewN _)⟩
      case measure => simp [intOf]; omega
    · have hil' : ¬ (i : Int) < (n : Int) := by omega
      go_wp2
      go_ret
      exact ⟨rfl, HI.out⟩
end
set_option maxRecDepth 100000 in
set_option maxHeartbeats 4000000 in
theorem fits_any (old : Nat → Ce) (nO n : Nat) (x v : Int) (pO pN : Option Addr) (capO capN : Nat) (w : World) (WH : Calls Tryd.prog 13 #[.slice pO nO capO, .int .i64 x] w fun r w' => Tells w w' r (Scr old nO x)) :
    Calls Tryd.prog 17 #[.slice pO nO capO, .int .i64 x, .slice pN n capN, .int .i64 v] w fun r w' => Tells w w' r (x = v ∧ nO = n ∧ Scr old nO x) := by
  have HW : Hid (Calls Tryd.prog 13 #[.slice pO nO capO, .int .i64 x] w fun r w' => Tells w w' r (Scr old nO x)) := WH
  clear WH
  by_cases hx : x = v
  · have hxb : (x == v) = true := by simpa using hx
    by_cases hl : nO = n
    · have hlb : ((nO : Int) == (n : Int)) = true := by simp [hl]
      have HXL : Hid (x = v ∧ nO = n) := ⟨hx, hl⟩
      clear hx hl
      go_enter Tryd.func17, Tryd.ntmps17
      go_wp2_with fail
      refine HW.out.mono ?_
      rintro e w1 ⟨bb, rfl, h1, h2⟩
      have HI : Hid (bb = true ↔ Scr old nO x) := h1
      have HB : Hid (Below w.heap.size w w1) := h2
      clear h1 h2
      go_wp2
      go_ret
      exact ⟨bb, rfl, ⟨fun q => ⟨HXL.out.1, HXL.out.2, HI.out.1 q⟩, fun q => HI.out.2 q.2.2⟩, HB.out⟩
    · have hlb : ((nO : Int) == (n : Int)) = false := by simpa using fun e => hl (Int.ofNat.inj e)
      have HXL : Hid (¬ nO = n) := hl
      clear hx hl
      go_enter Tryd.func17, Tryd.ntmps17
      go_wp2
      go_ret
      exact ⟨false, rfl, ⟨fun q => (nomatch q), fun q => absurd q.2.1 HXL.out⟩, Below.refl _ _⟩
  · have hxb : (x == v) = false := by simpa using hx
    have HXL : Hid (¬ x = v) := hx
    clear hx
    go_enter Tryd.func17, Tryd.ntmps17
    go_wp2
    go_ret
    exact ⟨false, rfl, ⟨fun q => (nomatch q), fun q => absurd q.1 HXL.out⟩, Below.refl _ _⟩

end Go.Proofs.YtlfffpoeioecjaaDoor
