/-
  The pen's way over all cells.
-/
import Derived.Test.YtlfffpoeioecjaaDoorU38
import Derived.Test.YtlfffpoeioecjaaDoorU28
import Derived.Test.YtlfffpoeioecjaaDoorU37
import Derived.Test.YtlfffpoeioecjaaDoorU12
import Derived.Test.YtlfffpoeioecjaaDoorU32
namespace Go.Proofs.YtlfffpoeioecjaaDoor
open Go.RowKit Go.Sort
set_option linter.unusedVariables false

theorem CB.pen {w w2 : World} {B b : Nat} {W a f g d : Int} {l : List UInt8} {q off n : Nat} {C : Nat → Ce} (h : CB w q off n C) (ht : PenTo w w2 B b W a f g d l) (hb : q ≠ b) : CB w2 q off n C := h.kept fun cs fz he => ht.block he hb (by decide)
theorem CB.gr {w w2 : World} {q off n : Nat} {C : Nat → Ce} (h : CB w q off n C) (ht : Gr w w2) : CB w2 q off n C := h.kept fun cs fz he => (ht.below.block _ (Array.getElem?_eq_some_iff.1 he).1).trans he
theorem PenTo.next {w w1 w2 : World} {B b : Nat} {W W' a f g d a' f' g' d' : Int} {l l' : List UInt8} (h : PenTo w w1 B b W a f g d l) (h2 : PenTo w1 w2 B b W' a' f' g' d' l') : PenTo w w2 B b W' a' f' g' d' l' := by
  obtain ⟨_, _, _, h3, h4⟩ := h
  obtain ⟨p', v', k1, k2, k3⟩ := h2
  exact ⟨p', v', k1, h3.trans k2, h4.trans k3⟩
theorem PenTo.gr {w w1 w2 : World} {B b : Nat} {W a f g d : Int} {l : List UInt8} (h : PenTo w w1 B b W a f g d l) (hg : Gr w1 w2) (hB : B ≤ w1.heap.size) : PenTo w w2 B b W a f g d l := by
  obtain ⟨p', v', h1, h2, h3⟩ := h
  exact ⟨p', v', h1.up hg.below, h2.trans (hg.below.mono hB), h3.trans (below_others hg.below _ _)⟩
theorem PenTo.size {w w1 : World} {B b : Nat} {W a f g d : Int} {l : List UInt8} (h : PenTo w w1 B b W a f g d l) (hB : B ≤ w.heap.size) : B ≤ w1.heap.size := by
  obtain ⟨p', v', h1, h2, h3⟩ := h
  exact Nat.le_trans hB h2.size
theorem PenTo.tens {w w1 : World} {B b : Nat} {W a f g d : Int} {l : List UInt8} (h : PenTo w w1 B b W a f g d l) (ht : TensAt w) (hB : 3 < B) : TensAt w1 := by
  obtain ⟨p', v', h1, h2, h3⟩ := h
  exact ht.below h2 hB
/-- The two cells differ in a field, or they are the same. -/
theorem ce_cases (t f g b q t1 f1 g1 b1 q1) : (t.toList == t1.toList) = false ∧ (⟨t, f, g, b, q⟩ : Ce) ≠ ⟨t1, f1, g1, b1, q1⟩ ∨ t = t1 ∧ ((f == f1) = false ∧ (⟨t, f, g, b, q⟩ : Ce) ≠ ⟨t1, f1, g1, b1, q1⟩ ∨ f = f1 ∧ ((g == g1) = false ∧ (⟨t, f, g, b, q⟩ : Ce) ≠ ⟨t1, f1, g1, b1, q1⟩ ∨ g = g1 ∧ ((b == b1) = false ∧ (⟨t, f, g, b, q⟩ : Ce) ≠ ⟨t1, f1, g1, b1, q1⟩ ∨ b = b1 ∧ ((q == q1) = false ∧ (⟨t, f, g, b, q⟩ : Ce) ≠ ⟨t1, f1, g1, b1, q1⟩ ∨ q = q1)))) := by
  by_cases h0 : t = t1
  · refine .inr ⟨h0, ?_⟩
    by_cases h1 : f = f1
    · refine .inr ⟨h1, ?_⟩
      by_cases h2 : g = g1
      · refine .inr ⟨h2, ?_⟩
        by_cases h3 : b = b1
        · refine .inr ⟨h3, ?_⟩
          by_cases h4 : q = q1
          · exact .inr h4
          · exact .inl ⟨by simpa using h4, fun e => h4 (by injection e)⟩
        · exact .inl ⟨by simpa using h3, fun e => h3 (by injection e)⟩
      · exact .inl ⟨by simpa using h2, fun e => h2 (by injection e)⟩
    · exact .inl ⟨by simpa using h1, fun e => h1 (by injection e)⟩
  · exact .inl ⟨str_ne h0, fun e => h0 (by injection e)⟩

set_option maxHeartbeats 8000000 in
set_option maxRecDepth 100000 in
theorem penUpd_any (B b : Nat) (p v : Value) (V H n : Nat) (l : List UInt8) (gO oO capO gN oN capN : Nat) (old new : Nat → Ce) (w : World) (h : PenB w B b p v (V : Int) (-1) 0 0 0 l) (hlen : l.length ≤ 1000) (hBw : B ≤ w.heap.size) (hV : 1 ≤ V ∧ V ≤ 400) (hH : 1 ≤ H ∧ H ≤ 400) (hnn : n = H * V) (hr : Rws new V H) (hO : CB w gO oO n old) (hN : CB w gN oN n new) (hOb : gO ≠ b) (hNb : gN ≠ b) (ht : TensAt w) (hgB : 3 < B) :
    Calls Tryd.prog 28 #[.pointer (some ⟨b, 0, none⟩), .slice (some ⟨gO, oO, none⟩) n capO, .slice (some ⟨gN, oN, none⟩) n capN] w fun e w' => e = .returned (.tuple #[]) ∧ Hid (∃ a, PenTo w w' B b (V : Int) a 0 0 0 (l ++ allB nms V n old new ⟨-1, 0, 0, 0⟩)) := by
  have hmix : Tryd.prog.follows .mixedOrders = true := by kernel_rfl
  have hn4 : n ≤ 400 * V := by rw [hnn]; exact Nat.mul_le_mul_right V hH.2
  have hnb : n ≤ 160000 := by have := Nat.mul_le_mul_left 400 hV.2; omega
  have hn1 : 1 ≤ n := by rw [hnn]; exact Nat.mul_pos (by omega) (by omega)
  have hsty : ∀ i, i < n → Sty (new i) := fun i hi => hr.sty (by omega)
  have hsz : ∀ i, i < n → (new i).t.size ≤ 20 := fun i hi => hr.size (by omega)
  have hpt : ∀ i, i < n → (new i).p = 0 ∨ (new i).p = 1 ∨ (new i).p = 2 := fun i hi => hr.part (by omega)
  obtain ⟨p0, hp0⟩ : ∃ z : Pe0, (⟨-1, 0, 0, 0⟩ : Pe0) = z := ⟨_, rfl⟩
  have hps : StyOk p0.f p0.g p0.b := by rw [← hp0]; exact ⟨by decide, by decide, by decide⟩
  have hpa : -1 ≤ p0.a ∧ p0.a ≤ n + 2 := by rw [← hp0]; exact ⟨by decide, by show (-1 : Int) ≤ _; omega⟩
  have US : Hid (∀ i, i ≤ n → StyOk (updB nms V old new p0 i).1.f (updB nms V old new p0 i).1.g (updB nms V old new p0 i).1.b) := upd_sty hps hsty
  have UA : Hid (∀ i, i ≤ n → -1 ≤ (updB nms V old new p0 i).1.a ∧ (updB nms V old new p0 i).1.a ≤ n + 2) := upd_at hpa hpt
  have UL : Hid (∀ i, i ≤ n → (updB nms V old new p0 i).2.length ≤ 7200000) := fun i hi => Nat.le_trans (upd_len hV hn4 hsty i hi) (Nat.le_trans (wrS_le hsz i hi) (by omega))
  have HST : Hid (∀ i, i < n → Sty (new i)) := hsty
  have HSZ : Hid (∀ i, i < n → (new i).t.size ≤ 20) := hsz
  have HPT : Hid (∀ i, i < n → (new i).p = 0 ∨ (new i).p = 1 ∨ (new i).p = 2) := hpt
  have HO : Hid (CB w gO oO n old) := hO
  have HN : Hid (CB w gN oN n new) := hN
  have HT : Hid (TensAt w) := ht
  have H0 : Hid (PenTo w w B b (V : Int) (updB nms V old new p0 0).1.a (updB nms V old new p0 0).1.f (updB nms V old new p0 0).1.g (updB nms V old new p0 0).1.b (l ++ (updB nms V old new p0 0).2)) := ⟨p, v, by rw [← hp0]; show PenB w B b p v (V : Int) (-1) 0 0 0 (l ++ []); rw [List.append_nil]; exact h, Below.refl _ _, Lib.OthersKept.refl _ _ _⟩
  have HV : Hid (1 ≤ V ∧ V ≤ 400) := hV
  have HN4 : Hid (n ≤ 400 * V) := hn4
  clear h hO hN ht hsty hsz hpt hr hnn hps hpa hH hV hn4
  go_enter Tryd.func28, Tryd.ntmps28
  go_wp2
  go_loopw [10] (fun iv wr => ∃ k : Nat, iv = .int .i64 k ∧ k ≤ n ∧ Hid (PenTo w wr B b (V : Int) (updB nms V old new p0 k).1.a (updB nms V old new p0 k).1.f (updB nms V old new p0 k).1.g (updB nms V old new p0 k).1.b (l ++ (updB nms V old new p0 k).2))) (fun i _ => n - (intOf i).toNat)
  case atStart => exact ⟨0, rfl, Nat.zero_le _, H0.out⟩
  case round =>
    obtain ⟨k, rfl, hk, HR⟩ := hrel
    by_cases hlt : k < n
    · have hlt' : (k : Int) < (n : Int) := by omega
      have BO := HO.out.pen HR.out hOb
      have BN := HN.out.pen HR.out hNb
      obtain ⟨e, he⟩ : ∃ e, new k = e := ⟨_, rfl⟩
      obtain ⟨o, ho⟩ : ∃ e, old k = e := ⟨_, rfl⟩
      have hC1 : ∀ (q : Nat) u, (c5 e)[q]? = some u → wr.cell? ⟨gN, oN + k * 5 + q, none⟩ = some u := fun q u h => BN.cl.cell k hlt q u (by rw [he]; exact h)
      have hC2 : ∀ (q : Nat) u, (c5 o)[q]? = some u → wr.cell? ⟨gO, oO + k * 5 + q, none⟩ = some u := fun q u h => BO.cl.cell k hlt q u (by rw [ho]; exact h)
      obtain ⟨t, f, g, d, q⟩ := e
      obtain ⟨t1, f1, g1, d1, q1⟩ := o
      have x0 : wr.cell? ⟨gN, oN + k * 5, none⟩ = some (.string t) := hC1 0 _ rfl
      have x1 := hC1 1 (.int .i64 f) rfl
      have x2 := hC1 2 (.int .i64 g) rfl
      have x3 := hC1 3 (.int .i64 d) rfl
      have x4 := hC1 4 (.int .i64 q) rfl
      have HE : Hid (new k = ⟨t, f, g, d, q⟩) := he
      have HF : Hid (old k = ⟨t1, f1, g1, d1, q1⟩) := ho
      have HOL : Hid (∀ W0, Gr wr W0 → ∀ (q : Nat) u, (c5 ⟨t1, f1, g1, d1, q1⟩)[q]? = some u → W0.cell? ⟨gO, oO + k * 5 + q, none⟩ = some u) := fun W0 hg j u hu => by
        have := (BO.gr hg).cl.cell k hlt j u (by rw [ho]; exact hu)
        exact this
      clear hC1 hC2 he ho BO BN
      go_upto_region 3 with fail
      obtain ⟨W0, hW0⟩ : ∃ z, wr.alloc (.cells #[.string t, .int .i64 f, .int .i64 g, .int .i64 d, .int .i64 q] 34) = z := ⟨_, rfl⟩
      obtain ⟨S, hS⟩ : ∃ z, wr.heap.size = z := ⟨_, rfl⟩
      have G0 : Hid (Gr wr W0) := by rw [← hW0]; exact (Gr.refl wr).alloc _
      have R0 : Hid (R5 34 W0 S ⟨t, f, g, d, q⟩) := by rw [← hW0, ← hS]; exact R5.new wr ⟨t, f, g, d, q⟩ _
      have hSb : S ≠ b := by obtain ⟨p1, v1, hv1, _⟩ := HR.out; have := hv1.lt; omega
      rw [hW0, hS]
      clear x0 x1 x2 x3 x4 hW0 hS
      obtain ⟨cb, hcb⟩ : ∃ cb : Bool, cb = decide (new k ≠ old k ∧ (new k).p ≠ 2) := ⟨_, rfl⟩
      have HCB : Hid (cb = true ↔ new k ≠ old k ∧ (new k).p ≠ 2) := by show _ ↔ _; rw [hcb]; exact decide_eq_true_iff
      clear hcb
      go_cut [25] from 15 to 24 (fun s wx => s = .bool cb ∧ Hid (Gr W0 wx))
      case first =>
        have c0 := R0.out.c0
        have c1 := R0.out.c1
        have c2 := R0.out.c2
        have c3 := R0.out.c3
        have c4 := R0.out.c4
        have y0 : W0.cell? ⟨gO, oO + k * 5, none⟩ = some (.string t1) := HOL.out W0 G0.out 0 _ rfl
        have y1 := HOL.out W0 G0.out 1 (.int .i64 f1) rfl
        have y2 := HOL.out W0 G0.out 2 (.int .i64 g1) rfl
        have y3 := HOL.out W0 G0.out 3 (.int .i64 d1) rfl
        have y4 := HOL.out W0 G0.out 4 (.int .i64 q1) rfl
        simp only at c0 c1 c2 c3 c4
        have CBE : Hid (cb = true ↔ (⟨t, f, g, d, q⟩ : Ce) ≠ ⟨t1, f1, g1, d1, q1⟩ ∧ q ≠ 2) := by have := HCB.out; rw [HE.out, HF.out] at this; exact this
        clear HCB HE HF HOL HR R0 G0 H0 HN4 HV HT HN HO HPT HSZ HST UL UA US
        rcases ce_cases t f g d q t1 f1 g1 d1 q1 with ⟨e5, hne⟩ | ⟨rfl, ⟨e5, hne⟩ | ⟨rfl, ⟨e5, hne⟩ | ⟨rfl, ⟨e5, hne⟩ | ⟨rfl, ⟨e5, hne⟩ | rfl⟩⟩⟩⟩
        case inr.inr.inr.inr.inr =>
          obtain rfl : cb = false := by cases cb with
            | false => rfl
            | true => exact absurd rfl (CBE.out.1 rfl).1
          go_quiet (fail)
          go_wp2
          go_meet
          exact ⟨rfl, (Gr.refl W0).drewN _⟩
        all_goals
          by_cases hq2 : q = 2
          · obtain rfl : cb = false := by cases cb with
              | false => rfl
              | true => exact absurd hq2 (CBE.out.1 rfl).2
            have hq3 : (q != 2) = false := by simpa using hq2
            clear hne CBE hq2
            go_quiet (fail)
            go_wp2
            go_meet
            exact ⟨rfl, (Gr.refl W0).drewN _⟩
          · obtain rfl : cb = true := CBE.out.2 ⟨hne, hq2⟩
            have hq3 : (q != 2) = true := by simpa using hq2
            clear hne CBE hq2
            go_quiet (fail)
            go_wp2
            go_meet
            exact ⟨rfl, (Gr.refl W0).drewN _⟩
      case rest =>
        obtain ⟨rfl, GC⟩ := hcut
        have hB0 : B ≤ wr.heap.size := HR.out.size hBw
        have GW : Hid (Gr wr wc) := G0.out.trans GC.out
        have RC : Hid (R5 34 wc S ⟨t, f, g, d, q⟩) := (GC.out.below.block _ R0.out.lt).trans R0.out
        clear R0 HOL
        cases cb with
        | false =>
          have HR2 : Hid (PenTo w wc B b (V : Int) (updB nms V old new p0 (k + 1)).1.a (updB nms V old new p0 (k + 1)).1.f (updB nms V old new p0 (k + 1)).1.g (updB nms V old new p0 (k + 1)).1.b (l ++ (updB nms V old new p0 (k + 1)).2)) := by
            have e : updB nms V old new p0 (k + 1) = updB nms V old new p0 k := if_neg fun q => nomatch HCB.out.2 q
            rw [e]
            exact HR.out.gr GW.out hB0
          go_wp2
          go_roundw
          case rel => exact ⟨k + 1, by go_num, by omega, HR2.out⟩
          case measure => simp [intOf]; omega
        | true =>
          have HC2 : Hid (new k ≠ old k ∧ (new k).p ≠ 2) := HCB.out.1 rfl
          obtain ⟨pk, hpk⟩ : ∃ z, updB nms V old new p0 k = z := ⟨_, rfl⟩
          have HUP : Hid (updB nms V old new p0 (k + 1) = (celP k ⟨t, f, g, d, q⟩, pk.2 ++ celB nms V pk.1 k ⟨t, f, g, d, q⟩)) := by
            show _ = _
            rw [← hpk, ← HE.out]
            exact if_pos HC2.out
          have hsk := US.out k hk
          have hak := UA.out k hk
          have hlk := UL.out k hk
          rw [hpk] at HR hsk hak hlk
          have hst : StyOk f g d := by have := HST.out k hlt; rw [HE.out] at this; exact this
          have hsz : t.size ≤ 20 := by have := HSZ.out k hlt; rw [HE.out] at this; exact this
          have hq01 : q = 0 ∨ q = 1 := by
            have h1 := HPT.out k hlt
            have h2 := HC2.out.2
            rw [HE.out] at h1 h2
            simp only at h1 h2
            omega
          obtain ⟨⟨a0, f0, g0, d0⟩, L0⟩ := pk
          simp only at HR HUP hsk hak hlk
          have hL0 : (l ++ L0).length ≤ 7300000 := by rw [List.length_append]; omega
          obtain ⟨M0, hM0⟩ : ∃ z, l ++ L0 = z := ⟨_, rfl⟩
          have HM0 : Hid (l ++ L0 = M0) := hM0
          rw [hM0] at HR hL0
          clear hM0 hpk
          have HRC : Hid (PenTo w wc B b (V : Int) a0 f0 g0 d0 M0) := HR.out.gr GW.out hB0
          have hm10 := mov_len HV.out (i := k) (by have := HN4.out; omega) a0
          have MV : Hid (Calls Tryd.prog 44 #[.pointer (some ⟨b, 0, none⟩), .int .i64 (k : Int)] wc fun e w' => e = .returned (.tuple #[]) ∧ Hid (PenTo wc w' B b (V : Int) (k : Int) f0 g0 d0 (M0 ++ movB V a0 k))) := by
            obtain ⟨p1, v1, hv1, hv2, _⟩ := HRC.out
            exact penMov_any B b p1 v1 V a0 f0 g0 d0 M0 k wc hv1 (by omega) (Nat.le_trans hBw hv2.size) HV.out (by have := HN4.out; omega) (HRC.out.tens HT.out hgB) hgB
          clear HR GC GW HCB
          go_wp2_with fail
          refine MV.out.mono ?_
          rintro e1 w1 ⟨rfl, H1⟩
          obtain ⟨M1, hM1⟩ : ∃ z, M0 ++ movB V a0 k = z := ⟨_, rfl⟩
          have hL1 : M1.length ≤ 7300010 := by rw [← hM1, List.length_append]; omega
          have HM1 : Hid (M0 ++ movB V a0 k = M1) := hM1
          rw [hM1] at H1
          clear hM1 MV
          have HR1 : Hid (PenTo w w1 B b (V : Int) (k : Int) f0 g0 d0 M1) := HRC.out.next H1.out
          have R1 : Hid (R5 34 w1 S ⟨t, f, g, d, q⟩) := H1.out.block RC.out hSb (by decide)
          have c1 : w1.cell? ⟨S, 1, none⟩ = some (.int .i64 f) := R1.out.c1
          have c2 : w1.cell? ⟨S, 2, none⟩ = some (.int .i64 g) := R1.out.c2
          have c3 : w1.cell? ⟨S, 3, none⟩ = some (.int .i64 d) := R1.out.c3
          have DP : Hid (Calls Tryd.prog 45 #[.pointer (some ⟨b, 0, none⟩), .agg #[.int .i64 f, .int .i64 g, .int .i64 d]] w1 fun e w' => e = .returned (.tuple #[]) ∧ Hid (PenTo w1 w' B b (V : Int) (k : Int) f g d (M1 ++ cds (nms f0 g0 d0 f g d)))) := by
            obtain ⟨p1, v1, hv1, hv2, _⟩ := HR1.out
            exact penDip_any B b p1 v1 (V : Int) (k : Int) f0 g0 d0 M1 f g d w1 hv1 (by omega) (Nat.le_trans hBw hv2.size) hsk hst
          go_wp2_with fail
          refine DP.out.mono ?_
          rintro e2 w2 ⟨rfl, H2⟩
          have hd15 : (cds (nms f0 g0 d0 f g d)).length ≤ 15 := by rw [cds_dipB]; exact dip_len hst
          obtain ⟨M2, hM2⟩ : ∃ z, M1 ++ cds (nms f0 g0 d0 f g d) = z := ⟨_, rfl⟩
          have hL2 : M2.length ≤ 7300025 := by rw [← hM2, List.length_append]; omega
          have HM2 : Hid (M1 ++ cds (nms f0 g0 d0 f g d) = M2) := hM2
          rw [hM2] at H2
          clear hM2 DP c1 c2 c3
          have HR2 : Hid (PenTo w w2 B b (V : Int) (k : Int) f g d M2) := HR1.out.next H2.out
          have R2 : Hid (R5 34 w2 S ⟨t, f, g, d, q⟩) := H2.out.block R1.out hSb (by decide)
          have c0 : w2.cell? ⟨S, 0, none⟩ = some (.string t) := R2.out.c0
          have c1 : w2.cell? ⟨S, 1, none⟩ = some (.int .i64 f) := R2.out.c1
          have c2 : w2.cell? ⟨S, 2, none⟩ = some (.int .i64 g) := R2.out.c2
          have c3 : w2.cell? ⟨S, 3, none⟩ = some (.int .i64 d) := R2.out.c3
          have c4 : w2.cell? ⟨S, 4, none⟩ = some (.int .i64 q) := R2.out.c4
          have WR : Hid (Calls Tryd.prog 46 #[.pointer (some ⟨b, 0, none⟩), .agg #[.string t, .int .i64 f, .int .i64 g, .int .i64 d, .int .i64 q]] w2 fun e w' => e = .returned (.tuple #[]) ∧ Hid (PenTo w2 w' B b (V : Int) ((k : Int) + colI q) f g d (M2 ++ t.data.toList))) := by
            obtain ⟨p1, v1, hv1, hv2, _⟩ := HR2.out
            exact penWr_any B b p1 v1 (V : Int) (k : Int) f g d M2 t f g d q w2 hv1 (by omega) (Nat.le_trans hBw hv2.size) (by omega)
          go_wp2_with fail
          refine WR.out.mono ?_
          rintro e3 w3 ⟨rfl, H3⟩
          have HR3 : Hid (PenTo w w3 B b (V : Int) (updB nms V old new p0 (k + 1)).1.a (updB nms V old new p0 (k + 1)).1.f (updB nms V old new p0 (k + 1)).1.g (updB nms V old new p0 (k + 1)).1.b (l ++ (updB nms V old new p0 (k + 1)).2)) := by
            have X := HR2.out.next H3.out
            have e1 : M2 ++ t.data.toList = l ++ (L0 ++ celB nms V ⟨a0, f0, g0, d0⟩ k ⟨t, f, g, d, q⟩) := by
              unfold celB
              rw [← HM2.out, ← HM1.out, ← HM0.out, cds_dipB]
              simp only [List.append_assoc]
            have e2 : colI q = q + 1 := by rcases hq01 with e | e <;> subst e <;> rfl
            rw [e1, e2] at X
            rw [HUP.out]
            exact X
          clear c0 c1 c2 c3 c4 WR
          go_wp2
          go_roundw
          case rel => exact ⟨k + 1, by go_num, by omega, HR3.out⟩
          case measure => simp [intOf]; omega
    · have hge : ¬ (k : Int) < (n : Int) := by omega
      obtain rfl : k = n := by omega
      have hsk := US.out k hk
      have hlk := UL.out k hk
      have HAL : Hid (allB nms V k old new ⟨-1, 0, 0, 0⟩ = (updB nms V old new p0 k).2 ++ cds (nms (updB nms V old new p0 k).1.f (updB nms V old new p0 k).1.g (updB nms V old new p0 k).1.b 0 0 0)) := by show _ = _; rw [hp0]; rfl
      obtain ⟨pk, hpk⟩ : ∃ z, updB nms V old new p0 k = z := ⟨_, rfl⟩
      rw [hpk] at HR hsk hlk HAL
      obtain ⟨⟨a0, f0, g0, d0⟩, L0⟩ := pk
      simp only at HR hsk hlk HAL
      have DP : Hid (Calls Tryd.prog 45 #[.pointer (some ⟨b, 0, none⟩), .agg #[.int .i64 0, .int .i64 0, .int .i64 0]] wr fun e w' => e = .returned (.tuple #[]) ∧ Hid (PenTo wr w' B b (V : Int) a0 0 0 0 (l ++ L0 ++ cds (nms f0 g0 d0 0 0 0)))) := by
        obtain ⟨p1, v1, hv1, hv2, _⟩ := HR.out
        exact penDip_any B b p1 v1 (V : Int) a0 f0 g0 d0 (l ++ L0) 0 0 0 wr hv1 (by rw [List.length_append]; omega) (Nat.le_trans hBw hv2.size) hsk ⟨by decide, by decide, by decide⟩
      go_wp2_with fail
      refine DP.out.mono ?_
      rintro e1 w1 ⟨rfl, H1⟩
      go_wp2
      go_end0
      refine ⟨rfl, a0, ?_⟩
      rw [HAL.out, ← List.append_assoc]
      exact HR.out.next H1.out

end Go.Proofs.YtlfffpoeioecjaaDoor

namespace Go.Proofs.YtlfffpoeioecjaaDoor
open Go.RowKit Go.Sort
set_option linter.unusedVariables false

theorem PenTo.low {w w1 w2 : World} {B b : Nat} {W a f g d : Int} {l : List UInt8} (h : PenTo w w1 B b W a f g d l) (hb : Below w1.heap.size w1 w2) (hB : B ≤ w1.heap.size) : PenTo w w2 B b W a f g d l := by
  obtain ⟨p', v', h1, h2, h3⟩ := h
  exact ⟨p', v', h1.up hb, h2.trans (hb.mono hB), h3.trans (below_others hb _ _)⟩
def bl0 : Ce := ⟨⟨#[32]⟩, 0, 0, 0, 0⟩
def pn0 : Pe0 := ⟨-1, 0, 0, 0⟩
/-- The first case: one size. -/
def One (old : Nat → Ce) (nO : Nat) (x : Int) (n : Nat) (v : Int) : Prop := x = v ∧ nO = n ∧ Scr old nO x
/-- The bytes of an update. -/
structure UpB (old : Nat → Ce) (nO : Nat) (x : Int) (new : Nat → Ce) (n V : Nat) (l : List UInt8) : Prop where
  one : One old nO x n (V : Int) → l = allB nms V n old new pn0
  all : ¬ One old nO x n (V : Int) → l = [27, 91, 50, 74] ++ allB nms V n (fun _ => bl0) new pn0

set_option maxHeartbeats 4000000 in
set_option maxRecDepth 100000 in
theorem dUpdate_bad (old new : Nat → Ce) (nO n : Nat) (x v : Int) (pO pN : Option Addr) (capO capN : Nat) (w : World) (hb : n ≤ 1048576) (hc1 : n ≤ capN) (hc2 : capN ≤ 9223372036854775807) (hN : n = 0 ∨ ∃ g, pN = some ⟨g, 0, none⟩ ∧ CB w g 0 n new) (ht : TabAt w) (hs : ∀ i, i < n → (new i).t.size ≤ 1099511627776) (hno : ¬ Scr new n v) :
    Calls Tryd.prog 12 #[.slice pO nO capO, .int .i64 x, .slice pN n capN, .int .i64 v] w fun e w' => e = .returned (.tuple #[.string ⟨#[]⟩, .int .i64 6]) ∧ Hid (Below w.heap.size w w') := by
  have DS : Hid (Calls Tryd.prog 25 #[.slice pN n capN, .int .i64 v] w fun r w' => r = .returned (.bool false) ∧ Hid (Below w.heap.size w w')) :=
    (dSound_any new v pN n capN hb hc1 hc2 w (hN.imp id fun ⟨g, a, c⟩ => ⟨g, a, c.cl⟩) ht hs).mono fun r w' h => by
      obtain ⟨bb, h1, h2, h3⟩ := h
      cases bb with
      | true => exact absurd (h2.1 rfl) hno
      | false => exact ⟨h1, h3⟩
  clear hN ht hs hno
  go_enter Tryd.func12, Tryd.ntmps12
  go_wp2_with fail
  refine DS.out.mono ?_
  rintro e w1 ⟨rfl, HB⟩
  go_wp2
  go_ret2
  exact ⟨rfl, HB.out⟩

set_option maxHeartbeats 8000000 in
set_option maxRecDepth 100000 in
theorem dUpdate_ok (old new : Nat → Ce) (nO V H n : Nat) (x : Int) (pO : Option Addr) (gN capO capN : Nat) (w : World) (hbO : nO ≤ 1048576) (hO1 : nO ≤ capO) (hO2 : capO ≤ 9223372036854775807) (hc1 : n ≤ capN) (hc2 : capN ≤ 9223372036854775807) (hO : nO = 0 ∨ ∃ g, pO = some ⟨g, 0, none⟩ ∧ CB w g 0 nO old) (hN : CB w gN 0 n new) (ht : TabAt w) (hg : 3 < w.heap.size) (htn : TensAt w) (hsO : ∀ i, i < nO → (old i).t.size ≤ 1099511627776) (hV : 1 ≤ V ∧ V ≤ 400) (hH : 1 ≤ H ∧ H ≤ 400) (hn : n = H * V) (hr : Rws new V H) :
    Calls Tryd.prog 12 #[.slice pO nO capO, .int .i64 x, .slice (some ⟨gN, 0, none⟩) n capN, .int .i64 (V : Int)] w fun e w' => ∃ l, e = .returned (.tuple #[.string ⟨l.toArray⟩, .int .i64 0]) ∧ Hid (UpB old nO x new n V l) ∧ Hid (Below w.heap.size w w') := by
  have hn160 : 1 ≤ n ∧ n ≤ 160000 := by
    rw [hn]
    exact ⟨Nat.mul_pos (by omega) (by omega), Nat.le_trans (Nat.mul_le_mul hH.2 hV.2) (by decide)⟩
  have hscr : Scr new n (V : Int) := ⟨V, H, rfl, hn, hV.1, hV.2, hH.1, hH.2, hr⟩
  have hsN : ∀ i, i < n → (new i).t.size ≤ 1099511627776 := fun i hi => Nat.le_trans (hr.size (by omega)) (by decide)
  have HN : Hid (CB w gN 0 n new) := hN
  have HO : Hid (nO = 0 ∨ ∃ g, pO = some ⟨g, 0, none⟩ ∧ CB w g 0 nO old) := hO
  have HTB : Hid (TabAt w) := ht
  have HTN : Hid (TensAt w) := htn
  have HSO : Hid (∀ i, i < nO → (old i).t.size ≤ 1099511627776) := hsO
  have HHV : Hid (1 ≤ V ∧ V ≤ 400) := hV
  have HHH : Hid (1 ≤ H ∧ H ≤ 400) := hH
  have HNN : Hid (n = H * V) := hn
  have HRW : Hid (Rws new V H) := hr
  have DS : Hid (Calls Tryd.prog 25 #[.slice (some ⟨gN, 0, none⟩) n capN, .int .i64 (V : Int)] w fun r w' => r = .returned (.bool true) ∧ Hid (Below w.heap.size w w')) :=
    (dSound_any new (V : Int) (some ⟨gN, 0, none⟩) n capN (by omega) hc1 hc2 w (.inr ⟨gN, rfl, hN.cl⟩) ht hsN).mono fun r w' h => by
      obtain ⟨bb, h1, h2, h3⟩ := h
      cases bb with
      | false => exact absurd (h2.2 hscr) (by decide)
      | true => exact ⟨h1, h3⟩
  clear hN hO ht htn hsO hV hH hn hr hscr hsN
  go_enter Tryd.func12, Tryd.ntmps12
  go_wp2_with fail
  refine DS.out.mono ?_
  rintro e w1 ⟨rfl, HB1⟩
  go_upto_region 4 with fail
  obtain ⟨W2, hW2⟩ : ∃ z, w1.alloc (.cells #[.pointer none, .slice none 0 0, .int .i64 (V : Int), .int .i64 (-1), .int .i64 0, .int .i64 0, .int .i64 0] 80) = z := ⟨_, rfl⟩
  obtain ⟨b, hbb⟩ : ∃ z, w1.heap.size = z := ⟨_, rfl⟩
  have G2 : Hid (Gr w1 W2) := by rw [← hW2]; exact (Gr.refl w1).alloc _
  have hb1 : w.heap.size ≤ b := by rw [← hbb]; exact HB1.out.size
  have HB2 : Hid (Below w.heap.size w W2) := HB1.out.trans (G2.out.below.mono HB1.out.size)
  have HP2 : Hid (PenB W2 w.heap.size b (.pointer none) (.slice none 0 0) (V : Int) (-1) 0 0 0 []) := by
    refine ⟨hb1, .inl rfl, ?_, ⟨rfl, .inl ⟨rfl, rfl⟩⟩, ?_⟩
    · rw [← hW2, ← hbb]; exact new_block w1 _
    · exact fun e => nomatch e
  rw [hW2, hbb]
  have hltN : gN < w.heap.size := HN.out.cl.lt
  clear hW2 hbb DS
  go_cut [33] from 18 to 32 (fun s wx => ∃ bb : Bool, s = .bool bb ∧ Hid (bb = true ↔ ¬ One old nO x n (V : Int)) ∧ Hid (Below W2.heap.size W2 wx))
  case first =>
    by_cases hx : x = (V : Int)
    · have hxb : (x != (V : Int)) = false := by simpa using hx
      by_cases hl : nO = n
      · have hlb : ((nO : Int) != (n : Int)) = false := by simp [hl]
        have DS2 : Hid (Calls Tryd.prog 25 #[.slice pO nO capO, .int .i64 x] W2 fun r w' => ∃ bb : Bool, r = .returned (.bool bb) ∧ Hid (bb = true ↔ One old nO x n (V : Int)) ∧ Hid (Below W2.heap.size W2 w')) :=
          (dSound_any old x pO nO capO hbO hO1 hO2 W2 (HO.out.imp id fun ⟨g, a, c⟩ => ⟨g, a, (c.low HB2.out).cl⟩) (HTB.out.below HB2.out) HSO.out).mono fun r w' h => by
            obtain ⟨bb, h1, h2, h3⟩ := h
            exact ⟨bb, h1, ⟨fun e => ⟨hx, hl, h2.1 e⟩, fun e => h2.2 e.2.2⟩, h3⟩
        clear hx hl
        go_wp2_with fail
        refine DS2.out.mono ?_
        rintro e w3 ⟨bb, rfl, HI, HB3⟩
        have HI2 : Hid ((!bb) = true ↔ ¬ One old nO x n (V : Int)) := by
          have := HI.out
          cases bb with
          | true => exact ⟨fun q => (nomatch q), fun q => absurd (this.1 rfl) q⟩
          | false => exact ⟨fun _ q => (nomatch this.2 q), fun _ => rfl⟩
        go_wp2
        go_meet
        exact ⟨_, rfl, HI2.out, HB3.out⟩
      · have hlb : ((nO : Int) != (n : Int)) = true := by simpa using fun e => hl (Int.ofNat.inj e)
        have HNO : Hid (¬ One old nO x n (V : Int)) := fun q => hl q.2.1
        clear hx hl
        go_wp2
        go_meet
        exact ⟨true, rfl, ⟨fun _ => HNO.out, fun _ => rfl⟩, Below.refl _ _⟩
    · have hxb : (x != (V : Int)) = true := by simpa using hx
      have HNO : Hid (¬ One old nO x n (V : Int)) := fun q => hx q.1
      clear hx
      go_wp2
      go_meet
      exact ⟨true, rfl, ⟨fun _ => HNO.out, fun _ => rfl⟩, Below.refl _ _⟩
  case rest =>
    obtain ⟨bb, rfl, HI, HBC⟩ := hcut
    have HB3 : Hid (Below w.heap.size w wc) := HB2.out.trans (HBC.out.mono HB2.out.size)
    have HP3 : Hid (PenB wc w.heap.size b (.pointer none) (.slice none 0 0) (V : Int) (-1) 0 0 0 []) := HP2.out.up HBC.out
    have hsz3 : w.heap.size ≤ wc.heap.size := HB3.out.size
    cases bb with
    | false =>
      have HON : Hid (One old nO x n (V : Int)) := Classical.not_not.1 fun q => nomatch HI.out.2 q
      obtain ⟨hx, hl, hso⟩ := HON.out
      subst hl
      obtain ⟨gO, rfl, hCO⟩ : ∃ g, pO = some ⟨g, 0, none⟩ ∧ CB w g 0 nO old := by
        rcases HO.out with h | h
        · omega
        · exact h
      have hltO : gO < w.heap.size := hCO.cl.lt
      have UP : Hid (Calls Tryd.prog 28 #[.pointer (some ⟨b, 0, none⟩), .slice (some ⟨gO, 0, none⟩) nO capO, .slice (some ⟨gN, 0, none⟩) nO capN] wc fun e w' => e = .returned (.tuple #[]) ∧ Hid (∃ a, PenTo wc w' w.heap.size b (V : Int) a 0 0 0 (allB nms V nO old new pn0))) :=
        penUpd_any w.heap.size b _ _ V H nO [] gO 0 capO gN 0 capN old new wc HP3.out (by decide) hsz3 HHV.out HHH.out HNN.out HRW.out (hCO.low HB3.out) (HN.out.low HB3.out) (by omega) (by omega) (HTN.out.below HB3.out hg) hg
      clear hx hso hCO
      go_wp2_with fail
      refine UP.out.mono ?_
      rintro e4 w4 ⟨rfl, HU⟩
      have ST : Hid (Calls Tryd.prog 29 #[.pointer (some ⟨b, 0, none⟩)] w4 fun e w' => e = .returned (.string ⟨(allB nms V nO old new pn0).toArray⟩) ∧ Hid (Below w.heap.size w w')) := by
        obtain ⟨a, p1, v1, k1, k2, k3⟩ := HU.out
        exact (penStr_any w.heap.size b p1 v1 (V : Int) a 0 0 0 _ w4 k1 (Nat.le_trans hsz3 k2.size)).mono fun e w' q => ⟨q.1, (HB3.out.trans k2).trans q.2.out.1⟩
      clear UP
      go_wp2_with fail
      refine ST.out.mono ?_
      rintro e5 w5 ⟨rfl, H5⟩
      go_wp2
      go_ret2
      exact ⟨_, rfl, ⟨fun _ => rfl, fun q => absurd HON.out q⟩, H5.out⟩
    | true =>
      have HON : Hid (¬ One old nO x n (V : Int)) := HI.out.1 rfl
      have PW : Hid (Calls Tryd.prog 26 #[.pointer (some ⟨b, 0, none⟩), .string ⟨#[27, 91, 50, 74]⟩] wc fun e w2 => e = .returned (.tuple #[.int .i64 4, .nilIface]) ∧ Hid (PenTo wc w2 w.heap.size b (V : Int) (-1) 0 0 0 [27, 91, 50, 74])) :=
        (penWrite_any w.heap.size b _ _ (V : Int) (-1) 0 0 0 [] ⟨#[27, 91, 50, 74]⟩ wc HP3.out (by decide) hsz3).mono fun e w2 ⟨he, h1⟩ => ⟨he, _, h1⟩
      go_wp2_with fail
      refine PW.out.mono ?_
      rintro e4 w4 ⟨rfl, H4⟩
      have hsz4 : w.heap.size ≤ w4.heap.size := H4.out.size hsz3
      clear PW
      go_wp2_with fail
      obtain ⟨W5, hW5⟩ : ∃ z, w4.alloc (.cells #[.string ⟨#[32]⟩, .int .i64 0, .int .i64 0, .int .i64 0, .int .i64 0] 34) = z := ⟨_, rfl⟩
      obtain ⟨S5, hS5⟩ : ∃ z, w4.heap.size = z := ⟨_, rfl⟩
      have G5 : Hid (Gr w4 W5) := by rw [← hW5]; exact (Gr.refl w4).alloc _
      have R5b : R5 34 W5 S5 bl0 := by rw [← hW5, ← hS5]; exact R5.new w4 bl0 _
      have RP : Hid (Calls Tryd.prog 27 #[.slice (some ⟨S5, 0, none⟩) 1 1, .int .i64 (n : Int)] W5 fun r w' => r = .returned (.slice (some ⟨W5.heap.size, 0, none⟩) n n) ∧ Hid (CB w' W5.heap.size 0 n (fun _ => bl0)) ∧ Hid (Below w4.heap.size w4 w')) := by
        refine (repeat_any W5 bl0 S5 n hn160 R5b.lt fun k u hu => ?_).mono fun r w' ⟨h1, ⟨L, h2, h3⟩, h4⟩ => ⟨h1, ⟨⟨_, _, h2⟩, (Array.getElem?_eq_some_iff.1 h2).1, fun i hi k u hu => ?_⟩, G5.out.below.trans (h4.mono G5.out.size)⟩
        · rw [Lib.cell_of_heap R5b, ← hu]
          match k with
          | 0 => rfl
          | 1 => rfl
          | 2 => rfl
          | 3 => rfl
          | 4 => rfl
          | _ + 5 => rfl
        · rw [Lib.cell_of_heap h2, Nat.zero_add, List.getElem?_toArray]
          exact h3.2 i k u hi hu
      have hg5 : w4.heap.size ≤ W5.heap.size := G5.out.size
      rw [hW5, hS5]
      clear hW5 hS5 R5b
      refine RP.out.mono ?_
      rintro e6 w6 ⟨rfl, HCB, HB6⟩
      have H6 : Hid (PenTo wc w6 w.heap.size b (V : Int) (-1) 0 0 0 [27, 91, 50, 74]) := H4.out.low HB6.out hsz4
      have HB7 : Hid (Below w.heap.size w w6) := by
        obtain ⟨p1, v1, k1, k2, k3⟩ := H6.out
        exact HB3.out.trans k2
      have hsz6 : w.heap.size ≤ w6.heap.size := HB7.out.size
      have hblt : b < W5.heap.size := by
        obtain ⟨p1, v1, k1, k2, k3⟩ := H4.out
        have := k1.lt
        omega
      obtain ⟨g6, hg6⟩ : ∃ z, W5.heap.size = z := ⟨_, rfl⟩
      rw [hg6] at HCB hblt ⊢
      have UP : Hid (Calls Tryd.prog 28 #[.pointer (some ⟨b, 0, none⟩), .slice (some ⟨g6, 0, none⟩) n n, .slice (some ⟨gN, 0, none⟩) n capN] w6 fun e w' => e = .returned (.tuple #[]) ∧ Hid (∃ a, PenTo w6 w' w.heap.size b (V : Int) a 0 0 0 ([27, 91, 50, 74] ++ allB nms V n (fun _ => bl0) new pn0))) := by
        obtain ⟨p1, v1, k1, k2, k3⟩ := H6.out
        exact penUpd_any w.heap.size b p1 v1 V H n [27, 91, 50, 74] g6 0 n gN 0 capN (fun _ => bl0) new w6 k1 (by decide) hsz6 HHV.out HHH.out HNN.out HRW.out HCB.out (HN.out.low HB7.out) (by omega) (by omega) (HTN.out.below HB7.out hg) hg
      clear RP hg6
      go_wp2_with fail
      refine UP.out.mono ?_
      rintro e8 w8 ⟨rfl, HU⟩
      have ST : Hid (Calls Tryd.prog 29 #[.pointer (some ⟨b, 0, none⟩)] w8 fun e w' => e = .returned (.string ⟨([27, 91, 50, 74] ++ allB nms V n (fun _ => bl0) new pn0).toArray⟩) ∧ Hid (Below w.heap.size w w')) := by
        obtain ⟨a, p1, v1, k1, k2, k3⟩ := HU.out
        exact (penStr_any w.heap.size b p1 v1 (V : Int) a 0 0 0 _ w8 k1 (Nat.le_trans hsz6 k2.size)).mono fun e w' q => ⟨q.1, (HB7.out.trans k2).trans q.2.out.1⟩
      clear UP
      obtain ⟨LL, hLL⟩ : ∃ z, [27, 91, 50, 74] ++ allB nms V n (fun _ => bl0) new pn0 = z := ⟨_, rfl⟩
      have HLL : Hid ([27, 91, 50, 74] ++ allB nms V n (fun _ => bl0) new pn0 = LL) := hLL
      rw [hLL] at ST
      clear hLL
      go_wp2_with fail
      refine ST.out.mono ?_
      rintro e9 w9 ⟨rfl, H9⟩
      go_wp2
      go_ret2
      exact ⟨_, rfl, ⟨fun q => absurd q HON.out, fun _ => HLL.out.symm⟩, H9.out⟩

end Go.Proofs.YtlfffpoeioecjaaDoor

namespace Go.Proofs.YtlfffpoeioecjaaDoor
set_option linter.unusedVariables false

theorem run_ok : ∀ (l : List UInt8) (p : Tm × St), Ti p.1 → Si p.2 → 1 ≤ p.1.W → 1 ≤ p.1.H → Ti (runT p l).1 ∧ Si (runT p l).2 ∧ (runT p l).1.W = p.1.W ∧ (runT p l).1.H = p.1.H
  | [], p, h1, h2, _, _ => ⟨h1, h2, rfl, rfl⟩
  | b :: l, p, h1, h2, h3, h4 => by
    have hw := wh_step p.1 b p.2
    have e1 : (stepT p.1 b p.2).1.W = p.1.W := congrArg Prod.fst hw
    have e2 : (stepT p.1 b p.2).1.H = p.1.H := congrArg Prod.snd hw
    have k := step_ok h1 h2 h3 h4 b
    have r := run_ok l (stepT p.1 b p.2) k.1 k.2 (by rw [e1]; exact h3) (by rw [e2]; exact h4)
    exact ⟨r.1, r.2.1, r.2.2.1.trans e1, r.2.2.2.trans e2⟩
/-- The end: it shows new, plain. -/
structure Ended (p : Tm × St) (W H : Nat) (new : Nat → Ce) : Prop where
  out : p.2 = .out
  eW : p.1.W = W
  eH : p.1.H = H
  sh : Shows p.1.c W H new
  f : p.1.r.f = 0
  g : p.1.r.g = 0
  b : p.1.r.b = 0
section
variable {W H : Nat} {old new : Nat → Ce} {t : Tm}
theorem pen_at (hf : t.r.f = 0) (hg : t.r.g = 0) (hb : t.r.b = 0) : PenAt W t pn0 := ⟨hf, hg, hb, ⟨by decide, by decide, by decide⟩, fun j hj => by have : (-1 : Int) = j := hj; omega⟩
theorem ended_one (hW : 1 ≤ W ∧ W ≤ 400) (hH : 1 ≤ H ∧ H ≤ 400) (ho : Rws old W H) (hn : Rws new W H) (h1 : t.W = W) (h2 : t.H = H) (hs : Shows t.c W H old) (hf : t.r.f = 0) (hg : t.r.g = 0) (hb : t.r.b = 0) : Ended (runT (t, .out) (allB nms W (H * W) old new pn0)) W H new := by
  obtain ⟨t', e, a1, a2, a3, a4, a5, a6⟩ := all_run turns_nms hW hH ho hn h1 h2 (pen_at hf hg hb) hs
  rw [e]
  exact ⟨rfl, a1, a2, a3, a4, a5, a6⟩
theorem blank_txt : Txt bl0 1 := by unfold Txt bl0; decide
theorem blank_rws : Rws (fun _ => bl0) W H := fun y hy i h1 h2 => ⟨⟨by decide, by decide, by decide⟩, .inl rfl, fun q => (by cases q), fun q => (by cases q), fun _ => blank_txt⟩
/-- Made plain. -/
theorem run_plain (s : Tm) (st : St) (h : Si st) : ∃ t, runT (s, st) [109, 27, 91, 109] = (t, .out) ∧ t.W = s.W ∧ t.H = s.H ∧ t.r.f = 0 ∧ t.r.g = 0 ∧ t.r.b = 0 := by
  have e0 : stepT s 109 st = ((stepT s 109 st).1, .out) := Prod.ext rfl (step_m s st h)
  obtain ⟨s1, h1⟩ : ∃ z, (stepT s 109 st).1 = z := ⟨_, rfl⟩
  have hw : wh s1 = wh s := by rw [← h1]; exact wh_step s 109 st
  rw [h1] at e0
  have hsW : s1.W = s.W := congrArg Prod.fst hw
  have hsH : s1.H = s.H := congrArg Prod.snd hw
  have e1 : runT (s, st) [109, 27, 91, 109] = runT (stepT s 109 st) [27, 91, 109] := rfl
  rw [e1, e0]
  have e : runT (s1, .out) [27, 91, 109] = (⟨s1.W, s1.H, s1.c, ⟨s1.r.x, s1.r.y, 0, 0, 0, 0, 0, ⟨#[]⟩, 0, 0⟩⟩, .out) := rfl
  exact ⟨_, e, hsW, hsH, rfl, rfl, rfl⟩
theorem run_erase (hW : 1 ≤ t.W ∧ t.W ≤ 400) (hH : 1 ≤ t.H ∧ t.H ≤ 400) (hf : t.r.f = 0) (hg : t.r.g = 0) (hb : t.r.b = 0) : ∃ t', runT (t, .out) [27, 91, 50, 74] = (t', .out) ∧ t'.W = t.W ∧ t'.H = t.H ∧ Shows t'.c t.W t.H (fun _ => bl0) ∧ t'.r.f = 0 ∧ t'.r.g = 0 ∧ t'.r.b = 0 := by
  have e : runT (t, .out) [27, 91, 50, 74] = ({ t with c := filC t.W t.H t.c 0 0 t.W t.H 0 0 0 0 0 t.W t.H, r := clr t.r }, .out) := rfl
  exact ⟨_, e, rfl, rfl, fun y x hy hx => fil_whole hW hH t.c hy hx, hf, hg, hb⟩
theorem ended_all (hW : 1 ≤ W ∧ W ≤ 400) (hH : 1 ≤ H ∧ H ≤ 400) (hn : Rws new W H) (h1 : t.W = W) (h2 : t.H = H) (hf : t.r.f = 0) (hg : t.r.g = 0) (hb : t.r.b = 0) : Ended (runT (t, .out) ([27, 91, 50, 74] ++ allB nms W (H * W) (fun _ => bl0) new pn0)) W H new := by
  obtain ⟨t', e, a1, a2, a3, a4, a5, a6⟩ := run_erase (t := t) (by rw [h1]; exact hW) (by rw [h2]; exact hH) hf hg hb
  rw [h1, h2] at a3
  rw [runT_cat, e]
  exact ended_one hW hH blank_rws hn (a1.trans h1) (a2.trans h2) a3 a4 a5 a6
end

end Go.Proofs.YtlfffpoeioecjaaDoor
