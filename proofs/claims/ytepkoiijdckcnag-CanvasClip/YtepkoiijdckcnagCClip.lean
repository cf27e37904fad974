/-
  CanvasClip.
-/
import Derived.Test.YtepkoiijdckcnagCPairs
namespace Go.Proofs.Ytepkoiijdckcnag
open Go.RowKit Go.Sort
set_option linter.unusedVariables false

theorem div_rem {j W x : Nat} (hW : 1 ≤ W) (h : (j : Int) % (W : Int) = (x : Int)) : Op.intDiv .rem .i64 (j : Int) (W : Int) = pure (.int .i64 (x : Int)) := by
  unfold Op.intDiv
  rw [if_neg (by omega)]
  show pure (Value.int .i64 (Int.tmod _ _)) = _
  rw [Int.tmod_eq_emod_of_nonneg (by omega), h]
theorem div_quo {j W y : Nat} (hW : 1 ≤ W) (h : (j : Int) / (W : Int) = (y : Int)) (hy : y ≤ 100000) : Op.intDiv .quo .i64 (j : Int) (W : Int) = pure (.int .i64 (y : Int)) := by
  unfold Op.intDiv
  rw [if_neg (by omega)]
  show pure (Value.int .i64 (IntKind.i64.wrap (Int.tdiv _ _))) = _
  have e : IntKind.i64.wrap (y : Int) = (y : Int) := by rw [IntKind.wrap_i64]; omega
  rw [Int.tdiv_eq_ediv_of_nonneg (by omega), h, e]
/-- Beyond the clip a cell stays, or was a half and is a blank now. -/
theorem draw_out {W H : Nat} {c : Nat → Nat → Ce} (h : PAll W H c) (hW : 1 ≤ W ∧ W ≤ 400) (hH : 1 ≤ H ∧ H ≤ 400) (kd a b : Int) (s : ByteArray) (zs : List Int) {y x : Nat} (hy : y < H) (hx : x < W) (ho : holdB (en zs 4) (en zs 5) (en zs 6) (en zs 7) x y = false) :
    drawC W H c kd a b s zs y x = c y x ∨ (drawC W H c kd a b s zs y x = bl (c y x) ∧ (c y x).p ≠ 0) := by
  have hn : ¬ (posI (en zs 4) ≤ (x : Int) ∧ (x : Int) < posI (en zs 4) + lenI (en zs 6) ∧ posI (en zs 5) ≤ (y : Int) ∧ (y : Int) < posI (en zs 5) + lenI (en zs 7)) := of_decide_eq_false ho
  unfold drawC
  split
  · unfold putC putQ
    have SF := seen_facts (W := W) (H := H) (by omega) (by omega) a b (en zs 0) 1 (en zs 4) (en zs 5) (en zs 6) (en zs 7)
    generalize seenQ W H a b (en zs 0) 1 (en zs 4) (en zs 5) (en zs 6) (en zs 7) = q at SF ⊢
    obtain ⟨l, t, u, v⟩ := q
    simp only at SF ⊢
    split
    · have m := SF.mem x y
      have := SF.lu
      have := SF.l0
      have := SF.t0
      have := SF.u0
      have := SF.v0
      refine fill_out h (by omega) hy hx (fun k => hn (m.1 ?_).2.2)
      omega
    · exact .inl rfl
  · split
    · unfold filC
      have SF := seen_facts (W := W) (H := H) (by omega) (by omega) (en zs 8) (en zs 9) (en zs 10) (en zs 11) (en zs 4) (en zs 5) (en zs 6) (en zs 7)
      generalize seenQ W H (en zs 8) (en zs 9) (en zs 10) (en zs 11) (en zs 4) (en zs 5) (en zs 6) (en zs 7) = q at SF ⊢
      obtain ⟨l, t, u, v⟩ := q
      simp only at SF ⊢
      have m := SF.mem x y
      have := SF.lu
      have := SF.l0
      have := SF.t0
      have := SF.u0
      have := SF.v0
      refine fill_out h (by omega) hy hx (fun k => hn (m.1 ?_).2.2)
      omega
    · exact .inl rfl

set_option maxRecDepth 100000 in
set_option maxHeartbeats 4000000 in
theorem clip_bad (W H : Int) (v : Value) (ku au bu : Int) (su tu : ByteArray) (vu : Value) (w : World) (h : ¬ ((1 ≤ W ∧ W ≤ 400) ∧ (1 ≤ H ∧ H ≤ 400))) : Calls Try.prog 7 #[.int .i64 W, .int .i64 H, v, opv ku au bu su tu vu] w fun e w' => e = .returned (.bool true) ∧ Below w.heap.size w w' := by
  have EB : Hid (∀ w, Calls Try.prog 13 #[.int .i64 W, .int .i64 H] w fun e w' => e = .returned (.tuple #[.pointer none, .bool true]) ∧ w' = w) := fun w => easel_bad W H w h
  clear h
  unfold opv
  go_enter Try.func7, Try.ntmps7
  go_wp2_with (go_at_call 13; refine Calls.mono (EB.out _) ?_; rintro e w1 ⟨rfl, hw1⟩; obtain rfl := hw1.symm)
  go_ret
  exact ⟨rfl, ((Gr.refl w).alloc _).below⟩

set_option maxRecDepth 100000 in
set_option maxHeartbeats 8000000 in
theorem clip_ok (W H : Nat) (hW : 1 ≤ W ∧ W ≤ 400) (hH : 1 ≤ H ∧ H ≤ 400) (v : Value) (n : Nat) (op : Nat → OpR) (w : World) (h : OpsIn w v n op) (hn : n ≤ 17592186044416) (ku au bu : Int) (su tu : ByteArray) (pu : Option Addr) (mu : Nat) (zu : List Int) (hu : Ints w (.slice pu zu.length mu) zu) :
    Calls Try.prog 7 #[.int .i64 W, .int .i64 H, v, opv ku au bu su tu (.slice pu zu.length mu)] w fun e w' => e = .returned (.bool true) ∧ Below w.heap.size w w' := by
  have EO : Hid (∀ w, Calls Try.prog 13 #[.int .i64 W, .int .i64 H] w fun e w' => ∃ K M, e = .returned (.tuple #[.pointer (some ⟨K, 0, none⟩), .bool true]) ∧ CS 85 58 w' K M (W * H) W H (fun _ _ => bk 0 0 0) ∧ w.heap.size ≤ K ∧ w.heap.size ≤ M ∧ Below w.heap.size w w') := fun w => easel_ok W H w hW hH
  have F4 : Hid (∀ w, Ints w (.slice pu zu.length mu) zu → Calls Try.prog 21 #[.slice pu zu.length mu, .int .i64 4] w fun e w' => e = .returned (rv (en zu 4) (en zu 5) (en zu 6) (en zu 7)) ∧ Gr w w') := fun w h => four_any zu _ w h 4 4 rfl (by omega)
  have DL : Hid (∀ w K M c, CS 85 58 w K M (W * H) W H c → PAll W H c → Ints w (.slice pu zu.length mu) zu → Calls Try.prog 15 #[.pointer (some ⟨K, 0, none⟩), opv ku au bu su tu (.slice pu zu.length mu)] w fun e w' => e = .returned (.tuple #[]) ∧ Cv 58 w' M W H (drawC W H c ku au bu su zu) ∧ Ch M w w') := fun w K M c h hp hi => drawn_any w h hW hH hp ku au bu su tu pu mu zu hi
  have HDO : Hid (∀ (c : Nat → Nat → Ce), PAll W H c → ∀ y x : Nat, y < H → x < W → holdB (en zu 4) (en zu 5) (en zu 6) (en zu 7) x y = false → drawC W H c ku au bu su zu y x = c y x ∨ (drawC W H c ku au bu su zu y x = bl (c y x) ∧ (c y x).p ≠ 0)) := fun c hp y x hy hx ho => draw_out hp hW hH ku au bu su zu hy hx ho
  obtain ⟨av, cv, rfl, hh⟩ := h
  have HH : Hid (n = 0 ∨ ∃ b off, av = some ⟨b, off, none⟩ ∧ b < w.heap.size ∧ ∀ i, i < n →
    w.cell? ⟨b, off + i * 6, none⟩ = some (.int .i64 (op i).kd) ∧ w.cell? ⟨b, off + i * 6 + 1, none⟩ = some (.int .i64 (op i).a) ∧ w.cell? ⟨b, off + i * 6 + 2, none⟩ = some (.int .i64 (op i).b) ∧ w.cell? ⟨b, off + i * 6 + 3, none⟩ = some (.string (op i).s) ∧ w.cell? ⟨b, off + i * 6 + 4, none⟩ = some (.string (op i).t) ∧ w.cell? ⟨b, off + i * 6 + 5, none⟩ = some (.slice (op i).p (op i).zs.length (op i).m) ∧
    Ints w (.slice (op i).p (op i).zs.length (op i).m) (op i).zs) := hh
  have HU : Hid (Ints w (.slice pu zu.length mu) zu) := hu
  clear hh hu
  obtain ⟨x4, hx4⟩ : ∃ z, en zu 4 = z := ⟨_, rfl⟩
  obtain ⟨x5, hx5⟩ : ∃ z, en zu 5 = z := ⟨_, rfl⟩
  obtain ⟨x6, hx6⟩ : ∃ z, en zu 6 = z := ⟨_, rfl⟩
  obtain ⟨x7, hx7⟩ : ∃ z, en zu 7 = z := ⟨_, rfl⟩
  rw [hx4, hx5, hx6, hx7] at F4 HDO
  obtain ⟨lu, hlu⟩ : ∃ z, zu.length = z := ⟨_, rfl⟩
  rw [hlu] at F4 DL HU ⊢
  clear hx4 hx5 hx6 hx7 hlu
  obtain ⟨N, hN⟩ : ∃ N, W * H = N := ⟨_, rfl⟩
  have eN : (W : Int) * (H : Int) = (N : Int) := by rw [← hN]; simp
  have HN : Hid (W * H = N) := hN
  have nb : 1 ≤ N ∧ N ≤ 160000 := by rw [← hN]; exact ⟨Nat.mul_le_mul hW.1 hH.1, Nat.mul_le_mul hW.2 hH.2⟩
  clear hN
  unfold opv at DL ⊢
  unfold rv at F4
  obtain ⟨S, hS⟩ : ∃ z, w.heap.size = z := ⟨_, rfl⟩
  have HS : Hid (w.heap.size = S) := hS
  go_enter Try.func7, Try.ntmps7
  go_wp2_with fail
  obtain ⟨W0, hW0⟩ : ∃ z, w.alloc (.cells #[.int .i64 ku, .int .i64 au, .int .i64 bu, .string su, .string tu, .slice pu lu mu] 42) = z := ⟨_, rfl⟩
  have G0 : Hid (Gr w W0) := by rw [← hW0]; exact (Gr.refl w).alloc _
  have R0 : Hid (R6 42 W0 S ku au bu su tu (.slice pu lu mu)) := by rw [← hW0, ← hS]; exact R6.new w _ _ _ _ _ _ _
  have Z0 : Hid (W0.heap.size = S + 1) := by show W0.heap.size = S + 1; rw [← hW0, World.size_alloc, hS]
  rw [hW0]
  clear hW0 hS
  refine Calls.mono (EO.out _) ?_
  rintro e w1 ⟨K, M, rfl, hcs, hk, hm, hb⟩
  rw [Z0.out] at hk hm hb
  have HC : Hid (CS 85 58 w1 K M (W * H) W H (play W H op 0) ∧ S + 1 ≤ K ∧ S + 1 ≤ M ∧ Below (S + 1) W0 w1) := ⟨hcs, hk, hm, hb⟩
  clear hcs hk hm hb EO
  go_wp2_with fail
  go_loopw [11] (fun iv wr => ∃ i : Nat, i ≤ n ∧ iv = .int .i64 i ∧ Hid (CS 85 58 wr K M (W * H) W H (play W H op i) ∧ Below (S + 1) W0 wr)) (fun iv _ => n - (intOf iv).toNat)
  case atStart => exact ⟨0, by omega, rfl, HC.out.1, HC.out.2.2.2⟩
  case round =>
    obtain ⟨i, hi, rfl, HR⟩ := hrel
    have HBW : Hid (Below w.heap.size w wr) := G0.out.below.trans (HR.out.2.mono (by rw [HS.out]; omega))
    by_cases hlt : i < n
    · have hlt' : (i : Int) < (n : Int) := by omega
      have hlm : (i : Int) < 1152921504606846976 := by omega
      rcases HH.out with h0 | ⟨bb, off, rfl, hbb, hcell⟩
      · omega
      obtain ⟨p0, p1, p2, p3, p4, p5, p6⟩ := hcell i hlt
      have bel := HBW.out
      have q0 := (bel.cell (p := ⟨bb, off + i * 6, none⟩) hbb).trans p0
      have q1 := (bel.cell (p := ⟨bb, off + i * 6 + 1, none⟩) hbb).trans p1
      have q2 := (bel.cell (p := ⟨bb, off + i * 6 + 2, none⟩) hbb).trans p2
      have q3 := (bel.cell (p := ⟨bb, off + i * 6 + 3, none⟩) hbb).trans p3
      have q4 := (bel.cell (p := ⟨bb, off + i * 6 + 4, none⟩) hbb).trans p4
      have q5 := (bel.cell (p := ⟨bb, off + i * 6 + 5, none⟩) hbb).trans p5
      have DR : Hid (Calls Try.prog 15 #[.pointer (some ⟨K, 0, none⟩), opv (op i).kd (op i).a (op i).b (op i).s (op i).t (.slice (op i).p (op i).zs.length (op i).m)] wr fun e w' => e = .returned (.tuple #[]) ∧ Cv 58 w' M W H (play W H op (i + 1)) ∧ Ch M wr w') := drawn_any wr HR.out.1 hW hH (play_pairs op hW hH i) _ _ _ _ _ _ _ _ (p6.below bel)
      obtain ⟨r, hr⟩ : ∃ r, op i = r := ⟨_, rfl⟩
      rw [hr] at q0 q1 q2 q3 q4 q5 DR
      obtain ⟨kd, a, b, s, t, p, m, zs⟩ := r
      simp only at q0 q1 q2 q3 q4 q5 DR
      obtain ⟨ln, hln⟩ : ∃ z, zs.length = z := ⟨_, rfl⟩
      rw [hln] at q5 DR
      unfold opv at DR
      clear p0 p1 p2 p3 p4 p5 p6 hcell hr hln bel
      go_wp2_with (go_at_call 15; refine Calls.mono DR.out ?_; rintro e2 w2 ⟨rfl, V2, C2⟩; have HV2 : Hid (CS 85 58 w2 K M (W * H) W H (play W H op (i + 1)) ∧ Below (S + 1) W0 w2) := (⟨HR.out.1.put C2 V2, C2.low HC.out.2.2.1 (by have := HR.out.2.size; rw [Z0.out] at this; exact this) HR.out.2⟩ : _ ∧ _); clear V2 C2)
      go_roundw
      case rel => exact ⟨i + 1, by omega, by go_num, HV2.out⟩
      case measure => simp [intOf]; omega
    · have hlt' : ¬ (i : Int) < (n : Int) := by omega
      obtain ⟨c, hc⟩ : ∃ c, play W H op i = c := ⟨_, rfl⟩
      have HPA : Hid (PAll W H c) := by rw [← hc]; exact play_pairs op hW hH i
      rw [hc] at HR
      clear hc
      have CL : Hid (∀ w c, CS 85 58 w K M (W * H) W H c → Calls Try.prog 17 #[.pointer (some ⟨K, 0, none⟩)] w fun e w' => ∃ N cap', e = .returned (.slice (some ⟨N, 0, none⟩) (W * H) cap') ∧ Cv 58 w' N W H c ∧ w.heap.size ≤ N ∧ Below w.heap.size w w') := fun w c h => cells_any w h hW hH
      have hsz : Hid (S + 1 ≤ wr.heap.size) := (by have := HR.out.2.size; rw [Z0.out] at this; exact this : S + 1 ≤ wr.heap.size)
      have CL1 := CL.out wr c HR.out.1
      rw [HN.out] at CL1
      go_wp2_with fail
      refine Calls.mono CL1 ?_
      rintro e3 w3 ⟨N1, cap1, rfl, V3, hN3, B3⟩
      have H3 : Hid (Cv 58 w3 N1 W H c ∧ CS 85 58 w3 K M (W * H) W H c ∧ Below (S + 1) W0 w3 ∧ N1 ≠ M ∧ S + 1 ≤ N1) := ⟨V3, HR.out.1.below B3, HR.out.2.trans (B3.mono hsz.out), by have := HR.out.1.cv.lt; omega, by have := hsz.out; omega⟩
      clear V3 hN3 B3 CL1
      have r0 : Hid (R6 42 w3 S ku au bu su tu (.slice pu lu mu)) := (H3.out.2.2.1.block S (by omega)).trans R0.out
      have d0 := r0.out.c0
      have d1 := r0.out.c1
      have d2 := r0.out.c2
      have d3 := r0.out.c3
      have d4 := r0.out.c4
      have d5 := r0.out.c5
      have DL1 := DL.out w3 K M c H3.out.2.1 HPA.out (HU.out.below (G0.out.below.trans (H3.out.2.2.1.mono (by rw [HS.out]; omega))))
      go_wp2_with fail
      refine Calls.mono DL1 ?_
      rintro e4 w4 ⟨rfl, V4, C4⟩
      have H4 : Hid (Cv 58 w4 N1 W H c ∧ CS 85 58 w4 K M (W * H) W H (drawC W H c ku au bu su zu) ∧ Below (S + 1) W0 w4 ∧ S + 1 ≤ N1) := ⟨H3.out.1.ch C4 H3.out.2.2.2.1, H3.out.2.1.put C4 V4, C4.low HC.out.2.2.1 (by have := H3.out.2.2.1.size; rw [Z0.out] at this; exact this) H3.out.2.2.1, H3.out.2.2.2.2⟩
      clear V4 C4 DL1 d0 d1 d2 d3 d4 d5 r0 H3
      have HDC : Hid (∀ y x : Nat, y < H → x < W → holdB x4 x5 x6 x7 x y = false → drawC W H c ku au bu su zu y x = c y x ∨ (drawC W H c ku au bu su zu y x = bl (c y x) ∧ (c y x).p ≠ 0)) := HDO.out c HPA.out
      obtain ⟨d, hd⟩ : ∃ d, drawC W H c ku au bu su zu = d := ⟨_, rfl⟩
      rw [hd] at H4 HDC
      clear hd
      have CL2 := CL.out w4 d H4.out.2.1
      rw [HN.out] at CL2
      go_wp2_with fail
      refine Calls.mono CL2 ?_
      rintro e5 w5 ⟨N2, cap2, rfl, V5, hN5, B5⟩
      have hs4 : Hid (S + 1 ≤ w4.heap.size) := (by have := H4.out.2.2.1.size; rw [Z0.out] at this; exact this : S + 1 ≤ w4.heap.size)
      have H5 : Hid (Cv 58 w5 N1 W H c ∧ Cv 58 w5 N2 W H d ∧ Below (S + 1) W0 w5) := ⟨H4.out.1.below B5, V5, H4.out.2.2.1.trans (B5.mono hs4.out)⟩
      clear V5 hN5 B5 CL2
      have r0 : Hid (R6 42 w5 S ku au bu su tu (.slice pu lu mu)) := (H5.out.2.2.block S (by omega)).trans R0.out
      have d5 := r0.out.c5
      have F5 := F4.out w5 (HU.out.below (G0.out.below.trans (H5.out.2.2.mono (by rw [HS.out]; omega))))
      go_wp2_with fail
      refine Calls.mono F5 ?_
      rintro e6 w6 ⟨rfl, g6⟩
      have H6 : Hid (Cv 58 w6 N1 W H c ∧ Cv 58 w6 N2 W H d ∧ Gr w5 w6) := ⟨H5.out.1.gr g6, H5.out.2.1.gr g6, g6⟩
      clear g6 F5 d5 r0
      obtain ⟨W7, hW7⟩ : ∃ z, w6.alloc (.cells #[.int .i64 x4, .int .i64 x5, .int .i64 x6, .int .i64 x7] 54) = z := ⟨_, rfl⟩
      obtain ⟨Y, hY⟩ : ∃ z, w6.heap.size = z := ⟨_, rfl⟩
      have H7 : Hid (Cv 58 W7 N1 W H c ∧ Cv 58 W7 N2 W H d ∧ Gr w5 W7 ∧ R4 54 W7 Y x4 x5 x6 x7) := by
        rw [← hW7, ← hY]; exact ⟨H6.out.1.gr ((Gr.refl _).alloc _), H6.out.2.1.gr ((Gr.refl _).alloc _), H6.out.2.2.alloc _, R4.new _ _ _ _ _ _⟩
      go_wp2_with fail
      clear hW7 hY
      have HO : Hid (∀ (px py : Int) w, Calls Try.prog 22 #[rv x4 x5 x6 x7, .int .i64 px, .int .i64 py] w fun e w' => e = .returned (.bool (holdB x4 x5 x6 x7 px py)) ∧ Gr w w') := fun px py w => rHolds_any x4 x5 x6 x7 px py w
      unfold rv at HO
      go_loopw [15] (fun jv wr => ∃ j : Nat, j ≤ N ∧ jv = .int .i64 j ∧ Hid (Gr W7 wr)) (fun jv _ => N - (intOf jv).toNat)
      case atStart => exact ⟨0, by omega, rfl, Gr.refl W7⟩
      case round =>
        obtain ⟨j, hj, rfl, HG⟩ := hrel
        by_cases hjl : j < N
        · have hjl' : (j : Int) < (N : Int) := by omega
          have HI : Hid (j < W * H) := by rw [HN.out]; exact hjl
          obtain ⟨y, hy⟩ : ∃ y, j / W = y := ⟨_, rfl⟩
          obtain ⟨x, hx⟩ : ∃ x, j % W = x := ⟨_, rfl⟩
          have hyH : y < H := by rw [← hy]; exact div_lt HI.out
          have hxW : x < W := by rw [← hx]; exact Nat.mod_lt _ (by omega)
          have eo : y * W * 5 + x * 5 = j * 5 := by rw [← hy, ← hx]; exact lin_off j W
          have er : (j : Int) % (W : Int) = (x : Int) := by rw [← hx]; omega
          have eq : (j : Int) / (W : Int) = (y : Int) := by rw [← hy]; omega
          have w0 : ¬ W = 0 := by omega
          have er' : (j : Int).tmod (W : Int) = (x : Int) := by rw [Int.tmod_eq_emod_of_nonneg (by omega)]; exact er
          have eq' : (j : Int).tdiv (W : Int) = (y : Int) := by rw [Int.tdiv_eq_ediv_of_nonneg (by omega)]; exact eq
          have wy : IntKind.i64.wrap (y : Int) = (y : Int) := by rw [IntKind.wrap_i64]; omega
          have hr := div_rem hW.1 er
          have hq := div_quo hW.1 eq (by omega)
          have V1 := H7.out.1.gr HG.out
          have V2 := H7.out.2.1.gr HG.out
          have RY := H7.out.2.2.2.gr HG.out
          have z0 := cell_grown RY.lt RY.c0
          have z1 := cell_grown RY.lt RY.c1
          have z2 := cell_grown RY.lt RY.c2
          have z3 := cell_grown RY.lt RY.c3
          have HXY := HDC.out y x hyH hxW
          have HOX := HO.out x y
          obtain ⟨bh, hbh⟩ : ∃ z, holdB x4 x5 x6 x7 x y = z := ⟨_, rfl⟩
          rw [hbh] at HXY HOX
          have HHO : Hid (∀ w, Calls Try.prog 22 #[.agg #[.int .i64 x4, .int .i64 x5, .int .i64 x6, .int .i64 x7], .int .i64 x, .int .i64 y] w fun e w' => e = .returned (.bool bh) ∧ Gr w w') := HOX
          have HXX : Hid (bh = false → d y x = c y x ∨ (d y x = bl (c y x) ∧ (c y x).p ≠ 0)) := HXY
          clear hy hx hbh HXY HOX er eq
          have HVV : Hid (Cv 58 wr N1 W H c ∧ Cv 58 wr N2 W H d ∧ R4 54 wr Y x4 x5 x6 x7) := ⟨V1, V2, RY⟩
          clear V1 V2 RY
          go_wp2_with fail
          have hmix : Try.prog.follows .mixedOrders = true := by kernel_rfl
          go_quiet_grown (first | (go_at_call 22; exact Calls.grown_of (HHO.out _)))
          dsimp only
          obtain ⟨w8, hw8⟩ : ∃ z, grow (wr.drewN nq) osq = z := ⟨_, rfl⟩
          have G8 : Hid (Gr wr w8) := ⟨nq, osq, hw8.symm⟩
          rw [hw8]
          clear hw8
          all_goals
            clear z0 z1 z2 z3 er' eq' hr hq wy w0
            have V1 := HVV.out.1.gr G8.out
            have V2 := HVV.out.2.1.gr G8.out
            have s0 := V1.c0 hyH hxW
            have s1 := V1.c1 hyH hxW
            have s2 := V1.c2 hyH hxW
            have s3 := V1.c3 hyH hxW
            have s4 := V1.c4 hyH hxW
            have t0 := V2.c0 hyH hxW
            have t1 := V2.c1 hyH hxW
            have t2 := V2.c2 hyH hxW
            have t3 := V2.c3 hyH hxW
            have t4 := V2.c4 hyH hxW
            have l1 := V1.lt
            have l2 := V2.lt
            rw [eo] at s0 s1 s2 s3 s4 t0 t1 t2 t3 t4
            clear V1 V2
            obtain ⟨ce, hce⟩ : ∃ z, c y x = z := ⟨_, rfl⟩
            obtain ⟨de, hde⟩ : ∃ z, d y x = z := ⟨_, rfl⟩
            rw [hce, hde] at HXX
            rw [hce] at s0 s1 s2 s3 s4
            rw [hde] at t0 t1 t2 t3 t4
            clear hce hde
            obtain ⟨f0, f1, f2, f3, f4⟩ := ce
            simp only at s0 s1 s2 s3 s4
            cases bh with
            | true =>
              clear t0 t1 t2 t3 t4
              go_wp2_with fail
              go_quiet (fail)
              go_wp2
              go_roundw
              case rel => exact ⟨j + 1, by omega, by go_num, ((HG.out.trans G8.out).alloc _).drewN _⟩
              case measure => simp [intOf]; omega
            | false =>
              rcases HXX.out rfl with hd | ⟨hd, hne⟩
              · subst hd
                simp only at t0 t1 t2 t3 t4
                go_wp2_with fail
                go_quiet (fail)
                go_wp2
                go_roundw
                case rel => exact ⟨j + 1, by omega, by go_num, ((HG.out.trans G8.out).alloc _).drewN _⟩
                case measure => simp [intOf]; omega
              · subst hd
                unfold bl spc at t0
                unfold bl at t1 t2 t3 t4
                simp only at t0 t1 t2 t3 t4 hne
                have n1 : ((0 : Int) == f4) = false := by simp; omega
                have n2 : (f4 == (0 : Int)) = false := by simp; omega
                go_wp2_with fail
                go_quiet (fail)
                go_wp2
                go_roundw
                case rel => exact ⟨j + 1, by omega, by go_num, ((HG.out.trans G8.out).alloc _).drewN _⟩
                case measure => simp [intOf]; omega
        · have hjl' : ¬ (j : Int) < (N : Int) := by omega
          go_wp2
          go_ret
          exact ⟨rfl, (G0.out.below.trans (H5.out.2.2.mono (by rw [HS.out]; omega))).trans ((H7.out.2.2.1.trans HG.out).below.mono (by have := H5.out.2.2.size; rw [Z0.out] at this; rw [HS.out]; omega))⟩
theorem clip_walk (x0 x1 : Int) (v : Value) (n : Nat) (op : Nat → OpR) (w : World) (h : OpsIn w v n op) (hn : n ≤ 17592186044416) (r : OpR) (hr : Ints w (.slice r.p r.zs.length r.m) r.zs) : Calls Try.prog 7 #[.int .i64 x0, .int .i64 x1, v, opv r.kd r.a r.b r.s r.t (.slice r.p r.zs.length r.m)] w fun e w' => e = .returned (.bool true) ∧ Below w.heap.size w w' := by
  by_cases hg : (1 ≤ x0 ∧ x0 ≤ 400) ∧ (1 ≤ x1 ∧ x1 ≤ 400)
  · obtain ⟨W, rfl⟩ := Int.eq_ofNat_of_zero_le (show 0 ≤ x0 by omega)
    obtain ⟨H, rfl⟩ := Int.eq_ofNat_of_zero_le (show 0 ≤ x1 by omega)
    exact clip_ok W H (by omega) (by omega) v n op w h hn _ _ _ _ _ _ _ _ hr
  · exact clip_bad x0 x1 v _ _ _ _ _ _ w hg
end Go.Proofs.Ytepkoiijdckcnag
