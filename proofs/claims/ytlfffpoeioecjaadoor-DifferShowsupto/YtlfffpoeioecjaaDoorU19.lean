/-
  The document's terminal: a sign that has a width.
-/
import Derived.Test.YtlfffpoeioecjaaDoorU18
import Derived.Deep.OwnRows
namespace Go.Proofs.YtlfffpoeioecjaaDoor
open Go.RowKit Go.Sort
set_option linter.unusedVariables false

theorem infoI : (Tryd.prog.info? 3).map (fun i => (i.zero, i.size, i.bytes)) = some (some (.int .i64 0), 1, 8) := by kernel_rfl
/-- Numbers in a block. -/
structure IR (Q : World) (B n : Nat) (g : Nat → Int) : Prop where
  arr : ∃ a, Q.heap[B]? = some (.cells a 3 (0, 0))
  cell : ∀ i, i < n → Q.cell? ⟨B, i, none⟩ = some (.int .i64 (g i))
theorem IR.lt {Q : World} {B n : Nat} {g : Nat → Int} (h : IR Q B n g) : B < Q.heap.size := by obtain ⟨a, ha⟩ := h.arr; exact (Array.getElem?_eq_some_iff.1 ha).1
theorem IR.fz {Q : World} {B n : Nat} {g : Nat → Int} (h : IR Q B n g) (j : Nat) : Q.frozen? ⟨B, j, none⟩ = false := by obtain ⟨a, ha⟩ := h.arr; exact frozen_of_row _ _ _ _ _ ha
theorem IR.keep {Q Q' : World} {B n : Nat} {g : Nat → Int} (h : IR Q B n g) (hb : Q'.heap[B]? = Q.heap[B]?) : IR Q' B n g := by
  refine ⟨by rw [hb]; exact h.arr, fun i hi => ?_⟩
  rw [← h.cell i hi]
  simp [World.cell?, hb]
theorem IR.set {Q : World} {B n : Nat} {g g' : Nat → Int} (h : IR Q B n g) {i : Nat} (hi : i < n) (z : Int) (hg : ∀ j, j < n → g' j = if j = i then z else g j) : IR (Q.setCell ⟨B, i, none⟩ (.int .i64 z)) B n g' := by
  obtain ⟨a, ha⟩ := h.arr
  refine ⟨⟨_, heap_setCell_same Q B i _ _ _ ha⟩, fun j hj => ?_⟩
  rw [hg j hj]
  by_cases e : j = i
  · subst e
    rw [if_pos rfl]
    exact World.cell?_setCell_same' _ _ _ (by rw [h.cell j hj]; rfl)
  · rw [if_neg e, World.cell?_setCell_other _ _ _ _ (fun q => by injection q with _ q _; exact e q.symm)]
    exact h.cell j hj
theorem IR.new (w : World) (n : Nat) : IR (w.alloc (.cells (madeCells #[.int .i64 0] n) 3)) w.heap.size n (fun _ => 0) :=
  ⟨⟨_, heap_alloc_new _ _⟩, fun j hj => by rw [World.cell?_alloc_at _ _ _ _ rfl]; simp [madeCells, hj, Nat.mod_one]⟩
theorem keepch {w w' : World} {M : Nat} {p : Addr} {v : Value} (g : Ch M w w') (h : w.cell? p = some v) (hb : p.block ≠ M) : w'.cell? p = some v := by
  have := g.block p.block (World.block_lt_of_cell? w p h) hb
  rw [← h]
  unfold World.cell?
  rw [this]

/-- The number of a part at a place of the list. -/
def ptA (W : Nat) (c : Nat → Nat → Ce) (i : Nat) : Int := (c (i / W) (i % W)).p
def bigC (s : Rm) (r : Int) : Nat → Nat → Ce := putC s.W s.H s.c s.x s.y (encB r) (wid r) s.f s.g s.b 0 0 s.W s.H
def wrN (s : Rm) (r : Int) : Nat → Bool := fun i => s.wv i || (decide (s.y * s.W + s.x ≤ (i : Int) ∧ (i : Int) < s.y * s.W + s.x + wid r) || decide (ptA s.W s.c i ≠ ptA s.W (bigC s r) i))
def bigR (s : Rm) (r : Int) : Rm :=
  if s.x + wid r > s.W then { s with la := -1 }
  else { s with c := bigC s r, la := s.y * s.W + s.x, mks := 0, x := s.x + wid r, wv := wrN s r }
theorem Cv.part {T : TypeId} {Q : World} {M W H : Nat} {c : Nat → Nat → Ce} (h : Cv T Q M W H c) {i : Nat} (hW : 1 ≤ W) (hi : i < W * H) : Q.cell? ⟨M, i * 5 + 4, none⟩ = some (.int .i64 (ptA W c i)) := by
  have hx : i % W < W := Nat.mod_lt _ (by omega)
  have hy : i / W < H := Nat.div_lt_of_lt_mul hi
  have := h.c4 hy hx
  have eo : i / W * W * 5 + i % W * 5 + 4 = i * 5 + 4 := by have := Nat.div_add_mod i W; rw [Nat.mul_comm] at this; omega
  rw [eo] at this
  exact this

section
variable {T K M cap B bc : Nat} {s : Rm}
set_option maxRecDepth 100000 in
set_option maxHeartbeats 16000000 in
theorem rbig_any (w : World) (h : RT w T K M cap B bc s) (hi : Ri s) (r : Int) (hr : wid r = 1 ∨ wid r = 2) : Calls Tryd.prog 53 #[.pointer (some ⟨T, 0, none⟩), .int .i64 r] w fun e w' => PrOut w w' e T K M cap B bc (bigR s r) := by
  have hmix : Tryd.prog.follows .mixedOrders = true := by kernel_rfl
  obtain ⟨wd, hwd⟩ : ∃ z, wid r = z := ⟨_, rfl⟩
  have WI : Hid (Calls Tryd.prog 49 #[.int .i64 r] w fun e w' => e = .returned (.int .i64 wd) ∧ Below w.heap.size w w') := by have := rWidth_any r w; rw [hwd] at this; exact this
  have WG : Hid (∀ w, Calls Tryd.prog 50 #[.int .i64 r] w fun e w' => e = .returned (.string (encB r)) ∧ Gr w w') := written_gr r
  rw [hwd] at hr
  have HWD : Hid (wid r = wd) := hwd
  have HR : Hid (RT w T K M cap B bc s) := h
  have HI : Hid (Ri s) := hi
  have e0 : (wd == 0) = false := by rcases hr with h | h <;> subst h <;> rfl
  clear h hi hwd
  go_enter Tryd.func53, Tryd.ntmps53
  go_wp2_with fail
  refine WI.out.mono ?_
  rintro e w1 ⟨rfl, b1⟩
  have H1 : Hid (RT w1 T K M cap B bc s) := HR.out.below b1
  have B1 : Hid (C3 T M B w w1) := C3.below b1
  have d7 : ∃ v, w1.cell? ⟨T, 7, none⟩ = some v := ⟨_, H1.out.at rfl⟩
  obtain ⟨v7, d7⟩ := d7
  have f7 := H1.out.fz 7
  clear b1 HR WI
  go_wp2_with fail
  obtain ⟨w2, hw2⟩ : ∃ z, w1.setCell ⟨T, 7, none⟩ (.int .i64 (-1)) = z := ⟨_, rfl⟩
  have H2 : Hid (RT w2 T K M cap B bc { s with la := -1 }) := by rw [← hw2]; exact H1.out.set 7 (.int .i64 (-1)) { s with la := -1 } rfl ⟨rfl, rfl, rfl, rfl⟩
  have B2 : Hid (C3 T M B w w2) := by rw [← hw2]; exact B1.out.set _ _
  rw [hw2]
  clear hw2 d7 f7 H1 B1
  obtain ⟨x, hx⟩ : ∃ z, s.x = z := ⟨_, rfl⟩
  have HX : Hid (s.x = x) := hx
  have q1 : w2.cell? ⟨T, 1, none⟩ = some (.int .i64 x) := by rw [← hx]; exact H2.out.at rfl
  have q0 : w2.cell? ⟨T, 0, none⟩ = some (.pointer (some ⟨K, 0, none⟩)) := H2.out.at rfl
  have k0 : w2.cell? ⟨K, 0, none⟩ = some (.int .i64 s.W) := H2.out.cs.k0
  have hx0 := HI.out.x0
  have hx1 := HI.out.x1
  have hWb := H2.out.hW
  simp only at hWb
  rw [hx] at hx0 hx1
  clear hx
  by_cases hf : (s.W : Int) < x + wd
  · have hf' : decide ((s.W : Int) < x + wd) = true := decide_eq_true hf
    go_quiet (fail)
    go_wp2
    refine bodyPost_ret (v := .tuple #[]) (by simp [results, Tryd.results53, go_sem]) rfl ?_
    exact ⟨rfl, by unfold bigR; rw [if_pos (by rw [HX.out, HWD.out]; exact hf)]; exact H2.out.gr ((Gr.refl _).drewN _), B2.out.trans (C3.gr ((Gr.refl _).drewN _))⟩
  · have hf' : decide ((s.W : Int) < x + wd) = false := decide_eq_false hf
    obtain ⟨n, hn⟩ : ∃ n, s.W * s.H = n := ⟨_, rfl⟩
    have HN : Hid (s.W * s.H = n) := hn
    have HNN : Hid (s.W * s.H = n) := hn
    have hnb : n ≤ 160000 := by rw [← hn]; exact Nat.le_trans (Nat.mul_le_mul H2.out.hW.2 H2.out.hH.2) (by decide)
    have hmk : ∀ u : World, (Instr.makeSlice 113 (.int .i64 (n : Int)) (.int .i64 (n : Int))).run Tryd.prog u = .ok (.slice (some ⟨u.heap.size, 0, none⟩) n n) (u.alloc (.cells (madeCells #[.int .i64 0] n) 3)) := fun u => run_make_row' (P := Tryd.prog) 113 3 (.int .i64 0) 8 Tryd.underlying113 infoI rfl .i64 .i64 n (by omega) (by omega) u
    clear hn
    go_quiet (fail)
    obtain ⟨w3, hw3⟩ : ∃ z, w2.drewN nq = z := ⟨_, rfl⟩
    have H3 : Hid (RT w3 T K M cap B bc { s with la := -1 }) := by rw [← hw3]; exact H2.out.gr ((Gr.refl _).drewN _)
    have B3 : Hid (C3 T M B w w3) := by rw [← hw3]; exact B2.out.trans (C3.gr ((Gr.refl _).drewN _))
    rw [hw3]
    have c0 : w3.cell? ⟨T, 0, none⟩ = some (.pointer (some ⟨K, 0, none⟩)) := H3.out.at rfl
    have c2 : w3.cell? ⟨K, 2, none⟩ = some (.slice (some ⟨M, 0, none⟩) n cap) := by rw [← HN.out]; exact H3.out.cs.k2
    clear hw3 q1 q0 k0 H2 B2
    go_wp2_with fail
    obtain ⟨S, hS⟩ : ∃ z, w3.heap.size = z := ⟨_, rfl⟩
    obtain ⟨W3, hW3⟩ : ∃ z, w3.alloc (.cells (madeCells #[.int .i64 0] n) 3) = z := ⟨_, rfl⟩
    have G3 : Hid (Gr w3 W3) := by rw [← hW3]; exact (Gr.refl _).alloc _
    have I3 : Hid (IR W3 S n (fun _ => 0)) := by rw [← hW3, ← hS]; exact IR.new w3 n
    have HSM : Hid (w3.heap.size = S) := hS
    rw [hW3, hS]
    clear hW3 hS c0 c2
    go_loopw [6] (fun iv wr => ∃ i : Nat, i ≤ n ∧ iv = .int .i64 i ∧ Hid (Gr w3 wr) ∧ Hid (IR wr S n (fun j => if j < i then ptA s.W s.c j else 0))) (fun iv _ => n - (intOf iv).toNat)
    case atStart => exact ⟨0, by omega, rfl, G3.out, I3.out⟩
    case round =>
      obtain ⟨i, hi, rfl, HG, HJ⟩ := hrel
      by_cases hlt : i < n
      · have hlt' : (i : Int) < (n : Int) := by omega
        have HW := H3.out.gr HG.out
        have c0 : wr.cell? ⟨T, 0, none⟩ = some (.pointer (some ⟨K, 0, none⟩)) := HW.at rfl
        have c2 : wr.cell? ⟨K, 2, none⟩ = some (.slice (some ⟨M, 0, none⟩) n cap) := by rw [← HN.out]; exact HW.cs.k2
        have c4 : wr.cell? ⟨M, i * 5 + 4, none⟩ = some (.int .i64 (ptA s.W s.c i)) := HW.cs.cv.part hWb.1 (by show i < s.W * s.H; rw [HN.out]; exact hlt)
        have s0 : ∃ z : Int, wr.cell? ⟨S, i, none⟩ = some (.int .i64 z) := ⟨_, HJ.out.cell i hlt⟩
        obtain ⟨z0, s0⟩ := s0
        have sf := HJ.out.fz i
        obtain ⟨pv, hpv⟩ : ∃ z, ptA s.W s.c i = z := ⟨_, rfl⟩
        have HN2 : Hid (IR (wr.setCell ⟨S, i, none⟩ (.int .i64 pv)) S n (fun j => if j < i + 1 then ptA s.W s.c j else 0)) := HJ.out.set hlt pv (fun j hj => by
          by_cases e : j = i
          · subst e; rw [if_pos (by omega), if_pos rfl, hpv]
          · rw [if_neg e]
            by_cases e2 : j < i
            · rw [if_pos (by omega), if_pos e2]
            · rw [if_neg (by omega), if_neg e2])
        have HG2 : Hid (Gr w3 (wr.setCell ⟨S, i, none⟩ (.int .i64 pv))) := HG.out.set (by rw [HSM.out]; exact Nat.le_refl _) _
        rw [hpv] at c4
        clear hpv HW
        go_wp2
        go_roundw
        case rel => exact ⟨i + 1, by omega, by go_num, HG2.out, HN2.out⟩
        case measure => simp [intOf]; omega
      · have hlt' : ¬ (i : Int) < (n : Int) := by omega
        obtain rfl : i = n := by omega
        have I4 : Hid (IR wr S i (fun j => ptA s.W s.c j)) := ⟨HJ.out.arr, fun j hj => by have := HJ.out.cell j hj; rw [if_pos hj] at this; exact this⟩
        have H4 : Hid (RT wr T K M cap B bc { s with la := -1 }) := H3.out.gr HG.out
        have B4 : Hid (C3 T M B w wr) := B3.out.trans (C3.gr HG.out)
        have hST : S ≠ T := by have h1 := H3.out.lt; have h2 := HSM.out; omega
        have hSM : S ≠ M := by have h1 := H3.out.cs.cv.lt; have h2 := HSM.out; omega
        have hSB : S ≠ B := by have h1 := H3.out.bv.lt; have h2 := HSM.out; omega
        have hTM : T ≠ M := H3.out.tm
        have hKM : K ≠ M := H3.out.cs.ne
        have hy0 := HI.out.y0
        have hy1 := HI.out.y1
        have hHb := H4.out.hH
        simp only at hHb
        obtain ⟨xn, hxn⟩ : ∃ z : Nat, x = (z : Int) := ⟨x.toNat, by omega⟩
        subst hxn
        obtain ⟨yn, hyn⟩ : ∃ z : Nat, s.y = (z : Int) := ⟨s.y.toNat, by omega⟩
        rw [hyn] at hy0 hy1
        obtain ⟨m, hm⟩ : ∃ z : Nat, yn * s.W = z := ⟨_, rfl⟩
        have hmul : (yn : Int) * (s.W : Int) = (m : Int) := by rw [← hm, Int.natCast_mul]
        have hmn : m + s.W ≤ i := by
          rw [← hm, ← HN.out, Nat.mul_comm s.W s.H]
          have : (yn + 1) * s.W ≤ s.H * s.W := Nat.mul_le_mul_right _ (by omega)
          rw [Nat.add_mul, Nat.one_mul] at this
          exact this
        have HAT : Hid (s.y * s.W + s.x = ((m + xn : Nat) : Int)) := by show _ = _; rw [hyn, HX.out, hmul]; omega
        have HYN : Hid (s.y = (yn : Int)) := hyn
        obtain ⟨ff, hff⟩ : ∃ z, s.f = z := ⟨_, rfl⟩
        obtain ⟨gg, hgg⟩ : ∃ z, s.g = z := ⟨_, rfl⟩
        obtain ⟨bb, hbb⟩ : ∃ z, s.b = z := ⟨_, rfl⟩
        obtain ⟨ex, hex⟩ : ∃ z, encB r = z := ⟨_, rfl⟩
        have c0 : wr.cell? ⟨T, 0, none⟩ = some (.pointer (some ⟨K, 0, none⟩)) := H4.out.at rfl
        have c1 : wr.cell? ⟨T, 1, none⟩ = some (.int .i64 (xn : Int)) := by rw [← HX.out]; exact H4.out.at rfl
        have c2 : wr.cell? ⟨T, 2, none⟩ = some (.int .i64 (yn : Int)) := by rw [← hyn]; exact H4.out.at rfl
        have c3 : wr.cell? ⟨T, 3, none⟩ = some (.int .i64 ff) := by rw [← hff]; exact H4.out.at rfl
        have c4 : wr.cell? ⟨T, 4, none⟩ = some (.int .i64 gg) := by rw [← hgg]; exact H4.out.at rfl
        have c5 : wr.cell? ⟨T, 5, none⟩ = some (.int .i64 bb) := by rw [← hbb]; exact H4.out.at rfl
        have k0 : wr.cell? ⟨K, 0, none⟩ = some (.int .i64 s.W) := H4.out.cs.k0
        have k1 : wr.cell? ⟨K, 1, none⟩ = some (.int .i64 s.H) := H4.out.cs.k1
        have PUT : Hid (∀ w', Gr wr w' → Calls Tryd.prog 73 #[.pointer (some ⟨K, 0, none⟩), .int .i64 (xn : Int), .int .i64 (yn : Int), .agg #[.string ex, .int .i64 wd], .agg #[.int .i64 ff, .int .i64 gg, .int .i64 bb], .agg #[.int .i64 0, .int .i64 0, .int .i64 s.W, .int .i64 s.H]] w' fun e w'' => e = .returned (.tuple #[]) ∧ Cv 57 w'' M s.W s.H (bigC s r) ∧ Ch M w' w'') := fun w' g => by
          have := rput_any w' (H4.out.gr g).cs H4.out.hW H4.out.hH H4.out.pa s.x s.y (encB r) (wid r) s.f s.g s.b 0 0 s.W s.H
          rw [HX.out, hyn, hff, hgg, hbb, hex, HWD.out] at this
          unfold bigC
          rw [HX.out, hyn, hff, hgg, hbb, hex, HWD.out]
          exact this
        rw [hex] at WG
        clear HG HJ HN H3 B3 hyn hff hgg hbb hex hmk G3 I3
        go_wp2_with fail
        go_region_held (fun W_ => W_.cell? ⟨T, 0, none⟩ = some (.pointer (some ⟨K, 0, none⟩)) ∧ W_.cell? ⟨T, 1, none⟩ = some (.int .i64 (xn : Int)) ∧ W_.cell? ⟨T, 2, none⟩ = some (.int .i64 (yn : Int)) ∧ W_.cell? ⟨T, 3, none⟩ = some (.int .i64 ff) ∧ W_.cell? ⟨T, 4, none⟩ = some (.int .i64 gg) ∧ W_.cell? ⟨T, 5, none⟩ = some (.int .i64 bb) ∧ W_.cell? ⟨K, 0, none⟩ = some (.int .i64 s.W) ∧ W_.cell? ⟨K, 1, none⟩ = some (.int .i64 s.H)) (first | exact ⟨c0, c1, c2, c3, c4, c5, k0, k1⟩ | exact ⟨keepc g2 c0, keepc g2 c1, keepc g2 c2, keepc g2 c3, keepc g2 c4, keepc g2 c5, keepc g2 k0, keepc g2 k1⟩ | exact ⟨keepch g4 (keepc g2 c0) hTM, keepch g4 (keepc g2 c1) hTM, keepch g4 (keepc g2 c2) hTM, keepch g4 (keepc g2 c3) hTM, keepch g4 (keepc g2 c4) hTM, keepch g4 (keepc g2 c5) hTM, keepch g4 (keepc g2 k0) hKM, keepch g4 (keepc g2 k1) hKM⟩) (first | (go_at_call 50; refine Calls.mono (WG.out _) ?_; rintro e1 w5 ⟨rfl, g2⟩) | (go_at_call 73; refine Calls.mono (PUT.out _ ((Gr.refl _).drew.trans g2)) ?_; rintro e1 w6 ⟨rfl, V6, g4⟩))
        have G5 : Gr wr w5 := (Gr.refl _).drew.trans g2
        have H6 : Hid (RT w6 T K M cap B bc { s with la := -1, c := bigC s r }) := RT.cells (H4.out.gr G5) V6 g4 (H4.out.pa.putX H4.out.hW H4.out.hH _ _ _ _ _ _ _ _ _ _ _)
        have I6 : Hid (IR w6 S i (fun j => ptA s.W s.c j)) := I4.out.keep ((g4.block S (Nat.lt_of_lt_of_le I4.out.lt G5.size) hSM).trans (G5.block I4.out.lt))
        have B6 : Hid (C3 T M B w w6) := (B4.out.trans (C3.gr G5)).trans (C3.ch g4)
        have d0 : w6.cell? ⟨T, 0, none⟩ = some (.pointer (some ⟨K, 0, none⟩)) := H6.out.at rfl
        have d1 : w6.cell? ⟨T, 1, none⟩ = some (.int .i64 (xn : Int)) := by rw [← HX.out]; exact H6.out.at rfl
        have d2 : w6.cell? ⟨T, 2, none⟩ = some (.int .i64 (yn : Int)) := by rw [← HYN.out]; exact H6.out.at rfl
        have k0' : w6.cell? ⟨K, 0, none⟩ = some (.int .i64 s.W) := H6.out.cs.k0
        clear V6 g4 g2 G5 H4 I4 B4 c0 c1 c2 c3 c4 c5 k0 k1 PUT WG
        obtain ⟨tt, htt⟩ : ∃ z : Nat, m + xn = z := ⟨_, rfl⟩
        have htt' : (m : Int) + (xn : Int) = (tt : Int) := by omega
        have HTT : Hid (s.y * s.W + s.x = (tt : Int)) := by show _ = _; rw [HAT.out, htt]
        have HNI : Hid (s.W * s.H = i) := HNN.out
        clear htt
        go_wp2_with fail
        go_quiet (fail)
        obtain ⟨w7, hw7⟩ : ∃ z, w6.drewN nq = z := ⟨_, rfl⟩
        have H7 : Hid (RT w7 T K M cap B bc { s with la := -1, c := bigC s r }) := by rw [← hw7]; exact H6.out.gr ((Gr.refl _).drewN _)
        have I7 : Hid (IR w7 S i (fun j => ptA s.W s.c j)) := by rw [← hw7]; exact I6.out.keep rfl
        have B7 : Hid (C3 T M B w w7) := by rw [← hw7]; exact B6.out.trans (C3.gr ((Gr.refl _).drewN _))
        rw [hw7]
        clear hw7 H6 I6 B6 d0 d1 d2 k0'
        go_wp2_with fail
        go_loopw [8] (fun iv wr => ∃ j : Nat, j ≤ i ∧ iv = .int .i64 j ∧ Hid (RT wr T K M cap B bc { s with la := -1, c := bigC s r, wv := fun z => if z < j then wrN s r z else s.wv z }) ∧ Hid (IR wr S i (fun j => ptA s.W s.c j)) ∧ Hid (C3 T M B w wr)) (fun iv _ => i - (intOf iv).toNat)
        case atStart =>
          refine ⟨0, by omega, rfl, ?_, I7.out, B7.out⟩
          exact H7.out.sameW (fun z hz => by rw [if_neg (by omega)])
        case round =>
          obtain ⟨j, hj, rfl, HQ, HJ, HC⟩ := hrel
          by_cases hlt : j < i
          · have hlt' : (j : Int) < (i : Int) := by omega
            have c0 : wr.cell? ⟨T, 0, none⟩ = some (.pointer (some ⟨K, 0, none⟩)) := HQ.out.at rfl
            have c2 : wr.cell? ⟨K, 2, none⟩ = some (.slice (some ⟨M, 0, none⟩) i cap) := by rw [← HNI.out]; exact HQ.out.cs.k2
            have d9 : wr.cell? ⟨T, 9, none⟩ = some (.slice (some ⟨B, 0, none⟩) i bc) := by rw [← HNI.out]; exact HQ.out.at rfl
            have c4 : wr.cell? ⟨M, j * 5 + 4, none⟩ = some (.int .i64 (ptA s.W (bigC s r) j)) := HQ.out.cs.cv.part hWb.1 (by show j < s.W * s.H; rw [HNI.out]; exact hlt)
            have s0 : wr.cell? ⟨S, j, none⟩ = some (.int .i64 (ptA s.W s.c j)) := HJ.out.cell j hlt
            have b0 : ∃ z : Bool, wr.cell? ⟨B, j, none⟩ = some (.bool z) := ⟨_, HQ.out.bv.cell j (by show j < s.W * s.H; rw [HNI.out]; exact hlt)⟩
            obtain ⟨z0, b0⟩ := b0
            have bf := HQ.out.bv.fz j
            obtain ⟨pa, hpa⟩ : ∃ z, ptA s.W s.c j = z := ⟨_, rfl⟩
            obtain ⟨pb, hpb⟩ : ∃ z, ptA s.W (bigC s r) j = z := ⟨_, rfl⟩
            rw [hpa] at s0
            rw [hpb] at c4
            have WN0 : Hid (wrN s r j = (s.wv j || (decide ((tt : Int) ≤ (j : Int) ∧ (j : Int) < (tt : Int) + wd) || decide (pa ≠ pb)))) := by show _ = _; unfold wrN; rw [HTT.out, HWD.out, hpa, hpb]
            clear hpa hpb
            by_cases h1 : (tt : Int) ≤ (j : Int)
            · have b1 : decide ((tt : Int) ≤ (j : Int)) = true := decide_eq_true h1
              by_cases h2 : (j : Int) < (tt : Int) + wd
              · have b2 : decide ((j : Int) < (tt : Int) + wd) = true := decide_eq_true h2
                have WN : Hid (wrN s r j = true) := by show _ = _; rw [WN0.out, decide_eq_true (show _ ∧ _ from ⟨h1, h2⟩)]; simp
                go_wp2_with fail
                go_quiet (fail)
                have HR2 : Hid (RT ((wr.drewN nq).setCell ⟨B, j, none⟩ (.bool true)) T K M cap B bc { s with la := -1, c := bigC s r, wv := fun z => if z < j + 1 then wrN s r z else s.wv z }) := by
                  have q := ((HQ.out.gr ((Gr.refl _).drewN nq)).wrote (i := j) (by show j < s.W * s.H; rw [HNI.out]; exact hlt)).sameW (wv' := fun z => if z < j + 1 then wrN s r z else s.wv z) (fun z hz => by
                    show (if z = j then true else (if z < j then wrN s r z else s.wv z)) = _
                    by_cases e : z = j
                    · subst e; rw [if_pos rfl, if_pos (by omega)]; exact WN.out.symm
                    · rw [if_neg e]
                      by_cases e2 : z < j
                      · rw [if_pos e2, if_pos (by omega)]
                      · rw [if_neg e2, if_neg (by omega)])
                  exact q
                have HI2 : Hid (IR ((wr.drewN nq).setCell ⟨B, j, none⟩ (.bool true)) S i (fun j => ptA s.W s.c j)) := HJ.out.keep (Below.heap_setCell (wr.drewN nq) ⟨B, j, none⟩ _ S hSB)
                have HC2 : Hid (C3 T M B w ((wr.drewN nq).setCell ⟨B, j, none⟩ (.bool true))) := (HC.out.trans (C3.gr ((Gr.refl _).drewN nq))).setB _ _
                have t9 : (wr.drewN nq).cell? ⟨T, 9, none⟩ = some (.slice (some ⟨B, 0, none⟩) i bc) := d9
                go_wp2
                go_roundw
                case rel => exact ⟨j + 1, by omega, by go_num, HR2.out, HI2.out, HC2.out⟩
                case measure => simp [intOf]; omega
              · have b2 : decide ((j : Int) < (tt : Int) + wd) = false := decide_eq_false h2
                by_cases h3 : pa = pb
                · subst h3
                  have WN : Hid (wrN s r j = s.wv j) := by show _ = _; rw [WN0.out, decide_eq_false (fun q => h2 q.2)]; simp
                  have e3 : (pa != pa) = false := by simp
                  go_wp2_with fail
                  go_quiet (fail)
                  have HR2 : Hid (RT (wr.drewN nq) T K M cap B bc { s with la := -1, c := bigC s r, wv := fun z => if z < j + 1 then wrN s r z else s.wv z }) := by
                    have q := (HQ.out.gr ((Gr.refl _).drewN nq)).sameW (wv' := fun z => if z < j + 1 then wrN s r z else s.wv z) (fun z hz => by
                      show (if z < j then wrN s r z else s.wv z) = _
                      by_cases e : z = j
                      · subst e; rw [if_neg (by omega), if_pos (by omega)]; exact WN.out.symm
                      · by_cases e2 : z < j
                        · rw [if_pos e2, if_pos (by omega)]
                        · rw [if_neg e2, if_neg (by omega)])
                    exact q
                  have HI2 : Hid (IR (wr.drewN nq) S i (fun j => ptA s.W s.c j)) := HJ.out.keep rfl
                  have HC2 : Hid (C3 T M B w (wr.drewN nq)) := HC.out.trans (C3.gr ((Gr.refl _).drewN nq))
                  go_wp2
                  go_roundw
                  case rel => exact ⟨j + 1, by omega, by go_num, HR2.out, HI2.out, HC2.out⟩
                  case measure => simp [intOf]; omega
                · have e3 : (pa != pb) = true := by simpa using h3
                  have WN : Hid (wrN s r j = true) := by show _ = _; rw [WN0.out, decide_eq_true (show pa ≠ pb from h3)]; simp
                  go_wp2_with fail
                  go_quiet (fail)
                  have HR2 : Hid (RT ((wr.drewN nq).setCell ⟨B, j, none⟩ (.bool true)) T K M cap B bc { s with la := -1, c := bigC s r, wv := fun z => if z < j + 1 then wrN s r z else s.wv z }) := by
                    have q := ((HQ.out.gr ((Gr.refl _).drewN nq)).wrote (i := j) (by show j < s.W * s.H; rw [HNI.out]; exact hlt)).sameW (wv' := fun z => if z < j + 1 then wrN s r z else s.wv z) (fun z hz => by
                      show (if z = j then true else (if z < j then wrN s r z else s.wv z)) = _
                      by_cases e : z = j
                      · subst e; rw [if_pos rfl, if_pos (by omega)]; exact WN.out.symm
                      · rw [if_neg e]
                        by_cases e2 : z < j
                        · rw [if_pos e2, if_pos (by omega)]
                        · rw [if_neg e2, if_neg (by omega)])
                    exact q
                  have HI2 : Hid (IR ((wr.drewN nq).setCell ⟨B, j, none⟩ (.bool true)) S i (fun j => ptA s.W s.c j)) := HJ.out.keep (Below.heap_setCell (wr.drewN nq) ⟨B, j, none⟩ _ S hSB)
                  have HC2 : Hid (C3 T M B w ((wr.drewN nq).setCell ⟨B, j, none⟩ (.bool true))) := (HC.out.trans (C3.gr ((Gr.refl _).drewN nq))).setB _ _
                  have t9 : (wr.drewN nq).cell? ⟨T, 9, none⟩ = some (.slice (some ⟨B, 0, none⟩) i bc) := d9
                  go_wp2
                  go_roundw
                  case rel => exact ⟨j + 1, by omega, by go_num, HR2.out, HI2.out, HC2.out⟩
                  case measure => simp [intOf]; omega
            · have b1 : ((tt : Int) ≤ (j : Int)) = False := eq_false h1
              have b1n : (tt ≤ j) = False := eq_false (by omega)
              by_cases h3 : pa = pb
              · subst h3
                have WN : Hid (wrN s r j = s.wv j) := by show _ = _; rw [WN0.out, decide_eq_false (fun q => h1 q.1)]; simp
                have e3 : (pa != pa) = false := by simp
                go_wp2_with fail
                go_quiet (fail)
                have HR2 : Hid (RT (wr.drewN nq) T K M cap B bc { s with la := -1, c := bigC s r, wv := fun z => if z < j + 1 then wrN s r z else s.wv z }) := by
                  have q := (HQ.out.gr ((Gr.refl _).drewN nq)).sameW (wv' := fun z => if z < j + 1 then wrN s r z else s.wv z) (fun z hz => by
                    show (if z < j then wrN s r z else s.wv z) = _
                    by_cases e : z = j
                    · subst e; rw [if_neg (by omega), if_pos (by omega)]; exact WN.out.symm
                    · by_cases e2 : z < j
                      · rw [if_pos e2, if_pos (by omega)]
                      · rw [if_neg e2, if_neg (by omega)])
                  exact q
                have HI2 : Hid (IR (wr.drewN nq) S i (fun j => ptA s.W s.c j)) := HJ.out.keep rfl
                have HC2 : Hid (C3 T M B w (wr.drewN nq)) := HC.out.trans (C3.gr ((Gr.refl _).drewN nq))
                go_wp2
                go_roundw
                case rel => exact ⟨j + 1, by omega, by go_num, HR2.out, HI2.out, HC2.out⟩
                case measure => simp [intOf]; omega
              · have e3 : (pa != pb) = true := by simpa using h3
                have WN : Hid (wrN s r j = true) := by show _ = _; rw [WN0.out, decide_eq_true (show pa ≠ pb from h3)]; simp
                go_wp2_with fail
                go_quiet (fail)
                have HR2 : Hid (RT ((wr.drewN nq).setCell ⟨B, j, none⟩ (.bool true)) T K M cap B bc { s with la := -1, c := bigC s r, wv := fun z => if z < j + 1 then wrN s r z else s.wv z }) := by
                  have q := ((HQ.out.gr ((Gr.refl _).drewN nq)).wrote (i := j) (by show j < s.W * s.H; rw [HNI.out]; exact hlt)).sameW (wv' := fun z => if z < j + 1 then wrN s r z else s.wv z) (fun z hz => by
                    show (if z = j then true else (if z < j then wrN s r z else s.wv z)) = _
                    by_cases e : z = j
                    · subst e; rw [if_pos rfl, if_pos (by omega)]; exact WN.out.symm
                    · rw [if_neg e]
                      by_cases e2 : z < j
                      · rw [if_pos e2, if_pos (by omega)]
                      · rw [if_neg e2, if_neg (by omega)])
                  exact q
                have HI2 : Hid (IR ((wr.drewN nq).setCell ⟨B, j, none⟩ (.bool true)) S i (fun j => ptA s.W s.c j)) := HJ.out.keep (Below.heap_setCell (wr.drewN nq) ⟨B, j, none⟩ _ S hSB)
                have HC2 : Hid (C3 T M B w ((wr.drewN nq).setCell ⟨B, j, none⟩ (.bool true))) := (HC.out.trans (C3.gr ((Gr.refl _).drewN nq))).setB _ _
                have t9 : (wr.drewN nq).cell? ⟨T, 9, none⟩ = some (.slice (some ⟨B, 0, none⟩) i bc) := d9
                go_wp2
                go_roundw
                case rel => exact ⟨j + 1, by omega, by go_num, HR2.out, HI2.out, HC2.out⟩
                case measure => simp [intOf]; omega
          · have hlt' : ¬ (j : Int) < (i : Int) := by omega
            obtain rfl : j = i := by omega
            have H8 : Hid (RT wr T K M cap B bc { s with la := -1, c := bigC s r, wv := wrN s r }) := HQ.out.sameW (fun z hz => by show (if z < j then wrN s r z else s.wv z) = _; rw [if_pos (by rw [← HNI.out]; exact hz)])
            have f7 := H8.out.fz
            have d7 : wr.cell? ⟨T, 7, none⟩ = some (.int .i64 (-1)) := H8.out.at rfl
            have d8 : wr.cell? ⟨T, 8, none⟩ = some (.int .i64 s.mks) := H8.out.at rfl
            have d1 : wr.cell? ⟨T, 1, none⟩ = some (.int .i64 (xn : Int)) := by rw [← HX.out]; exact H8.out.at rfl
            have HE : Hid (RT (((wr.setCell ⟨T, 7, none⟩ (.int .i64 (tt : Int))).setCell ⟨T, 8, none⟩ (.int .i64 0)).setCell ⟨T, 1, none⟩ (.int .i64 ((xn : Int) + wd))) T K M cap B bc (bigR s r)) := by
              have e1 := H8.out.set 7 (.int .i64 (tt : Int)) { s with la := (tt : Int), c := bigC s r, wv := wrN s r } rfl ⟨rfl, rfl, rfl, rfl⟩
              have e2 := e1.set 8 (.int .i64 0) { s with la := (tt : Int), c := bigC s r, wv := wrN s r, mks := 0 } rfl ⟨rfl, rfl, rfl, rfl⟩
              have e3 := e2.set 1 (.int .i64 ((xn : Int) + wd)) { s with la := (tt : Int), c := bigC s r, wv := wrN s r, mks := 0, x := (xn : Int) + wd } rfl ⟨rfl, rfl, rfl, rfl⟩
              have eq : bigR s r = { s with la := (tt : Int), c := bigC s r, wv := wrN s r, mks := 0, x := (xn : Int) + wd } := by
                unfold bigR
                rw [if_neg (by rw [HX.out, HWD.out]; omega), HTT.out, HX.out, HWD.out]
              rw [eq]
              exact e3
            have HC2 : Hid (C3 T M B w (((wr.setCell ⟨T, 7, none⟩ (.int .i64 (tt : Int))).setCell ⟨T, 8, none⟩ (.int .i64 0)).setCell ⟨T, 1, none⟩ (.int .i64 ((xn : Int) + wd)))) := ((HC.out.set _ _).set _ _).set _ _
            clear HQ HJ HC H8
            go_wp2
            go_end0
            exact ⟨rfl, HE.out, HC2.out⟩
end

end Go.Proofs.YtlfffpoeioecjaaDoor
