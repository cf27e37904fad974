/-
  The document's terminal: a sign that has a width.
-/
import Derived.Test.YtlfffpoeioecjaaDoorX20
import Derived.Deep.OwnRows
import Derived.Test.YtlfffpoeioecjaaDoorX15
import Derived.Test.YtlfffpoeioecjaaDoorX12
namespace Go.Proofs.YtlfffpoeioecjaaDoor
open Go.RowKit Go.Sort
set_option linter.unusedVariables false

theorem infoI : (Tryd.prog.info? 3).map (fun i => (i.zero, i.size, i.bytes)) = some (some (.int .i64 0), 1, 8) := by kernel_rfl
/-- Numbers in a block. -/
structure IR (Q : World) (B n : Nat) (g : Nat → Int) : Prop where
  arr : ∃ a, Q.heap[B]? = some (.cells a 3 (0, 0))
  cell : ∀ i, i < n → Q.cell? ⟨B, i, none⟩ = some (.int .i64 (g i))
theorem IR.lt {Q : World} {B n : Nat} {g : Nat → Int} (h : IR Q B n g) : B < Q.heap.size := by obtain ⟨a, ha⟩ := h.arr; exact (Array.getElem?_eq_some_iff.1 ha).1
theorem IR.fz {Q : World} {B n : Nat} {g : Nat → Int} (h : IR Q B n g) (j : Nat) : Q.frozen? ⟨B, j, none⟩ = false := by obtain ⟨a, ha⟩ := h.arr; exact frozen_of_row _ _ _ _ _ ha
theorem IR.keep {Q Q' : World} {B n : Nat} {g : Nat → Int} (h : IR Q B n g) (hb : Q'.heap[B]? = Q.heap[B]?) : IR Q' B n g := by
  refine ⟨by rw [hb]; exact h.arr, fun i hi => ?_⟩
  rw [← h.cell i hi]
  simp [World.cell?, hb]
theorem IR.set {Q : World} {B n : Nat} {g g' : Nat → Int} (h : IR Q B n g) {i : Nat} (hi : i < n) (z : Int) (hg : ∀ j, j < n → g' j = if j = i then z else g j) : IR (Q.setCell ⟨B, i, none⟩ (.int .i64 z)) B n g' := by
  obtain ⟨a, ha⟩ := h.arr
  refine ⟨⟨_, heap_setCell_same Q B i _ _ _ ha⟩, fun j hj => ?_⟩
  rw [hg j hj]
  by_cases e : j = i
  · subst e
    rw [if_pos rfl]
    exact World.cell?_setCell_same' _ _ _ (by rw [h.cell j hj]; rfl)
  · rw [if_neg e, World.cell?_setCell_other _ _ _ _ (fun q => by injection q with _ q _; exact e q.symm)]
    exact h.cell j hj
theorem IR.new (w : World) (n : Nat) : IR (w.alloc (.cells (madeCells #[.int .i64 0] n) 3)) w.heap.size n (fun _ => 0) :=
  ⟨⟨_, heap_alloc_new _ _⟩, fun j hj => by rw [World.cell?_alloc_at _ _ _ _ rfl]; simp [madeCells, hj, Nat.mod_one]⟩
theorem keepch {w w' : World} {M : Nat} {p : Addr} {v : Value} (g : Ch M w w') (h : w.cell? p = some v) (hb : p.block ≠ M) : w'.cell? p = some v := by
  have := g.block p.block (World.block_lt_of_cell? w p h) hb
  rw [← h]
  unfold World.cell?
  rw [this]

/-- The number of a part at a place of the list. -/
def ptA (W : Nat) (c : Nat → Nat → Ce) (i : Nat) : Int := (c (i / W) (i % W)).p
def bigC (s : Rm) (r : Int) : Nat → Nat → Ce := putC s.W s.H s.c s.x s.y (encB r) (wid r) s.f s.g s.b 0 0 s.W s.H
def wrN (s : Rm) (r : Int) : Nat → Bool := fun i => s.wv i || (decide (s.y * s.W + s.x ≤ (i : Int) ∧ (i : Int) < s.y * s.W + s.x + wid r) || decide (ptA s.W s.c i ≠ ptA s.W (bigC s r) i))
def bigR (s : Rm) (r : Int) : Rm :=
  if s.x + wid r > s.W then { s with la := -1 }
  else { s with c := bigC s r, la := s.y * s.W + s.x, mks := 0, x := s.x + wid r, wv := wrN s r }
theorem Cv.part {T : TypeId} {Q : World} {M W H : Nat} {c : Nat → Nat → Ce} (h : Cv T Q M W H c) {i : Nat} (hW : 1 ≤ W) (hi : i < W * H) : Q.cell? ⟨M, i * 5 + 4, none⟩ = some (.int .i64 (ptA W c i)) := by
  have hx : i % W < W := Nat.mod_lt _ (by omega)
  have hy : i / W < H := Nat.div_lt_of_lt_mul hi
  have := h.c4 hy hx
  have eo : i / W * W * 5 + i % W * 5 + 4 = i * 5 + 4 := by have := Nat.div_add_mod i W; rw [Nat.mul_comm] at this; omega
  rw [eo] at this
  exact this

section
variable {T K M cap B bc : Nat} {s : Rm}
set_option maxRecDepth 100000 in
set_option maxHeartbeats 16000000 in
theorem rbig_any (w : World) (h : RT w T K M cap B bc s) (hi : Ri s) (r : Int) (hr : wid r = 1 ∨ wid r = 2) : Calls Tryd.prog 53 #[.pointer (some ⟨T, 0, none⟩), .int .i64 r] w fun e w' => PrOut w w' e T K M cap B bc (bigR s r) := by
  have hmix : Tryd.prog.follows .mixedOrders = true := by kernel_rfl
  obtain ⟨wd, hwd⟩ : ∃ z, wid r = z := ⟨_, rfl⟩
  have WI : Hid (Calls Tryd.prog 49 #[.int .i64 r] w fun e w' => e = .returned (.int .i64 wd) ∧ Below w.heap.size w w') := by have := rWidth_any r w; rw [hwd] at this; exact this
  have WG : Hid (∀ w, Calls Tryd.prog 50 #[.int .i64 r] w fun e w' => e = .returned (.string (encB r)) ∧ Gr w w') := written_gr r
  rw [hwd] at hr
  have HWD : Hid (wid r = wd) := hwd
  have HR : Hid (RT w T K M cap B bc s) := h
  have HI : Hid (Ri s) := hi
  have e0 : (wd == 0) = false := by rcases hr with h | h <;> subst h <;> rfl
  clear h hi hwd
  go_enter Tryd.func53, Tryd.ntmps53
  go_wp2_with fail
  refine WI.out.mono ?_
  rintro e w1 ⟨rfl, b1⟩
  have H1 : Hid (RT w1 T K M cap B bc s) := HR.out.below b1
  have B1 : Hid (C3 T M B w w1) := C3.below b1
  have d7 : ∃ v, w1.cell? ⟨T, 7, none⟩ = some v := ⟨_, H1.out.at rfl⟩
  obtain ⟨v7, d7⟩ := d7
  have f7 := H1.out.fz 7
  clear b1 HR WI
  go_wp2_with fail
  obtain ⟨w2, hw2⟩ : ∃ z, w1.setCell ⟨T, 7, none⟩ (.int .i64 (-1)) = z := ⟨_, rfl⟩
  have H2 : Hid (RT w2 T K M cap B bc { s with la := -1 }) := by rw [← hw2]; exact H1.out.set 7 (.int .i64 (-1)) { s with la := -1 } rfl ⟨rfl, rfl, rfl, rfl⟩
  have B2 : Hid (C3 T M B w w2) := by rw [← hw2]; exact B1.out.set _ _
  rw [hw2]
  clear hw2 d7 f7 H1 B1
  obtain ⟨x, hx⟩ : ∃ z, s.x = z := ⟨_, rfl⟩
  have HX : Hid (s.x = x) := hx
  have q1 : w2.cell? ⟨T, 1, none⟩ = some (.int .i64 x) := by rw [← hx]; exact H2.out.at rfl
  have q0 : w2.cell? ⟨T, 0, none⟩ = some (.pointer (some ⟨K, 0, none⟩)) := H2.out.at rfl
  have k0 : w2.cell? ⟨K, 0, none⟩ = some (.int .i64 s.W) := H2.out.cs.k0
  have hx0 := HI.out.x0
  have hx1 := HI.out.x1
  have hWb := H2.out.hW
  simp only at hWb
  rw [hx] at hx0 hx1
  clear hx
  by_cases hf : (s.W : Int) < x + wd
  · have hf' : decide ((s.W : Int) < x + wd) = true := decide_eq_true hf
    go_quiet (fail)
    go_wp2
    refine bodyPost_ret (v := .tuple #[]) (by simp [results, Tryd.results53, go_sem]) rfl ?_
    exact ⟨rfl, by unfold bigR; rw [if_pos (by rw [HX.out, HWD.out]; exact hf)]; exact H2.out.gr ((Gr.refl _).drewN _), B2.out.trans (C3.gr ((Gr.refl _).drewN _))⟩
  · have hf' : decide ((s.W : Int) < x + wd) = false := decide_eq_false hf
    obtain ⟨n, hn⟩ : ∃ n, s.W * s.H = n := ⟨_, rfl⟩
    have HN : Hid (s.W * s.H = n) := hn
    have HNN : Hid (s.W * s.H = n) := hn
    have hnb : n ≤ 160000 := by rw [← hn]; exact Nat.le_trans (Nat.mul_le_mul H2.out.hW.2 H2.out.hH.2) (by decide)
    have hmk : ∀ u : World, (Instr.makeSlice 113 (.int .i64 (n : Int)) (.int .i64 (n : Int))).run Tryd.prog u = .ok (.slice (some ⟨u.heap.size, 0, none⟩) n n) (u.alloc (.cells (madeCells #[.int .i64 0] n) 3)) := fun u => run_make_row' (P := Tryd.prog) 113 3 (.int .i64 0) 8 Tryd.underlying113 infoI rfl .i64 .i64 n (by omega) (by omega) u
    clear hn
    go_quiet (fail)
    obtain ⟨w3, hw3⟩ : ∃ z, w2.drewN nq = z := ⟨_, rfl⟩
    have H3 : Hid (RT w3 T K M cap B bc { s with la := -1 }) := by rw [← hw3]; exact H2.out.gr ((Gr.refl _).drewN _)
    have B3 : Hid (C3 T M B w w3) := by rw [← hw3]; exact B2.out.trans (C3.gr ((Gr.refl _).drewN _))
    rw [hw3]
    have c0 : w3.cell? ⟨T, 0, none⟩ = some (.pointer (some ⟨K, 0, none⟩)) := H3.out.at rfl
    have c2 : w3.cell? ⟨K, 2, none⟩ = some (.slice (some ⟨M, 0, none⟩) n cap) := by rw [← HN.out]; exact H3.out.cs.k2
    clear hw3 q1 q0 k0 H2 B2
    go_wp2_with fail
    obtain ⟨S, hS⟩ : ∃ z, w3.heap.size = z := ⟨_, rfl⟩
    obtain ⟨W3, hW3⟩ : ∃ z, w3.alloc (.cells (madeCells #[.int .i64 0] n) 3) = z := ⟨_, rfl⟩
    have G3 : Hid (Gr w3 W3) := by rw [← hW3]; exact (Gr.refl _).alloc _
    have I3 : Hid (IR W3 S n (fun _ => 0)) := by rw [← hW3, ← hS]; exact IR.new w3 n
    have HSM : Hid (w3.heap.size = S) := hS
    rw [hW3, hS]
    clear hW3 hS c0 c2
    go_loopw [6] (fun iv wr => ∃ i : Nat, i ≤ n ∧ iv = .int .i64 i ∧ Hid (Gr w3 wr) ∧ Hid (IR wr S n (fun j => if j < i then ptA s.W s.c j else 0))) (fun iv _ => n - (intOf iv).toNat)
    case atStart => exact ⟨0, by omega, rfl, G3.out, I3.out⟩
    case round =>
      obtain ⟨i, hi, rfl, HG, HJ⟩ := hrel
      by_cases hlt : i < n
      · have hlt' : (i : Int) < (n : Int) := by omega
        have HW := H3.out.gr HG.out
        have c0 : wr.cell? ⟨T, 0, none⟩ = some (.pointer (some ⟨K, 0, none⟩)) := HW.at rfl
        have c2 : wr.cell? ⟨K, 2, none⟩ = some (.slice (some ⟨M, 0, none⟩) n cap) := by rw [← HN.out]; exact HW.cs.k2
        have c4 : wr.cell? ⟨M, i * 5 + 4, none⟩ = some (.int .i64 (ptA s.W s.c i)) := HW.cs.cv.part hWb.1 (by show i < s.W * s.H; rw [HN.out]; exact hlt)
        have s0 : ∃ z : Int, wr.cell? ⟨S, i, none⟩ = some (.int .i64 z) := ⟨_, HJ.out.cell i hlt⟩
        obtain ⟨z0, s0⟩ := s0
        have sf := HJ.out.fz i
        obtain ⟨pv, hpv⟩ : ∃ z, ptA s.W s.c i = z := ⟨_, rfl⟩
        have HN2 : Hid (IR (wr.setCell ⟨S, i, none⟩ (.int .i64 pv)) S n (fun j => if j < i + 1 then ptA s.W s.c j else 0)) := HJ.out.set hlt pv (fun j hj => by
          by_cases e : j = i
          · subst e; rw [if_pos (by omega), if_pos rfl, hpv]
          · rw [if_neg e]
            by_cases e2 : j < i
            · rw [if_pos (by omega), if_pos e2]
            · rw [if_neg (by omega), if_neg e2])
        have HG2 : Hid (Gr w3 (wr.setCell ⟨S, i, none⟩ (.int .i64 pv))) := HG.out.set (by rw [HSM.out]; exact Nat.le_refl _) _
        rw [hpv] at c4
        clear hpv HW
        go_wp2
        go_roundw
        case rel => exact ⟨i + 1, by omega, by go_num, HG2.out, HN2.out⟩
        case measure => simp [intOf]; omega
      · have hlt' : ¬ (i : Int) < (n : Int) := by omega
        obtain rfl : i = n := by omega
        have I4 : Hid (IR wr S i (fun j => ptA s.W s.c j)) := ⟨HJ.out.arr, fun j hj => by have := HJ.out.cell j hj; rw [if_pos hj] at this; exact this⟩
        have H4 : Hid (RT wr T K M cap B bc { s with la := -1 }) := H3.out.gr HG.out
        have B4 : Hid (C3 T M B w wr) := B3.out.trans (C3.gr HG.out)
        have hST : S ≠ T := by have h1 := H3.out.lt; have h2 := HSM.out; omega
        have hSM : S ≠ M := by have h1 := H3.out.cs.cv.lt; have h2 := HSM.out; omega
        have hSB : S ≠ B := by have h1 := H3.out.bv.lt; have h2 := HSM.out; omega
        have hTM : T ≠ M := H3.out.tm
        have hKM : K ≠ M := H3.out.cs.ne
        have hy0 := HI.out.y0
        have hy1 := HI.out.y1
        have hHb := H4.out.hH
        simp only at hHb
        obtain ⟨xn, hxn⟩ : ∃ z : Nat, x = (z : Int) := ⟨x.toNat, by omega⟩
        subst hxn
        obtain ⟨yn, hyn⟩ : ∃ z : Nat, s.y = (z : Int) := ⟨s.y.toNat, by omega⟩
        rw [hyn] at hy0 hy1
        obtain ⟨m, hm⟩ : ∃ z : Nat, yn * s.W = z := ⟨_, rfl⟩
        have hmul : (yn : Int) * (s.W : Int) = (m : Int) := by rw [← hm, Int.natCast_mul]
        have hmn : m + s.W ≤ i := by
          rw [← hm, ← HN.out, Nat.mul_comm s.W s.H]
          have : (yn + 1) * s.W ≤ s.H * s.W := Nat.mul_le_mul_right _ (by omega)
          rw [Nat.add_mul, Nat.one_mul] at this
          exact this
        have HAT : Hid (s.y * s.W + s.x = ((m + xn : Nat) : Int)) := by show _ = _; rw [hyn, HX.out, hmul]; omega
        have HYN : Hid (s.y = (yn : Int)) := hyn
        obtain ⟨ff, hff⟩ : ∃ z, s.f = z := ⟨_, rfl⟩
        obtain ⟨gg, hgg⟩ : ∃ z, s.g = z := ⟨_, rfl⟩
        obtain ⟨bb, hbb⟩ : ∃ z, s.b = z := ⟨_, rfl⟩
        obtain ⟨ex, hex⟩ : ∃ z, encB r = z := ⟨_, rfl⟩
        have c0 : wr.cell? ⟨T, 0, none⟩ = some (.pointer (some ⟨K, 0, none⟩)) := H4.out.at rfl
        have c1 : wr.cell? ⟨T, 1, none⟩ = some (.int .i64 (xn : Int)) := by rw [← HX.out]; exact H4.out.at rfl
        have c2 : wr.cell? ⟨T, 2, none⟩ = some (.int .i64 (yn : Int)) := by rw [← hyn]; exact H4.out.at rfl
        have c3 : wr.cell? ⟨T, 3, none⟩ = some (.int .i64 ff) := by rw [← hff]; exact H4.out.at rfl
        have c4 : wr.cell? ⟨T, 4, none⟩ = some (.int .i64 gg) := by rw [← hgg]; exact H4.out.at rfl
        have c5 : wr.cell? ⟨T, 5, none⟩ = some (.int .i64 bb) := by rw [← hbb]; exact H4.out.at rfl
        have k0 : wr.cell? ⟨K, 0, none⟩ = some (.int .i64 s.W) := H4.out.cs.k0
        have k1 : wr.cell? ⟨K, 1, none⟩ = some (.int .i64 s.H) := H4.out.cs.k1
        have PUT : Hid (∀ w', Gr wr w' → Calls Tryd.prog 73 #[.pointer (some ⟨K, 0, none⟩), .int .i64 (xn : Int), .int .i64 (yn : Int), .agg #[.string ex, .int .i64 wd], .agg #[.int .i64 ff, .int .i64 gg, .int .i64 bb], .agg #[.int .i64 0, .int .i64 0, .int .i64 s.W, .int .i64 s.H]] w' fun e w'' => e = .returned (.tuple #[]) ∧ Cv 57 w'' M s.W s.H (bigC s r) ∧ Ch M w' w'') := fun w' g => by
          have := rput_any w' (H4.out.gr g).cs H4.out.hW H4.out.hH H4.out.pa s.x s.y (encB r) (wid r) s.f s.g s.b 0 0 s.W s.H
          rw [HX.out, hyn, hff, hgg, hbb, hex, HWD.out] at this
          unfold bigC
          rw [HX.out, hyn, hff, hgg, hbb, hex, HWD.out]
          exact this
        rw [hex] at WG
        clear HG HJ HN H3 B3 hyn hff hgg hbb hex hmk G3 I3
        go_wp2_with fail
        go_region_held (fun W_ => W_.cell? ⟨T, 0, none⟩ = some (.pointer (some ⟨K, 0, none⟩)) ∧ W_.cell? ⟨T, 1, none⟩ = some (.int .i64 (xn : Int)) ∧ W_.cell? ⟨T, 2, none⟩ = some (.int .i64 (yn : Int)) ∧ W_.cell? ⟨T, 3, none⟩ = some (.int .i64 ff) ∧ W_.cell? ⟨T, 4, none⟩ = some (.int .i64 gg) ∧ W_.cell? ⟨T, 5, none⟩ = some (.int .i64 bb) ∧ W_.cell? ⟨K, 0, none⟩ = some (.int .i64 s.W) ∧ W_.cell? ⟨K, 1, none⟩ = some (.int .i64 s.H)) (first | exact ⟨c0, c1, c2, c3, c4, c5, k0, k1⟩ | exact ⟨keepc g2 c0, keepc g2 c1, keepc g2 c2, keepc g2 c3, keepc g2 c4, keepc g2 c5, keepc g2 k0, keepc g2 k1⟩ | exact ⟨keepch g4 (keepc g2 c0) hTM, keepch g4 (keepc g2 c1) hTM, keepch g4 (keepc g2 c2) hTM, keepch g4 (keepc g2 c3) hTM, keepch g4 (keepc g2 c4) hTM, keepch g4 (keepc g2 c5) hTM, keepch g4 (keepc g2 k0) hKM, keepch g4 (keepc g2 k1) hKM⟩) (first | (go_at_call 50; refine Calls.mono (WG.out _) ?_; rintro e1 w5 ⟨rfl, g2⟩) | (go_at_call 73; refine Calls.mono (PUT.out _ ((Gr.refl _).drew.trans g2)) ?_; rintro e1 w6 ⟨rfl, V6, g4⟩))
        have G5 : Gr wr w5 := (Gr.refl _).drew.trans g2
        have H6 : Hid (RT w6 T K M cap B bc { s with la := -1, c := bigC s r }) := RT.cells (H4.out.gr G5) V6 g4 (H4.out.pa.putX H4.out.hW H4.out.hH _ _ _ _ _ _ _ _ _ _ _)
        have I6 : Hid (IR w6 S i (fun j => ptA s.W s.c j)) := I4.out.keep ((g4.block S (Nat.lt_of_lt_of_le I4.out.lt G5.size) hSM).trans (G5.block I4.out.lt))
        have B6 : Hid (C3 T M B w w6) := (B4.out.trans (C3.gr G5)).trans (C3.ch g4)
        have d0 : w6.cell? ⟨T, 0, none⟩ = some (.pointer (some ⟨K, 0, none⟩)) := H6.out.at rfl
        have d1 : w6.cell? ⟨T, 1, none⟩ = some (.int .i64 (xn : Int)) := by rw [← HX.out]; exact H6.out.at rfl
        have d2 : w6.cell? ⟨T, 2, none⟩ = some (.int .i64 (yn : Int)) := by rw [← HYN.out]; exact H6.out.at rfl
        have k0' : w6.cell? ⟨K, 0, none⟩ = some (.int .i64 s.W) := H6.out.cs.k0
        clear V6 g4 g2 G5 H4 I4 B4 c0 c1 c2 c3 c4 c5 k0 k1 PUT WG
        obtain ⟨tt, htt⟩ : ∃ z : Nat, m + xn = z := ⟨_, rfl⟩
        have htt' : (m : Int) + (xn : Int) = (tt : Int) := by omega
        have HTT : Hid (s.y * s.W + s.x = (tt : Int)) := by show _ = _; rw [HAT.out, htt]
        have HNI : Hid (s.W * s.H = i) := HNN.out
        clear htt
        go_wp2_with fail
        go_quiet (fail)
        obtain ⟨w7, hw7⟩ : ∃ z, w6.drewN nq = z := ⟨_, rfl⟩
        have H7 : Hid (RT w7 T K M cap B bc { s with la := -1, c := bigC s r }) := by rw [← hw7]; exact H6.out.gr ((Gr.refl _).drewN _)
        have I7 : Hid (IR w7 S i (fun j => ptA s.W s.c j)) := by rw [← hw7]; exact I6.out.keep rfl
        have B7 : Hid (C3 T M B w w7) := by rw [← hw7]; exact B6.out.trans (C3.gr ((Gr.refl _).drewN _))
        rw [hw7]
        clear hw7 H6 I6 B6 d0 d1 d2 k0'
        go_wp2_with fail
        go_loopw [8] (fun iv wr => ∃ j : Nat, j ≤ i ∧ iv = .int .i64 j ∧ Hid (RT wr T K M cap B bc { s with la := -1, c := bigC s r, wv := fun z => if z < j then wrN s r z else s.wv z }) ∧ Hid (IR wr S i (fun j => ptA s.W s.c j)) ∧ Hid (C3 T M B w wr)) (fun iv _ => i - (intOf iv).toNat)
        case atStart =>
          refine ⟨0, by omega, rfl, ?_, I7.out, B7.out⟩
          exact H7.out.sameW (fun z hz => by rw [if_neg (by omega)])
        case round =>
          obtain ⟨j, hj, rfl, HQ, HJ, HC⟩ := hrel
          by_cases hlt : j < i
          · have hlt' : (j : Int) < (i : Int) := by omega
            have c0 : wr.cell? ⟨T, 0, none⟩ = some (.pointer (some ⟨K, 0, none⟩)) := HQ.out.at rfl
            have c2 : wr.cell? ⟨K, 2, none⟩ = some (.slice (some ⟨M, 0, none⟩) i cap) := by rw [← HNI.out]; exact HQ.out.cs.k2
            have d9 : wr.cell? ⟨T, 9, none⟩ = some (.slice (some ⟨B, 0, none⟩) i bc) := by rw [← HNI.out]; exact HQ.out.at rfl
            have c4 : wr.cell? ⟨M, j * 5 + 4, none⟩ = some (.int .i64 (ptA s.W (bigC s r) j)) := HQ.out.cs.cv.part hWb.1 (by show j < s.W * s.H; rw [HNI.out]; exact hlt)
            have s0 : wr.cell? ⟨S, j, none⟩ = some (.int .i64 (ptA s.W s.c j)) := HJ.out.cell j hlt
            have b0 : ∃ z : Bool, wr.cell? ⟨B, j, none⟩ = some (.bool z) := ⟨_, HQ.out.bv.cell j (by show j < s.W * s.H; rw [HNI.out]; exact hlt)⟩
            obtain ⟨z0, b0⟩ := b0
            have bf := HQ.out.bv.fz j
            obtain ⟨pa, hpa⟩ : ∃ z, ptA s.W s.c j = z := ⟨_, rfl⟩
            obtain ⟨pb, hpb⟩ : ∃ z, ptA s.W (bigC s r) j = z := ⟨_, rfl⟩
            rw [hpa] at s0
            rw [hpb] at c4
            have WN0 : Hid (wrN s r j = (s.wv j || (decide ((tt : Int) ≤ (j : Int) ∧ (j : Int) < (tt : Int) + wd) || decide (pa ≠ pb)))) := by show _ = _; unfold wrN; rw [HTT.out, HWD.out, hpa, hpb]
            clear hpa hpb
            by_cases h1 : (tt : Int) ≤ (j : Int)
            · have b1 : decide ((tt : Int) ≤ (j : Int)) = true := decide_eq_true h1
              by_cases h2 : (j : Int) < (tt : Int) + wd
              · have b2 : decide ((j : Int) < (tt : Int) + wd) = true := decide_eq_true h2
                have WN : Hid (wrN s r j = true) := by show _ = _; rw [WN0.out, decide_eq_true (show _ ∧ _ from ⟨h1, h2⟩)]; simp
                go_wp2_with fail
                go_quiet (fail)
                have HR2 : Hid (RT ((wr.drewN nq).setCell ⟨B, j, none⟩ (.bool true)) T K M cap B bc { s with la := -1, c := bigC s r, wv := fun z => if z < j + 1 then wrN s r z else s.wv z }) := by
                  have q := ((HQ.out.gr ((Gr.refl _).drewN nq)).wrote (i := j) (by show j < s.W * s.H; rw [HNI.out]; exact hlt)).sameW (wv' := fun z => if z < j + 1 then wrN s r z else s.wv z) (fun z hz => by
                    show (if z = j then true else (if z < j then wrN s r z else s.wv z)) = _
                    by_cases e : z = j
                    · subst e; rw [if_pos rfl, if_pos (by omega)]; exact WN.out.symm
                    · rw [if_neg e]
                      by_cases e2 : z < j
                      · rw [if_pos e2, if_pos (by omega)]
                      · rw [if_neg e2, if_neg (by omega)])
                  exact q
                have HI2 : Hid (IR ((wr.drewN nq).setCell ⟨B, j, none⟩ (.bool true)) S i (fun j => ptA s.W s.c j)) := HJ.out.keep (Below.heap_setCell (wr.drewN nq) ⟨B, j, none⟩ _ S hSB)
                have HC2 : Hid (C3 T M B w ((wr.drewN nq).setCell ⟨B, j, none⟩ (.bool true))) := (HC.out.trans (C3.gr ((Gr.refl _).drewN nq))).setB _ _
                have t9 : (wr.drewN nq).cell? ⟨T, 9, none⟩ = some (.slice (some ⟨B, 0, none⟩) i bc) := d9
                go_wp2
                go_roundw
                case rel => exact ⟨j + 1, by omega, by go_num, HR2.out, HI2.out, HC2.out⟩
                case measure => simp [intOf]; omega
              · have b2 : decide ((j : Int) < (tt : Int) + wd) = false := decide_eq_false h2
                by_cases h3 : pa = pb
                · subst h3
                  have WN : Hid (wrN s r j = s.wv j) := by show _ = _; rw [WN0.out, decide_eq_false (fun q => h2 q.2)]; simp
                  have e3 : (pa != pa) = false := by simp
                  go_wp2_with fail
                  go_quiet (fail)
                  have HR2 : Hid (RT (wr.drewN nq) T K M cap B bc { s with la := -1, c := bigC s r, wv := fun z => if z < j + 1 then wrN s r z else s.wv z }) := by
                    have q := (HQ.out.gr ((Gr.refl _).drewN nq)).sameW (wv' := fun z => if z < j + 1 then wrN s r z else s.wv z) (fun z hz => by
                      show (if z < j then wrN s r z else s.wv z) = _
                      by_cases e : z = j
                      · subst e; rw [if_neg (by omega), if_pos (by omega)]; exact WN.out.symm
                      · by_cases e2 : z < j
                        · rw [if_pos e2, if_pos (by omega)]
                        · rw [if_neg e2, if_neg (by omega)])
                    exact q
                  have HI2 : Hid (IR (wr.drewN nq) S i (fun j => ptA s.W s.c j)) := HJ.out.keep rfl
                  have HC2 : Hid (C3 T M B w (wr.drewN nq)) := HC.out.trans (C3.gr ((Gr.refl _).drewN nq))
                  go_wp2
                  go_roundw
                  case rel => exact ⟨j + 1, by omega, by go_num, HR2.out, HI2.out, HC2.out⟩
                  case measure => simp [intOf]; omega
                · have e3 : (pa != pb) = true := by simpa using h3
                  have WN : Hid (wrN s r j = true) := by show _ = _; rw [WN0.out, decide_eq_true (show pa ≠ pb from h3)]; simp
                  go_wp2_with fail
                  go_quiet (fail)
                  have HR2 : Hid (RT ((wr.drewN nq).setCell ⟨B, j, none⟩ (.bool true)) T K M cap B bc { s with la := -1, c := bigC s r, wv := fun z => if z < j + 1 then wrN s r z else s.wv z }) := by
                    have q := ((HQ.out.gr ((Gr.refl _).drewN nq)).wrote (i := j) (by show j < s.W * s.H; rw [HNI.out]; exact hlt)).sameW (wv' := fun z => if z < j + 1 then wrN s r z else s.wv z) (fun z hz => by
                      show (if z = j then true else (if z < j then wrN s r z else s.wv z)) = _
                      by_cases e : z = j
                      · subst e; rw [if_pos rfl, if_pos (by omega)]; exact WN.out.symm
                      · rw [if_neg e]
                        by_cases e2 : z < j
                        · rw [if_pos e2, if_pos (by omega)]
                        · rw [if_neg e2, if_neg (by omega)])
                    exact q
                  have HI2 : Hid (IR ((wr.drewN nq).setCell ⟨B, j, none⟩ (.bool true)) S i (fun j => ptA s.W s.c j)) := HJ.out.keep (Below.heap_setCell (wr.drewN nq) ⟨B, j, none⟩ _ S hSB)
                  have HC2 : Hid (C3 T M B w ((wr.drewN nq).setCell ⟨B, j, none⟩ (.bool true))) := (HC.out.trans (C3.gr ((Gr.refl _).drewN nq))).setB _ _
                  have t9 : (wr.drewN nq).cell? ⟨T, 9, none⟩ = some (.slice (some ⟨B, 0, none⟩) i bc) := d9
                  go_wp2
                  go_roundw
                  case rel => exact ⟨j + 1, by omega, by go_num, HR2.out, HI2.out, HC2.out⟩
                  case measure => simp [intOf]; omega
            · have b1 : ((tt : Int) ≤ (j : Int)) = False := eq_false h1
              have b1n : (tt ≤ j) = False := eq_false (by omega)
              by_cases h3 : pa = pb
              · subst h3
                have WN : Hid (wrN s r j = s.wv j) := by show _ = _; rw [WN0.out, decide_eq_false (fun q => h1 q.1)]; simp
                have e3 : (pa != pa) = false := by simp
                go_wp2_with fail
                go_quiet (fail)
                have HR2 : Hid (RT (wr.drewN nq) T K M cap B bc { s with la := -1, c := bigC s r, wv := fun z => if z < j + 1 then wrN s r z else s.wv z }) := by
                  have q := (HQ.out.gr ((Gr.refl _).drewN nq)).sameW (wv' := fun z => if z < j + 1 then wrN s r z else s.wv z) (fun z hz => by
                    show (if z < j then wrN s r z else s.wv z) = _
                    by_cases e : z = j
                    · subst e; rw [if_neg (by omega), if_pos (by omega)]; exact WN.out.symm
                    · by_cases e2 : z < j
                      · rw [if_pos e2, if_pos (by omega)]
                      · rw [if_neg e2, if_neg (by omega)])
                  exact q
                have HI2 : Hid (IR (wr.drewN nq) S i (fun j => ptA s.W s.c j)) := HJ.out.keep rfl
                have HC2 : Hid (C3 T M B w (wr.drewN nq)) := HC.out.trans (C3.gr ((Gr.refl _).drewN nq))
                go_wp2
                go_roundw
                case rel => exact ⟨j + 1, by omega, by go_num, HR2.out, HI2.out, HC2.out⟩
                case measure => simp [intOf]; omega
              · have e3 : (pa != pb) = true := by simpa using h3
                have WN : Hid (wrN s r j = true) := by show _ = _; rw [WN0.out, decide_eq_true (show pa ≠ pb from h3)]; simp
                go_wp2_with fail
                go_quiet (fail)
                have HR2 : Hid (RT ((wr.drewN nq).setCell ⟨B, j, none⟩ (.bool true)) T K M cap B bc { s with la := -1, c := bigC s r, wv := fun z => if z < j + 1 then wrN s r z else s.wv z }) := by
                  have q := ((HQ.out.gr ((Gr.refl _).drewN nq)).wrote (i := j) (by show j < s.W * s.H; rw [HNI.out]; exact hlt)).sameW (wv' := fun z => if z < j + 1 then wrN s r z else s.wv z) (fun z hz => by
                    show (if z = j then true else (if z < j then wrN s r z else s.wv z)) = _
                    by_cases e : z = j
                    · subst e; rw [if_pos rfl, if_pos (by omega)]; exact WN.out.symm
                    · rw [if_neg e]
                      by_cases e2 : z < j
                      · rw [if_pos e2, if_pos (by omega)]
                      · rw [if_neg e2, if_neg (by omega)])
                  exact q
                have HI2 : Hid (IR ((wr.drewN nq).setCell ⟨B, j, none⟩ (.bool true)) S i (fun j => ptA s.W s.c j)) := HJ.out.keep (Below.heap_setCell (wr.drewN nq) ⟨B, j, none⟩ _ S hSB)
                have HC2 : Hid (C3 T M B w ((wr.drewN nq).setCell ⟨B, j, none⟩ (.bool true))) := (HC.out.trans (C3.gr ((Gr.refl _).drewN nq))).setB _ _
                have t9 : (wr.drewN nq).cell? ⟨T, 9, none⟩ = some (.slice (some ⟨B, 0, none⟩) i bc) := d9
                go_wp2
                go_roundw
                case rel => exact ⟨j + 1, by omega, by go_num, HR2.out, HI2.out, HC2.out⟩
                case measure => simp [intOf]; omega
          · have hlt' : ¬ (j : Int) < (i : Int) := by omega
            obtain rfl : j = i := by omega
            have H8 : Hid (RT wr T K M cap B bc { s with la := -1, c := bigC s r, wv := wrN s r }) := HQ.out.sameW (fun z hz => by show (if z < j then wrN s r z else s.wv z) = _; rw [if_pos (by rw [← HNI.out]; exact hz)])
            have f7 := H8.out.fz
            have d7 : wr.cell? ⟨T, 7, none⟩ = some (.int .i64 (-1)) := H8.out.at rfl
            have d8 : wr.cell? ⟨T, 8, none⟩ = some (.int .i64 s.mks) := H8.out.at rfl
            have d1 : wr.cell? ⟨T, 1, none⟩ = some (.int .i64 (xn : Int)) := by rw [← HX.out]; exact H8.out.at rfl
            have HE : Hid (RT (((wr.setCell ⟨T, 7, none⟩ (.int .i64 (tt : Int))).setCell ⟨T, 8, none⟩ (.int .i64 0)).setCell ⟨T, 1, none⟩ (.int .i64 ((xn : Int) + wd))) T K M cap B bc (bigR s r)) := by
              have e1 := H8.out.set 7 (.int .i64 (tt : Int)) { s with la := (tt : Int), c := bigC s r, wv := wrN s r } rfl ⟨rfl, rfl, rfl, rfl⟩
              have e2 := e1.set 8 (.int .i64 0) { s with la := (tt : Int), c := bigC s r, wv := wrN s r, mks := 0 } rfl ⟨rfl, rfl, rfl, rfl⟩
              have e3 := e2.set 1 (.int .i64 ((xn : Int) + wd)) { s with la := (tt : Int), c := bigC s r, wv := wrN s r, mks := 0, x := (xn : Int) + wd } rfl ⟨rfl, rfl, rfl, rfl⟩
              have eq : bigR s r = { s with la := (tt : Int), c := bigC s r, wv := wrN s r, mks := 0, x := (xn : Int) + wd } := by
                unfold bigR
                rw [if_neg (by rw [HX.out, HWD.out]; omega), HTT.out, HX.out, HWD.out]
              rw [eq]
              exact e3
            have HC2 : Hid (C3 T M B w (((wr.setCell ⟨T, 7, none⟩ (.int .i64 (tt : Int))).setCell ⟨T, 8, none⟩ (.int .i64 0)).setCell ⟨T, 1, none⟩ (.int .i64 ((xn : Int) + wd)))) := ((HC.out.set _ _).set _ _).set _ _
            clear HQ HJ HC H8
            go_wp2
            go_end0
            exact ⟨rfl, HE.out, HC2.out⟩
end

end Go.Proofs.YtlfffpoeioecjaaDoor

namespace Go.Proofs.YtlfffpoeioecjaaDoor
open Go.RowKit Go.Sort
set_option linter.unusedVariables false

theorem pall1 (W H : Nat) : PAll W H (fun _ _ => bk 0 0 0) := fun y hy => ⟨fun i hi => .inl rfl, fun i hi h => absurd h (by show ¬ (0 : Int) = 1; decide), fun i hi h => absurd h (by show ¬ (0 : Int) = 2; decide)⟩
def doR (s : Rm) (b : Int) (zs : List Int) : Rm :=
  if b = 72 then { s with y := min (max 1 (zs[(0 : Nat)]?.getD 0)) s.H - 1, x := min (if 1 < zs.length then max 1 (zs[(1 : Nat)]?.getD 0) else 1) s.W - 1 }
  else if b = 74 then (if zs[(0 : Nat)]?.getD 0 = 2 then { s with c := fun _ _ => bk 0 0 0, wv := fun _ => true } else s)
  else if b = 109 then { s with f := aplF zs s.f, g := aplG zs s.g, b := aplB zs s.b }
  else s
/-- What it leaves: the cells may lie elsewhere. -/
structure DoOut (w w' : World) (T M B bc : Nat) (s : Rm) : Prop where
  rt : ∃ K' M' cap', RT w' T K' M' cap' B bc s ∧ (M' = M ∨ w.heap.size ≤ M')
  c3 : C3 T M B w w'
def DoEnd (w w' : World) (e : Ending) (T M B bc : Nat) (s : Rm) : Prop := e = .returned (.tuple #[]) ∧ DoOut w w' T M B bc s

theorem keepb {w w' : World} {p : Addr} {v : Value} (g : Below w.heap.size w w') (h : w.cell? p = some v) : w'.cell? p = some v := (g.cell (World.block_lt_of_cell? w p h)).trans h
section
variable {T K M cap B bc : Nat} {s : Rm}
set_option maxRecDepth 100000 in
set_option maxHeartbeats 8000000 in
theorem do_H (w : World) (h : RT w T K M cap B bc s) (zs : List Int) (v : Value) (hv : Ints w v zs) (hz : 0 < zs.length) (hzl : zs.length ≤ 16) (hzb : ∀ z ∈ zs, 0 ≤ z ∧ z ≤ 999999) : Calls Tryd.prog 70 #[.pointer (some ⟨T, 0, none⟩), .int .u8 72, v] w fun e w' => DoEnd w w' e T M B bc (doR s 72 zs) := by
  have LE : Hid (∀ a b w, Calls Tryd.prog 87 #[.int .i64 a, .int .i64 b] w fun e w' => e = .returned (.int .i64 (min a b)) ∧ w' = w) := least_any
  have GE : Hid (∀ a b w, Calls Tryd.prog 86 #[.int .i64 a, .int .i64 b] w fun e w' => e = .returned (.int .i64 (max a b)) ∧ w' = w) := greatest_any
  obtain ⟨p, c, rfl, hh⟩ := hv
  obtain ⟨b0, off, rfl, hb, hc⟩ := hh.resolve_left (fun e => by rw [e] at hz; simp at hz)
  have HR : Hid (RT w T K M cap B bc s) := h
  have z0 : w.cell? ⟨b0, off, none⟩ = some (.int .i64 (zs[0]?.getD 0)) := hc 0 hz
  obtain ⟨a0, ha0⟩ : ∃ z, zs[0]?.getD 0 = z := ⟨_, rfl⟩
  have hab : 0 ≤ a0 ∧ a0 ≤ 999999 := by rw [← ha0, List.getElem?_eq_getElem hz]; exact hzb _ (List.getElem_mem _)
  rw [ha0] at z0
  have t0 : w.cell? ⟨T, 0, none⟩ = some (.pointer (some ⟨K, 0, none⟩)) := h.at rfl
  have k0 : w.cell? ⟨K, 0, none⟩ = some (.int .i64 s.W) := h.cs.k0
  have k1 : w.cell? ⟨K, 1, none⟩ = some (.int .i64 s.H) := h.cs.k1
  have t1 : w.cell? ⟨T, 1, none⟩ = some (.int .i64 s.x) := h.at rfl
  have t2 : w.cell? ⟨T, 2, none⟩ = some (.int .i64 s.y) := h.at rfl
  have f1 := h.fz 1
  have f2 := h.fz 2
  have hW := h.hW
  have hH := h.hH
  have hTK := h.tk
  clear h hh
  by_cases h1 : 1 < zs.length
  · have h1' : (1 : Int) < (zs.length : Int) := by omega
    have z1 : w.cell? ⟨b0, off + 1, none⟩ = some (.int .i64 (zs[1]?.getD 0)) := hc 1 h1
    obtain ⟨a1, ha1⟩ : ∃ z, zs[1]?.getD 0 = z := ⟨_, rfl⟩
    have hab1 : 0 ≤ a1 ∧ a1 ≤ 999999 := by rw [← ha1, List.getElem?_eq_getElem h1]; exact hzb _ (List.getElem_mem _)
    rw [ha1] at z1
    have HE : Hid (doR s 72 zs = { s with y := min (max 1 a0) s.H - 1, x := min (max 1 a1) s.W - 1 }) := by show _ = _; unfold doR; rw [if_pos rfl, if_pos h1, ha0, ha1]
    clear ha0 ha1 hc hzb
    go_enter Tryd.func70, Tryd.ntmps70
    go_wp2_with (first | (go_at_call 87; refine (LE.out _ _ _).mono ?_; rintro e w1 ⟨rfl, rfl⟩) | (go_at_call 86; refine (GE.out _ _ _).mono ?_; rintro e w1 ⟨rfl, rfl⟩))
    go_end0
    refine ⟨rfl, ⟨K, M, cap, ?_, .inl rfl⟩, ((C3.refl _ _ _ _).set _ _).set _ _⟩
    rw [HE.out]
    have e1 := HR.out.set 2 (.int .i64 (min (max 1 a0) s.H - 1)) { s with y := min (max 1 a0) s.H - 1 } rfl ⟨rfl, rfl, rfl, rfl⟩
    exact e1.set 1 (.int .i64 (min (max 1 a1) s.W - 1)) { s with y := min (max 1 a0) s.H - 1, x := min (max 1 a1) s.W - 1 } rfl ⟨rfl, rfl, rfl, rfl⟩
  · have h1' : ¬ (1 : Int) < (zs.length : Int) := by omega
    have HE : Hid (doR s 72 zs = { s with y := min (max 1 a0) s.H - 1, x := min (1 : Int) s.W - 1 }) := by show _ = _; unfold doR; rw [if_pos rfl, if_neg h1, ha0]
    clear ha0 hc hzb
    go_enter Tryd.func70, Tryd.ntmps70
    go_wp2_with (first | (go_at_call 87; refine (LE.out _ _ _).mono ?_; rintro e w1 ⟨rfl, rfl⟩) | (go_at_call 86; refine (GE.out _ _ _).mono ?_; rintro e w1 ⟨rfl, rfl⟩))
    go_end0
    refine ⟨rfl, ⟨K, M, cap, ?_, .inl rfl⟩, ((C3.refl _ _ _ _).set _ _).set _ _⟩
    rw [HE.out]
    have e1 := HR.out.set 2 (.int .i64 (min (max 1 a0) s.H - 1)) { s with y := min (max 1 a0) s.H - 1 } rfl ⟨rfl, rfl, rfl, rfl⟩
    exact e1.set 1 (.int .i64 (min (1 : Int) s.W - 1)) { s with y := min (max 1 a0) s.H - 1, x := min (1 : Int) s.W - 1 } rfl ⟨rfl, rfl, rfl, rfl⟩

set_option maxRecDepth 100000 in
set_option maxHeartbeats 8000000 in
theorem do_m (w : World) (h : RT w T K M cap B bc s) (zs : List Int) (v : Value) (hv : Ints w v zs) (hz : 0 < zs.length) (hzl : zs.length ≤ 16) : Calls Tryd.prog 70 #[.pointer (some ⟨T, 0, none⟩), .int .u8 109, v] w fun e w' => DoEnd w w' e T M B bc (doR s 109 zs) := by
  have AP : Hid (Calls Tryd.prog 88 #[.agg #[.int .i64 s.f, .int .i64 s.g, .int .i64 s.b], v] w fun e w' => e = .returned (.agg #[.int .i64 (aplF zs s.f), .int .i64 (aplG zs s.g), .int .i64 (aplB zs s.b)]) ∧ Gr w w') := rApply_any s.f s.g s.b zs v w hv (by omega)
  obtain ⟨p, c, rfl, hh⟩ := hv
  have HR : Hid (RT w T K M cap B bc s) := h
  have t3 : w.cell? ⟨T, 3, none⟩ = some (.int .i64 s.f) := h.at rfl
  have t4 : w.cell? ⟨T, 4, none⟩ = some (.int .i64 s.g) := h.at rfl
  have t5 : w.cell? ⟨T, 5, none⟩ = some (.int .i64 s.b) := h.at rfl
  have HE : Hid (doR s 109 zs = { s with f := aplF zs s.f, g := aplG zs s.g, b := aplB zs s.b }) := by show _ = _; unfold doR; rw [if_neg (by decide), if_neg (by decide), if_pos rfl]
  clear h hh
  go_enter Tryd.func70, Tryd.ntmps70
  go_wp2_with fail
  refine AP.out.mono ?_
  rintro e w1 ⟨rfl, g1⟩
  have H1 : Hid (RT w1 T K M cap B bc s) := HR.out.gr g1
  have B1 : Hid (C3 T M B w w1) := C3.gr g1
  have u3 : w1.cell? ⟨T, 3, none⟩ = some (.int .i64 s.f) := H1.out.at rfl
  have u4 : w1.cell? ⟨T, 4, none⟩ = some (.int .i64 s.g) := H1.out.at rfl
  have u5 : w1.cell? ⟨T, 5, none⟩ = some (.int .i64 s.b) := H1.out.at rfl
  have f3 := H1.out.fz 3
  have f4 := H1.out.fz 4
  have f5 := H1.out.fz 5
  obtain ⟨af, haf⟩ : ∃ z, aplF zs s.f = z := ⟨_, rfl⟩
  obtain ⟨ag, hag⟩ : ∃ z, aplG zs s.g = z := ⟨_, rfl⟩
  obtain ⟨ab, hab⟩ : ∃ z, aplB zs s.b = z := ⟨_, rfl⟩
  rw [haf, hag, hab] at HE ⊢
  clear g1 AP t3 t4 t5 haf hag hab
  go_wp2
  go_end0
  refine ⟨rfl, ⟨K, M, cap, ?_, .inl rfl⟩, ((B1.out.set _ _).set _ _).set _ _⟩
  rw [HE.out]
  have e1 := H1.out.set 3 (.int .i64 af) { s with f := af } rfl ⟨rfl, rfl, rfl, rfl⟩
  have e2 := e1.set 4 (.int .i64 ag) { s with f := af, g := ag } rfl ⟨rfl, rfl, rfl, rfl⟩
  exact e2.set 5 (.int .i64 ab) { s with f := af, g := ag, b := ab } rfl ⟨rfl, rfl, rfl, rfl⟩

set_option maxRecDepth 100000 in
set_option maxHeartbeats 8000000 in
theorem do_no (w : World) (h : RT w T K M cap B bc s) (zs : List Int) (v : Value) (hv : Ints w v zs) (b : Int) (h1 : b ≠ 72) (h2 : b ≠ 74) (h3 : b ≠ 109) : Calls Tryd.prog 70 #[.pointer (some ⟨T, 0, none⟩), .int .u8 b, v] w fun e w' => DoEnd w w' e T M B bc (doR s b zs) := by
  obtain ⟨p, c, rfl, hh⟩ := hv
  have HR : Hid (RT w T K M cap B bc s) := h
  have e1 : (b == 72) = false := by simpa using h1
  have e2 : (b == 74) = false := by simpa using h2
  have e3 : (b == 109) = false := by simpa using h3
  have HE : Hid (doR s b zs = s) := by show _ = _; unfold doR; rw [if_neg h1, if_neg h2, if_neg h3]
  clear h hh
  go_enter Tryd.func70, Tryd.ntmps70
  go_wp2
  go_end0
  refine ⟨rfl, ⟨K, M, cap, ?_, .inl rfl⟩, C3.refl _ _ _ _⟩
  rw [HE.out]
  exact HR.out

set_option maxRecDepth 100000 in
set_option maxHeartbeats 8000000 in
theorem do_J (w : World) (h : RT w T K M cap B bc s) (zs : List Int) (v : Value) (hv : Ints w v zs) (hz : 0 < zs.length) : Calls Tryd.prog 70 #[.pointer (some ⟨T, 0, none⟩), .int .u8 74, v] w fun e w' => DoEnd w w' e T M B bc (doR s 74 zs) := by
  have hmix : Tryd.prog.follows .mixedOrders = true := by kernel_rfl
  obtain ⟨p, c, rfl, hh⟩ := hv
  obtain ⟨b0, off, rfl, hb, hc⟩ := hh.resolve_left (fun e => by rw [e] at hz; simp at hz)
  have HR : Hid (RT w T K M cap B bc s) := h
  have z0 : w.cell? ⟨b0, off, none⟩ = some (.int .i64 (zs[(0 : Nat)]?.getD 0)) := hc 0 hz
  obtain ⟨a0, ha0⟩ : ∃ z, zs[(0 : Nat)]?.getD 0 = z := ⟨_, rfl⟩
  rw [ha0] at z0
  have hz' : (0 : Int) < (zs.length : Int) := by omega
  by_cases h2 : a0 = 2
  · have e2 : (a0 == 2) = true := by simpa using h2
    have HE : Hid (doR s 74 zs = { s with c := fun _ _ => bk 0 0 0, wv := fun _ => true }) := by show _ = _; unfold doR; rw [if_neg (by decide), if_pos rfl, if_pos (by rw [ha0]; exact h2)]
    have t0 : w.cell? ⟨T, 0, none⟩ = some (.pointer (some ⟨K, 0, none⟩)) := h.at rfl
    have k0 : w.cell? ⟨K, 0, none⟩ = some (.int .i64 s.W) := h.cs.k0
    have k1 : w.cell? ⟨K, 1, none⟩ = some (.int .i64 s.H) := h.cs.k1
    have RNC : Hid (∀ w, Calls Tryd.prog 37 #[.int .i64 s.W, .int .i64 s.H] w fun e w' => ∃ K, e = .returned (.tuple #[.pointer (some ⟨K, 0, none⟩), .int .i64 0]) ∧ RN w w' s.W s.H K) := fun w => rnew_ok s.W s.H h.hW h.hH w
    clear h hh ha0 hc
    go_enter Tryd.func70, Tryd.ntmps70
    go_wp2_with fail
    go_region_held (fun W_ => W_.cell? ⟨T, 0, none⟩ = some (.pointer (some ⟨K, 0, none⟩)) ∧ W_.cell? ⟨K, 0, none⟩ = some (.int .i64 s.W) ∧ W_.cell? ⟨K, 1, none⟩ = some (.int .i64 s.H)) (first | exact ⟨t0, k0, k1⟩ | exact ⟨keepb g1 t0, keepb g1 k0, keepb g1 k1⟩) (first | (go_at_call 37; refine Calls.mono (RNC.out _) ?_; rintro e1 w1 ⟨K', rfl, hK', M', cap', hcs, hM', g1⟩))
    have g1' : Below w.heap.size w w1 := (Gr.refl w).drew.below.trans g1
    have hsz : w.heap.size ≤ K' ∧ w.heap.size ≤ M' := ⟨hK', hM'⟩
    have H1 : Hid (RT w1 T K M cap B bc s) := HR.out.below g1'
    have B1 : Hid (C3 T M B w w1) := C3.below g1'
    have CS1 : Hid (CS 48 57 w1 K' M' cap' s.W s.H (fun _ _ => bk 0 0 0)) := hcs
    have hTl := HR.out.lt
    have hBl := HR.out.bv.lt
    have u0 : w1.cell? ⟨T, 0, none⟩ = some (.pointer (some ⟨K, 0, none⟩)) := H1.out.at rfl
    have uf := H1.out.fz 0
    have H2 : Hid (RT (w1.setCell ⟨T, 0, none⟩ (.pointer (some ⟨K', 0, none⟩))) T K' M' cap' B bc { s with c := fun _ _ => bk 0 0 0 }) :=
      ⟨heap_setCell_same w1 T 0 _ _ (.pointer (some ⟨K', 0, none⟩)) H1.out.tb,
       ⟨(Below.heap_setCell w1 ⟨T, 0, none⟩ _ K' (by show K' ≠ T; omega)).trans CS1.out.kb, CS1.out.cv.other (by omega) 0 _, CS1.out.ne, CS1.out.hc⟩,
       H1.out.bv.keep (Below.heap_setCell w1 ⟨T, 0, none⟩ _ B (fun e => H1.out.tB e.symm)), by omega, by omega, H1.out.tB, by omega, by omega, H1.out.hb, H1.out.hW, H1.out.hH, pall1 _ _⟩
    have B2 : Hid (C3 T M B w (w1.setCell ⟨T, 0, none⟩ (.pointer (some ⟨K', 0, none⟩)))) := B1.out.set _ _
    obtain ⟨n, hn⟩ : ∃ n, s.W * s.H = n := ⟨_, rfl⟩
    have HN : Hid (s.W * s.H = n) := hn
    have hnb : n ≤ 160000 := by rw [← hn]; exact Nat.le_trans (Nat.mul_le_mul H1.out.hW.2 H1.out.hH.2) (by decide)
    clear g1 g1' hcs H1 B1 CS1 HR t0 k0 k1 hn RNC hK' hM'
    go_wp2_with fail
    obtain ⟨W2, hW2⟩ : ∃ z, w1.setCell ⟨T, 0, none⟩ (.pointer (some ⟨K', 0, none⟩)) = z := ⟨_, rfl⟩
    rw [hW2] at H2 B2 ⊢
    clear hW2 u0 uf
    go_loopw [10] (fun iv wr => ∃ i : Nat, i ≤ n ∧ iv = .int .i64 i ∧ Hid (RT wr T K' M' cap' B bc { s with c := fun _ _ => bk 0 0 0, wv := fun z => if z < i then true else s.wv z }) ∧ Hid (C3 T M B w wr)) (fun iv _ => n - (intOf iv).toNat)
    case atStart => exact ⟨0, by omega, rfl, H2.out.sameW (fun z hz => by rw [if_neg (by omega)]), B2.out⟩
    case round =>
      obtain ⟨i, hi, rfl, HQ, HC⟩ := hrel
      have d9 : wr.cell? ⟨T, 9, none⟩ = some (.slice (some ⟨B, 0, none⟩) n bc) := by rw [← HN.out]; exact HQ.out.at rfl
      by_cases hlt : i < n
      · have hlt' : (i : Int) < (n : Int) := by omega
        have b0 : ∃ z : Bool, wr.cell? ⟨B, i, none⟩ = some (.bool z) := ⟨_, HQ.out.bv.cell i (by show i < s.W * s.H; rw [HN.out]; exact hlt)⟩
        obtain ⟨z0, b0⟩ := b0
        have bf := HQ.out.bv.fz i
        have HQ2 : Hid (RT (wr.setCell ⟨B, i, none⟩ (.bool true)) T K' M' cap' B bc { s with c := fun _ _ => bk 0 0 0, wv := fun z => if z < i + 1 then true else s.wv z }) := by
          have q := (HQ.out.wrote (i := i) (by show i < s.W * s.H; rw [HN.out]; exact hlt)).sameW (wv' := fun z => if z < i + 1 then true else s.wv z) (fun z hz => by
            show (if z = i then true else (if z < i then true else s.wv z)) = _
            by_cases e : z = i
            · subst e; rw [if_pos rfl, if_pos (by omega)]
            · rw [if_neg e]
              by_cases e2 : z < i
              · rw [if_pos e2, if_pos (by omega)]
              · rw [if_neg e2, if_neg (by omega)])
          exact q
        have HC2 : Hid (C3 T M B w (wr.setCell ⟨B, i, none⟩ (.bool true))) := HC.out.setB _ _
        go_wp2
        go_roundw
        case rel => exact ⟨i + 1, by omega, by go_num, HQ2.out, HC2.out⟩
        case measure => simp [intOf]; omega
      · have hlt' : ¬ (i : Int) < (n : Int) := by omega
        obtain rfl : i = n := by omega
        go_wp2
        go_end0
        refine ⟨rfl, ⟨K', M', cap', ?_, .inr hsz.2⟩, HC.out⟩
        rw [HE.out]
        exact HQ.out.sameW (fun z hz => by show (if z < i then true else s.wv z) = true; rw [if_pos (by rw [← HN.out]; exact hz)])
  · have e2 : (a0 == 2) = false := by simpa using h2
    have HE : Hid (doR s 74 zs = s) := by show _ = _; unfold doR; rw [if_neg (by decide), if_pos rfl, if_neg (by rw [ha0]; exact h2)]
    clear h hh ha0 hc
    go_enter Tryd.func70, Tryd.ntmps70
    go_wp2
    go_end0
    refine ⟨rfl, ⟨K, M, cap, ?_, .inl rfl⟩, C3.refl _ _ _ _⟩
    rw [HE.out]
    exact HR.out
end

end Go.Proofs.YtlfffpoeioecjaaDoor

namespace Go.Proofs.YtlfffpoeioecjaaDoor
open Go.RowKit Go.Sort
set_option linter.unusedVariables false

theorem parS_bd (l : List UInt8) (hl : ∀ b ∈ l, 48 ≤ b.toNat) (p : List Int × Int) (h1 : ∀ z ∈ p.1, 0 ≤ z ∧ z ≤ 999999) (h2 : 0 ≤ p.2 ∧ p.2 ≤ 999999) : (∀ z ∈ (parS p l).1, 0 ≤ z ∧ z ≤ 999999) ∧ 0 ≤ (parS p l).2 ∧ (parS p l).2 ≤ 999999 := by
  induction l generalizing p with
  | nil => exact ⟨h1, h2⟩
  | cons b l ih =>
    have hb := hl b (List.mem_cons_self ..)
    refine ih (fun c hc => hl c (List.mem_cons_of_mem _ hc)) _ ?_ ?_
    · split
      · split
        · intro z hz
          rcases List.mem_append.1 hz with h | h
          · exact h1 z h
          · rw [List.mem_singleton] at h; rw [h]; exact h2
        · exact h1
      · split
        · exact h1
        · exact h1
    · split
      · exact ⟨Int.le_refl 0, (by decide : (0 : Int) ≤ 999999)⟩
      · split
        · exact h2
        · show 0 ≤ min 999999 (10 * p.2 + (b.toNat : Int) - 48) ∧ min 999999 (10 * p.2 + (b.toNat : Int) - 48) ≤ 999999
          omega
theorem parL_bd (l : List UInt8) (hl : ∀ b ∈ l, 48 ≤ b.toNat) : ∀ z ∈ parL l, 0 ≤ z ∧ z ≤ 999999 := by
  have h := parS_bd l hl ([], 0) (fun z hz => by cases hz) ⟨by decide, by decide⟩
  unfold parL parE
  split
  · intro z hz
    rcases List.mem_append.1 hz with q | q
    · exact h.1 z q
    · rw [List.mem_singleton] at q; rw [q]; exact h.2
  · exact h.1
theorem parL_len (l : List UInt8) : (parL l).length ≤ 16 := by
  have := parL_le l ([], 0) (by simp)
  unfold parL parE
  split
  · rw [List.length_append]; simp; omega
  · exact this

section
variable {T K M cap B bc : Nat} {s : Rm}
theorem do_any (w : World) (h : RT w T K M cap B bc s) (zs : List Int) (v : Value) (hv : Ints w v zs) (hz : 0 < zs.length) (hzl : zs.length ≤ 16) (hzb : ∀ z ∈ zs, 0 ≤ z ∧ z ≤ 999999) (b : Int) : Calls Tryd.prog 70 #[.pointer (some ⟨T, 0, none⟩), .int .u8 b, v] w fun e w' => DoEnd w w' e T M B bc (doR s b zs) := by
  by_cases h1 : b = 72
  · subst h1; exact do_H w h zs v hv hz hzl hzb
  · by_cases h2 : b = 74
    · subst h2; exact do_J w h zs v hv hz
    · by_cases h3 : b = 109
      · subst h3; exact do_m w h zs v hv hz hzl
      · exact do_no w h zs v hv b h1 h2 h3

/-- What a step leaves: told by a truth. -/
def StEnd (w w' : World) (e : Ending) (T M B bc : Nat) (s : Rm) (a : Bool) : Prop := e = .returned (.bool a) ∧ DoOut w w' T M B bc s
def esc0 (s : Rm) : Rm := { s with la := -1 }
theorem esc0_set (w : World) (h : RT w T K M cap B bc s) : RT (w.setCell ⟨T, 7, none⟩ (.int .i64 (-1))) T K M cap B bc (esc0 s) := h.set 7 (.int .i64 (-1)) (esc0 s) rfl ⟨rfl, rfl, rfl, rfl⟩
theorem DoOut.q {w w' : World} {T M B bc : Nat} {s : Rm} (h : DoOut w w' T M B bc s) (y : ByteArray) : DoOut w (w'.setCell ⟨T, 6, none⟩ (.string y)) T M B bc { s with q := y } := by
  obtain ⟨⟨K', M', cap', r, hm⟩, c⟩ := h
  exact ⟨⟨K', M', cap', r.set 6 (.string y) { s with q := y } rfl ⟨rfl, rfl, rfl, rfl⟩, hm⟩, c.set _ _⟩

set_option maxRecDepth 100000 in
set_option maxHeartbeats 8000000 in
/-- It has but begun, or is no sequence. -/
theorem esc_short (w : World) (h : RT w T K M cap B bc s) (hq : s.q.size = 1) : Calls Tryd.prog 51 #[.pointer (some ⟨T, 0, none⟩)] w fun e w' => StEnd w w' e T M B bc (esc0 s) false := by
  have HR : Hid (RT w T K M cap B bc s) := h
  have t7 : w.cell? ⟨T, 7, none⟩ = some (.int .i64 s.la) := h.at rfl
  have t6 : w.cell? ⟨T, 6, none⟩ = some (.string s.q) := h.at rfl
  have f7 := h.fz 7
  have hq' : (s.q.size : Int) < 2 := by omega
  clear h
  go_enter Tryd.func51, Tryd.ntmps51
  go_wp2
  go_ret
  exact ⟨rfl, ⟨K, M, cap, esc0_set w HR.out, .inl rfl⟩, (C3.refl _ _ _ _).set _ _⟩
set_option maxRecDepth 100000 in
set_option maxHeartbeats 8000000 in
theorem esc_none (w : World) (h : RT w T K M cap B bc s) (hq : 2 ≤ s.q.size) (hb : (s.q[1]'(by omega)).toNat ≠ 91) : Calls Tryd.prog 51 #[.pointer (some ⟨T, 0, none⟩)] w fun e w' => StEnd w w' e T M B bc { esc0 s with q := s.q.extract 2 s.q.size } true := by
  have HR : Hid (RT w T K M cap B bc s) := h
  have t7 : w.cell? ⟨T, 7, none⟩ = some (.int .i64 s.la) := h.at rfl
  have t6 : w.cell? ⟨T, 6, none⟩ = some (.string s.q) := h.at rfl
  have f7 := h.fz 7
  have f6 := h.fz 6
  have hq' : ¬ (s.q.size : Int) < 2 := by omega
  have hq2 : 1 < s.q.size := by omega
  obtain ⟨bt, hbt⟩ : ∃ b, s.q[1]'hq2 = b := ⟨_, rfl⟩
  have e1 : ((bt.toNat : Int) != 91) = true := by rw [hbt] at hb; simpa using (by omega : ¬ (bt.toNat : Int) = 91)
  clear h hb
  go_enter Tryd.func51, Tryd.ntmps51
  go_wp2
  go_ret
  exact ⟨rfl, DoOut.q ⟨⟨K, M, cap, esc0_set w HR.out, .inl rfl⟩, (C3.refl _ _ _ _).set _ _⟩ _⟩
/-- Its numbers stand from the third byte to the k-th. -/
def escR (s : Rm) (k : Nat) : Rm := if k < s.q.size then { (if 64 ≤ byt s.q.data.toList k ∧ byt s.q.data.toList k ≤ 126 then doR (esc0 s) (byt s.q.data.toList k) (parL (s.q.extract 2 k).data.toList) else esc0 s) with q := s.q.extract (k + 1) s.q.size } else esc0 s
theorem doR_q (s : Rm) (b : Int) (zs : List Int) : (doR s b zs).q = s.q := by
  unfold doR
  split
  · rfl
  · split
    · split <;> rfl
    · split <;> rfl
set_option maxRecDepth 100000 in
set_option maxHeartbeats 16000000 in
theorem esc_long (w : World) (h : RT w T K M cap B bc s) (hq : 2 ≤ s.q.size) (hqs : s.q.size ≤ 4611686018427387904) (hb : (s.q[1]'(by omega)).toNat = 91) (k : Nat) (hk : 2 ≤ k) (hks : k ≤ s.q.size) (hm : ∀ j (hj : j < s.q.size), 2 ≤ j → j < k → 48 ≤ (s.q[j]'hj).toNat ∧ (s.q[j]'hj).toNat ≤ 59) (hn : ∀ hj : k < s.q.size, ¬ (48 ≤ (s.q[k]'hj).toNat ∧ (s.q[k]'hj).toNat ≤ 59)) :
    Calls Tryd.prog 51 #[.pointer (some ⟨T, 0, none⟩)] w fun e w' => StEnd w w' e T M B bc (escR s k) (decide (k < s.q.size)) := by
  have hmix : Tryd.prog.follows .mixedOrders = true := by kernel_rfl
  obtain ⟨q, hsq⟩ : ∃ q, s.q = q := ⟨_, rfl⟩
  have HR : Hid (RT w T K M cap B bc s) := h
  have t7 : w.cell? ⟨T, 7, none⟩ = some (.int .i64 s.la) := h.at rfl
  have t6 : w.cell? ⟨T, 6, none⟩ = some (.string q) := by rw [← hsq]; exact h.at rfl
  have f7 := h.fz 7
  have HS : Hid (s.q = q) := hsq
  clear h
  subst hsq
  have hq' : ¬ (s.q.size : Int) < 2 := by omega
  have hq2 : 1 < s.q.size := by omega
  obtain ⟨bt, hbt⟩ : ∃ b, s.q[1]'hq2 = b := ⟨_, rfl⟩
  have e1 : ((bt.toNat : Int) != 91) = false := by rw [hbt] at hb; simpa using (by omega : (bt.toNat : Int) = 91)
  have H1 : Hid (RT (w.setCell ⟨T, 7, none⟩ (.int .i64 (-1))) T K M cap B bc (esc0 s)) := esc0_set w HR.out
  have B1 : Hid (C3 T M B w (w.setCell ⟨T, 7, none⟩ (.int .i64 (-1)))) := (C3.refl _ _ _ _).set _ _
  have HM : Hid (∀ j (hj : j < s.q.size), 2 ≤ j → j < k → 48 ≤ (s.q[j]'hj).toNat ∧ (s.q[j]'hj).toNat ≤ 59) := hm
  have HNN : Hid (∀ hj : k < s.q.size, ¬ (48 ≤ (s.q[k]'hj).toNat ∧ (s.q[k]'hj).toNat ≤ 59)) := hn
  clear hb hm hn HS
  go_enter Tryd.func51, Tryd.ntmps51
  go_wp2_with fail
  obtain ⟨w1, hw1⟩ : ∃ z, w.setCell ⟨T, 7, none⟩ (.int .i64 (-1)) = z := ⟨_, rfl⟩
  rw [hw1] at H1 B1 ⊢
  clear hw1 t7 f7 t6 HR
  go_loopw [4] (fun iv wr => ∃ i : Nat, 2 ≤ i ∧ i ≤ k ∧ iv = .int .i64 i ∧ wr = w1) (fun iv _ => k - (intOf iv).toNat)
  case atStart => exact ⟨2, by omega, by omega, rfl, by first | rfl | trivial⟩
  case round =>
    obtain ⟨i, hi2, hik, rfl, rfl⟩ := hrel
    by_cases hlt : i < k
    · have hil : i < s.q.size := by omega
      have hil' : (i : Int) < (s.q.size : Int) := by omega
      obtain ⟨b2, hb2⟩ : ∃ b, s.q[i]'hil = b := ⟨_, rfl⟩
      have hbd := HM.out i hil hi2 hlt
      rw [hb2] at hbd
      have g1 : (48 : Int) ≤ (b2.toNat : Int) := by omega
      have g2 : (b2.toNat : Int) ≤ 59 := by omega
      go_wp2
      go_roundw
      case rel => exact ⟨i + 1, by omega, by omega, by go_num, by first | rfl | trivial⟩
      case measure => simp [intOf]; omega
    · obtain rfl : i = k := by omega
      by_cases hend : i < s.q.size
      · have hil' : (i : Int) < (s.q.size : Int) := by omega
        have hne : ((i : Int) == (s.q.size : Int)) = false := by simpa using (by omega : ¬ (i : Int) = (s.q.size : Int))
        obtain ⟨b2, hb2⟩ : ∃ b, s.q[i]'hend = b := ⟨_, rfl⟩
        have hbd := HNN.out hend
        rw [hb2] at hbd
        have HMM : Hid (∀ b ∈ (s.q.extract 2 i).data.toList, 48 ≤ b.toNat ∧ b.toNat ≤ 59) := fun b hb => by
          obtain ⟨j, hj, rfl⟩ := List.mem_iff_getElem.1 hb
          have hjl : j < i - 2 := by rw [len_data, ByteArray.size_extract] at hj; omega
          have e : ((s.q.extract 2 i).data.toList[j]'hj) = s.q[2 + j]'(by omega) := by
            have e1 : (s.q.extract 2 i).data.toList = (s.q.data.toList.take i).drop 2 := by
              rw [ByteArray.data_extract, Array.toList_extract]
              simp [List.extract, List.drop_take]
            have e2 : (s.q.extract 2 i).data.toList[j]? = s.q.data.toList[2 + j]? := by
              rw [e1, List.getElem?_drop, List.getElem?_take, if_pos (by omega)]
            rw [List.getElem?_eq_getElem hj, Array.getElem?_toList, show s.q.data[2 + j]? = some (s.q[2 + j]'(by omega)) from Array.getElem?_eq_getElem (by show 2 + j < s.q.size; omega)] at e2
            exact Option.some.inj e2
          rw [e]
          exact HM.out (2 + j) (by omega) (by omega) (by omega)
        have PAR : Hid (∀ w, Calls Tryd.prog 71 #[.string (s.q.extract 2 i)] w fun e w' => ∃ v, e = .returned v ∧ Ints w' v (parL (s.q.extract 2 i).data.toList) ∧ Below w.heap.size w w') := fun w => params_any (s.q.extract 2 i) (by simp [ByteArray.size_extract]; omega) (fun b hb => HMM.out b hb) w
        have HBY : Hid (byt s.q.data.toList i = b2.toNat) := by show _ = _; rw [byt_at s.q i hend, hb2]
        have t6 : wr.cell? ⟨T, 6, none⟩ = some (.string s.q) := H1.out.at rfl
        have f6 := H1.out.fz 6
        by_cases g3 : (48 : Int) ≤ (b2.toNat : Int)
        · by_cases g4 : (b2.toNat : Int) ≤ 59
          · exact absurd ⟨by omega, by omega⟩ hbd
          · by_cases g5 : (64 : Int) ≤ (b2.toNat : Int)
            · by_cases g6 : (b2.toNat : Int) ≤ 126
              · have HE : Hid (escR s i = { doR (esc0 s) b2.toNat (parL (s.q.extract 2 i).data.toList) with q := s.q.extract (i + 1) s.q.size }) := by
                  show _ = _
                  unfold escR
                  rw [if_pos hend, HBY.out, if_pos (by omega)]
                obtain ⟨zs, hzs⟩ : ∃ z, parL (s.q.extract 2 i).data.toList = z := ⟨_, rfl⟩
                have ZB : Hid (0 < zs.length ∧ zs.length ≤ 16 ∧ ∀ z ∈ zs, 0 ≤ z ∧ z ≤ 999999) := by
                  refine ⟨by rw [← hzs]; exact parL_pos _, by rw [← hzs]; exact parL_len _, by rw [← hzs]; exact parL_bd _ (fun b hb => (HMM.out b hb).1)⟩
                rw [hzs] at HE PAR
                have DO : Hid (∀ (w' : World) v, Below wr.heap.size wr w' → Ints w' v zs → Calls Tryd.prog 70 #[.pointer (some ⟨T, 0, none⟩), .int .u8 b2.toNat, v] w' fun e w'' => e = .returned (.tuple #[]) ∧ DoOut w w'' T M B bc (doR (esc0 s) b2.toNat zs)) := fun w' v g hv => (do_any w' (H1.out.below g) zs v hv ZB.out.1 ZB.out.2.1 ZB.out.2.2 b2.toNat).mono fun e w'' q => by
                  obtain ⟨q1, ⟨K', M', cap', q2, q3⟩, q4⟩ := q
                  have hsz := B1.out.size
                  have hsz2 := g.size
                  exact ⟨q1, ⟨K', M', cap', q2, by rcases q3 with h | h; exact .inl h; exact .inr (by omega)⟩, (B1.out.trans (C3.below g)).trans q4⟩
                clear hzs t6 f6 HM HNN hbd
                go_wp2_with fail
                go_region_held (fun _ => True) (trivial) (first | (go_at_call 71; refine Calls.mono (PAR.out _) ?_; rintro e1 w2 ⟨v2, rfl, I2, g2⟩) | (go_at_call 70; refine Calls.mono (DO.out _ _ ((Gr.refl wr).drew.below.trans g2) I2) ?_; rintro e1 w3 ⟨rfl, D3⟩))
                all_goals
                  have D4 : Hid (DoOut w (w3.setCell ⟨T, 6, none⟩ (.string (s.q.extract (i + 1) s.q.size))) T M B bc (escR s i)) := by
                    show DoOut _ _ _ _ _ _ _
                    rw [HE.out]
                    exact D3.q _
                  have t6 : w3.cell? ⟨T, 6, none⟩ = some (.string s.q) := by
                    obtain ⟨⟨K', M', cap', q2, q3⟩, q4⟩ := D3
                    have e : w3.cell? ⟨T, 6, none⟩ = some (.string (doR (esc0 s) b2.toNat zs).q) := q2.at rfl
                    rw [doR_q] at e
                    exact e
                  have f6 : w3.frozen? ⟨T, 6, none⟩ = false := by
                    obtain ⟨⟨K', M', cap', q2, q3⟩, q4⟩ := D3
                    exact q2.fz 6
                  clear D3 g2 I2 PAR DO HE
                  go_wp2
                  go_ret
                  exact ⟨by first | rfl | (rw [decide_eq_true hend]; rfl), D4.out⟩
              · have HE : Hid (escR s i = { esc0 s with q := s.q.extract (i + 1) s.q.size }) := by
                  show _ = _
                  unfold escR
                  rw [if_pos hend, HBY.out, if_neg (by omega)]
                go_wp2
                go_ret
                refine ⟨by first | rfl | (rw [decide_eq_true hend]; rfl), ?_⟩
                rw [HE.out]
                exact DoOut.q ⟨⟨K, M, cap, H1.out, .inl rfl⟩, B1.out⟩ _
            · have HE : Hid (escR s i = { esc0 s with q := s.q.extract (i + 1) s.q.size }) := by
                show _ = _
                unfold escR
                rw [if_pos hend, HBY.out, if_neg (by omega)]
              go_wp2
              go_ret
              refine ⟨by first | rfl | (rw [decide_eq_true hend]; rfl), ?_⟩
              rw [HE.out]
              exact DoOut.q ⟨⟨K, M, cap, H1.out, .inl rfl⟩, B1.out⟩ _
        · have HE : Hid (escR s i = { esc0 s with q := s.q.extract (i + 1) s.q.size }) := by
            show _ = _
            unfold escR
            rw [if_pos hend, HBY.out, if_neg (by omega)]
          go_wp2
          go_ret
          refine ⟨by first | rfl | (rw [decide_eq_true hend]; rfl), ?_⟩
          rw [HE.out]
          exact DoOut.q ⟨⟨K, M, cap, H1.out, .inl rfl⟩, B1.out⟩ _
      · have hil' : ¬ (i : Int) < (s.q.size : Int) := by omega
        have hne : ((i : Int) == (s.q.size : Int)) = true := by simpa using (by omega : (i : Int) = (s.q.size : Int))
        have HE : Hid (escR s i = esc0 s) := by show _ = _; unfold escR; rw [if_neg hend]
        go_wp2
        go_ret
        refine ⟨by first | rfl | (rw [decide_eq_false hend]; rfl), ?_⟩
        rw [HE.out]
        exact ⟨⟨K, M, cap, H1.out, .inl rfl⟩, B1.out⟩
end

end Go.Proofs.YtlfffpoeioecjaaDoor
