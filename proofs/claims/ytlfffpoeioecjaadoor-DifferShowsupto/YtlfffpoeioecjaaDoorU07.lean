/-
  Small functions of a canvas.
-/
import Derived.Test.YtlfffpoeioecjaaDoorU06
import Derived.Test.YtlfffpoeioecjaaDoorU00
import Derived.Test.YtlfffpoeioecjaaDoorU01
import Derived.Test.YtlfffpoeioecjaaDoorU05
namespace Go.Proofs.YtlfffpoeioecjaaDoor
open Go.RowKit Go.Sort
set_option linter.unusedVariables false

def cev (e : Ce) : Value := .agg #[.string e.t, .int .i64 e.f, .int .i64 e.g, .int .i64 e.b, .int .i64 e.p]

set_option maxRecDepth 100000 in
theorem blank_any (f g b : Int) (w : World) : Calls Tryd.prog 56 #[sv f g b] w fun e w' => e = .returned (cev (bk f g b)) ∧ Gr w w' := by
  unfold sv
  go_enter Tryd.func56, Tryd.ntmps56
  go_wp2
  refine bodyPost_ret (v := cev (bk f g b)) (by simp [results, Tryd.results56, go_sem, cev, bk, spc]) rfl ?_
  exact ⟨rfl, ((Gr.refl w).alloc _).alloc _⟩

set_option maxRecDepth 100000 in
theorem counts_any (f g b : Int) (w : World) : Calls Tryd.prog 127 #[sv f g b] w fun e w' => e = .returned (sv (kn f) (kn g) (bo b)) ∧ Gr w w' := by
  have OV : Hid (∀ f g b f2 g2 b2 w, Calls Tryd.prog 80 #[sv f g b, sv f2 g2 b2] w fun e w' => e = .returned (sv (ov f f2) (ov g g2) (obo b b2)) ∧ Gr w w') := over_any
  have O1 := OV.out 0 0 0 f g b
  rw [ov_zero, ov_zero, obo_zero] at O1
  unfold sv at O1 ⊢
  go_enter Tryd.func127, Tryd.ntmps127
  go_wp2_with (go_at_call 80; refine Calls.mono (O1 _) ?_; rintro e w1 ⟨rfl, g1⟩; have RC : Hid (R3 32 w1 (w.heap.size + 1) 0 0 0) := ((by have := R3.new (w.alloc (.cells #[.int .i64 f, .int .i64 g, .int .i64 b] 32)) 0 0 0 32; simp only [World.size_alloc] at this; exact this) : R3 32 _ (w.heap.size + 1) 0 0 0).gr g1; have c0 := RC.out.c0; have c1 := RC.out.c1; have c2 := RC.out.c2; have f0 := RC.out.fz 0; have f1 := RC.out.fz 1; have f2 := RC.out.fz 2; have GG : Hid (Gr w w1) := (((Gr.refl w).alloc _).alloc _).trans g1; clear g1)
  refine bodyPost_ret (results_cell_row rfl _ _ (w.heap.size + 1) _ _ _ _ rfl (RC.out.set _ _ _) Tryd.underlying32 rfl (by kernel_rfl)) rfl ?_
  exact ⟨rfl, GG.out.set3 (by omega) _ _ _⟩

set_option maxRecDepth 100000 in
theorem side_any (n : Int) (w : World) : Calls Tryd.prog 55 #[.int .i64 n] w fun e w' => e = .returned (.bool (decide (1 ≤ n ∧ n ≤ 400))) ∧ w' = w := by
  by_cases h1 : 1 ≤ n
  · by_cases h2 : n ≤ 400
    · rw [show decide (1 ≤ n ∧ n ≤ 400) = true from decide_eq_true ⟨h1, h2⟩]
      go_enter Tryd.func55, Tryd.ntmps55
      go_wp2
      go_ret
      exact ⟨rfl, rfl⟩
    · rw [show decide (1 ≤ n ∧ n ≤ 400) = false from decide_eq_false (by omega)]
      go_enter Tryd.func55, Tryd.ntmps55
      go_wp2
      go_ret
      exact ⟨by first | rfl | simp; omega, rfl⟩
  · rw [show decide (1 ≤ n ∧ n ≤ 400) = false from decide_eq_false (by omega)]
    go_enter Tryd.func55, Tryd.ntmps55
    go_wp2
    go_ret
    exact ⟨rfl, rfl⟩

section
variable {K M cap W H : Nat} {c : Nat → Nat → Ce}
set_option maxRecDepth 100000 in
set_option maxHeartbeats 2000000 in
theorem row_any (w : World) (h : CS 101 34 w K M cap W H c) (h0 : 0 < W) (hW : W ≤ 400) (hH : H ≤ 400) (y : Nat) (hy : y < H) : Calls Tryd.prog 139 #[.pointer (some ⟨K, 0, none⟩), .int .i64 y] w fun e w' => e = .returned (.slice (some ⟨M, y * W * 5, none⟩) W W) ∧ Gr w w' := by
  have k0 := h.k0
  have k2 := h.k2
  have hc := h.hc
  obtain ⟨p, hp⟩ : ∃ p, y * W = p := ⟨_, rfl⟩
  obtain ⟨n, hn⟩ : ∃ n, W * H = n := ⟨_, rfl⟩
  have e1 : (y : Int) * (W : Int) = (p : Int) := by rw [← hp]; simp
  have e2 : ((y : Int) + 1) * (W : Int) = (p : Int) + (W : Int) := by rw [Int.add_mul, e1]; omega
  have pn : p + W ≤ n := by
    rw [← hp, ← hn, Nat.mul_comm W H, ← Nat.succ_mul]; exact Nat.mul_le_mul_right _ (by omega)
  have nb : n ≤ 160000 := by rw [← hn]; exact Nat.mul_le_mul hW hH
  rw [hn] at k2 hc
  rw [hp]
  have w0 : ¬ W = 0 := by omega
  have w1 : ¬ p + W = p := by omega
  clear h hn hp
  go_enter Tryd.func139, Tryd.ntmps139
  go_wp2_with fail
  go_quiet (fail)
  go_wp2
  go_ret
  refine ⟨?_, (Gr.refl w).drewN _⟩
  first
    | rfl
    | (show Ending.returned (.slice (some ⟨M, p * 5, none⟩) (p + W - p) (p + W - p)) = _; rw [Nat.add_sub_cancel_left])
end

section
variable {K M cap W H : Nat} {c : Nat → Nat → Ce}
set_option maxRecDepth 100000 in
theorem size_any (w : World) (h : CS 101 34 w K M cap W H c) : Calls Tryd.prog 117 #[.pointer (some ⟨K, 0, none⟩)] w fun e w' => e = .returned (.tuple #[.int .i64 W, .int .i64 H]) ∧ Gr w w' := by
  have k0 := h.k0
  have k1 := h.k1
  clear h
  go_enter Tryd.func117, Tryd.ntmps117
  go_wp2_with fail
  go_quiet (fail)
  go_wp2
  go_ret2
  exact ⟨rfl, (Gr.refl w).drewN _⟩
end
end Go.Proofs.YtlfffpoeioecjaaDoor

namespace Go.Proofs.YtlfffpoeioecjaaDoor
open Go.RowKit Go.Sort
set_option linter.unusedVariables false

/-- The half on the left, and the one on the right, of the places from a up to z become blanks. -/
def cutL (c : Nat → Nat → Ce) (y a : Nat) : Nat → Nat → Ce := fun y' x' => if y' = y ∧ x' + 1 = a ∧ (c y a).p = 2 then bl (c y' x') else c y' x'
def cutR (c : Nat → Nat → Ce) (y q : Nat) : Nat → Nat → Ce := fun y' x' => if y' = y ∧ x' = q + 1 ∧ (c y q).p = 1 then bl (c y' x') else c y' x'
def cut (c : Nat → Nat → Ce) (y a q : Nat) : Nat → Nat → Ce := cutR (cutL c y a) y q
theorem cutL_none {c : Nat → Nat → Ce} {y a : Nat} (h : ¬ (c y a).p = 2) : cutL c y a = c := by
  funext y' x'; unfold cutL; rw [if_neg (fun q => h q.2.2)]
theorem cutR_none {c : Nat → Nat → Ce} {y a : Nat} (h : ¬ (c y a).p = 1) : cutR c y a = c := by
  funext y' x'; unfold cutR; rw [if_neg (fun q => h q.2.2)]
theorem cutL_some {c : Nat → Nat → Ce} {y k : Nat} (h : (c y (k + 1)).p = 2) : cutL c y (k + 1) = upd c y k (bl (c y k)) := by
  funext y' x'; unfold cutL upd
  by_cases e : y' = y ∧ x' = k
  · obtain ⟨rfl, rfl⟩ := e
    rw [if_pos ⟨rfl, rfl, h⟩, if_pos ⟨rfl, rfl⟩]
  · rw [if_neg e, if_neg (fun q => e ⟨q.1, by omega⟩)]
theorem cutR_some {c : Nat → Nat → Ce} {y q : Nat} (h : (c y q).p = 1) : cutR c y q = upd c y (q + 1) (bl (c y (q + 1))) := by
  funext y' x'; unfold cutR upd
  by_cases e : y' = y ∧ x' = q + 1
  · obtain ⟨rfl, rfl⟩ := e
    rw [if_pos ⟨rfl, rfl, h⟩, if_pos ⟨rfl, rfl⟩]
  · rw [if_neg e, if_neg (fun k => e ⟨k.1, k.2.1⟩)]
theorem cutL_at {c : Nat → Nat → Ce} {y a x : Nat} (h : a ≤ x) (y' : Nat) : cutL c y a y' x = c y' x := by
  unfold cutL; rw [if_neg (by omega)]
theorem cutL_q {c : Nat → Nat → Ce} {y a x : Nat} (h : a ≤ x) : cutL c y a y (x + 1) = c y (x + 1) := cutL_at (by omega) y

section
variable {K M cap W H : Nat} {c : Nat → Nat → Ce}
set_option maxRecDepth 100000 in
set_option maxHeartbeats 2000000 in
theorem stretch_any (w : World) (h : CS 101 34 w K M cap W H c) (h0 : 0 < W) (hW : W ≤ 400) (hH : H ≤ 400) (y a q : Nat) (hy : y < H) (haq : a ≤ q) (hq : q < W) (hp : PRow W (c y)) : Calls Tryd.prog 128 #[.pointer (some ⟨K, 0, none⟩), .int .i64 y, .int .i64 a, .int .i64 ((q : Int) + 1)] w fun e w' => e = .returned (.slice (some ⟨M, y * W * 5 + a * 5, none⟩) (q + 1 - a) (q + 1 - a)) ∧ Cv 34 w' M W H (cut c y a q) ∧ Ch M w w' := by
  have RC : Hid (Calls Tryd.prog 139 #[.pointer (some ⟨K, 0, none⟩), .int .i64 y] w fun e w' => e = .returned (.slice (some ⟨M, y * W * 5, none⟩) W W) ∧ Gr w w') := row_any w h h0 hW hH y hy
  have BC : Hid (∀ f g b w, Calls Tryd.prog 56 #[sv f g b] w fun e w' => e = .returned (cev (bk f g b)) ∧ Gr w w') := blank_any
  have HV : Hid (Cv 34 w M W H c) := h.cv
  have HP : Hid (PRow W (c y)) := hp
  obtain ⟨o, ho⟩ : ∃ o, y * W * 5 = o := ⟨_, rfl⟩
  have HO : Hid (y * W * 5 = o) := ho
  unfold sv cev bk at BC
  rw [ho] at RC
  clear h hp
  rw [ho]
  clear ho
  go_enter Tryd.func128, Tryd.ntmps128
  go_wp2_with fail
  refine Calls.mono RC.out ?_
  rintro e w1 ⟨rfl, g1⟩
  have V1 : Hid (Cv 34 w1 M W H c) := HV.out.gr g1
  have C1 : Hid (Ch M w w1) := Ch.gr g1
  clear g1 HV RC
  have ca := V1.out.c4 hy (show a < W by omega)
  rw [HO.out] at ca
  obtain ⟨pa, hpa⟩ : ∃ z, (c y a).p = z := ⟨_, rfl⟩
  rw [hpa] at ca
  have HA : Hid ((c y a).p = pa) := hpa
  clear hpa
  go_upto_if 18 with fail
  go_cut [9] from 13 to 29 (fun u wx => u = .slice (some ⟨M, o, none⟩) W W ∧ Hid (Cv 34 wx M W H (cutL c y a) ∧ Ch M w wx))
  case first =>
    by_cases ht : pa = 2
    · obtain ⟨k, hka, hk1, _⟩ := HP.out.tail a (by omega) (HA.out.trans ht)
      subst hka
      have HC : Hid (cutL c y (k + 1) = upd c y k (bl (c y k))) := cutL_some (HA.out.trans ht)
      subst ht
      clear hk1
      have b1 := V1.out.c1 hy (show k < W by omega)
      have b2 := V1.out.c2 hy (show k < W by omega)
      have b3 := V1.out.c3 hy (show k < W by omega)
      rw [HO.out] at b1 b2 b3
      go_wp2_with (go_at_call 56; refine Calls.mono (BC.out _ _ _ _) ?_; rintro e w2 ⟨rfl, g2⟩; have V2 : Hid (Cv 34 w2 M W H c) := V1.out.gr g2; have C2 : Hid (Ch M w w2) := C1.out.thenGr g2; clear g2; have d0 := V2.out.c0 hy (show k < W by omega); have d1 := V2.out.c1 hy (show k < W by omega); have d2 := V2.out.c2 hy (show k < W by omega); have d3 := V2.out.c3 hy (show k < W by omega); have d4 := V2.out.c4 hy (show k < W by omega); rw [HO.out] at d0 d1 d2 d3 d4; have f0 := V2.out.fz; have fl := V2.out.lt)
      go_meet
      refine ⟨rfl, ?_, ?_⟩
      · rw [HC.out, ← HO.out]; exact V2.out.set hy (show k < W by omega) (bl (c y k))
      · exact ((((C2.out.set (.inl rfl) _ _).set (.inl rfl) _ _).set (.inl rfl) _ _).set (.inl rfl) _ _).set (.inl rfl) _ _
    · have ht' : (pa == 2) = false := by simpa using ht
      go_wp2_with fail
      go_meet
      exact ⟨rfl, by rw [cutL_none (by rw [HA.out]; exact ht)]; exact V1.out, C1.out⟩
  case rest =>
    obtain ⟨rfl, HR⟩ := hcut
    clear V1 C1 ca
    have cq := HR.out.1.c4 hy hq
    rw [HO.out] at cq
    obtain ⟨pq, hpq⟩ : ∃ z, (cutL c y a y q).p = z := ⟨_, rfl⟩
    rw [hpq] at cq
    have HQ : Hid ((cutL c y a y q).p = pq) := hpq
    clear hpq
    have hcc : Hid ((c y q).p = pq) := by have := HQ.out; rw [cutL_at haq] at this; exact this
    go_upto_if 36 with fail
    go_cut [9] from 13 to 45 (fun u wx => u = .slice (some ⟨M, o, none⟩) W W ∧ Hid (Cv 34 wx M W H (cut c y a q) ∧ Ch M w wx))
    case first =>
      by_cases ht : pq = 1
      · obtain ⟨hl, _⟩ := HP.out.head q hq (hcc.out.trans ht)
        have HC : Hid (cut c y a q = upd (cutL c y a) y (q + 1) (bl (cutL c y a y (q + 1)))) := cutR_some (HQ.out.trans ht)
        subst ht
        have b1 := HR.out.1.c1 hy hl
        have b2 := HR.out.1.c2 hy hl
        have b3 := HR.out.1.c3 hy hl
        rw [HO.out] at b1 b2 b3
        go_wp2_with (go_at_call 56; refine Calls.mono (BC.out _ _ _ _) ?_; rintro e w2 ⟨rfl, g2⟩; have V2 : Hid (Cv 34 w2 M W H (cutL c y a)) := HR.out.1.gr g2; have C2 : Hid (Ch M w w2) := HR.out.2.thenGr g2; clear g2; have d0 := V2.out.c0 hy hl; have d1 := V2.out.c1 hy hl; have d2 := V2.out.c2 hy hl; have d3 := V2.out.c3 hy hl; have d4 := V2.out.c4 hy hl; rw [HO.out] at d0 d1 d2 d3 d4; have f0 := V2.out.fz; have fl := V2.out.lt)
        go_meet
        refine ⟨rfl, ?_, ?_⟩
        · rw [HC.out, ← HO.out]; exact V2.out.set hy hl (bl (cutL c y a y (q + 1)))
        · exact ((((C2.out.set (.inl rfl) _ _).set (.inl rfl) _ _).set (.inl rfl) _ _).set (.inl rfl) _ _).set (.inl rfl) _ _
      · have ht' : (pq == 1) = false := by simpa using ht
        go_wp2_with fail
        go_meet
        exact ⟨rfl, by unfold cut; rw [cutR_none (by rw [HQ.out]; exact ht)]; exact HR.out.1, HR.out.2⟩
    case rest =>
      obtain ⟨rfl, HZ⟩ := hcut
      have hl1 : a ≤ W := by omega
      have nz : ¬ q + 1 = a := by omega
      go_wp2
      go_ret
      exact ⟨rfl, HZ.out.1, HZ.out.2⟩
end
end Go.Proofs.YtlfffpoeioecjaaDoor

namespace Go.Proofs.YtlfffpoeioecjaaDoor
open Go.RowKit Go.Sort
set_option linter.unusedVariables false

/-- Cap, as four numbers. -/
def capQ (ax ay aw ah bx by_ bw bh : Int) : Int × Int × Int × Int := if capL ax aw bx bw ≥ capR ax aw bx bw ∨ capL ay ah by_ bh ≥ capR ay ah by_ bh then (0, 0, 0, 0) else (capL ax aw bx bw, capL ay ah by_ bh, capR ax aw bx bw - capL ax aw bx bw, capR ay ah by_ bh - capL ay ah by_ bh)
theorem capV_q (ax ay aw ah bx by_ bw bh : Int) : capV ax ay aw ah bx by_ bw bh = rv (capQ ax ay aw ah bx by_ bw bh).1 (capQ ax ay aw ah bx by_ bw bh).2.1 (capQ ax ay aw ah bx by_ bw bh).2.2.1 (capQ ax ay aw ah bx by_ bw bh).2.2.2 := by
  unfold capV capQ; split <;> rfl
/-- What can be seen of a rectangle x y a b under a clip on a screen W, H. -/
def seenQ (W H : Int) (x y a b cx cy ca cb : Int) : Int × Int × Int × Int := capQ 0 0 W H (capQ x y a b cx cy ca cb).1 (capQ x y a b cx cy ca cb).2.1 (capQ x y a b cx cy ca cb).2.2.1 (capQ x y a b cx cy ca cb).2.2.2
/-- Its facts: it lies on the screen, and has just the places that all three have. -/
structure Seen (W H : Int) (x y a b cx cy ca cb : Int) (l t u v : Int) : Prop where
  l0 : 0 ≤ l
  t0 : 0 ≤ t
  u0 : 0 ≤ u
  v0 : 0 ≤ v
  lu : l + u ≤ W
  tv : t + v ≤ H
  uv : 0 < u ↔ 0 < v
  mem : ∀ p q, (l ≤ p ∧ p < l + u ∧ t ≤ q ∧ q < t + v) ↔ ((0 ≤ p ∧ p < W ∧ 0 ≤ q ∧ q < H) ∧ (posI x ≤ p ∧ p < posI x + lenI a ∧ posI y ≤ q ∧ q < posI y + lenI b) ∧ (posI cx ≤ p ∧ p < posI cx + lenI ca ∧ posI cy ≤ q ∧ q < posI cy + lenI cb))
/-- Cap of what is within bounds already. -/
def cq (px py pa pb qx qy qa qb : Int) : Int × Int × Int × Int := if max px qx ≥ min (px + pa) (qx + qa) ∨ max py qy ≥ min (py + pb) (qy + qb) then (0, 0, 0, 0) else (max px qx, max py qy, min (px + pa) (qx + qa) - max px qx, min (py + pb) (qy + qb) - max py qy)
theorem cq_mem (px py pa pb qx qy qa qb p q : Int) : ((cq px py pa pb qx qy qa qb).1 ≤ p ∧ p < (cq px py pa pb qx qy qa qb).1 + (cq px py pa pb qx qy qa qb).2.2.1 ∧ (cq px py pa pb qx qy qa qb).2.1 ≤ q ∧ q < (cq px py pa pb qx qy qa qb).2.1 + (cq px py pa pb qx qy qa qb).2.2.2) ↔ ((px ≤ p ∧ p < px + pa ∧ py ≤ q ∧ q < py + pb) ∧ (qx ≤ p ∧ p < qx + qa ∧ qy ≤ q ∧ q < qy + qb)) := by
  unfold cq
  split
  · simp only; omega
  · simp only; omega
theorem cq_bd (px py pa pb qx qy qa qb : Int) (h1 : -100000 ≤ px ∧ px ≤ 100000) (h2 : -100000 ≤ py ∧ py ≤ 100000) (h3 : 0 ≤ pa ∧ pa ≤ 100000) (h4 : 0 ≤ pb ∧ pb ≤ 100000) (h5 : -100000 ≤ qx ∧ qx ≤ 100000) (h6 : -100000 ≤ qy ∧ qy ≤ 100000) :
    (-100000 ≤ (cq px py pa pb qx qy qa qb).1 ∧ (cq px py pa pb qx qy qa qb).1 ≤ 100000) ∧ (-100000 ≤ (cq px py pa pb qx qy qa qb).2.1 ∧ (cq px py pa pb qx qy qa qb).2.1 ≤ 100000) ∧ (0 ≤ (cq px py pa pb qx qy qa qb).2.2.1 ∧ (cq px py pa pb qx qy qa qb).2.2.1 ≤ 100000) ∧ (0 ≤ (cq px py pa pb qx qy qa qb).2.2.2 ∧ (cq px py pa pb qx qy qa qb).2.2.2 ≤ 100000) ∧ (0 < (cq px py pa pb qx qy qa qb).2.2.1 ↔ 0 < (cq px py pa pb qx qy qa qb).2.2.2) := by
  by_cases h : max px qx ≥ min (px + pa) (qx + qa) ∨ max py qy ≥ min (py + pb) (qy + qb)
  · have e : cq px py pa pb qx qy qa qb = (0, 0, 0, 0) := if_pos h
    rw [e]; simp
  · have e : cq px py pa pb qx qy qa qb = (max px qx, max py qy, min (px + pa) (qx + qa) - max px qx, min (py + pb) (qy + qb) - max py qy) := if_neg h
    rw [e]
    have k1 : max px qx < min (px + pa) (qx + qa) := by omega
    have k2 : max py qy < min (py + pb) (qy + qb) := by omega
    have k3 : min (px + pa) (qx + qa) ≤ px + pa := by omega
    have k4 : min (py + pb) (qy + qb) ≤ py + pb := by omega
    have k5 : px ≤ max px qx ∧ max px qx ≤ 100000 := by omega
    have k6 : py ≤ max py qy ∧ max py qy ≤ 100000 := by omega
    simp only
    generalize max px qx = A at *
    generalize min (px + pa) (qx + qa) = B at *
    generalize max py qy = C at *
    generalize min (py + pb) (qy + qb) = D at *
    refine ⟨⟨?_, ?_⟩, ⟨?_, ?_⟩, ⟨?_, ?_⟩, ⟨?_, ?_⟩, ?_⟩ <;> omega
theorem cq_in {W H qx qy qa qb : Int} (hW : 1 ≤ W) (hH : 1 ≤ H) : 0 ≤ (cq 0 0 W H qx qy qa qb).1 ∧ 0 ≤ (cq 0 0 W H qx qy qa qb).2.1 ∧ (cq 0 0 W H qx qy qa qb).1 + (cq 0 0 W H qx qy qa qb).2.2.1 ≤ W ∧ (cq 0 0 W H qx qy qa qb).2.1 + (cq 0 0 W H qx qy qa qb).2.2.2 ≤ H := by
  unfold cq
  split
  · simp only; omega
  · simp only; omega
theorem capQ_cq (ax ay aw ah bx by_ bw bh : Int) : capQ ax ay aw ah bx by_ bw bh = cq (posI ax) (posI ay) (lenI aw) (lenI ah) (posI bx) (posI by_) (lenI bw) (lenI bh) := rfl
theorem seen_facts {W H : Int} (hW : 1 ≤ W ∧ W ≤ 400) (hH : 1 ≤ H ∧ H ≤ 400) (x y a b cx cy ca cb : Int) :
    Seen W H x y a b cx cy ca cb (seenQ W H x y a b cx cy ca cb).1 (seenQ W H x y a b cx cy ca cb).2.1 (seenQ W H x y a b cx cy ca cb).2.2.1 (seenQ W H x y a b cx cy ca cb).2.2.2 := by
  have k := cq_bd (posI x) (posI y) (lenI a) (lenI b) (posI cx) (posI cy) (lenI ca) (lenI cb) (posI_bd x) (posI_bd y) (lenI_bd a) (lenI_bd b) (posI_bd cx) (posI_bd cy)
  have m1 := cq_mem (posI x) (posI y) (lenI a) (lenI b) (posI cx) (posI cy) (lenI ca) (lenI cb)
  unfold seenQ
  rw [capQ_cq x y a b cx cy ca cb]
  generalize cq (posI x) (posI y) (lenI a) (lenI b) (posI cx) (posI cy) (lenI ca) (lenI cb) = z at k m1 ⊢
  obtain ⟨i0, i1, i2, i3⟩ := z
  simp only at k m1 ⊢
  rw [capQ_cq, posI_id (n := i0) k.1, posI_id (n := i1) k.2.1, lenI_id (n := i2) k.2.2.1, lenI_id (n := i3) k.2.2.2.1, lenI_id (n := W) (by omega), lenI_id (n := H) (by omega), show posI 0 = 0 from rfl]
  have k2 := cq_bd 0 0 W H i0 i1 i2 i3 (by omega) (by omega) (by omega) (by omega) k.1 k.2.1
  have m2 := cq_mem 0 0 W H i0 i1 i2 i3
  have k3 := cq_in (qx := i0) (qy := i1) (qa := i2) (qb := i3) hW.1 hH.1
  generalize cq 0 0 W H i0 i1 i2 i3 = z at k2 m2 k3 ⊢
  obtain ⟨j0, j1, j2, j3⟩ := z
  simp only at k2 m2 k3 ⊢
  refine ⟨k3.1, k3.2.1, k2.2.2.1.1, k2.2.2.2.1.1, k3.2.2.1, k3.2.2.2, k2.2.2.2.2, fun p q => ?_⟩
  rw [m2 p q, m1 p q]
  constructor
  · rintro ⟨h1, h2, h3⟩; exact ⟨by omega, h2, h3⟩
  · rintro ⟨h1, h2, h3⟩; exact ⟨by omega, h2, h3⟩

section
variable {K M cap W H : Nat} {c : Nat → Nat → Ce}
set_option maxRecDepth 100000 in
set_option maxHeartbeats 4000000 in
theorem seen_any (w : World) (h : CS 101 34 w K M cap W H c) (x y a b cx cy ca cb : Int) : Calls Tryd.prog 126 #[.pointer (some ⟨K, 0, none⟩), rv x y a b, rv cx cy ca cb] w fun e w' => e = .returned (rv (seenQ W H x y a b cx cy ca cb).1 (seenQ W H x y a b cx cy ca cb).2.1 (seenQ W H x y a b cx cy ca cb).2.2.1 (seenQ W H x y a b cx cy ca cb).2.2.2) ∧ Gr w w' := by
  have k0 := h.k0
  have k1 := h.k1
  have kl := h.klt
  clear h
  have CP : Hid (∀ ax ay aw ah bx by_ bw bh w, Calls Tryd.prog 138 #[rv ax ay aw ah, rv bx by_ bw bh] w fun e w' => e = .returned (rv (capQ ax ay aw ah bx by_ bw bh).1 (capQ ax ay aw ah bx by_ bw bh).2.1 (capQ ax ay aw ah bx by_ bw bh).2.2.1 (capQ ax ay aw ah bx by_ bw bh).2.2.2) ∧ Gr w w') := fun ax ay aw ah bx by_ bw bh w => by rw [← capV_q]; exact cap_any ax ay aw ah bx by_ bw bh w
  obtain ⟨q1, hq1⟩ : ∃ z, capQ x y a b cx cy ca cb = z := ⟨_, rfl⟩
  have C1 := CP.out x y a b cx cy ca cb
  rw [hq1] at C1
  obtain ⟨i0, i1, i2, i3⟩ := q1
  obtain ⟨q2, hq2⟩ : ∃ z, capQ 0 0 (W : Int) (H : Int) i0 i1 i2 i3 = z := ⟨_, rfl⟩
  have C2 := CP.out 0 0 W H i0 i1 i2 i3
  rw [hq2] at C2
  obtain ⟨j0, j1, j2, j3⟩ := q2
  have HQ : Hid (seenQ W H x y a b cx cy ca cb = (j0, j1, j2, j3)) := by show _ = _; unfold seenQ; rw [hq1]; exact hq2
  rw [HQ.out]
  clear hq1 hq2 CP
  unfold rv at C1 C2 ⊢
  simp only at C1 C2 ⊢
  go_enter Tryd.func126, Tryd.ntmps126
  go_wp2_with fail
  obtain ⟨S, hS⟩ : ∃ z, w.heap.size = z := ⟨_, rfl⟩
  have HS : Hid (w.heap.size = S) := hS
  obtain ⟨W0, hW0⟩ : ∃ z, ((w.alloc (.cells #[.int .i64 x, .int .i64 y, .int .i64 a, .int .i64 b] 169)).alloc (.cells #[.int .i64 cx, .int .i64 cy, .int .i64 ca, .int .i64 cb] 169)).alloc (.cells #[.int .i64 0, .int .i64 0, .int .i64 0, .int .i64 0] 169) = z := ⟨_, rfl⟩
  have G0 : Hid (Gr w W0) := by rw [← hW0]; exact (((Gr.refl w).alloc _).alloc _).alloc _
  have RA : Hid (R4 169 W0 S x y a b) := by rw [← hW0, ← hS]; exact (R4.new w _ _ _ _ _).gr (((Gr.refl _).alloc _).alloc _)
  have RB : Hid (R4 169 W0 (S + 1) cx cy ca cb) := by
    have := R4.new (w.alloc (.cells #[.int .i64 x, .int .i64 y, .int .i64 a, .int .i64 b] 169)) cx cy ca cb 169
    simp only [World.size_alloc, hS] at this
    rw [← hW0]; exact this.gr ((Gr.refl _).alloc _)
  have RC : Hid (R4 169 W0 (S + 1 + 1) 0 0 0 0) := by
    have := R4.new ((w.alloc (.cells #[.int .i64 x, .int .i64 y, .int .i64 a, .int .i64 b] 169)).alloc (.cells #[.int .i64 cx, .int .i64 cy, .int .i64 ca, .int .i64 cb] 169)) 0 0 0 0 169
    simp only [World.size_alloc, hS] at this
    rw [← hW0]; exact this
  have k0' : W0.cell? ⟨K, 0, none⟩ = some (.int .i64 W) := (World.cell?_of_block (a := ⟨K, 0, none⟩) (G0.out.block kl)).trans k0
  have k1' : W0.cell? ⟨K, 1, none⟩ = some (.int .i64 H) := (World.cell?_of_block (a := ⟨K, 1, none⟩) (G0.out.block kl)).trans k1
  have sz : Hid (W0.heap.size = S + 3) := by show W0.heap.size = S + 3; rw [← hW0]; simp only [World.size_alloc, hS]
  have kl0 : K < W0.heap.size := by rw [sz.out, ← HS.out]; omega
  rw [hW0, hS]
  clear hW0 hS k0 k1
  go_cut [4, 5, 6, 7] from 8 to 16 (fun u v t s wx => u = .pointer (some ⟨S, 0, none⟩) ∧ v = .pointer (some ⟨S + 1, 0, none⟩) ∧ t = .pointer (some ⟨S + 1 + 1, 0, none⟩) ∧ s = .pointer (some ⟨W0.heap.size, 0, none⟩) ∧ Hid (R4 169 wx S x y a b ∧ R4 169 wx (S + 1) cx cy ca cb ∧ R4 169 wx (S + 1 + 1) 0 0 0 0 ∧ R4 169 wx W0.heap.size 0 0 W H ∧ Gr w wx))
  case first =>
    go_region
    all_goals
      go_wp2_with fail
      go_meet
      have gz : Gr W0 (W0.alloc (.cells #[.int .i64 0, .int .i64 0, .int .i64 W, .int .i64 H] 169)).drew := ((Gr.refl W0).alloc _).drew
      exact ⟨rfl, rfl, rfl, rfl, RA.out.gr gz, RB.out.gr gz, RC.out.gr gz, (R4.new W0 0 0 W H _).gr ((Gr.refl _).drew), G0.out.trans gz⟩
  case rest =>
    obtain ⟨rfl, rfl, rfl, rfl, HR⟩ := hcut
    obtain ⟨Z, hZ⟩ : ∃ z, W0.heap.size = z := ⟨_, rfl⟩
    have HZ : Hid (Z = S + 3) := hZ.symm.trans sz.out
    rw [hZ] at HR
    rw [hZ]
    clear hZ RA RB RC kl0 k0' k1' G0 sz
    have a0 := HR.out.1.c0
    have a1 := HR.out.1.c1
    have a2 := HR.out.1.c2
    have a3 := HR.out.1.c3
    have b0 := HR.out.2.1.c0
    have b1 := HR.out.2.1.c1
    have b2 := HR.out.2.1.c2
    have b3 := HR.out.2.1.c3
    have z0 := HR.out.2.2.2.1.c0
    have z1 := HR.out.2.2.2.1.c1
    have z2 := HR.out.2.2.2.1.c2
    have z3 := HR.out.2.2.2.1.c3
    go_wp2_with fail
    go_region_with (go_at_call 138; (first | (with_reducible refine Calls.mono (C1 _) ?_) | (with_reducible refine Calls.mono (C2 _) ?_)); rintro e wn ⟨rfl, hgn⟩; have HGn : Hid (Gr wc wn) := (by first | exact ((Gr.refl wc).drew).trans hgn | exact Gr.trans (Hid.out (by assumption)) hgn); clear hgn; have m0 := (HR.out.1.gr HGn.out).c0; have m1 := (HR.out.1.gr HGn.out).c1; have m2 := (HR.out.1.gr HGn.out).c2; have m3 := (HR.out.1.gr HGn.out).c3; have n0 := (HR.out.2.1.gr HGn.out).c0; have n1 := (HR.out.2.1.gr HGn.out).c1; have n2 := (HR.out.2.1.gr HGn.out).c2; have n3 := (HR.out.2.1.gr HGn.out).c3; have o0 := (HR.out.2.2.2.1.gr HGn.out).c0; have o1 := (HR.out.2.2.2.1.gr HGn.out).c1; have o2 := (HR.out.2.2.2.1.gr HGn.out).c2; have o3 := (HR.out.2.2.2.1.gr HGn.out).c3; have p0 := (HR.out.2.2.1.gr HGn.out).c0; have p1 := (HR.out.2.2.1.gr HGn.out).c1; have p2 := (HR.out.2.2.1.gr HGn.out).c2; have p3 := (HR.out.2.2.1.gr HGn.out).c3; have f0 := (HR.out.2.2.1.gr HGn.out).fz 0; have f1 := (HR.out.2.2.1.gr HGn.out).fz 1; have f2 := (HR.out.2.2.1.gr HGn.out).fz 2; have f3 := (HR.out.2.2.1.gr HGn.out).fz 3)
    all_goals
      go_wp2_with fail
      refine bodyPost_ret (results_cell_row rfl _ _ (S + 1 + 1) _ _ _ _ rfl ((HR.out.2.2.1.gr HGn.out).set _ _ _ _) Tryd.underlying169 rfl (by kernel_rfl)) rfl ?_
      exact ⟨rfl, (HR.out.2.2.2.2.trans HGn.out).set4 (by rw [HS.out]; omega) _ _ _ _⟩
end
end Go.Proofs.YtlfffpoeioecjaaDoor

namespace Go.Proofs.YtlfffpoeioecjaaDoor
open Go.RowKit Go.Sort
set_option linter.unusedVariables false

/-- What one number does. -/
def apf (n f : Int) : Int := if n = 0 then 0 else if n = 39 then 0 else if 30 ≤ n ∧ n ≤ 37 then n - 29 else f
def apg (n g : Int) : Int := if n = 0 then 0 else if n = 49 then 0 else if 40 ≤ n ∧ n ≤ 47 then n - 39 else g
def apb (n b : Int) : Int := if n = 0 then 0 else if n = 1 then 1 else if n = 22 then 0 else b
theorem apf_no {n : Int} (f : Int) (h0 : n ≠ 0) (h1 : n ≠ 39) (h2 : ¬ (30 ≤ n ∧ n ≤ 37)) : apf n f = f := by unfold apf; rw [if_neg h0, if_neg h1, if_neg h2]
theorem apg_no {n : Int} (f : Int) (h0 : n ≠ 0) (h1 : n ≠ 49) (h2 : ¬ (40 ≤ n ∧ n ≤ 47)) : apg n f = f := by unfold apg; rw [if_neg h0, if_neg h1, if_neg h2]
theorem apb_no {n : Int} (f : Int) (h0 : n ≠ 0) (h1 : n ≠ 1) (h2 : n ≠ 22) : apb n f = f := by unfold apb; rw [if_neg h0, if_neg h1, if_neg h2]
theorem apf_in {n : Int} (f : Int) (h : 30 ≤ n ∧ n ≤ 37) : apf n f = n - 29 := by unfold apf; rw [if_neg (by omega), if_neg (by omega), if_pos h]
theorem apg_in {n : Int} (f : Int) (h : 40 ≤ n ∧ n ≤ 47) : apg n f = n - 39 := by unfold apg; rw [if_neg (by omega), if_neg (by omega), if_pos h]

set_option maxRecDepth 100000 in
set_option maxHeartbeats 4000000 in
theorem applied_any (f g b n : Int) (w : World) : Calls Tryd.prog 129 #[sv f g b, .int .i64 n] w fun e w' => e = .returned (sv (apf n f) (apg n g) (apb n b)) ∧ Gr w w' := by
  by_cases h0 : n = 0
  · subst h0
    unfold sv
    go_enter Tryd.func129, Tryd.ntmps129
    go_wp2
    refine bodyPost_ret (v := sv 0 0 0) (by simp [results, Tryd.results129, go_sem, sv]) rfl ?_
    exact ⟨by rfl, ((Gr.refl w).alloc _).alloc _⟩
  by_cases h1 : n = 1
  · subst h1
    unfold sv
    go_enter Tryd.func129, Tryd.ntmps129
    go_wp2
    refine bodyPost_ret (v := sv f g 1) (by simp [results, Tryd.results129, go_sem, sv]) rfl ?_
    exact ⟨by rfl, ((Gr.refl w).alloc _).alloc _⟩
  by_cases h2 : n = 22
  · subst h2
    unfold sv
    go_enter Tryd.func129, Tryd.ntmps129
    go_wp2
    refine bodyPost_ret (v := sv f g 0) (by simp [results, Tryd.results129, go_sem, sv]) rfl ?_
    exact ⟨by rfl, ((Gr.refl w).alloc _).alloc _⟩
  by_cases h3 : n = 39
  · subst h3
    unfold sv
    go_enter Tryd.func129, Tryd.ntmps129
    go_wp2
    refine bodyPost_ret (v := sv 0 g b) (by simp [results, Tryd.results129, go_sem, sv]) rfl ?_
    exact ⟨by rfl, ((Gr.refl w).alloc _).alloc _⟩
  by_cases h4 : n = 49
  · subst h4
    unfold sv
    go_enter Tryd.func129, Tryd.ntmps129
    go_wp2
    refine bodyPost_ret (v := sv f 0 b) (by simp [results, Tryd.results129, go_sem, sv]) rfl ?_
    exact ⟨by rfl, ((Gr.refl w).alloc _).alloc _⟩
  by_cases h5 : 30 ≤ n ∧ n ≤ 37
  · rw [apf_in f h5, apg_no g h0 h4 (by omega), apb_no b h0 h1 h2]
    have q1 : 29 < n := by omega
    have q2 : n ≤ 37 := by omega
    unfold sv
    go_enter Tryd.func129, Tryd.ntmps129
    go_wp2
    refine bodyPost_ret (v := sv (n - 29) g b) (by simp [results, Tryd.results129, go_sem, sv]) rfl ?_
    exact ⟨by rfl, ((Gr.refl w).alloc _).alloc _⟩
  by_cases h6 : 40 ≤ n ∧ n ≤ 47
  · rw [apf_no f h0 h3 h5, apg_in g h6, apb_no b h0 h1 h2]
    have q0 : ¬ (29 < n ∧ n ≤ 37) := by omega
    have q1 : 39 < n := by omega
    have q2 : n ≤ 47 := by omega
    have q3 : ¬ n ≤ 37 := by omega
    have q4 : 29 < n := by omega
    unfold sv
    go_enter Tryd.func129, Tryd.ntmps129
    go_wp2
    refine bodyPost_ret (v := sv f (n - 39) b) (by simp [results, Tryd.results129, go_sem, sv]) rfl ?_
    exact ⟨by rfl, ((Gr.refl w).alloc _).alloc _⟩
  rw [apf_no f h0 h3 h5, apg_no g h0 h4 h6, apb_no b h0 h1 h2]
  unfold sv
  go_enter Tryd.func129, Tryd.ntmps129
  go_wp2
  all_goals
    refine bodyPost_ret (v := sv f g b) (by simp [results, Tryd.results129, go_sem, sv]) rfl ?_
    exact ⟨by rfl, ((Gr.refl w).alloc _).alloc _⟩

end Go.Proofs.YtlfffpoeioecjaaDoor

namespace Go.Proofs.YtlfffpoeioecjaaDoor
open Go.RowKit Go.Sort
set_option linter.unusedVariables false

set_option maxRecDepth 100000 in
theorem least_any (a b : Int) (w : World) : Calls Tryd.prog 87 #[.int .i64 a, .int .i64 b] w fun e w' => e = .returned (.int .i64 (min a b)) ∧ w' = w := by
  go_enter Tryd.func87, Tryd.ntmps87
  by_cases h : a < b
  · go_wp2
    go_ret
    exact ⟨by rw [show min a b = a by omega]; rfl, rfl⟩
  · have h' : b ≤ a := by omega
    go_wp2
    go_ret
    exact ⟨by rw [show min a b = b by omega]; rfl, rfl⟩
set_option maxRecDepth 100000 in
theorem greatest_any (a b : Int) (w : World) : Calls Tryd.prog 86 #[.int .i64 a, .int .i64 b] w fun e w' => e = .returned (.int .i64 (max a b)) ∧ w' = w := by
  go_enter Tryd.func86, Tryd.ntmps86
  by_cases h : b < a
  · go_wp2
    go_ret
    exact ⟨by rw [show max a b = a by omega]; rfl, rfl⟩
  · have h' : a ≤ b := by omega
    go_wp2
    go_ret
    exact ⟨by rw [show max a b = b by omega]; rfl, rfl⟩
set_option maxRecDepth 100000 in
theorem rClamped_any (n : Int) (w : World) : Calls Tryd.prog 125 #[.int .i64 n] w fun e w' => e = .returned (.int .i64 (lenI n)) ∧ w' = w := by
  go_enter Tryd.func125, Tryd.ntmps125
  by_cases h : n < 0
  · go_wp2
    go_ret
    exact ⟨by rw [show lenI n = 0 by unfold lenI; omega]; rfl, rfl⟩
  · by_cases h2 : 100000 < n
    · have h' : ¬ n < 0 := h
      go_wp2
      go_ret
      exact ⟨by rw [show lenI n = 100000 by unfold lenI; omega]; rfl, rfl⟩
    · have h' : n ≤ 100000 := by omega
      have h0 : 0 ≤ n := by omega
      go_wp2
      go_ret
      exact ⟨by rw [show lenI n = n by unfold lenI; omega]; rfl, rfl⟩

set_option maxRecDepth 100000 in
set_option maxHeartbeats 2000000 in
theorem firm_any (x y a b : Int) (w : World) : Calls Tryd.prog 108 #[rv x y a b] w fun e w' => e = .returned (rv (posI x) (posI y) (lenI a) (lenI b)) ∧ Gr w w' := by
  have LS : Hid (∀ a b w, Calls Tryd.prog 87 #[.int .i64 a, .int .i64 b] w fun e w' => e = .returned (.int .i64 (min a b)) ∧ w' = w) := least_any
  have GS : Hid (∀ a b w, Calls Tryd.prog 86 #[.int .i64 a, .int .i64 b] w fun e w' => e = .returned (.int .i64 (max a b)) ∧ w' = w) := greatest_any
  have CS : Hid (∀ n w, Calls Tryd.prog 125 #[.int .i64 n] w fun e w' => e = .returned (.int .i64 (lenI n)) ∧ w' = w) := rClamped_any
  obtain ⟨px, hpx⟩ : ∃ z, max (-100000) (min 100000 x) = z := ⟨_, rfl⟩
  obtain ⟨py, hpy⟩ : ∃ z, max (-100000) (min 100000 y) = z := ⟨_, rfl⟩
  have ex : posI x = px := by unfold posI; omega
  have ey : posI y = py := by unfold posI; omega
  rw [ex, ey]
  obtain ⟨la, hla⟩ : ∃ z, lenI a = z := ⟨_, rfl⟩
  obtain ⟨lb, hlb⟩ : ∃ z, lenI b = z := ⟨_, rfl⟩
  unfold rv
  rw [hla, hlb]
  go_enter Tryd.func108, Tryd.ntmps108
  go_wp2_with (first | (go_at_call 87; refine (LS.out _ _ _).mono ?_; rintro e w2 ⟨rfl, rfl⟩) | (go_at_call 86; refine (GS.out _ _ _).mono ?_; rintro e w2 ⟨rfl, rfl⟩))
  go_region_held (fun W => W.cell? ⟨w.heap.size, 2, none⟩ = some (.int .i64 a) ∧ W.cell? ⟨w.heap.size, 3, none⟩ = some (.int .i64 b)) (go_keep) (first | (go_at_call 125; refine (CS.out _ _).mono ?_; rintro e w2 ⟨rfl, rfl⟩))
  all_goals
    try rw [hla, hlb]
    go_wp2
    refine bodyPost_ret (v := rv px py la lb) (by simp [results, Tryd.results108, go_sem, rv]) rfl ?_
    exact ⟨rfl, (((Gr.refl w).alloc _).alloc _).drew⟩

set_option maxRecDepth 100000 in
set_option maxHeartbeats 2000000 in
theorem rHolds_any (x y a b px py : Int) (w : World) : Calls Tryd.prog 90 #[rv x y a b, .int .i64 px, .int .i64 py] w fun e w' => e = .returned (.bool (holdB x y a b px py)) ∧ Gr w w' := by
  have CC : Hid (∀ x y a b w, Calls Tryd.prog 108 #[rv x y a b] w fun e w' => e = .returned (rv (posI x) (posI y) (lenI a) (lenI b)) ∧ Gr w w') := firm_any
  have HY : Hid ((posI x ≤ px ∧ px < posI x + lenI a ∧ posI y ≤ py ∧ py < posI y + lenI b) → holdB x y a b px py = true) := holdB_yes
  have HN : Hid (¬ (posI x ≤ px ∧ px < posI x + lenI a ∧ posI y ≤ py ∧ py < posI y + lenI b) → holdB x y a b px py = false) := holdB_no
  have b1 := posI_bd x
  have b2 := posI_bd y
  have b3 := lenI_bd a
  have b4 := lenI_bd b
  obtain ⟨A, hA⟩ : ∃ z, posI x = z := ⟨_, rfl⟩
  obtain ⟨B, hB⟩ : ∃ z, posI y = z := ⟨_, rfl⟩
  obtain ⟨C, hC⟩ : ∃ z, lenI a = z := ⟨_, rfl⟩
  obtain ⟨D, hD⟩ : ∃ z, lenI b = z := ⟨_, rfl⟩
  rw [hA, hB, hC, hD] at HY HN
  rw [hA] at b1
  rw [hB] at b2
  rw [hC] at b3
  rw [hD] at b4
  unfold rv at CC ⊢
  go_enter Tryd.func90, Tryd.ntmps90
  go_wp2_with (go_at_call 108; refine (CC.out _ _ _ _ _).mono ?_; rintro e w2 ⟨rfl, hg2⟩; have HG : Hid (Gr w w2) := ((Gr.refl w).alloc _).trans hg2; have HR : Hid (R4 136 w2 w.heap.size x y a b) := (R4.new w x y a b _).gr hg2; clear hg2; have c0 := HR.out.c0; have c1 := HR.out.c1; have c2 := HR.out.c2; have c3 := HR.out.c3; have f0 := HR.out.fz 0; have f1 := HR.out.fz 1; have f2 := HR.out.fz 2; have f3 := HR.out.fz 3; rw [hA, hB, hC, hD]; by_cases h1 : A ≤ px; by_cases h2 : B ≤ py; by_cases h3 : px < A + C; by_cases h4 : py < B + D)
  all_goals
    go_ret
    first
      | exact ⟨by rw [HY.out (by omega)]; rfl, HG.out.set4 (Nat.le_refl _) _ _ _ _⟩
      | exact ⟨by rw [HN.out (by omega)]; rfl, HG.out.set4 (Nat.le_refl _) _ _ _ _⟩
      | exact ⟨by rw [HY.out (by omega)]; exact congrArg (fun z => Ending.returned (Value.bool z)) (decide_eq_true (by omega)), HG.out.set4 (Nat.le_refl _) _ _ _ _⟩
      | exact ⟨by rw [HN.out (by omega)]; exact congrArg (fun z => Ending.returned (Value.bool z)) (decide_eq_false (by omega)), HG.out.set4 (Nat.le_refl _) _ _ _ _⟩

end Go.Proofs.YtlfffpoeioecjaaDoor
