/-
  The document's terminal: a mark, and what has no room.
-/
import Derived.Test.YtlfffpoeioecjaaDoorG37
import Derived.Test.YtlfffpoeioecjaaDoorG24
namespace Go.Proofs.YtlfffpoeioecjaaDoor
open Go.RowKit Go.Sort
set_option linter.unusedVariables false

/-- The text of the last cell, with a mark more. -/
def addT (c : Nat → Nat → Ce) (W : Nat) (la : Int) (t : ByteArray) : Nat → Nat → Ce := upd c (la.toNat / W) (la.toNat % W) { c (la.toNat / W) (la.toNat % W) with t := (c (la.toNat / W) (la.toNat % W)).t ++ t }
def encB (r : Int) : ByteArray := ⟨(Lib.encodeRune r).toArray⟩
theorem encB_size (r : Int) : (encB r).size ≤ 4 := encodeRune_le r
/-- What holds at all times. -/
structure Ri (s : Rm) : Prop where
  x0 : 0 ≤ s.x
  x1 : s.x ≤ s.W
  y0 : 0 ≤ s.y
  y1 : s.y < s.H
  la : s.la = -1 ∨ (0 ≤ s.la ∧ s.la < ((s.W * s.H : Nat) : Int) ∧ 0 ≤ s.mks ∧ s.mks ≤ 4 ∧ ((s.c (s.la.toNat / s.W) (s.la.toNat % s.W)).t.size : Int) ≤ 4 + 4 * s.mks ∧ (s.c (s.la.toNat / s.W) (s.la.toNat % s.W)).p ≠ 2)

/-- What lies in a block lies there still. -/
theorem keepc {w w' : World} {p : Addr} {v : Value} (g : Gr w w') (h : w.cell? p = some v) : w'.cell? p = some v := (g.below.cell (World.block_lt_of_cell? w p h)).trans h
theorem keepo {w : World} {p q : Addr} {v u : Value} (h : w.cell? p = some v) (hb : p.block ≠ q.block) : (w.setCell q u).cell? p = some v := by rw [World.cell?_setCell_other _ _ _ _ (fun e => hb (by rw [e]))]; exact h
theorem keepf {w w' : World} {p : Addr} {v : Value} (g : Gr w w') (h : w.cell? p = some v) (f : w.frozen? p = false) : w'.frozen? p = false := (g.below.frozen (World.block_lt_of_cell? w p h)).trans f

theorem PAll.text {W H : Nat} {c : Nat → Nat → Ce} (h : PAll W H c) (yy xx : Nat) (t : ByteArray) (hp : (c yy xx).p ≠ 2) : PAll W H (upd c yy xx { c yy xx with t := t }) := by
  have e : ∀ y x, (upd c yy xx { c yy xx with t := t } y x).p = (c y x).p ∧ (upd c yy xx { c yy xx with t := t } y x).f = (c y x).f ∧ (upd c yy xx { c yy xx with t := t } y x).g = (c y x).g ∧ (upd c yy xx { c yy xx with t := t } y x).b = (c y x).b ∧ ((c y x).p = 2 → (upd c yy xx { c yy xx with t := t } y x).t = (c y x).t) := by
    intro y x
    unfold upd
    by_cases q : y = yy ∧ x = xx
    · obtain ⟨rfl, rfl⟩ := q
      rw [if_pos ⟨rfl, rfl⟩]
      exact ⟨rfl, rfl, rfl, rfl, fun h => absurd h hp⟩
    · rw [if_neg q]
      exact ⟨rfl, rfl, rfl, rfl, fun _ => rfl⟩
  intro y hy
  have r := h y hy
  refine ⟨fun i hi => by rw [(e y i).1]; exact r.part i hi, fun i hi h1 => ?_, fun i hi h2 => ?_⟩
  · rw [(e y i).1] at h1
    rw [(e y (i + 1)).1, (e y (i + 1)).2.1, (e y (i + 1)).2.2.1, (e y (i + 1)).2.2.2.1, (e y i).2.1, (e y i).2.2.1, (e y i).2.2.2.1]
    exact r.head i hi h1
  · rw [(e y i).1] at h2
    obtain ⟨k, q1, q2, q3⟩ := r.tail i hi h2
    exact ⟨k, q1, by rw [(e y k).1]; exact q2, by rw [(e y i).2.2.2.2 h2]; exact q3⟩
/-- A mark more, in memory. -/
theorem RT.mark {Q : World} {T K M cap B bc : Nat} {s : Rm} (h : RT Q T K M cap B bc s) {l : Nat} (hl : l < s.W * s.H) (hla : s.la = (l : Int)) (hp : (s.c (l / s.W) (l % s.W)).p ≠ 2) (ex : ByteArray) :
    RT ((Q.setCell ⟨M, l * 5, none⟩ (.string ((s.c (l / s.W) (l % s.W)).t ++ ex))).setCell ⟨T, 8, none⟩ (.int .i64 (s.mks + 1))) T K M cap B bc { s with c := addT s.c s.W s.la ex, mks := s.mks + 1 } := by
  have hW0 : 1 ≤ s.W := h.hW.1
  have hx : l % s.W < s.W := Nat.mod_lt _ (by omega)
  have hy : l / s.W < s.H := Nat.div_lt_of_lt_mul (by rw [Nat.mul_comm]; rw [Nat.mul_comm] at hl; rw [Nat.mul_comm] at hl; rw [Nat.mul_comm]; exact hl)
  have eo : l / s.W * s.W * 5 + l % s.W * 5 + 0 = l * 5 := by have := Nat.div_add_mod l s.W; rw [Nat.mul_comm] at this; omega
  have v := h.cs.cv.setText hy hx ((s.c (l / s.W) (l % s.W)).t ++ ex)
  rw [eo] at v
  have h2 := h.cells v ((Ch.refl M Q).set (.inl rfl) _ _) (h.pa.text _ _ _ hp)
  have h3 := h2.set 8 (.int .i64 (s.mks + 1)) { s with c := addT s.c s.W s.la ex, mks := s.mks + 1 } rfl ⟨rfl, rfl, by unfold addT; rw [hla, Int.toNat_natCast], rfl⟩
  exact h3

def markR (s : Rm) (r : Int) : Rm := if 0 ≤ s.la ∧ s.mks < 4 then { s with c := addT s.c s.W s.la (encB r), mks := s.mks + 1 } else s
/-- What print leaves. -/
def PrOut (w w' : World) (e : Ending) (T K M cap B bc : Nat) (s : Rm) : Prop := e = .returned (.tuple #[]) ∧ RT w' T K M cap B bc s ∧ C3 T M B w w'
section
variable {T K M cap B bc : Nat} {s : Rm}
set_option maxRecDepth 100000 in
set_option maxHeartbeats 8000000 in
theorem rmark_any (w : World) (h : RT w T K M cap B bc s) (hi : Ri s) (r : Int) (hr : wid r = 0) : Calls Tryd.prog 53 #[.pointer (some ⟨T, 0, none⟩), .int .i64 r] w fun e w' => PrOut w w' e T K M cap B bc (markR s r) := by
  have hmix : Tryd.prog.follows .mixedOrders = true := by kernel_rfl
  have WI : Hid (Calls Tryd.prog 49 #[.int .i64 r] w fun e w' => e = .returned (.int .i64 0) ∧ Below w.heap.size w w') := by have := rWidth_any r w; rw [hr] at this; exact this
  have WG : Hid (∀ w, Calls Tryd.prog 50 #[.int .i64 r] w fun e w' => e = .returned (.string (encB r)) ∧ Gr w w') := written_gr r
  have HR : Hid (RT w T K M cap B bc s) := h
  have HI : Hid (Ri s) := hi
  clear h hi
  go_enter Tryd.func53, Tryd.ntmps53
  go_wp2_with fail
  refine WI.out.mono ?_
  rintro e w1 ⟨rfl, b1⟩
  have H1 : Hid (RT w1 T K M cap B bc s) := HR.out.below b1
  have B1 : Hid (C3 T M B w w1) := C3.below b1
  clear b1 HR WI
  obtain ⟨la, hla⟩ : ∃ z, s.la = z := ⟨_, rfl⟩
  obtain ⟨mk, hmk⟩ : ∃ z, s.mks = z := ⟨_, rfl⟩
  have d7 : w1.cell? ⟨T, 7, none⟩ = some (.int .i64 la) := by rw [← hla]; exact H1.out.at rfl
  have d8 : w1.cell? ⟨T, 8, none⟩ = some (.int .i64 mk) := by rw [← hmk]; exact H1.out.at rfl
  have HLA : Hid (s.la = la ∧ s.mks = mk) := ⟨hla, hmk⟩
  have hil := HI.out.la
  rw [hla, hmk] at hil
  clear hla hmk
  by_cases h0 : 0 ≤ la
  · by_cases h4 : mk < 4
    · rcases hil with h | ⟨_, hl2, hm0, hm4, hts, hp2⟩
      · omega
      obtain ⟨l, rfl⟩ : ∃ n : Nat, la = (n : Int) := ⟨la.toNat, by omega⟩
      have hWH : 1 ≤ s.W := H1.out.hW.1
      have hlW : l < s.W * s.H := by exact_mod_cast hl2
      obtain ⟨yy, xx, hy, hx, hix⟩ := lin_split hlW
      have e1 : l / s.W = yy := by rw [hix, Nat.mul_comm, Nat.mul_add_div (by omega), Nat.div_eq_of_lt hx, Nat.add_zero]
      have e2 : l % s.W = xx := by rw [hix, Nat.mul_comm, Nat.mul_add_mod, Nat.mod_eq_of_lt hx]
      obtain ⟨n, hn⟩ : ∃ n, s.W * s.H = n := ⟨_, rfl⟩
      rw [Int.toNat_natCast, e1, e2] at hts hp2
      have HE : Hid ((l / s.W = yy ∧ l % s.W = xx) ∧ yy * s.W * 5 + xx * 5 = l * 5 ∧ (s.c yy xx).p ≠ 2) := ⟨⟨e1, e2⟩, by rw [hix, Nat.add_mul], hp2⟩
      have c0 : w1.cell? ⟨T, 0, none⟩ = some (.pointer (some ⟨K, 0, none⟩)) := H1.out.at rfl
      have k2 : w1.cell? ⟨K, 2, none⟩ = some (.slice (some ⟨M, 0, none⟩) n cap) := by rw [← hn]; exact H1.out.cs.k2
      have eo : yy * s.W * 5 + xx * 5 = l * 5 := by rw [hix, Nat.add_mul]
      have t0 : w1.cell? ⟨M, l * 5, none⟩ = some (.string (s.c yy xx).t) := by rw [← eo]; exact H1.out.cs.cv.c0 hy hx
      have fM := H1.out.cs.cv.fz
      have fT := H1.out.fz
      obtain ⟨tx, htx⟩ : ∃ z, (s.c yy xx).t = z := ⟨_, rfl⟩
      obtain ⟨ex, hex⟩ : ∃ z, encB r = z := ⟨_, rfl⟩
      have hes : ex.size ≤ 4 := by rw [← hex]; exact encB_size r
      have hnb : n ≤ 160000 := by rw [← hn]; exact Nat.le_trans (Nat.mul_le_mul H1.out.hW.2 H1.out.hH.2) (by decide)
      have hln : (l : Int) < (n : Int) := by rw [← hn]; exact_mod_cast hlW
      rw [htx] at t0 hts
      rw [hex] at WG
      clear eo e1 e2 hn hix hl2
      go_wp2_with fail
      have f0 : w1.frozen? ⟨M, l * 5, none⟩ = false := fM _
      have tk : T ≠ M := H1.out.tm
      have hcc : ¬ 9223372036854775807 < tx.size + ex.size := by omega
      have kk : K ≠ M := H1.out.cs.ne
      refine wp_region_held_drew (S := fun W_ => W_.cell? ⟨T, 0, none⟩ = some (.pointer (some ⟨K, 0, none⟩)) ∧ W_.cell? ⟨K, 2, none⟩ = some (.slice (some ⟨M, 0, none⟩) n cap) ∧ W_.cell? ⟨T, 7, none⟩ = some (.int .i64 (l : Int))) hmix ⟨c0, k2, d7⟩ (fun hS0 => ?_)
      refine wpAnyH_take (i := 0) (v := ?v0) rfl (by kernel_rfl) (by kernel_rfl) (by kernel_rfl) (fun _ _ _ h => h) (Or.inl ⟨by rfl, ?hy⟩) (by assumption) ?_
      case hy => intro w hSw; (try dsimp only at hSw); go_simp <;> with_reducible rfl
      try simp only [Act.put]
      refine wpAnyH_take (i := 1) (v := ?v1) rfl (by kernel_rfl) (by kernel_rfl) (by kernel_rfl) (fun _ _ _ h => h) (Or.inl ⟨by rfl, ?hy⟩) (by assumption) ?_
      case hy => intro w hSw; (try dsimp only at hSw); go_simp <;> with_reducible rfl
      try simp only [Act.put]
      refine wpAnyH_take (i := 2) (v := ?v2) rfl (by kernel_rfl) (by kernel_rfl) (by kernel_rfl) (fun _ _ _ h => h) (Or.inl ⟨by rfl, ?hy⟩) (by assumption) ?_
      case hy => intro w hSw; (try dsimp only at hSw); go_simp <;> with_reducible rfl
      try simp only [Act.put]
      refine wpAnyH_take (i := 3) (v := ?v3) rfl (by kernel_rfl) (by kernel_rfl) (by kernel_rfl) (fun _ _ _ h => h) (Or.inl ⟨by rfl, ?hy⟩) (by assumption) ?_
      case hy => intro w hSw; (try dsimp only at hSw); go_simp <;> with_reducible rfl
      try simp only [Act.put]
      refine wpAnyH_take (i := 4) (v := ?v4) rfl (by kernel_rfl) (by kernel_rfl) (by kernel_rfl) (fun _ _ _ h => h) (Or.inl ⟨by rfl, ?hy⟩) (by assumption) ?_
      case hy => intro w hSw; (try dsimp only at hSw); go_simp <;> with_reducible rfl
      try simp only [Act.put]
      refine wpAnyH_take (i := 5) (v := ?v5) rfl (by kernel_rfl) (by kernel_rfl) (by kernel_rfl) (fun _ _ _ h => h) (Or.inl ⟨by rfl, ?hy⟩) (by assumption) ?_
      case hy => intro w hSw; (try dsimp only at hSw); go_simp <;> with_reducible rfl
      try simp only [Act.put]
      refine wpAnyH_take (i := 6) (v := ?v6) rfl (by kernel_rfl) (by kernel_rfl) (by kernel_rfl) (fun _ _ _ h => h) (Or.inl ⟨by rfl, ?hy⟩) (by assumption) ?_
      case hy => intro w hSw; (try dsimp only at hSw); go_simp <;> with_reducible rfl
      try simp only [Act.put]
      refine wpAnyH_take (i := 7) (v := ?v7) rfl (by kernel_rfl) (by kernel_rfl) (by kernel_rfl) (fun _ _ _ h => h) (Or.inl ⟨by rfl, ?hy⟩) (by assumption) ?_
      case hy => intro w hSw; (try dsimp only at hSw); go_simp <;> with_reducible rfl
      try simp only [Act.put]
      refine wpAnyH_take (i := 8) (v := ?v8) rfl (by kernel_rfl) (by kernel_rfl) (by kernel_rfl) (fun _ _ _ h => h) (Or.inl ⟨by rfl, ?hy⟩) (by assumption) ?_
      case hy => intro w hSw; (try dsimp only at hSw); go_simp <;> with_reducible rfl
      try simp only [Act.put]
      refine wpAnyH_take (i := 9) (v := ?v9) rfl (by kernel_rfl) (by kernel_rfl) (by kernel_rfl) (fun _ _ _ h => h) (Or.inl ⟨by rfl, ?hy⟩) (by assumption) ?_
      case hy => intro w hSw; (try dsimp only at hSw); go_simp <;> with_reducible rfl
      try simp only [Act.put]
      refine wpAnyH_take (i := 10) (v := ?v10) rfl (by kernel_rfl) (by kernel_rfl) (by kernel_rfl) (fun _ _ _ h => h) (Or.inl ⟨by rfl, ?hy⟩) (by assumption) ?_
      case hy => intro w hSw; (try dsimp only at hSw); go_simp <;> with_reducible rfl
      try simp only [Act.put]
      refine wpAnyH_take (i := 11) (v := ?v11) rfl (by kernel_rfl) (by kernel_rfl) (by kernel_rfl) (fun _ _ _ h => h) (Or.inl ⟨by rfl, ?hy⟩) (by assumption) ?_
      case hy => intro w hSw; (try dsimp only at hSw); go_simp <;> with_reducible rfl
      try simp only [Act.put]
      refine wpAnyH_take (i := 12) (v := ?v12) rfl (by kernel_rfl) (by kernel_rfl) (by kernel_rfl) (fun _ _ _ h => h) (Or.inl ⟨by rfl, ?hy⟩) (by assumption) ?_
      case hy => intro w hSw; (try dsimp only at hSw); go_simp <;> with_reducible rfl
      try simp only [Act.put]
      refine wpAnyH_take (i := 13) (v := ?v13) rfl (by kernel_rfl) (by kernel_rfl) (by kernel_rfl) (fun _ _ _ h => h) (Or.inl ⟨by rfl, ?hy⟩) (by assumption) ?_
      case hy => intro w hSw; (try dsimp only at hSw); go_simp <;> with_reducible rfl
      try simp only [Act.put]
      refine wpAnyH_take (i := 14) (v := ?v14) rfl (by kernel_rfl) (by kernel_rfl) (by kernel_rfl) (fun _ _ _ h => h) (Or.inl ⟨by rfl, ?hy⟩) (by assumption) ?_
      case hy => intro w hSw; (try dsimp only at hSw); go_simp <;> with_reducible rfl
      try simp only [Act.put]
      refine wpAnyH_take (i := 15) (v := ?v15) rfl (by kernel_rfl) (by kernel_rfl) (by kernel_rfl) (fun _ _ _ h => h) (Or.inl ⟨by rfl, ?hy⟩) (by assumption) ?_
      case hy => intro w hSw; (try dsimp only at hSw); go_simp <;> with_reducible rfl
      try simp only [Act.put]
      refine wpAnyH_take (i := 16) (v := ?v16) rfl (by kernel_rfl) (by kernel_rfl) (by kernel_rfl) (fun _ _ _ h => h) (Or.inl ⟨by rfl, ?hy⟩) (by assumption) ?_
      case hy => intro w hSw; (try dsimp only at hSw); go_simp <;> with_reducible rfl
      try simp only [Act.put]
      refine wpAnyH_take (i := 17) (v := ?v17) rfl (by kernel_rfl) (by kernel_rfl) (by kernel_rfl) (fun _ _ _ h => h) (Or.inl ⟨by rfl, ?hy⟩) (by assumption) ?_
      case hy => intro w hSw; (try dsimp only at hSw); go_simp <;> with_reducible rfl
      try simp only [Act.put]
      refine wpAnyH_take (i := 18) (v := ?v18) rfl (by kernel_rfl) (by kernel_rfl) (by kernel_rfl) (fun _ _ _ h => h) (Or.inl ⟨by rfl, ?hy⟩) (by assumption) ?_
      case hy => intro w hSw; (try dsimp only at hSw); go_simp <;> with_reducible rfl
      try simp only [Act.put]
      refine wpAnyH_take (i := 19) (v := ?v19) rfl (by kernel_rfl) (by kernel_rfl) (by kernel_rfl) (fun _ _ _ h => h) (Or.inl ⟨by rfl, ?hy⟩) (by assumption) ?_
      case hy => intro w hSw; (try dsimp only at hSw); go_simp <;> with_reducible rfl
      try simp only [Act.put]
      refine wpAnyH_take (i := 20) (v := ?v20) rfl (by kernel_rfl) (by kernel_rfl) (by kernel_rfl) (fun _ _ _ h => h) (Or.inl ⟨by rfl, ?hy⟩) (by assumption) ?_
      case hy => intro w hSw; (try dsimp only at hSw); go_simp <;> with_reducible rfl
      try simp only [Act.put]
      refine wpAnyH_take (i := 21) (v := ?v21) rfl (by kernel_rfl) (by kernel_rfl) (by kernel_rfl) (fun _ _ _ h => h) (Or.inl ⟨by rfl, ?hy⟩) (by assumption) ?_
      case hy => intro w hSw; (try dsimp only at hSw); go_simp <;> with_reducible rfl
      try simp only [Act.put]
      refine wpAnyH_take (i := 22) (v := ?v22) rfl (by kernel_rfl) (by kernel_rfl) (by kernel_rfl) (fun _ _ _ h => h) (Or.inl ⟨by rfl, ?hy⟩) (by assumption) ?_
      case hy => intro w hSw; (try dsimp only at hSw); go_simp <;> with_reducible rfl
      try simp only [Act.put]
      refine wpAnyH_take (i := 23) (v := ?v23) rfl (by kernel_rfl) (by kernel_rfl) (by kernel_rfl) (fun _ _ _ h => h) (Or.inl ⟨by rfl, ?hy⟩) (by assumption) ?_
      case hy => intro w hSw; (try dsimp only at hSw); go_simp <;> with_reducible rfl
      try simp only [Act.put]
      refine wpAnyH_take (i := 25) (v := ?v25) rfl (by kernel_rfl) (by kernel_rfl) (by kernel_rfl) (fun _ _ _ h => h) (Or.inl ⟨by rfl, ?hy⟩) (by assumption) ?_
      case hy => intro w hSw; (try dsimp only at hSw); go_simp <;> with_reducible rfl
      try simp only [Act.put]
      refine wpAnyH_ready (rs := [24, 26]) (by kernel_rfl) (by simp) ?_
      refine AllReadyH.cons rfl (fun K' hK => ?_) (AllReadyH.cons rfl (fun K' hK => ?_) AllReadyH.nil)
      · go_simp
        refine hK.out _ _ ⟨c0, k2, d7⟩ (fun hS1 => ?_)
        clear hK K'
        refine wpAnyH_ready (rs := [26]) (by kernel_rfl) (by simp) ?_
        refine AllReadyH.cons rfl (fun K' hK => ?_) AllReadyH.nil
        go_simp
        go_wp2_with (first | (go_at_call 50; refine Calls.mono (WG.out _) ?_; rintro e1 w2 ⟨rfl, g2⟩))
        have c0' := keepc g2 c0
        have k2' := keepc g2 k2
        have d7' := keepc g2 d7
        have t0' := keepc g2 t0
        have f0' := keepf g2 t0 f0
        refine hK.out _ _ ⟨c0', k2', d7'⟩ (fun hS2 => ?_)
        clear hK K'
        refine wpAnyH_take (i := 27) (v := ?v27) rfl (by kernel_rfl) (by kernel_rfl) (by kernel_rfl) (fun _ _ _ h => h) (Or.inl ⟨by rfl, ?hy⟩) (by assumption) ?_
        case hy => intro w hSw; (try dsimp only at hSw); go_simp <;> with_reducible rfl
        try simp only [Act.put]
        refine wpAnyH_take (i := 28) (v := ?v28) rfl (by kernel_rfl) (by kernel_rfl) (by kernel_rfl) (fun _ _ _ h => h) (Or.inl ⟨by rfl, ?hy⟩) (by assumption) ?_
        case hy => intro w hSw; (try dsimp only at hSw); go_simp <;> with_reducible rfl
        try simp only [Act.put]
        refine wpAnyH_take (i := 29) (v := ?v29) rfl (by kernel_rfl) (by kernel_rfl) (by kernel_rfl) (fun _ _ _ h => h) (Or.inl ⟨by rfl, ?hy⟩) (by assumption) ?_
        case hy => intro w hSw; (try dsimp only at hSw); go_simp <;> with_reducible rfl
        try simp only [Act.put]
        refine wpAnyH_ready (rs := [30]) (by kernel_rfl) (by simp) ?_
        refine AllReadyH.cons rfl (fun K' hK => ?_) AllReadyH.nil
        go_simp
        refine hK.out _ _ ⟨keepo c0' tk, keepo k2' kk, keepo d7' tk⟩ (fun _ => ?_)
        clear hK K'
        refine wpAnyH_done (by kernel_rfl) ?_ _
        skip
        have d8' := keepo (q := ⟨M, l * 5, none⟩) (u := .string (tx ++ ex)) (keepc g2 d8) tk
        have f8 : (w2.setCell ⟨M, l * 5, none⟩ (.string (tx ++ ex))).frozen? ⟨T, 8, none⟩ = false := by rw [World.frozen?_setCell]; exact keepf g2 d8 (fT 8)
        have HF : Hid (RT ((w2.setCell ⟨M, l * 5, none⟩ (.string (tx ++ ex))).setCell ⟨T, 8, none⟩ (.int .i64 (mk + 1))) T K M cap B bc { s with c := addT s.c s.W s.la (encB r), mks := s.mks + 1 } ∧ C3 T M B w ((w2.setCell ⟨M, l * 5, none⟩ (.string (tx ++ ex))).setCell ⟨T, 8, none⟩ (.int .i64 (mk + 1)))) := by
          refine ⟨?_, ((B1.out.trans (C3.gr ((Gr.refl _).drew.trans g2))).setM _ _).set _ _⟩
          have q := RT.mark (H1.out.gr ((Gr.refl _).drew.trans g2)) hlW HLA.out.1 (by rw [HE.out.1.1, HE.out.1.2]; exact HE.out.2.2) (encB r)
          rw [HE.out.1.1, HE.out.1.2, htx, hex, HLA.out.2] at q
          rw [hex, HLA.out.2]
          exact q
        clear hS0 hS1 hS2 t0' f0' k2' d7' c0' g2 t0 c0 k2 d7
        go_wp2
        refine bodyPost_ret (v := .tuple #[]) (by simp [results, Tryd.results53, go_sem]) rfl ?_
        exact ⟨rfl, by unfold markR; rw [if_pos ⟨by have := HLA.out.1; omega, by have := HLA.out.2; omega⟩]; exact HF.out.1, HF.out.2⟩
      · go_simp
        go_wp2_with (first | (go_at_call 50; refine Calls.mono (WG.out _) ?_; rintro e1 w2 ⟨rfl, g2⟩))
        have c0' := keepc g2 c0
        have k2' := keepc g2 k2
        have d7' := keepc g2 d7
        have t0' := keepc g2 t0
        have f0' := keepf g2 t0 f0
        refine hK.out _ _ ⟨c0', k2', d7'⟩ (fun hS2 => ?_)
        clear hK K'
        refine wpAnyH_ready (rs := [24]) (by kernel_rfl) (by simp) ?_
        refine AllReadyH.cons rfl (fun K' hK => ?_) AllReadyH.nil
        go_simp
        refine hK.out _ _ ⟨c0', k2', d7'⟩ (fun hS1 => ?_)
        clear hK K'
        refine wpAnyH_take (i := 27) (v := ?v27) rfl (by kernel_rfl) (by kernel_rfl) (by kernel_rfl) (fun _ _ _ h => h) (Or.inl ⟨by rfl, ?hy⟩) (by assumption) ?_
        case hy => intro w hSw; (try dsimp only at hSw); go_simp <;> with_reducible rfl
        try simp only [Act.put]
        refine wpAnyH_take (i := 28) (v := ?v28) rfl (by kernel_rfl) (by kernel_rfl) (by kernel_rfl) (fun _ _ _ h => h) (Or.inl ⟨by rfl, ?hy⟩) (by assumption) ?_
        case hy => intro w hSw; (try dsimp only at hSw); go_simp <;> with_reducible rfl
        try simp only [Act.put]
        refine wpAnyH_take (i := 29) (v := ?v29) rfl (by kernel_rfl) (by kernel_rfl) (by kernel_rfl) (fun _ _ _ h => h) (Or.inl ⟨by rfl, ?hy⟩) (by assumption) ?_
        case hy => intro w hSw; (try dsimp only at hSw); go_simp <;> with_reducible rfl
        try simp only [Act.put]
        refine wpAnyH_ready (rs := [30]) (by kernel_rfl) (by simp) ?_
        refine AllReadyH.cons rfl (fun K' hK => ?_) AllReadyH.nil
        go_simp
        refine hK.out _ _ ⟨keepo c0' tk, keepo k2' kk, keepo d7' tk⟩ (fun _ => ?_)
        clear hK K'
        refine wpAnyH_done (by kernel_rfl) ?_ _
        skip
        have d8' := keepo (q := ⟨M, l * 5, none⟩) (u := .string (tx ++ ex)) (keepc g2 d8) tk
        have f8 : (w2.setCell ⟨M, l * 5, none⟩ (.string (tx ++ ex))).frozen? ⟨T, 8, none⟩ = false := by rw [World.frozen?_setCell]; exact keepf g2 d8 (fT 8)
        have HF : Hid (RT ((w2.setCell ⟨M, l * 5, none⟩ (.string (tx ++ ex))).setCell ⟨T, 8, none⟩ (.int .i64 (mk + 1))) T K M cap B bc { s with c := addT s.c s.W s.la (encB r), mks := s.mks + 1 } ∧ C3 T M B w ((w2.setCell ⟨M, l * 5, none⟩ (.string (tx ++ ex))).setCell ⟨T, 8, none⟩ (.int .i64 (mk + 1)))) := by
          refine ⟨?_, ((B1.out.trans (C3.gr ((Gr.refl _).drew.trans g2))).setM _ _).set _ _⟩
          have q := RT.mark (H1.out.gr ((Gr.refl _).drew.trans g2)) hlW HLA.out.1 (by rw [HE.out.1.1, HE.out.1.2]; exact HE.out.2.2) (encB r)
          rw [HE.out.1.1, HE.out.1.2, htx, hex, HLA.out.2] at q
          rw [hex, HLA.out.2]
          exact q
        clear hS0 hS1 hS2 t0' f0' k2' d7' c0' g2 t0 c0 k2 d7
        go_wp2
        refine bodyPost_ret (v := .tuple #[]) (by simp [results, Tryd.results53, go_sem]) rfl ?_
        exact ⟨rfl, by unfold markR; rw [if_pos ⟨by have := HLA.out.1; omega, by have := HLA.out.2; omega⟩]; exact HF.out.1, HF.out.2⟩
    · go_wp2
      refine bodyPost_ret (v := .tuple #[]) (by simp [results, Tryd.results53, go_sem]) rfl ?_
      exact ⟨rfl, by unfold markR; rw [if_neg (fun q => by have := HLA.out.2; omega)]; exact H1.out, B1.out⟩
  · go_wp2
    refine bodyPost_ret (v := .tuple #[]) (by simp [results, Tryd.results53, go_sem]) rfl ?_
    exact ⟨rfl, by unfold markR; rw [if_neg (fun q => by have := HLA.out.1; omega)]; exact H1.out, B1.out⟩
end

end Go.Proofs.YtlfffpoeioecjaaDoor
