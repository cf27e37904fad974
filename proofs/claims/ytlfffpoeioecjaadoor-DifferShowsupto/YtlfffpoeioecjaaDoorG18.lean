/-
  A terminal of the program's in memory.
-/
import Derived.Test.YtlfffpoeioecjaaDoorG14
namespace Go.Proofs.YtlfffpoeioecjaaDoor
open Go.RowKit Go.Sort
set_option linter.unusedVariables false

/-- What a terminal keeps beside its cells: the cursor, the style, the last cell. -/
structure Tc where
  x : Int
  y : Int
  f : Int
  g : Int
  b : Int
  lx : Int
  ly : Int
  lt : ByteArray
  lw : Int
  lm : Int
structure Tm where
  W : Nat
  H : Nat
  c : Nat → Nat → Ce
  r : Tc
def tmc (K : Nat) (r : Tc) (nv : Value) : Array Value := #[.pointer (some ⟨K, 0, none⟩), .int .i64 r.x, .int .i64 r.y, .int .i64 r.f, .int .i64 r.g, .int .i64 r.b, .int .i64 r.lx, .int .i64 r.ly, .string r.lt, .int .i64 r.lw, .int .i64 r.lm, nv]
structure TM (Q : World) (T K M cap : Nat) (s : Tm) (nv : Value) : Prop where
  tb : Q.heap[T]? = some (.cells (tmc K s.r nv) 71 (0, 0))
  cs : CS 101 34 Q K M cap s.W s.H s.c
  tk : T ≠ K
  tm : T ≠ M
  hW : 1 ≤ s.W ∧ s.W ≤ 400
  hH : 1 ≤ s.H ∧ s.H ≤ 400
  pa : PAll s.W s.H s.c
/-- All blocks but T and M stay. -/
structure C2 (T M : Nat) (W W' : World) : Prop where
  os : W'.os = W.os
  tape : W'.tape = W.tape
  output : W'.output = W.output
  size : W.heap.size ≤ W'.heap.size
  block : ∀ b, b < W.heap.size → b ≠ T → b ≠ M → W'.heap[b]? = W.heap[b]?
section
variable {T K M cap : Nat} {s : Tm} {nv : Value} {Q Q' Q2 : World}
theorem C2.refl (T M : Nat) (W : World) : C2 T M W W := ⟨rfl, rfl, rfl, Nat.le_refl _, fun _ _ _ _ => rfl⟩
theorem C2.trans (h : C2 T M Q Q') (k : C2 T M Q' Q2) : C2 T M Q Q2 := ⟨k.os.trans h.os, k.tape.trans h.tape, k.output.trans h.output, Nat.le_trans h.size k.size, fun b h1 h2 h3 => (k.block b (Nat.lt_of_lt_of_le h1 h.size) h2 h3).trans (h.block b h1 h2 h3)⟩
theorem C2.gr (g : Gr Q Q') : C2 T M Q Q' := ⟨g.below.os, g.below.tape, g.below.output, g.size, fun b h1 _ _ => g.block h1⟩
theorem C2.below (g : Below Q.heap.size Q Q') : C2 T M Q Q' := ⟨g.os, g.tape, g.output, g.size, fun b h1 _ _ => g.block b h1⟩
theorem C2.ch (g : Ch M Q Q') : C2 T M Q Q' := ⟨g.os, g.tape, g.output, g.size, fun b h1 _ h3 => g.block b h1 h3⟩
theorem C2.set (h : C2 T M Q Q') (o : Nat) (v : Value) : C2 T M Q (Q'.setCell ⟨T, o, none⟩ v) :=
  ⟨h.os, h.tape, h.output, by simpa [World.setCell] using h.size, fun b h1 h2 h3 => (Below.heap_setCell Q' ⟨T, o, none⟩ v b h2).trans (h.block b h1 h2 h3)⟩
theorem TM.lt (h : TM Q T K M cap s nv) : T < Q.heap.size := (Array.getElem?_eq_some_iff.1 h.tb).1
theorem TM.fz (h : TM Q T K M cap s nv) (j : Nat) : Q.frozen? ⟨T, j, none⟩ = false := frozen_of_row _ _ _ _ _ h.tb
theorem TM.at (h : TM Q T K M cap s nv) {j : Nat} {v : Value} (hv : (tmc K s.r nv)[j]? = some v) : Q.cell? ⟨T, j, none⟩ = some v := by rw [cell_of_row Q T j _ _ _ h.tb]; exact hv
theorem TM.gr (h : TM Q T K M cap s nv) (g : Gr Q Q') : TM Q' T K M cap s nv := ⟨(g.block h.lt).trans h.tb, h.cs.gr g, h.tk, h.tm, h.hW, h.hH, h.pa⟩
theorem TM.below (h : TM Q T K M cap s nv) (g : Below Q.heap.size Q Q') : TM Q' T K M cap s nv :=
  ⟨(g.block T h.lt).trans h.tb, ⟨(g.block K h.cs.klt).trans h.cs.kb, h.cs.cv.keep (g.block M h.cs.cv.lt), h.cs.ne, h.cs.hc⟩, h.tk, h.tm, h.hW, h.hH, h.pa⟩
/-- A cell of its block is another one now. -/
theorem TM.set (h : TM Q T K M cap s nv) (o : Nat) (v : Value) (r' : Tc) (nv' : Value) (e : (tmc K s.r nv).setIfInBounds o v = tmc K r' nv') : TM (Q.setCell ⟨T, o, none⟩ v) T K M cap { s with r := r' } nv' :=
  ⟨by rw [← e]; exact heap_setCell_same Q T o _ _ v h.tb,
   ⟨(Below.heap_setCell Q ⟨T, o, none⟩ v K (fun e => h.tk e.symm)).trans h.cs.kb, h.cs.cv.other (fun e => h.tm e.symm) o v, h.cs.ne, h.cs.hc⟩, h.tk, h.tm, h.hW, h.hH, h.pa⟩
/-- Its cells are others now. -/
theorem TM.cells {c' : Nat → Nat → Ce} (h : TM Q T K M cap s nv) (v : Cv 34 Q' M s.W s.H c') (g : Ch M Q Q') (pa : PAll s.W s.H c') : TM Q' T K M cap { s with c := c' } nv :=
  ⟨(g.block T h.lt h.tm).trans h.tb, ⟨(g.block K h.cs.klt h.cs.ne).trans h.cs.kb, v, h.cs.ne, h.cs.hc⟩, h.tk, h.tm, h.hW, h.hH, pa⟩
end
def clr (r : Tc) : Tc := { r with lx := 0, ly := 0, lt := ⟨#[]⟩, lw := 0, lm := 0 }

section
variable {T K M cap : Nat} {s : Tm} {nv : Value}
set_option maxRecDepth 100000 in
theorem forget_any (w : World) (h : TM w T K M cap s nv) : Calls Tryd.prog 57 #[.pointer (some ⟨T, 0, none⟩)] w fun e w' => e = .returned (.tuple #[]) ∧ TM w' T K M cap { s with r := clr s.r } nv ∧ C2 T M w w' := by
  have c6 : w.cell? ⟨T, 6, none⟩ = some (.int .i64 s.r.lx) := h.at rfl
  have c7 : w.cell? ⟨T, 7, none⟩ = some (.int .i64 s.r.ly) := h.at rfl
  have c8 : w.cell? ⟨T, 8, none⟩ = some (.string s.r.lt) := h.at rfl
  have c9 : w.cell? ⟨T, 9, none⟩ = some (.int .i64 s.r.lw) := h.at rfl
  have c10 : w.cell? ⟨T, 10, none⟩ = some (.int .i64 s.r.lm) := h.at rfl
  have fz := h.fz
  have HM : Hid (TM w T K M cap s nv) := h
  clear h
  go_enter Tryd.func57, Tryd.ntmps57
  go_wp2
  go_end0
  refine ⟨rfl, ?_, ((((((C2.refl T M w).set _ _).set _ _).set _ _).set _ _).set _ _)⟩
  have h1 := HM.out.set 6 (.int .i64 0) { s.r with lx := 0 } nv rfl
  have h2 := h1.set 7 (.int .i64 0) { s.r with lx := 0, ly := 0 } nv rfl
  have h3 := h2.set 8 (.string ⟨#[]⟩) { s.r with lx := 0, ly := 0, lt := ⟨#[]⟩ } nv rfl
  have h4 := h3.set 9 (.int .i64 0) { s.r with lx := 0, ly := 0, lt := ⟨#[]⟩, lw := 0 } nv rfl
  exact h4.set 10 (.int .i64 0) (clr s.r) nv rfl

set_option maxRecDepth 100000 in
theorem tsize_any (w : World) (h : TM w T K M cap s nv) : Calls Tryd.prog 100 #[.pointer (some ⟨T, 0, none⟩)] w fun e w' => e = .returned (.tuple #[.int .i64 s.W, .int .i64 s.H]) ∧ Gr w w' := by
  have c0 : w.cell? ⟨T, 0, none⟩ = some (.pointer (some ⟨K, 0, none⟩)) := h.at rfl
  have SZ : Hid (Calls Tryd.prog 117 #[.pointer (some ⟨K, 0, none⟩)] w fun e w' => e = .returned (.tuple #[.int .i64 s.W, .int .i64 s.H]) ∧ Gr w w') := size_any w h.cs
  clear h
  go_enter Tryd.func100, Tryd.ntmps100
  go_wp2_with fail
  refine SZ.out.mono ?_
  rintro e w1 ⟨rfl, g1⟩
  go_wp2
  refine bodyPost_ret (v := .tuple #[.int .i64 s.W, .int .i64 s.H]) (by simp [results, Tryd.results100, go_sem]) rfl ?_
  exact ⟨rfl, g1⟩

set_option maxRecDepth 100000 in
theorem whole_rect (w : World) (h : TM w T K M cap s nv) : Calls Tryd.prog 112 #[.pointer (some ⟨T, 0, none⟩)] w fun e w' => e = .returned (rv 0 0 s.W s.H) ∧ Gr w w' := by
  have SZ : Hid (∀ w', Gr w w' → Calls Tryd.prog 100 #[.pointer (some ⟨T, 0, none⟩)] w' fun e w2 => e = .returned (.tuple #[.int .i64 s.W, .int .i64 s.H]) ∧ Gr w' w2) := fun w' g => tsize_any w' (h.gr g)
  clear h
  go_enter Tryd.func112, Tryd.ntmps112
  go_wp2_with fail
  obtain ⟨S, hS⟩ : ∃ z, w.heap.size = z := ⟨_, rfl⟩
  obtain ⟨W0, hW0⟩ : ∃ z, w.alloc (.cells #[.int .i64 0, .int .i64 0, .int .i64 0, .int .i64 0] 169) = z := ⟨_, rfl⟩
  have G0 : Hid (Gr w W0) := by rw [← hW0]; exact (Gr.refl w).alloc _
  have R0 : Hid (R4 169 W0 S 0 0 0 0) := by rw [← hW0, ← hS]; exact R4.new w 0 0 0 0 _
  rw [hW0, hS]
  have HS : Hid (w.heap.size = S) := hS
  clear hW0 hS
  refine (SZ.out _ G0.out).mono ?_
  rintro e w1 ⟨rfl, g1⟩
  have R1 : Hid (R4 169 w1 S 0 0 0 0) := R0.out.gr g1
  have HG : Hid (Gr w w1) := G0.out.trans g1
  have c0 := R1.out.c0
  have c1 := R1.out.c1
  have c2 := R1.out.c2
  have c3 := R1.out.c3
  have fz := R1.out.fz
  clear g1
  go_wp2
  refine bodyPost_ret (results_cell_row rfl _ _ S _ _ _ _ rfl (R1.out.set 0 0 s.W s.H) Tryd.underlying169 rfl (by kernel_rfl)) rfl ?_
  exact ⟨rfl, (((HG.out.set (by rw [HS.out]; exact Nat.le_refl _) _).set (by rw [HS.out]; exact Nat.le_refl _) _).set (by rw [HS.out]; exact Nat.le_refl _) _).set (by rw [HS.out]; exact Nat.le_refl _) _⟩

/-- What putLast leaves. -/
def putL (s : Tm) : Tm := { s with c := putC s.W s.H s.c s.r.lx s.r.ly s.r.lt s.r.lw s.r.f s.r.g s.r.b 0 0 s.W s.H }
set_option maxRecDepth 100000 in
set_option maxHeartbeats 4000000 in
theorem putLast_any (w : World) (h : TM w T K M cap s nv) : Calls Tryd.prog 101 #[.pointer (some ⟨T, 0, none⟩)] w fun e w' => e = .returned (.tuple #[]) ∧ TM w' T K M cap (putL s) nv ∧ C2 T M w w' := by
  have hp : PAll s.W s.H (putL s).c := h.pa.putX h.hW h.hH _ _ _ _ _ _ _ _ _ _ _
  have WR : Hid (∀ w', Gr w w' → Calls Tryd.prog 112 #[.pointer (some ⟨T, 0, none⟩)] w' fun e w2 => e = .returned (rv 0 0 s.W s.H) ∧ Gr w' w2) := fun w' g => whole_rect w' (h.gr g)
  have PU : Hid (∀ w', Gr w w' → Calls Tryd.prog 118 #[.pointer (some ⟨K, 0, none⟩), .int .i64 s.r.lx, .int .i64 s.r.ly, .agg #[.string s.r.lt, .int .i64 s.r.lw], sv s.r.f s.r.g s.r.b, rv 0 0 s.W s.H] w' fun e w2 => e = .returned (.tuple #[]) ∧ Hid (TM w2 T K M cap (putL s) nv ∧ C2 T M w w2)) := fun w' g => (put_any w' (h.gr g).cs h.hW h.hH h.pa s.r.lx s.r.ly s.r.lt s.r.lw s.r.f s.r.g s.r.b 0 0 s.W s.H).mono fun e w2 q => ⟨q.1, (h.gr g).cells q.2.1 q.2.2 hp, (C2.gr g).trans (C2.ch q.2.2)⟩
  have CE : Hid (∀ w', Gr w w' → ∀ j v, (tmc K s.r nv)[j]? = some v → w'.cell? ⟨T, j, none⟩ = some v) := fun w' g j v hv => (h.gr g).at hv
  have c0 : w.cell? ⟨T, 0, none⟩ = some (.pointer (some ⟨K, 0, none⟩)) := h.at rfl
  have c3 : w.cell? ⟨T, 3, none⟩ = some (.int .i64 s.r.f) := h.at rfl
  have c4 : w.cell? ⟨T, 4, none⟩ = some (.int .i64 s.r.g) := h.at rfl
  have c5 : w.cell? ⟨T, 5, none⟩ = some (.int .i64 s.r.b) := h.at rfl
  have c6 : w.cell? ⟨T, 6, none⟩ = some (.int .i64 s.r.lx) := h.at rfl
  have c7 : w.cell? ⟨T, 7, none⟩ = some (.int .i64 s.r.ly) := h.at rfl
  have c8 : w.cell? ⟨T, 8, none⟩ = some (.string s.r.lt) := h.at rfl
  have c9 : w.cell? ⟨T, 9, none⟩ = some (.int .i64 s.r.lw) := h.at rfl
  clear h hp
  go_enter Tryd.func101, Tryd.ntmps101
  go_wp2_with fail
  go_region_held (fun W => W.cell? ⟨T, 0, none⟩ = some (.pointer (some ⟨K, 0, none⟩)) ∧ W.cell? ⟨T, 3, none⟩ = some (.int .i64 s.r.f) ∧ W.cell? ⟨T, 4, none⟩ = some (.int .i64 s.r.g) ∧ W.cell? ⟨T, 5, none⟩ = some (.int .i64 s.r.b) ∧ W.cell? ⟨T, 6, none⟩ = some (.int .i64 s.r.lx) ∧ W.cell? ⟨T, 7, none⟩ = some (.int .i64 s.r.ly) ∧ W.cell? ⟨T, 8, none⟩ = some (.string s.r.lt) ∧ W.cell? ⟨T, 9, none⟩ = some (.int .i64 s.r.lw)) (go_keep) (first | (go_at_call 112; refine Calls.mono (WR.out _ (by first | exact Gr.refl _ | exact (Gr.refl _).drew)) ?_; rintro e1 w1 ⟨rfl, g1⟩; have G1 : Hid (Gr w w1) := (by first | exact g1 | exact ((Gr.refl w).drew).trans g1); clear g1; have o0 : w1.cell? ⟨T, 0, none⟩ = some (.pointer (some ⟨K, 0, none⟩)) := CE.out w1 G1.out 0 _ rfl; have o3 : w1.cell? ⟨T, 3, none⟩ = some (.int .i64 s.r.f) := CE.out w1 G1.out 3 _ rfl; have o4 : w1.cell? ⟨T, 4, none⟩ = some (.int .i64 s.r.g) := CE.out w1 G1.out 4 _ rfl; have o5 : w1.cell? ⟨T, 5, none⟩ = some (.int .i64 s.r.b) := CE.out w1 G1.out 5 _ rfl; have o6 : w1.cell? ⟨T, 6, none⟩ = some (.int .i64 s.r.lx) := CE.out w1 G1.out 6 _ rfl; have o7 : w1.cell? ⟨T, 7, none⟩ = some (.int .i64 s.r.ly) := CE.out w1 G1.out 7 _ rfl; have o8 : w1.cell? ⟨T, 8, none⟩ = some (.string s.r.lt) := CE.out w1 G1.out 8 _ rfl; have o9 : w1.cell? ⟨T, 9, none⟩ = some (.int .i64 s.r.lw) := CE.out w1 G1.out 9 _ rfl) | (go_at_call 118; refine Calls.mono (PU.out _ G1.out) ?_; rintro e2 w2 ⟨rfl, H2⟩; have u0 : w2.cell? ⟨T, 0, none⟩ = some (.pointer (some ⟨K, 0, none⟩)) := H2.out.1.at rfl; have u3 : w2.cell? ⟨T, 3, none⟩ = some (.int .i64 s.r.f) := H2.out.1.at rfl; have u4 : w2.cell? ⟨T, 4, none⟩ = some (.int .i64 s.r.g) := H2.out.1.at rfl; have u5 : w2.cell? ⟨T, 5, none⟩ = some (.int .i64 s.r.b) := H2.out.1.at rfl; have u6 : w2.cell? ⟨T, 6, none⟩ = some (.int .i64 s.r.lx) := H2.out.1.at rfl; have u7 : w2.cell? ⟨T, 7, none⟩ = some (.int .i64 s.r.ly) := H2.out.1.at rfl; have u8 : w2.cell? ⟨T, 8, none⟩ = some (.string s.r.lt) := H2.out.1.at rfl; have u9 : w2.cell? ⟨T, 9, none⟩ = some (.int .i64 s.r.lw) := H2.out.1.at rfl))
  all_goals
    go_wp2
    go_end0
    exact ⟨rfl, H2.out.1, H2.out.2⟩
end

end Go.Proofs.YtlfffpoeioecjaaDoor
