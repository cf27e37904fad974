/-
  A terminal of the program's in memory.
-/
import Derived.Test.YtkdajaphbmclkaaGreatDoorX04
import Derived.Deep.MidRow
namespace Go.Proofs.YtkdajaphbmclkaaGreatDoor
open Go.RowKit Go.Sort
set_option linter.unusedVariables false

/-- What a terminal keeps beside its cells: the cursor, the style, the last cell. -/
structure Tc where
  x : Int
  y : Int
  f : Int
  g : Int
  b : Int
  lx : Int
  ly : Int
  lt : ByteArray
  lw : Int
  lm : Int
structure Tm where
  W : Nat
  H : Nat
  c : Nat → Nat → Ce
  r : Tc
def tmc (K : Nat) (r : Tc) (nv : Value) : Array Value := #[.pointer (some ⟨K, 0, none⟩), .int .i64 r.x, .int .i64 r.y, .int .i64 r.f, .int .i64 r.g, .int .i64 r.b, .int .i64 r.lx, .int .i64 r.ly, .string r.lt, .int .i64 r.lw, .int .i64 r.lm, nv]
structure TM (Q : World) (T K M cap : Nat) (s : Tm) (nv : Value) : Prop where
  tb : Q.heap[T]? = some (.cells (tmc K s.r nv) 56 (0, 0))
  cs : CS 82 71 Q K M cap s.W s.H s.c
  tk : T ≠ K
  tm : T ≠ M
  hW : 1 ≤ s.W ∧ s.W ≤ 400
  hH : 1 ≤ s.H ∧ s.H ≤ 400
  pa : PAll s.W s.H s.c
/-- All blocks but T and M stay. -/
structure C2 (T M : Nat) (W W' : World) : Prop where
  os : W'.os = W.os
  tape : W'.tape = W.tape
  output : W'.output = W.output
  size : W.heap.size ≤ W'.heap.size
  block : ∀ b, b < W.heap.size → b ≠ T → b ≠ M → W'.heap[b]? = W.heap[b]?
section
variable {T K M cap : Nat} {s : Tm} {nv : Value} {Q Q' Q2 : World}
theorem C2.refl (T M : Nat) (W : World) : C2 T M W W := ⟨rfl, rfl, rfl, Nat.le_refl _, fun _ _ _ _ => rfl⟩
theorem C2.trans (h : C2 T M Q Q') (k : C2 T M Q' Q2) : C2 T M Q Q2 := ⟨k.os.trans h.os, k.tape.trans h.tape, k.output.trans h.output, Nat.le_trans h.size k.size, fun b h1 h2 h3 => (k.block b (Nat.lt_of_lt_of_le h1 h.size) h2 h3).trans (h.block b h1 h2 h3)⟩
theorem C2.gr (g : Gr Q Q') : C2 T M Q Q' := ⟨g.below.os, g.below.tape, g.below.output, g.size, fun b h1 _ _ => g.block h1⟩
theorem C2.below (g : Below Q.heap.size Q Q') : C2 T M Q Q' := ⟨g.os, g.tape, g.output, g.size, fun b h1 _ _ => g.block b h1⟩
theorem C2.ch (g : Ch M Q Q') : C2 T M Q Q' := ⟨g.os, g.tape, g.output, g.size, fun b h1 _ h3 => g.block b h1 h3⟩
theorem C2.set (h : C2 T M Q Q') (o : Nat) (v : Value) : C2 T M Q (Q'.setCell ⟨T, o, none⟩ v) :=
  ⟨h.os, h.tape, h.output, by simpa [World.setCell] using h.size, fun b h1 h2 h3 => (Below.heap_setCell Q' ⟨T, o, none⟩ v b h2).trans (h.block b h1 h2 h3)⟩
theorem TM.lt (h : TM Q T K M cap s nv) : T < Q.heap.size := (Array.getElem?_eq_some_iff.1 h.tb).1
theorem TM.fz (h : TM Q T K M cap s nv) (j : Nat) : Q.frozen? ⟨T, j, none⟩ = false := frozen_of_row _ _ _ _ _ h.tb
theorem TM.at (h : TM Q T K M cap s nv) {j : Nat} {v : Value} (hv : (tmc K s.r nv)[j]? = some v) : Q.cell? ⟨T, j, none⟩ = some v := by rw [cell_of_row Q T j _ _ _ h.tb]; exact hv
theorem TM.gr (h : TM Q T K M cap s nv) (g : Gr Q Q') : TM Q' T K M cap s nv := ⟨(g.block h.lt).trans h.tb, h.cs.gr g, h.tk, h.tm, h.hW, h.hH, h.pa⟩
theorem TM.below (h : TM Q T K M cap s nv) (g : Below Q.heap.size Q Q') : TM Q' T K M cap s nv :=
  ⟨(g.block T h.lt).trans h.tb, ⟨(g.block K h.cs.klt).trans h.cs.kb, h.cs.cv.keep (g.block M h.cs.cv.lt), h.cs.ne, h.cs.hc⟩, h.tk, h.tm, h.hW, h.hH, h.pa⟩
/-- A cell of its block is another one now. -/
theorem TM.set (h : TM Q T K M cap s nv) (o : Nat) (v : Value) (r' : Tc) (nv' : Value) (e : (tmc K s.r nv).setIfInBounds o v = tmc K r' nv') : TM (Q.setCell ⟨T, o, none⟩ v) T K M cap { s with r := r' } nv' :=
  ⟨by rw [← e]; exact heap_setCell_same Q T o _ _ v h.tb,
   ⟨(Below.heap_setCell Q ⟨T, o, none⟩ v K (fun e => h.tk e.symm)).trans h.cs.kb, h.cs.cv.other (fun e => h.tm e.symm) o v, h.cs.ne, h.cs.hc⟩, h.tk, h.tm, h.hW, h.hH, h.pa⟩
/-- Its cells are others now. -/
theorem TM.cells {c' : Nat → Nat → Ce} (h : TM Q T K M cap s nv) (v : Cv 71 Q' M s.W s.H c') (g : Ch M Q Q') (pa : PAll s.W s.H c') : TM Q' T K M cap { s with c := c' } nv :=
  ⟨(g.block T h.lt h.tm).trans h.tb, ⟨(g.block K h.cs.klt h.cs.ne).trans h.cs.kb, v, h.cs.ne, h.cs.hc⟩, h.tk, h.tm, h.hW, h.hH, pa⟩
end
def clr (r : Tc) : Tc := { r with lx := 0, ly := 0, lt := ⟨#[]⟩, lw := 0, lm := 0 }

section
variable {T K M cap : Nat} {s : Tm} {nv : Value}
set_option maxRecDepth 100000 in
theorem forget_any (w : World) (h : TM w T K M cap s nv) : Calls Tryz.prog 29 #[.pointer (some ⟨T, 0, none⟩)] w fun e w' => e = .returned (.tuple #[]) ∧ TM w' T K M cap { s with r := clr s.r } nv ∧ C2 T M w w' := by
  have c6 : w.cell? ⟨T, 6, none⟩ = some (.int .i64 s.r.lx) := h.at rfl
  have c7 : w.cell? ⟨T, 7, none⟩ = some (.int .i64 s.r.ly) := h.at rfl
  have c8 : w.cell? ⟨T, 8, none⟩ = some (.string s.r.lt) := h.at rfl
  have c9 : w.cell? ⟨T, 9, none⟩ = some (.int .i64 s.r.lw) := h.at rfl
  have c10 : w.cell? ⟨T, 10, none⟩ = some (.int .i64 s.r.lm) := h.at rfl
  have fz := h.fz
  have HM : Hid (TM w T K M cap s nv) := h
  clear h
  go_enter Tryz.func29, Tryz.ntmps29
  go_wp2
  go_end0
  refine ⟨rfl, ?_, ((((((C2.refl T M w).set _ _).set _ _).set _ _).set _ _).set _ _)⟩
  have h1 := HM.out.set 6 (.int .i64 0) { s.r with lx := 0 } nv rfl
  have h2 := h1.set 7 (.int .i64 0) { s.r with lx := 0, ly := 0 } nv rfl
  have h3 := h2.set 8 (.string ⟨#[]⟩) { s.r with lx := 0, ly := 0, lt := ⟨#[]⟩ } nv rfl
  have h4 := h3.set 9 (.int .i64 0) { s.r with lx := 0, ly := 0, lt := ⟨#[]⟩, lw := 0 } nv rfl
  exact h4.set 10 (.int .i64 0) (clr s.r) nv rfl

set_option maxRecDepth 100000 in
theorem tsize_any (w : World) (h : TM w T K M cap s nv) : Calls Tryz.prog 66 #[.pointer (some ⟨T, 0, none⟩)] w fun e w' => e = .returned (.tuple #[.int .i64 s.W, .int .i64 s.H]) ∧ Gr w w' := by
  have c0 : w.cell? ⟨T, 0, none⟩ = some (.pointer (some ⟨K, 0, none⟩)) := h.at rfl
  have SZ : Hid (Calls Tryz.prog 81 #[.pointer (some ⟨K, 0, none⟩)] w fun e w' => e = .returned (.tuple #[.int .i64 s.W, .int .i64 s.H]) ∧ Gr w w') := size_any w h.cs
  clear h
  go_enter Tryz.func66, Tryz.ntmps66
  go_wp2_with fail
  refine SZ.out.mono ?_
  rintro e w1 ⟨rfl, g1⟩
  go_wp2
  refine bodyPost_ret (v := .tuple #[.int .i64 s.W, .int .i64 s.H]) (by simp [results, Tryz.results66, go_sem]) rfl ?_
  exact ⟨rfl, g1⟩

set_option maxRecDepth 100000 in
theorem whole_rect (w : World) (h : TM w T K M cap s nv) : Calls Tryz.prog 76 #[.pointer (some ⟨T, 0, none⟩)] w fun e w' => e = .returned (rv 0 0 s.W s.H) ∧ Gr w w' := by
  have SZ : Hid (∀ w', Gr w w' → Calls Tryz.prog 66 #[.pointer (some ⟨T, 0, none⟩)] w' fun e w2 => e = .returned (.tuple #[.int .i64 s.W, .int .i64 s.H]) ∧ Gr w' w2) := fun w' g => tsize_any w' (h.gr g)
  clear h
  go_enter Tryz.func76, Tryz.ntmps76
  go_wp2_with fail
  obtain ⟨S, hS⟩ : ∃ z, w.heap.size = z := ⟨_, rfl⟩
  obtain ⟨W0, hW0⟩ : ∃ z, w.alloc (.cells #[.int .i64 0, .int .i64 0, .int .i64 0, .int .i64 0] 132) = z := ⟨_, rfl⟩
  have G0 : Hid (Gr w W0) := by rw [← hW0]; exact (Gr.refl w).alloc _
  have R0 : Hid (R4 132 W0 S 0 0 0 0) := by rw [← hW0, ← hS]; exact R4.new w 0 0 0 0 _
  rw [hW0, hS]
  have HS : Hid (w.heap.size = S) := hS
  clear hW0 hS
  refine (SZ.out _ G0.out).mono ?_
  rintro e w1 ⟨rfl, g1⟩
  have R1 : Hid (R4 132 w1 S 0 0 0 0) := R0.out.gr g1
  have HG : Hid (Gr w w1) := G0.out.trans g1
  have c0 := R1.out.c0
  have c1 := R1.out.c1
  have c2 := R1.out.c2
  have c3 := R1.out.c3
  have fz := R1.out.fz
  clear g1
  go_wp2
  refine bodyPost_ret (results_cell_row rfl _ _ S _ _ _ _ rfl (R1.out.set 0 0 s.W s.H) Tryz.underlying132 rfl (by kernel_rfl)) rfl ?_
  exact ⟨rfl, (((HG.out.set (by rw [HS.out]; exact Nat.le_refl _) _).set (by rw [HS.out]; exact Nat.le_refl _) _).set (by rw [HS.out]; exact Nat.le_refl _) _).set (by rw [HS.out]; exact Nat.le_refl _) _⟩

/-- What putLast leaves. -/
def putL (s : Tm) : Tm := { s with c := putC s.W s.H s.c s.r.lx s.r.ly s.r.lt s.r.lw s.r.f s.r.g s.r.b 0 0 s.W s.H }
set_option maxRecDepth 100000 in
set_option maxHeartbeats 4000000 in
theorem putLast_any (w : World) (h : TM w T K M cap s nv) : Calls Tryz.prog 67 #[.pointer (some ⟨T, 0, none⟩)] w fun e w' => e = .returned (.tuple #[]) ∧ TM w' T K M cap (putL s) nv ∧ C2 T M w w' := by
  have hp : PAll s.W s.H (putL s).c := h.pa.putX h.hW h.hH _ _ _ _ _ _ _ _ _ _ _
  have WR : Hid (∀ w', Gr w w' → Calls Tryz.prog 76 #[.pointer (some ⟨T, 0, none⟩)] w' fun e w2 => e = .returned (rv 0 0 s.W s.H) ∧ Gr w' w2) := fun w' g => whole_rect w' (h.gr g)
  have PU : Hid (∀ w', Gr w w' → Calls Tryz.prog 82 #[.pointer (some ⟨K, 0, none⟩), .int .i64 s.r.lx, .int .i64 s.r.ly, .agg #[.string s.r.lt, .int .i64 s.r.lw], sv s.r.f s.r.g s.r.b, rv 0 0 s.W s.H] w' fun e w2 => e = .returned (.tuple #[]) ∧ Hid (TM w2 T K M cap (putL s) nv ∧ C2 T M w w2)) := fun w' g => (put_any w' (h.gr g).cs h.hW h.hH h.pa s.r.lx s.r.ly s.r.lt s.r.lw s.r.f s.r.g s.r.b 0 0 s.W s.H).mono fun e w2 q => ⟨q.1, (h.gr g).cells q.2.1 q.2.2 hp, (C2.gr g).trans (C2.ch q.2.2)⟩
  have CE : Hid (∀ w', Gr w w' → ∀ j v, (tmc K s.r nv)[j]? = some v → w'.cell? ⟨T, j, none⟩ = some v) := fun w' g j v hv => (h.gr g).at hv
  have c0 : w.cell? ⟨T, 0, none⟩ = some (.pointer (some ⟨K, 0, none⟩)) := h.at rfl
  have c3 : w.cell? ⟨T, 3, none⟩ = some (.int .i64 s.r.f) := h.at rfl
  have c4 : w.cell? ⟨T, 4, none⟩ = some (.int .i64 s.r.g) := h.at rfl
  have c5 : w.cell? ⟨T, 5, none⟩ = some (.int .i64 s.r.b) := h.at rfl
  have c6 : w.cell? ⟨T, 6, none⟩ = some (.int .i64 s.r.lx) := h.at rfl
  have c7 : w.cell? ⟨T, 7, none⟩ = some (.int .i64 s.r.ly) := h.at rfl
  have c8 : w.cell? ⟨T, 8, none⟩ = some (.string s.r.lt) := h.at rfl
  have c9 : w.cell? ⟨T, 9, none⟩ = some (.int .i64 s.r.lw) := h.at rfl
  clear h hp
  go_enter Tryz.func67, Tryz.ntmps67
  go_wp2_with fail
  go_region_held (fun W => W.cell? ⟨T, 0, none⟩ = some (.pointer (some ⟨K, 0, none⟩)) ∧ W.cell? ⟨T, 3, none⟩ = some (.int .i64 s.r.f) ∧ W.cell? ⟨T, 4, none⟩ = some (.int .i64 s.r.g) ∧ W.cell? ⟨T, 5, none⟩ = some (.int .i64 s.r.b) ∧ W.cell? ⟨T, 6, none⟩ = some (.int .i64 s.r.lx) ∧ W.cell? ⟨T, 7, none⟩ = some (.int .i64 s.r.ly) ∧ W.cell? ⟨T, 8, none⟩ = some (.string s.r.lt) ∧ W.cell? ⟨T, 9, none⟩ = some (.int .i64 s.r.lw)) (go_keep) (first | (go_at_call 76; refine Calls.mono (WR.out _ (by first | exact Gr.refl _ | exact (Gr.refl _).drew)) ?_; rintro e1 w1 ⟨rfl, g1⟩; have G1 : Hid (Gr w w1) := (by first | exact g1 | exact ((Gr.refl w).drew).trans g1); clear g1; have o0 : w1.cell? ⟨T, 0, none⟩ = some (.pointer (some ⟨K, 0, none⟩)) := CE.out w1 G1.out 0 _ rfl; have o3 : w1.cell? ⟨T, 3, none⟩ = some (.int .i64 s.r.f) := CE.out w1 G1.out 3 _ rfl; have o4 : w1.cell? ⟨T, 4, none⟩ = some (.int .i64 s.r.g) := CE.out w1 G1.out 4 _ rfl; have o5 : w1.cell? ⟨T, 5, none⟩ = some (.int .i64 s.r.b) := CE.out w1 G1.out 5 _ rfl; have o6 : w1.cell? ⟨T, 6, none⟩ = some (.int .i64 s.r.lx) := CE.out w1 G1.out 6 _ rfl; have o7 : w1.cell? ⟨T, 7, none⟩ = some (.int .i64 s.r.ly) := CE.out w1 G1.out 7 _ rfl; have o8 : w1.cell? ⟨T, 8, none⟩ = some (.string s.r.lt) := CE.out w1 G1.out 8 _ rfl; have o9 : w1.cell? ⟨T, 9, none⟩ = some (.int .i64 s.r.lw) := CE.out w1 G1.out 9 _ rfl) | (go_at_call 82; refine Calls.mono (PU.out _ G1.out) ?_; rintro e2 w2 ⟨rfl, H2⟩; have u0 : w2.cell? ⟨T, 0, none⟩ = some (.pointer (some ⟨K, 0, none⟩)) := H2.out.1.at rfl; have u3 : w2.cell? ⟨T, 3, none⟩ = some (.int .i64 s.r.f) := H2.out.1.at rfl; have u4 : w2.cell? ⟨T, 4, none⟩ = some (.int .i64 s.r.g) := H2.out.1.at rfl; have u5 : w2.cell? ⟨T, 5, none⟩ = some (.int .i64 s.r.b) := H2.out.1.at rfl; have u6 : w2.cell? ⟨T, 6, none⟩ = some (.int .i64 s.r.lx) := H2.out.1.at rfl; have u7 : w2.cell? ⟨T, 7, none⟩ = some (.int .i64 s.r.ly) := H2.out.1.at rfl; have u8 : w2.cell? ⟨T, 8, none⟩ = some (.string s.r.lt) := H2.out.1.at rfl; have u9 : w2.cell? ⟨T, 9, none⟩ = some (.int .i64 s.r.lw) := H2.out.1.at rfl))
  all_goals
    go_wp2
    go_end0
    exact ⟨rfl, H2.out.1, H2.out.2⟩
end

end Go.Proofs.YtkdajaphbmclkaaGreatDoor

namespace Go.Proofs.YtkdajaphbmclkaaGreatDoor
open Go.RowKit Go.Sort
set_option linter.unusedVariables false

def numC (l : Nat → Int) (a : Int) : Array Value := #[.int .i64 (l 0), .int .i64 (l 1), .int .i64 (l 2), .int .i64 (l 3), .int .i64 (l 4), .int .i64 (l 5), .int .i64 (l 6), .int .i64 (l 7), .int .i64 (l 8), .int .i64 (l 9), .int .i64 (l 10), .int .i64 (l 11), .int .i64 (l 12), .int .i64 (l 13), .int .i64 (l 14), .int .i64 (l 15), .int .i64 (l 16), .int .i64 a]
def numV (l : Nat → Int) (a : Int) : Value := .agg #[.int .i64 (l 0), .int .i64 (l 1), .int .i64 (l 2), .int .i64 (l 3), .int .i64 (l 4), .int .i64 (l 5), .int .i64 (l 6), .int .i64 (l 7), .int .i64 (l 8), .int .i64 (l 9), .int .i64 (l 10), .int .i64 (l 11), .int .i64 (l 12), .int .i64 (l 13), .int .i64 (l 14), .int .i64 (l 15), .int .i64 (l 16), .int .i64 a]
/-- The numbers in a block. -/
def N18 (Q : World) (b : Nat) (l : Nat → Int) (a : Int) : Prop := Q.heap[b]? = some (.cells (numC l a) 100 (0, 0))
section
variable {Q Q' : World} {b k : Nat} {l : Nat → Int} {a : Int}
theorem N18.lt (h : N18 Q b l a) : b < Q.heap.size := (Array.getElem?_eq_some_iff.1 h).1
theorem N18.fz (h : N18 Q b l a) (j : Nat) : Q.frozen? ⟨b, j, none⟩ = false := frozen_of_row _ _ _ _ _ h
theorem N18.at (h : N18 Q b l a) {j : Nat} {v : Value} (hv : (numC l a)[j]? = some v) : Q.cell? ⟨b, j, none⟩ = some v := by rw [cell_of_row Q b j _ _ _ h]; exact hv
theorem N18.gr (h : N18 Q b l a) (g : Gr Q Q') : N18 Q' b l a := (g.block h.lt).trans h
theorem N18.c2 {X M : Nat} (h : N18 Q b l a) (g : C2 X M Q Q') (h1 : b ≠ X) (h2 : b ≠ M) : N18 Q' b l a := (g.block b h.lt h1 h2).trans h
def updN (l : Nat → Int) (k : Nat) (v : Int) : Nat → Int := fun j => if j = k then v else l j
theorem numC_get (l : Nat → Int) (a : Int) (hk : k < 17) : (numC l a)[k]? = some (.int .i64 (l k)) := by
  have : k = 0 ∨ k = 1 ∨ k = 2 ∨ k = 3 ∨ k = 4 ∨ k = 5 ∨ k = 6 ∨ k = 7 ∨ k = 8 ∨ k = 9 ∨ k = 10 ∨ k = 11 ∨ k = 12 ∨ k = 13 ∨ k = 14 ∨ k = 15 ∨ k = 16 := by omega
  rcases this with rfl | rfl | rfl | rfl | rfl | rfl | rfl | rfl | rfl | rfl | rfl | rfl | rfl | rfl | rfl | rfl | rfl <;> rfl
theorem numC_set (l : Nat → Int) (a v : Int) (hk : k < 17) : (numC l a).setIfInBounds k (.int .i64 v) = numC (updN l k v) a := by
  have : k = 0 ∨ k = 1 ∨ k = 2 ∨ k = 3 ∨ k = 4 ∨ k = 5 ∨ k = 6 ∨ k = 7 ∨ k = 8 ∨ k = 9 ∨ k = 10 ∨ k = 11 ∨ k = 12 ∨ k = 13 ∨ k = 14 ∨ k = 15 ∨ k = 16 := by omega
  rcases this with rfl | rfl | rfl | rfl | rfl | rfl | rfl | rfl | rfl | rfl | rfl | rfl | rfl | rfl | rfl | rfl | rfl <;> rfl
theorem N18.set (h : N18 Q b l a) (hk : k < 17) (v : Int) : N18 (Q.setCell ⟨b, k, none⟩ (.int .i64 v)) b (updN l k v) a := by
  show _ = _
  rw [← numC_set l a v hk]
  exact heap_setCell_same Q b k _ _ _ h
theorem N18.setA (h : N18 Q b l a) (v : Int) : N18 (Q.setCell ⟨b, 17, none⟩ (.int .i64 v)) b l v := heap_setCell_same Q b 17 _ _ _ h
theorem N18.put (h : N18 Q b l a) (l' : Nat → Int) (a' : Int) : N18 ((((((((((((((((((Q.setCell ⟨b, 0, none⟩ (.int .i64 (l' 0))).setCell ⟨b, 1, none⟩ (.int .i64 (l' 1))).setCell ⟨b, 2, none⟩ (.int .i64 (l' 2))).setCell ⟨b, 3, none⟩ (.int .i64 (l' 3))).setCell ⟨b, 4, none⟩ (.int .i64 (l' 4))).setCell ⟨b, 5, none⟩ (.int .i64 (l' 5))).setCell ⟨b, 6, none⟩ (.int .i64 (l' 6))).setCell ⟨b, 7, none⟩ (.int .i64 (l' 7))).setCell ⟨b, 8, none⟩ (.int .i64 (l' 8))).setCell ⟨b, 9, none⟩ (.int .i64 (l' 9))).setCell ⟨b, 10, none⟩ (.int .i64 (l' 10))).setCell ⟨b, 11, none⟩ (.int .i64 (l' 11))).setCell ⟨b, 12, none⟩ (.int .i64 (l' 12))).setCell ⟨b, 13, none⟩ (.int .i64 (l' 13))).setCell ⟨b, 14, none⟩ (.int .i64 (l' 14))).setCell ⟨b, 15, none⟩ (.int .i64 (l' 15))).setCell ⟨b, 16, none⟩ (.int .i64 (l' 16))).setCell ⟨b, 17, none⟩ (.int .i64 a')) b l' a' := by
  have h0 := N18.set (k := 0) h (by decide) (l' 0)
  have h1 := N18.set (k := 1) h0 (by decide) (l' 1)
  have h2 := N18.set (k := 2) h1 (by decide) (l' 2)
  have h3 := N18.set (k := 3) h2 (by decide) (l' 3)
  have h4 := N18.set (k := 4) h3 (by decide) (l' 4)
  have h5 := N18.set (k := 5) h4 (by decide) (l' 5)
  have h6 := N18.set (k := 6) h5 (by decide) (l' 6)
  have h7 := N18.set (k := 7) h6 (by decide) (l' 7)
  have h8 := N18.set (k := 8) h7 (by decide) (l' 8)
  have h9 := N18.set (k := 9) h8 (by decide) (l' 9)
  have h10 := N18.set (k := 10) h9 (by decide) (l' 10)
  have h11 := N18.set (k := 11) h10 (by decide) (l' 11)
  have h12 := N18.set (k := 12) h11 (by decide) (l' 12)
  have h13 := N18.set (k := 13) h12 (by decide) (l' 13)
  have h14 := N18.set (k := 14) h13 (by decide) (l' 14)
  have h15 := N18.set (k := 15) h14 (by decide) (l' 15)
  have h16 := N18.set (k := 16) h15 (by decide) (l' 16)
  have h17 := N18.setA h16 a'
  have e : numC (updN (updN (updN (updN (updN (updN (updN (updN (updN (updN (updN (updN (updN (updN (updN (updN (updN l 0 (l' 0)) 1 (l' 1)) 2 (l' 2)) 3 (l' 3)) 4 (l' 4)) 5 (l' 5)) 6 (l' 6)) 7 (l' 7)) 8 (l' 8)) 9 (l' 9)) 10 (l' 10)) 11 (l' 11)) 12 (l' 12)) 13 (l' 13)) 14 (l' 14)) 15 (l' 15)) 16 (l' 16)) a' = numC l' a' := rfl
  show _ = _
  rw [← e]
  exact h17
theorem N18.putAll (h : N18 Q b l a) (l' : Nat → Int) (a' : Int) : N18 (Q.setCells b 0 (numC l' a').toList) b l' a' := h.put l' a'
theorem N18.range (h : N18 Q b l a) : Q.rangeAt b 0 (numC l a).toList := fun j v hv => by
  rw [Nat.zero_add]
  exact h.at (by rw [← Array.getElem?_toList]; exact hv)
theorem N18.thr (h : N18 Q b l a) : Q.there b 0 18 := fun j hj => by
  rw [Nat.zero_add]
  refine ⟨?_, h.fz j⟩
  have hs : (numC l a).size = 18 := rfl
  rw [h.at (j := j) (v := (numC l a)[j]'(by omega)) (Array.getElem?_eq_getElem _)]
  rfl
theorem Gr.set18 {Q Q' : World} {k : Nat} (g : Gr Q Q') (hk : Q.heap.size ≤ k) (l : Nat → Int) (a : Int) : Gr Q (Q'.setCells k 0 (numC l a).toList) := by
  show Gr Q ((((((((((((((((((Q'.setCell ⟨k, 0, none⟩ (.int .i64 (l 0))).setCell ⟨k, 1, none⟩ (.int .i64 (l 1))).setCell ⟨k, 2, none⟩ (.int .i64 (l 2))).setCell ⟨k, 3, none⟩ (.int .i64 (l 3))).setCell ⟨k, 4, none⟩ (.int .i64 (l 4))).setCell ⟨k, 5, none⟩ (.int .i64 (l 5))).setCell ⟨k, 6, none⟩ (.int .i64 (l 6))).setCell ⟨k, 7, none⟩ (.int .i64 (l 7))).setCell ⟨k, 8, none⟩ (.int .i64 (l 8))).setCell ⟨k, 9, none⟩ (.int .i64 (l 9))).setCell ⟨k, 10, none⟩ (.int .i64 (l 10))).setCell ⟨k, 11, none⟩ (.int .i64 (l 11))).setCell ⟨k, 12, none⟩ (.int .i64 (l 12))).setCell ⟨k, 13, none⟩ (.int .i64 (l 13))).setCell ⟨k, 14, none⟩ (.int .i64 (l 14))).setCell ⟨k, 15, none⟩ (.int .i64 (l 15))).setCell ⟨k, 16, none⟩ (.int .i64 (l 16))).setCell ⟨k, 17, none⟩ (.int .i64 a))
  exact ((((((((((((((((((g.set hk _).set hk _).set hk _).set hk _).set hk _).set hk _).set hk _).set hk _).set hk _).set hk _).set hk _).set hk _).set hk _).set hk _).set hk _).set hk _).set hk _).set hk _)
theorem N18.new (Q : World) (l : Nat → Int) (a : Int) : N18 (Q.alloc (.cells (numC l a) 100)) Q.heap.size l a := heap_alloc_new _ _
end

theorem numOne (l : Nat → Int) (a : Int) : (numC l a).all (·.oneCell') = true := by simp [numC, Value.oneCell']
theorem numDesc : ∃ d, Tryz.prog.underlying 100 = some d ∧ d.isRow = true := ⟨_, Tryz.underlying100, rfl⟩
theorem numInfo : (Tryz.prog.info? 100).map (·.size) = some 18 := by kernel_rfl

set_option maxRecDepth 100000 in
set_option maxHeartbeats 4000000 in
theorem withAnother_any (l : Nat → Int) (a : Int) (ha : 0 ≤ a ∧ a ≤ 16) (w : World) : Calls Tryz.prog 60 #[numV l a] w fun e w' => e = .returned (numV l (min (a + 1) 16)) ∧ Gr w w' := by
  unfold numV
  obtain ⟨a2, ha2⟩ : ∃ z, min (a + 1) 16 = z := ⟨_, rfl⟩
  obtain ⟨d, hu, hd⟩ := numDesc
  have hi := numInfo
  have hb : a + 1 ≤ 16 ∧ a2 = a + 1 ∨ 16 < a + 1 ∧ a2 = 16 := by omega
  rw [ha2]
  clear ha2
  go_enter Tryz.func60, Tryz.ntmps60
  go_upto_region 1 with fail
  obtain ⟨S, hS⟩ : ∃ z, w.heap.size = z := ⟨_, rfl⟩
  obtain ⟨W0, hW0⟩ : ∃ z, (w.alloc (.cells #[.int .i64 (l 0), .int .i64 (l 1), .int .i64 (l 2), .int .i64 (l 3), .int .i64 (l 4), .int .i64 (l 5), .int .i64 (l 6), .int .i64 (l 7), .int .i64 (l 8), .int .i64 (l 9), .int .i64 (l 10), .int .i64 (l 11), .int .i64 (l 12), .int .i64 (l 13), .int .i64 (l 14), .int .i64 (l 15), .int .i64 (l 16), .int .i64 a] 100)).alloc (.cells #[.int .i64 0, .int .i64 0, .int .i64 0, .int .i64 0, .int .i64 0, .int .i64 0, .int .i64 0, .int .i64 0, .int .i64 0, .int .i64 0, .int .i64 0, .int .i64 0, .int .i64 0, .int .i64 0, .int .i64 0, .int .i64 0, .int .i64 0, .int .i64 0] 100) = z := ⟨_, rfl⟩
  have G0 : Hid (Gr w W0) := by rw [← hW0]; exact ((Gr.refl w).alloc _).alloc _
  have A0 : Hid (N18 W0 S l a) := by rw [← hW0, ← hS]; exact (N18.new w l a).gr ((Gr.refl _).alloc _)
  have Z0 : Hid (N18 W0 (S + 1) (fun _ => 0) 0) := by
    have := N18.new (w.alloc (.cells #[.int .i64 (l 0), .int .i64 (l 1), .int .i64 (l 2), .int .i64 (l 3), .int .i64 (l 4), .int .i64 (l 5), .int .i64 (l 6), .int .i64 (l 7), .int .i64 (l 8), .int .i64 (l 9), .int .i64 (l 10), .int .i64 (l 11), .int .i64 (l 12), .int .i64 (l 13), .int .i64 (l 14), .int .i64 (l 15), .int .i64 (l 16), .int .i64 a] 100)) (fun _ => 0) 0
    rw [World.size_alloc, hS] at this
    rw [← hW0]; exact this
  rw [hW0, hS]
  have HS : Hid (w.heap.size = S) := hS
  clear hW0 hS
  have c17 : W0.cell? ⟨S, 17, none⟩ = some (.int .i64 a) := A0.out.at rfl
  have fz := A0.out.fz
  rcases hb with ⟨hb, rfl⟩ | ⟨hb, rfl⟩
  · go_upto_region 2 with fail
    obtain ⟨W1, hW1⟩ : ∃ z, W0.setCell ⟨S, 17, none⟩ (.int .i64 (a + 1)) = z := ⟨_, rfl⟩
    have A1 : Hid (N18 W1 S l (a + 1)) := by rw [← hW1]; exact A0.out.setA _
    have Z1 : Hid (N18 W1 (S + 1) (fun _ => 0) 0) := by rw [← hW1]; exact (Below.heap_setCell W0 ⟨S, 17, none⟩ _ (S + 1) (by show S + 1 ≠ S; omega)).trans Z0.out
    have G1 : Hid (Gr w W1) := by rw [← hW1]; exact G0.out.set (by rw [HS.out]; exact Nat.le_refl _) _
    rw [hW1]
    clear hW1 c17 fz
    have ht : W1.there (S + 1) 0 (numC l (a + 1)).size := Z1.out.thr
    have hi2 : (Tryz.prog.info? 100).map (·.size) = some (numC l (a + 1)).size := numInfo
    have hi3 : (Tryz.prog.info? 100).map (·.size) = some (numC l (a + 1)).toList.length := numInfo
    have h1 : (numC l (a + 1)).all (·.oneCell') = true := numOne _ _
    go_wp2_with (first | (refine wpList_load_mid rfl 100 _ rfl S 0 rfl (numC l (a + 1)).toList d A1.out.range hu hd hi3 ?_) | (refine wpList_store_mid rfl 100 _ _ rfl (S + 1) 0 (numC l (a + 1)) rfl rfl ht hi2 h1 ?_))
    refine bodyPost_ret (results_cell_row rfl _ _ (S + 1) _ _ _ _ rfl (Z1.out.putAll l _) Tryz.underlying100 rfl (by kernel_rfl)) rfl ?_
    exact ⟨rfl, G1.out.set18 (by rw [HS.out]; omega) l _⟩
  · go_upto_region 2 with fail
    obtain ⟨W1, hW1⟩ : ∃ z, W0.setCell ⟨S, 17, none⟩ (.int .i64 (16)) = z := ⟨_, rfl⟩
    have A1 : Hid (N18 W1 S l (16)) := by rw [← hW1]; exact A0.out.setA _
    have Z1 : Hid (N18 W1 (S + 1) (fun _ => 0) 0) := by rw [← hW1]; exact (Below.heap_setCell W0 ⟨S, 17, none⟩ _ (S + 1) (by show S + 1 ≠ S; omega)).trans Z0.out
    have G1 : Hid (Gr w W1) := by rw [← hW1]; exact G0.out.set (by rw [HS.out]; exact Nat.le_refl _) _
    rw [hW1]
    clear hW1 c17 fz
    have ht : W1.there (S + 1) 0 (numC l (16)).size := Z1.out.thr
    have hi2 : (Tryz.prog.info? 100).map (·.size) = some (numC l (16)).size := numInfo
    have hi3 : (Tryz.prog.info? 100).map (·.size) = some (numC l (16)).toList.length := numInfo
    have h1 : (numC l (16)).all (·.oneCell') = true := numOne _ _
    go_wp2_with (first | (refine wpList_load_mid rfl 100 _ rfl S 0 rfl (numC l (16)).toList d A1.out.range hu hd hi3 ?_) | (refine wpList_store_mid rfl 100 _ _ rfl (S + 1) 0 (numC l (16)) rfl rfl ht hi2 h1 ?_))
    refine bodyPost_ret (results_cell_row rfl _ _ (S + 1) _ _ _ _ rfl (Z1.out.putAll l _) Tryz.underlying100 rfl (by kernel_rfl)) rfl ?_
    exact ⟨rfl, G1.out.set18 (by rw [HS.out]; omega) l _⟩

set_option maxRecDepth 100000 in
set_option maxHeartbeats 8000000 in
theorem withDigit_any (l : Nat → Int) (k : Nat) (d : Int) (hk : k < 17) (hl : 0 ≤ l k ∧ l k ≤ 999999) (hd : 0 ≤ d ∧ d ≤ 9) (w : World) : Calls Tryz.prog 59 #[numV l (k : Int), .int .i64 d] w fun e w' => e = .returned (numV (updN l k (min (l k * 10 + d) 999999)) (k : Int)) ∧ Gr w w' := by
  unfold numV
  obtain ⟨d0, hu, hd0⟩ := numDesc
  obtain ⟨v, hv⟩ : ∃ z, l k = z := ⟨_, rfl⟩
  obtain ⟨v2, hv2⟩ : ∃ z, min (l k * 10 + d) 999999 = z := ⟨_, rfl⟩
  have hb : v * 10 + d ≤ 999999 ∧ v2 = v * 10 + d ∨ 999999 < v * 10 + d ∧ v2 = 999999 := by rw [← hv2, hv]; omega
  rw [hv2]
  obtain ⟨l2, hl2⟩ : ∃ z, updN l k v2 = z := ⟨_, rfl⟩
  rw [hl2]
  rw [hv] at hl
  have HV : Hid (l k = v) := hv
  have HL2 : Hid (updN l k v2 = l2) := hl2
  clear hv hv2 hl2
  have hk' : (k : Int) < 17 := by omega
  go_enter Tryz.func59, Tryz.ntmps59
  go_upto_region 1 with fail
  obtain ⟨S, hS⟩ : ∃ z, w.heap.size = z := ⟨_, rfl⟩
  obtain ⟨W0, hW0⟩ : ∃ z, (w.alloc (.cells #[.int .i64 (l 0), .int .i64 (l 1), .int .i64 (l 2), .int .i64 (l 3), .int .i64 (l 4), .int .i64 (l 5), .int .i64 (l 6), .int .i64 (l 7), .int .i64 (l 8), .int .i64 (l 9), .int .i64 (l 10), .int .i64 (l 11), .int .i64 (l 12), .int .i64 (l 13), .int .i64 (l 14), .int .i64 (l 15), .int .i64 (l 16), .int .i64 (k : Int)] 100)).alloc (.cells #[.int .i64 0, .int .i64 0, .int .i64 0, .int .i64 0, .int .i64 0, .int .i64 0, .int .i64 0, .int .i64 0, .int .i64 0, .int .i64 0, .int .i64 0, .int .i64 0, .int .i64 0, .int .i64 0, .int .i64 0, .int .i64 0, .int .i64 0, .int .i64 0] 100) = z := ⟨_, rfl⟩
  have G0 : Hid (Gr w W0) := by rw [← hW0]; exact ((Gr.refl w).alloc _).alloc _
  have A0 : Hid (N18 W0 S l (k : Int)) := by rw [← hW0, ← hS]; exact (N18.new w l (k : Int)).gr ((Gr.refl _).alloc _)
  have Z0 : Hid (N18 W0 (S + 1) (fun _ => 0) 0) := by
    have := N18.new (w.alloc (.cells #[.int .i64 (l 0), .int .i64 (l 1), .int .i64 (l 2), .int .i64 (l 3), .int .i64 (l 4), .int .i64 (l 5), .int .i64 (l 6), .int .i64 (l 7), .int .i64 (l 8), .int .i64 (l 9), .int .i64 (l 10), .int .i64 (l 11), .int .i64 (l 12), .int .i64 (l 13), .int .i64 (l 14), .int .i64 (l 15), .int .i64 (l 16), .int .i64 (k : Int)] 100)) (fun _ => 0) 0
    rw [World.size_alloc, hS] at this
    rw [← hW0]; exact this
  rw [hW0, hS]
  have HS : Hid (w.heap.size = S) := hS
  clear hW0 hS
  have c17 : W0.cell? ⟨S, 17, none⟩ = some (.int .i64 (k : Int)) := A0.out.at rfl
  have ck : W0.cell? ⟨S, k, none⟩ = some (.int .i64 v) := by rw [← HV.out]; exact A0.out.at (numC_get l _ hk)
  have fz := A0.out.fz
  rcases hb with ⟨hb, rfl⟩ | ⟨hb, rfl⟩
  · go_region
    go_upto_region 2 with fail
    obtain ⟨W1, hW1⟩ : ∃ z, (W0.setCell ⟨S, k, none⟩ (.int .i64 (v * 10 + d))).drew = z := ⟨_, rfl⟩
    have A1 : Hid (N18 W1 S l2 (k : Int)) := by rw [← hW1, ← HL2.out]; exact (A0.out.set hk _).gr (Gr.refl _).drew
    have Z1 : Hid (N18 W1 (S + 1) (fun _ => 0) 0) := by rw [← hW1]; exact N18.gr ((Below.heap_setCell W0 ⟨S, k, none⟩ _ (S + 1) (by show S + 1 ≠ S; omega)).trans Z0.out) (Gr.refl _).drew
    have G1 : Hid (Gr w W1) := by rw [← hW1]; exact (G0.out.set (by rw [HS.out]; exact Nat.le_refl _) _).drew
    rw [hW1]
    clear hW1 c17 ck fz
    have ht : W1.there (S + 1) 0 (numC l2 (k : Int)).size := Z1.out.thr
    have hi2 : (Tryz.prog.info? 100).map (·.size) = some (numC l2 (k : Int)).size := numInfo
    have hi3 : (Tryz.prog.info? 100).map (·.size) = some (numC l2 (k : Int)).toList.length := numInfo
    have h1 : (numC l2 (k : Int)).all (·.oneCell') = true := numOne _ _
    go_wp2_with (first | (refine wpList_load_mid rfl 100 _ rfl S 0 rfl (numC l2 (k : Int)).toList d0 A1.out.range hu hd0 hi3 ?_) | (refine wpList_store_mid rfl 100 _ _ rfl (S + 1) 0 (numC l2 (k : Int)) rfl rfl ht hi2 h1 ?_))
    refine bodyPost_ret (results_cell_row rfl _ _ (S + 1) _ _ _ _ rfl (Z1.out.putAll l2 _) Tryz.underlying100 rfl (by kernel_rfl)) rfl ?_
    exact ⟨rfl, G1.out.set18 (by rw [HS.out]; omega) l2 _⟩
  · go_region
    go_upto_region 2 with fail
    obtain ⟨W1, hW1⟩ : ∃ z, (W0.setCell ⟨S, k, none⟩ (.int .i64 (999999))).drew = z := ⟨_, rfl⟩
    have A1 : Hid (N18 W1 S l2 (k : Int)) := by rw [← hW1, ← HL2.out]; exact (A0.out.set hk _).gr (Gr.refl _).drew
    have Z1 : Hid (N18 W1 (S + 1) (fun _ => 0) 0) := by rw [← hW1]; exact N18.gr ((Below.heap_setCell W0 ⟨S, k, none⟩ _ (S + 1) (by show S + 1 ≠ S; omega)).trans Z0.out) (Gr.refl _).drew
    have G1 : Hid (Gr w W1) := by rw [← hW1]; exact (G0.out.set (by rw [HS.out]; exact Nat.le_refl _) _).drew
    rw [hW1]
    clear hW1 c17 ck fz
    have ht : W1.there (S + 1) 0 (numC l2 (k : Int)).size := Z1.out.thr
    have hi2 : (Tryz.prog.info? 100).map (·.size) = some (numC l2 (k : Int)).size := numInfo
    have hi3 : (Tryz.prog.info? 100).map (·.size) = some (numC l2 (k : Int)).toList.length := numInfo
    have h1 : (numC l2 (k : Int)).all (·.oneCell') = true := numOne _ _
    go_wp2_with (first | (refine wpList_load_mid rfl 100 _ rfl S 0 rfl (numC l2 (k : Int)).toList d0 A1.out.range hu hd0 hi3 ?_) | (refine wpList_store_mid rfl 100 _ _ rfl (S + 1) 0 (numC l2 (k : Int)) rfl rfl ht hi2 h1 ?_))
    refine bodyPost_ret (results_cell_row rfl _ _ (S + 1) _ _ _ _ rfl (Z1.out.putAll l2 _) Tryz.underlying100 rfl (by kernel_rfl)) rfl ?_
    exact ⟨rfl, G1.out.set18 (by rw [HS.out]; omega) l2 _⟩

set_option maxRecDepth 100000 in
theorem placeOf_any (n side : Int) (hn : 0 ≤ n ∧ n ≤ 999999) (hs : 1 ≤ side ∧ side ≤ 400) (w : World) : Calls Tryz.prog 74 #[.int .i64 n, .int .i64 side] w fun e w' => e = .returned (.int .i64 (min (max n 1) side - 1)) ∧ w' = w := by
  go_enter Tryz.func74, Tryz.ntmps74
  by_cases h1 : n < 1
  · have e1 : max n 1 = 1 := by omega
    rw [e1]
    by_cases h2 : 1 ≤ side
    · have e2 : min 1 side = 1 := by omega
      rw [e2]
      go_wp2
      go_ret
      exact ⟨rfl, rfl⟩
    · omega
  · have e1 : max n 1 = n := by omega
    rw [e1]
    by_cases h2 : n ≤ side
    · have e2 : min n side = n := by omega
      rw [e2]
      go_wp2
      go_ret
      exact ⟨rfl, rfl⟩
    · have e2 : min n side = side := by omega
      rw [e2]
      go_wp2
      go_ret
      exact ⟨rfl, rfl⟩

end Go.Proofs.YtkdajaphbmclkaaGreatDoor

namespace Go.Proofs.YtkdajaphbmclkaaGreatDoor
open Go.RowKit Go.Sort
set_option linter.unusedVariables false

theorem R5.fz {T : TypeId} {Q : World} {b : Nat} {e : Ce} (h : R5 T Q b e) (j : Nat) : Q.frozen? ⟨b, j, none⟩ = false := frozen_of_row _ _ _ _ _ h
theorem R5.set {T : TypeId} {Q : World} {b : Nat} {e : Ce} (h : R5 T Q b e) (e' : Ce) : R5 T (((((Q.setCell ⟨b, 0, none⟩ (.string e'.t)).setCell ⟨b, 1, none⟩ (.int .i64 e'.f)).setCell ⟨b, 2, none⟩ (.int .i64 e'.g)).setCell ⟨b, 3, none⟩ (.int .i64 e'.b)).setCell ⟨b, 4, none⟩ (.int .i64 e'.p)) b e' := by
  have h0 : R5 T (Q.setCell ⟨b, 0, none⟩ (.string e'.t)) b ⟨e'.t, e.f, e.g, e.b, e.p⟩ := heap_setCell_same _ b 0 _ T _ h
  have h1 : R5 T _ b ⟨e'.t, e'.f, e.g, e.b, e.p⟩ := heap_setCell_same _ b 1 _ T (.int .i64 e'.f) h0
  have h2 : R5 T _ b ⟨e'.t, e'.f, e'.g, e.b, e.p⟩ := heap_setCell_same _ b 2 _ T (.int .i64 e'.g) h1
  have h3 : R5 T _ b ⟨e'.t, e'.f, e'.g, e'.b, e.p⟩ := heap_setCell_same _ b 3 _ T (.int .i64 e'.b) h2
  exact heap_setCell_same _ b 4 _ T (.int .i64 e'.p) h3

theorem Gr.set5 {Q Q' : World} {k o0 o1 o2 o3 o4 : Nat} (h : Gr Q Q') (hk : Q.heap.size ≤ k) (v0 v1 v2 v3 v4 : Value) : Gr Q (((((Q'.setCell ⟨k, o0, none⟩ v0).setCell ⟨k, o1, none⟩ v1).setCell ⟨k, o2, none⟩ v2).setCell ⟨k, o3, none⟩ v3).setCell ⟨k, o4, none⟩ v4) := ((((h.set hk v0).set hk v1).set hk v2).set hk v3).set hk v4

set_option maxRecDepth 100000 in
set_option maxHeartbeats 2000000 in
theorem cell_any (e : Ce) (w : World) : Calls Tryz.prog 21 #[cev e] w fun r w' => r = .returned (cev e) ∧ Gr w w' := by
  have LA : Hid (∀ f g b w, Calls Tryz.prog 39 #[sv f g b] w fun e w' => e = .returned (sv f g b) ∧ Gr w w') := look_any
  obtain ⟨t, f, g, b, p⟩ := e
  unfold cev
  unfold sv at LA
  go_enter Tryz.func21, Tryz.ntmps21
  go_wp2_with fail
  obtain ⟨S, hS⟩ : ∃ z, w.heap.size = z := ⟨_, rfl⟩
  obtain ⟨W0, hW0⟩ : ∃ z, (w.alloc (.cells #[.string t, .int .i64 f, .int .i64 g, .int .i64 b, .int .i64 p] 40)).alloc (.cells #[.string ⟨#[]⟩, .int .i64 0, .int .i64 0, .int .i64 0, .int .i64 0] 71) = z := ⟨_, rfl⟩
  have G0 : Hid (Gr w W0) := by rw [← hW0]; exact ((Gr.refl w).alloc _).alloc _
  have R0 : Hid (R5 40 W0 S ⟨t, f, g, b, p⟩) := by rw [← hW0, ← hS]; exact (R5.new w ⟨t, f, g, b, p⟩ _).gr ((Gr.refl _).alloc _)
  have R1 : Hid (R5 71 W0 (S + 1) ⟨⟨#[]⟩, 0, 0, 0, 0⟩) := by
    have := R5.new (w.alloc (.cells #[.string t, .int .i64 f, .int .i64 g, .int .i64 b, .int .i64 p] 40)) ⟨⟨#[]⟩, 0, 0, 0, 0⟩ 71
    rw [World.size_alloc, hS] at this
    rw [← hW0]; exact this
  rw [hW0, hS]
  have HS : Hid (w.heap.size = S) := hS
  clear hW0 hS
  have q0 := R0.out.c0
  have q1 := R0.out.c1
  have q2 := R0.out.c2
  have q3 := R0.out.c3
  have q4 := R0.out.c4
  go_region_with (go_at_call 39; refine Calls.mono (LA.out _ _ _ _) ?_; rintro e1 w1 ⟨rfl, g1⟩; have G1 : Hid (Gr W0 w1) := (by first | exact ((Gr.refl W0).drew).trans g1 | exact g1); clear g1; have o0 := (R0.out.gr G1.out).c0; have o4 := (R0.out.gr G1.out).c4; have u0 := (R1.out.gr G1.out).c0; have u1 := (R1.out.gr G1.out).c1; have u2 := (R1.out.gr G1.out).c2; have u3 := (R1.out.gr G1.out).c3; have u4 := (R1.out.gr G1.out).c4; have uf := (R1.out.gr G1.out).fz)
  all_goals
    go_wp2
    refine bodyPost_ret (results_cell_row rfl _ _ (S + 1) _ _ _ _ rfl ((R1.out.gr G1.out).set ⟨t, f, g, b, p⟩) Tryz.underlying71 rfl (by kernel_rfl)) rfl ?_
    exact ⟨rfl, (G0.out.trans G1.out).set5 (by rw [HS.out]; omega) _ _ _ _ _⟩

/-- A place in the list is a row and a column. -/
theorem lin_split {W H i : Nat} (hi : i < W * H) : ∃ y x, y < H ∧ x < W ∧ i = y * W + x := by
  have h0 : 0 < W := by
    rcases Nat.eq_zero_or_pos W with h | h
    · subst h; simp at hi
    · exact h
  refine ⟨i / W, i % W, ?_, Nat.mod_lt _ h0, ?_⟩
  · exact Nat.div_lt_of_lt_mul hi
  · rw [Nat.mul_comm]; exact (Nat.div_add_mod i W).symm

end Go.Proofs.YtkdajaphbmclkaaGreatDoor
