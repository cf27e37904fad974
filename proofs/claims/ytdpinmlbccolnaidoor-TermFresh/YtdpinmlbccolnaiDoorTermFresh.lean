/-
  Style of a terminal; two terminals beside one another.
-/
import Derived.Test.YtdpinmlbccolnaiDoorMTwin
import Derived.Test.YtdpinmlbccolnaiDoorMKeep
import Derived.Test.YtdpinmlbccolnaiDoorMNew
import Derived.Test.YtdpinmlbccolnaiDoorCards
import Derived.Test.YtdpinmlbccolnaiDoorTie
import Derived.Test.YtdpinmlbccolnaiDoorMLaid
import Derived.WalkKit
import Derived.ShutString
import Derived.ProofKit
import Derived.OpenShut
import Derived.ChangeOld
import Derived.Below
import Derived.Lay
import Derived.Lib.LaidTab
import Derived.Deep.DeepHandedRow
namespace Go.Proofs.YtdpinmlbccolnaiDoor
open Go.RowKit Go.Sort
set_option linter.unusedVariables false

section
variable {T K M cap : Nat} {s : Tm} {nv : Value}
set_option maxRecDepth 100000 in
set_option maxHeartbeats 1000000 in
theorem tstyle_any (w : World) (h : TM w T K M cap s nv) : Calls Tryd.prog 13 #[.pointer (some ⟨T, 0, none⟩)] w fun e w' => e = .returned (sv s.r.f s.r.g s.r.b) ∧ Gr w w' := by
  have HM : Hid (TM w T K M cap s nv) := h
  clear h
  go_enter Tryd.func13, Tryd.ntmps13
  go_upto_region 1 with fail
  obtain ⟨S, hS⟩ : ∃ z, w.heap.size = z := ⟨_, rfl⟩
  obtain ⟨W0, hW0⟩ : ∃ z, w.alloc (.cells #[.int .i64 0, .int .i64 0, .int .i64 0] 33) = z := ⟨_, rfl⟩
  have G0 : Hid (Gr w W0) := by rw [← hW0]; exact (Gr.refl w).alloc _
  have R0 : Hid (R3 33 W0 S 0 0 0) := by rw [← hW0, ← hS]; exact R3.new w 0 0 0 _
  have H0 : Hid (TM W0 T K M cap s nv) := HM.out.gr G0.out
  rw [hW0, hS]
  have HS : Hid (w.heap.size = S) := hS
  clear hW0 hS
  have c3 : W0.cell? ⟨T, 3, none⟩ = some (.int .i64 s.r.f) := H0.out.at rfl
  have c4 : W0.cell? ⟨T, 4, none⟩ = some (.int .i64 s.r.g) := H0.out.at rfl
  have c5 : W0.cell? ⟨T, 5, none⟩ = some (.int .i64 s.r.b) := H0.out.at rfl
  have z0 := R0.out.c0
  have z1 := R0.out.c1
  have z2 := R0.out.c2
  have zf := R0.out.fz
  go_wp2
  refine bodyPost_ret (results_cell_row rfl _ _ S _ _ _ _ rfl (R0.out.set s.r.f s.r.g s.r.b) Tryd.underlying33 rfl (by kernel_rfl)) rfl ?_
  exact ⟨rfl, ((G0.out.set (by rw [HS.out]; exact Nat.le_refl _) _).set (by rw [HS.out]; exact Nat.le_refl _) _).set (by rw [HS.out]; exact Nat.le_refl _) _⟩

/-- A terminal, while another one is written. -/
theorem TM.c2 {w w' : World} {U N : Nat} (h : TM w T K M cap s nv) (g : C2 U N w w') (h1 : T ≠ U ∧ T ≠ N) (h2 : K ≠ U ∧ K ≠ N) (h3 : M ≠ U ∧ M ≠ N) : TM w' T K M cap s nv :=
  ⟨(g.block T h.lt h1.1 h1.2).trans h.tb, ⟨(g.block K h.cs.klt h2.1 h2.2).trans h.cs.kb, h.cs.cv.keep (g.block M h.cs.cv.lt h3.1 h3.2), h.cs.ne, h.cs.hc⟩, h.tk, h.tm, h.hW, h.hH, h.pa⟩
theorem Nx.c2 {w w' : World} {v : Value} {st : St} {U N : Nat} (h : Nx w T M v st) (g : C2 U N w w') (hu : ∀ k, (∃ c t, w.heap[k]? = some (.cells c t (0, 0))) → v ≠ fnV 41 #[] → k ≠ U ∧ k ≠ N) : Nx w' T M v st := by
  cases st with
  | out => exact h
  | esc => exact h
  | amid hh =>
    obtain ⟨k, h1, h2, h3, h4⟩ := h
    have q := hu k ⟨_, _, h4⟩ (by rw [h1]; intro e; simp [fnV] at e)
    exact ⟨k, h1, h2, h3, (g.block k (Array.getElem?_eq_some_iff.1 h4).1 q.1 q.2).trans h4⟩
  | wth l a =>
    obtain ⟨k, h1, h2, h3, h4⟩ := h
    have q := hu k ⟨_, _, h4⟩ (by rw [h1]; intro e; simp [fnV] at e)
    exact ⟨k, h1, h2, h3, h4.c2 g q.1 q.2⟩
end

end Go.Proofs.YtdpinmlbccolnaiDoor

namespace Go.Proofs.YtdpinmlbccolnaiDoor
open Go.RowKit Go.Sort
set_option linter.unusedVariables false

theorem cut_list (x : ByteArray) (a b : Nat) (h : a ≤ b) (hb : b ≤ x.size) : x.data.toList.take a ++ (x.extract a b).data.toList = x.data.toList.take b := by
  have e : (x.extract a b).data.toList = (x.data.toList.take b).drop a := by
    rw [ByteArray.data_extract, Array.toList_extract]
    simp [List.extract, List.drop_take]
  rw [e]
  have h2 : (x.data.toList.take b).take a = x.data.toList.take a := by rw [List.take_take, Nat.min_eq_left h]
  rw [← h2, List.take_append_drop]
theorem C2.low {T M : Nat} {w0 w w' : World} (g : C2 T M w w') (b : Below w0.heap.size w0 w) (hT : w0.heap.size ≤ T) (hM : w0.heap.size ≤ M) : Below w0.heap.size w0 w' :=
  ⟨g.os.trans b.os, g.tape.trans b.tape, g.output.trans b.output, Nat.le_trans b.size g.size, fun k hk => (g.block k (Nat.lt_of_lt_of_le hk b.size) (by omega) (by omega)).trans (b.block k hk)⟩

/-- A terminal that has read l. -/
structure At2 (w : World) (T K M cap W H : Nat) (l : List UInt8) : Prop where
  tm : ∃ nv, TM w T K M cap (runT (tm0 W H, .out) l).1 nv ∧ Nx w T M nv (runT (tm0 W H, .out) l).2
  ti : Ti (runT (tm0 W H, .out) l).1
  si : Si (runT (tm0 W H, .out) l).2
/-- It reads m more. -/
theorem At2.write {w : World} {T K M cap W H : Nat} {l : List UInt8} (h : At2 w T K M cap W H l) (x : ByteArray) (hx : x.size ≤ 9223372036854775807) (ht : TabAt w) (hU : Utf w) (hfar : Far T M) :
    Calls Tryd.prog 10 #[.pointer (some ⟨T, 0, none⟩), .string x] w fun e w' => e = .returned (.tuple #[]) ∧ At2 w' T K M cap W H (l ++ x.data.toList) ∧ C2 T M w w' := by
  obtain ⟨nv, h1, h2⟩ := h.tm
  refine (write_any x hx w h1 h2 h.ti h.si ht hU hfar).mono fun e w' q => ?_
  obtain ⟨q1, ⟨nv', q2, q3⟩, q4, q5, q6⟩ := q
  have e2 : runT ((runT (tm0 W H, .out) l).1, (runT (tm0 W H, .out) l).2) x.data.toList = runT (tm0 W H, .out) (l ++ x.data.toList) := (runT_append _ _ _).symm
  rw [e2] at q2 q3 q4 q5
  exact ⟨q1, ⟨⟨nv', q2, q3⟩, q4, q5⟩, q6⟩

end Go.Proofs.YtdpinmlbccolnaiDoor

namespace Go.Proofs.YtdpinmlbccolnaiDoor
open Go.RowKit Go.Sort
set_option linter.unusedVariables false

theorem seen_whole {W H x y a b : Int} (hW : 1 ≤ W ∧ W ≤ 400) (hH : 1 ≤ H ∧ H ≤ 400) (hx : 0 ≤ x) (ha : 1 ≤ a) (hxa : x + a ≤ W) (hy : 0 ≤ y) (hb : 1 ≤ b) (hyb : y + b ≤ H) : seenQ W H x y a b 0 0 W H = (x, y, a, b) := by
  have e1 : capQ x y a b 0 0 W H = (x, y, a, b) := by
    rw [capQ_cq, posI_id (n := x) (by omega), posI_id (n := y) (by omega), lenI_id (n := a) (by omega), lenI_id (n := b) (by omega), lenI_id (n := W) (by omega), lenI_id (n := H) (by omega), show posI 0 = 0 from rfl]
    unfold cq
    rw [if_neg (by omega)]
    refine Prod.ext ?_ (Prod.ext ?_ (Prod.ext ?_ ?_)) <;> simp only <;> omega
  unfold seenQ
  rw [e1]
  simp only
  rw [capQ_cq, posI_id (n := x) (by omega), posI_id (n := y) (by omega), lenI_id (n := a) (by omega), lenI_id (n := b) (by omega), lenI_id (n := W) (by omega), lenI_id (n := H) (by omega), show posI 0 = 0 from rfl]
  unfold cq
  rw [if_neg (by omega)]
  refine Prod.ext ?_ (Prod.ext ?_ (Prod.ext ?_ ?_)) <;> simp only <;> omega

/-- What a terminal puts. -/
theorem put_whole {W H : Nat} (hW : 1 ≤ W ∧ W ≤ 400) (hH : 1 ≤ H ∧ H ≤ 400) (c : Nat → Nat → Ce) {x y : Nat} {wd : Int} (txt : ByteArray) (f g b : Int) (hw : wd = 1 ∨ wd = 2) (hx : (x : Int) + wd ≤ W) (hy : y < H) :
    putC W H c x y txt wd f g b 0 0 W H = fill c x (x + wd.toNat) y (y + 1) (gly x wd txt (kn f) (kn g) (bo b)) := by
  unfold putC
  rw [seen_whole (by omega) (by omega) (by omega) (by omega) (by omega) (by omega) (by omega) (by omega)]
  unfold putQ putX
  rw [if_pos hw]
  simp only
  rw [if_neg (by omega)]
  congr 1 <;> omega

/-- What is erased whole. -/
theorem fil_whole {W H : Nat} (hW : 1 ≤ W ∧ W ≤ 400) (hH : 1 ≤ H ∧ H ≤ 400) (c : Nat → Nat → Ce) {y x : Nat} (hy : y < H) (hx : x < W) : filC W H c 0 0 W H 0 0 0 0 0 W H y x = bk 0 0 0 := by
  unfold filC
  rw [seen_whole (by omega) (by omega) (by omega) (by omega) (by omega) (by omega) (by omega) (by omega)]
  simp only
  unfold fill
  rw [if_pos (by omega), span_in (by omega)]
  rfl

/-- Only the cells on the screen tell. -/
theorem TM.same {w : World} {T K M cap : Nat} {s : Tm} {nv : Value} {c' : Nat → Nat → Ce} (h : TM w T K M cap s nv) (hc : ∀ y x, y < s.H → x < s.W → s.c y x = c' y x) (hp : PAll s.W s.H c') : TM w T K M cap { s with c := c' } nv :=
  ⟨h.tb, ⟨h.cs.kb, h.cs.cv.same hc, h.cs.ne, h.cs.hc⟩, h.tk, h.tm, h.hW, h.hH, hp⟩

/-- An m ends what is half come. -/
theorem full_m {h : ByteArray} (hs : h.size ≤ 3) : full (h ++ ⟨#[109]⟩).data.toList := by
  obtain ⟨l, hl⟩ : ∃ l, h.data.toList = l := ⟨_, rfl⟩
  have e : (h ++ ⟨#[109]⟩).data.toList = l ++ [109] := by simp [hl]
  have hs2 : l.length ≤ 3 := by rw [← hl, len_data]; exact hs
  rw [e]
  refine ⟨by simp, ?_⟩
  match l, hs2 with
  | [], _ => exact .inl (by decide)
  | [a], _ =>
    have e1 : byt ([a] ++ [109]) 1 = 109 := rfl
    have := lo_bd (byt ([a] ++ [109]) 0)
    right; right; right; left
    exact ⟨by simp, .inl (by rw [e1]; omega)⟩
  | [a, b], _ =>
    right; right; right; right
    exact ⟨by simp, .inl (by show byt [a, b, 109] 2 < _; exact (by decide : (109 : Nat) < 0x80))⟩
  | [a, b, c], _ =>
    right; right; left
    have := n_bd (byt ([a, b, c] ++ [109]) 0)
    simp only [List.length_append, List.length_cons, List.length_nil]
    omega
theorem step_m (s : Tm) (st : St) (h : Si st) : (stepT s 109 st).2 = .out := by
  have out : ∀ s, (outT s 109).2 = .out := fun s => rfl
  cases st with
  | out => exact out s
  | esc => rfl
  | amid hh =>
    show (amA s hh 109).2 = .out
    have hf := full_m h
    unfold amA
    by_cases hr : (runes (hh ++ ⟨#[109]⟩).data.toList).length ≠ 1
    · rw [if_pos ⟨hf, hr⟩]; exact out _
    · rw [if_neg (fun q => hr q.2)]; unfold amT; rw [if_pos hf]
  | wth l a => rfl

/-- Erased, sent home and made plain. -/
def wipe : List UInt8 := [109, 27, 91, 109, 27, 91, 50, 74, 27, 91, 72]
set_option maxRecDepth 100000 in
theorem wiped (s : Tm) (st : St) (h : Si st) (hW : 1 ≤ s.W) (hH : 1 ≤ s.H) : runT (s, st) wipe = ({ tm0 s.W s.H with c := filC s.W s.H (stepT s 109 st).1.c 0 0 s.W s.H 0 0 0 0 0 s.W s.H }, .out) := by
  have e0 : stepT s 109 st = ((stepT s 109 st).1, .out) := Prod.ext rfl (step_m s st h)
  obtain ⟨s1, h1⟩ : ∃ z, (stepT s 109 st).1 = z := ⟨_, rfl⟩
  have hw : wh s1 = wh s := by rw [← h1]; exact wh_step s 109 st
  rw [h1] at e0 ⊢
  show runT (stepT s 109 st) (wipe.drop 1) = _
  rw [e0]
  have hsW : s1.W = s.W := congrArg Prod.fst hw
  have hsH : s1.H = s.H := congrArg Prod.snd hw
  have e : runT (s1, .out) (wipe.drop 1) = (⟨s1.W, s1.H, filC s1.W s1.H s1.c 0 0 s1.W s1.H 0 0 0 0 0 s1.W s1.H, ⟨min (max 0 1) (s1.W : Int) - 1, min (max 0 1) (s1.H : Int) - 1, 0, 0, 0, 0, 0, ⟨#[]⟩, 0, 0⟩⟩, .out) := rfl
  rw [e, hsW, hsH]
  have x0 : min (max 0 1) (s.W : Int) - 1 = 0 := by omega
  have y0 : min (max 0 1) (s.H : Int) - 1 = 0 := by omega
  rw [x0, y0]
  rfl

end Go.Proofs.YtdpinmlbccolnaiDoor

namespace Go.Proofs.YtdpinmlbccolnaiDoor
open Go.RowKit Go.Sort
set_option linter.unusedVariables false

section
variable {T K M cap : Nat} {s : Tm} {nv : Value}
/-- A terminal as a new one. -/
structure Res (w w' : World) (T W H : Nat) : Prop where
  tm : ∃ K M, TM w' T K M (W * H) (tm0 W H) (fnV 41 #[]) ∧ w.heap.size ≤ K ∧ w.heap.size ≤ M
  c2 : C2 T T w w'
/-- Twelve cells are others now. -/
theorem row12 {Q : World} {T : Nat} {τ : TypeId} {a0 a1 a2 a3 a4 a5 a6 a7 a8 a9 a10 a11 : Value} (b0 b1 b2 b3 b4 b5 b6 b7 b8 b9 b10 b11 : Value) (h : Q.heap[T]? = some (.cells #[a0, a1, a2, a3, a4, a5, a6, a7, a8, a9, a10, a11] τ (0, 0))) : ((((((((((((Q.setCell ⟨T, 0, none⟩ b0).setCell ⟨T, 1, none⟩ b1).setCell ⟨T, 2, none⟩ b2).setCell ⟨T, 3, none⟩ b3).setCell ⟨T, 4, none⟩ b4).setCell ⟨T, 5, none⟩ b5).setCell ⟨T, 6, none⟩ b6).setCell ⟨T, 7, none⟩ b7).setCell ⟨T, 8, none⟩ b8).setCell ⟨T, 9, none⟩ b9).setCell ⟨T, 10, none⟩ b10).setCell ⟨T, 11, none⟩ b11).heap[T]? = some (.cells #[b0, b1, b2, b3, b4, b5, b6, b7, b8, b9, b10, b11] τ (0, 0)) := by
  have h : (Q.setCell ⟨T, 0, none⟩ b0).heap[T]? = some (.cells #[b0, a1, a2, a3, a4, a5, a6, a7, a8, a9, a10, a11] τ (0, 0)) := heap_setCell_same Q T 0 _ _ b0 h
  have h : ((Q.setCell ⟨T, 0, none⟩ b0).setCell ⟨T, 1, none⟩ b1).heap[T]? = some (.cells #[b0, b1, a2, a3, a4, a5, a6, a7, a8, a9, a10, a11] τ (0, 0)) := heap_setCell_same (Q.setCell ⟨T, 0, none⟩ b0) T 1 _ _ b1 h
  have h : (((Q.setCell ⟨T, 0, none⟩ b0).setCell ⟨T, 1, none⟩ b1).setCell ⟨T, 2, none⟩ b2).heap[T]? = some (.cells #[b0, b1, b2, a3, a4, a5, a6, a7, a8, a9, a10, a11] τ (0, 0)) := heap_setCell_same ((Q.setCell ⟨T, 0, none⟩ b0).setCell ⟨T, 1, none⟩ b1) T 2 _ _ b2 h
  have h : ((((Q.setCell ⟨T, 0, none⟩ b0).setCell ⟨T, 1, none⟩ b1).setCell ⟨T, 2, none⟩ b2).setCell ⟨T, 3, none⟩ b3).heap[T]? = some (.cells #[b0, b1, b2, b3, a4, a5, a6, a7, a8, a9, a10, a11] τ (0, 0)) := heap_setCell_same (((Q.setCell ⟨T, 0, none⟩ b0).setCell ⟨T, 1, none⟩ b1).setCell ⟨T, 2, none⟩ b2) T 3 _ _ b3 h
  have h : (((((Q.setCell ⟨T, 0, none⟩ b0).setCell ⟨T, 1, none⟩ b1).setCell ⟨T, 2, none⟩ b2).setCell ⟨T, 3, none⟩ b3).setCell ⟨T, 4, none⟩ b4).heap[T]? = some (.cells #[b0, b1, b2, b3, b4, a5, a6, a7, a8, a9, a10, a11] τ (0, 0)) := heap_setCell_same ((((Q.setCell ⟨T, 0, none⟩ b0).setCell ⟨T, 1, none⟩ b1).setCell ⟨T, 2, none⟩ b2).setCell ⟨T, 3, none⟩ b3) T 4 _ _ b4 h
  have h : ((((((Q.setCell ⟨T, 0, none⟩ b0).setCell ⟨T, 1, none⟩ b1).setCell ⟨T, 2, none⟩ b2).setCell ⟨T, 3, none⟩ b3).setCell ⟨T, 4, none⟩ b4).setCell ⟨T, 5, none⟩ b5).heap[T]? = some (.cells #[b0, b1, b2, b3, b4, b5, a6, a7, a8, a9, a10, a11] τ (0, 0)) := heap_setCell_same (((((Q.setCell ⟨T, 0, none⟩ b0).setCell ⟨T, 1, none⟩ b1).setCell ⟨T, 2, none⟩ b2).setCell ⟨T, 3, none⟩ b3).setCell ⟨T, 4, none⟩ b4) T 5 _ _ b5 h
  have h : (((((((Q.setCell ⟨T, 0, none⟩ b0).setCell ⟨T, 1, none⟩ b1).setCell ⟨T, 2, none⟩ b2).setCell ⟨T, 3, none⟩ b3).setCell ⟨T, 4, none⟩ b4).setCell ⟨T, 5, none⟩ b5).setCell ⟨T, 6, none⟩ b6).heap[T]? = some (.cells #[b0, b1, b2, b3, b4, b5, b6, a7, a8, a9, a10, a11] τ (0, 0)) := heap_setCell_same ((((((Q.setCell ⟨T, 0, none⟩ b0).setCell ⟨T, 1, none⟩ b1).setCell ⟨T, 2, none⟩ b2).setCell ⟨T, 3, none⟩ b3).setCell ⟨T, 4, none⟩ b4).setCell ⟨T, 5, none⟩ b5) T 6 _ _ b6 h
  have h : ((((((((Q.setCell ⟨T, 0, none⟩ b0).setCell ⟨T, 1, none⟩ b1).setCell ⟨T, 2, none⟩ b2).setCell ⟨T, 3, none⟩ b3).setCell ⟨T, 4, none⟩ b4).setCell ⟨T, 5, none⟩ b5).setCell ⟨T, 6, none⟩ b6).setCell ⟨T, 7, none⟩ b7).heap[T]? = some (.cells #[b0, b1, b2, b3, b4, b5, b6, b7, a8, a9, a10, a11] τ (0, 0)) := heap_setCell_same (((((((Q.setCell ⟨T, 0, none⟩ b0).setCell ⟨T, 1, none⟩ b1).setCell ⟨T, 2, none⟩ b2).setCell ⟨T, 3, none⟩ b3).setCell ⟨T, 4, none⟩ b4).setCell ⟨T, 5, none⟩ b5).setCell ⟨T, 6, none⟩ b6) T 7 _ _ b7 h
  have h : (((((((((Q.setCell ⟨T, 0, none⟩ b0).setCell ⟨T, 1, none⟩ b1).setCell ⟨T, 2, none⟩ b2).setCell ⟨T, 3, none⟩ b3).setCell ⟨T, 4, none⟩ b4).setCell ⟨T, 5, none⟩ b5).setCell ⟨T, 6, none⟩ b6).setCell ⟨T, 7, none⟩ b7).setCell ⟨T, 8, none⟩ b8).heap[T]? = some (.cells #[b0, b1, b2, b3, b4, b5, b6, b7, b8, a9, a10, a11] τ (0, 0)) := heap_setCell_same ((((((((Q.setCell ⟨T, 0, none⟩ b0).setCell ⟨T, 1, none⟩ b1).setCell ⟨T, 2, none⟩ b2).setCell ⟨T, 3, none⟩ b3).setCell ⟨T, 4, none⟩ b4).setCell ⟨T, 5, none⟩ b5).setCell ⟨T, 6, none⟩ b6).setCell ⟨T, 7, none⟩ b7) T 8 _ _ b8 h
  have h : ((((((((((Q.setCell ⟨T, 0, none⟩ b0).setCell ⟨T, 1, none⟩ b1).setCell ⟨T, 2, none⟩ b2).setCell ⟨T, 3, none⟩ b3).setCell ⟨T, 4, none⟩ b4).setCell ⟨T, 5, none⟩ b5).setCell ⟨T, 6, none⟩ b6).setCell ⟨T, 7, none⟩ b7).setCell ⟨T, 8, none⟩ b8).setCell ⟨T, 9, none⟩ b9).heap[T]? = some (.cells #[b0, b1, b2, b3, b4, b5, b6, b7, b8, b9, a10, a11] τ (0, 0)) := heap_setCell_same (((((((((Q.setCell ⟨T, 0, none⟩ b0).setCell ⟨T, 1, none⟩ b1).setCell ⟨T, 2, none⟩ b2).setCell ⟨T, 3, none⟩ b3).setCell ⟨T, 4, none⟩ b4).setCell ⟨T, 5, none⟩ b5).setCell ⟨T, 6, none⟩ b6).setCell ⟨T, 7, none⟩ b7).setCell ⟨T, 8, none⟩ b8) T 9 _ _ b9 h
  have h : (((((((((((Q.setCell ⟨T, 0, none⟩ b0).setCell ⟨T, 1, none⟩ b1).setCell ⟨T, 2, none⟩ b2).setCell ⟨T, 3, none⟩ b3).setCell ⟨T, 4, none⟩ b4).setCell ⟨T, 5, none⟩ b5).setCell ⟨T, 6, none⟩ b6).setCell ⟨T, 7, none⟩ b7).setCell ⟨T, 8, none⟩ b8).setCell ⟨T, 9, none⟩ b9).setCell ⟨T, 10, none⟩ b10).heap[T]? = some (.cells #[b0, b1, b2, b3, b4, b5, b6, b7, b8, b9, b10, a11] τ (0, 0)) := heap_setCell_same ((((((((((Q.setCell ⟨T, 0, none⟩ b0).setCell ⟨T, 1, none⟩ b1).setCell ⟨T, 2, none⟩ b2).setCell ⟨T, 3, none⟩ b3).setCell ⟨T, 4, none⟩ b4).setCell ⟨T, 5, none⟩ b5).setCell ⟨T, 6, none⟩ b6).setCell ⟨T, 7, none⟩ b7).setCell ⟨T, 8, none⟩ b8).setCell ⟨T, 9, none⟩ b9) T 10 _ _ b10 h
  have h : ((((((((((((Q.setCell ⟨T, 0, none⟩ b0).setCell ⟨T, 1, none⟩ b1).setCell ⟨T, 2, none⟩ b2).setCell ⟨T, 3, none⟩ b3).setCell ⟨T, 4, none⟩ b4).setCell ⟨T, 5, none⟩ b5).setCell ⟨T, 6, none⟩ b6).setCell ⟨T, 7, none⟩ b7).setCell ⟨T, 8, none⟩ b8).setCell ⟨T, 9, none⟩ b9).setCell ⟨T, 10, none⟩ b10).setCell ⟨T, 11, none⟩ b11).heap[T]? = some (.cells #[b0, b1, b2, b3, b4, b5, b6, b7, b8, b9, b10, b11] τ (0, 0)) := heap_setCell_same (((((((((((Q.setCell ⟨T, 0, none⟩ b0).setCell ⟨T, 1, none⟩ b1).setCell ⟨T, 2, none⟩ b2).setCell ⟨T, 3, none⟩ b3).setCell ⟨T, 4, none⟩ b4).setCell ⟨T, 5, none⟩ b5).setCell ⟨T, 6, none⟩ b6).setCell ⟨T, 7, none⟩ b7).setCell ⟨T, 8, none⟩ b8).setCell ⟨T, 9, none⟩ b9).setCell ⟨T, 10, none⟩ b10) T 11 _ _ b11 h
  exact h

set_option maxRecDepth 100000 in
set_option maxHeartbeats 4000000 in
theorem resize_any (w : World) (h : TM w T K M cap s nv) (W H : Nat) (hW : 1 ≤ W ∧ W ≤ 400) (hH : 1 ≤ H ∧ H ≤ 400) (hp : PAll W H (fun _ _ => bk 0 0 0)) : Calls Tryd.prog 15 #[.pointer (some ⟨T, 0, none⟩), .int .i64 W, .int .i64 H] w fun e w' => e = .returned (.int .i64 0) ∧ Res w w' T W H := by
  have NO : Hid (Calls Tryd.prog 26 #[.int .i64 W, .int .i64 H] w fun e w' => ∃ T K M, e = .returned (.tuple #[.pointer (some ⟨T, 0, none⟩), .int .i64 0]) ∧ TM w' T K M (W * H) (tm0 W H) (fnV 41 #[]) ∧ w.heap.size ≤ T ∧ w.heap.size ≤ K ∧ w.heap.size ≤ M ∧ Below w.heap.size w w') := tnew_ok W H w hW hH hp
  have HM : Hid (TM w T K M cap s nv) := h
  have hlt := h.lt
  clear h
  go_enter Tryd.func15, Tryd.ntmps15
  go_wp2_with fail
  refine NO.out.mono ?_
  rintro e w1 ⟨T', K', M', rfl, h1, hT, hK, hM, b1⟩
  have H1 : Hid (TM w1 T' K' M' (W * H) (tm0 W H) (fnV 41 #[])) := h1
  have HO : Hid (TM w1 T K M cap s nv) := HM.out.below b1
  have B1 : Hid (Below w.heap.size w w1) := b1
  have c0 : w1.cell? ⟨T', 0, none⟩ = some (.pointer (some ⟨K', 0, none⟩)) := h1.at rfl
  have c1 : w1.cell? ⟨T', 1, none⟩ = some (.int .i64 0) := h1.at rfl
  have c2 : w1.cell? ⟨T', 2, none⟩ = some (.int .i64 0) := h1.at rfl
  have c3 : w1.cell? ⟨T', 3, none⟩ = some (.int .i64 0) := h1.at rfl
  have c4 : w1.cell? ⟨T', 4, none⟩ = some (.int .i64 0) := h1.at rfl
  have c5 : w1.cell? ⟨T', 5, none⟩ = some (.int .i64 0) := h1.at rfl
  have c6 : w1.cell? ⟨T', 6, none⟩ = some (.int .i64 0) := h1.at rfl
  have c7 : w1.cell? ⟨T', 7, none⟩ = some (.int .i64 0) := h1.at rfl
  have c8 : w1.cell? ⟨T', 8, none⟩ = some (.string ⟨#[]⟩) := h1.at rfl
  have c9 : w1.cell? ⟨T', 9, none⟩ = some (.int .i64 0) := h1.at rfl
  have c10 : w1.cell? ⟨T', 10, none⟩ = some (.int .i64 0) := h1.at rfl
  have c11 : w1.cell? ⟨T', 11, none⟩ = some (.func (.func 41) #[] #[]) := h1.at rfl
  have d0 : w1.cell? ⟨T, 0, none⟩ = some (.pointer (some ⟨K, 0, none⟩)) := HO.out.at rfl
  have d1 : w1.cell? ⟨T, 1, none⟩ = some (.int .i64 s.r.x) := HO.out.at rfl
  have d2 : w1.cell? ⟨T, 2, none⟩ = some (.int .i64 s.r.y) := HO.out.at rfl
  have d3 : w1.cell? ⟨T, 3, none⟩ = some (.int .i64 s.r.f) := HO.out.at rfl
  have d4 : w1.cell? ⟨T, 4, none⟩ = some (.int .i64 s.r.g) := HO.out.at rfl
  have d5 : w1.cell? ⟨T, 5, none⟩ = some (.int .i64 s.r.b) := HO.out.at rfl
  have d6 : w1.cell? ⟨T, 6, none⟩ = some (.int .i64 s.r.lx) := HO.out.at rfl
  have d7 : w1.cell? ⟨T, 7, none⟩ = some (.int .i64 s.r.ly) := HO.out.at rfl
  have d8 : w1.cell? ⟨T, 8, none⟩ = some (.string s.r.lt) := HO.out.at rfl
  have d9 : w1.cell? ⟨T, 9, none⟩ = some (.int .i64 s.r.lw) := HO.out.at rfl
  have d10 : w1.cell? ⟨T, 10, none⟩ = some (.int .i64 s.r.lm) := HO.out.at rfl
  have d11 : w1.cell? ⟨T, 11, none⟩ = some (nv) := HO.out.at rfl
  have fz := HO.out.fz
  clear h1 b1 NO HM
  go_wp2
  go_ret
  have g := (((((((((((((C2.refl T T w1).set 0 (.pointer (some ⟨K', 0, none⟩))).set 1 (.int .i64 0)).set 2 (.int .i64 0)).set 3 (.int .i64 0)).set 4 (.int .i64 0)).set 5 (.int .i64 0)).set 6 (.int .i64 0)).set 7 (.int .i64 0)).set 8 (.string ⟨#[]⟩)).set 9 (.int .i64 0)).set 10 (.int .i64 0)).set 11 (.func (.func 41) #[] #[]))
  have hb := row12 (.pointer (some ⟨K', 0, none⟩)) (.int .i64 0) (.int .i64 0) (.int .i64 0) (.int .i64 0) (.int .i64 0) (.int .i64 0) (.int .i64 0) (.string ⟨#[]⟩) (.int .i64 0) (.int .i64 0) (.func (.func 41) #[] #[]) HO.out.tb
  exact ⟨rfl, ⟨K', M', ⟨hb, ⟨(g.block K' H1.out.cs.klt (by omega) (by omega)).trans H1.out.cs.kb, H1.out.cs.cv.keep (g.block M' H1.out.cs.cv.lt (by omega) (by omega)), H1.out.cs.ne, H1.out.cs.hc⟩, by omega, by omega, hW, hH, hp⟩, hK, hM⟩, (C2.below B1.out).trans g⟩
end

end Go.Proofs.YtdpinmlbccolnaiDoor

namespace Go.Proofs.YtdpinmlbccolnaiDoor
open Go.RowKit Go.Sort
set_option linter.unusedVariables false

/-- A new terminal. -/
def Fsh (w : World) (T K M W H : Nat) : Prop := TM w T K M (W * H) (tm0 W H) (fnV 41 #[])
/-- One that has read l. -/
def Had (w : World) (T K M W H : Nat) (l : List UInt8) : Prop := ∃ nv, TM w T K M (W * H) (runT (tm0 W H, .out) l).1 nv
theorem Had.c2 {w w' : World} {T K M W H U N : Nat} {l : List UInt8} (h : Had w T K M W H l) (g : C2 U N w w') (h1 : T ≠ U ∧ T ≠ N) (h2 : K ≠ U ∧ K ≠ N) (h3 : M ≠ U ∧ M ≠ N) : Had w' T K M W H l := by
  obtain ⟨nv, h⟩ := h
  exact ⟨nv, h.c2 g h1 h2 h3⟩
theorem At2.had {w : World} {T K M W H : Nat} {l : List UInt8} (h : At2 w T K M (W * H) W H l) : Had w T K M W H l := by
  obtain ⟨nv, h, _⟩ := h.tm
  exact ⟨nv, h⟩
theorem Fsh.write {w0 w : World} {T K M W H : Nat} (h : Fsh w T K M W H) (x : ByteArray) (hx : x.size ≤ 9223372036854775807) (hH : 1 ≤ H) (b : Below w0.heap.size w0 w) (ht : TabAt w0) (hU : Utf w0) (hT : w0.heap.size ≤ T) (hM : w0.heap.size ≤ M) (hfar : Far T M) :
    Calls Tryd.prog 10 #[.pointer (some ⟨T, 0, none⟩), .string x] w fun e w' => e = .returned (.tuple #[]) ∧ At2 w' T K M (W * H) W H x.data.toList ∧ C2 T M w w' ∧ Below w0.heap.size w0 w' := by
  have a : At2 w T K M (W * H) W H [] := ⟨⟨_, h, rfl⟩, ti0 W H hH, trivial⟩
  refine (a.write x hx (ht.below b) (hU.below b) hfar).mono fun e w' q => ⟨q.1, q.2.1, q.2.2, q.2.2.low b hT hM⟩
theorem wipe_data : ((⟨#[109, 27, 91, 109, 27, 91, 50, 74, 27, 91, 72]⟩ : ByteArray)).data.toList = wipe := rfl
theorem At2.wipe {w0 w : World} {T K M W H : Nat} {l : List UInt8} (h : At2 w T K M (W * H) W H l) (hW : 1 ≤ W ∧ W ≤ 400) (hH : 1 ≤ H ∧ H ≤ 400) (b : Below w0.heap.size w0 w) (ht : TabAt w0) (hU : Utf w0) (hT : w0.heap.size ≤ T) (hM : w0.heap.size ≤ M) (hfar : Far T M) :
    Calls Tryd.prog 10 #[.pointer (some ⟨T, 0, none⟩), .string ⟨#[109, 27, 91, 109, 27, 91, 50, 74, 27, 91, 72]⟩] w fun e w' => e = .returned (.tuple #[]) ∧ Fsh w' T K M W H ∧ C2 T M w w' ∧ Below w0.heap.size w0 w' := by
  refine (h.write _ (by decide) (ht.below b) (hU.below b) hfar).mono fun e w' q => ⟨q.1, ?_, q.2.2, q.2.2.low b hT hM⟩
  obtain ⟨nv, q1, q2⟩ := q.2.1.tm
  rw [wipe_data, runT_append] at q1 q2
  have hwh : wh (runT (tm0 W H, .out) l).1 = (W, H) := wh_run _ _
  have hsW : (runT (tm0 W H, .out) l).1.W = W := congrArg Prod.fst hwh
  have hsH : (runT (tm0 W H, .out) l).1.H = H := congrArg Prod.snd hwh
  have e2 : runT (runT (tm0 W H, .out) l) Go.Proofs.YtdpinmlbccolnaiDoor.wipe = _ := wiped (runT (tm0 W H, .out) l).1 (runT (tm0 W H, .out) l).2 h.si (by rw [hsW]; exact hW.1) (by rw [hsH]; exact hH.1)
  rw [hsW, hsH] at e2
  rw [e2] at q1 q2
  obtain rfl : nv = fnV 41 #[] := q2
  exact q1.same (fun y x hy hx => fil_whole hW hH _ hy hx) (pall0 W H)

set_option maxRecDepth 100000 in
set_option maxHeartbeats 16000000 in
theorem fresh_walk (W H : Int) (x : ByteArray) (hx : x.size ≤ 9223372036854775807) (z : ByteArray) (hz : z.size ≤ 9223372036854775807) (w : World) (ht : TabAt w) (hU : Utf w) (hg : 2 < w.heap.size) : Calls Tryd.prog 5 #[.int .i64 W, .int .i64 H, .string x, .string z] w fun e w' => e = .returned (.bool true) ∧ Below w.heap.size w w' := by
  by_cases hwh : (1 ≤ W ∧ W ≤ 400) ∧ (1 ≤ H ∧ H ≤ 400)
  · obtain ⟨W, rfl⟩ : ∃ W' : Nat, W = (W' : Int) := ⟨W.toNat, by omega⟩
    obtain ⟨H, rfl⟩ : ∃ H' : Nat, H = (H' : Int) := ⟨H.toNat, by omega⟩
    have TW : Hid (∀ w, Calls Tryd.prog 9 #[.int .i64 W, .int .i64 H] w fun e w' => ∃ T K M T2, e = .returned (.tuple #[.pointer (some ⟨T, 0, none⟩), .pointer (some ⟨T2, 0, none⟩), .bool true]) ∧ Fsh w' T K M W H ∧ w.heap.size ≤ T ∧ w.heap.size ≤ K ∧ w.heap.size ≤ M ∧ Below w.heap.size w w') := fun w => twin_ok W H w (by omega) (by omega) (pall0 W H)
    have HT : Hid (TabAt w) := ht
    have HU : Hid (Utf w) := hU
    have hsz := hU.sz
    have HW : Hid ((1 ≤ W ∧ W ≤ 400) ∧ (1 ≤ H ∧ H ≤ 400)) := by show (_ ∧ _) ∧ _; omega
    clear ht hU
    go_enter Tryd.func5, Tryd.ntmps5
    go_wp2_with fail
    refine (TW.out w).mono ?_
    rintro e w1 ⟨T, K, M, T2, rfl, h1, hT, hK, hM, b1⟩
    have FT1 : Hid (Fsh w1 T K M W H) := h1
    have B1 : Hid (Below w.heap.size w w1) := b1
    have l1 := h1.lt
    have l2 := h1.cs.klt
    have l3 := h1.cs.cv.lt
    have s1 := b1.size
    clear h1 b1
    go_wp2_with fail
    refine (TW.out w1).mono ?_
    rintro e w2 ⟨U, K2, N, U2, rfl, h2, hU1, hK1, hN1, b2⟩
    have FU2 : Hid (Fsh w2 U K2 N W H) := h2
    have FT2 : Hid (Fsh w2 T K M W H) := TM.below FT1.out b2
    have B2 : Hid (Below w.heap.size w w2) := B1.out.trans (b2.mono B1.out.size)
    have l4 := h2.lt
    have l5 := h2.cs.klt
    have l6 := h2.cs.cv.lt
    have s2 := b2.size
    clear h2 b2 FT1 B1
    go_wp2_with fail
    refine (TW.out w2).mono ?_
    rintro e w3 ⟨V, K3, O, V2, rfl, h3, hV1, hK3, hO1, b3⟩
    have FV3 : Hid (Fsh w3 V K3 O W H) := h3
    have FU3 : Hid (Fsh w3 U K2 N W H) := TM.below FU2.out b3
    have FT3 : Hid (Fsh w3 T K M W H) := TM.below FT2.out b3
    have B3 : Hid (Below w.heap.size w w3) := B2.out.trans (b3.mono B2.out.size)
    have l7 := h3.lt
    have l8 := h3.cs.klt
    have l9 := h3.cs.cv.lt
    have s3 := b3.size
    clear h3 b3 FT2 FU2 B2 TW
    have hfT : Far T M := ⟨by omega, by omega, by omega⟩
    have hfU : Far U N := ⟨by omega, by omega, by omega⟩
    have hfV : Far V O := ⟨by omega, by omega, by omega⟩
    have WT : Hid (Calls Tryd.prog 10 #[.pointer (some ⟨T, 0, none⟩), .string x] w3 fun e w' => e = .returned (.tuple #[]) ∧ At2 w' T K M (W * H) W H x.data.toList ∧ C2 T M w3 w' ∧ Below w.heap.size w w') := FT3.out.write x hx HW.out.2.1 B3.out HT.out HU.out hT hM hfT
    go_wp2_with fail
    refine WT.out.mono ?_
    rintro e w4 ⟨rfl, a4, c4, b4⟩
    have AT4 : Hid (At2 w4 T K M (W * H) W H x.data.toList) := a4
    have FU4 : Hid (Fsh w4 U K2 N W H) := TM.c2 FU3.out c4 ⟨by omega, by omega⟩ ⟨by omega, by omega⟩ ⟨by omega, by omega⟩
    have FV4 : Hid (Fsh w4 V K3 O W H) := TM.c2 FV3.out c4 ⟨by omega, by omega⟩ ⟨by omega, by omega⟩ ⟨by omega, by omega⟩
    have B4 : Hid (Below w.heap.size w w4) := b4
    have s4 := c4.size
    clear a4 c4 b4 WT FT3 FU3 FV3 B3
    have WT : Hid (Calls Tryd.prog 10 #[.pointer (some ⟨T, 0, none⟩), .string ⟨#[109, 27, 91, 109, 27, 91, 50, 74, 27, 91, 72]⟩] w4 fun e w' => e = .returned (.tuple #[]) ∧ Fsh w' T K M W H ∧ C2 T M w4 w' ∧ Below w.heap.size w w') := AT4.out.wipe HW.out.1 HW.out.2 B4.out HT.out HU.out hT hM hfT
    go_wp2_with fail
    refine WT.out.mono ?_
    rintro e w5 ⟨rfl, a5, c5, b5⟩
    have FT5 : Hid (Fsh w5 T K M W H) := a5
    have FU5 : Hid (Fsh w5 U K2 N W H) := TM.c2 FU4.out c5 ⟨by omega, by omega⟩ ⟨by omega, by omega⟩ ⟨by omega, by omega⟩
    have FV5 : Hid (Fsh w5 V K3 O W H) := TM.c2 FV4.out c5 ⟨by omega, by omega⟩ ⟨by omega, by omega⟩ ⟨by omega, by omega⟩
    have B5 : Hid (Below w.heap.size w w5) := b5
    have s5 := c5.size
    clear a5 c5 b5 WT AT4 FU4 FV4 B4
    have WU : Hid (Calls Tryd.prog 10 #[.pointer (some ⟨U, 0, none⟩), .string x] w5 fun e w' => e = .returned (.tuple #[]) ∧ At2 w' U K2 N (W * H) W H x.data.toList ∧ C2 U N w5 w' ∧ Below w.heap.size w w') := FU5.out.write x hx HW.out.2.1 B5.out HT.out HU.out (by omega) (by omega) hfU
    go_wp2_with fail
    refine WU.out.mono ?_
    rintro e w6 ⟨rfl, a6, c6, b6⟩
    have AU6 : Hid (Had w6 U K2 N W H x.data.toList) := a6.had
    have FT6 : Hid (Fsh w6 T K M W H) := TM.c2 FT5.out c6 ⟨by omega, by omega⟩ ⟨by omega, by omega⟩ ⟨by omega, by omega⟩
    have FV6 : Hid (Fsh w6 V K3 O W H) := TM.c2 FV5.out c6 ⟨by omega, by omega⟩ ⟨by omega, by omega⟩ ⟨by omega, by omega⟩
    have B6 : Hid (Below w.heap.size w w6) := b6
    have s6 := c6.size
    clear a6 c6 b6 WU FT5 FU5 FV5 B5
    have RU : Hid (Calls Tryd.prog 15 #[.pointer (some ⟨U, 0, none⟩), .int .i64 W, .int .i64 H] w6 fun e w' => e = .returned (.int .i64 0) ∧ Res w6 w' U W H) := by
      obtain ⟨nv, q⟩ := AU6.out
      exact resize_any w6 q W H HW.out.1 HW.out.2 (pall0 W H)
    go_wp2_with fail
    refine RU.out.mono ?_
    rintro e w7 ⟨rfl, r7⟩
    obtain ⟨⟨K4, P, h7, hK4, hP⟩, c7⟩ := r7
    have FU7 : Hid (Fsh w7 U K4 P W H) := h7
    have FT7 : Hid (Fsh w7 T K M W H) := TM.c2 FT6.out c7 ⟨by omega, by omega⟩ ⟨by omega, by omega⟩ ⟨by omega, by omega⟩
    have FV7 : Hid (Fsh w7 V K3 O W H) := TM.c2 FV6.out c7 ⟨by omega, by omega⟩ ⟨by omega, by omega⟩ ⟨by omega, by omega⟩
    have B7 : Hid (Below w.heap.size w w7) := c7.low B6.out (by omega) (by omega)
    have s7 := c7.size
    have hfP : Far U P := ⟨by omega, by omega, by omega⟩
    clear h7 c7 RU AU6 FT6 FV6 B6
    have WT : Hid (Calls Tryd.prog 10 #[.pointer (some ⟨T, 0, none⟩), .string z] w7 fun e w' => e = .returned (.tuple #[]) ∧ At2 w' T K M (W * H) W H z.data.toList ∧ C2 T M w7 w' ∧ Below w.heap.size w w') := FT7.out.write z hz HW.out.2.1 B7.out HT.out HU.out hT hM hfT
    go_wp2_with fail
    refine WT.out.mono ?_
    rintro e w8 ⟨rfl, a8, c8, b8⟩
    have HT8 : Hid (Had w8 T K M W H z.data.toList) := a8.had
    have FU8 : Hid (Fsh w8 U K4 P W H) := TM.c2 FU7.out c8 ⟨by omega, by omega⟩ ⟨by omega, by omega⟩ ⟨by omega, by omega⟩
    have FV8 : Hid (Fsh w8 V K3 O W H) := TM.c2 FV7.out c8 ⟨by omega, by omega⟩ ⟨by omega, by omega⟩ ⟨by omega, by omega⟩
    have B8 : Hid (Below w.heap.size w w8) := b8
    have s8 := c8.size
    clear a8 c8 b8 WT FT7 FU7 FV7 B7
    have WU : Hid (Calls Tryd.prog 10 #[.pointer (some ⟨U, 0, none⟩), .string z] w8 fun e w' => e = .returned (.tuple #[]) ∧ At2 w' U K4 P (W * H) W H z.data.toList ∧ C2 U P w8 w' ∧ Below w.heap.size w w') := FU8.out.write z hz HW.out.2.1 B8.out HT.out HU.out (by omega) (by omega) hfP
    go_wp2_with fail
    refine WU.out.mono ?_
    rintro e w9 ⟨rfl, a9, c9, b9⟩
    have HU9 : Hid (Had w9 U K4 P W H z.data.toList) := a9.had
    have HT9 : Hid (Had w9 T K M W H z.data.toList) := HT8.out.c2 c9 ⟨by omega, by omega⟩ ⟨by omega, by omega⟩ ⟨by omega, by omega⟩
    have FV9 : Hid (Fsh w9 V K3 O W H) := TM.c2 FV8.out c9 ⟨by omega, by omega⟩ ⟨by omega, by omega⟩ ⟨by omega, by omega⟩
    have B9 : Hid (Below w.heap.size w w9) := b9
    have s9 := c9.size
    clear a9 c9 b9 WU FU8 FV8 B8 HT8
    have WV : Hid (Calls Tryd.prog 10 #[.pointer (some ⟨V, 0, none⟩), .string z] w9 fun e w' => e = .returned (.tuple #[]) ∧ At2 w' V K3 O (W * H) W H z.data.toList ∧ C2 V O w9 w' ∧ Below w.heap.size w w') := FV9.out.write z hz HW.out.2.1 B9.out HT.out HU.out (by omega) (by omega) hfV
    go_wp2_with fail
    refine WV.out.mono ?_
    rintro e w10 ⟨rfl, a10, c10, b10⟩
    have HV10 : Hid (Had w10 V K3 O W H z.data.toList) := a10.had
    have HT10 : Hid (Had w10 T K M W H z.data.toList) := HT9.out.c2 c10 ⟨by omega, by omega⟩ ⟨by omega, by omega⟩ ⟨by omega, by omega⟩
    have HU10 : Hid (Had w10 U K4 P W H z.data.toList) := HU9.out.c2 c10 ⟨by omega, by omega⟩ ⟨by omega, by omega⟩ ⟨by omega, by omega⟩
    have B10 : Hid (Below w.heap.size w w10) := b10
    clear a10 c10 b10 WV FV9 B9 HT9 HU9
    obtain ⟨c, hc⟩ : ∃ c, (runT (tm0 W H, .out) z.data.toList).1.c = c := ⟨_, rfl⟩
    have TC : Hid (∀ {w : World} {T K M : Nat}, Had w T K M W H z.data.toList → Calls Tryd.prog 11 #[.pointer (some ⟨T, 0, none⟩)] w fun e w' => ∃ N cap', e = .returned (.slice (some ⟨N, 0, none⟩) (W * H) cap') ∧ Cv 36 w' N W H c ∧ Below w.heap.size w w') := fun h => by
      obtain ⟨nv, h⟩ := h
      have hwh : wh (runT (tm0 W H, .out) z.data.toList).1 = (W, H) := wh_run _ _
      have hsW : (runT (tm0 W H, .out) z.data.toList).1.W = W := congrArg Prod.fst hwh
      have hsH : (runT (tm0 W H, .out) z.data.toList).1.H = H := congrArg Prod.snd hwh
      have := tcells_any _ h
      rw [hsW, hsH, hc] at this
      exact this.mono fun e w' q => by obtain ⟨N, cp, q1, q2, q3, q4⟩ := q; exact ⟨N, cp, q1, q2, q4⟩
    have HB : Hid (∀ {w w' : World} {T K M : Nat}, Had w T K M W H z.data.toList → Below w.heap.size w w' → Had w' T K M W H z.data.toList) := fun h b => by
      obtain ⟨nv, h⟩ := h
      exact ⟨nv, h.below b⟩
    clear hc
    go_wp2_with fail
    refine (TC.out HT10.out).mono ?_
    rintro e w11 ⟨A, ca, rfl, va, b11⟩
    have HU11 : Hid (Had w11 U K4 P W H z.data.toList) := HB.out HU10.out b11
    have HV11 : Hid (Had w11 V K3 O W H z.data.toList) := HB.out HV10.out b11
    have VA11 : Hid (Cv 36 w11 A W H c) := va
    have B11 : Hid (Below w.heap.size w w11) := B10.out.trans (b11.mono B10.out.size)
    clear va b11 HT10 HU10 HV10 B10
    go_wp2_with fail
    refine (TC.out HU11.out).mono ?_
    rintro e w12 ⟨B, cb, rfl, vb, b12⟩
    have HV12 : Hid (Had w12 V K3 O W H z.data.toList) := HB.out HV11.out b12
    have VA12 : Hid (Cv 36 w12 A W H c) := VA11.out.keep (b12.block _ VA11.out.lt)
    have VB12 : Hid (Cv 36 w12 B W H c) := vb
    have B12 : Hid (Below w.heap.size w w12) := B11.out.trans (b12.mono B11.out.size)
    clear vb b12 HU11 HV11 VA11 B11
    go_wp2_with fail
    refine (TC.out HV12.out).mono ?_
    rintro e w13 ⟨C, cc, rfl, vc, b13⟩
    have VA13 : Hid (Cv 36 w13 A W H c) := VA12.out.keep (b13.block _ VA12.out.lt)
    have VB13 : Hid (Cv 36 w13 B W H c) := VB12.out.keep (b13.block _ VB12.out.lt)
    have VC13 : Hid (Cv 36 w13 C W H c) := vc
    have B13 : Hid (Below w.heap.size w w13) := B12.out.trans (b13.mono B12.out.size)
    clear vc b13 HV12 VA12 VB12 B12 TC HB
    obtain ⟨n, hn⟩ : ∃ n, W * H = n := ⟨_, rfl⟩
    have hn' : (W : Int) * (H : Int) = (n : Int) := by rw [← hn, Int.natCast_mul]
    have hnb : n ≤ 160000 := by rw [← hn]; exact Nat.le_trans (Nat.mul_le_mul HW.out.1.2 HW.out.2.2) (by decide)
    have HN : Hid (W * H = n) := hn
    rw [hn]
    clear hn
    go_wp2_with fail
    refine (tnum_any _ _).mono ?_
    rintro e w14 ⟨rfl, hw⟩
    obtain rfl := hw.symm
    go_wp2_with fail
    go_loopw [22] (fun iv wr => ∃ i : Nat, i ≤ n ∧ iv = .int .i64 i ∧ Hid (Gr w13 wr)) (fun iv _ => n - (intOf iv).toNat)
    case atStart => exact ⟨0, by omega, rfl, Gr.refl _⟩
    case round =>
      obtain ⟨i, hi, rfl, HI⟩ := hrel
      by_cases hil : i < n
      · obtain ⟨y, x', hy, hx', hix⟩ := lin_split (by rw [HN.out]; exact hil)
        have eo : y * W * 5 + x' * 5 = i * 5 := by rw [hix, Nat.add_mul]
        have V1 := VA13.out.gr HI.out
        have V2 := VB13.out.gr HI.out
        have V3 := VC13.out.gr HI.out
        have d0 := V1.c0 hy hx'
        have d1 := V1.c1 hy hx'
        have d2 := V1.c2 hy hx'
        have d3 := V1.c3 hy hx'
        have d4 := V1.c4 hy hx'
        have q0 := V2.c0 hy hx'
        have q1 := V2.c1 hy hx'
        have q2 := V2.c2 hy hx'
        have q3 := V2.c3 hy hx'
        have q4 := V2.c4 hy hx'
        have p0 := V3.c0 hy hx'
        have p1 := V3.c1 hy hx'
        have p2 := V3.c2 hy hx'
        have p3 := V3.c3 hy hx'
        have p4 := V3.c4 hy hx'
        rw [eo] at d0 d1 d2 d3 d4 q0 q1 q2 q3 q4 p0 p1 p2 p3 p4
        have hil' : (i : Int) < (n : Int) := by omega
        obtain ⟨e, he⟩ : ∃ e, c y x' = e := ⟨_, rfl⟩
        rw [he] at d0 d1 d2 d3 d4 q0 q1 q2 q3 q4 p0 p1 p2 p3 p4
        obtain ⟨t, f, g, b, p⟩ := e
        clear eo hix V1 V2 V3 he
        have hmix : Tryd.prog.follows .mixedOrders = true := by kernel_rfl
        go_wp2_with fail
        go_quiet (fail)
        go_wp2
        go_roundw
        case rel => exact ⟨i + 1, by omega, by go_num, HI.out.drewN _⟩
        case measure => simp [intOf]; omega
      · have hil' : ¬ (i : Int) < (n : Int) := by omega
        go_wp2
        go_ret
        exact ⟨rfl, B13.out.trans (HI.out.below.mono B13.out.size)⟩
  · have TW : Hid (∀ w, Calls Tryd.prog 9 #[.int .i64 W, .int .i64 H] w fun e w' => e = .returned (.tuple #[.pointer none, .pointer none, .bool true]) ∧ w' = w) := fun w => twin_bad W H w hwh
    clear ht hU
    go_enter Tryd.func5, Tryd.ntmps5
    go_wp2_with fail
    refine (TW.out w).mono ?_
    rintro e w1 ⟨rfl, hw⟩
    obtain rfl := hw.symm
    go_wp2_with fail
    refine (TW.out w).mono ?_
    rintro e w1 ⟨rfl, hw⟩
    obtain rfl := hw.symm
    go_wp2_with fail
    refine (TW.out w).mono ?_
    rintro e w1 ⟨rfl, hw⟩
    obtain rfl := hw.symm
    go_wp2
    go_ret
    exact ⟨rfl, Below.refl _ _⟩

end Go.Proofs.YtdpinmlbccolnaiDoor

namespace Go.Proofs.YtdpinmlbccolnaiDoor.termFresh
open Go.ChangeShapes Go.WideShapes Go.ChangeAt Go.RowKit
open Go.ChangeMaps (open_string shut_string)
set_option linter.unusedVariables false

theorem own : ownKnob Tryd.prog.godebug = none := by kernel_rfl
theorem laidOut : laidOutB Tryd.prog = true := by kernel_rfl

set_option maxRecDepth 100000 in
theorem contract (H : Type) (enc : TypeId × Value → H) (W : World) (base : Nat) (args : Array Value) (ds gs : List (DataW H)) (before : List MemPlace)
    (hval : ∀ (j : Nat) t v, Tryd.f5.params[j]? = some t → args[j]? = some v → Value.okWide Tryd.prog W .any base t v)
    (hW : DataW.Whole enc Tryd.prog Tryd.f5.params.toList Rows.termFreshSpec.vars false W args.toList ds gs before) (hL : laidMetH Tryd.prog Rows.termFreshRow.laid W) :
    Calls Tryd.prog 5 args W fun e W' => ∃ v, e = .returned v ∧ Rows.termFreshSpec.post enc Tryd.prog Tryd.f5 false true false false W args v W' := by
  have hW' := hW
  obtain ⟨p, q, hA0, hV, rfl, hfz, hnd⟩ := hW
  have hA : DataW.TrodAll enc Tryd.prog W 0 (fun _ => true) true Tryd.f5.params.toList args.toList ds p := hA0
  rw [Tryd.params5] at hA hval
  obtain ⟨v0, vs0, d0, ds0, p0, q0, hargs, rfl, rfl, h0, r0⟩ := trodAll_cons hA
  obtain ⟨v1, vs1, d1, ds1, p1, q1, rfl, rfl, rfl, h1, r1⟩ := trodAll_cons r0
  obtain ⟨v2, vs2, d2, ds2, p2, q2, rfl, rfl, rfl, h2, r2⟩ := trodAll_cons r1
  obtain ⟨v3, vs3, d3, ds3, p3, q3, rfl, rfl, rfl, h3, r3⟩ := trodAll_cons r2
  obtain ⟨rfl, rfl, rfl⟩ := trodAll_nil r3
  obtain rfl : args = #[v0, v1, v2, v3] := by cases args; simp_all
  obtain ⟨rfl, rfl⟩ := trodVars_none hV
  obtain ⟨x0, rfl, rfl, rfl, m0⟩ := open_int Tryd.underlying3 (hval 0 3 v0 rfl rfl) h0
  obtain ⟨x1, rfl, rfl, rfl, m1⟩ := open_int Tryd.underlying3 (hval 1 3 v1 rfl rfl) h1
  obtain ⟨s2, rfl, rfl, rfl, m2⟩ := open_string Tryd.underlying9 (hval 2 9 v2 rfl rfl) h2
  obtain ⟨s3, rfl, rfl, rfl, m3⟩ := open_string Tryd.underlying9 (hval 3 9 v3 rfl rfl) h3
  clear hA0
  simp only [List.append_nil] at hW'
  have hLm : laidMet Tryd.prog tlaids W := hL
  have hT := tab_of3 hLm
  have hsz : s2.size ≤ 9223372036854775807 := m2
  have hsy : s3.size ≤ 9223372036854775807 := m3
  refine (fresh_walk x0 x1 s2 hsz s3 hsy W hT (utf_of hLm) (World.block_lt_of_cell? W _ (hT 0 (by decide)).1)).mono fun e W' ⟨he, bel⟩ => ?_
  subst he
  exact ⟨_, rfl, _, _, _, [], [], [], hW', trodAll_mk1 (shut_bool Tryd.underlying4 _), (trodAll_cons_mk (shut_int Tryd.underlying3 m0) (trodAll_cons_mk (shut_int Tryd.underlying3 m1) (trodAll_cons_mk (shut_string Tryd.underlying9 m2) (trodAll_cons_mk (shut_string Tryd.underlying9 m3) trodAll_mk0)))), rfl, bel.frame _, fun h => by cases h⟩

/-- For the witness: a world whose variables hold what their initialisers lay. -/
theorem laid_met (os : Os) : laidMet Tryd.prog Rows.termFreshRow.laid (((World.holding Tryd.prog os ⟨#[], #[], []⟩).layVars Tryd.prog tlaids).forCall (fun _ _ => 0) ⟨#[], #[.int .i64 0, .int .i64 0, .string ⟨#[]⟩, .string ⟨#[]⟩], []⟩).memory := by
  have hd : laidMet Tryd.prog tlaids ((World.holding Tryd.prog os ⟨#[], #[], []⟩).layVars Tryd.prog tlaids) := by
    have e1 : (tlaids.filter fun x => (tlaids.map (·.1)).contains x.1) = tlaids := List.filter_eq_self.2 fun x hx => List.contains_iff_mem.2 (List.mem_map.2 ⟨x, hx, rfl⟩)
    have e2 : (tlaids.filter fun x => !(tlaids.map (·.1)).contains x.1) = [] := List.filter_eq_nil_iff.2 fun x hx => by rw [List.contains_iff_mem.2 (List.mem_map.2 ⟨x, hx, rfl⟩)]; simp
    exact laidMet_layVars (w0 := World.holding Tryd.prog os ⟨#[], #[], []⟩) (tlaids.map (·.1)) [] (by rw [e1]) (by rw [e1]; kernel_rfl) (by rw [e1]; kernel_rfl) (by rw [e2]; exact LaidIn.none)
  exact hd.of_heap (by simp [World.memory, World.forCall, Input.heap])
theorem reads (os : Os) {H : Type} (enc : TypeId × Value → H) : ∃ places, DataW.whole enc Tryd.prog (((World.holding Tryd.prog os ⟨#[], #[], []⟩).layVars Tryd.prog tlaids).forCall (fun _ _ => 0) ⟨#[], #[.int .i64 0, .int .i64 0, .string ⟨#[]⟩, .string ⟨#[]⟩], []⟩).memory Tryd.f5.params.toList Rows.termFreshSpec.vars false #[Value.int .i64 0, Value.int .i64 0, Value.string ⟨#[]⟩, Value.string ⟨#[]⟩].toList 8 = some ([.lit (.int .i64 0), .lit (.int .i64 0), .lit (.string []), .lit (.string [])], [], places) :=
  ⟨[], by kernel_rfl⟩

set_option maxRecDepth 100000 in
theorem lifted (os : Os) (started : os.Started) (H : Type) (enc : TypeId × Value → H) (F : Stop.Interp) :
    ReturnsInHanded {} Tryd.checked os 5 .any ((OpenSpec.ofChange Rows.termFreshSpec).preRow enc Tryd.prog Tryd.f5 Rows.termFreshRow.domain false Rows.termFreshRow.laid) (((OpenSpec.ofChange Rows.termFreshSpec).at F).post enc Tryd.prog Tryd.f5 false true false false) := by
  obtain ⟨places, hx⟩ := reads os enc
  refine returnsInHanded_of_row (C := Tryd.checked) (s := OpenSpec.ofChange Rows.termFreshSpec) own started (by kernel_rfl) Tryd.func5
    (witness_row_at (enc := enc) (C := Tryd.checked) false ((World.holding Tryd.prog os ⟨#[], #[], []⟩).layVars Tryd.prog tlaids) #[.int .i64 0, .int .i64 0, .string ⟨#[]⟩, .string ⟨#[]⟩] (World.layVars_os _ _ _) (by kernel_rfl) (by kernel_rfl) (by kernel_rfl)
      (OpenSpec.preRow_of_cond 8 hx (by kernel_rfl) (fun k hk => by cases hk) (by kernel_rfl) (laid_met os))) ?_
  intro W base args ds gs before hval hW _ _ _ hL _ _
  exact contract H enc W base args ds gs before hval hW hL

theorem said : Rows.TermFreshSaid :=
  OpenClaim.holds_of_cond 5 Tryd.f5 rfl rfl rfl rfl rfl rfl rfl ⟨rfl, rfl, rfl, rfl, rfl⟩ rfl rfl rfl rfl rfl (by kernel_rfl) Tryd.func5 (by kernel_rfl)
    (of_decide_eq_true (by kernel_rfl)) (by unfold Func.isWrapper; first | (rw [if_pos (by decide +kernel)]; kernel_rfl) | (rw [if_neg (by decide +kernel)]; exact ⟨rfl, rfl⟩))
    (fun os started H enc _ F => by rw [OpenClaim.pre_eq_preRow]; exact lifted os started H enc F)

theorem plain (f : FuncId) (fn : Func) (hf : Tryd.pinned.checked.prog.funcNamed Rows.termFreshRow.func = some f) (hfn : Tryd.pinned.checked.prog.funcs[f]? = some fn) :
    false = Tryd.pinned.checked.prog.looks [] ∧ ∀ (j : Nat) t, fn.params[j]? = some t → Tryd.pinned.checked.prog.wantsStandIn t = false := by
  obtain rfl : f = 5 := Option.some.inj ((show Tryd.prog.funcNamed Rows.termFreshRow.func = some 5 by kernel_rfl).symm.trans hf) |>.symm
  obtain rfl : fn = Tryd.f5 := (Option.some.inj (Tryd.func5.symm.trans hfn)).symm
  refine ⟨by kernel_rfl, fun j t ht => ?_⟩
  rw [Tryd.params5] at ht
  have hm : t = 9 ∨ t = 3 := by
    have hq := Array.mem_of_getElem? ht
    simp only [List.mem_toArray, List.mem_cons, List.not_mem_nil, or_false] at hq
    rcases hq with h | h | h | h
    · exact .inr h
    · exact .inr h
    · exact .inl h
    · exact .inl h
  rcases hm with rfl | rfl
  · exact (show Tryd.prog.wantsStandIn 9 = false by kernel_rfl)
  · exact (show Tryd.prog.wantsStandIn 3 = false by kernel_rfl)

theorem proved : Rows.TermFreshCardSaid :=
  Claim7.holds_tied_plain_at .later [] _ _ _ _ said (fun _ h => by cases h) (by kernel_rfl) (fun _ h => by cases h) termFresh_row_tie rfl ⟨rfl, rfl⟩ (by kernel_rfl) rfl plain (by kernel_rfl)
#print axioms proved
end Go.Proofs.YtdpinmlbccolnaiDoor.termFresh
