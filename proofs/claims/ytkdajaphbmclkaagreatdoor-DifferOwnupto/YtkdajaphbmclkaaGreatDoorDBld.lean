/-
  strings.Builder at the head of a pen.
-/
import Derived.Test.YtkdajaphbmclkaaGreatDoorYSeq
import Derived.Lib.Builder
import Derived.Lib.FrozenHead2
import Derived.Laws.Externs
import Derived.Lib.OthersKept
namespace Go.Proofs.YtkdajaphbmclkaaGreatDoor
open Go.RowKit Go.Sort
set_option linter.unusedVariables false

/-- A pen in a block, its bytes in a row above B. -/
structure PenB (Q : World) (B b : Nat) (p v : Value) (W a f g d : Int) (l : List UInt8) : Prop where
  low : B ≤ b
  hp : p = .pointer none ∨ p = .pointer (some ⟨b, 0, none⟩)
  at_ : Q.heap[b]? = some (.cells #[p, v, .int .i64 W, .int .i64 a, .int .i64 f, .int .i64 g, .int .i64 d] 64 (0, 0))
  own : Q.ownsRowF B 5 1 v l.length (Lib.byteCells l)
  ne : v.ownBlock ≠ some b

set_option maxHeartbeats 1000000 in
set_option maxRecDepth 100000 in
theorem penCopy_used (b : Nat) (w : World) (h0 : w.cell? ⟨b, 0, none⟩ = some (.pointer (some ⟨b, 0, none⟩))) :
    Calls Tryz.prog 34 #[.pointer (some ⟨b, 0, none⟩)] w fun e w' => e = .returned (.tuple #[]) ∧ w' = w := by
  obtain ⟨j, hj, _⟩ := Option.map_eq_some_iff.1 (by kernel_rfl : (Tryz.prog.info? 62).map (·.size) = some 2)
  go_enter Tryz.func34, Tryz.ntmps34
  go_wp2
  rw [Lib.run_neq_ptr_same w _ (by kernel_rfl : Tryz.prog.underlying 59 = some (.pointer 62)) hj]
  go_wp2
  go_end0
  exact ⟨rfl, rfl⟩
set_option maxHeartbeats 1000000 in
set_option maxRecDepth 100000 in
theorem penCopy_fresh (b : Nat) (w : World) (h0 : w.cell? ⟨b, 0, none⟩ = some (.pointer none)) (hsh : w.shape? b = some (64, 7)) (hfz : w.frozen? ⟨b, 0, none⟩ = false) :
    Calls Tryz.prog 34 #[.pointer (some ⟨b, 0, none⟩)] w fun e w' => e = .returned (.tuple #[]) ∧ w' = w.setCell ⟨b, 0, none⟩ (.pointer (some ⟨b, 0, none⟩)) := by
  obtain ⟨j, hj, hjs⟩ := Option.map_eq_some_iff.1 (by kernel_rfl : (Tryz.prog.info? 62).map (·.size) = some 2)
  have t70 : Tryz.prog.underlying 59 = some (.pointer 62) := by kernel_rfl
  have t164 : Tryz.prog.underlying 103 = some .unsafePointer := by kernel_rfl
  have hl : liesAt Tryz.prog Tryz.prog.depth 64 (7 / Tryz.prog.cellsOf 64) 0 62 1 = true := by kernel_rfl
  go_enter Tryz.func34, Tryz.ntmps34
  go_wp2
  rw [Lib.run_to_unsafe w ⟨b, 0, none⟩ t70 t164 hj (by rw [hjs]; decide) hsh (Nat.zero_lt_succ 6)]
  simp only [Result.andThen]
  rw [Oper.upon_value]
  go_wp2
  rw [run_callFunc_extern Tryz.func52 (by kernel_rfl) (by kernel_rfl) (by kernel_rfl) (e := Extern.AbiNoEscape.same) (by kernel_rfl)]
  rw [Lib.run_noEscape]
  simp only [Result.andThen]
  rw [Oper.upon_value]
  go_wp2
  rw [Lib.run_from_unsafe w ⟨b, 0, none⟩ t164 t70 hj hsh hl]
  simp only [Result.andThen]
  rw [Oper.upon_value]
  go_wp2
  go_end0
  exact ⟨rfl, rfl⟩
theorem PenB.cell {Q : World} {B b : Nat} {p v : Value} {W a f g d : Int} {l : List UInt8} (h : PenB Q B b p v W a f g d l) {k : Nat} {u : Value} (hk : #[p, v, .int .i64 W, .int .i64 a, .int .i64 f, .int .i64 g, .int .i64 d][k]? = some u) : Q.cell? ⟨b, k, none⟩ = some u := by rw [Lib.cell_of_heap h.at_]; exact hk
theorem PenB.fz {Q : World} {B b : Nat} {p v : Value} {W a f g d : Int} {l : List UInt8} (h : PenB Q B b p v W a f g d l) (k : Nat) : Q.frozen? ⟨b, k, none⟩ = false := Lib.frozen_of_heap h.at_ k
theorem PenB.lt {Q : World} {B b : Nat} {p v : Value} {W a f g d : Int} {l : List UInt8} (h : PenB Q B b p v W a f g d l) : b < Q.heap.size := (Array.getElem?_eq_some_iff.1 h.at_).1
theorem pen_ne5 : (64 : TypeId) ≠ 5 := by decide
/-- A cell of a pen's is another one now. -/
theorem PenB.set {Q : World} {B b : Nat} {p v : Value} {W a f g d : Int} {l : List UInt8} (h : PenB Q B b p v W a f g d l) (k : Nat) (u : Value) : (Q.setCell ⟨b, k, none⟩ u).heap[b]? = some (.cells (#[p, v, .int .i64 W, .int .i64 a, .int .i64 f, .int .i64 g, .int .i64 d].setIfInBounds k u) 64 (0, 0)) ∧ (Q.setCell ⟨b, k, none⟩ u).ownsRowF B 5 1 v l.length (Lib.byteCells l) := by
  refine ⟨heap_setCell_same Q b k _ _ u h.at_, h.own.1, ?_⟩
  rcases h.own.2 with q | ⟨c, cap, cur, fz, hv, hb, hg, r⟩
  · exact .inl q
  · have hcb : c ≠ b := by intro e; subst e; exact h.ne (by rw [hv]; rfl)
    exact .inr ⟨c, cap, cur, fz, hv, hb, by rw [heap_setCell_other]; exact hg; exact hcb, r⟩
theorem penCopy_any (B b : Nat) (p v : Value) (W a f g d : Int) (l : List UInt8) (w : World) (h : PenB w B b p v W a f g d l) :
    Calls Tryz.prog 34 #[.pointer (some ⟨b, 0, none⟩)] w fun e w' => e = .returned (.tuple #[]) ∧ PenB w' B b (.pointer (some ⟨b, 0, none⟩)) v W a f g d l ∧ Below B w w' ∧ Lib.OthersKept 5 (some b) w w' := by
  rcases h.hp with rfl | rfl
  · refine (penCopy_fresh b w (h.cell (k := 0) rfl) (by simp [World.shape?, h.at_]) (h.fz 0)).mono ?_
    rintro e w' ⟨rfl, rfl⟩
    have q := h.set 0 (.pointer (some ⟨b, 0, none⟩))
    exact ⟨rfl, ⟨h.low, .inr rfl, q.1, q.2, h.ne⟩, (Below.refl B w).setCell (p := ⟨b, 0, none⟩) h.low _, (Lib.OthersKept.refl _ _ w).setCell ⟨b, 0, none⟩ rfl _⟩
  · refine (penCopy_used b w (h.cell (k := 0) rfl)).mono ?_
    rintro e w' ⟨rfl, rfl⟩
    exact ⟨rfl, h, Below.refl B _, Lib.OthersKept.refl _ _ _⟩
set_option maxHeartbeats 2000000 in
set_option maxRecDepth 100000 in
theorem penWrite_any (B b : Nat) (p v : Value) (W a f g d : Int) (l : List UInt8) (s : ByteArray) (w : World) (h : PenB w B b p v W a f g d l) (hlen : l.length + s.size ≤ 140737488355328) (hBw : B ≤ w.heap.size) :
    Calls Tryz.prog 17 #[.pointer (some ⟨b, 0, none⟩), .string s] w fun e w' => e = .returned (.tuple #[.int .i64 s.size, .nilIface]) ∧ ∃ v', PenB w' B b (.pointer (some ⟨b, 0, none⟩)) v' W a f g d (l ++ s.data.toList) ∧ Below B w w' ∧ Lib.OthersKept 5 (some b) w w' := by
  obtain ⟨i0, hi, hz0, hz1, hz2⟩ := info_parts (by kernel_rfl : (Tryz.prog.info? 5).map (fun i => (i.zero, i.size, i.bytes)) = some (some (.int .u8 0), 1, 1))
  have CC : Hid (∀ w, PenB w B b p v W a f g d l → Calls Tryz.prog 34 #[.pointer (some ⟨b, 0, none⟩)] w fun e w' => e = .returned (.tuple #[]) ∧ PenB w' B b (.pointer (some ⟨b, 0, none⟩)) v W a f g d l ∧ Below B w w' ∧ Lib.OthersKept 5 (some b) w w') := penCopy_any B b p v W a f g d l
  have HP : Hid (PenB w B b p v W a f g d l) := h
  clear h
  go_enter Tryz.func17, Tryz.ntmps17
  go_wp2_with fail
  refine (CC.out _ HP.out).mono ?_
  rintro e w1 ⟨rfl, h1, hb1, hk1⟩
  have c0 : w1.cell? ⟨b, 0, none⟩ = some (.pointer (some ⟨b, 0, none⟩)) := h1.cell (k := 0) rfl
  have c1 : w1.cell? ⟨b, 1, none⟩ = some v := h1.cell (k := 1) rfl
  go_wp2_with (at_builtin; refine Lib.wpList_append_own_stringF _ rfl _ _ 60 9 rfl B 5 i0 (by kernel_rfl) (by kernel_rfl) hi hz0 hz1 hz2 _ _ _ rfl h1.own s rfl ?c3 ?c4 ?c5 ?_)
  case c3 => unfold maxLen; omega
  case c4 => omega
  case c5 => have := hb1.size; omega
  intro v' w2 hown' hgrow _
  have hb2 : w2.heap[b]? = some (.cells #[.pointer (some ⟨b, 0, none⟩), v, .int .i64 W, .int .i64 a, .int .i64 f, .int .i64 g, .int .i64 d] 64 (0, 0)) := by
    rw [hgrow.block b h1.lt (fun e => h1.ne e.symm)]
    exact h1.at_
  have d0 : w2.cell? ⟨b, 0, none⟩ = some (.pointer (some ⟨b, 0, none⟩)) := by rw [Lib.cell_of_heap hb2]; rfl
  have d1 : w2.cell? ⟨b, 1, none⟩ = some v := by rw [Lib.cell_of_heap hb2]; rfl
  have f1 : w2.frozen? ⟨b, 1, none⟩ = false := Lib.frozen_of_heap hb2 1
  have hne : v'.ownBlock ≠ some b := Lib.ownBlock_neF hown' hb2 pen_ne5
  have hown2 : w2.ownsRowF B 5 1 v' (l ++ s.data.toList).length (Lib.byteCells (l ++ s.data.toList)) := by
    rw [Lib.byteCells_append, List.length_append]
    have e1 : s.data.toList.length = s.size := rfl
    rw [e1]
    exact hown'
  obtain ⟨ao, n', cap, rfl⟩ : ∃ ao n' cap, v' = .slice ao n' cap := by
    rcases hown'.2 with ⟨hv, _⟩ | ⟨g, cap, cur, fz, hv, _⟩
    · exact ⟨_, _, _, hv⟩
    · exact ⟨_, _, _, hv⟩
  go_wp2
  go_ret2
  refine ⟨rfl, .slice ao n' cap, ?_, (hb1.grown hgrow (by have := hb1.size; omega) (fun k hk => (h1.own.lt k hk).1)).setCell (p := ⟨b, 1, none⟩) h1.low _, (hk1.grown hgrow (Lib.ownsRowF_kind h1.own)).setCell ⟨b, 1, none⟩ rfl _⟩
  refine ⟨h1.low, .inr rfl, heap_setCell_same w2 b 1 _ _ _ hb2, ?_, hne⟩
  exact hown2.kept (row := some b) ⟨rfl, rfl, rfl, by simp [World.setCell], fun k _ hk => Below.heap_setCell _ _ _ _ (fun e => hk (by simp [e]))⟩ (Or.inr hne)

end Go.Proofs.YtkdajaphbmclkaaGreatDoor
