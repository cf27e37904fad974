/-
  The printer in memory: its strings.Builder lies behind two lists.
-/
import Derived.Test.YtnkebfmlaliddaaGreatDoorP01
import Derived.Test.YtnkebfmlaliddaaGreatDoorP09
import Derived.Lib.Builder
import Derived.Lib.FrozenHead2
import Derived.Laws.Externs
import Derived.Lib.OthersKept
import Derived.Shelf.Strings.BuilderK
namespace Go.Proofs.YtnkebfmlaliddaaGreatDoor
open Go.RowKit Go.Sort
set_option linter.unusedVariables false

/-- A printer in a block, its bytes in a row above B. -/
structure PrB (Q : World) (B b : Nat) (nv av p v : Value) (l : List UInt8) : Prop where
  low : B ≤ b
  hp : p = .pointer none ∨ p = .pointer (some ⟨b, 2, none⟩)
  at_ : Q.heap[b]? = some (.cells #[nv, av, p, v] 46 (0, 0))
  own : Q.ownsRowF B 5 1 v l.length (Lib.byteCells l)
  ne : v.ownBlock ≠ some b

set_option maxHeartbeats 1000000 in
set_option maxRecDepth 100000 in
theorem prCopy_used (b : Nat) (w : World) (h0 : w.cell? ⟨b, 2, none⟩ = some (.pointer (some ⟨b, 2, none⟩))) :
    Calls Tryz.prog 53 #[.pointer (some ⟨b, 2, none⟩)] w fun e w' => e = .returned (.tuple #[]) ∧ w' = w := by
  obtain ⟨j, hj, _⟩ := Option.map_eq_some_iff.1 (by kernel_rfl : (Tryz.prog.info? 44).map (·.size) = some 2)
  go_enter Tryz.func53, Tryz.ntmps53
  go_wp2
  rw [Lib.run_neq_ptr_same w _ (by kernel_rfl : Tryz.prog.underlying 41 = some (.pointer 44)) hj]
  go_wp2
  go_end0
  exact ⟨rfl, rfl⟩
set_option maxHeartbeats 1000000 in
set_option maxRecDepth 100000 in
theorem prCopy_fresh (b : Nat) (w : World) (h0 : w.cell? ⟨b, 2, none⟩ = some (.pointer none)) (hsh : w.shape? b = some (46, 4)) (hfz : w.frozen? ⟨b, 2, none⟩ = false) :
    Calls Tryz.prog 53 #[.pointer (some ⟨b, 2, none⟩)] w fun e w' => e = .returned (.tuple #[]) ∧ w' = w.setCell ⟨b, 2, none⟩ (.pointer (some ⟨b, 2, none⟩)) := by
  obtain ⟨j, hj, hjs⟩ := Option.map_eq_some_iff.1 (by kernel_rfl : (Tryz.prog.info? 44).map (·.size) = some 2)
  have t70 : Tryz.prog.underlying 41 = some (.pointer 44) := by kernel_rfl
  have t164 : Tryz.prog.underlying 102 = some .unsafePointer := by kernel_rfl
  have hl : liesAt Tryz.prog Tryz.prog.depth 46 (4 / Tryz.prog.cellsOf 46) 2 44 1 = true := by kernel_rfl
  go_enter Tryz.func53, Tryz.ntmps53
  go_wp2
  rw [Lib.run_to_unsafe w ⟨b, 2, none⟩ t70 t164 hj (by rw [hjs]; decide) hsh (by show 2 < 4; omega)]
  simp only [Result.andThen]
  rw [Oper.upon_value]
  go_wp2
  rw [run_callFunc_extern Tryz.func82 (by kernel_rfl) (by kernel_rfl) (by kernel_rfl) (e := Extern.AbiNoEscape.same) (by kernel_rfl)]
  rw [Lib.run_noEscape]
  simp only [Result.andThen]
  rw [Oper.upon_value]
  go_wp2
  rw [Lib.run_from_unsafe w ⟨b, 2, none⟩ t164 t70 hj hsh hl]
  simp only [Result.andThen]
  rw [Oper.upon_value]
  go_wp2
  go_end0
  exact ⟨rfl, rfl⟩
section
variable {Q : World} {B b : Nat} {nv av p v : Value} {l : List UInt8}
theorem PrB.cell (h : PrB Q B b nv av p v l) {k : Nat} {u : Value} (hk : #[nv, av, p, v][k]? = some u) : Q.cell? ⟨b, k, none⟩ = some u := by rw [Lib.cell_of_heap h.at_]; exact hk
theorem PrB.fz (h : PrB Q B b nv av p v l) (k : Nat) : Q.frozen? ⟨b, k, none⟩ = false := Lib.frozen_of_heap h.at_ k
theorem PrB.lt (h : PrB Q B b nv av p v l) : b < Q.heap.size := (Array.getElem?_eq_some_iff.1 h.at_).1
theorem printer_ne5 : (46 : TypeId) ≠ 5 := by decide
theorem PrB.set (h : PrB Q B b nv av p v l) (k : Nat) (u : Value) : (Q.setCell ⟨b, k, none⟩ u).heap[b]? = some (.cells (#[nv, av, p, v].setIfInBounds k u) 46 (0, 0)) ∧ (Q.setCell ⟨b, k, none⟩ u).ownsRowF B 5 1 v l.length (Lib.byteCells l) := by
  refine ⟨heap_setCell_same Q b k _ _ u h.at_, h.own.1, ?_⟩
  rcases h.own.2 with q | ⟨c, cap, cur, fz, hv, hb, hg, r⟩
  · exact .inl q
  · have hcb : c ≠ b := by intro e; subst e; exact h.ne (by rw [hv]; rfl)
    exact .inr ⟨c, cap, cur, fz, hv, hb, by rw [heap_setCell_other]; exact hg; exact hcb, r⟩
/-- New blocks alone. -/
theorem PrB.below {Q' : World} (h : PrB Q B b nv av p v l) (hb : Below Q.heap.size Q Q') : PrB Q' B b nv av p v l := by
  refine ⟨h.low, h.hp, (hb.block b h.lt).trans h.at_, ⟨h.own.1, ?_⟩, h.ne⟩
  rcases h.own.2 with q | ⟨c, cap, cur, fz, hv, hB, hg, r⟩
  · exact .inl q
  · exact .inr ⟨c, cap, cur, fz, hv, hB, (hb.block c (Array.getElem?_eq_some_iff.1 hg).1).trans hg, r⟩
end
/-- What a printer leaves. -/
def PrW (w w' : World) (B b : Nat) : Prop := Below B w w' ∧ Lib.OthersKept 5 (some b) w w'
theorem prCopy_any (B b : Nat) (nv av p v : Value) (l : List UInt8) (w : World) (h : PrB w B b nv av p v l) :
    Calls Tryz.prog 53 #[.pointer (some ⟨b, 2, none⟩)] w fun e w' => e = .returned (.tuple #[]) ∧ PrB w' B b nv av (.pointer (some ⟨b, 2, none⟩)) v l ∧ Below B w w' ∧ Lib.OthersKept 5 (some b) w w' := by
  rcases h.hp with rfl | rfl
  · refine (prCopy_fresh b w (h.cell (k := 2) rfl) (by simp [World.shape?, h.at_]) (h.fz 2)).mono ?_
    rintro e w' ⟨rfl, rfl⟩
    have q := h.set 2 (.pointer (some ⟨b, 2, none⟩))
    exact ⟨rfl, ⟨h.low, .inr rfl, q.1, q.2, h.ne⟩, (Below.refl B w).setCell (p := ⟨b, 2, none⟩) h.low _, (Lib.OthersKept.refl _ _ w).setCell ⟨b, 2, none⟩ rfl _⟩
  · refine (prCopy_used b w (h.cell (k := 2) rfl)).mono ?_
    rintro e w' ⟨rfl, rfl⟩
    exact ⟨rfl, h, Below.refl B _, Lib.OthersKept.refl _ _ _⟩
set_option maxHeartbeats 2000000 in
set_option maxRecDepth 100000 in
theorem prWrite_any (B b : Nat) (nv av p v : Value) (l : List UInt8) (s : ByteArray) (w : World) (h : PrB w B b nv av p v l) (hlen : l.length + s.size ≤ 140737488355328) (hBw : B ≤ w.heap.size) :
    Calls Tryz.prog 34 #[.pointer (some ⟨b, 2, none⟩), .string s] w fun e w' => e = .returned (.tuple #[.int .i64 s.size, .nilIface]) ∧ ∃ v', PrB w' B b nv av (.pointer (some ⟨b, 2, none⟩)) v' (l ++ s.data.toList) ∧ PrW w w' B b := by
  obtain ⟨i0, hi, hz0, hz1, hz2⟩ := info_parts (by kernel_rfl : (Tryz.prog.info? 5).map (fun i => (i.zero, i.size, i.bytes)) = some (some (.int .u8 0), 1, 1))
  have CC : Hid (∀ w, PrB w B b nv av p v l → Calls Tryz.prog 53 #[.pointer (some ⟨b, 2, none⟩)] w fun e w' => e = .returned (.tuple #[]) ∧ PrB w' B b nv av (.pointer (some ⟨b, 2, none⟩)) v l ∧ Below B w w' ∧ Lib.OthersKept 5 (some b) w w') := prCopy_any B b nv av p v l
  have HP : Hid (PrB w B b nv av p v l) := h
  clear h
  go_enter Tryz.func34, Tryz.ntmps34
  go_wp2_with fail
  refine (CC.out _ HP.out).mono ?_
  rintro e w1 ⟨rfl, h1, hb1, hk1⟩
  have c0 : w1.cell? ⟨b, 2, none⟩ = some (.pointer (some ⟨b, 2, none⟩)) := h1.cell (k := 2) rfl
  have c1 : w1.cell? ⟨b, 3, none⟩ = some v := h1.cell (k := 3) rfl
  go_wp2_with (at_builtin; refine Lib.wpList_append_own_stringF _ rfl _ _ 42 9 rfl B 5 i0 (by kernel_rfl) (by kernel_rfl) hi hz0 hz1 hz2 _ _ _ rfl h1.own s rfl ?c3 ?c4 ?c5 ?_)
  case c3 => unfold maxLen; omega
  case c4 => omega
  case c5 => have := hb1.size; omega
  intro v' w2 hown' hgrow _
  have hb2 : w2.heap[b]? = some (.cells #[nv, av, .pointer (some ⟨b, 2, none⟩), v] 46 (0, 0)) := by
    rw [hgrow.block b h1.lt (fun e => h1.ne e.symm)]
    exact h1.at_
  have d0 : w2.cell? ⟨b, 2, none⟩ = some (.pointer (some ⟨b, 2, none⟩)) := by rw [Lib.cell_of_heap hb2]; rfl
  have d1 : w2.cell? ⟨b, 3, none⟩ = some v := by rw [Lib.cell_of_heap hb2]; rfl
  have f1 : w2.frozen? ⟨b, 3, none⟩ = false := Lib.frozen_of_heap hb2 3
  have hne : v'.ownBlock ≠ some b := Lib.ownBlock_neF hown' hb2 printer_ne5
  have hown2 : w2.ownsRowF B 5 1 v' (l ++ s.data.toList).length (Lib.byteCells (l ++ s.data.toList)) := by
    rw [Lib.byteCells_append, List.length_append]
    have e1 : s.data.toList.length = s.size := rfl
    rw [e1]
    exact hown'
  obtain ⟨ao, n', cap, rfl⟩ : ∃ ao n' cap, v' = .slice ao n' cap := by
    rcases hown'.2 with ⟨hv, _⟩ | ⟨g, cap, cur, fz, hv, _⟩
    · exact ⟨_, _, _, hv⟩
    · exact ⟨_, _, _, hv⟩
  go_wp2
  go_ret2
  refine ⟨rfl, .slice ao n' cap, ?_, (hb1.grown hgrow (by have := hb1.size; omega) (fun k hk => (h1.own.lt k hk).1)).setCell (p := ⟨b, 3, none⟩) h1.low _, (hk1.grown hgrow (Lib.ownsRowF_kind h1.own)).setCell ⟨b, 3, none⟩ rfl _⟩
  refine ⟨h1.low, .inr rfl, heap_setCell_same w2 b 3 _ _ _ hb2, ?_, hne⟩
  exact hown2.kept (row := some b) ⟨rfl, rfl, rfl, by simp [World.setCell], fun k _ hk => Below.heap_setCell _ _ _ _ (fun e => hk (by simp [e]))⟩ (Or.inr hne)
set_option maxHeartbeats 2000000 in
set_option maxRecDepth 100000 in
theorem prByte_any (B b : Nat) (nv av p v : Value) (l : List UInt8) (x : UInt8) (w : World) (h : PrB w B b nv av p v l) (hlen : l.length + 1 ≤ 140737488355328) (hBw : B ≤ w.heap.size) :
    Calls Tryz.prog 58 #[.pointer (some ⟨b, 2, none⟩), .int .u8 (x.toNat : Int)] w fun e w' => e = .returned .nilIface ∧ ∃ v', PrB w' B b nv av (.pointer (some ⟨b, 2, none⟩)) v' (l ++ [x]) ∧ PrW w w' B b := by
  obtain ⟨i0, hi, hz0, hz1, hz2⟩ := info_parts (by kernel_rfl : (Tryz.prog.info? 5).map (fun i => (i.zero, i.size, i.bytes)) = some (some (.int .u8 0), 1, 1))
  have CC : Hid (∀ w, PrB w B b nv av p v l → Calls Tryz.prog 53 #[.pointer (some ⟨b, 2, none⟩)] w fun e w' => e = .returned (.tuple #[]) ∧ PrB w' B b nv av (.pointer (some ⟨b, 2, none⟩)) v l ∧ Below B w w' ∧ Lib.OthersKept 5 (some b) w w') := prCopy_any B b nv av p v l
  have HP : Hid (PrB w B b nv av p v l) := h
  have hx : x.toNat < 256 := x.toNat_lt
  clear h
  go_enter Tryz.func58, Tryz.ntmps58
  go_wp2_with fail
  refine (CC.out _ HP.out).mono ?_
  rintro e w1 ⟨rfl, h1, hb1, hk1⟩
  have c0 : w1.cell? ⟨b, 2, none⟩ = some (.pointer (some ⟨b, 2, none⟩)) := h1.cell (k := 2) rfl
  have c1 : w1.cell? ⟨b, 3, none⟩ = some v := h1.cell (k := 3) rfl
  have hbz : B ≤ w1.heap.size := Nat.le_trans hBw hb1.size
  go_wp2_with (at_builtin; refine wpList_append_ownF _ rfl _ _ 42 rfl B 5 i0 (.int .u8 0) 1 1 (by kernel_rfl) hi hz0 hz1 hz2 rfl (by decide) _ _ _ rfl (h1.own.alloc _) ⟨w1.heap.size, 0, none⟩ 1 1 [.int .u8 (x.toNat : Int)] rfl rfl ?c1 ?c2 ?c3 ?c4 ?c5 ?_)
  case c1 =>
    intro j u hj
    match j with
    | 0 => simp at hj; subst hj; simp [Addr.add]
    | j + 1 => simp at hj
  case c2 => intro u hu; simp at hu; subst hu; rfl
  case c3 => unfold maxLen; omega
  case c4 => omega
  case c5 => simp; omega
  intro v' w2 hown' hgrow _
  have hb2 : w2.heap[b]? = some (.cells #[nv, av, .pointer (some ⟨b, 2, none⟩), v] 46 (0, 0)) := by
    rw [hgrow.block b (by simp; have := h1.lt; omega) (fun e => h1.ne e.symm)]
    exact (((Gr.refl w1).alloc _).below.block b h1.lt).trans h1.at_
  have d0 : w2.cell? ⟨b, 2, none⟩ = some (.pointer (some ⟨b, 2, none⟩)) := by rw [Lib.cell_of_heap hb2]; rfl
  have d1 : w2.cell? ⟨b, 3, none⟩ = some v := by rw [Lib.cell_of_heap hb2]; rfl
  have f1 : w2.frozen? ⟨b, 3, none⟩ = false := Lib.frozen_of_heap hb2 3
  have hne : v'.ownBlock ≠ some b := Lib.ownBlock_neF hown' hb2 printer_ne5
  have hown2 : w2.ownsRowF B 5 1 v' (l ++ [x]).length (Lib.byteCells (l ++ [x])) := by
    rw [Lib.byteCells_append, List.length_append]
    exact hown'
  obtain ⟨ao, n', cap, rfl⟩ : ∃ ao n' cap, v' = .slice ao n' cap := by
    rcases hown'.2 with ⟨hv, _⟩ | ⟨g, cap, cur, fz, hv, _⟩
    · exact ⟨_, _, _, hv⟩
    · exact ⟨_, _, _, hv⟩
  go_wp2
  go_ret
  refine ⟨rfl, .slice ao n' cap, ?_, (((hb1.alloc hbz _).grown hgrow (by simp; omega) (fun k hk => (h1.own.lt k hk).1)).setCell (p := ⟨b, 3, none⟩) h1.low _), ((hk1.alloc _).grown hgrow (Lib.ownsRowF_kind (h1.own.alloc _))).setCell ⟨b, 3, none⟩ rfl _⟩
  refine ⟨h1.low, .inr rfl, heap_setCell_same w2 b 3 _ _ _ hb2, ?_, hne⟩
  exact hown2.kept (row := some b) ⟨rfl, rfl, rfl, by simp [World.setCell], fun k _ hk => Below.heap_setCell _ _ _ _ (fun e => hk (by simp [e]))⟩ (Or.inr hne)

set_option maxHeartbeats 2000000 in
set_option maxRecDepth 100000 in
theorem prStr_none (B b : Nat) (w : World) (hB : B ≤ b) (h1 : w.cell? ⟨b, 3, none⟩ = some (.slice none 0 0)) :
    Calls Tryz.prog 13 #[.pointer (some ⟨b, 2, none⟩)] w fun e w' => e = .returned (.string ⟨#[]⟩) ∧ Hid (PrW w w' B b) := by
  have hUS : ∀ W q, (Builtin.unsafeString_ #[72, 3] 9 #[.pointer q, .int .i64 0]).run Tryz.prog W = .ok (.string .empty) W := fun W q => Lib.run_unsafeString_none W _ _ _ q
  have c1 : w.drew.cell? ⟨b, 3, none⟩ = some (.slice none 0 0) := h1
  have hSD : (Builtin.unsafeSliceData_ #[42] 72 #[.slice none 0 0]).run Tryz.prog w.drew = .ok (.pointer none) w.drew := rfl
  have hmix : Tryz.prog.follows .mixedOrders = true := by kernel_rfl
  go_enter Tryz.func13, Tryz.ntmps13
  go_wp2
  go_region_o
  all_goals (go_wp2; go_ret; exact ⟨rfl, Below.drew (Below.refl B w), (Lib.OthersKept.refl _ _ w).drew⟩)
set_option maxHeartbeats 2000000 in
set_option maxRecDepth 100000 in
theorem prStr_room (B b g cap : Nat) (w : World) (hB : B ≤ b) (hc : cap ≠ 0) (h1 : w.cell? ⟨b, 3, none⟩ = some (.slice (some ⟨g, 0, none⟩) 0 cap)) :
    Calls Tryz.prog 13 #[.pointer (some ⟨b, 2, none⟩)] w fun e w' => e = .returned (.string ⟨#[]⟩) ∧ Hid (PrW w w' B b) := by
  have hUS : ∀ W q, (Builtin.unsafeString_ #[72, 3] 9 #[.pointer q, .int .i64 0]).run Tryz.prog W = .ok (.string .empty) W := fun W q => Lib.run_unsafeString_none W _ _ _ q
  have c1 : w.drew.cell? ⟨b, 3, none⟩ = some (.slice (some ⟨g, 0, none⟩) 0 cap) := h1
  have hSD : (Builtin.unsafeSliceData_ #[42] 72 #[.slice (some ⟨g, 0, none⟩) 0 cap]).run Tryz.prog w.drew = .ok (.pointer (some ⟨g, 0, none⟩)) w.drew := Lib.run_unsafeSliceData_row _ _ _ _ _ _ hc
  clear hc
  have hmix : Tryz.prog.follows .mixedOrders = true := by kernel_rfl
  go_enter Tryz.func13, Tryz.ntmps13
  go_wp2
  go_region_o
  all_goals (go_wp2; go_ret; exact ⟨rfl, Below.drew (Below.refl B w), (Lib.OthersKept.refl _ _ w).drew⟩)
set_option maxHeartbeats 2000000 in
set_option maxRecDepth 100000 in
theorem prStr_noroom (B b g : Nat) (w : World) (hB : B ≤ b) (hBw : B ≤ w.heap.size) (hlt : b < w.heap.size) (cur : Array Value) (fz : Nat × Nat) (hg : w.heap[g]? = some (.cells cur 5 fz)) (h1 : w.cell? ⟨b, 3, none⟩ = some (.slice (some ⟨g, 0, none⟩) 0 0)) :
    Calls Tryz.prog 13 #[.pointer (some ⟨b, 2, none⟩)] w fun e w' => e = .returned (.string ⟨#[]⟩) ∧ Hid (PrW w w' B b) := by
  have hUS : ∀ W q, (Builtin.unsafeString_ #[72, 3] 9 #[.pointer q, .int .i64 0]).run Tryz.prog W = .ok (.string .empty) W := fun W q => Lib.run_unsafeString_none W _ _ _ q
  have c1 : w.drew.cell? ⟨b, 3, none⟩ = some (.slice (some ⟨g, 0, none⟩) 0 0) := h1
  have hSD : (Builtin.unsafeSliceData_ #[42] 72 #[.slice (some ⟨g, 0, none⟩) 0 0]).run Tryz.prog w.drew = .ok (.pointer (some ⟨w.drew.heap.size, 0, none⟩)) (w.drew.alloc (.view ⟨g, 0, none⟩ 5)) :=
    Lib.run_unsafeSliceData_zero w.drew _ _ 5 (by kernel_rfl) ⟨g, 0, none⟩ 0 (5, cur.size) (by have hg' : w.drew.heap[g]? = some (.cells cur 5 fz) := hg; simp [World.shape?, hg'])
  have c2 : (w.drew.alloc (.view ⟨g, 0, none⟩ 5)).cell? ⟨b, 3, none⟩ = some (.slice (some ⟨g, 0, none⟩) 0 0) := by
    rw [← h1]
    exact (((Gr.refl w).drew).alloc _).below.cell (p := ⟨b, 3, none⟩) hlt
  have c3 : (w.alloc (.view ⟨g, 0, none⟩ 5)).drew.cell? ⟨b, 3, none⟩ = some (.slice (some ⟨g, 0, none⟩) 0 0) := c2
  have hmix : Tryz.prog.follows .mixedOrders = true := by kernel_rfl
  go_enter Tryz.func13, Tryz.ntmps13
  go_wp2
  go_region_o
  all_goals (go_wp2; go_ret; exact ⟨rfl, (Below.drew (Below.refl B w)).alloc hBw _, ((Lib.OthersKept.refl _ _ w).drew).alloc _⟩)
set_option maxHeartbeats 2000000 in
set_option maxRecDepth 100000 in
theorem prStr_some (B b g cap : Nat) (l : List UInt8) (w : World) (hB : B ≤ b) (h0 : l ≠ []) (cur : Array Value) (fz : Nat × Nat) (hg : w.heap[g]? = some (.cells cur 5 fz)) (hBg : B ≤ g) (hc : l.length ≤ cap) (hcm : cap ≤ maxLen) (hcs : cur.size = cap * 1) (hcell : ∀ (j : Nat) x, l[j]? = some x → w.cell? ((⟨g, 0, none⟩ : Addr).add j) = some (.int .u8 x.toNat)) (h1 : w.cell? ⟨b, 3, none⟩ = some (.slice (some ⟨g, 0, none⟩) l.length cap)) :
    Calls Tryz.prog 13 #[.pointer (some ⟨b, 2, none⟩)] w fun e w' => e = .returned (.string ⟨l.toArray⟩) ∧ Hid (PrW w w' B b) := by
  have hl0 : l.length ≠ 0 := by simpa using h0
  have c1 : w.drew.cell? ⟨b, 3, none⟩ = some (.slice (some ⟨g, 0, none⟩) l.length cap) := h1
  have hSD : (Builtin.unsafeSliceData_ #[42] 72 #[.slice (some ⟨g, 0, none⟩) l.length cap]).run Tryz.prog w.drew = .ok (.pointer (some ⟨g, 0, none⟩)) w.drew := Lib.run_unsafeSliceData_row _ _ _ _ _ _ (by omega)
  have hUS : (Builtin.unsafeString_ #[72, 3] 9 #[.pointer (some ⟨g, 0, none⟩), .int .i64 l.length]).run Tryz.prog w.drew = .ok (.string ⟨l.toArray⟩) (w.drew.freeze ⟨g, 0, none⟩ l.length) :=
    Lib.run_unsafeString_row w.drew 72 3 9 5 (by kernel_rfl) (by kernel_rfl) g cur.size (by have hg' : w.drew.heap[g]? = some (.cells cur 5 fz) := hg; simp [World.shape?, hg']) l h0 (by omega) (by unfold maxLen at hcm; omega) hcell
  clear hcell hc hcm hcs hl0
  have hmix : Tryz.prog.follows .mixedOrders = true := by kernel_rfl
  go_enter Tryz.func13, Tryz.ntmps13
  go_wp2
  go_region_o
  all_goals (go_wp2; go_ret; exact ⟨rfl, Lib.below_freeze (Below.drew (Below.refl B w)) (p := ⟨g, 0, none⟩) hBg _, ((Lib.OthersKept.refl _ _ w).drew).freeze ⟨g, 0, none⟩ _ ⟨cur, fz, hg⟩⟩)
theorem prStr_any (B b : Nat) (nv av p v : Value) (l : List UInt8) (w : World) (h : PrB w B b nv av p v l) (hBw : B ≤ w.heap.size) :
    Calls Tryz.prog 13 #[.pointer (some ⟨b, 2, none⟩)] w fun e w' => e = .returned (.string ⟨l.toArray⟩) ∧ Hid (PrW w w' B b) := by
  have h1 : w.cell? ⟨b, 3, none⟩ = some v := h.cell (k := 3) rfl
  rcases h.own.2 with ⟨rfl, hz⟩ | ⟨q, cap, cur, fz, rfl, hBg, hg, hfz, hnc, hcm, hcs, htake⟩
  · obtain rfl : l = [] := List.eq_nil_of_length_eq_zero hz
    exact prStr_none B b w h.low h1
  · by_cases h0 : l = []
    · subst h0
      by_cases hc : cap = 0
      · subst hc
        exact prStr_noroom B b q w h.low hBw h.lt cur fz hg h1
      · exact prStr_room B b q cap w h.low hc h1
    · exact prStr_some B b q cap l w h.low h0 cur fz hg hBg hnc hcm hcs (fun j x hx => h.own.cells (g := q) rfl j (.int .u8 x.toNat) (by simp [Lib.byteCells, hx])) h1

end Go.Proofs.YtnkebfmlaliddaaGreatDoor
