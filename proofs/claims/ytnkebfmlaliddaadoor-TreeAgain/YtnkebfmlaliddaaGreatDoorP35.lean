/-
  TreePrints, walked; the table of tens out of what is laid.
-/
import Derived.Test.YtnkebfmlaliddaaGreatDoorP34
import Derived.Test.YtnkebfmlaliddaaGreatDoorP30
namespace Go.Proofs.YtnkebfmlaliddaaGreatDoor
open Go.ChangeShapes Go.WideShapes Go.RowKit
set_option linter.unusedVariables false

set_option maxRecDepth 100000 in
theorem ttens_of {W : World} (h0 : laidMetH Tryz.prog laids W) : TensAt W ∧ 9 < W.heap.size := by
  obtain ⟨hd0, hh⟩ := laidMetH_iff.1 h0
  obtain ⟨ps, hl, hnd, hall⟩ := hd0
  obtain ⟨g, t, cs, fuel, p, a1, a2, a3, a4, a5⟩ := laid_mem hl (lay 2) (lay_in 2 (by kernel_rfl) (by kernel_rfl))
  have hg : Tryz.prog.globalNamed (lay 2).1 = some 9 := by kernel_rfl
  have ht : (Tryz.prog.globals[9]?).map (·.type) = some 194 := by kernel_rfl
  obtain rfl := Option.some.inj (hg.symm.trans a1)
  obtain rfl := Option.some.inj (ht.symm.trans a2)
  have hd : (lay 2).2 = .agg (Lib.pow10Tab.map fun z => .lit (.int .u64 z)) := by kernel_rfl
  rw [hd] at a4
  have key := Lib.cells_of_tab (P := Tryz.prog) Tryz.underlying194 Tryz.underlying168 (by kernel_rfl) (by kernel_rfl) a4
  have hv : W.var? Tryz.prog (lay 2).1 = some (Lib.pow10Tab.map fun z => Value.int .u64 z).toArray := by
    rw [a3, ← key]
  refine ⟨⟨(lay 2).1, hg, hv⟩, ?_⟩
  have c := World.var?_cell hg a3 0
  refine World.block_lt_of_cell? W ⟨9, 0, none⟩ (u := .int .u64 1) ?_
  rw [c, ← Array.getElem?_toList, key]
  rfl
theorem kn_lt {W : World} (h : Kn W) : 0 < W.heap.size := World.block_lt_of_cell? W ⟨0, 0, none⟩ (h 0 (by decide))
theorem prR_form (r : Except (Nat × Nat) (List Nd)) : ∃ (T : ByteArray) (c p : Nat), PrR r = .tuple #[.string T, .int .i64 (c : Int), .int .i64 (p : Int)] := by
  cases r with
  | error q => obtain ⟨c, p⟩ := q; exact ⟨_, c, p, rfl⟩
  | ok L => exact ⟨_, 0, 0, rfl⟩
set_option maxRecDepth 100000 in
set_option maxHeartbeats 4000000 in
theorem prints_walk (s : ByteArray) (E : Nat → Addr) (w : World) (hG : Glo w E) (hA : Apart w E) (hT : ErT w) (hTe : TensAt w) (htg : 9 < w.heap.size) :
    Calls Tryz.prog 3 #[.string s] w fun e w' => e = .returned (.bool true) ∧ Below w.heap.size w w' := by
  obtain ⟨T, c, p, hR⟩ := prR_form (parse s)
  have P1 : Hid (Calls Tryz.prog 5 #[.string s] w fun e w' => e = .returned (.tuple #[.string T, .int .i64 (c : Int), .int .i64 (p : Int)]) ∧ Hid (Below w.heap.size w w')) := by
    rw [← hR]
    exact tprint_any s E w hG hA hT hTe htg (kn_lt hG.kn)
  have P2 : Hid (∀ u, Calls Tryz.prog 6 #[.string s] u fun e w' => e = .returned (.tuple #[.string T, .int .i64 (c : Int), .int .i64 (p : Int)]) ∧ Hid (Below u.heap.size u w')) := fun u => by
    rw [← hR]
    exact rprint_any s u
  have hmix : Tryz.prog.follows .mixedOrders = true := by kernel_rfl
  clear hG hA hT hTe hR htg
  go_enter Tryz.func3, Tryz.ntmps3
  go_wp2_with fail
  refine P1.out.mono ?_
  rintro e w1 ⟨rfl, HB1⟩
  go_wp2_with fail
  refine (P2.out _).mono ?_
  rintro e w2 ⟨rfl, HB2⟩
  have HB : Hid (Below w.heap.size w w2) := HB1.out.trans (HB2.out.mono HB1.out.size)
  clear HB1 HB2
  go_wp2_with (go_at_call 7; refine (num_any _ _).mono ?_; rintro e w3 ⟨rfl, hw⟩; obtain rfl := hw.symm)
  go_ret
  exact ⟨rfl, HB.out⟩

end Go.Proofs.YtnkebfmlaliddaaGreatDoor
