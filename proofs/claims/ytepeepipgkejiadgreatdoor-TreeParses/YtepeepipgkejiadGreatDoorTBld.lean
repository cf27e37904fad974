/-
  The program's reader: a builder beside it; readEscaped at the text's end.
-/
import Derived.Test.YtepeepipgkejiadGreatDoorTRc
import Derived.Test.YtepeepipgkejiadGreatDoorTShelf
namespace Go.Proofs.YtepeepipgkejiadGreatDoor
open Go.RowKit
set_option linter.unusedVariables false

theorem built_grown {T e : TypeId} {B b rb : Nat} {p : Value} {bs : List Value} {w w' : World} (h : Lib.BuilderAtF T e B b p bs w) (hg : w.grownBy w' (some rb)) (hr : rb < B) : Lib.BuilderAtF T e B b p bs w' := by
  obtain ⟨hB, v, hb, hown, hne⟩ := h
  have lt : ∀ {k o}, w.heap[k]? = some o → k < w.heap.size := fun {k o} hk => (Array.getElem?_eq_some_iff.1 hk).1
  refine ⟨hB, v, (hg.block b (lt hb) (by simp; omega)).trans hb, ⟨hown.1, ?_⟩, hne⟩
  rcases hown.2 with hn | ⟨g, cap, cur, fz, hv, hbg, hgg, rest⟩
  · exact .inl hn
  · exact .inr ⟨g, cap, cur, fz, hv, hbg, (hg.block g (lt hgg) (by simp; omega)).trans hgg, rest⟩
theorem isBuilt_grown {T e : TypeId} {B b rb : Nat} {bs : List Value} {w w' : World} (h : Lib.IsBuilderF T e B b bs w) (hg : w.grownBy w' (some rb)) (hr : rb < B) : Lib.IsBuilderF T e B b bs w' :=
  h.elim (fun x => .inl (built_grown x hg hr)) (fun x => .inr (built_grown x hg hr))
theorem PR.belowB {W W' : World} {rb B : Nat} {s : ByteArray} {i : Nat} {av nv fv : Value} (h : PR W rb s i av nv fv) (hb : Below B W W') (hr : rb < B) : PR W' rb s i av nv fv :=
  have k : ∀ j v, W.cell? ⟨rb, j, none⟩ = some v → W'.cell? ⟨rb, j, none⟩ = some v := fun j v e => (hb.cell (p := ⟨rb, j, none⟩) hr).trans e
  ⟨Nat.lt_of_lt_of_le h.lt hb.size, k _ _ h.c0, k _ _ h.c1, k _ _ h.c2, k _ _ h.c3, k _ _ h.c4, fun j => (hb.frozen (p := ⟨rb, j, none⟩) hr).trans (h.fz j)⟩

set_option maxRecDepth 100000 in
set_option maxHeartbeats 2000000 in
theorem readEscaped_end (rb : Nat) (s : ByteArray) (i : Nat) (av nv fv : Value) (eb : Addr) (w : World) (h : PR w rb s i av nv fv) (hi : i = s.size) (he : w.cell? ⟨8, 0, none⟩ = some (errV eb)) :
    Calls Tryz.prog 93 #[.pointer (some ⟨rb, 0, none⟩)] w fun e w' => e = .panicked [{ v := faultV (i : Int) (errV eb), recovered := false }] ∧ w.grownBy w' (some rb) := by
  have CB : Hid (Calls Tryz.prog 92 #[.pointer (some ⟨rb, 0, none⟩)] w fun e w' => e = .panicked [{ v := faultV (i : Int) (errV eb), recovered := false }] ∧ w.grownBy w' (some rb)) := readByte_no rb s i av nv fv eb w h hi he
  clear h he hi
  go_enter Tryz.func93, Tryz.ntmps93
  go_wp2_with fail
  refine CB.out.mono ?_
  rintro e w1 ⟨rfl, g1⟩
  exact ⟨rfl, rfl, g1⟩

end Go.Proofs.YtepeepipgkejiadGreatDoor
