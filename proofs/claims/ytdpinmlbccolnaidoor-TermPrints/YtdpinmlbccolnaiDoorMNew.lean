/-
  New, Cells, Cursor, Style of a terminal.
-/
import Derived.Test.YtdpinmlbccolnaiDoorMWr
import Derived.Test.YtdpinmlbccolnaiDoorCClo
namespace Go.Proofs.YtdpinmlbccolnaiDoor
open Go.RowKit Go.Sort
set_option linter.unusedVariables false

/-- A new terminal. -/
def tm0 (W H : Nat) : Tm := ⟨W, H, fun _ _ => bk 0 0 0, ⟨0, 0, 0, 0, 0, 0, 0, ⟨#[]⟩, 0, 0⟩⟩
theorem ti0 (W H : Nat) (hH : 1 ≤ H) : Ti (tm0 W H) := ⟨by show (0 : Int) ≤ 0; decide, by show (0 : Int) ≤ (W : Int); omega, by show (0 : Int) ≤ 0; decide, by show (0 : Int) < (H : Int); omega, by show (0 : Int) ≤ 0; decide, by show (0 : Int) ≤ 4; decide, by show ((⟨#[]⟩ : ByteArray).size : Int) ≤ 4 + 4 * 0; decide⟩

set_option maxRecDepth 100000 in
theorem tnew_bad (W H : Int) (w : World) (h : ¬ ((1 ≤ W ∧ W ≤ 400) ∧ (1 ≤ H ∧ H ≤ 400))) : Calls Tryd.prog 26 #[.int .i64 W, .int .i64 H] w fun e w' => e = .returned (.tuple #[.pointer none, .int .i64 6]) ∧ w' = w := by
  have NB : Hid (Calls Tryd.prog 40 #[.int .i64 W, .int .i64 H] w fun e w' => e = .returned (.tuple #[.pointer none, .int .i64 6]) ∧ w' = w) := new_bad W H w h
  clear h
  go_enter Tryd.func26, Tryd.ntmps26
  go_wp2_with fail
  refine NB.out.mono ?_
  rintro e w1 ⟨rfl, hw⟩
  obtain rfl := hw.symm
  go_wp2
  refine bodyPost_ret (v := .tuple #[.pointer none, .int .i64 6]) (by simp [results, Tryd.results26, go_sem]) rfl ?_
  exact ⟨rfl, rfl⟩

set_option maxRecDepth 100000 in
set_option maxHeartbeats 2000000 in
theorem tnew_ok (W H : Nat) (w : World) (hW : 1 ≤ W ∧ W ≤ 400) (hH : 1 ≤ H ∧ H ≤ 400) (hp : PAll W H (fun _ _ => bk 0 0 0)) : Calls Tryd.prog 26 #[.int .i64 W, .int .i64 H] w fun e w' => ∃ T K M, e = .returned (.tuple #[.pointer (some ⟨T, 0, none⟩), .int .i64 0]) ∧ TM w' T K M (W * H) (tm0 W H) (fnV 41 #[]) ∧ w.heap.size ≤ T ∧ w.heap.size ≤ K ∧ w.heap.size ≤ M ∧ Below w.heap.size w w' := by
  have NO : Hid (Calls Tryd.prog 40 #[.int .i64 W, .int .i64 H] w fun e w' => ∃ K M, e = .returned (.tuple #[.pointer (some ⟨K, 0, none⟩), .int .i64 0]) ∧ CS 105 36 w' K M (W * H) W H (fun _ _ => bk 0 0 0) ∧ w.heap.size ≤ K ∧ w.heap.size ≤ M ∧ Below w.heap.size w w') := new_ok W H w hW hH
  go_enter Tryd.func26, Tryd.ntmps26
  go_wp2_with fail
  refine NO.out.mono ?_
  rintro e w1 ⟨K, M, rfl, hcs, hk, hm, b1⟩
  have HD : Hid (TM (w1.alloc (.cells (tmc K (tm0 W H).r (fnV 41 #[])) 73)) w1.heap.size K M (W * H) (tm0 W H) (fnV 41 #[]) ∧ w.heap.size ≤ w1.heap.size ∧ w.heap.size ≤ K ∧ w.heap.size ≤ M ∧ Below w.heap.size w (w1.alloc (.cells (tmc K (tm0 W H).r (fnV 41 #[])) 73))) :=
    ⟨⟨heap_alloc_new _ _, hcs.gr ((Gr.refl _).alloc _), by have := hcs.klt; omega, by have := hcs.cv.lt; omega, hW, hH, hp⟩, b1.size, hk, hm, b1.alloc b1.size _⟩
  clear hcs hk hm b1
  go_wp2
  refine bodyPost_ret (v := .tuple #[.pointer (some ⟨w1.heap.size, 0, none⟩), .int .i64 0]) (by simp [results, Tryd.results26, go_sem]) rfl ?_
  exact ⟨_, K, M, rfl, HD.out.1, HD.out.2.1, HD.out.2.2.1, HD.out.2.2.2.1, HD.out.2.2.2.2⟩

section
variable {T K M cap : Nat} {s : Tm} {nv : Value}
set_option maxRecDepth 100000 in
theorem tcells_any (w : World) (h : TM w T K M cap s nv) : Calls Tryd.prog 11 #[.pointer (some ⟨T, 0, none⟩)] w fun e w' => ∃ N cap', e = .returned (.slice (some ⟨N, 0, none⟩) (s.W * s.H) cap') ∧ Cv 36 w' N s.W s.H s.c ∧ w.heap.size ≤ N ∧ Below w.heap.size w w' := by
  have c0 : w.cell? ⟨T, 0, none⟩ = some (.pointer (some ⟨K, 0, none⟩)) := h.at rfl
  have CC : Hid (Calls Tryd.prog 28 #[.pointer (some ⟨K, 0, none⟩)] w fun e w' => ∃ N cap', e = .returned (.slice (some ⟨N, 0, none⟩) (s.W * s.H) cap') ∧ Cv 36 w' N s.W s.H s.c ∧ w.heap.size ≤ N ∧ Below w.heap.size w w') := cells_any w h.cs h.hW h.hH
  clear h
  go_enter Tryd.func11, Tryd.ntmps11
  go_wp2_with fail
  refine CC.out.mono ?_
  rintro e w1 ⟨N, cp, rfl, q⟩
  have HQ : Hid (Cv 36 w1 N s.W s.H s.c ∧ w.heap.size ≤ N ∧ Below w.heap.size w w1) := q
  clear q
  go_wp2
  go_ret
  exact ⟨N, cp, rfl, HQ.out.1, HQ.out.2.1, HQ.out.2.2⟩

set_option maxRecDepth 100000 in
theorem cursor_any (w : World) (h : TM w T K M cap s nv) : Calls Tryd.prog 12 #[.pointer (some ⟨T, 0, none⟩)] w fun e w' => e = .returned (.tuple #[.int .i64 s.r.x, .int .i64 s.r.y]) ∧ Gr w w' := by
  have hmix : Tryd.prog.follows .mixedOrders = true := by kernel_rfl
  have c1 : w.cell? ⟨T, 1, none⟩ = some (.int .i64 s.r.x) := h.at rfl
  have c2 : w.cell? ⟨T, 2, none⟩ = some (.int .i64 s.r.y) := h.at rfl
  clear h
  go_enter Tryd.func12, Tryd.ntmps12
  go_wp2_with fail
  go_quiet (fail)
  go_wp2
  refine bodyPost_ret (v := .tuple #[.int .i64 s.r.x, .int .i64 s.r.y]) (by simp [results, Tryd.results12, go_sem]) rfl ?_
  exact ⟨rfl, (Gr.refl _).drewN _⟩
end

end Go.Proofs.YtdpinmlbccolnaiDoor
