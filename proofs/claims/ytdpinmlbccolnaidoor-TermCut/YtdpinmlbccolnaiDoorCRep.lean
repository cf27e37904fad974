/-
  slices.Repeat of one cell; New.
-/
import Derived.Test.YtdpinmlbccolnaiDoorCCopy
import Derived.Test.YtdpinmlbccolnaiDoorCShelf
import Derived.Test.YtdpinmlbccolnaiDoorCBl
import Derived.Laws.MakeOwn
import Derived.OwnWalk
import Derived.Deep.RegionLaw
namespace Go.Proofs.YtdpinmlbccolnaiDoor
open Go.RowKit Go.Sort
set_option linter.unusedVariables false

theorem infoC : (Tryd.prog.info? 36).map (fun i => (i.zero, i.size, i.bytes)) = some (some (.agg #[.string ⟨#[]⟩, .int .i64 0, .int .i64 0, .int .i64 0, .int .i64 0]), 5, 48) := by kernel_rfl
theorem sizeC : (Tryd.prog.info? 36).map (·.size) = some 5 := by kernel_rfl

set_option maxRecDepth 100000 in
set_option maxHeartbeats 4000000 in
theorem repeat_any (w : World) (e : Ce) (B N : Nat) (hN : 1 ≤ N ∧ N ≤ 160000) (hB : B < w.heap.size) (hc : ∀ (k : Nat) u, (c5 e)[k]? = some u → w.cell? ⟨B, k, none⟩ = some u) :
    Calls Tryd.prog 35 #[.slice (some ⟨B, 0, none⟩) 1 1, .int .i64 N] w fun r w' => r = .returned (.slice (some ⟨w.heap.size, 0, none⟩) N N) ∧ (∃ L, w'.heap[w.heap.size]? = some (.cells L.toArray 36 (0, 0)) ∧ Fl L N N e) ∧ Below w.heap.size w w' := by
  have MU : Hid (∀ w, Calls Tryd.prog 52 #[.int .u64 1, .int .u64 N] w fun r w' => r = .returned (.tuple #[.int .u64 0, .int .u64 N]) ∧ w' = w) := fun w => by
    have := mul_lib 1 N (by omega) (by omega) w
    rw [show 1 * N / 18446744073709551616 = 0 by omega, show 1 * N % 18446744073709551616 = N by omega] at this
    exact this
  obtain ⟨i0, hi, hz0, hz1, hz2⟩ := info_parts infoC
  obtain ⟨Z0, hZl, hmk⟩ : ∃ Z0 : List Value, Hid (Z0.length = N * 5) ∧ ∀ W : World, (Instr.makeSlice 28 (.int .i64 (N : Int)) (.int .i64 (N : Int))).run Tryd.prog W = .ok (.slice (some ⟨W.heap.size, 0, none⟩) N N) (W.alloc (.cells Z0.toArray 36)) := by
    refine ⟨(madeCells (Value.agg #[.string ⟨#[]⟩, .int .i64 0, .int .i64 0, .int .i64 0, .int .i64 0]).cells (N * 5)).toList, (by show _ = _; rw [Array.length_toList, size_madeCells] : _), fun W => ?_⟩
    have := run_make (P := Tryd.prog) W 28 36 i0 _ Tryd.underlying28 hi hz0 .i64 .i64 N N (by omega) (Int.le_refl _) (by rw [hz2]; omega) (by omega)
    rw [hz1, Int.toNat_natCast] at this
    rw [Array.toArray_toList]
    exact this
  have HC : Hid (∀ (k : Nat) u, (c5 e)[k]? = some u → w.cell? ⟨B, k, none⟩ = some u) := hc
  have HB : Hid (B < w.heap.size) := hB
  clear hc hB hi hz0 hz1 hz2
  have nN : ¬ (N : Int) < 0 := by omega
  obtain ⟨S, hS⟩ : ∃ z, w.heap.size = z := ⟨_, rfl⟩
  have HS : Hid (w.heap.size = S) := hS
  go_enter Tryd.func35, Tryd.ntmps35
  have nb : decide (9223372036854775807 < (N : Int)) = false := decide_eq_false (by omega)
  have HSRC : Hid (∀ (j : Nat) v, (c5 e)[j]? = some v → (w.alloc (.cells Z0.toArray 36)).cell? ((⟨B, 0, none⟩ : Addr).add j) = some v) := fun j v hv => by
    have ea : (⟨B, 0, none⟩ : Addr).add j = ⟨B, j, none⟩ := by unfold Addr.add; split <;> simp_all
    rw [ea]
    exact (World.cell?_of_block (a := ⟨B, j, none⟩) (((Gr.refl w).alloc _).block HB.out)).trans (HC.out j v hv)
  have HNEW : Hid ((w.alloc (.cells Z0.toArray 36)).heap[S]? = some (.cells Z0.toArray 36 (0, 0))) := by rw [← hS]; exact heap_alloc_new _ _
  have HBEL : Hid (Below S w (w.alloc (.cells Z0.toArray 36))) := by rw [← hS]; exact ((Gr.refl w).alloc _).below
  have h1c : ∀ v ∈ c5 e, v.oneCell' = true := by intro v hv; simp [c5] at hv; rcases hv with rfl | rfl | rfl | rfl | rfl <;> rfl
  have H1C : Hid (∀ v ∈ c5 e, v.oneCell' = true) := h1c
  have HF : Hid (0 + (c5 e).length ≤ Z0.length) := (by rw [hZl.out, c5_len]; omega : 0 + (c5 e).length ≤ Z0.length)
  clear h1c
  obtain ⟨w2, hcp, hg2, hb2⟩ : ∃ w2, (Builtin.copy_ #[28, 28] 3 #[.slice (some ⟨S, 0, none⟩) N N, .slice (some ⟨B, 0, none⟩) 1 1]).run Tryd.prog (w.alloc (.cells Z0.toArray 36)) = .ok (goInt 1) w2 ∧ Hid (w2.heap[S]? = some (.cells (splice Z0 0 (c5 e)).toArray 36 (0, 0))) ∧ Hid (Below S w w2) :=
    ⟨_, run_copy_sz (P := Tryd.prog) (w.alloc (.cells Z0.toArray 36)) 28 28 3 36 5 S 0 N N ⟨B, 0, none⟩ 1 1 Z0 36 (c5 e) 1 Tryd.underlying28 sizeC HNEW.out (by show 1 = min 1 N; omega) rfl HSRC.out HF.out H1C.out, setRow_heap _ S _ _ 36 _ HNEW.out, below_setRow HBEL.out (Nat.le_refl _) _⟩
  have HL : Hid (∃ L, w2.heap[S]? = some (.cells L.toArray 36 (0, 0)) ∧ Fl L N 1 e) := ⟨_, hg2.out, Fl.first hZl.out hN.1⟩
  clear hg2
  go_wp2_with (first | (go_at_call 52; refine Calls.mono (MU.out _) ?_; rintro r w1 ⟨rfl, hw1⟩; obtain rfl := hw1.symm))
  clear hS hcp hmk
  go_loopw [8] (fun nv wr => ∃ m : Nat, 1 ≤ m ∧ m ≤ N ∧ nv = .int .i64 m ∧ Hid (∃ L, wr.heap[S]? = some (.cells L.toArray 36 (0, 0)) ∧ Fl L N m e) ∧ Hid (Below S w wr)) (fun nv _ => N - (intOf nv).toNat)
  case atStart => exact ⟨1, Nat.le_refl _, hN.1, rfl, HL, hb2⟩
  case round =>
    obtain ⟨m, hm1, hm2, rfl, HR, HBR⟩ := hrel
    by_cases hlt : m < N
    · obtain ⟨L, hL, hF⟩ := HR.out
      have HLL : Hid (wr.heap[S]? = some (.cells L.toArray 36 (0, 0))) := hL
      have HFF : Hid (Fl L N m e) := hF
      obtain ⟨cnt, hcnt⟩ : ∃ cnt, Nat.min m (N - m) = cnt := ⟨_, rfl⟩
      have hcn : cnt ≤ m ∧ cnt ≤ N - m ∧ 1 ≤ cnt := by have : min m (N - m) = cnt := hcnt; omega
      have HCN : Hid (cnt = Nat.min m (N - m)) := hcnt.symm
      have HTL : Hid ((L.take (cnt * 5)).length = cnt * 5) := (by rw [List.length_take, hF.1]; omega : (L.take (cnt * 5)).length = cnt * 5)
      have HSR : Hid (∀ (j : Nat) v, (L.take (cnt * 5))[j]? = some v → wr.drew.cell? ((⟨S, 0, none⟩ : Addr).add j) = some v) := fun j v hv => by
        have ea : (⟨S, 0, none⟩ : Addr).add j = ⟨S, j, none⟩ := by unfold Addr.add; split <;> simp_all
        rw [ea]
        rw [List.getElem?_take] at hv
        split at hv
        · show wr.cell? ⟨S, j, none⟩ = some v
          simp [World.cell?, hL, hv]
        · exact absurd hv (by simp)
      obtain ⟨cs, hcs⟩ : ∃ z, L.take (cnt * 5) = z := ⟨_, rfl⟩
      have HON : Hid (∀ v ∈ cs, v.oneCell' = true) := by rw [← hcs]; exact hF.one hcn.1
      have HFI : Hid (Fl (splice L (m * 5) cs) N (m + cnt) e) := by rw [← hcs]; exact hF.take hm2 hcn.1 (by omega)
      have HLE : Hid (m * 5 + cs.length ≤ L.length) := by rw [← hcs]; exact (by rw [HTL.out, hF.1]; omega : m * 5 + (L.take (cnt * 5)).length ≤ L.length)
      rw [hcs] at HTL HSR
      clear hcs hL hF HR hcnt HL hb2
      have hlt' : (m : Int) < (N : Int) := by omega
      have e1 : ¬ N = m := by omega
      have e2 : ¬ N - m = 0 := by omega
      obtain ⟨w4, hcp2, hg4, HB4⟩ : ∃ w4, (Builtin.copy_ #[28, 28] 3 #[.slice (some ⟨S, m * 5, none⟩) (N - m) (N - m), .slice (some ⟨S, 0, none⟩) m N]).run Tryd.prog wr.drew = .ok (.int .i64 (cnt : Int)) w4 ∧ Hid (w4.heap[S]? = some (.cells (splice L (m * 5) cs).toArray 36 (0, 0))) ∧ Hid (Below S w w4) :=
        ⟨_, run_copy_sz (P := Tryd.prog) wr.drew 28 28 3 36 5 S (m * 5) (N - m) (N - m) ⟨S, 0, none⟩ m N L 36 cs cnt Tryd.underlying28 sizeC HLL.out HCN.out HTL.out HSR.out HLE.out HON.out, setRow_heap _ S _ _ 36 _ HLL.out, below_setRow HBR.out.drew (Nat.le_refl _) _⟩
      have ww : IntKind.i64.wrap ((m : Int) + (cnt : Int)) = (m : Int) + (cnt : Int) := by rw [IntKind.wrap_i64]; omega
      go_wp2_with fail
      go_region
      all_goals
        go_wp2
        go_roundw
        case rel => exact ⟨m + cnt, by omega, by omega, by go_num, ⟨_, hg4.out, HFI.out⟩, HB4⟩
        case measure => simp [intOf]; omega
    · have hlt' : ¬ (m : Int) < (N : Int) := by omega
      obtain rfl : m = N := by omega
      go_wp2
      go_ret
      exact ⟨by rw [HS.out]; rfl, by rw [HS.out]; exact HR.out, by rw [HS.out]; exact HBR.out⟩
end Go.Proofs.YtdpinmlbccolnaiDoor
