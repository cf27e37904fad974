/-
  The walk of paneref.line.
-/
import Derived.Deep.RegionWith
import Derived.Deep.Cut
import Derived.Test.YtbjfckhijjjnkabDoorFRef
import Derived.Test.YtbjfckhijjjnkabDoorFLine
import Derived.Test.YtbjfckhijjjnkabDoorFProp
namespace Go.Proofs.YtbjfckhijjjnkabDoor
open Go.RowKit
set_option linter.unusedVariables false

/-- n of them from a on. -/
theorem cls_sub {w : World} {b off cap a n : Nat} {l : List (List UInt8 × Int)} (hn : a + n ≤ l.length) (hcap : l.length ≤ cap) (hb : b < w.heap.size) (hc : ∀ j (hj : j < l.length), w.cell? ⟨b, off + j * 2, none⟩ = some (.string ⟨(l[j]).1.toArray⟩) ∧ w.cell? ⟨b, off + j * 2 + 1, none⟩ = some (.int .i64 (l[j]).2)) :
    Cls w (.slice (if cap = a then some ⟨b, off, none⟩ else some ⟨b, off + a * 2, none⟩) n (cap - a)) ((l.drop a).take n) := by
  have hl : ((l.drop a).take n).length = n := by rw [List.length_take, List.length_drop]; omega
  refine ⟨_, _, by rw [hl], ?_⟩
  by_cases e : cap = a
  · left; exact List.length_eq_zero_iff.1 (by rw [hl]; omega)
  · right
    rw [if_neg e]
    refine ⟨b, off + a * 2, rfl, hb, fun j hj => ?_⟩
    rw [hl] at hj
    have := hc (a + j) (by omega)
    rw [List.getElem_take, List.getElem_drop, show off + a * 2 + j * 2 = off + (a + j) * 2 by omega]
    exact this

theorem results_line {fn : Func} {p u : Tmp} {ty : TypeId} (h : fn.results = #[.cell p ty, .tmp u]) (tmps : Array Value) (P : Program) (w : World) (g : Nat) (cs : Array Value)
    (hp : tmps.getD p undef = .pointer (some ⟨g, 0, none⟩)) (hl : (loadVar ty ⟨g, 0, none⟩).run P w = .ok (.agg cs) w) :
    (results fn tmps).run P w = .ok (.tuple #[.agg cs, tmps.getD u undef]) w := by
  rw [results_cell_tmp h, hp]
  simp [asAddr, hl]

set_option maxRecDepth 100000 in
set_option maxHeartbeats 8000000 in
theorem rline_some (l : List (List UInt8 × Int)) (b off cap a : Nat) (W : Int) (w : World) (hb : b < w.heap.size) (hcap : l.length ≤ cap) (hc : ∀ j (hj : j < l.length), w.cell? ⟨b, off + j * 2, none⟩ = some (.string ⟨(l[j]).1.toArray⟩) ∧ w.cell? ⟨b, off + j * 2 + 1, none⟩ = some (.int .i64 (l[j]).2))
    (ha : a ≤ l.length) (hbd : ∀ c ∈ l, 0 ≤ c.2 ∧ c.2 ≤ 2) (hsh : ∀ c ∈ l, c.1.length ≤ 20) (hlen : l.length ≤ 68719476736) (hW0 : 1 ≤ W) (hW1 : W ≤ 9223372036854775807) :
    Calls Tryd.prog 24 #[.slice (some ⟨b, off, none⟩) l.length cap, .int .i64 a, .int .i64 W] w fun e w' => e = .returned (.tuple #[.agg #[.string ⟨(lnAt l W a).T.toArray⟩, .int .i64 (lnAt l W a).W, .int .i64 (lnAt l W a).F, .int .i64 (lnAt l W a).N, .int .i64 (lnAt l W a).E], .int .i64 (nxt l W a)]) ∧ Below w.heap.size w w' := by
  have hr : ∀ c ∈ l.drop a, 0 ≤ c.2 ∧ c.2 ≤ 2 := fun c hc => hbd c (List.mem_of_mem_drop hc)
  have hle := fitN_le (l.drop a) W
  rw [List.length_drop] at hle
  have hfw := fit_wide (l.drop a) W hr hW0
  have HBD : Hid (∀ c ∈ l, 0 ≤ c.2 ∧ c.2 ≤ 2) := hbd
  have HSH : Hid (∀ c ∈ l, c.1.length ≤ 20) := hsh
  have HC : Hid (∀ w', Below w.heap.size w w' → ∀ j (hj : j < l.length), w'.cell? ⟨b, off + j * 2, none⟩ = some (.string ⟨(l[j]).1.toArray⟩) ∧ w'.cell? ⟨b, off + j * 2 + 1, none⟩ = some (.int .i64 (l[j]).2)) :=
    fun w' hw' j hj => ⟨(hw'.cell (p := ⟨b, off + j * 2, none⟩) hb).trans (hc j hj).1, (hw'.cell (p := ⟨b, off + j * 2 + 1, none⟩) hb).trans (hc j hj).2⟩
  obtain ⟨n, hn⟩ : ∃ n, fitN (l.drop a) W = n := ⟨_, rfl⟩
  have HLE : Hid (lnAt l W a = (if W < wideSum ((l.drop a).take (firstL (l.drop a) W).n) then ⟨List.replicate W.toNat 32, W, a, 1, (firstL (l.drop a) W).e⟩ else ⟨joined ((l.drop a).take (firstL (l.drop a) W).n), wideSum ((l.drop a).take (firstL (l.drop a) W).n), a, ((l.drop a).take (firstL (l.drop a) W).n).length, (firstL (l.drop a) W).e⟩)) := rfl
  have HNX : Hid (nxt l W a = a + (firstL (l.drop a) W).n + (firstL (l.drop a) W).d) := rfl
  have HFL : Hid (firstL (l.drop a) W = if n = l.length - a then ⟨n, 0, 3⟩
    else if tx l (a + n) = [10] then ⟨n, 1, 2⟩
    else if n = 0 then ⟨1, 0, 1⟩
    else if tx l (a + n) = [32] then ⟨n, 1, 0⟩
    else if 0 ≤ lastB (l.drop a) n then ⟨(lastB (l.drop a) n).toNat, 1, 0⟩
    else ⟨n, 0, 1⟩) := by show _ = _; unfold firstL; rw [hn, List.length_drop, tx_drop]
  rw [hn] at hle hfw
  -- the contracts of what is called
  obtain ⟨pp, hpp⟩ : ∃ pp, (if cap = a then some (⟨b, off, none⟩ : Addr) else some ⟨b, off + a * 2, none⟩) = pp := ⟨_, rfl⟩
  have HCS : Hid (∀ w', Below w.heap.size w w' → ∀ m, a + m ≤ l.length → Cls w' (.slice pp m (cap - a)) ((l.drop a).take m)) := by
    intro w' hw' m hm
    have := cls_sub (a := a) (n := m) hm hcap (Nat.lt_of_lt_of_le hb hw'.size) (HC.out w' hw')
    rw [hpp] at this; exact this
  have HFT : Hid (∀ w', Below w.heap.size w w' → Calls Tryd.prog 34 #[.slice pp (l.length - a) (cap - a), .int .i64 W] w' fun e w2 => e = .returned (.int .i64 n) ∧ w2 = w') := by
    intro w' hw'
    have h1 := HCS.out w' hw' (l.length - a) (by omega)
    rw [List.take_of_length_le (by rw [List.length_drop]; omega)] at h1
    have := rfitting_any (l.drop a) _ W w' h1 (fun c hc => HBD.out c (List.mem_of_mem_drop hc)) (by rw [List.length_drop]; omega)
    rw [hn] at this; exact this
  have HTX : Hid (∀ w', Below w.heap.size w w' → ∀ m, a + m ≤ l.length → Calls Tryd.prog 33 #[.slice pp m (cap - a)] w' fun e w2 => e = .returned (.string ⟨(joined ((l.drop a).take m)).toArray⟩) ∧ w2 = w') := by
    intro w' hw' m hm
    have hjb := joined_bd _ (fun c hc => HSH.out c (List.mem_of_mem_drop (List.mem_of_mem_take hc)) : ∀ c ∈ (l.drop a).take m, c.1.length ≤ 20)
    have hlN : ((l.drop a).take m).length ≤ l.length := by rw [List.length_take, List.length_drop]; omega
    exact rtext_any _ _ w' (HCS.out w' hw' m hm) (by omega) (by omega)
  have HWD : Hid (∀ w', Below w.heap.size w w' → ∀ m, a + m ≤ l.length → Calls Tryd.prog 32 #[.slice pp m (cap - a)] w' fun e w2 => e = .returned (.int .i64 (wideSum ((l.drop a).take m))) ∧ w2 = w') := by
    intro w' hw' m hm
    have hlN : ((l.drop a).take m).length ≤ l.length := by rw [List.length_take, List.length_drop]; omega
    exact rwide_any _ _ w' (HCS.out w' hw' m hm) (fun c hc => HBD.out c (List.mem_of_mem_drop (List.mem_of_mem_take hc))) (by omega)
  have HLN : Hid (∀ m d e, m ≤ n → firstL (l.drop a) W = ⟨m, d, e⟩ → lnAt l W a = ⟨joined ((l.drop a).take m), wideSum ((l.drop a).take m), a, m, e⟩ ∧ nxt l W a = a + m + d) := by
    intro m d e hm hf
    have h1 := take_wide_le (l.drop a) hr hm
    have h2 : ((l.drop a).take m).length = m := by rw [List.length_take, List.length_drop]; omega
    rw [HLE.out, HNX.out, hf]
    simp only
    rw [if_neg (by omega), h2]
    exact ⟨rfl, by first | rfl | trivial⟩
  have HWI : Hid (n = 0 → a < l.length → tx l a ≠ [10] → W < wideSum ((l.drop a).take 1) ∧ W = 1) := by
    intro h0 h1 h2
    have sp := (fitN_spec (l.drop a) W hr).2
    rw [hn, h0, List.length_drop, tx_drop] at sp
    have h3 := (sp (by omega)).resolve_left h2
    have h4 := take1_bd (l.drop a) hr
    simp at h3
    exact ⟨h3, by omega⟩
  have HLB : Hid (∀ m, m ≤ n → 0 ≤ lastB (l.drop a) m → lastB (l.drop a) m < m) := fun m _ _ => (lastB_lt (l.drop a) m).1
  clear hr hbd hsh hc hn
  go_enter Tryd.func24, Tryd.ntmps24
  go_wp2_with fail
  refine (HFT.out _ ((Below.refl _ _).alloc (Nat.le_refl _) _)).mono ?_
  rintro e w1 ⟨rfl, rfl⟩
  clear HFT
  have hmx : Tryd.prog.follows .mixedOrders = true := by kernel_rfl
  obtain ⟨w1, hw1⟩ : ∃ w1, w.alloc (.cells #[.string ⟨#[]⟩, .int .i64 0, .int .i64 0, .int .i64 0, .int .i64 0] 32) = w1 := ⟨_, rfl⟩
  have hrow0 : Hid (w1.heap[w.heap.size]? = some (.cells #[.string ⟨#[]⟩, .int .i64 0, .int .i64 0, .int .i64 0, .int .i64 0] 32 (0, 0))) := by show _ = _; rw [← hw1]; exact heap_alloc_new w _
  have hB1 : Below w.heap.size w w1 := by rw [← hw1]; exact (Below.refl _ _).alloc (Nat.le_refl _) _
  have hs1 : w.heap.size < w1.heap.size := by rw [← hw1, World.size_alloc]; omega
  rw [hw1]
  clear hw1
  obtain ⟨J, hJ⟩ : ∃ J, joined ((l.drop a).take n) = J := ⟨_, rfl⟩
  obtain ⟨X, hX⟩ : ∃ X, wideSum ((l.drop a).take n) = X := ⟨_, rfl⟩
  have T1 : Hid (∀ w', Below w.heap.size w w' → Calls Tryd.prog 33 #[.slice pp n (cap - a)] w' fun e w2 => e = .returned (.string ⟨J.toArray⟩) ∧ w2 = w') := by
    intro w' hw'; have := HTX.out w' hw' n (by omega); rw [hJ] at this; exact this
  have W1 : Hid (∀ w', Below w.heap.size w w' → Calls Tryd.prog 32 #[.slice pp n (cap - a)] w' fun e w2 => e = .returned (.int .i64 X) ∧ w2 = w') := by
    intro w' hw'; have := HWD.out w' hw' n (by omega); rw [hX] at this; exact this
  obtain ⟨q, hq⟩ : ∃ q : Nat, a + n = q := ⟨_, rfl⟩
  have hqi : (a : Int) + (n : Int) = (q : Int) := by omega
  have hq1 : (q : Int) ≤ (cap : Int) := by omega
  have hq2 : a ≤ q := by omega
  have hq3 : q - a = n := by omega
  have HQ : Hid (a + n = q) := hq
  have HQ3 : Hid (q - a = n) := hq3
  have HPP : Hid ((if cap = a then some (⟨b, off, none⟩ : Addr) else some ⟨b, off + a * 2, none⟩) = pp) := hpp
  clear hq
  go_wp2_with fail
  go_cut [10] from 12 to 32 (fun p wx => ∃ B, p = .pointer (some ⟨B, 0, none⟩) ∧ w1.heap.size ≤ B ∧ wx.heap[B]? = some (.cells #[.string ⟨J.toArray⟩, .int .i64 X, .int .i64 a, .int .i64 n, .int .i64 0] 32 (0, 0)) ∧ Below w1.heap.size w1 wx)
  case first =>
    go_region_with (first | (go_at_call 33; refine (T1.out _ (by first | exact hB1.drew | exact (hB1.alloc (by omega) _).drew)).mono ?_; rintro e wq ⟨rfl, rfl⟩) | (go_at_call 32; refine (W1.out _ (by first | exact hB1.drew | exact (hB1.alloc (by omega) _).drew)).mono ?_; rintro e wq ⟨rfl, rfl⟩))
    all_goals (go_wp2_with fail)
    all_goals go_meet
    all_goals exact ⟨_, rfl, Nat.le_refl _, heap_alloc_new w1 _, ((Below.refl _ _).alloc (Nat.le_refl _) _).drew⟩
  case rest =>
    obtain ⟨B, rfl, hB, hrow, by2⟩ := hcut
    have hBR : B ≠ w.heap.size := by omega
    have hsy := by2.size
    have hrR : wc.heap[w.heap.size]? = some (.cells #[.string ⟨#[]⟩, .int .i64 0, .int .i64 0, .int .i64 0, .int .i64 0] 32 (0, 0)) := (by2.block _ hs1).trans hrow0.out
    have hRc : w.heap.size < wc.heap.size := by omega
    have q0 : wc.cell? ⟨B, 0, none⟩ = some (.string ⟨J.toArray⟩) := by simp [World.cell?, hrow]
    have q1 : wc.cell? ⟨B, 1, none⟩ = some (.int .i64 X) := by simp [World.cell?, hrow]
    have q2 : wc.cell? ⟨B, 2, none⟩ = some (.int .i64 a) := by simp [World.cell?, hrow]
    have q3 : wc.cell? ⟨B, 3, none⟩ = some (.int .i64 n) := by simp [World.cell?, hrow]
    have q4 : wc.cell? ⟨B, 4, none⟩ = some (.int .i64 0) := by simp [World.cell?, hrow]
    have fr : ∀ j, wc.frozen? ⟨B, j, none⟩ = false := fun j => frozen_of_row _ _ _ _ _ hrow
    have r0 : wc.cell? ⟨w.heap.size, 0, none⟩ = some (.string ⟨#[]⟩) := by simp [World.cell?, hrR]
    have r1 : wc.cell? ⟨w.heap.size, 1, none⟩ = some (.int .i64 0) := by simp [World.cell?, hrR]
    have r2 : wc.cell? ⟨w.heap.size, 2, none⟩ = some (.int .i64 0) := by simp [World.cell?, hrR]
    have r3 : wc.cell? ⟨w.heap.size, 3, none⟩ = some (.int .i64 0) := by simp [World.cell?, hrR]
    have r4 : wc.cell? ⟨w.heap.size, 4, none⟩ = some (.int .i64 0) := by simp [World.cell?, hrR]
    have frR : ∀ j, wc.frozen? ⟨w.heap.size, j, none⟩ = false := fun j => frozen_of_row _ _ _ _ _ hrR
    have HRR : Hid (wc.heap[w.heap.size]? = some (.cells #[.string ⟨#[]⟩, .int .i64 0, .int .i64 0, .int .i64 0, .int .i64 0] 32 (0, 0))) := hrR
    have hBc : Below w.heap.size w wc := hB1.trans (by2.mono (by omega))
    have HFIN : Hid (∀ (wz : World) (v0 v1 v2 v3 v4 : Value), Below w.heap.size w wz → Below w.heap.size w (((((wz.setCell ⟨w.heap.size, 0, none⟩ v0).setCell ⟨w.heap.size, 1, none⟩ v1).setCell ⟨w.heap.size, 2, none⟩ v2).setCell ⟨w.heap.size, 3, none⟩ v3).setCell ⟨w.heap.size, 4, none⟩ v4)) :=
      fun wz v0 v1 v2 v3 v4 h => ((((h.setCell (p := ⟨w.heap.size, 0, none⟩) (Nat.le_refl _) _).setCell (p := ⟨w.heap.size, 1, none⟩) (Nat.le_refl _) _).setCell (p := ⟨w.heap.size, 2, none⟩) (Nat.le_refl _) _).setCell (p := ⟨w.heap.size, 3, none⟩) (Nat.le_refl _) _).setCell (p := ⟨w.heap.size, 4, none⟩) (Nat.le_refl _) _
    have HJE : Hid (joined ((l.drop a).take n) = J) := hJ
    have HXE : Hid (wideSum ((l.drop a).take n) = X) := hX
    have HBl : Hid (w.heap.size ≤ B) := by show w.heap.size ≤ B; omega
    clear hrow hrR hJ hX T1 W1
    by_cases hall : n = l.length - a
    · have hf : firstL (l.drop a) W = ⟨n, 0, 3⟩ := by rw [HFL.out, if_pos hall]
      obtain ⟨e1, e2⟩ := HLN.out n 0 3 (Nat.le_refl _) hf
      have HE1 : Hid (lnAt l W a = ⟨J, X, a, n, 3⟩) := by show _ = _; rw [e1, HJE.out, HXE.out]
      have HE2 : Hid (nxt l W a = q) := by show _ = _; rw [e2, HQ.out]; rfl
      have HZ : Hid ((wc.setCell ⟨B, 4, none⟩ (.int .i64 3)).heap[w.heap.size]? = some (.cells #[.string ⟨#[]⟩, .int .i64 0, .int .i64 0, .int .i64 0, .int .i64 0] 32 (0, 0))) := by
        show _ = _; rw [heap_setCell_other _ _ _ _ (fun e => hBR e.symm)]; exact HRR.out
      have hqe : (q : Int) = (l.length : Int) := by have := HQ.out; omega
      clear e1 e2 hf hall
      go_wp2
      try simp only [Exit.inBlock, Exit.then]
      refine bodyPost_ret (results_line rfl _ _ _ w.heap.size _ rfl (run_loadVar_row _ _ _ _ _ _ _ (row5 HZ.out) Tryd.underlying32 rfl (by kernel_rfl))) rfl ?_
      rw [HE1.out, HE2.out]
      exact ⟨rfl, HFIN.out _ _ _ _ _ _ (hBc.setCell (p := ⟨B, 4, none⟩) HBl.out _)⟩
    have hq5 : q < l.length := by have := HQ.out; omega
    have hq6 : (q : Int) < (l.length : Int) := by omega
    have hqn : ¬ (q : Int) = (l.length : Int) := by omega
    obtain ⟨T, V, hTV⟩ : ∃ T V, l[q] = (T, V) := ⟨_, _, rfl⟩
    have c0 : wc.cell? ⟨b, off + q * 2, none⟩ = some (.string ⟨T.toArray⟩) := by have := (HC.out wc hBc q hq5).1; rw [hTV] at this; exact this
    have HTX2 : Hid (tx l (a + n) = T) := by show _ = _; rw [HQ.out, tx_at hq5, hTV]
    clear hTV
    by_cases h10 : T = [10]
    · have hf : firstL (l.drop a) W = ⟨n, 1, 2⟩ := by rw [HFL.out, if_neg hall, if_pos (by rw [HTX2.out, h10])]
      obtain ⟨e1, e2⟩ := HLN.out n 1 2 (Nat.le_refl _) hf
      have HE1 : Hid (lnAt l W a = ⟨J, X, a, n, 2⟩) := by show _ = _; rw [e1, HJE.out, HXE.out]
      have HE2 : Hid (nxt l W a = q + 1) := by show _ = _; rw [e2, HQ.out]
      have HZ : Hid ((wc.setCell ⟨B, 4, none⟩ (.int .i64 2)).heap[w.heap.size]? = some (.cells #[.string ⟨#[]⟩, .int .i64 0, .int .i64 0, .int .i64 0, .int .i64 0] 32 (0, 0))) := by
        show _ = _; rw [heap_setCell_other _ _ _ _ (fun e => hBR e.symm)]; exact HRR.out
      have h10' : (T == [10]) = true := by rw [h10]; rfl
      clear e1 e2 hf hall
      go_wp2
      try simp only [Exit.inBlock, Exit.then]
      refine bodyPost_ret (results_line rfl _ _ _ w.heap.size _ rfl (run_loadVar_row _ _ _ _ _ _ _ (row5 HZ.out) Tryd.underlying32 rfl (by kernel_rfl))) rfl ?_
      rw [HE1.out, HE2.out]
      exact ⟨by simp, HFIN.out _ _ _ _ _ _ (hBc.setCell (p := ⟨B, 4, none⟩) HBl.out _)⟩
    have h10' : (T == [10]) = false := by simpa using h10
    by_cases h0 : n = 0
    · have hf : firstL (l.drop a) W = ⟨1, 0, 1⟩ := by rw [HFL.out, if_neg hall, if_neg (by rw [HTX2.out]; exact h10), if_pos h0]
      have haq : a = q := by have := HQ.out; omega
      obtain ⟨g1, g2⟩ := HWI.out h0 (by omega) (by have := HTX2.out; rw [h0, Nat.add_zero] at this; rw [this]; exact h10)
      have HE1 : Hid (lnAt l W a = ⟨[32], 1, a, 1, 1⟩) := by
        show _ = _
        rw [HLE.out, hf]
        simp only
        rw [if_pos g1, g2]; rfl
      have HE2 : Hid (nxt l W a = q + 1) := by show _ = _; rw [HNX.out, hf]; simp only; omega
      have HZ := HRR
      have R1 : Hid (∀ w', Calls Tryd.prog 28 #[.int .i64 W] w' fun e w2 => e = .returned (.string ⟨#[32]⟩) ∧ w2 = w') := by
        intro w'; rw [g2]; exact rblanks_any 1 w' (by omega)
      have HWE : Hid (W = 1) := g2
      have hn0 : (n : Int) = 0 := by omega
      clear hf hall g1 g2 haq
      subst h0
      go_wp2_with fail
      refine (R1.out _).mono ?_
      rintro e w5 ⟨rfl, rfl⟩
      clear R1
      go_wp2
      try simp only [Exit.inBlock, Exit.then]
      refine bodyPost_ret (results_line rfl _ _ _ w.heap.size _ rfl (run_loadVar_row _ _ _ _ _ _ _ (row5 HZ.out) Tryd.underlying32 rfl (by kernel_rfl))) rfl ?_
      rw [HE1.out, HE2.out]
      refine ⟨?_, HFIN.out _ _ _ _ _ _ hBc⟩
      simp [HWE.out]
    by_cases h32 : T = [32]
    · have hf : firstL (l.drop a) W = ⟨n, 1, 0⟩ := by rw [HFL.out, if_neg hall, if_neg (by rw [HTX2.out]; exact h10), if_neg h0, if_pos (by rw [HTX2.out, h32])]
      obtain ⟨e1, e2⟩ := HLN.out n 1 0 (Nat.le_refl _) hf
      have HE1 : Hid (lnAt l W a = ⟨J, X, a, n, 0⟩) := by show _ = _; rw [e1, HJE.out, HXE.out]
      have HE2 : Hid (nxt l W a = q + 1) := by show _ = _; rw [e2, HQ.out]
      have HZ := HRR
      have h32' : (T == [32]) = true := by rw [h32]; rfl
      have hn0 : ¬ (n : Int) = 0 := by omega
      clear e1 e2 hf hall
      go_wp2
      try simp only [Exit.inBlock, Exit.then]
      refine bodyPost_ret (results_line rfl _ _ _ w.heap.size _ rfl (run_loadVar_row _ _ _ _ _ _ _ (row5 HZ.out) Tryd.underlying32 rfl (by kernel_rfl))) rfl ?_
      rw [HE1.out, HE2.out]
      exact ⟨by simp, HFIN.out _ _ _ _ _ _ hBc⟩
    have h32' : (T == [32]) = false := by simpa using h32
    have hn0 : ¬ (n : Int) = 0 := by omega
    have HFB : Hid (firstL (l.drop a) W = if 0 ≤ lastB (l.drop a) n then ⟨(lastB (l.drop a) n).toNat, 1, 0⟩ else ⟨n, 0, 1⟩) := by
      show _ = _
      rw [HFL.out, if_neg hall, if_neg (by rw [HTX2.out]; exact h10), if_neg h0, if_neg (by rw [HTX2.out]; exact h32)]
    have HCw : Hid (∀ j (hj : j < l.length), wc.cell? ⟨b, off + j * 2, none⟩ = some (.string ⟨(l[j]).1.toArray⟩) ∧ wc.cell? ⟨b, off + j * 2 + 1, none⟩ = some (.int .i64 (l[j]).2)) := HC.out wc hBc
    clear hall
    go_wp2
    go_loop [11] (fun i => ∃ m : Nat, m ≤ n ∧ i = .int .i64 ((a : Int) + (m : Int) - 1) ∧ Hid (lastB (l.drop a) n = lastB (l.drop a) m)) (fun i => (intOf i + 1 - a).toNat)
    case atStart => exact ⟨n, Nat.le_refl _, by rw [hqi], rfl⟩
    case round =>
      obtain ⟨m, hm, rfl, hLB⟩ := hrel
      cases m with
      | zero =>
        have hf : firstL (l.drop a) W = ⟨n, 0, 1⟩ := by rw [HFB.out, hLB.out]; simp [lastB]
        obtain ⟨e1, e2⟩ := HLN.out n 0 1 (Nat.le_refl _) hf
        have HE1 : Hid (lnAt l W a = ⟨J, X, a, n, 1⟩) := by show _ = _; rw [e1, HJE.out, HXE.out]
        have HE2 : Hid (nxt l W a = q) := by show _ = _; rw [e2, HQ.out]; rfl
        have HZ : Hid ((wc.setCell ⟨B, 4, none⟩ (.int .i64 1)).heap[w.heap.size]? = some (.cells #[.string ⟨#[]⟩, .int .i64 0, .int .i64 0, .int .i64 0, .int .i64 0] 32 (0, 0))) := by
          show _ = _; rw [heap_setCell_other _ _ _ _ (fun e => hBR e.symm)]; exact HRR.out
        have hlt : ¬ (a : Int) ≤ (a : Int) + ((0 : Nat) : Int) - 1 := by omega
        clear e1 e2 hf
        go_wp2
        try simp only [Exit.inBlock, Exit.then]
        refine bodyPost_ret (results_line rfl _ _ _ w.heap.size _ rfl (run_loadVar_row _ _ _ _ _ _ _ (row5 HZ.out) Tryd.underlying32 rfl (by kernel_rfl))) rfl ?_
        rw [HE1.out, HE2.out]
        exact ⟨rfl, HFIN.out _ _ _ _ _ _ (hBc.setCell (p := ⟨B, 4, none⟩) HBl.out _)⟩
      | succ m =>
        obtain ⟨p, hp⟩ : ∃ p : Nat, a + m = p := ⟨_, rfl⟩
        have hpi : (a : Int) + ((m + 1 : Nat) : Int) - 1 = (p : Int) := by omega
        rw [hpi]
        have hpl : p < l.length := by have := HQ.out; omega
        have hpl' : (p : Int) < (l.length : Int) := by omega
        have hap : (a : Int) ≤ (p : Int) := by omega
        have hap2 : a ≤ p := by omega
        have hpc : (p : Int) ≤ (cap : Int) := by omega
        have HP : Hid (a + m = p) := hp
        obtain ⟨T', V', hTV'⟩ : ∃ T V, l[p] = (T, V) := ⟨_, _, rfl⟩
        have c0' : wc.cell? ⟨b, off + p * 2, none⟩ = some (.string ⟨T'.toArray⟩) := by have := (HCw.out p hpl).1; rw [hTV'] at this; exact this
        have HTX3 : Hid (tx (l.drop a) m = T') := by show _ = _; rw [tx_drop, hp, tx_at hpl, hTV']
        have hpm : p - a = m := by omega
        have hpmi : (p : Int) - (a : Int) = (m : Int) := by omega
        clear hTV' hpi
        by_cases hb32 : T' = [32]
        · have hlb : lastB (l.drop a) n = m := by rw [hLB.out]; simp only [lastB]; rw [if_pos (by rw [HTX3.out, hb32])]
          have hf : firstL (l.drop a) W = ⟨m, 1, 0⟩ := by rw [HFB.out, hlb]; simp
          obtain ⟨e1, e2⟩ := HLN.out m 1 0 (by omega) hf
          have hm1 : a + m ≤ l.length := by omega
          have T2 : Hid (∀ w', Below w.heap.size w w' → Calls Tryd.prog 33 #[.slice pp m (cap - a)] w' fun e w2 => e = .returned (.string ⟨(joined ((l.drop a).take m)).toArray⟩) ∧ w2 = w') := fun w' hw' => HTX.out w' hw' m hm1
          have W2 : Hid (∀ w', Below w.heap.size w w' → Calls Tryd.prog 32 #[.slice pp m (cap - a)] w' fun e w2 => e = .returned (.int .i64 (wideSum ((l.drop a).take m))) ∧ w2 = w') := fun w' hw' => HWD.out w' hw' m hm1
          obtain ⟨J2, hJ2⟩ : ∃ J, joined ((l.drop a).take m) = J := ⟨_, rfl⟩
          obtain ⟨X2, hX2⟩ : ∃ X, wideSum ((l.drop a).take m) = X := ⟨_, rfl⟩
          rw [hJ2] at e1 T2
          rw [hX2] at e1 W2
          have HE1 : Hid (lnAt l W a = ⟨J2, X2, a, m, 0⟩) := e1
          have HE2 : Hid (nxt l W a = p + 1) := by show _ = _; rw [e2, hp]
          have HZ := HRR
          have hb32' : (T' == [32]) = true := by rw [hb32]; rfl
          have hwr1 : IntKind.i64.wrap (m : Int) = (m : Int) := IntWalk.i64_in _ ⟨by omega, by omega⟩
          have hwr2 : IntKind.i64.wrap ((p : Int) + 1) = (p : Int) + 1 := IntWalk.i64_in _ ⟨by omega, by omega⟩
          clear e1 e2 hf hlb hJ2 hX2 hp
          go_wp2_with fail
          go_region_with (first | (go_at_call 33; refine (T2.out _ hBc.drew).mono ?_; rintro e wq ⟨rfl, rfl⟩) | (go_at_call 32; refine (W2.out _ hBc.drew).mono ?_; rintro e wq ⟨rfl, rfl⟩))
          all_goals (go_wp2_with fail)
          all_goals
            refine bodyPost_ret (results_line rfl _ _ _ w.heap.size #[.string ⟨J2.toArray⟩, .int .i64 X2, .int .i64 a, .int .i64 m, .int .i64 0] rfl (run_loadVar_row _ _ _ _ _ _ _ (row5 HZ.out) Tryd.underlying32 rfl (by kernel_rfl))) rfl ?_
            rw [HE1.out, HE2.out]
            exact ⟨rfl, (HFIN.out _ _ _ _ _ _ hBc).drew⟩
        · have hb32' : (T' == [32]) = false := by simpa using hb32
          have HLB' : Hid (lastB (l.drop a) n = lastB (l.drop a) m) := by show _ = _; rw [hLB.out]; simp only [lastB]; rw [if_neg (by rw [HTX3.out]; exact hb32)]
          clear hp
          go_wp2
          go_round
          case rel => exact ⟨m, by omega, by have := HP.out; congr 1; omega, HLB'⟩
          case measure => have := HP.out; simp [intOf]; omega

end Go.Proofs.YtbjfckhijjjnkabDoor
