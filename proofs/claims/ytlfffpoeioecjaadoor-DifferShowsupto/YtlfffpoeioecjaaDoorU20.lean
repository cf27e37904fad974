/-
  The document's terminal: what the last byte of a sequence asks.
-/
import Derived.Test.YtlfffpoeioecjaaDoorU19
import Derived.Test.YtlfffpoeioecjaaDoorU15
import Derived.Test.YtlfffpoeioecjaaDoorU08
import Derived.Test.YtlfffpoeioecjaaDoorU11
namespace Go.Proofs.YtlfffpoeioecjaaDoor
open Go.RowKit Go.Sort
set_option linter.unusedVariables false

theorem pall1 (W H : Nat) : PAll W H (fun _ _ => bk 0 0 0) := fun y hy => ⟨fun i hi => .inl rfl, fun i hi h => absurd h (by show ¬ (0 : Int) = 1; decide), fun i hi h => absurd h (by show ¬ (0 : Int) = 2; decide)⟩
def doR (s : Rm) (b : Int) (zs : List Int) : Rm :=
  if b = 72 then { s with y := min (max 1 (zs[(0 : Nat)]?.getD 0)) s.H - 1, x := min (if 1 < zs.length then max 1 (zs[(1 : Nat)]?.getD 0) else 1) s.W - 1 }
  else if b = 74 then (if zs[(0 : Nat)]?.getD 0 = 2 then { s with c := fun _ _ => bk 0 0 0, wv := fun _ => true } else s)
  else if b = 109 then { s with f := aplF zs s.f, g := aplG zs s.g, b := aplB zs s.b }
  else s
/-- What it leaves: the cells may lie elsewhere. -/
structure DoOut (w w' : World) (T M B bc : Nat) (s : Rm) : Prop where
  rt : ∃ K' M' cap', RT w' T K' M' cap' B bc s ∧ (M' = M ∨ w.heap.size ≤ M')
  c3 : C3 T M B w w'
def DoEnd (w w' : World) (e : Ending) (T M B bc : Nat) (s : Rm) : Prop := e = .returned (.tuple #[]) ∧ DoOut w w' T M B bc s

theorem keepb {w w' : World} {p : Addr} {v : Value} (g : Below w.heap.size w w') (h : w.cell? p = some v) : w'.cell? p = some v := (g.cell (World.block_lt_of_cell? w p h)).trans h
section
variable {T K M cap B bc : Nat} {s : Rm}
set_option maxRecDepth 100000 in
set_option maxHeartbeats 8000000 in
theorem do_H (w : World) (h : RT w T K M cap B bc s) (zs : List Int) (v : Value) (hv : Ints w v zs) (hz : 0 < zs.length) (hzl : zs.length ≤ 16) (hzb : ∀ z ∈ zs, 0 ≤ z ∧ z ≤ 999999) : Calls Tryd.prog 70 #[.pointer (some ⟨T, 0, none⟩), .int .u8 72, v] w fun e w' => DoEnd w w' e T M B bc (doR s 72 zs) := by
  have LE : Hid (∀ a b w, Calls Tryd.prog 87 #[.int .i64 a, .int .i64 b] w fun e w' => e = .returned (.int .i64 (min a b)) ∧ w' = w) := least_any
  have GE : Hid (∀ a b w, Calls Tryd.prog 86 #[.int .i64 a, .int .i64 b] w fun e w' => e = .returned (.int .i64 (max a b)) ∧ w' = w) := greatest_any
  obtain ⟨p, c, rfl, hh⟩ := hv
  obtain ⟨b0, off, rfl, hb, hc⟩ := hh.resolve_left (fun e => by rw [e] at hz; simp at hz)
  have HR : Hid (RT w T K M cap B bc s) := h
  have z0 : w.cell? ⟨b0, off, none⟩ = some (.int .i64 (zs[0]?.getD 0)) := hc 0 hz
  obtain ⟨a0, ha0⟩ : ∃ z, zs[0]?.getD 0 = z := ⟨_, rfl⟩
  have hab : 0 ≤ a0 ∧ a0 ≤ 999999 := by rw [← ha0, List.getElem?_eq_getElem hz]; exact hzb _ (List.getElem_mem _)
  rw [ha0] at z0
  have t0 : w.cell? ⟨T, 0, none⟩ = some (.pointer (some ⟨K, 0, none⟩)) := h.at rfl
  have k0 : w.cell? ⟨K, 0, none⟩ = some (.int .i64 s.W) := h.cs.k0
  have k1 : w.cell? ⟨K, 1, none⟩ = some (.int .i64 s.H) := h.cs.k1
  have t1 : w.cell? ⟨T, 1, none⟩ = some (.int .i64 s.x) := h.at rfl
  have t2 : w.cell? ⟨T, 2, none⟩ = some (.int .i64 s.y) := h.at rfl
  have f1 := h.fz 1
  have f2 := h.fz 2
  have hW := h.hW
  have hH := h.hH
  have hTK := h.tk
  clear h hh
  by_cases h1 : 1 < zs.length
  · have h1' : (1 : Int) < (zs.length : Int) := by omega
    have z1 : w.cell? ⟨b0, off + 1, none⟩ = some (.int .i64 (zs[1]?.getD 0)) := hc 1 h1
    obtain ⟨a1, ha1⟩ : ∃ z, zs[1]?.getD 0 = z := ⟨_, rfl⟩
    have hab1 : 0 ≤ a1 ∧ a1 ≤ 999999 := by rw [← ha1, List.getElem?_eq_getElem h1]; exact hzb _ (List.getElem_mem _)
    rw [ha1] at z1
    have HE : Hid (doR s 72 zs = { s with y := min (max 1 a0) s.H - 1, x := min (max 1 a1) s.W - 1 }) := by show _ = _; unfold doR; rw [if_pos rfl, if_pos h1, ha0, ha1]
    clear ha0 ha1 hc hzb
    go_enter Tryd.func70, Tryd.ntmps70
    go_wp2_with (first | (go_at_call 87; refine (LE.out _ _ _).mono ?_; rintro e w1 ⟨rfl, rfl⟩) | (go_at_call 86; refine (GE.out _ _ _).mono ?_; rintro e w1 ⟨rfl, rfl⟩))
    go_end0
    refine ⟨rfl, ⟨K, M, cap, ?_, .inl rfl⟩, ((C3.refl _ _ _ _).set _ _).set _ _⟩
    rw [HE.out]
    have e1 := HR.out.set 2 (.int .i64 (min (max 1 a0) s.H - 1)) { s with y := min (max 1 a0) s.H - 1 } rfl ⟨rfl, rfl, rfl, rfl⟩
    exact e1.set 1 (.int .i64 (min (max 1 a1) s.W - 1)) { s with y := min (max 1 a0) s.H - 1, x := min (max 1 a1) s.W - 1 } rfl ⟨rfl, rfl, rfl, rfl⟩
  · have h1' : ¬ (1 : Int) < (zs.length : Int) := by omega
    have HE : Hid (doR s 72 zs = { s with y := min (max 1 a0) s.H - 1, x := min (1 : Int) s.W - 1 }) := by show _ = _; unfold doR; rw [if_pos rfl, if_neg h1, ha0]
    clear ha0 hc hzb
    go_enter Tryd.func70, Tryd.ntmps70
    go_wp2_with (first | (go_at_call 87; refine (LE.out _ _ _).mono ?_; rintro e w1 ⟨rfl, rfl⟩) | (go_at_call 86; refine (GE.out _ _ _).mono ?_; rintro e w1 ⟨rfl, rfl⟩))
    go_end0
    refine ⟨rfl, ⟨K, M, cap, ?_, .inl rfl⟩, ((C3.refl _ _ _ _).set _ _).set _ _⟩
    rw [HE.out]
    have e1 := HR.out.set 2 (.int .i64 (min (max 1 a0) s.H - 1)) { s with y := min (max 1 a0) s.H - 1 } rfl ⟨rfl, rfl, rfl, rfl⟩
    exact e1.set 1 (.int .i64 (min (1 : Int) s.W - 1)) { s with y := min (max 1 a0) s.H - 1, x := min (1 : Int) s.W - 1 } rfl ⟨rfl, rfl, rfl, rfl⟩

set_option maxRecDepth 100000 in
set_option maxHeartbeats 8000000 in
theorem do_m (w : World) (h : RT w T K M cap B bc s) (zs : List Int) (v : Value) (hv : Ints w v zs) (hz : 0 < zs.length) (hzl : zs.length ≤ 16) : Calls Tryd.prog 70 #[.pointer (some ⟨T, 0, none⟩), .int .u8 109, v] w fun e w' => DoEnd w w' e T M B bc (doR s 109 zs) := by
  have AP : Hid (Calls Tryd.prog 88 #[.agg #[.int .i64 s.f, .int .i64 s.g, .int .i64 s.b], v] w fun e w' => e = .returned (.agg #[.int .i64 (aplF zs s.f), .int .i64 (aplG zs s.g), .int .i64 (aplB zs s.b)]) ∧ Gr w w') := rApply_any s.f s.g s.b zs v w hv (by omega)
  obtain ⟨p, c, rfl, hh⟩ := hv
  have HR : Hid (RT w T K M cap B bc s) := h
  have t3 : w.cell? ⟨T, 3, none⟩ = some (.int .i64 s.f) := h.at rfl
  have t4 : w.cell? ⟨T, 4, none⟩ = some (.int .i64 s.g) := h.at rfl
  have t5 : w.cell? ⟨T, 5, none⟩ = some (.int .i64 s.b) := h.at rfl
  have HE : Hid (doR s 109 zs = { s with f := aplF zs s.f, g := aplG zs s.g, b := aplB zs s.b }) := by show _ = _; unfold doR; rw [if_neg (by decide), if_neg (by decide), if_pos rfl]
  clear h hh
  go_enter Tryd.func70, Tryd.ntmps70
  go_wp2_with fail
  refine AP.out.mono ?_
  rintro e w1 ⟨rfl, g1⟩
  have H1 : Hid (RT w1 T K M cap B bc s) := HR.out.gr g1
  have B1 : Hid (C3 T M B w w1) := C3.gr g1
  have u3 : w1.cell? ⟨T, 3, none⟩ = some (.int .i64 s.f) := H1.out.at rfl
  have u4 : w1.cell? ⟨T, 4, none⟩ = some (.int .i64 s.g) := H1.out.at rfl
  have u5 : w1.cell? ⟨T, 5, none⟩ = some (.int .i64 s.b) := H1.out.at rfl
  have f3 := H1.out.fz 3
  have f4 := H1.out.fz 4
  have f5 := H1.out.fz 5
  obtain ⟨af, haf⟩ : ∃ z, aplF zs s.f = z := ⟨_, rfl⟩
  obtain ⟨ag, hag⟩ : ∃ z, aplG zs s.g = z := ⟨_, rfl⟩
  obtain ⟨ab, hab⟩ : ∃ z, aplB zs s.b = z := ⟨_, rfl⟩
  rw [haf, hag, hab] at HE ⊢
  clear g1 AP t3 t4 t5 haf hag hab
  go_wp2
  go_end0
  refine ⟨rfl, ⟨K, M, cap, ?_, .inl rfl⟩, ((B1.out.set _ _).set _ _).set _ _⟩
  rw [HE.out]
  have e1 := H1.out.set 3 (.int .i64 af) { s with f := af } rfl ⟨rfl, rfl, rfl, rfl⟩
  have e2 := e1.set 4 (.int .i64 ag) { s with f := af, g := ag } rfl ⟨rfl, rfl, rfl, rfl⟩
  exact e2.set 5 (.int .i64 ab) { s with f := af, g := ag, b := ab } rfl ⟨rfl, rfl, rfl, rfl⟩

set_option maxRecDepth 100000 in
set_option maxHeartbeats 8000000 in
theorem do_no (w : World) (h : RT w T K M cap B bc s) (zs : List Int) (v : Value) (hv : Ints w v zs) (b : Int) (h1 : b ≠ 72) (h2 : b ≠ 74) (h3 : b ≠ 109) : Calls Tryd.prog 70 #[.pointer (some ⟨T, 0, none⟩), .int .u8 b, v] w fun e w' => DoEnd w w' e T M B bc (doR s b zs) := by
  obtain ⟨p, c, rfl, hh⟩ := hv
  have HR : Hid (RT w T K M cap B bc s) := h
  have e1 : (b == 72) = false := by simpa using h1
  have e2 : (b == 74) = false := by simpa using h2
  have e3 : (b == 109) = false := by simpa using h3
  have HE : Hid (doR s b zs = s) := by show _ = _; unfold doR; rw [if_neg h1, if_neg h2, if_neg h3]
  clear h hh
  go_enter Tryd.func70, Tryd.ntmps70
  go_wp2
  go_end0
  refine ⟨rfl, ⟨K, M, cap, ?_, .inl rfl⟩, C3.refl _ _ _ _⟩
  rw [HE.out]
  exact HR.out

set_option maxRecDepth 100000 in
set_option maxHeartbeats 8000000 in
theorem do_J (w : World) (h : RT w T K M cap B bc s) (zs : List Int) (v : Value) (hv : Ints w v zs) (hz : 0 < zs.length) : Calls Tryd.prog 70 #[.pointer (some ⟨T, 0, none⟩), .int .u8 74, v] w fun e w' => DoEnd w w' e T M B bc (doR s 74 zs) := by
  have hmix : Tryd.prog.follows .mixedOrders = true := by kernel_rfl
  obtain ⟨p, c, rfl, hh⟩ := hv
  obtain ⟨b0, off, rfl, hb, hc⟩ := hh.resolve_left (fun e => by rw [e] at hz; simp at hz)
  have HR : Hid (RT w T K M cap B bc s) := h
  have z0 : w.cell? ⟨b0, off, none⟩ = some (.int .i64 (zs[(0 : Nat)]?.getD 0)) := hc 0 hz
  obtain ⟨a0, ha0⟩ : ∃ z, zs[(0 : Nat)]?.getD 0 = z := ⟨_, rfl⟩
  rw [ha0] at z0
  have hz' : (0 : Int) < (zs.length : Int) := by omega
  by_cases h2 : a0 = 2
  · have e2 : (a0 == 2) = true := by simpa using h2
    have HE : Hid (doR s 74 zs = { s with c := fun _ _ => bk 0 0 0, wv := fun _ => true }) := by show _ = _; unfold doR; rw [if_neg (by decide), if_pos rfl, if_pos (by rw [ha0]; exact h2)]
    have t0 : w.cell? ⟨T, 0, none⟩ = some (.pointer (some ⟨K, 0, none⟩)) := h.at rfl
    have k0 : w.cell? ⟨K, 0, none⟩ = some (.int .i64 s.W) := h.cs.k0
    have k1 : w.cell? ⟨K, 1, none⟩ = some (.int .i64 s.H) := h.cs.k1
    have RNC : Hid (∀ w, Calls Tryd.prog 37 #[.int .i64 s.W, .int .i64 s.H] w fun e w' => ∃ K, e = .returned (.tuple #[.pointer (some ⟨K, 0, none⟩), .int .i64 0]) ∧ RN w w' s.W s.H K) := fun w => rnew_ok s.W s.H h.hW h.hH w
    clear h hh ha0 hc
    go_enter Tryd.func70, Tryd.ntmps70
    go_wp2_with fail
    go_region_held (fun W_ => W_.cell? ⟨T, 0, none⟩ = some (.pointer (some ⟨K, 0, none⟩)) ∧ W_.cell? ⟨K, 0, none⟩ = some (.int .i64 s.W) ∧ W_.cell? ⟨K, 1, none⟩ = some (.int .i64 s.H)) (first | exact ⟨t0, k0, k1⟩ | exact ⟨keepb g1 t0, keepb g1 k0, keepb g1 k1⟩) (first | (go_at_call 37; refine Calls.mono (RNC.out _) ?_; rintro e1 w1 ⟨K', rfl, hK', M', cap', hcs, hM', g1⟩))
    have g1' : Below w.heap.size w w1 := (Gr.refl w).drew.below.trans g1
    have hsz : w.heap.size ≤ K' ∧ w.heap.size ≤ M' := ⟨hK', hM'⟩
    have H1 : Hid (RT w1 T K M cap B bc s) := HR.out.below g1'
    have B1 : Hid (C3 T M B w w1) := C3.below g1'
    have CS1 : Hid (CS 48 57 w1 K' M' cap' s.W s.H (fun _ _ => bk 0 0 0)) := hcs
    have hTl := HR.out.lt
    have hBl := HR.out.bv.lt
    have u0 : w1.cell? ⟨T, 0, none⟩ = some (.pointer (some ⟨K, 0, none⟩)) := H1.out.at rfl
    have uf := H1.out.fz 0
    have H2 : Hid (RT (w1.setCell ⟨T, 0, none⟩ (.pointer (some ⟨K', 0, none⟩))) T K' M' cap' B bc { s with c := fun _ _ => bk 0 0 0 }) :=
      ⟨heap_setCell_same w1 T 0 _ _ (.pointer (some ⟨K', 0, none⟩)) H1.out.tb,
       ⟨(Below.heap_setCell w1 ⟨T, 0, none⟩ _ K' (by show K' ≠ T; omega)).trans CS1.out.kb, CS1.out.cv.other (by omega) 0 _, CS1.out.ne, CS1.out.hc⟩,
       H1.out.bv.keep (Below.heap_setCell w1 ⟨T, 0, none⟩ _ B (fun e => H1.out.tB e.symm)), by omega, by omega, H1.out.tB, by omega, by omega, H1.out.hb, H1.out.hW, H1.out.hH, pall1 _ _⟩
    have B2 : Hid (C3 T M B w (w1.setCell ⟨T, 0, none⟩ (.pointer (some ⟨K', 0, none⟩)))) := B1.out.set _ _
    obtain ⟨n, hn⟩ : ∃ n, s.W * s.H = n := ⟨_, rfl⟩
    have HN : Hid (s.W * s.H = n) := hn
    have hnb : n ≤ 160000 := by rw [← hn]; exact Nat.le_trans (Nat.mul_le_mul H1.out.hW.2 H1.out.hH.2) (by decide)
    clear g1 g1' hcs H1 B1 CS1 HR t0 k0 k1 hn RNC hK' hM'
    go_wp2_with fail
    obtain ⟨W2, hW2⟩ : ∃ z, w1.setCell ⟨T, 0, none⟩ (.pointer (some ⟨K', 0, none⟩)) = z := ⟨_, rfl⟩
    rw [hW2] at H2 B2 ⊢
    clear hW2 u0 uf
    go_loopw [10] (fun iv wr => ∃ i : Nat, i ≤ n ∧ iv = .int .i64 i ∧ Hid (RT wr T K' M' cap' B bc { s with c := fun _ _ => bk 0 0 0, wv := fun z => if z < i then true else s.wv z }) ∧ Hid (C3 T M B w wr)) (fun iv _ => n - (intOf iv).toNat)
    case atStart => exact ⟨0, by omega, rfl, H2.out.sameW (fun z hz => by rw [if_neg (by omega)]), B2.out⟩
    case round =>
      obtain ⟨i, hi, rfl, HQ, HC⟩ := hrel
      have d9 : wr.cell? ⟨T, 9, none⟩ = some (.slice (some ⟨B, 0, none⟩) n bc) := by rw [← HN.out]; exact HQ.out.at rfl
      by_cases hlt : i < n
      · have hlt' : (i : Int) < (n : Int) := by omega
        have b0 : ∃ z : Bool, wr.cell? ⟨B, i, none⟩ = some (.bool z) := ⟨_, HQ.out.bv.cell i (by show i < s.W * s.H; rw [HN.out]; exact hlt)⟩
        obtain ⟨z0, b0⟩ := b0
        have bf := HQ.out.bv.fz i
        have HQ2 : Hid (RT (wr.setCell ⟨B, i, none⟩ (.bool true)) T K' M' cap' B bc { s with c := fun _ _ => bk 0 0 0, wv := fun z => if z < i + 1 then true else s.wv z }) := by
          have q := (HQ.out.wrote (i := i) (by show i < s.W * s.H; rw [HN.out]; exact hlt)).sameW (wv' := fun z => if z < i + 1 then true else s.wv z) (fun z hz => by
            show (if z = i then true else (if z < i then true else s.wv z)) = _
            by_cases e : z = i
            · subst e; rw [if_pos rfl, if_pos (by omega)]
            · rw [if_neg e]
              by_cases e2 : z < i
              · rw [if_pos e2, if_pos (by omega)]
              · rw [if_neg e2, if_neg (by omega)])
          exact q
        have HC2 : Hid (C3 T M B w (wr.setCell ⟨B, i, none⟩ (.bool true))) := HC.out.setB _ _
        go_wp2
        go_roundw
        case rel => exact ⟨i + 1, by omega, by go_num, HQ2.out, HC2.out⟩
        case measure => simp [intOf]; omega
      · have hlt' : ¬ (i : Int) < (n : Int) := by omega
        obtain rfl : i = n := by omega
        go_wp2
        go_end0
        refine ⟨rfl, ⟨K', M', cap', ?_, .inr hsz.2⟩, HC.out⟩
        rw [HE.out]
        exact HQ.out.sameW (fun z hz => by show (if z < i then true else s.wv z) = true; rw [if_pos (by rw [← HN.out]; exact hz)])
  · have e2 : (a0 == 2) = false := by simpa using h2
    have HE : Hid (doR s 74 zs = s) := by show _ = _; unfold doR; rw [if_neg (by decide), if_pos rfl, if_neg (by rw [ha0]; exact h2)]
    clear h hh ha0 hc
    go_enter Tryd.func70, Tryd.ntmps70
    go_wp2
    go_end0
    refine ⟨rfl, ⟨K, M, cap, ?_, .inl rfl⟩, C3.refl _ _ _ _⟩
    rw [HE.out]
    exact HR.out
end

end Go.Proofs.YtlfffpoeioecjaaDoor

namespace Go.Proofs.YtlfffpoeioecjaaDoor
open Go.RowKit Go.Sort
set_option linter.unusedVariables false

theorem parS_bd (l : List UInt8) (hl : ∀ b ∈ l, 48 ≤ b.toNat) (p : List Int × Int) (h1 : ∀ z ∈ p.1, 0 ≤ z ∧ z ≤ 999999) (h2 : 0 ≤ p.2 ∧ p.2 ≤ 999999) : (∀ z ∈ (parS p l).1, 0 ≤ z ∧ z ≤ 999999) ∧ 0 ≤ (parS p l).2 ∧ (parS p l).2 ≤ 999999 := by
  induction l generalizing p with
  | nil => exact ⟨h1, h2⟩
  | cons b l ih =>
    have hb := hl b (List.mem_cons_self ..)
    refine ih (fun c hc => hl c (List.mem_cons_of_mem _ hc)) _ ?_ ?_
    · split
      · split
        · intro z hz
          rcases List.mem_append.1 hz with h | h
          · exact h1 z h
          · rw [List.mem_singleton] at h; rw [h]; exact h2
        · exact h1
      · split
        · exact h1
        · exact h1
    · split
      · exact ⟨Int.le_refl 0, (by decide : (0 : Int) ≤ 999999)⟩
      · split
        · exact h2
        · show 0 ≤ min 999999 (10 * p.2 + (b.toNat : Int) - 48) ∧ min 999999 (10 * p.2 + (b.toNat : Int) - 48) ≤ 999999
          omega
theorem parL_bd (l : List UInt8) (hl : ∀ b ∈ l, 48 ≤ b.toNat) : ∀ z ∈ parL l, 0 ≤ z ∧ z ≤ 999999 := by
  have h := parS_bd l hl ([], 0) (fun z hz => by cases hz) ⟨by decide, by decide⟩
  unfold parL parE
  split
  · intro z hz
    rcases List.mem_append.1 hz with q | q
    · exact h.1 z q
    · rw [List.mem_singleton] at q; rw [q]; exact h.2
  · exact h.1
theorem parL_len (l : List UInt8) : (parL l).length ≤ 16 := by
  have := parL_le l ([], 0) (by simp)
  unfold parL parE
  split
  · rw [List.length_append]; simp; omega
  · exact this

section
variable {T K M cap B bc : Nat} {s : Rm}
theorem do_any (w : World) (h : RT w T K M cap B bc s) (zs : List Int) (v : Value) (hv : Ints w v zs) (hz : 0 < zs.length) (hzl : zs.length ≤ 16) (hzb : ∀ z ∈ zs, 0 ≤ z ∧ z ≤ 999999) (b : Int) : Calls Tryd.prog 70 #[.pointer (some ⟨T, 0, none⟩), .int .u8 b, v] w fun e w' => DoEnd w w' e T M B bc (doR s b zs) := by
  by_cases h1 : b = 72
  · subst h1; exact do_H w h zs v hv hz hzl hzb
  · by_cases h2 : b = 74
    · subst h2; exact do_J w h zs v hv hz
    · by_cases h3 : b = 109
      · subst h3; exact do_m w h zs v hv hz hzl
      · exact do_no w h zs v hv b h1 h2 h3

/-- What a step leaves: told by a truth. -/
def StEnd (w w' : World) (e : Ending) (T M B bc : Nat) (s : Rm) (a : Bool) : Prop := e = .returned (.bool a) ∧ DoOut w w' T M B bc s
def esc0 (s : Rm) : Rm := { s with la := -1 }
theorem esc0_set (w : World) (h : RT w T K M cap B bc s) : RT (w.setCell ⟨T, 7, none⟩ (.int .i64 (-1))) T K M cap B bc (esc0 s) := h.set 7 (.int .i64 (-1)) (esc0 s) rfl ⟨rfl, rfl, rfl, rfl⟩
theorem DoOut.q {w w' : World} {T M B bc : Nat} {s : Rm} (h : DoOut w w' T M B bc s) (y : ByteArray) : DoOut w (w'.setCell ⟨T, 6, none⟩ (.string y)) T M B bc { s with q := y } := by
  obtain ⟨⟨K', M', cap', r, hm⟩, c⟩ := h
  exact ⟨⟨K', M', cap', r.set 6 (.string y) { s with q := y } rfl ⟨rfl, rfl, rfl, rfl⟩, hm⟩, c.set _ _⟩

set_option maxRecDepth 100000 in
set_option maxHeartbeats 8000000 in
/-- It has but begun, or is no sequence. -/
theorem esc_short (w : World) (h : RT w T K M cap B bc s) (hq : s.q.size = 1) : Calls Tryd.prog 51 #[.pointer (some ⟨T, 0, none⟩)] w fun e w' => StEnd w w' e T M B bc (esc0 s) false := by
  have HR : Hid (RT w T K M cap B bc s) := h
  have t7 : w.cell? ⟨T, 7, none⟩ = some (.int .i64 s.la) := h.at rfl
  have t6 : w.cell? ⟨T, 6, none⟩ = some (.string s.q) := h.at rfl
  have f7 := h.fz 7
  have hq' : (s.q.size : Int) < 2 := by omega
  clear h
  go_enter Tryd.func51, Tryd.ntmps51
  go_wp2
  go_ret
  exact ⟨rfl, ⟨K, M, cap, esc0_set w HR.out, .inl rfl⟩, (C3.refl _ _ _ _).set _ _⟩
set_option maxRecDepth 100000 in
set_option maxHeartbeats 8000000 in
theorem esc_none (w : World) (h : RT w T K M cap B bc s) (hq : 2 ≤ s.q.size) (hb : (s.q[1]'(by omega)).toNat ≠ 91) : Calls Tryd.prog 51 #[.pointer (some ⟨T, 0, none⟩)] w fun e w' => StEnd w w' e T M B bc { esc0 s with q := s.q.extract 2 s.q.size } true := by
  have HR : Hid (RT w T K M cap B bc s) := h
  have t7 : w.cell? ⟨T, 7, none⟩ = some (.int .i64 s.la) := h.at rfl
  have t6 : w.cell? ⟨T, 6, none⟩ = some (.string s.q) := h.at rfl
  have f7 := h.fz 7
  have f6 := h.fz 6
  have hq' : ¬ (s.q.size : Int) < 2 := by omega
  have hq2 : 1 < s.q.size := by omega
  obtain ⟨bt, hbt⟩ : ∃ b, s.q[1]'hq2 = b := ⟨_, rfl⟩
  have e1 : ((bt.toNat : Int) != 91) = true := by rw [hbt] at hb; simpa using (by omega : ¬ (bt.toNat : Int) = 91)
  clear h hb
  go_enter Tryd.func51, Tryd.ntmps51
  go_wp2
  go_ret
  exact ⟨rfl, DoOut.q ⟨⟨K, M, cap, esc0_set w HR.out, .inl rfl⟩, (C3.refl _ _ _ _).set _ _⟩ _⟩
/-- Its numbers stand from the third byte to the k-th. -/
def escR (s : Rm) (k : Nat) : Rm := if k < s.q.size then { (if 64 ≤ byt s.q.data.toList k ∧ byt s.q.data.toList k ≤ 126 then doR (esc0 s) (byt s.q.data.toList k) (parL (s.q.extract 2 k).data.toList) else esc0 s) with q := s.q.extract (k + 1) s.q.size } else esc0 s
theorem doR_q (s : Rm) (b : Int) (zs : List Int) : (doR s b zs).q = s.q := by
  unfold doR
  split
  · rfl
  · split
    · split <;> rfl
    · split <;> rfl
set_option maxRecDepth 100000 in
set_option maxHeartbeats 16000000 in
theorem esc_long (w : World) (h : RT w T K M cap B bc s) (hq : 2 ≤ s.q.size) (hqs : s.q.size ≤ 4611686018427387904) (hb : (s.q[1]'(by omega)).toNat = 91) (k : Nat) (hk : 2 ≤ k) (hks : k ≤ s.q.size) (hm : ∀ j (hj : j < s.q.size), 2 ≤ j → j < k → 48 ≤ (s.q[j]'hj).toNat ∧ (s.q[j]'hj).toNat ≤ 59) (hn : ∀ hj : k < s.q.size, ¬ (48 ≤ (s.q[k]'hj).toNat ∧ (s.q[k]'hj).toNat ≤ 59)) :
    Calls Tryd.prog 51 #[.pointer (some ⟨T, 0, none⟩)] w fun e w' => StEnd w w' e T M B bc (escR s k) (decide (k < s.q.size)) := by
  have hmix : Tryd.prog.follows .mixedOrders = true := by kernel_rfl
  obtain ⟨q, hsq⟩ : ∃ q, s.q = q := ⟨_, rfl⟩
  have HR : Hid (RT w T K M cap B bc s) := h
  have t7 : w.cell? ⟨T, 7, none⟩ = some (.int .i64 s.la) := h.at rfl
  have t6 : w.cell? ⟨T, 6, none⟩ = some (.string q) := by rw [← hsq]; exact h.at rfl
  have f7 := h.fz 7
  have HS : Hid (s.q = q) := hsq
  clear h
  subst hsq
  have hq' : ¬ (s.q.size : Int) < 2 := by omega
  have hq2 : 1 < s.q.size := by omega
  obtain ⟨bt, hbt⟩ : ∃ b, s.q[1]'hq2 = b := ⟨_, rfl⟩
  have e1 : ((bt.toNat : Int) != 91) = false := by rw [hbt] at hb; simpa using (by omega : (bt.toNat : Int) = 91)
  have H1 : Hid (RT (w.setCell ⟨T, 7, none⟩ (.int .i64 (-1))) T K M cap B bc (esc0 s)) := esc0_set w HR.out
  have B1 : Hid (C3 T M B w (w.setCell ⟨T, 7, none⟩ (.int .i64 (-1)))) := (C3.refl _ _ _ _).set _ _
  have HM : Hid (∀ j (hj : j < s.q.size), 2 ≤ j → j < k → 48 ≤ (s.q[j]'hj).toNat ∧ (s.q[j]'hj).toNat ≤ 59) := hm
  have HNN : Hid (∀ hj : k < s.q.size, ¬ (48 ≤ (s.q[k]'hj).toNat ∧ (s.q[k]'hj).toNat ≤ 59)) := hn
  clear hb hm hn HS
  go_enter Tryd.func51, Tryd.ntmps51
  go_wp2_with fail
  obtain ⟨w1, hw1⟩ : ∃ z, w.setCell ⟨T, 7, none⟩ (.int .i64 (-1)) = z := ⟨_, rfl⟩
  rw [hw1] at H1 B1 ⊢
  clear hw1 t7 f7 t6 HR
  go_loopw [4] (fun iv wr => ∃ i : Nat, 2 ≤ i ∧ i ≤ k ∧ iv = .int .i64 i ∧ wr = w1) (fun iv _ => k - (intOf iv).toNat)
  case atStart => exact ⟨2, by omega, by omega, rfl, by first | rfl | trivial⟩
  case round =>
    obtain ⟨i, hi2, hik, rfl, rfl⟩ := hrel
    by_cases hlt : i < k
    · have hil : i < s.q.size := by omega
      have hil' : (i : Int) < (s.q.size : Int) := by omega
      obtain ⟨b2, hb2⟩ : ∃ b, s.q[i]'hil = b := ⟨_, rfl⟩
      have hbd := HM.out i hil hi2 hlt
      rw [hb2] at hbd
      have g1 : (48 : Int) ≤ (b2.toNat : Int) := by omega
      have g2 : (b2.toNat : Int) ≤ 59 := by omega
      go_wp2
      go_roundw
      case rel => exact ⟨i + 1, by omega, by omega, by go_num, by first | rfl | trivial⟩
      case measure => simp [intOf]; omega
    · obtain rfl : i = k := by omega
      by_cases hend : i < s.q.size
      · have hil' : (i : Int) < (s.q.size : Int) := by omega
        have hne : ((i : Int) == (s.q.size : Int)) = false := by simpa using (by omega : ¬ (i : Int) = (s.q.size : Int))
        obtain ⟨b2, hb2⟩ : ∃ b, s.q[i]'hend = b := ⟨_, rfl⟩
        have hbd := HNN.out hend
        rw [hb2] at hbd
        have HMM : Hid (∀ b ∈ (s.q.extract 2 i).data.toList, 48 ≤ b.toNat ∧ b.toNat ≤ 59) := fun b hb => by
          obtain ⟨j, hj, rfl⟩ := List.mem_iff_getElem.1 hb
          have hjl : j < i - 2 := by rw [len_data, ByteArray.size_extract] at hj; omega
          have e : ((s.q.extract 2 i).data.toList[j]'hj) = s.q[2 + j]'(by omega) := by
            have e1 : (s.q.extract 2 i).data.toList = (s.q.data.toList.take i).drop 2 := by
              rw [ByteArray.data_extract, Array.toList_extract]
              simp [List.extract, List.drop_take]
            have e2 : (s.q.extract 2 i).data.toList[j]? = s.q.data.toList[2 + j]? := by
              rw [e1, List.getElem?_drop, List.getElem?_take, if_pos (by omega)]
            rw [List.getElem?_eq_getElem hj, Array.getElem?_toList, show s.q.data[2 + j]? = some (s.q[2 + j]'(by omega)) from Array.getElem?_eq_getElem (by show 2 + j < s.q.size; omega)] at e2
            exact Option.some.inj e2
          rw [e]
          exact HM.out (2 + j) (by omega) (by omega) (by omega)
        have PAR : Hid (∀ w, Calls Tryd.prog 71 #[.string (s.q.extract 2 i)] w fun e w' => ∃ v, e = .returned v ∧ Ints w' v (parL (s.q.extract 2 i).data.toList) ∧ Below w.heap.size w w') := fun w => params_any (s.q.extract 2 i) (by simp [ByteArray.size_extract]; omega) (fun b hb => HMM.out b hb) w
        have HBY : Hid (byt s.q.data.toList i = b2.toNat) := by show _ = _; rw [byt_at s.q i hend, hb2]
        have t6 : wr.cell? ⟨T, 6, none⟩ = some (.string s.q) := H1.out.at rfl
        have f6 := H1.out.fz 6
        by_cases g3 : (48 : Int) ≤ (b2.toNat : Int)
        · by_cases g4 : (b2.toNat : Int) ≤ 59
          · exact absurd ⟨by omega, by omega⟩ hbd
          · by_cases g5 : (64 : Int) ≤ (b2.toNat : Int)
            · by_cases g6 : (b2.toNat : Int) ≤ 126
              · have HE : Hid (escR s i = { doR (esc0 s) b2.toNat (parL (s.q.extract 2 i).data.toList) with q := s.q.extract (i + 1) s.q.size }) := by
                  show _ = _
                  unfold escR
                  rw [if_pos hend, HBY.out, if_pos (by omega)]
                obtain ⟨zs, hzs⟩ : ∃ z, parL (s.q.extract 2 i).data.toList = z := ⟨_, rfl⟩
                have ZB : Hid (0 < zs.length ∧ zs.length ≤ 16 ∧ ∀ z ∈ zs, 0 ≤ z ∧ z ≤ 999999) := by
                  refine ⟨by rw [← hzs]; exact parL_pos _, by rw [← hzs]; exact parL_len _, by rw [← hzs]; exact parL_bd _ (fun b hb => (HMM.out b hb).1)⟩
                rw [hzs] at HE PAR
                have DO : Hid (∀ (w' : World) v, Below wr.heap.size wr w' → Ints w' v zs → Calls Tryd.prog 70 #[.pointer (some ⟨T, 0, none⟩), .int .u8 b2.toNat, v] w' fun e w'' => e = .returned (.tuple #[]) ∧ DoOut w w'' T M B bc (doR (esc0 s) b2.toNat zs)) := fun w' v g hv => (do_any w' (H1.out.below g) zs v hv ZB.out.1 ZB.out.2.1 ZB.out.2.2 b2.toNat).mono fun e w'' q => by
                  obtain ⟨q1, ⟨K', M', cap', q2, q3⟩, q4⟩ := q
                  have hsz := B1.out.size
                  have hsz2 := g.size
                  exact ⟨q1, ⟨K', M', cap', q2, by rcases q3 with h | h; exact .inl h; exact .inr (by omega)⟩, (B1.out.trans (C3.below g)).trans q4⟩
                clear hzs t6 f6 HM HNN hbd
                go_wp2_with fail
                go_region_held (fun _ => True) (trivial) (first | (go_at_call 71; refine Calls.mono (PAR.out _) ?_; rintro e1 w2 ⟨v2, rfl, I2, g2⟩) | (go_at_call 70; refine Calls.mono (DO.out _ _ ((Gr.refl wr).drew.below.trans g2) I2) ?_; rintro e1 w3 ⟨rfl, D3⟩))
                all_goals
                  have D4 : Hid (DoOut w (w3.setCell ⟨T, 6, none⟩ (.string (s.q.extract (i + 1) s.q.size))) T M B bc (escR s i)) := by
                    show DoOut _ _ _ _ _ _ _
                    rw [HE.out]
                    exact D3.q _
                  have t6 : w3.cell? ⟨T, 6, none⟩ = some (.string s.q) := by
                    obtain ⟨⟨K', M', cap', q2, q3⟩, q4⟩ := D3
                    have e : w3.cell? ⟨T, 6, none⟩ = some (.string (doR (esc0 s) b2.toNat zs).q) := q2.at rfl
                    rw [doR_q] at e
                    exact e
                  have f6 : w3.frozen? ⟨T, 6, none⟩ = false := by
                    obtain ⟨⟨K', M', cap', q2, q3⟩, q4⟩ := D3
                    exact q2.fz 6
                  clear D3 g2 I2 PAR DO HE
                  go_wp2
                  go_ret
                  exact ⟨by first | rfl | (rw [decide_eq_true hend]; rfl), D4.out⟩
              · have HE : Hid (escR s i = { esc0 s with q := s.q.extract (i + 1) s.q.size }) := by
                  show _ = _
                  unfold escR
                  rw [if_pos hend, HBY.out, if_neg (by omega)]
                go_wp2
                go_ret
                refine ⟨by first | rfl | (rw [decide_eq_true hend]; rfl), ?_⟩
                rw [HE.out]
                exact DoOut.q ⟨⟨K, M, cap, H1.out, .inl rfl⟩, B1.out⟩ _
            · have HE : Hid (escR s i = { esc0 s with q := s.q.extract (i + 1) s.q.size }) := by
                show _ = _
                unfold escR
                rw [if_pos hend, HBY.out, if_neg (by omega)]
              go_wp2
              go_ret
              refine ⟨by first | rfl | (rw [decide_eq_true hend]; rfl), ?_⟩
              rw [HE.out]
              exact DoOut.q ⟨⟨K, M, cap, H1.out, .inl rfl⟩, B1.out⟩ _
        · have HE : Hid (escR s i = { esc0 s with q := s.q.extract (i + 1) s.q.size }) := by
            show _ = _
            unfold escR
            rw [if_pos hend, HBY.out, if_neg (by omega)]
          go_wp2
          go_ret
          refine ⟨by first | rfl | (rw [decide_eq_true hend]; rfl), ?_⟩
          rw [HE.out]
          exact DoOut.q ⟨⟨K, M, cap, H1.out, .inl rfl⟩, B1.out⟩ _
      · have hil' : ¬ (i : Int) < (s.q.size : Int) := by omega
        have hne : ((i : Int) == (s.q.size : Int)) = true := by simpa using (by omega : (i : Int) = (s.q.size : Int))
        have HE : Hid (escR s i = esc0 s) := by show _ = _; unfold escR; rw [if_neg hend]
        go_wp2
        go_ret
        refine ⟨by first | rfl | (rw [decide_eq_false hend]; rfl), ?_⟩
        rw [HE.out]
        exact ⟨⟨K, M, cap, H1.out, .inl rfl⟩, B1.out⟩
end

end Go.Proofs.YtlfffpoeioecjaaDoor
