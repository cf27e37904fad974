/-
  The program's reader: attributeOf.
-/
import Derived.Test.YtnkebfmlaliddaaGreatDoorP17
import Derived.Test.YtnkebfmlaliddaaGreatDoorP01
import Derived.Test.YtnkebfmlaliddaaGreatDoorP03
import Derived.Laws.ResultCell
namespace Go.Proofs.YtnkebfmlaliddaaGreatDoor
open Go.RowKit
set_option linter.unusedVariables false

/-- The first row that bears the name and is of the kind, from j on. -/
def srchF (name : ByteArray) (kind : Nat) : Nat → Nat → Option Nat
  | 0, _ => none
  | f + 1, j => if nmAt j = name ∧ ofK (kdAt j) kind = true then some j else srchF name kind f (j + 1)
def zeroA : Value := .agg #[.string ⟨#[]⟩, .int .u64 0, .int .i64 0, .int .i64 0, .bool false, .nilFunc]
/-- What attributeOf answers. -/
def aofV (name : ByteArray) (kind : Nat) (ws : List ByteArray) (no tw : Addr) : Value := match srchF name kind 12 0 with
  | none => .tuple #[zeroA, errV no]
  | some j => if 0 ≤ findF ws name 0 then .tuple #[zeroA, errV tw] else .tuple #[rowA j, .nilIface]
theorem results_line {fn : Func} {p u : Tmp} {ty : TypeId} (h : fn.results = #[.cell p ty, .tmp u]) (tmps : Array Value) (P : Program) (w : World) (g : Nat) (cs : Array Value)
    (hp : tmps.getD p undef = .pointer (some ⟨g, 0, none⟩)) (hl : (loadVar ty ⟨g, 0, none⟩).run P w = .ok (.agg cs) w) :
    (results fn tmps).run P w = .ok (.tuple #[.agg cs, tmps.getD u undef]) w := by
  rw [results_cell_tmp h, hp]
  simp [asAddr, hl]
theorem row6_set {W : World} {b : Nat} {T : TypeId} {o0 o1 o2 o3 o4 o5 : Value} (h : W.heap[b]? = some (.cells #[o0, o1, o2, o3, o4, o5] T (0, 0))) (v0 v1 v2 v3 v4 v5 : Value) :
    ((((((W.setCell ⟨b, 0, none⟩ v0).setCell ⟨b, 1, none⟩ v1).setCell ⟨b, 2, none⟩ v2).setCell ⟨b, 3, none⟩ v3).setCell ⟨b, 4, none⟩ v4).setCell ⟨b, 5, none⟩ v5).heap[b]? = some (.cells #[v0, v1, v2, v3, v4, v5] T (0, 0)) :=
  heap_setCell_same _ b 5 _ T _ (heap_setCell_same _ b 4 _ T _ (heap_setCell_same _ b 3 _ T _ (heap_setCell_same _ b 2 _ T _ (heap_setCell_same _ b 1 _ T _ (heap_setCell_same _ b 0 _ T _ h)))))
theorem heap_drew' (X : World) : X.drew.heap = X.heap := rfl
theorem row6_drew {W : World} {b : Nat} {T : TypeId} {o0 o1 o2 o3 o4 o5 : Value} (h : W.heap[b]? = some (.cells #[o0, o1, o2, o3, o4, o5] T (0, 0))) (v0 v1 v2 v3 v4 v5 : Value) :
    (((((((W.setCell ⟨b, 0, none⟩ v0).setCell ⟨b, 1, none⟩ v1).setCell ⟨b, 2, none⟩ v2).setCell ⟨b, 3, none⟩ v3).setCell ⟨b, 4, none⟩ v4).setCell ⟨b, 5, none⟩ v5).drew).heap[b]? = some (.cells #[v0, v1, v2, v3, v4, v5] T (0, 0)) := by rw [heap_drew']; exact row6_set h v0 v1 v2 v3 v4 v5
theorem below_drew' {B : Nat} {w w' : World} (h : Below B w w') : Below B w w'.drew := ⟨h.os, h.tape, h.output, h.size, h.block⟩
theorem below_set6 {B b : Nat} {W W' : World} (h : Below B W W') (hb : B ≤ b) (v0 v1 v2 v3 v4 v5 : Value) : Below B W ((((((W'.setCell ⟨b, 0, none⟩ v0).setCell ⟨b, 1, none⟩ v1).setCell ⟨b, 2, none⟩ v2).setCell ⟨b, 3, none⟩ v3).setCell ⟨b, 4, none⟩ v4).setCell ⟨b, 5, none⟩ v5) :=
  below_set' (below_set' (below_set' (below_set' (below_set' (below_set' h hb v0) hb v1) hb v2) hb v3) hb v4) hb v5
theorem kd_four (j : Nat) (hj : j < 12) : kdAt j = 127 ∨ kdAt j = 3 ∨ kdAt j = 8 ∨ kdAt j = 32 := by
  have : j = 0 ∨ j = 1 ∨ j = 2 ∨ j = 3 ∨ j = 4 ∨ j = 5 ∨ j = 6 ∨ j = 7 ∨ j = 8 ∨ j = 9 ∨ j = 10 ∨ j = 11 := by omega
  rcases this with rfl | rfl | rfl | rfl | rfl | rfl | rfl | rfl | rfl | rfl | rfl | rfl <;> decide
theorem Txts.below {W W' : World} {v : Value} {ws : List ByteArray} (h : Txts W v ws) (hb : Below W.heap.size W W') : Txts W' v ws := by
  obtain ⟨p, c, rfl, rfl | ⟨blk, rfl, h1, h2⟩⟩ := h
  · exact ⟨p, c, rfl, .inl rfl⟩
  · exact ⟨_, c, rfl, .inr ⟨blk, rfl, Nat.lt_of_lt_of_le h1 hb.size, fun j hj => (hb.cell (p := ⟨blk, 0 + j, none⟩) h1).trans (h2 j hj)⟩⟩

set_option maxRecDepth 100000 in
set_option maxHeartbeats 4000000 in
theorem attributeOf_any (rb ab : Nat) (s : ByteArray) (i : Nat) (nv fv : Value) (kind : Nat) (name : ByteArray) (v : Value) (ws : List ByteArray) (no tw : Addr) (w : World) (h : PR w rb s i (.slice (some ⟨ab, 0, none⟩) 12 12) nv fv) (ht : Tab w ab) (hk : kind < 7) (hv : Txts w v ws) (hn : ws.length ≤ 1099511627776)
    (en : w.cell? ⟨6, 0, none⟩ = some (errV no)) (et : w.cell? ⟨4, 0, none⟩ = some (errV tw)) :
    Calls Tryz.prog 99 #[.pointer (some ⟨rb, 0, none⟩), .int .i64 (kind : Int), .string name, v] w fun e w' => e = .returned (aofV name kind ws no tw) ∧ Below w.heap.size w w' := by
  have EN : Hid (w.cell? ⟨6, 0, none⟩ = some (.iface 240 (.pointer (some no)))) := en
  have ET : Hid (w.cell? ⟨4, 0, none⟩ = some (.iface 240 (.pointer (some tw)))) := et
  have hl5 : 6 < w.heap.size := World.block_lt_of_cell? w _ en
  have hl3 : 4 < w.heap.size := World.block_lt_of_cell? w _ et
  have HT : Hid (Tab w ab) := ht
  have HX : Hid (Txts w v ws) := hv
  have c2 := h.c2
  have hrl := h.lt
  have hal := ht.lt
  have HI : Hid (∀ n m mo wi sg fv w, (m = 127 ∨ m = 3 ∨ m = 8 ∨ m = 32) → Calls Tryz.prog 113 #[.agg #[.string n, .int .u64 ((m : Nat) : Int), .int .i64 mo, .int .i64 wi, .bool sg, fv], .int .i64 (kind : Int)] w fun e w' => e = .returned (.bool (ofK m kind)) ∧ Below w.heap.size w w') := fun n m mo wi sg fv w hm => isOf_any n m kind mo wi sg fv w hm hk
  have HV : Hid (∀ r, srchF name kind 12 0 = r → aofV name kind ws no tw = match r with
    | none => .tuple #[zeroA, errV no]
    | some j => if 0 ≤ findF ws name 0 then .tuple #[zeroA, errV tw] else .tuple #[rowA j, .nilIface]) := fun r hr => by unfold aofV; rw [hr]
  obtain ⟨pv, cv, rfl, _⟩ : ∃ p c, v = .slice p ws.length c ∧ True := by obtain ⟨p, c, e, _⟩ := hv; exact ⟨p, c, e, trivial⟩
  clear h ht hv en et
  go_enter Tryz.func99, Tryz.ntmps99
  go_wp2
  go_loopw [17] (fun u wr => ∃ j : Nat, u = .int .i64 (j : Int) ∧ j ≤ 12 ∧ Hid (srchF name kind 12 0 = srchF name kind (12 - j) j) ∧ Hid (Below w.heap.size w wr) ∧ Hid (wr.heap[w.heap.size]? = some (.cells #[.string ⟨#[]⟩, .int .u64 0, .int .i64 0, .int .i64 0, .bool false, .nilFunc] 64 (0, 0)))) (fun u _ => 12 - (intOf u).toNat)
  case atStart => exact ⟨0, rfl, by omega, rfl, (Below.refl _ _).alloc (Nat.le_refl _) _, heap_alloc_new _ _⟩
  case round =>
    obtain ⟨j, rfl, hj, HS, HB, HR⟩ := hrel
    have hrs : w.heap.size < wr.heap.size := (Array.getElem?_eq_some_iff.1 HR.out).1
    have en : wr.cell? ⟨6, 0, none⟩ = some (.iface 240 (.pointer (some no))) := (HB.out.cell (p := ⟨6, 0, none⟩) hl5).trans EN.out
    by_cases hlt : j < 12
    · have hlt' : (j : Int) < 12 := by omega
      have hT := HT.out.fr (Fr.below (r := w.heap.size) HB.out (Nat.le_refl _)) hal (by omega)
      obtain ⟨t0, t1, t2, t3, t4, t5⟩ := hT.at hlt
      have hT2 := hT.lt
      have HK4 : Hid (kdAt j = 127 ∨ kdAt j = 3 ∨ kdAt j = 8 ∨ kdAt j = 32) := kd_four j hlt
      have HS2 : Hid (srchF name kind 12 0 = if nmAt j = name ∧ ofK (kdAt j) kind = true then some j else srchF name kind (12 - (j + 1)) (j + 1)) := by
        show _ = _
        rw [HS.out, show 12 - j = (12 - (j + 1)) + 1 by omega]; rfl
      have HRW : Hid (rowA j = .agg #[.string (nmAt j), .int .u64 (kdAt j : Int), .int .i64 (moAt j), .int .i64 (woAt j), .bool (sgAt j), .func (.func (fnAt j)) #[] #[]]) := rfl
      obtain ⟨g, hg⟩ : ∃ g, fnAt j = g := ⟨_, rfl⟩
      obtain ⟨a0, h0⟩ : ∃ x, nmAt j = x := ⟨_, rfl⟩
      obtain ⟨a1, h1⟩ : ∃ x, kdAt j = x := ⟨_, rfl⟩
      obtain ⟨a2, h2⟩ : ∃ x, moAt j = x := ⟨_, rfl⟩
      obtain ⟨a3, h3⟩ : ∃ x, woAt j = x := ⟨_, rfl⟩
      obtain ⟨a4, h4⟩ : ∃ x, sgAt j = x := ⟨_, rfl⟩
      rw [h0] at t0 HS2
      rw [h1] at t1 HK4 HS2
      rw [h2] at t2
      rw [h3] at t3
      rw [h4] at t4
      rw [hg] at t5
      rw [h0, h1, h2, h3, h4, hg] at HRW
      clear h0 h1 h2 h3 h4 hg hT
      by_cases e0 : a0 = name
      · subst e0
        have CI : Hid (∀ W, Calls Tryz.prog 113 #[.agg #[.string a0, .int .u64 (a1 : Int), .int .i64 a2, .int .i64 a3, .bool a4, .func (.func g) #[] #[]], .int .i64 (kind : Int)] W fun e w' => e = .returned (.bool (ofK a1 kind)) ∧ Below W.heap.size W w') := fun W => HI.out _ _ _ _ _ _ _ HK4.out
        obtain ⟨ok, hok⟩ : ∃ x, ofK a1 kind = x := ⟨_, rfl⟩
        rw [hok] at CI
        rw [hok] at HS2
        clear hok
        go_wp2_with fail
        refine (CI.out _).mono ?_
        rintro e w2 ⟨rfl, hb2⟩
        have HB2 : Hid (Below w.heap.size w w2) := (HB.out.alloc (Nat.le_of_lt hrs) _).trans (hb2.mono (by simp; omega))
        have HR2 : Hid (w2.heap[w.heap.size]? = some (.cells #[.string ⟨#[]⟩, .int .u64 0, .int .i64 0, .int .i64 0, .bool false, .nilFunc] 64 (0, 0))) := (hb2.block _ (by simp; omega)).trans ((heap_alloc_old _ _ hrs).trans HR.out)
        have HA2 : Hid (w2.heap[wr.heap.size]? = some (.cells #[.string a0, .int .u64 (a1 : Int), .int .i64 a2, .int .i64 a3, .bool a4, .func (.func g) #[] #[]] 64 (0, 0))) := (hb2.block _ (by simp)).trans (heap_alloc_new _ _)
        clear hb2 t0 t1 t2 t3 t4 t5 en
        cases ok with
        | false =>
          have HS3 : Hid (srchF a0 kind 12 0 = srchF a0 kind (12 - (j + 1)) (j + 1)) := by show _ = _; rw [HS2.out, if_neg (by simp)]
          clear HS2
          go_wp2
          go_roundw
          case rel => exact ⟨j + 1, by go_num, by omega, HS3.out, HB2.out, HR2.out⟩
          case measure => simp [intOf]; omega
        | true =>
          have HS3 : Hid (srchF a0 kind 12 0 = some j) := by show _ = _; rw [HS2.out, if_pos (by simp)]
          clear HS2
          have CC : Hid (Calls Tryz.prog 114 #[.slice pv ws.length cv, .string a0] w2 fun e w' => e = .returned (.bool (decide (0 ≤ findF ws a0 0))) ∧ w' = w2) := contains_any ws a0 _ w2 (HX.out.below HB2.out) hn
          by_cases hf : 0 ≤ findF ws a0 0
          · have HVV : Hid (aofV a0 kind ws no tw = .tuple #[zeroA, errV tw]) := by show _ = _; rw [HV.out _ HS3.out]; simp only [if_pos hf]
            rw [decide_eq_true hf] at CC
            have et : w2.cell? ⟨4, 0, none⟩ = some (.iface 240 (.pointer (some tw))) := (HB2.out.cell (p := ⟨4, 0, none⟩) hl3).trans ET.out
            have hr2 := HR2.out
            have hr2s : w.heap.size < w2.heap.size := (Array.getElem?_eq_some_iff.1 hr2).1
            have z0 : w2.cell? ⟨w.heap.size, 0, none⟩ = some (.string ⟨#[]⟩) := by simp [World.cell?, hr2]
            have z1 : w2.cell? ⟨w.heap.size, 1, none⟩ = some (.int .u64 0) := by simp [World.cell?, hr2]
            have z2 : w2.cell? ⟨w.heap.size, 2, none⟩ = some (.int .i64 0) := by simp [World.cell?, hr2]
            have z3 : w2.cell? ⟨w.heap.size, 3, none⟩ = some (.int .i64 0) := by simp [World.cell?, hr2]
            have z4 : w2.cell? ⟨w.heap.size, 4, none⟩ = some (.bool false) := by simp [World.cell?, hr2]
            have z5 : w2.cell? ⟨w.heap.size, 5, none⟩ = some .nilFunc := by simp [World.cell?, hr2]
            have zf : ∀ q, w2.frozen? ⟨w.heap.size, q, none⟩ = false := fun q => frozen_of_row _ _ _ _ _ hr2
            clear hr2
            go_wp2_with fail
            refine CC.out.mono ?_
            rintro e w3 ⟨rfl, hw3⟩
            obtain rfl := hw3.symm
            go_wp2_with fail
            have hg3 : 4 ≠ w.heap.size := by omega
            go_region
            all_goals
              go_wp2
              refine bodyPost_ret (results_line rfl _ _ _ w.heap.size _ rfl (run_loadVar_row _ _ _ _ _ _ _ (row6_drew HR2.out _ _ _ _ _ _) Tryz.underlying64 rfl (by kernel_rfl))) rfl ?_
              exact ⟨by rw [HVV.out]; rfl, below_drew' (below_set6 HB2.out (Nat.le_refl _) _ _ _ _ _ _)⟩
          · have HVV : Hid (aofV a0 kind ws no tw = .tuple #[rowA j, .nilIface]) := by show _ = _; rw [HV.out _ HS3.out]; simp only [if_neg hf]
            rw [decide_eq_false hf] at CC
            have hr2 := HR2.out
            have hr2s : w.heap.size < w2.heap.size := (Array.getElem?_eq_some_iff.1 hr2).1
            have z0 : w2.cell? ⟨w.heap.size, 0, none⟩ = some (.string ⟨#[]⟩) := by simp [World.cell?, hr2]
            have z1 : w2.cell? ⟨w.heap.size, 1, none⟩ = some (.int .u64 0) := by simp [World.cell?, hr2]
            have z2 : w2.cell? ⟨w.heap.size, 2, none⟩ = some (.int .i64 0) := by simp [World.cell?, hr2]
            have z3 : w2.cell? ⟨w.heap.size, 3, none⟩ = some (.int .i64 0) := by simp [World.cell?, hr2]
            have z4 : w2.cell? ⟨w.heap.size, 4, none⟩ = some (.bool false) := by simp [World.cell?, hr2]
            have z5 : w2.cell? ⟨w.heap.size, 5, none⟩ = some .nilFunc := by simp [World.cell?, hr2]
            have zf : ∀ q, w2.frozen? ⟨w.heap.size, q, none⟩ = false := fun q => frozen_of_row _ _ _ _ _ hr2
            have ha2 := HA2.out
            have y0 : w2.cell? ⟨wr.heap.size, 0, none⟩ = some (.string a0) := by simp [World.cell?, ha2]
            have y1 : w2.cell? ⟨wr.heap.size, 1, none⟩ = some (.int .u64 (a1 : Int)) := by simp [World.cell?, ha2]
            have y2 : w2.cell? ⟨wr.heap.size, 2, none⟩ = some (.int .i64 a2) := by simp [World.cell?, ha2]
            have y3 : w2.cell? ⟨wr.heap.size, 3, none⟩ = some (.int .i64 a3) := by simp [World.cell?, ha2]
            have y4 : w2.cell? ⟨wr.heap.size, 4, none⟩ = some (.bool a4) := by simp [World.cell?, ha2]
            have y5 : w2.cell? ⟨wr.heap.size, 5, none⟩ = some (.func (.func g) #[] #[]) := by simp [World.cell?, ha2]
            clear hr2 ha2
            go_wp2_with fail
            refine CC.out.mono ?_
            rintro e w3 ⟨rfl, hw3⟩
            obtain rfl := hw3.symm
            go_wp2
            refine bodyPost_ret (results_line rfl _ _ _ w.heap.size _ rfl (run_loadVar_row _ _ _ _ _ _ _ (row6_set HR2.out _ _ _ _ _ _) Tryz.underlying64 rfl (by kernel_rfl))) rfl ?_
            exact ⟨by rw [HVV.out, HRW.out]; rfl, below_set6 HB2.out (Nat.le_refl _) _ _ _ _ _ _⟩
      · have e1 : (a0.toList == name.toList) = false := str_ne e0
        have HS3 : Hid (srchF name kind 12 0 = srchF name kind (12 - (j + 1)) (j + 1)) := by show _ = _; rw [HS2.out, if_neg (fun h => e0 h.1)]
        clear HS2
        go_wp2
        go_roundw
        case rel =>
          exact ⟨j + 1, by go_num, by omega, HS3.out, HB.out.alloc (by omega) _, (heap_alloc_old _ _ hrs).trans HR.out⟩
        case measure => simp [intOf]; omega
    · obtain rfl : j = 12 := by omega
      have HS3 : Hid (srchF name kind 12 0 = none) := HS.out
      have HVV : Hid (aofV name kind ws no tw = .tuple #[zeroA, errV no]) := by show _ = _; rw [HV.out _ HS3.out]
      have hr2 := HR.out
      have z0 : wr.cell? ⟨w.heap.size, 0, none⟩ = some (.string ⟨#[]⟩) := by simp [World.cell?, hr2]
      have z1 : wr.cell? ⟨w.heap.size, 1, none⟩ = some (.int .u64 0) := by simp [World.cell?, hr2]
      have z2 : wr.cell? ⟨w.heap.size, 2, none⟩ = some (.int .i64 0) := by simp [World.cell?, hr2]
      have z3 : wr.cell? ⟨w.heap.size, 3, none⟩ = some (.int .i64 0) := by simp [World.cell?, hr2]
      have z4 : wr.cell? ⟨w.heap.size, 4, none⟩ = some (.bool false) := by simp [World.cell?, hr2]
      have z5 : wr.cell? ⟨w.heap.size, 5, none⟩ = some .nilFunc := by simp [World.cell?, hr2]
      have zf : ∀ q, wr.frozen? ⟨w.heap.size, q, none⟩ = false := fun q => frozen_of_row _ _ _ _ _ hr2
      have hg5 : 6 ≠ w.heap.size := by omega
      clear hr2 HS
      go_wp2_with fail
      go_region
      all_goals
        go_wp2
        refine bodyPost_ret (results_line rfl _ _ _ w.heap.size _ rfl (run_loadVar_row _ _ _ _ _ _ _ (row6_drew HR.out _ _ _ _ _ _) Tryz.underlying64 rfl (by kernel_rfl))) rfl ?_
        exact ⟨by rw [HVV.out]; rfl, below_drew' (below_set6 HB.out (Nat.le_refl _) _ _ _ _ _ _)⟩

end Go.Proofs.YtnkebfmlaliddaaGreatDoor
