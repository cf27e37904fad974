/-
  strings.Replacer: build, for old and new of one and two bytes.
-/
import Derived.Test.YtnkebfmlaliddaaGreatDoorP09
import Derived.Laws.IdiomStrings
import Derived.Laws.AppendOwn
import Derived.OwnWalk
import Derived.Deep.WholeRow
import Derived.Lib.LazyBuf
namespace Go.Proofs.YtnkebfmlaliddaaGreatDoor
open Go.RowKit Go.Sort
set_option linter.unusedVariables false

/-- The three bytes that are escaped, in the order in which they are laid, and what stands for them. -/
def oA (k : Nat) : Nat := [10, 92, 34][k]?.getD 0
def nA (k : Nat) : Nat := [110, 92, 34][k]?.getD 0
/-- The pairs that are handed in. -/
def OnAt (W : World) (O : Nat) : Prop := ∀ k, k < 3 → W.cell? ⟨O, 4 - 2 * k, none⟩ = some (.string ⟨#[UInt8.ofNat (oA k)]⟩) ∧ W.cell? ⟨O, 4 - 2 * k + 1, none⟩ = some (.string ⟨#[92, UInt8.ofNat (nA k)]⟩)

theorem oA_lt (k : Nat) (h : k < 3) : oA k < 256 := by
  match k, h with
  | 0, _ => decide
  | 1, _ => decide
  | 2, _ => decide
theorem oA_ne (k j : Nat) (h : k < 3) (hj : j < k) : oA k ≠ oA j := by
  match k, j, h, hj with
  | 1, 0, _, _ => decide
  | 2, 0, _, _ => decide
  | 2, 1, _, _ => decide
theorem nA_lt (k : Nat) (h : k < 3) : nA k < 256 := by
  match k, h with
  | 0, _ => decide
  | 1, _ => decide
  | 2, _ => decide
theorem row_head (b : UInt8) (cp : Nat) : (bytesRow ⟨#[92, b]⟩ cp)[0]? = some (.int .u8 92) ∧ (bytesRow ⟨#[92, b]⟩ cp)[1]? = some (.int .u8 (b.toNat : Int)) := by
  unfold bytesRow
  constructor
  · rw [Array.getElem?_append_left (by simp)]; simp
  · rw [Array.getElem?_append_left (by simp)]; simp
def oStr (k : Nat) : Value := .string ⟨#[UInt8.ofNat (oA k)]⟩
/-- What is laid of the table behind k rounds. -/
structure BsK (w W : World) (X k : Nat) (tv : Value) (rv : Nat → Value) : Prop where
  low : w.heap.size ≤ X
  at_ : ∃ C, W.heap[X]? = some (.cells C 187 (0, 0)) ∧ C.size = 257 ∧ C[256]? = some tv ∧ ∀ x, x < 256 → C[x]? = some (rv x)
  nil : ∀ x, x < 256 → (∀ j, j < k → x ≠ oA j) → rv x = .slice none 0 0
  esc : ∀ j, j < k → ∃ g cap cb fz, rv (oA j) = .slice (some ⟨g, 0, none⟩) 2 cap ∧ 2 ≤ cap ∧ w.heap.size ≤ g ∧ W.heap[g]? = some (.cells cb 5 fz) ∧ cb[0]? = some (.int .u8 92) ∧ cb[1]? = some (.int .u8 (nA j : Int))
  own : W.ownsRow w.heap.size 9 1 tv k ((List.range k).map oStr)
  ne : tv.ownBlock ≠ some X
  bel : Below w.heap.size w W
theorem BsK.cell {w W : World} {X k : Nat} {tv : Value} {rv : Nat → Value} (h : BsK w W X k tv rv) : (∀ x, x < 256 → W.cell? ⟨X, x, none⟩ = some (rv x)) ∧ W.cell? ⟨X, 256, none⟩ = some tv ∧ (∀ j, W.frozen? ⟨X, j, none⟩ = false) ∧ X < W.heap.size := by
  obtain ⟨C, c1, c2, c3, c4⟩ := h.at_
  exact ⟨fun x hx => by rw [Lib.cell_of_heap c1]; exact c4 x hx, by rw [Lib.cell_of_heap c1]; exact c3, fun j => Lib.frozen_of_heap c1 j, (Array.getElem?_eq_some_iff.1 c1).1⟩
theorem repl_ne_str : (187 : TypeId) ≠ 9 := by decide
theorem byte_ne_str : (5 : TypeId) ≠ 9 := by decide

set_option maxRecDepth 100000 in
set_option maxHeartbeats 8000000 in
theorem build_any (R O c : Nat) (w : World) (hOl : O < w.heap.size) (h4 : w.cell? ⟨R, 4, none⟩ = some (.slice (some ⟨O, 0, none⟩) 6 c)) (hO : Hid (OnAt w O)) :
    Calls Tryz.prog 98 #[.pointer (some ⟨R, 0, none⟩)] w fun e w' => ∃ X, e = .returned (.iface 188 (.pointer (some ⟨X, 0, none⟩))) ∧ ∃ tv rv, Hid (BsK w w' X 3 tv rv) := by
  have hO2 : Hid (∀ i, i < 3 → ∃ a b, w.cell? ⟨O, 2 * i, none⟩ = some (.string ⟨#[a]⟩) ∧ w.cell? ⟨O, 2 * i + 1, none⟩ = some (.string ⟨#[92, b]⟩)) := fun i hi => by
    have := hO.out (2 - i) (by omega)
    rw [show 4 - 2 * (2 - i) = 2 * i by omega] at this
    exact ⟨_, _, this⟩
  obtain ⟨i0, hi, hz0, hz1, hz2⟩ := info_parts (by kernel_rfl : (Tryz.prog.info? 9).map (fun i => (i.zero, i.size, i.bytes)) = some (some (.string ⟨#[]⟩), 1, 16))
  obtain ⟨w1, hmk, hown, hgr⟩ := run_make_own (P := Tryz.prog) w w.heap.size 76 9 i0 (.string ⟨#[]⟩) 1 (by kernel_rfl) hi hz0 hz1 .i64 .i64 3 (by rw [hz2]; omega) (by unfold maxLen; omega) (Nat.le_refl _)
  have hmk : (Instr.makeSlice 76 (.int .i64 0) (.int .i64 3)).run Tryz.prog w = .ok (.slice (some ⟨w.heap.size, 0, none⟩) 0 3) w1 := hmk
  have hb1 : Below w.heap.size w w1 := (Below.refl _ w).grown hgr (Nat.le_refl _) (fun k hk => by cases hk)
  obtain ⟨C0, hC0⟩ : ∃ z, Tryz.zeroCells187.setIfInBounds 256 (Value.slice (some ⟨w.heap.size, 0, none⟩) 0 3) = z := ⟨_, rfl⟩
  have hZ : Tryz.zeroCells187 = Array.replicate 257 (Value.slice none 0 0) := by kernel_rfl
  have hst : (storeCells ⟨w1.heap.size, 0, none⟩ (Tryz.zeroCells187.toList.set 256 (Value.slice (some ⟨w.heap.size, 0, none⟩) 0 3))).run Tryz.prog (w1.alloc (.cells Tryz.zeroCells187 187)) = .ok () (w1.alloc (.cells C0 187)) := by
    have := run_storeCells_new (P := Tryz.prog) w1 187 Tryz.zeroCells187 C0 (by rw [← hC0, Array.size_setIfInBounds, Tryz.zeroCells187_size]; kernel_rfl) (by rw [← hC0, Array.size_setIfInBounds]) (by
      rw [← hC0, hZ, Array.all_eq_true_iff_forall_mem]
      intro x hx
      rcases Array.mem_or_eq_of_mem_setIfInBounds hx with h | h
      · rw [(Array.mem_replicate.1 h).2]; rfl
      · rw [h]; rfl)
    rw [← hC0] at this ⊢
    rw [Array.toList_setIfInBounds] at this
    exact this
  obtain ⟨W1, hW1⟩ : ∃ z, w1.alloc (.cells C0 187) = z := ⟨_, rfl⟩
  obtain ⟨X, hX⟩ : ∃ z, w1.heap.size = z := ⟨_, rfl⟩
  have HS : Hid (BsK w W1 X 0 (.slice (some ⟨w.heap.size, 0, none⟩) 0 3) (fun _ => .slice none 0 0)) := by
    have hat : W1.heap[X]? = some (.cells C0 187 (0, 0)) := by rw [← hW1, ← hX]; show (w1.heap.push _)[w1.heap.size]? = _; exact Array.getElem?_push_size
    have hlw : w.heap.size < w1.heap.size := by have := hown.lt w.heap.size rfl; exact this.2
    have hbl : Below w1.heap.size w1 W1 := by rw [← hW1]; exact ((Gr.refl w1).alloc _).below
    refine ⟨by rw [← hX]; exact hb1.size, ⟨C0, hat, ?_, ?_, fun x hx => ?_⟩, fun x hx _ => rfl, fun j hj => by omega, ?_, ?_, hb1.trans (hbl.mono hb1.size)⟩
    · rw [← hC0, Array.size_setIfInBounds, hZ]; rfl
    · rw [← hC0, hZ, Array.getElem?_setIfInBounds_self]; rfl
    · rw [← hC0, hZ, Array.getElem?_setIfInBounds_ne (by omega), Array.getElem?_replicate, if_pos (by omega)]
    · have g1 : w1.grownBy W1 none := by rw [← hW1]; exact World.grownBy_alloc w1 _ none
      exact hown.kept g1 (Or.inr (by simp [Value.ownBlock]))
    · show some w.heap.size ≠ some X; rw [← hX]; simp; omega
  rw [hW1] at hst
  rw [hX] at hst
  have HSX : Hid (w1.heap.size = X) := hX
  clear hown hgr hC0 hZ hW1
  go_enter Tryz.func98, Tryz.ntmps98
  go_wp2
  go_loopw [4, 5] (fun av iv wr => ∃ k : Nat, k ≤ 3 ∧ iv = .int .i64 (2 * (k : Int)) ∧ av = .bool (decide (k = 0)) ∧ wr = w) (fun _ iv _ => 6 - (intOf iv).toNat)
  case atStart => exact ⟨0, by omega, rfl, rfl, rfl⟩
  case round =>
    obtain ⟨k, hk, rfl, rfl, hw⟩ := hrel
    obtain rfl := hw.symm
    by_cases hk3 : k < 3
    · obtain ⟨a, b, c1, c2⟩ := hO2.out k hk3
      have e1 : (2 * (k : Int)) < 6 := by omega
      have e2 : (2 * (k : Int)).toNat = 2 * k := by omega
      have e3 : (2 * (k : Int) + 1).toNat = 2 * k + 1 := by omega
      go_wp2
      go_roundw
      case rel => exact ⟨k + 1, by omega, by go_num, by simp, by first | rfl | trivial⟩
      case measure => simp [intOf]; omega
    · obtain rfl : k = 3 := by omega
      have e1 : ¬ (2 * ((3 : Nat) : Int)) < 6 := by omega
      go_wp2
      go_loopw [12] (fun iv wr => ∃ (k : Nat) (tv : Value) (rv : Nat → Value), k ≤ 3 ∧ iv = .int .i64 (4 - 2 * (k : Int)) ∧ Hid (BsK w wr X k tv rv)) (fun iv _ => (intOf iv + 2).toNat)
      case atStart => exact ⟨0, _, _, by omega, rfl, HS⟩
      case round =>
        obtain ⟨k, tv, rv, hk, rfl, HB⟩ := hrel
        by_cases hk3 : k < 3
        · obtain ⟨hc1, hc2⟩ := hO.out k hk3
          obtain ⟨cx, ct, cf, cl⟩ := HB.out.cell
          obtain ⟨x, hx⟩ : ∃ z, oA k = z := ⟨_, rfl⟩
          obtain ⟨y, hy⟩ : ∃ z, nA k = z := ⟨_, rfl⟩
          have hx2 : x < 256 := by rw [← hx]; exact oA_lt k hk3
          have hy2 : y < 256 := by rw [← hy]; exact nA_lt k hk3
          have HOK : Hid (oStr k = .string ⟨#[UInt8.ofNat x]⟩) := by show _ = _; unfold oStr; rw [hx]
          rw [hx] at hc1
          rw [hy] at hc2
          obtain ⟨a, ha⟩ : ∃ z, UInt8.ofNat x = z := ⟨_, rfl⟩
          obtain ⟨b, hb⟩ : ∃ z, UInt8.ofNat y = z := ⟨_, rfl⟩
          have hax : a.toNat = x := by rw [← ha]; exact UInt8.toNat_ofNat_of_lt' hx2
          have hby : b.toNat = y := by rw [← hb]; exact UInt8.toNat_ofNat_of_lt' hy2
          rw [ha] at hc1 HOK
          rw [hb] at hc2
          obtain ⟨i, hi4⟩ : ∃ z, 4 - 2 * k = z := ⟨_, rfl⟩
          have ei : (4 - 2 * (k : Int)) = (i : Int) := by omega
          rw [hi4] at hc1 hc2
          have c1 : wr.cell? ⟨O, i, none⟩ = some (.string ⟨#[a]⟩) := (HB.out.bel.cell (p := ⟨O, i, none⟩) hOl).trans hc1
          have c2 : wr.cell? ⟨O, i + 1, none⟩ = some (.string ⟨#[92, b]⟩) := (HB.out.bel.cell (p := ⟨O, i + 1, none⟩) hOl).trans hc2
          have cn : wr.cell? ⟨X, a.toNat, none⟩ = some (.slice none 0 0) := by
            rw [hax, cx x hx2, HB.out.nil x hx2 (fun j hj => by rw [← hx]; exact oA_ne k j hk3 hj)]
          have hbd : i + 2 ≤ 6 := by omega
          have hal : a.toNat < 256 := by omega
          rw [ei]
          have HX1 : Hid (x = oA k) := hx.symm
          have HX2 : Hid (y = nA k) := hy.symm
          have HX3 : Hid (a.toNat = x) := hax
          have HX4 : Hid (b.toNat = y) := hby
          have HI : Hid ((4 - 2 * (k : Int)) = (i : Int)) := ei
          have HI2 : Hid (i = 4 - 2 * k) := hi4.symm
          clear hx hy hax hby ha hb hc1 hc2 cx ei hi4
          obtain ⟨ao, n', cap', htv⟩ : ∃ ao n' cap', tv = .slice ao n' cap' := by
            rcases HB.out.own.2 with ⟨hv, _⟩ | ⟨g, cap, cur, hv, _⟩
            · exact ⟨_, _, _, hv⟩
            · exact ⟨_, _, _, hv⟩
          subst htv
          have hcb : (convert 42 9 (.slice (some ⟨wr.heap.size, 0, none⟩) 1 1)).run Tryz.prog (wr.alloc (.cells #[.int .u8 (a.toNat : Int)] 5)) = .ok (.string ⟨#[a]⟩) (wr.alloc (.cells #[.int .u8 (a.toNat : Int)] 5)) := by
            have := run_convert_bytes_back (P := Tryz.prog) (wr.alloc (.cells #[.int .u8 (a.toNat : Int)] 5)) 42 9 5 ⟨wr.heap.size, 0, none⟩ 1 [a] (by kernel_rfl) (by kernel_rfl) (by kernel_rfl) (fun j hj => by
              match j, hj with
              | 0, _ => simp [Addr.add])
            exact this
          have e4 : (0 : Int) ≤ (i : Int) := by omega
          have qs : ∀ W : World, (binOp .eql 42 (.slice none 0 0) (.slice none 0 0)).run Tryz.prog W = .ok (.bool true) W := fun W => Lib.run_eql_slice_nil W _ 5 none 0 0 0 0 (by kernel_rfl)
          have ga : (({ data := #[a] } : ByteArray)[0]'(by show 0 < 1; omega)) = a := rfl
          go_wp2_with (at_builtin; refine wpList_append_own _ rfl _ _ 76 rfl w.heap.size 9 i0 (.string ⟨#[]⟩) 1 16 (by kernel_rfl) hi hz0 hz1 hz2 rfl (by decide) _ _ _ rfl ((HB.out.own.alloc _).alloc _) ⟨wr.heap.size + 1, 0, none⟩ 1 1 [oStr k] rfl rfl ?c1 ?c2 ?c3 ?c4 ?c5 ?_)
          case c1 =>
            intro j u hj
            match j with
            | 0 => simp at hj; subst hj; rw [HOK.out]; simp [Addr.add]
            | j + 1 => simp at hj
          case c2 => intro u hu; simp at hu; subst hu; rfl
          case c3 => unfold maxLen; omega
          case c4 => omega
          case c5 =>
            have := HB.out.bel.size
            simp; omega
          intro v' w2 hown' hgrow _
          obtain ⟨C, hC1, hC2, hC3, hC4⟩ := HB.out.at_
          have hXn : (Value.slice ao n' cap').ownBlock ≠ some X := HB.out.ne
          have bal : Below wr.heap.size wr ((wr.alloc (.cells #[.int .u8 (a.toNat : Int)] 5)).alloc (.cells #[.string ⟨#[a]⟩] 9)) := (((Gr.refl wr).alloc _).alloc _).below
          have hb2 : w2.heap[X]? = some (.cells C 187 (0, 0)) := by
            rw [hgrow.block X (by have := bal.size; omega) (fun e => hXn e.symm), bal.block X cl]
            exact hC1
          have d1 : w2.cell? ⟨X, 256, none⟩ = some (.slice ao n' cap') := by rw [Lib.cell_of_heap hb2]; exact hC3
          have f1 : w2.frozen? ⟨X, 256, none⟩ = false := Lib.frozen_of_heap hb2 256
          have hne : v'.ownBlock ≠ some X := Lib.ownBlock_ne hown' hb2 repl_ne_str
          have HOW : Hid (w2.ownsRow w.heap.size 9 1 v' (k + 1) ((List.range (k + 1)).map oStr)) := by
            show w2.ownsRow w.heap.size 9 1 v' (k + 1) ((List.range (k + 1)).map oStr)
            rw [List.range_succ, List.map_append]
            exact hown'
          obtain ⟨ao', n2, cap2, rfl⟩ : ∃ ao n' cap, v' = .slice ao n' cap := by
            rcases hown'.2 with ⟨hv, _⟩ | ⟨g, cap, cur, hv, _⟩
            · exact ⟨_, _, _, hv⟩
            · exact ⟨_, _, _, hv⟩
          obtain ⟨W3, hW3⟩ : ∃ z, w2.setCell ⟨X, 256, none⟩ (.slice ao' n2 cap2) = z := ⟨_, rfl⟩
          obtain ⟨W4, hW4⟩ : ∃ z, W3.drew.alloc (.cells (bytesRow ⟨#[92, b]⟩ (grownCap W3 2 0 5)) 5 ((bytesRow ⟨#[92, b]⟩ (grownCap W3 2 0 5)).size, (bytesRow ⟨#[92, b]⟩ (grownCap W3 2 0 5)).size + 1)) = z := ⟨_, rfl⟩
          obtain ⟨g, hg⟩ : ∃ z, W3.heap.size = z := ⟨_, rfl⟩
          obtain ⟨cp, hcp⟩ : ∃ z, grownCap W3 2 0 5 = z := ⟨_, rfl⟩
          have hcap2 : 2 ≤ cp := by rw [← hcp]; exact grownCap_ge W3 2 0 5
          have hcs : (convert 9 42 (.string ⟨#[92, b]⟩)).run Tryz.prog W3 = .ok (.slice (some ⟨g, 0, none⟩) 2 cp) W4 := by
            have := run_bytes_of_string (P := Tryz.prog) W3 9 42 5 ⟨#[92, b]⟩ (by kernel_rfl) (by kernel_rfl) (by kernel_rfl)
            rw [← hg, ← hcp, ← hW4]
            exact this
          have hb3 : W3.heap[X]? = some (.cells (C.setIfInBounds 256 (.slice ao' n2 cap2)) 187 (0, 0)) := by rw [← hW3]; exact heap_setCell_same w2 X 256 _ _ _ hb2
          have hX3 : X < W3.heap.size := (Array.getElem?_eq_some_iff.1 hb3).1
          have bl4 : Below W3.heap.size W3 W4 := by rw [← hW4]; exact (((Gr.refl W3).drew).alloc _).below
          have hb4 : W4.heap[X]? = some (.cells (C.setIfInBounds 256 (.slice ao' n2 cap2)) 187 (0, 0)) := (bl4.block X hX3).trans hb3
          have d4 : W4.cell? ⟨X, a.toNat, none⟩ = some (rv a.toNat) := by
            rw [Lib.cell_of_heap hb4, Array.getElem?_setIfInBounds_ne (by omega)]
            exact hC4 a.toNat hal
          have f4 : W4.frozen? ⟨X, a.toNat, none⟩ = false := Lib.frozen_of_heap hb4 a.toNat
          have hg4 : W4.heap[g]? = some (.cells (bytesRow ⟨#[92, b]⟩ cp) 5 ((bytesRow ⟨#[92, b]⟩ cp).size, (bytesRow ⟨#[92, b]⟩ cp).size + 1)) := by
            rw [← hW4, ← hg, hcp]
            show (W3.heap.push _)[W3.heap.size]? = _
            exact Array.getElem?_push_size
          have HNEW : Hid (BsK w (W4.setCell ⟨X, a.toNat, none⟩ (.slice (some ⟨g, 0, none⟩) 2 cp)) X (k + 1) (.slice ao' n2 cap2) (fun x => if x = a.toNat then .slice (some ⟨g, 0, none⟩) 2 cp else rv x)) := by
            have gX : g ≠ X := by omega
            have gro : wr.grownBy w2 (Value.slice ao n' cap').ownBlock := ((World.grownBy_alloc wr _ _).trans (World.grownBy_alloc _ _ _)).trans hgrow
            have old3 : ∀ q, q < w2.heap.size → q ≠ X → W4.heap[q]? = w2.heap[q]? := fun q hq hqX => by
              rw [bl4.block q (by rw [← hW3]; simp [World.setCell]; exact hq), ← hW3]
              exact Below.heap_setCell _ _ _ _ (fun e => hqX (by simpa using e))
            have bB : Below w.heap.size w w2 := by
              have hsz := HB.out.bel.size
              exact (HB.out.bel.trans (bal.mono hsz)).grown hgrow (by have := bal.size; omega) (fun q hq => (HB.out.own.lt q hq).1)
            have hl2 : w.heap.size ≤ g := by rw [← hg, ← hW3]; simp [World.setCell]; exact bB.size
            refine ⟨HB.out.low, ⟨_, heap_setCell_same W4 X a.toNat _ _ _ hb4, ?_, ?_, fun x hx => ?_⟩, fun x hx hj => ?_, fun j hj => ?_, ?_, hne, ?_⟩
            · rw [Array.size_setIfInBounds, Array.size_setIfInBounds]; exact hC2
            · rw [Array.getElem?_setIfInBounds_ne (by omega), Array.getElem?_setIfInBounds_self_of_lt (by omega)]
            · by_cases e : x = a.toNat
              · subst e
                rw [if_pos rfl, Array.getElem?_setIfInBounds_self_of_lt (by rw [Array.size_setIfInBounds]; omega)]
              · rw [if_neg e, Array.getElem?_setIfInBounds_ne (fun q => e q.symm), Array.getElem?_setIfInBounds_ne (by omega)]
                exact hC4 x hx
            · have hxa : x ≠ a.toNat := by rw [HX3.out, HX1.out]; exact hj k (by omega)
              show (if x = a.toNat then _ else rv x) = _
              rw [if_neg hxa]
              exact HB.out.nil x hx (fun j hj2 => hj j (by omega))
            · by_cases e : j = k
              · subst e
                refine ⟨g, cp, _, _, by show (if oA j = a.toNat then _ else _) = _; rw [if_pos (by rw [HX3.out, HX1.out])], hcap2, hl2, (Below.heap_setCell _ _ _ _ (fun e => gX (by simpa using e))).trans hg4, ?_, ?_⟩
                · exact (row_head b cp).1
                · rw [← HX2.out, ← HX4.out]; exact (row_head b cp).2
              · obtain ⟨g2, cap3, cb, fz, r1, r2, r3, r4, r5, r6⟩ := HB.out.esc j (by omega)
                have hg2 : g2 < wr.heap.size := (Array.getElem?_eq_some_iff.1 r4).1
                have g2X : g2 ≠ X := by
                  intro e2; subst e2
                  rw [r4] at hC1
                  injection hC1 with q
                  injection q with q1 q2 q3
                  exact absurd q2 (by decide)
                refine ⟨g2, cap3, cb, fz, by show (if oA j = a.toNat then _ else _) = _; rw [if_neg (by rw [HX3.out, HX1.out]; exact fun e3 => oA_ne k j hk3 (by omega) e3.symm)]; exact r1, r2, r3, ?_, r5, r6⟩
                rw [Below.heap_setCell _ _ _ _ (fun e => g2X (by simpa using e)), old3 g2 (Nat.lt_of_lt_of_le hg2 gro.size) g2X, gro.block g2 hg2 (fun e2 => Lib.ownBlock_ne HB.out.own r4 byte_ne_str e2.symm)]
                exact r4
            · have k1 : W4.ownsRow w.heap.size 9 1 (.slice ao' n2 cap2) (k + 1) ((List.range (k + 1)).map oStr) := by
                have q1 : W3.ownsRow w.heap.size 9 1 (.slice ao' n2 cap2) (k + 1) ((List.range (k + 1)).map oStr) := by
                  rw [← hW3]
                  exact HOW.out.kept (row := some X) ⟨rfl, rfl, rfl, by simp [World.setCell], fun k _ hk => Below.heap_setCell _ _ _ _ (fun e => hk (by simp [e]))⟩ (Or.inr hne)
                exact q1.kept (row := none) ⟨bl4.os, bl4.tape, bl4.output, bl4.size, fun k hk _ => bl4.block k hk⟩ (by rcases hq : (Value.slice ao' n2 cap2).ownBlock with _ | q <;> simp)
              exact k1.kept (row := some X) ⟨rfl, rfl, rfl, by simp [World.setCell], fun k _ hk => Below.heap_setCell _ _ _ _ (fun e => hk (by simp [e]))⟩ (Or.inr hne)
            · have q1 : Below w.heap.size w W3 := by rw [← hW3]; exact bB.setCell (p := ⟨X, 256, none⟩) HB.out.low _
              exact (q1.trans (bl4.mono q1.size)).setCell (p := ⟨X, a.toNat, none⟩) HB.out.low _
          clear hb2 hb3 hb4 hg4 bl4 bal hC1 hC2 hC3 hC4 hown' hgrow hne hXn cf ct cl
          go_wp2
          refine ⟨⟨k + 1, _, _, by omega, ?_, HNEW⟩, ?_⟩
          · have := HI.out
            have : (i : Int) - 2 = 4 - 2 * ((k + 1 : Nat) : Int) := by omega
            go_num
          · simp [intOf]; omega
        · obtain rfl : k = 3 := by omega
          have e5 : ¬ (0 : Int) ≤ 4 - 2 * ((3 : Nat) : Int) := by omega
          go_wp2
          go_ret
          exact ⟨X, rfl, tv, rv, HB⟩

end Go.Proofs.YtnkebfmlaliddaaGreatDoor
