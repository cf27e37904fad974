/-
  The numbers of a sequence: withDigit, withAnother, counted, placeOf.
-/
import Derived.Test.YtlfffpoeioecjaaDoorX10
import Derived.Deep.MidRow
import Derived.Test.YtlfffpoeioecjaaDoorX08
namespace Go.Proofs.YtlfffpoeioecjaaDoor
open Go.RowKit Go.Sort
set_option linter.unusedVariables false

def numC (l : Nat → Int) (a : Int) : Array Value := #[.int .i64 (l 0), .int .i64 (l 1), .int .i64 (l 2), .int .i64 (l 3), .int .i64 (l 4), .int .i64 (l 5), .int .i64 (l 6), .int .i64 (l 7), .int .i64 (l 8), .int .i64 (l 9), .int .i64 (l 10), .int .i64 (l 11), .int .i64 (l 12), .int .i64 (l 13), .int .i64 (l 14), .int .i64 (l 15), .int .i64 (l 16), .int .i64 a]
def numV (l : Nat → Int) (a : Int) : Value := .agg #[.int .i64 (l 0), .int .i64 (l 1), .int .i64 (l 2), .int .i64 (l 3), .int .i64 (l 4), .int .i64 (l 5), .int .i64 (l 6), .int .i64 (l 7), .int .i64 (l 8), .int .i64 (l 9), .int .i64 (l 10), .int .i64 (l 11), .int .i64 (l 12), .int .i64 (l 13), .int .i64 (l 14), .int .i64 (l 15), .int .i64 (l 16), .int .i64 a]
/-- The numbers in a block. -/
def N18 (Q : World) (b : Nat) (l : Nat → Int) (a : Int) : Prop := Q.heap[b]? = some (.cells (numC l a) 141 (0, 0))
section
variable {Q Q' : World} {b k : Nat} {l : Nat → Int} {a : Int}
theorem N18.lt (h : N18 Q b l a) : b < Q.heap.size := (Array.getElem?_eq_some_iff.1 h).1
theorem N18.fz (h : N18 Q b l a) (j : Nat) : Q.frozen? ⟨b, j, none⟩ = false := frozen_of_row _ _ _ _ _ h
theorem N18.at (h : N18 Q b l a) {j : Nat} {v : Value} (hv : (numC l a)[j]? = some v) : Q.cell? ⟨b, j, none⟩ = some v := by rw [cell_of_row Q b j _ _ _ h]; exact hv
theorem N18.gr (h : N18 Q b l a) (g : Gr Q Q') : N18 Q' b l a := (g.block h.lt).trans h
theorem N18.c2 {X M : Nat} (h : N18 Q b l a) (g : C2 X M Q Q') (h1 : b ≠ X) (h2 : b ≠ M) : N18 Q' b l a := (g.block b h.lt h1 h2).trans h
def updN (l : Nat → Int) (k : Nat) (v : Int) : Nat → Int := fun j => if j = k then v else l j
theorem numC_get (l : Nat → Int) (a : Int) (hk : k < 17) : (numC l a)[k]? = some (.int .i64 (l k)) := by
  have : k = 0 ∨ k = 1 ∨ k = 2 ∨ k = 3 ∨ k = 4 ∨ k = 5 ∨ k = 6 ∨ k = 7 ∨ k = 8 ∨ k = 9 ∨ k = 10 ∨ k = 11 ∨ k = 12 ∨ k = 13 ∨ k = 14 ∨ k = 15 ∨ k = 16 := by omega
  rcases this with rfl | rfl | rfl | rfl | rfl | rfl | rfl | rfl | rfl | rfl | rfl | rfl | rfl | rfl | rfl | rfl | rfl <;> rfl
theorem numC_set (l : Nat → Int) (a v : Int) (hk : k < 17) : (numC l a).setIfInBounds k (.int .i64 v) = numC (updN l k v) a := by
  have : k = 0 ∨ k = 1 ∨ k = 2 ∨ k = 3 ∨ k = 4 ∨ k = 5 ∨ k = 6 ∨ k = 7 ∨ k = 8 ∨ k = 9 ∨ k = 10 ∨ k = 11 ∨ k = 12 ∨ k = 13 ∨ k = 14 ∨ k = 15 ∨ k = 16 := by omega
  rcases this with rfl | rfl | rfl | rfl | rfl | rfl | rfl | rfl | rfl | rfl | rfl | rfl | rfl | rfl | rfl | rfl | rfl <;> rfl
theorem N18.set (h : N18 Q b l a) (hk : k < 17) (v : Int) : N18 (Q.setCell ⟨b, k, none⟩ (.int .i64 v)) b (updN l k v) a := by
  show _ = _
  rw [← numC_set l a v hk]
  exact heap_setCell_same Q b k _ _ _ h
theorem N18.setA (h : N18 Q b l a) (v : Int) : N18 (Q.setCell ⟨b, 17, none⟩ (.int .i64 v)) b l v := heap_setCell_same Q b 17 _ _ _ h
theorem N18.put (h : N18 Q b l a) (l' : Nat → Int) (a' : Int) : N18 ((((((((((((((((((Q.setCell ⟨b, 0, none⟩ (.int .i64 (l' 0))).setCell ⟨b, 1, none⟩ (.int .i64 (l' 1))).setCell ⟨b, 2, none⟩ (.int .i64 (l' 2))).setCell ⟨b, 3, none⟩ (.int .i64 (l' 3))).setCell ⟨b, 4, none⟩ (.int .i64 (l' 4))).setCell ⟨b, 5, none⟩ (.int .i64 (l' 5))).setCell ⟨b, 6, none⟩ (.int .i64 (l' 6))).setCell ⟨b, 7, none⟩ (.int .i64 (l' 7))).setCell ⟨b, 8, none⟩ (.int .i64 (l' 8))).setCell ⟨b, 9, none⟩ (.int .i64 (l' 9))).setCell ⟨b, 10, none⟩ (.int .i64 (l' 10))).setCell ⟨b, 11, none⟩ (.int .i64 (l' 11))).setCell ⟨b, 12, none⟩ (.int .i64 (l' 12))).setCell ⟨b, 13, none⟩ (.int .i64 (l' 13))).setCell ⟨b, 14, none⟩ (.int .i64 (l' 14))).setCell ⟨b, 15, none⟩ (.int .i64 (l' 15))).setCell ⟨b, 16, none⟩ (.int .i64 (l' 16))).setCell ⟨b, 17, none⟩ (.int .i64 a')) b l' a' := by
  have h0 := N18.set (k := 0) h (by decide) (l' 0)
  have h1 := N18.set (k := 1) h0 (by decide) (l' 1)
  have h2 := N18.set (k := 2) h1 (by decide) (l' 2)
  have h3 := N18.set (k := 3) h2 (by decide) (l' 3)
  have h4 := N18.set (k := 4) h3 (by decide) (l' 4)
  have h5 := N18.set (k := 5) h4 (by decide) (l' 5)
  have h6 := N18.set (k := 6) h5 (by decide) (l' 6)
  have h7 := N18.set (k := 7) h6 (by decide) (l' 7)
  have h8 := N18.set (k := 8) h7 (by decide) (l' 8)
  have h9 := N18.set (k := 9) h8 (by decide) (l' 9)
  have h10 := N18.set (k := 10) h9 (by decide) (l' 10)
  have h11 := N18.set (k := 11) h10 (by decide) (l' 11)
  have h12 := N18.set (k := 12) h11 (by decide) (l' 12)
  have h13 := N18.set (k := 13) h12 (by decide) (l' 13)
  have h14 := N18.set (k := 14) h13 (by decide) (l' 14)
  have h15 := N18.set (k := 15) h14 (by decide) (l' 15)
  have h16 := N18.set (k := 16) h15 (by decide) (l' 16)
  have h17 := N18.setA h16 a'
  have e : numC (updN (updN (updN (updN (updN (updN (updN (updN (updN (updN (updN (updN (updN (updN (updN (updN (updN l 0 (l' 0)) 1 (l' 1)) 2 (l' 2)) 3 (l' 3)) 4 (l' 4)) 5 (l' 5)) 6 (l' 6)) 7 (l' 7)) 8 (l' 8)) 9 (l' 9)) 10 (l' 10)) 11 (l' 11)) 12 (l' 12)) 13 (l' 13)) 14 (l' 14)) 15 (l' 15)) 16 (l' 16)) a' = numC l' a' := rfl
  show _ = _
  rw [← e]
  exact h17
theorem N18.putAll (h : N18 Q b l a) (l' : Nat → Int) (a' : Int) : N18 (Q.setCells b 0 (numC l' a').toList) b l' a' := h.put l' a'
theorem N18.range (h : N18 Q b l a) : Q.rangeAt b 0 (numC l a).toList := fun j v hv => by
  rw [Nat.zero_add]
  exact h.at (by rw [← Array.getElem?_toList]; exact hv)
theorem N18.thr (h : N18 Q b l a) : Q.there b 0 18 := fun j hj => by
  rw [Nat.zero_add]
  refine ⟨?_, h.fz j⟩
  have hs : (numC l a).size = 18 := rfl
  rw [h.at (j := j) (v := (numC l a)[j]'(by omega)) (Array.getElem?_eq_getElem _)]
  rfl
theorem Gr.set18 {Q Q' : World} {k : Nat} (g : Gr Q Q') (hk : Q.heap.size ≤ k) (l : Nat → Int) (a : Int) : Gr Q (Q'.setCells k 0 (numC l a).toList) := by
  show Gr Q ((((((((((((((((((Q'.setCell ⟨k, 0, none⟩ (.int .i64 (l 0))).setCell ⟨k, 1, none⟩ (.int .i64 (l 1))).setCell ⟨k, 2, none⟩ (.int .i64 (l 2))).setCell ⟨k, 3, none⟩ (.int .i64 (l 3))).setCell ⟨k, 4, none⟩ (.int .i64 (l 4))).setCell ⟨k, 5, none⟩ (.int .i64 (l 5))).setCell ⟨k, 6, none⟩ (.int .i64 (l 6))).setCell ⟨k, 7, none⟩ (.int .i64 (l 7))).setCell ⟨k, 8, none⟩ (.int .i64 (l 8))).setCell ⟨k, 9, none⟩ (.int .i64 (l 9))).setCell ⟨k, 10, none⟩ (.int .i64 (l 10))).setCell ⟨k, 11, none⟩ (.int .i64 (l 11))).setCell ⟨k, 12, none⟩ (.int .i64 (l 12))).setCell ⟨k, 13, none⟩ (.int .i64 (l 13))).setCell ⟨k, 14, none⟩ (.int .i64 (l 14))).setCell ⟨k, 15, none⟩ (.int .i64 (l 15))).setCell ⟨k, 16, none⟩ (.int .i64 (l 16))).setCell ⟨k, 17, none⟩ (.int .i64 a))
  exact ((((((((((((((((((g.set hk _).set hk _).set hk _).set hk _).set hk _).set hk _).set hk _).set hk _).set hk _).set hk _).set hk _).set hk _).set hk _).set hk _).set hk _).set hk _).set hk _).set hk _)
theorem N18.new (Q : World) (l : Nat → Int) (a : Int) : N18 (Q.alloc (.cells (numC l a) 141)) Q.heap.size l a := heap_alloc_new _ _
end

theorem numOne (l : Nat → Int) (a : Int) : (numC l a).all (·.oneCell') = true := by simp [numC, Value.oneCell']
theorem numDesc : ∃ d, Tryd.prog.underlying 141 = some d ∧ d.isRow = true := ⟨_, Tryd.underlying141, rfl⟩
theorem numInfo : (Tryd.prog.info? 141).map (·.size) = some 18 := by kernel_rfl

set_option maxRecDepth 100000 in
set_option maxHeartbeats 4000000 in
theorem withAnother_any (l : Nat → Int) (a : Int) (ha : 0 ≤ a ∧ a ≤ 16) (w : World) : Calls Tryd.prog 94 #[numV l a] w fun e w' => e = .returned (numV l (min (a + 1) 16)) ∧ Gr w w' := by
  unfold numV
  obtain ⟨a2, ha2⟩ : ∃ z, min (a + 1) 16 = z := ⟨_, rfl⟩
  obtain ⟨d, hu, hd⟩ := numDesc
  have hi := numInfo
  have hb : a + 1 ≤ 16 ∧ a2 = a + 1 ∨ 16 < a + 1 ∧ a2 = 16 := by omega
  rw [ha2]
  clear ha2
  go_enter Tryd.func94, Tryd.ntmps94
  go_upto_region 1 with fail
  obtain ⟨S, hS⟩ : ∃ z, w.heap.size = z := ⟨_, rfl⟩
  obtain ⟨W0, hW0⟩ : ∃ z, (w.alloc (.cells #[.int .i64 (l 0), .int .i64 (l 1), .int .i64 (l 2), .int .i64 (l 3), .int .i64 (l 4), .int .i64 (l 5), .int .i64 (l 6), .int .i64 (l 7), .int .i64 (l 8), .int .i64 (l 9), .int .i64 (l 10), .int .i64 (l 11), .int .i64 (l 12), .int .i64 (l 13), .int .i64 (l 14), .int .i64 (l 15), .int .i64 (l 16), .int .i64 a] 141)).alloc (.cells #[.int .i64 0, .int .i64 0, .int .i64 0, .int .i64 0, .int .i64 0, .int .i64 0, .int .i64 0, .int .i64 0, .int .i64 0, .int .i64 0, .int .i64 0, .int .i64 0, .int .i64 0, .int .i64 0, .int .i64 0, .int .i64 0, .int .i64 0, .int .i64 0] 141) = z := ⟨_, rfl⟩
  have G0 : Hid (Gr w W0) := by rw [← hW0]; exact ((Gr.refl w).alloc _).alloc _
  have A0 : Hid (N18 W0 S l a) := by rw [← hW0, ← hS]; exact (N18.new w l a).gr ((Gr.refl _).alloc _)
  have Z0 : Hid (N18 W0 (S + 1) (fun _ => 0) 0) := by
    have := N18.new (w.alloc (.cells #[.int .i64 (l 0), .int .i64 (l 1), .int .i64 (l 2), .int .i64 (l 3), .int .i64 (l 4), .int .i64 (l 5), .int .i64 (l 6), .int .i64 (l 7), .int .i64 (l 8), .int .i64 (l 9), .int .i64 (l 10), .int .i64 (l 11), .int .i64 (l 12), .int .i64 (l 13), .int .i64 (l 14), .int .i64 (l 15), .int .i64 (l 16), .int .i64 a] 141)) (fun _ => 0) 0
    rw [World.size_alloc, hS] at this
    rw [← hW0]; exact this
  rw [hW0, hS]
  have HS : Hid (w.heap.size = S) := hS
  clear hW0 hS
  have c17 : W0.cell? ⟨S, 17, none⟩ = some (.int .i64 a) := A0.out.at rfl
  have fz := A0.out.fz
  rcases hb with ⟨hb, rfl⟩ | ⟨hb, rfl⟩
  · go_upto_region 2 with fail
    obtain ⟨W1, hW1⟩ : ∃ z, W0.setCell ⟨S, 17, none⟩ (.int .i64 (a + 1)) = z := ⟨_, rfl⟩
    have A1 : Hid (N18 W1 S l (a + 1)) := by rw [← hW1]; exact A0.out.setA _
    have Z1 : Hid (N18 W1 (S + 1) (fun _ => 0) 0) := by rw [← hW1]; exact (Below.heap_setCell W0 ⟨S, 17, none⟩ _ (S + 1) (by show S + 1 ≠ S; omega)).trans Z0.out
    have G1 : Hid (Gr w W1) := by rw [← hW1]; exact G0.out.set (by rw [HS.out]; exact Nat.le_refl _) _
    rw [hW1]
    clear hW1 c17 fz
    have ht : W1.there (S + 1) 0 (numC l (a + 1)).size := Z1.out.thr
    have hi2 : (Tryd.prog.info? 141).map (·.size) = some (numC l (a + 1)).size := numInfo
    have hi3 : (Tryd.prog.info? 141).map (·.size) = some (numC l (a + 1)).toList.length := numInfo
    have h1 : (numC l (a + 1)).all (·.oneCell') = true := numOne _ _
    go_wp2_with (first | (refine wpList_load_mid rfl 141 _ rfl S 0 rfl (numC l (a + 1)).toList d A1.out.range hu hd hi3 ?_) | (refine wpList_store_mid rfl 141 _ _ rfl (S + 1) 0 (numC l (a + 1)) rfl rfl ht hi2 h1 ?_))
    refine bodyPost_ret (results_cell_row rfl _ _ (S + 1) _ _ _ _ rfl (Z1.out.putAll l _) Tryd.underlying141 rfl (by kernel_rfl)) rfl ?_
    exact ⟨rfl, G1.out.set18 (by rw [HS.out]; omega) l _⟩
  · go_upto_region 2 with fail
    obtain ⟨W1, hW1⟩ : ∃ z, W0.setCell ⟨S, 17, none⟩ (.int .i64 (16)) = z := ⟨_, rfl⟩
    have A1 : Hid (N18 W1 S l (16)) := by rw [← hW1]; exact A0.out.setA _
    have Z1 : Hid (N18 W1 (S + 1) (fun _ => 0) 0) := by rw [← hW1]; exact (Below.heap_setCell W0 ⟨S, 17, none⟩ _ (S + 1) (by show S + 1 ≠ S; omega)).trans Z0.out
    have G1 : Hid (Gr w W1) := by rw [← hW1]; exact G0.out.set (by rw [HS.out]; exact Nat.le_refl _) _
    rw [hW1]
    clear hW1 c17 fz
    have ht : W1.there (S + 1) 0 (numC l (16)).size := Z1.out.thr
    have hi2 : (Tryd.prog.info? 141).map (·.size) = some (numC l (16)).size := numInfo
    have hi3 : (Tryd.prog.info? 141).map (·.size) = some (numC l (16)).toList.length := numInfo
    have h1 : (numC l (16)).all (·.oneCell') = true := numOne _ _
    go_wp2_with (first | (refine wpList_load_mid rfl 141 _ rfl S 0 rfl (numC l (16)).toList d A1.out.range hu hd hi3 ?_) | (refine wpList_store_mid rfl 141 _ _ rfl (S + 1) 0 (numC l (16)) rfl rfl ht hi2 h1 ?_))
    refine bodyPost_ret (results_cell_row rfl _ _ (S + 1) _ _ _ _ rfl (Z1.out.putAll l _) Tryd.underlying141 rfl (by kernel_rfl)) rfl ?_
    exact ⟨rfl, G1.out.set18 (by rw [HS.out]; omega) l _⟩

set_option maxRecDepth 100000 in
set_option maxHeartbeats 8000000 in
theorem withDigit_any (l : Nat → Int) (k : Nat) (d : Int) (hk : k < 17) (hl : 0 ≤ l k ∧ l k ≤ 999999) (hd : 0 ≤ d ∧ d ≤ 9) (w : World) : Calls Tryd.prog 93 #[numV l (k : Int), .int .i64 d] w fun e w' => e = .returned (numV (updN l k (min (l k * 10 + d) 999999)) (k : Int)) ∧ Gr w w' := by
  unfold numV
  obtain ⟨d0, hu, hd0⟩ := numDesc
  obtain ⟨v, hv⟩ : ∃ z, l k = z := ⟨_, rfl⟩
  obtain ⟨v2, hv2⟩ : ∃ z, min (l k * 10 + d) 999999 = z := ⟨_, rfl⟩
  have hb : v * 10 + d ≤ 999999 ∧ v2 = v * 10 + d ∨ 999999 < v * 10 + d ∧ v2 = 999999 := by rw [← hv2, hv]; omega
  rw [hv2]
  obtain ⟨l2, hl2⟩ : ∃ z, updN l k v2 = z := ⟨_, rfl⟩
  rw [hl2]
  rw [hv] at hl
  have HV : Hid (l k = v) := hv
  have HL2 : Hid (updN l k v2 = l2) := hl2
  clear hv hv2 hl2
  have hk' : (k : Int) < 17 := by omega
  go_enter Tryd.func93, Tryd.ntmps93
  go_upto_region 1 with fail
  obtain ⟨S, hS⟩ : ∃ z, w.heap.size = z := ⟨_, rfl⟩
  obtain ⟨W0, hW0⟩ : ∃ z, (w.alloc (.cells #[.int .i64 (l 0), .int .i64 (l 1), .int .i64 (l 2), .int .i64 (l 3), .int .i64 (l 4), .int .i64 (l 5), .int .i64 (l 6), .int .i64 (l 7), .int .i64 (l 8), .int .i64 (l 9), .int .i64 (l 10), .int .i64 (l 11), .int .i64 (l 12), .int .i64 (l 13), .int .i64 (l 14), .int .i64 (l 15), .int .i64 (l 16), .int .i64 (k : Int)] 141)).alloc (.cells #[.int .i64 0, .int .i64 0, .int .i64 0, .int .i64 0, .int .i64 0, .int .i64 0, .int .i64 0, .int .i64 0, .int .i64 0, .int .i64 0, .int .i64 0, .int .i64 0, .int .i64 0, .int .i64 0, .int .i64 0, .int .i64 0, .int .i64 0, .int .i64 0] 141) = z := ⟨_, rfl⟩
  have G0 : Hid (Gr w W0) := by rw [← hW0]; exact ((Gr.refl w).alloc _).alloc _
  have A0 : Hid (N18 W0 S l (k : Int)) := by rw [← hW0, ← hS]; exact (N18.new w l (k : Int)).gr ((Gr.refl _).alloc _)
  have Z0 : Hid (N18 W0 (S + 1) (fun _ => 0) 0) := by
    have := N18.new (w.alloc (.cells #[.int .i64 (l 0), .int .i64 (l 1), .int .i64 (l 2), .int .i64 (l 3), .int .i64 (l 4), .int .i64 (l 5), .int .i64 (l 6), .int .i64 (l 7), .int .i64 (l 8), .int .i64 (l 9), .int .i64 (l 10), .int .i64 (l 11), .int .i64 (l 12), .int .i64 (l 13), .int .i64 (l 14), .int .i64 (l 15), .int .i64 (l 16), .int .i64 (k : Int)] 141)) (fun _ => 0) 0
    rw [World.size_alloc, hS] at this
    rw [← hW0]; exact this
  rw [hW0, hS]
  have HS : Hid (w.heap.size = S) := hS
  clear hW0 hS
  have c17 : W0.cell? ⟨S, 17, none⟩ = some (.int .i64 (k : Int)) := A0.out.at rfl
  have ck : W0.cell? ⟨S, k, none⟩ = some (.int .i64 v) := by rw [← HV.out]; exact A0.out.at (numC_get l _ hk)
  have fz := A0.out.fz
  rcases hb with ⟨hb, rfl⟩ | ⟨hb, rfl⟩
  · go_region
    go_upto_region 2 with fail
    obtain ⟨W1, hW1⟩ : ∃ z, (W0.setCell ⟨S, k, none⟩ (.int .i64 (v * 10 + d))).drew = z := ⟨_, rfl⟩
    have A1 : Hid (N18 W1 S l2 (k : Int)) := by rw [← hW1, ← HL2.out]; exact (A0.out.set hk _).gr (Gr.refl _).drew
    have Z1 : Hid (N18 W1 (S + 1) (fun _ => 0) 0) := by rw [← hW1]; exact N18.gr ((Below.heap_setCell W0 ⟨S, k, none⟩ _ (S + 1) (by show S + 1 ≠ S; omega)).trans Z0.out) (Gr.refl _).drew
    have G1 : Hid (Gr w W1) := by rw [← hW1]; exact (G0.out.set (by rw [HS.out]; exact Nat.le_refl _) _).drew
    rw [hW1]
    clear hW1 c17 ck fz
    have ht : W1.there (S + 1) 0 (numC l2 (k : Int)).size := Z1.out.thr
    have hi2 : (Tryd.prog.info? 141).map (·.size) = some (numC l2 (k : Int)).size := numInfo
    have hi3 : (Tryd.prog.info? 141).map (·.size) = some (numC l2 (k : Int)).toList.length := numInfo
    have h1 : (numC l2 (k : Int)).all (·.oneCell') = true := numOne _ _
    go_wp2_with (first | (refine wpList_load_mid rfl 141 _ rfl S 0 rfl (numC l2 (k : Int)).toList d0 A1.out.range hu hd0 hi3 ?_) | (refine wpList_store_mid rfl 141 _ _ rfl (S + 1) 0 (numC l2 (k : Int)) rfl rfl ht hi2 h1 ?_))
    refine bodyPost_ret (results_cell_row rfl _ _ (S + 1) _ _ _ _ rfl (Z1.out.putAll l2 _) Tryd.underlying141 rfl (by kernel_rfl)) rfl ?_
    exact ⟨rfl, G1.out.set18 (by rw [HS.out]; omega) l2 _⟩
  · go_region
    go_upto_region 2 with fail
    obtain ⟨W1, hW1⟩ : ∃ z, (W0.setCell ⟨S, k, none⟩ (.int .i64 (999999))).drew = z := ⟨_, rfl⟩
    have A1 : Hid (N18 W1 S l2 (k : Int)) := by rw [← hW1, ← HL2.out]; exact (A0.out.set hk _).gr (Gr.refl _).drew
    have Z1 : Hid (N18 W1 (S + 1) (fun _ => 0) 0) := by rw [← hW1]; exact N18.gr ((Below.heap_setCell W0 ⟨S, k, none⟩ _ (S + 1) (by show S + 1 ≠ S; omega)).trans Z0.out) (Gr.refl _).drew
    have G1 : Hid (Gr w W1) := by rw [← hW1]; exact (G0.out.set (by rw [HS.out]; exact Nat.le_refl _) _).drew
    rw [hW1]
    clear hW1 c17 ck fz
    have ht : W1.there (S + 1) 0 (numC l2 (k : Int)).size := Z1.out.thr
    have hi2 : (Tryd.prog.info? 141).map (·.size) = some (numC l2 (k : Int)).size := numInfo
    have hi3 : (Tryd.prog.info? 141).map (·.size) = some (numC l2 (k : Int)).toList.length := numInfo
    have h1 : (numC l2 (k : Int)).all (·.oneCell') = true := numOne _ _
    go_wp2_with (first | (refine wpList_load_mid rfl 141 _ rfl S 0 rfl (numC l2 (k : Int)).toList d0 A1.out.range hu hd0 hi3 ?_) | (refine wpList_store_mid rfl 141 _ _ rfl (S + 1) 0 (numC l2 (k : Int)) rfl rfl ht hi2 h1 ?_))
    refine bodyPost_ret (results_cell_row rfl _ _ (S + 1) _ _ _ _ rfl (Z1.out.putAll l2 _) Tryd.underlying141 rfl (by kernel_rfl)) rfl ?_
    exact ⟨rfl, G1.out.set18 (by rw [HS.out]; omega) l2 _⟩

set_option maxRecDepth 100000 in
theorem placeOf_any (n side : Int) (hn : 0 ≤ n ∧ n ≤ 999999) (hs : 1 ≤ side ∧ side ≤ 400) (w : World) : Calls Tryd.prog 110 #[.int .i64 n, .int .i64 side] w fun e w' => e = .returned (.int .i64 (min (max n 1) side - 1)) ∧ w' = w := by
  go_enter Tryd.func110, Tryd.ntmps110
  by_cases h1 : n < 1
  · have e1 : max n 1 = 1 := by omega
    rw [e1]
    by_cases h2 : 1 ≤ side
    · have e2 : min 1 side = 1 := by omega
      rw [e2]
      go_wp2
      go_ret
      exact ⟨rfl, rfl⟩
    · omega
  · have e1 : max n 1 = n := by omega
    rw [e1]
    by_cases h2 : n ≤ side
    · have e2 : min n side = n := by omega
      rw [e2]
      go_wp2
      go_ret
      exact ⟨rfl, rfl⟩
    · have e2 : min n side = side := by omega
      rw [e2]
      go_wp2
      go_ret
      exact ⟨rfl, rfl⟩

end Go.Proofs.YtlfffpoeioecjaaDoor

namespace Go.Proofs.YtlfffpoeioecjaaDoor
open Go.RowKit Go.Sort
set_option linter.unusedVariables false

theorem R5.fz {T : TypeId} {Q : World} {b : Nat} {e : Ce} (h : R5 T Q b e) (j : Nat) : Q.frozen? ⟨b, j, none⟩ = false := frozen_of_row _ _ _ _ _ h
theorem R5.set {T : TypeId} {Q : World} {b : Nat} {e : Ce} (h : R5 T Q b e) (e' : Ce) : R5 T (((((Q.setCell ⟨b, 0, none⟩ (.string e'.t)).setCell ⟨b, 1, none⟩ (.int .i64 e'.f)).setCell ⟨b, 2, none⟩ (.int .i64 e'.g)).setCell ⟨b, 3, none⟩ (.int .i64 e'.b)).setCell ⟨b, 4, none⟩ (.int .i64 e'.p)) b e' := by
  have h0 : R5 T (Q.setCell ⟨b, 0, none⟩ (.string e'.t)) b ⟨e'.t, e.f, e.g, e.b, e.p⟩ := heap_setCell_same _ b 0 _ T _ h
  have h1 : R5 T _ b ⟨e'.t, e'.f, e.g, e.b, e.p⟩ := heap_setCell_same _ b 1 _ T (.int .i64 e'.f) h0
  have h2 : R5 T _ b ⟨e'.t, e'.f, e'.g, e.b, e.p⟩ := heap_setCell_same _ b 2 _ T (.int .i64 e'.g) h1
  have h3 : R5 T _ b ⟨e'.t, e'.f, e'.g, e'.b, e.p⟩ := heap_setCell_same _ b 3 _ T (.int .i64 e'.b) h2
  exact heap_setCell_same _ b 4 _ T (.int .i64 e'.p) h3

theorem Gr.set5 {Q Q' : World} {k o0 o1 o2 o3 o4 : Nat} (h : Gr Q Q') (hk : Q.heap.size ≤ k) (v0 v1 v2 v3 v4 : Value) : Gr Q (((((Q'.setCell ⟨k, o0, none⟩ v0).setCell ⟨k, o1, none⟩ v1).setCell ⟨k, o2, none⟩ v2).setCell ⟨k, o3, none⟩ v3).setCell ⟨k, o4, none⟩ v4) := ((((h.set hk v0).set hk v1).set hk v2).set hk v3).set hk v4

set_option maxRecDepth 100000 in
set_option maxHeartbeats 2000000 in
theorem cell_any (e : Ce) (w : World) : Calls Tryd.prog 24 #[cev e] w fun r w' => r = .returned (cev e) ∧ Gr w w' := by
  have LA : Hid (∀ f g b w, Calls Tryd.prog 39 #[sv f g b] w fun e w' => e = .returned (sv f g b) ∧ Gr w w') := look_any
  obtain ⟨t, f, g, b, p⟩ := e
  unfold cev
  unfold sv at LA
  go_enter Tryd.func24, Tryd.ntmps24
  go_wp2_with fail
  obtain ⟨S, hS⟩ : ∃ z, w.heap.size = z := ⟨_, rfl⟩
  obtain ⟨W0, hW0⟩ : ∃ z, (w.alloc (.cells #[.string t, .int .i64 f, .int .i64 g, .int .i64 b, .int .i64 p] 57)).alloc (.cells #[.string ⟨#[]⟩, .int .i64 0, .int .i64 0, .int .i64 0, .int .i64 0] 34) = z := ⟨_, rfl⟩
  have G0 : Hid (Gr w W0) := by rw [← hW0]; exact ((Gr.refl w).alloc _).alloc _
  have R0 : Hid (R5 57 W0 S ⟨t, f, g, b, p⟩) := by rw [← hW0, ← hS]; exact (R5.new w ⟨t, f, g, b, p⟩ _).gr ((Gr.refl _).alloc _)
  have R1 : Hid (R5 34 W0 (S + 1) ⟨⟨#[]⟩, 0, 0, 0, 0⟩) := by
    have := R5.new (w.alloc (.cells #[.string t, .int .i64 f, .int .i64 g, .int .i64 b, .int .i64 p] 57)) ⟨⟨#[]⟩, 0, 0, 0, 0⟩ 34
    rw [World.size_alloc, hS] at this
    rw [← hW0]; exact this
  rw [hW0, hS]
  have HS : Hid (w.heap.size = S) := hS
  clear hW0 hS
  have q0 := R0.out.c0
  have q1 := R0.out.c1
  have q2 := R0.out.c2
  have q3 := R0.out.c3
  have q4 := R0.out.c4
  go_region_with (go_at_call 39; refine Calls.mono (LA.out _ _ _ _) ?_; rintro e1 w1 ⟨rfl, g1⟩; have G1 : Hid (Gr W0 w1) := (by first | exact ((Gr.refl W0).drew).trans g1 | exact g1); clear g1; have o0 := (R0.out.gr G1.out).c0; have o4 := (R0.out.gr G1.out).c4; have u0 := (R1.out.gr G1.out).c0; have u1 := (R1.out.gr G1.out).c1; have u2 := (R1.out.gr G1.out).c2; have u3 := (R1.out.gr G1.out).c3; have u4 := (R1.out.gr G1.out).c4; have uf := (R1.out.gr G1.out).fz)
  all_goals
    go_wp2
    refine bodyPost_ret (results_cell_row rfl _ _ (S + 1) _ _ _ _ rfl ((R1.out.gr G1.out).set ⟨t, f, g, b, p⟩) Tryd.underlying34 rfl (by kernel_rfl)) rfl ?_
    exact ⟨rfl, (G0.out.trans G1.out).set5 (by rw [HS.out]; omega) _ _ _ _ _⟩

/-- A place in the list is a row and a column. -/
theorem lin_split {W H i : Nat} (hi : i < W * H) : ∃ y x, y < H ∧ x < W ∧ i = y * W + x := by
  have h0 : 0 < W := by
    rcases Nat.eq_zero_or_pos W with h | h
    · subst h; simp at hi
    · exact h
  refine ⟨i / W, i % W, ?_, Nat.mod_lt _ h0, ?_⟩
  · exact Nat.div_lt_of_lt_mul hi
  · rw [Nat.mul_comm]; exact (Nat.div_add_mod i W).symm

end Go.Proofs.YtlfffpoeioecjaaDoor

namespace Go.Proofs.YtlfffpoeioecjaaDoor
open Go.RowKit Go.Sort
set_option linter.unusedVariables false

theorem lenI_one : lenI 1 = 1 := rfl
/-- What is seen lies in the row of the cluster. -/
theorem Seen.row {W H x y wd cx cy ca cb l t u v : Int} (h : Seen W H x y wd 1 cx cy ca cb l t u v) (hy : 0 ≤ y ∧ y < 400) (hu : 0 < u) : t = y ∧ v = 1 := by
  have uv := h.uv.1 hu
  have m1 := (h.mem l t).1 (by omega)
  have m2 := (h.mem l (t + v - 1)).1 (by omega)
  have e : posI y = y := by unfold posI; omega
  rw [lenI_one, e] at m1 m2
  omega
/-- A place of the cluster that lies on the screen and in the clip is one that is seen. -/
theorem Seen.vis {W H x y wd cx cy ca cb l t u v : Int} (h : Seen W H x y wd 1 cx cy ca cb l t u v) (hw : wd = 1 ∨ wd = 2) (hy : 0 ≤ y ∧ y < 400) (hx : -1 ≤ x ∧ x < 400) (p : Int) (h1 : x ≤ p) (h2 : p < x + wd) :
    ((0 ≤ p ∧ p < W ∧ 0 ≤ y ∧ y < H) ∧ (posI cx ≤ p ∧ p < posI cx + lenI ca ∧ posI cy ≤ y ∧ y < posI cy + lenI cb)) ↔ (l ≤ p ∧ p < l + u) := by
  have m := h.mem p y
  have ex : posI x = x := by unfold posI; omega
  have ey : posI y = y := by unfold posI; omega
  have ew : lenI wd = wd := lenI_id (by omega)
  rw [ex, ey, ew, lenI_one] at m
  constructor
  · intro q; have := m.2 ⟨q.1, by omega, q.2⟩; exact ⟨this.1, this.2.1⟩
  · intro q
    have r := h.row hy (by omega)
    have := m.1 ⟨q.1, q.2, by omega, by omega⟩
    exact ⟨this.1, this.2.2⟩
/-- And what is seen lies within the cluster. -/
theorem Seen.within {W H x y wd cx cy ca cb l t u v : Int} (h : Seen W H x y wd 1 cx cy ca cb l t u v) (hw : wd = 1 ∨ wd = 2) (hx : -1 ≤ x ∧ x < 400) (hu : 0 < u) : x ≤ l ∧ l + u ≤ x + wd := by
  have uv := h.uv.1 hu
  have m1 := (h.mem l t).1 (by omega)
  have m2 := (h.mem (l + u - 1) t).1 (by omega)
  have ex : posI x = x := by unfold posI; omega
  have ew : lenI wd = wd := lenI_id (by omega)
  rw [ex, ew] at m1 m2
  omega
/-- Beyond the screen, or of another width: nothing changes. -/
theorem putC_out {W H : Nat} (hW : 1 ≤ W ∧ W ≤ 400) (hH : 1 ≤ H ∧ H ≤ 400) (c : Nat → Nat → Ce) (x y : Int) (txt : ByteArray) (wd f g b cx cy ca cb : Int) (h : ¬ (wd = 1 ∨ wd = 2) ∨ y < 0 ∨ (H : Int) ≤ y ∨ x < -1 ∨ (W : Int) ≤ x) : putC W H c x y txt wd f g b cx cy ca cb = c := by
  have SF := seen_facts (W := W) (H := H) (by omega) (by omega) x y wd 1 cx cy ca cb
  unfold putC putQ
  generalize seenQ W H x y wd 1 cx cy ca cb = q at SF ⊢
  obtain ⟨l, t, u, v⟩ := q
  simp only at SF ⊢
  split
  · rename_i hw
    refine fill_none (fun hh => ?_)
    have l0 := SF.l0
    have t0 := SF.t0
    have u0 := SF.u0
    have v0 := SF.v0
    have m := (SF.mem l t).1 (by omega)
    have ew : lenI wd = wd := lenI_id (by omega)
    rw [ew, lenI_one] at m
    unfold posI at m
    omega
  · rfl
end Go.Proofs.YtlfffpoeioecjaaDoor

namespace Go.Proofs.YtlfffpoeioecjaaDoor
open Go.RowKit Go.Sort
set_option linter.unusedVariables false

set_option maxRecDepth 100000 in
theorem least_any (a b : Int) (w : World) : Calls Tryd.prog 87 #[.int .i64 a, .int .i64 b] w fun e w' => e = .returned (.int .i64 (min a b)) ∧ w' = w := by
  go_enter Tryd.func87, Tryd.ntmps87
  by_cases h : a < b
  · go_wp2
    go_ret
    exact ⟨by rw [show min a b = a by omega]; rfl, rfl⟩
  · have h' : b ≤ a := by omega
    go_wp2
    go_ret
    exact ⟨by rw [show min a b = b by omega]; rfl, rfl⟩
set_option maxRecDepth 100000 in
theorem greatest_any (a b : Int) (w : World) : Calls Tryd.prog 86 #[.int .i64 a, .int .i64 b] w fun e w' => e = .returned (.int .i64 (max a b)) ∧ w' = w := by
  go_enter Tryd.func86, Tryd.ntmps86
  by_cases h : b < a
  · go_wp2
    go_ret
    exact ⟨by rw [show max a b = a by omega]; rfl, rfl⟩
  · have h' : a ≤ b := by omega
    go_wp2
    go_ret
    exact ⟨by rw [show max a b = b by omega]; rfl, rfl⟩
set_option maxRecDepth 100000 in
theorem rClamped_any (n : Int) (w : World) : Calls Tryd.prog 125 #[.int .i64 n] w fun e w' => e = .returned (.int .i64 (lenI n)) ∧ w' = w := by
  go_enter Tryd.func125, Tryd.ntmps125
  by_cases h : n < 0
  · go_wp2
    go_ret
    exact ⟨by rw [show lenI n = 0 by unfold lenI; omega]; rfl, rfl⟩
  · by_cases h2 : 100000 < n
    · have h' : ¬ n < 0 := h
      go_wp2
      go_ret
      exact ⟨by rw [show lenI n = 100000 by unfold lenI; omega]; rfl, rfl⟩
    · have h' : n ≤ 100000 := by omega
      have h0 : 0 ≤ n := by omega
      go_wp2
      go_ret
      exact ⟨by rw [show lenI n = n by unfold lenI; omega]; rfl, rfl⟩

set_option maxRecDepth 100000 in
set_option maxHeartbeats 2000000 in
theorem firm_any (x y a b : Int) (w : World) : Calls Tryd.prog 108 #[rv x y a b] w fun e w' => e = .returned (rv (posI x) (posI y) (lenI a) (lenI b)) ∧ Gr w w' := by
  have LS : Hid (∀ a b w, Calls Tryd.prog 87 #[.int .i64 a, .int .i64 b] w fun e w' => e = .returned (.int .i64 (min a b)) ∧ w' = w) := least_any
  have GS : Hid (∀ a b w, Calls Tryd.prog 86 #[.int .i64 a, .int .i64 b] w fun e w' => e = .returned (.int .i64 (max a b)) ∧ w' = w) := greatest_any
  have CS : Hid (∀ n w, Calls Tryd.prog 125 #[.int .i64 n] w fun e w' => e = .returned (.int .i64 (lenI n)) ∧ w' = w) := rClamped_any
  obtain ⟨px, hpx⟩ : ∃ z, max (-100000) (min 100000 x) = z := ⟨_, rfl⟩
  obtain ⟨py, hpy⟩ : ∃ z, max (-100000) (min 100000 y) = z := ⟨_, rfl⟩
  have ex : posI x = px := by unfold posI; omega
  have ey : posI y = py := by unfold posI; omega
  rw [ex, ey]
  obtain ⟨la, hla⟩ : ∃ z, lenI a = z := ⟨_, rfl⟩
  obtain ⟨lb, hlb⟩ : ∃ z, lenI b = z := ⟨_, rfl⟩
  unfold rv
  rw [hla, hlb]
  go_enter Tryd.func108, Tryd.ntmps108
  go_wp2_with (first | (go_at_call 87; refine (LS.out _ _ _).mono ?_; rintro e w2 ⟨rfl, rfl⟩) | (go_at_call 86; refine (GS.out _ _ _).mono ?_; rintro e w2 ⟨rfl, rfl⟩))
  go_region_held (fun W => W.cell? ⟨w.heap.size, 2, none⟩ = some (.int .i64 a) ∧ W.cell? ⟨w.heap.size, 3, none⟩ = some (.int .i64 b)) (go_keep) (first | (go_at_call 125; refine (CS.out _ _).mono ?_; rintro e w2 ⟨rfl, rfl⟩))
  all_goals
    try rw [hla, hlb]
    go_wp2
    refine bodyPost_ret (v := rv px py la lb) (by simp [results, Tryd.results108, go_sem, rv]) rfl ?_
    exact ⟨rfl, (((Gr.refl w).alloc _).alloc _).drew⟩

set_option maxRecDepth 100000 in
set_option maxHeartbeats 2000000 in
theorem rHolds_any (x y a b px py : Int) (w : World) : Calls Tryd.prog 90 #[rv x y a b, .int .i64 px, .int .i64 py] w fun e w' => e = .returned (.bool (holdB x y a b px py)) ∧ Gr w w' := by
  have CC : Hid (∀ x y a b w, Calls Tryd.prog 108 #[rv x y a b] w fun e w' => e = .returned (rv (posI x) (posI y) (lenI a) (lenI b)) ∧ Gr w w') := firm_any
  have HY : Hid ((posI x ≤ px ∧ px < posI x + lenI a ∧ posI y ≤ py ∧ py < posI y + lenI b) → holdB x y a b px py = true) := holdB_yes
  have HN : Hid (¬ (posI x ≤ px ∧ px < posI x + lenI a ∧ posI y ≤ py ∧ py < posI y + lenI b) → holdB x y a b px py = false) := holdB_no
  have b1 := posI_bd x
  have b2 := posI_bd y
  have b3 := lenI_bd a
  have b4 := lenI_bd b
  obtain ⟨A, hA⟩ : ∃ z, posI x = z := ⟨_, rfl⟩
  obtain ⟨B, hB⟩ : ∃ z, posI y = z := ⟨_, rfl⟩
  obtain ⟨C, hC⟩ : ∃ z, lenI a = z := ⟨_, rfl⟩
  obtain ⟨D, hD⟩ : ∃ z, lenI b = z := ⟨_, rfl⟩
  rw [hA, hB, hC, hD] at HY HN
  rw [hA] at b1
  rw [hB] at b2
  rw [hC] at b3
  rw [hD] at b4
  unfold rv at CC ⊢
  go_enter Tryd.func90, Tryd.ntmps90
  go_wp2_with (go_at_call 108; refine (CC.out _ _ _ _ _).mono ?_; rintro e w2 ⟨rfl, hg2⟩; have HG : Hid (Gr w w2) := ((Gr.refl w).alloc _).trans hg2; have HR : Hid (R4 136 w2 w.heap.size x y a b) := (R4.new w x y a b _).gr hg2; clear hg2; have c0 := HR.out.c0; have c1 := HR.out.c1; have c2 := HR.out.c2; have c3 := HR.out.c3; have f0 := HR.out.fz 0; have f1 := HR.out.fz 1; have f2 := HR.out.fz 2; have f3 := HR.out.fz 3; rw [hA, hB, hC, hD]; by_cases h1 : A ≤ px; by_cases h2 : B ≤ py; by_cases h3 : px < A + C; by_cases h4 : py < B + D)
  all_goals
    go_ret
    first
      | exact ⟨by rw [HY.out (by omega)]; rfl, HG.out.set4 (Nat.le_refl _) _ _ _ _⟩
      | exact ⟨by rw [HN.out (by omega)]; rfl, HG.out.set4 (Nat.le_refl _) _ _ _ _⟩
      | exact ⟨by rw [HY.out (by omega)]; exact congrArg (fun z => Ending.returned (Value.bool z)) (decide_eq_true (by omega)), HG.out.set4 (Nat.le_refl _) _ _ _ _⟩
      | exact ⟨by rw [HN.out (by omega)]; exact congrArg (fun z => Ending.returned (Value.bool z)) (decide_eq_false (by omega)), HG.out.set4 (Nat.le_refl _) _ _ _ _⟩

end Go.Proofs.YtlfffpoeioecjaaDoor

namespace Go.Proofs.YtlfffpoeioecjaaDoor
open Go.RowKit Go.Sort
set_option linter.unusedVariables false

section
variable {K M cap W H : Nat} {c : Nat → Nat → Ce}
def scrB (W H : Nat) (x y : Int) : Bool := decide (0 ≤ x ∧ x < W ∧ 0 ≤ y ∧ y < H)
theorem scrB_yes {W H : Nat} {x y : Int} (h : 0 ≤ x ∧ x < W ∧ 0 ≤ y ∧ y < H) : scrB W H x y = true := decide_eq_true h
theorem scrB_no {W H : Nat} {x y : Int} (h : ¬ (0 ≤ x ∧ x < W ∧ 0 ≤ y ∧ y < H)) : scrB W H x y = false := decide_eq_false h
set_option maxRecDepth 100000 in
set_option maxHeartbeats 2000000 in
theorem screen_any (w : World) (h : CS 48 57 w K M cap W H c) (x y : Int) : Calls Tryd.prog 89 #[.pointer (some ⟨K, 0, none⟩), .int .i64 x, .int .i64 y] w fun e w' => e = .returned (.bool (scrB W H x y)) ∧ w' = w := by
  have k0 := h.k0
  have k1 := h.k1
  clear h
  have hc : x < 0 ∨ (0 ≤ x ∧ (W : Int) ≤ x) ∨ (0 ≤ x ∧ x < W ∧ y < 0) ∨ (0 ≤ x ∧ x < W ∧ 0 ≤ y ∧ (H : Int) ≤ y) ∨ (0 ≤ x ∧ x < W ∧ 0 ≤ y ∧ y < H) := by omega
  rcases hc with h1 | ⟨h1, h2⟩ | ⟨h1, h2, h3⟩ | ⟨h1, h2, h3, h4⟩ | ⟨h1, h2, h3, h4⟩
  · rw [scrB_no (by omega)]
    go_enter Tryd.func89, Tryd.ntmps89
    go_wp2
    go_ret
    exact ⟨rfl, rfl⟩
  · rw [scrB_no (by omega)]
    have e1 : decide (x < (W : Int)) = false := decide_eq_false (by omega)
    go_enter Tryd.func89, Tryd.ntmps89
    go_wp2
    go_ret
    exact ⟨rfl, rfl⟩
  · rw [scrB_no (by omega)]
    have e1 : decide (x < (W : Int)) = true := decide_eq_true (by omega)
    have e2 : decide (0 ≤ y) = false := decide_eq_false (by omega)
    go_enter Tryd.func89, Tryd.ntmps89
    go_wp2
    go_ret
    exact ⟨rfl, rfl⟩
  · rw [scrB_no (by omega)]
    have e1 : decide (x < (W : Int)) = true := decide_eq_true (by omega)
    have e2 : decide (0 ≤ y) = true := decide_eq_true (by omega)
    have e3 : decide (y < (H : Int)) = false := decide_eq_false (by omega)
    go_enter Tryd.func89, Tryd.ntmps89
    go_wp2
    go_ret
    exact ⟨rfl, rfl⟩
  · rw [scrB_yes (by omega)]
    have e1 : decide (x < (W : Int)) = true := decide_eq_true (by omega)
    have e2 : decide (0 ≤ y) = true := decide_eq_true (by omega)
    have e3 : decide (y < (H : Int)) = true := decide_eq_true (by omega)
    go_enter Tryd.func89, Tryd.ntmps89
    go_wp2
    go_ret
    exact ⟨rfl, rfl⟩

theorem lin_lt {W H y x : Nat} (hy : y < H) (hx : x < W) : y * W + x < W * H := by
  have : (y + 1) * W ≤ H * W := Nat.mul_le_mul_right _ (by omega)
  rw [Nat.add_mul] at this
  rw [Nat.mul_comm W H]; omega
set_option maxRecDepth 100000 in
set_option maxHeartbeats 4000000 in
theorem rblank_any (w : World) (h : CS 48 57 w K M cap W H c) (hW : W ≤ 400) (hH : H ≤ 400) (y x : Nat) (hy : y < H) (hx : x < W) (i : Nat) (hi : i = y * W + x) : Calls Tryd.prog 109 #[.pointer (some ⟨K, 0, none⟩), .int .i64 i] w fun e w' => e = .returned (.tuple #[]) ∧ Cv 57 w' M W H (upd c y x (bl (c y x))) ∧ Ch M w w' := by
  have k2 := h.k2
  have kl := h.klt
  have hn : i < W * H := by rw [hi]; exact lin_lt hy hx
  have hc := h.hc
  obtain ⟨n, hnn⟩ : ∃ n, W * H = n := ⟨_, rfl⟩
  have nb : n ≤ 160000 := by rw [← hnn]; exact Nat.mul_le_mul hW hH
  rw [hnn] at k2 hn hc
  have eo : y * W * 5 + x * 5 = i * 5 := by rw [hi, Nat.add_mul]
  have HEO : Hid (y * W * 5 + x * 5 = i * 5) := eo
  have HV : Hid (Cv 57 w M W H c) := h.cv
  have d0 := HV.out.c0 hy hx
  have d1 := HV.out.c1 hy hx
  have d2 := HV.out.c2 hy hx
  have d3 := HV.out.c3 hy hx
  have d4 := HV.out.c4 hy hx
  rw [eo] at d0 d1 d2 d3 d4
  have fz := HV.out.fz
  have hi' : (i : Int) < (n : Int) := by omega
  clear h hnn eo hi
  go_enter Tryd.func109, Tryd.ntmps109
  go_wp2_with fail
  go_region
  all_goals
    go_wp2
    go_end0
    refine ⟨rfl, ?_, ((Ch.gr ((Gr.refl w).drew))).set5 _ _ _ _ _⟩
    have := (HV.out.gr ((Gr.refl w).drew)).set hy hx (bl (c y x))
    rw [HEO.out] at this
    exact this
end
end Go.Proofs.YtlfffpoeioecjaaDoor

namespace Go.Proofs.YtlfffpoeioecjaaDoor
open Go.RowKit Go.Sort
set_option linter.unusedVariables false

/-- A place is about to be written, within those from a to q. -/
def clw (c : Nat → Nat → Ce) (y x a q : Nat) : Nat → Nat → Ce :=
  if (c y x).p = 1 ∧ x = q then upd c y (x + 1) (bl (c y (x + 1))) else if (c y x).p = 2 ∧ x = a then upd c y (x - 1) (bl (c y (x - 1))) else c
/-- How far the halves are cleared, ahead of place k. -/
def stC (c : Nat → Nat → Ce) (y a q k : Nat) : Nat → Nat → Ce := if k ≤ a then c else if k ≤ q then cutL c y a else cut c y a q
theorem clw_next {W : Nat} {c : Nat → Nat → Ce} {y a q k : Nat} (hp : PRow W (c y)) (haq : a ≤ q) (hw : q ≤ a + 1) (hq : q < W) (h1 : a ≤ k) (h2 : k ≤ q) : clw (stC c y a q k) y k a q = stC c y a q (k + 1) := by
  by_cases hk : k = a
  · subst hk
    have e0 : stC c y k q k = c := if_pos (Nat.le_refl _)
    rw [e0]
    have e1 : stC c y k q (k + 1) = if k + 1 ≤ q then cutL c y k else cut c y k q := if_neg (by omega)
    rw [e1]
    unfold clw
    by_cases hq2 : k + 1 ≤ q
    · rw [if_pos hq2, if_neg (c := (c y k).p = 1 ∧ k = q) (by omega)]
      by_cases h3 : (c y k).p = 2
      · obtain ⟨j, rfl, _⟩ := hp.tail k (by omega) h3
        rw [if_pos ⟨h3, rfl⟩, cutL_some h3]
        rfl
      · rw [if_neg (fun m => h3 m.1), cutL_none h3]
    · rw [if_neg hq2]
      obtain rfl : q = k := by omega
      unfold cut
      by_cases h3 : (c y q).p = 2
      · obtain ⟨j, rfl, _⟩ := hp.tail q (by omega) h3
        rw [if_neg (c := (c y (j + 1)).p = 1 ∧ j + 1 = j + 1) (by omega), if_pos ⟨h3, rfl⟩, cutR_none (by rw [cutL_at (Nat.le_refl _)]; omega), cutL_some h3]
        rfl
      · rw [cutL_none h3]
        by_cases h4 : (c y q).p = 1
        · rw [if_pos ⟨h4, rfl⟩, cutR_some h4]
        · rw [if_neg (fun m => h4 m.1), if_neg (fun m => h3 m.1), cutR_none h4]
  · obtain rfl : k = q := by omega
    have e0 : stC c y a k k = cutL c y a := by unfold stC; rw [if_neg (by omega), if_pos (Nat.le_refl _)]
    have e1 : stC c y a k (k + 1) = cut c y a k := by unfold stC; rw [if_neg (by omega), if_neg (by omega)]
    rw [e0, e1]
    unfold clw cut
    by_cases h4 : (cutL c y a y k).p = 1
    · rw [if_pos ⟨h4, rfl⟩, cutR_some h4]
    · rw [if_neg (fun m => h4 m.1), if_neg (fun m => hk m.2), cutR_none h4]

section
variable {K M cap W H : Nat} {c : Nat → Nat → Ce}
set_option maxRecDepth 100000 in
set_option maxHeartbeats 4000000 in
theorem clear_any (w : World) (h : CS 48 57 w K M cap W H c) (hW : W ≤ 400) (hH : H ≤ 400) (y x a q : Nat) (hy : y < H) (hx : x < W) (hax : a ≤ x) (hxq : x ≤ q) (h1 : (c y x).p = 1 → x + 1 < W) (h2 : (c y x).p = 2 → 0 < x) (i i1 i2 : Nat) (hi : i = y * W + x) (hi1 : i1 = y * W + a) (hi2 : i2 = y * W + q) :
    Calls Tryd.prog 91 #[.pointer (some ⟨K, 0, none⟩), .int .i64 i, .int .i64 i1, .int .i64 i2] w fun e w' => e = .returned (.tuple #[]) ∧ Cv 57 w' M W H (clw c y x a q) ∧ Ch M w w' := by
  have BLK : Hid (∀ (x' : Nat), x' < W → ∀ (i' : Nat), i' = y * W + x' → Calls Tryd.prog 109 #[.pointer (some ⟨K, 0, none⟩), .int .i64 i'] w fun e w' => e = .returned (.tuple #[]) ∧ Cv 57 w' M W H (upd c y x' (bl (c y x'))) ∧ Ch M w w') := fun x' hx' i' hi' => rblank_any w h hW hH y x' hy hx' i' hi'
  have k2 := h.k2
  have hn : i < W * H := by rw [hi]; exact lin_lt hy hx
  have HC : Hid (CS 48 57 w K M cap W H c) := h
  have HI : Hid (i = y * W + x) := hi
  obtain ⟨n, hnn⟩ : ∃ n, W * H = n := ⟨_, rfl⟩
  have HN : Hid (W * H = n) := hnn
  have nb : n ≤ 160000 := by rw [← hnn]; exact Nat.mul_le_mul hW hH
  rw [hnn] at k2 hn
  have d4 := h.cv.c4 hy hx
  rw [show y * W * 5 + x * 5 = i * 5 by rw [hi, Nat.add_mul]] at d4
  obtain ⟨p, hp⟩ : ∃ z, (c y x).p = z := ⟨_, rfl⟩
  rw [hp] at d4
  have HP : Hid ((c y x).p = p) := hp
  rw [hp] at h1 h2
  have hi' : (i : Int) < (n : Int) := by omega
  have t1 : i1 ≤ i := by omega
  have t2 : i ≤ i2 := by omega
  have e1 : decide ((i : Int) + 1 < i1) = false := decide_eq_false (by omega)
  rcases (by omega : (p = 1 ∧ x = q) ∨ (p = 1 ∧ x < q) ∨ (p = 2 ∧ x = a) ∨ (p = 2 ∧ a < x) ∨ (p ≠ 1 ∧ p ≠ 2)) with ⟨rfl, rfl⟩ | ⟨rfl, hlt⟩ | ⟨rfl, rfl⟩ | ⟨rfl, hlt⟩ | ⟨n1, n2⟩
  · have HR : Hid (clw c y x a x = upd c y (x + 1) (bl (c y (x + 1)))) := if_pos ⟨HP.out, rfl⟩
    have HB : Hid (∀ iv : Int, iv = (i : Int) + 1 → Calls Tryd.prog 109 #[.pointer (some ⟨K, 0, none⟩), .int .i64 iv] w fun e w' => e = .returned (.tuple #[]) ∧ Cv 57 w' M W H (upd c y (x + 1) (bl (c y (x + 1)))) ∧ Ch M w w') := by
      rintro iv rfl; exact BLK.out (x + 1) (h1 rfl) (i + 1) (by omega)
    have e2 : decide ((i2 : Int) < (i : Int) + 1) = true := decide_eq_true (by omega)
    clear h hnn hi hi1 hi2 h1 h2 hp
    go_enter Tryd.func91, Tryd.ntmps91
    go_wp2_with fail
    refine Calls.mono (HB.out _ rfl) ?_
    rintro e w1 ⟨rfl, V1, C1⟩
    have S1 := HC.out.put C1 V1
    have k2' := S1.k2
    rw [HN.out] at k2'
    have d4' := V1.c4 hy hx
    rw [show y * W * 5 + x * 5 = i * 5 by rw [HI.out, Nat.add_mul], show upd c y (x + 1) (bl (c y (x + 1))) y x = c y x from if_neg (by omega), HP.out] at d4'
    have HV : Hid (Cv 57 w1 M W H (upd c y (x + 1) (bl (c y (x + 1)))) ∧ Ch M w w1) := (⟨V1, C1⟩ : Cv 57 w1 M W H (upd c y (x + 1) (bl (c y (x + 1)))) ∧ Ch M w w1)
    clear V1 C1 S1 k2 d4
    go_wp2_with fail
    go_end0
    exact ⟨rfl, by rw [HR.out]; exact HV.out.1, HV.out.2⟩
  · have HR : Hid (clw c y x a q = c) := (if_neg (fun m => by have := m.2; omega)).trans (if_neg (fun m => by have := HP.out.symm.trans m.1; omega))
    have e2 : decide ((i2 : Int) < (i : Int) + 1) = false := decide_eq_false (by omega)
    clear h hnn hi hi1 hi2 h1 h2 hp
    go_enter Tryd.func91, Tryd.ntmps91
    go_wp2_with fail
    go_end0
    exact ⟨rfl, by rw [HR.out]; exact HC.out.cv, Ch.gr (Gr.refl w)⟩
  · have HR : Hid (clw c y x x q = upd c y (x - 1) (bl (c y (x - 1)))) := (if_neg (fun m => by have := HP.out.symm.trans m.1; omega)).trans (if_pos ⟨HP.out, rfl⟩)
    have HB : Hid (∀ iv : Int, iv = (i : Int) - 1 → Calls Tryd.prog 109 #[.pointer (some ⟨K, 0, none⟩), .int .i64 iv] w fun e w' => e = .returned (.tuple #[]) ∧ Cv 57 w' M W H (upd c y (x - 1) (bl (c y (x - 1)))) ∧ Ch M w w') := by
      rintro iv rfl
      have := h2 rfl
      rw [show (i : Int) - 1 = ((i - 1 : Nat) : Int) by omega]
      exact BLK.out (x - 1) (by omega) (i - 1) (by omega)
    have e2 : decide ((i : Int) - 1 < (i1 : Int)) = true := decide_eq_true (by omega)
    clear h hnn hi hi1 hi2 h1 h2 hp
    go_enter Tryd.func91, Tryd.ntmps91
    go_wp2_with fail
    refine Calls.mono (HB.out _ rfl) ?_
    rintro e w1 ⟨rfl, V1, C1⟩
    have HV : Hid (Cv 57 w1 M W H (upd c y (x - 1) (bl (c y (x - 1)))) ∧ Ch M w w1) := (⟨V1, C1⟩ : Cv 57 w1 M W H (upd c y (x - 1) (bl (c y (x - 1)))) ∧ Ch M w w1)
    clear V1 C1
    go_wp2_with fail
    go_end0
    exact ⟨rfl, by rw [HR.out]; exact HV.out.1, HV.out.2⟩
  · have HR : Hid (clw c y x a q = c) := (if_neg (fun m => by have := HP.out.symm.trans m.1; omega)).trans (if_neg (fun m => by have := m.2; omega))
    have e2 : decide ((i : Int) - 1 < (i1 : Int)) = false := decide_eq_false (by omega)
    have e3 : decide ((i2 : Int) < (i : Int) - 1) = false := decide_eq_false (by omega)
    clear h hnn hi hi1 hi2 h1 h2 hp
    go_enter Tryd.func91, Tryd.ntmps91
    go_wp2_with fail
    go_end0
    exact ⟨rfl, by rw [HR.out]; exact HC.out.cv, Ch.gr (Gr.refl w)⟩
  · have m1 : (p == 1) = false := by simpa using n1
    have m2 : (p == 2) = false := by simpa using n2
    have HR : Hid (clw c y x a q = c) := (if_neg (fun m => n1 (HP.out.symm.trans m.1))).trans (if_neg (fun m => n2 (HP.out.symm.trans m.1)))
    clear h hnn hi hi1 hi2 h1 h2 hp
    go_enter Tryd.func91, Tryd.ntmps91
    go_wp2_with fail
    go_end0
    exact ⟨rfl, by rw [HR.out]; exact HC.out.cv, Ch.gr (Gr.refl w)⟩
end
end Go.Proofs.YtlfffpoeioecjaaDoor

namespace Go.Proofs.YtlfffpoeioecjaaDoor
open Go.RowKit Go.Sort
set_option linter.unusedVariables false

section
variable {K M cap W H : Nat} {c : Nat → Nat → Ce}
set_option maxRecDepth 100000 in
set_option maxHeartbeats 4000000 in
theorem rput_out (w : World) (h : CS 48 57 w K M cap W H c) (hW : 1 ≤ W ∧ W ≤ 400) (hH : 1 ≤ H ∧ H ≤ 400) (x y : Int) (txt : ByteArray) (wd f g b cx cy ca cb : Int) (ho : ¬ (wd = 1 ∨ wd = 2) ∨ y < 0 ∨ (H : Int) ≤ y ∨ x < -1 ∨ (W : Int) ≤ x) :
    Calls Tryd.prog 73 #[.pointer (some ⟨K, 0, none⟩), .int .i64 x, .int .i64 y, .agg #[.string txt, .int .i64 wd], sv f g b, rv cx cy ca cb] w fun e w' => e = .returned (.tuple #[]) ∧ Gr w w' := by
  have h3 := h.gr ((((Gr.refl w).alloc (.cells #[.string txt, .int .i64 wd] 91)).alloc (.cells #[.int .i64 f, .int .i64 g, .int .i64 b] 50)).alloc (.cells #[.int .i64 cx, .int .i64 cy, .int .i64 ca, .int .i64 cb] 136))
  have k0 := h3.k0
  have k1 := h3.k1
  clear h h3
  unfold sv rv
  rcases (by omega : (¬ (wd = 1) ∧ ¬ (wd = 2)) ∨ ((wd = 1 ∨ wd = 2) ∧ y < 0) ∨ ((wd = 1 ∨ wd = 2) ∧ 0 ≤ y ∧ (H : Int) ≤ y) ∨ ((wd = 1 ∨ wd = 2) ∧ 0 ≤ y ∧ y < H ∧ x < -1) ∨ ((wd = 1 ∨ wd = 2) ∧ 0 ≤ y ∧ y < H ∧ -1 ≤ x ∧ (W : Int) ≤ x)) with ⟨a1, a2⟩ | ⟨a1 | a1, a2⟩ | ⟨a1 | a1, a2, a3⟩ | ⟨a1 | a1, a2, a3, a4⟩ | ⟨a1 | a1, a2, a3, a4, a5⟩
  all_goals
    clear ho
    try subst a1
    go_enter Tryd.func73, Tryd.ntmps73
    go_wp2
    refine bodyPost_ret (results_none rfl _ _ _) rfl ?_
    exact ⟨rfl, (((Gr.refl w).alloc _).alloc _).alloc _⟩
end
end Go.Proofs.YtlfffpoeioecjaaDoor

namespace Go.Proofs.YtlfffpoeioecjaaDoor
open Go.RowKit Go.Sort
set_option linter.unusedVariables false

/-- What Put's own blocks and the canvas hold. -/
structure PB (w wi : World) (K M cap W H : Nat) (c : Nat → Nat → Ce) (S : Nat) (txt : ByteArray) (wd kf kg kb cx cy ca cb : Int) : Prop where
  cs : CS 48 57 wi K M cap W H c
  cl : RCl 91 wi S txt wd
  st : R3 50 wi (S + 1) kf kg kb
  rc : R4 136 wi (S + 1 + 1) cx cy ca cb
  gr : Ch M w wi
section
variable {w wi wj : World} {K M cap W H S : Nat} {c c' : Nat → Nat → Ce} {txt : ByteArray} {wd kf kg kb cx cy ca cb : Int}
/-- Put's parameters laid. -/
theorem PB.new (h : CS 48 57 w K M cap W H c) (txt : ByteArray) (wd f g b cx cy ca cb : Int) (hS : w.heap.size = S) :
    PB w (((w.alloc (.cells #[.string txt, .int .i64 wd] 91)).alloc (.cells #[.int .i64 f, .int .i64 g, .int .i64 b] 50)).alloc (.cells #[.int .i64 cx, .int .i64 cy, .int .i64 ca, .int .i64 cb] 136)) K M cap W H c S txt wd f g b cx cy ca cb := by
  have G0 := (((Gr.refl w).alloc (.cells #[.string txt, .int .i64 wd] 91)).alloc (.cells #[.int .i64 f, .int .i64 g, .int .i64 b] 50)).alloc (.cells #[.int .i64 cx, .int .i64 cy, .int .i64 ca, .int .i64 cb] 136)
  refine ⟨h.gr G0, ?_, ?_, ?_, Ch.gr G0⟩
  · rw [← hS]; exact (RCl.new w _ _ _).gr (((Gr.refl _).alloc _).alloc _)
  · rw [← hS]; have := (R3.new (w.alloc (.cells #[.string txt, .int .i64 wd] 91)) f g b 50).gr ((Gr.refl _).alloc (.cells #[.int .i64 cx, .int .i64 cy, .int .i64 ca, .int .i64 cb] 136)); rw [World.size_alloc] at this; exact this
  · rw [← hS]; have := R4.new ((w.alloc (.cells #[.string txt, .int .i64 wd] 91)).alloc (.cells #[.int .i64 f, .int .i64 g, .int .i64 b] 50)) cx cy ca cb 136; rw [World.size_alloc, World.size_alloc] at this; exact this
theorem PB.more (h : PB w wi K M cap W H c S txt wd kf kg kb cx cy ca cb) (g : Gr wi wj) : PB w wj K M cap W H c S txt wd kf kg kb cx cy ca cb :=
  ⟨h.cs.gr g, h.cl.gr g, h.st.gr g, h.rc.gr g, h.gr.thenGr g⟩
/-- The style is another one. -/
theorem PB.style (h : PB w wi K M cap W H c S txt wd kf kg kb cx cy ca cb) (hK : K < S) (hM : M < S) (hw : w.heap.size ≤ S) (f g b : Int) : PB w (((wi.setCell ⟨S + 1, 0, none⟩ (.int .i64 f)).setCell ⟨S + 1, 1, none⟩ (.int .i64 g)).setCell ⟨S + 1, 2, none⟩ (.int .i64 b)) K M cap W H c S txt wd f g b cx cy ca cb := by
  have G : Ch (S + 1) wi (((wi.setCell ⟨S + 1, 0, none⟩ (.int .i64 f)).setCell ⟨S + 1, 1, none⟩ (.int .i64 g)).setCell ⟨S + 1, 2, none⟩ (.int .i64 b)) := (((Ch.refl (S + 1) wi).set (.inl rfl) _ _).set (.inl rfl) _ _).set (.inl rfl) _ _
  exact ⟨h.cs.ch G (by omega) (by omega), h.cl.ch G (by omega), h.st.set _ _ _, h.rc.ch G (by omega), ((h.gr.set (.inr (by omega)) _ _).set (.inr (by omega)) _ _).set (.inr (by omega)) _ _⟩
/-- The cells are others. -/
theorem PB.cells (h : PB w wi K M cap W H c S txt wd kf kg kb cx cy ca cb) (hM : M < S) (g : Ch M wi wj) (v : Cv 57 wj M W H c') : PB w wj K M cap W H c' S txt wd kf kg kb cx cy ca cb :=
  ⟨h.cs.put g v, h.cl.ch g (by omega), h.st.ch g (by omega), h.rc.ch g (by omega), h.gr.trans g⟩
end
/-- The loops' question, of a place of the cluster. -/
theorem vis_b {W H : Nat} {x y wd cx cy ca cb l t u v : Int} (h : Seen W H x y wd 1 cx cy ca cb l t u v) (hw : wd = 1 ∨ wd = 2) (hy : 0 ≤ y ∧ y < 400) (hx : -1 ≤ x ∧ x < 400) (p : Int) (h1 : x ≤ p) (h2 : p < x + wd) : (scrB W H p y && holdB cx cy ca cb p y) = decide (l ≤ p ∧ p < l + u) := by
  have m := h.vis hw hy hx p h1 h2
  by_cases hs : 0 ≤ p ∧ p < (W : Int) ∧ 0 ≤ y ∧ y < (H : Int)
  · rw [scrB_yes (by omega), Bool.true_and]
    unfold holdB
    exact decide_eq_decide.2 ⟨fun q => m.1 ⟨hs, q⟩, fun q => (m.2 q).2⟩
  · rw [scrB_no (by omega), Bool.false_and]
    exact (decide_eq_false (fun q => hs (m.2 q).1)).symm
end Go.Proofs.YtlfffpoeioecjaaDoor

namespace Go.Proofs.YtlfffpoeioecjaaDoor

end Go.Proofs.YtlfffpoeioecjaaDoor
