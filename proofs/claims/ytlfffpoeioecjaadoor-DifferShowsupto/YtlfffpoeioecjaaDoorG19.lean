/-
  The numbers of a sequence: withDigit, withAnother, counted, placeOf.
-/
import Derived.Test.YtlfffpoeioecjaaDoorG18
import Derived.Test.YtlfffpoeioecjaaDoorG12
import Derived.Deep.MidRow
namespace Go.Proofs.YtlfffpoeioecjaaDoor
open Go.RowKit Go.Sort
set_option linter.unusedVariables false

def numC (l : Nat → Int) (a : Int) : Array Value := #[.int .i64 (l 0), .int .i64 (l 1), .int .i64 (l 2), .int .i64 (l 3), .int .i64 (l 4), .int .i64 (l 5), .int .i64 (l 6), .int .i64 (l 7), .int .i64 (l 8), .int .i64 (l 9), .int .i64 (l 10), .int .i64 (l 11), .int .i64 (l 12), .int .i64 (l 13), .int .i64 (l 14), .int .i64 (l 15), .int .i64 (l 16), .int .i64 a]
def numV (l : Nat → Int) (a : Int) : Value := .agg #[.int .i64 (l 0), .int .i64 (l 1), .int .i64 (l 2), .int .i64 (l 3), .int .i64 (l 4), .int .i64 (l 5), .int .i64 (l 6), .int .i64 (l 7), .int .i64 (l 8), .int .i64 (l 9), .int .i64 (l 10), .int .i64 (l 11), .int .i64 (l 12), .int .i64 (l 13), .int .i64 (l 14), .int .i64 (l 15), .int .i64 (l 16), .int .i64 a]
/-- The numbers in a block. -/
def N18 (Q : World) (b : Nat) (l : Nat → Int) (a : Int) : Prop := Q.heap[b]? = some (.cells (numC l a) 141 (0, 0))
section
variable {Q Q' : World} {b k : Nat} {l : Nat → Int} {a : Int}
theorem N18.lt (h : N18 Q b l a) : b < Q.heap.size := (Array.getElem?_eq_some_iff.1 h).1
theorem N18.fz (h : N18 Q b l a) (j : Nat) : Q.frozen? ⟨b, j, none⟩ = false := frozen_of_row _ _ _ _ _ h
theorem N18.at (h : N18 Q b l a) {j : Nat} {v : Value} (hv : (numC l a)[j]? = some v) : Q.cell? ⟨b, j, none⟩ = some v := by rw [cell_of_row Q b j _ _ _ h]; exact hv
theorem N18.gr (h : N18 Q b l a) (g : Gr Q Q') : N18 Q' b l a := (g.block h.lt).trans h
theorem N18.c2 {X M : Nat} (h : N18 Q b l a) (g : C2 X M Q Q') (h1 : b ≠ X) (h2 : b ≠ M) : N18 Q' b l a := (g.block b h.lt h1 h2).trans h
def updN (l : Nat → Int) (k : Nat) (v : Int) : Nat → Int := fun j => if j = k then v else l j
theorem numC_get (l : Nat → Int) (a : Int) (hk : k < 17) : (numC l a)[k]? = some (.int .i64 (l k)) := by
  have : k = 0 ∨ k = 1 ∨ k = 2 ∨ k = 3 ∨ k = 4 ∨ k = 5 ∨ k = 6 ∨ k = 7 ∨ k = 8 ∨ k = 9 ∨ k = 10 ∨ k = 11 ∨ k = 12 ∨ k = 13 ∨ k = 14 ∨ k = 15 ∨ k = 16 := by omega
  rcases this with rfl | rfl | rfl | rfl | rfl | rfl | rfl | rfl | rfl | rfl | rfl | rfl | rfl | rfl | rfl | rfl | rfl <;> rfl
theorem numC_set (l : Nat → Int) (a v : Int) (hk : k < 17) : (numC l a).setIfInBounds k (.int .i64 v) = numC (updN l k v) a := by
  have : k = 0 ∨ k = 1 ∨ k = 2 ∨ k = 3 ∨ k = 4 ∨ k = 5 ∨ k = 6 ∨ k = 7 ∨ k = 8 ∨ k = 9 ∨ k = 10 ∨ k = 11 ∨ k = 12 ∨ k = 13 ∨ k = 14 ∨ k = 15 ∨ k = 16 := by omega
  rcases this with rfl | rfl | rfl | rfl | rfl | rfl | rfl | rfl | rfl | rfl | rfl | rfl | rfl | rfl | rfl | rfl | rfl <;> rfl
theorem N18.set (h : N18 Q b l a) (hk : k < 17) (v : Int) : N18 (Q.setCell ⟨b, k, none⟩ (.int .i64 v)) b (updN l k v) a := by
  show _ = _
  rw [← numC_set l a v hk]
  exact heap_setCell_same Q b k _ _ _ h
theorem N18.setA (h : N18 Q b l a) (v : Int) : N18 (Q.setCell ⟨b, 17, none⟩ (.int .i64 v)) b l v := heap_setCell_same Q b 17 _ _ _ h
theorem N18.put (h : N18 Q b l a) (l' : Nat → Int) (a' : Int) : N18 ((((((((((((((((((Q.setCell ⟨b, 0, none⟩ (.int .i64 (l' 0))).setCell ⟨b, 1, none⟩ (.int .i64 (l' 1))).setCell ⟨b, 2, none⟩ (.int .i64 (l' 2))).setCell ⟨b, 3, none⟩ (.int .i64 (l' 3))).setCell ⟨b, 4, none⟩ (.int .i64 (l' 4))).setCell ⟨b, 5, none⟩ (.int .i64 (l' 5))).setCell ⟨b, 6, none⟩ (.int .i64 (l' 6))).setCell ⟨b, 7, none⟩ (.int .i64 (l' 7))).setCell ⟨b, 8, none⟩ (.int .i64 (l' 8))).setCell ⟨b, 9, none⟩ (.int .i64 (l' 9))).setCell ⟨b, 10, none⟩ (.int .i64 (l' 10))).setCell ⟨b, 11, none⟩ (.int .i64 (l' 11))).setCell ⟨b, 12, none⟩ (.int .i64 (l' 12))).setCell ⟨b, 13, none⟩ (.int .i64 (l' 13))).setCell ⟨b, 14, none⟩ (.int .i64 (l' 14))).setCell ⟨b, 15, none⟩ (.int .i64 (l' 15))).setCell ⟨b, 16, none⟩ (.int .i64 (l' 16))).setCell ⟨b, 17, none⟩ (.int .i64 a')) b l' a' := by
  have h0 := N18.set (k := 0) h (by decide) (l' 0)
  have h1 := N18.set (k := 1) h0 (by decide) (l' 1)
  have h2 := N18.set (k := 2) h1 (by decide) (l' 2)
  have h3 := N18.set (k := 3) h2 (by decide) (l' 3)
  have h4 := N18.set (k := 4) h3 (by decide) (l' 4)
  have h5 := N18.set (k := 5) h4 (by decide) (l' 5)
  have h6 := N18.set (k := 6) h5 (by decide) (l' 6)
  have h7 := N18.set (k := 7) h6 (by decide) (l' 7)
  have h8 := N18.set (k := 8) h7 (by decide) (l' 8)
  have h9 := N18.set (k := 9) h8 (by decide) (l' 9)
  have h10 := N18.set (k := 10) h9 (by decide) (l' 10)
  have h11 := N18.set (k := 11) h10 (by decide) (l' 11)
  have h12 := N18.set (k := 12) h11 (by decide) (l' 12)
  have h13 := N18.set (k := 13) h12 (by decide) (l' 13)
  have h14 := N18.set (k := 14) h13 (by decide) (l' 14)
  have h15 := N18.set (k := 15) h14 (by decide) (l' 15)
  have h16 := N18.set (k := 16) h15 (by decide) (l' 16)
  have h17 := N18.setA h16 a'
  have e : numC (updN (updN (updN (updN (updN (updN (updN (updN (updN (updN (updN (updN (updN (updN (updN (updN (updN l 0 (l' 0)) 1 (l' 1)) 2 (l' 2)) 3 (l' 3)) 4 (l' 4)) 5 (l' 5)) 6 (l' 6)) 7 (l' 7)) 8 (l' 8)) 9 (l' 9)) 10 (l' 10)) 11 (l' 11)) 12 (l' 12)) 13 (l' 13)) 14 (l' 14)) 15 (l' 15)) 16 (l' 16)) a' = numC l' a' := rfl
  show _ = _
  rw [← e]
  exact h17
theorem N18.putAll (h : N18 Q b l a) (l' : Nat → Int) (a' : Int) : N18 (Q.setCells b 0 (numC l' a').toList) b l' a' := h.put l' a'
theorem N18.range (h : N18 Q b l a) : Q.rangeAt b 0 (numC l a).toList := fun j v hv => by
  rw [Nat.zero_add]
  exact h.at (by rw [← Array.getElem?_toList]; exact hv)
theorem N18.thr (h : N18 Q b l a) : Q.there b 0 18 := fun j hj => by
  rw [Nat.zero_add]
  refine ⟨?_, h.fz j⟩
  have hs : (numC l a).size = 18 := rfl
  rw [h.at (j := j) (v := (numC l a)[j]'(by omega)) (Array.getElem?_eq_getElem _)]
  rfl
theorem Gr.set18 {Q Q' : World} {k : Nat} (g : Gr Q Q') (hk : Q.heap.size ≤ k) (l : Nat → Int) (a : Int) : Gr Q (Q'.setCells k 0 (numC l a).toList) := by
  show Gr Q ((((((((((((((((((Q'.setCell ⟨k, 0, none⟩ (.int .i64 (l 0))).setCell ⟨k, 1, none⟩ (.int .i64 (l 1))).setCell ⟨k, 2, none⟩ (.int .i64 (l 2))).setCell ⟨k, 3, none⟩ (.int .i64 (l 3))).setCell ⟨k, 4, none⟩ (.int .i64 (l 4))).setCell ⟨k, 5, none⟩ (.int .i64 (l 5))).setCell ⟨k, 6, none⟩ (.int .i64 (l 6))).setCell ⟨k, 7, none⟩ (.int .i64 (l 7))).setCell ⟨k, 8, none⟩ (.int .i64 (l 8))).setCell ⟨k, 9, none⟩ (.int .i64 (l 9))).setCell ⟨k, 10, none⟩ (.int .i64 (l 10))).setCell ⟨k, 11, none⟩ (.int .i64 (l 11))).setCell ⟨k, 12, none⟩ (.int .i64 (l 12))).setCell ⟨k, 13, none⟩ (.int .i64 (l 13))).setCell ⟨k, 14, none⟩ (.int .i64 (l 14))).setCell ⟨k, 15, none⟩ (.int .i64 (l 15))).setCell ⟨k, 16, none⟩ (.int .i64 (l 16))).setCell ⟨k, 17, none⟩ (.int .i64 a))
  exact ((((((((((((((((((g.set hk _).set hk _).set hk _).set hk _).set hk _).set hk _).set hk _).set hk _).set hk _).set hk _).set hk _).set hk _).set hk _).set hk _).set hk _).set hk _).set hk _).set hk _)
theorem N18.new (Q : World) (l : Nat → Int) (a : Int) : N18 (Q.alloc (.cells (numC l a) 141)) Q.heap.size l a := heap_alloc_new _ _
end

theorem numOne (l : Nat → Int) (a : Int) : (numC l a).all (·.oneCell') = true := by simp [numC, Value.oneCell']
theorem numDesc : ∃ d, Tryd.prog.underlying 141 = some d ∧ d.isRow = true := ⟨_, Tryd.underlying141, rfl⟩
theorem numInfo : (Tryd.prog.info? 141).map (·.size) = some 18 := by kernel_rfl

set_option maxRecDepth 100000 in
set_option maxHeartbeats 4000000 in
theorem withAnother_any (l : Nat → Int) (a : Int) (ha : 0 ≤ a ∧ a ≤ 16) (w : World) : Calls Tryd.prog 94 #[numV l a] w fun e w' => e = .returned (numV l (min (a + 1) 16)) ∧ Gr w w' := by
  unfold numV
  obtain ⟨a2, ha2⟩ : ∃ z, min (a + 1) 16 = z := ⟨_, rfl⟩
  obtain ⟨d, hu, hd⟩ := numDesc
  have hi := numInfo
  have hb : a + 1 ≤ 16 ∧ a2 = a + 1 ∨ 16 < a + 1 ∧ a2 = 16 := by omega
  rw [ha2]
  clear ha2
  go_enter Tryd.func94, Tryd.ntmps94
  go_upto_region 1 with fail
  obtain ⟨S, hS⟩ : ∃ z, w.heap.size = z := ⟨_, rfl⟩
  obtain ⟨W0, hW0⟩ : ∃ z, (w.alloc (.cells #[.int .i64 (l 0), .int .i64 (l 1), .int .i64 (l 2), .int .i64 (l 3), .int .i64 (l 4), .int .i64 (l 5), .int .i64 (l 6), .int .i64 (l 7), .int .i64 (l 8), .int .i64 (l 9), .int .i64 (l 10), .int .i64 (l 11), .int .i64 (l 12), .int .i64 (l 13), .int .i64 (l 14), .int .i64 (l 15), .int .i64 (l 16), .int .i64 a] 141)).alloc (.cells #[.int .i64 0, .int .i64 0, .int .i64 0, .int .i64 0, .int .i64 0, .int .i64 0, .int .i64 0, .int .i64 0, .int .i64 0, .int .i64 0, .int .i64 0, .int .i64 0, .int .i64 0, .int .i64 0, .int .i64 0, .int .i64 0, .int .i64 0, .int .i64 0] 141) = z := ⟨_, rfl⟩
  have G0 : Hid (Gr w W0) := by rw [← hW0]; exact ((Gr.refl w).alloc _).alloc _
  have A0 : Hid (N18 W0 S l a) := by rw [← hW0, ← hS]; exact (N18.new w l a).gr ((Gr.refl _).alloc _)
  have Z0 : Hid (N18 W0 (S + 1) (fun _ => 0) 0) := by
    have := N18.new (w.alloc (.cells #[.int .i64 (l 0), .int .i64 (l 1), .int .i64 (l 2), .int .i64 (l 3), .int .i64 (l 4), .int .i64 (l 5), .int .i64 (l 6), .int .i64 (l 7), .int .i64 (l 8), .int .i64 (l 9), .int .i64 (l 10), .int .i64 (l 11), .int .i64 (l 12), .int .i64 (l 13), .int .i64 (l 14), .int .i64 (l 15), .int .i64 (l 16), .int .i64 a] 141)) (fun _ => 0) 0
    rw [World.size_alloc, hS] at this
    rw [← hW0]; exact this
  rw [hW0, hS]
  have HS : Hid (w.heap.size = S) := hS
  clear hW0 hS
  have c17 : W0.cell? ⟨S, 17, none⟩ = some (.int .i64 a) := A0.out.at rfl
  have fz := A0.out.fz
  rcases hb with ⟨hb, rfl⟩ | ⟨hb, rfl⟩
  · go_upto_region 2 with fail
    obtain ⟨W1, hW1⟩ : ∃ z, W0.setCell ⟨S, 17, none⟩ (.int .i64 (a + 1)) = z := ⟨_, rfl⟩
    have A1 : Hid (N18 W1 S l (a + 1)) := by rw [← hW1]; exact A0.out.setA _
    have Z1 : Hid (N18 W1 (S + 1) (fun _ => 0) 0) := by rw [← hW1]; exact (Below.heap_setCell W0 ⟨S, 17, none⟩ _ (S + 1) (by show S + 1 ≠ S; omega)).trans Z0.out
    have G1 : Hid (Gr w W1) := by rw [← hW1]; exact G0.out.set (by rw [HS.out]; exact Nat.le_refl _) _
    rw [hW1]
    clear hW1 c17 fz
    have ht : W1.there (S + 1) 0 (numC l (a + 1)).size := Z1.out.thr
    have hi2 : (Tryd.prog.info? 141).map (·.size) = some (numC l (a + 1)).size := numInfo
    have hi3 : (Tryd.prog.info? 141).map (·.size) = some (numC l (a + 1)).toList.length := numInfo
    have h1 : (numC l (a + 1)).all (·.oneCell') = true := numOne _ _
    go_wp2_with (first | (refine wpList_load_mid rfl 141 _ rfl S 0 rfl (numC l (a + 1)).toList d A1.out.range hu hd hi3 ?_) | (refine wpList_store_mid rfl 141 _ _ rfl (S + 1) 0 (numC l (a + 1)) rfl rfl ht hi2 h1 ?_))
    refine bodyPost_ret (results_cell_row rfl _ _ (S + 1) _ _ _ _ rfl (Z1.out.putAll l _) Tryd.underlying141 rfl (by kernel_rfl)) rfl ?_
    exact ⟨rfl, G1.out.set18 (by rw [HS.out]; omega) l _⟩
  · go_upto_region 2 with fail
    obtain ⟨W1, hW1⟩ : ∃ z, W0.setCell ⟨S, 17, none⟩ (.int .i64 (16)) = z := ⟨_, rfl⟩
    have A1 : Hid (N18 W1 S l (16)) := by rw [← hW1]; exact A0.out.setA _
    have Z1 : Hid (N18 W1 (S + 1) (fun _ => 0) 0) := by rw [← hW1]; exact (Below.heap_setCell W0 ⟨S, 17, none⟩ _ (S + 1) (by show S + 1 ≠ S; omega)).trans Z0.out
    have G1 : Hid (Gr w W1) := by rw [← hW1]; exact G0.out.set (by rw [HS.out]; exact Nat.le_refl _) _
    rw [hW1]
    clear hW1 c17 fz
    have ht : W1.there (S + 1) 0 (numC l (16)).size := Z1.out.thr
    have hi2 : (Tryd.prog.info? 141).map (·.size) = some (numC l (16)).size := numInfo
    have hi3 : (Tryd.prog.info? 141).map (·.size) = some (numC l (16)).toList.length := numInfo
    have h1 : (numC l (16)).all (·.oneCell') = true := numOne _ _
    go_wp2_with (first | (refine wpList_load_mid rfl 141 _ rfl S 0 rfl (numC l (16)).toList d A1.out.range hu hd hi3 ?_) | (refine wpList_store_mid rfl 141 _ _ rfl (S + 1) 0 (numC l (16)) rfl rfl ht hi2 h1 ?_))
    refine bodyPost_ret (results_cell_row rfl _ _ (S + 1) _ _ _ _ rfl (Z1.out.putAll l _) Tryd.underlying141 rfl (by kernel_rfl)) rfl ?_
    exact ⟨rfl, G1.out.set18 (by rw [HS.out]; omega) l _⟩

set_option maxRecDepth 100000 in
set_option maxHeartbeats 8000000 in
theorem withDigit_any (l : Nat → Int) (k : Nat) (d : Int) (hk : k < 17) (hl : 0 ≤ l k ∧ l k ≤ 999999) (hd : 0 ≤ d ∧ d ≤ 9) (w : World) : Calls Tryd.prog 93 #[numV l (k : Int), .int .i64 d] w fun e w' => e = .returned (numV (updN l k (min (l k * 10 + d) 999999)) (k : Int)) ∧ Gr w w' := by
  unfold numV
  obtain ⟨d0, hu, hd0⟩ := numDesc
  obtain ⟨v, hv⟩ : ∃ z, l k = z := ⟨_, rfl⟩
  obtain ⟨v2, hv2⟩ : ∃ z, min (l k * 10 + d) 999999 = z := ⟨_, rfl⟩
  have hb : v * 10 + d ≤ 999999 ∧ v2 = v * 10 + d ∨ 999999 < v * 10 + d ∧ v2 = 999999 := by rw [← hv2, hv]; omega
  rw [hv2]
  obtain ⟨l2, hl2⟩ : ∃ z, updN l k v2 = z := ⟨_, rfl⟩
  rw [hl2]
  rw [hv] at hl
  have HV : Hid (l k = v) := hv
  have HL2 : Hid (updN l k v2 = l2) := hl2
  clear hv hv2 hl2
  have hk' : (k : Int) < 17 := by omega
  go_enter Tryd.func93, Tryd.ntmps93
  go_upto_region 1 with fail
  obtain ⟨S, hS⟩ : ∃ z, w.heap.size = z := ⟨_, rfl⟩
  obtain ⟨W0, hW0⟩ : ∃ z, (w.alloc (.cells #[.int .i64 (l 0), .int .i64 (l 1), .int .i64 (l 2), .int .i64 (l 3), .int .i64 (l 4), .int .i64 (l 5), .int .i64 (l 6), .int .i64 (l 7), .int .i64 (l 8), .int .i64 (l 9), .int .i64 (l 10), .int .i64 (l 11), .int .i64 (l 12), .int .i64 (l 13), .int .i64 (l 14), .int .i64 (l 15), .int .i64 (l 16), .int .i64 (k : Int)] 141)).alloc (.cells #[.int .i64 0, .int .i64 0, .int .i64 0, .int .i64 0, .int .i64 0, .int .i64 0, .int .i64 0, .int .i64 0, .int .i64 0, .int .i64 0, .int .i64 0, .int .i64 0, .int .i64 0, .int .i64 0, .int .i64 0, .int .i64 0, .int .i64 0, .int .i64 0] 141) = z := ⟨_, rfl⟩
  have G0 : Hid (Gr w W0) := by rw [← hW0]; exact ((Gr.refl w).alloc _).alloc _
  have A0 : Hid (N18 W0 S l (k : Int)) := by rw [← hW0, ← hS]; exact (N18.new w l (k : Int)).gr ((Gr.refl _).alloc _)
  have Z0 : Hid (N18 W0 (S + 1) (fun _ => 0) 0) := by
    have := N18.new (w.alloc (.cells #[.int .i64 (l 0), .int .i64 (l 1), .int .i64 (l 2), .int .i64 (l 3), .int .i64 (l 4), .int .i64 (l 5), .int .i64 (l 6), .int .i64 (l 7), .int .i64 (l 8), .int .i64 (l 9), .int .i64 (l 10), .int .i64 (l 11), .int .i64 (l 12), .int .i64 (l 13), .int .i64 (l 14), .int .i64 (l 15), .int .i64 (l 16), .int .i64 (k : Int)] 141)) (fun _ => 0) 0
    rw [World.size_alloc, hS] at this
    rw [← hW0]; exact this
  rw [hW0, hS]
  have HS : Hid (w.heap.size = S) := hS
  clear hW0 hS
  have c17 : W0.cell? ⟨S, 17, none⟩ = some (.int .i64 (k : Int)) := A0.out.at rfl
  have ck : W0.cell? ⟨S, k, none⟩ = some (.int .i64 v) := by rw [← HV.out]; exact A0.out.at (numC_get l _ hk)
  have fz := A0.out.fz
  rcases hb with ⟨hb, rfl⟩ | ⟨hb, rfl⟩
  · go_region
    go_upto_region 2 with fail
    obtain ⟨W1, hW1⟩ : ∃ z, (W0.setCell ⟨S, k, none⟩ (.int .i64 (v * 10 + d))).drew = z := ⟨_, rfl⟩
    have A1 : Hid (N18 W1 S l2 (k : Int)) := by rw [← hW1, ← HL2.out]; exact (A0.out.set hk _).gr (Gr.refl _).drew
    have Z1 : Hid (N18 W1 (S + 1) (fun _ => 0) 0) := by rw [← hW1]; exact N18.gr ((Below.heap_setCell W0 ⟨S, k, none⟩ _ (S + 1) (by show S + 1 ≠ S; omega)).trans Z0.out) (Gr.refl _).drew
    have G1 : Hid (Gr w W1) := by rw [← hW1]; exact (G0.out.set (by rw [HS.out]; exact Nat.le_refl _) _).drew
    rw [hW1]
    clear hW1 c17 ck fz
    have ht : W1.there (S + 1) 0 (numC l2 (k : Int)).size := Z1.out.thr
    have hi2 : (Tryd.prog.info? 141).map (·.size) = some (numC l2 (k : Int)).size := numInfo
    have hi3 : (Tryd.prog.info? 141).map (·.size) = some (numC l2 (k : Int)).toList.length := numInfo
    have h1 : (numC l2 (k : Int)).all (·.oneCell') = true := numOne _ _
    go_wp2_with (first | (refine wpList_load_mid rfl 141 _ rfl S 0 rfl (numC l2 (k : Int)).toList d0 A1.out.range hu hd0 hi3 ?_) | (refine wpList_store_mid rfl 141 _ _ rfl (S + 1) 0 (numC l2 (k : Int)) rfl rfl ht hi2 h1 ?_))
    refine bodyPost_ret (results_cell_row rfl _ _ (S + 1) _ _ _ _ rfl (Z1.out.putAll l2 _) Tryd.underlying141 rfl (by kernel_rfl)) rfl ?_
    exact ⟨rfl, G1.out.set18 (by rw [HS.out]; omega) l2 _⟩
  · go_region
    go_upto_region 2 with fail
    obtain ⟨W1, hW1⟩ : ∃ z, (W0.setCell ⟨S, k, none⟩ (.int .i64 (999999))).drew = z := ⟨_, rfl⟩
    have A1 : Hid (N18 W1 S l2 (k : Int)) := by rw [← hW1, ← HL2.out]; exact (A0.out.set hk _).gr (Gr.refl _).drew
    have Z1 : Hid (N18 W1 (S + 1) (fun _ => 0) 0) := by rw [← hW1]; exact N18.gr ((Below.heap_setCell W0 ⟨S, k, none⟩ _ (S + 1) (by show S + 1 ≠ S; omega)).trans Z0.out) (Gr.refl _).drew
    have G1 : Hid (Gr w W1) := by rw [← hW1]; exact (G0.out.set (by rw [HS.out]; exact Nat.le_refl _) _).drew
    rw [hW1]
    clear hW1 c17 ck fz
    have ht : W1.there (S + 1) 0 (numC l2 (k : Int)).size := Z1.out.thr
    have hi2 : (Tryd.prog.info? 141).map (·.size) = some (numC l2 (k : Int)).size := numInfo
    have hi3 : (Tryd.prog.info? 141).map (·.size) = some (numC l2 (k : Int)).toList.length := numInfo
    have h1 : (numC l2 (k : Int)).all (·.oneCell') = true := numOne _ _
    go_wp2_with (first | (refine wpList_load_mid rfl 141 _ rfl S 0 rfl (numC l2 (k : Int)).toList d0 A1.out.range hu hd0 hi3 ?_) | (refine wpList_store_mid rfl 141 _ _ rfl (S + 1) 0 (numC l2 (k : Int)) rfl rfl ht hi2 h1 ?_))
    refine bodyPost_ret (results_cell_row rfl _ _ (S + 1) _ _ _ _ rfl (Z1.out.putAll l2 _) Tryd.underlying141 rfl (by kernel_rfl)) rfl ?_
    exact ⟨rfl, G1.out.set18 (by rw [HS.out]; omega) l2 _⟩

set_option maxRecDepth 100000 in
theorem placeOf_any (n side : Int) (hn : 0 ≤ n ∧ n ≤ 999999) (hs : 1 ≤ side ∧ side ≤ 400) (w : World) : Calls Tryd.prog 110 #[.int .i64 n, .int .i64 side] w fun e w' => e = .returned (.int .i64 (min (max n 1) side - 1)) ∧ w' = w := by
  go_enter Tryd.func110, Tryd.ntmps110
  by_cases h1 : n < 1
  · have e1 : max n 1 = 1 := by omega
    rw [e1]
    by_cases h2 : 1 ≤ side
    · have e2 : min 1 side = 1 := by omega
      rw [e2]
      go_wp2
      go_ret
      exact ⟨rfl, rfl⟩
    · omega
  · have e1 : max n 1 = n := by omega
    rw [e1]
    by_cases h2 : n ≤ side
    · have e2 : min n side = n := by omega
      rw [e2]
      go_wp2
      go_ret
      exact ⟨rfl, rfl⟩
    · have e2 : min n side = side := by omega
      rw [e2]
      go_wp2
      go_ret
      exact ⟨rfl, rfl⟩

end Go.Proofs.YtlfffpoeioecjaaDoor
