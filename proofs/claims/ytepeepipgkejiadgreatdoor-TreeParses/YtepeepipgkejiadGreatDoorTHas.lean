/-
  The program's reader: someNodeHas.
-/
import Derived.Test.YtepeepipgkejiadGreatDoorTAdd
namespace Go.Proofs.YtepeepipgkejiadGreatDoor
open Go.RowKit
set_option linter.unusedVariables false

/-- Has one of the nodes that number as its attribute k? -/
def hasAt (L : List Nd) (k : Nat) (n : Int) : Bool := L.any fun d => d.attr[k]?.getD 0 == n
theorem hasAt_zero (L : List Nd) (n : Int) : hasAt L 0 n = hasId L n := rfl
theorem any_take_succ (L : List Nd) (k j : Nat) (n : Int) (hj : j < L.length) (h : hasAt (L.take j) k n = false) (hn : ((nth L j).attr[k]?.getD 0 == n) = false) : hasAt (L.take (j + 1)) k n = false := by
  unfold hasAt at *
  rw [List.take_add_one, List.any_append, h]
  unfold nth at hn
  rw [List.getElem?_eq_getElem hj] at hn ⊢
  simp at hn ⊢
  exact hn
theorem any_at (L : List Nd) (k j : Nat) (n : Int) (hj : j < L.length) (hn : ((nth L j).attr[k]?.getD 0 == n) = true) : hasAt L k n = true := by
  unfold hasAt
  unfold nth at hn
  rw [List.getElem?_eq_getElem hj] at hn
  rw [List.any_eq_true]
  exact ⟨L[j], List.getElem_mem hj, by simpa using hn⟩
/-- A row of the table as a value. -/
def rowA (k : Nat) : Value := .agg #[.string (nmAt k), .int .u64 (kdAt k : Int), .int .i64 (moAt k), .int .i64 (woAt k), .bool (sgAt k), .func (.func (fnAt k)) #[] #[]]

set_option maxRecDepth 100000 in
set_option maxHeartbeats 4000000 in
theorem someNodeHas_any (rb B : Nat) (s : ByteArray) (i : Nat) (av nv fv : Value) (L : List Nd) (KV : Nat → Value) (k : Nat) (hk : k < 12) (n : Int) (w : World) (h : PR w rb s i av nv fv) (hn : PN w B nv L KV) (hL : L.length ≤ 100000) :
    Calls Tryz.prog 111 #[.pointer (some ⟨rb, 0, none⟩), rowA k, .int .i64 n] w fun e w' => e = .returned (.bool (hasAt L k n)) ∧ Below w.heap.size w w' := by
  obtain ⟨pn, cn, rfl⟩ : ∃ p c, nv = .slice p L.length c := own_slice hn.nr.row.choose_spec
  have HQ : Hid (InAt (fnAt k) k) := in_at k hk
  unfold rowA
  obtain ⟨g, hg⟩ : ∃ g, fnAt k = g := ⟨_, rfl⟩
  obtain ⟨a0, h0⟩ : ∃ x, nmAt k = x := ⟨_, rfl⟩
  obtain ⟨a1, h1⟩ : ∃ x, kdAt k = x := ⟨_, rfl⟩
  obtain ⟨a2, h2⟩ : ∃ x, moAt k = x := ⟨_, rfl⟩
  obtain ⟨a3, h3⟩ : ∃ x, woAt k = x := ⟨_, rfl⟩
  obtain ⟨a4, h4⟩ : ∃ x, sgAt k = x := ⟨_, rfl⟩
  rw [hg, h0, h1, h2, h3, h4]
  rw [hg] at HQ
  have eg := HQ.out.1
  clear h0 h1 h2 h3 h4 hg
  have HR : Hid (PR w rb s i av (.slice pn L.length cn) fv) := h
  have HN : Hid (PN w B (.slice pn L.length cn) L KV) := hn
  have c3 := h.c3
  have hrl := h.lt
  clear h hn
  go_enter Tryz.func111, Tryz.ntmps111
  go_wp2
  obtain ⟨W1, hW1⟩ : ∃ z, w.alloc (.cells #[.string a0, .int .u64 (a1 : Int), .int .i64 a2, .int .i64 a3, .bool a4, .func (.func g) #[] #[]] 83) = z := ⟨_, rfl⟩
  have B1 : Hid (Below w.heap.size w W1) := by rw [← hW1]; exact (Below.refl _ _).alloc (Nat.le_refl _) _
  have HR1 : Hid (PR W1 rb s i av (.slice pn L.length cn) fv) := by rw [← hW1]; exact HR.out.below ((Below.refl _ _).alloc (Nat.le_refl _) _)
  have HN1 : Hid (PN W1 B (.slice pn L.length cn) L KV) := HN.out.up (Up.below B1.out)
  have d5 : W1.cell? ⟨w.heap.size, 5, none⟩ = some (.func (.func g) #[] #[]) := by rw [← hW1, World.cell?_alloc_at _ _ _ _ rfl]; rfl
  have d3 := HR1.out.c3
  rw [hW1]
  clear hW1 c3 hrl HR HN
  go_loopw [13] (fun v wr => ∃ j : Nat, v = .int .i64 (j : Int) ∧ j ≤ L.length ∧ Hid (hasAt (L.take j) k n = false) ∧ Hid (∃ q, wr = W1.drewN q)) (fun v _ => L.length - (intOf v).toNat)
  case atStart => exact ⟨0, rfl, Nat.zero_le _, by show hasAt (L.take 0) k n = false; simp [hasAt], 0, rfl⟩
  case round =>
    obtain ⟨j, rfl, hj, HF, HW⟩ := hrel
    have B2 : Hid (Below w.heap.size w wr) := by obtain ⟨q, rfl⟩ := HW.out; exact below_drewN' B1.out _
    have d5' : wr.cell? ⟨w.heap.size, 5, none⟩ = some (.func (.func g) #[] #[]) := by obtain ⟨q, rfl⟩ := HW.out; exact d5
    have d3' : wr.cell? ⟨rb, 3, none⟩ = some (.slice pn L.length cn) := by obtain ⟨q, rfl⟩ := HW.out; exact d3
    by_cases hlt : j < L.length
    · have hlt' : (j : Int) < (L.length : Int) := by omega
      obtain ⟨bl, cap, hv, hBg, hgl, _, _⟩ := HN1.out.nr.form (by omega)
      simp only [Value.slice.injEq, true_and] at hv
      obtain ⟨rfl, rfl⟩ := hv
      have ce0 := HN1.out.nr.cells bl rfl j hlt (k + 1) _ (pn_attr (by rw [HN1.out.len j hlt]; exact hk))
      have ce : wr.cell? ⟨bl, j * 16 + (k + 1), none⟩ = some (.int .i64 ((nth L j).attr[k]?.getD 0)) := by obtain ⟨q, rfl⟩ := HW.out; exact ce0
      clear ce0
      obtain ⟨x, hx⟩ : ∃ x, (nth L j).attr[k]?.getD 0 = x := ⟨_, rfl⟩
      have HX : Hid ((nth L j).attr[k]?.getD 0 = x) := hx
      rw [hx] at ce
      clear hx
      have ce2 : wr.cell? ⟨bl, j * 16 + k + 1, none⟩ = some (.int .i64 x) := ce
      by_cases hxn : x = n
      · have e1 : (x == n) = true := by simpa using hxn
        have HT : Hid (hasAt L k n = true) := any_at L k j n hlt (by rw [HX.out]; exact e1)
        go_wp2_with fail
        go_quiet (first | (go_at_fn g; exact Calls.quiet_of_same (HQ.out.2 _ _ _)))
        go_wp2
        go_ret
        exact ⟨by rw [HT.out]; rfl, below_drewN' B2.out _⟩
      · have e1 : (x == n) = false := by simpa using hxn
        have HF2 : Hid (hasAt (L.take (j + 1)) k n = false) := any_take_succ L k j n hlt HF.out (by rw [HX.out]; exact e1)
        go_wp2_with fail
        go_quiet (first | (go_at_fn g; exact Calls.quiet_of_same (HQ.out.2 _ _ _)))
        go_wp2
        go_roundw
        case rel => exact ⟨j + 1, by go_num, by omega, HF2.out, by obtain ⟨q, rfl⟩ := HW.out; exact ⟨q + nq, by first | rfl | exact World.drewN_drewN _ _ _⟩⟩
        case measure => simp [intOf]; omega
    · have hlt' : ¬ (j : Int) < (L.length : Int) := by omega
      obtain rfl : j = L.length := by omega
      have HT : Hid (hasAt L k n = false) := by have := HF.out; rw [List.take_length] at this; exact this
      go_wp2
      go_ret
      exact ⟨by rw [HT.out]; rfl, B2.out⟩

end Go.Proofs.YtepeepipgkejiadGreatDoor
