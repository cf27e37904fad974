/-
  The program's nodes in memory; frames.
-/
import Derived.Test.YtepeepipgkejiadGreatDoorTSpec
import Derived.Test.YtepeepipgkejiadGreatDoorTRows
namespace Go.Proofs.YtepeepipgkejiadGreatDoor
open Go.RowKit
set_option linter.unusedVariables false

def nd0 : Nd := ⟨0, [], [], [], 0⟩
def nth (L : List Nd) (j : Nat) : Nd := L[j]?.getD nd0
theorem nth_app_old {L : List Nd} {d : Nd} {j : Nat} (h : j < L.length) : nth (L ++ [d]) j = nth L j := by
  unfold nth; rw [List.getElem?_append_left h]
theorem nth_app_new (L : List Nd) (d : Nd) : nth (L ++ [d]) L.length = d := by
  unfold nth; rw [List.getElem?_append_right (Nat.le_refl _)]; simp
theorem nth_mod_same {L : List Nd} {k : Nat} (f : Nd → Nd) (h : k < L.length) : nth (L.modify k f) k = f (nth L k) := by
  unfold nth; rw [List.getElem?_modify]; simp [h]
theorem nth_mod_other {L : List Nd} {k j : Nat} (f : Nd → Nd) (h : j ≠ k) : nth (L.modify k f) j = nth L j := by
  unfold nth; rw [List.getElem?_modify]
  have h' : ¬ k = j := fun e => h e.symm
  simp [h']

theorem NR.congr {W : World} {B z n : Nat} {T : TypeId} {nv : Value} {C C' : Nat → List Value} {KV KV' : Nat → Value} {K K' : Nat → List Nat} (h : NR W B T z nv n C KV K)
    (h1 : ∀ j, j < n → C' j = C j) (h2 : ∀ j, j < n → KV' j = KV j) (h3 : ∀ j, j < n → K' j = K j) : NR W B T z nv n C' KV' K' :=
  ⟨h.row, fun g hg j hj t u ht => h.cells g hg j hj t u (by rw [← h1 j hj]; exact ht), fun j hj => by rw [h1 j hj]; exact h.len j hj, fun j hj => by rw [h2 j hj, h3 j hj]; exact h.kids j hj,
   fun i j hi hj hij b hb => by rw [h2 j hj]; rw [h2 i hi] at hb; exact h.sep i j hi hj hij b hb⟩

/-- A frame: blocks below B are as they were, but for r. -/
structure Fr (B r : Nat) (W W' : World) : Prop where
  os : W'.os = W.os
  tape : W'.tape = W.tape
  output : W'.output = W.output
  size : W.heap.size ≤ W'.heap.size
  block : ∀ b, b < B → b ≠ r → W'.heap[b]? = W.heap[b]?
theorem Fr.refl (B r : Nat) (W : World) : Fr B r W W := ⟨rfl, rfl, rfl, Nat.le_refl _, fun _ _ _ => rfl⟩
theorem Fr.trans {B r : Nat} {W W1 W2 : World} (h : Fr B r W W1) (k : Fr B r W1 W2) : Fr B r W W2 :=
  ⟨k.os.trans h.os, k.tape.trans h.tape, k.output.trans h.output, Nat.le_trans h.size k.size, fun b h1 h2 => (k.block b h1 h2).trans (h.block b h1 h2)⟩
theorem Fr.grown {B r : Nat} {W W' : World} (h : W.grownBy W' (some r)) (hB : B ≤ W.heap.size) : Fr B r W W' :=
  ⟨h.os, h.tape, h.output, h.size, fun b h1 h2 => h.block b (by omega) (by simpa using h2)⟩
theorem Fr.own {B r : Nat} {W W' : World} {o : Option Nat} (h : W.grownBy W' o) (hB : B ≤ W.heap.size) (ho : ∀ g, o = some g → B ≤ g) : Fr B r W W' :=
  ⟨h.os, h.tape, h.output, h.size, fun b h1 h2 => h.block b (by omega) (fun e => by have := ho b e.symm; omega)⟩
theorem Fr.below {B B' r : Nat} {W W' : World} (h : Below B' W W') (hB : B ≤ B') : Fr B r W W' :=
  ⟨h.os, h.tape, h.output, h.size, fun b h1 h2 => h.block b (by omega)⟩
theorem Fr.drewN (B r : Nat) (W : World) (q : Nat) : Fr B r W (W.drewN q) := ⟨rfl, rfl, rfl, Nat.le_refl _, fun _ _ _ => rfl⟩
theorem Fr.cell {B r : Nat} {W W' : World} (h : Fr B r W W') {a : Addr} {v : Value} (hc : W.cell? a = some v) (h1 : a.block < B) (h2 : a.block ≠ r) : W'.cell? a = some v :=
  (World.cell?_of_block (h.block a.block h1 h2)).trans hc
theorem Fr.frozen {B r : Nat} {W W' : World} (h : Fr B r W W') {a : Addr} (h1 : a.block < B) (h2 : a.block ≠ r) : W'.frozen? a = W.frozen? a :=
  World.frozen?_of_block (h.block a.block h1 h2)

/-- A node's sixteen cells in the program. -/
def pnCells (d : Nd) (kv : Value) : List Value := .int .i64 (d.kind : Int) :: ((d.attr.map fun (x : Int) => Value.int .i64 x) ++ [.string ⟨d.text.toArray⟩, kv, .int .i64 d.up])
theorem pn_kind (d : Nd) (kv : Value) : (pnCells d kv)[0]? = some (.int .i64 (d.kind : Int)) := rfl
theorem pn_attr {d : Nd} {kv : Value} {t : Nat} (h : t < d.attr.length) : (pnCells d kv)[t + 1]? = some (.int .i64 (d.attr[t]?.getD 0)) := by
  unfold pnCells
  rw [List.getElem?_cons_succ, List.getElem?_append_left (by simpa using h)]
  simp [h]
theorem pn_text {d : Nd} {kv : Value} (h : d.attr.length = 12) : (pnCells d kv)[13]? = some (.string ⟨d.text.toArray⟩) := by
  unfold pnCells
  rw [List.getElem?_cons_succ, List.getElem?_append_right (by simp [h])]; simp [h]
theorem pn_kids {d : Nd} {kv : Value} (h : d.attr.length = 12) : (pnCells d kv)[14]? = some kv := by
  unfold pnCells
  rw [List.getElem?_cons_succ, List.getElem?_append_right (by simp [h])]; simp [h]
theorem pn_up {d : Nd} {kv : Value} (h : d.attr.length = 12) : (pnCells d kv)[15]? = some (.int .i64 d.up) := by
  unfold pnCells
  rw [List.getElem?_cons_succ, List.getElem?_append_right (by simp [h])]; simp [h]
theorem pn_len {d : Nd} {kv : Value} (h : d.attr.length = 12) : (pnCells d kv).length = 16 := by unfold pnCells; simp [h]
theorem pn_set_attr {d : Nd} {kv : Value} {t : Nat} (h : t < d.attr.length) (x : Int) : (pnCells d kv).set (t + 1) (.int .i64 x) = pnCells { d with attr := d.attr.set t x } kv := by
  unfold pnCells
  rw [List.set_cons_succ, List.set_append_left _ _ (by simpa using h), List.map_set]
theorem pn_set_text {d : Nd} {kv : Value} (h : d.attr.length = 12) (x : List UInt8) : (pnCells d kv).set 13 (.string ⟨x.toArray⟩) = pnCells { d with text := x } kv := by
  unfold pnCells
  rw [List.set_cons_succ, List.set_append_right _ _ (by simp [h])]; simp [h]
theorem pn_set_kids {d : Nd} {kv kv' : Value} (h : d.attr.length = 12) (ks : List Nat) : (pnCells d kv).set 14 kv' = pnCells { d with kids := ks } kv' := by
  unfold pnCells
  rw [List.set_cons_succ, List.set_append_right _ _ (by simp [h])]; simp [h]

/-- The program's nodes in memory, all behind B. -/
structure PN (W : World) (B : Nat) (nv : Value) (L : List Nd) (KV : Nat → Value) : Prop where
  nr : NR W B 34 16 nv L.length (fun j => pnCells (nth L j) (KV j)) KV (fun j => (nth L j).kids)
  len : ∀ j, j < L.length → (nth L j).attr.length = 12

section
variable {W W' : World} {B : Nat} {nv : Value} {L : List Nd} {KV : Nat → Value}
theorem PN.up (h : PN W B nv L KV) (hu : Up B W W') : PN W' B nv L KV := ⟨h.nr.up hu, h.len⟩
theorem PN.app {nv' : Value} {xs : List Value} {d : Nd} (h : PN W B nv L KV) (hx : W.ownsRow B 34 16 nv L.length xs) (hx' : W'.ownsRow B 34 16 nv' (L.length + 1) (xs ++ pnCells d (.slice none 0 0))) (hg : W.grownBy W' nv.ownBlock) (hl : d.attr.length = 12) (hk : d.kids = []) :
    PN W' B nv' (L ++ [d]) (fun j => if j = L.length then .slice none 0 0 else KV j) := by
  refine ⟨?_, fun j hj => ?_⟩
  · have hl2 : (L ++ [d]).length = L.length + 1 := by simp
    rw [hl2]
    refine (h.nr.app (by decide) hx hx' hg (pn_len hl)).congr (fun j hj => ?_) (fun j hj => rfl) (fun j hj => ?_)
    · by_cases e : j = L.length
      · subst e; simp only [if_true]; rw [nth_app_new]
      · rw [if_neg e, if_neg e, nth_app_old (by omega)]
    · by_cases e : j = L.length
      · subst e; rw [if_pos rfl, nth_app_new, hk]
      · rw [if_neg e, nth_app_old (by omega)]
  · by_cases e : j = L.length
    · subst e; rw [nth_app_new]; exact hl
    · rw [nth_app_old (by simp at hj; omega)]; exact h.len j (by simp at hj; omega)
/-- One cell of one node changes. -/
theorem PN.mod {g cap k t : Nat} {u : Value} (h : PN W B (.slice (some ⟨g, 0, none⟩) L.length cap) L KV) (hk : k < L.length) (ht : t < 16) (f : Nd → Nd) (hf : (pnCells (nth L k) (KV k)).set t u = pnCells (f (nth L k)) (KV k)) (hfk : (f (nth L k)).kids = (nth L k).kids) (hfl : (f (nth L k)).attr.length = 12) :
    PN (W.setCell ⟨g, k * 16 + t, none⟩ u) B (.slice (some ⟨g, 0, none⟩) L.length cap) (L.modify k f) KV := by
  refine ⟨?_, fun j hj => ?_⟩
  · have hl2 : (L.modify k f).length = L.length := by simp
    rw [hl2]
    refine (h.nr.set (by decide) hk ht u).congr (fun j hj => ?_) (fun j hj => rfl) (fun j hj => ?_)
    · by_cases e : j = k
      · subst e; rw [if_pos rfl, nth_mod_same f hk]; exact hf.symm
      · rw [if_neg e, nth_mod_other f e]
    · by_cases e : j = k
      · subst e; rw [nth_mod_same f hk]; exact hfk
      · rw [nth_mod_other f e]
  · by_cases e : j = k
    · subst e; rw [nth_mod_same f hk]; exact hfl
    · rw [nth_mod_other f e]; exact h.len j (by simpa using hj)
theorem PN.setAttr {g cap k t : Nat} (h : PN W B (.slice (some ⟨g, 0, none⟩) L.length cap) L KV) (hk : k < L.length) (ht : t < 12) (x : Int) :
    PN (W.setCell ⟨g, k * 16 + (t + 1), none⟩ (.int .i64 x)) B (.slice (some ⟨g, 0, none⟩) L.length cap) (L.modify k fun d => { d with attr := d.attr.set t x }) KV :=
  h.mod hk (by omega) _ (pn_set_attr (by rw [h.len k hk]; exact ht) x) rfl (by simp [h.len k hk])
theorem PN.setText {g cap k : Nat} (h : PN W B (.slice (some ⟨g, 0, none⟩) L.length cap) L KV) (hk : k < L.length) (x : List UInt8) :
    PN (W.setCell ⟨g, k * 16 + 13, none⟩ (.string ⟨x.toArray⟩)) B (.slice (some ⟨g, 0, none⟩) L.length cap) (withText L k x) KV :=
  h.mod hk (by omega) _ (pn_set_text (h.len k hk) x) rfl (h.len k hk)
/-- A kid more. -/
theorem PN.kid {g cap : Nat} {kv' : Value} {k c : Nat} (h : PN W B (.slice (some ⟨g, 0, none⟩) L.length cap) L KV) (hk : k < L.length)
    (hr : W'.ownsRow B 3 1 kv' ((nth L k).kids.length + 1) (kInts ((nth L k).kids ++ [c]))) (hg : W.grownBy W' (KV k).ownBlock) (hat : kv'.ownBlock = (KV k).ownBlock ∨ kv'.ownBlock = some W.heap.size) :
    PN (W'.setCell ⟨g, k * 16 + 14, none⟩ kv') B (.slice (some ⟨g, 0, none⟩) L.length cap) (L.modify k fun u => { u with kids := u.kids ++ [c] }) (fun j => if j = k then kv' else KV j) := by
  refine ⟨?_, fun j hj => ?_⟩
  · have hl2 : (L.modify k fun u => { u with kids := u.kids ++ [c] }).length = L.length := by simp
    rw [hl2]
    refine (h.nr.kid (t := 14) (by decide) hk (by omega) hr hg hat).congr (fun j hj => ?_) (fun j hj => rfl) (fun j hj => ?_)
    · by_cases e : j = k
      · subst e; simp only [if_true]; rw [nth_mod_same _ hk]; exact (pn_set_kids (h.len j hk) _).symm
      · rw [if_neg e, if_neg e, nth_mod_other _ e]
    · by_cases e : j = k
      · subst e; rw [if_pos rfl, nth_mod_same _ hk]
      · rw [if_neg e, nth_mod_other _ e]
  · by_cases e : j = k
    · subst e; rw [nth_mod_same _ hk]; exact h.len j hk
    · rw [nth_mod_other _ e]; exact h.len j (by simpa using hj)
end
theorem grown_eq (L : List Nd) (d : Nd) (k : Nat) (hd : d.up = (k : Int)) (hk : k < L.length) : grown L d = (L ++ [d]).modify k fun u => { u with kids := u.kids ++ [L.length] } := by
  unfold grown
  rw [if_neg (by omega), hd]
  simp only [Int.toNat_natCast]
  apply List.ext_getElem?
  intro j
  by_cases h1 : j < L.length
  · rw [List.getElem?_append_left (by simpa using h1), List.getElem?_modify, List.getElem?_modify, List.getElem?_append_left h1]
  · rw [List.getElem?_append_right (by simp; omega), List.getElem?_modify, List.getElem?_append_right (by omega)]
    have h' : ¬ k = j := by omega
    simp [h']

end Go.Proofs.YtepeepipgkejiadGreatDoor
