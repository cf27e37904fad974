/-
  The program's nodes in memory; frames.
-/
import Derived.Test.YtnkebfmlaliddaaGreatDoorP03
namespace Go.Proofs.YtnkebfmlaliddaaGreatDoor
open Go.RowKit
set_option linter.unusedVariables false

def nd0 : Nd := ⟨0, [], [], [], 0⟩
def nth (L : List Nd) (j : Nat) : Nd := L[j]?.getD nd0
theorem nth_app_old {L : List Nd} {d : Nd} {j : Nat} (h : j < L.length) : nth (L ++ [d]) j = nth L j := by
  unfold nth; rw [List.getElem?_append_left h]
theorem nth_app_new (L : List Nd) (d : Nd) : nth (L ++ [d]) L.length = d := by
  unfold nth; rw [List.getElem?_append_right (Nat.le_refl _)]; simp
theorem nth_mod_same {L : List Nd} {k : Nat} (f : Nd → Nd) (h : k < L.length) : nth (L.modify k f) k = f (nth L k) := by
  unfold nth; rw [List.getElem?_modify]; simp [h]
theorem nth_mod_other {L : List Nd} {k j : Nat} (f : Nd → Nd) (h : j ≠ k) : nth (L.modify k f) j = nth L j := by
  unfold nth; rw [List.getElem?_modify]
  have h' : ¬ k = j := fun e => h e.symm
  simp [h']

theorem NR.congr {W : World} {B z n : Nat} {T : TypeId} {nv : Value} {C C' : Nat → List Value} {KV KV' : Nat → Value} {K K' : Nat → List Nat} (h : NR W B T z nv n C KV K)
    (h1 : ∀ j, j < n → C' j = C j) (h2 : ∀ j, j < n → KV' j = KV j) (h3 : ∀ j, j < n → K' j = K j) : NR W B T z nv n C' KV' K' :=
  ⟨h.row, fun g hg j hj t u ht => h.cells g hg j hj t u (by rw [← h1 j hj]; exact ht), fun j hj => by rw [h1 j hj]; exact h.len j hj, fun j hj => by rw [h2 j hj, h3 j hj]; exact h.kids j hj,
   fun i j hi hj hij b hb => by rw [h2 j hj]; rw [h2 i hi] at hb; exact h.sep i j hi hj hij b hb⟩

/-- A frame: blocks below B are as they were, but for r. -/
structure Fr (B r : Nat) (W W' : World) : Prop where
  os : W'.os = W.os
  tape : W'.tape = W.tape
  output : W'.output = W.output
  size : W.heap.size ≤ W'.heap.size
  block : ∀ b, b < B → b ≠ r → W'.heap[b]? = W.heap[b]?
theorem Fr.refl (B r : Nat) (W : World) : Fr B r W W := ⟨rfl, rfl, rfl, Nat.le_refl _, fun _ _ _ => rfl⟩
theorem Fr.trans {B r : Nat} {W W1 W2 : World} (h : Fr B r W W1) (k : Fr B r W1 W2) : Fr B r W W2 :=
  ⟨k.os.trans h.os, k.tape.trans h.tape, k.output.trans h.output, Nat.le_trans h.size k.size, fun b h1 h2 => (k.block b h1 h2).trans (h.block b h1 h2)⟩
theorem Fr.grown {B r : Nat} {W W' : World} (h : W.grownBy W' (some r)) (hB : B ≤ W.heap.size) : Fr B r W W' :=
  ⟨h.os, h.tape, h.output, h.size, fun b h1 h2 => h.block b (by omega) (by simpa using h2)⟩
theorem Fr.own {B r : Nat} {W W' : World} {o : Option Nat} (h : W.grownBy W' o) (hB : B ≤ W.heap.size) (ho : ∀ g, o = some g → B ≤ g) : Fr B r W W' :=
  ⟨h.os, h.tape, h.output, h.size, fun b h1 h2 => h.block b (by omega) (fun e => by have := ho b e.symm; omega)⟩
theorem Fr.below {B B' r : Nat} {W W' : World} (h : Below B' W W') (hB : B ≤ B') : Fr B r W W' :=
  ⟨h.os, h.tape, h.output, h.size, fun b h1 h2 => h.block b (by omega)⟩
theorem Fr.drewN (B r : Nat) (W : World) (q : Nat) : Fr B r W (W.drewN q) := ⟨rfl, rfl, rfl, Nat.le_refl _, fun _ _ _ => rfl⟩
theorem Fr.cell {B r : Nat} {W W' : World} (h : Fr B r W W') {a : Addr} {v : Value} (hc : W.cell? a = some v) (h1 : a.block < B) (h2 : a.block ≠ r) : W'.cell? a = some v :=
  (World.cell?_of_block (h.block a.block h1 h2)).trans hc
theorem Fr.frozen {B r : Nat} {W W' : World} (h : Fr B r W W') {a : Addr} (h1 : a.block < B) (h2 : a.block ≠ r) : W'.frozen? a = W.frozen? a :=
  World.frozen?_of_block (h.block a.block h1 h2)

/-- A node's sixteen cells in the program. -/
def pnCells (d : Nd) (kv : Value) : List Value := .int .i64 (d.kind : Int) :: ((d.attr.map fun (x : Int) => Value.int .i64 x) ++ [.string ⟨d.text.toArray⟩, kv, .int .i64 d.up])
theorem pn_kind (d : Nd) (kv : Value) : (pnCells d kv)[0]? = some (.int .i64 (d.kind : Int)) := rfl
theorem pn_attr {d : Nd} {kv : Value} {t : Nat} (h : t < d.attr.length) : (pnCells d kv)[t + 1]? = some (.int .i64 (d.attr[t]?.getD 0)) := by
  unfold pnCells
  rw [List.getElem?_cons_succ, List.getElem?_append_left (by simpa using h)]
  simp [h]
theorem pn_text {d : Nd} {kv : Value} (h : d.attr.length = 12) : (pnCells d kv)[13]? = some (.string ⟨d.text.toArray⟩) := by
  unfold pnCells
  rw [List.getElem?_cons_succ, List.getElem?_append_right (by simp [h])]; simp [h]
theorem pn_kids {d : Nd} {kv : Value} (h : d.attr.length = 12) : (pnCells d kv)[14]? = some kv := by
  unfold pnCells
  rw [List.getElem?_cons_succ, List.getElem?_append_right (by simp [h])]; simp [h]
theorem pn_up {d : Nd} {kv : Value} (h : d.attr.length = 12) : (pnCells d kv)[15]? = some (.int .i64 d.up) := by
  unfold pnCells
  rw [List.getElem?_cons_succ, List.getElem?_append_right (by simp [h])]; simp [h]
theorem pn_len {d : Nd} {kv : Value} (h : d.attr.length = 12) : (pnCells d kv).length = 16 := by unfold pnCells; simp [h]
theorem pn_set_attr {d : Nd} {kv : Value} {t : Nat} (h : t < d.attr.length) (x : Int) : (pnCells d kv).set (t + 1) (.int .i64 x) = pnCells { d with attr := d.attr.set t x } kv := by
  unfold pnCells
  rw [List.set_cons_succ, List.set_append_left _ _ (by simpa using h), List.map_set]
theorem pn_set_text {d : Nd} {kv : Value} (h : d.attr.length = 12) (x : List UInt8) : (pnCells d kv).set 13 (.string ⟨x.toArray⟩) = pnCells { d with text := x } kv := by
  unfold pnCells
  rw [List.set_cons_succ, List.set_append_right _ _ (by simp [h])]; simp [h]
theorem pn_set_kids {d : Nd} {kv kv' : Value} (h : d.attr.length = 12) (ks : List Nat) : (pnCells d kv).set 14 kv' = pnCells { d with kids := ks } kv' := by
  unfold pnCells
  rw [List.set_cons_succ, List.set_append_right _ _ (by simp [h])]; simp [h]

/-- The program's nodes in memory, all behind B. -/
structure PN (W : World) (B : Nat) (nv : Value) (L : List Nd) (KV : Nat → Value) : Prop where
  nr : NR W B 38 16 nv L.length (fun j => pnCells (nth L j) (KV j)) KV (fun j => (nth L j).kids)
  len : ∀ j, j < L.length → (nth L j).attr.length = 12

section
variable {W W' : World} {B : Nat} {nv : Value} {L : List Nd} {KV : Nat → Value}
theorem PN.up (h : PN W B nv L KV) (hu : Up B W W') : PN W' B nv L KV := ⟨h.nr.up hu, h.len⟩
theorem PN.app {nv' : Value} {xs : List Value} {d : Nd} (h : PN W B nv L KV) (hx : W.ownsRow B 38 16 nv L.length xs) (hx' : W'.ownsRow B 38 16 nv' (L.length + 1) (xs ++ pnCells d (.slice none 0 0))) (hg : W.grownBy W' nv.ownBlock) (hl : d.attr.length = 12) (hk : d.kids = []) :
    PN W' B nv' (L ++ [d]) (fun j => if j = L.length then .slice none 0 0 else KV j) := by
  refine ⟨?_, fun j hj => ?_⟩
  · have hl2 : (L ++ [d]).length = L.length + 1 := by simp
    rw [hl2]
    refine (h.nr.app (by decide) hx hx' hg (pn_len hl)).congr (fun j hj => ?_) (fun j hj => rfl) (fun j hj => ?_)
    · by_cases e : j = L.length
      · subst e; simp only [if_true]; rw [nth_app_new]
      · rw [if_neg e, if_neg e, nth_app_old (by omega)]
    · by_cases e : j = L.length
      · subst e; rw [if_pos rfl, nth_app_new, hk]
      · rw [if_neg e, nth_app_old (by omega)]
  · by_cases e : j = L.length
    · subst e; rw [nth_app_new]; exact hl
    · rw [nth_app_old (by simp at hj; omega)]; exact h.len j (by simp at hj; omega)
/-- One cell of one node changes. -/
theorem PN.mod {g cap k t : Nat} {u : Value} (h : PN W B (.slice (some ⟨g, 0, none⟩) L.length cap) L KV) (hk : k < L.length) (ht : t < 16) (f : Nd → Nd) (hf : (pnCells (nth L k) (KV k)).set t u = pnCells (f (nth L k)) (KV k)) (hfk : (f (nth L k)).kids = (nth L k).kids) (hfl : (f (nth L k)).attr.length = 12) :
    PN (W.setCell ⟨g, k * 16 + t, none⟩ u) B (.slice (some ⟨g, 0, none⟩) L.length cap) (L.modify k f) KV := by
  refine ⟨?_, fun j hj => ?_⟩
  · have hl2 : (L.modify k f).length = L.length := by simp
    rw [hl2]
    refine (h.nr.set (by decide) hk ht u).congr (fun j hj => ?_) (fun j hj => rfl) (fun j hj => ?_)
    · by_cases e : j = k
      · subst e; rw [if_pos rfl, nth_mod_same f hk]; exact hf.symm
      · rw [if_neg e, nth_mod_other f e]
    · by_cases e : j = k
      · subst e; rw [nth_mod_same f hk]; exact hfk
      · rw [nth_mod_other f e]
  · by_cases e : j = k
    · subst e; rw [nth_mod_same f hk]; exact hfl
    · rw [nth_mod_other f e]; exact h.len j (by simpa using hj)
theorem PN.setAttr {g cap k t : Nat} (h : PN W B (.slice (some ⟨g, 0, none⟩) L.length cap) L KV) (hk : k < L.length) (ht : t < 12) (x : Int) :
    PN (W.setCell ⟨g, k * 16 + (t + 1), none⟩ (.int .i64 x)) B (.slice (some ⟨g, 0, none⟩) L.length cap) (L.modify k fun d => { d with attr := d.attr.set t x }) KV :=
  h.mod hk (by omega) _ (pn_set_attr (by rw [h.len k hk]; exact ht) x) rfl (by simp [h.len k hk])
theorem PN.setText {g cap k : Nat} (h : PN W B (.slice (some ⟨g, 0, none⟩) L.length cap) L KV) (hk : k < L.length) (x : List UInt8) :
    PN (W.setCell ⟨g, k * 16 + 13, none⟩ (.string ⟨x.toArray⟩)) B (.slice (some ⟨g, 0, none⟩) L.length cap) (withText L k x) KV :=
  h.mod hk (by omega) _ (pn_set_text (h.len k hk) x) rfl (h.len k hk)
/-- A kid more. -/
theorem PN.kid {g cap : Nat} {kv' : Value} {k c : Nat} (h : PN W B (.slice (some ⟨g, 0, none⟩) L.length cap) L KV) (hk : k < L.length)
    (hr : W'.ownsRow B 3 1 kv' ((nth L k).kids.length + 1) (kInts ((nth L k).kids ++ [c]))) (hg : W.grownBy W' (KV k).ownBlock) (hat : kv'.ownBlock = (KV k).ownBlock ∨ kv'.ownBlock = some W.heap.size) :
    PN (W'.setCell ⟨g, k * 16 + 14, none⟩ kv') B (.slice (some ⟨g, 0, none⟩) L.length cap) (L.modify k fun u => { u with kids := u.kids ++ [c] }) (fun j => if j = k then kv' else KV j) := by
  refine ⟨?_, fun j hj => ?_⟩
  · have hl2 : (L.modify k fun u => { u with kids := u.kids ++ [c] }).length = L.length := by simp
    rw [hl2]
    refine (h.nr.kid (t := 14) (by decide) hk (by omega) hr hg hat).congr (fun j hj => ?_) (fun j hj => rfl) (fun j hj => ?_)
    · by_cases e : j = k
      · subst e; simp only [if_true]; rw [nth_mod_same _ hk]; exact (pn_set_kids (h.len j hk) _).symm
      · rw [if_neg e, if_neg e, nth_mod_other _ e]
    · by_cases e : j = k
      · subst e; rw [if_pos rfl, nth_mod_same _ hk]
      · rw [if_neg e, nth_mod_other _ e]
  · by_cases e : j = k
    · subst e; rw [nth_mod_same _ hk]; exact h.len j hk
    · rw [nth_mod_other _ e]; exact h.len j (by simpa using hj)
end
theorem grown_eq (L : List Nd) (d : Nd) (k : Nat) (hd : d.up = (k : Int)) (hk : k < L.length) : grown L d = (L ++ [d]).modify k fun u => { u with kids := u.kids ++ [L.length] } := by
  unfold grown
  rw [if_neg (by omega), hd]
  simp only [Int.toNat_natCast]
  apply List.ext_getElem?
  intro j
  by_cases h1 : j < L.length
  · rw [List.getElem?_append_left (by simpa using h1), List.getElem?_modify, List.getElem?_modify, List.getElem?_append_left h1]
  · rw [List.getElem?_append_right (by simp; omega), List.getElem?_modify, List.getElem?_append_right (by omega)]
    have h' : ¬ k = j := by omega
    simp [h']

end Go.Proofs.YtnkebfmlaliddaaGreatDoor

namespace Go.Proofs.YtnkebfmlaliddaaGreatDoor
open Go.RowKit
set_option linter.unusedVariables false

/-- An error made by errors.New at eb. -/
def errV (eb : Addr) : Value := .iface 240 (.pointer (some eb))
/-- A fault at a place, as an error. -/
def faultV (place : Int) (ev : Value) : Value := .iface 81 (.agg #[.int .i64 place, ev])

set_option maxRecDepth 100000 in
set_option maxHeartbeats 2000000 in
theorem noTree_any (place : Int) (w : World) (eb : Addr) (he : w.cell? ⟨8, 0, none⟩ = some (errV eb)) :
    Calls Tryz.prog 45 #[.int .i64 place] w fun e w' => e = .returned (faultV place (errV eb)) ∧ w' = w := by
  have he' : w.cell? ⟨8, 0, none⟩ = some (.iface 240 (.pointer (some eb))) := he
  clear he
  go_enter Tryz.func45, Tryz.ntmps45
  go_wp2
  go_ret
  exact ⟨rfl, rfl⟩

set_option maxRecDepth 100000 in
set_option maxHeartbeats 2000000 in
theorem expect_yes (rb : Nat) (s : ByteArray) (i : Nat) (av nv fv : Value) (c : Nat) (w : World) (h : PR w rb s i av nv fv) (hs : s.size ≤ 1099511627776) (hi : i ≤ s.size) (hc : c < 256) (hat : isAt s i c = true) :
    Calls Tryz.prog 76 #[.pointer (some ⟨rb, 0, none⟩), .int .u8 (c : Int)] w fun e w' => e = .returned (.tuple #[]) ∧ PR w' rb s (gotI s i c) av nv fv ∧ w.grownBy w' (some rb) := by
  have CT : Hid (Calls Tryz.prog 73 #[.pointer (some ⟨rb, 0, none⟩), .int .u8 (c : Int)] w fun e w' => e = .returned (.bool true) ∧ PR w' rb s (gotI s i c) av nv fv ∧ w.grownBy w' (some rb)) := by
    have := takes_any rb s i av nv fv c w h hs hi hc
    rw [hat] at this; exact this
  clear h hat
  go_enter Tryz.func76, Tryz.ntmps76
  go_wp2_with fail
  refine CT.out.mono ?_
  rintro e w1 ⟨rfl, h1, g1⟩
  have HR : Hid (PR w1 rb s (gotI s i c) av nv fv) := h1
  have HG : Hid (w.grownBy w1 (some rb)) := g1
  clear h1 g1 CT
  go_wp2
  go_end0
  exact ⟨rfl, HR.out, HG.out⟩

set_option maxRecDepth 100000 in
set_option maxHeartbeats 2000000 in
theorem expect_no (rb : Nat) (s : ByteArray) (i : Nat) (av nv fv : Value) (eb : Addr) (c : Nat) (w : World) (h : PR w rb s i av nv fv) (hs : s.size ≤ 1099511627776) (hi : i ≤ s.size) (hc : c < 256) (hat : isAt s i c = false) (hg : 8 ≠ rb) (he : w.cell? ⟨8, 0, none⟩ = some (errV eb)) :
    Calls Tryz.prog 76 #[.pointer (some ⟨rb, 0, none⟩), .int .u8 (c : Int)] w fun e w' => e = .panicked [{ v := faultV (sk s i : Int) (errV eb), recovered := false }] ∧ w.grownBy w' (some rb) := by
  have CT : Hid (Calls Tryz.prog 73 #[.pointer (some ⟨rb, 0, none⟩), .int .u8 (c : Int)] w fun e w' => e = .returned (.bool false) ∧ PR w' rb s (sk s i) av nv fv ∧ w.grownBy w' (some rb)) := by
    have := takes_any rb s i av nv fv c w h hs hi hc
    have e2 : gotI s i c = sk s i := by
      unfold gotI; unfold isAt at hat
      rw [if_neg (by simpa using hat)]
    rw [hat, e2] at this; exact this
  have HN : Hid (∀ w, w.cell? ⟨8, 0, none⟩ = some (errV eb) → Calls Tryz.prog 45 #[.int .i64 (sk s i : Int)] w fun e w' => e = .returned (.iface 81 (.agg #[.int .i64 (sk s i : Int), .iface 240 (.pointer (some eb))])) ∧ w' = w) := fun w he => noTree_any _ w eb he
  have HE : Hid (w.cell? ⟨8, 0, none⟩ = some (errV eb)) := he
  obtain ⟨j, hj⟩ : ∃ j, sk s i = j := ⟨_, rfl⟩
  rw [hj] at CT HN ⊢
  clear h hat he hj
  go_enter Tryz.func76, Tryz.ntmps76
  go_wp2_with fail
  refine CT.out.mono ?_
  rintro e w1 ⟨rfl, h1, g1⟩
  have HG : Hid (w.grownBy w1 (some rb)) := g1
  have c1 := h1.c1
  have HE1 : Hid (w1.cell? ⟨8, 0, none⟩ = some (errV eb)) := g1.cell HE.out (by simpa using hg)
  clear h1 g1 CT
  go_wp2_with fail
  refine (HN.out _ HE1.out).mono ?_
  rintro e w2 ⟨rfl, hw⟩
  obtain rfl := hw.symm
  go_wp2
  exact ⟨rfl, rfl, HG.out⟩

end Go.Proofs.YtnkebfmlaliddaaGreatDoor

namespace Go.Proofs.YtnkebfmlaliddaaGreatDoor
open Go.RowKit
set_option linter.unusedVariables false

theorem PR.setF {W : World} {rb : Nat} {s : ByteArray} {i : Nat} {av nv fv : Value} (h : PR W rb s i av nv fv) (fv' : Value) : PR (W.setCell ⟨rb, 4, none⟩ fv') rb s i av nv fv' :=
  ⟨by simpa using h.lt, rs_other (by omega) h.c0, rs_other (by omega) h.c1, rs_other (by omega) h.c2, rs_other (by omega) h.c3, rs_same h.c4, fun j => by rw [World.frozen?_setCell]; exact h.fz j⟩

set_option maxRecDepth 100000 in
set_option maxHeartbeats 2000000 in
theorem keep_nil (rb : Nat) (s : ByteArray) (i : Nat) (av nv fv : Value) (place : Int) (w : World) (h : PR w rb s i av nv fv) :
    Calls Tryz.prog 70 #[.pointer (some ⟨rb, 0, none⟩), .nilIface, .int .i64 place] w fun e w' => e = .returned (.tuple #[]) ∧ PR w' rb s i av nv fv ∧ w.grownBy w' (some rb) := by
  have HR : Hid (PR w rb s i av nv fv) := h
  clear h
  go_enter Tryz.func70, Tryz.ntmps70
  go_wp2
  go_end0
  exact ⟨rfl, HR.out, gr_refl _ _⟩

set_option maxRecDepth 100000 in
set_option maxHeartbeats 2000000 in
theorem keep_first (rb : Nat) (s : ByteArray) (i : Nat) (av nv : Value) (eb : Addr) (place : Int) (w : World) (h : PR w rb s i av nv .nilIface) :
    Calls Tryz.prog 70 #[.pointer (some ⟨rb, 0, none⟩), errV eb, .int .i64 place] w fun e w' => e = .returned (.tuple #[]) ∧ PR w' rb s i av nv (faultV place (errV eb)) ∧ w.grownBy w' (some rb) := by
  have HR : Hid (PR w rb s i av nv .nilIface) := h
  have c4 := h.c4
  have f4 := h.fz 4
  have HN : Hid (PR (w.setCell ⟨rb, 4, none⟩ (faultV place (errV eb))) rb s i av nv (faultV place (errV eb))) := h.setF _
  clear h
  show Calls Tryz.prog 70 #[.pointer (some ⟨rb, 0, none⟩), .iface 240 (.pointer (some eb)), .int .i64 place] w _
  go_enter Tryz.func70, Tryz.ntmps70
  go_wp2
  go_end0
  exact ⟨rfl, HN.out, gr_set _ _ _ _⟩

set_option maxRecDepth 100000 in
set_option maxHeartbeats 2000000 in
theorem keep_later (rb : Nat) (s : ByteArray) (i : Nat) (av nv : Value) (eb eb2 : Addr) (place place2 : Int) (w : World) (h : PR w rb s i av nv (faultV place2 (errV eb2))) :
    Calls Tryz.prog 70 #[.pointer (some ⟨rb, 0, none⟩), errV eb, .int .i64 place] w fun e w' => e = .returned (.tuple #[]) ∧ PR w' rb s i av nv (faultV place2 (errV eb2)) ∧ w.grownBy w' (some rb) := by
  have HR : Hid (PR w rb s i av nv (faultV place2 (errV eb2))) := h
  have c4 : w.cell? ⟨rb, 4, none⟩ = some (.iface 81 (.agg #[.int .i64 place2, .iface 240 (.pointer (some eb2))])) := h.c4
  clear h
  show Calls Tryz.prog 70 #[.pointer (some ⟨rb, 0, none⟩), .iface 240 (.pointer (some eb)), .int .i64 place] w _
  go_enter Tryz.func70, Tryz.ntmps70
  go_wp2
  go_end0
  exact ⟨rfl, HR.out, gr_refl _ _⟩

/-- What roomFor answers. -/
def roomV (n depth : Nat) (m d : Addr) : Value := if 100 ≤ n then errV m else if 12 ≤ depth then errV d else .nilIface

set_option maxRecDepth 100000 in
set_option maxHeartbeats 2000000 in
theorem roomFor_any (rb : Nat) (s : ByteArray) (i : Nat) (av fv : Value) (p : Option Addr) (n cp depth : Nat) (m d : Addr) (w : World) (h : PR w rb s i av (.slice p n cp) fv)
    (hm : w.cell? ⟨2, 0, none⟩ = some (errV m)) (hd : w.cell? ⟨3, 0, none⟩ = some (errV d)) :
    Calls Tryz.prog 71 #[.pointer (some ⟨rb, 0, none⟩), .int .i64 (depth : Int)] w fun e w' => e = .returned (roomV n depth m d) ∧ w' = w := by
  have c3 := h.c3
  have em : w.cell? ⟨2, 0, none⟩ = some (.iface 240 (.pointer (some m))) := hm
  have ed : w.cell? ⟨3, 0, none⟩ = some (.iface 240 (.pointer (some d))) := hd
  clear h hm hd
  by_cases h1 : 100 ≤ n
  · have h1' : (100 : Int) ≤ (n : Int) := by omega
    have e1 : decide ((100 : Int) ≤ (n : Int)) = true := decide_eq_true h1'
    have HV : Hid (roomV n depth m d = .iface 240 (.pointer (some m))) := by show _ = _; unfold roomV; rw [if_pos h1]; rfl
    go_enter Tryz.func71, Tryz.ntmps71
    go_wp2
    go_ret
    exact ⟨by rw [HV.out]; rfl, rfl⟩
  · have h1' : ¬ (100 : Int) ≤ (n : Int) := by omega
    have e1 : decide ((100 : Int) ≤ (n : Int)) = false := decide_eq_false h1'
    by_cases h2 : 12 ≤ depth
    · have h2' : (12 : Int) ≤ (depth : Int) := by omega
      have e2 : decide ((12 : Int) ≤ (depth : Int)) = true := decide_eq_true h2'
      have HV : Hid (roomV n depth m d = .iface 240 (.pointer (some d))) := by show _ = _; unfold roomV; rw [if_neg h1, if_pos h2]; rfl
      go_enter Tryz.func71, Tryz.ntmps71
      go_wp2
      go_ret
      exact ⟨by rw [HV.out]; rfl, rfl⟩
    · have h2' : ¬ (12 : Int) ≤ (depth : Int) := by omega
      have e2 : decide ((12 : Int) ≤ (depth : Int)) = false := decide_eq_false h2'
      have HV : Hid (roomV n depth m d = .nilIface) := by show _ = _; unfold roomV; rw [if_neg h1, if_neg h2]
      go_enter Tryz.func71, Tryz.ntmps71
      go_wp2
      go_ret
      exact ⟨by rw [HV.out]; rfl, rfl⟩

end Go.Proofs.YtnkebfmlaliddaaGreatDoor

namespace Go.Proofs.YtnkebfmlaliddaaGreatDoor
open Go.RowKit
set_option linter.unusedVariables false

/-- What kindOf answers. -/
def kindV (i : Int) : Value := if i < 0 then .tuple #[.int .i64 0, .bool false] else .tuple #[.int .i64 i, .bool true]

set_option maxRecDepth 100000 in
set_option maxHeartbeats 4000000 in
theorem kindOf_at (t : ByteArray) (w : World) (n0 n1 n2 n3 n4 n5 n6 : ByteArray)
    (h0 : w.cell? ⟨0, 0, none⟩ = some (.string n0))
    (h1 : w.cell? ⟨0, 1, none⟩ = some (.string n1))
    (h2 : w.cell? ⟨0, 2, none⟩ = some (.string n2))
    (h3 : w.cell? ⟨0, 3, none⟩ = some (.string n3))
    (h4 : w.cell? ⟨0, 4, none⟩ = some (.string n4))
    (h5 : w.cell? ⟨0, 5, none⟩ = some (.string n5))
    (h6 : w.cell? ⟨0, 6, none⟩ = some (.string n6)) :
    Calls Tryz.prog 69 #[.string t] w fun e w' => e = .returned (kindV (findF [n0, n1, n2, n3, n4, n5, n6] t 0)) ∧ w' = w := by
  have i0 : ∀ w, (Instr.index 68 (.agg #[.string n0, .string n1, .string n2, .string n3, .string n4, .string n5, .string n6]) (.int .i64 0)).run Tryz.prog w = .ok (.string n0) w := fun _ => by kernel_rfl
  have i1 : ∀ w, (Instr.index 68 (.agg #[.string n0, .string n1, .string n2, .string n3, .string n4, .string n5, .string n6]) (.int .i64 1)).run Tryz.prog w = .ok (.string n1) w := fun _ => by kernel_rfl
  have i2 : ∀ w, (Instr.index 68 (.agg #[.string n0, .string n1, .string n2, .string n3, .string n4, .string n5, .string n6]) (.int .i64 2)).run Tryz.prog w = .ok (.string n2) w := fun _ => by kernel_rfl
  have i3 : ∀ w, (Instr.index 68 (.agg #[.string n0, .string n1, .string n2, .string n3, .string n4, .string n5, .string n6]) (.int .i64 3)).run Tryz.prog w = .ok (.string n3) w := fun _ => by kernel_rfl
  have i4 : ∀ w, (Instr.index 68 (.agg #[.string n0, .string n1, .string n2, .string n3, .string n4, .string n5, .string n6]) (.int .i64 4)).run Tryz.prog w = .ok (.string n4) w := fun _ => by kernel_rfl
  have i5 : ∀ w, (Instr.index 68 (.agg #[.string n0, .string n1, .string n2, .string n3, .string n4, .string n5, .string n6]) (.int .i64 5)).run Tryz.prog w = .ok (.string n5) w := fun _ => by kernel_rfl
  have i6 : ∀ w, (Instr.index 68 (.agg #[.string n0, .string n1, .string n2, .string n3, .string n4, .string n5, .string n6]) (.int .i64 6)).run Tryz.prog w = .ok (.string n6) w := fun _ => by kernel_rfl
  go_enter Tryz.func69, Tryz.ntmps69
  go_wp2
  clear h0 h1 h2 h3 h4 h5 h6
  go_loop [7] (fun i => ∃ k : Nat, k ≤ 7 ∧ i = .int .i64 k ∧ Hid (findF [n0, n1, n2, n3, n4, n5, n6] t 0 = findF ([n0, n1, n2, n3, n4, n5, n6].drop k) t k)) (fun i => 7 - (intOf i).toNat)
  case atStart => exact ⟨0, Nat.zero_le _, rfl, by show _ = _; rw [List.drop_zero]⟩
  case round =>
    obtain ⟨k, hk, rfl, HF⟩ := hrel
    have hc : k = 0 ∨ k = 1 ∨ k = 2 ∨ k = 3 ∨ k = 4 ∨ k = 5 ∨ k = 6 ∨ k = 7 := by omega
    rcases hc with rfl | rfl | rfl | rfl | rfl | rfl | rfl | rfl
    · by_cases e : n0 = t
      · have HE : Hid (kindV (findF [n0, n1, n2, n3, n4, n5, n6] t 0) = .tuple #[.int .i64 0, .bool true]) := by
          show _ = _; rw [HF.out]; simp [findF, e, kindV]
        subst e
        clear HF
        go_wp2
        go_ret2
        exact ⟨by rw [HE.out]; rfl, rfl⟩
      · have HE : Hid (findF [n0, n1, n2, n3, n4, n5, n6] t 0 = findF ([n0, n1, n2, n3, n4, n5, n6].drop 1) t 1) := by
          show _ = _; rw [HF.out]; simp [findF, e]
        have e1 : (n0.toList == t.toList) = false := str_ne e
        clear HF
        go_wp2
        go_round
        case rel => exact ⟨1, by omega, by go_num, HE.out⟩
        case measure => simp [intOf]
    · by_cases e : n1 = t
      · have HE : Hid (kindV (findF [n0, n1, n2, n3, n4, n5, n6] t 0) = .tuple #[.int .i64 1, .bool true]) := by
          show _ = _; rw [HF.out]; simp [findF, e, kindV]
        subst e
        clear HF
        go_wp2
        go_ret2
        exact ⟨by rw [HE.out]; rfl, rfl⟩
      · have HE : Hid (findF [n0, n1, n2, n3, n4, n5, n6] t 0 = findF ([n0, n1, n2, n3, n4, n5, n6].drop 2) t 2) := by
          show _ = _; rw [HF.out]; simp [findF, e]
        have e1 : (n1.toList == t.toList) = false := str_ne e
        clear HF
        go_wp2
        go_round
        case rel => exact ⟨2, by omega, by go_num, HE.out⟩
        case measure => simp [intOf]
    · by_cases e : n2 = t
      · have HE : Hid (kindV (findF [n0, n1, n2, n3, n4, n5, n6] t 0) = .tuple #[.int .i64 2, .bool true]) := by
          show _ = _; rw [HF.out]; simp [findF, e, kindV]
        subst e
        clear HF
        go_wp2
        go_ret2
        exact ⟨by rw [HE.out]; rfl, rfl⟩
      · have HE : Hid (findF [n0, n1, n2, n3, n4, n5, n6] t 0 = findF ([n0, n1, n2, n3, n4, n5, n6].drop 3) t 3) := by
          show _ = _; rw [HF.out]; simp [findF, e]
        have e1 : (n2.toList == t.toList) = false := str_ne e
        clear HF
        go_wp2
        go_round
        case rel => exact ⟨3, by omega, by go_num, HE.out⟩
        case measure => simp [intOf]
    · by_cases e : n3 = t
      · have HE : Hid (kindV (findF [n0, n1, n2, n3, n4, n5, n6] t 0) = .tuple #[.int .i64 3, .bool true]) := by
          show _ = _; rw [HF.out]; simp [findF, e, kindV]
        subst e
        clear HF
        go_wp2
        go_ret2
        exact ⟨by rw [HE.out]; rfl, rfl⟩
      · have HE : Hid (findF [n0, n1, n2, n3, n4, n5, n6] t 0 = findF ([n0, n1, n2, n3, n4, n5, n6].drop 4) t 4) := by
          show _ = _; rw [HF.out]; simp [findF, e]
        have e1 : (n3.toList == t.toList) = false := str_ne e
        clear HF
        go_wp2
        go_round
        case rel => exact ⟨4, by omega, by go_num, HE.out⟩
        case measure => simp [intOf]
    · by_cases e : n4 = t
      · have HE : Hid (kindV (findF [n0, n1, n2, n3, n4, n5, n6] t 0) = .tuple #[.int .i64 4, .bool true]) := by
          show _ = _; rw [HF.out]; simp [findF, e, kindV]
        subst e
        clear HF
        go_wp2
        go_ret2
        exact ⟨by rw [HE.out]; rfl, rfl⟩
      · have HE : Hid (findF [n0, n1, n2, n3, n4, n5, n6] t 0 = findF ([n0, n1, n2, n3, n4, n5, n6].drop 5) t 5) := by
          show _ = _; rw [HF.out]; simp [findF, e]
        have e1 : (n4.toList == t.toList) = false := str_ne e
        clear HF
        go_wp2
        go_round
        case rel => exact ⟨5, by omega, by go_num, HE.out⟩
        case measure => simp [intOf]
    · by_cases e : n5 = t
      · have HE : Hid (kindV (findF [n0, n1, n2, n3, n4, n5, n6] t 0) = .tuple #[.int .i64 5, .bool true]) := by
          show _ = _; rw [HF.out]; simp [findF, e, kindV]
        subst e
        clear HF
        go_wp2
        go_ret2
        exact ⟨by rw [HE.out]; rfl, rfl⟩
      · have HE : Hid (findF [n0, n1, n2, n3, n4, n5, n6] t 0 = findF ([n0, n1, n2, n3, n4, n5, n6].drop 6) t 6) := by
          show _ = _; rw [HF.out]; simp [findF, e]
        have e1 : (n5.toList == t.toList) = false := str_ne e
        clear HF
        go_wp2
        go_round
        case rel => exact ⟨6, by omega, by go_num, HE.out⟩
        case measure => simp [intOf]
    · by_cases e : n6 = t
      · have HE : Hid (kindV (findF [n0, n1, n2, n3, n4, n5, n6] t 0) = .tuple #[.int .i64 6, .bool true]) := by
          show _ = _; rw [HF.out]; simp [findF, e, kindV]
        subst e
        clear HF
        go_wp2
        go_ret2
        exact ⟨by rw [HE.out]; rfl, rfl⟩
      · have HE : Hid (findF [n0, n1, n2, n3, n4, n5, n6] t 0 = findF ([n0, n1, n2, n3, n4, n5, n6].drop 7) t 7) := by
          show _ = _; rw [HF.out]; simp [findF, e]
        have e1 : (n6.toList == t.toList) = false := str_ne e
        clear HF
        go_wp2
        go_round
        case rel => exact ⟨7, by omega, by go_num, HE.out⟩
        case measure => simp [intOf]
    · have HE : Hid (kindV (findF [n0, n1, n2, n3, n4, n5, n6] t 0) = .tuple #[.int .i64 0, .bool false]) := by
        show _ = _; rw [HF.out]; simp [findF, kindV]
      clear HF
      go_wp2
      go_ret2
      exact ⟨by rw [HE.out]; rfl, rfl⟩

end Go.Proofs.YtnkebfmlaliddaaGreatDoor

namespace Go.Proofs.YtnkebfmlaliddaaGreatDoor
open Go.RowKit
set_option linter.unusedVariables false

/-- The reference's first other fault, as two numbers; it stands no further on than i. -/
def FL (er at_ : Int) (f : Flt) (i : Nat) : Prop := match f with
  | none => at_ < 0
  | some (c, p) => er = c ∧ at_ = p ∧ p ≤ i
theorem FL.on {er at_ : Int} {f : Flt} {i j : Nat} (h : FL er at_ f i) (hij : i ≤ j) : FL er at_ f j := by
  cases f with
  | none => exact h
  | some x => obtain ⟨c, p⟩ := x; exact ⟨h.1, h.2.1, Nat.le_trans h.2.2 hij⟩
theorem FL.add {er at_ : Int} {f : Flt} {i : Nat} (h : FL er at_ f i) (c p : Nat) (hp : i ≤ p) : FL (wrE er at_ c p) (wrA at_ p) (addF f c p) p := by
  cases f with
  | none =>
    have h' : at_ < 0 := h
    unfold wrE wrA
    rw [if_pos (.inl h'), if_pos (.inl h')]
    exact ⟨rfl, rfl, Nat.le_refl _⟩
  | some x =>
    obtain ⟨c', p'⟩ := x
    obtain ⟨h1, h2, h3⟩ := h
    have hn : ¬ (at_ < 0 ∨ (p : Int) < at_) := by omega
    unfold wrE wrA
    rw [if_neg hn, if_neg hn]
    exact ⟨h1, h2, Nat.le_trans h3 hp⟩

/-- What an attribute that reads well does. -/
def fa (kind : Nat) (L : List Nd) (er : Flt) (a : List Int) (seen : List Nat) (st : Step) : Flt × List Int × List Nat :=
  if st.ix < 0 ∨ ownsB kind st.ix.toNat = false then (addF er 7 st.at_, a, seen)
  else (addIf (decide (st.ix = 0 ∧ 0 < st.n) && hasId L st.n) (addIf (decide (mostL[st.ix.toNat]?.getD 0 < st.n)) (addIf (seen.contains st.ix.toNat) er 5 st.at_) 6 st.p) 5 st.p, a.set st.ix.toNat st.n, st.ix.toNat :: seen)

theorem step1_places (s : ByteArray) (i : Nat) (bad : Int) : i ≤ (step1 s i bad).at_ ∧ (step1 s i bad).at_ ≤ (step1 s i bad).p ∧ (step1 s i bad).p ≤ (step1 s i bad).i := by
  have h1 := sk_ge s i
  have w1 : sk s i ≤ wI s (sk s i) bad := by unfold wI; split; exact Nat.le_trans (sk_ge s (sk s i)) (run_ge _ _ _); exact sk_ge _ _
  have m1 : wI s (sk s i) bad ≤ mI s (wI s (sk s i) bad) 61 (wB s (sk s i) bad) := by
    unfold mI; split
    · unfold gotI; have := sk_ge s (wI s (sk s i) bad); split <;> omega
    · exact sk_ge _ _
  have n1 : sk s (mI s (wI s (sk s i) bad) 61 (wB s (sk s i) bad)) ≤ nI s (mI s (wI s (sk s i) bad) 61 (wB s (sk s i) bad)) (mB s (wI s (sk s i) bad) 61 (wB s (sk s i) bad)) := by
    unfold nI; split; exact run_ge _ _ _; exact Nat.le_refl _
  have s2 := sk_ge s (mI s (wI s (sk s i) bad) 61 (wB s (sk s i) bad))
  unfold step1
  simp only
  omega
theorem step1_size (s : ByteArray) (i : Nat) (bad : Int) (hi : i ≤ s.size) : (step1 s i bad).i ≤ s.size := by
  unfold step1
  exact nI_le _ (mI_le _ (by omega) (wI_le _ (sk_le s i hi)))
theorem step1_ix (s : ByteArray) (i : Nat) (bad : Int) : (step1 s i bad).ix = -1 ∨ (0 ≤ (step1 s i bad).ix ∧ (step1 s i bad).ix < 12) := by
  have := findF_bd (wS s (sk s i) bad) namesL 0
  have hl : namesL.length = 12 := rfl
  unfold step1
  simp only
  omega
theorem step1_n (s : ByteArray) (i : Nat) (bad : Int) : 0 ≤ (step1 s i bad).n ∧ (step1 s i bad).n ≤ 999999 := nV_bd s _ _

/-- One attribute: the document's, and the steps'. -/
theorem attr1_step (s : ByteArray) (kind : Nat) (L : List Nd) (i : Nat) (er : Flt) (a : List Int) (seen : List Nat) (bad : Int) (hb : bad < 0) :
    ((step1 s i bad).bad = bad ∧ attr1 s kind L i er a seen = .ok ((step1 s i bad).i, fa kind L er a seen (step1 s i bad)))
    ∨ (0 ≤ (step1 s i bad).bad ∧ attr1 s kind L i er a seen = .error (step1 s i bad).bad.toNat) := by
  unfold attr1
  simp only
  have e0 : sk s (sk s i) = sk s i := sk_sk s i
  have hw : wI s (sk s i) bad = run letter s (sk s i) := by unfold wI; rw [if_pos hb, e0]
  by_cases h1 : run letter s (sk s i) = sk s i
  · right
    have hB : wB s (sk s i) bad = (sk s i : Int) := by unfold wB; rw [if_pos hb]; unfold wordB; rw [e0, if_pos h1]
    have hx : (step1 s i bad).bad = (sk s i : Int) := by
      unfold step1
      simp only
      rw [hB]
      have hm : mB s (wI s (sk s i) bad) 61 (sk s i : Int) = (sk s i : Int) := by unfold mB; rw [if_neg (by omega)]
      rw [hm]
      unfold nB
      rw [if_neg (by omega)]
    rw [hx, if_pos h1]
    exact ⟨by omega, rfl⟩
  · have hB : wB s (sk s i) bad = bad := by unfold wB; rw [if_pos hb]; unfold wordB; rw [e0, if_neg h1]
    rw [if_neg h1]
    by_cases h2 : isAt s (run letter s (sk s i)) 61 = true
    · have hm : mB s (run letter s (sk s i)) 61 bad = bad := by unfold mB; rw [if_pos hb]; unfold mustB; rw [if_pos h2]
      have hmi : mI s (run letter s (sk s i)) 61 bad = gotI s (run letter s (sk s i)) 61 := by unfold mI; rw [if_pos hb]
      have hmr : mustR s (run letter s (sk s i)) 61 = .ok (gotI s (run letter s (sk s i)) 61) := by unfold mustR; rw [if_pos h2]
      rw [hmr]
      simp only
      have hs : step1 s i bad = { i := run digit s (sk s (gotI s (run letter s (sk s i)) 61)), bad := numB s (sk s (gotI s (run letter s (sk s i)) 61)) (run digit s (sk s (gotI s (run letter s (sk s i)) 61))) bad, n := dv s (sk s (gotI s (run letter s (sk s i)) 61)) (run digit s (sk s (gotI s (run letter s (sk s i)) 61)) - sk s (gotI s (run letter s (sk s i)) 61)), p := sk s (gotI s (run letter s (sk s i)) 61), at_ := sk s i, ix := findF namesL (s.extract (sk s i) (run letter s (sk s i))) 0 } := by
        unfold step1
        simp only
        rw [hw, hB, hm, hmi]
        have a1 : nI s (gotI s (run letter s (sk s i)) 61) bad = run digit s (sk s (gotI s (run letter s (sk s i)) 61)) := by unfold nI; rw [if_pos hb]
        have a2 : nB s (gotI s (run letter s (sk s i)) 61) bad = numB s (sk s (gotI s (run letter s (sk s i)) 61)) (run digit s (sk s (gotI s (run letter s (sk s i)) 61))) bad := by unfold nB; rw [if_pos hb]
        have a3 : nV s (gotI s (run letter s (sk s i)) 61) bad = dv s (sk s (gotI s (run letter s (sk s i)) 61)) (run digit s (sk s (gotI s (run letter s (sk s i)) 61)) - sk s (gotI s (run letter s (sk s i)) 61)) := by unfold nV; rw [if_pos hb]
        have a4 : wS s (sk s i) bad = s.extract (sk s i) (run letter s (sk s i)) := by unfold wS; rw [if_pos hb, e0]
        rw [a1, a2, a3, a4]
      generalize sk s (gotI s (run letter s (sk s i)) 61) = j at hs ⊢
      generalize run digit s j = e at hs ⊢
      by_cases h3 : numBad s j e = true
      · right
        have hx : (step1 s i bad).bad = (j : Int) := by
          rw [hs]
          show numB s j e bad = _
          unfold numB
          rw [if_pos (of_decide_eq_true h3)]
        rw [hx, if_pos h3]
        exact ⟨by omega, rfl⟩
      · left
        have h3' : numBad s j e = false := by simpa using h3
        have hx : (step1 s i bad).bad = bad := by
          rw [hs]
          show numB s j e bad = _
          unfold numB
          rw [if_neg (of_decide_eq_false h3')]
        refine ⟨hx, ?_⟩
        rw [if_neg h3, hs]
        unfold fa
        simp only
        split <;> rfl
    · right
      have h2' : isAt s (run letter s (sk s i)) 61 = false := by simpa using h2
      have hm : mB s (run letter s (sk s i)) 61 bad = (sk s (run letter s (sk s i)) : Int) := by unfold mB; rw [if_pos hb]; unfold mustB; rw [if_neg h2]
      have hmr : mustR s (run letter s (sk s i)) 61 = .error (sk s (run letter s (sk s i))) := by unfold mustR; rw [if_neg h2]
      have hx : (step1 s i bad).bad = (sk s (run letter s (sk s i)) : Int) := by
        unfold step1
        simp only
        rw [hw, hB, hm]
        unfold nB
        rw [if_neg (by omega)]
      rw [hx, hmr]
      exact ⟨by omega, rfl⟩
/-- Attributes from place i on come to R. -/
theorem attrsF_err {s : ByteArray} {kind : Nat} {L : List Nd} {f i : Nat} {er : Flt} {a : List Int} {seen : List Nat} {b : Nat} (h : attr1 s kind L i er a seen = .error b) : attrsF s kind L (f + 1) i er a seen = .error b := by
  rw [attrsF, h]
theorem attrsF_more {s : ByteArray} {kind : Nat} {L : List Nd} {f i i2 : Nat} {er er2 : Flt} {a a2 : List Int} {seen seen2 : List Nat} (h : attr1 s kind L i er a seen = .ok (i2, er2, a2, seen2)) (hm : isAt s i2 59 = true) : attrsF s kind L (f + 1) i er a seen = attrsF s kind L f (gotI s i2 59) er2 a2 seen2 := by
  rw [attrsF, h]
  simp only
  rw [if_pos hm]
def closeR (s : ByteArray) (i : Nat) (er : Flt) (a : List Int) : Except Nat (Nat × Flt × List Int) := match mustR s i 125 with
  | .error b => .error b
  | .ok i3 => .ok (i3, er, a)
theorem attrsF_last {s : ByteArray} {kind : Nat} {L : List Nd} {f i i2 : Nat} {er er2 : Flt} {a a2 : List Int} {seen seen2 : List Nat} (h : attr1 s kind L i er a seen = .ok (i2, er2, a2, seen2)) (hm : ¬ isAt s i2 59 = true) : attrsF s kind L (f + 1) i er a seen = closeR s i2 er2 a2 := by
  rw [attrsF, h]
  simp only
  rw [if_neg hm]
  rfl
theorem isAt_sk (s : ByteArray) (i c : Nat) : isAt s (sk s i) c = isAt s i c := by unfold isAt; rw [sk_sk]
theorem gotI_sk (s : ByteArray) (i c : Nat) : gotI s (sk s i) c = gotI s i c := by unfold gotI; rw [sk_sk]
theorem closeR_sk (s : ByteArray) (i : Nat) (er : Flt) (a : List Int) : closeR s (sk s i) er a = closeR s i er a := by
  unfold closeR mustR; rw [isAt_sk, gotI_sk, sk_sk]
end Go.Proofs.YtnkebfmlaliddaaGreatDoor
