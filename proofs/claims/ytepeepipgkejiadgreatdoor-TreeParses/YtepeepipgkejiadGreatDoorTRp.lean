/-
  The reference's nodes in memory: rows of nodes, rows of kids, and a list of attributes for each.
-/
import Derived.Test.YtepeepipgkejiadGreatDoorTRo
import Derived.Test.YtepeepipgkejiadGreatDoorTNm
import Derived.Test.YtepeepipgkejiadGreatDoorTPn
import Derived.Test.YtepeepipgkejiadGreatDoorTAdd
import Derived.Test.YtepeepipgkejiadGreatDoorTPg
import Derived.Maps.AppendAt
import Derived.Deep.CutBlock
import Derived.Test.YtepeepipgkejiadGreatDoorTCod
namespace Go.Proofs.YtepeepipgkejiadGreatDoor
open Go.RowKit
set_option linter.unusedVariables false

def avV (ab : Nat) : Value := .slice (some ⟨ab, 0, none⟩) 12 12
theorem nd_len (d : Nd) (a k : Value) : (ndCells d a k).length = 5 := rfl
/-- The reference's nodes in memory, all behind B. -/
structure RD (W : World) (B : Nat) (nv : Value) (L : List Nd) (AV : Nat → Nat) (KV : Nat → Value) : Prop where
  nr : NR W B 53 5 nv L.length (fun j => ndCells (nth L j) (avV (AV j)) (KV j)) KV (fun j => (nth L j).kids)
  len : ∀ j, j < L.length → (nth L j).attr.length = 12
  att : ∀ j, j < L.length → B ≤ AV j ∧ Row12 W (AV j) (fun k => .int .i64 ((nth L j).attr[k]?.getD 0))
  sepK : ∀ i j, i < L.length → j < L.length → (KV j).ownBlock ≠ some (AV i)
  sepN : ∀ i, i < L.length → nv.ownBlock ≠ some (AV i)
section
variable {W W' : World} {B : Nat} {nv : Value} {L : List Nd} {AV : Nat → Nat} {KV : Nat → Value}
theorem RD.nothing (W : World) (B : Nat) (AV : Nat → Nat) (KV : Nat → Value) : RD W B (.slice none 0 0) [] AV KV :=
  ⟨NR.nothing _ _ _ _ _ _ _, fun j h => absurd h (by show ¬ j < 0; omega), fun j h => absurd h (by show ¬ j < 0; omega), fun i j h => absurd h (by show ¬ i < 0; omega), fun i h => absurd h (by show ¬ i < 0; omega)⟩
theorem RD.up (h : RD W B nv L AV KV) (hu : Up B W W') : RD W' B nv L AV KV :=
  ⟨h.nr.up hu, h.len, fun j hj => ⟨(h.att j hj).1, (h.att j hj).2.keep hu.size (hu.block _ (h.att j hj).1 (h.att j hj).2.1)⟩, h.sepK, h.sepN⟩
/-- As attrs reads them. -/
theorem RD.ids (h : RD W B nv L AV KV) {rb : Nat} (hr : rb < B) : IdsAt W rb nv L := by
  by_cases hL : L = []
  · subst hL
    obtain ⟨xs, hx⟩ := h.nr.row
    rcases own_form hx with ⟨rfl, _⟩ | ⟨g, cap, rfl, h1, h2, h3, h4⟩
    · exact .inl ⟨rfl, rfl⟩
    · exact .inr ⟨g, cap, AV, rfl, h2, by omega, fun k hk => absurd hk (by show ¬ k < 0; omega)⟩
  · have hn : 0 < L.length := List.length_pos_iff.2 hL
    obtain ⟨g, cap, rfl, h1, h2, h3, h4⟩ := h.nr.form hn
    refine .inr ⟨g, cap, AV, rfl, h2, by omega, fun k hk => ⟨h.nr.cell hk rfl, (h.att k hk).2.1, by have := (h.att k hk).1; omega, ?_⟩⟩
    have := ((h.att k hk).2.2 0 (by omega)).1
    rw [this]
    have e : (L.map (fun d => d.attr[0]?.getD 0))[k]?.getD 0 = (nth L k).attr[0]?.getD 0 := by
      unfold nth
      rw [List.getElem?_map, List.getElem?_eq_getElem hk]
      rfl
    rw [e]
/-- A node more. -/
theorem RD.app {nv' : Value} {xs : List Value} {d : Nd} {ab : Nat} (h : RD W B nv L AV KV) (hx : W.ownsRow B 53 5 nv L.length xs) (hx' : W'.ownsRow B 53 5 nv' (L.length + 1) (xs ++ ndCells d (avV ab) (.slice none 0 0))) (hg : W.grownBy W' nv.ownBlock) (hat : nv'.ownBlock = nv.ownBlock ∨ nv'.ownBlock = some W.heap.size)
    (hl : d.attr.length = 12) (hk : d.kids = []) (hB : B ≤ ab) (ha : Row12 W ab (fun k => .int .i64 (d.attr[k]?.getD 0))) (haK : ∀ j, j < L.length → (KV j).ownBlock ≠ some ab) (haN : nv.ownBlock ≠ some ab) :
    RD W' B nv' (L ++ [d]) (fun j => if j = L.length then ab else AV j) (fun j => if j = L.length then .slice none 0 0 else KV j) := by
  have hl2 : (L ++ [d]).length = L.length + 1 := by simp
  have keepA : ∀ j, j < L.length → Row12 W' (AV j) (fun k => .int .i64 ((nth L j).attr[k]?.getD 0)) := fun j hj => (h.att j hj).2.keep hg.size (hg.block _ (h.att j hj).2.1 (fun e => h.sepN j hj e.symm))
  refine ⟨?_, fun j hj => ?_, fun j hj => ?_, fun i j hi hj => ?_, fun i hi => ?_⟩
  · rw [hl2]
    refine (h.nr.app (by decide) hx hx' hg (nd_len _ _ _)).congr (fun j hj => ?_) (fun j hj => rfl) (fun j hj => ?_)
    · by_cases e : j = L.length
      · subst e; simp only [if_true]; rw [nth_app_new]
      · rw [if_neg e, if_neg e, if_neg e, nth_app_old (by omega)]
    · by_cases e : j = L.length
      · subst e; rw [if_pos rfl, nth_app_new, hk]
      · rw [if_neg e, nth_app_old (by omega)]
  · by_cases e : j = L.length
    · subst e; rw [nth_app_new]; exact hl
    · rw [nth_app_old (by omega)]; exact h.len j (by omega)
  · by_cases e : j = L.length
    · subst e
      rw [if_pos rfl, nth_app_new]
      exact ⟨hB, ha.keep hg.size (hg.block _ ha.1 (fun e => haN e.symm))⟩
    · rw [if_neg e, nth_app_old (by omega)]
      exact ⟨(h.att j (by omega)).1, keepA j (by omega)⟩
  · by_cases e : j = L.length
    · subst e; simp [Value.ownBlock]
    · rw [if_neg e]
      by_cases e2 : i = L.length
      · subst e2; rw [if_pos rfl]; exact haK j (by omega)
      · rw [if_neg e2]; exact h.sepK i j (by omega) (by omega)
  · have hlt : (if i = L.length then ab else AV i) < W.heap.size := by
      by_cases e : i = L.length
      · rw [if_pos e]; exact ha.1
      · rw [if_neg e]; exact (h.att i (by omega)).2.1
    rcases hat with e | e
    · rw [e]
      by_cases e2 : i = L.length
      · rw [if_pos e2]; exact haN
      · rw [if_neg e2]; exact h.sepN i (by omega)
    · rw [e]
      intro q
      injection q with q
      omega
/-- The text of a node. -/
theorem RD.setText {g cap k : Nat} (h : RD W B (.slice (some ⟨g, 0, none⟩) L.length cap) L AV KV) (hk : k < L.length) (x : List UInt8) :
    RD (W.setCell ⟨g, k * 5 + 2, none⟩ (.string ⟨x.toArray⟩)) B (.slice (some ⟨g, 0, none⟩) L.length cap) (withText L k x) AV KV := by
  have hl2 : (withText L k x).length = L.length := by unfold withText; simp
  have hne : ∀ j, j < L.length → AV j ≠ g := fun j hj e => h.sepN j hj (by rw [e]; rfl)
  have hat : ∀ j, (nth (withText L k x) j).attr = (nth L j).attr ∧ (nth (withText L k x) j).kids = (nth L j).kids := fun j => by
    unfold withText
    by_cases e : j = k
    · subst e; rw [nth_mod_same _ hk]; exact ⟨rfl, rfl⟩
    · rw [nth_mod_other _ e]; exact ⟨rfl, rfl⟩
  refine ⟨?_, fun j hj => ?_, fun j hj => ?_, fun i j hi hj => h.sepK i j (by omega) (by omega), fun i hi => h.sepN i (by omega)⟩
  · rw [hl2]
    refine (h.nr.set (by decide) hk (by omega) (.string ⟨x.toArray⟩)).congr (fun j hj => ?_) (fun j hj => rfl) (fun j hj => (hat j).2)
    by_cases e : j = k
    · subst e; rw [if_pos rfl]; unfold withText; rw [nth_mod_same _ hk]; rfl
    · rw [if_neg e]; unfold withText; rw [nth_mod_other _ e]
  · rw [(hat j).1]; exact h.len j (by omega)
  · rw [(hat j).1]; exact ⟨(h.att j (by omega)).1, (h.att j (by omega)).2.other (hne j (by omega)) _⟩
/-- A kid more. -/
theorem RD.kid {g cap : Nat} {kv' : Value} {k c : Nat} (h : RD W B (.slice (some ⟨g, 0, none⟩) L.length cap) L AV KV) (hk : k < L.length)
    (hr : W'.ownsRow B 3 1 kv' ((nth L k).kids.length + 1) (kInts ((nth L k).kids ++ [c]))) (hg : W.grownBy W' (KV k).ownBlock) (hat : kv'.ownBlock = (KV k).ownBlock ∨ kv'.ownBlock = some W.heap.size) :
    RD (W'.setCell ⟨g, k * 5 + 3, none⟩ kv') B (.slice (some ⟨g, 0, none⟩) L.length cap) (L.modify k fun u => { u with kids := u.kids ++ [c] }) AV (fun j => if j = k then kv' else KV j) := by
  have hl2 : (L.modify k fun u => { u with kids := u.kids ++ [c] }).length = L.length := by simp
  have hne : ∀ j, j < L.length → AV j ≠ g := fun j hj e => h.sepN j hj (by rw [e]; rfl)
  have ha : ∀ j, (nth (L.modify k fun u => { u with kids := u.kids ++ [c] }) j).attr = (nth L j).attr := fun j => by
    by_cases e : j = k
    · subst e; rw [nth_mod_same _ hk]
    · rw [nth_mod_other _ e]
  refine ⟨?_, fun j hj => ?_, fun j hj => ?_, fun i j hi hj => ?_, fun i hi => h.sepN i (by omega)⟩
  · rw [hl2]
    refine (h.nr.kid (t := 3) (by decide) hk (by omega) hr hg hat).congr (fun j hj => ?_) (fun j hj => rfl) (fun j hj => ?_)
    · by_cases e : j = k
      · subst e; simp only [if_true]; rw [nth_mod_same _ hk]; rfl
      · rw [if_neg e, if_neg e, nth_mod_other _ e]
    · by_cases e : j = k
      · subst e; rw [if_pos rfl, nth_mod_same _ hk]
      · rw [if_neg e, nth_mod_other _ e]
  · rw [ha j]; exact h.len j (by omega)
  · rw [ha j]
    exact ⟨(h.att j (by omega)).1, ((h.att j (by omega)).2.keep hg.size (hg.block _ (h.att j (by omega)).2.1 (fun e => h.sepK j k (by omega) hk e.symm))).other (hne j (by omega)) _⟩
  · by_cases e : j = k
    · rw [if_pos e]
      rcases hat with q | q
      · rw [q]; exact h.sepK i k (by omega) hk
      · rw [q]; intro e2; injection e2 with e2; have := (h.att i (by omega)).2.1; omega
    · rw [if_neg e]; exact h.sepK i j (by omega) (by omega)
end
end Go.Proofs.YtepeepipgkejiadGreatDoor

namespace Go.Proofs.YtepeepipgkejiadGreatDoor
open Go.RowKit
set_option linter.unusedVariables false

/-- The reader's state in memory. -/
structure RW (W0 W : World) (rb B : Nat) (s : ByteArray) (i : Nat) (L : List Nd) (f : Flt) (bad dep : Int) : Prop where
  il : i ≤ s.size
  ll : bad < 0 → L.length ≤ i
  kl : ∀ j, (nth L j).kids.length ≤ L.length
  rbB : rb < B
  le : B ≤ W.heap.size
  fr : Fr B rb W0 W
  mem : ∃ nv AV KV er at_, RS W rb s i nv bad er at_ dep ∧ (bad < 0 → FL er at_ f i) ∧ RD W B nv L AV KV
section
variable {W0 W W' : World} {rb B i i' : Nat} {s : ByteArray} {L : List Nd} {f : Flt} {bad bad' dep : Int}
theorem RW.step (h : RW W0 W rb B s i L f bad dep) (hi : i ≤ i') (hl : i' ≤ s.size) (hbb : bad' < 0 → bad < 0) (g : W.grownBy W' (some rb)) (hr : ∀ nv er at_, RS W rb s i nv bad er at_ dep → RS W' rb s i' nv bad' er at_ dep) : RW W0 W' rb B s i' L f bad' dep := by
  obtain ⟨nv, AV, KV, er, at_, h1, h2, h3⟩ := h.mem
  exact ⟨hl, fun e => Nat.le_trans (h.ll (hbb e)) hi, h.kl, h.rbB, Nat.le_trans h.le g.size, h.fr.trans (Fr.grown g h.le), nv, AV, KV, er, at_, hr nv er at_ h1, fun e => (h2 (hbb e)).on hi, h3.up (Up.grown g h.rbB)⟩
theorem RW.below (h : RW W0 W rb B s i L f bad dep) (hb : Below W.heap.size W W') : RW W0 W' rb B s i L f bad dep :=
  h.step (Nat.le_refl _) h.il id (gr_below hb) (fun nv er at_ r => r.below hb)
theorem mI_ge (s : ByteArray) (i c : Nat) (bad : Int) : i ≤ mI s i c bad := by
  unfold mI; split
  · exact gotI_ge s i c
  · exact sk_ge s i
theorem mB_neg {s : ByteArray} {i c : Nat} {bad : Int} (h : mB s i c bad < 0) : bad < 0 := by
  unfold mB at h; split at h
  · assumption
  · exact h
theorem rw_skip (h : RW W0 W rb B s i L f bad dep) (hs : s.size ≤ 1073741824) : Calls Tryz.prog 20 #[.pointer (some ⟨rb, 0, none⟩)] W fun e w' => e = .returned (.tuple #[]) ∧ RW W0 w' rb B s (sk s i) L f bad dep := by
  obtain ⟨nv, AV, KV, er, at_, h1, h2, h3⟩ := h.mem
  refine (skip_any rb s i nv bad er at_ dep W h1 (by omega) h.il).mono ?_
  rintro e w' ⟨rfl, r, g⟩
  exact ⟨rfl, sk_le s i h.il, fun e => Nat.le_trans (h.ll e) (sk_ge s i), h.kl, h.rbB, Nat.le_trans h.le g.size, h.fr.trans (Fr.grown g h.le), nv, AV, KV, er, at_, r, fun e => (h2 e).on (sk_ge s i), h3.up (Up.grown g h.rbB)⟩
theorem rw_must (c : Nat) (hc : c < 256) (h : RW W0 W rb B s i L f bad dep) (hs : s.size ≤ 1073741824) : Calls Tryz.prog 38 #[.pointer (some ⟨rb, 0, none⟩), .int .u8 (c : Int)] W fun e w' => e = .returned (.tuple #[]) ∧ RW W0 w' rb B s (mI s i c bad) L f (mB s i c bad) dep := by
  obtain ⟨nv, AV, KV, er, at_, h1, h2, h3⟩ := h.mem
  refine (must_all rb s i nv bad er at_ dep c W h1 (by omega) h.il hc).mono ?_
  rintro e w' ⟨rfl, r, g⟩
  have hi := mI_ge s i c bad
  have hbb := mB_neg (s := s) (i := i) (c := c) (bad := bad)
  exact ⟨rfl, mI_le bad hc h.il, fun e => Nat.le_trans (h.ll (hbb e)) hi, h.kl, h.rbB, Nat.le_trans h.le g.size, h.fr.trans (Fr.grown g h.le), nv, AV, KV, er, at_, r, fun e => (h2 (hbb e)).on hi, h3.up (Up.grown g h.rbB)⟩
theorem rw_got (c : Nat) (hc : c < 256) (h : RW W0 W rb B s i L f bad dep) (hs : s.size ≤ 1073741824) : Calls Tryz.prog 75 #[.pointer (some ⟨rb, 0, none⟩), .int .u8 (c : Int)] W fun e w' => e = .returned (.bool (gB s i c bad)) ∧ RW W0 w' rb B s (mI s i c bad) L f bad dep := by
  obtain ⟨nv, AV, KV, er, at_, h1, h2, h3⟩ := h.mem
  refine (got_all rb s i nv bad er at_ dep c W h1 (by omega) h.il hc).mono ?_
  rintro e w' ⟨rfl, r, g⟩
  have hi := mI_ge s i c bad
  exact ⟨rfl, mI_le bad hc h.il, fun e => Nat.le_trans (h.ll e) hi, h.kl, h.rbB, Nat.le_trans h.le g.size, h.fr.trans (Fr.grown g h.le), nv, AV, KV, er, at_, r, fun e => (h2 e).on hi, h3.up (Up.grown g h.rbB)⟩
theorem RW.c3 (h : RW W0 W rb B s i L f bad dep) : W.cell? ⟨rb, 3, none⟩ = some (.int .i64 bad) := by
  obtain ⟨nv, AV, KV, er, at_, h1, h2, h3⟩ := h.mem
  exact h1.c3
theorem RW.rdI (h : RW W0 W rb B s i L f bad dep) : rdI W rb = i := by
  obtain ⟨nv, AV, KV, er, at_, h1, h2, h3⟩ := h.mem
  exact h1.rdI
end
/-- What node leaves. -/
def NOut (W0 W' : World) (rb B : Nat) (s : ByteArray) (dep : Int) (st : PS) (r : Except Nat PS) : Prop := match r with
  | .error b => ∃ i L g, RW W0 W' rb B s i L g (b : Int) dep
  | .ok st' => RW W0 W' rb B s st'.i st'.L st'.er (-1) dep ∧ st.i < st'.i ∧ st.L.length ≤ st'.L.length
def NodeR (rb B : Nat) (s : ByteArray) (f : Nat) : Prop := ∀ (up : Int) (depth : Nat) (st : PS) (w0 w : World), RW w0 w rb B s st.i st.L st.er (-1) (depth : Int) → (up = -1 ∨ (0 ≤ up ∧ up < st.L.length)) → depth ≤ st.i → s.size < f + st.i →
  Calls Tryz.prog 19 #[.pointer (some ⟨rb, 0, none⟩), .int .i64 up] w fun e w' => e = .returned (.tuple #[]) ∧ NOut w0 w' rb B s (depth : Int) st (nodeF s f up depth st)
theorem find_empty : findF kindsL ByteArray.empty 0 = -1 := by kernel_rfl

set_option maxRecDepth 100000 in
set_option maxHeartbeats 4000000 in
theorem node_bad (rb B : Nat) (s : ByteArray) (i : Nat) (L : List Nd) (f : Flt) (bad dep : Int) (up : Int) (w0 w : World) (h : RW w0 w rb B s i L f bad dep) (hb : 0 ≤ bad) (hs : s.size ≤ 1073741824) :
    Calls Tryz.prog 19 #[.pointer (some ⟨rb, 0, none⟩), .int .i64 up] w fun e w' => e = .returned (.tuple #[]) ∧ RW w0 w' rb B s (sk s i) L f bad dep := by
  have SK : Hid (Calls Tryz.prog 20 #[.pointer (some ⟨rb, 0, none⟩)] w fun e w' => e = .returned (.tuple #[]) ∧ RW w0 w' rb B s (sk s i) L f bad dep) := rw_skip h hs
  have hge : decide (0 ≤ bad) = true := decide_eq_true hb
  clear h
  go_enter Tryz.func19, Tryz.ntmps19
  go_wp2_with fail
  refine Calls.mono SK.out ?_
  rintro e w1 ⟨rfl, h1⟩
  obtain ⟨nv, AV, KV, er, at_, r1, f1, d1⟩ := h1.mem
  have c1 := r1.c1
  have H1 : Hid (RW w0 w1 rb B s (sk s i) L f bad dep) := h1
  have WO : Hid (Calls Tryz.prog 32 #[.pointer (some ⟨rb, 0, none⟩)] w1 fun e w' => e = .returned (.string ByteArray.empty) ∧ RS w' rb s (sk s i) nv bad er at_ dep ∧ w1.grownBy w' (some rb)) := by
    have := word_bad rb s (sk s i) nv bad er at_ dep w1 r1 (by omega) h1.il hb
    rw [sk_sk] at this
    exact this
  have HF1 : Hid ((bad < 0 → FL er at_ f (sk s i)) ∧ RD w1 B nv L AV KV) := ⟨f1, d1⟩
  clear r1 f1 d1 h1 SK
  go_wp2_with fail
  clear c1
  refine Calls.mono WO.out ?_
  rintro e w2 ⟨rfl, r2, g2⟩
  have H2 : Hid (RW w0 w2 rb B s (sk s i) L f bad dep) := ⟨H1.out.il, H1.out.ll, H1.out.kl, H1.out.rbB, Nat.le_trans H1.out.le g2.size, H1.out.fr.trans (Fr.grown g2 H1.out.le), nv, AV, KV, er, at_, r2, HF1.out.1, HF1.out.2.up (Up.grown g2 H1.out.rbB)⟩
  clear r2 g2 WO H1 HF1
  go_wp2_with fail
  refine Calls.mono (kinds_any w2) ?_
  rintro e w3 ⟨rfl, hn3, hl3, b3⟩
  have H3 : Hid (RW w0 w3 rb B s (sk s i) L f bad dep) := H2.out.below b3
  have FI : Hid (Calls Tryz.prog 33 #[.slice (some ⟨w2.heap.size, 0, none⟩) 7 7, .string ByteArray.empty] w3 fun e w' => e = .returned (.int .i64 (-1)) ∧ w' = w3) := by
    have := find_any kindsL ByteArray.empty w2.heap.size 0 7 7 w3 hl3 hn3 rfl (by omega)
    rw [find_empty] at this
    exact this
  clear hn3 hl3 b3 H2
  go_wp2_with fail
  refine Calls.mono FI.out ?_
  rintro e w4 ⟨rfl, hw4⟩
  obtain rfl := hw4.symm
  obtain ⟨nv, AV, KV, er, at_, r3, f3, d3⟩ := H3.out.mem
  have FA : Hid (Calls Tryz.prog 21 #[.pointer (some ⟨rb, 0, none⟩), .int .i64 (sk s i : Int)] w3 fun e w' => e = .returned (.tuple #[]) ∧ RS w' rb s (sk s i) nv bad er at_ dep ∧ w3.grownBy w' (some rb)) := by
    have := fail_any rb s (sk s i) nv bad er at_ dep (sk s i : Int) w3 r3
    have e : badI bad (sk s i : Int) = bad := by unfold badI; rw [if_neg (by omega)]
    rw [e] at this
    exact this
  have HF3 : Hid ((bad < 0 → FL er at_ f (sk s i)) ∧ RD w3 B nv L AV KV) := ⟨f3, d3⟩
  clear r3 f3 d3 FI
  go_wp2_with fail
  refine Calls.mono FA.out ?_
  rintro e w5 ⟨rfl, r5, g5⟩
  have H5 : Hid (RW w0 w5 rb B s (sk s i) L f bad dep) := ⟨H3.out.il, H3.out.ll, H3.out.kl, H3.out.rbB, Nat.le_trans H3.out.le g5.size, H3.out.fr.trans (Fr.grown g5 H3.out.le), nv, AV, KV, er, at_, r5, HF3.out.1, HF3.out.2.up (Up.grown g5 H3.out.rbB)⟩
  have c3 := r5.c3
  clear r5 g5 FA
  go_wp2
  refine bodyPost_ret (results_none rfl _ _ _) rfl ?_
  exact ⟨rfl, H5.out⟩
end Go.Proofs.YtepeepipgkejiadGreatDoor

namespace Go.Proofs.YtepeepipgkejiadGreatDoor
open Go.RowKit
set_option linter.unusedVariables false

def kidsR (s : ByteArray) (node : PS → Except Nat PS) (st : PS) : Except Nat PS := match mustR s st.i 91 with
  | .error b => .error b
  | .ok i2 => if isAt s i2 93 then .ok { st with i := gotI s i2 93 } else kidsF s node (s.size + 1) { st with i := sk s i2 }
def endR (s : ByteArray) (st : PS) : Except Nat PS := match mustR s st.i 93 with
  | .error b => .error b
  | .ok i3 => .ok { st with i := i3 }
theorem mustR_sk (s : ByteArray) (i c : Nat) : mustR s (sk s i) c = mustR s i c := by unfold mustR; rw [isAt_sk, gotI_sk, sk_sk]
theorem endR_sk (s : ByteArray) (st : PS) : endR s { st with i := sk s st.i } = endR s st := by unfold endR; simp only; rw [mustR_sk]
theorem kidsF_err {s : ByteArray} {node : PS → Except Nat PS} {g : Nat} {st : PS} {b : Nat} (h : node st = .error b) : kidsF s node (g + 1) st = .error b := by rw [kidsF, h]
theorem kidsF_more {s : ByteArray} {node : PS → Except Nat PS} {g : Nat} {st st2 : PS} (h : node st = .ok st2) (hm : isAt s st2.i 44 = true) : kidsF s node (g + 1) st = kidsF s node g { st2 with i := gotI s st2.i 44 } := by
  rw [kidsF, h]; simp only; rw [if_pos hm]
theorem kidsF_last {s : ByteArray} {node : PS → Except Nat PS} {g : Nat} {st st2 : PS} (h : node st = .ok st2) (hm : ¬ isAt s st2.i 44 = true) : kidsF s node (g + 1) st = endR s st2 := by
  rw [kidsF, h]; simp only; rw [if_neg hm]; rfl
/-- How a round of kids stands. -/
def KI (s : ByteArray) (node : PS → Except Nat PS) (R : Except Nat PS) (m : Bool) (i : Nat) (L : List Nd) (f : Flt) (bad : Int) : Prop :=
  (bad = -1 ∧ m = true ∧ ∃ g, s.size < g + i ∧ kidsF s node g ⟨i, L, f⟩ = R) ∨ (bad = -1 ∧ m = false ∧ endR s ⟨i, L, f⟩ = R) ∨ (∃ b : Nat, bad = b ∧ m = false ∧ R = .error b)
section
variable {s : ByteArray} {i c : Nat} {b : Nat}
theorem gB_ok : gB s i c (-1) = isAt s i c := by unfold gB; rw [if_pos (by omega)]
theorem mI_ok : mI s i c (-1) = gotI s i c := by unfold mI; rw [if_pos (by omega)]
theorem mB_ok : mB s i c (-1) = if isAt s i c then -1 else (sk s i : Int) := by unfold mB; rw [if_pos (by omega)]; rfl
theorem gB_bad : gB s i c (b : Int) = false := by unfold gB; rw [if_neg (by omega)]
theorem mB_bad : mB s i c (b : Int) = b := by unfold mB; rw [if_neg (by omega)]
theorem gI_at (h : isAt s i c = true) : gotI s i c = sk s i + 1 := by unfold gotI; rw [if_pos (by unfold isAt at h; simpa using h)]
theorem gotI_not (h : ¬ isAt s i c = true) : gotI s i c = sk s i := by unfold gotI; rw [if_neg (by unfold isAt at h; simpa using h)]
end

set_option maxRecDepth 100000 in
set_option maxHeartbeats 4000000 in
theorem kids_bad (rb B : Nat) (s : ByteArray) (i : Nat) (L : List Nd) (f : Flt) (b : Nat) (dep up : Int) (w0 w : World) (h : RW w0 w rb B s i L f (b : Int) dep) (hs : s.size ≤ 1073741824) :
    Calls Tryz.prog 37 #[.pointer (some ⟨rb, 0, none⟩), .int .i64 up] w fun e w' => e = .returned (.tuple #[]) ∧ ∃ i', RW w0 w' rb B s i' L f (b : Int) dep := by
  have MU : Hid (∀ (c i : Nat) (w : World), c < 256 → RW w0 w rb B s i L f (b : Int) dep → Calls Tryz.prog 38 #[.pointer (some ⟨rb, 0, none⟩), .int .u8 (c : Int)] w fun e w' => e = .returned (.tuple #[]) ∧ RW w0 w' rb B s (mI s i c b) L f (b : Int) dep) := fun c i w hc h => by have := rw_must c hc h hs; rw [mB_bad] at this; exact this
  have GO : Hid (∀ (c i : Nat) (w : World), c < 256 → RW w0 w rb B s i L f (b : Int) dep → Calls Tryz.prog 75 #[.pointer (some ⟨rb, 0, none⟩), .int .u8 (c : Int)] w fun e w' => e = .returned (.bool false) ∧ RW w0 w' rb B s (mI s i c b) L f (b : Int) dep) := fun c i w hc h => by have := rw_got c hc h hs; rw [gB_bad] at this; exact this
  have M91 : Hid (Calls Tryz.prog 38 #[.pointer (some ⟨rb, 0, none⟩), .int .u8 91] w fun e w' => e = .returned (.tuple #[]) ∧ RW w0 w' rb B s (mI s i 91 b) L f (b : Int) dep) := MU.out 91 i w (by omega) h
  have hbf : decide ((b : Int) < 0) = false := decide_eq_false (by omega)
  clear h
  go_enter Tryz.func37, Tryz.ntmps37
  go_wp2_with fail
  refine Calls.mono M91.out ?_
  rintro e w1 ⟨rfl, h1⟩
  have G93 : Hid (Calls Tryz.prog 75 #[.pointer (some ⟨rb, 0, none⟩), .int .u8 93] w1 fun e w' => e = .returned (.bool false) ∧ RW w0 w' rb B s (mI s (mI s i 91 b) 93 b) L f (b : Int) dep) := GO.out 93 _ w1 (by omega) h1
  clear h1 M91
  go_wp2_with fail
  refine Calls.mono G93.out ?_
  rintro e w2 ⟨rfl, h2⟩
  have H2 : Hid (RW w0 w2 rb B s (mI s (mI s i 91 b) 93 b) L f (b : Int) dep) := h2
  have E93 : Hid (Calls Tryz.prog 38 #[.pointer (some ⟨rb, 0, none⟩), .int .u8 93] w2 fun e w' => e = .returned (.tuple #[]) ∧ RW w0 w' rb B s (mI s (mI s (mI s i 91 b) 93 b) 93 b) L f (b : Int) dep) := MU.out 93 _ w2 (by omega) h2
  clear h2 G93
  go_wp2_with fail
  go_loopw [4] (fun mv wr => mv = .bool true ∧ wr = w2) (fun _ _ => 0)
  case atStart => exact ⟨rfl, rfl⟩
  case round =>
    obtain ⟨rfl, rfl⟩ := hrel
    have c3 := H2.out.c3
    go_wp2_with fail
    refine Calls.mono E93.out ?_
    rintro e w3 ⟨rfl, h3⟩
    have H3 : Hid (RW w0 w3 rb B s (mI s (mI s (mI s i 91 b) 93 b) 93 b) L f (b : Int) dep) := h3
    clear h3 E93 c3
    go_wp2
    go_end0
    exact ⟨rfl, _, H3.out⟩

set_option maxRecDepth 100000 in
set_option maxHeartbeats 8000000 in
theorem kids_of (rb B : Nat) (s : ByteArray) (f : Nat) (hN : NodeR rb B s f) (hs : s.size ≤ 1073741824) (up : Nat) (depth : Nat) (st : PS) (w0 w : World) (h : RW w0 w rb B s st.i st.L st.er (-1) (depth : Int)) (hup : up < st.L.length) (hd : depth ≤ st.i) (hf : s.size < f + st.i) :
    Calls Tryz.prog 37 #[.pointer (some ⟨rb, 0, none⟩), .int .i64 (up : Int)] w fun e w' => e = .returned (.tuple #[]) ∧ NOut w0 w' rb B s (depth : Int) st (kidsR s (nodeF s f (up : Int) depth) st) := by
  by_cases hq : isAt s st.i 91 = true
  · have M91 : Hid (Calls Tryz.prog 38 #[.pointer (some ⟨rb, 0, none⟩), .int .u8 91] w fun e w' => e = .returned (.tuple #[]) ∧ RW w0 w' rb B s (gotI s st.i 91) st.L st.er (-1) (depth : Int)) := by
      have := rw_must 91 (by omega) h hs
      rw [mB_ok, if_pos hq, mI_ok] at this
      exact this
    have hi2 : st.i < gotI s st.i 91 := by rw [gI_at hq]; have := sk_ge s st.i; omega
    have HK : Hid (kidsR s (nodeF s f (up : Int) depth) st = if isAt s (gotI s st.i 91) 93 then .ok { st with i := gotI s (gotI s st.i 91) 93 } else kidsF s (nodeF s f (up : Int) depth) (s.size + 1) { st with i := sk s (gotI s st.i 91) }) := by show _ = _; unfold kidsR mustR; rw [if_pos hq]
    obtain ⟨R, hR⟩ : ∃ z, kidsR s (nodeF s f (up : Int) depth) st = z := ⟨_, rfl⟩
    rw [hR] at HK ⊢
    have HN : Hid (NodeR rb B s f) := hN
    obtain ⟨i2, hi2e⟩ : ∃ z, gotI s st.i 91 = z := ⟨_, rfl⟩
    rw [hi2e] at M91 hi2 HK
    clear h hN hR hi2e hq
    go_enter Tryz.func37, Tryz.ntmps37
    go_wp2_with fail
    refine Calls.mono M91.out ?_
    rintro e w1 ⟨rfl, h1⟩
    have G93 : Hid (Calls Tryz.prog 75 #[.pointer (some ⟨rb, 0, none⟩), .int .u8 93] w1 fun e w' => e = .returned (.bool (isAt s i2 93)) ∧ RW w0 w' rb B s (gotI s i2 93) st.L st.er (-1) (depth : Int)) := by
      have := rw_got 93 (by omega) h1 hs
      rw [gB_ok, mI_ok] at this
      exact this
    clear h1 M91
    have hg93 := gotI_ge s i2 93
    by_cases hq2 : isAt s i2 93 = true
    · have HRE : Hid (R = .ok { st with i := gotI s i2 93 }) := by show _ = _; rw [HK.out, if_pos hq2]
      rw [hq2] at G93
      clear HK hq2
      go_wp2_with fail
      refine Calls.mono G93.out ?_
      rintro e w2 ⟨rfl, h2⟩
      have H2 : Hid (RW w0 w2 rb B s (gotI s i2 93) st.L st.er (-1) (depth : Int)) := h2
      clear h2 G93
      go_wp2
      try simp only [Exit.inBlock, Exit.then]
      refine bodyPost_ret (results_none rfl _ _ _) rfl ?_
      refine ⟨rfl, ?_⟩
      show NOut _ _ _ _ _ _ _ _
      rw [HRE.out]
      exact ⟨H2.out, by show st.i < gotI s i2 93; omega, Nat.le_refl _⟩
    · have hsk : gotI s i2 93 = sk s i2 := gotI_not hq2
      have HKF : Hid (kidsF s (nodeF s f (up : Int) depth) (s.size + 1) ⟨sk s i2, st.L, st.er⟩ = R) := by show _ = _; rw [HK.out, if_neg hq2]
      rw [show isAt s i2 93 = false by simpa using hq2, hsk] at G93
      rw [hsk] at hg93
      clear HK hq2 hsk
      go_wp2_with fail
      refine Calls.mono G93.out ?_
      rintro e w2 ⟨rfl, h2⟩
      have H2 : Hid (RW w0 w2 rb B s (sk s i2) st.L st.er (-1) (depth : Int)) := h2
      have hsl := h2.il
      clear h2 G93
      go_wp2_with fail
      go_loopw [4] (fun mv wr => ∃ (m : Bool) (i : Nat) (L : List Nd) (g : Flt) (bad : Int), mv = .bool m ∧ i ≤ s.size ∧ (bad = -1 → st.i < i ∧ st.L.length ≤ L.length) ∧ Hid (KI s (nodeF s f (up : Int) depth) R m i L g bad) ∧ Hid (RW w0 wr rb B s i L g bad (depth : Int))) (fun mv wr => if moreOf mv then s.size + 1 - rdI wr rb else 0)
      case atStart => exact ⟨true, sk s i2, st.L, st.er, -1, rfl, hsl, fun _ => ⟨by omega, Nat.le_refl _⟩, .inl ⟨rfl, rfl, s.size + 1, by omega, HKF.out⟩, H2.out⟩
      case round =>
        clear H2 HKF
        obtain ⟨m, i, L, g, bad, rfl, hil, hLL, HI, HS⟩ := hrel
        have c3 := HS.out.c3
        have HRd : Hid (rdI wr rb = i) := HS.out.rdI
        rcases HI.out with ⟨rfl, rfl, fu, hfu, hkf⟩ | ⟨rfl, rfl, hen⟩ | ⟨b, rfl, rfl, hre⟩
        · obtain ⟨fu, rfl⟩ : ∃ q, fu = q + 1 := ⟨fu - 1, by omega⟩
          obtain ⟨hii, hLs⟩ := hLL rfl
          clear hLL
          have CN : Hid (Calls Tryz.prog 19 #[.pointer (some ⟨rb, 0, none⟩), .int .i64 (up : Int)] wr fun e w' => e = .returned (.tuple #[]) ∧ NOut w0 w' rb B s (depth : Int) ⟨i, L, g⟩ (nodeF s f (up : Int) depth ⟨i, L, g⟩)) := HN.out (up : Int) depth ⟨i, L, g⟩ w0 wr HS.out (.inr ⟨by omega, by show (up : Int) < (L.length : Int); omega⟩) (by show depth ≤ i; omega) (by show s.size < f + i; omega)
          have HKF : Hid (kidsF s (nodeF s f (up : Int) depth) (fu + 1) ⟨i, L, g⟩ = R) := hkf
          clear hkf HI
          cases hp : nodeF s f (up : Int) depth ⟨i, L, g⟩ with
          | error b =>
            have HRE : Hid (R = .error b) := by show _ = _; rw [← HKF.out]; exact kidsF_err hp
            rw [hp] at CN
            clear hp HKF
            go_wp2_with fail
            refine Calls.mono CN.out ?_
            rintro e w3 ⟨rfl, i3, L3, g3, h3⟩
            have G44 : Hid (Calls Tryz.prog 75 #[.pointer (some ⟨rb, 0, none⟩), .int .u8 44] w3 fun e w' => e = .returned (.bool false) ∧ RW w0 w' rb B s (mI s i3 44 b) L3 g3 (b : Int) (depth : Int)) := by
              have := rw_got 44 (by omega) h3 hs
              rw [gB_bad] at this
              exact this
            clear h3 CN c3
            go_wp2_with fail
            refine Calls.mono G44.out ?_
            rintro e w4 ⟨rfl, h4⟩
            have H4 : Hid (RW w0 w4 rb B s (mI s i3 44 b) L3 g3 (b : Int) (depth : Int)) := h4
            clear h4 G44
            go_wp2_with fail
            go_roundw
            case rel => exact ⟨false, _, L3, g3, (b : Int), rfl, H4.out.il, fun e => by omega, .inr (.inr ⟨b, rfl, rfl, HRE.out⟩), H4.out⟩
            case measure => rw [HRd.out]; show 0 < s.size + 1 - i; omega
          | ok st3 =>
            rw [hp] at CN
            have HP : Hid (nodeF s f (up : Int) depth ⟨i, L, g⟩ = .ok st3) := hp
            clear hp
            go_wp2_with fail
            refine Calls.mono CN.out ?_
            rintro e w3 ⟨rfl, h3, p3, l3⟩
            have hp3 : i < st3.i := p3
            have hl3 : L.length ≤ st3.L.length := l3
            have G44 : Hid (Calls Tryz.prog 75 #[.pointer (some ⟨rb, 0, none⟩), .int .u8 44] w3 fun e w' => e = .returned (.bool (isAt s st3.i 44)) ∧ RW w0 w' rb B s (gotI s st3.i 44) st3.L st3.er (-1) (depth : Int)) := by
              have := rw_got 44 (by omega) h3 hs
              rw [gB_ok, mI_ok] at this
              exact this
            have hgg := gotI_ge s st3.i 44
            clear h3 CN c3 p3 l3
            go_wp2_with fail
            refine Calls.mono G44.out ?_
            rintro e w4 ⟨rfl, h4⟩
            have H4 : Hid (RW w0 w4 rb B s (gotI s st3.i 44) st3.L st3.er (-1) (depth : Int)) := h4
            have HR4 : Hid (rdI w4 rb = gotI s st3.i 44) := h4.rdI
            have hil4 := h4.il
            clear h4 G44
            by_cases hm : isAt s st3.i 44 = true
            · have HK2 : Hid (kidsF s (nodeF s f (up : Int) depth) fu ⟨gotI s st3.i 44, st3.L, st3.er⟩ = R) := by show _ = _; rw [← HKF.out]; exact (kidsF_more HP.out hm).symm
              rw [hm]
              clear hm HP HKF
              go_wp2_with fail
              go_roundw
              case rel => exact ⟨true, gotI s st3.i 44, st3.L, st3.er, -1, rfl, hil4, fun _ => ⟨by omega, by omega⟩, .inl ⟨rfl, rfl, fu, by omega, HK2.out⟩, H4.out⟩
              case measure => rw [HRd.out, HR4.out]; show s.size + 1 - gotI s st3.i 44 < s.size + 1 - i; omega
            · have hsk : gotI s st3.i 44 = sk s st3.i := gotI_not hm
              have HK2 : Hid (endR s ⟨gotI s st3.i 44, st3.L, st3.er⟩ = R) := by
                show _ = _
                rw [← HKF.out, kidsF_last HP.out hm, hsk]
                exact endR_sk s st3
              rw [show isAt s st3.i 44 = false by simpa using hm]
              clear hm HP HKF hsk
              go_wp2_with fail
              go_roundw
              case rel => exact ⟨false, gotI s st3.i 44, st3.L, st3.er, -1, rfl, hil4, fun _ => ⟨by omega, by omega⟩, .inr (.inl ⟨rfl, rfl, HK2.out⟩), H4.out⟩
              case measure => rw [HRd.out]; show 0 < s.size + 1 - i; omega
        · obtain ⟨hii, hLs⟩ := hLL rfl
          have HEN : Hid (endR s ⟨i, L, g⟩ = R) := hen
          have M93 : Hid (Calls Tryz.prog 38 #[.pointer (some ⟨rb, 0, none⟩), .int .u8 93] wr fun e w' => e = .returned (.tuple #[]) ∧ RW w0 w' rb B s (gotI s i 93) L g (if isAt s i 93 then -1 else (sk s i : Int)) (depth : Int)) := by
            have := rw_must 93 (by omega) HS.out hs
            rw [mB_ok, mI_ok] at this
            exact this
          have hgg := gotI_ge s i 93
          clear hen HI hLL
          go_wp2_with fail
          refine Calls.mono M93.out ?_
          rintro e w3 ⟨rfl, h3⟩
          have H3 : Hid (RW w0 w3 rb B s (gotI s i 93) L g (if isAt s i 93 then -1 else (sk s i : Int)) (depth : Int)) := h3
          clear h3 M93 c3
          go_wp2
          go_end0
          refine ⟨rfl, ?_⟩
          show NOut _ _ _ _ _ _ _ _
          rw [← HEN.out]
          unfold endR mustR
          have hh := H3.out
          by_cases hm : isAt s i 93 = true
          · rw [if_pos hm] at hh
            simp only [hm, if_true]
            exact ⟨hh, by show st.i < gotI s i 93; omega, hLs⟩
          · rw [if_neg hm] at hh
            simp only [hm]
            exact ⟨_, _, _, hh⟩
        · have HRE : Hid (R = .error b) := hre
          have hbf : decide ((b : Int) < 0) = false := decide_eq_false (by omega)
          have M93 : Hid (Calls Tryz.prog 38 #[.pointer (some ⟨rb, 0, none⟩), .int .u8 93] wr fun e w' => e = .returned (.tuple #[]) ∧ RW w0 w' rb B s (mI s i 93 b) L g (b : Int) (depth : Int)) := by
            have := rw_must 93 (by omega) HS.out hs
            rw [mB_bad] at this
            exact this
          clear hre HI hLL
          go_wp2_with fail
          refine Calls.mono M93.out ?_
          rintro e w3 ⟨rfl, h3⟩
          have H3 : Hid (RW w0 w3 rb B s (mI s i 93 b) L g (b : Int) (depth : Int)) := h3
          clear h3 M93 c3
          go_wp2
          go_end0
          refine ⟨rfl, ?_⟩
          show NOut _ _ _ _ _ _ _ _
          rw [HRE.out]
          exact ⟨_, _, _, H3.out⟩
  · have hR : kidsR s (nodeF s f (up : Int) depth) st = .error (sk s st.i) := by unfold kidsR mustR; rw [if_neg hq]
    have HR : Hid (kidsR s (nodeF s f (up : Int) depth) st = .error (sk s st.i)) := hR
    have M91 : Hid (Calls Tryz.prog 38 #[.pointer (some ⟨rb, 0, none⟩), .int .u8 91] w fun e w' => e = .returned (.tuple #[]) ∧ RW w0 w' rb B s (gotI s st.i 91) st.L st.er (sk s st.i : Int) (depth : Int)) := by
      have := rw_must 91 (by omega) h hs
      rw [mB_ok, if_neg hq, mI_ok] at this
      exact this
    have hbf : decide ((sk s st.i : Int) < 0) = false := decide_eq_false (by omega)
    rw [hR]
    clear hN hR h
    go_enter Tryz.func37, Tryz.ntmps37
    go_wp2_with fail
    refine Calls.mono M91.out ?_
    rintro e w1 ⟨rfl, h1⟩
    have G93 : Hid (Calls Tryz.prog 75 #[.pointer (some ⟨rb, 0, none⟩), .int .u8 93] w1 fun e w' => e = .returned (.bool false) ∧ RW w0 w' rb B s (mI s (gotI s st.i 91) 93 (sk s st.i : Int)) st.L st.er (sk s st.i : Int) (depth : Int)) := by
      have := rw_got 93 (by omega) h1 hs
      rw [gB_bad] at this
      exact this
    clear h1 M91
    go_wp2_with fail
    refine Calls.mono G93.out ?_
    rintro e w2 ⟨rfl, h2⟩
    have H2 : Hid (RW w0 w2 rb B s (mI s (gotI s st.i 91) 93 (sk s st.i : Int)) st.L st.er (sk s st.i : Int) (depth : Int)) := h2
    have E93 : Hid (Calls Tryz.prog 38 #[.pointer (some ⟨rb, 0, none⟩), .int .u8 93] w2 fun e w' => e = .returned (.tuple #[]) ∧ RW w0 w' rb B s (mI s (mI s (gotI s st.i 91) 93 (sk s st.i : Int)) 93 (sk s st.i : Int)) st.L st.er (sk s st.i : Int) (depth : Int)) := by
      have := rw_must 93 (by omega) h2 hs
      rw [mB_bad] at this
      exact this
    clear h2 G93
    go_wp2_with fail
    go_loopw [4] (fun mv wr => mv = .bool true ∧ wr = w2) (fun _ _ => 0)
    case atStart => exact ⟨rfl, rfl⟩
    case round =>
      obtain ⟨rfl, rfl⟩ := hrel
      have c3 := H2.out.c3
      go_wp2_with fail
      refine Calls.mono E93.out ?_
      rintro e w3 ⟨rfl, h3⟩
      have H3 : Hid (RW w0 w3 rb B s (mI s (mI s (gotI s st.i 91) 93 (sk s st.i : Int)) 93 (sk s st.i : Int)) st.L st.er (sk s st.i : Int) (depth : Int)) := h3
      clear h3 E93 c3
      go_wp2
      go_end0
      exact ⟨rfl, _, _, _, H3.out⟩
end Go.Proofs.YtepeepipgkejiadGreatDoor

namespace Go.Proofs.YtepeepipgkejiadGreatDoor
open Go.RowKit
set_option linter.unusedVariables false

set_option maxRecDepth 100000 in
set_option maxHeartbeats 4000000 in
theorem rw_quoted_bad (rb B : Nat) (s : ByteArray) (i : Nat) (L : List Nd) (f : Flt) (b : Nat) (dep : Int) (w0 w : World) (h : RW w0 w rb B s i L f (b : Int) dep) (hs : s.size ≤ 1073741824) :
    Calls Tryz.prog 39 #[.pointer (some ⟨rb, 0, none⟩)] w fun e w' => e = .returned (.string ByteArray.empty) ∧ ∃ p, RW w0 w' rb B s p L f (b : Int) dep := by
  have MU : Hid (Calls Tryz.prog 38 #[.pointer (some ⟨rb, 0, none⟩), .int .u8 34] w fun e w' => e = .returned (.tuple #[]) ∧ RW w0 w' rb B s (mI s i 34 b) L f (b : Int) dep) := by have := rw_must 34 (by omega) h hs; rw [mB_bad] at this; exact this
  have hbf : decide ((b : Int) < 0) = false := decide_eq_false (by omega)
  clear h
  go_enter Tryz.func39, Tryz.ntmps39
  go_wp2_with fail
  refine Calls.mono MU.out ?_
  rintro e w1 ⟨rfl, h1⟩
  have H1 : Hid (RW w0 w1 rb B s (mI s i 34 b) L f (b : Int) dep) := h1
  clear h1 MU
  go_wp2_with fail
  go_loopw [3] (fun v wr => wr = w1) (fun _ _ => 0)
  case atStart => exact rfl
  case round =>
    obtain rfl := hrel
    have c3 := H1.out.c3
    go_wp2
    go_ret
    exact ⟨rfl, _, H1.out⟩
theorem quoR_bd {s : ByteArray} {i p : Nat} {t : List UInt8} (hi : i ≤ s.size) (h : quoR s i = .ok (p, t)) : i ≤ p ∧ p ≤ s.size := by
  unfold quoR at h
  split at h
  · have g := qF_bd _ _ _ _ _ (gotI_le (by omega) hi) h
    have := gotI_ge s i 34
    omega
  · cases h
theorem rw_quoted {rb B : Nat} {s : ByteArray} {i : Nat} {L : List Nd} {f : Flt} {dep : Int} {w0 w : World} (h : RW w0 w rb B s i L f (-1) dep) (hs : s.size ≤ 1073741824) :
    Calls Tryz.prog 39 #[.pointer (some ⟨rb, 0, none⟩)] w fun e w' => match quoR s i with
      | .ok (p, t) => e = .returned (.string ⟨t.toArray⟩) ∧ RW w0 w' rb B s p L f (-1) dep
      | .error b => e = .returned (.string ByteArray.empty) ∧ ∃ p, RW w0 w' rb B s p L f (b : Int) dep := by
  obtain ⟨nv, AV, KV, er, at_, h1, h2, h3⟩ := h.mem
  refine (quoted_any rb s i nv (-1) er at_ dep w h1 hs h.il (by omega)).mono ?_
  rintro e w' ⟨g, hq⟩
  have hfr := h.fr.trans (Fr.grown g h.le)
  have hrd := h3.up (Up.grown g h.rbB)
  have hle := Nat.le_trans h.le g.size
  cases hR : quoR s i with
  | error b =>
    rw [hR] at hq
    obtain ⟨rfl, p, hp, r⟩ := hq
    exact ⟨rfl, p, hp, fun e => by omega, h.kl, h.rbB, hle, hfr, nv, AV, KV, er, at_, r, fun e => by omega, hrd⟩
  | ok q =>
    obtain ⟨p, t⟩ := q
    rw [hR] at hq
    obtain ⟨rfl, r⟩ := hq
    have hb := quoR_bd h.il hR
    exact ⟨rfl, hb.2, fun e => Nat.le_trans (h.ll e) hb.1, h.kl, h.rbB, hle, hfr, nv, AV, KV, er, at_, r, fun e => (h2 e).on hb.1, hrd⟩
theorem withText_len (L : List Nd) (k : Nat) (x : List UInt8) : (withText L k x).length = L.length := by unfold withText; simp
theorem withText_kids {L : List Nd} {k : Nat} (hk : k < L.length) (x : List UInt8) (j : Nat) : (nth (withText L k x) j).kids = (nth L j).kids := by
  unfold withText
  by_cases e : j = k
  · subst e; rw [nth_mod_same _ hk]
  · rw [nth_mod_other _ e]
/-- A text for node k. -/
theorem RW.text {W0 W : World} {rb B i : Nat} {s : ByteArray} {L : List Nd} {f : Flt} {bad dep : Int} (h : RW W0 W rb B s i L f bad dep) {k : Nat} (hk : k < L.length) :
    ∃ g cap, W.cell? ⟨rb, 2, none⟩ = some (.slice (some ⟨g, 0, none⟩) L.length cap) ∧ (∃ u, W.cell? ⟨g, k * 5 + 2, none⟩ = some u) ∧ W.frozen? ⟨g, k * 5 + 2, none⟩ = false ∧ L.length ≤ cap ∧ g ≠ rb ∧ ∀ x : List UInt8, RW W0 (W.setCell ⟨g, k * 5 + 2, none⟩ (.string ⟨x.toArray⟩)) rb B s i (withText L k x) f bad dep := by
  obtain ⟨nv, AV, KV, er, at_, h1, h2, h3⟩ := h.mem
  obtain ⟨g, cap, rfl, hBg, hgl, hc, _⟩ := h3.nr.form (by omega)
  have hrb := h.rbB
  refine ⟨g, cap, h1.c2, ⟨_, h3.nr.cell hk rfl⟩, h3.nr.frozen _, hc, by omega, fun x => ?_⟩
  have hgs := gr_set W g (k * 5 + 2) (.string ⟨x.toArray⟩)
  refine ⟨h.il, fun e => by rw [withText_len]; exact h.ll e, fun j => by rw [withText_kids hk, withText_len]; exact h.kl j, h.rbB, by simpa [World.setCell] using h.le, h.fr.trans (Fr.own hgs h.le (fun q e => by injection e with e; omega)), _, AV, KV, er, at_, RS.other h1 (by omega) _, h2, h3.setText hk x⟩
end Go.Proofs.YtepeepipgkejiadGreatDoor

namespace Go.Proofs.YtepeepipgkejiadGreatDoor
open Go.RowKit
set_option linter.unusedVariables false

section
variable {W W' : World} {rb i : Nat} {s : ByteArray} {lv : Value} {bad er at_ dep : Int}
theorem RS.setL (h : RS W rb s i lv bad er at_ dep) (v : Value) : RS (W.setCell ⟨rb, 2, none⟩ v) rb s i v bad er at_ dep :=
  ⟨by simpa using h.lt, rs_other (by omega) h.c0, rs_other (by omega) h.c1, rs_same h.c2, rs_other (by omega) h.c3, rs_other (by omega) h.c4, rs_other (by omega) h.c5, rs_other (by omega) h.c6, fun j => by rw [World.frozen?_setCell]; exact h.fz j⟩
theorem RS.setD (h : RS W rb s i lv bad er at_ dep) (d : Int) : RS (W.setCell ⟨rb, 6, none⟩ (.int .i64 d)) rb s i lv bad er at_ d :=
  ⟨by simpa using h.lt, rs_other (by omega) h.c0, rs_other (by omega) h.c1, rs_other (by omega) h.c2, rs_other (by omega) h.c3, rs_other (by omega) h.c4, rs_other (by omega) h.c5, rs_same h.c6, fun j => by rw [World.frozen?_setCell]; exact h.fz j⟩
theorem RS.far {o : Option Nat} {B : Nat} (h : RS W rb s i lv bad er at_ dep) (hg : W.grownBy W' o) (ho : ∀ g, o = some g → B ≤ g) (hr : rb < B) : RS W' rb s i lv bad er at_ dep := by
  have hb : W'.heap[rb]? = W.heap[rb]? := hg.block rb h.lt (fun e => by have := ho rb e.symm; omega)
  have k : ∀ j, W'.cell? ⟨rb, j, none⟩ = W.cell? ⟨rb, j, none⟩ := fun j => World.cell?_of_block hb
  exact ⟨Nat.lt_of_lt_of_le h.lt hg.size, (k 0).trans h.c0, (k 1).trans h.c1, (k 2).trans h.c2, (k 3).trans h.c3, (k 4).trans h.c4, (k 5).trans h.c5, (k 6).trans h.c6, fun j => (World.frozen?_of_block hb).trans (h.fz j)⟩
end
/-- Within node, ahead of its attributes: the fault so far stands no further on than j. -/
structure NM (W0 W : World) (rb B : Nat) (s : ByteArray) (i j : Nat) (L : List Nd) (f : Flt) (dep : Int) : Prop where
  rbB : rb < B
  le : B ≤ W.heap.size
  fr : Fr B rb W0 W
  mem : ∃ nv AV KV er at_, RS W rb s i nv (-1) er at_ dep ∧ FL er at_ f j ∧ RD W B nv L AV KV
theorem nm_wrong {W0 W : World} {rb B i j : Nat} {s : ByteArray} {L : List Nd} {f : Flt} {dep : Int} (h : NM W0 W rb B s i j L f dep) (c p : Nat) (hp : j ≤ p) :
    Calls Tryz.prog 35 #[.pointer (some ⟨rb, 0, none⟩), .int .i64 (c : Int), .int .i64 (p : Int)] W fun r w' => r = .returned (.tuple #[]) ∧ NM W0 w' rb B s i p L (addF f c p) dep := by
  obtain ⟨nv, AV, KV, er, at_, h1, h2, h3⟩ := h.mem
  refine (wrong_any rb s i nv (-1) er at_ dep c p W h1).mono ?_
  rintro e w' ⟨rfl, r, g⟩
  exact ⟨rfl, h.rbB, Nat.le_trans h.le g.size, h.fr.trans (Fr.grown g h.le), nv, AV, KV, _, _, r, h2.add c p hp, h3.up (Up.grown g h.rbB)⟩
theorem NM.slice {W0 W : World} {rb B i j : Nat} {s : ByteArray} {L : List Nd} {f : Flt} {dep : Int} (h : NM W0 W rb B s i j L f dep) : ∃ p c AV KV er at_, RS W rb s i (.slice p L.length c) (-1) er at_ dep ∧ FL er at_ f j ∧ RD W B (.slice p L.length c) L AV KV := by
  obtain ⟨nv, AV, KV, er, at_, h1, h2, h3⟩ := h.mem
  obtain ⟨p, c, rfl⟩ : ∃ p c, nv = .slice p L.length c := own_slice h3.nr.row.choose_spec
  exact ⟨p, c, AV, KV, er, at_, h1, h2, h3⟩
theorem infoRN : (Tryz.prog.info? 53).map (fun i => (i.zero, i.size, i.bytes)) = some (some (.agg #[.int .i64 0, .slice none 0 0, .string ⟨#[]⟩, .slice none 0 0, .int .i64 0]), 5, 80) := by kernel_rfl
theorem one_nd (d : Nd) (ab : Nat) : ∀ u ∈ ndCells d (avV ab) (.slice none 0 0), u.oneCell' = true := by
  intro u hu
  unfold ndCells avV at hu
  simp at hu
  rcases hu with rfl | rfl | rfl | rfl | rfl <;> rfl

theorem attrsF_ge {s : ByteArray} {kind : Nat} {L : List Nd} : ∀ (f i : Nat) (er : Flt) (a : List Int) (seen : List Nat) (i2 : Nat) (er2 : Flt) (a2 : List Int), attrsF s kind L f i er a seen = .ok (i2, er2, a2) → i ≤ i2
  | 0, i, er, a, seen, i2, er2, a2, e => by cases e
  | f + 1, i, er, a, seen, i2, er2, a2, e => by
    have pl := step1_places s i (-1)
    have h1 := attr1_step s kind L i er a seen (-1) (by omega)
    obtain ⟨q, hq⟩ : ∃ q, fa kind L er a seen (step1 s i (-1)) = q := ⟨_, rfl⟩
    rw [hq] at h1
    obtain ⟨f3, a3, s3⟩ := q
    rcases h1 with ⟨_, h1⟩ | ⟨_, h1⟩
    · by_cases hm : isAt s (step1 s i (-1)).i 59 = true
      · rw [attrsF_more h1 hm] at e
        have := attrsF_ge f _ _ _ _ _ _ _ e
        have := gotI_ge s (step1 s i (-1)).i 59
        omega
      · rw [attrsF_last h1 hm] at e
        unfold closeR mustR at e
        split at e
        · cases e
        · rename_i h5
          split at h5
          · injection h5 with h5
            injection e with e
            injection e with e _
            have := gotI_ge s (step1 s i (-1)).i 125
            omega
          · cases h5
    · rw [attrsF_err h1] at e; cases e
theorem attrsR_ge {s : ByteArray} {kind : Nat} {L : List Nd} {i : Nat} {er : Flt} {i2 : Nat} {er2 : Flt} {a2 : List Int} (e : attrsR s kind L i er = .ok (i2, er2, a2)) : i ≤ i2 := by
  unfold attrsR at e
  split at e
  · have := attrsF_ge _ _ _ _ _ _ _ _ e
    have := gotI_ge s i 123
    omega
  · injection e with e
    injection e with e _
    have := sk_ge s i
    omega
theorem grown_kl (L : List Nd) (d : Nd) (hd : d.kids = []) (h : ∀ j, (nth L j).kids.length ≤ L.length) (hup : d.up = -1 ∨ (0 ≤ d.up ∧ d.up < L.length)) (j : Nat) : (nth (grown L d) j).kids.length ≤ (grown L d).length := by
  rw [grown_len]
  have hj : ∀ j, (nth (L ++ [d]) j).kids.length ≤ L.length := fun j => by
    by_cases h1 : j < L.length
    · rw [nth_app_old h1]; exact h j
    · by_cases h2 : j = L.length
      · rw [h2, nth_app_new, hd]; exact Nat.zero_le _
      · unfold nth; rw [List.getElem?_eq_none (by simp; omega)]; exact Nat.zero_le _
  rcases hup with hu | ⟨h0, h1⟩
  · have e : grown L d = L ++ [d] := by unfold grown; rw [if_pos (by rw [hu]; decide)]
    rw [e]
    exact Nat.le_succ_of_le (hj j)
  · rw [grown_eq L d d.up.toNat (by omega) (by omega)]
    by_cases e : j = d.up.toNat
    · rw [e, nth_mod_same _ (by simp; omega), List.length_append]
      have := hj d.up.toNat
      simp
      omega
    · rw [nth_mod_other _ e]
      exact Nat.le_succ_of_le (hj j)
theorem rd_kid {w0 wc w3 : World} {rb B g n1 c' j c : Nat} {s : ByteArray} {i : Nat} {v' : Value} {bad er at_ dep : Int} {L1 : List Nd} {AV1 : Nat → Nat} {KV1 : Nat → Value} {pk : Option Addr} {ck : Nat} {ks : List Nat}
    (hp : RS w3 rb s i (.slice (some ⟨g, 0, none⟩) n1 c') bad er at_ dep) (hn : RD wc B (.slice (some ⟨g, 0, none⟩) n1 c') L1 AV1 KV1) (hl : L1.length = n1) (hf : Fr B rb w0 wc) (hB : B ≤ wc.heap.size) (hrb : rb < B) (hBg : B ≤ g) (hj : j < n1)
    (hk : KV1 j = .slice pk ks.length ck) (hks : (nth L1 j).kids = ks) (o : Obj) (ho : w3.ownsRow B 3 1 v' (ks.length + 1) (kInts ks ++ [.int .i64 (c : Int)])) (hg : ((wc.alloc o).drew).grownBy w3 (Value.slice pk ks.length ck).ownBlock)
    (hat : v'.ownBlock = (Value.slice pk ks.length ck).ownBlock ∨ v'.ownBlock = some ((wc.alloc o).drew).heap.size) :
    ∃ KV2, RS (w3.setCell ⟨g, j * 5 + 3, none⟩ v') rb s i (.slice (some ⟨g, 0, none⟩) n1 c') bad er at_ dep ∧ RD (w3.setCell ⟨g, j * 5 + 3, none⟩ v') B (.slice (some ⟨g, 0, none⟩) n1 c') (L1.modify j fun u => { u with kids := u.kids ++ [c] }) AV1 KV2 ∧ Fr B rb w0 (w3.setCell ⟨g, j * 5 + 3, none⟩ v') ∧ B ≤ (w3.setCell ⟨g, j * 5 + 3, none⟩ v').heap.size := by
  subst hl
  have hkr := hn.nr.kids j hj
  rw [hk] at hkr
  have hB1 : Below wc.heap.size wc (wc.alloc o).drew := below_drewN' ((Below.refl wc.heap.size wc).alloc (Nat.le_refl _) o) 1
  have HN4 := hn.up (Up.below (B := B) hB1)
  have HN5 := HN4.kid (k := j) (c := c) (W' := w3) (kv' := v') hj (by rw [hks]; simpa [kInts] using ho) (by rw [hk]; exact hg) (by rw [hk]; exact hat)
  have HF3 : Fr B rb wc w3 := (Fr.below hB1 hB).trans (Fr.own hg (Nat.le_trans hB hB1.size) (fun g e => (hkr.lt g e).1))
  have HF4 : Fr B rb w3 (w3.setCell ⟨g, j * 5 + 3, none⟩ v') := Fr.own (gr_set w3 g _ _) (Nat.le_trans hB HF3.size) (fun q e => by injection e with e; omega)
  exact ⟨_, RS.far hp (gr_set w3 g _ _) (fun q e => by injection e with e; omega) hrb, HN5, hf.trans (HF3.trans HF4), by have := HF3.size; have := HF4.size; omega⟩
theorem NOut.err {W0 W' : World} {rb B : Nat} {s : ByteArray} {dep : Int} {st : PS} {r : Except Nat PS} {b : Nat} (hr : r = .error b) (h : ∃ i L g, RW W0 W' rb B s i L g (b : Int) dep) : NOut W0 W' rb B s dep st r := by rw [hr]; exact h
theorem NOut.mono {W0 W' : World} {rb B : Nat} {s : ByteArray} {dep : Int} {st st1 : PS} {r : Except Nat PS} (h : NOut W0 W' rb B s dep st1 r) (hi : st.i ≤ st1.i) (hl : st.L.length ≤ st1.L.length) : NOut W0 W' rb B s dep st r := by
  cases r with
  | error b => exact h
  | ok st' => exact ⟨h.1, Nat.lt_of_le_of_lt hi h.2.1, Nat.le_trans hl h.2.2⟩
/-- What the attributes leave of the fault. -/
def fltOf (r : Except Nat (Nat × Flt × List Int)) : Flt := match r with
  | .error _ => none
  | .ok (_, f, _) => f
theorem RW.setD {W0 W : World} {rb B i : Nat} {s : ByteArray} {L : List Nd} {f : Flt} {bad dep : Int} (h : RW W0 W rb B s i L f bad dep) (d : Int) : RW W0 (W.setCell ⟨rb, 6, none⟩ (.int .i64 d)) rb B s i L f bad d := by
  obtain ⟨nv, AV, KV, er, at_, h1, h2, h3⟩ := h.mem
  exact ⟨h.il, h.ll, h.kl, h.rbB, by simpa [World.setCell] using h.le, h.fr.trans (Fr.set _ _), nv, AV, KV, er, at_, h1.setD d, h2, h3.up (Up.set _ h.rbB _)⟩

set_option maxRecDepth 100000 in
set_option maxHeartbeats 8000000 in
theorem node_step (rb B : Nat) (s : ByteArray) (f : Nat) (hN : NodeR rb B s f) (hs : s.size ≤ 1073741824) : NodeR rb B s (f + 1) := by
  intro up depth st w0 w h hup hd hf
  have SK : Hid (Calls Tryz.prog 20 #[.pointer (some ⟨rb, 0, none⟩)] w fun e w' => e = .returned (.tuple #[]) ∧ RW w0 w' rb B s (sk s st.i) st.L st.er (-1) (depth : Int)) := rw_skip h hs
  have HN : Hid (NodeR rb B s f) := hN
  have hil := h.il
  have hll := h.ll (by omega)
  have HKL : Hid (∀ j, (nth st.L j).kids.length ≤ st.L.length) := h.kl
  obtain ⟨a0, ha0⟩ : ∃ z, sk s st.i = z := ⟨_, rfl⟩
  have h0a : st.i ≤ a0 := by rw [← ha0]; exact sk_ge _ _
  have hal : a0 ≤ s.size := by rw [← ha0]; exact sk_le s _ hil
  have hska : sk s a0 = a0 := by rw [← ha0, sk_sk]
  obtain ⟨R, hR⟩ : ∃ z, nodeF s (f + 1) up depth st = z := ⟨_, rfl⟩
  have HR : Hid (R = if run letter s a0 = a0 ∨ findF kindsL (s.extract a0 (run letter s a0)) 0 < 0 then .error a0 else match attrsR s (findF kindsL (s.extract a0 (run letter s a0)) 0).toNat st.L (run letter s a0) (addIf (decide (12 ≤ depth)) (addIf (decide (100 ≤ st.L.length)) st.er 3 a0) 4 a0) with
    | .error b => .error b
    | .ok (i2, er2, a) => bodyR s (findF kindsL (s.extract a0 (run letter s a0)) 0).toNat st.L.length (nodeF s f st.L.length (depth + 1)) { i := i2, L := grown st.L ⟨(findF kindsL (s.extract a0 (run letter s a0)) 0).toNat, a, [], [], up⟩, er := er2 }) := by
    show _ = _
    rw [← hR, nodeF]
    simp only [ha0]
    rfl
  have hwi := wI_le (s := s) (i := a0) (-1) hal
  rw [ha0] at SK
  rw [hR]
  clear h hN ha0 hR
  go_enter Tryz.func19, Tryz.ntmps19
  go_wp2_with fail
  refine Calls.mono SK.out ?_
  rintro e w1 ⟨rfl, h1⟩
  obtain ⟨nv, AV, KV, er, at_, r1, f1, d1⟩ := h1.mem
  have c1 := r1.c1
  have H1 : Hid (rb < B ∧ B ≤ w1.heap.size ∧ Fr B rb w0 w1 ∧ FL er at_ st.er a0 ∧ RD w1 B nv st.L AV KV) := ⟨h1.rbB, h1.le, h1.fr, f1 (by omega), d1⟩
  have WO : Hid (Calls Tryz.prog 32 #[.pointer (some ⟨rb, 0, none⟩)] w1 fun e w' => e = .returned (.string (s.extract a0 (run letter s a0))) ∧ RS w' rb s (run letter s a0) nv (if run letter s a0 = a0 then (a0 : Int) else -1) er at_ (depth : Int) ∧ w1.grownBy w' (some rb)) := by
    have := word_all rb s a0 nv (-1) er at_ (depth : Int) w1 r1 (by omega) hal
    have e1 : wS s a0 (-1) = s.extract a0 (run letter s a0) := by unfold wS; rw [if_pos (by omega), hska]
    have e2 : wI s a0 (-1) = run letter s a0 := by unfold wI; rw [if_pos (by omega), hska]
    have e3 : wB s a0 (-1) = if run letter s a0 = a0 then (a0 : Int) else -1 := by unfold wB; rw [if_pos (by omega)]; unfold wordB; rw [hska]
    rw [e1, e2, e3] at this
    exact this
  have hkl : run letter s a0 ≤ s.size := run_le _ _ _ hal
  have hkg := run_ge letter s a0
  clear r1 f1 d1 h1 SK hwi hska
  obtain ⟨k, hk⟩ : ∃ z, run letter s a0 = z := ⟨_, rfl⟩
  have HKK : Hid (run letter s a0 = k) := hk
  rw [hk] at HR WO hkl hkg
  clear hk
  go_wp2_with fail
  clear c1
  refine Calls.mono WO.out ?_
  rintro e w2 ⟨rfl, r2, g2⟩
  have H2 : Hid (RS w2 rb s k nv (if k = a0 then (a0 : Int) else -1) er at_ (depth : Int) ∧ rb < B ∧ B ≤ w2.heap.size ∧ Fr B rb w0 w2 ∧ FL er at_ st.er a0 ∧ RD w2 B nv st.L AV KV) := ⟨r2, H1.out.1, Nat.le_trans H1.out.2.1 g2.size, H1.out.2.2.1.trans (Fr.grown g2 H1.out.2.1), H1.out.2.2.2.1, H1.out.2.2.2.2.up (Up.grown g2 H1.out.1)⟩
  clear r2 g2 WO H1
  go_wp2_with fail
  refine Calls.mono (kinds_any w2) ?_
  rintro e w3 ⟨rfl, hn3, hl3, b3⟩
  have H3 : Hid (RS w3 rb s k nv (if k = a0 then (a0 : Int) else -1) er at_ (depth : Int) ∧ rb < B ∧ B ≤ w3.heap.size ∧ Fr B rb w0 w3 ∧ FL er at_ st.er a0 ∧ RD w3 B nv st.L AV KV) := ⟨H2.out.1.below b3, H2.out.2.1, Nat.le_trans H2.out.2.2.1 b3.size, H2.out.2.2.2.1.trans (Fr.below b3 H2.out.2.2.1), H2.out.2.2.2.2.1, H2.out.2.2.2.2.2.up (Up.below b3)⟩
  have FI : Hid (Calls Tryz.prog 33 #[.slice (some ⟨w2.heap.size, 0, none⟩) 7 7, .string (s.extract a0 k)] w3 fun e w' => e = .returned (.int .i64 (findF kindsL (s.extract a0 k) 0)) ∧ w' = w3) := find_any kindsL (s.extract a0 k) w2.heap.size 0 7 7 w3 hl3 hn3 rfl (by omega)
  have hfb := findF_bd (s.extract a0 k) kindsL 0
  have hfl : kindsL.length = 7 := rfl
  have HEM : Hid (k = a0 → findF kindsL (s.extract a0 k) 0 = -1) := fun e => by rw [e, ext_self]; exact find_empty
  obtain ⟨kd, hkd⟩ : ∃ z, findF kindsL (s.extract a0 k) 0 = z := ⟨_, rfl⟩
  rw [hkd] at HR FI hfb HEM
  generalize s.extract a0 k = tx at FI ⊢
  clear hkd hn3 hl3 b3 H2
  go_wp2_with fail
  refine Calls.mono FI.out ?_
  rintro e w4 ⟨rfl, hw4⟩
  obtain rfl := hw4.symm
  clear FI
  by_cases hneg : kd < 0
  · have hkd1 : kd = -1 := by omega
    subst hkd1
    have HRE : Hid (R = .error a0) := by show _ = _; rw [HR.out, if_pos (.inr (by omega))]
    have FA : Hid (Calls Tryz.prog 21 #[.pointer (some ⟨rb, 0, none⟩), .int .i64 (a0 : Int)] w3 fun e w' => e = .returned (.tuple #[]) ∧ RS w' rb s k nv (a0 : Int) er at_ (depth : Int) ∧ w3.grownBy w' (some rb)) := by
      have := fail_any rb s k nv (if k = a0 then (a0 : Int) else -1) er at_ (depth : Int) (a0 : Int) w3 H3.out.1
      have e : badI (if k = a0 then (a0 : Int) else -1) (a0 : Int) = a0 := by
        unfold badI
        by_cases e : k = a0
        · rw [if_pos e]; split <;> rfl
        · rw [if_neg e, if_pos (by omega)]
      rw [e] at this
      exact this
    clear HR hneg
    go_wp2_with fail
    refine Calls.mono FA.out ?_
    rintro e w5 ⟨rfl, r5, g5⟩
    have H5 : Hid (RW w0 w5 rb B s k st.L st.er (a0 : Int) (depth : Int)) := ⟨hkl, fun e => by omega, HKL.out, H3.out.2.1, Nat.le_trans H3.out.2.2.1 g5.size, H3.out.2.2.2.1.trans (Fr.grown g5 H3.out.2.2.1), nv, AV, KV, er, at_, r5, fun e => by omega, H3.out.2.2.2.2.2.up (Up.grown g5 H3.out.2.1)⟩
    have c3 := r5.c3
    have hge : decide ((0 : Int) ≤ (a0 : Int)) = true := decide_eq_true (by omega)
    clear r5 g5 FA
    go_wp2
    refine bodyPost_ret (results_none rfl _ _ _) rfl ?_
    refine ⟨rfl, ?_⟩
    show NOut _ _ _ _ _ _ _ _
    rw [HRE.out]
    exact ⟨_, _, _, H5.out⟩
  · obtain ⟨kn, rfl⟩ : ∃ z : Nat, kd = z := ⟨kd.toNat, by omega⟩
    have hk7 : kn < 7 := by omega
    have hka : k ≠ a0 := fun e => by have := HEM.out e; omega
    have HRE : Hid (R = match attrsR s kn st.L k (addIf (decide (12 ≤ depth)) (addIf (decide (100 ≤ st.L.length)) st.er 3 a0) 4 a0) with
      | .error b => .error b
      | .ok (i2, er2, a) => bodyR s kn st.L.length (nodeF s f st.L.length (depth + 1)) { i := i2, L := grown st.L ⟨kn, a, [], [], up⟩, er := er2 }) := by
      show _ = _
      rw [HR.out, if_neg (by rintro (e | e); exact hka e; omega)]
      rfl
    have hd0 : decide ((kn : Int) < 0) = false := decide_eq_false (by omega)
    have M3 : Hid (NM w0 w3 rb B s k a0 st.L st.er (depth : Int)) := by
      have hh := H3.out
      rw [if_neg hka] at hh
      exact ⟨hh.2.1, hh.2.2.1, hh.2.2.2.1, nv, AV, KV, er, at_, hh.1, hh.2.2.2.2.1, hh.2.2.2.2.2⟩
    clear HR hneg H3 HEM hfb hfl
    obtain ⟨pn, cn, AV3, KV3, er3, at3, r3, f3, d3⟩ := M3.out.slice
    have c2 := r3.c2
    have c3 := r3.c3
    clear r3 f3 d3
    go_upto_if 36 with fail
    clear c2 c3
    go_cut [36, 39] from 37 to 38 (fun _ _ wx => Hid (NM w0 wx rb B s k a0 st.L (addIf (decide (100 ≤ st.L.length)) st.er 3 a0) (depth : Int)))
    case first =>
      by_cases hc : 100 ≤ st.L.length
      · have hde : decide ((100 : Int) ≤ (st.L.length : Int)) = true := decide_eq_true (by omega)
        have hdn : decide (100 ≤ st.L.length) = true := decide_eq_true hc
        have WR : Hid (Calls Tryz.prog 35 #[.pointer (some ⟨rb, 0, none⟩), .int .i64 3, .int .i64 (a0 : Int)] w3 fun r w' => r = .returned (.tuple #[]) ∧ NM w0 w' rb B s k a0 st.L (addIf (decide (100 ≤ st.L.length)) st.er 3 a0) (depth : Int)) := by rw [hdn]; exact nm_wrong M3.out 3 a0 (Nat.le_refl _)
        clear hdn
        go_wp2_with fail
        refine Calls.mono WR.out ?_
        rintro e wn ⟨rfl, hn⟩
        have MN : Hid (NM w0 wn rb B s k a0 st.L (addIf (decide (100 ≤ st.L.length)) st.er 3 a0) (depth : Int)) := hn
        clear hn WR
        go_wp2_with fail
        go_meet
        exact MN.out
      · have hde : decide ((100 : Int) ≤ (st.L.length : Int)) = false := decide_eq_false (by omega)
        have hdn : decide (100 ≤ st.L.length) = false := decide_eq_false hc
        have MN : Hid (NM w0 w3 rb B s k a0 st.L (addIf (decide (100 ≤ st.L.length)) st.er 3 a0) (depth : Int)) := by rw [hdn]; exact M3.out
        clear hdn
        go_wp2_with fail
        go_meet
        exact MN.out
    case rest =>
     obtain ⟨f1, hf1⟩ : ∃ z, addIf (decide (100 ≤ st.L.length)) st.er 3 a0 = z := ⟨_, rfl⟩
     rw [hf1] at hcut HRE
     have M5 : Hid (NM w0 wc rb B s k a0 st.L f1 (depth : Int)) := hcut
     clear hf1 hcut M3
     obtain ⟨pn5, cn5, AV5, KV5, er5, at5, r5, f5, d5⟩ := M5.out.slice
     have c6 := r5.c6
     clear r5 f5 d5
     go_upto_if 44 with fail
     clear c6
     go_cut [44, 47] from 45 to 46 (fun _ _ wx => Hid (NM w0 wx rb B s k a0 st.L (addIf (decide (12 ≤ depth)) f1 4 a0) (depth : Int)))
     case first =>
       by_cases hc : 12 ≤ depth
       · have hde : decide ((12 : Int) ≤ (depth : Int)) = true := decide_eq_true (by omega)
         have hdn : decide (12 ≤ depth) = true := decide_eq_true hc
         have WR : Hid (Calls Tryz.prog 35 #[.pointer (some ⟨rb, 0, none⟩), .int .i64 4, .int .i64 (a0 : Int)] wc fun r w' => r = .returned (.tuple #[]) ∧ NM w0 w' rb B s k a0 st.L (addIf (decide (12 ≤ depth)) f1 4 a0) (depth : Int)) := by rw [hdn]; exact nm_wrong M5.out 4 a0 (Nat.le_refl _)
         clear hdn
         go_wp2_with fail
         refine Calls.mono WR.out ?_
         rintro e wn ⟨rfl, hn⟩
         have MN : Hid (NM w0 wn rb B s k a0 st.L (addIf (decide (12 ≤ depth)) f1 4 a0) (depth : Int)) := hn
         clear hn WR
         go_wp2_with fail
         go_meet
         exact MN.out
       · have hde : decide ((12 : Int) ≤ (depth : Int)) = false := decide_eq_false (by omega)
         have hdn : decide (12 ≤ depth) = false := decide_eq_false hc
         have MN : Hid (NM w0 wc rb B s k a0 st.L (addIf (decide (12 ≤ depth)) f1 4 a0) (depth : Int)) := by rw [hdn]; exact M5.out
         clear hdn
         go_wp2_with fail
         go_meet
         exact MN.out
     case rest =>
      obtain ⟨f2, hf2⟩ : ∃ z, addIf (decide (12 ≤ depth)) f1 4 a0 = z := ⟨_, rfl⟩
      rw [hf2] at hcut HRE
      have M6 : Hid (NM w0 wc rb B s k a0 st.L f2 (depth : Int)) := hcut
      clear hf2 hcut M5
      obtain ⟨p6, q6, AV6, KV6, er6, at6, r6, fl6, d6⟩ := M6.out.slice
      have c2 := r6.c2
      have AT : Hid (Calls Tryz.prog 36 #[.pointer (some ⟨rb, 0, none⟩), .int .i64 (kn : Int)] wc fun e w' => AtOut wc w' e rb s (.slice p6 st.L.length q6) (-1) (depth : Int) (attrsR s kn st.L k f2)) := attrs_any rb s k (.slice p6 st.L.length q6) (-1) er6 at6 (depth : Int) kn st.L f2 wc r6 (fl6.on hkg) (d6.ids M6.out.rbB) hs hkl (by omega) hk7 (by omega)
      have D6 : Hid (RD wc B (.slice p6 st.L.length q6) st.L AV6 KV6) := d6
      clear r6 fl6 d6
      go_wp2_with fail
      clear c2
      refine Calls.mono AT.out ?_
      rintro e w7 ⟨ab, a, i7, bad7, er7, at7, rfl, hab, hla, hra, g7, r7, hi7, hm7⟩
      have D7 : Hid (RD w7 B (.slice p6 st.L.length q6) st.L AV6 KV6) := D6.out.up (Up.grown g7 M6.out.rbB)
      have R7 : Hid (RS w7 rb s i7 (.slice p6 st.L.length q6) bad7 er7 at7 (depth : Int)) := r7
      have A7 : Hid (Row12 w7 ab (fun j => .int .i64 (a[j]?.getD 0))) := hra
      have HBB : Hid (rb < B ∧ B ≤ w7.heap.size ∧ Fr B rb w0 w7 ∧ B ≤ ab) := ⟨M6.out.rbB, Nat.le_trans M6.out.le g7.size, M6.out.fr.trans (Fr.grown g7 M6.out.le), Nat.le_trans M6.out.le hab⟩
      have HSK : Hid ((∀ j, j < st.L.length → (KV6 j).ownBlock ≠ some ab) ∧ (Value.slice p6 st.L.length q6).ownBlock ≠ some ab) := by
        obtain ⟨xs, hx⟩ := D6.out.nr.row
        exact ⟨fun j hj e => by have := ((D6.out.nr.kids j hj).lt ab e).2; omega, fun e => by have := (hx.lt ab e).2; omega⟩
      have HM7 : Hid (match attrsR s kn st.L k f2 with
        | .error b => bad7 = (b : Int)
        | .ok (i2, f3, a2) => bad7 = -1 ∧ i7 = i2 ∧ a = a2 ∧ FL er7 at7 f3 i2) := hm7
      clear hab hra g7 r7 hm7 AT M6 D6
      obtain ⟨i0, hi0, hz0, hz1, hz2⟩ := info_parts infoRN
      obtain ⟨xs, hxs⟩ := D7.out.nr.row
      have HX : Hid (w7.ownsRow B 53 5 (.slice p6 st.L.length q6) st.L.length xs) := hxs
      clear hxs
      have c2 := R7.out.c2
      go_upto_region 13 with fail
      go_cut [8] from 56 to 68 (fun v wx => v = .slice (some ⟨ab, 0, none⟩) 12 12 ∧ ∃ p1 q1, Hid (RS wx rb s i7 (.slice p1 (st.L.length + 1) q1) bad7 er7 at7 (depth : Int) ∧ RD wx B (.slice p1 (st.L.length + 1) q1) (st.L ++ [⟨kn, a, [], [], up⟩]) (fun j => if j = st.L.length then ab else AV6 j) (fun j => if j = st.L.length then .slice none 0 0 else KV6 j) ∧ Fr B rb w0 wx ∧ B ≤ wx.heap.size))
      case first =>
        go_wp2_with (at_builtin; refine wpList_append_own_at _ rfl _ _ 26 rfl B 53 i0 _ 5 80 Tryz.underlying26 hi0 hz0 hz1 hz2 rfl (by decide) _ _ _ rfl (HX.out.alloc _) _ 1 1 (ndCells ⟨kn, a, [], [], up⟩ (avV ab) (.slice none 0 0)) rfl rfl (cells_new _ _ _ _ rfl) (one_nd _ _) (by unfold maxLen; omega) (by omega) (by rw [World.size_alloc]; have := HBB.out.2.1; omega) ?_)
        intro v1 w8 o8 g8 _ hat8
        obtain ⟨p1, q1, hv1⟩ := own_slice o8
        subst hv1
        have bA := (Below.refl w7.heap.size w7).alloc (Nat.le_refl _) (.cells #[.int .i64 (kn : Int), .slice (some ⟨ab, 0, none⟩) 12 12, .string ⟨#[]⟩, .slice none 0 0, .int .i64 up] 53)
        have hat9 : (Value.slice p1 (st.L.length + 1) q1).ownBlock = (Value.slice p6 st.L.length q6).ownBlock ∨ (Value.slice p1 (st.L.length + 1) q1).ownBlock = some (w7.alloc (.cells #[.int .i64 (kn : Int), .slice (some ⟨ab, 0, none⟩) 12 12, .string ⟨#[]⟩, .slice none 0 0, .int .i64 up] 53)).heap.size := by rw [World.size_alloc]; exact hat8
        have R8 : Hid (RS w8 rb s i7 (.slice p6 st.L.length q6) bad7 er7 at7 (depth : Int)) := RS.far (R7.out.below bA) g8 (fun g e => (HX.out.lt g e).1) HBB.out.1
        have D8 : Hid (RD w8 B (.slice p1 (st.L.length + 1) q1) (st.L ++ [⟨kn, a, [], [], up⟩]) (fun j => if j = st.L.length then ab else AV6 j) (fun j => if j = st.L.length then .slice none 0 0 else KV6 j)) := RD.app (D7.out.up (Up.below bA)) (HX.out.alloc _) o8 g8 hat9 hla rfl HBB.out.2.2.2 (A7.out.below bA) HSK.out.1 HSK.out.2
        have F8 : Hid (Fr B rb w0 w8 ∧ B ≤ w8.heap.size) := by
          have hz := bA.size
          have hz2 := HBB.out.2.1
          exact ⟨HBB.out.2.2.1.trans ((Fr.below bA hz2).trans (Fr.own g8 (by omega) (fun g e => (HX.out.lt g e).1))), by have := g8.size; omega⟩
        have k2 := R8.out.c2
        have kf := R8.out.fz 2
        obtain ⟨w9, hw9⟩ : ∃ x, w8.setCell ⟨rb, 2, none⟩ (.slice p1 (st.L.length + 1) q1) = x := ⟨_, rfl⟩
        have HQ : Hid (RS w9 rb s i7 (.slice p1 (st.L.length + 1) q1) bad7 er7 at7 (depth : Int) ∧ RD w9 B (.slice p1 (st.L.length + 1) q1) (st.L ++ [⟨kn, a, [], [], up⟩]) (fun j => if j = st.L.length then ab else AV6 j) (fun j => if j = st.L.length then .slice none 0 0 else KV6 j) ∧ Fr B rb w0 w9 ∧ B ≤ w9.heap.size) := by
          rw [← hw9]
          exact ⟨R8.out.setL _, D8.out.up (Up.set _ HBB.out.1 _), F8.out.1.trans (Fr.set _ _), by simpa [World.setCell] using F8.out.2⟩
        clear o8 g8 hat8 hat9 bA
        go_wp2_with fail
        go_meet
        exact ⟨rfl, p1, q1, HQ.out⟩
      case rest =>
        obtain ⟨rfl, p1, q1, HM⟩ := hcut
        clear HX c2 hi0 hz0 hz1 hz2 D7 R7 A7 HSK
        have HMK : Hid (∀ wx nv AV KV, RS wx rb s i7 nv bad7 er7 at7 (depth : Int) → RD wx B nv (grown st.L ⟨kn, a, [], [], up⟩) AV KV → Fr B rb w0 wx → B ≤ wx.heap.size → RW w0 wx rb B s i7 (grown st.L ⟨kn, a, [], [], up⟩) (fltOf (attrsR s kn st.L k f2)) bad7 (depth : Int)) := fun wx nv AV KV h1 h2 h3 h4 => by
          refine ⟨hi7, fun hb => ?_, grown_kl _ _ rfl HKL.out hup, HBB.out.1, h4, h3, nv, AV, KV, er7, at7, h1, fun hb => ?_, h2⟩
          · have hm := HM7.out
            rw [grown_len]
            cases hat : attrsR s kn st.L k f2 with
            | error b => rw [hat] at hm; have hm' : bad7 = (b : Int) := hm; omega
            | ok q =>
              obtain ⟨i2, f3, a2⟩ := q
              rw [hat] at hm
              have := attrsR_ge hat
              have := hm.2.1
              omega
          · have hm := HM7.out
            cases hat : attrsR s kn st.L k f2 with
            | error b => rw [hat] at hm; have hm' : bad7 = (b : Int) := hm; omega
            | ok q =>
              obtain ⟨i2, f3, a2⟩ := q
              rw [hat] at hm
              have h5 := hm.2.2.2
              rw [← hm.2.1] at h5
              exact h5
        go_upto_if 70 with fail
        go_cut [70, 88] from 71 to 87 (fun _ _ wx => Hid (RW w0 wx rb B s i7 (grown st.L ⟨kn, a, [], [], up⟩) (fltOf (attrsR s kn st.L k f2)) bad7 (depth : Int)))
        case first =>
          rcases hup with rfl | ⟨hu0, hu1⟩
          · have HO : Hid (RW w0 wc rb B s i7 (grown st.L ⟨kn, a, [], [], -1⟩) (fltOf (attrsR s kn st.L k f2)) bad7 (depth : Int)) := by
              refine HMK.out wc (.slice p1 (st.L.length + 1) q1) (fun j => if j = st.L.length then ab else AV6 j) (fun j => if j = st.L.length then .slice none 0 0 else KV6 j) HM.out.1 ?_ HM.out.2.2.1 HM.out.2.2.2
              have e : grown st.L ⟨kn, a, [], [], -1⟩ = st.L ++ [⟨kn, a, [], [], -1⟩] := by unfold grown; rw [if_pos (by show (-1 : Int) < 0; decide)]
              rw [e]
              exact HM.out.2.1
            go_wp2_with fail
            go_meet
            exact HO.out
          · obtain ⟨j, rfl⟩ : ∃ j : Nat, up = (j : Int) := ⟨up.toNat, by omega⟩
            have hj : j < st.L.length := by omega
            obtain ⟨L1, hL1⟩ : ∃ x, st.L ++ [(⟨kn, a, [], [], (j : Int)⟩ : Nd)] = x := ⟨_, rfl⟩
            have HGE : Hid (grown st.L ⟨kn, a, [], [], (j : Int)⟩ = L1.modify j fun u => { u with kids := u.kids ++ [st.L.length] }) := by show _ = _; rw [← hL1]; exact grown_eq st.L _ j rfl hj
            have hl1 : L1.length = st.L.length + 1 := by rw [← hL1]; simp
            have hkj : (nth L1 j).kids.length ≤ 1073741824 := by rw [← hL1, nth_app_old hj]; have := HKL.out j; omega
            obtain ⟨KV1, hKV1⟩ : ∃ x, (fun (q : Nat) => if q = st.L.length then Value.slice none 0 0 else KV6 q) = x := ⟨_, rfl⟩
            obtain ⟨AV1, hAV1⟩ : ∃ x, (fun (q : Nat) => if q = st.L.length then ab else AV6 q) = x := ⟨_, rfl⟩
            obtain ⟨r8, d8, f8, b8⟩ := HM.out
            rw [hL1, hKV1, hAV1] at d8
            clear hKV1 hAV1 hL1
            obtain ⟨g, cap, hv, hBg, hgl, _, _⟩ := d8.nr.form (by omega)
            simp only [hl1, Value.slice.injEq, true_and] at hv
            obtain ⟨rfl, rfl⟩ := hv
            have hjl : j < L1.length := by omega
            have hkr := d8.nr.kids j hjl
            obtain ⟨pk, ck, hk'⟩ := own_slice hkr
            obtain ⟨ks, hks⟩ : ∃ x, (nth L1 j).kids = x := ⟨_, rfl⟩
            rw [hk', hks] at hkr
            rw [hks] at hk' hkj
            have HKR : Hid (wc.ownsRow B 3 1 (.slice pk ks.length ck) ks.length (kInts ks)) := hkr
            have e14 : wc.cell? ⟨g, j * 5 + 3, none⟩ = some (.slice pk ks.length ck) := by
              rw [← hk']; exact d8.nr.cells g rfl j hjl 3 (KV1 j) rfl
            have HGne : Hid (some g ≠ (Value.slice pk ks.length ck).ownBlock) := by
              obtain ⟨ys, hys⟩ := d8.nr.row
              rcases own_apart (v' := .slice (some ⟨g, 0, none⟩) (st.L.length + 1) q1) hkr hys (by decide) with e | e
              · show some g ≠ _; rw [e]; simp
              · exact fun e2 => e e2.symm
            have hrb := HBB.out.1
            have hgr : g ≠ rb := by omega
            have f14 : wc.frozen? ⟨g, j * 5 + 3, none⟩ = false := d8.nr.frz rfl (j * 5 + 3)
            have c2 := r8.c2
            have hj1 : (j : Int) < ((st.L.length + 1 : Nat) : Int) := by omega
            have hj2 : (j : Int) < (st.L.length : Int) + 1 := by omega
            have hrl3 := r8.lt
            have D8 : Hid (RD wc B (.slice (some ⟨g, 0, none⟩) (st.L.length + 1) q1) L1 AV1 KV1) := d8
            have R8 : Hid (RS wc rb s i7 (.slice (some ⟨g, 0, none⟩) (st.L.length + 1) q1) bad7 er7 at7 (depth : Int)) := r8
            have F8 : Hid (Fr B rb w0 wc) := f8
            have HHK : Hid (KV1 j = .slice pk ks.length ck) := hk'
            have HKS : Hid ((nth L1 j).kids = ks) := hks
            have HL1 : Hid (L1.length = st.L.length + 1) := hl1
            obtain ⟨i1, hi1, hy0, hy1, hy2⟩ := info_parts infoInt
            clear hkr d8 hk' hks r8 f8 hl1 HM
            go_wp2_with fail
            go_region_law (refine step_append_at rfl (.tmp 83) (.tmp 85) 32 rfl B 3 i1 (.int .i64 0) 1 8 Tryz.underlying32 hi1 hy0 hy1 hy2 rfl (by decide) (.slice pk ks.length ck) ks.length (kInts ks) (by simp [Act.eval]) (World.ownsRow.alloc (w := wc.drew) HKR.out _) _ 1 1 [.int .i64 (st.L.length : Int)] (by simp [Act.eval]) rfl (cells_new _ _ _ _ rfl) (by intro u hu; simp at hu; subst hu; rfl) (by unfold maxLen; omega) (by omega) (by simp; omega) ?_; intro v' w3 hown' hg hat; obtain ⟨p'', c'', hv'⟩ := own_slice hown'; subst hv'; have HP3 : Hid (RS w3 rb s i7 (.slice (some ⟨g, 0, none⟩) (st.L.length + 1) q1) bad7 er7 at7 (depth : Int)) := RS.far ((R8.out.drewN 1).below ((Below.refl _ _).alloc (Nat.le_refl _) _)) hg (fun g e => (HKR.out.lt g e).1) hrb; have k3 := HP3.out.c2; have hgb : w3.heap[g]? = wc.heap[g]? := (hg.block g (Nat.lt_of_lt_of_le hgl (by simp)) HGne.out).trans (heap_alloc_old _ _ hgl); have k14 : w3.cell? ⟨g, j * 5 + 3, none⟩ = some (.slice pk ks.length ck) := (World.cell?_of_block hgb).trans e14; have kf14 : w3.frozen? ⟨g, j * 5 + 3, none⟩ = false := (World.frozen?_of_block hgb).trans f14)
            all_goals
              have HO : Hid (RW w0 (w3.setCell ⟨g, j * 5 + 3, none⟩ (.slice p'' (ks.length + 1) c'')) rb B s i7 (grown st.L ⟨kn, a, [], [], (j : Int)⟩) (fltOf (attrsR s kn st.L k f2)) bad7 (depth : Int)) := by
                obtain ⟨KV2, z1, z2, z3, z4⟩ := rd_kid HP3.out D8.out HL1.out F8.out b8 hrb hBg (by omega) HHK.out HKS.out _ hown' hg hat
                refine HMK.out _ _ AV1 KV2 z1 ?_ z3 z4
                rw [HGE.out]
                exact z2
              clear HP3 hg hat hown' k3 hgb k14 kf14
              go_wp2_with fail
              go_meet
              exact HO.out
        case rest =>
          have H9 : Hid (RW w0 wc rb B s i7 (grown st.L ⟨kn, a, [], [], up⟩) (fltOf (attrsR s kn st.L k f2)) bad7 (depth : Int)) := hcut
          clear hcut HM HMK
          obtain ⟨nv9, AV9, KV9, er9, at9, r9, fl9, d9⟩ := H9.out.mem
          have c6 := r9.c6
          have z6 := r9.fz 6
          clear r9 fl9 d9
          obtain ⟨wd, hwd⟩ : ∃ q, wc.setCell ⟨rb, 6, none⟩ (.int .i64 ((depth : Int) + 1)) = q := ⟨_, rfl⟩
          have HD : Hid (RW w0 wd rb B s i7 (grown st.L ⟨kn, a, [], [], up⟩) (fltOf (attrsR s kn st.L k f2)) bad7 ((depth : Int) + 1)) := by rw [← hwd]; exact H9.out.setD _
          have hdb : (depth : Int) ≤ 1073741824 := by omega
          go_upto_block 0 with fail
          clear hwd c6 z6 H9
          go_cut [9] from 97 to 125 (fun _ wx => Hid (NOut w0 wx rb B s ((depth : Int) + 1) st R))
          case first =>
            have hcast : (((depth + 1 : Nat)) : Int) = (depth : Int) + 1 := by omega
            cases hat : attrsR s kn st.L k f2 with
            | error b =>
              have HRb : Hid (R = .error b) := by show _ = _; rw [HRE.out, hat]
              have hb7 : bad7 = (b : Int) := by have := HM7.out; rw [hat] at this; exact this
              have HB : Hid (RW w0 wd rb B s i7 (grown st.L ⟨kn, a, [], [], up⟩) none (b : Int) ((depth : Int) + 1)) := by have := HD.out; rw [hat, hb7] at this; exact this
              clear hat HRE HM7 HD
              rcases (by omega : kn = 0 ∨ kn = 1 ∨ kn = 2 ∨ kn = 3 ∨ kn = 4 ∨ kn = 5 ∨ kn = 6) with rfl | rfl | rfl | rfl | rfl | rfl | rfl
              · go_wp2_with fail
                refine Calls.mono (kids_bad rb B s i7 (grown st.L ⟨0, a, [], [], up⟩) none b ((depth : Int) + 1) (st.L.length : Int) w0 wd HB.out hs) ?_
                rintro e we ⟨rfl, i', he⟩
                have HE : Hid (RW w0 we rb B s i' (grown st.L ⟨0, a, [], [], up⟩) none (b : Int) ((depth : Int) + 1)) := he
                clear he
                go_wp2_with fail
                go_meet
                exact NOut.err HRb.out ⟨_, _, _, HE.out⟩
              · go_wp2_with fail
                refine Calls.mono (kids_bad rb B s i7 (grown st.L ⟨1, a, [], [], up⟩) none b ((depth : Int) + 1) (st.L.length : Int) w0 wd HB.out hs) ?_
                rintro e we ⟨rfl, i', he⟩
                have HE : Hid (RW w0 we rb B s i' (grown st.L ⟨1, a, [], [], up⟩) none (b : Int) ((depth : Int) + 1)) := he
                clear he
                go_wp2_with fail
                go_meet
                exact NOut.err HRb.out ⟨_, _, _, HE.out⟩
              · go_wp2_with fail
                refine Calls.mono (kids_bad rb B s i7 (grown st.L ⟨2, a, [], [], up⟩) none b ((depth : Int) + 1) (st.L.length : Int) w0 wd HB.out hs) ?_
                rintro e we ⟨rfl, i', he⟩
                have HE : Hid (RW w0 we rb B s i' (grown st.L ⟨2, a, [], [], up⟩) none (b : Int) ((depth : Int) + 1)) := he
                clear he
                go_wp2_with fail
                go_meet
                exact NOut.err HRb.out ⟨_, _, _, HE.out⟩
              · have M91 : Hid (Calls Tryz.prog 38 #[.pointer (some ⟨rb, 0, none⟩), .int .u8 91] wd fun e w' => e = .returned (.tuple #[]) ∧ RW w0 w' rb B s (mI s i7 91 b) (grown st.L ⟨3, a, [], [], up⟩) none (b : Int) ((depth : Int) + 1)) := by have := rw_must 91 (by omega) HB.out hs; rw [mB_bad] at this; exact this
                go_wp2_with fail
                refine Calls.mono M91.out ?_
                rintro e we ⟨rfl, he⟩
                have HE : Hid (RW w0 we rb B s (mI s i7 91 b) (grown st.L ⟨3, a, [], [], up⟩) none (b : Int) ((depth : Int) + 1)) := he
                clear he M91
                go_wp2_with fail
                refine Calls.mono (node_bad rb B s _ (grown st.L ⟨3, a, [], [], up⟩) none (b : Int) ((depth : Int) + 1) (st.L.length : Int) w0 we HE.out (by omega) hs) ?_
                rintro e wg ⟨rfl, hg⟩
                have M93 : Hid (Calls Tryz.prog 38 #[.pointer (some ⟨rb, 0, none⟩), .int .u8 93] wg fun e w' => e = .returned (.tuple #[]) ∧ RW w0 w' rb B s (mI s (sk s (mI s i7 91 b)) 93 b) (grown st.L ⟨3, a, [], [], up⟩) none (b : Int) ((depth : Int) + 1)) := by have := rw_must 93 (by omega) hg hs; rw [mB_bad] at this; exact this
                clear hg
                go_wp2_with fail
                refine Calls.mono M93.out ?_
                rintro e wh ⟨rfl, hh⟩
                have HH : Hid (RW w0 wh rb B s (mI s (sk s (mI s i7 91 b)) 93 b) (grown st.L ⟨3, a, [], [], up⟩) none (b : Int) ((depth : Int) + 1)) := hh
                clear hh M93
                go_wp2_with fail
                go_meet
                exact NOut.err HRb.out ⟨_, _, _, HH.out⟩
              · have M91 : Hid (Calls Tryz.prog 38 #[.pointer (some ⟨rb, 0, none⟩), .int .u8 91] wd fun e w' => e = .returned (.tuple #[]) ∧ RW w0 w' rb B s (mI s i7 91 b) (grown st.L ⟨4, a, [], [], up⟩) none (b : Int) ((depth : Int) + 1)) := by have := rw_must 91 (by omega) HB.out hs; rw [mB_bad] at this; exact this
                go_wp2_with fail
                refine Calls.mono M91.out ?_
                rintro e we ⟨rfl, he⟩
                have HE : Hid (RW w0 we rb B s (mI s i7 91 b) (grown st.L ⟨4, a, [], [], up⟩) none (b : Int) ((depth : Int) + 1)) := he
                clear he M91
                go_wp2_with fail
                refine Calls.mono (node_bad rb B s _ (grown st.L ⟨4, a, [], [], up⟩) none (b : Int) ((depth : Int) + 1) (st.L.length : Int) w0 we HE.out (by omega) hs) ?_
                rintro e wg ⟨rfl, hg⟩
                have M93 : Hid (Calls Tryz.prog 38 #[.pointer (some ⟨rb, 0, none⟩), .int .u8 93] wg fun e w' => e = .returned (.tuple #[]) ∧ RW w0 w' rb B s (mI s (sk s (mI s i7 91 b)) 93 b) (grown st.L ⟨4, a, [], [], up⟩) none (b : Int) ((depth : Int) + 1)) := by have := rw_must 93 (by omega) hg hs; rw [mB_bad] at this; exact this
                clear hg
                go_wp2_with fail
                refine Calls.mono M93.out ?_
                rintro e wh ⟨rfl, hh⟩
                have HH : Hid (RW w0 wh rb B s (mI s (sk s (mI s i7 91 b)) 93 b) (grown st.L ⟨4, a, [], [], up⟩) none (b : Int) ((depth : Int) + 1)) := hh
                clear hh M93
                go_wp2_with fail
                go_meet
                exact NOut.err HRb.out ⟨_, _, _, HH.out⟩
              · go_wp2_with fail
                refine Calls.mono (rw_quoted_bad rb B s i7 (grown st.L ⟨5, a, [], [], up⟩) none b ((depth : Int) + 1) w0 wd HB.out hs) ?_
                rintro e we ⟨rfl, i', he⟩
                have HE : Hid (RW w0 we rb B s i' (grown st.L ⟨5, a, [], [], up⟩) none (b : Int) ((depth : Int) + 1)) := he
                obtain ⟨gb, cap, c2, ⟨u2, d2⟩, z2, hcap, hgr, hst⟩ := he.text (k := st.L.length) (by rw [grown_len]; omega)
                rw [grown_len] at c2 hcap
                have HST : Hid (RW w0 (we.setCell ⟨gb, st.L.length * 5 + 2, none⟩ (.string ByteArray.empty)) rb B s i' (withText (grown st.L ⟨5, a, [], [], up⟩) st.L.length []) none (b : Int) ((depth : Int) + 1)) := hst []
                clear he hst
                have hlt : (st.L.length : Int) < ((st.L.length + 1 : Nat) : Int) := by omega
                have hlt2 : (st.L.length : Int) < (st.L.length : Int) + 1 := by omega
                go_wp2_with fail
                go_meet
                exact NOut.err HRb.out ⟨_, _, _, HST.out⟩
              · go_wp2_with fail
                go_meet
                exact NOut.err HRb.out ⟨_, _, _, HB.out⟩
            | ok q =>
              obtain ⟨i2, f3, a2⟩ := q
              have hm := HM7.out
              rw [hat] at hm
              obtain ⟨hb7, hi2, ha2, hfl⟩ := hm
              have hge := attrsR_ge hat
              have H1 : Hid (RW w0 wd rb B s i7 (grown st.L ⟨kn, a, [], [], up⟩) f3 (-1) ((depth : Int) + 1)) := by have := HD.out; rw [hat, hb7] at this; exact this
              have HRo0 : Hid (R = bodyR s kn st.L.length (nodeF s f (st.L.length : Int) (depth + 1)) ⟨i7, grown st.L ⟨kn, a, [], [], up⟩, f3⟩) := by show _ = _; rw [HRE.out, hat, hi2, ha2]
              have hd1 : depth + 1 ≤ i7 := by omega
              have hf1 : s.size < f + i7 := by omega
              have hi1 : st.i ≤ i7 := by omega
              have hi1' : st.i < i7 := by omega
              clear hat HRE HM7 HD hfl
              rcases (by omega : kn = 0 ∨ kn = 1 ∨ kn = 2 ∨ kn = 3 ∨ kn = 4 ∨ kn = 5 ∨ kn = 6) with rfl | rfl | rfl | rfl | rfl | rfl | rfl
              · have HRK : Hid (R = kidsR s (nodeF s f (st.L.length : Int) (depth + 1)) ⟨i7, (grown st.L ⟨0, a, [], [], up⟩), f3⟩) := HRo0.out
                have KC : Hid (Calls Tryz.prog 37 #[.pointer (some ⟨rb, 0, none⟩), .int .i64 (st.L.length : Int)] wd fun e w' => e = .returned (.tuple #[]) ∧ NOut w0 w' rb B s ((depth : Int) + 1) ⟨i7, (grown st.L ⟨0, a, [], [], up⟩), f3⟩ (kidsR s (nodeF s f (st.L.length : Int) (depth + 1)) ⟨i7, (grown st.L ⟨0, a, [], [], up⟩), f3⟩)) := by
                  have := kids_of rb B s f HN.out hs st.L.length (depth + 1) ⟨i7, (grown st.L ⟨0, a, [], [], up⟩), f3⟩ w0 wd (by rw [hcast]; exact H1.out) (by show st.L.length < _; rw [grown_len]; omega) hd1 hf1
                  rw [hcast] at this
                  exact this
                go_wp2_with fail
                refine Calls.mono KC.out ?_
                rintro e we ⟨rfl, he⟩
                have HE : Hid (NOut w0 we rb B s ((depth : Int) + 1) st R) := by
                  show NOut _ _ _ _ _ _ _ _
                  rw [HRK.out]
                  exact he.mono hi1 (by show st.L.length ≤ _; rw [grown_len]; omega)
                clear he KC
                go_wp2_with fail
                go_meet
                exact HE.out
              · have HRK : Hid (R = kidsR s (nodeF s f (st.L.length : Int) (depth + 1)) ⟨i7, (grown st.L ⟨1, a, [], [], up⟩), f3⟩) := HRo0.out
                have KC : Hid (Calls Tryz.prog 37 #[.pointer (some ⟨rb, 0, none⟩), .int .i64 (st.L.length : Int)] wd fun e w' => e = .returned (.tuple #[]) ∧ NOut w0 w' rb B s ((depth : Int) + 1) ⟨i7, (grown st.L ⟨1, a, [], [], up⟩), f3⟩ (kidsR s (nodeF s f (st.L.length : Int) (depth + 1)) ⟨i7, (grown st.L ⟨1, a, [], [], up⟩), f3⟩)) := by
                  have := kids_of rb B s f HN.out hs st.L.length (depth + 1) ⟨i7, (grown st.L ⟨1, a, [], [], up⟩), f3⟩ w0 wd (by rw [hcast]; exact H1.out) (by show st.L.length < _; rw [grown_len]; omega) hd1 hf1
                  rw [hcast] at this
                  exact this
                go_wp2_with fail
                refine Calls.mono KC.out ?_
                rintro e we ⟨rfl, he⟩
                have HE : Hid (NOut w0 we rb B s ((depth : Int) + 1) st R) := by
                  show NOut _ _ _ _ _ _ _ _
                  rw [HRK.out]
                  exact he.mono hi1 (by show st.L.length ≤ _; rw [grown_len]; omega)
                clear he KC
                go_wp2_with fail
                go_meet
                exact HE.out
              · have HRK : Hid (R = kidsR s (nodeF s f (st.L.length : Int) (depth + 1)) ⟨i7, (grown st.L ⟨2, a, [], [], up⟩), f3⟩) := HRo0.out
                have KC : Hid (Calls Tryz.prog 37 #[.pointer (some ⟨rb, 0, none⟩), .int .i64 (st.L.length : Int)] wd fun e w' => e = .returned (.tuple #[]) ∧ NOut w0 w' rb B s ((depth : Int) + 1) ⟨i7, (grown st.L ⟨2, a, [], [], up⟩), f3⟩ (kidsR s (nodeF s f (st.L.length : Int) (depth + 1)) ⟨i7, (grown st.L ⟨2, a, [], [], up⟩), f3⟩)) := by
                  have := kids_of rb B s f HN.out hs st.L.length (depth + 1) ⟨i7, (grown st.L ⟨2, a, [], [], up⟩), f3⟩ w0 wd (by rw [hcast]; exact H1.out) (by show st.L.length < _; rw [grown_len]; omega) hd1 hf1
                  rw [hcast] at this
                  exact this
                go_wp2_with fail
                refine Calls.mono KC.out ?_
                rintro e we ⟨rfl, he⟩
                have HE : Hid (NOut w0 we rb B s ((depth : Int) + 1) st R) := by
                  show NOut _ _ _ _ _ _ _ _
                  rw [HRK.out]
                  exact he.mono hi1 (by show st.L.length ≤ _; rw [grown_len]; omega)
                clear he KC
                go_wp2_with fail
                go_meet
                exact HE.out
              · have HRK : Hid (R = match mustR s i7 91 with
                  | .error b => .error b
                  | .ok i2 => match nodeF s f (st.L.length : Int) (depth + 1) ⟨i2, (grown st.L ⟨3, a, [], [], up⟩), f3⟩ with
                    | .error b => .error b
                    | .ok st3 => match mustR s st3.i 93 with
                      | .error b => .error b
                      | .ok i4 => .ok { st3 with i := i4 }) := HRo0.out
                have M91 : Hid (Calls Tryz.prog 38 #[.pointer (some ⟨rb, 0, none⟩), .int .u8 91] wd fun e w' => e = .returned (.tuple #[]) ∧ RW w0 w' rb B s (gotI s i7 91) (grown st.L ⟨3, a, [], [], up⟩) f3 (if isAt s i7 91 then -1 else (sk s i7 : Int)) ((depth : Int) + 1)) := by have := rw_must 91 (by omega) H1.out hs; rw [mB_ok, mI_ok] at this; exact this
                have hgi := gotI_ge s i7 91
                by_cases hq : isAt s i7 91 = true
                · have hgi2 : i7 < gotI s i7 91 := by rw [gI_at hq]; have := sk_ge s i7; omega
                  have HR2 : Hid (R = match nodeF s f (st.L.length : Int) (depth + 1) ⟨gotI s i7 91, (grown st.L ⟨3, a, [], [], up⟩), f3⟩ with
                    | .error b => .error b
                    | .ok st3 => match mustR s st3.i 93 with
                      | .error b => .error b
                      | .ok i4 => .ok { st3 with i := i4 }) := by show _ = _; rw [HRK.out]; unfold mustR; rw [if_pos hq]
                  simp only [hq, if_true] at M91
                  clear HRK hq
                  go_wp2_with fail
                  refine Calls.mono M91.out ?_
                  rintro e we ⟨rfl, he⟩
                  have NC : Hid (Calls Tryz.prog 19 #[.pointer (some ⟨rb, 0, none⟩), .int .i64 (st.L.length : Int)] we fun e w' => e = .returned (.tuple #[]) ∧ NOut w0 w' rb B s ((depth : Int) + 1) ⟨gotI s i7 91, (grown st.L ⟨3, a, [], [], up⟩), f3⟩ (nodeF s f (st.L.length : Int) (depth + 1) ⟨gotI s i7 91, (grown st.L ⟨3, a, [], [], up⟩), f3⟩)) := by
                    have := HN.out (st.L.length : Int) (depth + 1) ⟨gotI s i7 91, (grown st.L ⟨3, a, [], [], up⟩), f3⟩ w0 we (by rw [hcast]; exact he) (.inr ⟨by omega, by show (st.L.length : Int) < (_ : Nat); rw [grown_len]; omega⟩) (by show depth + 1 ≤ gotI s i7 91; omega) (by show s.size < f + gotI s i7 91; omega)
                    rw [hcast] at this
                    exact this
                  clear he M91
                  go_wp2_with fail
                  cases hp : nodeF s f (st.L.length : Int) (depth + 1) ⟨gotI s i7 91, (grown st.L ⟨3, a, [], [], up⟩), f3⟩ with
                  | error b =>
                    have HR3 : Hid (R = .error b) := by show _ = _; rw [HR2.out, hp]
                    rw [hp] at NC
                    clear hp HR2
                    refine Calls.mono NC.out ?_
                    rintro e wg ⟨rfl, ig, Lg, gg, hg⟩
                    have M93 : Hid (Calls Tryz.prog 38 #[.pointer (some ⟨rb, 0, none⟩), .int .u8 93] wg fun e w' => e = .returned (.tuple #[]) ∧ RW w0 w' rb B s (mI s ig 93 b) Lg gg (b : Int) ((depth : Int) + 1)) := by have := rw_must 93 (by omega) hg hs; rw [mB_bad] at this; exact this
                    clear hg NC
                    go_wp2_with fail
                    refine Calls.mono M93.out ?_
                    rintro e wh ⟨rfl, hh⟩
                    have HH : Hid (RW w0 wh rb B s (mI s ig 93 b) Lg gg (b : Int) ((depth : Int) + 1)) := hh
                    clear hh M93
                    go_wp2_with fail
                    go_meet
                    exact NOut.err HR3.out ⟨_, _, _, HH.out⟩
                  | ok st3 =>
                    have HR3 : Hid (R = match mustR s st3.i 93 with
                      | .error b => .error b
                      | .ok i4 => .ok { st3 with i := i4 }) := by show _ = _; rw [HR2.out, hp]
                    rw [hp] at NC
                    clear hp HR2
                    refine Calls.mono NC.out ?_
                    rintro e wg ⟨rfl, hg, pg, lg⟩
                    have hpg : gotI s i7 91 < st3.i := pg
                    have hlg : st.L.length + 1 ≤ st3.L.length := by have : _ ≤ st3.L.length := lg; simp only at this; rw [grown_len] at this; exact this
                    have hgi3 := gotI_ge s st3.i 93
                    have M93 : Hid (Calls Tryz.prog 38 #[.pointer (some ⟨rb, 0, none⟩), .int .u8 93] wg fun e w' => e = .returned (.tuple #[]) ∧ RW w0 w' rb B s (gotI s st3.i 93) st3.L st3.er (if isAt s st3.i 93 then -1 else (sk s st3.i : Int)) ((depth : Int) + 1)) := by have := rw_must 93 (by omega) hg hs; rw [mB_ok, mI_ok] at this; exact this
                    clear hg NC pg lg
                    go_wp2_with fail
                    refine Calls.mono M93.out ?_
                    rintro e wh ⟨rfl, hh⟩
                    have HH : Hid (NOut w0 wh rb B s ((depth : Int) + 1) st R) := by
                      show NOut _ _ _ _ _ _ _ _
                      rw [HR3.out]
                      unfold mustR
                      by_cases hm : isAt s st3.i 93 = true
                      · rw [if_pos hm] at hh ⊢
                        exact ⟨hh, by show st.i < gotI s st3.i 93; omega, by show st.L.length ≤ st3.L.length; omega⟩
                      · rw [if_neg hm] at hh ⊢
                        exact ⟨_, _, _, hh⟩
                    clear hh M93
                    go_wp2_with fail
                    go_meet
                    exact HH.out
                · have HR2 : Hid (R = .error (sk s i7)) := by show _ = _; rw [HRK.out]; unfold mustR; rw [if_neg hq]
                  rw [if_neg hq] at M91
                  clear HRK hq
                  go_wp2_with fail
                  refine Calls.mono M91.out ?_
                  rintro e we ⟨rfl, he⟩
                  have HE : Hid (RW w0 we rb B s (gotI s i7 91) (grown st.L ⟨3, a, [], [], up⟩) f3 (sk s i7 : Int) ((depth : Int) + 1)) := he
                  clear he M91
                  go_wp2_with fail
                  refine Calls.mono (node_bad rb B s _ (grown st.L ⟨3, a, [], [], up⟩) f3 (sk s i7 : Int) ((depth : Int) + 1) (st.L.length : Int) w0 we HE.out (by omega) hs) ?_
                  rintro e wg ⟨rfl, hg⟩
                  have M93 : Hid (Calls Tryz.prog 38 #[.pointer (some ⟨rb, 0, none⟩), .int .u8 93] wg fun e w' => e = .returned (.tuple #[]) ∧ RW w0 w' rb B s (mI s (sk s (gotI s i7 91)) 93 (sk s i7 : Int)) (grown st.L ⟨3, a, [], [], up⟩) f3 (sk s i7 : Int) ((depth : Int) + 1)) := by have := rw_must 93 (by omega) hg hs; rw [mB_bad] at this; exact this
                  clear hg HE
                  go_wp2_with fail
                  refine Calls.mono M93.out ?_
                  rintro e wh ⟨rfl, hh⟩
                  have HH : Hid (RW w0 wh rb B s (mI s (sk s (gotI s i7 91)) 93 (sk s i7 : Int)) (grown st.L ⟨3, a, [], [], up⟩) f3 (sk s i7 : Int) ((depth : Int) + 1)) := hh
                  clear hh M93
                  go_wp2_with fail
                  go_meet
                  exact NOut.err HR2.out ⟨_, _, _, HH.out⟩
              · have HRK : Hid (R = match mustR s i7 91 with
                  | .error b => .error b
                  | .ok i2 => match nodeF s f (st.L.length : Int) (depth + 1) ⟨i2, (grown st.L ⟨4, a, [], [], up⟩), f3⟩ with
                    | .error b => .error b
                    | .ok st3 => match mustR s st3.i 93 with
                      | .error b => .error b
                      | .ok i4 => .ok { st3 with i := i4 }) := HRo0.out
                have M91 : Hid (Calls Tryz.prog 38 #[.pointer (some ⟨rb, 0, none⟩), .int .u8 91] wd fun e w' => e = .returned (.tuple #[]) ∧ RW w0 w' rb B s (gotI s i7 91) (grown st.L ⟨4, a, [], [], up⟩) f3 (if isAt s i7 91 then -1 else (sk s i7 : Int)) ((depth : Int) + 1)) := by have := rw_must 91 (by omega) H1.out hs; rw [mB_ok, mI_ok] at this; exact this
                have hgi := gotI_ge s i7 91
                by_cases hq : isAt s i7 91 = true
                · have hgi2 : i7 < gotI s i7 91 := by rw [gI_at hq]; have := sk_ge s i7; omega
                  have HR2 : Hid (R = match nodeF s f (st.L.length : Int) (depth + 1) ⟨gotI s i7 91, (grown st.L ⟨4, a, [], [], up⟩), f3⟩ with
                    | .error b => .error b
                    | .ok st3 => match mustR s st3.i 93 with
                      | .error b => .error b
                      | .ok i4 => .ok { st3 with i := i4 }) := by show _ = _; rw [HRK.out]; unfold mustR; rw [if_pos hq]
                  simp only [hq, if_true] at M91
                  clear HRK hq
                  go_wp2_with fail
                  refine Calls.mono M91.out ?_
                  rintro e we ⟨rfl, he⟩
                  have NC : Hid (Calls Tryz.prog 19 #[.pointer (some ⟨rb, 0, none⟩), .int .i64 (st.L.length : Int)] we fun e w' => e = .returned (.tuple #[]) ∧ NOut w0 w' rb B s ((depth : Int) + 1) ⟨gotI s i7 91, (grown st.L ⟨4, a, [], [], up⟩), f3⟩ (nodeF s f (st.L.length : Int) (depth + 1) ⟨gotI s i7 91, (grown st.L ⟨4, a, [], [], up⟩), f3⟩)) := by
                    have := HN.out (st.L.length : Int) (depth + 1) ⟨gotI s i7 91, (grown st.L ⟨4, a, [], [], up⟩), f3⟩ w0 we (by rw [hcast]; exact he) (.inr ⟨by omega, by show (st.L.length : Int) < (_ : Nat); rw [grown_len]; omega⟩) (by show depth + 1 ≤ gotI s i7 91; omega) (by show s.size < f + gotI s i7 91; omega)
                    rw [hcast] at this
                    exact this
                  clear he M91
                  go_wp2_with fail
                  cases hp : nodeF s f (st.L.length : Int) (depth + 1) ⟨gotI s i7 91, (grown st.L ⟨4, a, [], [], up⟩), f3⟩ with
                  | error b =>
                    have HR3 : Hid (R = .error b) := by show _ = _; rw [HR2.out, hp]
                    rw [hp] at NC
                    clear hp HR2
                    refine Calls.mono NC.out ?_
                    rintro e wg ⟨rfl, ig, Lg, gg, hg⟩
                    have M93 : Hid (Calls Tryz.prog 38 #[.pointer (some ⟨rb, 0, none⟩), .int .u8 93] wg fun e w' => e = .returned (.tuple #[]) ∧ RW w0 w' rb B s (mI s ig 93 b) Lg gg (b : Int) ((depth : Int) + 1)) := by have := rw_must 93 (by omega) hg hs; rw [mB_bad] at this; exact this
                    clear hg NC
                    go_wp2_with fail
                    refine Calls.mono M93.out ?_
                    rintro e wh ⟨rfl, hh⟩
                    have HH : Hid (RW w0 wh rb B s (mI s ig 93 b) Lg gg (b : Int) ((depth : Int) + 1)) := hh
                    clear hh M93
                    go_wp2_with fail
                    go_meet
                    exact NOut.err HR3.out ⟨_, _, _, HH.out⟩
                  | ok st3 =>
                    have HR3 : Hid (R = match mustR s st3.i 93 with
                      | .error b => .error b
                      | .ok i4 => .ok { st3 with i := i4 }) := by show _ = _; rw [HR2.out, hp]
                    rw [hp] at NC
                    clear hp HR2
                    refine Calls.mono NC.out ?_
                    rintro e wg ⟨rfl, hg, pg, lg⟩
                    have hpg : gotI s i7 91 < st3.i := pg
                    have hlg : st.L.length + 1 ≤ st3.L.length := by have : _ ≤ st3.L.length := lg; simp only at this; rw [grown_len] at this; exact this
                    have hgi3 := gotI_ge s st3.i 93
                    have M93 : Hid (Calls Tryz.prog 38 #[.pointer (some ⟨rb, 0, none⟩), .int .u8 93] wg fun e w' => e = .returned (.tuple #[]) ∧ RW w0 w' rb B s (gotI s st3.i 93) st3.L st3.er (if isAt s st3.i 93 then -1 else (sk s st3.i : Int)) ((depth : Int) + 1)) := by have := rw_must 93 (by omega) hg hs; rw [mB_ok, mI_ok] at this; exact this
                    clear hg NC pg lg
                    go_wp2_with fail
                    refine Calls.mono M93.out ?_
                    rintro e wh ⟨rfl, hh⟩
                    have HH : Hid (NOut w0 wh rb B s ((depth : Int) + 1) st R) := by
                      show NOut _ _ _ _ _ _ _ _
                      rw [HR3.out]
                      unfold mustR
                      by_cases hm : isAt s st3.i 93 = true
                      · rw [if_pos hm] at hh ⊢
                        exact ⟨hh, by show st.i < gotI s st3.i 93; omega, by show st.L.length ≤ st3.L.length; omega⟩
                      · rw [if_neg hm] at hh ⊢
                        exact ⟨_, _, _, hh⟩
                    clear hh M93
                    go_wp2_with fail
                    go_meet
                    exact HH.out
                · have HR2 : Hid (R = .error (sk s i7)) := by show _ = _; rw [HRK.out]; unfold mustR; rw [if_neg hq]
                  rw [if_neg hq] at M91
                  clear HRK hq
                  go_wp2_with fail
                  refine Calls.mono M91.out ?_
                  rintro e we ⟨rfl, he⟩
                  have HE : Hid (RW w0 we rb B s (gotI s i7 91) (grown st.L ⟨4, a, [], [], up⟩) f3 (sk s i7 : Int) ((depth : Int) + 1)) := he
                  clear he M91
                  go_wp2_with fail
                  refine Calls.mono (node_bad rb B s _ (grown st.L ⟨4, a, [], [], up⟩) f3 (sk s i7 : Int) ((depth : Int) + 1) (st.L.length : Int) w0 we HE.out (by omega) hs) ?_
                  rintro e wg ⟨rfl, hg⟩
                  have M93 : Hid (Calls Tryz.prog 38 #[.pointer (some ⟨rb, 0, none⟩), .int .u8 93] wg fun e w' => e = .returned (.tuple #[]) ∧ RW w0 w' rb B s (mI s (sk s (gotI s i7 91)) 93 (sk s i7 : Int)) (grown st.L ⟨4, a, [], [], up⟩) f3 (sk s i7 : Int) ((depth : Int) + 1)) := by have := rw_must 93 (by omega) hg hs; rw [mB_bad] at this; exact this
                  clear hg HE
                  go_wp2_with fail
                  refine Calls.mono M93.out ?_
                  rintro e wh ⟨rfl, hh⟩
                  have HH : Hid (RW w0 wh rb B s (mI s (sk s (gotI s i7 91)) 93 (sk s i7 : Int)) (grown st.L ⟨4, a, [], [], up⟩) f3 (sk s i7 : Int) ((depth : Int) + 1)) := hh
                  clear hh M93
                  go_wp2_with fail
                  go_meet
                  exact NOut.err HR2.out ⟨_, _, _, HH.out⟩
              · have HRK : Hid (R = match quoR s i7 with
                  | .error b => .error b
                  | .ok (i2, t) => .ok ⟨i2, withText (grown st.L ⟨5, a, [], [], up⟩) st.L.length t, f3⟩) := HRo0.out
                have QC := rw_quoted H1.out hs
                cases hp : quoR s i7 with
                | error b =>
                  have HR3 : Hid (R = .error b) := by show _ = _; rw [HRK.out, hp]
                  rw [hp] at QC
                  have QH : Hid (Calls Tryz.prog 39 #[.pointer (some ⟨rb, 0, none⟩)] wd fun e w' => e = .returned (.string ByteArray.empty) ∧ ∃ p, RW w0 w' rb B s p (grown st.L ⟨5, a, [], [], up⟩) f3 (b : Int) ((depth : Int) + 1)) := QC
                  clear hp HRK QC
                  go_wp2_with fail
                  refine Calls.mono QH.out ?_
                  rintro e we ⟨rfl, i', he⟩
                  obtain ⟨gb, cap, c2, ⟨u2, d2⟩, z2, hcap, hgr, hst⟩ := he.text (k := st.L.length) (by rw [grown_len]; omega)
                  rw [grown_len] at c2 hcap
                  have HST : Hid (RW w0 (we.setCell ⟨gb, st.L.length * 5 + 2, none⟩ (.string ByteArray.empty)) rb B s i' (withText (grown st.L ⟨5, a, [], [], up⟩) st.L.length []) f3 (b : Int) ((depth : Int) + 1)) := hst []
                  clear he hst QH
                  have hlt : (st.L.length : Int) < ((st.L.length + 1 : Nat) : Int) := by omega
                  have hlt2 : (st.L.length : Int) < (st.L.length : Int) + 1 := by omega
                  go_wp2_with fail
                  go_meet
                  exact NOut.err HR3.out ⟨_, _, _, HST.out⟩
                | ok q =>
                  obtain ⟨i2, tt⟩ := q
                  have HR3 : Hid (R = .ok ⟨i2, withText (grown st.L ⟨5, a, [], [], up⟩) st.L.length tt, f3⟩) := by show _ = _; rw [HRK.out, hp]
                  have hqb := quoR_bd hi7 hp
                  rw [hp] at QC
                  have QH : Hid (Calls Tryz.prog 39 #[.pointer (some ⟨rb, 0, none⟩)] wd fun e w' => e = .returned (.string ⟨tt.toArray⟩) ∧ RW w0 w' rb B s i2 (grown st.L ⟨5, a, [], [], up⟩) f3 (-1) ((depth : Int) + 1)) := QC
                  clear hp HRK QC
                  go_wp2_with fail
                  refine Calls.mono QH.out ?_
                  rintro e we ⟨rfl, he⟩
                  obtain ⟨gb, cap, c2, ⟨u2, d2⟩, z2, hcap, hgr, hst⟩ := he.text (k := st.L.length) (by rw [grown_len]; omega)
                  rw [grown_len] at c2 hcap
                  have HST : Hid (RW w0 (we.setCell ⟨gb, st.L.length * 5 + 2, none⟩ (.string ⟨tt.toArray⟩)) rb B s i2 (withText (grown st.L ⟨5, a, [], [], up⟩) st.L.length tt) f3 (-1) ((depth : Int) + 1)) := hst tt
                  clear he hst QH
                  have hlt : (st.L.length : Int) < ((st.L.length + 1 : Nat) : Int) := by omega
                  have hlt2 : (st.L.length : Int) < (st.L.length : Int) + 1 := by omega
                  go_wp2_with fail
                  go_meet
                  have hfin : NOut w0 (we.setCell ⟨gb, st.L.length * 5 + 2, none⟩ (.string ⟨tt.toArray⟩)) rb B s ((depth : Int) + 1) st R := by
                    rw [HR3.out]
                    exact ⟨HST.out, by show st.i < i2; omega, by show st.L.length ≤ (withText (grown st.L ⟨5, a, [], [], up⟩) st.L.length tt).length; rw [withText_len, grown_len]; omega⟩
                  exact hfin
              · have HRK : Hid (R = .ok ⟨i7, (grown st.L ⟨6, a, [], [], up⟩), f3⟩) := HRo0.out
                have hfin : NOut w0 wd rb B s ((depth : Int) + 1) st R := by
                  rw [HRK.out]
                  exact ⟨H1.out, by show st.i < i7; omega, by show st.L.length ≤ _; rw [grown_len]; omega⟩
                have HFN : Hid (NOut w0 wd rb B s ((depth : Int) + 1) st R) := hfin
                clear hfin
                go_wp2_with fail
                go_meet
                exact HFN.out
          case rest =>
            have HO : Hid (NOut w0 wc rb B s ((depth : Int) + 1) st R) := hcut
            clear hcut
            have HC : Hid (∃ bad, (∃ i L g, RW w0 wc rb B s i L g bad ((depth : Int) + 1))) := by
              have ho := HO.out
              cases R with
              | error b => obtain ⟨i, L, g, h⟩ := ho; exact ⟨b, i, L, g, h⟩
              | ok st' => exact ⟨-1, _, _, _, ho.1⟩
            obtain ⟨bz, iz, Lz, gz, hz⟩ := HC.out
            obtain ⟨nvz, AVz, KVz, erz, atz, rz, flz, dz⟩ := hz.mem
            have c6 := rz.c6
            have z6 := rz.fz 6
            have HFIN : Hid (NOut w0 (wc.setCell ⟨rb, 6, none⟩ (.int .i64 (depth : Int))) rb B s (depth : Int) st R) := by
              have ho := HO.out
              cases R with
              | error b => obtain ⟨i, L, g, h⟩ := ho; exact ⟨i, L, g, h.setD _⟩
              | ok st' => exact ⟨ho.1.setD _, ho.2⟩
            have e1 : (depth : Int) + 1 - 1 = (depth : Int) := by omega
            clear rz flz dz hz HC HO
            go_wp2
            go_end0
            exact ⟨rfl, HFIN.out⟩
end Go.Proofs.YtepeepipgkejiadGreatDoor

namespace Go.Proofs.YtepeepipgkejiadGreatDoor
open Go.RowKit
set_option linter.unusedVariables false

theorem node_all (rb B : Nat) (s : ByteArray) (hs : s.size ≤ 1073741824) : ∀ f, NodeR rb B s f
  | 0 => fun up depth st w0 w h hup hd hf => by have := h.il; omega
  | f + 1 => node_step rb B s f (node_all rb B s hs f) hs

/-- What the reference's Parse answers. -/
def RpOut (w w' : World) (e : Ending) (r : Except (Nat × Nat) (List Nd)) : Prop := Below w.heap.size w w' ∧ match r with
  | .error (c, p) => e = .returned (.tuple #[.slice none 0 0, .int .i64 (c : Int), .int .i64 (p : Int)])
  | .ok L => ∃ nv AV KV, e = .returned (.tuple #[nv, .int .i64 0, .int .i64 0]) ∧ RD w' (w.heap.size + 1) nv L AV KV
set_option maxRecDepth 100000 in
set_option maxHeartbeats 4000000 in
theorem rparse_any (s : ByteArray) (w : World) :
    Calls Tryz.prog 8 #[.string s] w fun e w' => RpOut w w' e (parse s) := by
  by_cases hl : 4000 < s.size
  · have HP : Hid (parse s = .error (1, 0)) := by show _ = _; unfold parse; rw [if_pos hl]
    have hl' : (4000 : Int) < (s.size : Int) := by omega
    go_enter Tryz.func8, Tryz.ntmps8
    go_wp2
    refine bodyPost_ret (v := .tuple #[.slice none 0 0, .int .i64 1, .int .i64 0]) (by simp [results, Tryz.results8, go_sem]) rfl ?_
    show RpOut _ _ _ _
    rw [HP.out]
    exact ⟨Below.refl _ _, rfl⟩
  · have hl' : ¬ (4000 : Int) < (s.size : Int) := by omega
    have hs : s.size ≤ 1073741824 := by omega
    obtain ⟨rb, hrb⟩ : ∃ q, w.heap.size = q := ⟨_, rfl⟩
    obtain ⟨W0, hW0⟩ : ∃ q, w.alloc (.cells #[.string s, .int .i64 0, .slice none 0 0, .int .i64 (-1), .int .i64 0, .int .i64 (-1), .int .i64 0] 49) = q := ⟨_, rfl⟩
    have hb0 : W0.heap[rb]? = some (.cells #[.string s, .int .i64 0, .slice none 0 0, .int .i64 (-1), .int .i64 0, .int .i64 (-1), .int .i64 0] 49 (0, 0)) := by rw [← hW0, ← hrb]; exact heap_alloc_new _ _
    have hsz : W0.heap.size = rb + 1 := by rw [← hW0, World.size_alloc, hrb]
    have r0 : RS W0 rb s 0 (.slice none 0 0) (-1) 0 (-1) 0 := ⟨by omega, by simp [World.cell?, hb0], by simp [World.cell?, hb0], by simp [World.cell?, hb0], by simp [World.cell?, hb0], by simp [World.cell?, hb0], by simp [World.cell?, hb0], by simp [World.cell?, hb0], fun j => frozen_of_row _ _ _ _ _ hb0⟩
    have H0 : RW W0 W0 rb (rb + 1) s 0 [] none (-1) ((0 : Nat) : Int) := ⟨Nat.zero_le _, fun _ => Nat.le_refl _, fun j => by unfold nth; simp [nd0], by omega, by omega, Fr.refl _ _ _, .slice none 0 0, fun _ => 0, fun _ => .slice none 0 0, 0, -1, r0, fun _ => by show (-1 : Int) < 0; decide, RD.nothing _ _ _ _⟩
    have CN : Hid (Calls Tryz.prog 19 #[.pointer (some ⟨rb, 0, none⟩), .int .i64 (-1)] W0 fun e w' => e = .returned (.tuple #[]) ∧ NOut W0 w' rb (rb + 1) s ((0 : Nat) : Int) ⟨0, [], none⟩ (nodeF s (s.size + 1) (-1) 0 ⟨0, [], none⟩)) := node_all rb (rb + 1) s hs (s.size + 1) (-1) 0 ⟨0, [], none⟩ W0 W0 H0 (.inl rfl) (Nat.le_refl _) (by show s.size < s.size + 1 + 0; omega)
    have HBW : Hid (∀ w', Fr (rb + 1) rb W0 w' → Below w.heap.size w w') := fun w' f => by
      have b0 : Below w.heap.size w W0 := by rw [← hW0]; exact (Below.refl _ _).alloc (Nat.le_refl _) _
      exact b0.trans ⟨f.os, f.tape, f.output, f.size, fun k hk => f.block k (by omega) (by omega)⟩
    have HP : Hid (parse s = match nodeF s (s.size + 1) (-1) 0 ⟨0, [], none⟩ with
      | .error b => .error (2, b)
      | .ok st => if sk s st.i < s.size then .error (2, sk s st.i) else match st.er with
        | some f => .error f
        | none => .ok st.L) := by show _ = _; unfold parse; rw [if_neg hl]; rfl
    have HRB : Hid (w.heap.size = rb) := hrb
    clear hb0 hsz r0 H0 hl
    go_enter Tryz.func8, Tryz.ntmps8
    go_wp2_with fail
    clear hW0 hrb
    cases hp : nodeF s (s.size + 1) (-1) 0 ⟨0, [], none⟩ with
    | error b =>
      rw [hp] at CN
      have HPE : Hid (parse s = .error (2, b)) := by show _ = _; rw [HP.out, hp]
      clear hp HP
      refine Calls.mono CN.out ?_
      rintro e w1 ⟨rfl, i1, L1, g1, h1⟩
      have SK : Hid (Calls Tryz.prog 20 #[.pointer (some ⟨rb, 0, none⟩)] w1 fun e w' => e = .returned (.tuple #[]) ∧ RW W0 w' rb (rb + 1) s (sk s i1) L1 g1 (b : Int) ((0 : Nat) : Int)) := rw_skip h1 hs
      clear h1 CN
      go_wp2_with fail
      refine Calls.mono SK.out ?_
      rintro e w2 ⟨rfl, h2⟩
      have H2 : Hid (RW W0 w2 rb (rb + 1) s (sk s i1) L1 g1 (b : Int) ((0 : Nat) : Int)) := h2
      have c3 := h2.c3
      have hbf : decide ((b : Int) < 0) = false := decide_eq_false (by omega)
      have hbg : decide ((0 : Int) ≤ (b : Int)) = true := decide_eq_true (by omega)
      clear h2 SK
      go_wp2_with fail
      go_quiet (fail)
      go_wp2
      refine bodyPost_ret (v := .tuple #[.slice none 0 0, .int .i64 2, .int .i64 (b : Int)]) (by simp [results, Tryz.results8, go_sem]) rfl ?_
      show RpOut _ _ _ _
      rw [HPE.out]
      exact ⟨HBW.out _ (H2.out.fr.trans (Fr.drewN _ _ _ _)), rfl⟩
    | ok st =>
      rw [hp] at CN
      have HPE : Hid (parse s = if sk s st.i < s.size then .error (2, sk s st.i) else match st.er with
        | some f => .error f
        | none => .ok st.L) := by show _ = _; rw [HP.out, hp]
      clear hp HP
      refine Calls.mono CN.out ?_
      rintro e w1 ⟨rfl, h1, p1, l1⟩
      have SK : Hid (Calls Tryz.prog 20 #[.pointer (some ⟨rb, 0, none⟩)] w1 fun e w' => e = .returned (.tuple #[]) ∧ RW W0 w' rb (rb + 1) s (sk s st.i) st.L st.er (-1) ((0 : Nat) : Int)) := rw_skip h1 hs
      clear h1 CN p1 l1
      go_wp2_with fail
      refine Calls.mono SK.out ?_
      rintro e w2 ⟨rfl, h2⟩
      obtain ⟨nv, AV, KV, er, at_, r2, f2, d2⟩ := h2.mem
      have H2 : Hid (RW W0 w2 rb (rb + 1) s (sk s st.i) st.L st.er (-1) ((0 : Nat) : Int)) := h2
      have c1 := r2.c1
      have c3 := r2.c3
      have hsl := h2.il
      obtain ⟨i2, hi2⟩ : ∃ z, sk s st.i = z := ⟨_, rfl⟩
      rw [hi2] at c1 hsl HPE f2
      have R2 : Hid (RS w2 rb s i2 nv (-1) er at_ ((0 : Nat) : Int) ∧ FL er at_ st.er i2 ∧ RD w2 (rb + 1) nv st.L AV KV) := ⟨by rw [← hi2]; exact r2, f2 (by omega), d2⟩
      clear h2 SK r2 f2 d2 hi2
      by_cases hlt : i2 < s.size
      · have HPF : Hid (parse s = .error (2, i2)) := by show _ = _; rw [HPE.out, if_pos hlt]
        have hlt' : (i2 : Int) < (s.size : Int) := by omega
        have FA : Hid (Calls Tryz.prog 21 #[.pointer (some ⟨rb, 0, none⟩), .int .i64 (i2 : Int)] w2 fun e w' => e = .returned (.tuple #[]) ∧ RS w' rb s i2 nv (i2 : Int) er at_ ((0 : Nat) : Int) ∧ w2.grownBy w' (some rb)) := by
          have := fail_any rb s i2 nv (-1) er at_ ((0 : Nat) : Int) (i2 : Int) w2 R2.out.1
          have e : badI (-1) (i2 : Int) = i2 := by unfold badI; rw [if_pos (by omega)]
          rw [e] at this
          exact this
        clear HPE
        go_wp2_with fail
        refine Calls.mono FA.out ?_
        rintro e w3 ⟨rfl, r3, g3⟩
        have HF3 : Hid (Fr (rb + 1) rb W0 w3) := H2.out.fr.trans (Fr.grown g3 H2.out.le)
        have k3 := r3.c3
        have hbg : decide ((0 : Int) ≤ (i2 : Int)) = true := decide_eq_true (by omega)
        clear r3 g3 FA c1 c3
        go_wp2_with fail
        go_quiet (fail)
        go_wp2
        refine bodyPost_ret (v := .tuple #[.slice none 0 0, .int .i64 2, .int .i64 (i2 : Int)]) (by simp [results, Tryz.results8, go_sem]) rfl ?_
        show RpOut _ _ _ _
        rw [HPF.out]
        exact ⟨HBW.out _ (HF3.out.trans (Fr.drewN _ _ _ _)), rfl⟩
      · have hlt' : ¬ (i2 : Int) < (s.size : Int) := by omega
        have hlf : decide ((i2 : Int) < (s.size : Int)) = false := decide_eq_false hlt'
        have c5 := R2.out.1.c5
        have c4 := R2.out.1.c4
        have c2 := R2.out.1.c2
        cases her : st.er with
        | some fp =>
          obtain ⟨fc, fq⟩ := fp
          have HPF : Hid (parse s = .error (fc, fq)) := by show _ = _; rw [HPE.out, if_neg hlt, her]
          have hfl := R2.out.2.1
          rw [her] at hfl
          obtain ⟨rfl, rfl, hq⟩ := hfl
          have hbg : decide ((0 : Int) ≤ (fq : Int)) = true := decide_eq_true (by omega)
          clear HPE her hq
          go_wp2_with fail
          go_quiet (fail)
          go_wp2
          refine bodyPost_ret (v := .tuple #[.slice none 0 0, .int .i64 (fc : Int), .int .i64 (fq : Int)]) (by simp [results, Tryz.results8, go_sem]) rfl ?_
          show RpOut _ _ _ _
          rw [HPF.out]
          exact ⟨HBW.out _ (H2.out.fr.trans (Fr.drewN _ _ _ _)), rfl⟩
        | none =>
          have HPF : Hid (parse s = .ok st.L) := by show _ = _; rw [HPE.out, if_neg hlt, her]
          have hfl := R2.out.2.1
          rw [her] at hfl
          have hat : at_ < 0 := hfl
          have hbg : decide ((0 : Int) ≤ at_) = false := decide_eq_false (by omega)
          clear HPE her hfl
          go_wp2
          refine bodyPost_ret (v := .tuple #[nv, .int .i64 0, .int .i64 0]) (by simp [results, Tryz.results8, go_sem]) rfl ?_
          show RpOut _ _ _ _
          rw [HPF.out]
          exact ⟨HBW.out _ H2.out.fr, nv, AV, KV, rfl, by rw [HRB.out]; exact R2.out.2.2⟩
end Go.Proofs.YtepeepipgkejiadGreatDoor
