/-
  The program's reader: readTree.
-/
import Derived.Test.YtepeepipgkejiadGreatDoorTNd
namespace Go.Proofs.YtepeepipgkejiadGreatDoor
open Go.RowKit
set_option linter.unusedVariables false

theorem readNode_all (rb ab B : Nat) (E : Nat → Addr) (s : ByteArray) (hs : s.size ≤ 100000) : ∀ f, NodeC rb ab B E s f
  | 0 => fun up depth st w0 w h hup hd hf => absurd h.2.2.1.il (by omega)
  | f + 1 => readNode_step rb ab B E s f (readNode_all rb ab B E s hs f) hs

/-- A text as the program reads it: the nodes, or nothing (too long), or a number of an error and its place. -/
def pLast (s : ByteArray) (st : PS) : Except (Option (Nat × Nat)) (List Nd) := if sk s st.i < s.size then .error (some (2, sk s st.i)) else match st.er with
  | some f => .error (some f)
  | none => .ok st.L
def pRoot (s : ByteArray) : Except Nat PS → Except (Option (Nat × Nat)) (List Nd)
  | .error b => .error (some (2, b))
  | .ok st => pLast s st
def pTree (s : ByteArray) : Except (Option (Nat × Nat)) (List Nd) := if 4000 < s.size then .error none else pRoot s (pNodeF s (s.size + 1) (-1) 0 ⟨0, [], none⟩)
/-- What the reader gives up with. -/
def pv (E : Nat → Addr) : Option (Nat × Nat) → Value
  | none => errV (E 1)
  | some (c, p) => faultV (p : Int) (errV (E c))
def TrOut (w w' : World) (e : Ending) (E : Nat → Addr) (r : Except (Option (Nat × Nat)) (List Nd)) : Prop := Below w.heap.size w w' ∧ match r with
  | .error x => e = .panicked [{ v := pv E x, recovered := false }]
  | .ok L => ∃ nv KV, e = .returned nv ∧ PN w' w.heap.size nv L KV
/-- The errors and the names of the kinds, as they lie before a text is read. -/
structure Glo (W : World) (E : Nat → Addr) : Prop where
  sz : 12 ≤ W.heap.size
  kn : Kn W
  g1 : W.cell? ⟨0, 0, none⟩ = some (errV (E 1))
  g2 : W.cell? ⟨8, 0, none⟩ = some (errV (E 2))
  g3 : W.cell? ⟨1, 0, none⟩ = some (errV (E 3))
  g4 : W.cell? ⟨2, 0, none⟩ = some (errV (E 4))
  g5 : W.cell? ⟨3, 0, none⟩ = some (errV (E 5))
  g6 : W.cell? ⟨4, 0, none⟩ = some (errV (E 6))
  g7 : W.cell? ⟨5, 0, none⟩ = some (errV (E 7))
theorem pr_new (W : World) (s : ByteArray) (av : Value) (E : Nat → Addr) : PR (W.alloc (.cells #[.string s, .int .i64 0, av, .slice none 0 0, .nilIface] 70)) W.heap.size s 0 av (.slice none 0 0) (fltV E none) :=
  ⟨by simp, by rw [World.cell?_alloc_at _ _ _ _ rfl]; rfl, by rw [World.cell?_alloc_at _ _ _ _ rfl]; rfl, by rw [World.cell?_alloc_at _ _ _ _ rfl]; rfl, by rw [World.cell?_alloc_at _ _ _ _ rfl]; rfl, by rw [World.cell?_alloc_at _ _ _ _ rfl]; rfl, fun j => frozen_of_row _ _ _ _ _ (heap_alloc_new _ _)⟩
theorem PN.base {W : World} {B B' : Nat} {nv : Value} {L : List Nd} {KV : Nat → Value} (h : PN W B nv L KV) (hb : B' ≤ B) : PN W B' nv L KV := by
  obtain ⟨xs, hx⟩ := h.nr.row
  have own : ∀ {e : TypeId} {size n : Nat} {v : Value} {ys : List Value}, W.ownsRow B e size v n ys → W.ownsRow B' e size v n ys := fun {e size n v ys} h => ⟨h.1, by
    rcases h.2 with h2 | ⟨g, cap, cur, a, b, c⟩
    · exact .inl h2
    · exact .inr ⟨g, cap, cur, a, Nat.le_trans hb b, c⟩⟩
  exact ⟨⟨⟨xs, own hx⟩, h.nr.cells, h.nr.len, fun j hj => own (h.nr.kids j hj), h.nr.sep⟩, h.len⟩

set_option maxRecDepth 100000 in
set_option maxHeartbeats 8000000 in
theorem readTree_any (s : ByteArray) (E : Nat → Addr) (w : World) (hG : Glo w E) :
    Calls Tryz.prog 18 #[.string s] w fun e w' => TrOut w w' e E (pTree s) := by
  by_cases hlong : 4000 < s.size
  · have HP : Hid (pTree s = .error none) := by show _ = _; unfold pTree; rw [if_pos hlong]
    have hl' : (4000 : Int) < (s.size : Int) := by omega
    have g1 : w.cell? ⟨0, 0, none⟩ = some (.iface 242 (.pointer (some (E 1)))) := hG.g1
    clear hG
    go_enter Tryz.func18, Tryz.ntmps18
    go_wp2
    refine ⟨rfl, ?_⟩
    rw [HP.out]
    exact ⟨Below.refl _ _, rfl⟩
  · have hl' : ¬ (4000 : Int) < (s.size : Int) := by omega
    have hl2 : (s.size : Int) ≤ 4000 := by omega
    have hG0 : Hid (Glo w E) := hG
    have HP : Hid (pTree s = pRoot s (pNodeF s (s.size + 1) (-1) 0 ⟨0, [], none⟩)) := by show _ = _; unfold pTree; rw [if_neg hlong]
    obtain ⟨A, hA⟩ : ∃ z, w.heap.size = z := ⟨_, rfl⟩
    have CA : Hid (Calls Tryz.prog 23 #[] w fun e w' => e = .returned (.slice (some ⟨A, 0, none⟩) 12 12) ∧ w' = w.alloc (.cells attCells 83)) := by have := attributes_any w; rw [hA] at this; exact this
    have HT : Hid (Tab (w.alloc (.cells attCells 83)) A) := by have := tab_new w; rw [hA] at this; exact this
    have HB1 : Hid (Below A w (w.alloc (.cells attCells 83))) := by show Below _ _ _; rw [← hA]; exact (Below.refl _ _).alloc (Nat.le_refl _) _
    obtain ⟨w1, hw1⟩ : ∃ z, w.alloc (.cells attCells 83) = z := ⟨_, rfl⟩
    have hs1 : w1.heap.size = A + 1 := by rw [← hw1, World.size_alloc, hA]
    rw [hw1] at CA HT HB1
    have HAs : Hid (w.heap.size = A) := hA
    have hlo := hG.sz
    rw [hA] at hlo
    clear hG hw1 hA
    go_enter Tryz.func18, Tryz.ntmps18
    go_wp2_with fail
    refine CA.out.mono ?_
    rintro e w1' ⟨rfl, hw⟩
    obtain rfl := hw.symm
    go_wp2_with fail
    obtain ⟨w2, hw2⟩ : ∃ z, w1.alloc (.cells #[.string s, .int .i64 0, .slice (some ⟨A, 0, none⟩) 12 12, .slice none 0 0, .nilIface] 70) = z := ⟨_, rfl⟩
    have hs2 : w2.heap.size = A + 2 := by rw [← hw2, World.size_alloc, hs1]
    have HB2 : Hid (Below A w w2) := by rw [← hw2]; exact HB1.out.alloc (by omega) _
    have HPR : Hid (PR w2 (A + 1) s 0 (.slice (some ⟨A, 0, none⟩) 12 12) (.slice none 0 0) (fltV E none)) := by rw [← hw2, ← hs1]; exact pr_new _ _ _ _
    have HT2 : Hid (Tab w2 A) := by
      have := HT.out.fr (Fr.below (B := A + 1) (r := A + 1) ((Below.refl w1.heap.size w1).alloc (Nat.le_refl _) (.cells #[.string s, .int .i64 0, .slice (some ⟨A, 0, none⟩) 12 12, .slice none 0 0, .nilIface] 70)) (by omega)) (by omega) (by omega)
      rw [hw2] at this; exact this
    have hc : ∀ (g : Nat) v, g < 12 → w.cell? ⟨g, 0, none⟩ = some v → w2.cell? ⟨g, 0, none⟩ = some v := fun g v hg e => (HB2.out.cell (p := ⟨g, 0, none⟩) (by show g < A; omega)).trans e
    have HEV : Hid (Env w2 (A + 1) A (A + 2) E) := ⟨HT2.out, by omega, by omega, by omega, by omega, by omega, hc _ _ (by decide) hG0.out.g2, hc _ _ (by decide) hG0.out.g3, hc _ _ (by decide) hG0.out.g4, hc _ _ (by decide) hG0.out.g5, hc _ _ (by decide) hG0.out.g6, hc _ _ (by decide) hG0.out.g7⟩
    have HKN : Hid (Kn w2) := fun j hj => (HB2.out.cell (p := ⟨6, j, none⟩) (by show 6 < A; omega)).trans (hG0.out.kn j hj)
    have HM : Hid (Mem w2 w2 (A + 1) A (A + 2) E s ⟨0, [], none⟩) := ⟨HEV.out, HKN.out, ⟨Nat.zero_le _, Nat.le_refl _, fun j => Nat.zero_le _⟩, Fr.refl _ _ _, _, fun _ => .nilFunc, HPR.out, ⟨NR.nothing _ _ _ _ _ _ _, fun j hj => absurd hj (by show ¬ j < 0; omega)⟩⟩
    have CN : Hid (Calls Tryz.prog 29 #[.pointer (some ⟨A + 1, 0, none⟩), .int .i64 (-1), .int .i64 0] w2 fun e w' => NdOut w2 w' e (A + 1) A (A + 2) E s (pNodeF s (s.size + 1) (-1) 0 ⟨0, [], none⟩)) := readNode_all (A + 1) A (A + 2) E s (by omega) (s.size + 1) (-1) 0 ⟨0, [], none⟩ w2 w2 HM.out (.inl rfl) (Nat.le_refl _) (by show s.size < s.size + 1 + 0; omega)
    have HBF : Hid (∀ w', Fr (A + 2) (A + 1) w2 w' → Below w.heap.size w w') := fun w' f => by
      rw [HAs.out]
      exact HB2.out.trans ⟨f.os, f.tape, f.output, f.size, fun k hk => f.block k (by omega) (by omega)⟩
    have hlt0 : Hid (∀ W, W.cell? ⟨8, 0, none⟩ = some (errV (E 2)) → ∀ (q : Nat), Calls Tryz.prog 31 #[.int .i64 (q : Int)] W fun e w' => e = .returned (.iface 66 (.agg #[.int .i64 (q : Int), .iface 242 (.pointer (some (E 2)))])) ∧ w' = W) := fun W he q => noTree_any _ W (E 2) he
    rw [hw2]
    clear hw2 hc HT HB1 CA hs1
    cases hp : pNodeF s (s.size + 1) (-1) 0 ⟨0, [], none⟩ with
    | error b =>
      have HRE : Hid (pTree s = .error (some (2, b))) := by show _ = _; rw [HP.out, hp]; rfl
      rw [hp] at CN
      clear hp HP
      refine CN.out.mono ?_
      rintro e w3 ⟨rfl, f3⟩
      refine ⟨rfl, ?_⟩
      rw [HRE.out]
      exact ⟨HBF.out _ f3, rfl⟩
    | ok st =>
      have HRE : Hid (pTree s = pLast s st) := by show _ = _; rw [HP.out, hp]; rfl
      rw [hp] at CN
      clear hp HP
      refine CN.out.mono ?_
      rintro e w3 ⟨rfl, env3, kn3, good3, fr3, nv, KV, pr3, pn3⟩
      have CB : Hid (Calls Tryz.prog 30 #[.pointer (some ⟨A + 1, 0, none⟩)] w3 fun e w' => e = .returned (.tuple #[]) ∧ PR w' (A + 1) s (sk s st.i) (.slice (some ⟨A, 0, none⟩) 12 12) nv (fltV E st.er) ∧ w3.grownBy w' (some (A + 1))) := skipBlanks_any (A + 1) s st.i _ nv _ w3 pr3 (by omega) good3.il
      have HE3 : Hid (Env w3 (A + 1) A (A + 2) E) := env3
      have HF3 : Hid (Fr (A + 2) (A + 1) w2 w3) := fr3
      have HN3 : Hid (PN w3 (A + 2) nv st.L KV) := pn3
      obtain ⟨i2, hi2⟩ : ∃ z, sk s st.i = z := ⟨_, rfl⟩
      have HRE2 : Hid (pTree s = if i2 < s.size then .error (some (2, i2)) else match st.er with
        | some f => .error (some f)
        | none => .ok st.L) := by show _ = _; rw [HRE.out]; unfold pLast; rw [hi2]
      rw [hi2] at CB
      clear env3 kn3 good3 fr3 pr3 pn3 CN hi2 HRE
      go_wp2_with fail
      refine CB.out.mono ?_
      rintro e w4 ⟨rfl, h4, g4⟩
      have HF4 : Hid (Fr (A + 2) (A + 1) w2 w4) := HF3.out.trans (Fr.grown g4 HE3.out.le)
      have HN4 : Hid (PN w4 (A + 2) nv st.L KV) := HN3.out.up (Up.grown g4 (by omega))
      have HE4 : Hid (Env w4 (A + 1) A (A + 2) E) := HE3.out.fr (Fr.grown g4 HE3.out.le)
      have c1 := h4.c1
      have c3 := h4.c3
      have c4 := h4.c4
      clear h4 g4 CB HF3 HN3 HE3
      by_cases hlt : i2 < s.size
      · have hlt' : (i2 : Int) < (s.size : Int) := by omega
        have HR3 : Hid (pTree s = .error (some (2, i2))) := by show _ = _; rw [HRE2.out, if_pos hlt]
        clear HRE2
        go_wp2_with fail
        refine (hlt0.out _ HE4.out.g2 i2).mono ?_
        rintro e w5 ⟨rfl, hw⟩
        obtain rfl := hw.symm
        go_wp2
        refine ⟨rfl, ?_⟩
        rw [HR3.out]
        exact ⟨HBF.out _ HF4.out, rfl⟩
      · cases her : st.er with
        | none =>
          have HR3 : Hid (pTree s = .ok st.L) := by show _ = _; rw [HRE2.out, if_neg hlt, her]
          rw [her] at c4
          have c4' : w4.cell? ⟨A + 1, 4, none⟩ = some .nilIface := c4
          clear HRE2 c4 her
          go_wp2
          go_ret
          show TrOut _ _ _ _ _
          rw [HR3.out]
          exact ⟨HBF.out _ HF4.out, nv, KV, rfl, HN4.out.base (by rw [HAs.out]; omega)⟩
        | some fp =>
          obtain ⟨c, q⟩ := fp
          have HR3 : Hid (pTree s = .error (some (c, q))) := by show _ = _; rw [HRE2.out, if_neg hlt, her]
          rw [her] at c4
          have c4' : w4.cell? ⟨A + 1, 4, none⟩ = some (.iface 66 (.agg #[.int .i64 (q : Int), .iface 242 (.pointer (some (E c)))])) := c4
          clear HRE2 c4 her
          go_wp2
          refine ⟨rfl, ?_⟩
          rw [HR3.out]
          exact ⟨HBF.out _ HF4.out, rfl⟩

end Go.Proofs.YtepeepipgkejiadGreatDoor
