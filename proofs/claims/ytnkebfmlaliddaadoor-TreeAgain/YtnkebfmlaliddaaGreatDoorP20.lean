/-
  A node as the program reads it, as a function; what holds of its states.
-/
import Derived.Test.YtnkebfmlaliddaaGreatDoorP19
import Derived.Test.YtnkebfmlaliddaaGreatDoorP04
import Derived.Test.YtnkebfmlaliddaaGreatDoorP15
import Derived.Test.YtnkebfmlaliddaaGreatDoorP07
namespace Go.Proofs.YtnkebfmlaliddaaGreatDoor
open Go.RowKit
set_option linter.unusedVariables false

def roomO (n depth : Nat) : Option Nat := if 100 ≤ n then some 3 else if 12 ≤ depth then some 4 else none
theorem room_eo (n depth : Nat) (E : Nat → Addr) : roomV n depth (E 3) (E 4) = eoV E (roomO n depth) := by
  unfold roomV roomO; split
  · rfl
  · split <;> rfl
def pEnd (s : ByteArray) (st : PS) (c : Nat) : Except Nat PS := if isAt s st.i c = true then .ok { st with i := gotI s st.i c } else .error (sk s st.i)
def pKidsF (s : ByteArray) (node : PS → Except Nat PS) : Nat → PS → Except Nat PS
  | 0, st => .error st.i
  | f + 1, st => match node st with
    | .error b => .error b
    | .ok st2 => if isAt s st2.i 44 = true then pKidsF s node f { st2 with i := gotI s st2.i 44 } else pEnd s { st2 with i := gotI s st2.i 44 } 93
def pList (s : ByteArray) (node : PS → Except Nat PS) (st : PS) : Except Nat PS :=
  if isAt s st.i 91 = true then (if isAt s (gotI s st.i 91) 93 = true then .ok { st with i := gotI s (gotI s st.i 91) 93 } else pKidsF s node (s.size + 1) { st with i := gotI s (gotI s st.i 91) 93 }) else .error (sk s st.i)
def pThen (r : Except Nat PS) (g : PS → Except Nat PS) : Except Nat PS := match r with
  | .error b => .error b
  | .ok st => g st
def pOne (s : ByteArray) (node : PS → Except Nat PS) (st : PS) : Except Nat PS :=
  if isAt s st.i 91 = true then pThen (node { st with i := gotI s st.i 91 }) fun st2 => pEnd s st2 93 else .error (sk s st.i)
def pText (s : ByteArray) (idx : Nat) (st : PS) : Except Nat PS := match quoR s st.i with
  | .error b => .error b
  | .ok (i2, t) => .ok { st with i := i2, L := withText st.L idx t }
def pBody (s : ByteArray) (kind idx : Nat) (node : PS → Except Nat PS) (st : PS) : Except Nat PS :=
  if kind = 5 then pText s idx st else if kind = 6 then .ok st else if kind = 3 ∨ kind = 4 then pOne s node st else pList s node st
def pBr (s : ByteArray) (kind idx i : Nat) (er : Flt) (L : List Nd) : Except Nat PS :=
  if isAt s i 123 = true then (match pAttrsF s kind idx (s.size + 1) (gotI s i 123) er L [] with
    | .error b => .error b
    | .ok (i2, er2, L2) => .ok ⟨i2, L2, er2⟩) else .ok ⟨gotI s i 123, L, er⟩
def wordAt (s : ByteArray) (i : Nat) : ByteArray := s.extract (sk s i) (run letter s (sk s i))
def kindAt (s : ByteArray) (i : Nat) : Int := findF kindsL (wordAt s i) 0
def pNodeF (s : ByteArray) : Nat → Int → Nat → PS → Except Nat PS
  | 0, _, _, st => .error st.i
  | f + 1, up, depth, st =>
    if kindAt s st.i < 0 then .error (sk s st.i) else
    pThen (pBr s (kindAt s st.i).toNat st.L.length (run letter s (sk s st.i)) (keepF st.er (roomO st.L.length depth) (sk s st.i)) (grown st.L ⟨(kindAt s st.i).toNat, withoutL, [], [], up⟩)) fun st1 => pBody s (kindAt s st.i).toNat st.L.length (pNodeF s f (st.L.length : Int) (depth + 1)) st1

/-- What holds of every state. -/
structure Good (s : ByteArray) (st : PS) : Prop where
  il : st.i ≤ s.size
  ll : st.L.length ≤ st.i
  kl : ∀ j, (nth st.L j).kids.length ≤ st.L.length
/-- A step forward. -/
structure Fwd (s : ByteArray) (st st' : PS) : Prop where
  good : Good s st'
  ge : st.i ≤ st'.i
  lg : st.L.length ≤ st'.L.length
theorem gotI_ge (s : ByteArray) (i c : Nat) : i ≤ gotI s i c := by unfold gotI; have := sk_ge s i; split <;> omega
theorem Good.at {s : ByteArray} {st : PS} (h : Good s st) {c : Nat} (hc : c < 256) : Good s { st with i := gotI s st.i c } :=
  ⟨gotI_le hc h.il, Nat.le_trans h.ll (gotI_ge _ _ _), h.kl⟩
theorem pEnd_fwd {s : ByteArray} {st st' : PS} {c : Nat} (hc : c < 256) (h : Good s st) (e : pEnd s st c = .ok st') : Fwd s st st' ∧ st.i < st'.i := by
  unfold pEnd at e
  split at e
  · rename_i hq
    injection e with e
    subst e
    have := gotI_at hq
    have := sk_ge s st.i
    exact ⟨⟨h.at hc, gotI_ge _ _ _, Nat.le_refl _⟩, by show st.i < gotI s st.i c; omega⟩
  · cases e
theorem Fwd.trans {s : ByteArray} {a b c : PS} (h : Fwd s a b) (k : Fwd s b c) : Fwd s a c := ⟨k.good, Nat.le_trans h.ge k.ge, Nat.le_trans h.lg k.lg⟩
theorem kids_fwd {s : ByteArray} {N : Nat} {node : PS → Except Nat PS} (hnode : ∀ a b, Good s a → N ≤ a.L.length → node a = .ok b → Fwd s a b ∧ a.i < b.i) : ∀ f st st', Good s st → N ≤ st.L.length → pKidsF s node f st = .ok st' → Fwd s st st' ∧ st.i < st'.i
  | 0, st, st', h, hN, e => by cases e
  | f + 1, st, st', h, hN, e => by
    unfold pKidsF at e
    split at e
    · cases e
    · rename_i st2 he
      obtain ⟨h2, l2⟩ := hnode _ _ h hN he
      have hg := h2.good.at (c := 44) (by omega)
      have h3 : Fwd s st { st2 with i := gotI s st2.i 44 } := ⟨hg, Nat.le_trans h2.ge (gotI_ge _ _ _), h2.lg⟩
      have l3 : st.i < gotI s st2.i 44 := Nat.lt_of_lt_of_le l2 (gotI_ge _ _ _)
      split at e
      · obtain ⟨h4, l4⟩ := kids_fwd hnode f _ _ hg (Nat.le_trans hN h2.lg) e
        exact ⟨h3.trans h4, Nat.lt_trans l3 l4⟩
      · obtain ⟨h4, l4⟩ := pEnd_fwd (by omega) hg e
        exact ⟨h3.trans h4, Nat.lt_trans l3 l4⟩

end Go.Proofs.YtnkebfmlaliddaaGreatDoor

namespace Go.Proofs.YtnkebfmlaliddaaGreatDoor
open Go.RowKit
set_option linter.unusedVariables false

section
variable {s : ByteArray} {N : Nat} {node : PS → Except Nat PS}
theorem list_fwd (hnode : ∀ a b, Good s a → N ≤ a.L.length → node a = .ok b → Fwd s a b ∧ a.i < b.i) {st st' : PS} (h : Good s st) (hN : N ≤ st.L.length) (e : pList s node st = .ok st') : Fwd s st st' := by
  unfold pList at e
  have h1 := h.at (c := 91) (by omega)
  have h2 := h1.at (c := 93) (by omega)
  have g1 := gotI_ge s st.i 91
  have g2 := gotI_ge s (gotI s st.i 91) 93
  have f2 : Fwd s st { st with i := gotI s (gotI s st.i 91) 93 } := ⟨h2, Nat.le_trans g1 g2, Nat.le_refl _⟩
  split at e
  · split at e
    · injection e with e; subst e; exact f2
    · exact f2.trans (kids_fwd hnode _ _ _ h2 hN e).1
  · cases e
theorem one_fwd (hnode : ∀ a b, Good s a → N ≤ a.L.length → node a = .ok b → Fwd s a b ∧ a.i < b.i) {st st' : PS} (h : Good s st) (hN : N ≤ st.L.length) (e : pOne s node st = .ok st') : Fwd s st st' := by
  unfold pOne at e
  have h1 := h.at (c := 91) (by omega)
  have f1 : Fwd s st { st with i := gotI s st.i 91 } := ⟨h1, gotI_ge _ _ _, Nat.le_refl _⟩
  split at e
  · unfold pThen at e
    split at e
    · cases e
    · rename_i st2 he
      obtain ⟨h2, _⟩ := hnode _ _ h1 hN he
      exact f1.trans (h2.trans (pEnd_fwd (by omega) h2.good e).1)
  · cases e
theorem qF_bd : ∀ f p acc i t, p ≤ s.size → qF s f p acc = .ok (i, t) → p < i ∧ i ≤ s.size
  | 0, p, acc, i, t, hp, h => by cases h
  | f + 1, p, acc, i, t, hp, h => by
    have hin : ∀ q, bat s q ≠ 256 → q < s.size := fun q hq => by
      by_cases hh : q < s.size
      · exact hh
      · exact absurd (bat_out hh) hq
    unfold qF at h
    split at h
    · cases h
    · rename_i h0
      have := hin p h0
      split at h
      · injection h with h; injection h with h1 h2; omega
      · split at h
        · split at h
          · rename_i hq
            have := hin (p + 1) (by omega)
            have := qF_bd f (p + 2) _ i t (by omega) h; omega
          · split at h
            · rename_i hq
              have := hin (p + 1) (by omega)
              have := qF_bd f (p + 2) _ i t (by omega) h; omega
            · cases h
        · have := qF_bd f (p + 1) _ i t (by omega) h; omega
theorem nth_text_kids (L : List Nd) (k j : Nat) (t : List UInt8) : (nth (withText L k t) j).kids = (nth L j).kids := by
  unfold withText
  by_cases e : j = k
  · subst e
    by_cases h : j < L.length
    · rw [nth_mod_same _ h]
    · unfold nth; rw [List.getElem?_modify]; simp [h]
  · rw [nth_mod_other _ e]
theorem text_fwd {idx : Nat} {st st' : PS} (h : Good s st) (e : pText s idx st = .ok st') : Fwd s st st' := by
  unfold pText quoR at e
  split at e
  · cases e
  · rename_i i2 t he
    injection e with e
    subst e
    split at he
    · have g := qF_bd _ _ _ _ _ (gotI_le (by omega) h.il) he
      have g2 := gotI_ge s st.i 34
      refine ⟨⟨g.2, ?_, fun j => ?_⟩, by show st.i ≤ i2; omega, by show st.L.length ≤ (withText st.L idx t).length; unfold withText; simp⟩
      · show (withText st.L idx t).length ≤ i2
        unfold withText; have := h.ll; simp; omega
      · show (nth (withText st.L idx t) j).kids.length ≤ (withText st.L idx t).length
        rw [nth_text_kids]; unfold withText; simpa using h.kl j
    · cases he
theorem body_fwd (hnode : ∀ a b, Good s a → N ≤ a.L.length → node a = .ok b → Fwd s a b ∧ a.i < b.i) {kind idx : Nat} {st st' : PS} (h : Good s st) (hN : N ≤ st.L.length) (e : pBody s kind idx node st = .ok st') : Fwd s st st' := by
  unfold pBody at e
  split at e
  · exact text_fwd h e
  · split at e
    · injection e with e; subst e; exact ⟨h, Nat.le_refl _, Nat.le_refl _⟩
    · split at e
      · exact one_fwd hnode h hN e
      · exact list_fwd hnode h hN e
end
theorem setL_kids (L : List Nd) (j k q : Nat) (n : Int) : (nth (setL L j k n) q).kids = (nth L q).kids := by
  unfold setL
  split
  · rfl
  · by_cases e : q = j
    · subst e
      by_cases h : q < L.length
      · rw [nth_mod_same _ h]
      · unfold nth; rw [List.getElem?_modify]; simp [h]
    · rw [nth_mod_other _ e]
theorem pAttr_kids {s : ByteArray} {kind : Nat} {ws : List ByteArray} {L : List Nd} {j i : Nat} {er : Flt} {i2 : Nat} {er2 : Flt} {L2 : List Nd} {t : ByteArray} (h : pAttr s kind ws L j i er = .ok (i2, er2, L2, t)) : ∀ q, (nth L2 q).kids = (nth L q).kids := by
  unfold pAttr at h
  split at h
  · cases h
  · split at h
    · unfold pNum at h
      split at h
      · cases h
      · unfold pSet at h
        split at h
        · injection h with h; injection h with e1 h; injection h with e2 h; injection h with e3 e4
          subst e3
          exact fun _ => rfl
        · injection h with h; injection h with e1 h; injection h with e2 h; injection h with e3 e4
          subst e3
          exact fun q => setL_kids _ _ _ _ _
    · cases h
theorem attrs_bd {s : ByteArray} {kind j : Nat} : ∀ f i er L ws i2 er2 L2, i ≤ s.size → pAttrsF s kind j f i er L ws = .ok (i2, er2, L2) → i < i2 ∧ i2 ≤ s.size ∧ L2.length = L.length ∧ ∀ q, (nth L2 q).kids = (nth L q).kids
  | 0, i, er, L, ws, i2, er2, L2, hi, h => by cases h
  | f + 1, i, er, L, ws, i2, er2, L2, hi, h => by
    unfold pAttrsF at h
    split at h
    · cases h
    · rename_i i3 er3 L3 t he
      obtain ⟨b1, b2, b3, _⟩ := pAttr_bd hi he
      have b5 := pAttr_kids he
      have g1 := gotI_ge s i3 59
      have g2 := gotI_le (s := s) (i := i3) (c := 59) (by omega) b2
      split at h
      · obtain ⟨c1, c2, c3, c4⟩ := attrs_bd f _ _ _ _ _ _ _ g2 h
        exact ⟨by omega, c2, c3.trans b3, fun q => (c4 q).trans (b5 q)⟩
      · unfold pClose at h
        split at h
        · injection h with h; injection h with e1 h; injection h with e2 e3
          subst e1 e3
          have g3 := gotI_ge s (gotI s i3 59) 125
          exact ⟨by omega, gotI_le (by omega) g2, b3, b5⟩
        · cases h
theorem grown_len (L : List Nd) (d : Nd) : (grown L d).length = L.length + 1 := by unfold grown; split <;> simp
theorem grown_kids (L : List Nd) (d : Nd) (hd : d.kids = []) (hup : d.up < L.length) (h : ∀ j, (nth L j).kids.length ≤ L.length) (j : Nat) : (nth (grown L d) j).kids.length ≤ L.length + 1 := by
  have hap : ∀ q, (nth (L ++ [d]) q).kids.length ≤ L.length := fun q => by
    by_cases e : q < L.length
    · rw [nth_app_old e]; exact h q
    · by_cases e2 : q = L.length
      · subst e2; rw [nth_app_new, hd]; exact Nat.zero_le _
      · unfold nth; rw [List.getElem?_eq_none (by simp; omega)]; exact Nat.zero_le _
  by_cases hu : d.up < 0
  · unfold grown; rw [if_pos hu]; have := hap j; omega
  · rw [grown_eq L d d.up.toNat (by omega) (by omega)]
    by_cases e : j = d.up.toNat
    · subst e; rw [nth_mod_same _ (by simp; omega)]; have := hap d.up.toNat; simp; omega
    · rw [nth_mod_other _ e]; have := hap j; omega
theorem br_fwd {s : ByteArray} {kind idx i : Nat} {er : Flt} {L : List Nd} {st : PS} (hi : i ≤ s.size) (e : pBr s kind idx i er L = .ok st) : i ≤ st.i ∧ st.i ≤ s.size ∧ st.L.length = L.length ∧ ∀ q, (nth st.L q).kids = (nth L q).kids := by
  unfold pBr at e
  have g1 := gotI_ge s i 123
  have g2 := gotI_le (s := s) (i := i) (c := 123) (by omega) hi
  split at e
  · split at e
    · cases e
    · rename_i i2 er2 L2 he
      obtain ⟨b1, b2, b3, b4⟩ := attrs_bd _ _ _ _ _ _ _ _ g2 he
      injection e with e; subst e
      exact ⟨by show i ≤ i2; omega, b2, b3, b4⟩
  · injection e with e; subst e
    exact ⟨g1, g2, rfl, fun _ => rfl⟩
theorem kindAt_word {s : ByteArray} {i : Nat} (h : ¬ kindAt s i < 0) (hi : i ≤ s.size) : sk s i < run letter s (sk s i) := by
  by_cases e : sk s i < run letter s (sk s i)
  · exact e
  · exfalso
    have h3 := run_ge letter s (sk s i)
    have : wordAt s i = ByteArray.empty := by
      unfold wordAt
      rw [show run letter s (sk s i) = sk s i by omega]
      apply ByteArray.ext
      simp
    unfold kindAt at h
    rw [this] at h
    exact h (by decide)
theorem node_fwd {s : ByteArray} : ∀ f (up : Int) depth st st', (up < st.L.length) → Good s st → pNodeF s f up depth st = .ok st' → Fwd s st st' ∧ st.i < st'.i ∧ st.L.length < st'.L.length
  | 0, up, depth, st, st', hup, h, e => by cases e
  | f + 1, up, depth, st, st', hup, h, e => by
    unfold pNodeF at e
    split at e
    · cases e
    · rename_i hk
      have hw := kindAt_word hk h.il
      have s1 := sk_ge s st.i
      have s2 := run_le letter s _ (sk_le s st.i h.il)
      unfold pThen at e
      split at e
      · cases e
      · rename_i st1 he
        obtain ⟨b1, b2, b3, b4⟩ := br_fwd s2 he
        rw [grown_len] at b3
        have g1 : Good s st1 := ⟨b2, by have := h.ll; omega, fun j => by rw [b4, b3]; exact grown_kids _ _ rfl hup h.kl j⟩
        have f1 : Fwd s st st1 := ⟨g1, by omega, by omega⟩
        have f2 := body_fwd (N := st.L.length + 1) (fun a b ga hN hab => by
          obtain ⟨q1, q2, _⟩ := node_fwd f (st.L.length : Int) (depth + 1) a b (by omega) ga hab
          exact ⟨q1, q2⟩) g1 (by omega) e
        exact ⟨f1.trans f2, by have := f2.ge; omega, by have := f2.lg; omega⟩

end Go.Proofs.YtnkebfmlaliddaaGreatDoor

namespace Go.Proofs.YtnkebfmlaliddaaGreatDoor
open Go.RowKit
set_option linter.unusedVariables false

/-- The names of the kinds. -/
def Kn (W : World) : Prop := ∀ j, j < 7 → W.cell? ⟨0, j, none⟩ = some (.string (kindsL[j]?.getD ByteArray.empty))
theorem Kn.fr {W W' : World} {B r : Nat} (h : Kn W) (f : Fr B r W W') (hB : r < B) (hr : 12 ≤ r) : Kn W' := fun j hj => f.cell (h j hj) (by show 0 < B; omega) (by show 0 ≠ r; omega)
/-- A state in memory. -/
def Mem (W0 W : World) (rb ab B : Nat) (E : Nat → Addr) (s : ByteArray) (st : PS) : Prop := Env W rb ab B E ∧ Kn W ∧ Good s st ∧ Fr B rb W0 W ∧ ∃ nv KV, PR W rb s st.i (.slice (some ⟨ab, 0, none⟩) 12 12) nv (fltV E st.er) ∧ PN W B nv st.L KV
/-- What a part of the reader leaves. -/
def NdOut (w w' : World) (e : Ending) (rb ab B : Nat) (E : Nat → Addr) (s : ByteArray) (r : Except Nat PS) : Prop := match r with
  | .error b => e = .panicked [{ v := faultV (b : Int) (errV (E 2)), recovered := false }] ∧ Fr B rb w w'
  | .ok st => e = .returned (.tuple #[]) ∧ Mem w w' rb ab B E s st
def NodeC (rb ab B : Nat) (E : Nat → Addr) (s : ByteArray) (f : Nat) : Prop := ∀ (up : Int) (depth : Nat) (st : PS) (w0 w : World), Mem w0 w rb ab B E s st → (up = -1 ∨ (0 ≤ up ∧ up < st.L.length)) → depth ≤ st.i → s.size < f + st.i →
  Calls Tryz.prog 43 #[.pointer (some ⟨rb, 0, none⟩), .int .i64 up, .int .i64 (depth : Int)] w fun e w' => NdOut w0 w' e rb ab B E s (pNodeF s f up depth st)
theorem Mem.grown {W0 W W' : World} {rb ab B : Nat} {E : Nat → Addr} {s : ByteArray} {st : PS} {i : Nat} (h : Mem W0 W rb ab B E s st) (g : W.grownBy W' (some rb)) (hg : Good s { st with i := i }) (hp : ∀ nv KV, PR W rb s st.i (.slice (some ⟨ab, 0, none⟩) 12 12) nv (fltV E st.er) → PN W B nv st.L KV → PR W' rb s i (.slice (some ⟨ab, 0, none⟩) 12 12) nv (fltV E st.er)) : Mem W0 W' rb ab B E s { st with i := i } := by
  obtain ⟨e, k, _, f, nv, KV, p, n⟩ := h
  have fr := Fr.grown (r := rb) g e.le
  exact ⟨e.fr fr, k.fr fr e.rbB e.lo, hg, f.trans fr, nv, KV, hp nv KV p n, n.up (Up.grown g e.rbB)⟩
/-- takes and expect, of a state. -/
theorem mem_takes {W0 W : World} {rb ab B : Nat} {E : Nat → Addr} {s : ByteArray} {st : PS} (c : Nat) (h : Mem W0 W rb ab B E s st) (hs : s.size ≤ 1073741824) (hc : c < 256) :
    Calls Tryz.prog 73 #[.pointer (some ⟨rb, 0, none⟩), .int .u8 (c : Int)] W fun e w' => e = .returned (.bool (isAt s st.i c)) ∧ Mem W0 w' rb ab B E s { st with i := gotI s st.i c } := by
  obtain ⟨e, k, g, f, nv, KV, p, n⟩ := h
  refine (takes_any rb s st.i _ nv _ c W p (by omega) g.il hc).mono ?_
  rintro e' w' ⟨rfl, h1, g1⟩
  have fr := Fr.grown (r := rb) g1 e.le
  exact ⟨rfl, e.fr fr, k.fr fr e.rbB e.lo, g.at hc, f.trans fr, nv, KV, h1, n.up (Up.grown g1 e.rbB)⟩
theorem mem_expect {W0 W : World} {rb ab B : Nat} {E : Nat → Addr} {s : ByteArray} {st : PS} (c : Nat) (h : Mem W0 W rb ab B E s st) (hs : s.size ≤ 1073741824) (hc : c < 256) :
    Calls Tryz.prog 76 #[.pointer (some ⟨rb, 0, none⟩), .int .u8 (c : Int)] W fun e w' => NdOut W0 w' e rb ab B E s (pEnd s st c) := by
  obtain ⟨e, k, g, f, nv, KV, p, n⟩ := h
  unfold pEnd
  by_cases hq : isAt s st.i c = true
  · rw [if_pos hq]
    refine (expect_yes rb s st.i _ nv _ c W p (by omega) g.il hc hq).mono ?_
    rintro e' w' ⟨rfl, h1, g1⟩
    have fr := Fr.grown (r := rb) g1 e.le
    exact ⟨rfl, e.fr fr, k.fr fr e.rbB e.lo, g.at hc, f.trans fr, nv, KV, h1, n.up (Up.grown g1 e.rbB)⟩
  · rw [if_neg hq]
    have lo := e.lo
    refine (expect_no rb s st.i _ nv _ (E 2) c W p (by omega) g.il hc (by simpa using hq) (by omega) e.g2).mono ?_
    rintro e' w' ⟨rfl, g1⟩
    exact ⟨rfl, f.trans (Fr.grown g1 e.le)⟩
theorem Mem.prI {W0 W : World} {rb ab B : Nat} {E : Nat → Addr} {s : ByteArray} {st : PS} (h : Mem W0 W rb ab B E s st) : prI W rb = st.i := by
  obtain ⟨e, k, g, f, nv, KV, p, n⟩ := h
  exact p.prI

set_option maxRecDepth 100000 in
set_option maxHeartbeats 8000000 in
theorem readList_of (rb ab B : Nat) (E : Nat → Addr) (s : ByteArray) (f : Nat) (hnode : NodeC rb ab B E s f) (hs : s.size ≤ 1073741824) (up : Nat) (depth : Nat) (st : PS) (w0 w : World) (h : Mem w0 w rb ab B E s st) (hup : up < st.L.length) (hd : depth ≤ st.i) (hf : s.size < f + st.i) :
    Calls Tryz.prog 77 #[.pointer (some ⟨rb, 0, none⟩), .int .i64 (up : Int), .int .i64 (depth : Int)] w fun e w' => NdOut w0 w' e rb ab B E s (pList s (pNodeF s f (up : Int) depth) st) := by
  have HN : Hid (NodeC rb ab B E s f) := hnode
  have CX : Hid (Calls Tryz.prog 76 #[.pointer (some ⟨rb, 0, none⟩), .int .u8 91] w fun e w' => NdOut w0 w' e rb ab B E s (pEnd s st 91)) := mem_expect 91 h hs (by omega)
  by_cases hq : isAt s st.i 91 = true
  · have e1 : pEnd s st 91 = .ok { st with i := gotI s st.i 91 } := by unfold pEnd; rw [if_pos hq]
    rw [e1] at CX
    have HP : Hid (pList s (pNodeF s f (up : Int) depth) st = if isAt s (gotI s st.i 91) 93 = true then .ok { st with i := gotI s (gotI s st.i 91) 93 } else pKidsF s (pNodeF s f (up : Int) depth) (s.size + 1) { st with i := gotI s (gotI s st.i 91) 93 }) := by show _ = _; unfold pList; rw [if_pos hq]
    have hg1 := gotI_ge s st.i 91
    have hg2 := gotI_ge s (gotI s st.i 91) 93
    obtain ⟨R, hR⟩ : ∃ z, pList s (pNodeF s f (up : Int) depth) st = z := ⟨_, rfl⟩
    rw [hR] at HP ⊢
    clear h hnode hR e1 hq
    go_enter Tryz.func77, Tryz.ntmps77
    go_wp2_with fail
    refine CX.out.mono ?_
    rintro e w1 ⟨rfl, h1⟩
    have CT : Hid (Calls Tryz.prog 73 #[.pointer (some ⟨rb, 0, none⟩), .int .u8 93] w1 fun e w' => e = .returned (.bool (isAt s (gotI s st.i 91) 93)) ∧ Mem w0 w' rb ab B E s { st with i := gotI s (gotI s st.i 91) 93 }) := mem_takes 93 h1 hs (by omega)
    clear h1 CX
    by_cases hq2 : isAt s (gotI s st.i 91) 93 = true
    · have HRE : Hid (R = .ok { st with i := gotI s (gotI s st.i 91) 93 }) := by show _ = _; rw [HP.out, if_pos hq2]
      rw [hq2] at CT
      clear HP hq2
      go_wp2_with fail
      refine CT.out.mono ?_
      rintro e w2 ⟨rfl, h2⟩
      have HM : Hid (Mem w0 w2 rb ab B E s { st with i := gotI s (gotI s st.i 91) 93 }) := h2
      clear h2 CT
      go_wp2
      try simp only [Exit.inBlock, Exit.then]
      refine bodyPost_ret (results_none rfl _ _ _) rfl ?_
      show NdOut _ _ _ _ _ _ _ _ _
      rw [HRE.out]
      exact ⟨rfl, HM.out⟩
    · have HRE : Hid (pKidsF s (pNodeF s f (up : Int) depth) (s.size + 1) { st with i := gotI s (gotI s st.i 91) 93 } = R) := by show _ = _; rw [HP.out, if_neg hq2]
      rw [show isAt s (gotI s st.i 91) 93 = false by simpa using hq2] at CT
      clear HP hq2
      obtain ⟨st1, hst1⟩ : ∃ z : PS, { st with i := gotI s (gotI s st.i 91) 93 } = z := ⟨_, rfl⟩
      have k1 : st.i ≤ st1.i := by rw [← hst1]; exact Nat.le_trans hg1 hg2
      have k2 : st1.L.length = st.L.length := by rw [← hst1]
      rw [hst1] at CT HRE
      clear hst1 hg1 hg2
      go_wp2_with fail
      refine CT.out.mono ?_
      rintro e w2 ⟨rfl, h2⟩
      have HM : Hid (Mem w0 w2 rb ab B E s st1) := h2
      clear h2 CT
      go_wp2
      go_loopw [6] (fun b wr => ∃ (st2 : PS) (g : Nat) (m : Bool), b = .bool m ∧ Hid (Mem w0 wr rb ab B E s st2) ∧ st.i ≤ st2.i ∧ st.L.length ≤ st2.L.length ∧ s.size < g + st2.i ∧ Hid ((if m = true then pKidsF s (pNodeF s f (up : Int) depth) g st2 else pEnd s st2 93) = R)) (fun b wr => 2 * (s.size - prI wr rb) + (match b with | .bool true => 1 | _ => 0))
      case atStart => exact ⟨st1, s.size + 1, true, rfl, HM.out, k1, by omega, by omega, HRE.out⟩
      case round =>
        clear HM HRE k1 k2
        obtain ⟨st2, g, m, rfl, HS, hi2, hl2, hg, HRR⟩ := hrel
        have HI : Hid (prI wr rb = st2.i) := HS.out.prI
        have hil2 := HS.out.2.2.1.il
        cases m with
        | true =>
          obtain ⟨g, rfl⟩ : ∃ q, g = q + 1 := ⟨g - 1, by omega⟩
          have CN : Hid (Calls Tryz.prog 43 #[.pointer (some ⟨rb, 0, none⟩), .int .i64 (up : Int), .int .i64 (depth : Int)] wr fun e w' => NdOut w0 w' e rb ab B E s (pNodeF s f (up : Int) depth st2)) := HN.out (up : Int) depth st2 w0 wr HS.out (.inr ⟨by omega, by omega⟩) (by omega) (by omega)
          cases hp : pNodeF s f (up : Int) depth st2 with
          | error b =>
            have HRE : Hid (R = .error b) := by show _ = _; rw [← HRR.out]; simp only [if_true]; unfold pKidsF; rw [hp]
            rw [hp] at CN
            clear hp HRR
            go_wp2_with fail
            refine CN.out.mono ?_
            rintro e w3 ⟨rfl, f3⟩
            refine ⟨rfl, ?_⟩
            rw [HRE.out]
            exact ⟨rfl, f3⟩
          | ok st3 =>
            obtain ⟨q1, q2, q3⟩ := node_fwd f (up : Int) depth st2 st3 (by omega) HS.out.2.2.1 hp
            have q4 := q1.good.il
            have HRE : Hid ((if isAt s st3.i 44 = true then pKidsF s (pNodeF s f (up : Int) depth) g { st3 with i := gotI s st3.i 44 } else pEnd s { st3 with i := gotI s st3.i 44 } 93) = R) := by
              show _ = _; rw [← HRR.out]; simp only [if_true]; conv => rhs; unfold pKidsF
              rw [hp]
            rw [hp] at CN
            clear hp HRR q1
            go_wp2_with fail
            refine CN.out.mono ?_
            rintro e w3 ⟨rfl, h3⟩
            have CT : Hid (Calls Tryz.prog 73 #[.pointer (some ⟨rb, 0, none⟩), .int .u8 44] w3 fun e w' => e = .returned (.bool (isAt s st3.i 44)) ∧ Mem w0 w' rb ab B E s { st3 with i := gotI s st3.i 44 }) := mem_takes 44 h3 hs (by omega)
            have hg3 := gotI_ge s st3.i 44
            have hg4 := gotI_le (s := s) (i := st3.i) (c := 44) (by omega) q4
            obtain ⟨m', hm'⟩ : ∃ z, isAt s st3.i 44 = z := ⟨_, rfl⟩
            obtain ⟨st4, hst4⟩ : ∃ z : PS, { st3 with i := gotI s st3.i 44 } = z := ⟨_, rfl⟩
            have k1 : st4.i = gotI s st3.i 44 := by rw [← hst4]
            have k2 : st4.L.length = st3.L.length := by rw [← hst4]
            rw [hm', hst4] at CT HRE
            clear h3 CN hst4 hm'
            go_wp2_with fail
            refine CT.out.mono ?_
            rintro e w4 ⟨rfl, h4⟩
            have HM4 : Hid (Mem w0 w4 rb ab B E s st4) := h4
            have HI4 : Hid (prI w4 rb = st4.i) := h4.prI
            clear h4 CT
            go_wp2
            go_roundw
            case rel => exact ⟨st4, g, m', rfl, HM4.out, by omega, by omega, by omega, HRE.out⟩
            case measure => rw [HI4.out, HI.out]; cases m' <;> simp <;> omega
        | false =>
          have CX : Hid (Calls Tryz.prog 76 #[.pointer (some ⟨rb, 0, none⟩), .int .u8 93] wr fun e w' => NdOut w0 w' e rb ab B E s (pEnd s st2 93)) := mem_expect 93 HS.out hs (by omega)
          have HRE : Hid (pEnd s st2 93 = R) := by show _ = _; have := HRR.out; simpa using this
          rw [HRE.out] at CX
          clear HRR HRE
          cases R with
          | error b =>
            go_wp2_with fail
            refine CX.out.mono ?_
            rintro e w3 ⟨rfl, f3⟩
            exact ⟨rfl, rfl, f3⟩
          | ok st3 =>
            go_wp2_with fail
            refine CX.out.mono ?_
            rintro e w3 ⟨rfl, h3⟩
            have HM3 : Hid (Mem w0 w3 rb ab B E s st3) := h3
            clear h3 CX
            go_wp2
            go_end0
            exact ⟨rfl, HM3.out⟩
  · have e1 : pEnd s st 91 = .error (sk s st.i) := by unfold pEnd; rw [if_neg hq]
    have HP : Hid (pList s (pNodeF s f (up : Int) depth) st = .error (sk s st.i)) := by show _ = _; unfold pList; rw [if_neg hq]
    rw [e1] at CX
    clear h hnode e1 hq
    go_enter Tryz.func77, Tryz.ntmps77
    go_wp2_with fail
    refine CX.out.mono ?_
    rintro e w1 ⟨rfl, f1⟩
    refine ⟨rfl, ?_⟩
    rw [HP.out]
    exact ⟨rfl, f1⟩

end Go.Proofs.YtnkebfmlaliddaaGreatDoor

namespace Go.Proofs.YtnkebfmlaliddaaGreatDoor
set_option linter.unusedVariables false

/-- How many kids the first n nodes have. -/
def kS (L : List Nd) : Nat → Nat
  | 0 => 0
  | n + 1 => kS L n + (nth L n).kids.length
theorem kS_same {L L' : List Nd} : ∀ n, (∀ j, j < n → (nth L' j).kids = (nth L j).kids) → kS L' n = kS L n
  | 0, _ => rfl
  | n + 1, h => by
    show kS L' n + (nth L' n).kids.length = kS L n + (nth L n).kids.length
    rw [kS_same n (fun j hj => h j (by omega)), h n (by omega)]
theorem kS_one {L L' : List Nd} {u : Nat} (hu : (nth L' u).kids.length = (nth L u).kids.length + 1) : ∀ n, u < n → (∀ j, j < n → j ≠ u → (nth L' j).kids = (nth L j).kids) → kS L' n = kS L n + 1
  | 0, h, _ => by omega
  | n + 1, h, hk => by
    show kS L' n + (nth L' n).kids.length = kS L n + (nth L n).kids.length + 1
    by_cases e : u = n
    · subst e
      rw [kS_same u (fun j hj => hk j (by omega) (by omega)), hu]; omega
    · rw [kS_one hu n (by omega) (fun j hj hj2 => hk j (by omega) hj2), hk n (by omega) (fun e2 => e e2.symm)]; omega

/-- What holds of the nodes. -/
structure Gr1 (L : List Nd) : Prop where
  up0 : ∀ i : Nat, i < L.length → ((nth L i).up < 0 ↔ i = 0)
  upl : ∀ i : Nat, i < L.length → (nth L i).up < i
  kid : ∀ i k c : Nat, i < L.length → (nth L i).kids[k]? = some c → i < c ∧ c < L.length ∧ (nth L c).up = i
  rise : ∀ i k c d : Nat, i < L.length → (nth L i).kids[k]? = some c → (nth L i).kids[k + 1]? = some d → c < d
  first : ∀ i c : Nat, i < L.length → (nth L i).kids[0]? = some c → c = i + 1
  cnt : 0 < L.length → kS L L.length + 1 = L.length
theorem Gr1.empty : Gr1 [] := ⟨fun i h => absurd h (by simp), fun i h => absurd h (by simp), fun i _ _ h => absurd h (by simp), fun i _ _ _ h => absurd h (by simp), fun i _ h => absurd h (by simp), fun h => absurd h (by simp)⟩
theorem Gr1.congr {L L' : List Nd} (h : Gr1 L) (hl : L'.length = L.length) (hk : ∀ j, (nth L' j).kids = (nth L j).kids) (hu : ∀ j, (nth L' j).up = (nth L j).up) : Gr1 L' := by
  refine ⟨fun i hi => ?_, fun i hi => ?_, fun i k c hi hc => ?_, fun i k c d hi hc hd => ?_, fun i c hi hc => ?_, fun hp => ?_⟩
  · rw [hu]; exact h.up0 i (by omega)
  · rw [hu]; exact h.upl i (by omega)
  · rw [hk] at hc; rw [hu, hl]; exact h.kid i k c (by omega) hc
  · rw [hk] at hc hd; exact h.rise i k c d (by omega) hc hd
  · rw [hk] at hc; exact h.first i c (by omega) hc
  · rw [hl, kS_same _ (fun j _ => hk j)]; exact h.cnt (by omega)
/-- Where a node may begin: the first one, or within node up. -/
def Pre1 (L : List Nd) (up : Int) : Prop := (up = -1 ∧ L = []) ∨ ∃ u : Nat, up = (u : Int) ∧ u < L.length ∧ ((nth L u).kids = [] → L.length = u + 1)
theorem Gr1.grow {L : List Nd} {d : Nd} (h : Gr1 L) (hd : d.kids = []) (hp : Pre1 L d.up) : Gr1 (grown L d) ∧ (∀ j, j < L.length → (nth L j).kids.length ≤ (nth (grown L d) j).kids.length) ∧ (0 ≤ d.up → (nth (grown L d) d.up.toNat).kids ≠ []) ∧ (nth (grown L d) L.length).kids = [] := by
  rcases hp with ⟨hu, rfl⟩ | ⟨u, hu, hul, hf⟩
  · have e : grown [] d = [d] := by unfold grown; rw [if_pos (by omega)]; rfl
    rw [e]
    have n0 : nth [d] 0 = d := rfl
    refine ⟨⟨fun i hi => ?_, fun i hi => ?_, fun i k c hi hc => ?_, fun i k c q hi hc => ?_, fun i c hi hc => ?_, fun _ => ?_⟩, fun j hj => absurd hj (by simp), fun h0 => by omega, by show (nth [d] 0).kids = []; rw [n0, hd]⟩
    · have : i = 0 := by simpa using hi
      subst this; rw [n0]; constructor
      · intro _; rfl
      · intro _; omega
    · have : i = 0 := by simpa using hi
      subst this; rw [n0]; omega
    · have : i = 0 := by simpa using hi
      subst this; rw [n0, hd] at hc; simp at hc
    · have : i = 0 := by simpa using hi
      subst this; rw [n0, hd] at hc; simp at hc
    · have : i = 0 := by simpa using hi
      subst this; rw [n0, hd] at hc; simp at hc
    · show 0 + (nth [d] 0).kids.length + 1 = 1
      rw [n0, hd]; rfl
  · have hL := grown_len L d
    have e := grown_eq L d u (by omega) (by omega)
    have a1 : nth (grown L d) u = { nth L u with kids := (nth L u).kids ++ [L.length] } := by
      rw [e, nth_mod_same _ (by simp; omega), nth_app_old hul]
    have a2 : nth (grown L d) L.length = d := by
      rw [e, nth_mod_other _ (by omega), nth_app_new]
    have a3 : ∀ j, j < L.length → j ≠ u → nth (grown L d) j = nth L j := fun j hj hju => by
      rw [e, nth_mod_other _ hju, nth_app_old hj]
    have au : ∀ j, j < L.length → (nth (grown L d) j).up = (nth L j).up := fun j hj => by
      by_cases hju : j = u
      · subst hju; rw [a1]
      · rw [a3 j hj hju]
    -- a kid of a node: an old one, or the new one
    have ak : ∀ i k c : Nat, i < L.length + 1 → (nth (grown L d) i).kids[k]? = some c → (i < L.length ∧ (nth L i).kids[k]? = some c) ∨ (i = u ∧ k = (nth L u).kids.length ∧ c = L.length) := fun i k c hi hc => by
      by_cases hin : i = L.length
      · subst hin; rw [a2, hd] at hc; simp at hc
      · by_cases hiu : i = u
        · subst hiu
          rw [a1] at hc
          have hc : ((nth L i).kids ++ [L.length])[k]? = some c := hc
          by_cases hk : k < (nth L i).kids.length
          · rw [List.getElem?_append_left hk] at hc; exact .inl ⟨hul, hc⟩
          · rw [List.getElem?_append_right (by omega)] at hc
            right
            have hlt := (List.getElem?_eq_some_iff.1 hc).1
            have hz : k - (nth L i).kids.length = 0 := by simp at hlt; omega
            rw [hz] at hc
            exact ⟨rfl, by omega, by simpa using hc.symm⟩
        · rw [a3 i (by omega) hiu] at hc; exact .inl ⟨by omega, hc⟩
    refine ⟨⟨fun i hi => ?_, fun i hi => ?_, fun i k c hi hc => ?_, fun i k c q hi hc hq => ?_, fun i c hi hc => ?_, fun _ => ?_⟩, fun j hj => ?_, fun _ => ?_, ?_⟩
    · rw [hL] at hi
      by_cases hin : i = L.length
      · subst hin; rw [a2]; constructor
        · intro hx; omega
        · intro hx; omega
      · rw [au i (by omega)]; exact h.up0 i (by omega)
    · rw [hL] at hi
      by_cases hin : i = L.length
      · subst hin; rw [a2]; omega
      · rw [au i (by omega)]; exact h.upl i (by omega)
    · rw [hL] at hi
      rcases ak i k c hi hc with ⟨hi2, hc2⟩ | ⟨rfl, _, rfl⟩
      · obtain ⟨q1, q2, q3⟩ := h.kid i k c hi2 hc2
        exact ⟨q1, by rw [hL]; omega, by rw [au c q2]; exact q3⟩
      · exact ⟨hul, by rw [hL]; omega, by rw [a2]; exact hu⟩
    · rw [hL] at hi
      rcases ak i k c hi hc with ⟨hi2, hc2⟩ | ⟨rfl, hk, rfl⟩
      · rcases ak i (k + 1) q hi hq with ⟨_, hq2⟩ | ⟨rfl, hk, rfl⟩
        · exact h.rise i k c q hi2 hc2 hq2
        · exact (h.kid i k c hi2 hc2).2.1
      · rcases ak i (k + 1) q hi hq with ⟨_, hq2⟩ | ⟨_, hk2, _⟩
        · have := (List.getElem?_eq_some_iff.1 hq2).1; omega
        · omega
    · rw [hL] at hi
      rcases ak i 0 c hi hc with ⟨hi2, hc2⟩ | ⟨rfl, hk, rfl⟩
      · exact h.first i c hi2 hc2
      · exact hf (List.eq_nil_of_length_eq_zero hk.symm)
    · rw [hL]
      show kS (grown L d) L.length + (nth (grown L d) L.length).kids.length + 1 = L.length + 1
      rw [a2, hd, kS_one (L := L) (u := u) (by rw [a1]; simp) L.length hul (fun j hj hju => by rw [a3 j hj hju])]
      have := h.cnt (by omega)
      simp; omega
    · by_cases hju : j = u
      · subst hju; rw [a1]; simp
      · rw [a3 j hj hju]; exact Nat.le_refl _
    · rw [show d.up.toNat = u by omega, a1]; simp
    · rw [a2, hd]

/-- A step: the nodes hold, none is lost, no kid is lost. -/
structure Fw1 (L L' : List Nd) : Prop where
  gr : Gr1 L'
  len : L.length ≤ L'.length
  kids : ∀ j, j < L.length → (nth L j).kids.length ≤ (nth L' j).kids.length
theorem Fw1.refl {L : List Nd} (h : Gr1 L) : Fw1 L L := ⟨h, Nat.le_refl _, fun _ _ => Nat.le_refl _⟩
theorem Fw1.trans {L L1 L2 : List Nd} (h : Fw1 L L1) (k : Fw1 L1 L2) : Fw1 L L2 := ⟨k.gr, Nat.le_trans h.len k.len, fun j hj => Nat.le_trans (h.kids j hj) (k.kids j (Nat.lt_of_lt_of_le hj h.len))⟩
def NodeOk (u : Nat) (node : PS → Except Nat PS) : Prop := ∀ a b, Gr1 a.L → Pre1 a.L (u : Int) → node a = .ok b → Fw1 a.L b.L ∧ (nth b.L u).kids ≠ []
theorem kids_ok {s : ByteArray} {u : Nat} {node : PS → Except Nat PS} (hn : NodeOk u node) : ∀ f st st', Gr1 st.L → Pre1 st.L (u : Int) → kidsF s node f st = .ok st' → Fw1 st.L st'.L
  | 0, st, st', h, hp, e => by cases e
  | f + 1, st, st', h, hp, e => by
    unfold kidsF at e
    split at e
    · cases e
    · rename_i st2 he
      obtain ⟨h2, k2⟩ := hn _ _ h hp he
      split at e
      · have hul : u < st2.L.length := by
          rcases hp with ⟨hx, _⟩ | ⟨u', hx, hul, _⟩
          · omega
          · have : u = u' := by omega
            subst this
            exact Nat.lt_of_lt_of_le hul h2.len
        exact h2.trans (kids_ok hn f { st2 with i := gotI s st2.i 44 } _ h2.gr (.inr ⟨u, rfl, hul, fun e => absurd e k2⟩) e)
      · split at e
        · cases e
        · injection e with e; subst e; exact h2
theorem body_ok {s : ByteArray} {kind u : Nat} {node : PS → Except Nat PS} (hn : NodeOk u node) {st st' : PS} (h : Gr1 st.L) (hp : Pre1 st.L (u : Int)) (e : bodyR s kind u node st = .ok st') : Fw1 st.L st'.L := by
  unfold bodyR at e
  split at e
  · split at e
    · cases e
    · split at e
      · injection e with e; subst e; exact Fw1.refl h
      · rename_i i2 _ _
        exact kids_ok hn _ { st with i := sk s i2 } _ h hp e
  · split at e
    · split at e
      · cases e
      · split at e
        · cases e
        · rename_i i2 _ _ st3 he
          obtain ⟨h3, _⟩ := hn { st with i := i2 } st3 h hp he
          split at e
          · cases e
          · injection e with e; rw [← e]; exact h3
    · split at e
      · split at e
        · cases e
        · rename_i i2 t he
          injection e with e
          subst e
          have hl : (withText st.L u t).length = st.L.length := by unfold withText; simp
          have hk := nth_text_kids st.L u
          refine ⟨h.congr hl (fun j => hk j t) (fun j => ?_), by show st.L.length ≤ (withText st.L u t).length; omega, fun j _ => by show _ ≤ (nth (withText st.L u t) j).kids.length; rw [hk]; exact Nat.le_refl _⟩
          show (nth (withText st.L u t) j).up = _
          unfold withText
          by_cases e : j = u
          · subst e
            by_cases h : j < st.L.length
            · rw [nth_mod_same _ h]
            · unfold nth; rw [List.getElem?_modify]; simp [h]
          · rw [nth_mod_other _ e]
      · injection e with e; subst e; exact Fw1.refl h
theorem node_ok {s : ByteArray} : ∀ f (up : Int) depth st st', Gr1 st.L → Pre1 st.L up → nodeF s f up depth st = .ok st' → Fw1 st.L st'.L ∧ st.L.length < st'.L.length ∧ (0 ≤ up → (nth st'.L up.toNat).kids ≠ [])
  | 0, up, depth, st, st', h, hp, e => by cases e
  | f + 1, up, depth, st, st', h, hp, e => by
    unfold nodeF at e
    dsimp only at e
    split at e
    · cases e
    · split at e
      · cases e
      · rename_i i2 er2 a he
        obtain ⟨d, hd⟩ : ∃ d : Nd, (⟨(findF kindsL (s.extract (sk s st.i) (run letter s (sk s st.i))) 0).toNat, a, [], [], up⟩ : Nd) = d := ⟨_, rfl⟩
        have hdk : d.kids = [] := by rw [← hd]
        have hdu : d.up = up := by rw [← hd]
        rw [hd] at e
        obtain ⟨g1, g2, g3, g4⟩ := h.grow hdk (by rw [hdu]; exact hp)
        have hl := grown_len st.L d
        have hb := body_ok (u := st.L.length) (fun a b ga pa hab => by
          obtain ⟨q1, _, q3⟩ := node_ok f (st.L.length : Int) (depth + 1) a b ga pa hab
          exact ⟨q1, by have := q3 (by omega); simpa using this⟩) (st := { i := i2, L := grown st.L d, er := er2 }) g1 (.inr ⟨st.L.length, rfl, by show st.L.length < (grown st.L d).length; omega, fun _ => hl⟩) e
        have hlen : (grown st.L d).length ≤ st'.L.length := hb.len
        refine ⟨Fw1.trans ⟨g1, by omega, g2⟩ hb, by omega, fun h0 => ?_⟩
        have h3 := g3 (by omega)
        rw [hdu] at h3
        have hlt : up.toNat < (grown st.L d).length := by
          rcases hp with ⟨hx, _⟩ | ⟨u', hx, hul, _⟩
          · omega
          · omega
        have h4 : (nth (grown st.L d) up.toNat).kids.length ≤ (nth st'.L up.toNat).kids.length := hb.kids up.toNat hlt
        intro h5
        rw [h5] at h4
        exact h3 (List.eq_nil_of_length_eq_zero (by simpa using h4))
/-- TreeGrown's facts. -/
theorem parse_grown {s : ByteArray} {L : List Nd} (h : parse s = .ok L) : Gr1 L ∧ 0 < L.length := by
  unfold parse at h
  split at h
  · cases h
  · split at h
    · cases h
    · rename_i st he
      split at h
      · cases h
      · split at h
        · cases h
        · injection h with h
          subst h
          obtain ⟨q1, q2, _⟩ := node_ok _ _ _ _ _ Gr1.empty (.inl ⟨rfl, rfl⟩) he
          exact ⟨q1.gr, Nat.lt_of_le_of_lt (Nat.zero_le _) q2⟩

end Go.Proofs.YtnkebfmlaliddaaGreatDoor

namespace Go.Proofs.YtnkebfmlaliddaaGreatDoor
open Go.RowKit
set_option linter.unusedVariables false

def avV (ab : Nat) : Value := .slice (some ⟨ab, 0, none⟩) 12 12
theorem nd_len (d : Nd) (a k : Value) : (ndCells d a k).length = 5 := rfl
/-- The reference's nodes in memory, all behind B. -/
structure RD (W : World) (B : Nat) (nv : Value) (L : List Nd) (AV : Nat → Nat) (KV : Nat → Value) : Prop where
  nr : NR W B 74 5 nv L.length (fun j => ndCells (nth L j) (avV (AV j)) (KV j)) KV (fun j => (nth L j).kids)
  len : ∀ j, j < L.length → (nth L j).attr.length = 12
  att : ∀ j, j < L.length → B ≤ AV j ∧ Row12 W (AV j) (fun k => .int .i64 ((nth L j).attr[k]?.getD 0))
  sepK : ∀ i j, i < L.length → j < L.length → (KV j).ownBlock ≠ some (AV i)
  sepN : ∀ i, i < L.length → nv.ownBlock ≠ some (AV i)
section
variable {W W' : World} {B : Nat} {nv : Value} {L : List Nd} {AV : Nat → Nat} {KV : Nat → Value}
theorem RD.nothing (W : World) (B : Nat) (AV : Nat → Nat) (KV : Nat → Value) : RD W B (.slice none 0 0) [] AV KV :=
  ⟨NR.nothing _ _ _ _ _ _ _, fun j h => absurd h (by show ¬ j < 0; omega), fun j h => absurd h (by show ¬ j < 0; omega), fun i j h => absurd h (by show ¬ i < 0; omega), fun i h => absurd h (by show ¬ i < 0; omega)⟩
theorem RD.up (h : RD W B nv L AV KV) (hu : Up B W W') : RD W' B nv L AV KV :=
  ⟨h.nr.up hu, h.len, fun j hj => ⟨(h.att j hj).1, (h.att j hj).2.keep hu.size (hu.block _ (h.att j hj).1 (h.att j hj).2.1)⟩, h.sepK, h.sepN⟩
/-- As attrs reads them. -/
theorem RD.ids (h : RD W B nv L AV KV) {rb : Nat} (hr : rb < B) : IdsAt W rb nv L := by
  by_cases hL : L = []
  · subst hL
    obtain ⟨xs, hx⟩ := h.nr.row
    rcases own_form hx with ⟨rfl, _⟩ | ⟨g, cap, rfl, h1, h2, h3, h4⟩
    · exact .inl ⟨rfl, rfl⟩
    · exact .inr ⟨g, cap, AV, rfl, h2, by omega, fun k hk => absurd hk (by show ¬ k < 0; omega)⟩
  · have hn : 0 < L.length := List.length_pos_iff.2 hL
    obtain ⟨g, cap, rfl, h1, h2, h3, h4⟩ := h.nr.form hn
    refine .inr ⟨g, cap, AV, rfl, h2, by omega, fun k hk => ⟨h.nr.cell hk rfl, (h.att k hk).2.1, by have := (h.att k hk).1; omega, ?_⟩⟩
    have := ((h.att k hk).2.2 0 (by omega)).1
    rw [this]
    have e : (L.map (fun d => d.attr[0]?.getD 0))[k]?.getD 0 = (nth L k).attr[0]?.getD 0 := by
      unfold nth
      rw [List.getElem?_map, List.getElem?_eq_getElem hk]
      rfl
    rw [e]
/-- A node more. -/
theorem RD.app {nv' : Value} {xs : List Value} {d : Nd} {ab : Nat} (h : RD W B nv L AV KV) (hx : W.ownsRow B 74 5 nv L.length xs) (hx' : W'.ownsRow B 74 5 nv' (L.length + 1) (xs ++ ndCells d (avV ab) (.slice none 0 0))) (hg : W.grownBy W' nv.ownBlock) (hat : nv'.ownBlock = nv.ownBlock ∨ nv'.ownBlock = some W.heap.size)
    (hl : d.attr.length = 12) (hk : d.kids = []) (hB : B ≤ ab) (ha : Row12 W ab (fun k => .int .i64 (d.attr[k]?.getD 0))) (haK : ∀ j, j < L.length → (KV j).ownBlock ≠ some ab) (haN : nv.ownBlock ≠ some ab) :
    RD W' B nv' (L ++ [d]) (fun j => if j = L.length then ab else AV j) (fun j => if j = L.length then .slice none 0 0 else KV j) := by
  have hl2 : (L ++ [d]).length = L.length + 1 := by simp
  have keepA : ∀ j, j < L.length → Row12 W' (AV j) (fun k => .int .i64 ((nth L j).attr[k]?.getD 0)) := fun j hj => (h.att j hj).2.keep hg.size (hg.block _ (h.att j hj).2.1 (fun e => h.sepN j hj e.symm))
  refine ⟨?_, fun j hj => ?_, fun j hj => ?_, fun i j hi hj => ?_, fun i hi => ?_⟩
  · rw [hl2]
    refine (h.nr.app (by decide) hx hx' hg (nd_len _ _ _)).congr (fun j hj => ?_) (fun j hj => rfl) (fun j hj => ?_)
    · by_cases e : j = L.length
      · subst e; simp only [if_true]; rw [nth_app_new]
      · rw [if_neg e, if_neg e, if_neg e, nth_app_old (by omega)]
    · by_cases e : j = L.length
      · subst e; rw [if_pos rfl, nth_app_new, hk]
      · rw [if_neg e, nth_app_old (by omega)]
  · by_cases e : j = L.length
    · subst e; rw [nth_app_new]; exact hl
    · rw [nth_app_old (by omega)]; exact h.len j (by omega)
  · by_cases e : j = L.length
    · subst e
      rw [if_pos rfl, nth_app_new]
      exact ⟨hB, ha.keep hg.size (hg.block _ ha.1 (fun e => haN e.symm))⟩
    · rw [if_neg e, nth_app_old (by omega)]
      exact ⟨(h.att j (by omega)).1, keepA j (by omega)⟩
  · by_cases e : j = L.length
    · subst e; simp [Value.ownBlock]
    · rw [if_neg e]
      by_cases e2 : i = L.length
      · subst e2; rw [if_pos rfl]; exact haK j (by omega)
      · rw [if_neg e2]; exact h.sepK i j (by omega) (by omega)
  · have hlt : (if i = L.length then ab else AV i) < W.heap.size := by
      by_cases e : i = L.length
      · rw [if_pos e]; exact ha.1
      · rw [if_neg e]; exact (h.att i (by omega)).2.1
    rcases hat with e | e
    · rw [e]
      by_cases e2 : i = L.length
      · rw [if_pos e2]; exact haN
      · rw [if_neg e2]; exact h.sepN i (by omega)
    · rw [e]
      intro q
      injection q with q
      omega
/-- The text of a node. -/
theorem RD.setText {g cap k : Nat} (h : RD W B (.slice (some ⟨g, 0, none⟩) L.length cap) L AV KV) (hk : k < L.length) (x : List UInt8) :
    RD (W.setCell ⟨g, k * 5 + 2, none⟩ (.string ⟨x.toArray⟩)) B (.slice (some ⟨g, 0, none⟩) L.length cap) (withText L k x) AV KV := by
  have hl2 : (withText L k x).length = L.length := by unfold withText; simp
  have hne : ∀ j, j < L.length → AV j ≠ g := fun j hj e => h.sepN j hj (by rw [e]; rfl)
  have hat : ∀ j, (nth (withText L k x) j).attr = (nth L j).attr ∧ (nth (withText L k x) j).kids = (nth L j).kids := fun j => by
    unfold withText
    by_cases e : j = k
    · subst e; rw [nth_mod_same _ hk]; exact ⟨rfl, rfl⟩
    · rw [nth_mod_other _ e]; exact ⟨rfl, rfl⟩
  refine ⟨?_, fun j hj => ?_, fun j hj => ?_, fun i j hi hj => h.sepK i j (by omega) (by omega), fun i hi => h.sepN i (by omega)⟩
  · rw [hl2]
    refine (h.nr.set (by decide) hk (by omega) (.string ⟨x.toArray⟩)).congr (fun j hj => ?_) (fun j hj => rfl) (fun j hj => (hat j).2)
    by_cases e : j = k
    · subst e; rw [if_pos rfl]; unfold withText; rw [nth_mod_same _ hk]; rfl
    · rw [if_neg e]; unfold withText; rw [nth_mod_other _ e]
  · rw [(hat j).1]; exact h.len j (by omega)
  · rw [(hat j).1]; exact ⟨(h.att j (by omega)).1, (h.att j (by omega)).2.other (hne j (by omega)) _⟩
/-- A kid more. -/
theorem RD.kid {g cap : Nat} {kv' : Value} {k c : Nat} (h : RD W B (.slice (some ⟨g, 0, none⟩) L.length cap) L AV KV) (hk : k < L.length)
    (hr : W'.ownsRow B 3 1 kv' ((nth L k).kids.length + 1) (kInts ((nth L k).kids ++ [c]))) (hg : W.grownBy W' (KV k).ownBlock) (hat : kv'.ownBlock = (KV k).ownBlock ∨ kv'.ownBlock = some W.heap.size) :
    RD (W'.setCell ⟨g, k * 5 + 3, none⟩ kv') B (.slice (some ⟨g, 0, none⟩) L.length cap) (L.modify k fun u => { u with kids := u.kids ++ [c] }) AV (fun j => if j = k then kv' else KV j) := by
  have hl2 : (L.modify k fun u => { u with kids := u.kids ++ [c] }).length = L.length := by simp
  have hne : ∀ j, j < L.length → AV j ≠ g := fun j hj e => h.sepN j hj (by rw [e]; rfl)
  have ha : ∀ j, (nth (L.modify k fun u => { u with kids := u.kids ++ [c] }) j).attr = (nth L j).attr := fun j => by
    by_cases e : j = k
    · subst e; rw [nth_mod_same _ hk]
    · rw [nth_mod_other _ e]
  refine ⟨?_, fun j hj => ?_, fun j hj => ?_, fun i j hi hj => ?_, fun i hi => h.sepN i (by omega)⟩
  · rw [hl2]
    refine (h.nr.kid (t := 3) (by decide) hk (by omega) hr hg hat).congr (fun j hj => ?_) (fun j hj => rfl) (fun j hj => ?_)
    · by_cases e : j = k
      · subst e; simp only [if_true]; rw [nth_mod_same _ hk]; rfl
      · rw [if_neg e, if_neg e, nth_mod_other _ e]
    · by_cases e : j = k
      · subst e; rw [if_pos rfl, nth_mod_same _ hk]
      · rw [if_neg e, nth_mod_other _ e]
  · rw [ha j]; exact h.len j (by omega)
  · rw [ha j]
    exact ⟨(h.att j (by omega)).1, ((h.att j (by omega)).2.keep hg.size (hg.block _ (h.att j (by omega)).2.1 (fun e => h.sepK j k (by omega) hk e.symm))).other (hne j (by omega)) _⟩
  · by_cases e : j = k
    · rw [if_pos e]
      rcases hat with q | q
      · rw [q]; exact h.sepK i k (by omega) hk
      · rw [q]; intro e2; injection e2 with e2; have := (h.att i (by omega)).2.1; omega
    · rw [if_neg e]; exact h.sepK i j (by omega) (by omega)
end
end Go.Proofs.YtnkebfmlaliddaaGreatDoor
