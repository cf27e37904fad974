/-
  A node as the program reads it, as a function; what holds of its states.
-/
import Derived.Test.YtepeepipgkejiadGreatDoorTRas
namespace Go.Proofs.YtepeepipgkejiadGreatDoor
open Go.RowKit
set_option linter.unusedVariables false

def roomO (n depth : Nat) : Option Nat := if 100 ≤ n then some 3 else if 12 ≤ depth then some 4 else none
theorem room_eo (n depth : Nat) (E : Nat → Addr) : roomV n depth (E 3) (E 4) = eoV E (roomO n depth) := by
  unfold roomV roomO; split
  · rfl
  · split <;> rfl
def pEnd (s : ByteArray) (st : PS) (c : Nat) : Except Nat PS := if isAt s st.i c = true then .ok { st with i := gotI s st.i c } else .error (sk s st.i)
def pKidsF (s : ByteArray) (node : PS → Except Nat PS) : Nat → PS → Except Nat PS
  | 0, st => .error st.i
  | f + 1, st => match node st with
    | .error b => .error b
    | .ok st2 => if isAt s st2.i 44 = true then pKidsF s node f { st2 with i := gotI s st2.i 44 } else pEnd s { st2 with i := gotI s st2.i 44 } 93
def pList (s : ByteArray) (node : PS → Except Nat PS) (st : PS) : Except Nat PS :=
  if isAt s st.i 91 = true then (if isAt s (gotI s st.i 91) 93 = true then .ok { st with i := gotI s (gotI s st.i 91) 93 } else pKidsF s node (s.size + 1) { st with i := gotI s (gotI s st.i 91) 93 }) else .error (sk s st.i)
def pThen (r : Except Nat PS) (g : PS → Except Nat PS) : Except Nat PS := match r with
  | .error b => .error b
  | .ok st => g st
def pOne (s : ByteArray) (node : PS → Except Nat PS) (st : PS) : Except Nat PS :=
  if isAt s st.i 91 = true then pThen (node { st with i := gotI s st.i 91 }) fun st2 => pEnd s st2 93 else .error (sk s st.i)
def pText (s : ByteArray) (idx : Nat) (st : PS) : Except Nat PS := match quoR s st.i with
  | .error b => .error b
  | .ok (i2, t) => .ok { st with i := i2, L := withText st.L idx t }
def pBody (s : ByteArray) (kind idx : Nat) (node : PS → Except Nat PS) (st : PS) : Except Nat PS :=
  if kind = 5 then pText s idx st else if kind = 6 then .ok st else if kind = 3 ∨ kind = 4 then pOne s node st else pList s node st
def pBr (s : ByteArray) (kind idx i : Nat) (er : Flt) (L : List Nd) : Except Nat PS :=
  if isAt s i 123 = true then (match pAttrsF s kind idx (s.size + 1) (gotI s i 123) er L [] with
    | .error b => .error b
    | .ok (i2, er2, L2) => .ok ⟨i2, L2, er2⟩) else .ok ⟨gotI s i 123, L, er⟩
def wordAt (s : ByteArray) (i : Nat) : ByteArray := s.extract (sk s i) (run letter s (sk s i))
def kindAt (s : ByteArray) (i : Nat) : Int := findF kindsL (wordAt s i) 0
def pNodeF (s : ByteArray) : Nat → Int → Nat → PS → Except Nat PS
  | 0, _, _, st => .error st.i
  | f + 1, up, depth, st =>
    if kindAt s st.i < 0 then .error (sk s st.i) else
    pThen (pBr s (kindAt s st.i).toNat st.L.length (run letter s (sk s st.i)) (keepF st.er (roomO st.L.length depth) (sk s st.i)) (grown st.L ⟨(kindAt s st.i).toNat, withoutL, [], [], up⟩)) fun st1 => pBody s (kindAt s st.i).toNat st.L.length (pNodeF s f (st.L.length : Int) (depth + 1)) st1

/-- What holds of every state. -/
structure Good (s : ByteArray) (st : PS) : Prop where
  il : st.i ≤ s.size
  ll : st.L.length ≤ st.i
  kl : ∀ j, (nth st.L j).kids.length ≤ st.L.length
/-- A step forward. -/
structure Fwd (s : ByteArray) (st st' : PS) : Prop where
  good : Good s st'
  ge : st.i ≤ st'.i
  lg : st.L.length ≤ st'.L.length
theorem gotI_ge (s : ByteArray) (i c : Nat) : i ≤ gotI s i c := by unfold gotI; have := sk_ge s i; split <;> omega
theorem Good.at {s : ByteArray} {st : PS} (h : Good s st) {c : Nat} (hc : c < 256) : Good s { st with i := gotI s st.i c } :=
  ⟨gotI_le hc h.il, Nat.le_trans h.ll (gotI_ge _ _ _), h.kl⟩
theorem pEnd_fwd {s : ByteArray} {st st' : PS} {c : Nat} (hc : c < 256) (h : Good s st) (e : pEnd s st c = .ok st') : Fwd s st st' ∧ st.i < st'.i := by
  unfold pEnd at e
  split at e
  · rename_i hq
    injection e with e
    subst e
    have := gotI_at hq
    have := sk_ge s st.i
    exact ⟨⟨h.at hc, gotI_ge _ _ _, Nat.le_refl _⟩, by show st.i < gotI s st.i c; omega⟩
  · cases e
theorem Fwd.trans {s : ByteArray} {a b c : PS} (h : Fwd s a b) (k : Fwd s b c) : Fwd s a c := ⟨k.good, Nat.le_trans h.ge k.ge, Nat.le_trans h.lg k.lg⟩
theorem kids_fwd {s : ByteArray} {N : Nat} {node : PS → Except Nat PS} (hnode : ∀ a b, Good s a → N ≤ a.L.length → node a = .ok b → Fwd s a b ∧ a.i < b.i) : ∀ f st st', Good s st → N ≤ st.L.length → pKidsF s node f st = .ok st' → Fwd s st st' ∧ st.i < st'.i
  | 0, st, st', h, hN, e => by cases e
  | f + 1, st, st', h, hN, e => by
    unfold pKidsF at e
    split at e
    · cases e
    · rename_i st2 he
      obtain ⟨h2, l2⟩ := hnode _ _ h hN he
      have hg := h2.good.at (c := 44) (by omega)
      have h3 : Fwd s st { st2 with i := gotI s st2.i 44 } := ⟨hg, Nat.le_trans h2.ge (gotI_ge _ _ _), h2.lg⟩
      have l3 : st.i < gotI s st2.i 44 := Nat.lt_of_lt_of_le l2 (gotI_ge _ _ _)
      split at e
      · obtain ⟨h4, l4⟩ := kids_fwd hnode f _ _ hg (Nat.le_trans hN h2.lg) e
        exact ⟨h3.trans h4, Nat.lt_trans l3 l4⟩
      · obtain ⟨h4, l4⟩ := pEnd_fwd (by omega) hg e
        exact ⟨h3.trans h4, Nat.lt_trans l3 l4⟩

end Go.Proofs.YtepeepipgkejiadGreatDoor
