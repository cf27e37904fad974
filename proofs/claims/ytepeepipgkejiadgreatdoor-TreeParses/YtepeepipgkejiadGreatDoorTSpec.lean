/-
  T1 as a function: what a tree's text means. Both readers are to be held against it.
-/
import Derived.Test.YtepeepipgkejiadGreatDoorTTab
namespace Go.Proofs.YtepeepipgkejiadGreatDoor
set_option linter.unusedVariables false

/-- A node: kind, the twelve attributes, text, kids, what is around it. -/
structure Nd where
  kind : Nat
  attr : List Int
  text : List UInt8
  kids : List Nat
  up : Int

/-- The first other fault: its errno and its place. -/
abbrev Flt := Option (Nat × Nat)
def addF (f : Flt) (c p : Nat) : Flt := match f with
  | none => some (c, p)
  | some x => some x
def addIf (b : Bool) (f : Flt) (c p : Nat) : Flt := if b then addF f c p else f

/-- The state behind a part: the place, the nodes, the first other fault. A fault of the grammar is its place alone. -/
structure PS where
  i : Nat
  L : List Nd
  er : Flt

/-- A sign that must stand there: the place behind it. -/
def mustR (s : ByteArray) (i c : Nat) : Except Nat Nat := if isAt s i c then .ok (gotI s i c) else .error (sk s i)
/-- Whether a number is wrong by its digits. -/
def numBad (s : ByteArray) (j k : Nat) : Bool := decide (k = j ∨ j + 6 < k ∨ (j + 1 < k ∧ bat s j = 48))
/-- Does an earlier node have the id? -/
def hasId (L : List Nd) (n : Int) : Bool := L.any fun d => d.attr[0]?.getD 0 == n

/-- One attribute: place, fault, attributes, those seen. -/
def attr1 (s : ByteArray) (kind : Nat) (L : List Nd) (i : Nat) (er : Flt) (a : List Int) (seen : List Nat) : Except Nat (Nat × Flt × List Int × List Nat) :=
  let at_ := sk s i
  let k := run letter s at_
  if k = at_ then .error at_ else
  match mustR s k 61 with
  | .error b => .error b
  | .ok i2 =>
    let j := sk s i2
    let e := run digit s j
    if numBad s j e then .error j else
    let n := dv s j (e - j)
    let ix := findF namesL (s.extract at_ k) 0
    if ix < 0 ∨ ownsB kind ix.toNat = false then .ok (e, addF er 7 at_, a, seen)
    else .ok (e, addIf (decide (ix = 0 ∧ 0 < n) && hasId L n) (addIf (decide (mostL[ix.toNat]?.getD 0 < n)) (addIf (seen.contains ix.toNat) er 5 at_) 6 j) 5 j, a.set ix.toNat n, ix.toNat :: seen)

/-- Attributes, up to the closing brace. -/
def attrsF (s : ByteArray) (kind : Nat) (L : List Nd) : Nat → Nat → Flt → List Int → List Nat → Except Nat (Nat × Flt × List Int)
  | 0, i, _, _, _ => .error i
  | f + 1, i, er, a, seen => match attr1 s kind L i er a seen with
    | .error b => .error b
    | .ok (i2, er2, a2, seen2) =>
      if isAt s i2 59 then attrsF s kind L f (gotI s i2 59) er2 a2 seen2
      else match mustR s i2 125 with
        | .error b => .error b
        | .ok i3 => .ok (i3, er2, a2)
/-- The attributes of a node, if there are braces. -/
def attrsR (s : ByteArray) (kind : Nat) (L : List Nd) (i : Nat) (er : Flt) : Except Nat (Nat × Flt × List Int) :=
  if isAt s i 123 then attrsF s kind L (s.size + 1) (gotI s i 123) er withoutL [] else .ok (sk s i, er, withoutL)

/-- A node more, and a kid more of what is around it. -/
def grown (L : List Nd) (d : Nd) : List Nd :=
  if d.up < 0 then L ++ [d] else (L.modify d.up.toNat fun u => { u with kids := u.kids ++ [L.length] }) ++ [d]
def withText (L : List Nd) (k : Nat) (t : List UInt8) : List Nd := L.modify k fun u => { u with text := t }

/-- Nodes between commas. -/
def kidsF (s : ByteArray) (node : PS → Except Nat PS) : Nat → PS → Except Nat PS
  | 0, st => .error st.i
  | f + 1, st => match node st with
    | .error b => .error b
    | .ok st2 => if isAt s st2.i 44 then kidsF s node f { st2 with i := gotI s st2.i 44 } else match mustR s st2.i 93 with
      | .error b => .error b
      | .ok i3 => .ok { st2 with i := i3 }

/-- The body of node k. -/
def bodyR (s : ByteArray) (kind k : Nat) (node : PS → Except Nat PS) (st : PS) : Except Nat PS :=
  if kind < 3 then match mustR s st.i 91 with
    | .error b => .error b
    | .ok i2 => if isAt s i2 93 then .ok { st with i := gotI s i2 93 } else kidsF s node (s.size + 1) { st with i := sk s i2 }
  else if kind < 5 then match mustR s st.i 91 with
    | .error b => .error b
    | .ok i2 => match node { st with i := i2 } with
      | .error b => .error b
      | .ok st3 => match mustR s st3.i 93 with
        | .error b => .error b
        | .ok i4 => .ok { st3 with i := i4 }
  else if kind = 5 then match quoR s st.i with
    | .error b => .error b
    | .ok (i2, t) => .ok { st with i := i2, L := withText st.L k t }
  else .ok st

/-- One node, and what is within. -/
def nodeF (s : ByteArray) : Nat → Int → Nat → PS → Except Nat PS
  | 0, _, _, st => .error st.i
  | f + 1, up, depth, st =>
    let at_ := sk s st.i
    let k := run letter s at_
    let kind := findF kindsL (s.extract at_ k) 0
    if k = at_ ∨ kind < 0 then .error at_ else
    match attrsR s kind.toNat st.L k (addIf (decide (12 ≤ depth)) (addIf (decide (100 ≤ st.L.length)) st.er 3 at_) 4 at_) with
    | .error b => .error b
    | .ok (i2, er2, a) => bodyR s kind.toNat st.L.length (nodeF s f st.L.length (depth + 1)) { i := i2, L := grown st.L ⟨kind.toNat, a, [], [], up⟩, er := er2 }

/-- T1: the nodes, or an errno and its place. -/
def parse (s : ByteArray) : Except (Nat × Nat) (List Nd) :=
  if 4000 < s.size then .error (1, 0) else
  match nodeF s (s.size + 1) (-1) 0 ⟨0, [], none⟩ with
  | .error b => .error (2, b)
  | .ok st => if sk s st.i < s.size then .error (2, sk s st.i) else match st.er with
    | some f => .error f
    | none => .ok st.L

end Go.Proofs.YtepeepipgkejiadGreatDoor
