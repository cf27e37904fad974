/-
  The program's reader: readAttribute.
-/
import Derived.Test.YtepeepipgkejiadGreatDoorTAof
import Derived.Test.YtepeepipgkejiadGreatDoorTNy
import Derived.Test.YtepeepipgkejiadGreatDoorTKeep
import Derived.Test.YtepeepipgkejiadGreatDoorTRb
namespace Go.Proofs.YtepeepipgkejiadGreatDoor
open Go.RowKit
set_option linter.unusedVariables false

/-- The first other fault as a value; E tells where the errors lie. -/
def fltV (E : Nat → Addr) : Flt → Value
  | none => .nilIface
  | some (c, p) => faultV (p : Int) (errV (E c))
/-- What stays while a text is read: the table and the errors. -/
structure Env (W : World) (rb ab B : Nat) (E : Nat → Addr) : Prop where
  tab : Tab W ab
  lo : 12 ≤ rb
  rbB : rb < B
  abB : ab < B
  ne : ab ≠ rb
  le : B ≤ W.heap.size
  g2 : W.cell? ⟨8, 0, none⟩ = some (errV (E 2))
  g3 : W.cell? ⟨1, 0, none⟩ = some (errV (E 3))
  g4 : W.cell? ⟨2, 0, none⟩ = some (errV (E 4))
  g5 : W.cell? ⟨3, 0, none⟩ = some (errV (E 5))
  g6 : W.cell? ⟨4, 0, none⟩ = some (errV (E 6))
  g7 : W.cell? ⟨5, 0, none⟩ = some (errV (E 7))
theorem Env.fr {W W' : World} {rb ab B : Nat} {E : Nat → Addr} (h : Env W rb ab B E) (f : Fr B rb W W') : Env W' rb ab B E := by
  have lo := h.lo
  have rB := h.rbB
  exact ⟨h.tab.fr f h.abB h.ne, h.lo, h.rbB, h.abB, h.ne, Nat.le_trans h.le f.size, f.cell h.g2 (by show 8 < B; omega) (by show 8 ≠ rb; omega), f.cell h.g3 (by show 1 < B; omega) (by show 1 ≠ rb; omega), f.cell h.g4 (by show 2 < B; omega) (by show 2 ≠ rb; omega), f.cell h.g5 (by show 3 < B; omega) (by show 3 ≠ rb; omega), f.cell h.g6 (by show 4 < B; omega) (by show 4 ≠ rb; omega), f.cell h.g7 (by show 5 < B; omega) (by show 5 ≠ rb; omega)⟩

/-- keep, whatever is told. -/
def keepF (er : Flt) (eo : Option Nat) (p : Nat) : Flt := match eo with
  | none => er
  | some c => addF er c p
def eoV (E : Nat → Addr) : Option Nat → Value
  | none => .nilIface
  | some c => errV (E c)
theorem keep_all (rb : Nat) (s : ByteArray) (i : Nat) (av nv : Value) (E : Nat → Addr) (er : Flt) (eo : Option Nat) (p : Nat) (w : World) (h : PR w rb s i av nv (fltV E er)) :
    Calls Tryz.prog 66 #[.pointer (some ⟨rb, 0, none⟩), eoV E eo, .int .i64 (p : Int)] w fun e w' => e = .returned (.tuple #[]) ∧ PR w' rb s i av nv (fltV E (keepF er eo p)) ∧ w.grownBy w' (some rb) := by
  cases eo with
  | none => exact keep_nil rb s i av nv _ p w h
  | some c =>
    cases er with
    | none => exact keep_first rb s i av nv (E c) p w h
    | some f => obtain ⟨c2, p2⟩ := f; exact keep_later rb s i av nv (E c) (E c2) p p2 w h

/-- Blocks but two are as they were. -/
structure F2 (r b : Nat) (W W' : World) : Prop where
  os : W'.os = W.os
  tape : W'.tape = W.tape
  output : W'.output = W.output
  size : W.heap.size ≤ W'.heap.size
  block : ∀ k, k < W.heap.size → k ≠ r → k ≠ b → W'.heap[k]? = W.heap[k]?
theorem F2.trans {r b : Nat} {W W1 W2 : World} (h : F2 r b W W1) (k : F2 r b W1 W2) : F2 r b W W2 :=
  ⟨k.os.trans h.os, k.tape.trans h.tape, k.output.trans h.output, Nat.le_trans h.size k.size, fun q h1 h2 h3 => (k.block q (Nat.lt_of_lt_of_le h1 h.size) h2 h3).trans (h.block q h1 h2 h3)⟩
theorem F2.left {r b : Nat} {W W' : World} (h : W.grownBy W' (some r)) : F2 r b W W' := ⟨h.os, h.tape, h.output, h.size, fun k h1 h2 h3 => h.block k h1 (by simpa using h2)⟩
theorem F2.right {r b : Nat} {W W' : World} (h : W.grownBy W' (some b)) : F2 r b W W' := ⟨h.os, h.tape, h.output, h.size, fun k h1 h2 h3 => h.block k h1 (by simpa using h3)⟩
theorem F2.below {r b : Nat} {W W' : World} (h : Below W.heap.size W W') : F2 r b W W' := ⟨h.os, h.tape, h.output, h.size, fun k h1 h2 h3 => h.block k h1⟩
theorem F2.fr {r b B : Nat} {W W' : World} (h : F2 r b W W') (hB : B ≤ W.heap.size) (hb : B ≤ b) : Fr B r W W' := ⟨h.os, h.tape, h.output, h.size, fun k h1 h2 => h.block k (by omega) h2 (by omega)⟩

/-- One attribute, as the program reads it: the place, the fault, the nodes, the name. -/
def aofO (name : ByteArray) (kind : Nat) (ws : List ByteArray) : Option Nat := match srchF name kind 12 0 with
  | none => some 7
  | some _ => if 0 ≤ findF ws name 0 then some 5 else none
def aofR (name : ByteArray) (kind : Nat) : Nat := (srchF name kind 12 0).getD 0
def setO (L : List Nd) (k : Nat) (n : Int) : Option Nat := if moAt k < n then some 6 else if setB L k n = true then some 5 else none
def pSet (L : List Nd) (j : Nat) (er : Flt) (at_ : Nat) (t : ByteArray) (e j2 ix : Nat) (n : Int) : Option Nat → Except Nat (Nat × Flt × List Nd × ByteArray)
  | some c => .ok (e, keepF er (some c) at_, L, t)
  | none => .ok (e, keepF er (setO L ix n) j2, setL L j ix n, t)
def pNum (s : ByteArray) (kind : Nat) (ws : List ByteArray) (L : List Nd) (j : Nat) (er : Flt) (at_ : Nat) (t : ByteArray) (i2 : Nat) : Except Nat (Nat × Flt × List Nd × ByteArray) :=
  if numBad s (sk s i2) (run digit s (sk s i2)) = true then .error (sk s i2) else pSet L j er at_ t (run digit s (sk s i2)) (sk s i2) (aofR t kind) (dv s (sk s i2) (run digit s (sk s i2) - sk s i2)) (aofO t kind ws)
def pAttr (s : ByteArray) (kind : Nat) (ws : List ByteArray) (L : List Nd) (j i : Nat) (er : Flt) : Except Nat (Nat × Flt × List Nd × ByteArray) :=
  if run letter s (sk s i) = sk s i then .error (sk s i)
  else if isAt s (run letter s (sk s i)) 61 = true then pNum s kind ws L j er (sk s i) (s.extract (sk s i) (run letter s (sk s i))) (gotI s (run letter s (sk s i)) 61)
  else .error (sk s (run letter s (sk s i)))
def RaOut (w w' : World) (e : Ending) (rb B bl : Nat) (E : Nat → Addr) (s : ByteArray) (av nv : Value) (KV : Nat → Value) (r : Except Nat (Nat × Flt × List Nd × ByteArray)) : Prop :=
  F2 rb bl w w' ∧ match r with
  | .error b => e = .panicked [{ v := faultV (b : Int) (errV (E 2)), recovered := false }]
  | .ok (i, er, L, name) => e = .returned (.string name) ∧ PR w' rb s i av nv (fltV E er) ∧ PN w' B nv L KV
theorem srchF_lt (name : ByteArray) (kind : Nat) : ∀ f j k, srchF name kind f j = some k → j ≤ k ∧ k < j + f
  | 0, j, k, h => by cases h
  | f + 1, j, k, h => by
    unfold srchF at h
    split at h
    · cases h; omega
    · have := srchF_lt name kind f (j + 1) k h; omega
theorem setE_eo (L : List Nd) (k : Nat) (n : Int) (E : Nat → Addr) : setE L k n (E 6) (E 5) = eoV E (setO L k n) := by
  unfold setE setO
  split
  · rfl
  · split <;> rfl

end Go.Proofs.YtepeepipgkejiadGreatDoor
