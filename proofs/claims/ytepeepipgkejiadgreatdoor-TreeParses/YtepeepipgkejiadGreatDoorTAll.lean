/-
  The reader's steps whatever stands: with a fault of the grammar (bad from 0 on) or without.
-/
import Derived.Test.YtepeepipgkejiadGreatDoorTNode
namespace Go.Proofs.YtepeepipgkejiadGreatDoor
open Go.RowKit
set_option linter.unusedVariables false

def wS (s : ByteArray) (i : Nat) (bad : Int) : ByteArray := if bad < 0 then s.extract (sk s i) (run letter s (sk s i)) else ByteArray.empty
def wI (s : ByteArray) (i : Nat) (bad : Int) : Nat := if bad < 0 then run letter s (sk s i) else sk s i
def wB (s : ByteArray) (i : Nat) (bad : Int) : Int := if bad < 0 then wordB s i bad else bad
def mI (s : ByteArray) (i c : Nat) (bad : Int) : Nat := if bad < 0 then gotI s i c else sk s i
def mB (s : ByteArray) (i c : Nat) (bad : Int) : Int := if bad < 0 then mustB s i c bad else bad
def gB (s : ByteArray) (i c : Nat) (bad : Int) : Bool := if bad < 0 then isAt s i c else false
def nV (s : ByteArray) (i : Nat) (bad : Int) : Int := if bad < 0 then dv s (sk s i) (run digit s (sk s i) - sk s i) else 0
def nI (s : ByteArray) (i : Nat) (bad : Int) : Nat := if bad < 0 then run digit s (sk s i) else sk s i
def nB (s : ByteArray) (i : Nat) (bad : Int) : Int := if bad < 0 then numB s (sk s i) (run digit s (sk s i)) bad else bad

theorem wI_le {s : ByteArray} {i : Nat} (bad : Int) (hi : i ≤ s.size) : wI s i bad ≤ s.size := by
  unfold wI; split
  · exact run_le _ _ _ (sk_le s i hi)
  · exact sk_le s i hi
theorem gotI_le {s : ByteArray} {i c : Nat} (hc : c < 256) (hi : i ≤ s.size) : gotI s i c ≤ s.size := by
  unfold gotI; split
  · rename_i h
    by_cases e : sk s i < s.size
    · omega
    · rw [bat_out e] at h; omega
  · exact sk_le s i hi
theorem mI_le {s : ByteArray} {i c : Nat} (bad : Int) (hc : c < 256) (hi : i ≤ s.size) : mI s i c bad ≤ s.size := by
  unfold mI; split
  · exact gotI_le hc hi
  · exact sk_le s i hi
theorem nI_le {s : ByteArray} {i : Nat} (bad : Int) (hi : i ≤ s.size) : nI s i bad ≤ s.size := by
  unfold nI; split
  · exact run_le _ _ _ (sk_le s i hi)
  · exact sk_le s i hi
theorem nV_bd (s : ByteArray) (i : Nat) (bad : Int) : 0 ≤ nV s i bad ∧ nV s i bad ≤ 999999 := by
  unfold nV; split
  · have h := dv_bd s (sk s i) (run digit s (sk s i) - sk s i) (fun t ht => by
      have := run_all (p := digit) s (s.size - sk s i) (sk s i) t (by have h2 : runF digit s (s.size - sk s i) (sk s i) = run digit s (sk s i) := rfl; omega)
      unfold digit at this
      simpa using this)
    exact ⟨h.1, h.2.1⟩
  · omega

theorem word_all (rb : Nat) (s : ByteArray) (i : Nat) (lv : Value) (bad er at_ dep : Int) (w : World) (h : RS w rb s i lv bad er at_ dep) (hs : s.size ≤ 1099511627776) (hi : i ≤ s.size) :
    Calls Tryz.prog 32 #[.pointer (some ⟨rb, 0, none⟩)] w fun e w' => e = .returned (.string (wS s i bad)) ∧ RS w' rb s (wI s i bad) lv (wB s i bad) er at_ dep ∧ w.grownBy w' (some rb) := by
  unfold wS wI wB
  by_cases hb : bad < 0
  · rw [if_pos hb, if_pos hb, if_pos hb]; exact word_any rb s i lv bad er at_ dep w h hs hi hb
  · rw [if_neg hb, if_neg hb, if_neg hb]; exact word_bad rb s i lv bad er at_ dep w h hs hi (by omega)
theorem must_all (rb : Nat) (s : ByteArray) (i : Nat) (lv : Value) (bad er at_ dep : Int) (c : Nat) (w : World) (h : RS w rb s i lv bad er at_ dep) (hs : s.size ≤ 1099511627776) (hi : i ≤ s.size) (hc : c < 256) :
    Calls Tryz.prog 38 #[.pointer (some ⟨rb, 0, none⟩), .int .u8 (c : Int)] w fun e w' => e = .returned (.tuple #[]) ∧ RS w' rb s (mI s i c bad) lv (mB s i c bad) er at_ dep ∧ w.grownBy w' (some rb) := by
  unfold mI mB
  by_cases hb : bad < 0
  · rw [if_pos hb, if_pos hb]; exact must_any rb s i lv bad er at_ dep c w h hs hi hc hb
  · rw [if_neg hb, if_neg hb]; exact must_bad rb s i lv bad er at_ dep c w h hs hi (by omega)
theorem got_all (rb : Nat) (s : ByteArray) (i : Nat) (lv : Value) (bad er at_ dep : Int) (c : Nat) (w : World) (h : RS w rb s i lv bad er at_ dep) (hs : s.size ≤ 1099511627776) (hi : i ≤ s.size) (hc : c < 256) :
    Calls Tryz.prog 75 #[.pointer (some ⟨rb, 0, none⟩), .int .u8 (c : Int)] w fun e w' => e = .returned (.bool (gB s i c bad)) ∧ RS w' rb s (mI s i c bad) lv bad er at_ dep ∧ w.grownBy w' (some rb) := by
  unfold mI gB
  by_cases hb : bad < 0
  · rw [if_pos hb, if_pos hb]; exact got_any rb s i lv bad er at_ dep c w h hs hi hc hb
  · rw [if_neg hb, if_neg hb]; exact got_bad rb s i lv bad er at_ dep c w h hs hi (by omega)
theorem number_all (rb : Nat) (s : ByteArray) (i : Nat) (lv : Value) (bad er at_ dep : Int) (w : World) (h : RS w rb s i lv bad er at_ dep) (hs : s.size ≤ 1099511627776) (hi : i ≤ s.size) :
    Calls Tryz.prog 76 #[.pointer (some ⟨rb, 0, none⟩)] w fun e w' => e = .returned (.tuple #[.int .i64 (nV s i bad), .int .i64 (sk s i : Int)]) ∧ RS w' rb s (nI s i bad) lv (nB s i bad) er at_ dep ∧ w.grownBy w' (some rb) := by
  unfold nV nI nB
  by_cases hb : bad < 0
  · rw [if_pos hb, if_pos hb, if_pos hb]; exact number_any rb s i lv bad er at_ dep w h hs hi hb
  · rw [if_neg hb, if_neg hb, if_neg hb]; exact number_bad rb s i lv bad er at_ dep w h hs hi (by omega)

/-- What one attribute leaves, whatever stands: the place, the fault, the number, and its place, the name's place, its number in the list of names. -/
structure Step where
  i : Nat
  bad : Int
  n : Int
  p : Nat
  at_ : Nat
  ix : Int
def step1 (s : ByteArray) (i : Nat) (bad : Int) : Step :=
  let j := sk s i
  let i1 := wI s j bad
  let b1 := wB s j bad
  let i2 := mI s i1 61 b1
  let b2 := mB s i1 61 b1
  { i := nI s i2 b2, bad := nB s i2 b2, n := nV s i2 b2, p := sk s i2, at_ := j, ix := findF namesL (wS s j bad) 0 }

end Go.Proofs.YtepeepipgkejiadGreatDoor
