/-
  The program's reader: readAttribute.
-/
import Derived.Test.YtnkebfmlaliddaaGreatDoorP18
import Derived.Test.YtnkebfmlaliddaaGreatDoorP16
import Derived.Test.YtnkebfmlaliddaaGreatDoorP04
import Derived.Test.YtnkebfmlaliddaaGreatDoorP05
import Derived.Test.YtnkebfmlaliddaaGreatDoorP03
namespace Go.Proofs.YtnkebfmlaliddaaGreatDoor
open Go.RowKit
set_option linter.unusedVariables false

/-- The first other fault as a value; E tells where the errors lie. -/
def fltV (E : Nat → Addr) : Flt → Value
  | none => .nilIface
  | some (c, p) => faultV (p : Int) (errV (E c))
/-- What stays while a text is read: the table and the errors. -/
structure Env (W : World) (rb ab B : Nat) (E : Nat → Addr) : Prop where
  tab : Tab W ab
  lo : 12 ≤ rb
  rbB : rb < B
  abB : ab < B
  ne : ab ≠ rb
  le : B ≤ W.heap.size
  g2 : W.cell? ⟨8, 0, none⟩ = some (errV (E 2))
  g3 : W.cell? ⟨2, 0, none⟩ = some (errV (E 3))
  g4 : W.cell? ⟨3, 0, none⟩ = some (errV (E 4))
  g5 : W.cell? ⟨4, 0, none⟩ = some (errV (E 5))
  g6 : W.cell? ⟨5, 0, none⟩ = some (errV (E 6))
  g7 : W.cell? ⟨6, 0, none⟩ = some (errV (E 7))
theorem Env.fr {W W' : World} {rb ab B : Nat} {E : Nat → Addr} (h : Env W rb ab B E) (f : Fr B rb W W') : Env W' rb ab B E := by
  have lo := h.lo
  have rB := h.rbB
  exact ⟨h.tab.fr f h.abB h.ne, h.lo, h.rbB, h.abB, h.ne, Nat.le_trans h.le f.size, f.cell h.g2 (by show 8 < B; omega) (by show 8 ≠ rb; omega), f.cell h.g3 (by show 2 < B; omega) (by show 2 ≠ rb; omega), f.cell h.g4 (by show 3 < B; omega) (by show 3 ≠ rb; omega), f.cell h.g5 (by show 4 < B; omega) (by show 4 ≠ rb; omega), f.cell h.g6 (by show 5 < B; omega) (by show 5 ≠ rb; omega), f.cell h.g7 (by show 6 < B; omega) (by show 6 ≠ rb; omega)⟩

/-- keep, whatever is told. -/
def keepF (er : Flt) (eo : Option Nat) (p : Nat) : Flt := match eo with
  | none => er
  | some c => addF er c p
def eoV (E : Nat → Addr) : Option Nat → Value
  | none => .nilIface
  | some c => errV (E c)
theorem keep_all (rb : Nat) (s : ByteArray) (i : Nat) (av nv : Value) (E : Nat → Addr) (er : Flt) (eo : Option Nat) (p : Nat) (w : World) (h : PR w rb s i av nv (fltV E er)) :
    Calls Tryz.prog 70 #[.pointer (some ⟨rb, 0, none⟩), eoV E eo, .int .i64 (p : Int)] w fun e w' => e = .returned (.tuple #[]) ∧ PR w' rb s i av nv (fltV E (keepF er eo p)) ∧ w.grownBy w' (some rb) := by
  cases eo with
  | none => exact keep_nil rb s i av nv _ p w h
  | some c =>
    cases er with
    | none => exact keep_first rb s i av nv (E c) p w h
    | some f => obtain ⟨c2, p2⟩ := f; exact keep_later rb s i av nv (E c) (E c2) p p2 w h

/-- Blocks but two are as they were. -/
structure F2 (r b : Nat) (W W' : World) : Prop where
  os : W'.os = W.os
  tape : W'.tape = W.tape
  output : W'.output = W.output
  size : W.heap.size ≤ W'.heap.size
  block : ∀ k, k < W.heap.size → k ≠ r → k ≠ b → W'.heap[k]? = W.heap[k]?
theorem F2.trans {r b : Nat} {W W1 W2 : World} (h : F2 r b W W1) (k : F2 r b W1 W2) : F2 r b W W2 :=
  ⟨k.os.trans h.os, k.tape.trans h.tape, k.output.trans h.output, Nat.le_trans h.size k.size, fun q h1 h2 h3 => (k.block q (Nat.lt_of_lt_of_le h1 h.size) h2 h3).trans (h.block q h1 h2 h3)⟩
theorem F2.left {r b : Nat} {W W' : World} (h : W.grownBy W' (some r)) : F2 r b W W' := ⟨h.os, h.tape, h.output, h.size, fun k h1 h2 h3 => h.block k h1 (by simpa using h2)⟩
theorem F2.right {r b : Nat} {W W' : World} (h : W.grownBy W' (some b)) : F2 r b W W' := ⟨h.os, h.tape, h.output, h.size, fun k h1 h2 h3 => h.block k h1 (by simpa using h3)⟩
theorem F2.below {r b : Nat} {W W' : World} (h : Below W.heap.size W W') : F2 r b W W' := ⟨h.os, h.tape, h.output, h.size, fun k h1 h2 h3 => h.block k h1⟩
theorem F2.fr {r b B : Nat} {W W' : World} (h : F2 r b W W') (hB : B ≤ W.heap.size) (hb : B ≤ b) : Fr B r W W' := ⟨h.os, h.tape, h.output, h.size, fun k h1 h2 => h.block k (by omega) h2 (by omega)⟩

/-- One attribute, as the program reads it: the place, the fault, the nodes, the name. -/
def aofO (name : ByteArray) (kind : Nat) (ws : List ByteArray) : Option Nat := match srchF name kind 12 0 with
  | none => some 7
  | some _ => if 0 ≤ findF ws name 0 then some 5 else none
def aofR (name : ByteArray) (kind : Nat) : Nat := (srchF name kind 12 0).getD 0
def setO (L : List Nd) (k : Nat) (n : Int) : Option Nat := if moAt k < n then some 6 else if setB L k n = true then some 5 else none
def pSet (L : List Nd) (j : Nat) (er : Flt) (at_ : Nat) (t : ByteArray) (e j2 ix : Nat) (n : Int) : Option Nat → Except Nat (Nat × Flt × List Nd × ByteArray)
  | some c => .ok (e, keepF er (some c) at_, L, t)
  | none => .ok (e, keepF er (setO L ix n) j2, setL L j ix n, t)
def pNum (s : ByteArray) (kind : Nat) (ws : List ByteArray) (L : List Nd) (j : Nat) (er : Flt) (at_ : Nat) (t : ByteArray) (i2 : Nat) : Except Nat (Nat × Flt × List Nd × ByteArray) :=
  if numBad s (sk s i2) (run digit s (sk s i2)) = true then .error (sk s i2) else pSet L j er at_ t (run digit s (sk s i2)) (sk s i2) (aofR t kind) (dv s (sk s i2) (run digit s (sk s i2) - sk s i2)) (aofO t kind ws)
def pAttr (s : ByteArray) (kind : Nat) (ws : List ByteArray) (L : List Nd) (j i : Nat) (er : Flt) : Except Nat (Nat × Flt × List Nd × ByteArray) :=
  if run letter s (sk s i) = sk s i then .error (sk s i)
  else if isAt s (run letter s (sk s i)) 61 = true then pNum s kind ws L j er (sk s i) (s.extract (sk s i) (run letter s (sk s i))) (gotI s (run letter s (sk s i)) 61)
  else .error (sk s (run letter s (sk s i)))
def RaOut (w w' : World) (e : Ending) (rb B bl : Nat) (E : Nat → Addr) (s : ByteArray) (av nv : Value) (KV : Nat → Value) (r : Except Nat (Nat × Flt × List Nd × ByteArray)) : Prop :=
  F2 rb bl w w' ∧ match r with
  | .error b => e = .panicked [{ v := faultV (b : Int) (errV (E 2)), recovered := false }]
  | .ok (i, er, L, name) => e = .returned (.string name) ∧ PR w' rb s i av nv (fltV E er) ∧ PN w' B nv L KV
theorem srchF_lt (name : ByteArray) (kind : Nat) : ∀ f j k, srchF name kind f j = some k → j ≤ k ∧ k < j + f
  | 0, j, k, h => by cases h
  | f + 1, j, k, h => by
    unfold srchF at h
    split at h
    · cases h; omega
    · have := srchF_lt name kind f (j + 1) k h; omega
theorem setE_eo (L : List Nd) (k : Nat) (n : Int) (E : Nat → Addr) : setE L k n (E 6) (E 5) = eoV E (setO L k n) := by
  unfold setE setO
  split
  · rfl
  · split <;> rfl

end Go.Proofs.YtnkebfmlaliddaaGreatDoor

namespace Go.Proofs.YtnkebfmlaliddaaGreatDoor
open Go.RowKit
set_option linter.unusedVariables false

theorem aof_some {t : ByteArray} {kind c : Nat} {ws : List ByteArray} (E : Nat → Addr) (h : aofO t kind ws = some c) : aofV t kind ws (E 7) (E 5) = .tuple #[zeroA, errV (E c)] := by
  unfold aofO at h
  unfold aofV
  cases hs : srchF t kind 12 0 with
  | none => rw [hs] at h; injection h with h; subst h; rfl
  | some q =>
    rw [hs] at h
    by_cases hf : 0 ≤ findF ws t 0
    · simp only [if_pos hf] at h ⊢; injection h with h; subst h; rfl
    · simp only [if_neg hf] at h; cases h
theorem aof_none {t : ByteArray} {kind : Nat} {ws : List ByteArray} (E : Nat → Addr) (h : aofO t kind ws = none) : aofR t kind < 12 ∧ aofV t kind ws (E 7) (E 5) = .tuple #[rowA (aofR t kind), .nilIface] := by
  unfold aofO at h
  unfold aofV aofR
  cases hs : srchF t kind 12 0 with
  | none => rw [hs] at h; cases h
  | some q =>
    rw [hs] at h
    by_cases hf : 0 ≤ findF ws t 0
    · simp only [if_pos hf] at h; cases h
    · have := srchF_lt t kind 12 0 q hs
      refine ⟨by show q < 12; omega, ?_⟩
      simp only [if_neg hf]; rfl
theorem Txts.f2 {W W' : World} {v : Value} {ws : List ByteArray} {r b : Nat} (h : Txts W v ws) (f : F2 r b W W') (hr : ∀ q, v.ownBlock = some q → q ≠ r ∧ q ≠ b) : Txts W' v ws := by
  obtain ⟨p, c, rfl, rfl | ⟨blk, rfl, h1, h2⟩⟩ := h
  · exact ⟨p, c, rfl, .inl rfl⟩
  · have := hr blk rfl
    exact ⟨_, c, rfl, .inr ⟨blk, rfl, Nat.lt_of_lt_of_le h1 f.size, fun j hj => (World.cell?_of_block (f.block blk h1 this.1 this.2)).trans (h2 j hj)⟩⟩

set_option maxRecDepth 100000 in
set_option maxHeartbeats 8000000 in
theorem readAttribute_any (rb ab B : Nat) (E : Nat → Addr) (s : ByteArray) (i : Nat) (er : Flt) (L : List Nd) (KV : Nat → Value) (bl cap j kind : Nat) (v : Value) (ws : List ByteArray) (w : World) (env : Env w rb ab B E)
    (h : PR w rb s i (.slice (some ⟨ab, 0, none⟩) 12 12) (.slice (some ⟨bl, 0, none⟩) L.length cap) (fltV E er)) (hn : PN w B (.slice (some ⟨bl, 0, none⟩) L.length cap) L KV) (hL : L.length ≤ 100000) (hj : j < L.length) (hkd : (nth L j).kind = kind) (hk7 : kind < 7)
    (hv : Txts w v ws) (hvr : ∀ q, v.ownBlock = some q → q ≠ rb ∧ q ≠ bl) (hwn : ws.length ≤ 1099511627776) (hs : s.size ≤ 1073741824) (hi : i ≤ s.size) :
    Calls Tryz.prog 91 #[.pointer (some ⟨rb, 0, none⟩), .pointer (some ⟨bl, j * 16, none⟩), v] w fun e w' => RaOut w w' e rb B bl E s (.slice (some ⟨ab, 0, none⟩) 12 12) (.slice (some ⟨bl, 0, none⟩) L.length cap) KV (pAttr s kind ws L j i er) := by
  obtain ⟨av, hav⟩ : ∃ z, (Value.slice (some ⟨ab, 0, none⟩) 12 12) = z := ⟨_, rfl⟩
  obtain ⟨nv, hnv⟩ : ∃ z, (Value.slice (some ⟨bl, 0, none⟩) L.length cap) = z := ⟨_, rfl⟩
  have hBl : B ≤ bl := (hn.nr.row.choose_spec.lt bl rfl).1
  have hbll : bl < w.heap.size := (hn.nr.row.choose_spec.lt bl rfl).2
  have hrB := env.rbB
  have hlo := env.lo
  have CW := readWord_any rb s i (.slice (some ⟨ab, 0, none⟩) 12 12) (.slice (some ⟨bl, 0, none⟩) L.length cap) (fltV E er) w h (by omega) hi
  obtain ⟨at_, hat⟩ : ∃ z, sk s i = z := ⟨_, rfl⟩
  have hatl : at_ ≤ s.size := by rw [← hat]; exact sk_le s i hi
  obtain ⟨k, hk⟩ : ∃ z, run letter s at_ = z := ⟨_, rfl⟩
  have hkl : k ≤ s.size := by rw [← hk]; exact run_le _ _ _ hatl
  have hkg : at_ ≤ k := by rw [← hk]; exact run_ge _ _ _
  obtain ⟨t, ht⟩ : ∃ z, s.extract at_ k = z := ⟨_, rfl⟩
  rw [hat, hk, ht] at CW
  have HP : Hid (pAttr s kind ws L j i er = if k = at_ then .error at_ else if isAt s k 61 = true then pNum s kind ws L j er at_ t (gotI s k 61) else .error (sk s k)) := by
    show _ = _
    unfold pAttr
    rw [hat, hk, ht]
  have HCW : Hid (Calls Tryz.prog 68 #[.pointer (some ⟨rb, 0, none⟩)] w fun e w' => e = .returned (.tuple #[.string t, .int .i64 (at_ : Int)]) ∧ PR w' rb s k (.slice (some ⟨ab, 0, none⟩) 12 12) (.slice (some ⟨bl, 0, none⟩) L.length cap) (fltV E er) ∧ w.grownBy w' (some rb)) := CW
  have HEV : Hid (Env w rb ab B E) := env
  have HN : Hid (PN w B (.slice (some ⟨bl, 0, none⟩) L.length cap) L KV) := hn
  have HX : Hid (Txts w v ws) := hv
  have hsz : t.size = k - at_ := by rw [← ht]; simp; omega
  have HKD : Hid ((nth L j).kind = kind) := hkd
  obtain ⟨pv, cv, hpv⟩ : ∃ p c, v = .slice p ws.length c := by obtain ⟨p, c, e, _⟩ := hv; exact ⟨p, c, e⟩
  subst hpv
  clear CW env hn hv hat hk ht hkd h hav hnv av nv
  by_cases hka : k = at_
  · have HPE : Hid (pAttr s kind ws L j i er = .error at_) := by show _ = _; rw [HP.out, if_pos hka]
    have et : t.toList.isEmpty = true := by
      rw [ByteArray.toList_eq]
      have : t.data.size = 0 := by show t.size = 0; omega
      simp [Array.eq_empty_of_size_eq_zero this]
    have HT : Hid (∀ W, W.cell? ⟨8, 0, none⟩ = some (errV (E 2)) → Calls Tryz.prog 45 #[.int .i64 (at_ : Int)] W fun e w' => e = .returned (.iface 81 (.agg #[.int .i64 (at_ : Int), .iface 240 (.pointer (some (E 2)))])) ∧ w' = W) := fun W he => noTree_any _ W (E 2) he
    go_enter Tryz.func91, Tryz.ntmps91
    go_wp2_with fail
    refine HCW.out.mono ?_
    rintro e w1 ⟨rfl, h1, g1⟩
    have HG1 : Hid (w.grownBy w1 (some rb)) := g1
    have HE1 : Hid (Env w1 rb ab B E) := HEV.out.fr (Fr.grown g1 HEV.out.le)
    clear h1 g1
    go_wp2_with fail
    refine (HT.out _ HE1.out.g2).mono ?_
    rintro e w2 ⟨rfl, hw⟩
    obtain rfl := hw.symm
    go_wp2
    refine ⟨rfl, ?_⟩
    rw [HPE.out]
    exact ⟨F2.left HG1.out, rfl⟩
  · have HP2 : Hid (pAttr s kind ws L j i er = if isAt s k 61 = true then pNum s kind ws L j er at_ t (gotI s k 61) else .error (sk s k)) := by show _ = _; rw [HP.out, if_neg hka]
    have et : t.toList.isEmpty = false := by
      rw [ByteArray.toList_eq]
      have : t.data.size ≠ 0 := by show t.size ≠ 0; omega
      cases hd : t.data.toList with
      | nil => exact absurd (by rw [← Array.length_toList, hd]; rfl) this
      | cons a r => rfl
    clear HP
    go_enter Tryz.func91, Tryz.ntmps91
    go_wp2_with fail
    refine HCW.out.mono ?_
    rintro e w1 ⟨rfl, h1, g1⟩
    have HG1 : Hid (w.grownBy w1 (some rb)) := g1
    have HE1 : Hid (Env w1 rb ab B E) := HEV.out.fr (Fr.grown g1 HEV.out.le)
    have HN1 : Hid (PN w1 B (.slice (some ⟨bl, 0, none⟩) L.length cap) L KV) := HN.out.up (Up.grown g1 hrB)
    have HR1 : Hid (PR w1 rb s k (.slice (some ⟨ab, 0, none⟩) 12 12) (.slice (some ⟨bl, 0, none⟩) L.length cap) (fltV E er)) := h1
    have HX1 : Hid (Txts w1 (.slice pv ws.length cv) ws) := HX.out.f2 (F2.left (b := bl) g1) hvr
    have ck : w1.cell? ⟨bl, j * 16, none⟩ = some (.int .i64 (kind : Int)) := by
      have := HN1.out.nr.cells bl rfl j hj 0 _ (pn_kind _ _)
      rw [HKD.out] at this
      exact this
    have CA : Hid (Calls Tryz.prog 99 #[.pointer (some ⟨rb, 0, none⟩), .int .i64 (kind : Int), .string t, .slice pv ws.length cv] w1 fun e w' => e = .returned (aofV t kind ws (E 7) (E 5)) ∧ Below w1.heap.size w1 w') := attributeOf_any rb ab s k _ _ kind t _ ws (E 7) (E 5) w1 h1 HE1.out.tab hk7 HX1.out hwn HE1.out.g7 HE1.out.g5
    clear h1 g1
    go_wp2_with fail
    refine CA.out.mono ?_
    rintro e w2 ⟨rfl, hb2⟩
    have HF2 : Hid (F2 rb bl w w2) := (F2.left HG1.out).trans (F2.below hb2)
    have HE2 : Hid (Env w2 rb ab B E) := HE1.out.fr (Fr.below hb2 HE1.out.le)
    have HN2 : Hid (PN w2 B (.slice (some ⟨bl, 0, none⟩) L.length cap) L KV) := HN1.out.up (Up.below hb2)
    have HR2 : Hid (PR w2 rb s k (.slice (some ⟨ab, 0, none⟩) 12 12) (.slice (some ⟨bl, 0, none⟩) L.length cap) (fltV E er)) := HR1.out.below hb2
    clear hb2 CA ck HG1 HE1 HN1 HR1 HX1
    cases hao : aofO t kind ws with
    | some c =>
      have HAO : Hid (aofO t kind ws = some c) := hao
      have HAV : Hid (aofV t kind ws (E 7) (E 5) = .tuple #[.agg #[.string ⟨#[]⟩, .int .u64 0, .int .i64 0, .int .i64 0, .bool false, .nilFunc], .iface 240 (.pointer (some (E c)))]) := aof_some E hao
      rw [HAV.out]
      clear hao
      have HW3 : Hid (Below w2.heap.size w2 (w2.alloc (.cells #[.string ⟨#[]⟩, .int .u64 0, .int .i64 0, .int .i64 0, .bool false, .nilFunc] 64))) := (Below.refl _ _).alloc (Nat.le_refl _) _
      have CK : Hid (Calls Tryz.prog 70 #[.pointer (some ⟨rb, 0, none⟩), .iface 240 (.pointer (some (E c))), .int .i64 (at_ : Int)] (w2.alloc (.cells #[.string ⟨#[]⟩, .int .u64 0, .int .i64 0, .int .i64 0, .bool false, .nilFunc] 64)) fun e w' => e = .returned (.tuple #[]) ∧ PR w' rb s k (.slice (some ⟨ab, 0, none⟩) 12 12) (.slice (some ⟨bl, 0, none⟩) L.length cap) (fltV E (keepF er (some c) at_)) ∧ (w2.alloc (.cells #[.string ⟨#[]⟩, .int .u64 0, .int .i64 0, .int .i64 0, .bool false, .nilFunc] 64)).grownBy w' (some rb)) := keep_all rb s k _ _ E er (some c) at_ _ (HR2.out.below HW3.out)
      go_wp2_with fail
      refine CK.out.mono ?_
      rintro e w4 ⟨rfl, h4, g4⟩
      have HR4 : Hid (PR w4 rb s k (.slice (some ⟨ab, 0, none⟩) 12 12) (.slice (some ⟨bl, 0, none⟩) L.length cap) (fltV E (keepF er (some c) at_))) := h4
      have HF4 : Hid (F2 rb bl w w4) := HF2.out.trans ((F2.below HW3.out).trans (F2.left g4))
      have HE4 : Hid (Env w4 rb ab B E) := (HE2.out.fr (Fr.below HW3.out HE2.out.le)).fr (Fr.grown g4 (Nat.le_trans HE2.out.le HW3.out.size))
      have HN4 : Hid (PN w4 B (.slice (some ⟨bl, 0, none⟩) L.length cap) L KV) := (HN2.out.up (Up.below HW3.out)).up (Up.grown g4 hrB)
      clear h4 g4 CK HW3 HF2 HE2 HN2 HR2
      by_cases hq : isAt s k 61 = true
      · have hi2 : gotI s k 61 ≤ s.size := gotI_le (by omega) hkl
        have CX : Hid (Calls Tryz.prog 76 #[.pointer (some ⟨rb, 0, none⟩), .int .u8 61] w4 fun e w' => e = .returned (.tuple #[]) ∧ PR w' rb s (gotI s k 61) (.slice (some ⟨ab, 0, none⟩) 12 12) (.slice (some ⟨bl, 0, none⟩) L.length cap) (fltV E (keepF er (some c) at_)) ∧ w4.grownBy w' (some rb)) := expect_yes rb s k _ _ _ 61 w4 HR4.out (by omega) hkl (by omega) hq
        have HP3 : Hid (pAttr s kind ws L j i er = pNum s kind ws L j er at_ t (gotI s k 61)) := by show _ = _; rw [HP2.out, if_pos hq]
        obtain ⟨i2, hi2e⟩ : ∃ z, gotI s k 61 = z := ⟨_, rfl⟩
        rw [hi2e] at CX HP3 hi2
        clear hi2e HP2 hq
        go_wp2_with fail
        refine CX.out.mono ?_
        rintro e w5 ⟨rfl, h5, g5⟩
        have HF5 : Hid (F2 rb bl w w5) := HF4.out.trans (F2.left g5)
        have HE5 : Hid (Env w5 rb ab B E) := HE4.out.fr (Fr.grown g5 HE4.out.le)
        have HN5 : Hid (PN w5 B (.slice (some ⟨bl, 0, none⟩) L.length cap) L KV) := HN4.out.up (Up.grown g5 hrB)
        have HR5 : Hid (PR w5 rb s i2 (.slice (some ⟨ab, 0, none⟩) 12 12) (.slice (some ⟨bl, 0, none⟩) L.length cap) (fltV E (keepF er (some c) at_))) := h5
        clear h5 g5 CX HF4 HE4 HN4 HR4
        by_cases hb : run digit s (sk s i2) = sk s i2 ∨ sk s i2 + 6 < run digit s (sk s i2) ∨ (sk s i2 + 1 < run digit s (sk s i2) ∧ bat s (sk s i2) = 48)
        · have CN : Hid (Calls Tryz.prog 100 #[.pointer (some ⟨rb, 0, none⟩)] w5 fun e w' => e = .panicked [{ v := faultV (sk s i2 : Int) (errV (E 2)), recovered := false }] ∧ w5.grownBy w' (some rb)) := readNumber_no rb s i2 _ _ _ (E 2) w5 HR5.out (by omega) hi2 (by omega) HE5.out.g2 hb
          have HP4 : Hid (pAttr s kind ws L j i er = .error (sk s i2)) := by show _ = _; rw [HP3.out]; unfold pNum numBad; rw [if_pos (decide_eq_true hb)]
          go_wp2_with fail
          refine CN.out.mono ?_
          rintro e w6 ⟨rfl, g6⟩
          refine ⟨rfl, ?_⟩
          rw [HP4.out]
          exact ⟨HF5.out.trans (F2.left g6), rfl⟩
        · have CN : Hid (Calls Tryz.prog 100 #[.pointer (some ⟨rb, 0, none⟩)] w5 fun e w' => e = .returned (.tuple #[.int .i64 (dv s (sk s i2) (run digit s (sk s i2) - sk s i2)), .int .i64 (sk s i2 : Int)]) ∧ PR w' rb s (run digit s (sk s i2)) (.slice (some ⟨ab, 0, none⟩) 12 12) (.slice (some ⟨bl, 0, none⟩) L.length cap) (fltV E (keepF er (some c) at_)) ∧ w5.grownBy w' (some rb)) := readNumber_yes rb s i2 _ _ _ w5 HR5.out (by omega) hi2 hb
          have HP4 : Hid (pAttr s kind ws L j i er = pSet L j er at_ t (run digit s (sk s i2)) (sk s i2) (aofR t kind) (dv s (sk s i2) (run digit s (sk s i2) - sk s i2)) ((some c))) := by show _ = _; rw [HP3.out]; unfold pNum numBad; rw [if_neg (by simpa using hb), HAO.out]
          obtain ⟨n, hn⟩ : ∃ z, dv s (sk s i2) (run digit s (sk s i2) - sk s i2) = z := ⟨_, rfl⟩
          obtain ⟨j2, hj2⟩ : ∃ z, sk s i2 = z := ⟨_, rfl⟩
          obtain ⟨e2, he2⟩ : ∃ z, run digit s j2 = z := ⟨_, rfl⟩
          rw [hn, hj2, he2] at CN HP4
          clear hn hj2 he2 hb HP3
          go_wp2_with fail
          refine CN.out.mono ?_
          rintro e w6 ⟨rfl, h6, g6⟩
          have HF6 : Hid (F2 rb bl w w6) := HF5.out.trans (F2.left g6)
          have HE6 : Hid (Env w6 rb ab B E) := HE5.out.fr (Fr.grown g6 HE5.out.le)
          have HN6 : Hid (PN w6 B (.slice (some ⟨bl, 0, none⟩) L.length cap) L KV) := HN5.out.up (Up.grown g6 hrB)
          have HR6 : Hid (PR w6 rb s e2 (.slice (some ⟨ab, 0, none⟩) 12 12) (.slice (some ⟨bl, 0, none⟩) L.length cap) (fltV E (keepF er (some c) at_))) := h6
          clear h6 g6 CN HF5 HE5 HN5 HR5
          go_wp2
          go_ret
          show RaOut _ _ _ _ _ _ _ _ _ _ _ _
          rw [HP4.out]
          exact ⟨HF6.out, rfl, HR6.out, HN6.out⟩
      · have hq' : isAt s k 61 = false := by simpa using hq
        have CX : Hid (Calls Tryz.prog 76 #[.pointer (some ⟨rb, 0, none⟩), .int .u8 61] w4 fun e w' => e = .panicked [{ v := faultV (sk s k : Int) (errV (E 2)), recovered := false }] ∧ w4.grownBy w' (some rb)) := expect_no rb s k _ _ _ (E 2) 61 w4 HR4.out (by omega) hkl (by omega) hq' (by omega) HE4.out.g2
        have HP3 : Hid (pAttr s kind ws L j i er = .error (sk s k)) := by show _ = _; rw [HP2.out, if_neg hq]
        clear hq hq' HP2
        go_wp2_with fail
        refine CX.out.mono ?_
        rintro e w5 ⟨rfl, g5⟩
        refine ⟨rfl, ?_⟩
        rw [HP3.out]
        exact ⟨HF4.out.trans (F2.left g5), rfl⟩
    | none =>
      have HAO : Hid (aofO t kind ws = none) := hao
      obtain ⟨hix, hav⟩ := aof_none E hao
      obtain ⟨ix, hixe⟩ : ∃ z, aofR t kind = z := ⟨_, rfl⟩
      have HIX : Hid (aofR t kind = ix) := hixe
      rw [hixe] at hix hav
      obtain ⟨a0, a1, a2, a3, a4, g, hrow⟩ : ∃ a0 a1 a2 a3 a4 g, rowA ix = .agg #[.string a0, .int .u64 ((a1 : Nat) : Int), .int .i64 a2, .int .i64 a3, .bool a4, .func (.func g) #[] #[]] := ⟨_, _, _, _, _, _, rfl⟩
      have HROW : Hid (rowA ix = .agg #[.string a0, .int .u64 ((a1 : Nat) : Int), .int .i64 a2, .int .i64 a3, .bool a4, .func (.func g) #[] #[]]) := hrow
      rw [hrow] at hav
      rw [hav]
      clear hao hav hrow hixe
      have HW3 : Hid (Below w2.heap.size w2 (w2.alloc (.cells #[.string a0, .int .u64 (a1 : Int), .int .i64 a2, .int .i64 a3, .bool a4, .func (.func g) #[] #[]] 64))) := (Below.refl _ _).alloc (Nat.le_refl _) _
      have CK : Hid (Calls Tryz.prog 70 #[.pointer (some ⟨rb, 0, none⟩), .nilIface, .int .i64 (at_ : Int)] (w2.alloc (.cells #[.string a0, .int .u64 (a1 : Int), .int .i64 a2, .int .i64 a3, .bool a4, .func (.func g) #[] #[]] 64)) fun e w' => e = .returned (.tuple #[]) ∧ PR w' rb s k (.slice (some ⟨ab, 0, none⟩) 12 12) (.slice (some ⟨bl, 0, none⟩) L.length cap) (fltV E (er)) ∧ (w2.alloc (.cells #[.string a0, .int .u64 (a1 : Int), .int .i64 a2, .int .i64 a3, .bool a4, .func (.func g) #[] #[]] 64)).grownBy w' (some rb)) := keep_all rb s k _ _ E er none at_ _ (HR2.out.below HW3.out)
      go_wp2_with fail
      refine CK.out.mono ?_
      rintro e w4 ⟨rfl, h4, g4⟩
      have HR4 : Hid (PR w4 rb s k (.slice (some ⟨ab, 0, none⟩) 12 12) (.slice (some ⟨bl, 0, none⟩) L.length cap) (fltV E (er))) := h4
      have HF4 : Hid (F2 rb bl w w4) := HF2.out.trans ((F2.below HW3.out).trans (F2.left g4))
      have HE4 : Hid (Env w4 rb ab B E) := (HE2.out.fr (Fr.below HW3.out HE2.out.le)).fr (Fr.grown g4 (Nat.le_trans HE2.out.le HW3.out.size))
      have HN4 : Hid (PN w4 B (.slice (some ⟨bl, 0, none⟩) L.length cap) L KV) := (HN2.out.up (Up.below HW3.out)).up (Up.grown g4 hrB)
      have HB4 : Hid (w4.heap[w2.heap.size]? = some (.cells #[.string a0, .int .u64 (a1 : Int), .int .i64 a2, .int .i64 a3, .bool a4, .func (.func g) #[] #[]] 64 (0, 0))) := (g4.block _ (by simp) (by simp; have := HR2.out.lt; omega)).trans (heap_alloc_new _ _)
      have hw2r := HR2.out.lt
      clear h4 g4 CK HW3 HF2 HE2 HN2 HR2
      obtain ⟨P3, hP3⟩ : ∃ z, w2.heap.size = z := ⟨_, rfl⟩
      rw [hP3] at HB4
      rw [hP3]
      have hP3r : P3 ≠ rb := by omega
      clear hP3
      by_cases hq : isAt s k 61 = true
      · have hi2 : gotI s k 61 ≤ s.size := gotI_le (by omega) hkl
        have CX : Hid (Calls Tryz.prog 76 #[.pointer (some ⟨rb, 0, none⟩), .int .u8 61] w4 fun e w' => e = .returned (.tuple #[]) ∧ PR w' rb s (gotI s k 61) (.slice (some ⟨ab, 0, none⟩) 12 12) (.slice (some ⟨bl, 0, none⟩) L.length cap) (fltV E (er)) ∧ w4.grownBy w' (some rb)) := expect_yes rb s k _ _ _ 61 w4 HR4.out (by omega) hkl (by omega) hq
        have HP3 : Hid (pAttr s kind ws L j i er = pNum s kind ws L j er at_ t (gotI s k 61)) := by show _ = _; rw [HP2.out, if_pos hq]
        obtain ⟨i2, hi2e⟩ : ∃ z, gotI s k 61 = z := ⟨_, rfl⟩
        rw [hi2e] at CX HP3 hi2
        clear hi2e HP2 hq
        go_wp2_with fail
        refine CX.out.mono ?_
        rintro e w5 ⟨rfl, h5, g5⟩
        have HF5 : Hid (F2 rb bl w w5) := HF4.out.trans (F2.left g5)
        have HE5 : Hid (Env w5 rb ab B E) := HE4.out.fr (Fr.grown g5 HE4.out.le)
        have HN5 : Hid (PN w5 B (.slice (some ⟨bl, 0, none⟩) L.length cap) L KV) := HN4.out.up (Up.grown g5 hrB)
        have HR5 : Hid (PR w5 rb s i2 (.slice (some ⟨ab, 0, none⟩) 12 12) (.slice (some ⟨bl, 0, none⟩) L.length cap) (fltV E (er))) := h5
        have HB5 : Hid (w5.heap[P3]? = some (.cells #[.string a0, .int .u64 (a1 : Int), .int .i64 a2, .int .i64 a3, .bool a4, .func (.func g) #[] #[]] 64 (0, 0))) := (g5.block _ (Array.getElem?_eq_some_iff.1 HB4.out).1 (by simp; omega)).trans HB4.out
        clear h5 g5 CX HF4 HE4 HN4 HR4
        by_cases hb : run digit s (sk s i2) = sk s i2 ∨ sk s i2 + 6 < run digit s (sk s i2) ∨ (sk s i2 + 1 < run digit s (sk s i2) ∧ bat s (sk s i2) = 48)
        · have CN : Hid (Calls Tryz.prog 100 #[.pointer (some ⟨rb, 0, none⟩)] w5 fun e w' => e = .panicked [{ v := faultV (sk s i2 : Int) (errV (E 2)), recovered := false }] ∧ w5.grownBy w' (some rb)) := readNumber_no rb s i2 _ _ _ (E 2) w5 HR5.out (by omega) hi2 (by omega) HE5.out.g2 hb
          have HP4 : Hid (pAttr s kind ws L j i er = .error (sk s i2)) := by show _ = _; rw [HP3.out]; unfold pNum numBad; rw [if_pos (decide_eq_true hb)]
          go_wp2_with fail
          refine CN.out.mono ?_
          rintro e w6 ⟨rfl, g6⟩
          refine ⟨rfl, ?_⟩
          rw [HP4.out]
          exact ⟨HF5.out.trans (F2.left g6), rfl⟩
        · have CN : Hid (Calls Tryz.prog 100 #[.pointer (some ⟨rb, 0, none⟩)] w5 fun e w' => e = .returned (.tuple #[.int .i64 (dv s (sk s i2) (run digit s (sk s i2) - sk s i2)), .int .i64 (sk s i2 : Int)]) ∧ PR w' rb s (run digit s (sk s i2)) (.slice (some ⟨ab, 0, none⟩) 12 12) (.slice (some ⟨bl, 0, none⟩) L.length cap) (fltV E (er)) ∧ w5.grownBy w' (some rb)) := readNumber_yes rb s i2 _ _ _ w5 HR5.out (by omega) hi2 hb
          have HP4 : Hid (pAttr s kind ws L j i er = pSet L j er at_ t (run digit s (sk s i2)) (sk s i2) (aofR t kind) (dv s (sk s i2) (run digit s (sk s i2) - sk s i2)) (none)) := by show _ = _; rw [HP3.out]; unfold pNum numBad; rw [if_neg (by simpa using hb), HAO.out]
          obtain ⟨n, hn⟩ : ∃ z, dv s (sk s i2) (run digit s (sk s i2) - sk s i2) = z := ⟨_, rfl⟩
          obtain ⟨j2, hj2⟩ : ∃ z, sk s i2 = z := ⟨_, rfl⟩
          obtain ⟨e2, he2⟩ : ∃ z, run digit s j2 = z := ⟨_, rfl⟩
          rw [hn, hj2, he2] at CN HP4
          clear hn hj2 he2 hb HP3
          go_wp2_with fail
          refine CN.out.mono ?_
          rintro e w6 ⟨rfl, h6, g6⟩
          have HF6 : Hid (F2 rb bl w w6) := HF5.out.trans (F2.left g6)
          have HE6 : Hid (Env w6 rb ab B E) := HE5.out.fr (Fr.grown g6 HE5.out.le)
          have HN6 : Hid (PN w6 B (.slice (some ⟨bl, 0, none⟩) L.length cap) L KV) := HN5.out.up (Up.grown g6 hrB)
          have HR6 : Hid (PR w6 rb s e2 (.slice (some ⟨ab, 0, none⟩) 12 12) (.slice (some ⟨bl, 0, none⟩) L.length cap) (fltV E (er))) := h6
          have HB6 : Hid (w6.heap[P3]? = some (.cells #[.string a0, .int .u64 (a1 : Int), .int .i64 a2, .int .i64 a3, .bool a4, .func (.func g) #[] #[]] 64 (0, 0))) := (g6.block _ (Array.getElem?_eq_some_iff.1 HB5.out).1 (by simp; omega)).trans HB5.out
          clear h6 g6 CN HF5 HE5 HN5 HR5
          have hb6 := HB6.out
          have y0 : w6.cell? ⟨P3, 0, none⟩ = some (.string a0) := by simp [World.cell?, hb6]
          have y1 : w6.cell? ⟨P3, 1, none⟩ = some (.int .u64 (a1 : Int)) := by simp [World.cell?, hb6]
          have y2 : w6.cell? ⟨P3, 2, none⟩ = some (.int .i64 a2) := by simp [World.cell?, hb6]
          have y3 : w6.cell? ⟨P3, 3, none⟩ = some (.int .i64 a3) := by simp [World.cell?, hb6]
          have y4 : w6.cell? ⟨P3, 4, none⟩ = some (.bool a4) := by simp [World.cell?, hb6]
          have y5 : w6.cell? ⟨P3, 5, none⟩ = some (.func (.func g) #[] #[]) := by simp [World.cell?, hb6]
          clear hb6
          have CS : Hid (Calls Tryz.prog 101 #[.pointer (some ⟨rb, 0, none⟩), .pointer (some ⟨bl, j * 16, none⟩), .agg #[.string a0, .int .u64 (a1 : Int), .int .i64 a2, .int .i64 a3, .bool a4, .func (.func g) #[] #[]], .int .i64 n] w6 fun e w' => w6.grownBy w' (some bl) ∧ e = .returned (eoV E (setO L ix n)) ∧ PR w' rb s e2 (.slice (some ⟨ab, 0, none⟩) 12 12) (.slice (some ⟨bl, 0, none⟩) L.length cap) (fltV E (er)) ∧ PN w' B (.slice (some ⟨bl, 0, none⟩) L.length cap) (setL L j ix n) KV) := by
            have hset := set_any rb B s e2 (.slice (some ⟨ab, 0, none⟩) 12 12) (fltV E (er)) L KV bl cap j ix hix n (E 6) (E 5) w6 HR6.out HN6.out hL hj hrB HE6.out.le (by omega) (by omega) (by omega) (by omega) HE6.out.g6 HE6.out.g5
            rw [HROW.out] at hset
            exact hset.mono fun e w' ⟨q1, q2, q3, q4, _⟩ => ⟨q1, by rw [q2, setE_eo], q3, q4⟩
          go_wp2_with fail
          refine CS.out.mono ?_
          rintro e w7 ⟨g7, rfl, h7, n7⟩
          have HF7 : Hid (F2 rb bl w w7) := HF6.out.trans (F2.right g7)
          have HN7 : Hid (PN w7 B (.slice (some ⟨bl, 0, none⟩) L.length cap) (setL L j ix n) KV) := n7
          have CK2 : Hid (Calls Tryz.prog 70 #[.pointer (some ⟨rb, 0, none⟩), eoV E (setO L ix n), .int .i64 (j2 : Int)] w7 fun e w' => e = .returned (.tuple #[]) ∧ PR w' rb s e2 (.slice (some ⟨ab, 0, none⟩) 12 12) (.slice (some ⟨bl, 0, none⟩) L.length cap) (fltV E (keepF (er) (setO L ix n) j2)) ∧ w7.grownBy w' (some rb)) := keep_all rb s e2 _ _ E (er) (setO L ix n) j2 w7 h7
          clear g7 h7 n7 CS y0 y1 y2 y3 y4 y5
          go_wp2_with fail
          refine CK2.out.mono ?_
          rintro e w8 ⟨rfl, h8, g8⟩
          have HR8 : Hid (PR w8 rb s e2 (.slice (some ⟨ab, 0, none⟩) 12 12) (.slice (some ⟨bl, 0, none⟩) L.length cap) (fltV E (keepF (er) (setO L ix n) j2))) := h8
          have HF8 : Hid (F2 rb bl w w8) := HF7.out.trans (F2.left g8)
          have HN8 : Hid (PN w8 B (.slice (some ⟨bl, 0, none⟩) L.length cap) (setL L j ix n) KV) := HN7.out.up (Up.grown g8 hrB)
          clear h8 g8 CK2
          go_wp2
          go_ret
          show RaOut _ _ _ _ _ _ _ _ _ _ _ _
          rw [HP4.out, HIX.out]
          exact ⟨HF8.out, rfl, HR8.out, HN8.out⟩
      · have hq' : isAt s k 61 = false := by simpa using hq
        have CX : Hid (Calls Tryz.prog 76 #[.pointer (some ⟨rb, 0, none⟩), .int .u8 61] w4 fun e w' => e = .panicked [{ v := faultV (sk s k : Int) (errV (E 2)), recovered := false }] ∧ w4.grownBy w' (some rb)) := expect_no rb s k _ _ _ (E 2) 61 w4 HR4.out (by omega) hkl (by omega) hq' (by omega) HE4.out.g2
        have HP3 : Hid (pAttr s kind ws L j i er = .error (sk s k)) := by show _ = _; rw [HP2.out, if_neg hq]
        clear hq hq' HP2
        go_wp2_with fail
        refine CX.out.mono ?_
        rintro e w5 ⟨rfl, g5⟩
        refine ⟨rfl, ?_⟩
        rw [HP3.out]
        exact ⟨HF4.out.trans (F2.left g5), rfl⟩

end Go.Proofs.YtnkebfmlaliddaaGreatDoor

namespace Go.Proofs.YtnkebfmlaliddaaGreatDoor
open Go.RowKit
set_option linter.unusedVariables false

/-- What follows the attributes. -/
def pClose (s : ByteArray) (i : Nat) (er : Flt) (L : List Nd) : Except Nat (Nat × Flt × List Nd) := if isAt s i 125 = true then .ok (gotI s i 125, er, L) else .error (sk s i)
/-- Attributes, as the program reads them. -/
def pAttrsF (s : ByteArray) (kind j : Nat) : Nat → Nat → Flt → List Nd → List ByteArray → Except Nat (Nat × Flt × List Nd)
  | 0, i, _, _, _ => .error i
  | f + 1, i, er, L, ws => match pAttr s kind ws L j i er with
    | .error b => .error b
    | .ok (i2, er2, L2, t) => if isAt s i2 59 = true then pAttrsF s kind j f (gotI s i2 59) er2 L2 (ws ++ [t]) else pClose s (gotI s i2 59) er2 L2
theorem setL_length (L : List Nd) (j k : Nat) (n : Int) : (setL L j k n).length = L.length := by unfold setL; split <;> simp
theorem setL_kind (L : List Nd) (j k q : Nat) (n : Int) : (nth (setL L j k n) q).kind = (nth L q).kind := by
  unfold setL
  split
  · rfl
  · by_cases e : q = j
    · subst e
      by_cases h : q < L.length
      · rw [nth_mod_same _ h]
      · unfold nth; rw [List.getElem?_modify]; simp [h]
    · rw [nth_mod_other _ e]
theorem gotI_at {s : ByteArray} {i c : Nat} (h : isAt s i c = true) : gotI s i c = sk s i + 1 := by
  unfold isAt at h; unfold gotI; rw [if_pos (by simpa using h)]
theorem pAttr_bd {s : ByteArray} {kind : Nat} {ws : List ByteArray} {L : List Nd} {j i : Nat} {er : Flt} {i2 : Nat} {er2 : Flt} {L2 : List Nd} {t : ByteArray} (hi : i ≤ s.size) (h : pAttr s kind ws L j i er = .ok (i2, er2, L2, t)) : i < i2 ∧ i2 ≤ s.size ∧ L2.length = L.length ∧ ∀ q, (nth L2 q).kind = (nth L q).kind := by
  unfold pAttr at h
  have h1 := sk_ge s i
  have h2 := sk_le s i hi
  have h3 := run_ge letter s (sk s i)
  have h4 := run_le letter s (sk s i) h2
  split at h
  · cases h
  · split at h
    · rename_i hq
      have h5 := gotI_at hq
      have h6 := sk_ge s (run letter s (sk s i))
      have h7 := gotI_le (s := s) (i := run letter s (sk s i)) (c := 61) (by omega) h4
      unfold pNum at h
      have h8 := sk_ge s (gotI s (run letter s (sk s i)) 61)
      have h9 := sk_le s _ h7
      have h10 := run_ge digit s (sk s (gotI s (run letter s (sk s i)) 61))
      have h11 := run_le digit s _ h9
      split at h
      · cases h
      · unfold pSet at h
        split at h
        · injection h with h; injection h with e1 h; injection h with e2 h; injection h with e3 e4
          subst e1 e3
          exact ⟨by omega, h11, rfl, fun _ => rfl⟩
        · injection h with h; injection h with e1 h; injection h with e2 h; injection h with e3 e4
          subst e1 e3
          exact ⟨by omega, h11, setL_length _ _ _ _, fun q => setL_kind _ _ _ _ _⟩
    · cases h
theorem infoStr : (Tryz.prog.info? 9).map (fun i => (i.zero, i.size, i.bytes)) = some (some (.string ⟨#[]⟩), 1, 16) := by kernel_rfl
theorem txts_own {W : World} {B : Nat} {v : Value} {ws : List ByteArray} (h : W.ownsRow B 9 1 v ws.length (ws.map Value.string)) : Txts W v ws := by
  rcases own_form h with ⟨rfl, h0⟩ | ⟨g, cap, rfl, h1, h2, _⟩
  · have : ws = [] := List.eq_nil_of_length_eq_zero h0
    subst this
    exact ⟨_, _, rfl, .inl rfl⟩
  · refine ⟨_, _, rfl, .inr ⟨g, rfl, h2, fun j hj => ?_⟩⟩
    rw [Nat.zero_add, h.cellAt j (by omega)]
    simp [hj]
theorem own_f2 {W W' : World} {B n size r b : Nat} {e : TypeId} {v : Value} {xs : List Value} (h : W.ownsRow B e size v n xs) (f : F2 r b W W') (hr : ∀ q, v.ownBlock = some q → q ≠ r ∧ q ≠ b) : W'.ownsRow B e size v n xs := by
  refine ⟨h.1, ?_⟩
  rcases h.2 with h2 | ⟨g, cap, cur, rfl, b, c, d⟩
  · exact .inl h2
  · have := hr g rfl
    refine .inr ⟨g, cap, cur, rfl, b, ?_, d⟩
    rw [f.block g (Array.getElem?_eq_some_iff.1 c).1 this.1 this.2]; exact c
structure F2' (N : Nat) (W W' : World) : Prop where
  os : W'.os = W.os
  tape : W'.tape = W.tape
  output : W'.output = W.output
  size : W.heap.size ≤ W'.heap.size
  block : ∀ k, k < N → k < W.heap.size → W'.heap[k]? = W.heap[k]?
theorem F2.plus {r b : Nat} {W0 W W' : World} (h : F2 r b W0 W) (k : F2' W0.heap.size W W') : F2 r b W0 W' :=
  ⟨k.os.trans h.os, k.tape.trans h.tape, k.output.trans h.output, Nat.le_trans h.size k.size, fun q h1 h2 h3 => (k.block q h1 (Nat.lt_of_lt_of_le h1 h.size)).trans (h.block q h1 h2 h3)⟩
theorem F2.other {W0 W W' : World} {o : Option Nat} (h : W.grownBy W' o) (ho : ∀ q, o = some q → W0.heap.size ≤ q) : F2' W0.heap.size W W' := ⟨h.os, h.tape, h.output, h.size, fun k h1 h2 => h.block k h2 (fun e => by have := ho k e.symm; omega)⟩
theorem PN.beside {W W' : World} {B : Nat} {nv : Value} {L : List Nd} {KV : Nat → Value} {v : Value} {N m sz : Nat} {xs : List Value} (h : PN W B nv L KV) (hv : W.ownsRow N 9 sz v m xs) (hg : W.grownBy W' v.ownBlock) : PN W' B nv L KV := by
  refine ⟨?_, h.len⟩
  obtain ⟨ys, hx⟩ := h.nr.row
  refine ⟨⟨ys, hx.kept hg (own_apart hx hv (by decide))⟩, fun g hgg j hj t u htu => ?_, h.nr.len, fun j hj => (h.nr.kids j hj).kept hg (own_apart (h.nr.kids j hj) hv (by decide)), h.nr.sep⟩
  have hl := hx.lt g hgg
  rw [World.cell?_of_block (hg.block g hl.2 (by
    rcases own_apart hx hv (by decide) with e | e
    · rw [hgg] at e; cases e
    · rw [hgg] at e; exact e))]
  exact h.nr.cells g hgg j hj t u htu
def RsOut (w w' : World) (e : Ending) (rb B bl : Nat) (E : Nat → Addr) (s : ByteArray) (av nv : Value) (KV : Nat → Value) (n : Nat) (r : Except Nat (Nat × Flt × List Nd)) : Prop :=
  F2 rb bl w w' ∧ match r with
  | .error b => e = .panicked [{ v := faultV (b : Int) (errV (E 2)), recovered := false }]
  | .ok (i, er, L) => e = .returned (.tuple #[]) ∧ PR w' rb s i av nv (fltV E er) ∧ PN w' B nv L KV ∧ L.length = n
/-- The loop's state. -/
structure Ras (W0 W : World) (rb ab B bl n0 cap j kind : Nat) (E : Nat → Addr) (s : ByteArray) (i : Nat) (er : Flt) (L : List Nd) (KV : Nat → Value) (v : Value) (ws : List ByteArray) : Prop where
  env : Env W rb ab B E
  pr : PR W rb s i (.slice (some ⟨ab, 0, none⟩) 12 12) (.slice (some ⟨bl, 0, none⟩) n0 cap) (fltV E er)
  pn : PN W B (.slice (some ⟨bl, 0, none⟩) n0 cap) L KV
  len : L.length = n0
  kind : (nth L j).kind = kind
  row : W.ownsRow W0.heap.size 9 1 v ws.length (ws.map Value.string)
  wl : ws.length ≤ i
  il : i ≤ s.size
  fr : F2 rb bl W0 W

set_option maxRecDepth 100000 in
set_option maxHeartbeats 8000000 in
theorem readAttributes_any (rb ab B : Nat) (E : Nat → Addr) (s : ByteArray) (i : Nat) (er : Flt) (L : List Nd) (KV : Nat → Value) (bl cap j kind : Nat) (w : World) (env : Env w rb ab B E)
    (h : PR w rb s i (.slice (some ⟨ab, 0, none⟩) 12 12) (.slice (some ⟨bl, 0, none⟩) L.length cap) (fltV E er)) (hn : PN w B (.slice (some ⟨bl, 0, none⟩) L.length cap) L KV) (hL : L.length ≤ 100000) (hj : j < L.length) (hkd : (nth L j).kind = kind) (hk7 : kind < 7) (hs : s.size ≤ 1073741824) (hi : i ≤ s.size) :
    Calls Tryz.prog 74 #[.pointer (some ⟨rb, 0, none⟩), .pointer (some ⟨bl, j * 16, none⟩)] w fun e w' => RsOut w w' e rb B bl E s (.slice (some ⟨ab, 0, none⟩) 12 12) (.slice (some ⟨bl, 0, none⟩) L.length cap) KV L.length (pAttrsF s kind j (s.size + 1) i er L []) := by
  obtain ⟨R, hR⟩ : ∃ z, pAttrsF s kind j (s.size + 1) i er L [] = z := ⟨_, rfl⟩
  rw [hR]
  have hbl : B ≤ bl ∧ bl < w.heap.size := hn.nr.row.choose_spec.lt bl rfl
  have hrl := h.lt
  obtain ⟨n0, hn0⟩ : ∃ z, L.length = z := ⟨_, rfl⟩
  rw [hn0] at h hn hL hj ⊢
  have H0 : Hid (Ras w w rb ab B bl n0 cap j kind E s i er L KV (.slice none 0 0) []) := ⟨env, h, hn, hn0, hkd, World.ownsRow_nil _ _ _ _, Nat.zero_le _, hi, F2.below (Below.refl _ _)⟩
  have HR : Hid (pAttrsF s kind j (s.size + 1) i er L [] = R) := hR
  obtain ⟨i0, hi0, hz0, hz1, hz2⟩ := info_parts infoStr
  have hrB := env.rbB
  have hlo := env.lo
  clear h hn env hkd hR hn0
  go_enter Tryz.func74, Tryz.ntmps74
  go_wp2
  go_loopw [4, 5] (fun v b wr => ∃ (i : Nat) (er : Flt) (L : List Nd) (ws : List ByteArray) (f : Nat) (m : Bool), b = .bool m ∧ Hid (Ras w wr rb ab B bl n0 cap j kind E s i er L KV v ws) ∧ s.size < f + i ∧ Hid ((if m = true then pAttrsF s kind j f i er L ws else pClose s i er L) = R)) (fun _ b wr => 2 * (s.size - prI wr rb) + (match b with | .bool true => 1 | _ => 0))
  case atStart => exact ⟨i, er, L, [], s.size + 1, true, rfl, H0.out, by omega, HR.out⟩
  case round =>
    clear HR H0 hi
    obtain ⟨i, er, L, ws, f, m, rfl, HS, hf, HRR⟩ := hrel
    have hil := HS.out.il
    have hwl := HS.out.wl
    cases m with
    | true =>
      obtain ⟨f, rfl⟩ : ∃ q, f = q + 1 := ⟨f - 1, by omega⟩
      have hl := HS.out.len
      subst hl
      have hor : ∀ q, u4.ownBlock = some q → q ≠ rb ∧ q ≠ bl := fun q hq => by have := (HS.out.row.lt q hq).1; omega
      have CR : Hid (Calls Tryz.prog 91 #[.pointer (some ⟨rb, 0, none⟩), .pointer (some ⟨bl, j * 16, none⟩), u4] wr fun e w' => RaOut wr w' e rb B bl E s (.slice (some ⟨ab, 0, none⟩) 12 12) (.slice (some ⟨bl, 0, none⟩) L.length cap) KV (pAttr s kind ws L j i er)) := readAttribute_any rb ab B E s i er L KV bl cap j kind u4 ws wr HS.out.env HS.out.pr HS.out.pn hL hj HS.out.kind hk7 (txts_own HS.out.row) hor (by omega) hs hil
      cases hp : pAttr s kind ws L j i er with
      | error b =>
        have HRE : Hid (R = .error b) := by show _ = _; rw [← HRR.out]; simp only [if_true]; unfold pAttrsF; rw [hp]
        rw [hp] at CR
        clear hp HRR
        go_wp2_with fail
        refine CR.out.mono ?_
        rintro e w2 ⟨f2, rfl⟩
        refine ⟨rfl, ?_⟩
        rw [HRE.out]
        exact ⟨HS.out.fr.trans f2, rfl⟩
      | ok r =>
        obtain ⟨i2, er2, L2, t⟩ := r
        obtain ⟨b1, b2, b3, b4⟩ := pAttr_bd hil hp
        have HRE : Hid ((if isAt s i2 59 = true then pAttrsF s kind j f (gotI s i2 59) er2 L2 (ws ++ [t]) else pClose s (gotI s i2 59) er2 L2) = R) := by
          show _ = _; rw [← HRR.out]; simp only [if_true]; conv => rhs; unfold pAttrsF
          rw [hp]
        have HB4 : Hid ((nth L2 j).kind = kind) := by show _ = _; rw [b4]; exact HS.out.kind
        have HB3 : Hid (L2.length = L.length) := b3
        rw [hp] at CR
        clear hp HRR b4 b3
        go_wp2_with fail
        refine CR.out.mono ?_
        rintro e w2 ⟨f2, rfl, h2, n2⟩
        have HR2 : Hid (PR w2 rb s i2 (.slice (some ⟨ab, 0, none⟩) 12 12) (.slice (some ⟨bl, 0, none⟩) L.length cap) (fltV E er2)) := h2
        have HN2 : Hid (PN w2 B (.slice (some ⟨bl, 0, none⟩) L.length cap) L2 KV) := n2
        have HF2 : Hid (F2 rb bl wr w2) := f2
        have HO2 : Hid (w2.ownsRow w.heap.size 9 1 u4 ws.length (ws.map Value.string)) := own_f2 HS.out.row f2 hor
        have hown2 := HO2.out
        have hw2 : w.heap.size ≤ w2.heap.size := Nat.le_trans HS.out.fr.size f2.size
        clear h2 n2 f2 CR
        go_wp2_with (at_builtin; refine wpList_append_own _ rfl _ _ 76 rfl w.heap.size 9 i0 (.string ⟨#[]⟩) 1 16 Tryz.underlying76 hi0 hz0 hz1 hz2 rfl (by decide) _ _ _ rfl (hown2.alloc _) _ 1 1 [.string t] rfl rfl ?c1 ?c2 ?c3 ?c4 ?c5 ?_)
        case c1 => exact cells_new _ _ _ _ rfl
        case c2 => intro u hu; simp at hu; subst hu; rfl
        case c3 => unfold maxLen; omega
        case c4 => omega
        case c5 => simp; omega
        intro v' w3 hown' hg _
        have HA3 : Hid (Below w2.heap.size w2 (w2.alloc (.cells #[.string t] 9))) := (Below.refl _ _).alloc (Nat.le_refl _) _
        have hge : ∀ q, u4.ownBlock = some q → w.heap.size ≤ q := fun q hq => (hown2.lt q hq).1
        have HR3 : Hid (PR w3 rb s i2 (.slice (some ⟨ab, 0, none⟩) 12 12) (.slice (some ⟨bl, 0, none⟩) L.length cap) (fltV E er2)) := PR.far (HR2.out.below HA3.out) hg hge hrl
        have HN3 : Hid (PN w3 B (.slice (some ⟨bl, 0, none⟩) L.length cap) L2 KV) := (HN2.out.up (Up.below HA3.out)).beside (hown2.alloc _) hg
        have HE3 : Hid (Env w3 rb ab B E) := ((HS.out.env.fr (HF2.out.fr HS.out.env.le hbl.1)).fr (Fr.below HA3.out (Nat.le_trans HS.out.env.le HF2.out.size))).fr (Fr.own hg (by have := HS.out.env.le; have := HF2.out.size; simp; omega) (fun q hq => by have := hge q hq; have := hbl.2; have := HS.out.env.le; omega))
        have HF3 : Hid (F2 rb bl w w3) := (HS.out.fr.trans (HF2.out.trans (F2.below HA3.out))).plus (F2.other hg hge)
        have HO3 : Hid (w3.ownsRow w.heap.size 9 1 v' (ws ++ [t]).length ((ws ++ [t]).map Value.string)) := by rw [List.length_append, List.map_append]; exact hown'
        have CT : Hid (Calls Tryz.prog 73 #[.pointer (some ⟨rb, 0, none⟩), .int .u8 59] w3 fun e w' => e = .returned (.bool (isAt s i2 59)) ∧ PR w' rb s (gotI s i2 59) (.slice (some ⟨ab, 0, none⟩) 12 12) (.slice (some ⟨bl, 0, none⟩) L.length cap) (fltV E er2) ∧ w3.grownBy w' (some rb)) := takes_any rb s i2 _ _ _ 59 w3 HR3.out (by omega) b2 (by omega)
        have hgl : gotI s i2 59 ≤ s.size := gotI_le (by omega) b2
        have hgg : i2 ≤ gotI s i2 59 := by unfold gotI; have := sk_ge s i2; split <;> omega
        clear hg hown' hge hown2 HN2 HR2 HA3 HO2
        obtain ⟨m', hm'⟩ : ∃ z, isAt s i2 59 = z := ⟨_, rfl⟩
        obtain ⟨i3, hi3⟩ : ∃ z, gotI s i2 59 = z := ⟨_, rfl⟩
        rw [hm', hi3] at CT HRE
        rw [hi3] at hgl hgg
        clear hm' hi3
        go_wp2_with fail
        refine CT.out.mono ?_
        rintro e w4 ⟨rfl, h4, g4⟩
        have HRD : Hid (prI w4 rb = i3) := h4.prI
        have HRD0 : Hid (prI wr rb = i) := HS.out.pr.prI
        have HSN : Hid (Ras w w4 rb ab B bl L.length cap j kind E s i3 er2 L2 KV v' (ws ++ [t])) := ⟨HE3.out.fr (Fr.grown g4 HE3.out.le), h4, HN3.out.up (Up.grown g4 hrB), HB3.out, HB4.out, own_f2 HO3.out (F2.left (b := bl) g4) (fun q hq => by have := (HO3.out.lt q hq).1; omega), by rw [List.length_append]; simp; omega, hgl, HF3.out.trans (F2.left g4)⟩
        clear h4 g4 CT
        go_wp2
        go_roundw
        case rel => exact ⟨i3, er2, L2, ws ++ [t], f, m', rfl, HSN.out, by omega, HRE.out⟩
        case measure => rw [HRD.out, HRD0.out]; cases m' <;> simp <;> omega
    | false =>
      have hl := HS.out.len
      subst hl
      by_cases hq : isAt s i 125 = true
      · have CX : Hid (Calls Tryz.prog 76 #[.pointer (some ⟨rb, 0, none⟩), .int .u8 125] wr fun e w' => e = .returned (.tuple #[]) ∧ PR w' rb s (gotI s i 125) (.slice (some ⟨ab, 0, none⟩) 12 12) (.slice (some ⟨bl, 0, none⟩) L.length cap) (fltV E er) ∧ wr.grownBy w' (some rb)) := expect_yes rb s i _ _ _ 125 wr HS.out.pr (by omega) hil (by omega) hq
        have HRE : Hid (R = .ok (gotI s i 125, er, L)) := by show _ = _; rw [← HRR.out]; simp only [Bool.false_eq_true, if_false]; unfold pClose; rw [if_pos hq]
        clear HRR
        go_wp2_with fail
        refine CX.out.mono ?_
        rintro e w2 ⟨rfl, h2, g2⟩
        have HO : Hid (RsOut w w2 (.returned (.tuple #[])) rb B bl E s (.slice (some ⟨ab, 0, none⟩) 12 12) (.slice (some ⟨bl, 0, none⟩) L.length cap) KV L.length R) := by
          show RsOut _ _ _ _ _ _ _ _ _ _ _ _ _
          rw [HRE.out]
          exact ⟨HS.out.fr.trans (F2.left g2), rfl, h2, HS.out.pn.up (Up.grown g2 hrB), rfl⟩
        clear h2 g2 CX
        go_wp2
        go_end0
        exact HO.out
      · have hq' : isAt s i 125 = false := by simpa using hq
        have CX : Hid (Calls Tryz.prog 76 #[.pointer (some ⟨rb, 0, none⟩), .int .u8 125] wr fun e w' => e = .panicked [{ v := faultV (sk s i : Int) (errV (E 2)), recovered := false }] ∧ wr.grownBy w' (some rb)) := expect_no rb s i _ _ _ (E 2) 125 wr HS.out.pr (by omega) hil (by omega) hq' (by omega) HS.out.env.g2
        have HRE : Hid (R = .error (sk s i)) := by show _ = _; rw [← HRR.out]; simp only [Bool.false_eq_true, if_false]; unfold pClose; rw [if_neg hq]
        clear HRR
        go_wp2_with fail
        refine CX.out.mono ?_
        rintro e w2 ⟨rfl, g2⟩
        refine ⟨rfl, ?_⟩
        rw [HRE.out]
        exact ⟨HS.out.fr.trans (F2.left g2), rfl⟩

end Go.Proofs.YtnkebfmlaliddaaGreatDoor
