/-
  The program's reader: readAttributes.
-/
import Derived.Test.YtepeepipgkejiadGreatDoorTRaw
namespace Go.Proofs.YtepeepipgkejiadGreatDoor
open Go.RowKit
set_option linter.unusedVariables false

/-- What follows the attributes. -/
def pClose (s : ByteArray) (i : Nat) (er : Flt) (L : List Nd) : Except Nat (Nat × Flt × List Nd) := if isAt s i 125 = true then .ok (gotI s i 125, er, L) else .error (sk s i)
/-- Attributes, as the program reads them. -/
def pAttrsF (s : ByteArray) (kind j : Nat) : Nat → Nat → Flt → List Nd → List ByteArray → Except Nat (Nat × Flt × List Nd)
  | 0, i, _, _, _ => .error i
  | f + 1, i, er, L, ws => match pAttr s kind ws L j i er with
    | .error b => .error b
    | .ok (i2, er2, L2, t) => if isAt s i2 59 = true then pAttrsF s kind j f (gotI s i2 59) er2 L2 (ws ++ [t]) else pClose s (gotI s i2 59) er2 L2
theorem setL_length (L : List Nd) (j k : Nat) (n : Int) : (setL L j k n).length = L.length := by unfold setL; split <;> simp
theorem setL_kind (L : List Nd) (j k q : Nat) (n : Int) : (nth (setL L j k n) q).kind = (nth L q).kind := by
  unfold setL
  split
  · rfl
  · by_cases e : q = j
    · subst e
      by_cases h : q < L.length
      · rw [nth_mod_same _ h]
      · unfold nth; rw [List.getElem?_modify]; simp [h]
    · rw [nth_mod_other _ e]
theorem gotI_at {s : ByteArray} {i c : Nat} (h : isAt s i c = true) : gotI s i c = sk s i + 1 := by
  unfold isAt at h; unfold gotI; rw [if_pos (by simpa using h)]
theorem pAttr_bd {s : ByteArray} {kind : Nat} {ws : List ByteArray} {L : List Nd} {j i : Nat} {er : Flt} {i2 : Nat} {er2 : Flt} {L2 : List Nd} {t : ByteArray} (hi : i ≤ s.size) (h : pAttr s kind ws L j i er = .ok (i2, er2, L2, t)) : i < i2 ∧ i2 ≤ s.size ∧ L2.length = L.length ∧ ∀ q, (nth L2 q).kind = (nth L q).kind := by
  unfold pAttr at h
  have h1 := sk_ge s i
  have h2 := sk_le s i hi
  have h3 := run_ge letter s (sk s i)
  have h4 := run_le letter s (sk s i) h2
  split at h
  · cases h
  · split at h
    · rename_i hq
      have h5 := gotI_at hq
      have h6 := sk_ge s (run letter s (sk s i))
      have h7 := gotI_le (s := s) (i := run letter s (sk s i)) (c := 61) (by omega) h4
      unfold pNum at h
      have h8 := sk_ge s (gotI s (run letter s (sk s i)) 61)
      have h9 := sk_le s _ h7
      have h10 := run_ge digit s (sk s (gotI s (run letter s (sk s i)) 61))
      have h11 := run_le digit s _ h9
      split at h
      · cases h
      · unfold pSet at h
        split at h
        · injection h with h; injection h with e1 h; injection h with e2 h; injection h with e3 e4
          subst e1 e3
          exact ⟨by omega, h11, rfl, fun _ => rfl⟩
        · injection h with h; injection h with e1 h; injection h with e2 h; injection h with e3 e4
          subst e1 e3
          exact ⟨by omega, h11, setL_length _ _ _ _, fun q => setL_kind _ _ _ _ _⟩
    · cases h
theorem infoStr : (Tryz.prog.info? 9).map (fun i => (i.zero, i.size, i.bytes)) = some (some (.string ⟨#[]⟩), 1, 16) := by kernel_rfl
theorem txts_own {W : World} {B : Nat} {v : Value} {ws : List ByteArray} (h : W.ownsRow B 9 1 v ws.length (ws.map Value.string)) : Txts W v ws := by
  rcases own_form h with ⟨rfl, h0⟩ | ⟨g, cap, rfl, h1, h2, _⟩
  · have : ws = [] := List.eq_nil_of_length_eq_zero h0
    subst this
    exact ⟨_, _, rfl, .inl rfl⟩
  · refine ⟨_, _, rfl, .inr ⟨g, rfl, h2, fun j hj => ?_⟩⟩
    rw [Nat.zero_add, h.cellAt j (by omega)]
    simp [hj]
theorem own_f2 {W W' : World} {B n size r b : Nat} {e : TypeId} {v : Value} {xs : List Value} (h : W.ownsRow B e size v n xs) (f : F2 r b W W') (hr : ∀ q, v.ownBlock = some q → q ≠ r ∧ q ≠ b) : W'.ownsRow B e size v n xs := by
  refine ⟨h.1, ?_⟩
  rcases h.2 with h2 | ⟨g, cap, cur, rfl, b, c, d⟩
  · exact .inl h2
  · have := hr g rfl
    refine .inr ⟨g, cap, cur, rfl, b, ?_, d⟩
    rw [f.block g (Array.getElem?_eq_some_iff.1 c).1 this.1 this.2]; exact c
structure F2' (N : Nat) (W W' : World) : Prop where
  os : W'.os = W.os
  tape : W'.tape = W.tape
  output : W'.output = W.output
  size : W.heap.size ≤ W'.heap.size
  block : ∀ k, k < N → k < W.heap.size → W'.heap[k]? = W.heap[k]?
theorem F2.plus {r b : Nat} {W0 W W' : World} (h : F2 r b W0 W) (k : F2' W0.heap.size W W') : F2 r b W0 W' :=
  ⟨k.os.trans h.os, k.tape.trans h.tape, k.output.trans h.output, Nat.le_trans h.size k.size, fun q h1 h2 h3 => (k.block q h1 (Nat.lt_of_lt_of_le h1 h.size)).trans (h.block q h1 h2 h3)⟩
theorem F2.other {W0 W W' : World} {o : Option Nat} (h : W.grownBy W' o) (ho : ∀ q, o = some q → W0.heap.size ≤ q) : F2' W0.heap.size W W' := ⟨h.os, h.tape, h.output, h.size, fun k h1 h2 => h.block k h2 (fun e => by have := ho k e.symm; omega)⟩
theorem PN.beside {W W' : World} {B : Nat} {nv : Value} {L : List Nd} {KV : Nat → Value} {v : Value} {N m sz : Nat} {xs : List Value} (h : PN W B nv L KV) (hv : W.ownsRow N 9 sz v m xs) (hg : W.grownBy W' v.ownBlock) : PN W' B nv L KV := by
  refine ⟨?_, h.len⟩
  obtain ⟨ys, hx⟩ := h.nr.row
  refine ⟨⟨ys, hx.kept hg (own_apart hx hv (by decide))⟩, fun g hgg j hj t u htu => ?_, h.nr.len, fun j hj => (h.nr.kids j hj).kept hg (own_apart (h.nr.kids j hj) hv (by decide)), h.nr.sep⟩
  have hl := hx.lt g hgg
  rw [World.cell?_of_block (hg.block g hl.2 (by
    rcases own_apart hx hv (by decide) with e | e
    · rw [hgg] at e; cases e
    · rw [hgg] at e; exact e))]
  exact h.nr.cells g hgg j hj t u htu
def RsOut (w w' : World) (e : Ending) (rb B bl : Nat) (E : Nat → Addr) (s : ByteArray) (av nv : Value) (KV : Nat → Value) (n : Nat) (r : Except Nat (Nat × Flt × List Nd)) : Prop :=
  F2 rb bl w w' ∧ match r with
  | .error b => e = .panicked [{ v := faultV (b : Int) (errV (E 2)), recovered := false }]
  | .ok (i, er, L) => e = .returned (.tuple #[]) ∧ PR w' rb s i av nv (fltV E er) ∧ PN w' B nv L KV ∧ L.length = n
/-- The loop's state. -/
structure Ras (W0 W : World) (rb ab B bl n0 cap j kind : Nat) (E : Nat → Addr) (s : ByteArray) (i : Nat) (er : Flt) (L : List Nd) (KV : Nat → Value) (v : Value) (ws : List ByteArray) : Prop where
  env : Env W rb ab B E
  pr : PR W rb s i (.slice (some ⟨ab, 0, none⟩) 12 12) (.slice (some ⟨bl, 0, none⟩) n0 cap) (fltV E er)
  pn : PN W B (.slice (some ⟨bl, 0, none⟩) n0 cap) L KV
  len : L.length = n0
  kind : (nth L j).kind = kind
  row : W.ownsRow W0.heap.size 9 1 v ws.length (ws.map Value.string)
  wl : ws.length ≤ i
  il : i ≤ s.size
  fr : F2 rb bl W0 W

set_option maxRecDepth 100000 in
set_option maxHeartbeats 8000000 in
theorem readAttributes_any (rb ab B : Nat) (E : Nat → Addr) (s : ByteArray) (i : Nat) (er : Flt) (L : List Nd) (KV : Nat → Value) (bl cap j kind : Nat) (w : World) (env : Env w rb ab B E)
    (h : PR w rb s i (.slice (some ⟨ab, 0, none⟩) 12 12) (.slice (some ⟨bl, 0, none⟩) L.length cap) (fltV E er)) (hn : PN w B (.slice (some ⟨bl, 0, none⟩) L.length cap) L KV) (hL : L.length ≤ 100000) (hj : j < L.length) (hkd : (nth L j).kind = kind) (hk7 : kind < 7) (hs : s.size ≤ 1073741824) (hi : i ≤ s.size) :
    Calls Tryz.prog 70 #[.pointer (some ⟨rb, 0, none⟩), .pointer (some ⟨bl, j * 16, none⟩)] w fun e w' => RsOut w w' e rb B bl E s (.slice (some ⟨ab, 0, none⟩) 12 12) (.slice (some ⟨bl, 0, none⟩) L.length cap) KV L.length (pAttrsF s kind j (s.size + 1) i er L []) := by
  obtain ⟨R, hR⟩ : ∃ z, pAttrsF s kind j (s.size + 1) i er L [] = z := ⟨_, rfl⟩
  rw [hR]
  have hbl : B ≤ bl ∧ bl < w.heap.size := hn.nr.row.choose_spec.lt bl rfl
  have hrl := h.lt
  obtain ⟨n0, hn0⟩ : ∃ z, L.length = z := ⟨_, rfl⟩
  rw [hn0] at h hn hL hj ⊢
  have H0 : Hid (Ras w w rb ab B bl n0 cap j kind E s i er L KV (.slice none 0 0) []) := ⟨env, h, hn, hn0, hkd, World.ownsRow_nil _ _ _ _, Nat.zero_le _, hi, F2.below (Below.refl _ _)⟩
  have HR : Hid (pAttrsF s kind j (s.size + 1) i er L [] = R) := hR
  obtain ⟨i0, hi0, hz0, hz1, hz2⟩ := info_parts infoStr
  have hrB := env.rbB
  have hlo := env.lo
  clear h hn env hkd hR hn0
  go_enter Tryz.func70, Tryz.ntmps70
  go_wp2
  go_loopw [4, 5] (fun v b wr => ∃ (i : Nat) (er : Flt) (L : List Nd) (ws : List ByteArray) (f : Nat) (m : Bool), b = .bool m ∧ Hid (Ras w wr rb ab B bl n0 cap j kind E s i er L KV v ws) ∧ s.size < f + i ∧ Hid ((if m = true then pAttrsF s kind j f i er L ws else pClose s i er L) = R)) (fun _ b wr => 2 * (s.size - prI wr rb) + (match b with | .bool true => 1 | _ => 0))
  case atStart => exact ⟨i, er, L, [], s.size + 1, true, rfl, H0.out, by omega, HR.out⟩
  case round =>
    clear HR H0 hi
    obtain ⟨i, er, L, ws, f, m, rfl, HS, hf, HRR⟩ := hrel
    have hil := HS.out.il
    have hwl := HS.out.wl
    cases m with
    | true =>
      obtain ⟨f, rfl⟩ : ∃ q, f = q + 1 := ⟨f - 1, by omega⟩
      have hl := HS.out.len
      subst hl
      have hor : ∀ q, u4.ownBlock = some q → q ≠ rb ∧ q ≠ bl := fun q hq => by have := (HS.out.row.lt q hq).1; omega
      have CR : Hid (Calls Tryz.prog 91 #[.pointer (some ⟨rb, 0, none⟩), .pointer (some ⟨bl, j * 16, none⟩), u4] wr fun e w' => RaOut wr w' e rb B bl E s (.slice (some ⟨ab, 0, none⟩) 12 12) (.slice (some ⟨bl, 0, none⟩) L.length cap) KV (pAttr s kind ws L j i er)) := readAttribute_any rb ab B E s i er L KV bl cap j kind u4 ws wr HS.out.env HS.out.pr HS.out.pn hL hj HS.out.kind hk7 (txts_own HS.out.row) hor (by omega) hs hil
      cases hp : pAttr s kind ws L j i er with
      | error b =>
        have HRE : Hid (R = .error b) := by show _ = _; rw [← HRR.out]; simp only [if_true]; unfold pAttrsF; rw [hp]
        rw [hp] at CR
        clear hp HRR
        go_wp2_with fail
        refine CR.out.mono ?_
        rintro e w2 ⟨f2, rfl⟩
        refine ⟨rfl, ?_⟩
        rw [HRE.out]
        exact ⟨HS.out.fr.trans f2, rfl⟩
      | ok r =>
        obtain ⟨i2, er2, L2, t⟩ := r
        obtain ⟨b1, b2, b3, b4⟩ := pAttr_bd hil hp
        have HRE : Hid ((if isAt s i2 59 = true then pAttrsF s kind j f (gotI s i2 59) er2 L2 (ws ++ [t]) else pClose s (gotI s i2 59) er2 L2) = R) := by
          show _ = _; rw [← HRR.out]; simp only [if_true]; conv => rhs; unfold pAttrsF
          rw [hp]
        have HB4 : Hid ((nth L2 j).kind = kind) := by show _ = _; rw [b4]; exact HS.out.kind
        have HB3 : Hid (L2.length = L.length) := b3
        rw [hp] at CR
        clear hp HRR b4 b3
        go_wp2_with fail
        refine CR.out.mono ?_
        rintro e w2 ⟨f2, rfl, h2, n2⟩
        have HR2 : Hid (PR w2 rb s i2 (.slice (some ⟨ab, 0, none⟩) 12 12) (.slice (some ⟨bl, 0, none⟩) L.length cap) (fltV E er2)) := h2
        have HN2 : Hid (PN w2 B (.slice (some ⟨bl, 0, none⟩) L.length cap) L2 KV) := n2
        have HF2 : Hid (F2 rb bl wr w2) := f2
        have HO2 : Hid (w2.ownsRow w.heap.size 9 1 u4 ws.length (ws.map Value.string)) := own_f2 HS.out.row f2 hor
        have hown2 := HO2.out
        have hw2 : w.heap.size ≤ w2.heap.size := Nat.le_trans HS.out.fr.size f2.size
        clear h2 n2 f2 CR
        go_wp2_with (at_builtin; refine wpList_append_own _ rfl _ _ 74 rfl w.heap.size 9 i0 (.string ⟨#[]⟩) 1 16 Tryz.underlying74 hi0 hz0 hz1 hz2 rfl (by decide) _ _ _ rfl (hown2.alloc _) _ 1 1 [.string t] rfl rfl ?c1 ?c2 ?c3 ?c4 ?c5 ?_)
        case c1 => exact cells_new _ _ _ _ rfl
        case c2 => intro u hu; simp at hu; subst hu; rfl
        case c3 => unfold maxLen; omega
        case c4 => omega
        case c5 => simp; omega
        intro v' w3 hown' hg _
        have HA3 : Hid (Below w2.heap.size w2 (w2.alloc (.cells #[.string t] 9))) := (Below.refl _ _).alloc (Nat.le_refl _) _
        have hge : ∀ q, u4.ownBlock = some q → w.heap.size ≤ q := fun q hq => (hown2.lt q hq).1
        have HR3 : Hid (PR w3 rb s i2 (.slice (some ⟨ab, 0, none⟩) 12 12) (.slice (some ⟨bl, 0, none⟩) L.length cap) (fltV E er2)) := PR.far (HR2.out.below HA3.out) hg hge hrl
        have HN3 : Hid (PN w3 B (.slice (some ⟨bl, 0, none⟩) L.length cap) L2 KV) := (HN2.out.up (Up.below HA3.out)).beside (hown2.alloc _) hg
        have HE3 : Hid (Env w3 rb ab B E) := ((HS.out.env.fr (HF2.out.fr HS.out.env.le hbl.1)).fr (Fr.below HA3.out (Nat.le_trans HS.out.env.le HF2.out.size))).fr (Fr.own hg (by have := HS.out.env.le; have := HF2.out.size; simp; omega) (fun q hq => by have := hge q hq; have := hbl.2; have := HS.out.env.le; omega))
        have HF3 : Hid (F2 rb bl w w3) := (HS.out.fr.trans (HF2.out.trans (F2.below HA3.out))).plus (F2.other hg hge)
        have HO3 : Hid (w3.ownsRow w.heap.size 9 1 v' (ws ++ [t]).length ((ws ++ [t]).map Value.string)) := by rw [List.length_append, List.map_append]; exact hown'
        have CT : Hid (Calls Tryz.prog 69 #[.pointer (some ⟨rb, 0, none⟩), .int .u8 59] w3 fun e w' => e = .returned (.bool (isAt s i2 59)) ∧ PR w' rb s (gotI s i2 59) (.slice (some ⟨ab, 0, none⟩) 12 12) (.slice (some ⟨bl, 0, none⟩) L.length cap) (fltV E er2) ∧ w3.grownBy w' (some rb)) := takes_any rb s i2 _ _ _ 59 w3 HR3.out (by omega) b2 (by omega)
        have hgl : gotI s i2 59 ≤ s.size := gotI_le (by omega) b2
        have hgg : i2 ≤ gotI s i2 59 := by unfold gotI; have := sk_ge s i2; split <;> omega
        clear hg hown' hge hown2 HN2 HR2 HA3 HO2
        obtain ⟨m', hm'⟩ : ∃ z, isAt s i2 59 = z := ⟨_, rfl⟩
        obtain ⟨i3, hi3⟩ : ∃ z, gotI s i2 59 = z := ⟨_, rfl⟩
        rw [hm', hi3] at CT HRE
        rw [hi3] at hgl hgg
        clear hm' hi3
        go_wp2_with fail
        refine CT.out.mono ?_
        rintro e w4 ⟨rfl, h4, g4⟩
        have HRD : Hid (prI w4 rb = i3) := h4.prI
        have HRD0 : Hid (prI wr rb = i) := HS.out.pr.prI
        have HSN : Hid (Ras w w4 rb ab B bl L.length cap j kind E s i3 er2 L2 KV v' (ws ++ [t])) := ⟨HE3.out.fr (Fr.grown g4 HE3.out.le), h4, HN3.out.up (Up.grown g4 hrB), HB3.out, HB4.out, own_f2 HO3.out (F2.left (b := bl) g4) (fun q hq => by have := (HO3.out.lt q hq).1; omega), by rw [List.length_append]; simp; omega, hgl, HF3.out.trans (F2.left g4)⟩
        clear h4 g4 CT
        go_wp2
        go_roundw
        case rel => exact ⟨i3, er2, L2, ws ++ [t], f, m', rfl, HSN.out, by omega, HRE.out⟩
        case measure => rw [HRD.out, HRD0.out]; cases m' <;> simp <;> omega
    | false =>
      have hl := HS.out.len
      subst hl
      by_cases hq : isAt s i 125 = true
      · have CX : Hid (Calls Tryz.prog 72 #[.pointer (some ⟨rb, 0, none⟩), .int .u8 125] wr fun e w' => e = .returned (.tuple #[]) ∧ PR w' rb s (gotI s i 125) (.slice (some ⟨ab, 0, none⟩) 12 12) (.slice (some ⟨bl, 0, none⟩) L.length cap) (fltV E er) ∧ wr.grownBy w' (some rb)) := expect_yes rb s i _ _ _ 125 wr HS.out.pr (by omega) hil (by omega) hq
        have HRE : Hid (R = .ok (gotI s i 125, er, L)) := by show _ = _; rw [← HRR.out]; simp only [Bool.false_eq_true, if_false]; unfold pClose; rw [if_pos hq]
        clear HRR
        go_wp2_with fail
        refine CX.out.mono ?_
        rintro e w2 ⟨rfl, h2, g2⟩
        have HO : Hid (RsOut w w2 (.returned (.tuple #[])) rb B bl E s (.slice (some ⟨ab, 0, none⟩) 12 12) (.slice (some ⟨bl, 0, none⟩) L.length cap) KV L.length R) := by
          show RsOut _ _ _ _ _ _ _ _ _ _ _ _ _
          rw [HRE.out]
          exact ⟨HS.out.fr.trans (F2.left g2), rfl, h2, HS.out.pn.up (Up.grown g2 hrB), rfl⟩
        clear h2 g2 CX
        go_wp2
        go_end0
        exact HO.out
      · have hq' : isAt s i 125 = false := by simpa using hq
        have CX : Hid (Calls Tryz.prog 72 #[.pointer (some ⟨rb, 0, none⟩), .int .u8 125] wr fun e w' => e = .panicked [{ v := faultV (sk s i : Int) (errV (E 2)), recovered := false }] ∧ wr.grownBy w' (some rb)) := expect_no rb s i _ _ _ (E 2) 125 wr HS.out.pr (by omega) hil (by omega) hq' (by omega) HS.out.env.g2
        have HRE : Hid (R = .error (sk s i)) := by show _ = _; rw [← HRR.out]; simp only [Bool.false_eq_true, if_false]; unfold pClose; rw [if_neg hq]
        clear HRR
        go_wp2_with fail
        refine CX.out.mono ?_
        rintro e w2 ⟨rfl, g2⟩
        refine ⟨rfl, ?_⟩
        rw [HRE.out]
        exact ⟨HS.out.fr.trans (F2.left g2), rfl⟩

end Go.Proofs.YtepeepipgkejiadGreatDoor
