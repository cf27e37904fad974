/-
  Style of a terminal; two terminals beside one another.
-/
import Derived.Test.YtdpinmlbccolnaiDoorMTwin
import Derived.Test.YtdpinmlbccolnaiDoorMKeep
import Derived.Test.YtdpinmlbccolnaiDoorCards
import Derived.Test.YtdpinmlbccolnaiDoorTie
import Derived.Test.YtdpinmlbccolnaiDoorMLaid
import Derived.WalkKit
import Derived.ShutString
import Derived.ProofKit
import Derived.OpenShut
import Derived.ChangeOld
import Derived.Below
import Derived.Lay
import Derived.Lib.LaidTab
import Derived.Deep.DeepHandedRow
import Derived.Deep.Slices
import Derived.ChangeSame
namespace Go.Proofs.YtdpinmlbccolnaiDoor
open Go.RowKit Go.Sort
set_option linter.unusedVariables false

section
variable {T K M cap : Nat} {s : Tm} {nv : Value}
set_option maxRecDepth 100000 in
set_option maxHeartbeats 1000000 in
theorem tstyle_any (w : World) (h : TM w T K M cap s nv) : Calls Tryd.prog 13 #[.pointer (some ⟨T, 0, none⟩)] w fun e w' => e = .returned (sv s.r.f s.r.g s.r.b) ∧ Gr w w' := by
  have HM : Hid (TM w T K M cap s nv) := h
  clear h
  go_enter Tryd.func13, Tryd.ntmps13
  go_upto_region 1 with fail
  obtain ⟨S, hS⟩ : ∃ z, w.heap.size = z := ⟨_, rfl⟩
  obtain ⟨W0, hW0⟩ : ∃ z, w.alloc (.cells #[.int .i64 0, .int .i64 0, .int .i64 0] 33) = z := ⟨_, rfl⟩
  have G0 : Hid (Gr w W0) := by rw [← hW0]; exact (Gr.refl w).alloc _
  have R0 : Hid (R3 33 W0 S 0 0 0) := by rw [← hW0, ← hS]; exact R3.new w 0 0 0 _
  have H0 : Hid (TM W0 T K M cap s nv) := HM.out.gr G0.out
  rw [hW0, hS]
  have HS : Hid (w.heap.size = S) := hS
  clear hW0 hS
  have c3 : W0.cell? ⟨T, 3, none⟩ = some (.int .i64 s.r.f) := H0.out.at rfl
  have c4 : W0.cell? ⟨T, 4, none⟩ = some (.int .i64 s.r.g) := H0.out.at rfl
  have c5 : W0.cell? ⟨T, 5, none⟩ = some (.int .i64 s.r.b) := H0.out.at rfl
  have z0 := R0.out.c0
  have z1 := R0.out.c1
  have z2 := R0.out.c2
  have zf := R0.out.fz
  go_wp2
  refine bodyPost_ret (results_cell_row rfl _ _ S _ _ _ _ rfl (R0.out.set s.r.f s.r.g s.r.b) Tryd.underlying33 rfl (by kernel_rfl)) rfl ?_
  exact ⟨rfl, ((G0.out.set (by rw [HS.out]; exact Nat.le_refl _) _).set (by rw [HS.out]; exact Nat.le_refl _) _).set (by rw [HS.out]; exact Nat.le_refl _) _⟩

/-- A terminal, while another one is written. -/
theorem TM.c2 {w w' : World} {U N : Nat} (h : TM w T K M cap s nv) (g : C2 U N w w') (h1 : T ≠ U ∧ T ≠ N) (h2 : K ≠ U ∧ K ≠ N) (h3 : M ≠ U ∧ M ≠ N) : TM w' T K M cap s nv :=
  ⟨(g.block T h.lt h1.1 h1.2).trans h.tb, ⟨(g.block K h.cs.klt h2.1 h2.2).trans h.cs.kb, h.cs.cv.keep (g.block M h.cs.cv.lt h3.1 h3.2), h.cs.ne, h.cs.hc⟩, h.tk, h.tm, h.hW, h.hH, h.pa⟩
theorem Nx.c2 {w w' : World} {v : Value} {st : St} {U N : Nat} (h : Nx w T M v st) (g : C2 U N w w') (hu : ∀ k, (∃ c t, w.heap[k]? = some (.cells c t (0, 0))) → v ≠ fnV 41 #[] → k ≠ U ∧ k ≠ N) : Nx w' T M v st := by
  cases st with
  | out => exact h
  | esc => exact h
  | amid hh =>
    obtain ⟨k, h1, h2, h3, h4⟩ := h
    have q := hu k ⟨_, _, h4⟩ (by rw [h1]; intro e; simp [fnV] at e)
    exact ⟨k, h1, h2, h3, (g.block k (Array.getElem?_eq_some_iff.1 h4).1 q.1 q.2).trans h4⟩
  | wth l a =>
    obtain ⟨k, h1, h2, h3, h4⟩ := h
    have q := hu k ⟨_, _, h4⟩ (by rw [h1]; intro e; simp [fnV] at e)
    exact ⟨k, h1, h2, h3, h4.c2 g q.1 q.2⟩
end

end Go.Proofs.YtdpinmlbccolnaiDoor

namespace Go.Proofs.YtdpinmlbccolnaiDoor
open Go.RowKit Go.Sort
set_option linter.unusedVariables false

theorem cut_list (x : ByteArray) (a b : Nat) (h : a ≤ b) (hb : b ≤ x.size) : x.data.toList.take a ++ (x.extract a b).data.toList = x.data.toList.take b := by
  have e : (x.extract a b).data.toList = (x.data.toList.take b).drop a := by
    rw [ByteArray.data_extract, Array.toList_extract]
    simp [List.extract, List.drop_take]
  rw [e]
  have h2 : (x.data.toList.take b).take a = x.data.toList.take a := by rw [List.take_take, Nat.min_eq_left h]
  rw [← h2, List.take_append_drop]
theorem C2.low {T M : Nat} {w0 w w' : World} (g : C2 T M w w') (b : Below w0.heap.size w0 w) (hT : w0.heap.size ≤ T) (hM : w0.heap.size ≤ M) : Below w0.heap.size w0 w' :=
  ⟨g.os.trans b.os, g.tape.trans b.tape, g.output.trans b.output, Nat.le_trans b.size g.size, fun k hk => (g.block k (Nat.lt_of_lt_of_le hk b.size) (by omega) (by omega)).trans (b.block k hk)⟩

/-- A terminal that has read l. -/
structure At2 (w : World) (T K M cap W H : Nat) (l : List UInt8) : Prop where
  tm : ∃ nv, TM w T K M cap (runT (tm0 W H, .out) l).1 nv ∧ Nx w T M nv (runT (tm0 W H, .out) l).2
  ti : Ti (runT (tm0 W H, .out) l).1
  si : Si (runT (tm0 W H, .out) l).2
/-- It reads m more. -/
theorem At2.write {w : World} {T K M cap W H : Nat} {l : List UInt8} (h : At2 w T K M cap W H l) (x : ByteArray) (hx : x.size ≤ 9223372036854775807) (ht : TabAt w) (hU : Utf w) (hfar : Far T M) :
    Calls Tryd.prog 10 #[.pointer (some ⟨T, 0, none⟩), .string x] w fun e w' => e = .returned (.tuple #[]) ∧ At2 w' T K M cap W H (l ++ x.data.toList) ∧ C2 T M w w' := by
  obtain ⟨nv, h1, h2⟩ := h.tm
  refine (write_any x hx w h1 h2 h.ti h.si ht hU hfar).mono fun e w' q => ?_
  obtain ⟨q1, ⟨nv', q2, q3⟩, q4, q5, q6⟩ := q
  have e2 : runT ((runT (tm0 W H, .out) l).1, (runT (tm0 W H, .out) l).2) x.data.toList = runT (tm0 W H, .out) (l ++ x.data.toList) := (runT_append _ _ _).symm
  rw [e2] at q2 q3 q4 q5
  exact ⟨q1, ⟨⟨nv', q2, q3⟩, q4, q5⟩, q6⟩

end Go.Proofs.YtdpinmlbccolnaiDoor

namespace Go.Proofs.YtdpinmlbccolnaiDoor
open Go.RowKit Go.Sort
set_option linter.unusedVariables false

/-- The second terminal, while the first one is written, before it has read. -/
theorem At2.other {w w' : World} {T M U K N cap W H : Nat} (h : TM w U K N cap (tm0 W H) (fnV 41 #[])) (g : C2 T M w w') (hH : 1 ≤ H) (h1 : U ≠ T ∧ U ≠ M) (h2 : K ≠ T ∧ K ≠ M) (h3 : N ≠ T ∧ N ≠ M) : At2 w' U K N cap W H [] :=
  ⟨⟨_, h.c2 g h1 h2 h3, rfl⟩, ti0 W H hH, trivial⟩

/-- What the walk of TermCut has, while the second terminal is written. -/
structure Cut (w0 w : World) (T K M U K2 N cap W H : Nat) (l m : List UInt8) : Prop where
  t : ∃ nv, TM w T K M cap (runT (tm0 W H, .out) l).1 nv
  u : At2 w U K2 N cap W H m
  b : Below w0.heap.size w0 w
/-- The second one reads more. -/
theorem Cut.next {w0 w w' : World} {T K M U K2 N cap W H : Nat} {l m m' : List UInt8} (h : Cut w0 w T K M U K2 N cap W H l m) (a : At2 w' U K2 N cap W H m') (g : C2 U N w w') (hU : w0.heap.size ≤ U) (hN : w0.heap.size ≤ N) (h1 : T ≠ U ∧ T ≠ N) (h2 : K ≠ U ∧ K ≠ N) (h3 : M ≠ U ∧ M ≠ N) : Cut w0 w' T K M U K2 N cap W H l m' := by
  obtain ⟨nv, q⟩ := h.t
  exact ⟨⟨nv, q.c2 g h1 h2 h3⟩, a, g.low h.b hU hN⟩

set_option maxRecDepth 100000 in
set_option maxHeartbeats 8000000 in
theorem cut_walk (W H : Int) (x : ByteArray) (hx : x.size ≤ 9223372036854775807) (zs : List Int) (cv : Value) (w : World) (hz : Ints w cv zs) (hzl : zs.length ≤ 9223372036854775807) (ht : TabAt w) (hU : Utf w) (hg : 2 < w.heap.size) : Calls Tryd.prog 3 #[.int .i64 W, .int .i64 H, .string x, cv] w fun e w' => e = .returned (.bool true) ∧ Below w.heap.size w w' := by
  obtain ⟨pz, cz, rfl, _⟩ : ∃ p c, cv = .slice p zs.length c ∧ True := by obtain ⟨a, c, h, _⟩ := hz; exact ⟨a, c, h, trivial⟩
  by_cases hwh : (1 ≤ W ∧ W ≤ 400) ∧ (1 ≤ H ∧ H ≤ 400)
  · obtain ⟨W, rfl⟩ : ∃ W' : Nat, W = (W' : Int) := ⟨W.toNat, by omega⟩
    obtain ⟨H, rfl⟩ : ∃ H' : Nat, H = (H' : Int) := ⟨H.toNat, by omega⟩
    have TW : Hid (∀ w, Calls Tryd.prog 9 #[.int .i64 W, .int .i64 H] w fun e w' => ∃ T K M T2, e = .returned (.tuple #[.pointer (some ⟨T, 0, none⟩), .pointer (some ⟨T2, 0, none⟩), .bool true]) ∧ TM w' T K M (W * H) (tm0 W H) (fnV 41 #[]) ∧ w.heap.size ≤ T ∧ w.heap.size ≤ K ∧ w.heap.size ≤ M ∧ Below w.heap.size w w') := fun w => twin_ok W H w (by omega) (by omega) (pall0 W H)
    have HT : Hid (TabAt w) := ht
    have HU : Hid (Utf w) := hU
    have HZ : Hid (∀ wr, Below w.heap.size w wr → ∀ i, i < zs.length → ∃ b o, pz = some ⟨b, o, none⟩ ∧ wr.cell? ⟨b, o + i, none⟩ = some (.int .i64 (zs[i]?.getD 0))) := fun wr hb i hi => by
      obtain ⟨a, c, e, h⟩ := hz.below hb
      injection e with e1 e2 e3
      rcases h with h | ⟨b, o, h1, h2, h3⟩
      · exact absurd hi (by rw [h]; simp)
      · exact ⟨b, o, e1.trans h1, h3 i hi⟩
    have hsz := hU.sz
    clear ht hU hz
    go_enter Tryd.func3, Tryd.ntmps3
    go_wp2_with fail
    refine (TW.out w).mono ?_
    rintro e w1 ⟨T, K, M, T2, rfl, h1, hT, hK, hM, b1⟩
    have HA1 : Hid (TM w1 T K M (W * H) (tm0 W H) (fnV 41 #[])) := h1
    have HB1 : Hid (Below w.heap.size w w1) := b1
    have hl1 := h1.lt
    have hl2 := h1.cs.klt
    have hl3 := h1.cs.cv.lt
    clear h1 b1
    go_wp2_with fail
    refine (TW.out w1).mono ?_
    rintro e w2 ⟨U, K2, N, U2, rfl, h2, hU1, hK1, hN1, b2⟩
    have HA2 : Hid (TM w2 U K2 N (W * H) (tm0 W H) (fnV 41 #[])) := h2
    have HB2 : Hid (Below w.heap.size w w2) := HB1.out.trans (b2.mono HB1.out.size)
    have HT2 : Hid (At2 w2 T K M (W * H) W H []) := ⟨⟨_, HA1.out.below b2, rfl⟩, ti0 W H (by omega), trivial⟩
    have hs1 := HB1.out.size
    have hfT : Far T M := ⟨by omega, by omega, by omega⟩
    have hfU : Far U N := ⟨by omega, by omega, by omega⟩
    clear h2 b2 HA1
    have WT : Hid (Calls Tryd.prog 10 #[.pointer (some ⟨T, 0, none⟩), .string x] w2 fun e w' => e = .returned (.tuple #[]) ∧ At2 w' T K M (W * H) W H x.data.toList ∧ C2 T M w2 w') := HT2.out.write x hx (HT.out.below HB2.out) (HU.out.below HB2.out) hfT
    go_wp2_with fail
    refine WT.out.mono ?_
    rintro e w3 ⟨rfl, a3, c3⟩
    have HC3 : Hid (Cut w w3 T K M U K2 N (W * H) W H x.data.toList (x.data.toList.take 0)) := ⟨by obtain ⟨nv, q, _⟩ := a3.tm; exact ⟨nv, q⟩, At2.other HA2.out c3 (by omega) ⟨by omega, by omega⟩ ⟨by omega, by omega⟩ ⟨by omega, by omega⟩, c3.low HB2.out hT hM⟩
    have NX : Hid (∀ {wa wb : World} {m m' : List UInt8}, Cut w wa T K M U K2 N (W * H) W H x.data.toList m → At2 wb U K2 N (W * H) W H m' → C2 U N wa wb → Cut w wb T K M U K2 N (W * H) W H x.data.toList m') := fun h a g => h.next a g (by omega) (by omega) ⟨by omega, by omega⟩ ⟨by omega, by omega⟩ ⟨by omega, by omega⟩
    clear a3 c3 WT HT2 HA2 HB2 HB1 TW
    go_wp2_with fail
    go_loopw [15, 16] (fun lv iv wr => ∃ L i : Nat, L ≤ x.size ∧ i ≤ zs.length ∧ lv = .int .i64 L ∧ iv = .int .i64 i ∧ Hid (Cut w wr T K M U K2 N (W * H) W H x.data.toList (x.data.toList.take L))) (fun _ iv _ => zs.length - (intOf iv).toNat)
    case atStart => exact ⟨0, 0, Nat.zero_le _, Nat.zero_le _, rfl, rfl, HC3.out⟩
    case round =>
      obtain ⟨L, i, hL, hi, rfl, rfl, HC⟩ := hrel
      by_cases hlt : i < zs.length
      · have hlt' : (i : Int) < (zs.length : Int) := by omega
        obtain ⟨bz, oz, rfl, hzc⟩ := HZ.out wr HC.out.b i hlt
        obtain ⟨z, hzv⟩ : ∃ z, zs[i]?.getD 0 = z := ⟨_, rfl⟩
        rw [hzv] at hzc
        have HZV : Hid (zs[i]?.getD 0 = z) := hzv
        clear hzv
        by_cases h1 : (L : Int) ≤ z
        · by_cases h2 : z ≤ (x.size : Int)
          · obtain ⟨z, rfl⟩ : ∃ k : Nat, z = (k : Int) := ⟨z.toNat, by omega⟩
            have HE : Hid (x.data.toList.take L ++ (x.extract L z).data.toList = x.data.toList.take z) := cut_list x L z (by omega) (by omega)
            have WU : Hid (Calls Tryd.prog 10 #[.pointer (some ⟨U, 0, none⟩), .string (x.extract L z)] wr fun e w' => e = .returned (.tuple #[]) ∧ Cut w w' T K M U K2 N (W * H) W H x.data.toList (x.data.toList.take z)) := (HC.out.u.write (x.extract L z) (by simp [ByteArray.size_extract]; omega) (HT.out.below HC.out.b) (HU.out.below HC.out.b) hfU).mono fun e w' q => ⟨q.1, NX.out HC.out (by have := q.2.1; rw [HE.out] at this; exact this) q.2.2⟩
            go_wp2_with fail
            refine WU.out.mono ?_
            rintro e w4 ⟨rfl, c4⟩
            have hzc4 : w4.cell? ⟨bz, oz + i, none⟩ = some (.int .i64 z) := by
              obtain ⟨b', o', e, h⟩ := HZ.out w4 c4.b i hlt
              injection e with e
              injection e with e1 e2
              rw [HZV.out, ← e1, ← e2] at h
              exact h
            have HC4 : Hid (Cut w w4 T K M U K2 N (W * H) W H x.data.toList (x.data.toList.take z)) := c4
            clear c4 WU HE
            go_wp2
            go_roundw
            case rel => exact ⟨z, i + 1, by omega, by omega, rfl, by go_num, HC4.out⟩
            case measure => simp [intOf]; omega
          · go_wp2
            go_roundw
            case rel => exact ⟨L, i + 1, by omega, by omega, rfl, by go_num, HC.out⟩
            case measure => simp [intOf]; omega
        · go_wp2
          go_roundw
          case rel => exact ⟨L, i + 1, by omega, by omega, rfl, by go_num, HC.out⟩
          case measure => simp [intOf]; omega
      · have hlt' : ¬ (i : Int) < (zs.length : Int) := by omega
        have HE : Hid (x.data.toList.take L ++ (x.extract L x.size).data.toList = x.data.toList) := by
          have q := cut_list x L x.size hL (Nat.le_refl _)
          rw [show x.data.toList.take x.size = x.data.toList from List.take_of_length_le (by rw [len_data]; exact Nat.le_refl _)] at q
          exact q
        have WU : Hid (Calls Tryd.prog 10 #[.pointer (some ⟨U, 0, none⟩), .string (x.extract L x.size)] wr fun e w' => e = .returned (.tuple #[]) ∧ Cut w w' T K M U K2 N (W * H) W H x.data.toList x.data.toList) := (HC.out.u.write (x.extract L x.size) (by simp [ByteArray.size_extract]; omega) (HT.out.below HC.out.b) (HU.out.below HC.out.b) hfU).mono fun e w' q => ⟨q.1, NX.out HC.out (by have := q.2.1; rw [HE.out] at this; exact this) q.2.2⟩
        go_wp2_with fail
        refine WU.out.mono ?_
        rintro e w4 ⟨rfl, c4⟩
        obtain ⟨p, hp⟩ : ∃ p, runT (tm0 W H, .out) x.data.toList = p := ⟨_, rfl⟩
        have hwhp : wh p.1 = (W, H) := by rw [← hp]; exact wh_run _ _
        obtain ⟨nt, t4⟩ := c4.t
        obtain ⟨nu, u4, _⟩ := c4.u.tm
        rw [hp] at t4 u4
        obtain ⟨s, st⟩ := p
        have hsW : s.W = W := congrArg Prod.fst hwhp
        have hsH : s.H = H := congrArg Prod.snd hwhp
        have T4 : Hid (TM w4 T K M (W * H) s nt) := t4
        have U4 : Hid (TM w4 U K2 N (W * H) s nu) := u4
        have B4 : Hid (Below w.heap.size w w4) := c4.b
        clear c4 t4 u4 hp hwhp WU HE NX HC HC3 HZ
        have TC : Hid (∀ {w : World} {T K M : Nat} {nv : Value}, TM w T K M (W * H) s nv → Calls Tryd.prog 11 #[.pointer (some ⟨T, 0, none⟩)] w fun e w' => ∃ N cap', e = .returned (.slice (some ⟨N, 0, none⟩) (W * H) cap') ∧ Cv 36 w' N W H s.c ∧ w.heap.size ≤ N ∧ Below w.heap.size w w') := fun h => by have := tcells_any _ h; rw [hsW, hsH] at this; exact this
        have TS : Hid (∀ {w : World} {T K M : Nat} {nv : Value}, TM w T K M (W * H) s nv → Calls Tryd.prog 13 #[.pointer (some ⟨T, 0, none⟩)] w fun e w' => e = .returned (.agg #[.int .i64 s.r.f, .int .i64 s.r.g, .int .i64 s.r.b]) ∧ Gr w w') := fun h => tstyle_any _ h
        go_wp2_with fail
        refine (TC.out T4.out).mono ?_
        rintro e w5 ⟨A, ca, rfl, va, hA, b5⟩
        have T5 : Hid (TM w5 T K M (W * H) s nt) := T4.out.below b5
        have U5 : Hid (TM w5 U K2 N (W * H) s nu) := U4.out.below b5
        have B5 : Hid (Below w.heap.size w w5) := B4.out.trans (b5.mono B4.out.size)
        have VA5 : Hid (Cv 36 w5 A W H s.c) := va
        clear va b5 T4 U4 B4 hA
        go_wp2_with fail
        refine (TC.out U5.out).mono ?_
        rintro e w6 ⟨B, cb, rfl, vb, hB, b6⟩
        have T6 : Hid (TM w6 T K M (W * H) s nt) := T5.out.below b6
        have U6 : Hid (TM w6 U K2 N (W * H) s nu) := U5.out.below b6
        have B6 : Hid (Below w.heap.size w w6) := B5.out.trans (b6.mono B5.out.size)
        have VA6 : Hid (Cv 36 w6 A W H s.c) := VA5.out.keep (b6.block _ VA5.out.lt)
        have VB6 : Hid (Cv 36 w6 B W H s.c) := vb
        clear vb b6 T5 U5 B5 VA5 hB TC
        go_wp2_with fail
        refine (cursor_any w6 T6.out).mono ?_
        rintro e w7 ⟨rfl, g7⟩
        have T7 : Hid (TM w7 T K M (W * H) s nt) := T6.out.gr g7
        have U7 : Hid (TM w7 U K2 N (W * H) s nu) := U6.out.gr g7
        have G7 : Hid (Gr w6 w7) := g7
        clear g7 T6 U6
        go_wp2_with fail
        refine (cursor_any w7 U7.out).mono ?_
        rintro e w8 ⟨rfl, g8⟩
        have T8 : Hid (TM w8 T K M (W * H) s nt) := T7.out.gr g8
        have U8 : Hid (TM w8 U K2 N (W * H) s nu) := U7.out.gr g8
        have G8 : Hid (Gr w6 w8) := G7.out.trans g8
        clear g8 T7 U7 G7
        obtain ⟨n, hn⟩ : ∃ n, W * H = n := ⟨_, rfl⟩
        have hn' : (W : Int) * (H : Int) = (n : Int) := by rw [← hn, Int.natCast_mul]
        have hnb : n ≤ 160000 := by rw [← hn]; exact Nat.le_trans (Nat.mul_le_mul (by omega : W ≤ 400) (by omega : H ≤ 400)) (by decide)
        have HN : Hid (W * H = n) := hn
        rw [hn] at TS T8 U8
        rw [hn]
        obtain ⟨cx, hcx⟩ : ∃ z, s.r.x = z := ⟨_, rfl⟩
        obtain ⟨cy, hcy⟩ : ∃ z, s.r.y = z := ⟨_, rfl⟩
        obtain ⟨sf, hsf⟩ : ∃ z, s.r.f = z := ⟨_, rfl⟩
        obtain ⟨sg, hsg⟩ : ∃ z, s.r.g = z := ⟨_, rfl⟩
        obtain ⟨sb, hsb⟩ : ∃ z, s.r.b = z := ⟨_, rfl⟩
        rw [hcx, hcy]
        rw [hsf, hsg, hsb] at TS
        clear hn hcx hcy hsf hsg hsb
        go_wp2_with fail
        refine (TS.out T8.out).mono ?_
        rintro e w9 ⟨rfl, g9⟩
        have U9 : Hid (TM w9 U K2 N n s nu) := U8.out.gr g9
        have G9 : Hid (Gr w6 w9) := G8.out.trans g9
        clear g9 T8 U8 G8
        go_wp2_with fail
        refine (TS.out U9.out).mono ?_
        rintro e w10 ⟨rfl, g10⟩
        have G10 : Hid (Gr w6 w10) := G9.out.trans g10
        clear g10 U9 G9 TS
        go_wp2_with fail
        go_loopw [23] (fun iv wr => ∃ i : Nat, i ≤ n ∧ iv = .int .i64 i ∧ Hid (Gr w6 wr)) (fun iv _ => n - (intOf iv).toNat)
        case atStart => exact ⟨0, by omega, rfl, G10.out⟩
        case round =>
          obtain ⟨i, hi, rfl, HI⟩ := hrel
          by_cases hil : i < n
          · obtain ⟨y, x, hy, hx, hix⟩ := lin_split (by rw [HN.out]; exact hil)
            have eo : y * W * 5 + x * 5 = i * 5 := by rw [hix, Nat.add_mul]
            have V1 := VA6.out.gr HI.out
            have V2 := VB6.out.gr HI.out
            have d0 := V1.c0 hy hx
            have d1 := V1.c1 hy hx
            have d2 := V1.c2 hy hx
            have d3 := V1.c3 hy hx
            have d4 := V1.c4 hy hx
            have q0 := V2.c0 hy hx
            have q1 := V2.c1 hy hx
            have q2 := V2.c2 hy hx
            have q3 := V2.c3 hy hx
            have q4 := V2.c4 hy hx
            rw [eo] at d0 d1 d2 d3 d4 q0 q1 q2 q3 q4
            have hil' : (i : Int) < (n : Int) := by omega
            obtain ⟨e, he⟩ : ∃ e, s.c y x = e := ⟨_, rfl⟩
            rw [he] at d0 d1 d2 d3 d4 q0 q1 q2 q3 q4
            obtain ⟨t, f, g, b, p⟩ := e
            clear eo hix V1 V2 he
            have hmix : Tryd.prog.follows .mixedOrders = true := by kernel_rfl
            go_wp2_with fail
            go_quiet (fail)
            go_wp2
            go_roundw
            case rel => exact ⟨i + 1, by omega, by go_num, HI.out.drewN _⟩
            case measure => simp [intOf]; omega
          · have hil' : ¬ (i : Int) < (n : Int) := by omega
            go_wp2
            go_ret
            exact ⟨rfl, B6.out.trans (HI.out.below.mono B6.out.size)⟩
  · have TW : Hid (∀ w, Calls Tryd.prog 9 #[.int .i64 W, .int .i64 H] w fun e w' => e = .returned (.tuple #[.pointer none, .pointer none, .bool true]) ∧ w' = w) := fun w => twin_bad W H w hwh
    clear ht hU hz
    go_enter Tryd.func3, Tryd.ntmps3
    go_wp2_with fail
    refine (TW.out w).mono ?_
    rintro e w1 ⟨rfl, hw⟩
    obtain rfl := hw.symm
    go_wp2_with fail
    refine (TW.out w).mono ?_
    rintro e w1 ⟨rfl, hw⟩
    obtain rfl := hw.symm
    go_wp2
    go_ret
    exact ⟨rfl, Below.refl _ _⟩

end Go.Proofs.YtdpinmlbccolnaiDoor

namespace Go.Proofs.YtdpinmlbccolnaiDoor.termCut
open Go.ChangeShapes Go.WideShapes Go.ChangeAt Go.RowKit Go.Deep
open Go.ChangeMaps (open_string shut_string)
set_option linter.unusedVariables false

theorem own : ownKnob Tryd.prog.godebug = none := by kernel_rfl
theorem laidOut : laidOutB Tryd.prog = true := by kernel_rfl

set_option maxRecDepth 100000 in
theorem contract (H : Type) (enc : TypeId × Value → H) (W : World) (base : Nat) (args : Array Value) (ds gs : List (DataW H)) (before : List MemPlace)
    (hval : ∀ (j : Nat) t v, Tryd.f3.params[j]? = some t → args[j]? = some v → Value.okWide Tryd.prog W .any base t v)
    (hW : DataW.Whole enc Tryd.prog Tryd.f3.params.toList Rows.termCutSpec.vars false W args.toList ds gs before) (hL : laidMetH Tryd.prog Rows.termCutRow.laid W) :
    Calls Tryd.prog 3 args W fun e W' => ∃ v, e = .returned v ∧ Rows.termCutSpec.post enc Tryd.prog Tryd.f3 false true false false W args v W' := by
  have hW' := hW
  obtain ⟨p, q, hA0, hV, rfl, hfz, hnd⟩ := hW
  have hA : DataW.TrodAll enc Tryd.prog W 0 (fun _ => true) true Tryd.f3.params.toList args.toList ds p := hA0
  rw [Tryd.params3] at hA hval
  obtain ⟨v0, vs0, d0, ds0, p0, q0, hargs, rfl, rfl, h0, r0⟩ := trodAll_cons hA
  obtain ⟨v1, vs1, d1, ds1, p1, q1, rfl, rfl, rfl, h1, r1⟩ := trodAll_cons r0
  obtain ⟨v2, vs2, d2, ds2, p2, q2, rfl, rfl, rfl, h2, r2⟩ := trodAll_cons r1
  obtain ⟨v3, vs3, d3, ds3, p3, q3, rfl, rfl, rfl, h3, r3⟩ := trodAll_cons r2
  obtain ⟨rfl, rfl, rfl⟩ := trodAll_nil r3
  obtain rfl : args = #[v0, v1, v2, v3] := by cases args; simp_all
  obtain ⟨rfl, rfl⟩ := trodVars_none hV
  obtain ⟨x0, rfl, rfl, rfl, m0⟩ := open_int Tryd.underlying3 (hval 0 3 v0 rfl rfl) h0
  obtain ⟨x1, rfl, rfl, rfl, m1⟩ := open_int Tryd.underlying3 (hval 1 3 v1 rfl rfl) h1
  obtain ⟨s2, rfl, rfl, rfl, m2⟩ := open_string Tryd.underlying9 (hval 2 9 v2 rfl rfl) h2
  obtain ⟨a3, len3, cap3, rfl⟩ := okWide_slice Tryd.underlying22 (hval 3 22 v3 rfl rfl)
  have k3 := h3
  have lt3 : ∀ x ∈ p3, x.block < W.heap.size := by obtain ⟨m, hm⟩ := k3; exact DataW.trod_lt m _ _ _ hm
  obtain ⟨zs, hzl, hzi⟩ : ∃ zs : List Int, zs.length ≤ 9223372036854775807 ∧ Ints W (.slice a3 len3 cap3) zs := by
    obtain ⟨fuel, hf⟩ := h3
    rcases open_ints Tryd.underlying22 Tryd.underlying3 (by kernel_rfl) hf with ⟨hcs, _⟩ | ⟨x, l, c, zs, hcs, _, hl, hm, hz, hd, hcell, hwz⟩
    · simp [Value.cells] at hcs
      obtain ⟨rfl, rfl, rfl⟩ := hcs
      exact ⟨[], by simp, none, 0, rfl, .inl rfl⟩
    · simp [Value.cells] at hcs
      obtain ⟨rfl, rfl, rfl⟩ := hcs
      have hz' : zs.length = cap3 := by simpa using hz
      have hL : (zs.take len3).length = len3 := by rw [List.length_take]; omega
      have hc : ∀ i, i < (zs.take len3).length → W.cell? (x.add i) = some (.int .i64 ((zs.take len3)[i]?.getD 0)) := by
        intro i hi
        rw [List.length_take] at hi
        rw [hcell i (by omega), List.getElem?_take, if_pos (by omega), List.getD_eq_getElem?_getD]
      refine ⟨zs.take len3, by rw [hL]; unfold maxLen at hm; omega, some x, cap3, by rw [hL], ?_⟩
      by_cases h0 : zs.take len3 = []
      · exact .inl h0
      · have hp : 0 < (zs.take len3).length := List.length_pos_iff.2 h0
        obtain ⟨b, off, rfl, hc'⟩ := ints_at (zs := zs.take len3) (fun i hi => by rw [List.getD_eq_getElem?_getD]; exact hc i hi) hp
        refine .inr ⟨b, off, rfl, World.block_lt_of_cell? W ⟨b, off + 0, none⟩ (hc' 0 hp), fun j hj => ?_⟩
        rw [← List.getD_eq_getElem?_getD]; exact hc' j hj
  clear hA0
  have hLm : laidMet Tryd.prog tlaids W := hL
  have hT := tab_of3 hLm
  have hsz : s2.size ≤ 9223372036854775807 := m2
  refine (cut_walk x0 x1 s2 hsz zs _ W hzi hzl hT (utf_of hLm) (World.block_lt_of_cell? W _ (hT 0 (by decide)).1)).mono fun e W' ⟨he, bel⟩ => ?_
  subst he
  exact ⟨_, rfl, _, _, _, [], _, [], hW', trodAll_mk1 (shut_bool Tryd.underlying4 _), (trodAll_cons_mk (shut_int Tryd.underlying3 m0) (trodAll_cons_mk (shut_int Tryd.underlying3 m1) (trodAll_cons_mk (shut_string Tryd.underlying9 m2) (trodAll_cons_mk (Below.trod laidOut (by kernel_rfl) (of_decide_eq_true (by kernel_rfl)) k3 bel lt3) trodAll_mk0)))), rfl, bel.frame _, fun h => by cases h⟩

/-- For the witness: a world whose variables hold what their initialisers lay. -/
theorem laid_met (os : Os) : laidMet Tryd.prog Rows.termCutRow.laid (((World.holding Tryd.prog os ⟨#[], #[], []⟩).layVars Tryd.prog tlaids).forCall (fun _ _ => 0) ⟨#[], #[.int .i64 0, .int .i64 0, .string ⟨#[]⟩, .slice none 0 0], []⟩).memory := by
  have hd : laidMet Tryd.prog tlaids ((World.holding Tryd.prog os ⟨#[], #[], []⟩).layVars Tryd.prog tlaids) := by
    have e1 : (tlaids.filter fun x => (tlaids.map (·.1)).contains x.1) = tlaids := List.filter_eq_self.2 fun x hx => List.contains_iff_mem.2 (List.mem_map.2 ⟨x, hx, rfl⟩)
    have e2 : (tlaids.filter fun x => !(tlaids.map (·.1)).contains x.1) = [] := List.filter_eq_nil_iff.2 fun x hx => by rw [List.contains_iff_mem.2 (List.mem_map.2 ⟨x, hx, rfl⟩)]; simp
    exact laidMet_layVars (w0 := World.holding Tryd.prog os ⟨#[], #[], []⟩) (tlaids.map (·.1)) [] (by rw [e1]) (by rw [e1]; kernel_rfl) (by rw [e1]; kernel_rfl) (by rw [e2]; exact LaidIn.none)
  exact hd.of_heap (by simp [World.memory, World.forCall, Input.heap])
theorem reads (os : Os) {H : Type} (enc : TypeId × Value → H) : ∃ places, DataW.whole enc Tryd.prog (((World.holding Tryd.prog os ⟨#[], #[], []⟩).layVars Tryd.prog tlaids).forCall (fun _ _ => 0) ⟨#[], #[.int .i64 0, .int .i64 0, .string ⟨#[]⟩, .slice none 0 0], []⟩).memory Tryd.f3.params.toList Rows.termCutSpec.vars false #[Value.int .i64 0, Value.int .i64 0, Value.string ⟨#[]⟩, Value.slice none 0 0].toList 8 = some ([.lit (.int .i64 0), .lit (.int .i64 0), .lit (.string []), .nil], [], places) :=
  ⟨[], by kernel_rfl⟩

set_option maxRecDepth 100000 in
theorem lifted (os : Os) (started : os.Started) (H : Type) (enc : TypeId × Value → H) (F : Stop.Interp) :
    ReturnsInHanded {} Tryd.checked os 3 .any ((OpenSpec.ofChange Rows.termCutSpec).preRow enc Tryd.prog Tryd.f3 Rows.termCutRow.domain false Rows.termCutRow.laid) (((OpenSpec.ofChange Rows.termCutSpec).at F).post enc Tryd.prog Tryd.f3 false true false false) := by
  obtain ⟨places, hx⟩ := reads os enc
  refine returnsInHanded_of_row (C := Tryd.checked) (s := OpenSpec.ofChange Rows.termCutSpec) own started (by kernel_rfl) Tryd.func3
    (witness_row_at (enc := enc) (C := Tryd.checked) false ((World.holding Tryd.prog os ⟨#[], #[], []⟩).layVars Tryd.prog tlaids) #[.int .i64 0, .int .i64 0, .string ⟨#[]⟩, .slice none 0 0] (World.layVars_os _ _ _) (by kernel_rfl) (by kernel_rfl) (by kernel_rfl)
      (OpenSpec.preRow_of_cond 8 hx (by kernel_rfl) (fun k hk => by cases hk) (by kernel_rfl) (laid_met os))) ?_
  intro W base args ds gs before hval hW _ _ _ hL _ _
  exact contract H enc W base args ds gs before hval hW hL

theorem said : Rows.TermCutSaid :=
  OpenClaim.holds_of_cond 3 Tryd.f3 rfl rfl rfl rfl rfl rfl rfl ⟨rfl, rfl, rfl, rfl, rfl⟩ rfl rfl rfl rfl rfl (by kernel_rfl) Tryd.func3 (by kernel_rfl)
    (of_decide_eq_true (by kernel_rfl)) (by unfold Func.isWrapper; first | (rw [if_pos (by decide +kernel)]; kernel_rfl) | (rw [if_neg (by decide +kernel)]; exact ⟨rfl, rfl⟩))
    (fun os started H enc _ F => by rw [OpenClaim.pre_eq_preRow]; exact lifted os started H enc F)

theorem plain (f : FuncId) (fn : Func) (hf : Tryd.pinned.checked.prog.funcNamed Rows.termCutRow.func = some f) (hfn : Tryd.pinned.checked.prog.funcs[f]? = some fn) :
    false = Tryd.pinned.checked.prog.looks [] ∧ ∀ (j : Nat) t, fn.params[j]? = some t → Tryd.pinned.checked.prog.wantsStandIn t = false := by
  obtain rfl : f = 3 := Option.some.inj ((show Tryd.prog.funcNamed Rows.termCutRow.func = some 3 by kernel_rfl).symm.trans hf) |>.symm
  obtain rfl : fn = Tryd.f3 := (Option.some.inj (Tryd.func3.symm.trans hfn)).symm
  refine ⟨by kernel_rfl, fun j t ht => ?_⟩
  rw [Tryd.params3] at ht
  have hm : t = 9 ∨ t = 3 ∨ t = 22 := by
    have hq := Array.mem_of_getElem? ht
    simp only [List.mem_toArray, List.mem_cons, List.not_mem_nil, or_false] at hq
    rcases hq with h | h | h | h
    · exact .inr (.inl h)
    · exact .inr (.inl h)
    · exact .inl h
    · exact .inr (.inr h)
  rcases hm with rfl | rfl | rfl
  · exact (show Tryd.prog.wantsStandIn 9 = false by kernel_rfl)
  · exact (show Tryd.prog.wantsStandIn 3 = false by kernel_rfl)
  · exact (show Tryd.prog.wantsStandIn 22 = false by kernel_rfl)

theorem proved : Rows.TermCutCardSaid :=
  Claim7.holds_tied_plain_at .later [] _ _ _ _ said (fun _ h => by cases h) (by kernel_rfl) (fun _ h => by cases h) termCut_row_tie rfl ⟨rfl, rfl⟩ (by kernel_rfl) rfl plain (by kernel_rfl)
#print axioms proved
end Go.Proofs.YtdpinmlbccolnaiDoor.termCut
