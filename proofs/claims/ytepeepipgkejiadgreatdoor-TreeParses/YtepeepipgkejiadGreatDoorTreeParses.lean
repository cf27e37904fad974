/-
  panelaw.same and panelaw.node where both sides hold the same: true.
-/
import Derived.Test.YtepeepipgkejiadGreatDoorTHas
import Derived.Test.YtepeepipgkejiadGreatDoorYGr
import Derived.BigQuiet
import Derived.Deep.QuietTactic
import Derived.Test.YtepeepipgkejiadGreatDoorTRp
import Derived.Test.YtepeepipgkejiadGreatDoorTGm
import Derived.Test.YtepeepipgkejiadGreatDoorTPar
import Derived.Test.YtepeepipgkejiadGreatDoorRows
import Derived.Test.YtepeepipgkejiadGreatDoorTErn
import Derived.LaidLaws
import Derived.LaidSub
import Derived.LaidHandle
import Derived.Lib.LaidTab
import Derived.Test.YtepeepipgkejiadGreatDoorCards
import Derived.Test.YtepeepipgkejiadGreatDoorTie
import Derived.WalkKit
import Derived.ShutString
import Derived.ProofKit
import Derived.OpenShut
import Derived.ChangeOld
import Derived.Below
import Derived.Lay
import Derived.Deep.DeepHandedRow
namespace Go.Proofs.YtepeepipgkejiadGreatDoor
open Go.RowKit
set_option linter.unusedVariables false

/-- A list of numbers in memory. -/
def Ints (w : World) (v : Value) (zs : List Int) : Prop :=
  ∃ a cap, v = .slice a zs.length cap ∧ (zs = [] ∨ ∃ b off, a = some ⟨b, off, none⟩ ∧ b < w.heap.size ∧ ∀ j, j < zs.length → w.cell? ⟨b, off + j, none⟩ = some (.int .i64 (zs[j]?.getD 0)))

set_option maxRecDepth 100000 in
set_option maxHeartbeats 1000000 in
theorem same_some (zs : List Int) (b off cap b2 off2 cap2 : Nat) (w : World) (hb : b < w.heap.size) (hc : ∀ j, j < zs.length → w.cell? ⟨b, off + j, none⟩ = some (.int .i64 (zs[j]?.getD 0)))
    (hb2 : b2 < w.heap.size) (hc2 : ∀ j, j < zs.length → w.cell? ⟨b2, off2 + j, none⟩ = some (.int .i64 (zs[j]?.getD 0))) (hlen : zs.length ≤ 17592186044416) :
    Calls Tryz.prog 14 #[.slice (some ⟨b, off, none⟩) zs.length cap, .slice (some ⟨b2, off2, none⟩) zs.length cap2] w fun e w' => e = .returned (.bool true) ∧ Gr w w' := by
  have HC : Hid (∀ j, j < zs.length → w.cell? ⟨b, off + j, none⟩ = some (.int .i64 (zs[j]?.getD 0))) := hc
  have HC2 : Hid (∀ j, j < zs.length → w.cell? ⟨b2, off2 + j, none⟩ = some (.int .i64 (zs[j]?.getD 0))) := hc2
  clear hc hc2
  go_enter Tryz.func14, Tryz.ntmps14
  go_wp2
  go_loopw [5] (fun i wr => ∃ k : Nat, k ≤ zs.length ∧ i = .int .i64 k ∧ Gr w wr) (fun i _ => zs.length - (intOf i).toNat)
  case atStart => exact ⟨0, Nat.zero_le _, rfl, Gr.refl _⟩
  case round =>
    obtain ⟨k, hk, rfl, hnx⟩ := hrel
    by_cases hlt : k < zs.length
    · obtain ⟨x, hx⟩ : ∃ x, zs[k]?.getD 0 = x := ⟨_, rfl⟩
      have hcx : wr.cell? ⟨b, off + k, none⟩ = some (.int .i64 x) := by rw [← hx]; exact (hnx.below.cell (p := ⟨b, off + k, none⟩) hb).trans (HC.out k hlt)
      have hcy : wr.cell? ⟨b2, off2 + k, none⟩ = some (.int .i64 x) := by rw [← hx]; exact (hnx.below.cell (p := ⟨b2, off2 + k, none⟩) hb2).trans (HC2.out k hlt)
      clear hx
      have hlt' : (k : Int) < (zs.length : Int) := by omega
      go_wp2
      go_quiet (fail)
      go_wp2
      go_roundw
      case rel => exact ⟨k + 1, by omega, by go_num, hnx.drewN _⟩
      case measure => simp [intOf]; omega
    · have hlt' : ¬ (k : Int) < (zs.length : Int) := by omega
      go_wp2
      go_ret
      exact ⟨rfl, hnx⟩

set_option maxRecDepth 100000 in
set_option maxHeartbeats 1000000 in
theorem same_none (a a2 : Option Addr) (cap cap2 : Nat) (w : World) :
    Calls Tryz.prog 14 #[.slice a 0 cap, .slice a2 0 cap2] w fun e w' => e = .returned (.bool true) ∧ Gr w w' := by
  go_enter Tryz.func14, Tryz.ntmps14
  go_wp2
  go_loop [5] (fun i => i = .int .i64 0) (fun _ => 0)
  case atStart => exact rfl
  case round =>
    obtain rfl := hrel
    go_wp2
    go_ret
    exact ⟨rfl, Gr.refl _⟩

theorem same_yes (zs : List Int) (v v2 : Value) (w : World) (h : Ints w v zs) (h2 : Ints w v2 zs) (hlen : zs.length ≤ 17592186044416) :
    Calls Tryz.prog 14 #[v, v2] w fun e w' => e = .returned (.bool true) ∧ Gr w w' := by
  obtain ⟨a, cap, rfl, hh⟩ := h
  obtain ⟨a2, cap2, rfl, hh2⟩ := h2
  by_cases hz : zs = []
  · subst hz; exact same_none a a2 cap cap2 w
  · obtain ⟨b, off, rfl, hb, hc⟩ := hh.resolve_left hz
    obtain ⟨b2, off2, rfl, hb2, hc2⟩ := hh2.resolve_left hz
    exact same_some zs b off cap b2 off2 cap2 w hb hc hb2 hc2 hlen

theorem Ints.below {w w' : World} {v : Value} {zs : List Int} (h : Ints w v zs) (hb : Below w.heap.size w w') : Ints w' v zs := by
  obtain ⟨a, cap, rfl, hh⟩ := h
  refine ⟨a, cap, rfl, ?_⟩
  rcases hh with rfl | ⟨b, off, rfl, hl, hc⟩
  · exact .inl rfl
  · exact .inr ⟨b, off, rfl, Nat.lt_of_lt_of_le hl hb.size, fun j hj => (hb.cell (p := ⟨b, off + j, none⟩) hl).trans (hc j hj)⟩

theorem ints_own {w : World} {B n : Nat} {v : Value} {zs : List Int} (h : w.ownsRow B 3 1 v n (zs.map (Value.int .i64))) : Ints w v zs := by
  have hl : zs.length = n := by have := h.1; simpa using this
  rcases h.2 with ⟨rfl, rfl⟩ | ⟨g, cap, cur, rfl, _, hg, _⟩
  · have hz : zs = [] := List.length_eq_zero_iff.1 hl
    subst hz
    exact ⟨none, 0, rfl, .inl rfl⟩
  · refine ⟨some ⟨g, 0, none⟩, cap, by rw [hl], .inr ⟨g, 0, rfl, (Array.getElem?_eq_some_iff.1 hg).1, fun j hj => ?_⟩⟩
    have := h.cells (g := g) rfl j (.int .i64 (zs[j]?.getD 0)) (by simp [hj])
    have e : (⟨g, 0, none⟩ : Addr).add j = ⟨g, 0 + j, none⟩ := by unfold Addr.add; split <;> simp_all
    rwa [e] at this

end Go.Proofs.YtepeepipgkejiadGreatDoor

namespace Go.Proofs.YtepeepipgkejiadGreatDoor
open Go.RowKit
set_option linter.unusedVariables false

theorem ints_new (zs : List Int) (cap : Nat) (W : World) : Ints (W.alloc (.cells (zs.map (Value.int .i64)).toArray 3)) (.slice (some ⟨W.heap.size, 0, none⟩) zs.length cap) zs := by
  refine ⟨_, cap, rfl, .inr ⟨W.heap.size, 0, rfl, by rw [World.size_alloc]; omega, fun j hj => ?_⟩⟩
  have hb : (W.alloc (.cells (zs.map (Value.int .i64)).toArray 3)).heap[W.heap.size]? = some (.cells (zs.map (Value.int .i64)).toArray 3 (0, 0)) := heap_alloc_new _ _
  simp only [World.cell?, hb]
  simp [hj]
theorem Ints.slice {w : World} {v : Value} {zs : List Int} (h : Ints w v zs) : ∃ p c, v = .slice p zs.length c := by
  obtain ⟨a, cap, rfl, _⟩ := h
  exact ⟨a, cap, rfl⟩

set_option maxRecDepth 100000 in
set_option maxHeartbeats 4000000 in
theorem node_yes (k up a0 a1 a2 a3 a4 a5 a6 a7 a8 a9 b0 b1 : Int) (t : ByteArray) (kv kv2 av : Value) (ks : List Int) (w : World) (hk : Ints w kv ks) (hk2 : Ints w kv2 ks) (ha : Ints w av [a0, a1, a2, a3, a4, a5, a6, a7, a8, a9, b0, b1]) (hl : ks.length ≤ 4000) :
    Calls Tryz.prog 22 #[.agg #[.int .i64 k, .int .i64 a0, .int .i64 a1, .int .i64 a2, .int .i64 a3, .int .i64 a4, .int .i64 a5, .int .i64 a6, .int .i64 a7, .int .i64 a8, .int .i64 a9, .int .i64 b0, .int .i64 b1, .string t, kv, .int .i64 up], .agg #[.int .i64 k, av, .string t, kv2, .int .i64 up]] w fun e w' => e = .returned (.bool true) ∧ Gr w w' := by
  have hmix : Tryz.prog.follows .mixedOrders = true := by kernel_rfl
  obtain ⟨p1, c1, hkv⟩ := hk.slice
  obtain ⟨p2, c2, hkv2⟩ := hk2.slice
  obtain ⟨p3, c3, hav⟩ : ∃ p c, av = .slice p 12 c := ha.slice
  subst hkv hkv2 hav
  obtain ⟨S, hS⟩ : ∃ q, w.heap.size = q := ⟨_, rfl⟩
  obtain ⟨W1, hW1⟩ : ∃ q, w.alloc (.cells #[.int .i64 k, .int .i64 a0, .int .i64 a1, .int .i64 a2, .int .i64 a3, .int .i64 a4, .int .i64 a5, .int .i64 a6, .int .i64 a7, .int .i64 a8, .int .i64 a9, .int .i64 b0, .int .i64 b1, .string t, .slice p1 ks.length c1, .int .i64 up] 34) = q := ⟨_, rfl⟩
  obtain ⟨W2, hW2⟩ : ∃ q, W1.alloc (.cells #[.int .i64 k, .slice p3 12 c3, .string t, .slice p2 ks.length c2, .int .i64 up] 53) = q := ⟨_, rfl⟩
  have s1 : W1.heap.size = S + 1 := by rw [← hW1, World.size_alloc, hS]
  have s2 : W2.heap.size = S + 2 := by rw [← hW2, World.size_alloc, s1]
  have B1 : Gr w W1 := by rw [← hW1]; exact (Gr.refl _).alloc _
  have B2 : Gr w W2 := by rw [← hW2]; exact B1.alloc _
  have HB1 : Hid (W2.heap[S]? = some (.cells #[.int .i64 k, .int .i64 a0, .int .i64 a1, .int .i64 a2, .int .i64 a3, .int .i64 a4, .int .i64 a5, .int .i64 a6, .int .i64 a7, .int .i64 a8, .int .i64 a9, .int .i64 b0, .int .i64 b1, .string t, .slice p1 ks.length c1, .int .i64 up] 34 (0, 0))) := by
    show _ = _
    rw [← hW2, Below.heap_alloc _ _ _ (by omega), ← hW1, ← hS]; exact heap_alloc_new _ _
  have HB2 : Hid (W2.heap[S + 1]? = some (.cells #[.int .i64 k, .slice p3 12 c3, .string t, .slice p2 ks.length c2, .int .i64 up] 53 (0, 0))) := by
    show _ = _
    rw [← hW2, ← s1]; exact heap_alloc_new _ _
  obtain ⟨W3, hW3⟩ : ∃ q, W2.alloc (.cells #[.int .i64 a0, .int .i64 a1, .int .i64 a2, .int .i64 a3, .int .i64 a4, .int .i64 a5, .int .i64 a6, .int .i64 a7, .int .i64 a8, .int .i64 a9, .int .i64 b0, .int .i64 b1] 3) = q := ⟨_, rfl⟩
  have s3 : W3.heap.size = S + 3 := by rw [← hW3, World.size_alloc, s2]
  have B3 : Gr w W3 := by rw [← hW3]; exact B2.alloc _
  have HR : Hid (∀ w', Gr W3 w' → w'.heap[S]? = W2.heap[S]? ∧ w'.heap[S + 1]? = W2.heap[S + 1]? ∧ Gr w w' ∧ Ints w' (.slice p1 ks.length c1) ks ∧ Ints w' (.slice p2 ks.length c2) ks) := fun w' b => by
    have bw : Gr w w' := B3.trans b
    refine ⟨(b.block (by omega)).trans ?_, (b.block (by omega)).trans ?_, bw, hk.below bw.below, hk2.below bw.below⟩
    · rw [← hW3, Below.heap_alloc _ _ _ (by omega)]
    · rw [← hW3, Below.heap_alloc _ _ _ (by omega)]
  have C1 : Hid (Calls Tryz.prog 14 #[.slice (some ⟨S + 2, 0, none⟩) 12 12, .slice p3 12 c3] W3 fun e w' => e = .returned (.bool true) ∧ Gr W3 w') := by
    have := same_yes [a0, a1, a2, a3, a4, a5, a6, a7, a8, a9, b0, b1] (.slice (some ⟨W2.heap.size, 0, none⟩) 12 12) (.slice p3 12 c3) W3 (by rw [← hW3]; exact ints_new [a0, a1, a2, a3, a4, a5, a6, a7, a8, a9, b0, b1] 12 W2) (ha.below B3.below) (by show 12 ≤ 17592186044416; decide)
    rw [s2] at this
    exact this
  have HS : Hid (w.heap.size = S ∧ W1.heap.size = S + 1 ∧ W2.heap.size = S + 2) := ⟨hS, s1, s2⟩
  have n0 : W2.cell? ⟨S, 1, none⟩ = some (.int .i64 a0) := by simp [World.cell?, HB1.out]
  have n1 : W2.cell? ⟨S, 2, none⟩ = some (.int .i64 a1) := by simp [World.cell?, HB1.out]
  have n2 : W2.cell? ⟨S, 3, none⟩ = some (.int .i64 a2) := by simp [World.cell?, HB1.out]
  have n3 : W2.cell? ⟨S, 4, none⟩ = some (.int .i64 a3) := by simp [World.cell?, HB1.out]
  have n4 : W2.cell? ⟨S, 5, none⟩ = some (.int .i64 a4) := by simp [World.cell?, HB1.out]
  have n5 : W2.cell? ⟨S, 6, none⟩ = some (.int .i64 a5) := by simp [World.cell?, HB1.out]
  have n6 : W2.cell? ⟨S, 7, none⟩ = some (.int .i64 a6) := by simp [World.cell?, HB1.out]
  have n7 : W2.cell? ⟨S, 8, none⟩ = some (.int .i64 a7) := by simp [World.cell?, HB1.out]
  have n8 : W2.cell? ⟨S, 9, none⟩ = some (.int .i64 a8) := by simp [World.cell?, HB1.out]
  have n9 : W2.cell? ⟨S, 10, none⟩ = some (.int .i64 a9) := by simp [World.cell?, HB1.out]
  have m0 : W2.cell? ⟨S, 11, none⟩ = some (.int .i64 b0) := by simp [World.cell?, HB1.out]
  have m1 : W2.cell? ⟨S, 12, none⟩ = some (.int .i64 b1) := by simp [World.cell?, HB1.out]
  have q1 : W3.cell? ⟨S + 1, 1, none⟩ = some (.slice p3 12 c3) := by have := HR.out W3 (Gr.refl _); simp [World.cell?, this.2.1, HB2.out]
  clear hk hk2 ha B1 B2 B3 s3
  go_enter Tryz.func22, Tryz.ntmps22
  go_wp2_with fail
  clear hW1 hW2 hW3 n0 n1 n2 n3 n4 n5 n6 n7 n8 n9 m0 m1 q1 hS s1 s2
  refine C1.out.mono ?_
  rintro e w1 ⟨rfl, b1'⟩
  have R1 : Hid (w1.heap[S]? = W2.heap[S]? ∧ w1.heap[S + 1]? = W2.heap[S + 1]? ∧ Gr w w1 ∧ Ints w1 (.slice p1 ks.length c1) ks ∧ Ints w1 (.slice p2 ks.length c2) ks) := HR.out w1 b1'
  have r1 : w1.cell? ⟨S, 14, none⟩ = some (.slice p1 ks.length c1) := by simp [World.cell?, R1.out.1, HB1.out]
  have r2 : w1.cell? ⟨S + 1, 3, none⟩ = some (.slice p2 ks.length c2) := by simp [World.cell?, R1.out.2.1, HB2.out]
  have HB1' : Hid (Gr W3 w1) := b1'
  clear b1' C1
  go_wp2_with fail
  refine (same_yes ks _ _ _ R1.out.2.2.2.1 R1.out.2.2.2.2 (by omega)).mono ?_
  rintro e w2 ⟨rfl, b2'⟩
  have R2 : Hid (w2.heap[S]? = W2.heap[S]? ∧ w2.heap[S + 1]? = W2.heap[S + 1]? ∧ Gr w w2 ∧ Ints w2 (.slice p1 ks.length c1) ks ∧ Ints w2 (.slice p2 ks.length c2) ks) := HR.out w2 (HB1'.out.trans b2')
  have t0 : w2.cell? ⟨S, 0, none⟩ = some (.int .i64 k) := by simp [World.cell?, R2.out.1, HB1.out]
  have t1 : w2.cell? ⟨S + 1, 0, none⟩ = some (.int .i64 k) := by simp [World.cell?, R2.out.2.1, HB2.out]
  have t2 : w2.cell? ⟨S, 13, none⟩ = some (.string t) := by simp [World.cell?, R2.out.1, HB1.out]
  have t3 : w2.cell? ⟨S + 1, 2, none⟩ = some (.string t) := by simp [World.cell?, R2.out.2.1, HB2.out]
  have t4 : w2.cell? ⟨S, 15, none⟩ = some (.int .i64 up) := by simp [World.cell?, R2.out.1, HB1.out]
  have t5 : w2.cell? ⟨S + 1, 4, none⟩ = some (.int .i64 up) := by simp [World.cell?, R2.out.2.1, HB2.out]
  clear b2' R1 r1 r2
  go_wp2
  go_ret
  exact ⟨rfl, R2.out.2.2.1⟩

end Go.Proofs.YtepeepipgkejiadGreatDoor

namespace Go.Proofs.YtepeepipgkejiadGreatDoor
open Go.RowKit Go.Sort
set_option linter.unusedVariables false

theorem twelve : ∀ {l : List Int}, l.length = 12 → ∃ a0 a1 a2 a3 a4 a5 a6 a7 a8 a9 b0 b1, l = [a0, a1, a2, a3, a4, a5, a6, a7, a8, a9, b0, b1]
  | [a0, a1, a2, a3, a4, a5, a6, a7, a8, a9, b0, b1], _ => ⟨_, _, _, _, _, _, _, _, _, _, _, _, rfl⟩
theorem kids_ints {w : World} {B : Nat} {v : Value} {K : List Nat} (h : w.ownsRow B 3 1 v K.length (kInts K)) : Ints w v (K.map fun (k : Nat) => (k : Int)) := by
  have e : kInts K = (K.map fun (k : Nat) => (k : Int)).map (Value.int .i64) := by unfold kInts; rw [List.map_map]; rfl
  rw [e] at h
  exact ints_own h
theorem attr_ints {w : World} {ab : Nat} {l : List Int} (hl : l.length = 12) (h : Row12 w ab (fun k => .int .i64 (l[k]?.getD 0))) : Ints w (avV ab) l :=
  ⟨some ⟨ab, 0, none⟩, 12, by rw [hl]; rfl, .inr ⟨ab, 0, rfl, h.1, fun j hj => by rw [Nat.zero_add]; exact (h.2 j (by omega)).1⟩⟩

set_option maxRecDepth 100000 in
set_option maxHeartbeats 8000000 in
theorem nodes_yes (L : List Nd) (B B2 : Nat) (nv nv2 : Value) (KV KV2 : Nat → Value) (AV : Nat → Nat) (w : World) (hn : PN w B nv L KV) (hr : RD w B2 nv2 L AV KV2) (hL : L.length ≤ 4000) (hK : ∀ j, (nth L j).kids.length ≤ 4000) :
    Calls Tryz.prog 9 #[nv, nv2] w fun e w' => e = .returned (.bool true) ∧ Gr w w' := by
  have hmix : Tryz.prog.follows .mixedOrders = true := by kernel_rfl
  obtain ⟨p, c, rfl⟩ : ∃ p c, nv = .slice p L.length c := own_slice hn.nr.row.choose_spec
  obtain ⟨p2, c2, rfl⟩ : ∃ p c, nv2 = .slice p L.length c := own_slice hr.nr.row.choose_spec
  have HN : Hid (PN w B (.slice p L.length c) L KV) := hn
  have HR : Hid (RD w B2 (.slice p2 L.length c2) L AV KV2) := hr
  have HK : Hid (∀ j, (nth L j).kids.length ≤ 4000) := hK
  clear hn hr hK
  go_enter Tryz.func9, Tryz.ntmps9
  go_wp2
  go_loopw [5] (fun i wr => ∃ j : Nat, j ≤ L.length ∧ i = .int .i64 (j : Int) ∧ Hid (Gr w wr)) (fun i _ => L.length - (intOf i).toNat)
  case atStart => exact ⟨0, Nat.zero_le _, rfl, Gr.refl w⟩
  case round =>
    obtain ⟨j, hj, rfl, HI⟩ := hrel
    by_cases hlt : j < L.length
    · have hlt' : (j : Int) < (L.length : Int) := by omega
      have N1 := HN.out.up (Up.below HI.out.below)
      have R1 := HR.out.up (Up.below HI.out.below)
      obtain ⟨g, cap, hv, _, hgl, _⟩ := N1.nr.form (by omega)
      simp only [Value.slice.injEq, true_and] at hv
      obtain ⟨rfl, rfl⟩ := hv
      obtain ⟨g2, cap2, hv2, _, hgl2, _⟩ := R1.nr.form (by omega)
      simp only [Value.slice.injEq, true_and] at hv2
      obtain ⟨rfl, rfl⟩ := hv2
      obtain ⟨kp, kc, hkv⟩ : ∃ p c, KV j = .slice p (nth L j).kids.length c := own_slice (N1.nr.kids j hlt)
      obtain ⟨kp2, kc2, hkv2⟩ : ∃ p c, KV2 j = .slice p (nth L j).kids.length c := own_slice (R1.nr.kids j hlt)
      have I1 := kids_ints (N1.nr.kids j hlt)
      have I2 := kids_ints (R1.nr.kids j hlt)
      have I3 := attr_ints (R1.len j hlt) (R1.att j hlt).2
      have hkl := HK.out j
      have hal := N1.len j hlt
      have hC : ∀ t u, (pnCells (nth L j) (KV j))[t]? = some u → wr.cell? ⟨g, j * 16 + t, none⟩ = some u := fun t u h => N1.nr.cell hlt h
      have hD : ∀ t u, (ndCells (nth L j) (avV (AV j)) (KV2 j))[t]? = some u → wr.cell? ⟨g2, j * 5 + t, none⟩ = some u := fun t u h => R1.nr.cell hlt h
      rw [hkv] at I1 hC
      rw [hkv2] at I2 hD
      obtain ⟨d, hd⟩ : ∃ d, nth L j = d := ⟨_, rfl⟩
      rw [hd] at I1 I2 I3 hkl hal hC hD
      obtain ⟨kd, at_, tx, ks, up⟩ := d
      obtain ⟨a0, a1, a2, a3, a4, a5, a6, a7, a8, a9, b0, b1, rfl⟩ := twelve hal
      obtain ⟨ab, hab⟩ : ∃ q, AV j = q := ⟨_, rfl⟩
      rw [hab] at I3 hD
      have CA : Hid (∀ n os, Calls Tryz.prog 22 #[.agg #[.int .i64 (kd : Int), .int .i64 a0, .int .i64 a1, .int .i64 a2, .int .i64 a3, .int .i64 a4, .int .i64 a5, .int .i64 a6, .int .i64 a7, .int .i64 a8, .int .i64 a9, .int .i64 b0, .int .i64 b1, .string ⟨tx.toArray⟩, .slice kp ks.length kc, .int .i64 up], .agg #[.int .i64 (kd : Int), .slice (some ⟨ab, 0, none⟩) 12 12, .string ⟨tx.toArray⟩, .slice kp2 ks.length kc2, .int .i64 up]] (grow (wr.drewN n) os) fun e w' => e = .returned (.bool true) ∧ Gr (grow (wr.drewN n) os) w') := fun n os => by
        have gr : Gr wr (grow (wr.drewN n) os) := ⟨n, os, rfl⟩
        exact node_yes (kd : Int) up a0 a1 a2 a3 a4 a5 a6 a7 a8 a9 b0 b1 ⟨tx.toArray⟩ _ _ _ (ks.map fun (k : Nat) => (k : Int)) _ (I1.below gr.below) (I2.below gr.below) (I3.below gr.below) (by simpa using hkl)
      have x0 : ∀ n os, (grow (wr.drewN n) os).cell? ⟨g, j * 16, none⟩ = some (.int .i64 (kd : Int)) := cell_grown hgl (hC 0 (.int .i64 (kd : Int)) rfl)
      have x1 : ∀ n os, (grow (wr.drewN n) os).cell? ⟨g, j * 16 + 1, none⟩ = some (.int .i64 a0) := cell_grown hgl (hC 1 (.int .i64 a0) rfl)
      have x2 : ∀ n os, (grow (wr.drewN n) os).cell? ⟨g, j * 16 + 2, none⟩ = some (.int .i64 a1) := cell_grown hgl (hC 2 (.int .i64 a1) rfl)
      have x3 : ∀ n os, (grow (wr.drewN n) os).cell? ⟨g, j * 16 + 3, none⟩ = some (.int .i64 a2) := cell_grown hgl (hC 3 (.int .i64 a2) rfl)
      have x4 : ∀ n os, (grow (wr.drewN n) os).cell? ⟨g, j * 16 + 4, none⟩ = some (.int .i64 a3) := cell_grown hgl (hC 4 (.int .i64 a3) rfl)
      have x5 : ∀ n os, (grow (wr.drewN n) os).cell? ⟨g, j * 16 + 5, none⟩ = some (.int .i64 a4) := cell_grown hgl (hC 5 (.int .i64 a4) rfl)
      have x6 : ∀ n os, (grow (wr.drewN n) os).cell? ⟨g, j * 16 + 6, none⟩ = some (.int .i64 a5) := cell_grown hgl (hC 6 (.int .i64 a5) rfl)
      have x7 : ∀ n os, (grow (wr.drewN n) os).cell? ⟨g, j * 16 + 7, none⟩ = some (.int .i64 a6) := cell_grown hgl (hC 7 (.int .i64 a6) rfl)
      have x8 : ∀ n os, (grow (wr.drewN n) os).cell? ⟨g, j * 16 + 8, none⟩ = some (.int .i64 a7) := cell_grown hgl (hC 8 (.int .i64 a7) rfl)
      have x9 : ∀ n os, (grow (wr.drewN n) os).cell? ⟨g, j * 16 + 9, none⟩ = some (.int .i64 a8) := cell_grown hgl (hC 9 (.int .i64 a8) rfl)
      have x10 : ∀ n os, (grow (wr.drewN n) os).cell? ⟨g, j * 16 + 10, none⟩ = some (.int .i64 a9) := cell_grown hgl (hC 10 (.int .i64 a9) rfl)
      have x11 : ∀ n os, (grow (wr.drewN n) os).cell? ⟨g, j * 16 + 11, none⟩ = some (.int .i64 b0) := cell_grown hgl (hC 11 (.int .i64 b0) rfl)
      have x12 : ∀ n os, (grow (wr.drewN n) os).cell? ⟨g, j * 16 + 12, none⟩ = some (.int .i64 b1) := cell_grown hgl (hC 12 (.int .i64 b1) rfl)
      have x13 : ∀ n os, (grow (wr.drewN n) os).cell? ⟨g, j * 16 + 13, none⟩ = some (.string ⟨tx.toArray⟩) := cell_grown hgl (hC 13 (.string ⟨tx.toArray⟩) rfl)
      have x14 : ∀ n os, (grow (wr.drewN n) os).cell? ⟨g, j * 16 + 14, none⟩ = some (.slice kp ks.length kc) := cell_grown hgl (hC 14 (.slice kp ks.length kc) rfl)
      have x15 : ∀ n os, (grow (wr.drewN n) os).cell? ⟨g, j * 16 + 15, none⟩ = some (.int .i64 up) := cell_grown hgl (hC 15 (.int .i64 up) rfl)
      have y0 : ∀ n os, (grow (wr.drewN n) os).cell? ⟨g2, j * 5, none⟩ = some (.int .i64 (kd : Int)) := cell_grown hgl2 (hD 0 (.int .i64 (kd : Int)) rfl)
      have y1 : ∀ n os, (grow (wr.drewN n) os).cell? ⟨g2, j * 5 + 1, none⟩ = some (.slice (some ⟨ab, 0, none⟩) 12 12) := cell_grown hgl2 (hD 1 (.slice (some ⟨ab, 0, none⟩) 12 12) rfl)
      have y2 : ∀ n os, (grow (wr.drewN n) os).cell? ⟨g2, j * 5 + 2, none⟩ = some (.string ⟨tx.toArray⟩) := cell_grown hgl2 (hD 2 (.string ⟨tx.toArray⟩) rfl)
      have y3 : ∀ n os, (grow (wr.drewN n) os).cell? ⟨g2, j * 5 + 3, none⟩ = some (.slice kp2 ks.length kc2) := cell_grown hgl2 (hD 3 (.slice kp2 ks.length kc2) rfl)
      have y4 : ∀ n os, (grow (wr.drewN n) os).cell? ⟨g2, j * 5 + 4, none⟩ = some (.int .i64 up) := cell_grown hgl2 (hD 4 (.int .i64 up) rfl)
      clear hC hD I1 I2 I3 hd hab hkv hkv2 N1 R1 hal hkl
      go_wp2_with fail
      go_quiet_grown (first | (go_at_call 22; exact Calls.grown_of (CA.out _ _)))
      have HG : Hid (Gr w (grow (wr.drewN nq) osq)) := HI.out.trans ⟨nq, osq, rfl⟩
      go_wp2
      go_roundw
      case rel => exact ⟨j + 1, by omega, by go_num, HG.out⟩
      case measure => simp [intOf]; omega
    · have hlt' : ¬ (j : Int) < (L.length : Int) := by omega
      go_wp2
      go_ret
      exact ⟨rfl, HI.out⟩
end Go.Proofs.YtepeepipgkejiadGreatDoor

namespace Go.Proofs.YtepeepipgkejiadGreatDoor
open Go.RowKit
set_option linter.unusedVariables false

theorem grownBy_refl (w : World) (row : Option Nat) : w.grownBy w row := ⟨rfl, rfl, rfl, Nat.le_refl _, fun _ _ _ => rfl⟩
theorem grownBy_set {w wr : World} {g : Nat} (h : w.grownBy wr (some g)) (k : Nat) (v : Value) : w.grownBy (wr.setCell ⟨g, k, none⟩ v) (some g) := by
  refine ⟨h.os, h.tape, h.output, by simpa [World.setCell] using h.size, fun j hj hne => ?_⟩
  rw [heap_setCell_other wr ⟨g, k, none⟩ j v (fun e => hne (by rw [e])), h.block j hj hne]

/-- The first n cells of block g hold numbers. -/
def Nums (w : World) (g n : Nat) : Prop := ∃ cur, w.heap[g]? = some (.cells cur 3 (0, 0)) ∧ ∀ j, j < n → ∃ z, cur[j]? = some (.int .i64 z)
theorem Nums.set {w : World} {g n : Nat} (h : Nums w g n) (k : Nat) (z : Int) : Nums (w.setCell ⟨g, k, none⟩ (.int .i64 z)) g n := by
  obtain ⟨cur, hg, hc⟩ := h
  refine ⟨_, heap_setCell_same w g k cur 3 (.int .i64 z) hg, fun j hj => ?_⟩
  obtain ⟨y, hy⟩ := hc j hj
  rw [Array.getElem?_setIfInBounds]
  by_cases e : k = j
  · subst e
    have := (Array.getElem?_eq_some_iff.1 hy).1
    exact ⟨z, by simp [this]⟩
  · exact ⟨y, by simp [e, hy]⟩

set_option maxRecDepth 100000 in
set_option maxHeartbeats 1000000 in
theorem spoil_some (g n cap : Nat) (w : World) (hn : n ≤ 17592186044416) (h : Nums w g n) :
    Calls Tryz.prog 11 #[.slice (some ⟨g, 0, none⟩) n cap] w fun e w' => e = .returned (.tuple #[]) ∧ w.grownBy w' (some g) := by
  go_enter Tryz.func11, Tryz.ntmps11
  go_wp2
  go_loopw [2] (fun i wr => ∃ k : Nat, k ≤ n ∧ i = .int .i64 k ∧ Nums wr g n ∧ w.grownBy wr (some g)) (fun i _ => n - (intOf i).toNat)
  case atStart => exact ⟨0, Nat.zero_le _, rfl, h, grownBy_refl _ _⟩
  case round =>
    obtain ⟨k, hk, rfl, hN, hg⟩ := hrel
    by_cases hlt : k < n
    · have hlt' : (k : Int) < (n : Int) := by omega
      have HN : Hid (Nums wr g n) := hN
      obtain ⟨x, hx, hf⟩ : ∃ x, wr.cell? ⟨g, k, none⟩ = some (.int .i64 x) ∧ wr.frozen? ⟨g, k, none⟩ = false := by
        obtain ⟨cur, hg, hc⟩ := hN
        obtain ⟨z, hz⟩ := hc k hlt
        exact ⟨z, by rw [cell_of_row wr g k cur 3 (0, 0) hg]; exact hz, frozen_of_row wr g k cur 3 hg⟩
      clear hN
      go_wp2
      go_roundw
      case rel => exact ⟨k + 1, by omega, by go_num, HN.out.set k _, grownBy_set hg k _⟩
      case measure => simp [intOf]; omega
    · have hlt' : ¬ (k : Int) < (n : Int) := by omega
      go_wp2
      go_end0
      exact ⟨rfl, hg⟩

set_option maxRecDepth 100000 in
set_option maxHeartbeats 1000000 in
theorem spoil_nil (w : World) : Calls Tryz.prog 11 #[.slice none 0 0] w fun e w' => e = .returned (.tuple #[]) ∧ w' = w := by
  go_enter Tryz.func11, Tryz.ntmps11
  go_wp2
  go_loop [2] (fun i => i = .int .i64 0) (fun _ => 0)
  case atStart => exact rfl
  case round =>
    obtain rfl := hrel
    go_wp2
    go_end0
    exact ⟨rfl, rfl⟩

theorem spoil_any (B n : Nat) (v : Value) (zs : List Int) (w : World) (hn : n ≤ 17592186044416) (h : w.ownsRow B 3 1 v n (zs.map (Value.int .i64))) :
    Calls Tryz.prog 11 #[v] w fun e w' => e = .returned (.tuple #[]) ∧ w.grownBy w' v.ownBlock := by
  obtain ⟨hl, h2⟩ := h
  rcases h2 with ⟨rfl, rfl⟩ | ⟨g, cap, cur, rfl, hB, hg, hnc, _, _, htake⟩
  · refine (spoil_nil w).mono ?_
    rintro e w' ⟨rfl, rfl⟩
    exact ⟨rfl, grownBy_refl _ _⟩
  · refine spoil_some g n cap w hn ⟨cur, hg, fun j hj => ?_⟩
    have hjl : j < zs.length := by simp at hl; omega
    have hz : (cur.toList.take (n * 1))[j]? = some (.int .i64 zs[j]) := by rw [htake]; simp [hjl]
    rw [List.getElem?_take, if_pos (by omega), Array.getElem?_toList] at hz
    exact ⟨_, hz⟩

end Go.Proofs.YtepeepipgkejiadGreatDoor

namespace Go.Proofs.YtepeepipgkejiadGreatDoor
open Go.RowKit
set_option linter.unusedVariables false

theorem num_any (n : Int) (w : World) : Calls Tryz.prog 10 #[.int .i64 n] w fun e w' => e = .returned (.int .i64 n) ∧ w' = w := by
  go_enter Tryz.func10, Tryz.ntmps10
  go_wp2
  go_ret
  exact ⟨rfl, rfl⟩
theorem pTree_good {s : ByteArray} {L : List Nd} (h : pTree s = .ok L) : L.length ≤ 4000 ∧ ∀ j, (nth L j).kids.length ≤ 4000 := by
  unfold pTree at h
  split at h
  · cases h
  · rename_i hl
    cases hp : pNodeF s (s.size + 1) (-1) 0 ⟨0, [], none⟩ with
    | error b => rw [hp] at h; cases h
    | ok st =>
      rw [hp] at h
      have hf := (node_fwd (s := s) _ _ _ _ _ (by show (-1 : Int) < 0; decide) ⟨Nat.zero_le _, Nat.le_refl _, fun j => Nat.zero_le _⟩ hp).1.good
      have e : st.L = L := by
        unfold pRoot pLast at h
        dsimp only at h
        split at h
        · cases h
        · split at h
          · cases h
          · injection h
      have h1 := hf.il
      have h2 := hf.ll
      rw [e] at h2
      refine ⟨by omega, fun j => ?_⟩
      have h3 := hf.kl j
      rw [e] at h3
      omega
theorem parse_of_ok {s : ByteArray} {L : List Nd} (h : pTree s = .ok L) : parse s = .ok L := by rw [← tree_eq, h]; rfl
theorem parse_of_err {s : ByteArray} {x : Option (Nat × Nat)} (h : pTree s = .error x) : parse s = .error (errC x, errP x) := by
  rw [← tree_eq, h]
  cases x with
  | none => rfl
  | some q => rfl
theorem err_pos {s : ByteArray} {x : Option (Nat × Nat)} (h : pTree s = .error x) : 1 ≤ errC x := by
  cases x with
  | none => exact Nat.le_refl _
  | some q => obtain ⟨c, p⟩ := q; have := (pTree_code h).1; show 1 ≤ c; omega
theorem kS_le {L : List Nd} {a : Nat} : ∀ b, a ≤ b → kS L a ≤ kS L b
  | 0, h => by obtain rfl : a = 0 := by omega
               exact Nat.le_refl _
  | b + 1, h => by
    by_cases e : a = b + 1
    · subst e; exact Nat.le_refl _
    · have := kS_le (L := L) (a := a) b (by omega)
      show kS L a ≤ kS L b + (nth L b).kids.length
      omega

set_option maxRecDepth 100000 in
set_option maxHeartbeats 8000000 in
theorem grown_walk (s : ByteArray) (E : Nat → Addr) (w : World) (hG : Glo w E) (hA : Apart w E) (hT : ErT w) :
    Calls Tryz.prog 6 #[.string s] w fun e w' => e = .returned (.bool true) ∧ Below w.heap.size w w' := by
  have hmix : Tryz.prog.follows .mixedOrders = true := by kernel_rfl
  have TP : Hid (Calls Tryz.prog 7 #[.string s] w fun e w' => TpOut w w' e (pTree s)) := tparse_any s E w hG hA hT
  clear hG hA hT
  cases hp : pTree s with
  | error x =>
    have HQ : Hid (parse s = .error (errC x, errP x)) := parse_of_err hp
    have hc := err_pos hp
    rw [hp] at TP
    obtain ⟨cc, hcc⟩ : ∃ q, errC x = q := ⟨_, rfl⟩
    obtain ⟨pp, hpp⟩ : ∃ q, errP x = q := ⟨_, rfl⟩
    have TP2 : Hid (Calls Tryz.prog 7 #[.string s] w fun e w' => Below w.heap.size w w' ∧ e = .returned (.tuple #[.slice none 0 0, .int .i64 (cc : Int), .int .i64 (pp : Int)])) := TP.out.mono fun e w' h => ⟨h.1, by have := h.2; rw [← hcc, ← hpp]; exact this⟩
    rw [hcc] at hc
    rw [hcc, hpp] at HQ
    have hne : ((cc : Int) != 0) = true := by simp; omega
    clear hp hcc hpp TP
    go_enter Tryz.func6, Tryz.ntmps6
    go_wp2_with fail
    refine TP2.out.mono ?_
    rintro e w1 ⟨b1, rfl⟩
    have RP : Hid (Calls Tryz.prog 8 #[.string s] w1 fun e w' => Below w1.heap.size w1 w' ∧ e = .returned (.tuple #[.slice none 0 0, .int .i64 (cc : Int), .int .i64 (pp : Int)])) := (rparse_any s w1).mono fun e w' h => by rw [HQ.out] at h; exact h
    have HB1 : Hid (Below w.heap.size w w1) := b1
    clear b1 TP2
    go_wp2_with fail
    refine RP.out.mono ?_
    rintro e w2 ⟨b2, rfl⟩
    have HB2 : Hid (Below w.heap.size w w2) := HB1.out.trans (b2.mono HB1.out.size)
    clear b2 RP HB1
    go_wp2_with fail
    refine (num_any _ _).mono ?_
    rintro e w3 ⟨rfl, hw⟩
    obtain rfl := hw.symm
    go_wp2
    go_ret
    exact ⟨rfl, HB2.out⟩
  | ok L =>
    have HQ : Hid (parse s = .ok L) := parse_of_ok hp
    obtain ⟨hgr, hpos⟩ := parse_grown HQ.out
    have hgood := pTree_good hp
    have HGR : Hid (Gr1 L) := hgr
    have HKL : Hid (∀ j, (nth L j).kids.length ≤ 4000) := hgood.2
    have h4 := hgood.1
    rw [hp] at TP
    clear hp hgr hgood
    go_enter Tryz.func6, Tryz.ntmps6
    go_wp2_with fail
    refine TP.out.mono ?_
    rintro e w1 ⟨b1, nv, KV, rfl, hn⟩
    obtain ⟨g, cap, rfl, _⟩ := hn.nr.form hpos
    have RP : Hid (Calls Tryz.prog 8 #[.string s] w1 fun e w' => Below w1.heap.size w1 w' ∧ ∃ v, e = .returned (.tuple #[v, .int .i64 0, .int .i64 0])) := (rparse_any s w1).mono fun e w' h => by
      rw [HQ.out] at h
      obtain ⟨q1, v, _, _, q2, _⟩ := h
      exact ⟨q1, v, q2⟩
    have HB1 : Hid (Below w.heap.size w w1) := b1
    have HN1 : Hid (PN w1 w.heap.size (.slice (some ⟨g, 0, none⟩) L.length cap) L KV) := hn
    clear b1 hn TP
    go_wp2_with fail
    refine RP.out.mono ?_
    rintro e w2 ⟨b2, rv, rfl⟩
    have HB2 : Hid (Below w.heap.size w w2) := HB1.out.trans (b2.mono HB1.out.size)
    have HN : Hid (PN w2 w.heap.size (.slice (some ⟨g, 0, none⟩) L.length cap) L KV) := HN1.out.up (Up.below b2)
    clear b2 RP HB1 HN1 HQ
    go_wp2_with fail
    refine (num_any _ _).mono ?_
    rintro e w3 ⟨rfl, hw⟩
    obtain rfl := hw.symm
    go_wp2
    go_loopw [9, 10] (fun sn i wr => ∃ j : Nat, j ≤ L.length ∧ i = .int .i64 (j : Int) ∧ sn = .int .i64 ((1 + kS L j : Nat) : Int) ∧ wr = w2) (fun _ i _ => L.length - (intOf i).toNat)
    case atStart => exact ⟨0, Nat.zero_le _, rfl, rfl, rfl⟩
    case round =>
      obtain ⟨j, hj, rfl, rfl, rfl⟩ := hrel
      by_cases hlt : j < L.length
      · have hlt' : (j : Int) < (L.length : Int) := by omega
        have cu := HN.out.nr.cell hlt (pn_up (HN.out.len j hlt))
        have ck := HN.out.nr.cell hlt (pn_kids (HN.out.len j hlt))
        obtain ⟨kp, kc, hkv⟩ : ∃ p c, KV j = .slice p (nth L j).kids.length c := own_slice (HN.out.nr.kids j hlt)
        have HKR : Hid (wr.ownsRow w.heap.size 3 1 (.slice kp (nth L j).kids.length kc) (nth L j).kids.length (kInts (nth L j).kids)) := by have := HN.out.nr.kids j hlt; rw [hkv] at this; exact this
        rw [hkv] at ck
        have HU0 : Hid ((nth L j).up < 0 ↔ j = 0) := HGR.out.up0 j hlt
        have hul := HGR.out.upl j hlt
        have hkl := HKL.out j
        obtain ⟨x, hx⟩ : ∃ x, (nth L j).up = x := ⟨_, rfl⟩
        obtain ⟨K, hK⟩ : ∃ K, (nth L j).kids = K := ⟨_, rfl⟩
        rw [hx] at cu HU0 hul
        rw [hK] at ck HKR hkl
        have HK : Hid ((nth L j).kids = K) := hK
        obtain ⟨b, hb⟩ : ∃ b, decide (x < 0) = b := ⟨_, rfl⟩
        have hb2 : ((j : Int) == 0) = b := by
          rw [← hb]
          by_cases e : j = 0
          · rw [decide_eq_true (HU0.out.2 e), e]; rfl
          · rw [decide_eq_false (fun q => e (HU0.out.1 q))]; simp; omega
        have hge : decide ((j : Int) ≤ x) = false := decide_eq_false (by omega)
        have HKS : Hid (kS L (j + 1) = kS L j + K.length) := by show kS L j + (nth L j).kids.length = _; rw [hK]
        have hks : kS L j + K.length + 1 ≤ L.length := by
          have h1 := kS_le (L := L) (a := j + 1) L.length (by omega)
          have h2 := HGR.out.cnt hpos
          rw [HKS.out] at h1
          omega
        clear hx hK hkv HU0
        go_wp2
        go_loopw [9, 11, 12] (fun sn la kk wz => ∃ k lv : Nat, k ≤ K.length ∧ kk = .int .i64 (k : Int) ∧ sn = .int .i64 ((1 + kS L j + k : Nat) : Int) ∧ la = .int .i64 (lv : Int) ∧ Hid ((k = 0 → lv = j) ∧ ∀ k', k = k' + 1 → K[k']? = some lv) ∧ wz = wr) (fun _ _ kk _ => K.length - (intOf kk).toNat)
        case atStart => exact ⟨0, j, Nat.zero_le _, rfl, rfl, rfl, ⟨fun _ => rfl, fun k' e => by omega⟩, rfl⟩
        case round =>
          obtain ⟨k, lv, hk, rfl, rfl, rfl, HLV, rfl⟩ := hrel
          by_cases hkt : k < K.length
          · have hkt' : (k : Int) < (K.length : Int) := by omega
            obtain ⟨c, hc⟩ : ∃ c, K[k]? = some c := ⟨_, List.getElem?_eq_getElem hkt⟩
            obtain ⟨kg, kcap, hkp, _⟩ : ∃ g' cap', Value.slice kp K.length kc = .slice (some ⟨g', 0, none⟩) K.length cap' ∧ True := by
              rcases own_form HKR.out with ⟨_, h0⟩ | ⟨g', cap', e, _⟩
              · omega
              · exact ⟨g', cap', e, trivial⟩
            simp only [Value.slice.injEq, true_and] at hkp
            obtain ⟨rfl, rfl⟩ := hkp
            have cc := HKR.out.cellAt k (by omega)
            have cc2 : (kInts K)[k]? = some (.int .i64 (c : Int)) := by
              unfold kInts
              rw [List.getElem?_map, hc]; rfl
            rw [cc2] at cc
            clear cc2
            have hkid := HGR.out.kid j k c hlt (by rw [HK.out]; exact hc)
            obtain ⟨hjc, hcl, hcu⟩ := hkid
            have cu2 := HN.out.nr.cell hcl (pn_up (HN.out.len c hcl))
            rw [hcu] at cu2
            have hcl' : (c : Int) < (L.length : Int) := by omega
            have hlc : lv < c := by
              by_cases e : k = 0
              · rw [HLV.out.1 e]; exact hjc
              · exact HGR.out.rise j (k - 1) lv c hlt (by rw [HK.out]; exact HLV.out.2 (k - 1) (by omega)) (by rw [HK.out, show k - 1 + 1 = k by omega]; exact hc)
            have hd1 : decide ((c : Int) ≤ (lv : Int)) = false := decide_eq_false (by omega)
            have hd2 : decide ((L.length : Int) ≤ (c : Int)) = false := decide_eq_false (by omega)
            have HF : Hid (k = 0 → c = j + 1) := fun e => HGR.out.first j c hlt (by rw [HK.out]; rw [e] at hc; exact hc)
            have HLV2 : Hid ((k + 1 = 0 → c = j) ∧ ∀ k', k + 1 = k' + 1 → K[k']? = some c) := ⟨fun e => by omega, fun k' e => (show k = k' by omega) ▸ hc⟩
            clear hc hcu HLV
            by_cases hk0 : k = 0
            · have e3 : ((k : Int) == 0) = true := by rw [hk0]; rfl
              have e4 : ((c : Int) != (j : Int) + 1) = false := by rw [HF.out hk0]; simp
              clear hk0
              go_wp2
              go_roundw
              case rel => exact ⟨k + 1, c, by omega, by go_num, by go_num, rfl, HLV2.out, by first | rfl | trivial⟩
              case measure => simp [intOf]; omega
            · have e3 : ((k : Int) == 0) = false := by simp; omega
              go_wp2
              go_roundw
              case rel => exact ⟨k + 1, c, by omega, by go_num, by go_num, rfl, HLV2.out, by first | rfl | trivial⟩
              case measure => simp [intOf]; omega
          · have hkt' : ¬ (k : Int) < (K.length : Int) := by omega
            obtain rfl : k = K.length := by omega
            go_wp2
            go_roundw
            case rel => exact ⟨j + 1, by omega, by go_num, by rw [HKS.out]; go_num, by first | rfl | trivial⟩
            case measure => simp [intOf]; omega
      · have hlt' : ¬ (j : Int) < (L.length : Int) := by omega
        obtain rfl : j = L.length := by omega
        have e5 : ((1 : Int) + (kS L L.length : Int) == (L.length : Int)) = true := by
          have := HGR.out.cnt hpos
          simp; omega
        have e6 : (0 : Int) < (L.length : Int) := by omega
        go_wp2
        go_ret
        refine ⟨?_, HB2.out⟩
        first | rfl | (show Ending.returned (.bool ((1 : Int) + (kS L L.length : Int) == (L.length : Int))) = _; rw [e5])

end Go.Proofs.YtepeepipgkejiadGreatDoor

namespace Go.Proofs.YtepeepipgkejiadGreatDoor
open Go.RowKit Go.Sort
set_option linter.unusedVariables false

/-- What the spoiling leaves: of the kids from a on and of the cells from c on all is as it was. -/
structure Spo (w0 wr : World) (T : TypeId) (g n a c : Nat) (KV : Nat → Value) : Prop where
  os : wr.os = w0.os
  tape : wr.tape = w0.tape
  output : wr.output = w0.output
  size : w0.heap.size ≤ wr.heap.size
  block : ∀ b, b < w0.heap.size → b ≠ g → (∀ i, i < n → (KV i).ownBlock ≠ some b) → wr.heap[b]? = w0.heap[b]?
  kid : ∀ i, a ≤ i → i < n → ∀ b, (KV i).ownBlock = some b → wr.heap[b]? = w0.heap[b]?
  cell : ∀ k, c ≤ k → wr.cell? ⟨g, k, none⟩ = w0.cell? ⟨g, k, none⟩
  row : ∃ cur, wr.heap[g]? = some (.cells cur T (0, 0))
theorem Spo.refl {w0 : World} {T : TypeId} {g n : Nat} {KV : Nat → Value} (h : ∃ cur, w0.heap[g]? = some (.cells cur T (0, 0))) : Spo w0 w0 T g n 0 0 KV :=
  ⟨rfl, rfl, rfl, Nat.le_refl _, fun _ _ _ _ => rfl, fun _ _ _ _ _ => rfl, fun _ _ => rfl, h⟩
theorem Spo.fz {w0 wr : World} {T : TypeId} {g n a c : Nat} {KV : Nat → Value} (h : Spo w0 wr T g n a c KV) (j : Nat) : wr.frozen? ⟨g, j, none⟩ = false := by
  obtain ⟨cur, hc⟩ := h.row
  exact frozen_of_row _ _ _ _ _ hc
theorem Spo.set {w0 wr : World} {T : TypeId} {g n a c c' : Nat} {KV : Nat → Value} (h : Spo w0 wr T g n a c KV) (hk : ∀ i, i < n → (KV i).ownBlock ≠ some g) (k : Nat) (v : Value) (h1 : c ≤ c') (h2 : k < c') : Spo w0 (wr.setCell ⟨g, k, none⟩ v) T g n a c' KV := by
  refine ⟨h.os, h.tape, h.output, by simpa [World.setCell] using h.size, fun b hb hg hi => ?_, fun i hi hn b hb => ?_, fun j hj => ?_, ?_⟩
  · rw [heap_setCell_other wr ⟨g, k, none⟩ b v (fun e => hg (by rw [e])), h.block b hb hg hi]
  · have hne : b ≠ g := fun e => hk i hn (by rw [hb, e])
    rw [heap_setCell_other wr ⟨g, k, none⟩ b v (fun e => hne (by rw [e])), h.kid i hi hn b hb]
  · exact (World.cell?_setCell_other (w := wr) (a := ⟨g, k, none⟩) (b := ⟨g, j, none⟩) (v := v) (by intro e; injection e with _ e; omega)).trans (h.cell j (by omega))
  · obtain ⟨cur, hc⟩ := h.row
    exact ⟨_, heap_setCell_same wr g k cur T v hc⟩
theorem Spo.spoil {w0 wr w' : World} {T : TypeId} {g n j c : Nat} {KV : Nat → Value} (h : Spo w0 wr T g n j c KV) (hj : j < n) (hk : ∀ i, i < n → (KV i).ownBlock ≠ some g) (hs : ∀ i, i < n → i ≠ j → ∀ b, (KV i).ownBlock = some b → (KV j).ownBlock ≠ some b) (hl : ∀ i, i < n → ∀ b, (KV i).ownBlock = some b → b < w0.heap.size) (hg0 : g < w0.heap.size)
    (hg : wr.grownBy w' (KV j).ownBlock) : Spo w0 w' T g n (j + 1) c KV := by
  have hbg : w'.heap[g]? = wr.heap[g]? := hg.block g (Nat.lt_of_lt_of_le hg0 h.size) (fun e => hk j hj e.symm)
  refine ⟨hg.os.trans h.os, hg.tape.trans h.tape, hg.output.trans h.output, Nat.le_trans h.size hg.size, fun b hb hne hi => ?_, fun i hi hn b hb => ?_, fun k hk' => ?_, ?_⟩
  · rw [hg.block b (Nat.lt_of_lt_of_le hb h.size) (fun e => hi j hj e.symm), h.block b hb hne hi]
  · rw [hg.block b (Nat.lt_of_lt_of_le (hl i hn b hb) h.size) (fun e => hs i hn (by omega) b hb e.symm), h.kid i (by omega) hn b hb]
  · rw [World.cell?_of_block hbg]; exact h.cell k hk'
  · obtain ⟨cur, hc⟩ := h.row
    exact ⟨cur, hbg.trans hc⟩
theorem own_block {W W' : World} {B n size : Nat} {e : TypeId} {v : Value} {xs : List Value} (h : W.ownsRow B e size v n xs) (hu : ∀ b, v.ownBlock = some b → W'.heap[b]? = W.heap[b]?) : W'.ownsRow B e size v n xs := by
  refine ⟨h.1, ?_⟩
  rcases h.2 with h2 | ⟨g, cap, cur, rfl, b, c, d⟩
  · exact .inl h2
  · exact .inr ⟨g, cap, cur, rfl, b, (hu g rfl).trans c, d⟩
theorem own_row {W : World} {B n size g cap : Nat} {e : TypeId} {xs : List Value} (h : W.ownsRow B e size (.slice (some ⟨g, 0, none⟩) n cap) n xs) : ∃ cur, W.heap[g]? = some (.cells cur e (0, 0)) := by
  rcases h.2 with ⟨h2, _⟩ | ⟨g', cap', cur, e1, _, c, _⟩
  · cases h2
  · simp only [Value.slice.injEq, Option.some.injEq, Addr.mk.injEq, true_and, and_true] at e1
    obtain ⟨rfl, _⟩ := e1
    exact ⟨cur, c⟩
theorem tp_any {w w' : World} {e : Ending} {r : Except (Option (Nat × Nat)) (List Nd)} (h : TpOut w w' e r) : Below w.heap.size w w' ∧ ∃ a b c, e = .returned (.tuple #[a, b, c]) := by
  obtain ⟨h1, h2⟩ := h
  refine ⟨h1, ?_⟩
  cases r with
  | error x => exact ⟨_, _, _, h2⟩
  | ok L => obtain ⟨nv, KV, e, _⟩ := h2; exact ⟨_, _, _, e⟩

set_option maxRecDepth 100000 in
set_option maxHeartbeats 8000000 in
theorem parses_walk (s : ByteArray) (E : Nat → Addr) (w : World) (hG : Glo w E) (hA : Apart w E) (hT : ErT w) :
    Calls Tryz.prog 3 #[.string s] w fun e w' => e = .returned (.bool true) ∧ Below w.heap.size w w' := by
  have hmix : Tryz.prog.follows .mixedOrders = true := by kernel_rfl
  have TPA : Hid (∀ t w', Below w.heap.size w w' → Calls Tryz.prog 7 #[.string t] w' fun e w'' => TpOut w' w'' e (pTree t)) := fun t w' hb => tparse_any t E w' (hG.cells hb) (hA.below hb) (hT.below hb)
  clear hG hA hT
  cases hp : pTree s with
  | error x =>
    have HQ : Hid (parse s = .error (errC x, errP x)) := parse_of_err hp
    obtain ⟨cc, hcc⟩ : ∃ q, errC x = q := ⟨_, rfl⟩
    obtain ⟨pp, hpp⟩ : ∃ q, errP x = q := ⟨_, rfl⟩
    rw [hcc, hpp] at HQ
    have TPS : Hid (∀ w', Below w.heap.size w w' → Calls Tryz.prog 7 #[.string s] w' fun e w'' => Below w'.heap.size w' w'' ∧ e = .returned (.tuple #[.slice none 0 0, .int .i64 (cc : Int), .int .i64 (pp : Int)])) := fun w' hb => (TPA.out s w' hb).mono fun e w' h => by
      rw [hp] at h
      exact ⟨h.1, by have := h.2; rw [← hcc, ← hpp]; exact this⟩
    have NY : Hid (∀ w', Calls Tryz.prog 9 #[.slice none 0 0, .slice none 0 0] w' fun e w'' => e = .returned (.bool true) ∧ Gr w' w'') := fun w' =>
      nodes_yes [] 0 0 (.slice none 0 0) (.slice none 0 0) (fun _ => .slice none 0 0) (fun _ => .slice none 0 0) (fun _ => 0) w' ⟨NR.nothing _ _ _ _ _ _ _, fun j h => absurd h (by show ¬ j < 0; omega)⟩ (RD.nothing _ _ _ _) (Nat.zero_le _) (fun j => by unfold nth; simp [nd0])
    have RPA : Hid (∀ w', Calls Tryz.prog 8 #[.string s] w' fun e w'' => Below w'.heap.size w' w'' ∧ e = .returned (.tuple #[.slice none 0 0, .int .i64 (cc : Int), .int .i64 (pp : Int)])) := fun w' => (rparse_any s w').mono fun e w' h => by rw [HQ.out] at h; exact h
    clear hp hcc hpp HQ
    go_enter Tryz.func3, Tryz.ntmps3
    go_wp2_with fail
    refine (TPS.out w (Below.refl _ _)).mono ?_
    rintro e w1 ⟨b1, rfl⟩
    have HB1 : Hid (Below w.heap.size w w1) := b1
    clear b1
    go_wp2_with fail
    refine (TPA.out _ _ HB1.out).mono ?_
    rintro e w2 h2
    obtain ⟨b2, va, vb, vc, rfl⟩ := tp_any h2
    have HB2 : Hid (Below w.heap.size w w2) := HB1.out.trans (b2.mono HB1.out.size)
    clear h2 b2 HB1
    go_wp2_with fail
    refine (RPA.out w2).mono ?_
    rintro e w3 ⟨b3, rfl⟩
    have HB3 : Hid (Below w.heap.size w w3) := HB2.out.trans (b3.mono HB2.out.size)
    clear b3 HB2
    go_wp2_with fail
    refine (NY.out w3).mono ?_
    rintro e w4 ⟨rfl, g4⟩
    have HB4 : Hid (Below w.heap.size w w4) := HB3.out.trans (g4.below.mono HB3.out.size)
    clear g4 HB3
    go_wp2_with fail
    refine (num_any _ _).mono ?_
    rintro e w5 ⟨rfl, hw⟩
    obtain rfl := hw.symm
    go_wp2
    go_loopw [10] (fun i wr => i = .int .i64 0 ∧ wr = w4) (fun _ _ => 0)
    case atStart => exact ⟨rfl, rfl⟩
    case round =>
      obtain ⟨rfl, rfl⟩ := hrel
      go_wp2_with fail
      refine (TPS.out _ HB4.out).mono ?_
      rintro e w6 ⟨b6, rfl⟩
      have HB6 : Hid (Below w.heap.size w w6) := HB4.out.trans (b6.mono HB4.out.size)
      clear b6
      go_wp2_with fail
      refine (NY.out w6).mono ?_
      rintro e w7 ⟨rfl, g7⟩
      have HB7 : Hid (Below w.heap.size w w7) := HB6.out.trans (g7.below.mono HB6.out.size)
      go_wp2
      go_ret
      exact ⟨rfl, HB7.out⟩
  | ok L =>
    have HQ : Hid (parse s = .ok L) := parse_of_ok hp
    have hpos := (parse_grown HQ.out).2
    obtain ⟨h4, hkl⟩ := pTree_good hp
    have HKL : Hid (∀ j, (nth L j).kids.length ≤ 4000) := hkl
    have TPS : Hid (∀ w', Below w.heap.size w w' → Calls Tryz.prog 7 #[.string s] w' fun e w'' => Below w'.heap.size w' w'' ∧ ∃ nv KV, e = .returned (.tuple #[nv, .int .i64 0, .int .i64 0]) ∧ PN w'' w'.heap.size nv L KV) := fun w' hb => (TPA.out s w' hb).mono fun e w' h => by
      rw [hp] at h
      exact h
    have RPA : Hid (∀ w', Calls Tryz.prog 8 #[.string s] w' fun e w'' => Below w'.heap.size w' w'' ∧ ∃ nv AV KV, e = .returned (.tuple #[nv, .int .i64 0, .int .i64 0]) ∧ RD w'' (w'.heap.size + 1) nv L AV KV) := fun w' => (rparse_any s w').mono fun e w' h => by rw [HQ.out] at h; exact h
    clear hp hkl HQ
    go_enter Tryz.func3, Tryz.ntmps3
    go_wp2_with fail
    refine (TPS.out w (Below.refl _ _)).mono ?_
    rintro e w1 ⟨b1, nv, KV, rfl, hn1⟩
    obtain ⟨g, cap, rfl, hBg, hg1, _⟩ := hn1.nr.form hpos
    have HB1 : Hid (Below w.heap.size w w1) := b1
    have HKB : Hid (∀ i, i < L.length → ∀ b, (KV i).ownBlock = some b → w.heap.size ≤ b ∧ b < w1.heap.size) := fun i hi b hb => (hn1.nr.kids i hi).lt b hb
    have HN1 : Hid (PN w1 w.heap.size (.slice (some ⟨g, 0, none⟩) L.length cap) L KV) := hn1
    clear b1 hn1
    go_wp2_with fail
    refine (TPA.out _ _ HB1.out).mono ?_
    rintro e w2 h2
    obtain ⟨b2, va, vb, vc, rfl⟩ := tp_any h2
    have HB2 : Hid (Below w.heap.size w w2) := HB1.out.trans (b2.mono HB1.out.size)
    have HN2 : Hid (PN w2 w.heap.size (.slice (some ⟨g, 0, none⟩) L.length cap) L KV) := HN1.out.up (Up.below b2)
    have hs12 := b2.size
    clear h2 b2 HB1 HN1
    go_wp2_with fail
    refine (RPA.out w2).mono ?_
    rintro e w3 ⟨b3, mv, AV, KV2, rfl, hr3⟩
    obtain ⟨g2, cap2, rfl, _⟩ := hr3.nr.form hpos
    have HB3 : Hid (Below w.heap.size w w3) := HB2.out.trans (b3.mono HB2.out.size)
    have HN3 : Hid (PN w3 w.heap.size (.slice (some ⟨g, 0, none⟩) L.length cap) L KV) := HN2.out.up (Up.below b3)
    have HR3 : Hid (RD w3 (w2.heap.size + 1) (.slice (some ⟨g2, 0, none⟩) L.length cap2) L AV KV2) := hr3
    have hs23 := b3.size
    clear b3 hr3 HB2 HN2
    go_wp2_with fail
    refine (nodes_yes L _ _ _ _ KV KV2 AV w3 HN3.out HR3.out h4 HKL.out).mono ?_
    rintro e w4 ⟨rfl, g4⟩
    have HB4 : Hid (Below w.heap.size w w4) := HB3.out.trans (g4.below.mono HB3.out.size)
    have hn4 : PN w4 w.heap.size (.slice (some ⟨g, 0, none⟩) L.length cap) L KV := HN3.out.up (Up.below g4.below)
    have HR4 : Hid (RD w4 (w2.heap.size + 1) (.slice (some ⟨g2, 0, none⟩) L.length cap2) L AV KV2) := HR3.out.up (Up.below g4.below)
    have hs34 := g4.size
    have HKG : Hid (∀ i, i < L.length → (KV i).ownBlock ≠ some g) := fun i hi e => by
      obtain ⟨xs, hx⟩ := hn4.nr.row
      rcases own_apart (hn4.nr.kids i hi) hx (by decide) with h | h
      · rw [h] at e; cases e
      · exact h e
    have HR0 : Hid (∃ cur, w4.heap[g]? = some (.cells cur 34 (0, 0))) := by
      obtain ⟨xs, hx⟩ := hn4.nr.row
      exact own_row hx
    have HN4 : Hid (PN w4 w.heap.size (.slice (some ⟨g, 0, none⟩) L.length cap) L KV) := hn4
    have hg4 : g < w4.heap.size := by omega
    have hlen4 : w1.heap.size ≤ w4.heap.size := by omega
    clear g4 hn4 HB3 HN3 HR3
    go_wp2_with fail
    refine (num_any _ _).mono ?_
    rintro e w5 ⟨rfl, hw⟩
    obtain rfl := hw.symm
    go_wp2
    go_loopw [10] (fun i wr => ∃ j : Nat, j ≤ L.length ∧ i = .int .i64 (j : Int) ∧ Hid (Spo w4 wr 34 g L.length j (j * 16) KV)) (fun i _ => L.length - (intOf i).toNat)
    case atStart => exact ⟨0, Nat.zero_le _, rfl, by rw [Nat.zero_mul]; exact Spo.refl HR0.out⟩
    case round =>
      obtain ⟨j, hj, rfl, HS⟩ := hrel
      by_cases hlt : j < L.length
      · have hlt' : (j : Int) < (L.length : Int) := by omega
        have hK4 := HN4.out.nr.kids j hlt
        have ck : wr.cell? ⟨g, j * 16 + 14, none⟩ = some (KV j) := (HS.out.cell _ (by omega)).trans (HN4.out.nr.cell hlt (pn_kids (HN4.out.len j hlt)))
        have HKR : Hid (wr.ownsRow w.heap.size 3 1 (KV j) (nth L j).kids.length ((((nth L j).kids).map fun (k : Nat) => (k : Int)).map (Value.int .i64))) := by
          have e : kInts (nth L j).kids = ((nth L j).kids.map fun (k : Nat) => (k : Int)).map (Value.int .i64) := by unfold kInts; rw [List.map_map]; rfl
          rw [← e]
          exact own_block hK4 (HS.out.kid j (Nat.le_refl _) hlt)
        have hkl := HKL.out j
        have HSP : Hid (∀ w', wr.grownBy w' (KV j).ownBlock → Spo w4 w' 34 g L.length (j + 1) (j * 16) KV) := fun w' hg => HS.out.spoil hlt HKG.out (fun i hi hij b hb => HN4.out.nr.sep i j hi hlt hij b hb) (fun i hi b hb => Nat.lt_of_lt_of_le (HKB.out i hi b hb).2 hlen4) hg4 hg
        obtain ⟨kp, kc, hkv⟩ : ∃ p c, KV j = .slice p (nth L j).kids.length c := own_slice hK4
        have CSP : Hid (Calls Tryz.prog 11 #[KV j] wr fun e w' => e = .returned (.tuple #[]) ∧ wr.grownBy w' (KV j).ownBlock) := spoil_any _ _ _ _ wr (by omega) HKR.out
        have CSQ : Hid (Calls Tryz.prog 11 #[KV j] wr fun e w' => e = .returned (.tuple #[]) ∧ Hid (Spo w4 w' 34 g L.length (j + 1) (j * 16) KV)) := CSP.out.mono fun e w' h => ⟨h.1, HSP.out w' h.2⟩
        rw [hkv] at ck CSQ
        clear hkv HKR CSP HSP hK4 hkl
        go_wp2_with fail
        refine CSQ.out.mono ?_
        rintro e w6 ⟨rfl, HS6⟩
        have hal := HN4.out.len j hlt
        have hC : ∀ t u, (pnCells (nth L j) (KV j))[t]? = some u → w6.cell? ⟨g, j * 16 + t, none⟩ = some u := fun t u h => (HS6.out.cell _ (by omega)).trans (HN4.out.nr.cell hlt h)
        obtain ⟨d, hd⟩ : ∃ d, nth L j = d := ⟨_, rfl⟩
        obtain ⟨kv, hkv⟩ : ∃ d, KV j = d := ⟨_, rfl⟩
        rw [hd] at hal hC
        rw [hkv] at hC
        obtain ⟨kd, at_, tx, ks, up⟩ := d
        obtain ⟨a0, a1, a2, a3, a4, a5, a6, a7, a8, a9, b0, b1, rfl⟩ := twelve hal
        have x0 : w6.cell? ⟨g, j * 16, none⟩ = some (.int .i64 (kd : Int)) := hC 0 _ rfl
        have x1 := hC 1 (.int .i64 a0) rfl
        have x2 := hC 2 (.int .i64 a1) rfl
        have x3 := hC 3 (.int .i64 a2) rfl
        have x4 := hC 4 (.int .i64 a3) rfl
        have x5 := hC 5 (.int .i64 a4) rfl
        have x6 := hC 6 (.int .i64 a5) rfl
        have x7 := hC 7 (.int .i64 a6) rfl
        have x8 := hC 8 (.int .i64 a7) rfl
        have x9 := hC 9 (.int .i64 a8) rfl
        have x10 := hC 10 (.int .i64 a9) rfl
        have x11 := hC 11 (.int .i64 b0) rfl
        have x12 := hC 12 (.int .i64 b1) rfl
        have x13 := hC 13 (.string ⟨tx.toArray⟩) rfl
        have x14 := hC 14 kv rfl
        have x15 := hC 15 (.int .i64 up) rfl
        have fz := HS6.out.fz
        have HST : Hid (∀ {c : Nat} {wq : World} (k : Nat) (v : Value), Spo w4 wq 34 g L.length (j + 1) c KV → c ≤ (j + 1) * 16 → k < (j + 1) * 16 → Spo w4 (wq.setCell ⟨g, k, none⟩ v) 34 g L.length (j + 1) ((j + 1) * 16) KV) := fun k v h h1 h2 => h.set HKG.out k v h1 h2
        clear hC hd hal hkv CSQ ck
        go_wp2
        go_roundw
        case rel =>
          refine ⟨j + 1, by omega, by go_num, ?_⟩
          have q := fun v => HST.out (c := j * 16) (j * 16) v HS6.out (by omega) (by omega)
          refine HST.out _ _ ?_ (Nat.le_refl _) (by omega)
          refine HST.out _ _ ?_ (Nat.le_refl _) (by omega)
          refine HST.out _ _ ?_ (Nat.le_refl _) (by omega)
          refine HST.out _ _ ?_ (Nat.le_refl _) (by omega)
          refine HST.out _ _ ?_ (Nat.le_refl _) (by omega)
          refine HST.out _ _ ?_ (Nat.le_refl _) (by omega)
          refine HST.out _ _ ?_ (Nat.le_refl _) (by omega)
          refine HST.out _ _ ?_ (Nat.le_refl _) (by omega)
          refine HST.out _ _ ?_ (Nat.le_refl _) (by omega)
          refine HST.out _ _ ?_ (Nat.le_refl _) (by omega)
          refine HST.out _ _ ?_ (Nat.le_refl _) (by omega)
          refine HST.out _ _ ?_ (Nat.le_refl _) (by omega)
          refine HST.out _ _ ?_ (Nat.le_refl _) (by omega)
          refine HST.out _ _ ?_ (Nat.le_refl _) (by omega)
          refine HST.out _ _ ?_ (Nat.le_refl _) (by omega)
          exact q _
        case measure => simp [intOf]; omega
      · have hlt' : ¬ (j : Int) < (L.length : Int) := by omega
        have HBr : Hid (Below w.heap.size w wr) := by
          have hs := HB4.out.size
          refine HB4.out.trans ⟨HS.out.os, HS.out.tape, HS.out.output, HS.out.size, fun b hb => HS.out.block b (by omega) (by omega) fun i hi e => ?_⟩
          have := (HKB.out i hi b e).1
          omega
        have HRr : Hid (RD wr (w2.heap.size + 1) (.slice (some ⟨g2, 0, none⟩) L.length cap2) L AV KV2) := HR4.out.up ⟨HS.out.size, fun b h1 h2 => HS.out.block b h2 (by omega) fun i hi e => by have := (HKB.out i hi b e).2; omega⟩
        clear HS
        go_wp2_with fail
        refine (TPS.out _ HBr.out).mono ?_
        rintro e w6 ⟨b6, nv3, KV3, rfl, hn6⟩
        obtain ⟨g3, cap3, rfl, _⟩ := hn6.nr.form hpos
        have HB6 : Hid (Below w.heap.size w w6) := HBr.out.trans (b6.mono HBr.out.size)
        have HR6 : Hid (RD w6 (w2.heap.size + 1) (.slice (some ⟨g2, 0, none⟩) L.length cap2) L AV KV2) := HRr.out.up (Up.below b6)
        have HN6 : Hid (PN w6 wr.heap.size (.slice (some ⟨g3, 0, none⟩) L.length cap3) L KV3) := hn6
        clear b6 hn6
        go_wp2_with fail
        refine (nodes_yes L _ _ _ _ KV3 KV2 AV w6 HN6.out HR6.out h4 HKL.out).mono ?_
        rintro e w7 ⟨rfl, g7⟩
        have HB7 : Hid (Below w.heap.size w w7) := HB6.out.trans (g7.below.mono HB6.out.size)
        go_wp2
        go_ret
        exact ⟨rfl, HB7.out⟩

end Go.Proofs.YtepeepipgkejiadGreatDoor

namespace Go.Proofs.YtepeepipgkejiadGreatDoor
open Go.ChangeShapes Go.WideShapes Go.RowKit
set_option linter.unusedVariables false

def laids : List (String × DataW Unit) := Rows.treeGrownRow.laid
def lay (i : Nat) : String × DataW Unit := (laids[i]?).getD ("", .nil)

theorem laid_mem {P : Program} {w : World} : ∀ {l : List (String × DataW Unit)} {ps : List MemPlace}, DataW.LaidVars P w l ps → ∀ x ∈ l, ∃ g t cs fuel p, P.globalNamed x.1 = some g ∧ (P.globals[g]?).map (·.type) = some t ∧ w.var? P x.1 = some cs ∧ DataW.trod (fun _ => ()) P w 0 (fun _ => true) false fuel t cs.toList = some (x.2, p) ∧ ∀ y ∈ MemPlace.row ⟨g, 0, none⟩ cs.size ++ p, y ∈ ps
  | [], ps, _, x, hx => by cases hx
  | (n, d) :: r, ps, h, x, hx => by
    obtain ⟨g, t, cs, fuel, p, q, h1, h2, h3, h4, h5, rfl⟩ := h
    rcases List.mem_cons.1 hx with rfl | hx'
    · exact ⟨g, t, cs, fuel, p, h1, h2, h3, h4, fun y hy => List.mem_append.2 (.inl hy)⟩
    · obtain ⟨g', t', cs', fuel', p', a1, a2, a3, a4, a5⟩ := laid_mem h5 x hx'
      exact ⟨g', t', cs', fuel', p', a1, a2, a3, a4, fun y hy => List.mem_append.2 (.inr (a5 y hy))⟩

/-- The name of the errors' type, as the rows have it. -/
def esName : String := match (lay 7).2 with
  | .iface n _ => n
  | _ => ""
theorem esType (u : TypeId) (h : Tryz.prog.typeName? 3 u = some esName) : u = 242 :=
  typeName_ptr_named (P := Tryz.prog) (nm := "errors.errorString") (by kernel_rfl) (by kernel_rfl) (by decide) u (h.trans (by kernel_rfl))

set_option maxRecDepth 100000 in
/-- One of the errors. -/
theorem err_at {W : World} {l : List (String × DataW Unit)} (h : laidMet Tryz.prog l W) (x : String × DataW Unit) (hx : x ∈ l) (g : Nat) (text : List UInt8) (hg : Tryz.prog.globalNamed x.1 = some g) (ht : (Tryz.prog.globals[g]?).map (·.type) = some 42)
    (hd : x.2 = .iface esName (.ptr (.agg [.lit (.string text)]))) :
    ∃ a s, W.cell? ⟨g, 0, none⟩ = some (errV a) ∧ W.cell? a = some (.string s) ∧ s.data.toList = text ∧ ∃ c t, W.heap[a.block]? = some (.cells c t (0, 0)) := by
  obtain ⟨ps, hl, hnd, hall⟩ := h
  obtain ⟨g', t, cs, fuel, p, a1, a2, a3, a4, a5⟩ := laid_mem hl x hx
  obtain rfl := Option.some.inj (hg.symm.trans a1)
  obtain rfl := Option.some.inj (ht.symm.trans a2)
  rw [hd] at a4
  obtain ⟨a, s, hcs, hc, hs, _, hp⟩ := errorString_of_trod (P := Tryz.prog) (tp := 242) (te := 244) (ts := 9) Tryz.underlying42 esType Tryz.underlying242 Tryz.underlying244 rfl rfl Tryz.underlying9 (by kernel_rfl) (by kernel_rfl) a4
    (fun u v e => by
      have hsz : cs.size = 1 := by have := congrArg List.length e; simpa using this
      have hcell := World.var?_cell hg a3 0
      have e0 : cs[0]? = some (.iface u v) := by rw [← Array.getElem?_toList, e]; rfl
      exact (hall g 0 (a5 _ (List.mem_append.2 (.inl (by rw [hsz]; simp [MemPlace.row]))))).2 u v (by rw [hcell, e0]))
  refine ⟨a, s, ?_, hc, hs, ?_⟩
  · rw [World.var?_cell hg a3 0, ← Array.getElem?_toList, hcs]; rfl
  · exact (hall a.block a.off (a5 _ (List.mem_append.2 (.inr (by rw [hp]; simp [MemPlace.row]))))).1

/-- A row of texts. -/
theorem cells_of_strs {P : Program} {w : World} {fuel : Nat} {t e : TypeId} {n : Nat} {cs : List Value} {zs : List (List UInt8)} {p : List MemPlace}
    (ht : P.underlying t = some (.array n e)) (he : P.underlying e = some .string) (hce : P.cellsOf e = 1) (hct : P.cellsOf t = n)
    (h : DataW.trod (fun _ => ()) P w 0 (fun _ => true) false fuel t cs = some (.agg (zs.map fun z => .lit (.string z)), p)) : ∀ (i : Nat) z, zs[i]? = some z → cs[i]? = some (.string ⟨z.toArray⟩) := by
  cases fuel with
  | zero => simp [DataW.trod] at h
  | succ fuel =>
    simp only [DataW.trod, ht, hce, hct, Nat.mul_one] at h
    split at h
    · rename_i hl
      obtain ⟨xs, hm, hx⟩ := Option.map_eq_some_iff.1 h
      have hxs : xs.map (·.1) = zs.map fun z => (DataW.lit (.string z) : DataW Unit) := by
        have := congrArg Prod.fst hx
        simpa using this
      have hxl : xs.length = n := by simpa using Lib.mapM_length hm
      have hzl : zs.length = n := by
        have := congrArg List.length hxs
        simp at this
        omega
      intro i z hz
      have hi : i < n := by have := (List.getElem?_eq_some_iff.1 hz).1; omega
      obtain ⟨b, hb, hf⟩ := Lib.mapM_at hm i i (by simp [hi])
      obtain ⟨s, hc, rfl, _⟩ := DataW.trod_string he hf
      have h1 : cs[i]? = some (.string s) := by
        have := congrArg (·[0]?) hc
        simpa [List.getElem?_take, List.getElem?_drop] using this
      have h2 : (xs.map (·.1))[i]? = some (DataW.lit (.string s.data.toList) : DataW Unit) := by simp [hb]
      rw [hxs, List.getElem?_map, hz] at h2
      have h3 : z = s.data.toList := by
        simp only [Option.map_some, Option.some.injEq, DataW.lit.injEq, Lit.string.injEq] at h2
        exact h2
      rw [h1, h3]
    · cases h

/-- The texts of the seven. -/
def txOf : DataW Unit → List UInt8
  | .iface _ (.ptr (.agg [.lit (.string z)])) => z
  | _ => []
def tx (c : Nat) : List UInt8 := txOf (lay (c + 6)).2
theorem tx_inj (c d : Nat) (h1 : 1 ≤ c) (h2 : c ≤ 7) (h3 : 1 ≤ d) (h4 : d ≤ 7) (h : c ≠ d) : tx c ≠ tx d := by
  have key : ((List.range 8).all fun c => (List.range 8).all fun d => c == d || c == 0 || d == 0 || tx c != tx d) = true := by kernel_rfl
  have k1 := List.all_eq_true.1 (List.all_eq_true.1 key c (List.mem_range.2 (by omega))) d (List.mem_range.2 (by omega))
  intro he
  rw [he] at k1
  simp at k1
  omega
theorem lt_of_cell {W : World} {g : Nat} (h : W.cell? ⟨g, 0, none⟩ ≠ none) : g < W.heap.size := by
  by_cases e : g < W.heap.size
  · exact e
  · exact absurd (by simp [World.cell?, Array.getElem?_eq_none (Nat.le_of_not_lt e)]) h

theorem lay_in (i : Nat) (h : laids[i]? = some (lay i)) (hn : ((lay i).2.handleName?).isNone = true) : lay i ∈ laids.filter fun x => x.2.handleName?.isNone := List.mem_filter.2 ⟨List.mem_of_getElem? h, hn⟩

theorem kn_of_laid {W : World} (h : laidMet Tryz.prog (laids.filter fun x => x.2.handleName?.isNone) W) : Kn W := by
  obtain ⟨ps, hl, hnd, hall⟩ := h
  obtain ⟨g, t, cs, fuel, p, a1, a2, a3, a4, a5⟩ := laid_mem hl (lay 6) (lay_in 6 (by kernel_rfl) (by kernel_rfl))
  have hg : Tryz.prog.globalNamed (lay 6).1 = some 6 := by kernel_rfl
  have ht : (Tryz.prog.globals[6]?).map (·.type) = some 87 := by kernel_rfl
  obtain rfl := Option.some.inj (hg.symm.trans a1)
  obtain rfl := Option.some.inj (ht.symm.trans a2)
  have hd : (lay 6).2 = .agg ((kindsL.map fun b => b.data.toList).map fun z => .lit (.string z)) := by kernel_rfl
  rw [hd] at a4
  have key := cells_of_strs (P := Tryz.prog) Tryz.underlying87 Tryz.underlying9 (by kernel_rfl) (by kernel_rfl) a4
  have hkl : kindsL.length = 7 := by decide
  intro j hj
  have hk : kindsL[j]? = some (kindsL[j]'(by omega)) := List.getElem?_eq_getElem _
  rw [World.var?_cell hg a3 j, ← Array.getElem?_toList, key j ((kindsL[j]'(by omega)).data.toList) (by rw [List.getElem?_map, hk]; rfl), hk]
  rfl

theorem ert_of_laid {W : World} (h : handlesMet Tryz.prog (laids.filter fun x => x.2.handleName?.isSome) W) : ErT W := by
  have hm : lay 3 ∈ laids.filter fun x => x.2.handleName?.isSome := List.mem_filter.2 ⟨List.mem_of_getElem? (by kernel_rfl : laids[3]? = some (lay 3)), by kernel_rfl⟩
  have h3 := h (lay 3) hm
  have hf : (lay 3).2.funcsIn? = none := by kernel_rfl
  rw [hf] at h3
  obtain ⟨name, u, ty, e1, e2, e3, e4, e5⟩ := h3
  have en : name = [101, 114, 114, 111, 114] := Option.some.inj (e1.symm.trans (by kernel_rfl : (lay 3).2.handleName? = some [101, 114, 114, 111, 114]))
  subst en
  obtain rfl : 127 = u := Option.some.inj (Eq.trans (by kernel_rfl) e2)
  have hone : ((List.range Tryz.prog.types.size).filter fun t => Tryz.prog.rowNamed t [101, 114, 114, 111, 114]) = [42] := by kernel_rfl
  have hmem : ty ∈ (List.range Tryz.prog.types.size).filter fun t => Tryz.prog.rowNamed t [101, 114, 114, 111, 114] := List.mem_filter.2 ⟨List.mem_range.2 e3, e4⟩
  rw [hone] at hmem
  obtain rfl := List.mem_singleton.1 hmem
  have hh : typeHandle Tryz.prog 42 = .pointer (some ⟨15, 42, none⟩) := by kernel_rfl
  rw [hh] at e5
  have hg : Tryz.prog.globalNamed (lay 3).1 = some 7 := by kernel_rfl
  have hc := World.var?_cell hg e5 0
  refine ⟨?_, by rw [hc]; rfl⟩
  have : W.cell? ⟨7, 0, none⟩ ≠ none := by rw [hc]; simp
  exact lt_of_cell this

theorem glo_of_laid {W : World} (h : laidMetH Tryz.prog laids W) : ∃ E, Glo W E ∧ Apart W E ∧ ErT W := by
  obtain ⟨hd, hh⟩ := laidMetH_iff.1 h
  obtain ⟨a1, s1, g1, t1, x1, b1⟩ := err_at hd (lay 7) (lay_in 7 (by kernel_rfl) (by kernel_rfl)) 0 _ (by kernel_rfl) (by kernel_rfl) (by rfl)
  obtain ⟨a2, s2, g2, t2, x2, b2⟩ := err_at hd (lay 8) (lay_in 8 (by kernel_rfl) (by kernel_rfl)) 8 _ (by kernel_rfl) (by kernel_rfl) (by rfl)
  obtain ⟨a3, s3, g3, t3, x3, b3⟩ := err_at hd (lay 9) (lay_in 9 (by kernel_rfl) (by kernel_rfl)) 1 _ (by kernel_rfl) (by kernel_rfl) (by rfl)
  obtain ⟨a4, s4, g4, t4, x4, b4⟩ := err_at hd (lay 10) (lay_in 10 (by kernel_rfl) (by kernel_rfl)) 2 _ (by kernel_rfl) (by kernel_rfl) (by rfl)
  obtain ⟨a5, s5, g5, t5, x5, b5⟩ := err_at hd (lay 11) (lay_in 11 (by kernel_rfl) (by kernel_rfl)) 3 _ (by kernel_rfl) (by kernel_rfl) (by rfl)
  obtain ⟨a6, s6, g6, t6, x6, b6⟩ := err_at hd (lay 12) (lay_in 12 (by kernel_rfl) (by kernel_rfl)) 4 _ (by kernel_rfl) (by kernel_rfl) (by rfl)
  obtain ⟨a7, s7, g7, t7, x7, b7⟩ := err_at hd (lay 13) (lay_in 13 (by kernel_rfl) (by kernel_rfl)) 5 _ (by kernel_rfl) (by kernel_rfl) (by rfl)
  obtain ⟨a8, s8, g8, _⟩ := err_at hd (lay 5) (lay_in 5 (by kernel_rfl) (by kernel_rfl)) 11 _ (by kernel_rfl) (by kernel_rfl) (by rfl)
  have hsz : 11 < W.heap.size := lt_of_cell (by rw [g8]; simp)
  have hne : ∀ (a b : Addr) (s t : ByteArray), W.cell? a = some (.string s) → W.cell? b = some (.string t) → s.data.toList ≠ t.data.toList → a ≠ b := fun a b s t h1 h2 h3 e => by
    subst e
    rw [h1] at h2
    injection h2 with h2
    injection h2 with h2
    exact h3 (by rw [h2])
  let E : Nat → Addr := fun c => match c with
    | 1 => a1
    | 2 => a2
    | 3 => a3
    | 4 => a4
    | 5 => a5
    | 6 => a6
    | _ => a7
  refine ⟨E, ⟨hsz, kn_of_laid hd, g1, g2, g3, g4, g5, g6, g7⟩, ⟨fun c h1 h2 => ?_, fun c d h1 h2 h3 h4 hcd => ?_⟩, ert_of_laid hh⟩
  · have : c = 1 ∨ c = 2 ∨ c = 3 ∨ c = 4 ∨ c = 5 ∨ c = 6 ∨ c = 7 := by omega
    rcases this with rfl | rfl | rfl | rfl | rfl | rfl | rfl
    · exact b1
    · exact b2
    · exact b3
    · exact b4
    · exact b5
    · exact b6
    · exact b7
  · have hS : ∀ c, 1 ≤ c → c ≤ 7 → ∃ s, W.cell? (E c) = some (.string s) ∧ s.data.toList = tx c := fun c h1 h2 => by
      have : c = 1 ∨ c = 2 ∨ c = 3 ∨ c = 4 ∨ c = 5 ∨ c = 6 ∨ c = 7 := by omega
      rcases this with rfl | rfl | rfl | rfl | rfl | rfl | rfl
      · exact ⟨s1, t1, x1⟩
      · exact ⟨s2, t2, x2⟩
      · exact ⟨s3, t3, x3⟩
      · exact ⟨s4, t4, x4⟩
      · exact ⟨s5, t5, x5⟩
      · exact ⟨s6, t6, x6⟩
      · exact ⟨s7, t7, x7⟩
    obtain ⟨s, u1, u2⟩ := hS c h1 h2
    obtain ⟨t, v1, v2⟩ := hS d h3 h4
    exact hne _ _ s t u1 v1 (by rw [u2, v2]; exact tx_inj c d h1 h2 h3 h4 hcd)

end Go.Proofs.YtepeepipgkejiadGreatDoor

namespace Go.Proofs.YtepeepipgkejiadGreatDoor.treeParses
open Go.ChangeShapes Go.WideShapes Go.ChangeAt Go.RowKit
open Go.ChangeMaps (open_string shut_string)
set_option linter.unusedVariables false

theorem own : ownKnob Tryz.prog.godebug = none := by kernel_rfl
theorem laidOut : laidOutB Tryz.prog = true := by kernel_rfl

set_option maxRecDepth 100000 in
theorem contract (H : Type) (enc : TypeId × Value → H) (W : World) (base : Nat) (args : Array Value) (ds gs : List (DataW H)) (before : List MemPlace)
    (hval : ∀ (j : Nat) t v, Tryz.f3.params[j]? = some t → args[j]? = some v → Value.okWide Tryz.prog W .any base t v)
    (hW : DataW.Whole enc Tryz.prog Tryz.f3.params.toList Rows.treeParsesSpec.vars false W args.toList ds gs before) (hL : laidMetH Tryz.prog Rows.treeParsesRow.laid W) :
    Calls Tryz.prog 3 args W fun e W' => ∃ v, e = .returned v ∧ Rows.treeParsesSpec.post enc Tryz.prog Tryz.f3 false true false false W args v W' := by
  have hW' := hW
  obtain ⟨p, q, hA0, hV, rfl, hfz, hnd⟩ := hW
  have hA : DataW.TrodAll enc Tryz.prog W 0 (fun _ => true) true Tryz.f3.params.toList args.toList ds p := hA0
  rw [Tryz.params3] at hA hval
  obtain ⟨v0, vs0, d0, ds0, p0, q0, hargs, rfl, rfl, h0, r0⟩ := trodAll_cons hA
  obtain ⟨rfl, rfl, rfl⟩ := trodAll_nil r0
  obtain rfl : args = #[v0] := by cases args; simp_all
  obtain ⟨rfl, rfl⟩ := trodVars_none hV
  obtain ⟨s0, rfl, rfl, rfl, m0⟩ := open_string Tryz.underlying9 (hval 0 9 v0 rfl rfl) h0
  clear hA0
  simp only [List.append_nil] at hW'
  obtain ⟨E, hG, hAp, hT⟩ := glo_of_laid (W := W) hL
  refine (parses_walk s0 E W hG hAp hT).mono fun e W' ⟨he, bel⟩ => ?_
  subst he
  exact ⟨_, rfl, _, _, _, [], [], [], hW', trodAll_mk1 (shut_bool Tryz.underlying4 _), (trodAll_cons_mk (shut_string Tryz.underlying9 m0) trodAll_mk0), rfl, bel.frame _, fun h => by cases h⟩

/-- For the witness: a world whose variables hold what their initialisers lay. -/
def handled : Obj → Obj
  | .cells _ t frozen => .cells #[.iface 127 (.agg #[.pointer (some ⟨15, 42, none⟩)])] t frozen
  | o => o
def withHandle (w : World) : World := { w with heap := w.heap.modify 7 handled }
theorem laid_met (os : Os) : laidMetH Tryz.prog Rows.treeParsesRow.laid (((withHandle (World.holding Tryz.prog os ⟨#[], #[], []⟩)).layVars Tryz.prog (laids.filter fun x => x.2.handleName?.isNone)).forCall (fun _ _ => 0) ⟨#[], #[.string ⟨#[]⟩], []⟩).memory := by
  refine laidMetH_of_parts ?_ (by kernel_rfl)
  have hd : laidMet Tryz.prog (laids.filter fun x => x.2.handleName?.isNone) ((withHandle (World.holding Tryz.prog os ⟨#[], #[], []⟩)).layVars Tryz.prog (laids.filter fun x => x.2.handleName?.isNone)) := by
    have e1 : ((laids.filter fun x => x.2.handleName?.isNone).filter fun x => ((laids.filter fun x => x.2.handleName?.isNone).map (·.1)).contains x.1) = laids.filter fun x => x.2.handleName?.isNone := List.filter_eq_self.2 fun x hx => List.contains_iff_mem.2 (List.mem_map.2 ⟨x, hx, rfl⟩)
    have e2 : ((laids.filter fun x => x.2.handleName?.isNone).filter fun x => !((laids.filter fun x => x.2.handleName?.isNone).map (·.1)).contains x.1) = [] := List.filter_eq_nil_iff.2 fun x hx => by rw [List.contains_iff_mem.2 (List.mem_map.2 ⟨x, hx, rfl⟩)]; simp
    exact laidMet_layVars (w0 := withHandle (World.holding Tryz.prog os ⟨#[], #[], []⟩)) ((laids.filter fun x => x.2.handleName?.isNone).map (·.1)) [] (by rw [e1]) (by rw [e1]; kernel_rfl) (by rw [e1]; kernel_rfl) (by rw [e2]; exact LaidIn.none)
  exact hd.of_heap (by simp [World.memory, World.forCall, Input.heap])
theorem reads (os : Os) {H : Type} (enc : TypeId × Value → H) : ∃ places, DataW.whole enc Tryz.prog (((withHandle (World.holding Tryz.prog os ⟨#[], #[], []⟩)).layVars Tryz.prog (laids.filter fun x => x.2.handleName?.isNone)).forCall (fun _ _ => 0) ⟨#[], #[.string ⟨#[]⟩], []⟩).memory Tryz.f3.params.toList Rows.treeParsesSpec.vars false #[Value.string ⟨#[]⟩].toList 8 = some ([.lit (.string [])], [], places) :=
  ⟨[], by kernel_rfl⟩

set_option maxRecDepth 100000 in
theorem lifted (os : Os) (started : os.Started) (H : Type) (enc : TypeId × Value → H) (F : Stop.Interp) :
    ReturnsInHanded {} Tryz.checked os 3 .any ((OpenSpec.ofChange Rows.treeParsesSpec).preRow enc Tryz.prog Tryz.f3 Rows.treeParsesRow.domain false Rows.treeParsesRow.laid) (((OpenSpec.ofChange Rows.treeParsesSpec).at F).post enc Tryz.prog Tryz.f3 false true false false) := by
  obtain ⟨places, hx⟩ := reads os enc
  refine returnsInHanded_of_row (C := Tryz.checked) (s := OpenSpec.ofChange Rows.treeParsesSpec) own started (by kernel_rfl) Tryz.func3
    (witness_row_at (enc := enc) (C := Tryz.checked) false ((withHandle (World.holding Tryz.prog os ⟨#[], #[], []⟩)).layVars Tryz.prog (laids.filter fun x => x.2.handleName?.isNone)) #[.string ⟨#[]⟩] (World.layVars_os _ _ _) (by kernel_rfl) (by kernel_rfl) (by kernel_rfl)
      (OpenSpec.preRow_of_cond 8 hx (by kernel_rfl) (fun k hk => by cases hk) (by kernel_rfl) (laid_met os))) ?_
  intro W base args ds gs before hval hW _ _ _ hL _ _
  exact contract H enc W base args ds gs before hval hW hL

theorem said : Rows.TreeParsesSaid :=
  OpenClaim.holds_of_cond 3 Tryz.f3 rfl rfl rfl rfl rfl rfl rfl ⟨rfl, rfl, rfl, rfl, rfl⟩ rfl rfl rfl rfl rfl (by kernel_rfl) Tryz.func3 (by kernel_rfl)
    (of_decide_eq_true (by kernel_rfl)) (by unfold Func.isWrapper; first | (rw [if_pos (by decide +kernel)]; kernel_rfl) | (rw [if_neg (by decide +kernel)]; exact ⟨rfl, rfl⟩))
    (fun os started H enc _ F => by rw [OpenClaim.pre_eq_preRow]; exact lifted os started H enc F)

theorem plain (f : FuncId) (fn : Func) (hf : Tryz.pinned.checked.prog.funcNamed Rows.treeParsesRow.func = some f) (hfn : Tryz.pinned.checked.prog.funcs[f]? = some fn) :
    true = Tryz.pinned.checked.prog.looks [] ∧ ∀ (j : Nat) t, fn.params[j]? = some t → Tryz.pinned.checked.prog.wantsStandIn t = false := by
  obtain rfl : f = 3 := Option.some.inj ((show Tryz.prog.funcNamed Rows.treeParsesRow.func = some 3 by kernel_rfl).symm.trans hf) |>.symm
  obtain rfl : fn = Tryz.f3 := (Option.some.inj (Tryz.func3.symm.trans hfn)).symm
  refine ⟨by kernel_rfl, fun j t ht => ?_⟩
  rw [Tryz.params3] at ht
  obtain rfl : t = 9 := by have := Array.mem_of_getElem? ht; simpa using this
  exact (show Tryz.prog.wantsStandIn 9 = false by kernel_rfl)

theorem proved : Rows.TreeParsesCardSaid :=
  Claim7.holds_tied_plain_at .later [] _ _ _ _ said (fun _ h => by cases h) (by kernel_rfl) (fun _ h => by cases h) treeParses_row_tie rfl ⟨rfl, rfl⟩ (by kernel_rfl) rfl plain (by kernel_rfl)
#print axioms proved
end Go.Proofs.YtepeepipgkejiadGreatDoor.treeParses
