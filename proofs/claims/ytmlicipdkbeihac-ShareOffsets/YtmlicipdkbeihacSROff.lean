/-
  paneref.Offsets; the walk of ShareOffsets.
-/
import Derived.Test.YtmlicipdkbeihacSOff
namespace Go.Proofs.Ytmlicipdkbeihac
open Go.RowKit Go.Sort
set_option linter.unusedVariables false

structure OSt (w wr : World) (lb ob n k : Nat) (g : Nat → Int) (cg : Int) : Prop where
  len : FRow wr lb 0 n g
  out : FRow wr ob 0 n (fun j => if j < k then offs g cg j else 0)
  bel : Below w.heap.size w wr
theorem OSt.below {w W W' : World} {lb ob n k : Nat} {g : Nat → Int} {cg : Int} (h : OSt w W lb ob n k g cg) (hb : Below W.heap.size W W') : OSt w W' lb ob n k g cg := ⟨h.len.below hb, h.out.below hb, h.bel.trans (hb.mono h.bel.size)⟩
theorem OSt.set {w wr : World} {lb ob n k : Nat} {g : Nat → Int} {cg : Int} (h : OSt w wr lb ob n k g cg) (hk : k < n) (hne : lb < ob) (hB : w.heap.size ≤ ob) : OSt w (wr.setCell ⟨ob, k, none⟩ (.int .i64 (offs g cg k))) lb ob n (k + 1) g cg := by
  have h1 := h.out.set k (offs g cg k) hk
  rw [Nat.zero_add] at h1
  exact ⟨h.len.other _ _ _ (by omega), h1.congr fun j _ => upd_lt (g := fun j => offs g cg j) _ rfl j, h.bel.setCell hB _⟩

set_option maxRecDepth 100000 in
set_option maxHeartbeats 1000000 in
theorem rOff_zero (v : Value) (room gap : Int) (w : World) (p : Option Addr) (C : Calls Try.prog 10 #[.int .i64 room, .int .i64 gap, v] w fun e w' => ∃ q, e = .returned (.slice q 0 0) ∧ Below w.heap.size w w') :
    Calls Try.prog 12 #[.int .i64 room, .int .i64 gap, v] w fun e w' => ∃ q, e = .returned (.slice q 0 0) ∧ Below w.heap.size w w' := by
  have HC : Hid (Calls Try.prog 10 #[.int .i64 room, .int .i64 gap, v] w fun e w' => ∃ q, e = .returned (.slice q 0 0) ∧ Below w.heap.size w w') := C
  have hmk : ∀ u : World, (Instr.makeSlice 25 (.int .i64 0) (.int .i64 0)).run Try.prog u = .ok (.slice (some ⟨u.heap.size, 0, none⟩) 0 0) (u.alloc (.cells (madeCells #[.int .i64 0] 0) 3)) := fun u => run_make_row' (P := Try.prog) 25 3 (.int .i64 0) 8 Try.underlying25 info3row rfl .i64 .i64 0 (by omega) (by omega) u
  clear C
  go_enter Try.func12, Try.ntmps12
  go_wp2_with fail
  refine HC.out.mono ?_
  rintro e w1 ⟨q, rfl, b1⟩
  have HB : Hid (Below w.heap.size w (w1.alloc (.cells (madeCells #[.int .i64 0] 0) 3))) := b1.alloc b1.size _
  clear b1
  go_wp2
  go_loop [9, 10] (fun s i => s = .int .i64 0 ∧ i = .int .i64 0) (fun _ _ => 0)
  case atStart => exact ⟨rfl, rfl⟩
  case round =>
    obtain ⟨rfl, rfl⟩ := hrel
    go_wp2
    go_ret
    exact ⟨⟨_, rfl⟩, HB.out⟩

set_option maxRecDepth 100000 in
set_option maxHeartbeats 4000000 in
theorem rOff_some (n blk off cap : Nat) (a b c : Nat → Int) (room gap : Int) (w : World) (h : WRow w blk off n a b c) (hn0 : 0 < n) (hn : n ≤ 200) (g : Nat → Int) (hsp : SplitIs n (fun j => cl (a j)) (fun j => hMax (a j) (b j)) (fun j => cl (c j)) (rm room gap n) g) :
    Calls Try.prog 12 #[.int .i64 room, .int .i64 gap, .slice (some ⟨blk, off, none⟩) n cap] w fun e w' => ∃ ob, e = .returned (.slice (some ⟨ob, 0, none⟩) n n) ∧ FRow w' ob 0 n (offs g (cl gap)) ∧ Below w.heap.size w w' := by
  have CS : Hid (Calls Try.prog 10 #[.int .i64 room, .int .i64 gap, .slice (some ⟨blk, off, none⟩) n cap] w fun e w' => ∃ ob, e = .returned (.slice (some ⟨ob, 0, none⟩) n n) ∧ w.heap.size ≤ ob ∧ FRow w' ob 0 n g ∧ Below w.heap.size w w') := rSplit_some n blk off cap a b c room gap w h hn0 hn g hsp
  have CC : Hid (∀ w, Calls Try.prog 22 #[.int .i64 gap] w fun e w' => e = .returned (.int .i64 (cl gap)) ∧ w' = w) := fun w => rClamped_any gap w
  have hgb : ∀ j, j < n → 0 ≤ g j ∧ g j ≤ 100000 := fun j hj => by
    have h1 := (hsp.tiles (held_bds a b c)).1 j hj
    have h2 := held_bds a b c j
    omega
  have hcg := cl_bd gap
  obtain ⟨cg, hcge⟩ : ∃ x, cl gap = x := ⟨_, rfl⟩
  rw [hcge] at CC hcg ⊢
  have cg0 := hcg.1
  have cg1 := hcg.2
  have HGB : Hid (∀ j, j < n → 0 ≤ g j ∧ g j ≤ 100000) := hgb
  have HOB : Hid (∀ k, k ≤ n → 0 ≤ offs g cg k ∧ offs g cg k ≤ (k : Int) * 200000) := fun k hk => offs_bd hgb ⟨cg0, cg1⟩ k hk
  have hmk := run_make_row' (P := Try.prog) 25 3 (.int .i64 0) 8 Try.underlying25 info3row rfl .i64 .i64 n (by omega) (by omega)
  clear h hsp hgb hcge hcg
  go_enter Try.func12, Try.ntmps12
  go_wp2_with fail
  refine CS.out.mono ?_
  rintro e w1 ⟨lb, rfl, hlb, hrow, hb1⟩
  have hzl := hrow.1
  have hz1 := hb1.size
  obtain ⟨ob, hob⟩ : ∃ ob, w1.heap.size = ob := ⟨_, rfl⟩
  obtain ⟨w2, hw2⟩ : ∃ w2, w1.alloc (.cells (madeCells #[.int .i64 0] n) 3) = w2 := ⟨_, rfl⟩
  have O0 : Hid (OSt w w2 lb ob n 0 g cg) := by
    have b2 : Below w1.heap.size w1 w2 := by rw [← hw2]; exact (Below.refl _ _).alloc (Nat.le_refl _) _
    refine ⟨hrow.below b2, ⟨by rw [← hw2]; simp; omega, fun j hj => ⟨?_, ?_⟩⟩, hb1.trans (b2.mono hz1)⟩
    · rw [← hw2, World.cell?_alloc_at _ _ _ _ hob.symm]; simp [madeCells, hj, Nat.mod_one]
    · rw [← hw2, World.frozen?_alloc_at _ _ _ _ hob.symm]
  have hlo : lb < ob := by omega
  have hBo : w.heap.size ≤ ob := by omega
  clear hrow hb1 CS
  go_wp2
  go_loopw [9, 10] (fun s i wr => ∃ k : Nat, s = .int .i64 (offs g cg k) ∧ i = .int .i64 k ∧ k ≤ n ∧ Hid (OSt w wr lb ob n k g cg)) (fun _ i _ => n - (intOf i).toNat)
  case atStart => exact ⟨0, rfl, rfl, Nat.zero_le _, O0.out⟩
  case round =>
    obtain ⟨k, rfl, rfl, hk, HO⟩ := hrel
    by_cases hlt : k < n
    · have hlt' : (k : Int) < (n : Int) := by omega
      have hs := HO.out
      have hc := (hs.len.2 k hlt).1
      have hd := hs.out.2 k hlt
      dsimp only at hd
      rw [if_neg (by omega), Nat.zero_add] at hd
      rw [Nat.zero_add] at hc
      have hgk := HGB.out k hlt
      have ho1 := HOB.out k hk
      have hnx := offs_next g cg k
      have HN : Hid (OSt w (wr.setCell ⟨ob, k, none⟩ (.int .i64 (offs g cg k))) lb ob n (k + 1) g cg) := hs.set hlt hlo hBo
      obtain ⟨gk, hgke⟩ : ∃ x, g k = x := ⟨_, rfl⟩
      rw [hgke] at hc hgk hnx
      obtain ⟨o1, ho1e⟩ : ∃ x, offs g cg k = x := ⟨_, rfl⟩
      rw [ho1e] at ho1 hnx HN ⊢
      have HNX : Hid (offs g cg (k + 1) = o1 + gk + cg) := by show _ = _; rw [hnx]; omega
      obtain ⟨d1, d2⟩ := hd
      obtain ⟨gk0, gk1⟩ := hgk
      obtain ⟨o10, o11⟩ := ho1
      have hzb := hs.len.1
      have hzo := hs.out.1
      have wv1 : IntKind.i64.wrap (o1 + gk) = o1 + gk := IntWalk.i64_in _ ⟨by omega, by omega⟩
      have wv2 : IntKind.i64.wrap (o1 + gk + cg) = o1 + gk + cg := IntWalk.i64_in _ ⟨by omega, by omega⟩
      clear hs hgke ho1e hnx HO
      go_wp2_with fail
      go_quiet (first | (go_at_call 22; exact Calls.quiet_of_same (CC.out _)))
      go_wp2
      go_roundw
      case rel => exact ⟨k + 1, by rw [HNX.out], by go_num, by omega, HN.out.below (below_drewN (Below.refl _ _) _)⟩
      case measure => simp [intOf]; omega
    · have hge : ¬ (k : Int) < (n : Int) := by omega
      obtain rfl : n = k := by omega
      have HF : Hid (FRow wr ob 0 n (offs g cg)) := HO.out.out.congr fun j hj => by rw [if_pos hj]
      have HB : Hid (Below w.heap.size w wr) := HO.out.bel
      clear HO
      go_wp2
      go_ret
      exact ⟨_, rfl, HF.out, HB.out⟩

set_option maxRecDepth 100000 in
set_option maxHeartbeats 4000000 in
theorem offsets_walk (v : Value) (n : Nat) (a b c : Nat → Int) (room gap : Int) (w : World) (h : WIn w v n a b c) (hn : n ≤ 5864062014805) :
    Calls Try.prog 4 #[.int .i64 room, .int .i64 gap, v] w fun e w' => e = .returned (.bool true) ∧ Below w.heap.size w w' := by
  have C1 : Hid (Calls Try.prog 6 #[v] w fun e w' => ∃ v, e = .returned v ∧ WVal w.heap.size w' v n a b c ∧ Below w.heap.size w w') := wants_any v n a b c w h hn
  have C2 : Hid (∀ v w, WIn w v n a b c → Calls Try.prog 11 #[.int .i64 room, .int .i64 gap, v] w fun e w' => ∃ v, e = .returned v ∧ OffV w w' v n a b c room gap) := fun v w h => offsets_all v n a b c room gap w h hn
  have CK : Hid (∀ v v2 w, WIn w v n a b c → WIn w v2 n a b c → Calls Try.prog 8 #[v, v2] w fun e w' => e = .returned (.bool true) ∧ Below w.heap.size w w') := fun v v2 w h1 h2 => kept_any n v v2 a b c w h1 h2 hn
  have HI : Hid (WIn w v n a b c) := h
  clear h
  go_enter Try.func4, Try.ntmps4
  go_wp2_with fail
  refine C1.out.mono ?_
  rintro e w1 ⟨v1, rfl, hv1, hb1⟩
  have HI1 : Hid (WIn w1 v1 n a b c) := hv1.win
  have HB1 : Hid (Below w.heap.size w w1) := hb1
  clear hv1 hb1 C1
  go_wp2_with fail
  refine (C2.out v1 w1 HI1.out).mono ?_
  rintro e w2 ⟨v2, rfl, hs⟩
  have HS : Hid (OffV w1 w2 v2 n a b c room gap) := hs
  have HB2 : Hid (Below w.heap.size w w2) := HB1.out.trans (hs.below.mono HB1.out.size)
  have HI2 : Hid (WIn w2 v1 n a b c) := HI1.out.below hs.below
  clear C2 hs HI1
  go_wp2_with fail
  refine (off_two w2).mono ?_
  rintro e w3 ⟨v3, rfl, b3⟩
  have HB3 : Hid (Below w.heap.size w w3) := HB2.out.trans (b3.mono HB2.out.size)
  have HI3 : Hid (WIn w3 v1 n a b c) := HI2.out.below b3
  have HV3 : Hid (WIn w3 v n a b c) := HI.out.below HB3.out
  have HB23 : Hid (Below w2.heap.size w2 w3) := b3
  clear b3 HI2
  go_wp2_with fail
  refine (CK.out v1 v w3 HI3.out HV3.out).mono ?_
  rintro e w4 ⟨rfl, b4⟩
  have HB4 : Hid (Below w.heap.size w w4) := HB3.out.trans (b4.mono HB3.out.size)
  have HV4 : Hid (WIn w4 v n a b c) := HI.out.below HB4.out
  have HB24 : Hid (Below w2.heap.size w2 w4) := HB23.out.trans (b4.mono HB23.out.size)
  clear b4 CK HI3 HV3
  have CB : Hid (Calls Try.prog 12 #[.int .i64 room, .int .i64 gap, v] w4 fun e w' => ∃ v5, e = .returned v5 ∧ (Calls Try.prog 9 #[v2, v5] w' fun e w'' => e = .returned (.bool true) ∧ Below w'.heap.size w' w'') ∧ Below w4.heap.size w4 w') := by
    have hin := HV4.out
    obtain ⟨p, cap, rfl, hp⟩ := hin
    rcases HS.out with ⟨h0, rfl, rfl⟩ | ⟨h1, h2, lb, g, rfl, hrow, hsp, hbel⟩
    · have CZ : Calls Try.prog 10 #[.int .i64 room, .int .i64 gap, .slice p n cap] w4 fun e w' => ∃ q, e = .returned (.slice q 0 0) ∧ Below w4.heap.size w4 w' := by
        rcases h0 with rfl | h0
        · exact rSplit_zero p cap room gap w4
        · exact (rSplit_many p n cap room gap w4 h0 hn).mono fun e w' ⟨he, hw⟩ => ⟨none, he, by rw [hw]; exact Below.refl _ _⟩
      exact (rOff_zero _ room gap w4 none CZ).mono fun e w' ⟨q, he, hb⟩ => ⟨_, he, same_none _ _ _ _ _, hb⟩
    · obtain ⟨gg, off, rfl, hr⟩ := hp.resolve_left (by omega)
      exact (rOff_some n gg off cap a b c room gap w4 hr h1 h2 g hsp).mono fun e w' ⟨ob, he, hrow2, hb⟩ => ⟨_, he, same_some n _ lb n ob n w' ((hrow.below HB24.out).below hb) hrow2 (by omega), hb⟩
  clear HS HB24 HB23
  go_wp2_with fail
  refine CB.out.mono ?_
  rintro e w5 ⟨v5, rfl, hsame, b5⟩
  have HSame : Hid (Calls Try.prog 9 #[v2, v5] w5 fun e w'' => e = .returned (.bool true) ∧ Below w5.heap.size w5 w'') := hsame
  have HB5 : Hid (Below w.heap.size w w5) := HB4.out.trans (b5.mono HB4.out.size)
  clear hsame b5 CB
  go_wp2_with fail
  refine HSame.out.mono ?_
  rintro e w6 ⟨rfl, b6⟩
  have HB6 : Hid (Below w.heap.size w w6) := HB5.out.trans (b6.mono HB5.out.size)
  clear b6
  go_wp2
  go_ret
  exact ⟨rfl, HB6.out⟩

end Go.Proofs.Ytmlicipdkbeihac
