/-
  paneref.Codes, StyleCodes.
-/
import Derived.Test.YtepkoiijdckcnafDoorYRef
namespace Go.Proofs.YtepkoiijdckcnafDoor
open Go.RowKit Go.Sort
set_option linter.unusedVariables false

/-- What paneref.Codes has written behind so many numbers. -/
def part (ns : List Int) (k : Nat) : List UInt8 := [27, 91] ++ Lib.join ((ns.take k).map dc) [59]
theorem join_snoc (l : List (List UInt8)) (a : List UInt8) (s : List UInt8) : Lib.join (l ++ [a]) s = if l = [] then a else Lib.join l s ++ (s ++ a) := by
  cases l with
  | nil => simp [Lib.join_cons, Lib.joinTail]
  | cons b r =>
    rw [if_neg (by simp), List.cons_append, Lib.join_cons, Lib.join_cons]
    unfold Lib.joinTail
    simp [List.map_append, List.flatten_append]
theorem part_first (ns : List Int) (h : 0 < ns.length) : part ns 1 = [27, 91] ++ dc (ns[0]?.getD 0) := by
  cases ns with
  | nil => simp at h
  | cons a r => unfold part; simp [Lib.join_cons, Lib.joinTail]
theorem part_next {ns : List Int} {k : Nat} (h : k < ns.length) (hk : 0 < k) : part ns (k + 1) = part ns k ++ [59] ++ dc (ns[k]?.getD 0) := by
  unfold part
  rw [List.take_succ_eq_append_getElem h, List.map_append, List.map_singleton, join_snoc, if_neg (fun e => by have := congrArg List.length e; rw [List.length_map, List.length_take] at this; have h2 : min k ns.length = 0 := this; omega), List.getElem?_eq_getElem h]
  simp
theorem part_len {ns : List Int} (hs : Small ns) (k : Nat) : (part ns k).length ≤ 2 + 3 * ns.length := by
  unfold part
  have := join_len (ns.take k) (fun n hn => hs n (List.mem_of_mem_take hn))
  have h2 := List.length_take_le k ns
  have h3 : (ns.take k).length ≤ ns.length := by rw [List.length_take]; omega
  simp only [List.length_append, List.length_cons, List.length_nil]
  omega
theorem part_all (ns : List Int) : part ns ns.length ++ [109] = sq ns := by
  unfold part sq; rw [List.take_length, List.append_assoc]
theorem row_len {w : World} {B : Nat} {v : Value} {n : Nat} {xs : List Value} (h : w.ownsRow B 3 1 v n xs) : ∃ a cap, v = .slice a n cap := by
  rcases h.2 with ⟨rfl, rfl⟩ | ⟨g, cap, cur, rfl, _⟩
  · exact ⟨none, 0, rfl⟩
  · exact ⟨_, cap, rfl⟩

set_option maxRecDepth 100000 in
set_option maxHeartbeats 8000000 in
theorem rCodes_any (f g b f2 g2 b2 : Int) (w : World) : Calls Tryd.prog 6 #[sv f g b, sv f2 g2 b2] w fun e w' => e = .returned (.string ⟨(cds (nms (kn f) (kn g) (bo b) (kn f2) (kn g2) (bo b2))).toArray⟩) ∧ Below w.heap.size w w' := by
  have NU : Hid (∀ w, Calls Tryd.prog 10 #[sv f g b, sv f2 g2 b2] w fun e w' => ∃ v, e = .returned v ∧ w'.ownsRow w.heap.size 3 1 v (nms (kn f) (kn g) (bo b) (kn f2) (kn g2) (bo b2)).length ((nms (kn f) (kn g) (bo b) (kn f2) (kn g2) (bo b2)).map (Value.int .i64)) ∧ Below w.heap.size w w') := rNumbers_any f g b f2 g2 b2
  have DC : Hid (∀ n w, 0 ≤ n ∧ n < 100 → Calls Tryd.prog 11 #[.int .i64 n] w fun e w' => e = .returned (.string ⟨(dc n).toArray⟩) ∧ Gr w w') := fun n w h => decimal_any n h w
  have HSm : Hid (Small (nms (kn f) (kn g) (bo b) (kn f2) (kn g2) (bo b2))) := nms_small (kn_bd f2) (kn_bd g2)
  have hl4 := nms_len (kn f) (kn g) (bo b) (kn f2) (kn g2) (bo b2)
  generalize nms (kn f) (kn g) (bo b) (kn f2) (kn g2) (bo b2) = L at *
  unfold sv at NU ⊢
  go_enter Tryd.func6, Tryd.ntmps6
  go_wp2_with fail
  refine Calls.mono (NU.out _) ?_
  rintro e w1 ⟨v, rfl, ho, hb⟩
  obtain ⟨a, cap, rfl⟩ := row_len ho
  have HO : Hid (w1.ownsRow w.heap.size 3 1 (.slice a L.length cap) L.length (L.map (Value.int .i64)) ∧ Below w.heap.size w w1) := ⟨ownsRow_low ho (by simp only [World.size_alloc]; omega), (((Gr.refl w).alloc _).alloc _).below.trans (hb.mono (by simp only [World.size_alloc]; omega))⟩
  clear ho hb NU
  by_cases h0 : L.length = 0
  · have hL : L = [] := List.length_eq_zero_iff.1 h0
    subst hL
    go_wp2
    go_ret
    exact ⟨rfl, HO.out.2⟩
  · have hp : 0 < L.length := by omega
    obtain ⟨B, hB⟩ : ∃ B, a = some ⟨B, 0, none⟩ := by
      rcases HO.out.1.2 with ⟨_, h2⟩ | ⟨g', cap', cur, h1, _⟩
      · omega
      · injection h1 with h1; exact ⟨g', h1⟩
    subst hB
    obtain ⟨g', cap', e1, ltB, _, hcell⟩ := row_open HO.out.1 hp
    injection e1 with e1 _ e2
    injection e1 with e1
    injection e1 with e1
    subst e1
    have HCE : Hid (∀ j, j < L.length → w1.cell? ⟨B, 0 + j, none⟩ = some (.int .i64 (L[j]?.getD 0))) := hcell
    have LTB : Hid (B < w1.heap.size) := ltB
    clear hcell ltB e2
    have n0 : ((L.length : Int) == 0) = false := by rw [beq_eq_false_iff_ne]; omega
    go_wp2_with fail
    go_loopw [6, 7] (fun ov iv wr => ∃ k : Nat, k ≤ L.length ∧ iv = .int .i64 k ∧ ov = .string ⟨(part L k).toArray⟩ ∧ Hid (Gr w1 wr)) (fun _ iv _ => L.length - (intOf iv).toNat)
    case atStart => exact ⟨0, Nat.zero_le _, rfl, rfl, Gr.refl w1⟩
    case round =>
      obtain ⟨k, hk, rfl, rfl, HG⟩ := hrel
      have pl := part_len HSm.out k
      by_cases hlt : k < L.length
      · obtain ⟨n, hn⟩ : ∃ q, L[k]?.getD 0 = q := ⟨_, rfl⟩
        have hnm : 0 ≤ n ∧ n < 100 := by rw [← hn, List.getElem?_eq_getElem hlt]; exact HSm.out _ (List.getElem_mem hlt)
        have hcx : wr.cell? ⟨B, 0 + k, none⟩ = some (.int .i64 n) := by rw [← hn]; exact (World.cell?_of_block (a := ⟨B, 0 + k, none⟩) (HG.out.block LTB.out)).trans (HCE.out k hlt)
        rw [Nat.zero_add] at hcx
        have hlt' : (k : Int) < (L.length : Int) := by omega
        have D1 := DC.out n wr hnm
        have dl := dc_len hnm
        by_cases hk0 : k = 0
        · subst hk0
          have HP1 : Hid (part L 1 = [27, 91] ++ dc n) := by show _ = _; rw [part_first L hp, hn]
          have HP0 : Hid (part L 0 = [27, 91]) := rfl
          rw [HP0.out]
          generalize dc n = D at *
          have j1 : ¬ 9223372036854775807 < 2 + D.length := by omega
          clear hn
          go_wp2_with (go_at_call 11; refine Calls.mono D1 ?_; rintro e w2 ⟨rfl, g2⟩; have G2 : Hid (Gr w1 w2) := HG.out.trans g2; clear g2)
          go_roundw
          case rel => exact ⟨1, by omega, by go_num, by rw [HP1.out]; exact congrArg Value.string (str_app [27, 91] D), G2⟩
          case measure => simp [intOf]; omega
        · have HP1 : Hid (part L (k + 1) = part L k ++ [59] ++ dc n) := by show _ = _; rw [part_next hlt (by omega), hn]
          have hk' : (0 : Int) < (k : Int) := by omega
          generalize dc n = D at *
          generalize part L k = P at *
          have j1 : ¬ 9223372036854775807 < P.length + 1 := by omega
          have j2 : ¬ 9223372036854775807 < P.length + 1 + D.length := by omega
          clear hn
          go_wp2_with (go_at_call 11; refine Calls.mono D1 ?_; rintro e w2 ⟨rfl, g2⟩; have G2 : Hid (Gr w1 w2) := HG.out.trans g2; clear g2)
          go_roundw
          case rel => exact ⟨k + 1, by omega, by go_num, by rw [HP1.out]; refine congrArg Value.string ?_; (show (⟨P.toArray⟩ : ByteArray) ++ (⟨[59].toArray⟩ : ByteArray) ++ (⟨D.toArray⟩ : ByteArray) = _; rw [str_app, str_app]), G2⟩
          case measure => simp [intOf]; omega
      · have hlt' : ¬ (k : Int) < (L.length : Int) := by omega
        obtain rfl : k = L.length := by omega
        have HA : Hid (part L L.length ++ [109] = sq L) := part_all L
        generalize part L L.length = P at *
        have j1 : ¬ 9223372036854775807 < P.length + 1 := by omega
        go_wp2
        go_ret
        refine ⟨?_, HO.out.2.trans (HG.out.below.mono HO.out.2.size)⟩
        unfold cds
        rw [if_neg (fun e => h0 (by rw [e]; rfl)), ← HA.out, ← str_app]
        rfl

set_option maxRecDepth 100000 in
set_option maxHeartbeats 8000000 in
theorem codes_walk (f g b f2 g2 b2 : Int) (w : World) : Calls Tryd.prog 3 #[sv f g b, sv f2 g2 b2] w fun e w' => e = .returned (.bool true) ∧ Below w.heap.size w w' := by
  have CO : Hid (∀ w, Calls Tryd.prog 4 #[sv f g b, sv f2 g2 b2] w fun e w' => e = .returned (.string ⟨(cds (nms (kn f) (kn g) (bo b) (kn f2) (kn g2) (bo b2))).toArray⟩) ∧ Below w.heap.size w w') := codes_any f g b f2 g2 b2
  have RC : Hid (∀ w, Calls Tryd.prog 6 #[sv f g b, sv f2 g2 b2] w fun e w' => e = .returned (.string ⟨(cds (nms (kn f) (kn g) (bo b) (kn f2) (kn g2) (bo b2))).toArray⟩) ∧ Below w.heap.size w w') := rCodes_any f g b f2 g2 b2
  have LA : Hid (∀ w, Calls Tryd.prog 5 #[sv f g b] w fun e w' => e = .returned (sv f g b) ∧ Gr w w') := look_any f g b
  have LB : Hid (∀ w, Calls Tryd.prog 5 #[sv f2 g2 b2] w fun e w' => e = .returned (sv f2 g2 b2) ∧ Gr w w') := look_any f2 g2 b2
  generalize cds (nms (kn f) (kn g) (bo b) (kn f2) (kn g2) (bo b2)) = L at *
  unfold sv at CO RC LA LB ⊢
  obtain ⟨S, hS⟩ : ∃ z, w.heap.size = z := ⟨_, rfl⟩
  have HS : Hid (w.heap.size = S) := hS
  obtain ⟨W0, hW0⟩ : ∃ q, (w.alloc (.cells #[.int .i64 f, .int .i64 g, .int .i64 b] 23)).alloc (.cells #[.int .i64 f2, .int .i64 g2, .int .i64 b2] 23) = q := ⟨_, rfl⟩
  have G0 : Hid (Gr w W0) := by rw [← hW0]; exact ((Gr.refl w).alloc _).alloc _
  have RR : Hid (R3 23 W0 S f g b ∧ R3 23 W0 (S + 1) f2 g2 b2) := by
    rw [← hW0, ← hS]
    refine ⟨(R3.new w _ _ _ _).gr ((Gr.refl _).alloc _), ?_⟩
    have := R3.new (w.alloc (.cells #[.int .i64 f, .int .i64 g, .int .i64 b] 23)) f2 g2 b2 23
    simp only [World.size_alloc] at this
    exact this
  have a0 := RR.out.1.c0
  have a1 := RR.out.1.c1
  have a2 := RR.out.1.c2
  have c0 := RR.out.2.c0
  have c1 := RR.out.2.c1
  have c2 := RR.out.2.c2
  go_enter Tryd.func3, Tryd.ntmps3
  go_wp2_with fail
  clear hW0 hS
  go_cut [5] from 6 to 10 (fun s wx => s = .string ⟨L.toArray⟩ ∧ Hid (Below W0.heap.size W0 wx))
  case first =>
    have S6 : True := trivial
    go_region_held (fun W_ => W_.cell? ⟨S, 0, none⟩ = some (.int .i64 f) ∧ W_.cell? ⟨S, 1, none⟩ = some (.int .i64 g) ∧ W_.cell? ⟨S, 2, none⟩ = some (.int .i64 b) ∧ W_.cell? ⟨S + 1, 0, none⟩ = some (.int .i64 f2) ∧ W_.cell? ⟨S + 1, 1, none⟩ = some (.int .i64 g2) ∧ W_.cell? ⟨S + 1, 2, none⟩ = some (.int .i64 b2)) (go_keep) (first | (go_at_call 5; (first | (with_reducible refine Calls.mono (LA.out _) ?_) | (with_reducible refine Calls.mono (LB.out _) ?_)); rintro e wn ⟨rfl, hgn⟩; have HGn : Hid (Gr W0 wn) := (by first | exact ((Gr.refl W0).drew).trans hgn | exact Gr.trans (Hid.out (by assumption)) hgn); clear hgn; have m0 := (RR.out.1.gr HGn.out).c0; have m1 := (RR.out.1.gr HGn.out).c1; have m2 := (RR.out.1.gr HGn.out).c2; have n0 := (RR.out.2.gr HGn.out).c0; have n1 := (RR.out.2.gr HGn.out).c1; have n2 := (RR.out.2.gr HGn.out).c2) | (go_at_call 4; (with_reducible refine Calls.mono (CO.out _) ?_); rintro e w9 ⟨rfl, hb9⟩; have HB9 : Hid (Below W0.heap.size W0 w9) := HGn.out.below.trans (hb9.mono HGn.out.size); clear hb9; have m0 := (HB9.out.cell (p := ⟨S, 0, none⟩) RR.out.1.lt).trans a0; have m1 := (HB9.out.cell (p := ⟨S, 1, none⟩) RR.out.1.lt).trans a1; have m2 := (HB9.out.cell (p := ⟨S, 2, none⟩) RR.out.1.lt).trans a2; have n0 := (HB9.out.cell (p := ⟨S + 1, 0, none⟩) RR.out.2.lt).trans c0; have n1 := (HB9.out.cell (p := ⟨S + 1, 1, none⟩) RR.out.2.lt).trans c1; have n2 := (HB9.out.cell (p := ⟨S + 1, 2, none⟩) RR.out.2.lt).trans c2))
    all_goals
      go_wp2_with fail
      go_meet
      exact ⟨rfl, HB9.out⟩
  case rest =>
    obtain ⟨rfl, HB⟩ := hcut
    clear a0 a1 a2 c0 c1 c2
    have a0 := RR.out.1.c0
    have a1 := RR.out.1.c1
    have a2 := RR.out.1.c2
    have c0 := RR.out.2.c0
    have c1 := RR.out.2.c1
    have c2 := RR.out.2.c2
    have m0 := (HB.out.cell (p := ⟨S, 0, none⟩) RR.out.1.lt).trans a0
    have m1 := (HB.out.cell (p := ⟨S, 1, none⟩) RR.out.1.lt).trans a1
    have m2 := (HB.out.cell (p := ⟨S, 2, none⟩) RR.out.1.lt).trans a2
    have n0 := (HB.out.cell (p := ⟨S + 1, 0, none⟩) RR.out.2.lt).trans c0
    have n1 := (HB.out.cell (p := ⟨S + 1, 1, none⟩) RR.out.2.lt).trans c1
    have n2 := (HB.out.cell (p := ⟨S + 1, 2, none⟩) RR.out.2.lt).trans c2
    clear a0 a1 a2 c0 c1 c2
    go_wp2_with (go_at_call 6; refine Calls.mono (RC.out _) ?_; rintro e w8 ⟨rfl, hb8⟩; have HB8 : Hid (Below w.heap.size w w8) := (G0.out.below.trans (HB.out.mono G0.out.size)).trans (hb8.mono (by have := G0.out.size; have := HB.out.size; omega)); clear hb8)
    go_ret
    exact ⟨rfl, HB8.out⟩
end Go.Proofs.YtepkoiijdckcnafDoor
