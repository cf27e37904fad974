/-
  StyleApplies, walked.
-/
import Derived.Test.YtepkoiijdckcnagYApr
import Derived.Test.YtepkoiijdckcnagYInt
import Derived.Laws.AppendOwn
import Derived.OwnWalk
namespace Go.Proofs.Ytepkoiijdckcnag
open Go.RowKit Go.Sort
set_option linter.unusedVariables false

theorem info3 : (Try.prog.info? 3).map (fun i => (i.zero, i.size, i.bytes)) = some (some (.int .i64 0), 1, 8) := by kernel_rfl

set_option maxRecDepth 100000 in
set_option maxHeartbeats 4000000 in
/-- The nil list. -/
theorem applies_nil (f g b : Int) (w : World) :
    Calls Try.prog 3 #[sv f g b, .slice none 0 0] w fun e w' => e = .returned (.bool true) ∧ Below w.heap.size w w' := by
  have hap : ∀ u : World, (Builtin.append_ #[24, 24] 24 #[.slice none 0 0, .slice none 0 0]).run Try.prog u = .ok (.slice none 0 0) u := fun _ => by kernel_rfl
  obtain ⟨zs, hzs⟩ : ∃ z : List Int, z = [] := ⟨_, rfl⟩
  have hlz : zs.length ≤ 17592186044416 := by rw [hzs]; simp
  unfold sv
  go_enter Try.func3, Try.ntmps3
  go_wp2_with fail
  obtain ⟨S, hS⟩ : ∃ x, w.heap.size = x := ⟨_, rfl⟩
  obtain ⟨w1, hw1⟩ : ∃ x, w.alloc (.cells #[.int .i64 f, .int .i64 g, .int .i64 b] 23) = x := ⟨_, rfl⟩
  have RA : Hid (R3 23 w1 S f g b) := by rw [← hw1, ← hS]; exact R3.new w _ _ _ _
  have B1 : Hid (Below w.heap.size w w1) := by rw [← hw1]; exact ((Gr.refl w).alloc _).below
  have I1 : Hid (Ints w1 (.slice none 0 0) zs) := by rw [hzs]; exact ⟨none, 0, rfl, .inl rfl⟩
  have O1 : Hid (Ints w1 (.slice none 0 0) zs) := I1
  rw [hw1, hS]
  clear hw1 hS hap
  have LA : Hid (∀ w, Calls Try.prog 9 #[sv f g b] w fun e w' => e = .returned (sv f g b) ∧ Gr w w') := fun w => look_any _ _ _ w
  obtain ⟨c0, hc0⟩ : ∃ z, aplF zs f = z := ⟨_, rfl⟩
  obtain ⟨c1, hc1⟩ : ∃ z, aplG zs g = z := ⟨_, rfl⟩
  obtain ⟨c2, hc2⟩ : ∃ z, aplB zs b = z := ⟨_, rfl⟩
  have LC : Hid (∀ w, Calls Try.prog 9 #[sv c0 c1 c2] w fun e w' => e = .returned (sv c0 c1 c2) ∧ Gr w w') := fun w => look_any _ _ _ w
  have AP : Hid (∀ v w, Ints w v zs → Calls Try.prog 8 #[sv f g b, v] w fun e w' => e = .returned (sv c0 c1 c2) ∧ Gr w w') := fun v w h => by have := apply_any f g b zs v w h hlz; rw [hc0, hc1, hc2] at this; exact this
  have RAP : Hid (∀ v w, Ints w v zs → Calls Try.prog 10 #[sv f g b, v] w fun e w' => e = .returned (sv c0 c1 c2) ∧ Gr w w') := fun v w h => by have := rApply_any f g b zs v w h hlz; rw [hc0, hc1, hc2] at this; exact this
  clear hc0 hc1 hc2
  unfold sv at LA LC AP RAP
  have a0 := RA.out.c0
  have a1 := RA.out.c1
  have a2 := RA.out.c2
  go_wp2_with fail
  refine (LA.out _).mono ?_
  rintro e w2 ⟨rfl, g2⟩
  go_wp2_with fail
  refine (AP.out _ _ (ints_gr I1.out g2)).mono ?_
  rintro e w3 ⟨rfl, g3⟩
  obtain ⟨P, hP⟩ : ∃ z, w3.heap.size = z := ⟨_, rfl⟩
  obtain ⟨w4, hw4⟩ : ∃ z, w3.alloc (.cells #[.int .i64 c0, .int .i64 c1, .int .i64 c2] 25) = z := ⟨_, rfl⟩
  have RP : Hid (R3 25 w4 P c0 c1 c2) := by rw [← hw4, ← hP]; exact R3.new _ _ _ _ _
  have G4 : Hid (Gr w1 w4) := by rw [← hw4]; exact (g2.trans g3).alloc _
  have RA4 : Hid (R3 23 w4 S f g b) := RA.out.gr G4.out
  have I4 : Hid (∀ n' os', Ints (grow (w4.drewN n') os') (.slice none 0 0) zs) := fun n' os' => ints_gr I1.out (G4.out.trans ⟨n', os', rfl⟩)
  have O4 : Hid (∀ n' os', Ints (grow (w4.drewN n') os') (.slice none 0 0) zs) := fun n' os' => ints_gr O1.out (G4.out.trans ⟨n', os', rfl⟩)
  clear g2 g3 a0 a1 a2
  have a0 : ∀ n' os', (grow (w4.drewN n') os').cell? ⟨S, 0, none⟩ = some (.int .i64 f) := cell_grown RA4.out.lt RA4.out.c0
  have a1 : ∀ n' os', (grow (w4.drewN n') os').cell? ⟨S, 1, none⟩ = some (.int .i64 g) := cell_grown RA4.out.lt RA4.out.c1
  have a2 : ∀ n' os', (grow (w4.drewN n') os').cell? ⟨S, 2, none⟩ = some (.int .i64 b) := cell_grown RA4.out.lt RA4.out.c2
  have p0 : ∀ n' os', (grow (w4.drewN n') os').cell? ⟨P, 0, none⟩ = some (.int .i64 c0) := cell_grown RP.out.lt RP.out.c0
  have p1 : ∀ n' os', (grow (w4.drewN n') os').cell? ⟨P, 1, none⟩ = some (.int .i64 c1) := cell_grown RP.out.lt RP.out.c1
  have p2 : ∀ n' os', (grow (w4.drewN n') os').cell? ⟨P, 2, none⟩ = some (.int .i64 c2) := cell_grown RP.out.lt RP.out.c2
  have SM : Hid (∀ n' os', Calls Try.prog 11 #[(.slice none 0 0), (.slice none 0 0)] (grow (w4.drewN n') os') fun e w' => e = .returned (.bool true) ∧ Gr (grow (w4.drewN n') os') w') := fun n' os' => same_yes zs _ _ _ (I4.out n' os') (O4.out n' os') hlz
  go_wp2_with fail
  have hmix : Try.prog.follows .mixedOrders = true := by kernel_rfl
  go_quiet_grown (first | (go_at_call 10; exact Calls.grown_of (RAP.out _ _ (O4.out _ _))) | (go_at_call 9; exact Calls.grown_of (LC.out _)) | (go_at_call 11; exact Calls.grown_of (SM.out _ _)))
  have HF : Hid (Gr w1 (grow (w4.drewN nq) osq)) := G4.out.trans ⟨nq, osq, rfl⟩
  go_wp2
  go_ret
  exact ⟨rfl, B1.out.trans (HF.out.below.mono B1.out.size)⟩

set_option maxRecDepth 100000 in
set_option maxHeartbeats 4000000 in
theorem applies_some (f g b : Int) (x : Addr) (len cap : Nat) (zs : List Int) (w : World) (hl : zs.length = len) (hlen : len ≤ 17592186044416) (hI : Ints w (.slice (some x) len cap) zs) (hc : ∀ i, i < zs.length → w.cell? (x.add i) = some (.int .i64 (zs[i]?.getD 0))) (hxb : 0 < zs.length → x.block < w.heap.size) :
    Calls Try.prog 3 #[sv f g b, .slice (some x) len cap] w fun e w' => e = .returned (.bool true) ∧ Below w.heap.size w w' := by
  obtain ⟨i0, hi, hz0, hz1, hz2⟩ := info_parts info3
  have HC : Hid (∀ i, i < zs.length → w.cell? (x.add i) = some (.int .i64 (zs[i]?.getD 0))) := hc
  have HL : Hid (zs.length = len) := hl
  have HI : Hid (Ints w (.slice (some x) len cap) zs) := hI
  clear hl hc hI
  obtain ⟨S, hS⟩ : ∃ x, w.heap.size = x := ⟨_, rfl⟩
  obtain ⟨w0, hw0⟩ : ∃ x, (w.alloc (.cells #[.int .i64 f, .int .i64 g, .int .i64 b] 23)) = x := ⟨_, rfl⟩
  have RA0 : Hid (R3 23 w0 S f g b) := by rw [← hw0, ← hS]; exact R3.new w _ _ _ _
  have B0 : Hid (Below w.heap.size w w0) := by rw [← hw0]; exact ((Gr.refl w).alloc _).below
  have HC0 : Hid (∀ i, i < zs.length → w0.cell? (x.add i) = some (.int .i64 (zs[i]?.getD 0))) := fun i hi => (B0.out.cell (p := x.add i) (World.block_lt_of_cell? w (x.add i) (HC.out i hi))).trans (HC.out i hi)
  unfold sv
  go_enter Try.func3, Try.ntmps3
  go_wp2_with (at_builtin; refine wpList_append_own _ rfl _ _ 24 rfl w0.heap.size 3 i0 (.int .i64 0) 1 8 Try.underlying24 hi hz0 hz1 hz2 rfl (by decide) _ _ _ rfl (World.ownsRow_nil _ _ _ _) x len cap (zs.map (Value.int .i64)) rfl ?c0 ?c1 ?c2 ?c3 ?c4 ?c5 ?_)
  case c0 => rw [List.length_map, HL.out, Nat.mul_one]
  case c1 =>
    intro j u hj
    rw [List.getElem?_map] at hj
    have hjl : j < zs.length := by
      rcases Nat.lt_or_ge j zs.length with h | h
      · exact h
      · rw [List.getElem?_eq_none h] at hj; cases hj
    first | rw [HC0.out j hjl] | (rw [hw0]; rw [HC0.out j hjl])
    rw [List.getElem?_eq_getElem hjl] at hj ⊢
    exact hj
  case c2 => intro u hu; obtain ⟨z, _, rfl⟩ := List.mem_map.1 hu; rfl
  case c3 => unfold maxLen; omega
  case c4 => omega
  case c5 => first | exact Nat.le_refl _ | (rw [hw0]; exact Nat.le_refl _)
  intro v' w1 hown hg _
  have b1 : Below w0.heap.size w0 w1 := (Below.refl _ _).grown hg (Nat.le_refl _) (fun k hk => by simp [Value.ownBlock] at hk)
  have I1 : Hid (Ints w1 v' zs) := ints_own hown
  have O1 : Hid (Ints w1 (.slice (some x) len cap) zs) := (HI.out.below B0.out).below b1
  have RA : Hid (R3 23 w1 S f g b) := (b1.block S RA0.out.lt).trans RA0.out
  have B1 : Hid (Below w.heap.size w w1) := B0.out.trans (b1.mono B0.out.size)
  clear hown hg HI HC HC0 b1 RA0 B0 hw0 hS
  have hlz : zs.length ≤ 17592186044416 := by rw [HL.out]; exact hlen
  have LA : Hid (∀ w, Calls Try.prog 9 #[sv f g b] w fun e w' => e = .returned (sv f g b) ∧ Gr w w') := fun w => look_any _ _ _ w
  obtain ⟨c0, hc0⟩ : ∃ z, aplF zs f = z := ⟨_, rfl⟩
  obtain ⟨c1, hc1⟩ : ∃ z, aplG zs g = z := ⟨_, rfl⟩
  obtain ⟨c2, hc2⟩ : ∃ z, aplB zs b = z := ⟨_, rfl⟩
  have LC : Hid (∀ w, Calls Try.prog 9 #[sv c0 c1 c2] w fun e w' => e = .returned (sv c0 c1 c2) ∧ Gr w w') := fun w => look_any _ _ _ w
  have AP : Hid (∀ v w, Ints w v zs → Calls Try.prog 8 #[sv f g b, v] w fun e w' => e = .returned (sv c0 c1 c2) ∧ Gr w w') := fun v w h => by have := apply_any f g b zs v w h hlz; rw [hc0, hc1, hc2] at this; exact this
  have RAP : Hid (∀ v w, Ints w v zs → Calls Try.prog 10 #[sv f g b, v] w fun e w' => e = .returned (sv c0 c1 c2) ∧ Gr w w') := fun v w h => by have := rApply_any f g b zs v w h hlz; rw [hc0, hc1, hc2] at this; exact this
  clear hc0 hc1 hc2
  unfold sv at LA LC AP RAP
  have a0 := RA.out.c0
  have a1 := RA.out.c1
  have a2 := RA.out.c2
  go_wp2_with fail
  refine (LA.out _).mono ?_
  rintro e w2 ⟨rfl, g2⟩
  go_wp2_with fail
  refine (AP.out _ _ (ints_gr I1.out g2)).mono ?_
  rintro e w3 ⟨rfl, g3⟩
  obtain ⟨P, hP⟩ : ∃ z, w3.heap.size = z := ⟨_, rfl⟩
  obtain ⟨w4, hw4⟩ : ∃ z, w3.alloc (.cells #[.int .i64 c0, .int .i64 c1, .int .i64 c2] 25) = z := ⟨_, rfl⟩
  have RP : Hid (R3 25 w4 P c0 c1 c2) := by rw [← hw4, ← hP]; exact R3.new _ _ _ _ _
  have G4 : Hid (Gr w1 w4) := by rw [← hw4]; exact (g2.trans g3).alloc _
  have RA4 : Hid (R3 23 w4 S f g b) := RA.out.gr G4.out
  have I4 : Hid (∀ n' os', Ints (grow (w4.drewN n') os') v' zs) := fun n' os' => ints_gr I1.out (G4.out.trans ⟨n', os', rfl⟩)
  have O4 : Hid (∀ n' os', Ints (grow (w4.drewN n') os') (.slice (some x) len cap) zs) := fun n' os' => ints_gr O1.out (G4.out.trans ⟨n', os', rfl⟩)
  clear g2 g3 a0 a1 a2
  have a0 : ∀ n' os', (grow (w4.drewN n') os').cell? ⟨S, 0, none⟩ = some (.int .i64 f) := cell_grown RA4.out.lt RA4.out.c0
  have a1 : ∀ n' os', (grow (w4.drewN n') os').cell? ⟨S, 1, none⟩ = some (.int .i64 g) := cell_grown RA4.out.lt RA4.out.c1
  have a2 : ∀ n' os', (grow (w4.drewN n') os').cell? ⟨S, 2, none⟩ = some (.int .i64 b) := cell_grown RA4.out.lt RA4.out.c2
  have p0 : ∀ n' os', (grow (w4.drewN n') os').cell? ⟨P, 0, none⟩ = some (.int .i64 c0) := cell_grown RP.out.lt RP.out.c0
  have p1 : ∀ n' os', (grow (w4.drewN n') os').cell? ⟨P, 1, none⟩ = some (.int .i64 c1) := cell_grown RP.out.lt RP.out.c1
  have p2 : ∀ n' os', (grow (w4.drewN n') os').cell? ⟨P, 2, none⟩ = some (.int .i64 c2) := cell_grown RP.out.lt RP.out.c2
  have SM : Hid (∀ n' os', Calls Try.prog 11 #[v', (.slice (some x) len cap)] (grow (w4.drewN n') os') fun e w' => e = .returned (.bool true) ∧ Gr (grow (w4.drewN n') os') w') := fun n' os' => same_yes zs _ _ _ (I4.out n' os') (O4.out n' os') hlz
  go_wp2_with fail
  have hmix : Try.prog.follows .mixedOrders = true := by kernel_rfl
  go_quiet_grown (first | (go_at_call 10; exact Calls.grown_of (RAP.out _ _ (O4.out _ _))) | (go_at_call 9; exact Calls.grown_of (LC.out _)) | (go_at_call 11; exact Calls.grown_of (SM.out _ _)))
  have HF : Hid (Gr w1 (grow (w4.drewN nq) osq)) := G4.out.trans ⟨nq, osq, rfl⟩
  go_wp2
  go_ret
  exact ⟨rfl, B1.out.trans (HF.out.below.mono B1.out.size)⟩

end Go.Proofs.Ytepkoiijdckcnag
