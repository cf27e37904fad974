/-
  stretch: the halves beside what is to be written become blanks.
-/
import Derived.Test.YtgaogkggbccfnaaDoorCBl
namespace Go.Proofs.YtgaogkggbccfnaaDoor
open Go.RowKit Go.Sort
set_option linter.unusedVariables false

/-- The half on the left, and the one on the right, of the places from a up to z become blanks. -/
def cutL (c : Nat → Nat → Ce) (y a : Nat) : Nat → Nat → Ce := fun y' x' => if y' = y ∧ x' + 1 = a ∧ (c y a).p = 2 then bl (c y' x') else c y' x'
def cutR (c : Nat → Nat → Ce) (y q : Nat) : Nat → Nat → Ce := fun y' x' => if y' = y ∧ x' = q + 1 ∧ (c y q).p = 1 then bl (c y' x') else c y' x'
def cut (c : Nat → Nat → Ce) (y a q : Nat) : Nat → Nat → Ce := cutR (cutL c y a) y q
theorem cutL_none {c : Nat → Nat → Ce} {y a : Nat} (h : ¬ (c y a).p = 2) : cutL c y a = c := by
  funext y' x'; unfold cutL; rw [if_neg (fun q => h q.2.2)]
theorem cutR_none {c : Nat → Nat → Ce} {y a : Nat} (h : ¬ (c y a).p = 1) : cutR c y a = c := by
  funext y' x'; unfold cutR; rw [if_neg (fun q => h q.2.2)]
theorem cutL_some {c : Nat → Nat → Ce} {y k : Nat} (h : (c y (k + 1)).p = 2) : cutL c y (k + 1) = upd c y k (bl (c y k)) := by
  funext y' x'; unfold cutL upd
  by_cases e : y' = y ∧ x' = k
  · obtain ⟨rfl, rfl⟩ := e
    rw [if_pos ⟨rfl, rfl, h⟩, if_pos ⟨rfl, rfl⟩]
  · rw [if_neg e, if_neg (fun q => e ⟨q.1, by omega⟩)]
theorem cutR_some {c : Nat → Nat → Ce} {y q : Nat} (h : (c y q).p = 1) : cutR c y q = upd c y (q + 1) (bl (c y (q + 1))) := by
  funext y' x'; unfold cutR upd
  by_cases e : y' = y ∧ x' = q + 1
  · obtain ⟨rfl, rfl⟩ := e
    rw [if_pos ⟨rfl, rfl, h⟩, if_pos ⟨rfl, rfl⟩]
  · rw [if_neg e, if_neg (fun k => e ⟨k.1, k.2.1⟩)]
theorem cutL_at {c : Nat → Nat → Ce} {y a x : Nat} (h : a ≤ x) (y' : Nat) : cutL c y a y' x = c y' x := by
  unfold cutL; rw [if_neg (by omega)]
theorem cutL_q {c : Nat → Nat → Ce} {y a x : Nat} (h : a ≤ x) : cutL c y a y (x + 1) = c y (x + 1) := cutL_at (by omega) y

section
variable {K M cap W H : Nat} {c : Nat → Nat → Ce}
set_option maxRecDepth 100000 in
set_option maxHeartbeats 2000000 in
theorem stretch_any (w : World) (h : CS 88 45 w K M cap W H c) (h0 : 0 < W) (hW : W ≤ 400) (hH : H ≤ 400) (y a q : Nat) (hy : y < H) (haq : a ≤ q) (hq : q < W) (hp : PRow W (c y)) : Calls Tryd.prog 93 #[.pointer (some ⟨K, 0, none⟩), .int .i64 y, .int .i64 a, .int .i64 ((q : Int) + 1)] w fun e w' => e = .returned (.slice (some ⟨M, y * W * 5 + a * 5, none⟩) (q + 1 - a) (q + 1 - a)) ∧ Cv 45 w' M W H (cut c y a q) ∧ Ch M w w' := by
  have RC : Hid (Calls Tryd.prog 100 #[.pointer (some ⟨K, 0, none⟩), .int .i64 y] w fun e w' => e = .returned (.slice (some ⟨M, y * W * 5, none⟩) W W) ∧ Gr w w') := row_any w h h0 hW hH y hy
  have BC : Hid (∀ f g b w, Calls Tryd.prog 40 #[sv f g b] w fun e w' => e = .returned (cev (bk f g b)) ∧ Gr w w') := blank_any
  have HV : Hid (Cv 45 w M W H c) := h.cv
  have HP : Hid (PRow W (c y)) := hp
  obtain ⟨o, ho⟩ : ∃ o, y * W * 5 = o := ⟨_, rfl⟩
  have HO : Hid (y * W * 5 = o) := ho
  unfold sv cev bk at BC
  rw [ho] at RC
  clear h hp
  rw [ho]
  clear ho
  go_enter Tryd.func93, Tryd.ntmps93
  go_wp2_with fail
  refine Calls.mono RC.out ?_
  rintro e w1 ⟨rfl, g1⟩
  have V1 : Hid (Cv 45 w1 M W H c) := HV.out.gr g1
  have C1 : Hid (Ch M w w1) := Ch.gr g1
  clear g1 HV RC
  have ca := V1.out.c4 hy (show a < W by omega)
  rw [HO.out] at ca
  obtain ⟨pa, hpa⟩ : ∃ z, (c y a).p = z := ⟨_, rfl⟩
  rw [hpa] at ca
  have HA : Hid ((c y a).p = pa) := hpa
  clear hpa
  go_upto_if 18 with fail
  go_cut [9] from 13 to 29 (fun u wx => u = .slice (some ⟨M, o, none⟩) W W ∧ Hid (Cv 45 wx M W H (cutL c y a) ∧ Ch M w wx))
  case first =>
    by_cases ht : pa = 2
    · obtain ⟨k, hka, hk1, _⟩ := HP.out.tail a (by omega) (HA.out.trans ht)
      subst hka
      have HC : Hid (cutL c y (k + 1) = upd c y k (bl (c y k))) := cutL_some (HA.out.trans ht)
      subst ht
      clear hk1
      have b1 := V1.out.c1 hy (show k < W by omega)
      have b2 := V1.out.c2 hy (show k < W by omega)
      have b3 := V1.out.c3 hy (show k < W by omega)
      rw [HO.out] at b1 b2 b3
      go_wp2_with (go_at_call 40; refine Calls.mono (BC.out _ _ _ _) ?_; rintro e w2 ⟨rfl, g2⟩; have V2 : Hid (Cv 45 w2 M W H c) := V1.out.gr g2; have C2 : Hid (Ch M w w2) := C1.out.thenGr g2; clear g2; have d0 := V2.out.c0 hy (show k < W by omega); have d1 := V2.out.c1 hy (show k < W by omega); have d2 := V2.out.c2 hy (show k < W by omega); have d3 := V2.out.c3 hy (show k < W by omega); have d4 := V2.out.c4 hy (show k < W by omega); rw [HO.out] at d0 d1 d2 d3 d4; have f0 := V2.out.fz; have fl := V2.out.lt)
      go_meet
      refine ⟨rfl, ?_, ?_⟩
      · rw [HC.out, ← HO.out]; exact V2.out.set hy (show k < W by omega) (bl (c y k))
      · exact ((((C2.out.set (.inl rfl) _ _).set (.inl rfl) _ _).set (.inl rfl) _ _).set (.inl rfl) _ _).set (.inl rfl) _ _
    · have ht' : (pa == 2) = false := by simpa using ht
      go_wp2_with fail
      go_meet
      exact ⟨rfl, by rw [cutL_none (by rw [HA.out]; exact ht)]; exact V1.out, C1.out⟩
  case rest =>
    obtain ⟨rfl, HR⟩ := hcut
    clear V1 C1 ca
    have cq := HR.out.1.c4 hy hq
    rw [HO.out] at cq
    obtain ⟨pq, hpq⟩ : ∃ z, (cutL c y a y q).p = z := ⟨_, rfl⟩
    rw [hpq] at cq
    have HQ : Hid ((cutL c y a y q).p = pq) := hpq
    clear hpq
    have hcc : Hid ((c y q).p = pq) := by have := HQ.out; rw [cutL_at haq] at this; exact this
    go_upto_if 36 with fail
    go_cut [9] from 13 to 45 (fun u wx => u = .slice (some ⟨M, o, none⟩) W W ∧ Hid (Cv 45 wx M W H (cut c y a q) ∧ Ch M w wx))
    case first =>
      by_cases ht : pq = 1
      · obtain ⟨hl, _⟩ := HP.out.head q hq (hcc.out.trans ht)
        have HC : Hid (cut c y a q = upd (cutL c y a) y (q + 1) (bl (cutL c y a y (q + 1)))) := cutR_some (HQ.out.trans ht)
        subst ht
        have b1 := HR.out.1.c1 hy hl
        have b2 := HR.out.1.c2 hy hl
        have b3 := HR.out.1.c3 hy hl
        rw [HO.out] at b1 b2 b3
        go_wp2_with (go_at_call 40; refine Calls.mono (BC.out _ _ _ _) ?_; rintro e w2 ⟨rfl, g2⟩; have V2 : Hid (Cv 45 w2 M W H (cutL c y a)) := HR.out.1.gr g2; have C2 : Hid (Ch M w w2) := HR.out.2.thenGr g2; clear g2; have d0 := V2.out.c0 hy hl; have d1 := V2.out.c1 hy hl; have d2 := V2.out.c2 hy hl; have d3 := V2.out.c3 hy hl; have d4 := V2.out.c4 hy hl; rw [HO.out] at d0 d1 d2 d3 d4; have f0 := V2.out.fz; have fl := V2.out.lt)
        go_meet
        refine ⟨rfl, ?_, ?_⟩
        · rw [HC.out, ← HO.out]; exact V2.out.set hy hl (bl (cutL c y a y (q + 1)))
        · exact ((((C2.out.set (.inl rfl) _ _).set (.inl rfl) _ _).set (.inl rfl) _ _).set (.inl rfl) _ _).set (.inl rfl) _ _
      · have ht' : (pq == 1) = false := by simpa using ht
        go_wp2_with fail
        go_meet
        exact ⟨rfl, by unfold cut; rw [cutR_none (by rw [HQ.out]; exact ht)]; exact HR.out.1, HR.out.2⟩
    case rest =>
      obtain ⟨rfl, HZ⟩ := hcut
      have hl1 : a ≤ W := by omega
      have nz : ¬ q + 1 = a := by omega
      go_wp2
      go_ret
      exact ⟨rfl, HZ.out.1, HZ.out.2⟩
end
end Go.Proofs.YtgaogkggbccfnaaDoor
