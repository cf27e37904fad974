/-
  The program's reader: skipBlanks, takes.
-/
import Derived.Test.YtepeepipgkejiadGreatDoorTAll
namespace Go.Proofs.YtepeepipgkejiadGreatDoor
open Go.RowKit
set_option linter.unusedVariables false

/-- The program's reader at rb: the text, the place, the table of attributes, the nodes, the first other fault. -/
structure PR (W : World) (rb : Nat) (s : ByteArray) (i : Nat) (av nv fv : Value) : Prop where
  lt : rb < W.heap.size
  c0 : W.cell? ⟨rb, 0, none⟩ = some (.string s)
  c1 : W.cell? ⟨rb, 1, none⟩ = some (.int .i64 (i : Int))
  c2 : W.cell? ⟨rb, 2, none⟩ = some av
  c3 : W.cell? ⟨rb, 3, none⟩ = some nv
  c4 : W.cell? ⟨rb, 4, none⟩ = some fv
  fz : ∀ j, W.frozen? ⟨rb, j, none⟩ = false
theorem PR.below {W W' : World} {rb : Nat} {s : ByteArray} {i : Nat} {av nv fv : Value} (h : PR W rb s i av nv fv) (hb : Below W.heap.size W W') : PR W' rb s i av nv fv :=
  have k : ∀ j v, W.cell? ⟨rb, j, none⟩ = some v → W'.cell? ⟨rb, j, none⟩ = some v := fun j v e => (hb.cell (p := ⟨rb, j, none⟩) h.lt).trans e
  ⟨Nat.lt_of_lt_of_le h.lt hb.size, k _ _ h.c0, k _ _ h.c1, k _ _ h.c2, k _ _ h.c3, k _ _ h.c4, fun j => (hb.frozen (p := ⟨rb, j, none⟩) h.lt).trans (h.fz j)⟩
theorem PR.drewN {W : World} {rb : Nat} {s : ByteArray} {i : Nat} {av nv fv : Value} (h : PR W rb s i av nv fv) (n : Nat) : PR (W.drewN n) rb s i av nv fv :=
  ⟨h.lt, h.c0, h.c1, h.c2, h.c3, h.c4, h.fz⟩
theorem PR.setI {W : World} {rb : Nat} {s : ByteArray} {i : Nat} {av nv fv : Value} (h : PR W rb s i av nv fv) (i' : Nat) : PR (W.setCell ⟨rb, 1, none⟩ (.int .i64 (i' : Int))) rb s i' av nv fv :=
  ⟨by simpa using h.lt, rs_other (by omega) h.c0, rs_same h.c1, rs_other (by omega) h.c2, rs_other (by omega) h.c3, rs_other (by omega) h.c4, fun j => by rw [World.frozen?_setCell]; exact h.fz j⟩

/-- The place that the reader is at. -/
def prI (W : World) (rb : Nat) : Nat := match W.cell? ⟨rb, 1, none⟩ with
  | some (.int _ x) => x.toNat
  | _ => 0
theorem PR.prI {W : World} {rb : Nat} {s : ByteArray} {i : Nat} {av nv fv : Value} (h : PR W rb s i av nv fv) : prI W rb = i := by
  unfold Go.Proofs.YtepeepipgkejiadGreatDoor.prI; rw [h.c1]; simp

set_option maxRecDepth 100000 in
set_option maxHeartbeats 2000000 in
theorem skipBlanks_any (rb : Nat) (s : ByteArray) (i : Nat) (av nv fv : Value) (w : World) (h : PR w rb s i av nv fv) (hs : s.size ≤ 1099511627776) (hi : i ≤ s.size) :
    Calls Tryz.prog 30 #[.pointer (some ⟨rb, 0, none⟩)] w fun e w' => e = .returned (.tuple #[]) ∧ PR w' rb s (sk s i) av nv fv ∧ w.grownBy w' (some rb) := by
  have HR : Hid (PR w rb s i av nv fv) := h
  clear h
  go_enter Tryz.func30, Tryz.ntmps30
  go_wp2
  go_loopw [2] (fun _ wr => ∃ k : Nat, k ≤ s.size ∧ Hid (sk s k = sk s i) ∧ Hid (PR wr rb s k av nv fv) ∧ Hid (w.grownBy wr (some rb))) (fun _ wr => s.size - prI wr rb)
  case atStart => exact ⟨i, hi, rfl, HR.out, gr_refl _ _⟩
  case round =>
    obtain ⟨k, hk, HK, HS, HG⟩ := hrel
    have hs1 := HS.out
    have c0 := hs1.c0
    have c1 := hs1.c1
    have f1 := hs1.fz 1
    by_cases hlt : k < s.size
    · have hlt' : (k : Int) < (s.size : Int) := by omega
      obtain ⟨x, hx⟩ : ∃ x, s[k].toNat = x := ⟨_, rfl⟩
      have hbx : bat s k = x := by rw [bat_in hlt, hx]
      by_cases hb : x = 32
      · skip
        have HN : Hid (∀ q, PR ((wr.drewN q).setCell ⟨rb, 1, none⟩ (.int .i64 ((k : Int) + 1))) rb s (k + 1) av nv fv) := fun q => by
          have := (HS.out.drewN q).setI (k + 1)
          rw [show ((k + 1 : Nat) : Int) = (k : Int) + 1 by omega] at this; exact this
        have HK2 : Hid (sk s (k + 1) = sk s i) := by rw [← HK.out]; exact (run_step hlt (by rw [hbx]; simp [blank, hb])).symm
        have hrd : prI wr rb = k := HS.out.prI
        have HRD : Hid (prI wr rb = k) := hrd
        subst hb
        clear hs1 HK HS hbx hrd
        go_wp2_with fail
        go_quiet (fail)
        go_wp2
        go_roundw
        case rel => exact ⟨k + 1, by omega, HK2.out, HN.out _, gr_trans (gr_trans HG.out (gr_drewN _ _ _)) (gr_set _ _ _ _)⟩
        case measure => rw [(HN.out _).prI, HRD.out]; omega
      · by_cases hb2 : x = 10
        · skip
          have HN : Hid (∀ q, PR ((wr.drewN q).setCell ⟨rb, 1, none⟩ (.int .i64 ((k : Int) + 1))) rb s (k + 1) av nv fv) := fun q => by
            have := (HS.out.drewN q).setI (k + 1)
            rw [show ((k + 1 : Nat) : Int) = (k : Int) + 1 by omega] at this; exact this
          have HK2 : Hid (sk s (k + 1) = sk s i) := by rw [← HK.out]; exact (run_step hlt (by rw [hbx]; simp [blank, hb2])).symm
          have hrd : prI wr rb = k := HS.out.prI
          have HRD : Hid (prI wr rb = k) := hrd
          subst hb2
          clear hs1 HK HS hbx hrd
          go_wp2_with fail
          go_quiet (fail)
          go_wp2
          go_roundw
          case rel => exact ⟨k + 1, by omega, HK2.out, HN.out _, gr_trans (gr_trans HG.out (gr_drewN _ _ _)) (gr_set _ _ _ _)⟩
          case measure => rw [(HN.out _).prI, HRD.out]; omega
        · have HE : Hid (PR wr rb s (sk s i) av nv fv) := by
            have : sk s k = k := run_stop (by rw [hbx]; simp [blank, hb, hb2])
            rw [← HK.out, this]; exact HS.out
          have e1 : ((x : Int) == 32) = false := by simp; omega
          have e2 : ((x : Int) == 10) = false := by simp; omega
          clear hs1 HK HS hbx
          go_wp2_with fail
          go_quiet (fail)
          go_wp2
          go_end0
          exact ⟨rfl, HE.out.drewN _, gr_trans HG.out (gr_drewN _ _ _)⟩
    · have hlt' : ¬ (k : Int) < (s.size : Int) := by omega
      have hd : decide ((k : Int) < (s.size : Int)) = false := decide_eq_false hlt'
      have HE : Hid (PR wr rb s (sk s i) av nv fv) := by
        have : sk s k = k := run_out hlt
        rw [← HK.out, this]; exact HS.out
      clear hs1 HK HS
      go_wp2_with fail
      go_quiet (fail)
      go_wp2
      go_end0
      exact ⟨rfl, HE.out.drewN _, gr_trans HG.out (gr_drewN _ _ _)⟩

set_option maxRecDepth 100000 in
set_option maxHeartbeats 2000000 in
theorem takes_any (rb : Nat) (s : ByteArray) (i : Nat) (av nv fv : Value) (c : Nat) (w : World) (h : PR w rb s i av nv fv) (hs : s.size ≤ 1099511627776) (hi : i ≤ s.size) (hc : c < 256) :
    Calls Tryz.prog 69 #[.pointer (some ⟨rb, 0, none⟩), .int .u8 (c : Int)] w fun e w' => e = .returned (.bool (isAt s i c)) ∧ PR w' rb s (gotI s i c) av nv fv ∧ w.grownBy w' (some rb) := by
  have CS : Hid (Calls Tryz.prog 30 #[.pointer (some ⟨rb, 0, none⟩)] w fun e w' => e = .returned (.tuple #[]) ∧ PR w' rb s (sk s i) av nv fv ∧ w.grownBy w' (some rb)) := skipBlanks_any rb s i av nv fv w h hs hi
  obtain ⟨j, hj⟩ : ∃ j, sk s i = j := ⟨_, rfl⟩
  have hjs := sk_le s i hi
  have HGI : Hid (gotI s i c = if bat s j = c then j + 1 else j) := by show _ = _; unfold gotI; rw [hj]
  have HIA : Hid (isAt s i c = (bat s j == c)) := by show _ = _; unfold isAt; rw [hj]
  rw [hj] at CS hjs
  clear h hj
  go_enter Tryz.func69, Tryz.ntmps69
  go_wp2_with fail
  refine CS.out.mono ?_
  rintro e w1 ⟨rfl, h1, g1⟩
  have HR : Hid (PR w1 rb s j av nv fv) := h1
  have HG : Hid (w.grownBy w1 (some rb)) := g1
  have c0 := h1.c0
  have c1 := h1.c1
  have f1 := h1.fz 1
  clear h1 g1 CS
  by_cases hlt : j < s.size
  · have hlt' : (j : Int) < (s.size : Int) := by omega
    have el : ((j : Int) == (s.size : Int)) = false := by simp; omega
    obtain ⟨x, hx⟩ : ∃ x, s[j].toNat = x := ⟨_, rfl⟩
    have hbx : bat s j = x := by rw [bat_in hlt, hx]
    by_cases hxc : x = c
    · have HN : Hid (∀ q, PR ((w1.drewN q).setCell ⟨rb, 1, none⟩ (.int .i64 ((j : Int) + 1))) rb s (gotI s i c) av nv fv) := fun q => by
        rw [HGI.out, hbx, if_pos hxc]
        have := (HR.out.drewN q).setI (j + 1)
        rw [show ((j + 1 : Nat) : Int) = (j : Int) + 1 by omega] at this; exact this
      have HE : Hid (isAt s i c = true) := by show _ = _; rw [HIA.out, hbx]; simpa using hxc
      subst hxc
      clear hbx HR
      go_wp2_with fail
      go_quiet (fail)
      go_wp2
      go_ret
      exact ⟨by rw [HE.out]; rfl, HN.out _, gr_trans (gr_trans HG.out (gr_drewN _ _ _)) (gr_set _ _ _ _)⟩
    · have HN : Hid (PR w1 rb s (gotI s i c) av nv fv) := by rw [HGI.out, hbx, if_neg hxc]; exact HR.out
      have HE : Hid (isAt s i c = false) := by show _ = _; rw [HIA.out, hbx]; simpa using hxc
      have ex : ((x : Int) != (c : Int)) = true := by simp; omega
      clear hbx HR
      go_wp2_with fail
      go_quiet (fail)
      go_wp2
      go_ret
      exact ⟨by rw [HE.out]; rfl, HN.out.drewN _, gr_trans HG.out (gr_drewN _ _ _)⟩
  · have hlt' : ¬ (j : Int) < (s.size : Int) := by omega
    have el : ((j : Int) == (s.size : Int)) = true := by simp; omega
    have hbo : bat s j = 256 := bat_out hlt
    have HN : Hid (PR w1 rb s (gotI s i c) av nv fv) := by rw [HGI.out, hbo, if_neg (by omega)]; exact HR.out
    have HE : Hid (isAt s i c = false) := by show _ = _; rw [HIA.out, hbo]; simp; omega
    clear hbo HR
    go_wp2_with fail
    go_quiet (fail)
    go_wp2
    go_ret
    exact ⟨by rw [HE.out]; rfl, HN.out.drewN _, gr_trans HG.out (gr_drewN _ _ _)⟩

end Go.Proofs.YtepeepipgkejiadGreatDoor
