/-
  Bytes of a text by their place; the end of a run of bytes of a kind. The reference's reader in memory; its small steps.
-/
import Derived.Test.YtnkebfmlaliddaaGreatDoorProg
import Derived.WalkKit
import Derived.WalkSpells
import Derived.WalkLawsBesides
import Derived.RegionTactic
import Derived.BigRegion
import Derived.BigQuiet
import Derived.Deep.QuietTactic
namespace Go.Proofs.YtnkebfmlaliddaaGreatDoor
open Go.RowKit
set_option linter.unusedVariables false

/-- The byte at a place; 256 where there is none. -/
def bat (s : ByteArray) (i : Nat) : Nat := if h : i < s.size then s[i].toNat else 256
theorem bat_in {s : ByteArray} {i : Nat} (h : i < s.size) : bat s i = s[i].toNat := by unfold bat; rw [dif_pos h]
theorem bat_out {s : ByteArray} {i : Nat} (h : ¬ i < s.size) : bat s i = 256 := by unfold bat; rw [dif_neg h]
theorem bat_lt {s : ByteArray} {i : Nat} (h : i < s.size) : bat s i < 256 := by rw [bat_in h]; exact UInt8.toNat_lt _

def runF (p : Nat → Bool) (s : ByteArray) : Nat → Nat → Nat
  | 0, i => i
  | f + 1, i => if p (bat s i) then runF p s f (i + 1) else i
/-- The place behind all bytes of a kind that stand at i. -/
def run (p : Nat → Bool) (s : ByteArray) (i : Nat) : Nat := runF p s (s.size - i) i
theorem run_step {p : Nat → Bool} {s : ByteArray} {i : Nat} (hi : i < s.size) (h : p (bat s i) = true) : run p s i = run p s (i + 1) := by
  unfold run
  obtain ⟨f, hf⟩ : ∃ f, s.size - i = f + 1 := ⟨s.size - i - 1, by omega⟩
  rw [hf, runF, if_pos h, show s.size - (i + 1) = f by omega]
theorem run_stop {p : Nat → Bool} {s : ByteArray} {i : Nat} (h : p (bat s i) = false) : run p s i = i := by
  unfold run
  match s.size - i with
  | 0 => rfl
  | f + 1 => rw [runF, h]; rfl
theorem run_out {p : Nat → Bool} {s : ByteArray} {i : Nat} (h : ¬ i < s.size) : run p s i = i := by
  unfold run; rw [show s.size - i = 0 by omega]; rfl
theorem runF_bd (p : Nat → Bool) (s : ByteArray) : ∀ f i, i ≤ runF p s f i ∧ runF p s f i ≤ i + f
  | 0, i => ⟨Nat.le_refl _, Nat.le_refl _⟩
  | f + 1, i => by
    have := runF_bd p s f (i + 1)
    rw [runF]; split <;> omega
theorem run_ge (p : Nat → Bool) (s : ByteArray) (i : Nat) : i ≤ run p s i := (runF_bd p s _ i).1
theorem run_le (p : Nat → Bool) (s : ByteArray) (i : Nat) (hi : i ≤ s.size) : run p s i ≤ s.size := by
  have := (runF_bd p s (s.size - i) i).2
  unfold run; omega
theorem runF_end (p : Nat → Bool) (hp : p 256 = false) (s : ByteArray) : ∀ f i, s.size - i ≤ f → p (bat s (runF p s f i)) = false
  | 0, i, h => by rw [runF, bat_out (by omega)]; exact hp
  | f + 1, i, h => by
    rw [runF]
    by_cases c : p (bat s i) = true
    · rw [if_pos c]; exact runF_end p hp s f (i + 1) (by omega)
    · rw [if_neg c]; simpa using c
theorem run_end {p : Nat → Bool} (hp : p 256 = false) (s : ByteArray) (i : Nat) : p (bat s (run p s i)) = false := runF_end p hp s _ i (Nat.le_refl _)

def blank (x : Nat) : Bool := x == 32 || x == 10
def letter (x : Nat) : Bool := decide (97 ≤ x) && decide (x ≤ 122)
def digit (x : Nat) : Bool := decide (48 ≤ x) && decide (x ≤ 57)
/-- Behind blanks. -/
def sk (s : ByteArray) (i : Nat) : Nat := run blank s i
theorem sk_ge (s : ByteArray) (i : Nat) : i ≤ sk s i := run_ge _ _ _
theorem sk_le (s : ByteArray) (i : Nat) (h : i ≤ s.size) : sk s i ≤ s.size := run_le _ _ _ h
theorem sk_sk (s : ByteArray) (i : Nat) : sk s (sk s i) = sk s i := run_stop (run_end (by rfl) s i)

/-- The reference's reader at rb: the text, the place, the nodes, the first fault of the grammar, the first other one, the depth. -/
structure RS (W : World) (rb : Nat) (s : ByteArray) (i : Nat) (lv : Value) (bad er at_ dep : Int) : Prop where
  lt : rb < W.heap.size
  c0 : W.cell? ⟨rb, 0, none⟩ = some (.string s)
  c1 : W.cell? ⟨rb, 1, none⟩ = some (.int .i64 (i : Int))
  c2 : W.cell? ⟨rb, 2, none⟩ = some lv
  c3 : W.cell? ⟨rb, 3, none⟩ = some (.int .i64 bad)
  c4 : W.cell? ⟨rb, 4, none⟩ = some (.int .i64 er)
  c5 : W.cell? ⟨rb, 5, none⟩ = some (.int .i64 at_)
  c6 : W.cell? ⟨rb, 6, none⟩ = some (.int .i64 dep)
  fz : ∀ j, W.frozen? ⟨rb, j, none⟩ = false
theorem RS.below {W W' : World} {rb : Nat} {s : ByteArray} {i : Nat} {lv : Value} {bad er at_ dep : Int} (h : RS W rb s i lv bad er at_ dep) (hb : Below W.heap.size W W') : RS W' rb s i lv bad er at_ dep :=
  have k : ∀ j v, W.cell? ⟨rb, j, none⟩ = some v → W'.cell? ⟨rb, j, none⟩ = some v := fun j v e => (hb.cell (p := ⟨rb, j, none⟩) h.lt).trans e
  ⟨Nat.lt_of_lt_of_le h.lt hb.size, k _ _ h.c0, k _ _ h.c1, k _ _ h.c2, k _ _ h.c3, k _ _ h.c4, k _ _ h.c5, k _ _ h.c6, fun j => (hb.frozen (p := ⟨rb, j, none⟩) h.lt).trans (h.fz j)⟩
theorem RS.drewN {W : World} {rb : Nat} {s : ByteArray} {i : Nat} {lv : Value} {bad er at_ dep : Int} (h : RS W rb s i lv bad er at_ dep) (n : Nat) : RS (W.drewN n) rb s i lv bad er at_ dep :=
  ⟨h.lt, h.c0, h.c1, h.c2, h.c3, h.c4, h.c5, h.c6, h.fz⟩
theorem rs_other {W : World} {rb j k : Nat} {v u : Value} (hn : j ≠ k) (h : W.cell? ⟨rb, j, none⟩ = some u) : (W.setCell ⟨rb, k, none⟩ v).cell? ⟨rb, j, none⟩ = some u := by
  rw [World.cell?_setCell_other _ _ _ _ (fun e => hn (by injection e with e1 e2; exact e2.symm))]; exact h
theorem rs_same {W : World} {rb k : Nat} {v u : Value} (h : W.cell? ⟨rb, k, none⟩ = some u) : (W.setCell ⟨rb, k, none⟩ v).cell? ⟨rb, k, none⟩ = some v :=
  World.cell?_setCell_same' _ _ _ (by rw [h]; rfl)
theorem RS.setI {W : World} {rb : Nat} {s : ByteArray} {i : Nat} {lv : Value} {bad er at_ dep : Int} (h : RS W rb s i lv bad er at_ dep) (i' : Nat) : RS (W.setCell ⟨rb, 1, none⟩ (.int .i64 (i' : Int))) rb s i' lv bad er at_ dep :=
  ⟨by simpa using h.lt, rs_other (by omega) h.c0, rs_same h.c1, rs_other (by omega) h.c2, rs_other (by omega) h.c3, rs_other (by omega) h.c4, rs_other (by omega) h.c5, rs_other (by omega) h.c6, fun j => by rw [World.frozen?_setCell]; exact h.fz j⟩
theorem RS.setBad {W : World} {rb : Nat} {s : ByteArray} {i : Nat} {lv : Value} {bad er at_ dep : Int} (h : RS W rb s i lv bad er at_ dep) (b : Int) : RS (W.setCell ⟨rb, 3, none⟩ (.int .i64 b)) rb s i lv b er at_ dep :=
  ⟨by simpa using h.lt, rs_other (by omega) h.c0, rs_other (by omega) h.c1, rs_other (by omega) h.c2, rs_same h.c3, rs_other (by omega) h.c4, rs_other (by omega) h.c5, rs_other (by omega) h.c6, fun j => by rw [World.frozen?_setCell]; exact h.fz j⟩
theorem RS.setErr {W : World} {rb : Nat} {s : ByteArray} {i : Nat} {lv : Value} {bad er at_ dep : Int} (h : RS W rb s i lv bad er at_ dep) (b c : Int) : RS ((W.setCell ⟨rb, 4, none⟩ (.int .i64 b)).setCell ⟨rb, 5, none⟩ (.int .i64 c)) rb s i lv bad b c dep :=
  ⟨by simpa using h.lt, rs_other (by omega) (rs_other (by omega) h.c0), rs_other (by omega) (rs_other (by omega) h.c1), rs_other (by omega) (rs_other (by omega) h.c2), rs_other (by omega) (rs_other (by omega) h.c3), rs_other (by omega) (rs_same h.c4), rs_same (rs_other (by omega) h.c5), rs_other (by omega) (rs_other (by omega) h.c6), fun j => by rw [World.frozen?_setCell, World.frozen?_setCell]; exact h.fz j⟩

/-- Nothing but block b has turned. -/
theorem gr_refl (W : World) (b : Nat) : W.grownBy W (some b) := ⟨rfl, rfl, rfl, Nat.le_refl _, fun _ _ _ => rfl⟩
theorem gr_trans {A B C : World} {b : Nat} (h : A.grownBy B (some b)) (k : B.grownBy C (some b)) : A.grownBy C (some b) :=
  ⟨k.os.trans h.os, k.tape.trans h.tape, k.output.trans h.output, Nat.le_trans h.size k.size, fun i hi hn => (k.block i (Nat.lt_of_lt_of_le hi h.size) hn).trans (h.block i hi hn)⟩
theorem gr_set (W : World) (b i : Nat) (v : Value) : W.grownBy (W.setCell ⟨b, i, none⟩ v) (some b) :=
  ⟨rfl, rfl, rfl, by simp, fun k _ hk => heap_setCell_other _ _ _ _ (fun e => hk (by rw [e]))⟩
theorem gr_drewN (W : World) (n b : Nat) : W.grownBy (W.drewN n) (some b) := ⟨rfl, rfl, rfl, Nat.le_refl _, fun _ _ _ => rfl⟩
theorem gr_below {A B : World} {b : Nat} (h : Below A.heap.size A B) : A.grownBy B (some b) := ⟨h.os, h.tape, h.output, h.size, fun i hi _ => h.block i hi⟩

/-- The place that the reader is at. -/
def rdI (W : World) (rb : Nat) : Nat := match W.cell? ⟨rb, 1, none⟩ with
  | some (.int _ x) => x.toNat
  | _ => 0
theorem RS.rdI {W : World} {rb : Nat} {s : ByteArray} {i : Nat} {lv : Value} {bad er at_ dep : Int} (h : RS W rb s i lv bad er at_ dep) : rdI W rb = i := by
  unfold Go.Proofs.YtnkebfmlaliddaaGreatDoor.rdI; rw [h.c1]; simp

set_option maxRecDepth 100000 in
set_option maxHeartbeats 2000000 in
theorem skip_any (rb : Nat) (s : ByteArray) (i : Nat) (lv : Value) (bad er at_ dep : Int) (w : World) (h : RS w rb s i lv bad er at_ dep) (hs : s.size ≤ 1099511627776) (hi : i ≤ s.size) :
    Calls Tryz.prog 20 #[.pointer (some ⟨rb, 0, none⟩)] w fun e w' => e = .returned (.tuple #[]) ∧ RS w' rb s (sk s i) lv bad er at_ dep ∧ w.grownBy w' (some rb) := by
  have HR : Hid (RS w rb s i lv bad er at_ dep) := h
  clear h
  go_enter Tryz.func20, Tryz.ntmps20
  go_wp2
  go_loopw [2] (fun _ wr => ∃ k : Nat, k ≤ s.size ∧ Hid (sk s k = sk s i) ∧ Hid (RS wr rb s k lv bad er at_ dep) ∧ Hid (w.grownBy wr (some rb))) (fun _ wr => s.size - rdI wr rb)
  case atStart => exact ⟨i, hi, rfl, HR.out, gr_refl _ _⟩
  case round =>
    obtain ⟨k, hk, HK, HS, HG⟩ := hrel
    have hs1 := HS.out
    have c0 := hs1.c0
    have c1 := hs1.c1
    have f1 := hs1.fz 1
    by_cases hlt : k < s.size
    · have hlt' : (k : Int) < (s.size : Int) := by omega
      obtain ⟨x, hx⟩ : ∃ x, s[k].toNat = x := ⟨_, rfl⟩
      have hbx : bat s k = x := by rw [bat_in hlt, hx]
      by_cases hb : x = 32
      · skip
        have HN : Hid (∀ q, RS ((wr.drewN q).setCell ⟨rb, 1, none⟩ (.int .i64 ((k : Int) + 1))) rb s (k + 1) lv bad er at_ dep) := fun q => by
          have := (HS.out.drewN q).setI (k + 1)
          rw [show ((k + 1 : Nat) : Int) = (k : Int) + 1 by omega] at this; exact this
        have HK2 : Hid (sk s (k + 1) = sk s i) := by rw [← HK.out]; exact (run_step hlt (by rw [hbx]; simp [blank, hb])).symm
        have hrd : rdI wr rb = k := HS.out.rdI
        have HRD : Hid (rdI wr rb = k) := hrd
        subst hb
        clear hs1 HK HS hbx hrd
        go_wp2_with fail
        go_quiet (fail)
        go_wp2
        go_roundw
        case rel => exact ⟨k + 1, by omega, HK2.out, HN.out _, gr_trans (gr_trans HG.out (gr_drewN _ _ _)) (gr_set _ _ _ _)⟩
        case measure => rw [(HN.out _).rdI, HRD.out]; omega
      · by_cases hb2 : x = 10
        · skip
          have HN : Hid (∀ q, RS ((wr.drewN q).setCell ⟨rb, 1, none⟩ (.int .i64 ((k : Int) + 1))) rb s (k + 1) lv bad er at_ dep) := fun q => by
            have := (HS.out.drewN q).setI (k + 1)
            rw [show ((k + 1 : Nat) : Int) = (k : Int) + 1 by omega] at this; exact this
          have HK2 : Hid (sk s (k + 1) = sk s i) := by rw [← HK.out]; exact (run_step hlt (by rw [hbx]; simp [blank, hb2])).symm
          have hrd : rdI wr rb = k := HS.out.rdI
          have HRD : Hid (rdI wr rb = k) := hrd
          subst hb2
          clear hs1 HK HS hbx hrd
          go_wp2_with fail
          go_quiet (fail)
          go_wp2
          go_roundw
          case rel => exact ⟨k + 1, by omega, HK2.out, HN.out _, gr_trans (gr_trans HG.out (gr_drewN _ _ _)) (gr_set _ _ _ _)⟩
          case measure => rw [(HN.out _).rdI, HRD.out]; omega
        · have HE : Hid (RS wr rb s (sk s i) lv bad er at_ dep) := by
            have : sk s k = k := run_stop (by rw [hbx]; simp [blank, hb, hb2])
            rw [← HK.out, this]; exact HS.out
          have e1 : ((x : Int) == 32) = false := by simp; omega
          have e2 : ((x : Int) == 10) = false := by simp; omega
          clear hs1 HK HS hbx
          go_wp2_with fail
          go_quiet (fail)
          go_wp2
          go_end0
          exact ⟨rfl, HE.out.drewN _, gr_trans HG.out (gr_drewN _ _ _)⟩
    · have hlt' : ¬ (k : Int) < (s.size : Int) := by omega
      have hd : decide ((k : Int) < (s.size : Int)) = false := decide_eq_false hlt'
      have HE : Hid (RS wr rb s (sk s i) lv bad er at_ dep) := by
        have : sk s k = k := run_out hlt
        rw [← HK.out, this]; exact HS.out
      clear hs1 HK HS
      go_wp2_with fail
      go_quiet (fail)
      go_wp2
      go_end0
      exact ⟨rfl, HE.out.drewN _, gr_trans HG.out (gr_drewN _ _ _)⟩

/-- The first fault stays. -/
def badI (bad a : Int) : Int := if bad < 0 then a else bad

set_option maxRecDepth 100000 in
set_option maxHeartbeats 1000000 in
theorem fail_any (rb : Nat) (s : ByteArray) (i : Nat) (lv : Value) (bad er at_ dep : Int) (a : Int) (w : World) (h : RS w rb s i lv bad er at_ dep) :
    Calls Tryz.prog 21 #[.pointer (some ⟨rb, 0, none⟩), .int .i64 a] w fun e w' => e = .returned (.tuple #[]) ∧ RS w' rb s i lv (badI bad a) er at_ dep ∧ w.grownBy w' (some rb) := by
  have c3 := h.c3
  have f3 := h.fz 3
  have HR : Hid (RS w rb s i lv bad er at_ dep) := h
  clear h
  by_cases hb : bad < 0
  · have HN : Hid (RS (w.setCell ⟨rb, 3, none⟩ (.int .i64 a)) rb s i lv (badI bad a) er at_ dep) := by unfold badI; rw [if_pos hb]; exact HR.out.setBad a
    go_enter Tryz.func21, Tryz.ntmps21
    go_wp2
    go_end0
    exact ⟨rfl, HN.out, gr_set _ _ _ _⟩
  · have HN : Hid (RS w rb s i lv (badI bad a) er at_ dep) := by unfold badI; rw [if_neg hb]; exact HR.out
    go_enter Tryz.func21, Tryz.ntmps21
    go_wp2
    go_end0
    exact ⟨rfl, HN.out, gr_refl _ _⟩

/-- Whether the reader is at the sign, and where it is behind it. -/
def isAt (s : ByteArray) (i : Nat) (c : Nat) : Bool := bat s (sk s i) == c
def gotI (s : ByteArray) (i : Nat) (c : Nat) : Nat := if bat s (sk s i) = c then sk s i + 1 else sk s i

set_option maxRecDepth 100000 in
set_option maxHeartbeats 2000000 in
theorem got_any (rb : Nat) (s : ByteArray) (i : Nat) (lv : Value) (bad er at_ dep : Int) (c : Nat) (w : World) (h : RS w rb s i lv bad er at_ dep) (hs : s.size ≤ 1099511627776) (hi : i ≤ s.size) (hc : c < 256) (hb : bad < 0) :
    Calls Tryz.prog 78 #[.pointer (some ⟨rb, 0, none⟩), .int .u8 (c : Int)] w fun e w' => e = .returned (.bool (isAt s i c)) ∧ RS w' rb s (gotI s i c) lv bad er at_ dep ∧ w.grownBy w' (some rb) := by
  have CS : Hid (Calls Tryz.prog 20 #[.pointer (some ⟨rb, 0, none⟩)] w fun e w' => e = .returned (.tuple #[]) ∧ RS w' rb s (sk s i) lv bad er at_ dep ∧ w.grownBy w' (some rb)) := skip_any rb s i lv bad er at_ dep w h hs hi
  obtain ⟨j, hj⟩ : ∃ j, sk s i = j := ⟨_, rfl⟩
  have hjs := sk_le s i hi
  have HGI : Hid (gotI s i c = if bat s j = c then j + 1 else j) := by show _ = _; unfold gotI; rw [hj]
  have HIA : Hid (isAt s i c = (bat s j == c)) := by show _ = _; unfold isAt; rw [hj]
  rw [hj] at CS hjs
  clear h hj
  go_enter Tryz.func78, Tryz.ntmps78
  go_wp2_with fail
  refine CS.out.mono ?_
  rintro e w1 ⟨rfl, h1, g1⟩
  have HR : Hid (RS w1 rb s j lv bad er at_ dep) := h1
  have HG : Hid (w.grownBy w1 (some rb)) := g1
  have c0 := h1.c0
  have c1 := h1.c1
  have c3 := h1.c3
  have f1 := h1.fz 1
  have eb : decide (bad < 0) = true := decide_eq_true hb
  clear h1 g1 CS
  by_cases hlt : j < s.size
  · have hlt' : (j : Int) < (s.size : Int) := by omega
    have el : decide ((j : Int) < (s.size : Int)) = true := decide_eq_true hlt'
    obtain ⟨x, hx⟩ : ∃ x, s[j].toNat = x := ⟨_, rfl⟩
    have hbx : bat s j = x := by rw [bat_in hlt, hx]
    by_cases hxc : x = c
    · have HN : Hid (∀ q, RS ((w1.drewN q).setCell ⟨rb, 1, none⟩ (.int .i64 ((j : Int) + 1))) rb s (gotI s i c) lv bad er at_ dep) := fun q => by
        rw [HGI.out, hbx, if_pos hxc]
        have := (HR.out.drewN q).setI (j + 1)
        rw [show ((j + 1 : Nat) : Int) = (j : Int) + 1 by omega] at this; exact this
      have HE : Hid (isAt s i c = true) := by show _ = _; rw [HIA.out, hbx]; simpa using hxc
      subst hxc
      clear hbx HR
      go_wp2_with fail
      go_quiet (fail)
      go_wp2
      go_ret
      exact ⟨by rw [HE.out]; rfl, HN.out _, gr_trans (gr_trans HG.out (gr_drewN _ _ _)) (gr_set _ _ _ _)⟩
    · have HN : Hid (RS w1 rb s (gotI s i c) lv bad er at_ dep) := by rw [HGI.out, hbx, if_neg hxc]; exact HR.out
      have HE : Hid (isAt s i c = false) := by show _ = _; rw [HIA.out, hbx]; simpa using hxc
      have ex : ((x : Int) == (c : Int)) = false := by simp; omega
      clear hbx HR
      go_wp2_with fail
      go_quiet (fail)
      go_wp2
      go_ret
      exact ⟨by rw [HE.out]; rfl, HN.out.drewN _, gr_trans HG.out (gr_drewN _ _ _)⟩
  · have hlt' : ¬ (j : Int) < (s.size : Int) := by omega
    have el : decide ((j : Int) < (s.size : Int)) = false := decide_eq_false hlt'
    have hbo : bat s j = 256 := bat_out hlt
    have HN : Hid (RS w1 rb s (gotI s i c) lv bad er at_ dep) := by rw [HGI.out, hbo, if_neg (by omega)]; exact HR.out
    have HE : Hid (isAt s i c = false) := by show _ = _; rw [HIA.out, hbo]; simp; omega
    clear hbo HR
    go_wp2_with fail
    go_quiet (fail)
    go_wp2
    go_ret
    exact ⟨by rw [HE.out]; rfl, HN.out.drewN _, gr_trans HG.out (gr_drewN _ _ _)⟩

end Go.Proofs.YtnkebfmlaliddaaGreatDoor

namespace Go.Proofs.YtnkebfmlaliddaaGreatDoor
open Go.RowKit
set_option linter.unusedVariables false

set_option maxRecDepth 100000 in
set_option maxHeartbeats 2000000 in
theorem got_bad (rb : Nat) (s : ByteArray) (i : Nat) (lv : Value) (bad er at_ dep : Int) (c : Nat) (w : World) (h : RS w rb s i lv bad er at_ dep) (hs : s.size ≤ 1099511627776) (hi : i ≤ s.size) (hb : 0 ≤ bad) :
    Calls Tryz.prog 78 #[.pointer (some ⟨rb, 0, none⟩), .int .u8 (c : Int)] w fun e w' => e = .returned (.bool false) ∧ RS w' rb s (sk s i) lv bad er at_ dep ∧ w.grownBy w' (some rb) := by
  have CS : Hid (Calls Tryz.prog 20 #[.pointer (some ⟨rb, 0, none⟩)] w fun e w' => e = .returned (.tuple #[]) ∧ RS w' rb s (sk s i) lv bad er at_ dep ∧ w.grownBy w' (some rb)) := skip_any rb s i lv bad er at_ dep w h hs hi
  clear h
  go_enter Tryz.func78, Tryz.ntmps78
  go_wp2_with fail
  refine CS.out.mono ?_
  rintro e w1 ⟨rfl, h1, g1⟩
  have HR : Hid (RS w1 rb s (sk s i) lv bad er at_ dep) := h1
  have HG : Hid (w.grownBy w1 (some rb)) := g1
  have c3 := h1.c3
  have hb' : ¬ bad < 0 := by omega
  have eb : decide (bad < 0) = false := decide_eq_false hb'
  clear h1 g1 CS
  go_wp2_with fail
  go_quiet (fail)
  go_wp2
  go_ret
  exact ⟨rfl, HR.out.drewN _, gr_trans HG.out (gr_drewN _ _ _)⟩

/-- The fault behind must. -/
def mustB (s : ByteArray) (i c : Nat) (bad : Int) : Int := if isAt s i c then bad else (sk s i : Int)

set_option maxRecDepth 100000 in
set_option maxHeartbeats 2000000 in
theorem must_any (rb : Nat) (s : ByteArray) (i : Nat) (lv : Value) (bad er at_ dep : Int) (c : Nat) (w : World) (h : RS w rb s i lv bad er at_ dep) (hs : s.size ≤ 1099511627776) (hi : i ≤ s.size) (hc : c < 256) (hb : bad < 0) :
    Calls Tryz.prog 51 #[.pointer (some ⟨rb, 0, none⟩), .int .u8 (c : Int)] w fun e w' => e = .returned (.tuple #[]) ∧ RS w' rb s (gotI s i c) lv (mustB s i c bad) er at_ dep ∧ w.grownBy w' (some rb) := by
  have CG : Hid (Calls Tryz.prog 78 #[.pointer (some ⟨rb, 0, none⟩), .int .u8 (c : Int)] w fun e w' => e = .returned (.bool (isAt s i c)) ∧ RS w' rb s (gotI s i c) lv bad er at_ dep ∧ w.grownBy w' (some rb)) := got_any rb s i lv bad er at_ dep c w h hs hi hc hb
  obtain ⟨ia, hia⟩ : ∃ x, isAt s i c = x := ⟨_, rfl⟩
  obtain ⟨gi, hgi⟩ : ∃ x, gotI s i c = x := ⟨_, rfl⟩
  have HM : Hid (mustB s i c bad = if ia then bad else (sk s i : Int)) := by show _ = _; unfold mustB; rw [hia]
  have HGI : Hid (ia = false → gi = sk s i) := by
    intro e
    rw [← hgi]; unfold gotI
    rw [← hia] at e
    unfold isAt at e
    rw [if_neg (by simpa using e)]
  rw [hia, hgi] at CG
  rw [hgi]
  clear h hia hgi
  go_enter Tryz.func51, Tryz.ntmps51
  go_wp2_with fail
  refine CG.out.mono ?_
  rintro e w1 ⟨rfl, h1, g1⟩
  have HG : Hid (w.grownBy w1 (some rb)) := g1
  have c1 := h1.c1
  have HR : Hid (RS w1 rb s gi lv bad er at_ dep) := h1
  have CF : Hid (Calls Tryz.prog 21 #[.pointer (some ⟨rb, 0, none⟩), .int .i64 (gi : Int)] w1 fun e w' => e = .returned (.tuple #[]) ∧ RS w' rb s gi lv (badI bad gi) er at_ dep ∧ w1.grownBy w' (some rb)) := fail_any rb s gi lv bad er at_ dep gi w1 h1
  clear h1 g1 CG
  cases ia with
  | true =>
    have HE : Hid (RS w1 rb s gi lv (mustB s i c bad) er at_ dep) := by rw [HM.out]; exact HR.out
    clear CF HR
    go_wp2
    go_end0
    exact ⟨rfl, HE.out, HG.out⟩
  | false =>
    have HE : Hid (badI bad (gi : Int) = mustB s i c bad) := by
      show _ = _
      rw [HM.out, HGI.out rfl]; unfold badI; rw [if_pos hb]; rfl
    clear HR
    go_wp2_with fail
    refine CF.out.mono ?_
    rintro e w2 ⟨rfl, h2, g2⟩
    have H2 : Hid (RS w2 rb s gi lv (mustB s i c bad) er at_ dep) := by rw [← HE.out]; exact h2
    have HG2 : Hid (w.grownBy w2 (some rb)) := gr_trans HG.out g2
    clear h2 g2
    go_wp2
    go_end0
    exact ⟨rfl, H2.out, HG2.out⟩

set_option maxRecDepth 100000 in
set_option maxHeartbeats 2000000 in
theorem must_bad (rb : Nat) (s : ByteArray) (i : Nat) (lv : Value) (bad er at_ dep : Int) (c : Nat) (w : World) (h : RS w rb s i lv bad er at_ dep) (hs : s.size ≤ 1099511627776) (hi : i ≤ s.size) (hb : 0 ≤ bad) :
    Calls Tryz.prog 51 #[.pointer (some ⟨rb, 0, none⟩), .int .u8 (c : Int)] w fun e w' => e = .returned (.tuple #[]) ∧ RS w' rb s (sk s i) lv bad er at_ dep ∧ w.grownBy w' (some rb) := by
  have CG : Hid (Calls Tryz.prog 78 #[.pointer (some ⟨rb, 0, none⟩), .int .u8 (c : Int)] w fun e w' => e = .returned (.bool false) ∧ RS w' rb s (sk s i) lv bad er at_ dep ∧ w.grownBy w' (some rb)) := got_bad rb s i lv bad er at_ dep c w h hs hi hb
  obtain ⟨gi, hgi⟩ : ∃ x, sk s i = x := ⟨_, rfl⟩
  rw [hgi] at CG ⊢
  clear h hgi
  go_enter Tryz.func51, Tryz.ntmps51
  go_wp2_with fail
  refine CG.out.mono ?_
  rintro e w1 ⟨rfl, h1, g1⟩
  have HG : Hid (w.grownBy w1 (some rb)) := g1
  have c1 := h1.c1
  have CF : Hid (Calls Tryz.prog 21 #[.pointer (some ⟨rb, 0, none⟩), .int .i64 (gi : Int)] w1 fun e w' => e = .returned (.tuple #[]) ∧ RS w' rb s gi lv (badI bad gi) er at_ dep ∧ w1.grownBy w' (some rb)) := fail_any rb s gi lv bad er at_ dep gi w1 h1
  have HE : Hid (badI bad (gi : Int) = bad) := by show _ = _; unfold badI; rw [if_neg (by omega)]
  clear h1 g1 CG
  go_wp2_with fail
  refine CF.out.mono ?_
  rintro e w2 ⟨rfl, h2, g2⟩
  have H2 : Hid (RS w2 rb s gi lv bad er at_ dep) := by have := h2; rw [HE.out] at this; exact this
  have HG2 : Hid (w.grownBy w2 (some rb)) := gr_trans HG.out g2
  clear h2 g2
  go_wp2
  go_end0
  exact ⟨rfl, H2.out, HG2.out⟩

/-- The first other fault: the first place counts. -/
def wrE (er at_ e a : Int) : Int := if at_ < 0 ∨ a < at_ then e else er
def wrA (at_ a : Int) : Int := if at_ < 0 ∨ a < at_ then a else at_

set_option maxRecDepth 100000 in
set_option maxHeartbeats 2000000 in
theorem wrong_any (rb : Nat) (s : ByteArray) (i : Nat) (lv : Value) (bad er at_ dep : Int) (e a : Int) (w : World) (h : RS w rb s i lv bad er at_ dep) :
    Calls Tryz.prog 48 #[.pointer (some ⟨rb, 0, none⟩), .int .i64 e, .int .i64 a] w fun r w' => r = .returned (.tuple #[]) ∧ RS w' rb s i lv bad (wrE er at_ e a) (wrA at_ a) dep ∧ w.grownBy w' (some rb) := by
  have c5 := h.c5
  have c4 := h.c4
  have f4 := h.fz 4
  have f5 := h.fz 5
  have HR : Hid (RS w rb s i lv bad er at_ dep) := h
  clear h
  by_cases hc : at_ < 0 ∨ a < at_
  · have HN : Hid (RS ((w.setCell ⟨rb, 4, none⟩ (.int .i64 e)).setCell ⟨rb, 5, none⟩ (.int .i64 a)) rb s i lv bad (wrE er at_ e a) (wrA at_ a) dep) := by unfold wrE wrA; rw [if_pos hc, if_pos hc]; exact HR.out.setErr e a
    have HG : Hid (w.grownBy ((w.setCell ⟨rb, 4, none⟩ (.int .i64 e)).setCell ⟨rb, 5, none⟩ (.int .i64 a)) (some rb)) := gr_trans (gr_set _ _ _ _) (gr_set _ _ _ _)
    by_cases h1 : at_ < 0
    · clear hc
      go_enter Tryz.func48, Tryz.ntmps48
      go_wp2
      go_end0
      exact ⟨rfl, HN.out, HG.out⟩
    · have h2 : a < at_ := by omega
      clear hc
      go_enter Tryz.func48, Tryz.ntmps48
      go_wp2
      go_end0
      exact ⟨rfl, HN.out, HG.out⟩
  · have HN : Hid (RS w rb s i lv bad (wrE er at_ e a) (wrA at_ a) dep) := by unfold wrE wrA; rw [if_neg hc, if_neg hc]; exact HR.out
    have h1 : ¬ at_ < 0 := by omega
    have h2 : ¬ a < at_ := by omega
    clear hc
    go_enter Tryz.func48, Tryz.ntmps48
    go_wp2
    go_end0
    exact ⟨rfl, HN.out, gr_refl _ _⟩

end Go.Proofs.YtnkebfmlaliddaaGreatDoor

namespace Go.Proofs.YtnkebfmlaliddaaGreatDoor
open Go.RowKit
set_option linter.unusedVariables false

theorem ext_self (s : ByteArray) (k : Nat) : s.extract k k = ByteArray.empty := by
  apply ByteArray.ext
  simp
/-- The fault behind a word: where none stands. -/
def wordB (s : ByteArray) (i : Nat) (bad : Int) : Int := if run letter s (sk s i) = sk s i then (sk s i : Int) else bad

set_option maxRecDepth 100000 in
set_option maxHeartbeats 4000000 in
theorem word_any (rb : Nat) (s : ByteArray) (i : Nat) (lv : Value) (bad er at_ dep : Int) (w : World) (h : RS w rb s i lv bad er at_ dep) (hs : s.size ≤ 1099511627776) (hi : i ≤ s.size) (hb : bad < 0) :
    Calls Tryz.prog 46 #[.pointer (some ⟨rb, 0, none⟩)] w fun e w' => e = .returned (.string (s.extract (sk s i) (run letter s (sk s i)))) ∧ RS w' rb s (run letter s (sk s i)) lv (wordB s i bad) er at_ dep ∧ w.grownBy w' (some rb) := by
  have CS : Hid (Calls Tryz.prog 20 #[.pointer (some ⟨rb, 0, none⟩)] w fun e w' => e = .returned (.tuple #[]) ∧ RS w' rb s (sk s i) lv bad er at_ dep ∧ w.grownBy w' (some rb)) := skip_any rb s i lv bad er at_ dep w h hs hi
  obtain ⟨j, hj⟩ : ∃ j, sk s i = j := ⟨_, rfl⟩
  have hjs := sk_le s i hi
  have HWB : Hid (wordB s i bad = if run letter s j = j then (j : Int) else bad) := by show _ = _; unfold wordB; rw [hj]
  rw [hj] at CS hjs ⊢
  clear h hj
  go_enter Tryz.func46, Tryz.ntmps46
  go_wp2_with fail
  refine CS.out.mono ?_
  rintro e w1 ⟨rfl, h1, g1⟩
  have HR : Hid (RS w1 rb s j lv bad er at_ dep) := h1
  have HG1 : Hid (w.grownBy w1 (some rb)) := g1
  have d1 := h1.c1
  have eb : decide (bad < 0) = true := decide_eq_true hb
  clear h1 g1 CS
  go_wp2
  clear d1
  go_loopw [10] (fun _ wr => ∃ k : Nat, j ≤ k ∧ k ≤ s.size ∧ Hid (run letter s k = run letter s j) ∧ Hid (RS wr rb s k lv bad er at_ dep) ∧ Hid (w.grownBy wr (some rb))) (fun _ wr => s.size - rdI wr rb)
  case atStart => exact ⟨j, Nat.le_refl _, hjs, rfl, HR.out, HG1.out⟩
  case round =>
    obtain ⟨k, hjk, hk, HK, HS, HG⟩ := hrel
    have hs1 := HS.out
    have c0 := hs1.c0
    have c1 := hs1.c1
    have c3 := hs1.c3
    have f1 := hs1.fz 1
    have HRD : Hid (rdI wr rb = k) := hs1.rdI
    by_cases hgo : letter (bat s k) = true
    · have hlt : k < s.size := by
        by_cases e : k < s.size
        · exact e
        · rw [bat_out e] at hgo; cases hgo
      have hlt' : (k : Int) < (s.size : Int) := by omega
      have el : decide ((k : Int) < (s.size : Int)) = true := decide_eq_true hlt'
      obtain ⟨x, hx⟩ : ∃ x, s[k].toNat = x := ⟨_, rfl⟩
      have hbx : bat s k = x := by rw [bat_in hlt, hx]
      have HK2 : Hid (run letter s (k + 1) = run letter s j) := by rw [← HK.out]; exact (run_step hlt hgo).symm
      rw [hbx] at hgo
      unfold letter at hgo
      simp only [Bool.and_eq_true, decide_eq_true_eq] at hgo
      obtain ⟨l1, l2⟩ := hgo
      have e1 : decide ((97 : Int) ≤ (x : Int)) = true := decide_eq_true (by omega)
      have e2 : decide ((x : Int) ≤ 122) = true := decide_eq_true (by omega)
      have HN : Hid (∀ q, RS ((wr.drewN q).setCell ⟨rb, 1, none⟩ (.int .i64 ((k : Int) + 1))) rb s (k + 1) lv bad er at_ dep) := fun q => by
        have := (HS.out.drewN q).setI (k + 1)
        rw [show ((k + 1 : Nat) : Int) = (k : Int) + 1 by omega] at this; exact this
      clear hs1 HK HS hbx
      go_wp2_with fail
      go_quiet (fail)
      go_wp2
      go_roundw
      case rel => exact ⟨k + 1, by omega, by omega, HK2.out, HN.out _, gr_trans (gr_trans HG.out (gr_drewN _ _ _)) (gr_set _ _ _ _)⟩
      case measure => rw [(HN.out _).rdI, HRD.out]; omega
    · have hrk : run letter s j = k := by rw [← HK.out]; exact run_stop (by simpa using hgo)
      have HRK : Hid (run letter s j = k) := hrk
      have CF : Hid (∀ (g : Nat) W, RS W rb s g lv bad er at_ dep → Calls Tryz.prog 21 #[.pointer (some ⟨rb, 0, none⟩), .int .i64 (g : Int)] W fun e w' => e = .returned (.tuple #[]) ∧ RS w' rb s g lv (badI bad g) er at_ dep ∧ W.grownBy w' (some rb)) := fun g W h => fail_any rb s g lv bad er at_ dep g W h
      clear hrk hs1 HK
      by_cases hlt : k < s.size
      · have hlt' : (k : Int) < (s.size : Int) := by omega
        have el : decide ((k : Int) < (s.size : Int)) = true := decide_eq_true hlt'
        obtain ⟨x, hx⟩ : ∃ x, s[k].toNat = x := ⟨_, rfl⟩
        have hbx : bat s k = x := by rw [bat_in hlt, hx]
        rw [hbx] at hgo
        unfold letter at hgo
        simp only [Bool.and_eq_true, decide_eq_true_eq] at hgo
        clear hbx
        by_cases l1 : 97 ≤ x
        · have l2 : ¬ x ≤ 122 := fun e => hgo ⟨l1, e⟩
          have e1 : decide ((97 : Int) ≤ (x : Int)) = true := decide_eq_true (by omega)
          have e2 : decide ((x : Int) ≤ 122) = false := decide_eq_false (by omega)
          clear hgo
          go_wp2_with fail
          go_quiet (fail)
          by_cases hkj : k = j
          · subst hkj
            have HE : Hid (badI bad (k : Int) = wordB s i bad) := by show _ = _; rw [HWB.out, if_pos HRK.out]; unfold badI; rw [if_pos hb]
            go_wp2_with fail
            refine (CF.out k _ (HS.out.drewN _)).mono ?_
            rintro e w2 ⟨rfl, h2, g2⟩
            have H2 : Hid (RS w2 rb s k lv (wordB s i bad) er at_ dep) := by have := h2; rw [HE.out] at this; exact this
            have HG2 : Hid (w.grownBy w2 (some rb)) := gr_trans (gr_trans HG.out (gr_drewN _ _ _)) g2
            have d0 := h2.c0
            have d1 := h2.c1
            clear h2 g2 c0 c1 c3 f1
            go_wp2_with fail
            go_quiet (fail)
            go_wp2
            go_ret
            exact ⟨by rw [HRK.out, ext_self]; rfl, by rw [HRK.out]; exact H2.out.drewN _, gr_trans HG2.out (gr_drewN _ _ _)⟩
          · have ewb : wordB s i bad = bad := by rw [HWB.out, if_neg (by rw [HRK.out]; exact hkj)]
            have HE : Hid (RS wr rb s k lv (wordB s i bad) er at_ dep) := by rw [ewb]; exact HS.out
            clear ewb
            have hkj' : ((k : Int) == (j : Int)) = false := by simp; omega
            have hjk' : (j : Int) ≤ (k : Int) := by omega
            have hks : (k : Int) ≤ (s.size : Int) := by omega
            go_wp2_with fail
            go_quiet (fail)
            go_wp2
            go_ret
            exact ⟨by rw [HRK.out]; rfl, by rw [HRK.out]; exact (HE.out.drewN _).drewN _, gr_trans (gr_trans HG.out (gr_drewN _ _ _)) (gr_drewN _ _ _)⟩
        · have e1 : decide ((97 : Int) ≤ (x : Int)) = false := decide_eq_false (by omega)
          clear hgo
          go_wp2_with fail
          go_quiet (fail)
          by_cases hkj : k = j
          · subst hkj
            have HE : Hid (badI bad (k : Int) = wordB s i bad) := by show _ = _; rw [HWB.out, if_pos HRK.out]; unfold badI; rw [if_pos hb]
            go_wp2_with fail
            refine (CF.out k _ (HS.out.drewN _)).mono ?_
            rintro e w2 ⟨rfl, h2, g2⟩
            have H2 : Hid (RS w2 rb s k lv (wordB s i bad) er at_ dep) := by have := h2; rw [HE.out] at this; exact this
            have HG2 : Hid (w.grownBy w2 (some rb)) := gr_trans (gr_trans HG.out (gr_drewN _ _ _)) g2
            have d0 := h2.c0
            have d1 := h2.c1
            clear h2 g2 c0 c1 c3 f1
            go_wp2_with fail
            go_quiet (fail)
            go_wp2
            go_ret
            exact ⟨by rw [HRK.out, ext_self]; rfl, by rw [HRK.out]; exact H2.out.drewN _, gr_trans HG2.out (gr_drewN _ _ _)⟩
          · have ewb : wordB s i bad = bad := by rw [HWB.out, if_neg (by rw [HRK.out]; exact hkj)]
            have HE : Hid (RS wr rb s k lv (wordB s i bad) er at_ dep) := by rw [ewb]; exact HS.out
            clear ewb
            have hkj' : ((k : Int) == (j : Int)) = false := by simp; omega
            have hjk' : (j : Int) ≤ (k : Int) := by omega
            have hks : (k : Int) ≤ (s.size : Int) := by omega
            go_wp2_with fail
            go_quiet (fail)
            go_wp2
            go_ret
            exact ⟨by rw [HRK.out]; rfl, by rw [HRK.out]; exact (HE.out.drewN _).drewN _, gr_trans (gr_trans HG.out (gr_drewN _ _ _)) (gr_drewN _ _ _)⟩
      · have hlt' : ¬ (k : Int) < (s.size : Int) := by omega
        have el : decide ((k : Int) < (s.size : Int)) = false := decide_eq_false hlt'
        clear hgo
        go_wp2_with fail
        go_quiet (fail)
        by_cases hkj : k = j
        · subst hkj
          have HE : Hid (badI bad (k : Int) = wordB s i bad) := by show _ = _; rw [HWB.out, if_pos HRK.out]; unfold badI; rw [if_pos hb]
          go_wp2_with fail
          refine (CF.out k _ (HS.out.drewN _)).mono ?_
          rintro e w2 ⟨rfl, h2, g2⟩
          have H2 : Hid (RS w2 rb s k lv (wordB s i bad) er at_ dep) := by have := h2; rw [HE.out] at this; exact this
          have HG2 : Hid (w.grownBy w2 (some rb)) := gr_trans (gr_trans HG.out (gr_drewN _ _ _)) g2
          have d0 := h2.c0
          have d1 := h2.c1
          clear h2 g2 c0 c1 c3 f1
          go_wp2_with fail
          go_quiet (fail)
          go_wp2
          go_ret
          exact ⟨by rw [HRK.out, ext_self]; rfl, by rw [HRK.out]; exact H2.out.drewN _, gr_trans HG2.out (gr_drewN _ _ _)⟩
        · have ewb : wordB s i bad = bad := by rw [HWB.out, if_neg (by rw [HRK.out]; exact hkj)]
          have HE : Hid (RS wr rb s k lv (wordB s i bad) er at_ dep) := by rw [ewb]; exact HS.out
          clear ewb
          have hkj' : ((k : Int) == (j : Int)) = false := by simp; omega
          have hjk' : (j : Int) ≤ (k : Int) := by omega
          have hks : (k : Int) ≤ (s.size : Int) := by omega
          go_wp2_with fail
          go_quiet (fail)
          go_wp2
          go_ret
          exact ⟨by rw [HRK.out]; rfl, by rw [HRK.out]; exact (HE.out.drewN _).drewN _, gr_trans (gr_trans HG.out (gr_drewN _ _ _)) (gr_drewN _ _ _)⟩

end Go.Proofs.YtnkebfmlaliddaaGreatDoor

namespace Go.Proofs.YtnkebfmlaliddaaGreatDoor
open Go.RowKit
set_option linter.unusedVariables false

set_option maxRecDepth 100000 in
set_option maxHeartbeats 4000000 in
theorem word_bad (rb : Nat) (s : ByteArray) (i : Nat) (lv : Value) (bad er at_ dep : Int) (w : World) (h : RS w rb s i lv bad er at_ dep) (hs : s.size ≤ 1099511627776) (hi : i ≤ s.size) (hb : 0 ≤ bad) :
    Calls Tryz.prog 46 #[.pointer (some ⟨rb, 0, none⟩)] w fun e w' => e = .returned (.string ByteArray.empty) ∧ RS w' rb s (sk s i) lv bad er at_ dep ∧ w.grownBy w' (some rb) := by
  have CS : Hid (Calls Tryz.prog 20 #[.pointer (some ⟨rb, 0, none⟩)] w fun e w' => e = .returned (.tuple #[]) ∧ RS w' rb s (sk s i) lv bad er at_ dep ∧ w.grownBy w' (some rb)) := skip_any rb s i lv bad er at_ dep w h hs hi
  obtain ⟨j, hj⟩ : ∃ j, sk s i = j := ⟨_, rfl⟩
  have hjs := sk_le s i hi
  rw [hj] at CS hjs ⊢
  clear h hj
  go_enter Tryz.func46, Tryz.ntmps46
  go_wp2_with fail
  refine CS.out.mono ?_
  rintro e w1 ⟨rfl, h1, g1⟩
  have HR : Hid (RS w1 rb s j lv bad er at_ dep) := h1
  have HG1 : Hid (w.grownBy w1 (some rb)) := g1
  have d1 := h1.c1
  have hb' : ¬ bad < 0 := by omega
  have eb : decide (bad < 0) = false := decide_eq_false hb'
  clear h1 g1 CS
  go_wp2
  clear d1
  go_loopw [10] (fun _ wr => Hid (RS wr rb s j lv bad er at_ dep) ∧ Hid (w.grownBy wr (some rb))) (fun _ wr => 0)
  case atStart => exact ⟨HR.out, HG1.out⟩
  case round =>
    obtain ⟨HS, HG⟩ := hrel
    have hs1 := HS.out
    have c0 := hs1.c0
    have c1 := hs1.c1
    have c3 := hs1.c3
    have CF : Hid (∀ W, RS W rb s j lv bad er at_ dep → Calls Tryz.prog 21 #[.pointer (some ⟨rb, 0, none⟩), .int .i64 (j : Int)] W fun e w' => e = .returned (.tuple #[]) ∧ RS w' rb s j lv (badI bad j) er at_ dep ∧ W.grownBy w' (some rb)) := fun W h => fail_any rb s j lv bad er at_ dep j W h
    have HE : Hid (badI bad (j : Int) = bad) := by show _ = _; unfold badI; rw [if_neg (by omega)]
    clear hs1
    go_wp2_with fail
    go_quiet (fail)
    go_wp2_with fail
    refine (CF.out _ (HS.out.drewN _)).mono ?_
    rintro e w2 ⟨rfl, h2, g2⟩
    have H2 : Hid (RS w2 rb s j lv bad er at_ dep) := by have := h2; rw [HE.out] at this; exact this
    have HG2 : Hid (w.grownBy w2 (some rb)) := gr_trans (gr_trans HG.out (gr_drewN _ _ _)) g2
    have d0 := h2.c0
    have d1 := h2.c1
    clear h2 g2 c0 c1 c3
    go_wp2_with fail
    go_quiet (fail)
    go_wp2
    go_ret
    exact ⟨rfl, H2.out.drewN _, gr_trans HG2.out (gr_drewN _ _ _)⟩

theorem str_ne {a b : ByteArray} (h : ¬ a = b) : (a.toList == b.toList) = false := by
  rw [beq_eq_false_iff_ne]
  intro e
  rw [ByteArray.toList_eq, ByteArray.toList_eq] at e
  exact h (ByteArray.ext (Array.toList_inj.1 e))

/-- The first place of a text in a list; -1: nowhere. -/
def findF : List ByteArray → ByteArray → Nat → Int
  | [], _, _ => -1
  | a :: r, x, k => if a = x then (k : Int) else findF r x (k + 1)
theorem findF_bd (x : ByteArray) : ∀ (ws : List ByteArray) (k : Nat), findF ws x k = -1 ∨ ((k : Int) ≤ findF ws x k ∧ findF ws x k < (k : Int) + ws.length)
  | [], k => .inl rfl
  | a :: r, k => by
    unfold findF
    by_cases e : a = x
    · right; simp only [e, if_true]; simp; omega
    · simp only [e, if_false]
      rcases findF_bd x r (k + 1) with h | h
      · exact .inl h
      · right; simp; omega

set_option maxRecDepth 100000 in
set_option maxHeartbeats 2000000 in
theorem find_any (ws : List ByteArray) (x : ByteArray) (blk off cap n : Nat) (w : World) (hb : blk < w.heap.size) (hc : ∀ j, j < ws.length → w.cell? ⟨blk, off + j, none⟩ = some (.string (ws[j]?.getD ByteArray.empty))) (hn : ws.length = n) (hn2 : n ≤ 1099511627776) :
    Calls Tryz.prog 47 #[.slice (some ⟨blk, off, none⟩) n cap, .string x] w fun e w' => e = .returned (.int .i64 (findF ws x 0)) ∧ w' = w := by
  have HC : Hid (∀ j, j < ws.length → w.cell? ⟨blk, off + j, none⟩ = some (.string (ws[j]?.getD ByteArray.empty))) := hc
  have HN : Hid (ws.length = n) := hn
  clear hc hn
  go_enter Tryz.func47, Tryz.ntmps47
  go_wp2
  go_loop [5] (fun i => ∃ k : Nat, k ≤ n ∧ i = .int .i64 k ∧ Hid (findF ws x 0 = findF (ws.drop k) x k)) (fun i => n - (intOf i).toNat)
  case atStart => exact ⟨0, Nat.zero_le _, rfl, by show _ = _; rw [List.drop_zero]⟩
  case round =>
    obtain ⟨k, hk, rfl, HF⟩ := hrel
    by_cases hlt : k < n
    · have hlt' : (k : Int) < (n : Int) := by omega
      have hkw : k < ws.length := by rw [HN.out]; exact hlt
      have hcell := HC.out k hkw
      obtain ⟨y, hy⟩ : ∃ y, ws[k]?.getD ByteArray.empty = y := ⟨_, rfl⟩
      rw [hy] at hcell
      have hdrop : ws.drop k = y :: ws.drop (k + 1) := by rw [← hy, List.getElem?_eq_getElem hkw]; exact List.drop_eq_getElem_cons hkw
      have HF2 : Hid (findF ws x 0 = if y = x then (k : Int) else findF (ws.drop (k + 1)) x (k + 1)) := by show _ = _; rw [HF.out, hdrop]; rfl
      clear hdrop hy HF hkw
      by_cases e : y = x
      · have HE : Hid (findF ws x 0 = (k : Int)) := by show _ = _; rw [HF2.out, if_pos e]
        subst e
        clear HF2
        go_wp2
        go_ret
        exact ⟨by rw [HE.out]; rfl, rfl⟩
      · have HE : Hid (findF ws x 0 = findF (ws.drop (k + 1)) x (k + 1)) := by show _ = _; rw [HF2.out, if_neg e]
        have e1 : (y.toList == x.toList) = false := str_ne e
        clear HF2
        go_wp2
        go_round
        case rel => exact ⟨k + 1, by omega, by go_num, HE.out⟩
        case measure => simp [intOf]; omega
    · have hlt' : ¬ (k : Int) < (n : Int) := by omega
      have HE : Hid (findF ws x 0 = -1) := by show _ = _; rw [HF.out, List.drop_eq_nil_of_le (by rw [HN.out]; omega)]; rfl
      clear HF
      go_wp2
      go_ret
      exact ⟨by rw [HE.out]; rfl, rfl⟩

end Go.Proofs.YtnkebfmlaliddaaGreatDoor

namespace Go.Proofs.YtnkebfmlaliddaaGreatDoor
open Go.RowKit
set_option linter.unusedVariables false

set_option maxRecDepth 100000 in
set_option maxHeartbeats 2000000 in
theorem index_some (ws : List ByteArray) (x : ByteArray) (blk off cap n : Nat) (w : World) (hb : blk < w.heap.size) (hc : ∀ j, j < ws.length → w.cell? ⟨blk, off + j, none⟩ = some (.string (ws[j]?.getD ByteArray.empty))) (hn : ws.length = n) (hn2 : n ≤ 1099511627776) :
    Calls Tryz.prog 129 #[.slice (some ⟨blk, off, none⟩) n cap, .string x] w fun e w' => e = .returned (.int .i64 (findF ws x 0)) ∧ w' = w := by
  have HC : Hid (∀ j, j < ws.length → w.cell? ⟨blk, off + j, none⟩ = some (.string (ws[j]?.getD ByteArray.empty))) := hc
  have HN : Hid (ws.length = n) := hn
  clear hc hn
  go_enter Tryz.func129, Tryz.ntmps129
  go_wp2
  go_loop [8] (fun i => ∃ k : Nat, k ≤ n ∧ i = .int .i64 k ∧ Hid (findF ws x 0 = findF (ws.drop k) x k)) (fun i => n - (intOf i).toNat)
  case atStart => exact ⟨0, Nat.zero_le _, rfl, by show _ = _; rw [List.drop_zero]⟩
  case round =>
    obtain ⟨k, hk, rfl, HF⟩ := hrel
    by_cases hlt : k < n
    · have hlt' : (k : Int) < (n : Int) := by omega
      have hkw : k < ws.length := by rw [HN.out]; exact hlt
      have hcell := HC.out k hkw
      obtain ⟨y, hy⟩ : ∃ y, ws[k]?.getD ByteArray.empty = y := ⟨_, rfl⟩
      rw [hy] at hcell
      have hdrop : ws.drop k = y :: ws.drop (k + 1) := by rw [← hy, List.getElem?_eq_getElem hkw]; exact List.drop_eq_getElem_cons hkw
      have HF2 : Hid (findF ws x 0 = if y = x then (k : Int) else findF (ws.drop (k + 1)) x (k + 1)) := by show _ = _; rw [HF.out, hdrop]; rfl
      clear hdrop hy HF hkw
      by_cases e : y = x
      · have HE : Hid (findF ws x 0 = (k : Int)) := by show _ = _; rw [HF2.out, if_pos e]
        subst e
        clear HF2
        go_wp2
        go_ret
        exact ⟨by rw [HE.out]; rfl, rfl⟩
      · have HE : Hid (findF ws x 0 = findF (ws.drop (k + 1)) x (k + 1)) := by show _ = _; rw [HF2.out, if_neg e]
        have e1 : (x.toList == y.toList) = false := str_ne (fun h => e h.symm)
        clear HF2
        go_wp2
        go_round
        case rel => exact ⟨k + 1, by omega, by go_num, HE.out⟩
        case measure => simp [intOf]; omega
    · have hlt' : ¬ (k : Int) < (n : Int) := by omega
      have HE : Hid (findF ws x 0 = -1) := by show _ = _; rw [HF.out, List.drop_eq_nil_of_le (by rw [HN.out]; omega)]; rfl
      clear HF
      go_wp2
      go_ret
      exact ⟨by rw [HE.out]; rfl, rfl⟩

set_option maxRecDepth 100000 in
theorem index_none (x : ByteArray) (p : Option Addr) (cap : Nat) (w : World) :
    Calls Tryz.prog 129 #[.slice p 0 cap, .string x] w fun e w' => e = .returned (.int .i64 (-1)) ∧ w' = w := by
  go_enter Tryz.func129, Tryz.ntmps129
  go_wp2
  go_loop [8] (fun i => i = .int .i64 0) (fun i => 0)
  case atStart => rfl
  case round =>
    subst hrel
    go_wp2
    go_ret
    exact ⟨rfl, rfl⟩

/-- Texts in memory. -/
def Txts (W : World) (v : Value) (ws : List ByteArray) : Prop := ∃ p c, v = .slice p ws.length c ∧ (ws = [] ∨ ∃ blk, p = some ⟨blk, 0, none⟩ ∧ blk < W.heap.size ∧ ∀ j, j < ws.length → W.cell? ⟨blk, 0 + j, none⟩ = some (.string (ws[j]?.getD ByteArray.empty)))

theorem index_any (ws : List ByteArray) (x : ByteArray) (v : Value) (w : World) (h : Txts w v ws) (hn : ws.length ≤ 1099511627776) :
    Calls Tryz.prog 129 #[v, .string x] w fun e w' => e = .returned (.int .i64 (findF ws x 0)) ∧ w' = w := by
  obtain ⟨p, c, rfl, rfl | ⟨blk, rfl, hb, hc⟩⟩ := h
  · exact index_none x p c w
  · exact index_some ws x blk 0 c _ w hb hc rfl hn

set_option maxRecDepth 100000 in
theorem contains_any (ws : List ByteArray) (x : ByteArray) (v : Value) (w : World) (h : Txts w v ws) (hn : ws.length ≤ 1099511627776) :
    Calls Tryz.prog 114 #[v, .string x] w fun e w' => e = .returned (.bool (decide (0 ≤ findF ws x 0))) ∧ w' = w := by
  have CI : Hid (Calls Tryz.prog 129 #[v, .string x] w fun e w' => e = .returned (.int .i64 (findF ws x 0)) ∧ w' = w) := index_any ws x v w h hn
  obtain ⟨p, c, rfl, _⟩ := h
  obtain ⟨r, hr⟩ : ∃ r, findF ws x 0 = r := ⟨_, rfl⟩
  rw [hr] at CI ⊢
  clear hr
  go_enter Tryz.func114, Tryz.ntmps114
  go_wp2_with fail
  refine CI.out.mono ?_
  rintro e w1 ⟨rfl, hw⟩
  obtain rfl := hw.symm
  go_wp2
  go_ret
  exact ⟨rfl, rfl⟩

end Go.Proofs.YtnkebfmlaliddaaGreatDoor
