/-
  Bytes of a text by their place; the end of a run of bytes of a kind. The reference's reader in memory; its small steps.
-/
import Derived.Test.YtepeepipgkejiadGreatDoorProg
import Derived.WalkKit
import Derived.WalkSpells
import Derived.WalkLawsBesides
import Derived.RegionTactic
import Derived.BigRegion
import Derived.BigQuiet
import Derived.Deep.QuietTactic
namespace Go.Proofs.YtepeepipgkejiadGreatDoor
open Go.RowKit
set_option linter.unusedVariables false

/-- The byte at a place; 256 where there is none. -/
def bat (s : ByteArray) (i : Nat) : Nat := if h : i < s.size then s[i].toNat else 256
theorem bat_in {s : ByteArray} {i : Nat} (h : i < s.size) : bat s i = s[i].toNat := by unfold bat; rw [dif_pos h]
theorem bat_out {s : ByteArray} {i : Nat} (h : ¬ i < s.size) : bat s i = 256 := by unfold bat; rw [dif_neg h]
theorem bat_lt {s : ByteArray} {i : Nat} (h : i < s.size) : bat s i < 256 := by rw [bat_in h]; exact UInt8.toNat_lt _

def runF (p : Nat → Bool) (s : ByteArray) : Nat → Nat → Nat
  | 0, i => i
  | f + 1, i => if p (bat s i) then runF p s f (i + 1) else i
/-- The place behind all bytes of a kind that stand at i. -/
def run (p : Nat → Bool) (s : ByteArray) (i : Nat) : Nat := runF p s (s.size - i) i
theorem run_step {p : Nat → Bool} {s : ByteArray} {i : Nat} (hi : i < s.size) (h : p (bat s i) = true) : run p s i = run p s (i + 1) := by
  unfold run
  obtain ⟨f, hf⟩ : ∃ f, s.size - i = f + 1 := ⟨s.size - i - 1, by omega⟩
  rw [hf, runF, if_pos h, show s.size - (i + 1) = f by omega]
theorem run_stop {p : Nat → Bool} {s : ByteArray} {i : Nat} (h : p (bat s i) = false) : run p s i = i := by
  unfold run
  match s.size - i with
  | 0 => rfl
  | f + 1 => rw [runF, h]; rfl
theorem run_out {p : Nat → Bool} {s : ByteArray} {i : Nat} (h : ¬ i < s.size) : run p s i = i := by
  unfold run; rw [show s.size - i = 0 by omega]; rfl
theorem runF_bd (p : Nat → Bool) (s : ByteArray) : ∀ f i, i ≤ runF p s f i ∧ runF p s f i ≤ i + f
  | 0, i => ⟨Nat.le_refl _, Nat.le_refl _⟩
  | f + 1, i => by
    have := runF_bd p s f (i + 1)
    rw [runF]; split <;> omega
theorem run_ge (p : Nat → Bool) (s : ByteArray) (i : Nat) : i ≤ run p s i := (runF_bd p s _ i).1
theorem run_le (p : Nat → Bool) (s : ByteArray) (i : Nat) (hi : i ≤ s.size) : run p s i ≤ s.size := by
  have := (runF_bd p s (s.size - i) i).2
  unfold run; omega
theorem runF_end (p : Nat → Bool) (hp : p 256 = false) (s : ByteArray) : ∀ f i, s.size - i ≤ f → p (bat s (runF p s f i)) = false
  | 0, i, h => by rw [runF, bat_out (by omega)]; exact hp
  | f + 1, i, h => by
    rw [runF]
    by_cases c : p (bat s i) = true
    · rw [if_pos c]; exact runF_end p hp s f (i + 1) (by omega)
    · rw [if_neg c]; simpa using c
theorem run_end {p : Nat → Bool} (hp : p 256 = false) (s : ByteArray) (i : Nat) : p (bat s (run p s i)) = false := runF_end p hp s _ i (Nat.le_refl _)

def blank (x : Nat) : Bool := x == 32 || x == 10
def letter (x : Nat) : Bool := decide (97 ≤ x) && decide (x ≤ 122)
def digit (x : Nat) : Bool := decide (48 ≤ x) && decide (x ≤ 57)
/-- Behind blanks. -/
def sk (s : ByteArray) (i : Nat) : Nat := run blank s i
theorem sk_ge (s : ByteArray) (i : Nat) : i ≤ sk s i := run_ge _ _ _
theorem sk_le (s : ByteArray) (i : Nat) (h : i ≤ s.size) : sk s i ≤ s.size := run_le _ _ _ h
theorem sk_sk (s : ByteArray) (i : Nat) : sk s (sk s i) = sk s i := run_stop (run_end (by rfl) s i)

/-- The reference's reader at rb: the text, the place, the nodes, the first fault of the grammar, the first other one, the depth. -/
structure RS (W : World) (rb : Nat) (s : ByteArray) (i : Nat) (lv : Value) (bad er at_ dep : Int) : Prop where
  lt : rb < W.heap.size
  c0 : W.cell? ⟨rb, 0, none⟩ = some (.string s)
  c1 : W.cell? ⟨rb, 1, none⟩ = some (.int .i64 (i : Int))
  c2 : W.cell? ⟨rb, 2, none⟩ = some lv
  c3 : W.cell? ⟨rb, 3, none⟩ = some (.int .i64 bad)
  c4 : W.cell? ⟨rb, 4, none⟩ = some (.int .i64 er)
  c5 : W.cell? ⟨rb, 5, none⟩ = some (.int .i64 at_)
  c6 : W.cell? ⟨rb, 6, none⟩ = some (.int .i64 dep)
  fz : ∀ j, W.frozen? ⟨rb, j, none⟩ = false
theorem RS.below {W W' : World} {rb : Nat} {s : ByteArray} {i : Nat} {lv : Value} {bad er at_ dep : Int} (h : RS W rb s i lv bad er at_ dep) (hb : Below W.heap.size W W') : RS W' rb s i lv bad er at_ dep :=
  have k : ∀ j v, W.cell? ⟨rb, j, none⟩ = some v → W'.cell? ⟨rb, j, none⟩ = some v := fun j v e => (hb.cell (p := ⟨rb, j, none⟩) h.lt).trans e
  ⟨Nat.lt_of_lt_of_le h.lt hb.size, k _ _ h.c0, k _ _ h.c1, k _ _ h.c2, k _ _ h.c3, k _ _ h.c4, k _ _ h.c5, k _ _ h.c6, fun j => (hb.frozen (p := ⟨rb, j, none⟩) h.lt).trans (h.fz j)⟩
theorem RS.drewN {W : World} {rb : Nat} {s : ByteArray} {i : Nat} {lv : Value} {bad er at_ dep : Int} (h : RS W rb s i lv bad er at_ dep) (n : Nat) : RS (W.drewN n) rb s i lv bad er at_ dep :=
  ⟨h.lt, h.c0, h.c1, h.c2, h.c3, h.c4, h.c5, h.c6, h.fz⟩
theorem rs_other {W : World} {rb j k : Nat} {v u : Value} (hn : j ≠ k) (h : W.cell? ⟨rb, j, none⟩ = some u) : (W.setCell ⟨rb, k, none⟩ v).cell? ⟨rb, j, none⟩ = some u := by
  rw [World.cell?_setCell_other _ _ _ _ (fun e => hn (by injection e with e1 e2; exact e2.symm))]; exact h
theorem rs_same {W : World} {rb k : Nat} {v u : Value} (h : W.cell? ⟨rb, k, none⟩ = some u) : (W.setCell ⟨rb, k, none⟩ v).cell? ⟨rb, k, none⟩ = some v :=
  World.cell?_setCell_same' _ _ _ (by rw [h]; rfl)
theorem RS.setI {W : World} {rb : Nat} {s : ByteArray} {i : Nat} {lv : Value} {bad er at_ dep : Int} (h : RS W rb s i lv bad er at_ dep) (i' : Nat) : RS (W.setCell ⟨rb, 1, none⟩ (.int .i64 (i' : Int))) rb s i' lv bad er at_ dep :=
  ⟨by simpa using h.lt, rs_other (by omega) h.c0, rs_same h.c1, rs_other (by omega) h.c2, rs_other (by omega) h.c3, rs_other (by omega) h.c4, rs_other (by omega) h.c5, rs_other (by omega) h.c6, fun j => by rw [World.frozen?_setCell]; exact h.fz j⟩
theorem RS.setBad {W : World} {rb : Nat} {s : ByteArray} {i : Nat} {lv : Value} {bad er at_ dep : Int} (h : RS W rb s i lv bad er at_ dep) (b : Int) : RS (W.setCell ⟨rb, 3, none⟩ (.int .i64 b)) rb s i lv b er at_ dep :=
  ⟨by simpa using h.lt, rs_other (by omega) h.c0, rs_other (by omega) h.c1, rs_other (by omega) h.c2, rs_same h.c3, rs_other (by omega) h.c4, rs_other (by omega) h.c5, rs_other (by omega) h.c6, fun j => by rw [World.frozen?_setCell]; exact h.fz j⟩
theorem RS.setErr {W : World} {rb : Nat} {s : ByteArray} {i : Nat} {lv : Value} {bad er at_ dep : Int} (h : RS W rb s i lv bad er at_ dep) (b c : Int) : RS ((W.setCell ⟨rb, 4, none⟩ (.int .i64 b)).setCell ⟨rb, 5, none⟩ (.int .i64 c)) rb s i lv bad b c dep :=
  ⟨by simpa using h.lt, rs_other (by omega) (rs_other (by omega) h.c0), rs_other (by omega) (rs_other (by omega) h.c1), rs_other (by omega) (rs_other (by omega) h.c2), rs_other (by omega) (rs_other (by omega) h.c3), rs_other (by omega) (rs_same h.c4), rs_same (rs_other (by omega) h.c5), rs_other (by omega) (rs_other (by omega) h.c6), fun j => by rw [World.frozen?_setCell, World.frozen?_setCell]; exact h.fz j⟩

/-- Nothing but block b has turned. -/
theorem gr_refl (W : World) (b : Nat) : W.grownBy W (some b) := ⟨rfl, rfl, rfl, Nat.le_refl _, fun _ _ _ => rfl⟩
theorem gr_trans {A B C : World} {b : Nat} (h : A.grownBy B (some b)) (k : B.grownBy C (some b)) : A.grownBy C (some b) :=
  ⟨k.os.trans h.os, k.tape.trans h.tape, k.output.trans h.output, Nat.le_trans h.size k.size, fun i hi hn => (k.block i (Nat.lt_of_lt_of_le hi h.size) hn).trans (h.block i hi hn)⟩
theorem gr_set (W : World) (b i : Nat) (v : Value) : W.grownBy (W.setCell ⟨b, i, none⟩ v) (some b) :=
  ⟨rfl, rfl, rfl, by simp, fun k _ hk => heap_setCell_other _ _ _ _ (fun e => hk (by rw [e]))⟩
theorem gr_drewN (W : World) (n b : Nat) : W.grownBy (W.drewN n) (some b) := ⟨rfl, rfl, rfl, Nat.le_refl _, fun _ _ _ => rfl⟩
theorem gr_below {A B : World} {b : Nat} (h : Below A.heap.size A B) : A.grownBy B (some b) := ⟨h.os, h.tape, h.output, h.size, fun i hi _ => h.block i hi⟩

/-- The place that the reader is at. -/
def rdI (W : World) (rb : Nat) : Nat := match W.cell? ⟨rb, 1, none⟩ with
  | some (.int _ x) => x.toNat
  | _ => 0
theorem RS.rdI {W : World} {rb : Nat} {s : ByteArray} {i : Nat} {lv : Value} {bad er at_ dep : Int} (h : RS W rb s i lv bad er at_ dep) : rdI W rb = i := by
  unfold Go.Proofs.YtepeepipgkejiadGreatDoor.rdI; rw [h.c1]; simp

set_option maxRecDepth 100000 in
set_option maxHeartbeats 2000000 in
theorem skip_any (rb : Nat) (s : ByteArray) (i : Nat) (lv : Value) (bad er at_ dep : Int) (w : World) (h : RS w rb s i lv bad er at_ dep) (hs : s.size ≤ 1099511627776) (hi : i ≤ s.size) :
    Calls Tryz.prog 20 #[.pointer (some ⟨rb, 0, none⟩)] w fun e w' => e = .returned (.tuple #[]) ∧ RS w' rb s (sk s i) lv bad er at_ dep ∧ w.grownBy w' (some rb) := by
  have HR : Hid (RS w rb s i lv bad er at_ dep) := h
  clear h
  go_enter Tryz.func20, Tryz.ntmps20
  go_wp2
  go_loopw [2] (fun _ wr => ∃ k : Nat, k ≤ s.size ∧ Hid (sk s k = sk s i) ∧ Hid (RS wr rb s k lv bad er at_ dep) ∧ Hid (w.grownBy wr (some rb))) (fun _ wr => s.size - rdI wr rb)
  case atStart => exact ⟨i, hi, rfl, HR.out, gr_refl _ _⟩
  case round =>
    obtain ⟨k, hk, HK, HS, HG⟩ := hrel
    have hs1 := HS.out
    have c0 := hs1.c0
    have c1 := hs1.c1
    have f1 := hs1.fz 1
    by_cases hlt : k < s.size
    · have hlt' : (k : Int) < (s.size : Int) := by omega
      obtain ⟨x, hx⟩ : ∃ x, s[k].toNat = x := ⟨_, rfl⟩
      have hbx : bat s k = x := by rw [bat_in hlt, hx]
      by_cases hb : x = 32
      · skip
        have HN : Hid (∀ q, RS ((wr.drewN q).setCell ⟨rb, 1, none⟩ (.int .i64 ((k : Int) + 1))) rb s (k + 1) lv bad er at_ dep) := fun q => by
          have := (HS.out.drewN q).setI (k + 1)
          rw [show ((k + 1 : Nat) : Int) = (k : Int) + 1 by omega] at this; exact this
        have HK2 : Hid (sk s (k + 1) = sk s i) := by rw [← HK.out]; exact (run_step hlt (by rw [hbx]; simp [blank, hb])).symm
        have hrd : rdI wr rb = k := HS.out.rdI
        have HRD : Hid (rdI wr rb = k) := hrd
        subst hb
        clear hs1 HK HS hbx hrd
        go_wp2_with fail
        go_quiet (fail)
        go_wp2
        go_roundw
        case rel => exact ⟨k + 1, by omega, HK2.out, HN.out _, gr_trans (gr_trans HG.out (gr_drewN _ _ _)) (gr_set _ _ _ _)⟩
        case measure => rw [(HN.out _).rdI, HRD.out]; omega
      · by_cases hb2 : x = 10
        · skip
          have HN : Hid (∀ q, RS ((wr.drewN q).setCell ⟨rb, 1, none⟩ (.int .i64 ((k : Int) + 1))) rb s (k + 1) lv bad er at_ dep) := fun q => by
            have := (HS.out.drewN q).setI (k + 1)
            rw [show ((k + 1 : Nat) : Int) = (k : Int) + 1 by omega] at this; exact this
          have HK2 : Hid (sk s (k + 1) = sk s i) := by rw [← HK.out]; exact (run_step hlt (by rw [hbx]; simp [blank, hb2])).symm
          have hrd : rdI wr rb = k := HS.out.rdI
          have HRD : Hid (rdI wr rb = k) := hrd
          subst hb2
          clear hs1 HK HS hbx hrd
          go_wp2_with fail
          go_quiet (fail)
          go_wp2
          go_roundw
          case rel => exact ⟨k + 1, by omega, HK2.out, HN.out _, gr_trans (gr_trans HG.out (gr_drewN _ _ _)) (gr_set _ _ _ _)⟩
          case measure => rw [(HN.out _).rdI, HRD.out]; omega
        · have HE : Hid (RS wr rb s (sk s i) lv bad er at_ dep) := by
            have : sk s k = k := run_stop (by rw [hbx]; simp [blank, hb, hb2])
            rw [← HK.out, this]; exact HS.out
          have e1 : ((x : Int) == 32) = false := by simp; omega
          have e2 : ((x : Int) == 10) = false := by simp; omega
          clear hs1 HK HS hbx
          go_wp2_with fail
          go_quiet (fail)
          go_wp2
          go_end0
          exact ⟨rfl, HE.out.drewN _, gr_trans HG.out (gr_drewN _ _ _)⟩
    · have hlt' : ¬ (k : Int) < (s.size : Int) := by omega
      have hd : decide ((k : Int) < (s.size : Int)) = false := decide_eq_false hlt'
      have HE : Hid (RS wr rb s (sk s i) lv bad er at_ dep) := by
        have : sk s k = k := run_out hlt
        rw [← HK.out, this]; exact HS.out
      clear hs1 HK HS
      go_wp2_with fail
      go_quiet (fail)
      go_wp2
      go_end0
      exact ⟨rfl, HE.out.drewN _, gr_trans HG.out (gr_drewN _ _ _)⟩

/-- The first fault stays. -/
def badI (bad a : Int) : Int := if bad < 0 then a else bad

set_option maxRecDepth 100000 in
set_option maxHeartbeats 1000000 in
theorem fail_any (rb : Nat) (s : ByteArray) (i : Nat) (lv : Value) (bad er at_ dep : Int) (a : Int) (w : World) (h : RS w rb s i lv bad er at_ dep) :
    Calls Tryz.prog 21 #[.pointer (some ⟨rb, 0, none⟩), .int .i64 a] w fun e w' => e = .returned (.tuple #[]) ∧ RS w' rb s i lv (badI bad a) er at_ dep ∧ w.grownBy w' (some rb) := by
  have c3 := h.c3
  have f3 := h.fz 3
  have HR : Hid (RS w rb s i lv bad er at_ dep) := h
  clear h
  by_cases hb : bad < 0
  · have HN : Hid (RS (w.setCell ⟨rb, 3, none⟩ (.int .i64 a)) rb s i lv (badI bad a) er at_ dep) := by unfold badI; rw [if_pos hb]; exact HR.out.setBad a
    go_enter Tryz.func21, Tryz.ntmps21
    go_wp2
    go_end0
    exact ⟨rfl, HN.out, gr_set _ _ _ _⟩
  · have HN : Hid (RS w rb s i lv (badI bad a) er at_ dep) := by unfold badI; rw [if_neg hb]; exact HR.out
    go_enter Tryz.func21, Tryz.ntmps21
    go_wp2
    go_end0
    exact ⟨rfl, HN.out, gr_refl _ _⟩

/-- Whether the reader is at the sign, and where it is behind it. -/
def isAt (s : ByteArray) (i : Nat) (c : Nat) : Bool := bat s (sk s i) == c
def gotI (s : ByteArray) (i : Nat) (c : Nat) : Nat := if bat s (sk s i) = c then sk s i + 1 else sk s i

set_option maxRecDepth 100000 in
set_option maxHeartbeats 2000000 in
theorem got_any (rb : Nat) (s : ByteArray) (i : Nat) (lv : Value) (bad er at_ dep : Int) (c : Nat) (w : World) (h : RS w rb s i lv bad er at_ dep) (hs : s.size ≤ 1099511627776) (hi : i ≤ s.size) (hc : c < 256) (hb : bad < 0) :
    Calls Tryz.prog 75 #[.pointer (some ⟨rb, 0, none⟩), .int .u8 (c : Int)] w fun e w' => e = .returned (.bool (isAt s i c)) ∧ RS w' rb s (gotI s i c) lv bad er at_ dep ∧ w.grownBy w' (some rb) := by
  have CS : Hid (Calls Tryz.prog 20 #[.pointer (some ⟨rb, 0, none⟩)] w fun e w' => e = .returned (.tuple #[]) ∧ RS w' rb s (sk s i) lv bad er at_ dep ∧ w.grownBy w' (some rb)) := skip_any rb s i lv bad er at_ dep w h hs hi
  obtain ⟨j, hj⟩ : ∃ j, sk s i = j := ⟨_, rfl⟩
  have hjs := sk_le s i hi
  have HGI : Hid (gotI s i c = if bat s j = c then j + 1 else j) := by show _ = _; unfold gotI; rw [hj]
  have HIA : Hid (isAt s i c = (bat s j == c)) := by show _ = _; unfold isAt; rw [hj]
  rw [hj] at CS hjs
  clear h hj
  go_enter Tryz.func75, Tryz.ntmps75
  go_wp2_with fail
  refine CS.out.mono ?_
  rintro e w1 ⟨rfl, h1, g1⟩
  have HR : Hid (RS w1 rb s j lv bad er at_ dep) := h1
  have HG : Hid (w.grownBy w1 (some rb)) := g1
  have c0 := h1.c0
  have c1 := h1.c1
  have c3 := h1.c3
  have f1 := h1.fz 1
  have eb : decide (bad < 0) = true := decide_eq_true hb
  clear h1 g1 CS
  by_cases hlt : j < s.size
  · have hlt' : (j : Int) < (s.size : Int) := by omega
    have el : decide ((j : Int) < (s.size : Int)) = true := decide_eq_true hlt'
    obtain ⟨x, hx⟩ : ∃ x, s[j].toNat = x := ⟨_, rfl⟩
    have hbx : bat s j = x := by rw [bat_in hlt, hx]
    by_cases hxc : x = c
    · have HN : Hid (∀ q, RS ((w1.drewN q).setCell ⟨rb, 1, none⟩ (.int .i64 ((j : Int) + 1))) rb s (gotI s i c) lv bad er at_ dep) := fun q => by
        rw [HGI.out, hbx, if_pos hxc]
        have := (HR.out.drewN q).setI (j + 1)
        rw [show ((j + 1 : Nat) : Int) = (j : Int) + 1 by omega] at this; exact this
      have HE : Hid (isAt s i c = true) := by show _ = _; rw [HIA.out, hbx]; simpa using hxc
      subst hxc
      clear hbx HR
      go_wp2_with fail
      go_quiet (fail)
      go_wp2
      go_ret
      exact ⟨by rw [HE.out]; rfl, HN.out _, gr_trans (gr_trans HG.out (gr_drewN _ _ _)) (gr_set _ _ _ _)⟩
    · have HN : Hid (RS w1 rb s (gotI s i c) lv bad er at_ dep) := by rw [HGI.out, hbx, if_neg hxc]; exact HR.out
      have HE : Hid (isAt s i c = false) := by show _ = _; rw [HIA.out, hbx]; simpa using hxc
      have ex : ((x : Int) == (c : Int)) = false := by simp; omega
      clear hbx HR
      go_wp2_with fail
      go_quiet (fail)
      go_wp2
      go_ret
      exact ⟨by rw [HE.out]; rfl, HN.out.drewN _, gr_trans HG.out (gr_drewN _ _ _)⟩
  · have hlt' : ¬ (j : Int) < (s.size : Int) := by omega
    have el : decide ((j : Int) < (s.size : Int)) = false := decide_eq_false hlt'
    have hbo : bat s j = 256 := bat_out hlt
    have HN : Hid (RS w1 rb s (gotI s i c) lv bad er at_ dep) := by rw [HGI.out, hbo, if_neg (by omega)]; exact HR.out
    have HE : Hid (isAt s i c = false) := by show _ = _; rw [HIA.out, hbo]; simp; omega
    clear hbo HR
    go_wp2_with fail
    go_quiet (fail)
    go_wp2
    go_ret
    exact ⟨by rw [HE.out]; rfl, HN.out.drewN _, gr_trans HG.out (gr_drewN _ _ _)⟩

end Go.Proofs.YtepeepipgkejiadGreatDoor
