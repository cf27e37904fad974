/-
  The reference's reader: number where a fault stands; quoted.
-/
import Derived.Test.YtepeepipgkejiadGreatDoorTDig
import Derived.Laws.IdiomStrings
namespace Go.Proofs.YtepeepipgkejiadGreatDoor
open Go.RowKit
set_option linter.unusedVariables false

/-- A new row of bytes, made a string. -/
theorem conv_new (xs : List Int) (hx : ∀ x ∈ xs, 0 ≤ x ∧ x < 256) (w : World) :
    (convert 57 9 (.slice (some ⟨w.heap.size, 0, none⟩) xs.length xs.length)).run Tryz.prog (w.alloc (.cells (xs.map (Value.int .u8)).toArray 5)) =
      .ok (.string ⟨(xs.map fun x => x.toNat.toUInt8).toArray⟩) (w.alloc (.cells (xs.map (Value.int .u8)).toArray 5)) := by
  have h := run_convert_bytes_back (P := Tryz.prog) (w.alloc (.cells (xs.map (Value.int .u8)).toArray 5)) 57 9 5 ⟨w.heap.size, 0, none⟩ xs.length (xs.map fun x => x.toNat.toUInt8) Tryz.underlying57 Tryz.underlying5 Tryz.underlying9 (by
    intro j hj
    simp only [List.length_map] at hj
    have e : (⟨w.heap.size, 0, none⟩ : Addr).add j = ⟨w.heap.size, j, none⟩ := by unfold Addr.add; split <;> simp_all
    rw [e, World.cell?_alloc_mark]
    have hb := hx xs[j] (List.getElem_mem hj)
    simp [hj]
    omega)
  simpa using h
theorem conv1 (a : Int) (ha : 0 ≤ a ∧ a < 256) (w : World) :
    (convert 57 9 (.slice (some ⟨w.heap.size, 0, none⟩) 1 1)).run Tryz.prog (w.alloc (.cells #[.int .u8 a] 5)) = .ok (.string ⟨#[a.toNat.toUInt8]⟩) (w.alloc (.cells #[.int .u8 a] 5)) :=
  conv_new [a] (by simpa using ha) w

theorem conv_at (a : Int) (ha : 0 ≤ a ∧ a < 256) (w : World) (rb : Nat) (z : Int) : ∀ q, (convert 57 9 (.slice (some ⟨w.heap.size, 0, none⟩) 1 1)).run Tryz.prog (((w.drewN q).setCell ⟨rb, 1, none⟩ (.int .i64 z)).alloc (.cells #[.int .u8 a] 5)) = .ok (.string ⟨#[a.toNat.toUInt8]⟩) (((w.drewN q).setCell ⟨rb, 1, none⟩ (.int .i64 z)).alloc (.cells #[.int .u8 a] 5)) := fun q => by
  have := conv1 a ha ((w.drewN q).setCell ⟨rb, 1, none⟩ (.int .i64 z))
  have e : ((w.drewN q).setCell ⟨rb, 1, none⟩ (.int .i64 z)).heap.size = w.heap.size := by simp
  rw [e] at this; exact this

theorem conv_at2 (a : Int) (ha : 0 ≤ a ∧ a < 256) (w : World) (rb : Nat) (z y : Int) : ∀ q q', (convert 57 9 (.slice (some ⟨w.heap.size, 0, none⟩) 1 1)).run Tryz.prog (((((w.drewN q).setCell ⟨rb, 1, none⟩ (.int .i64 z)).drewN q').setCell ⟨rb, 1, none⟩ (.int .i64 y)).alloc (.cells #[.int .u8 a] 5)) = .ok (.string ⟨#[a.toNat.toUInt8]⟩) (((((w.drewN q).setCell ⟨rb, 1, none⟩ (.int .i64 z)).drewN q').setCell ⟨rb, 1, none⟩ (.int .i64 y)).alloc (.cells #[.int .u8 a] 5)) := fun q q' => by
  have := conv1 a ha ((((w.drewN q).setCell ⟨rb, 1, none⟩ (.int .i64 z)).drewN q').setCell ⟨rb, 1, none⟩ (.int .i64 y))
  have e : ((((w.drewN q).setCell ⟨rb, 1, none⟩ (.int .i64 z)).drewN q').setCell ⟨rb, 1, none⟩ (.int .i64 y)).heap.size = w.heap.size := by simp
  rw [e] at this; exact this

/-- What a string means: from p on, acc ahead; or the place of the fault. -/
def qF (s : ByteArray) : Nat → Nat → List UInt8 → Except Nat (Nat × List UInt8)
  | 0, p, _ => .error p
  | f + 1, p, acc =>
    if bat s p = 256 then .error p
    else if bat s p = 34 then .ok (p + 1, acc)
    else if bat s p = 92 then
      if bat s (p + 1) = 34 ∨ bat s (p + 1) = 92 then qF s f (p + 2) (acc ++ [(bat s (p + 1)).toUInt8])
      else if bat s (p + 1) = 110 then qF s f (p + 2) (acc ++ [10])
      else .error (p + 1)
    else qF s f (p + 1) (acc ++ [(bat s p).toUInt8])
/-- The string at i. -/
def quoR (s : ByteArray) (i : Nat) : Except Nat (Nat × List UInt8) := if isAt s i 34 then qF s (s.size + 2) (gotI s i 34) [] else .error (sk s i)

/-- What quoted leaves. -/
def QOut (w w' : World) (e : Ending) (rb : Nat) (s : ByteArray) (lv : Value) (bad er at_ dep : Int) (r : Except Nat (Nat × List UInt8)) : Prop :=
  w.grownBy w' (some rb) ∧ match r with
    | .ok (p, t) => e = .returned (.string ⟨t.toArray⟩) ∧ RS w' rb s p lv bad er at_ dep
    | .error b => e = .returned (.string ByteArray.empty) ∧ ∃ p, p ≤ s.size ∧ RS w' rb s p lv (b : Int) er at_ dep

set_option maxRecDepth 100000 in
set_option maxHeartbeats 8000000 in
theorem quoted_any (rb : Nat) (s : ByteArray) (i : Nat) (lv : Value) (bad er at_ dep : Int) (w : World) (h : RS w rb s i lv bad er at_ dep) (hs : s.size ≤ 1073741824) (hi : i ≤ s.size) (hb : bad < 0) :
    Calls Tryz.prog 39 #[.pointer (some ⟨rb, 0, none⟩)] w fun e w' => QOut w w' e rb s lv bad er at_ dep (quoR s i) := by
  have CM : Hid (Calls Tryz.prog 38 #[.pointer (some ⟨rb, 0, none⟩), .int .u8 34] w fun e w' => e = .returned (.tuple #[]) ∧ RS w' rb s (gotI s i 34) lv (mustB s i 34 bad) er at_ dep ∧ w.grownBy w' (some rb)) := must_any rb s i lv bad er at_ dep 34 w h (by omega) hi (by omega) hb
  clear h
  by_cases hia : isAt s i 34 = true
  · have hmb : mustB s i 34 bad = bad := by unfold mustB; rw [if_pos hia]
    have HQ : Hid (quoR s i = qF s (s.size + 2) (gotI s i 34) []) := by show _ = _; unfold quoR; rw [if_pos hia]
    have hgs : gotI s i 34 ≤ s.size := by
      unfold isAt at hia
      have e : bat s (sk s i) = 34 := by simpa using hia
      unfold gotI; rw [if_pos e]
      by_cases c : sk s i < s.size
      · omega
      · rw [bat_out c] at e; omega
    obtain ⟨j, hj⟩ : ∃ j, gotI s i 34 = j := ⟨_, rfl⟩
    rw [hmb, hj] at CM
    rw [hj] at HQ hgs
    clear hmb hj hia
    go_enter Tryz.func39, Tryz.ntmps39
    go_wp2_with fail
    refine CM.out.mono ?_
    rintro e w1 ⟨rfl, h1, g1⟩
    have HR : Hid (RS w1 rb s j lv bad er at_ dep) := h1
    have HG1 : Hid (w.grownBy w1 (some rb)) := g1
    clear h1 g1 CM
    go_wp2
    go_loopw [3, 7] (fun v _ wr => ∃ (k f : Nat) (Y : Array UInt8), v = .string ⟨Y⟩ ∧ k ≤ s.size ∧ Y.size ≤ k ∧ s.size < k + f ∧ Hid (qF s f k Y.toList = quoR s i) ∧ Hid (RS wr rb s k lv bad er at_ dep) ∧ Hid (w.grownBy wr (some rb))) (fun _ _ wr => s.size - rdI wr rb)
    case atStart => exact ⟨j, s.size + 2, #[], rfl, hgs, by simp, by omega, by rw [HQ.out]; rfl, HR.out, HG1.out⟩
    case round =>
      obtain ⟨k, f, Y, rfl, hk, hY, hf, HF, HS, HG⟩ := hrel
      have hs1 := HS.out
      have c0 := hs1.c0
      have c1 := hs1.c1
      have c3 := hs1.c3
      have f1 := hs1.fz 1
      have HRD : Hid (rdI wr rb = k) := hs1.rdI
      have CF : Hid (∀ (g : Nat) W, RS W rb s g lv bad er at_ dep → Calls Tryz.prog 21 #[.pointer (some ⟨rb, 0, none⟩), .int .i64 (g : Int)] W fun e w' => e = .returned (.tuple #[]) ∧ RS w' rb s g lv (badI bad g) er at_ dep ∧ W.grownBy w' (some rb)) := fun g W h => fail_any rb s g lv bad er at_ dep g W h
      have HBI : Hid (∀ a, badI bad a = a) := fun a => by unfold badI; rw [if_pos hb]
      obtain ⟨f, rfl⟩ : ∃ f', f = f' + 1 := ⟨f - 1, by omega⟩
      clear hs1
      by_cases hlt : k < s.size
      · have hlt' : (k : Int) < (s.size : Int) := by omega
        have hlt2 : ¬ (s.size : Int) ≤ (k : Int) := by omega
        obtain ⟨x, hx⟩ : ∃ x, s[k].toNat = x := ⟨_, rfl⟩
        have hbx : bat s k = x := by rw [bat_in hlt, hx]
        have hx256 : x < 256 := by rw [← hbx]; exact bat_lt hlt
        have HF1 : Hid (quoR s i = if x = 34 then .ok (k + 1, Y.toList) else if x = 92 then (if bat s (k + 1) = 34 ∨ bat s (k + 1) = 92 then qF s f (k + 2) (Y.toList ++ [(bat s (k + 1)).toUInt8]) else if bat s (k + 1) = 110 then qF s f (k + 2) (Y.toList ++ [10]) else .error (k + 1)) else qF s f (k + 1) (Y.toList ++ [x.toUInt8])) := by
          show _ = _
          rw [← HF.out, qF, hbx, if_neg (by omega)]
        clear HF hbx
        by_cases q34 : x = 34
        · have HE : Hid (quoR s i = .ok (k + 1, Y.toList)) := by show _ = _; rw [HF1.out, if_pos q34]
          have HN : Hid (∀ q, RS ((wr.drewN q).setCell ⟨rb, 1, none⟩ (.int .i64 ((k : Int) + 1))) rb s (k + 1) lv bad er at_ dep) := fun q => by
            have := (HS.out.drewN q).setI (k + 1)
            rw [show ((k + 1 : Nat) : Int) = (k : Int) + 1 by omega] at this; exact this
          subst q34
          clear HF1 HS
          go_wp2_with fail
          go_quiet (fail)
          go_wp2_with fail
          go_quiet (fail)
          go_wp2
          go_ret
          exact ⟨gr_trans (gr_trans HG.out (gr_drewN _ _ _)) (gr_set _ _ _ _), by rw [HE.out]; exact ⟨rfl, HN.out _⟩⟩
        · by_cases q92 : x = 92
          · rw [if_neg q34, if_pos q92] at HF1
            have HN1 : Hid (∀ q, RS ((wr.drewN q).setCell ⟨rb, 1, none⟩ (.int .i64 ((k : Int) + 1))) rb s (k + 1) lv bad er at_ dep) := fun q => by
              have := (HS.out.drewN q).setI (k + 1)
              rw [show ((k + 1 : Nat) : Int) = (k : Int) + 1 by omega] at this; exact this
            subst q92
            have CF1 : Hid (∀ W, RS W rb s (k + 1) lv bad er at_ dep → Calls Tryz.prog 21 #[.pointer (some ⟨rb, 0, none⟩), .int .i64 ((k : Int) + 1)] W fun e w' => e = .returned (.tuple #[]) ∧ RS w' rb s (k + 1) lv (badI bad ((k : Int) + 1)) er at_ dep ∧ W.grownBy w' (some rb)) := fun W h => by have := CF.out (k + 1) W h; rw [show ((k + 1 : Nat) : Int) = (k : Int) + 1 by omega] at this; exact this
            by_cases hlt2 : k + 1 < s.size
            · have hlt3 : (k : Int) + 1 < (s.size : Int) := by omega
              have hgd : decide ((s.size : Int) ≤ (k : Int) + 1) = false := decide_eq_false (by omega)
              obtain ⟨y, hy⟩ : ∃ y, s[k + 1].toNat = y := ⟨_, rfl⟩
              have hby : bat s (k + 1) = y := by rw [bat_in hlt2, hy]
              have hy256 : y < 256 := by rw [← hby]; exact bat_lt hlt2
              rw [hby] at HF1
              clear hby
              by_cases ok : y = 34 ∨ y = 92 ∨ y = 110
              · have HN2 : Hid (∀ q q', RS ((((wr.drewN q).setCell ⟨rb, 1, none⟩ (.int .i64 ((k : Int) + 1))).drewN q').setCell ⟨rb, 1, none⟩ (.int .i64 ((k : Int) + 1 + 1))) rb s (k + 2) lv bad er at_ dep) := fun q q' => by
                  have := ((HN1.out q).drewN q').setI (k + 2)
                  rw [show ((k + 2 : Nat) : Int) = (k : Int) + 1 + 1 by omega] at this; exact this
                rcases ok with ok | ok | ok
                · have HF2 : Hid (qF s f (k + 2) (Y.toList ++ [34]) = quoR s i) := by show _ = _; rw [HF1.out, if_pos (.inl ok), ok]; rfl
                  subst ok
                  have hcv := conv_at2 34 (by omega) wr rb ((k : Int) + 1) ((k : Int) + 1 + 1)
                  clear HF1 HS
                  go_wp2_with fail
                  go_quiet (fail)
                  go_wp2_with fail
                  go_quiet (fail)
                  go_wp2_with fail
                  go_quiet (fail)
                  go_wp2_with fail
                  go_quiet (fail)
                  go_wp2
                  go_roundw
                  case rel => exact ⟨k + 2, f, _, rfl, by omega, by simp; omega, by omega, by show _ = _; rw [← HF2.out], (HN2.out _ _).below ((Below.refl _ _).alloc (Nat.le_refl _) _), gr_trans (gr_trans (gr_trans (gr_trans (gr_trans HG.out (gr_drewN _ _ _)) (gr_set _ _ _ _)) (gr_drewN _ _ _)) (gr_set _ _ _ _)) (gr_below ((Below.refl _ _).alloc (Nat.le_refl _) _))⟩
                  case measure => rw [((HN2.out _ _).below ((Below.refl _ _).alloc (Nat.le_refl _) _)).rdI, HRD.out]; omega
                · have HF2 : Hid (qF s f (k + 2) (Y.toList ++ [92]) = quoR s i) := by show _ = _; rw [HF1.out, if_pos (.inr ok), ok]; rfl
                  subst ok
                  have hcv := conv_at2 92 (by omega) wr rb ((k : Int) + 1) ((k : Int) + 1 + 1)
                  clear HF1 HS
                  go_wp2_with fail
                  go_quiet (fail)
                  go_wp2_with fail
                  go_quiet (fail)
                  go_wp2_with fail
                  go_quiet (fail)
                  go_wp2_with fail
                  go_quiet (fail)
                  go_wp2
                  go_roundw
                  case rel => exact ⟨k + 2, f, _, rfl, by omega, by simp; omega, by omega, by show _ = _; rw [← HF2.out], (HN2.out _ _).below ((Below.refl _ _).alloc (Nat.le_refl _) _), gr_trans (gr_trans (gr_trans (gr_trans (gr_trans HG.out (gr_drewN _ _ _)) (gr_set _ _ _ _)) (gr_drewN _ _ _)) (gr_set _ _ _ _)) (gr_below ((Below.refl _ _).alloc (Nat.le_refl _) _))⟩
                  case measure => rw [((HN2.out _ _).below ((Below.refl _ _).alloc (Nat.le_refl _) _)).rdI, HRD.out]; omega
                · have HF2 : Hid (qF s f (k + 2) (Y.toList ++ [10]) = quoR s i) := by show _ = _; rw [HF1.out, if_neg (by omega), if_pos ok]
                  subst ok
                  have hcv := conv_at2 10 (by omega) wr rb ((k : Int) + 1) ((k : Int) + 1 + 1)
                  clear HF1 HS
                  go_wp2_with fail
                  go_quiet (fail)
                  go_wp2_with fail
                  go_quiet (fail)
                  go_wp2_with fail
                  go_quiet (fail)
                  go_wp2_with fail
                  go_quiet (fail)
                  go_wp2
                  go_roundw
                  case rel => exact ⟨k + 2, f, _, rfl, by omega, by simp; omega, by omega, by show _ = _; rw [← HF2.out], (HN2.out _ _).below ((Below.refl _ _).alloc (Nat.le_refl _) _), gr_trans (gr_trans (gr_trans (gr_trans (gr_trans HG.out (gr_drewN _ _ _)) (gr_set _ _ _ _)) (gr_drewN _ _ _)) (gr_set _ _ _ _)) (gr_below ((Below.refl _ _).alloc (Nat.le_refl _) _))⟩
                  case measure => rw [((HN2.out _ _).below ((Below.refl _ _).alloc (Nat.le_refl _) _)).rdI, HRD.out]; omega
              · have e1 : ((y : Int) != 34) = true := by simp; omega
                have e2 : ((y : Int) != 92) = true := by simp; omega
                have e3 : ((y : Int) != 110) = true := by simp; omega
                have HE : Hid (quoR s i = .error (k + 1)) := by show _ = _; rw [HF1.out, if_neg (by omega), if_neg (by omega)]
                clear HF1 HS ok
                go_wp2_with fail
                go_quiet (fail)
                go_wp2_with fail
                go_quiet (fail)
                go_wp2_with fail
                go_quiet (fail)
                go_wp2_with fail
                refine (CF1.out _ (by first | exact HN1.out _ | exact (HN1.out _).drewN _)).mono ?_
                rintro e w2 ⟨rfl, h2, g2⟩
                have H2 : Hid (RS w2 rb s (k + 1) lv ((k + 1 : Nat) : Int) er at_ dep) := by have := h2; rw [HBI.out] at this; rw [show ((k + 1 : Nat) : Int) = (k : Int) + 1 by omega]; exact this
                have HG2 : Hid (w.grownBy w2 (some rb)) := by first | exact gr_trans (gr_trans (gr_trans HG.out (gr_drewN _ _ _)) (gr_set _ _ _ _)) g2 | exact gr_trans (gr_trans (gr_trans (gr_trans HG.out (gr_drewN _ _ _)) (gr_set _ _ _ _)) (gr_drewN _ _ _)) g2
                clear h2 g2
                go_wp2
                go_ret
                exact ⟨HG2.out, by rw [HE.out]; exact ⟨rfl, k + 1, by omega, H2.out⟩⟩
            · have hge : (s.size : Int) ≤ (k : Int) + 1 := by omega
              have hgd : decide ((s.size : Int) ≤ (k : Int) + 1) = true := decide_eq_true hge
              have HE : Hid (quoR s i = .error (k + 1)) := by show _ = _; rw [HF1.out, bat_out hlt2, if_neg (by omega), if_neg (by omega)]
              clear HF1 HS
              go_wp2_with fail
              go_quiet (fail)
              go_wp2_with fail
              go_quiet (fail)
              go_wp2_with fail
              go_quiet (fail)
              go_wp2_with fail
              refine (CF1.out _ (by first | exact HN1.out _ | exact (HN1.out _).drewN _)).mono ?_
              rintro e w2 ⟨rfl, h2, g2⟩
              have H2 : Hid (RS w2 rb s (k + 1) lv ((k + 1 : Nat) : Int) er at_ dep) := by have := h2; rw [HBI.out] at this; rw [show ((k + 1 : Nat) : Int) = (k : Int) + 1 by omega]; exact this
              have HG2 : Hid (w.grownBy w2 (some rb)) := by first | exact gr_trans (gr_trans (gr_trans HG.out (gr_drewN _ _ _)) (gr_set _ _ _ _)) g2 | exact gr_trans (gr_trans (gr_trans (gr_trans HG.out (gr_drewN _ _ _)) (gr_set _ _ _ _)) (gr_drewN _ _ _)) g2
              clear h2 g2
              go_wp2
              go_ret
              exact ⟨HG2.out, by rw [HE.out]; exact ⟨rfl, k + 1, by omega, H2.out⟩⟩
          · have HF2 : Hid (qF s f (k + 1) (Y.toList ++ [x.toUInt8]) = quoR s i) := by show _ = _; rw [HF1.out, if_neg q34, if_neg q92]
            have HN : Hid (∀ q, RS ((wr.drewN q).setCell ⟨rb, 1, none⟩ (.int .i64 ((k : Int) + 1))) rb s (k + 1) lv bad er at_ dep) := fun q => by
              have := (HS.out.drewN q).setI (k + 1)
              rw [show ((k + 1 : Nat) : Int) = (k : Int) + 1 by omega] at this; exact this
            have e1 : ((x : Int) == 34) = false := by simp; omega
            have e2 : ((x : Int) == 92) = false := by simp; omega
            have hcv := conv_at (x : Int) ⟨by omega, by omega⟩ wr rb ((k : Int) + 1)
            have hxx : ((x : Int).toNat).toUInt8 = x.toUInt8 := by simp
            rw [hxx] at hcv
            clear hxx
            clear HF1 HS
            go_wp2_with fail
            go_quiet (fail)
            go_wp2_with fail
            go_quiet (fail)
            go_wp2
            go_roundw
            case rel => exact ⟨k + 1, f, _, rfl, by omega, by simp; omega, by omega, by show _ = _; rw [← HF2.out], (HN.out _).below ((Below.refl _ _).alloc (Nat.le_refl _) _), gr_trans (gr_trans (gr_trans HG.out (gr_drewN _ _ _)) (gr_set _ _ _ _)) (gr_below ((Below.refl _ _).alloc (Nat.le_refl _) _))⟩
            case measure => rw [((HN.out _).below ((Below.refl _ _).alloc (Nat.le_refl _) _)).rdI, HRD.out]; omega
      · have hge : (s.size : Int) ≤ (k : Int) := by omega
        have HE : Hid (quoR s i = .error k) := by show _ = _; rw [← HF.out, qF, if_pos (bat_out hlt)]
        clear HF
        go_wp2_with fail
        go_quiet (fail)
        go_wp2_with fail
        refine (CF.out k _ (HS.out.drewN _)).mono ?_
        rintro e w2 ⟨rfl, h2, g2⟩
        have H2 : Hid (RS w2 rb s k lv (k : Int) er at_ dep) := by have := h2; rw [HBI.out] at this; exact this
        have HG2 : Hid (w.grownBy w2 (some rb)) := gr_trans (gr_trans HG.out (gr_drewN _ _ _)) g2
        clear h2 g2
        go_wp2
        go_ret
        exact ⟨HG2.out, by rw [HE.out]; exact ⟨rfl, k, hk, H2.out⟩⟩
  · have hmb : mustB s i 34 bad = (sk s i : Int) := by unfold mustB; rw [if_neg hia]
    have HQ : Hid (quoR s i = .error (sk s i)) := by show _ = _; unfold quoR; rw [if_neg hia]
    have hgs : gotI s i 34 ≤ s.size := by
      unfold isAt at hia
      unfold gotI; rw [if_neg (by simpa using hia)]; exact sk_le s i hi
    rw [hmb] at CM
    obtain ⟨j, hj⟩ : ∃ j, gotI s i 34 = j := ⟨_, rfl⟩
    obtain ⟨b, hbe⟩ : ∃ b : Int, (sk s i : Int) = b := ⟨_, rfl⟩
    have HBE : Hid ((sk s i : Int) = b) := hbe
    have hb0 : ¬ b < 0 := by omega
    rw [hj, hbe] at CM
    rw [hj] at hgs
    clear hmb hj hia hbe
    go_enter Tryz.func39, Tryz.ntmps39
    go_wp2_with fail
    refine CM.out.mono ?_
    rintro e w1 ⟨rfl, h1, g1⟩
    have HR : Hid (RS w1 rb s j lv b er at_ dep) := h1
    have HG1 : Hid (w.grownBy w1 (some rb)) := g1
    have c3 := h1.c3
    clear h1 g1 CM
    go_wp2
    go_loopw [3, 7] (fun v _ wr => v = .string ByteArray.empty ∧ wr = w1) (fun _ _ _ => 0)
    case atStart => exact ⟨rfl, rfl⟩
    case round =>
      obtain ⟨rfl, hw⟩ := hrel
      obtain rfl := hw.symm
      go_wp2
      go_ret
      exact ⟨HG1.out, by rw [HQ.out]; exact ⟨rfl, j, hgs, by rw [HBE.out]; exact HR.out⟩⟩

end Go.Proofs.YtepeepipgkejiadGreatDoor
