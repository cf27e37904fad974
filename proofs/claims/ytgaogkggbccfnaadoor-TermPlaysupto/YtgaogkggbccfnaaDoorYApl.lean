/-
  style.Apply.
-/
import Derived.Test.YtgaogkggbccfnaaDoorYApp
namespace Go.Proofs.YtgaogkggbccfnaaDoor
open Go.RowKit Go.Sort
set_option linter.unusedVariables false

/-- What numbers do, one behind the other. -/
def apF (zs : List Int) (f : Int) : Int := zs.foldl (fun f n => apf n f) f
def apG (zs : List Int) (g : Int) : Int := zs.foldl (fun g n => apg n g) g
def apB (zs : List Int) (b : Int) : Int := zs.foldl (fun b n => apb n b) b
theorem apF_next (zs : List Int) (k : Nat) (f : Int) (h : k < zs.length) : apF (zs.take (k + 1)) f = apf (zs[k]?.getD 0) (apF (zs.take k) f) := by
  unfold apF; rw [List.take_succ_eq_append_getElem h, List.foldl_append]; simp [h]
theorem apG_next (zs : List Int) (k : Nat) (f : Int) (h : k < zs.length) : apG (zs.take (k + 1)) f = apg (zs[k]?.getD 0) (apG (zs.take k) f) := by
  unfold apG; rw [List.take_succ_eq_append_getElem h, List.foldl_append]; simp [h]
theorem apB_next (zs : List Int) (k : Nat) (f : Int) (h : k < zs.length) : apB (zs.take (k + 1)) f = apb (zs[k]?.getD 0) (apB (zs.take k) f) := by
  unfold apB; rw [List.take_succ_eq_append_getElem h, List.foldl_append]; simp [h]
/-- What Apply answers. -/
def aplF (zs : List Int) (f : Int) : Int := if zs = [] then 0 else apF zs (kn f)
def aplG (zs : List Int) (f : Int) : Int := if zs = [] then 0 else apG zs (kn f)
def aplB (zs : List Int) (f : Int) : Int := if zs = [] then 0 else apB zs (bo f)
set_option maxRecDepth 100000 in
set_option maxHeartbeats 4000000 in
theorem apply_none (f g b : Int) (a : Option Addr) (cap : Nat) (w : World) : Calls Tryd.prog 85 #[sv f g b, .slice a 0 cap] w fun e w' => e = .returned (sv 0 0 0) ∧ Gr w w' := by
  have CC : Hid (∀ f g b w, Calls Tryd.prog 94 #[sv f g b] w fun e w' => e = .returned (sv (kn f) (kn g) (bo b)) ∧ Gr w w') := counted_any
  unfold sv at CC ⊢
  go_enter Tryd.func85, Tryd.ntmps85
  go_wp2
  refine bodyPost_ret (v := sv 0 0 0) (by simp [results, Tryd.results85, go_sem, sv]) rfl ?_
  exact ⟨rfl, ((Gr.refl w).alloc _).alloc _⟩

set_option maxRecDepth 100000 in
set_option maxHeartbeats 4000000 in
theorem apply_some (f g b : Int) (zs : List Int) (B off cap : Nat) (w : World) (hp : 0 < zs.length) (hB : B < w.heap.size) (hc : ∀ j, j < zs.length → w.cell? ⟨B, off + j, none⟩ = some (.int .i64 (zs[j]?.getD 0))) (hlen : zs.length ≤ 17592186044416) :
    Calls Tryd.prog 85 #[sv f g b, .slice (some ⟨B, off, none⟩) zs.length cap] w fun e w' => e = .returned (sv (apF zs (kn f)) (apG zs (kn g)) (apB zs (bo b))) ∧ Gr w w' := by
  have HC : Hid (∀ j, j < zs.length → w.cell? ⟨B, off + j, none⟩ = some (.int .i64 (zs[j]?.getD 0))) := hc
  clear hc
  have CC : Hid (∀ f g b w, Calls Tryd.prog 94 #[sv f g b] w fun e w' => e = .returned (sv (kn f) (kn g) (bo b)) ∧ Gr w w') := counted_any
  have AA : Hid (∀ f g b n w, Calls Tryd.prog 95 #[sv f g b, .int .i64 n] w fun e w' => e = .returned (sv (apf n f) (apg n g) (apb n b)) ∧ Gr w w') := applied_any
  obtain ⟨x, hx⟩ : ∃ z, kn f = z := ⟨_, rfl⟩
  obtain ⟨y, hy⟩ : ∃ z, kn g = z := ⟨_, rfl⟩
  obtain ⟨z, hz⟩ : ∃ z, bo b = z := ⟨_, rfl⟩
  have C1 : Hid (∀ w, _) := CC.out f g b
  rw [hx, hy, hz] at C1 ⊢
  clear CC hx hy hz
  unfold sv at C1 AA ⊢
  have hp' : ¬ ((zs.length : Int) = 0) := by omega
  have hpb : ((zs.length : Int) == 0) = false := by simpa using hp'
  have hpd : decide ((zs.length : Int) = 0) = false := by simpa using hp'
  go_enter Tryd.func85, Tryd.ntmps85
  go_wp2_with fail
  obtain ⟨S, hS⟩ : ∃ x, w.heap.size = x := ⟨_, rfl⟩
  obtain ⟨W0, hW0⟩ : ∃ x, (w.alloc (.cells #[.int .i64 f, .int .i64 g, .int .i64 b] 42)).alloc (.cells #[.int .i64 0, .int .i64 0, .int .i64 0] 42) = x := ⟨_, rfl⟩
  have G0 : Hid (Gr w W0) := by rw [← hW0]; exact ((Gr.refl w).alloc _).alloc _
  have RA : Hid (R3 42 W0 S f g b) := by rw [← hW0, ← hS]; exact (R3.new w _ _ _ _).gr ((Gr.refl _).alloc _)
  have RC : Hid (R3 42 W0 (S + 1) 0 0 0) := by
    have := R3.new (w.alloc (.cells #[.int .i64 f, .int .i64 g, .int .i64 b] 42)) 0 0 0 42
    simp only [World.size_alloc, hS] at this
    rw [← hW0]; exact this
  rw [hW0, hS]
  clear hW0
  have HS : Hid (w.heap.size = S) := hS
  have HB : Hid (B < w.heap.size) := hB
  clear hS hB
  refine (C1.out _).mono ?_
  rintro e w1 ⟨rfl, g1⟩
  have RA1 := RA.out.gr g1
  have R2 : Hid (R3 42 _ S x y z) := RA1.set x y z
  have RC2 : Hid (R3 42 _ (S + 1) 0 0 0) := (RC.out.gr g1).others (k := S) (by omega) (.int .i64 x) (.int .i64 y) (.int .i64 z)
  have G2 : Hid (Gr w _) := (G0.out.trans g1).set3 (k := S) (by rw [HS.out]; omega) (.int .i64 x) (.int .i64 y) (.int .i64 z)
  have a0 := RA1.c0
  have a1 := RA1.c1
  have a2 := RA1.c2
  have f0 := RA1.fz 0
  have f1 := RA1.fz 1
  have f2 := RA1.fz 2
  clear RA1 g1
  go_wp2_with fail
  obtain ⟨W2, hW2⟩ : ∃ q, (((w1.setCell ⟨S, 0, none⟩ (.int .i64 x)).setCell ⟨S, 1, none⟩ (.int .i64 y)).setCell ⟨S, 2, none⟩ (.int .i64 z)) = q := ⟨_, rfl⟩
  rw [hW2] at R2 RC2 G2 ⊢
  clear hW2 a0 a1 a2 f0 f1 f2 RA RC G0
  go_loopw [15] (fun i wr => ∃ k : Nat, k ≤ zs.length ∧ i = .int .i64 k ∧ Hid (R3 42 wr S (apF (zs.take k) x) (apG (zs.take k) y) (apB (zs.take k) z) ∧ R3 42 wr (S + 1) 0 0 0 ∧ Gr w wr)) (fun i _ => zs.length - (intOf i).toNat)
  case atStart => exact ⟨0, Nat.zero_le _, rfl, R2.out, RC2.out, G2.out⟩
  case round =>
    obtain ⟨k, hk, rfl, HR⟩ := hrel
    by_cases hlt : k < zs.length
    · obtain ⟨n, hn⟩ : ∃ q, zs[k]?.getD 0 = q := ⟨_, rfl⟩
      have hcx : wr.cell? ⟨B, off + k, none⟩ = some (.int .i64 n) := by rw [← hn]; exact (HR.out.2.2.below.cell (p := ⟨B, off + k, none⟩) HB.out).trans (HC.out k hlt)
      have N1 : Hid (apF (zs.take (k + 1)) x = apf n (apF (zs.take k) x)) := by rw [← hn]; exact apF_next zs k x hlt
      have N2 : Hid (apG (zs.take (k + 1)) y = apg n (apG (zs.take k) y)) := by rw [← hn]; exact apG_next zs k y hlt
      have N3 : Hid (apB (zs.take (k + 1)) z = apb n (apB (zs.take k) z)) := by rw [← hn]; exact apB_next zs k z hlt
      obtain ⟨p, hp1⟩ : ∃ q, apF (zs.take k) x = q := ⟨_, rfl⟩
      obtain ⟨q, hq1⟩ : ∃ q, apG (zs.take k) y = q := ⟨_, rfl⟩
      obtain ⟨r, hr1⟩ : ∃ q, apB (zs.take k) z = q := ⟨_, rfl⟩
      rw [hp1, hq1, hr1] at HR
      rw [hp1] at N1
      rw [hq1] at N2
      rw [hr1] at N3
      clear hn hp1 hq1 hr1
      have A1 : Hid (∀ w, _) := AA.out p q r n
      obtain ⟨p', hp2⟩ : ∃ q, apf n p = q := ⟨_, rfl⟩
      obtain ⟨q', hq2⟩ : ∃ z, apg n q = z := ⟨_, rfl⟩
      obtain ⟨r', hr2⟩ : ∃ q, apb n r = q := ⟨_, rfl⟩
      rw [hp2, hq2, hr2] at A1
      rw [hp2] at N1
      rw [hq2] at N2
      rw [hr2] at N3
      clear hp2 hq2 hr2
      have hlt' : (k : Int) < (zs.length : Int) := by omega
      have b0 := HR.out.1.c0
      have b1 := HR.out.1.c1
      have b2 := HR.out.1.c2
      have bb : B < wr.heap.size := Nat.lt_of_lt_of_le HB.out HR.out.2.2.size
      go_wp2_with (go_at_call 95; refine Calls.mono (A1.out _) ?_; rintro e w5 ⟨rfl, g5⟩; have HG5 : Hid (Gr wr w5) := (by first | exact g5 | exact ((Gr.refl wr).drew).trans g5); have R5 : Hid (R3 42 w5 S p q r) := HR.out.1.gr HG5.out; clear g5; have d0 := R5.out.c0; have d1 := R5.out.c1; have d2 := R5.out.c2; have e0 := R5.out.fz 0; have e1 := R5.out.fz 1; have e2 := R5.out.fz 2; have hcy : w5.cell? ⟨B, off + k, none⟩ = some (.int .i64 n) := (HG5.out.below.cell (p := ⟨B, off + k, none⟩) bb).trans hcx)
      all_goals
        go_roundw
        case rel => exact ⟨k + 1, by omega, by go_num, by show _ ∧ _ ∧ _; rw [N1.out, N2.out, N3.out]; exact ⟨R5.out.set p' q' r', (HR.out.2.1.gr HG5.out).others (by omega) _ _ _, (HR.out.2.2.trans HG5.out).set3 (by rw [HS.out]; omega) _ _ _⟩⟩
        case measure => simp [intOf]; omega
    · have hlt' : ¬ (k : Int) < (zs.length : Int) := by omega
      have hkk : k = zs.length := by omega
      have HK : Hid (R3 42 wr S (apF zs x) (apG zs y) (apB zs z)) := by have := HR.out.1; rw [hkk, List.take_length] at this; exact this
      obtain ⟨p, hp1⟩ : ∃ q, apF zs x = q := ⟨_, rfl⟩
      obtain ⟨q, hq1⟩ : ∃ q, apG zs y = q := ⟨_, rfl⟩
      obtain ⟨r, hr1⟩ : ∃ q, apB zs z = q := ⟨_, rfl⟩
      rw [hp1, hq1, hr1] at HK
      have HP : Hid (apF zs x = p) := hp1
      have HQ : Hid (apG zs y = q) := hq1
      have HRR : Hid (apB zs z = r) := hr1
      clear hp1 hq1 hr1
      have b0 := HK.out.c0
      have b1 := HK.out.c1
      have b2 := HK.out.c2
      have c0 := HR.out.2.1.c0
      have c1 := HR.out.2.1.c1
      have c2 := HR.out.2.1.c2
      have k0 := HR.out.2.1.fz 0
      have k1 := HR.out.2.1.fz 1
      have k2 := HR.out.2.1.fz 2
      go_wp2
      refine bodyPost_ret (results_cell_row rfl _ _ (S + 1) _ _ _ _ rfl (HR.out.2.1.set _ _ _) Tryd.underlying42 rfl (by kernel_rfl)) rfl ?_
      exact ⟨by rw [HP.out, HQ.out, HRR.out], HR.out.2.2.set3 (by rw [HS.out]; omega) _ _ _⟩

theorem apply_any (f g b : Int) (zs : List Int) (v : Value) (w : World) (h : Ints w v zs) (hlen : zs.length ≤ 17592186044416) : Calls Tryd.prog 85 #[sv f g b, v] w fun e w' => e = .returned (sv (aplF zs f) (aplG zs g) (aplB zs b)) ∧ Gr w w' := by
  obtain ⟨a, cap, rfl, hh⟩ := h
  by_cases hz : zs = []
  · subst hz; exact apply_none f g b a cap w
  · obtain ⟨B, off, rfl, hb, hc⟩ := hh.resolve_left hz
    unfold aplF aplG aplB
    rw [if_neg hz, if_neg hz, if_neg hz]
    exact apply_some f g b zs B off cap w (List.length_pos_iff.2 hz) hb hc hlen

end Go.Proofs.YtgaogkggbccfnaaDoor
