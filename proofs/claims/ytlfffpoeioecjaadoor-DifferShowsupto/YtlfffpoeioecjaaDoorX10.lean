/-
  style.applied.
-/
import Derived.Test.YtlfffpoeioecjaaDoorX08
import Derived.Test.YtlfffpoeioecjaaDoorX09
namespace Go.Proofs.YtlfffpoeioecjaaDoor
open Go.RowKit Go.Sort
set_option linter.unusedVariables false

/-- What one number does. -/
def apf (n f : Int) : Int := if n = 0 then 0 else if n = 39 then 0 else if 30 ≤ n ∧ n ≤ 37 then n - 29 else f
def apg (n g : Int) : Int := if n = 0 then 0 else if n = 49 then 0 else if 40 ≤ n ∧ n ≤ 47 then n - 39 else g
def apb (n b : Int) : Int := if n = 0 then 0 else if n = 1 then 1 else if n = 22 then 0 else b
theorem apf_no {n : Int} (f : Int) (h0 : n ≠ 0) (h1 : n ≠ 39) (h2 : ¬ (30 ≤ n ∧ n ≤ 37)) : apf n f = f := by unfold apf; rw [if_neg h0, if_neg h1, if_neg h2]
theorem apg_no {n : Int} (f : Int) (h0 : n ≠ 0) (h1 : n ≠ 49) (h2 : ¬ (40 ≤ n ∧ n ≤ 47)) : apg n f = f := by unfold apg; rw [if_neg h0, if_neg h1, if_neg h2]
theorem apb_no {n : Int} (f : Int) (h0 : n ≠ 0) (h1 : n ≠ 1) (h2 : n ≠ 22) : apb n f = f := by unfold apb; rw [if_neg h0, if_neg h1, if_neg h2]
theorem apf_in {n : Int} (f : Int) (h : 30 ≤ n ∧ n ≤ 37) : apf n f = n - 29 := by unfold apf; rw [if_neg (by omega), if_neg (by omega), if_pos h]
theorem apg_in {n : Int} (f : Int) (h : 40 ≤ n ∧ n ≤ 47) : apg n f = n - 39 := by unfold apg; rw [if_neg (by omega), if_neg (by omega), if_pos h]

set_option maxRecDepth 100000 in
set_option maxHeartbeats 4000000 in
theorem applied_any (f g b n : Int) (w : World) : Calls Tryd.prog 129 #[sv f g b, .int .i64 n] w fun e w' => e = .returned (sv (apf n f) (apg n g) (apb n b)) ∧ Gr w w' := by
  by_cases h0 : n = 0
  · subst h0
    unfold sv
    go_enter Tryd.func129, Tryd.ntmps129
    go_wp2
    refine bodyPost_ret (v := sv 0 0 0) (by simp [results, Tryd.results129, go_sem, sv]) rfl ?_
    exact ⟨by rfl, ((Gr.refl w).alloc _).alloc _⟩
  by_cases h1 : n = 1
  · subst h1
    unfold sv
    go_enter Tryd.func129, Tryd.ntmps129
    go_wp2
    refine bodyPost_ret (v := sv f g 1) (by simp [results, Tryd.results129, go_sem, sv]) rfl ?_
    exact ⟨by rfl, ((Gr.refl w).alloc _).alloc _⟩
  by_cases h2 : n = 22
  · subst h2
    unfold sv
    go_enter Tryd.func129, Tryd.ntmps129
    go_wp2
    refine bodyPost_ret (v := sv f g 0) (by simp [results, Tryd.results129, go_sem, sv]) rfl ?_
    exact ⟨by rfl, ((Gr.refl w).alloc _).alloc _⟩
  by_cases h3 : n = 39
  · subst h3
    unfold sv
    go_enter Tryd.func129, Tryd.ntmps129
    go_wp2
    refine bodyPost_ret (v := sv 0 g b) (by simp [results, Tryd.results129, go_sem, sv]) rfl ?_
    exact ⟨by rfl, ((Gr.refl w).alloc _).alloc _⟩
  by_cases h4 : n = 49
  · subst h4
    unfold sv
    go_enter Tryd.func129, Tryd.ntmps129
    go_wp2
    refine bodyPost_ret (v := sv f 0 b) (by simp [results, Tryd.results129, go_sem, sv]) rfl ?_
    exact ⟨by rfl, ((Gr.refl w).alloc _).alloc _⟩
  by_cases h5 : 30 ≤ n ∧ n ≤ 37
  · rw [apf_in f h5, apg_no g h0 h4 (by omega), apb_no b h0 h1 h2]
    have q1 : 29 < n := by omega
    have q2 : n ≤ 37 := by omega
    unfold sv
    go_enter Tryd.func129, Tryd.ntmps129
    go_wp2
    refine bodyPost_ret (v := sv (n - 29) g b) (by simp [results, Tryd.results129, go_sem, sv]) rfl ?_
    exact ⟨by rfl, ((Gr.refl w).alloc _).alloc _⟩
  by_cases h6 : 40 ≤ n ∧ n ≤ 47
  · rw [apf_no f h0 h3 h5, apg_in g h6, apb_no b h0 h1 h2]
    have q0 : ¬ (29 < n ∧ n ≤ 37) := by omega
    have q1 : 39 < n := by omega
    have q2 : n ≤ 47 := by omega
    have q3 : ¬ n ≤ 37 := by omega
    have q4 : 29 < n := by omega
    unfold sv
    go_enter Tryd.func129, Tryd.ntmps129
    go_wp2
    refine bodyPost_ret (v := sv f (n - 39) b) (by simp [results, Tryd.results129, go_sem, sv]) rfl ?_
    exact ⟨by rfl, ((Gr.refl w).alloc _).alloc _⟩
  rw [apf_no f h0 h3 h5, apg_no g h0 h4 h6, apb_no b h0 h1 h2]
  unfold sv
  go_enter Tryd.func129, Tryd.ntmps129
  go_wp2
  all_goals
    refine bodyPost_ret (v := sv f g b) (by simp [results, Tryd.results129, go_sem, sv]) rfl ?_
    exact ⟨by rfl, ((Gr.refl w).alloc _).alloc _⟩

end Go.Proofs.YtlfffpoeioecjaaDoor

namespace Go.Proofs.YtlfffpoeioecjaaDoor
open Go.RowKit Go.Sort
set_option linter.unusedVariables false

/-- What numbers do, one behind the other. -/
def apF (zs : List Int) (f : Int) : Int := zs.foldl (fun f n => apf n f) f
def apG (zs : List Int) (g : Int) : Int := zs.foldl (fun g n => apg n g) g
def apB (zs : List Int) (b : Int) : Int := zs.foldl (fun b n => apb n b) b
theorem apF_next (zs : List Int) (k : Nat) (f : Int) (h : k < zs.length) : apF (zs.take (k + 1)) f = apf (zs[k]?.getD 0) (apF (zs.take k) f) := by
  unfold apF; rw [List.take_succ_eq_append_getElem h, List.foldl_append]; simp [h]
theorem apG_next (zs : List Int) (k : Nat) (f : Int) (h : k < zs.length) : apG (zs.take (k + 1)) f = apg (zs[k]?.getD 0) (apG (zs.take k) f) := by
  unfold apG; rw [List.take_succ_eq_append_getElem h, List.foldl_append]; simp [h]
theorem apB_next (zs : List Int) (k : Nat) (f : Int) (h : k < zs.length) : apB (zs.take (k + 1)) f = apb (zs[k]?.getD 0) (apB (zs.take k) f) := by
  unfold apB; rw [List.take_succ_eq_append_getElem h, List.foldl_append]; simp [h]
/-- What Apply answers. -/
def aplF (zs : List Int) (f : Int) : Int := if zs = [] then 0 else apF zs (kn f)
def aplG (zs : List Int) (f : Int) : Int := if zs = [] then 0 else apG zs (kn f)
def aplB (zs : List Int) (f : Int) : Int := if zs = [] then 0 else apB zs (bo f)
set_option maxRecDepth 100000 in
set_option maxHeartbeats 4000000 in
theorem apply_none (f g b : Int) (a : Option Addr) (cap : Nat) (w : World) : Calls Tryd.prog 113 #[sv f g b, .slice a 0 cap] w fun e w' => e = .returned (sv 0 0 0) ∧ Gr w w' := by
  have CC : Hid (∀ f g b w, Calls Tryd.prog 83 #[sv f g b] w fun e w' => e = .returned (sv (kn f) (kn g) (bo b)) ∧ Gr w w') := counted_any
  unfold sv at CC ⊢
  go_enter Tryd.func113, Tryd.ntmps113
  go_wp2
  refine bodyPost_ret (v := sv 0 0 0) (by simp [results, Tryd.results113, go_sem, sv]) rfl ?_
  exact ⟨rfl, ((Gr.refl w).alloc _).alloc _⟩

set_option maxRecDepth 100000 in
set_option maxHeartbeats 4000000 in
theorem apply_some (f g b : Int) (zs : List Int) (B off cap : Nat) (w : World) (hp : 0 < zs.length) (hB : B < w.heap.size) (hc : ∀ j, j < zs.length → w.cell? ⟨B, off + j, none⟩ = some (.int .i64 (zs[j]?.getD 0))) (hlen : zs.length ≤ 17592186044416) :
    Calls Tryd.prog 113 #[sv f g b, .slice (some ⟨B, off, none⟩) zs.length cap] w fun e w' => e = .returned (sv (apF zs (kn f)) (apG zs (kn g)) (apB zs (bo b))) ∧ Gr w w' := by
  have HC : Hid (∀ j, j < zs.length → w.cell? ⟨B, off + j, none⟩ = some (.int .i64 (zs[j]?.getD 0))) := hc
  clear hc
  have CC : Hid (∀ f g b w, Calls Tryd.prog 83 #[sv f g b] w fun e w' => e = .returned (sv (kn f) (kn g) (bo b)) ∧ Gr w w') := counted_any
  have AA : Hid (∀ f g b n w, Calls Tryd.prog 129 #[sv f g b, .int .i64 n] w fun e w' => e = .returned (sv (apf n f) (apg n g) (apb n b)) ∧ Gr w w') := applied_any
  obtain ⟨x, hx⟩ : ∃ z, kn f = z := ⟨_, rfl⟩
  obtain ⟨y, hy⟩ : ∃ z, kn g = z := ⟨_, rfl⟩
  obtain ⟨z, hz⟩ : ∃ z, bo b = z := ⟨_, rfl⟩
  have C1 : Hid (∀ w, _) := CC.out f g b
  rw [hx, hy, hz] at C1 ⊢
  clear CC hx hy hz
  unfold sv at C1 AA ⊢
  have hp' : ¬ ((zs.length : Int) = 0) := by omega
  have hpb : ((zs.length : Int) == 0) = false := by simpa using hp'
  have hpd : decide ((zs.length : Int) = 0) = false := by simpa using hp'
  go_enter Tryd.func113, Tryd.ntmps113
  go_wp2_with fail
  obtain ⟨S, hS⟩ : ∃ x, w.heap.size = x := ⟨_, rfl⟩
  obtain ⟨W0, hW0⟩ : ∃ x, (w.alloc (.cells #[.int .i64 f, .int .i64 g, .int .i64 b] 32)).alloc (.cells #[.int .i64 0, .int .i64 0, .int .i64 0] 32) = x := ⟨_, rfl⟩
  have G0 : Hid (Gr w W0) := by rw [← hW0]; exact ((Gr.refl w).alloc _).alloc _
  have RA : Hid (R3 32 W0 S f g b) := by rw [← hW0, ← hS]; exact (R3.new w _ _ _ _).gr ((Gr.refl _).alloc _)
  have RC : Hid (R3 32 W0 (S + 1) 0 0 0) := by
    have := R3.new (w.alloc (.cells #[.int .i64 f, .int .i64 g, .int .i64 b] 32)) 0 0 0 32
    simp only [World.size_alloc, hS] at this
    rw [← hW0]; exact this
  rw [hW0, hS]
  clear hW0
  have HS : Hid (w.heap.size = S) := hS
  have HB : Hid (B < w.heap.size) := hB
  clear hS hB
  refine (C1.out _).mono ?_
  rintro e w1 ⟨rfl, g1⟩
  have RA1 := RA.out.gr g1
  have R2 : Hid (R3 32 _ S x y z) := RA1.set x y z
  have RC2 : Hid (R3 32 _ (S + 1) 0 0 0) := (RC.out.gr g1).others (k := S) (by omega) (.int .i64 x) (.int .i64 y) (.int .i64 z)
  have G2 : Hid (Gr w _) := (G0.out.trans g1).set3 (k := S) (by rw [HS.out]; omega) (.int .i64 x) (.int .i64 y) (.int .i64 z)
  have a0 := RA1.c0
  have a1 := RA1.c1
  have a2 := RA1.c2
  have f0 := RA1.fz 0
  have f1 := RA1.fz 1
  have f2 := RA1.fz 2
  clear RA1 g1
  go_wp2_with fail
  obtain ⟨W2, hW2⟩ : ∃ q, (((w1.setCell ⟨S, 0, none⟩ (.int .i64 x)).setCell ⟨S, 1, none⟩ (.int .i64 y)).setCell ⟨S, 2, none⟩ (.int .i64 z)) = q := ⟨_, rfl⟩
  rw [hW2] at R2 RC2 G2 ⊢
  clear hW2 a0 a1 a2 f0 f1 f2 RA RC G0
  go_loopw [15] (fun i wr => ∃ k : Nat, k ≤ zs.length ∧ i = .int .i64 k ∧ Hid (R3 32 wr S (apF (zs.take k) x) (apG (zs.take k) y) (apB (zs.take k) z) ∧ R3 32 wr (S + 1) 0 0 0 ∧ Gr w wr)) (fun i _ => zs.length - (intOf i).toNat)
  case atStart => exact ⟨0, Nat.zero_le _, rfl, R2.out, RC2.out, G2.out⟩
  case round =>
    obtain ⟨k, hk, rfl, HR⟩ := hrel
    by_cases hlt : k < zs.length
    · obtain ⟨n, hn⟩ : ∃ q, zs[k]?.getD 0 = q := ⟨_, rfl⟩
      have hcx : wr.cell? ⟨B, off + k, none⟩ = some (.int .i64 n) := by rw [← hn]; exact (HR.out.2.2.below.cell (p := ⟨B, off + k, none⟩) HB.out).trans (HC.out k hlt)
      have N1 : Hid (apF (zs.take (k + 1)) x = apf n (apF (zs.take k) x)) := by rw [← hn]; exact apF_next zs k x hlt
      have N2 : Hid (apG (zs.take (k + 1)) y = apg n (apG (zs.take k) y)) := by rw [← hn]; exact apG_next zs k y hlt
      have N3 : Hid (apB (zs.take (k + 1)) z = apb n (apB (zs.take k) z)) := by rw [← hn]; exact apB_next zs k z hlt
      obtain ⟨p, hp1⟩ : ∃ q, apF (zs.take k) x = q := ⟨_, rfl⟩
      obtain ⟨q, hq1⟩ : ∃ q, apG (zs.take k) y = q := ⟨_, rfl⟩
      obtain ⟨r, hr1⟩ : ∃ q, apB (zs.take k) z = q := ⟨_, rfl⟩
      rw [hp1, hq1, hr1] at HR
      rw [hp1] at N1
      rw [hq1] at N2
      rw [hr1] at N3
      clear hn hp1 hq1 hr1
      have A1 : Hid (∀ w, _) := AA.out p q r n
      obtain ⟨p', hp2⟩ : ∃ q, apf n p = q := ⟨_, rfl⟩
      obtain ⟨q', hq2⟩ : ∃ z, apg n q = z := ⟨_, rfl⟩
      obtain ⟨r', hr2⟩ : ∃ q, apb n r = q := ⟨_, rfl⟩
      rw [hp2, hq2, hr2] at A1
      rw [hp2] at N1
      rw [hq2] at N2
      rw [hr2] at N3
      clear hp2 hq2 hr2
      have hlt' : (k : Int) < (zs.length : Int) := by omega
      have b0 := HR.out.1.c0
      have b1 := HR.out.1.c1
      have b2 := HR.out.1.c2
      have bb : B < wr.heap.size := Nat.lt_of_lt_of_le HB.out HR.out.2.2.size
      go_wp2_with (go_at_call 129; refine Calls.mono (A1.out _) ?_; rintro e w5 ⟨rfl, g5⟩; have HG5 : Hid (Gr wr w5) := (by first | exact g5 | exact ((Gr.refl wr).drew).trans g5); have R5 : Hid (R3 32 w5 S p q r) := HR.out.1.gr HG5.out; clear g5; have d0 := R5.out.c0; have d1 := R5.out.c1; have d2 := R5.out.c2; have e0 := R5.out.fz 0; have e1 := R5.out.fz 1; have e2 := R5.out.fz 2; have hcy : w5.cell? ⟨B, off + k, none⟩ = some (.int .i64 n) := (HG5.out.below.cell (p := ⟨B, off + k, none⟩) bb).trans hcx)
      all_goals
        go_roundw
        case rel => exact ⟨k + 1, by omega, by go_num, by show _ ∧ _ ∧ _; rw [N1.out, N2.out, N3.out]; exact ⟨R5.out.set p' q' r', (HR.out.2.1.gr HG5.out).others (by omega) _ _ _, (HR.out.2.2.trans HG5.out).set3 (by rw [HS.out]; omega) _ _ _⟩⟩
        case measure => simp [intOf]; omega
    · have hlt' : ¬ (k : Int) < (zs.length : Int) := by omega
      have hkk : k = zs.length := by omega
      have HK : Hid (R3 32 wr S (apF zs x) (apG zs y) (apB zs z)) := by have := HR.out.1; rw [hkk, List.take_length] at this; exact this
      obtain ⟨p, hp1⟩ : ∃ q, apF zs x = q := ⟨_, rfl⟩
      obtain ⟨q, hq1⟩ : ∃ q, apG zs y = q := ⟨_, rfl⟩
      obtain ⟨r, hr1⟩ : ∃ q, apB zs z = q := ⟨_, rfl⟩
      rw [hp1, hq1, hr1] at HK
      have HP : Hid (apF zs x = p) := hp1
      have HQ : Hid (apG zs y = q) := hq1
      have HRR : Hid (apB zs z = r) := hr1
      clear hp1 hq1 hr1
      have b0 := HK.out.c0
      have b1 := HK.out.c1
      have b2 := HK.out.c2
      have c0 := HR.out.2.1.c0
      have c1 := HR.out.2.1.c1
      have c2 := HR.out.2.1.c2
      have k0 := HR.out.2.1.fz 0
      have k1 := HR.out.2.1.fz 1
      have k2 := HR.out.2.1.fz 2
      go_wp2
      refine bodyPost_ret (results_cell_row rfl _ _ (S + 1) _ _ _ _ rfl (HR.out.2.1.set _ _ _) Tryd.underlying32 rfl (by kernel_rfl)) rfl ?_
      exact ⟨by rw [HP.out, HQ.out, HRR.out], HR.out.2.2.set3 (by rw [HS.out]; omega) _ _ _⟩

theorem apply_any (f g b : Int) (zs : List Int) (v : Value) (w : World) (h : Ints w v zs) (hlen : zs.length ≤ 17592186044416) : Calls Tryd.prog 113 #[sv f g b, v] w fun e w' => e = .returned (sv (aplF zs f) (aplG zs g) (aplB zs b)) ∧ Gr w w' := by
  obtain ⟨a, cap, rfl, hh⟩ := h
  by_cases hz : zs = []
  · subst hz; exact apply_none f g b a cap w
  · obtain ⟨B, off, rfl, hb, hc⟩ := hh.resolve_left hz
    unfold aplF aplG aplB
    rw [if_neg hz, if_neg hz, if_neg hz]
    exact apply_some f g b zs B off cap w (List.length_pos_iff.2 hz) hb hc hlen

end Go.Proofs.YtlfffpoeioecjaaDoor

namespace Go.Proofs.YtlfffpoeioecjaaDoor
open Go.RowKit Go.Sort
set_option linter.unusedVariables false

/-- What a cluster that is seen whole writes. -/
def gly (l : Nat) (wd : Int) (txt : ByteArray) (f g b : Int) : Nat → Ce := fun j => if wd = 2 then (if j = l then ⟨txt, f, g, b, 1⟩ else ⟨ept, f, g, b, 2⟩) else ⟨txt, f, g, b, 0⟩
/-- What Put writes, of which l t u v can be seen. -/
def putX (l u wd : Int) (txt : ByteArray) (f g b : Int) : Nat → Ce := if u < wd then fun _ => bk (kn f) (kn g) (bo b) else gly l.toNat wd txt (kn f) (kn g) (bo b)
def putQ (c : Nat → Nat → Ce) (wd : Int) (txt : ByteArray) (f g b : Int) (q : Int × Int × Int × Int) : Nat → Nat → Ce :=
  if wd = 1 ∨ wd = 2 then fill c q.1.toNat (q.1 + q.2.2.1).toNat q.2.1.toNat (q.2.1 + q.2.2.2).toNat (putX q.1 q.2.2.1 wd txt f g b) else c
def putC (W H : Nat) (c : Nat → Nat → Ce) (x y : Int) (txt : ByteArray) (wd : Int) (f g b cx cy ca cb : Int) : Nat → Nat → Ce := putQ c wd txt f g b (seenQ W H x y wd 1 cx cy ca cb)
def filC (W H : Nat) (c : Nat → Nat → Ce) (x y a b f g bd cx cy ca cb : Int) : Nat → Nat → Ce :=
  fill c (seenQ W H x y a b cx cy ca cb).1.toNat ((seenQ W H x y a b cx cy ca cb).1 + (seenQ W H x y a b cx cy ca cb).2.2.1).toNat (seenQ W H x y a b cx cy ca cb).2.1.toNat ((seenQ W H x y a b cx cy ca cb).2.1 + (seenQ W H x y a b cx cy ca cb).2.2.2).toNat (fun _ => bk (kn f) (kn g) (bo bd))
/-- Seen whole: it stands where it was put. -/
theorem Seen.whole {W H x y wd cx cy ca cb l t u v : Int} (h : Seen W H x y wd 1 cx cy ca cb l t u v) (hw : wd = 1 ∨ wd = 2) (hu : wd ≤ u) (hW : W ≤ 400) (hH : H ≤ 400) : l = x ∧ t = y ∧ u = wd ∧ v = 1 := by
  have l0 := h.l0
  have t0 := h.t0
  have lu := h.lu
  have tv := h.tv
  have uv := h.uv
  have m1 := (h.mem l t).1 (by omega)
  have m2 := (h.mem (l + u - 1) (t + v - 1)).1 (by omega)
  have e : lenI wd = wd := lenI_id (by omega)
  have e1 : lenI 1 = 1 := rfl
  rw [e, e1] at m1 m2
  have b1 := posI_bd x
  have b2 := posI_bd y
  have hx : posI x = l := by omega
  have hy : posI y = t := by omega
  unfold posI at hx hy
  omega
theorem Seen.most {W H x y wd cx cy ca cb l t u v : Int} (h : Seen W H x y wd 1 cx cy ca cb l t u v) (hw : wd = 1 ∨ wd = 2) : u ≤ wd := by
  by_cases hu : 0 < u
  · have uv := h.uv
    have m1 := (h.mem l t).1 (by omega)
    have m2 := (h.mem (l + u - 1) (t + v - 1)).1 (by omega)
    have e : lenI wd = wd := lenI_id (by omega)
    rw [e] at m1 m2
    omega
  · omega
theorem PAll.putX {W H : Nat} {c : Nat → Nat → Ce} (h : PAll W H c) (hW : 1 ≤ W ∧ W ≤ 400) (hH : 1 ≤ H ∧ H ≤ 400) (x y : Int) (txt : ByteArray) (wd f g b cx cy ca cb : Int) : PAll W H (putC W H c x y txt wd f g b cx cy ca cb) := by
  have SF := seen_facts (W := W) (H := H) (by omega) (by omega) x y wd 1 cx cy ca cb
  unfold putC putQ
  obtain ⟨q, hq⟩ : ∃ q, seenQ W H x y wd 1 cx cy ca cb = q := ⟨_, rfl⟩
  rw [hq] at SF ⊢
  obtain ⟨l, t, u, v⟩ := q
  simp only at SF ⊢
  have lu := SF.lu
  have l0 := SF.l0
  have u0 := SF.u0
  split
  · rename_i hw
    unfold Go.Proofs.YtlfffpoeioecjaaDoor.putX
    by_cases hu : u < wd
    · rw [if_pos hu]; exact h.fill0 (by omega) (fun _ => rfl)
    · rw [if_neg hu]
      obtain ⟨e1, e2, e3, e4⟩ := SF.whole hw (by omega) (by omega) (by omega)
      rcases hw with hw | hw
      · refine h.fill0 (by omega) (fun j => ?_)
        unfold gly; rw [if_neg (by omega)]
      · rw [show (l + u).toNat = l.toNat + 2 by omega]
        refine h.fill2 (by omega) ?_ ?_ ?_ ?_ ?_ ?_ <;> (unfold gly; simp [hw])
  · exact h
theorem PAll.filX {W H : Nat} {c : Nat → Nat → Ce} (h : PAll W H c) (hW : 1 ≤ W ∧ W ≤ 400) (hH : 1 ≤ H ∧ H ≤ 400) (x y a b f g bd cx cy ca cb : Int) : PAll W H (filC W H c x y a b f g bd cx cy ca cb) := by
  have SF := seen_facts (W := W) (H := H) (by omega) (by omega) x y a b cx cy ca cb
  unfold filC
  exact h.fill0 (by have := SF.lu; have := SF.l0; omega) (fun _ => rfl)

/-- A block of a cluster. -/
def RCl (T : TypeId) (Q : World) (b : Nat) (txt : ByteArray) (wd : Int) : Prop := Q.heap[b]? = some (.cells #[.string txt, .int .i64 wd] T (0, 0))
section
variable {T : TypeId} {Q Q' : World} {b k : Nat} {txt : ByteArray} {wd : Int}
theorem RCl.lt (h : RCl T Q b txt wd) : b < Q.heap.size := (Array.getElem?_eq_some_iff.1 h).1
theorem RCl.c0 (h : RCl T Q b txt wd) : Q.cell? ⟨b, 0, none⟩ = some (.string txt) := by unfold RCl at h; simp [World.cell?, h]
theorem RCl.c1 (h : RCl T Q b txt wd) : Q.cell? ⟨b, 1, none⟩ = some (.int .i64 wd) := by unfold RCl at h; simp [World.cell?, h]
theorem RCl.gr (h : RCl T Q b txt wd) (g : Gr Q Q') : RCl T Q' b txt wd := (g.block h.lt).trans h
theorem RCl.ch (h : RCl T Q b txt wd) (g : Ch k Q Q') (hk : b ≠ k) : RCl T Q' b txt wd := (g.block b h.lt hk).trans h
theorem RCl.other (h : RCl T Q b txt wd) (hk : b ≠ k) (o : Nat) (v : Value) : RCl T (Q.setCell ⟨k, o, none⟩ v) b txt wd := (Below.heap_setCell Q ⟨k, o, none⟩ v b hk).trans h
theorem RCl.new (Q : World) (txt : ByteArray) (wd : Int) (T : TypeId) : RCl T (Q.alloc (.cells #[.string txt, .int .i64 wd] T)) Q.heap.size txt wd := heap_alloc_new _ _
end
theorem R3.ch {T : TypeId} {Q Q' : World} {b k : Nat} {x y a : Int} (h : R3 T Q b x y a) (g : Ch k Q Q') (hk : b ≠ k) : R3 T Q' b x y a := (g.block b h.lt hk).trans h

theorem put_two (c : Nat → Nat → Ce) (Y X y' x' : Nat) (txt : ByteArray) (kf kg kb : Int) :
    upd (upd (upd (cut c Y X (X + 1)) Y X ⟨txt, kf, kg, kb, 0⟩) Y X { upd (cut c Y X (X + 1)) Y X ⟨txt, kf, kg, kb, 0⟩ Y X with p := 1 }) Y (X + 1) ⟨ept, kf, kg, kb, 2⟩ y' x' = part c Y X (X + 1) (X + 1 + 1 - X) (gly X 2 txt kf kg kb) y' x' := by
  have u0 : upd (cut c Y X (X + 1)) Y X ⟨txt, kf, kg, kb, 0⟩ Y X = ⟨txt, kf, kg, kb, 0⟩ := by unfold upd; rw [if_pos ⟨rfl, rfl⟩]
  rw [u0]
  unfold part gly
  rw [if_pos rfl]
  by_cases h1 : y' = Y ∧ x' = X + 1
  · rw [show upd (upd (upd (cut c Y X (X + 1)) Y X ⟨txt, kf, kg, kb, 0⟩) Y X ⟨txt, kf, kg, kb, 1⟩) Y (X + 1) ⟨ept, kf, kg, kb, 2⟩ y' x' = ⟨ept, kf, kg, kb, 2⟩ from if_pos h1, if_pos (by omega), if_neg (by omega)]
  · rw [show upd (upd (upd (cut c Y X (X + 1)) Y X ⟨txt, kf, kg, kb, 0⟩) Y X ⟨txt, kf, kg, kb, 1⟩) Y (X + 1) ⟨ept, kf, kg, kb, 2⟩ y' x' = upd (upd (cut c Y X (X + 1)) Y X ⟨txt, kf, kg, kb, 0⟩) Y X ⟨txt, kf, kg, kb, 1⟩ y' x' from if_neg h1]
    by_cases h2 : y' = Y ∧ x' = X
    · rw [show upd (upd (cut c Y X (X + 1)) Y X ⟨txt, kf, kg, kb, 0⟩) Y X ⟨txt, kf, kg, kb, 1⟩ y' x' = ⟨txt, kf, kg, kb, 1⟩ from if_pos h2, if_pos (by omega), if_pos h2.2]
    · rw [show upd (upd (cut c Y X (X + 1)) Y X ⟨txt, kf, kg, kb, 0⟩) Y X ⟨txt, kf, kg, kb, 1⟩ y' x' = upd (cut c Y X (X + 1)) Y X ⟨txt, kf, kg, kb, 0⟩ y' x' from if_neg h2, show upd (cut c Y X (X + 1)) Y X ⟨txt, kf, kg, kb, 0⟩ y' x' = cut c Y X (X + 1) y' x' from if_neg h2, if_neg (by omega)]
theorem fld2 (a b c d : Value) (W : World) : Sem.run Tryd.prog (Instr.field 169 (Value.agg #[a, b, c, d]) 2) W = Result.ok c W := by
  unfold Instr.field
  simp [go_sem]
  rfl

section
variable {K M cap W H : Nat} {c : Nat → Nat → Ce}
set_option maxRecDepth 100000 in
set_option maxHeartbeats 4000000 in
theorem put_any (w : World) (h : CS 101 34 w K M cap W H c) (hW : 1 ≤ W ∧ W ≤ 400) (hH : 1 ≤ H ∧ H ≤ 400) (hp : PAll W H c) (x y : Int) (txt : ByteArray) (wd f g b cx cy ca cb : Int) :
    Calls Tryd.prog 118 #[.pointer (some ⟨K, 0, none⟩), .int .i64 x, .int .i64 y, .agg #[.string txt, .int .i64 wd], sv f g b, rv cx cy ca cb] w fun e w' => e = .returned (.tuple #[]) ∧ Cv 34 w' M W H (putC W H c x y txt wd f g b cx cy ca cb) ∧ Ch M w w' := by
  have SF := seen_facts (W := W) (H := H) (by omega) (by omega) x y wd 1 cx cy ca cb
  unfold putC
  obtain ⟨q, hq⟩ : ∃ q, seenQ W H x y wd 1 cx cy ca cb = q := ⟨_, rfl⟩
  have SN : Hid (∀ w0, CS 101 34 w0 K M cap W H c → Calls Tryd.prog 126 #[.pointer (some ⟨K, 0, none⟩), rv x y wd 1, rv cx cy ca cb] w0 fun e w' => e = .returned (rv q.1 q.2.1 q.2.2.1 q.2.2.2) ∧ Gr w0 w') := fun w0 h0 => by
    have := seen_any w0 h0 x y wd 1 cx cy ca cb
    rw [hq] at this; exact this
  rw [hq] at SF ⊢
  obtain ⟨l, t, u, v⟩ := q
  have FL : Hid (∀ w0, CS 101 34 w0 K M cap W H c → Calls Tryd.prog 111 #[.pointer (some ⟨K, 0, none⟩), rv x y wd 1, sv f g b, rv cx cy ca cb] w0 fun e w' => e = .returned (.tuple #[]) ∧ Cv 34 w' M W H (fill c l.toNat (l + u).toNat t.toNat (t + v).toNat (fun _ => bk (kn f) (kn g) (bo b))) ∧ Ch M w0 w') := fun w0 h0 => fill_any w0 h0 hW hH hp x y wd 1 f g b cx cy ca cb l t u v hq
  simp only at SN SF
  unfold putQ
  simp only
  have CN : Hid (∀ f g b w, Calls Tryd.prog 127 #[sv f g b] w fun e w' => e = .returned (sv (kn f) (kn g) (bo b)) ∧ Gr w w') := counts_any
  have HC : Hid (CS 101 34 w K M cap W H c) := h
  have HP : Hid (PAll W H c) := hp
  have HF : Hid (Seen W H x y wd 1 cx cy ca cb l t u v) := SF
  clear h hp hq SF
  unfold rv at SN FL
  unfold rv sv
  unfold sv at CN FL
  have C1 := CN.out f g b
  obtain ⟨S, hS⟩ : ∃ z, w.heap.size = z := ⟨_, rfl⟩
  have HS : Hid (w.heap.size = S) := hS
  by_cases h1 : wd = 1 ∨ wd = 2
  · rcases h1 with rfl | rfl
    · have HI : Hid ((if (1 : Int) = 1 ∨ (1 : Int) = 2 then fill c l.toNat (l + u).toNat t.toNat (t + v).toNat (putX l u 1 txt f g b) else c) = fill c l.toNat (l + u).toNat t.toNat (t + v).toNat (putX l u 1 txt f g b)) := if_pos (by omega)
      rw [HI.out]
      clear HI
      go_enter Tryd.func118, Tryd.ntmps118
      go_wp2_with fail
      obtain ⟨W0, hW0⟩ : ∃ z, (((w.alloc (.cells #[.string txt, .int .i64 1] 67)).alloc (.cells #[.int .i64 f, .int .i64 g, .int .i64 b] 32)).alloc (.cells #[.int .i64 cx, .int .i64 cy, .int .i64 ca, .int .i64 cb] 169)).alloc (.cells #[.int .i64 x, .int .i64 y, .int .i64 1, .int .i64 1] 169) = z := ⟨_, rfl⟩
      have G0 : Hid (Gr w W0) := by rw [← hW0]; exact ((((Gr.refl w).alloc _).alloc _).alloc _).alloc _
      have R0 : Hid (RCl 67 W0 S txt 1 ∧ R3 32 W0 (S + 1) f g b ∧ R4 169 W0 (S + 1 + 1) cx cy ca cb ∧ R4 169 W0 (S + 1 + 1 + 1) x y 1 1) := by
        rw [← hW0, ← hS]
        refine ⟨(RCl.new w _ _ _).gr ((((Gr.refl _).alloc _).alloc _).alloc _), ?_, ?_, ?_⟩
        · have := R3.new (w.alloc (.cells #[.string txt, .int .i64 1] 67)) f g b 32
          simp only [World.size_alloc] at this
          exact this.gr (((Gr.refl _).alloc _).alloc _)
        · have := R4.new ((w.alloc (.cells #[.string txt, .int .i64 1] 67)).alloc (.cells #[.int .i64 f, .int .i64 g, .int .i64 b] 32)) cx cy ca cb 169
          simp only [World.size_alloc] at this
          exact this.gr ((Gr.refl _).alloc _)
        · have := R4.new (((w.alloc (.cells #[.string txt, .int .i64 1] 67)).alloc (.cells #[.int .i64 f, .int .i64 g, .int .i64 b] 32)).alloc (.cells #[.int .i64 cx, .int .i64 cy, .int .i64 ca, .int .i64 cb] 169)) x y 1 1 169
          simp only [World.size_alloc] at this
          exact this
      rw [hW0]
      clear hW0 hS
      have q0 := R0.out.1.c0
      have q1 := R0.out.1.c1
      have r0 := R0.out.2.2.1.c0
      have r1 := R0.out.2.2.1.c1
      have r2 := R0.out.2.2.1.c2
      have r3 := R0.out.2.2.1.c3
      have m0 := R0.out.2.2.2.c0
      have m1 := R0.out.2.2.2.c1
      have m2 := R0.out.2.2.2.c2
      have m3 := R0.out.2.2.2.c3
      have hfl := fld2 (.int .i64 l) (.int .i64 t) (.int .i64 u) (.int .i64 v)
      by_cases hu : u < 1
      · have HX : Hid (putX l u 1 txt f g b = fun _ => bk (kn f) (kn g) (bo b)) := if_pos hu
        go_cut [34] from 22 to 33 (fun s wx => s = .bool true ∧ Hid (RCl 67 wx S txt 1 ∧ R3 32 wx (S + 1) f g b ∧ R4 169 wx (S + 1 + 1) cx cy ca cb ∧ R4 169 wx (S + 1 + 1 + 1) x y 1 1 ∧ Gr w wx))
        case first =>
          go_region_with (go_at_call 126; refine Calls.mono (SN.out _ (HC.out.gr (by first | exact G0.out.drew | exact G0.out))) ?_; rintro e1 w1 ⟨rfl, g1⟩; have G1 : Hid (Gr W0 w1) := (by first | exact ((Gr.refl W0).drew).trans g1 | exact g1); clear g1; have o1 := (R0.out.1.gr G1.out).c1)
          all_goals
            go_wp2_with fail
            go_meet
            exact ⟨rfl, R0.out.1.gr G1.out, R0.out.2.1.gr G1.out, R0.out.2.2.1.gr G1.out, R0.out.2.2.2.gr G1.out, G0.out.trans G1.out⟩
        case rest =>
          obtain ⟨rfl, HR⟩ := hcut
          clear q0 q1 r0 r1 r2 r3 m0 m1 m2 m3 hfl
          have s0 := HR.out.2.1.c0
          have s1 := HR.out.2.1.c1
          have s2 := HR.out.2.1.c2
          have r0 := HR.out.2.2.1.c0
          have r1 := HR.out.2.2.1.c1
          have r2 := HR.out.2.2.1.c2
          have r3 := HR.out.2.2.1.c3
          have m0 := HR.out.2.2.2.1.c0
          have m1 := HR.out.2.2.2.1.c1
          have m2 := HR.out.2.2.2.1.c2
          have m3 := HR.out.2.2.2.1.c3
          go_wp2_with (go_at_call 111; refine Calls.mono (FL.out _ (HC.out.gr HR.out.2.2.2.2)) ?_; rintro e2 w2 ⟨rfl, V2, C2⟩; have HV2 : Hid (Cv 34 w2 M W H (fill c l.toNat (l + u).toNat t.toNat (t + v).toNat (fun _ => bk (kn f) (kn g) (bo b))) ∧ Ch M w w2) := (⟨V2, (Ch.gr HR.out.2.2.2.2).trans C2⟩ : _ ∧ _); clear V2 C2)
          refine bodyPost_ret (results_none rfl _ _ _) rfl ?_
          exact ⟨rfl, by rw [HX.out]; exact HV2.out.1, HV2.out.2⟩
      · have HX : Hid (putX l u 1 txt f g b = gly l.toNat 1 txt (kn f) (kn g) (bo b)) := if_neg hu
        have WH := HF.out.whole (by omega) (show (1 : Int) ≤ u by omega) (by omega) (by omega)
        have hlu := HF.out.lu
        have hl0 := HF.out.l0
        have htv := HF.out.tv
        have ht0 := HF.out.t0
        have hx : 0 ≤ x ∧ x + 1 ≤ W := by omega
        have hy : 0 ≤ y ∧ y < H := by omega
        have HW : Hid (l = x ∧ t = y ∧ u = 1 ∧ v = 1) := WH
        clear WH hlu hl0 htv ht0
        go_cut [34] from 22 to 33 (fun s wx => s = .bool false ∧ Hid (RCl 67 wx S txt 1 ∧ R3 32 wx (S + 1) f g b ∧ R4 169 wx (S + 1 + 1) cx cy ca cb ∧ R4 169 wx (S + 1 + 1 + 1) x y 1 1 ∧ Gr w wx))
        case first =>
          have hu' : ¬ u < 1 := hu
          go_region_with (go_at_call 126; refine Calls.mono (SN.out _ (HC.out.gr (by first | exact G0.out.drew | exact G0.out))) ?_; rintro e1 w1 ⟨rfl, g1⟩; have G1 : Hid (Gr W0 w1) := (by first | exact ((Gr.refl W0).drew).trans g1 | exact g1); clear g1; have o1 := (R0.out.1.gr G1.out).c1)
          all_goals
            go_wp2_with fail
            go_meet
            exact ⟨congrArg Value.bool (decide_eq_false (by omega)), R0.out.1.gr G1.out, R0.out.2.1.gr G1.out, R0.out.2.2.1.gr G1.out, R0.out.2.2.2.gr G1.out, G0.out.trans G1.out⟩
        case rest =>
          obtain ⟨rfl, HR⟩ := hcut
          clear q0 q1 r0 r1 r2 r3 m0 m1 m2 m3 hfl
          have s0 := HR.out.2.1.c0
          have s1 := HR.out.2.1.c1
          have s2 := HR.out.2.1.c2
          go_wp2_with fail
          refine Calls.mono (C1 _) ?_
          rintro e1 w1 ⟨rfl, g1⟩
          have R1 : Hid (RCl 67 w1 S txt 1 ∧ R3 32 w1 (S + 1) f g b ∧ Gr w w1) := ⟨HR.out.1.gr g1, HR.out.2.1.gr g1, HR.out.2.2.2.2.trans g1⟩
          clear g1 s0 s1 s2 HR C1
          obtain ⟨kf, hkf⟩ : ∃ z, kn f = z := ⟨_, rfl⟩
          obtain ⟨kg, hkg⟩ : ∃ z, kn g = z := ⟨_, rfl⟩
          obtain ⟨kb, hkb⟩ : ∃ z, bo b = z := ⟨_, rfl⟩
          rw [hkf, hkg, hkb] at HX
          rw [hkf, hkg, hkb]
          clear hkf hkg hkb
          obtain ⟨w2, hw2⟩ : ∃ z, ((w1.setCell ⟨S + 1, 0, none⟩ (.int .i64 kf)).setCell ⟨S + 1, 1, none⟩ (.int .i64 kg)).setCell ⟨S + 1, 2, none⟩ (.int .i64 kb) = z := ⟨_, rfl⟩
          have R2 : Hid (RCl 67 w2 S txt 1 ∧ R3 32 w2 (S + 1) kf kg kb ∧ Gr w w2) := by
            rw [← hw2]
            exact ⟨((R1.out.1.other (by omega) _ _).other (by omega) _ _).other (by omega) _ _, R1.out.2.1.set _ _ _, R1.out.2.2.set3 (by rw [HS.out]; omega) _ _ _⟩
          have s0 := R1.out.2.1.c0
          have s1 := R1.out.2.1.c1
          have s2 := R1.out.2.1.c2
          have z0 := R1.out.2.1.fz 0
          have z1 := R1.out.2.1.fz 1
          have z2 := R1.out.2.1.fz 2
          have q1 := R2.out.1.c1
          go_wp2_with fail
          refine Calls.mono (stretch_int w2 (HC.out.gr R2.out.2.2) hW hH.2 HP.out y x (x + 1) hy (by omega) hx.2) ?_
          rintro e3 w3 ⟨rfl, V3, C3⟩
          have HM : Hid (M < S) := (by rw [← HS.out]; exact HC.out.cv.lt : M < S)
          have R3' : Hid (RCl 67 w3 S txt 1 ∧ R3 32 w3 (S + 1) kf kg kb ∧ Ch M w w3) := ⟨R2.out.1.ch C3 (by have := HM.out; omega), R2.out.2.1.ch C3 (by have := HM.out; omega), (Ch.gr R2.out.2.2).trans C3⟩
          obtain ⟨X, hX⟩ : ∃ z, x.toNat = z := ⟨_, rfl⟩
          obtain ⟨Y, hY⟩ : ∃ z, y.toNat = z := ⟨_, rfl⟩
          rw [hX, hY] at V3
          rw [hX, hY]
          have HV3 : Hid (Cv 34 w3 M W H (cut c Y X (X + 1 - 1))) := by
            rw [show (x + 1).toNat - 1 = X + 1 - 1 by omega] at V3; exact V3
          have HXY : Hid (x.toNat = X ∧ y.toNat = Y) := ⟨hX, hY⟩
          have hXW : X + 1 ≤ W := by omega
          have hYH : Y < H := by omega
          rw [show (x + 1 - x).toNat = 1 by omega]
          clear hX hY V3 C3 s0 s1 s2 z0 z1 z2 q1 hw2 R1 R2
          obtain ⟨o, ho⟩ : ∃ z, Y * W * 5 + X * 5 = z := ⟨_, rfl⟩
          have HO : Hid (Y * W * 5 + X * 5 = o) := ho
          have d0 := HV3.out.c0 hYH (show X < W by omega)
          have d1 := HV3.out.c1 hYH (show X < W by omega)
          have d2 := HV3.out.c2 hYH (show X < W by omega)
          have d3 := HV3.out.c3 hYH (show X < W by omega)
          have d4 := HV3.out.c4 hYH (show X < W by omega)
          rw [ho] at d0 d1 d2 d3 d4
          rw [ho]
          clear ho
          have fz := HV3.out.fz
          have q0 := R3'.out.1.c0
          have q1 := R3'.out.1.c1
          have s0 := R3'.out.2.1.c0
          have s1 := R3'.out.2.1.c1
          have s2 := R3'.out.2.1.c2
          have sm : ¬ S = M := by have := HM.out; omega
          have sm1 : ¬ S + 1 = M := by have := HM.out; omega
          go_wp2
          go_end0
          refine ⟨rfl, ?_, R3'.out.2.2.set5 _ _ _ _ _⟩
          have VS := HV3.out.set hYH (show X < W by omega) ⟨txt, kf, kg, kb, 0⟩
          rw [HO.out] at VS
          refine VS.same ?_
          intro y' x' _ _
          rw [HX.out, HW.out.1, HW.out.2.1, HW.out.2.2.1, HW.out.2.2.2, show (x + 1).toNat = x.toNat + 1 by omega, show (y + 1).toNat = y.toNat + 1 by omega, HXY.out.1, HXY.out.2, ← part_done c Y X X _ (Nat.le_refl _), show X + 1 - X = 0 + 1 by omega, ← part_next, part_zero]
          rfl
    · have HI : Hid ((if (2 : Int) = 1 ∨ (2 : Int) = 2 then fill c l.toNat (l + u).toNat t.toNat (t + v).toNat (putX l u 2 txt f g b) else c) = fill c l.toNat (l + u).toNat t.toNat (t + v).toNat (putX l u 2 txt f g b)) := if_pos (by omega)
      rw [HI.out]
      clear HI
      go_enter Tryd.func118, Tryd.ntmps118
      go_wp2_with fail
      obtain ⟨W0, hW0⟩ : ∃ z, (((w.alloc (.cells #[.string txt, .int .i64 2] 67)).alloc (.cells #[.int .i64 f, .int .i64 g, .int .i64 b] 32)).alloc (.cells #[.int .i64 cx, .int .i64 cy, .int .i64 ca, .int .i64 cb] 169)).alloc (.cells #[.int .i64 x, .int .i64 y, .int .i64 2, .int .i64 1] 169) = z := ⟨_, rfl⟩
      have G0 : Hid (Gr w W0) := by rw [← hW0]; exact ((((Gr.refl w).alloc _).alloc _).alloc _).alloc _
      have R0 : Hid (RCl 67 W0 S txt 2 ∧ R3 32 W0 (S + 1) f g b ∧ R4 169 W0 (S + 1 + 1) cx cy ca cb ∧ R4 169 W0 (S + 1 + 1 + 1) x y 2 1) := by
        rw [← hW0, ← hS]
        refine ⟨(RCl.new w _ _ _).gr ((((Gr.refl _).alloc _).alloc _).alloc _), ?_, ?_, ?_⟩
        · have := R3.new (w.alloc (.cells #[.string txt, .int .i64 2] 67)) f g b 32
          simp only [World.size_alloc] at this
          exact this.gr (((Gr.refl _).alloc _).alloc _)
        · have := R4.new ((w.alloc (.cells #[.string txt, .int .i64 2] 67)).alloc (.cells #[.int .i64 f, .int .i64 g, .int .i64 b] 32)) cx cy ca cb 169
          simp only [World.size_alloc] at this
          exact this.gr ((Gr.refl _).alloc _)
        · have := R4.new (((w.alloc (.cells #[.string txt, .int .i64 2] 67)).alloc (.cells #[.int .i64 f, .int .i64 g, .int .i64 b] 32)).alloc (.cells #[.int .i64 cx, .int .i64 cy, .int .i64 ca, .int .i64 cb] 169)) x y 2 1 169
          simp only [World.size_alloc] at this
          exact this
      rw [hW0]
      clear hW0 hS
      have q0 := R0.out.1.c0
      have q1 := R0.out.1.c1
      have r0 := R0.out.2.2.1.c0
      have r1 := R0.out.2.2.1.c1
      have r2 := R0.out.2.2.1.c2
      have r3 := R0.out.2.2.1.c3
      have m0 := R0.out.2.2.2.c0
      have m1 := R0.out.2.2.2.c1
      have m2 := R0.out.2.2.2.c2
      have m3 := R0.out.2.2.2.c3
      have hfl := fld2 (.int .i64 l) (.int .i64 t) (.int .i64 u) (.int .i64 v)
      by_cases hu : u < 2
      · have HX : Hid (putX l u 2 txt f g b = fun _ => bk (kn f) (kn g) (bo b)) := if_pos hu
        go_cut [34] from 22 to 33 (fun s wx => s = .bool true ∧ Hid (RCl 67 wx S txt 2 ∧ R3 32 wx (S + 1) f g b ∧ R4 169 wx (S + 1 + 1) cx cy ca cb ∧ R4 169 wx (S + 1 + 1 + 1) x y 2 1 ∧ Gr w wx))
        case first =>
          go_region_with (go_at_call 126; refine Calls.mono (SN.out _ (HC.out.gr (by first | exact G0.out.drew | exact G0.out))) ?_; rintro e1 w1 ⟨rfl, g1⟩; have G1 : Hid (Gr W0 w1) := (by first | exact ((Gr.refl W0).drew).trans g1 | exact g1); clear g1; have o1 := (R0.out.1.gr G1.out).c1)
          all_goals
            go_wp2_with fail
            go_meet
            exact ⟨rfl, R0.out.1.gr G1.out, R0.out.2.1.gr G1.out, R0.out.2.2.1.gr G1.out, R0.out.2.2.2.gr G1.out, G0.out.trans G1.out⟩
        case rest =>
          obtain ⟨rfl, HR⟩ := hcut
          clear q0 q1 r0 r1 r2 r3 m0 m1 m2 m3 hfl
          have s0 := HR.out.2.1.c0
          have s1 := HR.out.2.1.c1
          have s2 := HR.out.2.1.c2
          have r0 := HR.out.2.2.1.c0
          have r1 := HR.out.2.2.1.c1
          have r2 := HR.out.2.2.1.c2
          have r3 := HR.out.2.2.1.c3
          have m0 := HR.out.2.2.2.1.c0
          have m1 := HR.out.2.2.2.1.c1
          have m2 := HR.out.2.2.2.1.c2
          have m3 := HR.out.2.2.2.1.c3
          go_wp2_with (go_at_call 111; refine Calls.mono (FL.out _ (HC.out.gr HR.out.2.2.2.2)) ?_; rintro e2 w2 ⟨rfl, V2, C2⟩; have HV2 : Hid (Cv 34 w2 M W H (fill c l.toNat (l + u).toNat t.toNat (t + v).toNat (fun _ => bk (kn f) (kn g) (bo b))) ∧ Ch M w w2) := (⟨V2, (Ch.gr HR.out.2.2.2.2).trans C2⟩ : _ ∧ _); clear V2 C2)
          refine bodyPost_ret (results_none rfl _ _ _) rfl ?_
          exact ⟨rfl, by rw [HX.out]; exact HV2.out.1, HV2.out.2⟩
      · have HX : Hid (putX l u 2 txt f g b = gly l.toNat 2 txt (kn f) (kn g) (bo b)) := if_neg hu
        have WH := HF.out.whole (by omega) (show (2 : Int) ≤ u by omega) (by omega) (by omega)
        have hlu := HF.out.lu
        have hl0 := HF.out.l0
        have htv := HF.out.tv
        have ht0 := HF.out.t0
        have hx : 0 ≤ x ∧ x + 2 ≤ W := by omega
        have hy : 0 ≤ y ∧ y < H := by omega
        have HW : Hid (l = x ∧ t = y ∧ u = 2 ∧ v = 1) := WH
        clear WH hlu hl0 htv ht0
        go_cut [34] from 22 to 33 (fun s wx => s = .bool false ∧ Hid (RCl 67 wx S txt 2 ∧ R3 32 wx (S + 1) f g b ∧ R4 169 wx (S + 1 + 1) cx cy ca cb ∧ R4 169 wx (S + 1 + 1 + 1) x y 2 1 ∧ Gr w wx))
        case first =>
          have hu' : ¬ u < 2 := hu
          go_region_with (go_at_call 126; refine Calls.mono (SN.out _ (HC.out.gr (by first | exact G0.out.drew | exact G0.out))) ?_; rintro e1 w1 ⟨rfl, g1⟩; have G1 : Hid (Gr W0 w1) := (by first | exact ((Gr.refl W0).drew).trans g1 | exact g1); clear g1; have o1 := (R0.out.1.gr G1.out).c1)
          all_goals
            go_wp2_with fail
            go_meet
            exact ⟨congrArg Value.bool (decide_eq_false (by omega)), R0.out.1.gr G1.out, R0.out.2.1.gr G1.out, R0.out.2.2.1.gr G1.out, R0.out.2.2.2.gr G1.out, G0.out.trans G1.out⟩
        case rest =>
          obtain ⟨rfl, HR⟩ := hcut
          clear q0 q1 r0 r1 r2 r3 m0 m1 m2 m3 hfl
          have s0 := HR.out.2.1.c0
          have s1 := HR.out.2.1.c1
          have s2 := HR.out.2.1.c2
          go_wp2_with fail
          refine Calls.mono (C1 _) ?_
          rintro e1 w1 ⟨rfl, g1⟩
          have R1 : Hid (RCl 67 w1 S txt 2 ∧ R3 32 w1 (S + 1) f g b ∧ Gr w w1) := ⟨HR.out.1.gr g1, HR.out.2.1.gr g1, HR.out.2.2.2.2.trans g1⟩
          clear g1 s0 s1 s2 HR C1
          obtain ⟨kf, hkf⟩ : ∃ z, kn f = z := ⟨_, rfl⟩
          obtain ⟨kg, hkg⟩ : ∃ z, kn g = z := ⟨_, rfl⟩
          obtain ⟨kb, hkb⟩ : ∃ z, bo b = z := ⟨_, rfl⟩
          rw [hkf, hkg, hkb] at HX
          rw [hkf, hkg, hkb]
          clear hkf hkg hkb
          obtain ⟨w2, hw2⟩ : ∃ z, ((w1.setCell ⟨S + 1, 0, none⟩ (.int .i64 kf)).setCell ⟨S + 1, 1, none⟩ (.int .i64 kg)).setCell ⟨S + 1, 2, none⟩ (.int .i64 kb) = z := ⟨_, rfl⟩
          have R2 : Hid (RCl 67 w2 S txt 2 ∧ R3 32 w2 (S + 1) kf kg kb ∧ Gr w w2) := by
            rw [← hw2]
            exact ⟨((R1.out.1.other (by omega) _ _).other (by omega) _ _).other (by omega) _ _, R1.out.2.1.set _ _ _, R1.out.2.2.set3 (by rw [HS.out]; omega) _ _ _⟩
          have s0 := R1.out.2.1.c0
          have s1 := R1.out.2.1.c1
          have s2 := R1.out.2.1.c2
          have z0 := R1.out.2.1.fz 0
          have z1 := R1.out.2.1.fz 1
          have z2 := R1.out.2.1.fz 2
          have q1 := R2.out.1.c1
          go_wp2_with fail
          refine Calls.mono (stretch_int w2 (HC.out.gr R2.out.2.2) hW hH.2 HP.out y x (x + 2) hy (by omega) hx.2) ?_
          rintro e3 w3 ⟨rfl, V3, C3⟩
          have HM : Hid (M < S) := (by rw [← HS.out]; exact HC.out.cv.lt : M < S)
          have R3' : Hid (RCl 67 w3 S txt 2 ∧ R3 32 w3 (S + 1) kf kg kb ∧ Ch M w w3) := ⟨R2.out.1.ch C3 (by have := HM.out; omega), R2.out.2.1.ch C3 (by have := HM.out; omega), (Ch.gr R2.out.2.2).trans C3⟩
          obtain ⟨X, hX⟩ : ∃ z, x.toNat = z := ⟨_, rfl⟩
          obtain ⟨Y, hY⟩ : ∃ z, y.toNat = z := ⟨_, rfl⟩
          rw [hX, hY] at V3
          rw [hX, hY]
          have HV3 : Hid (Cv 34 w3 M W H (cut c Y X (X + 2 - 1))) := by
            rw [show (x + 2).toNat - 1 = X + 2 - 1 by omega] at V3; exact V3
          have HXY : Hid (x.toNat = X ∧ y.toNat = Y) := ⟨hX, hY⟩
          have hXW : X + 2 ≤ W := by omega
          have hYH : Y < H := by omega
          rw [show (x + 2 - x).toNat = 2 by omega]
          clear hX hY V3 C3 s0 s1 s2 z0 z1 z2 q1 hw2 R1 R2
          obtain ⟨o, ho⟩ : ∃ z, Y * W * 5 + X * 5 = z := ⟨_, rfl⟩
          have HO : Hid (Y * W * 5 + X * 5 = o) := ho
          have d0 := HV3.out.c0 hYH (show X < W by omega)
          have d1 := HV3.out.c1 hYH (show X < W by omega)
          have d2 := HV3.out.c2 hYH (show X < W by omega)
          have d3 := HV3.out.c3 hYH (show X < W by omega)
          have d4 := HV3.out.c4 hYH (show X < W by omega)
          rw [ho] at d0 d1 d2 d3 d4
          rw [ho]
          clear ho
          have fz := HV3.out.fz
          have q0 := R3'.out.1.c0
          have q1 := R3'.out.1.c1
          have s0 := R3'.out.2.1.c0
          have s1 := R3'.out.2.1.c1
          have s2 := R3'.out.2.1.c2
          have sm : ¬ S = M := by have := HM.out; omega
          have sm1 : ¬ S + 1 = M := by have := HM.out; omega
          go_upto_if 58 with fail
          obtain ⟨w4, hw4⟩ : ∃ z, ((((w3.setCell ⟨M, o, none⟩ (.string txt)).setCell ⟨M, o + 1, none⟩ (.int .i64 kf)).setCell ⟨M, o + 2, none⟩ (.int .i64 kg)).setCell ⟨M, o + 3, none⟩ (.int .i64 kb)).setCell ⟨M, o + 4, none⟩ (.int .i64 0) = z := ⟨_, rfl⟩
          have HR4 : Hid (RCl 67 w4 S txt 2 ∧ R3 32 w4 (S + 1) kf kg kb ∧ Ch M w w4 ∧ Cv 34 w4 M W H (upd (cut c Y X (X + 1)) Y X ⟨txt, kf, kg, kb, 0⟩)) := by
            have VS := HV3.out.set hYH (show X < W by omega) ⟨txt, kf, kg, kb, 0⟩
            rw [HO.out, hw4] at VS
            have cc : Ch M w3 w4 := by rw [← hw4]; exact (Ch.refl M w3).set5 _ _ _ _ _
            exact ⟨R3'.out.1.ch cc sm, R3'.out.2.1.ch cc sm1, R3'.out.2.2.trans cc, VS⟩
          rw [hw4]
          clear hw4 d0 d1 d2 d3 d4 fz q0 q1 s0 s1 s2 R3' HV3
          have d4 := HR4.out.2.2.2.c4 hYH (show X < W by omega)
          rw [HO.out] at d4
          have fz := HR4.out.2.2.2.fz
          have q1 := HR4.out.1.c1
          have s0 := HR4.out.2.1.c0
          have s1 := HR4.out.2.1.c1
          have s2 := HR4.out.2.1.c2
          have e0 := HR4.out.2.2.2.c0 hYH (show X + 1 < W by omega)
          have e1 := HR4.out.2.2.2.c1 hYH (show X + 1 < W by omega)
          have e2 := HR4.out.2.2.2.c2 hYH (show X + 1 < W by omega)
          have e3 := HR4.out.2.2.2.c3 hYH (show X + 1 < W by omega)
          have e4 := HR4.out.2.2.2.c4 hYH (show X + 1 < W by omega)
          have EO : Hid (Y * W * 5 + (X + 1) * 5 = o + 5) := (by rw [← HO.out]; omega : Y * W * 5 + (X + 1) * 5 = o + 5)
          rw [EO.out] at e0 e1 e2 e3 e4
          go_wp2_with fail
          go_end0
          refine ⟨rfl, ?_, (HR4.out.2.2.1.set (.inl rfl) _ _).set5 _ _ _ _ _⟩
          have VP := HR4.out.2.2.2.setPart hYH (show X < W by omega) 1
          rw [HO.out] at VP
          have VS := VP.set hYH (show X + 1 < W by omega) ⟨ept, kf, kg, kb, 2⟩
          rw [EO.out] at VS
          refine VS.same ?_
          intro y' x' _ _
          rw [HX.out, HW.out.1, HW.out.2.1, HW.out.2.2.1, HW.out.2.2.2, show (x + 2).toNat = x.toNat + 1 + 1 by omega, show (y + 1).toNat = y.toNat + 1 by omega, HXY.out.1, HXY.out.2, ← part_done c Y X (X + 1) _ (by omega)]
          exact put_two c Y X y' x' txt kf kg kb
  · have n1 : (wd != 1) = true := by simp; omega
    have n2 : (wd != 2) = true := by simp; omega
    have n3 : ¬ wd = 1 := by omega
    rw [if_neg h1]
    clear hS
    go_enter Tryd.func118, Tryd.ntmps118
    go_wp2
    refine bodyPost_ret (results_none rfl _ _ _) rfl ?_
    exact ⟨rfl, HC.out.cv.gr ((((Gr.refl w).alloc _).alloc _).alloc _), Ch.gr ((((Gr.refl w).alloc _).alloc _).alloc _)⟩
end
end Go.Proofs.YtlfffpoeioecjaaDoor

namespace Go.Proofs.YtlfffpoeioecjaaDoor
open Go.RowKit Go.Sort
set_option linter.unusedVariables false

/-- What a terminal keeps beside its cells: the cursor, the style, the last cell. -/
structure Tc where
  x : Int
  y : Int
  f : Int
  g : Int
  b : Int
  lx : Int
  ly : Int
  lt : ByteArray
  lw : Int
  lm : Int
structure Tm where
  W : Nat
  H : Nat
  c : Nat → Nat → Ce
  r : Tc
def tmc (K : Nat) (r : Tc) (nv : Value) : Array Value := #[.pointer (some ⟨K, 0, none⟩), .int .i64 r.x, .int .i64 r.y, .int .i64 r.f, .int .i64 r.g, .int .i64 r.b, .int .i64 r.lx, .int .i64 r.ly, .string r.lt, .int .i64 r.lw, .int .i64 r.lm, nv]
structure TM (Q : World) (T K M cap : Nat) (s : Tm) (nv : Value) : Prop where
  tb : Q.heap[T]? = some (.cells (tmc K s.r nv) 71 (0, 0))
  cs : CS 101 34 Q K M cap s.W s.H s.c
  tk : T ≠ K
  tm : T ≠ M
  hW : 1 ≤ s.W ∧ s.W ≤ 400
  hH : 1 ≤ s.H ∧ s.H ≤ 400
  pa : PAll s.W s.H s.c
/-- All blocks but T and M stay. -/
structure C2 (T M : Nat) (W W' : World) : Prop where
  os : W'.os = W.os
  tape : W'.tape = W.tape
  output : W'.output = W.output
  size : W.heap.size ≤ W'.heap.size
  block : ∀ b, b < W.heap.size → b ≠ T → b ≠ M → W'.heap[b]? = W.heap[b]?
section
variable {T K M cap : Nat} {s : Tm} {nv : Value} {Q Q' Q2 : World}
theorem C2.refl (T M : Nat) (W : World) : C2 T M W W := ⟨rfl, rfl, rfl, Nat.le_refl _, fun _ _ _ _ => rfl⟩
theorem C2.trans (h : C2 T M Q Q') (k : C2 T M Q' Q2) : C2 T M Q Q2 := ⟨k.os.trans h.os, k.tape.trans h.tape, k.output.trans h.output, Nat.le_trans h.size k.size, fun b h1 h2 h3 => (k.block b (Nat.lt_of_lt_of_le h1 h.size) h2 h3).trans (h.block b h1 h2 h3)⟩
theorem C2.gr (g : Gr Q Q') : C2 T M Q Q' := ⟨g.below.os, g.below.tape, g.below.output, g.size, fun b h1 _ _ => g.block h1⟩
theorem C2.below (g : Below Q.heap.size Q Q') : C2 T M Q Q' := ⟨g.os, g.tape, g.output, g.size, fun b h1 _ _ => g.block b h1⟩
theorem C2.ch (g : Ch M Q Q') : C2 T M Q Q' := ⟨g.os, g.tape, g.output, g.size, fun b h1 _ h3 => g.block b h1 h3⟩
theorem C2.set (h : C2 T M Q Q') (o : Nat) (v : Value) : C2 T M Q (Q'.setCell ⟨T, o, none⟩ v) :=
  ⟨h.os, h.tape, h.output, by simpa [World.setCell] using h.size, fun b h1 h2 h3 => (Below.heap_setCell Q' ⟨T, o, none⟩ v b h2).trans (h.block b h1 h2 h3)⟩
theorem TM.lt (h : TM Q T K M cap s nv) : T < Q.heap.size := (Array.getElem?_eq_some_iff.1 h.tb).1
theorem TM.fz (h : TM Q T K M cap s nv) (j : Nat) : Q.frozen? ⟨T, j, none⟩ = false := frozen_of_row _ _ _ _ _ h.tb
theorem TM.at (h : TM Q T K M cap s nv) {j : Nat} {v : Value} (hv : (tmc K s.r nv)[j]? = some v) : Q.cell? ⟨T, j, none⟩ = some v := by rw [cell_of_row Q T j _ _ _ h.tb]; exact hv
theorem TM.gr (h : TM Q T K M cap s nv) (g : Gr Q Q') : TM Q' T K M cap s nv := ⟨(g.block h.lt).trans h.tb, h.cs.gr g, h.tk, h.tm, h.hW, h.hH, h.pa⟩
theorem TM.below (h : TM Q T K M cap s nv) (g : Below Q.heap.size Q Q') : TM Q' T K M cap s nv :=
  ⟨(g.block T h.lt).trans h.tb, ⟨(g.block K h.cs.klt).trans h.cs.kb, h.cs.cv.keep (g.block M h.cs.cv.lt), h.cs.ne, h.cs.hc⟩, h.tk, h.tm, h.hW, h.hH, h.pa⟩
/-- A cell of its block is another one now. -/
theorem TM.set (h : TM Q T K M cap s nv) (o : Nat) (v : Value) (r' : Tc) (nv' : Value) (e : (tmc K s.r nv).setIfInBounds o v = tmc K r' nv') : TM (Q.setCell ⟨T, o, none⟩ v) T K M cap { s with r := r' } nv' :=
  ⟨by rw [← e]; exact heap_setCell_same Q T o _ _ v h.tb,
   ⟨(Below.heap_setCell Q ⟨T, o, none⟩ v K (fun e => h.tk e.symm)).trans h.cs.kb, h.cs.cv.other (fun e => h.tm e.symm) o v, h.cs.ne, h.cs.hc⟩, h.tk, h.tm, h.hW, h.hH, h.pa⟩
/-- Its cells are others now. -/
theorem TM.cells {c' : Nat → Nat → Ce} (h : TM Q T K M cap s nv) (v : Cv 34 Q' M s.W s.H c') (g : Ch M Q Q') (pa : PAll s.W s.H c') : TM Q' T K M cap { s with c := c' } nv :=
  ⟨(g.block T h.lt h.tm).trans h.tb, ⟨(g.block K h.cs.klt h.cs.ne).trans h.cs.kb, v, h.cs.ne, h.cs.hc⟩, h.tk, h.tm, h.hW, h.hH, pa⟩
end
def clr (r : Tc) : Tc := { r with lx := 0, ly := 0, lt := ⟨#[]⟩, lw := 0, lm := 0 }

section
variable {T K M cap : Nat} {s : Tm} {nv : Value}
set_option maxRecDepth 100000 in
theorem forget_any (w : World) (h : TM w T K M cap s nv) : Calls Tryd.prog 57 #[.pointer (some ⟨T, 0, none⟩)] w fun e w' => e = .returned (.tuple #[]) ∧ TM w' T K M cap { s with r := clr s.r } nv ∧ C2 T M w w' := by
  have c6 : w.cell? ⟨T, 6, none⟩ = some (.int .i64 s.r.lx) := h.at rfl
  have c7 : w.cell? ⟨T, 7, none⟩ = some (.int .i64 s.r.ly) := h.at rfl
  have c8 : w.cell? ⟨T, 8, none⟩ = some (.string s.r.lt) := h.at rfl
  have c9 : w.cell? ⟨T, 9, none⟩ = some (.int .i64 s.r.lw) := h.at rfl
  have c10 : w.cell? ⟨T, 10, none⟩ = some (.int .i64 s.r.lm) := h.at rfl
  have fz := h.fz
  have HM : Hid (TM w T K M cap s nv) := h
  clear h
  go_enter Tryd.func57, Tryd.ntmps57
  go_wp2
  go_end0
  refine ⟨rfl, ?_, ((((((C2.refl T M w).set _ _).set _ _).set _ _).set _ _).set _ _)⟩
  have h1 := HM.out.set 6 (.int .i64 0) { s.r with lx := 0 } nv rfl
  have h2 := h1.set 7 (.int .i64 0) { s.r with lx := 0, ly := 0 } nv rfl
  have h3 := h2.set 8 (.string ⟨#[]⟩) { s.r with lx := 0, ly := 0, lt := ⟨#[]⟩ } nv rfl
  have h4 := h3.set 9 (.int .i64 0) { s.r with lx := 0, ly := 0, lt := ⟨#[]⟩, lw := 0 } nv rfl
  exact h4.set 10 (.int .i64 0) (clr s.r) nv rfl

set_option maxRecDepth 100000 in
theorem tsize_any (w : World) (h : TM w T K M cap s nv) : Calls Tryd.prog 100 #[.pointer (some ⟨T, 0, none⟩)] w fun e w' => e = .returned (.tuple #[.int .i64 s.W, .int .i64 s.H]) ∧ Gr w w' := by
  have c0 : w.cell? ⟨T, 0, none⟩ = some (.pointer (some ⟨K, 0, none⟩)) := h.at rfl
  have SZ : Hid (Calls Tryd.prog 117 #[.pointer (some ⟨K, 0, none⟩)] w fun e w' => e = .returned (.tuple #[.int .i64 s.W, .int .i64 s.H]) ∧ Gr w w') := size_any w h.cs
  clear h
  go_enter Tryd.func100, Tryd.ntmps100
  go_wp2_with fail
  refine SZ.out.mono ?_
  rintro e w1 ⟨rfl, g1⟩
  go_wp2
  refine bodyPost_ret (v := .tuple #[.int .i64 s.W, .int .i64 s.H]) (by simp [results, Tryd.results100, go_sem]) rfl ?_
  exact ⟨rfl, g1⟩

set_option maxRecDepth 100000 in
theorem whole_rect (w : World) (h : TM w T K M cap s nv) : Calls Tryd.prog 112 #[.pointer (some ⟨T, 0, none⟩)] w fun e w' => e = .returned (rv 0 0 s.W s.H) ∧ Gr w w' := by
  have SZ : Hid (∀ w', Gr w w' → Calls Tryd.prog 100 #[.pointer (some ⟨T, 0, none⟩)] w' fun e w2 => e = .returned (.tuple #[.int .i64 s.W, .int .i64 s.H]) ∧ Gr w' w2) := fun w' g => tsize_any w' (h.gr g)
  clear h
  go_enter Tryd.func112, Tryd.ntmps112
  go_wp2_with fail
  obtain ⟨S, hS⟩ : ∃ z, w.heap.size = z := ⟨_, rfl⟩
  obtain ⟨W0, hW0⟩ : ∃ z, w.alloc (.cells #[.int .i64 0, .int .i64 0, .int .i64 0, .int .i64 0] 169) = z := ⟨_, rfl⟩
  have G0 : Hid (Gr w W0) := by rw [← hW0]; exact (Gr.refl w).alloc _
  have R0 : Hid (R4 169 W0 S 0 0 0 0) := by rw [← hW0, ← hS]; exact R4.new w 0 0 0 0 _
  rw [hW0, hS]
  have HS : Hid (w.heap.size = S) := hS
  clear hW0 hS
  refine (SZ.out _ G0.out).mono ?_
  rintro e w1 ⟨rfl, g1⟩
  have R1 : Hid (R4 169 w1 S 0 0 0 0) := R0.out.gr g1
  have HG : Hid (Gr w w1) := G0.out.trans g1
  have c0 := R1.out.c0
  have c1 := R1.out.c1
  have c2 := R1.out.c2
  have c3 := R1.out.c3
  have fz := R1.out.fz
  clear g1
  go_wp2
  refine bodyPost_ret (results_cell_row rfl _ _ S _ _ _ _ rfl (R1.out.set 0 0 s.W s.H) Tryd.underlying169 rfl (by kernel_rfl)) rfl ?_
  exact ⟨rfl, (((HG.out.set (by rw [HS.out]; exact Nat.le_refl _) _).set (by rw [HS.out]; exact Nat.le_refl _) _).set (by rw [HS.out]; exact Nat.le_refl _) _).set (by rw [HS.out]; exact Nat.le_refl _) _⟩

/-- What putLast leaves. -/
def putL (s : Tm) : Tm := { s with c := putC s.W s.H s.c s.r.lx s.r.ly s.r.lt s.r.lw s.r.f s.r.g s.r.b 0 0 s.W s.H }
set_option maxRecDepth 100000 in
set_option maxHeartbeats 4000000 in
theorem putLast_any (w : World) (h : TM w T K M cap s nv) : Calls Tryd.prog 101 #[.pointer (some ⟨T, 0, none⟩)] w fun e w' => e = .returned (.tuple #[]) ∧ TM w' T K M cap (putL s) nv ∧ C2 T M w w' := by
  have hp : PAll s.W s.H (putL s).c := h.pa.putX h.hW h.hH _ _ _ _ _ _ _ _ _ _ _
  have WR : Hid (∀ w', Gr w w' → Calls Tryd.prog 112 #[.pointer (some ⟨T, 0, none⟩)] w' fun e w2 => e = .returned (rv 0 0 s.W s.H) ∧ Gr w' w2) := fun w' g => whole_rect w' (h.gr g)
  have PU : Hid (∀ w', Gr w w' → Calls Tryd.prog 118 #[.pointer (some ⟨K, 0, none⟩), .int .i64 s.r.lx, .int .i64 s.r.ly, .agg #[.string s.r.lt, .int .i64 s.r.lw], sv s.r.f s.r.g s.r.b, rv 0 0 s.W s.H] w' fun e w2 => e = .returned (.tuple #[]) ∧ Hid (TM w2 T K M cap (putL s) nv ∧ C2 T M w w2)) := fun w' g => (put_any w' (h.gr g).cs h.hW h.hH h.pa s.r.lx s.r.ly s.r.lt s.r.lw s.r.f s.r.g s.r.b 0 0 s.W s.H).mono fun e w2 q => ⟨q.1, (h.gr g).cells q.2.1 q.2.2 hp, (C2.gr g).trans (C2.ch q.2.2)⟩
  have CE : Hid (∀ w', Gr w w' → ∀ j v, (tmc K s.r nv)[j]? = some v → w'.cell? ⟨T, j, none⟩ = some v) := fun w' g j v hv => (h.gr g).at hv
  have c0 : w.cell? ⟨T, 0, none⟩ = some (.pointer (some ⟨K, 0, none⟩)) := h.at rfl
  have c3 : w.cell? ⟨T, 3, none⟩ = some (.int .i64 s.r.f) := h.at rfl
  have c4 : w.cell? ⟨T, 4, none⟩ = some (.int .i64 s.r.g) := h.at rfl
  have c5 : w.cell? ⟨T, 5, none⟩ = some (.int .i64 s.r.b) := h.at rfl
  have c6 : w.cell? ⟨T, 6, none⟩ = some (.int .i64 s.r.lx) := h.at rfl
  have c7 : w.cell? ⟨T, 7, none⟩ = some (.int .i64 s.r.ly) := h.at rfl
  have c8 : w.cell? ⟨T, 8, none⟩ = some (.string s.r.lt) := h.at rfl
  have c9 : w.cell? ⟨T, 9, none⟩ = some (.int .i64 s.r.lw) := h.at rfl
  clear h hp
  go_enter Tryd.func101, Tryd.ntmps101
  go_wp2_with fail
  go_region_held (fun W => W.cell? ⟨T, 0, none⟩ = some (.pointer (some ⟨K, 0, none⟩)) ∧ W.cell? ⟨T, 3, none⟩ = some (.int .i64 s.r.f) ∧ W.cell? ⟨T, 4, none⟩ = some (.int .i64 s.r.g) ∧ W.cell? ⟨T, 5, none⟩ = some (.int .i64 s.r.b) ∧ W.cell? ⟨T, 6, none⟩ = some (.int .i64 s.r.lx) ∧ W.cell? ⟨T, 7, none⟩ = some (.int .i64 s.r.ly) ∧ W.cell? ⟨T, 8, none⟩ = some (.string s.r.lt) ∧ W.cell? ⟨T, 9, none⟩ = some (.int .i64 s.r.lw)) (go_keep) (first | (go_at_call 112; refine Calls.mono (WR.out _ (by first | exact Gr.refl _ | exact (Gr.refl _).drew)) ?_; rintro e1 w1 ⟨rfl, g1⟩; have G1 : Hid (Gr w w1) := (by first | exact g1 | exact ((Gr.refl w).drew).trans g1); clear g1; have o0 : w1.cell? ⟨T, 0, none⟩ = some (.pointer (some ⟨K, 0, none⟩)) := CE.out w1 G1.out 0 _ rfl; have o3 : w1.cell? ⟨T, 3, none⟩ = some (.int .i64 s.r.f) := CE.out w1 G1.out 3 _ rfl; have o4 : w1.cell? ⟨T, 4, none⟩ = some (.int .i64 s.r.g) := CE.out w1 G1.out 4 _ rfl; have o5 : w1.cell? ⟨T, 5, none⟩ = some (.int .i64 s.r.b) := CE.out w1 G1.out 5 _ rfl; have o6 : w1.cell? ⟨T, 6, none⟩ = some (.int .i64 s.r.lx) := CE.out w1 G1.out 6 _ rfl; have o7 : w1.cell? ⟨T, 7, none⟩ = some (.int .i64 s.r.ly) := CE.out w1 G1.out 7 _ rfl; have o8 : w1.cell? ⟨T, 8, none⟩ = some (.string s.r.lt) := CE.out w1 G1.out 8 _ rfl; have o9 : w1.cell? ⟨T, 9, none⟩ = some (.int .i64 s.r.lw) := CE.out w1 G1.out 9 _ rfl) | (go_at_call 118; refine Calls.mono (PU.out _ G1.out) ?_; rintro e2 w2 ⟨rfl, H2⟩; have u0 : w2.cell? ⟨T, 0, none⟩ = some (.pointer (some ⟨K, 0, none⟩)) := H2.out.1.at rfl; have u3 : w2.cell? ⟨T, 3, none⟩ = some (.int .i64 s.r.f) := H2.out.1.at rfl; have u4 : w2.cell? ⟨T, 4, none⟩ = some (.int .i64 s.r.g) := H2.out.1.at rfl; have u5 : w2.cell? ⟨T, 5, none⟩ = some (.int .i64 s.r.b) := H2.out.1.at rfl; have u6 : w2.cell? ⟨T, 6, none⟩ = some (.int .i64 s.r.lx) := H2.out.1.at rfl; have u7 : w2.cell? ⟨T, 7, none⟩ = some (.int .i64 s.r.ly) := H2.out.1.at rfl; have u8 : w2.cell? ⟨T, 8, none⟩ = some (.string s.r.lt) := H2.out.1.at rfl; have u9 : w2.cell? ⟨T, 9, none⟩ = some (.int .i64 s.r.lw) := H2.out.1.at rfl))
  all_goals
    go_wp2
    go_end0
    exact ⟨rfl, H2.out.1, H2.out.2⟩
end

end Go.Proofs.YtlfffpoeioecjaaDoor
