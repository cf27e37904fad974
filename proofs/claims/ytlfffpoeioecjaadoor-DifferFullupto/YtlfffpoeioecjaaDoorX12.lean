/-
  applied, Apply of the reference.
-/
import Derived.Test.YtlfffpoeioecjaaDoorX10
import Derived.Test.YtlfffpoeioecjaaDoorX11
namespace Go.Proofs.YtlfffpoeioecjaaDoor
open Go.RowKit Go.Sort
set_option linter.unusedVariables false

set_option maxRecDepth 100000 in
set_option maxHeartbeats 4000000 in
theorem rApplied_any (f g b n : Int) (w : World) : Calls Tryd.prog 107 #[sv f g b, .int .i64 n] w fun e w' => e = .returned (sv (apf n f) (apg n g) (apb n b)) ∧ Gr w w' := by
  by_cases h0 : n = 0
  · subst h0
    unfold sv
    go_enter Tryd.func107, Tryd.ntmps107
    go_wp2
    refine bodyPost_ret (v := sv 0 0 0) (by simp [results, Tryd.results107, go_sem, sv]) rfl ?_
    exact ⟨by rfl, ((Gr.refl w).alloc _).alloc _⟩
  by_cases h1 : n = 1
  · subst h1
    unfold sv
    go_enter Tryd.func107, Tryd.ntmps107
    go_wp2
    refine bodyPost_ret (v := sv f g 1) (by simp [results, Tryd.results107, go_sem, sv]) rfl ?_
    exact ⟨by rfl, ((Gr.refl w).alloc _).alloc _⟩
  by_cases h2 : n = 22
  · subst h2
    unfold sv
    go_enter Tryd.func107, Tryd.ntmps107
    go_wp2
    refine bodyPost_ret (v := sv f g 0) (by simp [results, Tryd.results107, go_sem, sv]) rfl ?_
    exact ⟨by rfl, ((Gr.refl w).alloc _).alloc _⟩
  by_cases h3 : n = 39
  · subst h3
    unfold sv
    go_enter Tryd.func107, Tryd.ntmps107
    go_wp2
    refine bodyPost_ret (v := sv 0 g b) (by simp [results, Tryd.results107, go_sem, sv]) rfl ?_
    exact ⟨by rfl, ((Gr.refl w).alloc _).alloc _⟩
  by_cases h4 : n = 49
  · subst h4
    unfold sv
    go_enter Tryd.func107, Tryd.ntmps107
    go_wp2
    refine bodyPost_ret (v := sv f 0 b) (by simp [results, Tryd.results107, go_sem, sv]) rfl ?_
    exact ⟨by rfl, ((Gr.refl w).alloc _).alloc _⟩
  by_cases h5 : 30 ≤ n ∧ n ≤ 37
  · rw [apf_in f h5, apg_no g h0 h4 (by omega), apb_no b h0 h1 h2]
    have q1 : 30 ≤ n := by omega
    have q2 : n ≤ 37 := by omega
    have q3 : ¬ 40 ≤ n := by omega
    unfold sv
    go_enter Tryd.func107, Tryd.ntmps107
    go_wp2
    refine bodyPost_ret (v := sv (n - 29) g b) (by simp [results, Tryd.results107, go_sem, sv]) rfl ?_
    exact ⟨by rfl, ((Gr.refl w).alloc _).alloc _⟩
  by_cases h6 : 40 ≤ n ∧ n ≤ 47
  · rw [apf_no f h0 h3 h5, apg_in g h6, apb_no b h0 h1 h2]
    have q1 : 40 ≤ n := by omega
    have q2 : n ≤ 47 := by omega
    have q3 : ¬ n ≤ 37 := by omega
    have q4 : 30 ≤ n := by omega
    unfold sv
    go_enter Tryd.func107, Tryd.ntmps107
    go_wp2
    refine bodyPost_ret (v := sv f (n - 39) b) (by simp [results, Tryd.results107, go_sem, sv]) rfl ?_
    exact ⟨by rfl, ((Gr.refl w).alloc _).alloc _⟩
  rw [apf_no f h0 h3 h5, apg_no g h0 h4 h6, apb_no b h0 h1 h2]
  unfold sv
  go_enter Tryd.func107, Tryd.ntmps107
  go_wp2
  all_goals
    refine bodyPost_ret (v := sv f g b) (by simp [results, Tryd.results107, go_sem, sv]) rfl ?_
    exact ⟨by rfl, ((Gr.refl w).alloc _).alloc _⟩

set_option maxRecDepth 100000 in
set_option maxHeartbeats 4000000 in
theorem rApply_none (f g b : Int) (a : Option Addr) (cap : Nat) (w : World) : Calls Tryd.prog 88 #[sv f g b, .slice a 0 cap] w fun e w' => e = .returned (sv 0 0 0) ∧ Gr w w' := by
  have CC : Hid (∀ f g b w, Calls Tryd.prog 30 #[sv f g b] w fun e w' => e = .returned (sv (kn f) (kn g) (bo b)) ∧ Gr w w') := sound_any
  unfold sv at CC ⊢
  go_enter Tryd.func88, Tryd.ntmps88
  go_wp2_with fail
  obtain ⟨S, hS⟩ : ∃ x, w.heap.size = x := ⟨_, rfl⟩
  obtain ⟨W0, hW0⟩ : ∃ x, (w.alloc (.cells #[.int .i64 f, .int .i64 g, .int .i64 b] 50)).alloc (.cells #[.int .i64 0, .int .i64 0, .int .i64 0] 50) = x := ⟨_, rfl⟩
  have G0 : Hid (Gr w W0) := by rw [← hW0]; exact ((Gr.refl w).alloc _).alloc _
  have RA : Hid (R3 50 W0 S f g b) := by rw [← hW0, ← hS]; exact (R3.new w _ _ _ _).gr ((Gr.refl _).alloc _)
  have RC : Hid (R3 50 W0 (S + 1) 0 0 0) := by
    have := R3.new (w.alloc (.cells #[.int .i64 f, .int .i64 g, .int .i64 b] 50)) 0 0 0 50
    simp only [World.size_alloc, hS] at this
    rw [← hW0]; exact this
  rw [hW0, hS]
  clear hW0
  have HS : Hid (w.heap.size = S) := hS
  clear hS
  refine (CC.out _ _ _ _).mono ?_
  rintro e w1 ⟨rfl, g1⟩
  have RA1 := RA.out.gr g1
  have RC1 := RC.out.gr g1
  have RA2 := RA1.set (kn f) (kn g) (bo b)
  have RC2 := RC1.others (k := S) (by omega) (.int .i64 (kn f)) (.int .i64 (kn g)) (.int .i64 (bo b))
  have GG : Hid (Gr w _) := (G0.out.trans g1).set3 (k := S) (by rw [HS.out]; omega) (.int .i64 (kn f)) (.int .i64 (kn g)) (.int .i64 (bo b))
  have a0 := RA1.c0
  have a1 := RA1.c1
  have a2 := RA1.c2
  have f0 := RA1.fz 0
  have f1 := RA1.fz 1
  have f2 := RA1.fz 2
  have c0 := RC2.c0
  have c1 := RC2.c1
  have c2 := RC2.c2
  have k0 := RC2.fz 0
  have k1 := RC2.fz 1
  have k2 := RC2.fz 2
  go_wp2
  refine bodyPost_ret (results_cell_row rfl _ _ (S + 1) _ _ _ _ rfl (RC2.set _ _ _) Tryd.underlying50 rfl (by kernel_rfl)) rfl ?_
  exact ⟨rfl, GG.out.set3 (by rw [HS.out]; omega) _ _ _⟩

set_option maxRecDepth 100000 in
set_option maxHeartbeats 4000000 in
theorem rApply_some (f g b : Int) (zs : List Int) (B off cap : Nat) (w : World) (hp : 0 < zs.length) (hB : B < w.heap.size) (hc : ∀ j, j < zs.length → w.cell? ⟨B, off + j, none⟩ = some (.int .i64 (zs[j]?.getD 0))) (hlen : zs.length ≤ 17592186044416) :
    Calls Tryd.prog 88 #[sv f g b, .slice (some ⟨B, off, none⟩) zs.length cap] w fun e w' => e = .returned (sv (apF zs (kn f)) (apG zs (kn g)) (apB zs (bo b))) ∧ Gr w w' := by
  have HC : Hid (∀ j, j < zs.length → w.cell? ⟨B, off + j, none⟩ = some (.int .i64 (zs[j]?.getD 0))) := hc
  clear hc
  have CC : Hid (∀ f g b w, Calls Tryd.prog 30 #[sv f g b] w fun e w' => e = .returned (sv (kn f) (kn g) (bo b)) ∧ Gr w w') := sound_any
  have AA : Hid (∀ f g b n w, Calls Tryd.prog 107 #[sv f g b, .int .i64 n] w fun e w' => e = .returned (sv (apf n f) (apg n g) (apb n b)) ∧ Gr w w') := rApplied_any
  obtain ⟨x, hx⟩ : ∃ z, kn f = z := ⟨_, rfl⟩
  obtain ⟨y, hy⟩ : ∃ z, kn g = z := ⟨_, rfl⟩
  obtain ⟨z, hz⟩ : ∃ z, bo b = z := ⟨_, rfl⟩
  have C1 : Hid (∀ w, _) := CC.out f g b
  rw [hx, hy, hz] at C1 ⊢
  clear CC hx hy hz
  unfold sv at C1 AA ⊢
  have hp' : ¬ ((zs.length : Int) = 0) := by omega
  have hpb : ((zs.length : Int) == 0) = false := by simpa using hp'
  have hpd : decide ((zs.length : Int) = 0) = false := by simpa using hp'
  go_enter Tryd.func88, Tryd.ntmps88
  go_wp2_with fail
  obtain ⟨S, hS⟩ : ∃ x, w.heap.size = x := ⟨_, rfl⟩
  obtain ⟨W0, hW0⟩ : ∃ x, (w.alloc (.cells #[.int .i64 f, .int .i64 g, .int .i64 b] 50)).alloc (.cells #[.int .i64 0, .int .i64 0, .int .i64 0] 50) = x := ⟨_, rfl⟩
  have G0 : Hid (Gr w W0) := by rw [← hW0]; exact ((Gr.refl w).alloc _).alloc _
  have RA : Hid (R3 50 W0 S f g b) := by rw [← hW0, ← hS]; exact (R3.new w _ _ _ _).gr ((Gr.refl _).alloc _)
  have RC : Hid (R3 50 W0 (S + 1) 0 0 0) := by
    have := R3.new (w.alloc (.cells #[.int .i64 f, .int .i64 g, .int .i64 b] 50)) 0 0 0 50
    simp only [World.size_alloc, hS] at this
    rw [← hW0]; exact this
  rw [hW0, hS]
  clear hW0
  have HS : Hid (w.heap.size = S) := hS
  have HB : Hid (B < w.heap.size) := hB
  clear hS hB
  refine (C1.out _).mono ?_
  rintro e w1 ⟨rfl, g1⟩
  have RA1 := RA.out.gr g1
  have R2 : Hid (R3 50 _ S x y z) := RA1.set x y z
  have RC2 : Hid (R3 50 _ (S + 1) 0 0 0) := (RC.out.gr g1).others (k := S) (by omega) (.int .i64 x) (.int .i64 y) (.int .i64 z)
  have G2 : Hid (Gr w _) := (G0.out.trans g1).set3 (k := S) (by rw [HS.out]; omega) (.int .i64 x) (.int .i64 y) (.int .i64 z)
  have a0 := RA1.c0
  have a1 := RA1.c1
  have a2 := RA1.c2
  have f0 := RA1.fz 0
  have f1 := RA1.fz 1
  have f2 := RA1.fz 2
  clear RA1 g1
  go_wp2_with fail
  obtain ⟨W2, hW2⟩ : ∃ q, (((w1.setCell ⟨S, 0, none⟩ (.int .i64 x)).setCell ⟨S, 1, none⟩ (.int .i64 y)).setCell ⟨S, 2, none⟩ (.int .i64 z)) = q := ⟨_, rfl⟩
  rw [hW2] at R2 RC2 G2 ⊢
  clear hW2 a0 a1 a2 f0 f1 f2 RA RC G0
  go_loopw [5] (fun i wr => ∃ k : Nat, k ≤ zs.length ∧ i = .int .i64 k ∧ Hid (R3 50 wr S (apF (zs.take k) x) (apG (zs.take k) y) (apB (zs.take k) z) ∧ R3 50 wr (S + 1) 0 0 0 ∧ Gr w wr)) (fun i _ => zs.length - (intOf i).toNat)
  case atStart => exact ⟨0, Nat.zero_le _, rfl, R2.out, RC2.out, G2.out⟩
  case round =>
    obtain ⟨k, hk, rfl, HR⟩ := hrel
    by_cases hlt : k < zs.length
    · obtain ⟨n, hn⟩ : ∃ q, zs[k]?.getD 0 = q := ⟨_, rfl⟩
      have hcx : wr.cell? ⟨B, off + k, none⟩ = some (.int .i64 n) := by rw [← hn]; exact (HR.out.2.2.below.cell (p := ⟨B, off + k, none⟩) HB.out).trans (HC.out k hlt)
      have N1 : Hid (apF (zs.take (k + 1)) x = apf n (apF (zs.take k) x)) := by rw [← hn]; exact apF_next zs k x hlt
      have N2 : Hid (apG (zs.take (k + 1)) y = apg n (apG (zs.take k) y)) := by rw [← hn]; exact apG_next zs k y hlt
      have N3 : Hid (apB (zs.take (k + 1)) z = apb n (apB (zs.take k) z)) := by rw [← hn]; exact apB_next zs k z hlt
      obtain ⟨p, hp1⟩ : ∃ q, apF (zs.take k) x = q := ⟨_, rfl⟩
      obtain ⟨q, hq1⟩ : ∃ q, apG (zs.take k) y = q := ⟨_, rfl⟩
      obtain ⟨r, hr1⟩ : ∃ q, apB (zs.take k) z = q := ⟨_, rfl⟩
      rw [hp1, hq1, hr1] at HR
      rw [hp1] at N1
      rw [hq1] at N2
      rw [hr1] at N3
      clear hn hp1 hq1 hr1
      have A1 : Hid (∀ w, _) := AA.out p q r n
      obtain ⟨p', hp2⟩ : ∃ q, apf n p = q := ⟨_, rfl⟩
      obtain ⟨q', hq2⟩ : ∃ z, apg n q = z := ⟨_, rfl⟩
      obtain ⟨r', hr2⟩ : ∃ q, apb n r = q := ⟨_, rfl⟩
      rw [hp2, hq2, hr2] at A1
      rw [hp2] at N1
      rw [hq2] at N2
      rw [hr2] at N3
      clear hp2 hq2 hr2
      have hlt' : (k : Int) < (zs.length : Int) := by omega
      have b0 := HR.out.1.c0
      have b1 := HR.out.1.c1
      have b2 := HR.out.1.c2
      have bb : B < wr.heap.size := Nat.lt_of_lt_of_le HB.out HR.out.2.2.size
      go_wp2_with fail
      go_region_with (go_at_call 107; refine Calls.mono (A1.out _) ?_; rintro e w5 ⟨rfl, g5⟩; have HG5 : Hid (Gr wr w5) := (by first | exact g5 | exact ((Gr.refl wr).drew).trans g5); have R5 : Hid (R3 50 w5 S p q r) := HR.out.1.gr HG5.out; clear g5; have d0 := R5.out.c0; have d1 := R5.out.c1; have d2 := R5.out.c2; have e0 := R5.out.fz 0; have e1 := R5.out.fz 1; have e2 := R5.out.fz 2; have hcy : w5.cell? ⟨B, off + k, none⟩ = some (.int .i64 n) := (HG5.out.below.cell (p := ⟨B, off + k, none⟩) bb).trans hcx)
      all_goals
        go_wp2_with fail
        go_roundw
        case rel => exact ⟨k + 1, by omega, by go_num, by show _ ∧ _ ∧ _; rw [N1.out, N2.out, N3.out]; exact ⟨R5.out.set p' q' r', (HR.out.2.1.gr HG5.out).others (by omega) _ _ _, (HR.out.2.2.trans HG5.out).set3 (by rw [HS.out]; omega) _ _ _⟩⟩
        case measure => simp [intOf]; omega
    · have hlt' : ¬ (k : Int) < (zs.length : Int) := by omega
      have hkk : k = zs.length := by omega
      have HK : Hid (R3 50 wr S (apF zs x) (apG zs y) (apB zs z)) := by have := HR.out.1; rw [hkk, List.take_length] at this; exact this
      obtain ⟨p, hp1⟩ : ∃ q, apF zs x = q := ⟨_, rfl⟩
      obtain ⟨q, hq1⟩ : ∃ q, apG zs y = q := ⟨_, rfl⟩
      obtain ⟨r, hr1⟩ : ∃ q, apB zs z = q := ⟨_, rfl⟩
      rw [hp1, hq1, hr1] at HK
      have HP : Hid (apF zs x = p) := hp1
      have HQ : Hid (apG zs y = q) := hq1
      have HRR : Hid (apB zs z = r) := hr1
      clear hp1 hq1 hr1
      have b0 := HK.out.c0
      have b1 := HK.out.c1
      have b2 := HK.out.c2
      have c0 := HR.out.2.1.c0
      have c1 := HR.out.2.1.c1
      have c2 := HR.out.2.1.c2
      have k0 := HR.out.2.1.fz 0
      have k1 := HR.out.2.1.fz 1
      have k2 := HR.out.2.1.fz 2
      go_wp2
      refine bodyPost_ret (results_cell_row rfl _ _ (S + 1) _ _ _ _ rfl (HR.out.2.1.set _ _ _) Tryd.underlying50 rfl (by kernel_rfl)) rfl ?_
      exact ⟨by rw [HP.out, HQ.out, HRR.out], HR.out.2.2.set3 (by rw [HS.out]; omega) _ _ _⟩

theorem rApply_any (f g b : Int) (zs : List Int) (v : Value) (w : World) (h : Ints w v zs) (hlen : zs.length ≤ 17592186044416) : Calls Tryd.prog 88 #[sv f g b, v] w fun e w' => e = .returned (sv (aplF zs f) (aplG zs g) (aplB zs b)) ∧ Gr w w' := by
  obtain ⟨a, cap, rfl, hh⟩ := h
  by_cases hz : zs = []
  · subst hz; exact rApply_none f g b a cap w
  · obtain ⟨B, off, rfl, hb, hc⟩ := hh.resolve_left hz
    unfold aplF aplG aplB
    rw [if_neg hz, if_neg hz, if_neg hz]
    exact rApply_some f g b zs B off cap w (List.length_pos_iff.2 hz) hb hc hlen

end Go.Proofs.YtlfffpoeioecjaaDoor

namespace Go.Proofs.YtlfffpoeioecjaaDoor
open Go.RowKit Go.Sort
set_option linter.unusedVariables false

theorem infoRC : (Tryd.prog.info? 57).map (fun i => (i.zero, i.size, i.bytes)) = some (some (.agg #[.string ⟨#[]⟩, .int .i64 0, .int .i64 0, .int .i64 0, .int .i64 0]), 5, 48) := by kernel_rfl
/-- Blank cells, one behind another. -/
def rows5 : Nat → List Value
  | 0 => []
  | n + 1 => rows5 n ++ c5 (bk 0 0 0)
theorem rows5_len (n : Nat) : (rows5 n).length = n * 5 := by
  induction n with
  | zero => rfl
  | succ n ih => rw [rows5, List.length_append, ih, c5_len]; omega
theorem rows5_get {n i k : Nat} {u : Value} (hi : i < n) (hu : (c5 (bk 0 0 0))[k]? = some u) : (rows5 n)[i * 5 + k]? = some u := by
  induction n with
  | zero => omega
  | succ n ih =>
    have hk : k < 5 := (List.getElem?_eq_some_iff.1 hu).1
    rw [rows5]
    by_cases h : i < n
    · rw [List.getElem?_append_left (by rw [rows5_len]; omega)]; exact ih h
    · obtain rfl : i = n := by omega
      rw [List.getElem?_append_right (by rw [rows5_len]; omega), rows5_len, show i * 5 + k - i * 5 = k by omega]; exact hu
/-- The struct of a canvas that is being made. -/
def KB (T : TypeId) (Q : World) (K W H : Nat) (v : Value) : Prop := Q.heap[K]? = some (.cells #[.int .i64 W, .int .i64 H, v] T (0, 0))
theorem KB.lt {T : TypeId} {Q : World} {K W H : Nat} {v : Value} (h : KB T Q K W H v) : K < Q.heap.size := (Array.getElem?_eq_some_iff.1 h).1
theorem KB.c2 {T : TypeId} {Q : World} {K W H : Nat} {v : Value} (h : KB T Q K W H v) : Q.cell? ⟨K, 2, none⟩ = some v := by unfold KB at h; simp [World.cell?, h]
theorem KB.fz {T : TypeId} {Q : World} {K W H : Nat} {v : Value} (h : KB T Q K W H v) (j : Nat) : Q.frozen? ⟨K, j, none⟩ = false := frozen_of_row _ _ _ _ _ h
theorem KB.set {T : TypeId} {Q : World} {K W H : Nat} {v : Value} (h : KB T Q K W H v) (v' : Value) : KB T (Q.setCell ⟨K, 2, none⟩ v') K W H v' := heap_setCell_same _ K 2 _ T _ h
theorem cell_five_new (w : World) (e : Ce) (T : TypeId) (j : Nat) (u : Value) (hj : (c5 e)[j]? = some u) : (w.alloc (.cells #[.string e.t, .int .i64 e.f, .int .i64 e.g, .int .i64 e.b, .int .i64 e.p] T)).cell? ((⟨w.heap.size, 0, none⟩ : Addr).add j) = some u := by
  have h := R5.new w e T
  have hk : j < 5 := (List.getElem?_eq_some_iff.1 hj).1
  rcases (by omega : j = 0 ∨ j = 1 ∨ j = 2 ∨ j = 3 ∨ j = 4) with rfl | rfl | rfl | rfl | rfl
  · exact h.c0.trans hj
  · exact h.c1.trans hj
  · exact h.c2.trans hj
  · exact h.c3.trans hj
  · exact h.c4.trans hj

theorem own_set {w : World} {B n size k : Nat} {e : TypeId} {v : Value} {xs : List Value} (h : w.ownsRow B e size v n xs) (hk : k < B) (o : Nat) (u : Value) : (w.setCell ⟨k, o, none⟩ u).ownsRow B e size v n xs := by
  refine ⟨h.1, ?_⟩
  rcases h.2 with h2 | ⟨g, cap, cur, a, b, c, d⟩
  · exact .inl h2
  · exact .inr ⟨g, cap, cur, a, b, (Below.heap_setCell w ⟨k, o, none⟩ u g (by show g ≠ k; omega)).trans c, d⟩
/-- A new canvas of the reference's stands at K. -/
def RN (w w' : World) (W H K : Nat) : Prop := w.heap.size ≤ K ∧ ∃ M cap, CS 48 57 w' K M cap W H (fun _ _ => bk 0 0 0) ∧ w.heap.size ≤ M ∧ Below w.heap.size w w'

set_option maxRecDepth 100000 in
set_option maxHeartbeats 4000000 in
theorem rnew_ok (W H : Nat) (hW : 1 ≤ W ∧ W ≤ 400) (hH : 1 ≤ H ∧ H ≤ 400) (w : World) : Calls Tryd.prog 37 #[.int .i64 W, .int .i64 H] w fun e w' => ∃ K, e = .returned (.tuple #[.pointer (some ⟨K, 0, none⟩), .int .i64 0]) ∧ RN w w' W H K := by
  obtain ⟨i0, hi0, hz0, hz1, hz2⟩ := info_parts infoRC
  obtain ⟨n, hnn⟩ : ∃ n, W * H = n := ⟨_, rfl⟩
  have nb : 1 ≤ n ∧ n ≤ 160000 := by rw [← hnn]; exact ⟨Nat.mul_le_mul hW.1 hH.1, Nat.mul_le_mul hW.2 hH.2⟩
  have eN : (W : Int) * (H : Int) = (n : Int) := by rw [← hnn]; simp
  have HN : Hid (W * H = n) := hnn
  clear hnn
  obtain ⟨S, hS⟩ : ∃ z, w.heap.size = z := ⟨_, rfl⟩
  have HS : Hid (w.heap.size = S) := hS
  go_enter Tryd.func37, Tryd.ntmps37
  go_wp2_with fail
  obtain ⟨W0, hW0⟩ : ∃ z, w.alloc (.cells #[.int .i64 W, .int .i64 H, .slice none 0 0] 48) = z := ⟨_, rfl⟩
  have B0 : Hid (Below w.heap.size w W0 ∧ S + 1 ≤ W0.heap.size) := by
    rw [← hW0]; exact ⟨((Gr.refl w).alloc _).below, by rw [World.size_alloc, hS]; omega⟩
  have R0 : Hid (KB 48 W0 S W H (.slice none 0 0)) := by rw [← hW0, ← hS]; exact heap_alloc_new _ _
  try rw [hW0]
  try rw [hS]
  clear hW0 hS
  go_loopw [7] (fun iv wi => ∃ i : Nat, i ≤ n ∧ iv = .int .i64 i ∧ ∃ v, Hid (KB 48 wi S W H v ∧ wi.ownsRow (S + 1) 57 5 v i (rows5 i) ∧ Below w.heap.size w wi ∧ S + 1 ≤ wi.heap.size)) (fun iv _ => n - (intOf iv).toNat)
  case atStart => exact ⟨0, by omega, rfl, _, R0.out, World.ownsRow_nil _ _ _ _, B0.out.1, B0.out.2⟩
  case round =>
    obtain ⟨i, hi, rfl, v, HI⟩ := hrel
    by_cases hil : i < n
    · have hil' : (i : Int) < (n : Int) := by omega
      have k2 := HI.out.1.c2
      have hsz := HI.out.2.2.2
      go_wp2_with (at_builtin; refine wpList_append_own _ rfl _ _ 36 rfl (S + 1) 57 i0 (.agg #[.string ⟨#[]⟩, .int .i64 0, .int .i64 0, .int .i64 0, .int .i64 0]) 5 48 Tryd.underlying36 hi0 hz0 hz1 hz2 rfl (by decide) _ _ _ rfl (HI.out.2.1.alloc _) _ 1 1 (c5 (bk 0 0 0)) rfl rfl ?c1 ?c2 ?c3 ?c4 ?c5 ?_)
      case c1 => exact cell_five_new _ (bk 0 0 0) _
      case c2 => intro u hu; unfold c5 at hu; simp at hu; rcases hu with rfl | rfl | rfl | rfl | rfl <;> rfl
      case c3 => unfold maxLen; omega
      case c4 => omega
      case c5 => simp; omega
      intro v' w6 hown' hg _
      have hrow : ∀ q, Value.ownBlock v = some q → S + 1 ≤ q ∧ q < wr.heap.size := fun q hq => HI.out.2.1.lt q hq
      have kl := HI.out.1.lt
      have K6 : KB 48 w6 S W H v := by
        refine (hg.block S (by rw [World.size_alloc]; omega) (fun e => by have := hrow _ e.symm; omega)).trans ?_
        exact (((Gr.refl wr).alloc _).block kl).trans HI.out.1
      have hb6 : Below w.heap.size w w6 := (HI.out.2.2.1.alloc (by rw [HS.out]; omega) _).grown hg (by rw [World.size_alloc, HS.out]; omega) (fun q hq => by have := hrow q hq; rw [HS.out]; omega)
      have hs6 : S + 1 ≤ w6.heap.size := by have := hg.size; rw [World.size_alloc] at this; omega
      have HK : Hid (KB 48 w6 S W H v ∧ w6.ownsRow (S + 1) 57 5 v' (i + 1) (rows5 (i + 1)) ∧ Below w.heap.size w w6 ∧ S + 1 ≤ w6.heap.size) := ⟨K6, hown', hb6, hs6⟩
      rcases hown'.2 with ⟨_, h0⟩ | ⟨g, cp, cur, hvv, _⟩
      · omega
      subst hvv
      have k2' := K6.c2
      have fz := K6.fz
      clear K6 hb6 hs6 hg hown' hrow k2
      go_wp2
      go_roundw
      case rel =>
        refine ⟨i + 1, by omega, by go_num, _, HK.out.1.set _, own_set HK.out.2.1 (by omega) _ _, ?_, ?_⟩
        · exact HK.out.2.2.1.setCell (p := ⟨S, 2, none⟩) (by show w.heap.size ≤ S; rw [HS.out]; omega) _
        · simpa [World.setCell] using HK.out.2.2.2
      case measure => simp [intOf]; omega
    · have hil' : ¬ (i : Int) < (n : Int) := by omega
      obtain rfl : i = n := by omega
      rcases HI.out.2.1.2 with ⟨_, h0⟩ | ⟨M, cap, cur, hv, hM, hcur, hc1, hc2, hc3, hc4⟩
      · omega
      have hce := HI.out.2.1.cells (g := M) (by rw [hv]; rfl)
      have HCS : Hid (CS 48 57 wr S M cap W H (fun _ _ => bk 0 0 0)) := by
        refine ⟨?_, ⟨⟨cur, hcur⟩, fun y x hy hx k u hu => ?_⟩, by omega, by rw [HN.out]; exact hc1⟩
        · have := HI.out.1; rw [hv, ← HN.out] at this; exact this
        · have hl := lin_lt hy hx
          rw [HN.out] at hl
          have := hce _ u (rows5_get hl hu)
          rw [show (⟨M, 0, none⟩ : Addr).add ((y * W + x) * 5 + k) = ⟨M, y * W * 5 + x * 5 + k, none⟩ by unfold Addr.add; split <;> simp_all [Nat.add_mul]] at this
          exact this
      have HF : Hid (S + 1 ≤ M) := hM
      clear hv hcur hc1 hc2 hc3 hc4 hM hce
      go_wp2
      refine bodyPost_ret (results_tmp2 rfl _ _ _) rfl ?_
      exact ⟨S, rfl, by rw [HS.out]; omega, M, cap, HCS.out, by rw [HS.out]; have := HF.out; omega, HI.out.2.2.1⟩
end Go.Proofs.YtlfffpoeioecjaaDoor
