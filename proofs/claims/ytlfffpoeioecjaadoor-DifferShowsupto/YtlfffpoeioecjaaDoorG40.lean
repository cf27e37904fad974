/-
  The document's terminal: the numbers of a sequence.
-/
import Derived.Test.YtlfffpoeioecjaaDoorG31
import Derived.Test.YtlfffpoeioecjaaDoorG24
import Derived.Test.YtlfffpoeioecjaaDoorG00
import Derived.Test.YtlfffpoeioecjaaDoorG12
namespace Go.Proofs.YtlfffpoeioecjaaDoor
open Go.RowKit Go.Sort
set_option linter.unusedVariables false

/-- What is read so far: the numbers that are whole, and the one that is not. -/
def parS : List Int × Int → List UInt8 → List Int × Int
  | p, [] => p
  | p, b :: l => parS (if b.toNat = 59 then (if p.1.length < 16 then p.1 ++ [p.2] else p.1, 0) else if b.toNat = 58 then p else (p.1, min 999999 (10 * p.2 + (b.toNat : Int) - 48))) l
def parE (p : List Int × Int) : List Int := if p.1.length < 16 then p.1 ++ [p.2] else p.1
def parL (l : List UInt8) : List Int := parE (parS ([], 0) l)
def par1 (p : List Int × Int) (b : UInt8) : List Int × Int := if b.toNat = 59 then (if p.1.length < 16 then p.1 ++ [p.2] else p.1, 0) else if b.toNat = 58 then p else (p.1, min 999999 (10 * p.2 + (b.toNat : Int) - 48))
theorem parS_app (p : List Int × Int) (l : List UInt8) (b : UInt8) : parS p (l ++ [b]) = par1 (parS p l) b := by
  induction l generalizing p with
  | nil => rfl
  | cons a l ih => exact ih _
theorem parL_pos (l : List UInt8) : 0 < (parL l).length := by
  unfold parL parE
  split
  · simp
  · omega
theorem parL_le (l : List UInt8) (p : List Int × Int) (hp : p.1.length ≤ 16) : (parS p l).1.length ≤ 16 := by
  induction l generalizing p with
  | nil => exact hp
  | cons b l ih =>
    refine ih _ ?_
    by_cases h1 : b.toNat = 59
    · rw [if_pos h1]
      by_cases h2 : p.1.length < 16
      · rw [if_pos h2]; simp; omega
      · rw [if_neg h2]; exact hp
    · rw [if_neg h1]
      by_cases h3 : b.toNat = 58
      · rw [if_pos h3]; exact hp
      · rw [if_neg h3]; exact hp

theorem par_slice {W : World} {B n size : Nat} {e : TypeId} {v : Value} {xs : List Value} (h : W.ownsRow B e size v n xs) : ∃ p c, v = .slice p n c := by
  rcases h.2 with ⟨rfl, rfl⟩ | ⟨g, cap, cur, rfl, _⟩
  · exact ⟨none, 0, rfl⟩
  · exact ⟨_, _, rfl⟩

set_option maxRecDepth 100000 in
set_option maxHeartbeats 8000000 in
theorem params_any (x : ByteArray) (hx : x.size ≤ 4611686018427387904) (hb : ∀ b ∈ x.data.toList, 48 ≤ b.toNat ∧ b.toNat ≤ 59) (w : World) :
    Calls Tryd.prog 71 #[.string x] w fun e w' => ∃ v, e = .returned v ∧ Ints w' v (parL x.data.toList) ∧ Below w.heap.size w w' := by
  obtain ⟨i0, hi, hz0, hz1, hz2⟩ := info_parts info3
  have LE : Hid (∀ a b w, Calls Tryd.prog 87 #[.int .i64 a, .int .i64 b] w fun e w' => e = .returned (.int .i64 (min a b)) ∧ w' = w) := least_any
  have HX : Hid (∀ b ∈ x.data.toList, 48 ≤ b.toNat ∧ b.toNat ≤ 59) := hb
  clear hb
  go_enter Tryd.func71, Tryd.ntmps71
  go_wp2
  go_loopw [3, 4, 5] (fun v nv iv wr => ∃ (i : Nat) (acc : List Int) (n : Int), iv = .int .i64 i ∧ i ≤ x.size + 1 ∧ nv = .int .i64 n ∧ 0 ≤ n ∧ n ≤ 999999 ∧ wr.ownsRow w.heap.size 3 1 v acc.length (acc.map (Value.int .i64)) ∧ Below w.heap.size w wr ∧ acc.length ≤ 16 ∧ Hid (i ≤ x.size → (acc, n) = parS ([], 0) (x.data.toList.take i)) ∧ Hid (i = x.size + 1 → acc = parL x.data.toList)) (fun _ _ i _ => x.size + 1 - (intOf i).toNat)
  case atStart => exact ⟨0, [], 0, rfl, Nat.zero_le _, rfl, by omega, by omega, World.ownsRow_nil _ _ _ _, Below.refl _ _, by simp, fun _ => rfl, fun h => by omega⟩
  case round =>
    obtain ⟨i, acc, n, rfl, hil, rfl, hn0, hn1, hown, hbw, hal, HS, HE⟩ := hrel
    obtain ⟨p0, c0, rfl⟩ := par_slice hown
    have hsz := hbw.size
    by_cases hle : i ≤ x.size
    · have hle' : (i : Int) ≤ (x.size : Int) := by omega
      have HS2 : Hid ((acc, n) = parS ([], 0) (x.data.toList.take i)) := HS.out hle
      by_cases hend : i = x.size
      · have he1 : ((i : Int) == (x.size : Int)) = true := by simpa using (by omega : (i : Int) = (x.size : Int))
        have HPL : Hid (parE (acc, n) = parL x.data.toList) := by
          show _ = _
          unfold parL
          rw [HS2.out, hend, List.take_of_length_le (by rw [len_data]; exact Nat.le_refl _)]
        clear HS HE HS2
        by_cases h16 : acc.length < 16
        · have h16' : (acc.length : Int) < 16 := by omega
          go_wp2_with (first | (at_builtin; refine wpList_append_own _ rfl _ _ 113 rfl w.heap.size 3 i0 (.int .i64 0) 1 8 Tryd.underlying113 hi hz0 hz1 hz2 rfl (by decide) _ _ _ rfl (hown.alloc _) _ 1 1 [.int .i64 n] rfl rfl ?c1k1 ?c2k1 ?c3k1 ?c4k1 ?c5k1 ?_))
          try case c1k1 => exact cell_one_new _ _ _
          case c2k1 => first | (intro u hu; simp at hu; subst hu; rfl) | rfl | (simp; done)
          case c3k1 => first | (unfold maxLen; omega) | omega
          case c4k1 => omega
          case c5k1 => first | omega | (rw [World.size_alloc]; omega)
          intro v' w1 hown' hg _
          have hrow : ∀ q, Value.ownBlock (.slice p0 acc.length c0) = some q → w.heap.size ≤ q := fun q hq => (hown.lt q hq).1
          have hb1 : Below w.heap.size w w1 := (hbw.alloc hsz _).grown hg (by rw [World.size_alloc]; omega) hrow
          clear hg hrow hown hbw
          go_wp2
          go_roundw
          case rel =>
            refine ⟨i + 1, acc ++ [n], 0, by go_num, by omega, rfl, by omega, by omega, ?_, hb1, by simp; omega, ?_, ?_⟩
            · rw [List.length_append, List.map_append]; exact hown'
            · exact fun q => absurd q (by omega)
            · exact fun _ => by rw [← HPL.out]; unfold parE; rw [if_pos h16]
          case measure => simp [intOf]; omega
        · have h16' : ¬ (acc.length : Int) < 16 := by omega
          go_wp2
          go_roundw
          case rel => exact ⟨i + 1, acc, 0, by go_num, by omega, rfl, by omega, by omega, hown, hbw, hal, fun q => absurd q (by omega), fun _ => by rw [← HPL.out]; unfold parE; rw [if_neg h16]⟩
          case measure => simp [intOf]; omega
      · have hlt : i < x.size := by omega
        have he1 : ((i : Int) == (x.size : Int)) = false := by simpa using (by omega : ¬ (i : Int) = (x.size : Int))
        obtain ⟨bt, hbt⟩ : ∃ b, x[i]'hlt = b := ⟨_, rfl⟩
        have HP : Hid (parS ([], 0) (x.data.toList.take (i + 1)) = par1 (acc, n) bt) := by
          show _ = _
          have e : x.data.toList[i]? = some bt := by rw [Array.getElem?_toList, ← hbt]; exact Array.getElem?_eq_getElem hlt
          rw [List.take_add_one, e, HS2.out, ← parS_app]
          rfl
        have hbd : 48 ≤ bt.toNat ∧ bt.toNat ≤ 59 := HX.out bt (by rw [← hbt]; exact List.mem_of_getElem? (i := i) (by rw [Array.getElem?_toList]; exact Array.getElem?_eq_getElem hlt))
        clear HS HE HS2
        by_cases h59 : bt.toNat = 59
        · have e59 : ((bt.toNat : Int) == 59) = true := by simpa using (by omega : (bt.toNat : Int) = 59)
          by_cases h16 : acc.length < 16
          · have h16' : (acc.length : Int) < 16 := by omega
            go_wp2_with (first | (at_builtin; refine wpList_append_own _ rfl _ _ 113 rfl w.heap.size 3 i0 (.int .i64 0) 1 8 Tryd.underlying113 hi hz0 hz1 hz2 rfl (by decide) _ _ _ rfl (hown.alloc _) _ 1 1 [.int .i64 n] rfl rfl ?c1k1 ?c2k1 ?c3k1 ?c4k1 ?c5k1 ?_))
            try case c1k1 => exact cell_one_new _ _ _
            case c2k1 => first | (intro u hu; simp at hu; subst hu; rfl) | rfl | (simp; done)
            case c3k1 => first | (unfold maxLen; omega) | omega
            case c4k1 => omega
            case c5k1 => first | omega | (rw [World.size_alloc]; omega)
            intro v' w1 hown' hg _
            have hrow : ∀ q, Value.ownBlock (.slice p0 acc.length c0) = some q → w.heap.size ≤ q := fun q hq => (hown.lt q hq).1
            have hb1 : Below w.heap.size w w1 := (hbw.alloc hsz _).grown hg (by rw [World.size_alloc]; omega) hrow
            clear hg hrow hown hbw
            go_wp2
            go_roundw
            case rel =>
              refine ⟨i + 1, acc ++ [n], 0, by go_num, by omega, rfl, by omega, by omega, ?_, hb1, by simp; omega, ?_, ?_⟩
              · rw [List.length_append, List.map_append]; exact hown'
              · exact fun _ => by rw [HP.out]; unfold par1; rw [if_pos h59, if_pos h16]
              · exact fun q => absurd q (by omega)
            case measure => simp [intOf]; omega
          · have h16' : ¬ (acc.length : Int) < 16 := by omega
            go_wp2
            go_roundw
            case rel => exact ⟨i + 1, acc, 0, by go_num, by omega, rfl, by omega, by omega, hown, hbw, hal, fun _ => by rw [HP.out]; unfold par1; rw [if_pos h59, if_neg h16], fun q => absurd q (by omega)⟩
            case measure => simp [intOf]; omega
        · have e59 : ((bt.toNat : Int) == 59) = false := by simpa using (by omega : ¬ (bt.toNat : Int) = 59)
          by_cases h58 : bt.toNat = 58
          · have e58 : ((bt.toNat : Int) != 58) = false := by simpa using (by omega : (bt.toNat : Int) = 58)
            go_wp2
            go_roundw
            case rel => exact ⟨i + 1, acc, n, by go_num, by omega, rfl, hn0, hn1, hown, hbw, hal, fun _ => by rw [HP.out]; unfold par1; rw [if_neg h59, if_pos h58], fun q => absurd q (by omega)⟩
            case measure => simp [intOf]; omega
          · have e58 : ((bt.toNat : Int) != 58) = true := by simpa using (by omega : ¬ (bt.toNat : Int) = 58)
            go_wp2_with fail
            refine (LE.out _ _ _).mono ?_
            rintro e w1 ⟨rfl, hw⟩
            obtain rfl := hw.symm
            go_wp2
            go_roundw
            case rel => exact ⟨i + 1, acc, min 999999 (10 * n + (bt.toNat : Int) - 48), by go_num, by omega, by go_num, by omega, by omega, hown, hbw, hal, fun _ => by rw [HP.out]; unfold par1; rw [if_neg h59, if_neg h58], fun q => absurd q (by omega)⟩
            case measure => simp [intOf]; omega
    · have hle' : ¬ (i : Int) ≤ (x.size : Int) := by omega
      have HEE : Hid (acc = parL x.data.toList) := HE.out (by omega)
      go_wp2
      go_ret
      exact ⟨_, rfl, by rw [← HEE.out]; exact ints_own hown, hbw⟩

end Go.Proofs.YtlfffpoeioecjaaDoor

namespace Go.Proofs.YtlfffpoeioecjaaDoor
open Go.RowKit Go.Sort
set_option linter.unusedVariables false

set_option maxRecDepth 100000 in
set_option maxHeartbeats 4000000 in
theorem rApplied_any (f g b n : Int) (w : World) : Calls Tryd.prog 107 #[sv f g b, .int .i64 n] w fun e w' => e = .returned (sv (apf n f) (apg n g) (apb n b)) ∧ Gr w w' := by
  by_cases h0 : n = 0
  · subst h0
    unfold sv
    go_enter Tryd.func107, Tryd.ntmps107
    go_wp2
    refine bodyPost_ret (v := sv 0 0 0) (by simp [results, Tryd.results107, go_sem, sv]) rfl ?_
    exact ⟨by rfl, ((Gr.refl w).alloc _).alloc _⟩
  by_cases h1 : n = 1
  · subst h1
    unfold sv
    go_enter Tryd.func107, Tryd.ntmps107
    go_wp2
    refine bodyPost_ret (v := sv f g 1) (by simp [results, Tryd.results107, go_sem, sv]) rfl ?_
    exact ⟨by rfl, ((Gr.refl w).alloc _).alloc _⟩
  by_cases h2 : n = 22
  · subst h2
    unfold sv
    go_enter Tryd.func107, Tryd.ntmps107
    go_wp2
    refine bodyPost_ret (v := sv f g 0) (by simp [results, Tryd.results107, go_sem, sv]) rfl ?_
    exact ⟨by rfl, ((Gr.refl w).alloc _).alloc _⟩
  by_cases h3 : n = 39
  · subst h3
    unfold sv
    go_enter Tryd.func107, Tryd.ntmps107
    go_wp2
    refine bodyPost_ret (v := sv 0 g b) (by simp [results, Tryd.results107, go_sem, sv]) rfl ?_
    exact ⟨by rfl, ((Gr.refl w).alloc _).alloc _⟩
  by_cases h4 : n = 49
  · subst h4
    unfold sv
    go_enter Tryd.func107, Tryd.ntmps107
    go_wp2
    refine bodyPost_ret (v := sv f 0 b) (by simp [results, Tryd.results107, go_sem, sv]) rfl ?_
    exact ⟨by rfl, ((Gr.refl w).alloc _).alloc _⟩
  by_cases h5 : 30 ≤ n ∧ n ≤ 37
  · rw [apf_in f h5, apg_no g h0 h4 (by omega), apb_no b h0 h1 h2]
    have q1 : 30 ≤ n := by omega
    have q2 : n ≤ 37 := by omega
    have q3 : ¬ 40 ≤ n := by omega
    unfold sv
    go_enter Tryd.func107, Tryd.ntmps107
    go_wp2
    refine bodyPost_ret (v := sv (n - 29) g b) (by simp [results, Tryd.results107, go_sem, sv]) rfl ?_
    exact ⟨by rfl, ((Gr.refl w).alloc _).alloc _⟩
  by_cases h6 : 40 ≤ n ∧ n ≤ 47
  · rw [apf_no f h0 h3 h5, apg_in g h6, apb_no b h0 h1 h2]
    have q1 : 40 ≤ n := by omega
    have q2 : n ≤ 47 := by omega
    have q3 : ¬ n ≤ 37 := by omega
    have q4 : 30 ≤ n := by omega
    unfold sv
    go_enter Tryd.func107, Tryd.ntmps107
    go_wp2
    refine bodyPost_ret (v := sv f (n - 39) b) (by simp [results, Tryd.results107, go_sem, sv]) rfl ?_
    exact ⟨by rfl, ((Gr.refl w).alloc _).alloc _⟩
  rw [apf_no f h0 h3 h5, apg_no g h0 h4 h6, apb_no b h0 h1 h2]
  unfold sv
  go_enter Tryd.func107, Tryd.ntmps107
  go_wp2
  all_goals
    refine bodyPost_ret (v := sv f g b) (by simp [results, Tryd.results107, go_sem, sv]) rfl ?_
    exact ⟨by rfl, ((Gr.refl w).alloc _).alloc _⟩

set_option maxRecDepth 100000 in
set_option maxHeartbeats 4000000 in
theorem rApply_none (f g b : Int) (a : Option Addr) (cap : Nat) (w : World) : Calls Tryd.prog 88 #[sv f g b, .slice a 0 cap] w fun e w' => e = .returned (sv 0 0 0) ∧ Gr w w' := by
  have CC : Hid (∀ f g b w, Calls Tryd.prog 30 #[sv f g b] w fun e w' => e = .returned (sv (kn f) (kn g) (bo b)) ∧ Gr w w') := sound_any
  unfold sv at CC ⊢
  go_enter Tryd.func88, Tryd.ntmps88
  go_wp2_with fail
  obtain ⟨S, hS⟩ : ∃ x, w.heap.size = x := ⟨_, rfl⟩
  obtain ⟨W0, hW0⟩ : ∃ x, (w.alloc (.cells #[.int .i64 f, .int .i64 g, .int .i64 b] 50)).alloc (.cells #[.int .i64 0, .int .i64 0, .int .i64 0] 50) = x := ⟨_, rfl⟩
  have G0 : Hid (Gr w W0) := by rw [← hW0]; exact ((Gr.refl w).alloc _).alloc _
  have RA : Hid (R3 50 W0 S f g b) := by rw [← hW0, ← hS]; exact (R3.new w _ _ _ _).gr ((Gr.refl _).alloc _)
  have RC : Hid (R3 50 W0 (S + 1) 0 0 0) := by
    have := R3.new (w.alloc (.cells #[.int .i64 f, .int .i64 g, .int .i64 b] 50)) 0 0 0 50
    simp only [World.size_alloc, hS] at this
    rw [← hW0]; exact this
  rw [hW0, hS]
  clear hW0
  have HS : Hid (w.heap.size = S) := hS
  clear hS
  refine (CC.out _ _ _ _).mono ?_
  rintro e w1 ⟨rfl, g1⟩
  have RA1 := RA.out.gr g1
  have RC1 := RC.out.gr g1
  have RA2 := RA1.set (kn f) (kn g) (bo b)
  have RC2 := RC1.others (k := S) (by omega) (.int .i64 (kn f)) (.int .i64 (kn g)) (.int .i64 (bo b))
  have GG : Hid (Gr w _) := (G0.out.trans g1).set3 (k := S) (by rw [HS.out]; omega) (.int .i64 (kn f)) (.int .i64 (kn g)) (.int .i64 (bo b))
  have a0 := RA1.c0
  have a1 := RA1.c1
  have a2 := RA1.c2
  have f0 := RA1.fz 0
  have f1 := RA1.fz 1
  have f2 := RA1.fz 2
  have c0 := RC2.c0
  have c1 := RC2.c1
  have c2 := RC2.c2
  have k0 := RC2.fz 0
  have k1 := RC2.fz 1
  have k2 := RC2.fz 2
  go_wp2
  refine bodyPost_ret (results_cell_row rfl _ _ (S + 1) _ _ _ _ rfl (RC2.set _ _ _) Tryd.underlying50 rfl (by kernel_rfl)) rfl ?_
  exact ⟨rfl, GG.out.set3 (by rw [HS.out]; omega) _ _ _⟩

set_option maxRecDepth 100000 in
set_option maxHeartbeats 4000000 in
theorem rApply_some (f g b : Int) (zs : List Int) (B off cap : Nat) (w : World) (hp : 0 < zs.length) (hB : B < w.heap.size) (hc : ∀ j, j < zs.length → w.cell? ⟨B, off + j, none⟩ = some (.int .i64 (zs[j]?.getD 0))) (hlen : zs.length ≤ 17592186044416) :
    Calls Tryd.prog 88 #[sv f g b, .slice (some ⟨B, off, none⟩) zs.length cap] w fun e w' => e = .returned (sv (apF zs (kn f)) (apG zs (kn g)) (apB zs (bo b))) ∧ Gr w w' := by
  have HC : Hid (∀ j, j < zs.length → w.cell? ⟨B, off + j, none⟩ = some (.int .i64 (zs[j]?.getD 0))) := hc
  clear hc
  have CC : Hid (∀ f g b w, Calls Tryd.prog 30 #[sv f g b] w fun e w' => e = .returned (sv (kn f) (kn g) (bo b)) ∧ Gr w w') := sound_any
  have AA : Hid (∀ f g b n w, Calls Tryd.prog 107 #[sv f g b, .int .i64 n] w fun e w' => e = .returned (sv (apf n f) (apg n g) (apb n b)) ∧ Gr w w') := rApplied_any
  obtain ⟨x, hx⟩ : ∃ z, kn f = z := ⟨_, rfl⟩
  obtain ⟨y, hy⟩ : ∃ z, kn g = z := ⟨_, rfl⟩
  obtain ⟨z, hz⟩ : ∃ z, bo b = z := ⟨_, rfl⟩
  have C1 : Hid (∀ w, _) := CC.out f g b
  rw [hx, hy, hz] at C1 ⊢
  clear CC hx hy hz
  unfold sv at C1 AA ⊢
  have hp' : ¬ ((zs.length : Int) = 0) := by omega
  have hpb : ((zs.length : Int) == 0) = false := by simpa using hp'
  have hpd : decide ((zs.length : Int) = 0) = false := by simpa using hp'
  go_enter Tryd.func88, Tryd.ntmps88
  go_wp2_with fail
  obtain ⟨S, hS⟩ : ∃ x, w.heap.size = x := ⟨_, rfl⟩
  obtain ⟨W0, hW0⟩ : ∃ x, (w.alloc (.cells #[.int .i64 f, .int .i64 g, .int .i64 b] 50)).alloc (.cells #[.int .i64 0, .int .i64 0, .int .i64 0] 50) = x := ⟨_, rfl⟩
  have G0 : Hid (Gr w W0) := by rw [← hW0]; exact ((Gr.refl w).alloc _).alloc _
  have RA : Hid (R3 50 W0 S f g b) := by rw [← hW0, ← hS]; exact (R3.new w _ _ _ _).gr ((Gr.refl _).alloc _)
  have RC : Hid (R3 50 W0 (S + 1) 0 0 0) := by
    have := R3.new (w.alloc (.cells #[.int .i64 f, .int .i64 g, .int .i64 b] 50)) 0 0 0 50
    simp only [World.size_alloc, hS] at this
    rw [← hW0]; exact this
  rw [hW0, hS]
  clear hW0
  have HS : Hid (w.heap.size = S) := hS
  have HB : Hid (B < w.heap.size) := hB
  clear hS hB
  refine (C1.out _).mono ?_
  rintro e w1 ⟨rfl, g1⟩
  have RA1 := RA.out.gr g1
  have R2 : Hid (R3 50 _ S x y z) := RA1.set x y z
  have RC2 : Hid (R3 50 _ (S + 1) 0 0 0) := (RC.out.gr g1).others (k := S) (by omega) (.int .i64 x) (.int .i64 y) (.int .i64 z)
  have G2 : Hid (Gr w _) := (G0.out.trans g1).set3 (k := S) (by rw [HS.out]; omega) (.int .i64 x) (.int .i64 y) (.int .i64 z)
  have a0 := RA1.c0
  have a1 := RA1.c1
  have a2 := RA1.c2
  have f0 := RA1.fz 0
  have f1 := RA1.fz 1
  have f2 := RA1.fz 2
  clear RA1 g1
  go_wp2_with fail
  obtain ⟨W2, hW2⟩ : ∃ q, (((w1.setCell ⟨S, 0, none⟩ (.int .i64 x)).setCell ⟨S, 1, none⟩ (.int .i64 y)).setCell ⟨S, 2, none⟩ (.int .i64 z)) = q := ⟨_, rfl⟩
  rw [hW2] at R2 RC2 G2 ⊢
  clear hW2 a0 a1 a2 f0 f1 f2 RA RC G0
  go_loopw [5] (fun i wr => ∃ k : Nat, k ≤ zs.length ∧ i = .int .i64 k ∧ Hid (R3 50 wr S (apF (zs.take k) x) (apG (zs.take k) y) (apB (zs.take k) z) ∧ R3 50 wr (S + 1) 0 0 0 ∧ Gr w wr)) (fun i _ => zs.length - (intOf i).toNat)
  case atStart => exact ⟨0, Nat.zero_le _, rfl, R2.out, RC2.out, G2.out⟩
  case round =>
    obtain ⟨k, hk, rfl, HR⟩ := hrel
    by_cases hlt : k < zs.length
    · obtain ⟨n, hn⟩ : ∃ q, zs[k]?.getD 0 = q := ⟨_, rfl⟩
      have hcx : wr.cell? ⟨B, off + k, none⟩ = some (.int .i64 n) := by rw [← hn]; exact (HR.out.2.2.below.cell (p := ⟨B, off + k, none⟩) HB.out).trans (HC.out k hlt)
      have N1 : Hid (apF (zs.take (k + 1)) x = apf n (apF (zs.take k) x)) := by rw [← hn]; exact apF_next zs k x hlt
      have N2 : Hid (apG (zs.take (k + 1)) y = apg n (apG (zs.take k) y)) := by rw [← hn]; exact apG_next zs k y hlt
      have N3 : Hid (apB (zs.take (k + 1)) z = apb n (apB (zs.take k) z)) := by rw [← hn]; exact apB_next zs k z hlt
      obtain ⟨p, hp1⟩ : ∃ q, apF (zs.take k) x = q := ⟨_, rfl⟩
      obtain ⟨q, hq1⟩ : ∃ q, apG (zs.take k) y = q := ⟨_, rfl⟩
      obtain ⟨r, hr1⟩ : ∃ q, apB (zs.take k) z = q := ⟨_, rfl⟩
      rw [hp1, hq1, hr1] at HR
      rw [hp1] at N1
      rw [hq1] at N2
      rw [hr1] at N3
      clear hn hp1 hq1 hr1
      have A1 : Hid (∀ w, _) := AA.out p q r n
      obtain ⟨p', hp2⟩ : ∃ q, apf n p = q := ⟨_, rfl⟩
      obtain ⟨q', hq2⟩ : ∃ z, apg n q = z := ⟨_, rfl⟩
      obtain ⟨r', hr2⟩ : ∃ q, apb n r = q := ⟨_, rfl⟩
      rw [hp2, hq2, hr2] at A1
      rw [hp2] at N1
      rw [hq2] at N2
      rw [hr2] at N3
      clear hp2 hq2 hr2
      have hlt' : (k : Int) < (zs.length : Int) := by omega
      have b0 := HR.out.1.c0
      have b1 := HR.out.1.c1
      have b2 := HR.out.1.c2
      have bb : B < wr.heap.size := Nat.lt_of_lt_of_le HB.out HR.out.2.2.size
      go_wp2_with fail
      go_region_with (go_at_call 107; refine Calls.mono (A1.out _) ?_; rintro e w5 ⟨rfl, g5⟩; have HG5 : Hid (Gr wr w5) := (by first | exact g5 | exact ((Gr.refl wr).drew).trans g5); have R5 : Hid (R3 50 w5 S p q r) := HR.out.1.gr HG5.out; clear g5; have d0 := R5.out.c0; have d1 := R5.out.c1; have d2 := R5.out.c2; have e0 := R5.out.fz 0; have e1 := R5.out.fz 1; have e2 := R5.out.fz 2; have hcy : w5.cell? ⟨B, off + k, none⟩ = some (.int .i64 n) := (HG5.out.below.cell (p := ⟨B, off + k, none⟩) bb).trans hcx)
      all_goals
        go_wp2_with fail
        go_roundw
        case rel => exact ⟨k + 1, by omega, by go_num, by show _ ∧ _ ∧ _; rw [N1.out, N2.out, N3.out]; exact ⟨R5.out.set p' q' r', (HR.out.2.1.gr HG5.out).others (by omega) _ _ _, (HR.out.2.2.trans HG5.out).set3 (by rw [HS.out]; omega) _ _ _⟩⟩
        case measure => simp [intOf]; omega
    · have hlt' : ¬ (k : Int) < (zs.length : Int) := by omega
      have hkk : k = zs.length := by omega
      have HK : Hid (R3 50 wr S (apF zs x) (apG zs y) (apB zs z)) := by have := HR.out.1; rw [hkk, List.take_length] at this; exact this
      obtain ⟨p, hp1⟩ : ∃ q, apF zs x = q := ⟨_, rfl⟩
      obtain ⟨q, hq1⟩ : ∃ q, apG zs y = q := ⟨_, rfl⟩
      obtain ⟨r, hr1⟩ : ∃ q, apB zs z = q := ⟨_, rfl⟩
      rw [hp1, hq1, hr1] at HK
      have HP : Hid (apF zs x = p) := hp1
      have HQ : Hid (apG zs y = q) := hq1
      have HRR : Hid (apB zs z = r) := hr1
      clear hp1 hq1 hr1
      have b0 := HK.out.c0
      have b1 := HK.out.c1
      have b2 := HK.out.c2
      have c0 := HR.out.2.1.c0
      have c1 := HR.out.2.1.c1
      have c2 := HR.out.2.1.c2
      have k0 := HR.out.2.1.fz 0
      have k1 := HR.out.2.1.fz 1
      have k2 := HR.out.2.1.fz 2
      go_wp2
      refine bodyPost_ret (results_cell_row rfl _ _ (S + 1) _ _ _ _ rfl (HR.out.2.1.set _ _ _) Tryd.underlying50 rfl (by kernel_rfl)) rfl ?_
      exact ⟨by rw [HP.out, HQ.out, HRR.out], HR.out.2.2.set3 (by rw [HS.out]; omega) _ _ _⟩

theorem rApply_any (f g b : Int) (zs : List Int) (v : Value) (w : World) (h : Ints w v zs) (hlen : zs.length ≤ 17592186044416) : Calls Tryd.prog 88 #[sv f g b, v] w fun e w' => e = .returned (sv (aplF zs f) (aplG zs g) (aplB zs b)) ∧ Gr w w' := by
  obtain ⟨a, cap, rfl, hh⟩ := h
  by_cases hz : zs = []
  · subst hz; exact rApply_none f g b a cap w
  · obtain ⟨B, off, rfl, hb, hc⟩ := hh.resolve_left hz
    unfold aplF aplG aplB
    rw [if_neg hz, if_neg hz, if_neg hz]
    exact rApply_some f g b zs B off cap w (List.length_pos_iff.2 hz) hb hc hlen

end Go.Proofs.YtlfffpoeioecjaaDoor
