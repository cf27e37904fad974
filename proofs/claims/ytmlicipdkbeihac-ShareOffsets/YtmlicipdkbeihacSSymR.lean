/-
  symMergeCmpFunc, the second run of one number.
-/
import Derived.Test.YtmlicipdkbeihacSSym
namespace Go.Proofs.Ytmlicipdkbeihac
open Go.RowKit
set_option linter.unusedVariables false

theorem swp_comm (d : List Int) (i j : Nat) (hi : i < d.length) (hj : j < d.length) : swp d i j = swp d j i := by
  refine list_same (by rw [swp_length, swp_length]) fun t ht => ?_
  rw [swp_at d i j t hi hj, swp_at d j i t hj hi]
  by_cases h1 : t = j
  · by_cases h2 : t = i
    · subst h1; subst h2; simp
    · rw [if_pos h1, if_neg h2, if_pos h1]
  · rw [if_neg h1]
    by_cases h2 : t = i
    · rw [if_pos h2, if_pos h2]
    · rw [if_neg h2, if_neg h2, if_neg h1]

set_option maxRecDepth 100000 in
set_option maxHeartbeats 4000000 in
theorem sym_right (g : Nat) (lb : Array Value) (eg : ∀ args w, (callFunc g args).run Try.prog w = .ok (.enter g args) w) (cf : Int → Int → Int) (D : List Int) (R : Int → Int → Prop) (hO : Ord cf D R) (w0 : World) (P A : List Int) (y : Int) (S : List Int) (blk off cap : Nat) (hcmp : CmpOk g lb cf D w0 blk) (w : World) (hw0 : w0.grownBy w (some blk)) (h : IRow w blk off (P ++ A ++ [y] ++ S))
    (hy : y ∈ D) (hA : ∀ x ∈ A, x ∈ D) (hAp : A.Pairwise R) (hT : ∀ x ∈ A, x < y) (hA0 : 2 ≤ A.length) (hlen : (P ++ A ++ [y] ++ S).length ≤ 1099511627776) :
    Calls Try.prog 37 #[.slice (some ⟨blk, off, none⟩) (P ++ A ++ [y] ++ S).length cap, .int .i64 P.length, .int .i64 ((P.length + A.length : Nat) : Int), .int .i64 ((P.length + A.length + 1 : Nat) : Int), .func (.func g) #[] lb] w fun e w' => e = .returned (.tuple #[]) ∧ (∃ A1 A2, A = A1 ++ A2 ∧ (∀ x ∈ A1, R x y) ∧ (∀ x ∈ A2, R y x) ∧ IRow w' blk off (P ++ A1 ++ [y] ++ A2 ++ S)) ∧ w.grownBy w' (some blk) := by
  have HR : Hid (IRow w blk off (P ++ A ++ [y] ++ S)) := h
  have HO : Hid (Ord cf D R) := hO
  have HW0 : Hid (w0.grownBy w (some blk)) := hw0
  have HCM : Hid (CmpOk g lb cf D w0 blk) := hcmp
  have HYD : Hid (y ∈ D) := hy
  have HAD : Hid (∀ x ∈ A, x ∈ D) := hA
  have HAP : Hid (A.Pairwise R) := hAp
  have HTA : Hid (∀ x ∈ A, x < y) := hT
  have hmx : Try.prog.follows .mixedOrders = true := by kernel_rfl
  obtain ⟨n, hn⟩ : ∃ n, (P ++ A ++ [y] ++ S).length = n := ⟨_, rfl⟩
  obtain ⟨a, ha⟩ : ∃ a, P.length = a := ⟨_, rfl⟩
  obtain ⟨b, hb⟩ : ∃ b, P.length + A.length + 1 = b := ⟨_, rfl⟩
  obtain ⟨m, hm⟩ : ∃ m, P.length + A.length = m := ⟨_, rfl⟩
  have hbn : b ≤ n := by rw [← hb, ← hn]; simp only [List.length_append, List.length_cons, List.length_nil]; omega
  have hma : ¬ (m : Int) - (a : Int) = 1 := by omega
  have hbm : (b : Int) - (m : Int) = 1 := by omega
  have hmaB : ((m : Int) - (a : Int) == 1) = false := by simpa using hma
  have hbmB : ((b : Int) - (m : Int) == 1) = true := by simpa using hbm
  have hma1 : m ≤ a + A.length := by omega
  have hma2 : a + A.length ≤ m := by omega
  have hmb : m < b := by omega
  have HN : Hid ((P ++ A ++ [y] ++ S).length = n) := hn
  have HA : Hid (P.length = a) := ha
  have HX : Hid ((P ++ A ++ [y] ++ S)[m]?.getD 0 = y) := by
    show _ = _
    have : (P ++ A).length = m := by rw [List.length_append]; omega
    rw [← this, List.append_assoc (P ++ A), List.getElem?_append_right (Nat.le_refl _), Nat.sub_self]; rfl
  have HAt : Hid (∀ t, t < A.length → (P ++ A ++ [y] ++ S)[a + t]?.getD 0 = A[t]?.getD 0) := by
    intro t ht
    rw [app_at, if_pos (by simp only [List.length_append, List.length_cons, List.length_nil]; omega), app_at, if_pos (by simp only [List.length_append]; omega), app_at, if_neg (by omega)]
    congr 2; omega
  rw [hn] at hlen ⊢
  rw [hb, hm, ha]
  clear h hO hw0 hcmp hy hA hAp hT hn ha hb hm
  go_enter Try.func37, Try.ntmps37
  go_wp2
  go_loopw [14, 15] (fun i j wr => ∃ s t : Nat, i = .int .i64 s ∧ j = .int .i64 t ∧ a ≤ s ∧ s ≤ t ∧ t ≤ m ∧ Hid (∀ k, a + k < s → R (A[k]?.getD 0) y) ∧ Hid (∀ k, t ≤ a + k → k < A.length → R y (A[k]?.getD 0)) ∧ Hid (IRow wr blk off (P ++ A ++ [y] ++ S)) ∧ Hid (w.grownBy wr (some blk))) (fun i j _ => (intOf j).toNat - (intOf i).toNat)
  case atStart => exact ⟨a, m, rfl, rfl, Nat.le_refl _, by omega, Nat.le_refl _, fun k hk => by omega, fun k h1 h2 => by omega, HR.out, grown_refl _ _⟩
  case round =>
    obtain ⟨s, t, rfl, rfl, hms, hst, htb, hlo, hhi, hrow, hgr⟩ := hrel
    by_cases hlt : s < t
    · have hlt' : (s : Int) < (t : Int) := by omega
      obtain ⟨q, hq⟩ : ∃ q : Nat, (s + t) / 2 = q := ⟨_, rfl⟩
      have hqi : ((s : Int) + (t : Int)) / 2 = (q : Int) := by omega
      have hq1 : s ≤ q := by omega
      have hq2 : q < t := by omega
      have hqn : (q : Int) < (n : Int) := by omega
      have hmn : (m : Int) < (n : Int) := by omega
      obtain ⟨k, hk⟩ : ∃ k, q = a + k := ⟨q - a, by omega⟩
      have hkA : k < A.length := by omega
      obtain ⟨x, hx⟩ : ∃ x, A[k]?.getD 0 = x := ⟨_, rfl⟩
      have HY : Hid (A[k]?.getD 0 = x) := hx
      have HK : Hid (q = a + k) := hk
      have hxA : Hid (x ∈ A) := by show x ∈ A; rw [← hx]; exact mem_at hkA
      have hlr : (P ++ A ++ [y] ++ S).length = n := HN.out
      have c0 : wr.cell? ⟨blk, off + q, none⟩ = some (.int .i64 x) := by
        rw [(hrow.out.2 q (by omega)).1, hk, HAt.out k hkA, hx]
      have c1 : wr.cell? ⟨blk, off + m, none⟩ = some (.int .i64 y) := by
        rw [(hrow.out.2 m (by omega)).1, HX.out]
      have HC1 : Hid (Calls Try.prog g (#[.int .i64 y, .int .i64 x] ++ lb) wr.drew fun e W' => e = .returned (.int .i64 (cf y x)) ∧ Below wr.heap.size wr W') := by
        refine (HCM.out wr.drew (grown_drew (grown_trans HW0.out hgr.out)) y HYD.out x (HAD.out x hxA.out)).mono ?_
        rintro e w2 ⟨rfl, b2⟩
        exact ⟨rfl, (Below.refl wr.heap.size wr).drew.trans b2⟩
      obtain ⟨z, hz⟩ : ∃ z, cf y x = z := ⟨_, rfl⟩
      have HZ : Hid (cf y x = z) := hz
      rw [hz] at HC1
      clear hq hk hx hlr hz
      go_wp2_with fail
      go_cut [103] from 92 to 103 (fun v wx => v = .bool (!decide (z < 0)) ∧ Below wr.heap.size wr wx)
      case first =>
        go_region_with (refine HC1.out.mono ?_; rintro e wq ⟨rfl, bq⟩)
        all_goals (go_wp2_with fail)
        all_goals go_meet
        all_goals exact ⟨rfl, bq⟩
      case rest =>
        obtain ⟨rfl, bx⟩ := hcut
        have hrow' : Hid (IRow wc blk off (P ++ A ++ [y] ++ S)) := hrow.out.below bx
        have hgr' : Hid (w.grownBy wc (some blk)) := grown_trans hgr.out (grown_below bx)
        clear hrow hgr c0 c1 HC1
        by_cases hz0 : z < 0
        · have hhi' : Hid (∀ k', q ≤ a + k' → k' < A.length → R y (A[k']?.getD 0)) := by
            intro k' hk' hkl
            have hyx : R y x := HO.out.lt y HYD.out x (HAD.out x hxA.out) (by rw [HZ.out]; exact hz0)
            by_cases e : k' = k
            · subst e; rw [HY.out]; exact hyx
            · have hkk : k < k' := by have := HK.out; omega
              have h1 := pair_at HAP.out hkk hkl
              rw [HY.out] at h1
              exact HO.out.trans y HYD.out x (HAD.out x hxA.out) _ (HAD.out _ (mem_at hkl)) hyx h1
          have hd : (!decide (z < 0)) = false := by simp [hz0]
          rw [hd]
          go_wp2
          go_roundw
          case rel => exact ⟨s, q, rfl, rfl, hms, by omega, by omega, hlo, hhi', hrow', hgr'⟩
          case measure => simp [intOf]; omega
        · have hlo' : Hid (∀ k', a + k' < q + 1 → R (A[k']?.getD 0) y) := by
            intro k' hk'
            have hxy : R x y := HO.out.ge x (HAD.out x hxA.out) y HYD.out (HTA.out x hxA.out) (by rw [HZ.out]; exact hz0)
            by_cases e : k' = k
            · subst e; rw [HY.out]; exact hxy
            · have hkk : k' < k := by have := HK.out; omega
              have h1 := pair_at HAP.out hkk hkA
              rw [HY.out] at h1
              exact HO.out.trans _ (HAD.out _ (mem_at (by omega))) x (HAD.out x hxA.out) y HYD.out h1 hxy
          have hd : (!decide (z < 0)) = true := by simp [hz0]
          rw [hd]
          go_wp2
          go_roundw
          case rel => exact ⟨q + 1, t, by go_num, rfl, by omega, by omega, htb, hlo', hhi, hrow', hgr'⟩
          case measure => simp [intOf]; omega
    · have hlt' : ¬ (s : Int) < (t : Int) := by omega
      obtain rfl : s = t := by omega
      obtain ⟨c, hc⟩ : ∃ c, s = a + c := ⟨s - a, by omega⟩
      have hc1 : s ≤ a + c := by omega
      have hc2 : a + c ≤ s := by omega
      have hcA : c ≤ A.length := by omega
      have HA1 : Hid (∀ x ∈ A.take c, R x y) := by
        intro x hx
        obtain ⟨k, hk, _, e⟩ := mem_take_at hx
        rw [← e]; exact hlo.out k (by omega)
      have HA2 : Hid (∀ x ∈ A.drop c, R y x) := by
        intro x hx
        obtain ⟨k, hk, hkl, e⟩ := mem_drop_at hx
        rw [← e]; exact hhi.out k (by omega) hkl
      clear hc
      go_wp2
      go_loopw [17] (fun i wr => ∃ e u : Nat, a + e ≤ u ∧ u ≤ a + e ∧ i = .int .i64 u ∧ c ≤ e ∧ e ≤ A.length ∧ Hid (IRow wr blk off (P ++ A.take e ++ [y] ++ A.drop e ++ S)) ∧ Hid (w.grownBy wr (some blk))) (fun i _ => (intOf i).toNat)
      case atStart => exact ⟨A.length, m, by omega, by omega, rfl, by omega, Nat.le_refl _, by have := hrow.out; show IRow _ _ _ _; simpa using this, hgr⟩
      case round =>
        obtain ⟨e1, u, hu1, hu2, rfl, hec, heA, hrow2, hgr2⟩ := hrel
        by_cases hlt2 : c < e1
        · have hlt3 : (s : Int) < (u : Int) := by omega
          obtain ⟨e, rfl⟩ : ∃ e, e1 = e + 1 := ⟨e1 - 1, by omega⟩
          have heA' : e < A.length := by omega
          obtain ⟨x, hx⟩ : ∃ x, A[e]?.getD 0 = x := ⟨_, rfl⟩
          obtain ⟨ht1, ht2⟩ := take_next A e heA'
          rw [hx] at ht1 ht2
          obtain ⟨v, hv⟩ : ∃ v, v + 1 = u := ⟨u - 1, by omega⟩
          have hvi : (u : Int) - 1 = (v : Int) := by omega
          have huv : v < u := by omega
          have hXl : (P ++ A.take e).length = v := by have := HA.out; rw [List.length_append, List.length_take]; omega
          have HL2 : (P ++ A.take (e + 1) ++ [y] ++ A.drop (e + 1) ++ S).length = n := by
            have := HN.out
            simp only [List.length_append, List.length_take, List.length_drop, List.length_cons, List.length_nil] at *
            omega
          have hd : P ++ A.take (e + 1) ++ [y] ++ A.drop (e + 1) ++ S = (P ++ A.take e) ++ [x] ++ [y] ++ (A.drop (e + 1) ++ S) := by rw [ht1]; simp [List.append_assoc]
          have hr1 := hrow2.out
          rw [hd] at hr1 HL2
          have hdx : ((P ++ A.take e) ++ [x] ++ [y] ++ (A.drop (e + 1) ++ S))[v]?.getD 0 = x := by
            rw [← hXl]; exact (at_two _ _ _ _).1
          have hdy : ((P ++ A.take e) ++ [x] ++ [y] ++ (A.drop (e + 1) ++ S))[u]?.getD 0 = y := by
            rw [← hv, ← hXl]; exact (at_two _ _ _ _).2
          have c0 : wr.cell? ⟨blk, off + v, none⟩ = some (.int .i64 x) := by rw [(hr1.2 v (by omega)).1, hdx]
          have f0 : wr.frozen? ⟨blk, off + v, none⟩ = false := (hr1.2 v (by omega)).2
          have c1 : wr.cell? ⟨blk, off + u, none⟩ = some (.int .i64 y) := by rw [(hr1.2 u (by omega)).1, hdy]
          have f1 : wr.frozen? ⟨blk, off + u, none⟩ = false := (hr1.2 u (by omega)).2
          have HNew : Hid (IRow ((wr.setCell ⟨blk, off + u, none⟩ (.int .i64 x)).setCell ⟨blk, off + v, none⟩ (.int .i64 y)) blk off (P ++ A.take e ++ [y] ++ A.drop e ++ S)) := by
            have := irow_set2 hr1 u v (by omega) (by omega)
            rw [hdx, hdy, swp_comm _ _ _ (by omega) (by omega)] at this
            have hs2 := swp_next (P ++ A.take e) x y (A.drop (e + 1) ++ S)
            rw [hXl, hv] at hs2
            rw [hs2] at this
            show IRow _ _ _ _
            rw [ht2]
            simpa [List.append_assoc] using this
          have HG : Hid (w.grownBy ((wr.setCell ⟨blk, off + u, none⟩ (.int .i64 x)).setCell ⟨blk, off + v, none⟩ (.int .i64 y)) (some blk)) :=
            grown_trans hgr2.out (grown_trans (grown_set _ _ _ _) (grown_set _ _ _ _))
          have hun : (u : Int) < (n : Int) := by omega
          have hvn : (v : Int) < (n : Int) := by omega
          have hwv : IntKind.i64.wrap (v : Int) = (v : Int) := IntWalk.i64_in _ ⟨by omega, by omega⟩
          clear hr1 hd hdx hdy ht1 ht2 hx HL2 hXl hv hrow2 hgr2
          go_wp2
          go_big_region
          go_wp2
          go_roundw
          case rel => exact ⟨e, v, by omega, by omega, rfl, by omega, by omega, HNew.out, grown_drew HG.out⟩
          case measure => simp [intOf]; omega
        · have hlt3 : ¬ (s : Int) < (u : Int) := by omega
          obtain rfl : e1 = c := by omega
          go_wp2
          try simp only [Exit.inBlock, Exit.then]
          refine bodyPost_ret (results_none rfl _ _ _) rfl ?_
          exact ⟨rfl, ⟨A.take e1, A.drop e1, (List.take_append_drop _ _).symm, HA1.out, HA2.out, by simpa [List.append_assoc] using hrow2.out⟩, hgr2.out⟩

end Go.Proofs.Ytmlicipdkbeihac
