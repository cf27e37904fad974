/-
  symMergeCmpFunc: two runs become one.
-/
import Derived.Deep.RegionWith
import Derived.Deep.Cut
import Derived.Deep.CutRange
import Derived.Test.YtmlicipdkbeihacSRow
namespace Go.Proofs.Ytmlicipdkbeihac
open Go.RowKit
set_option linter.unusedVariables false

/-- What the sort asks of the comparison: in every world in which nothing but the row has turned. -/
def CmpOk (g : Nat) (lb : Array Value) (cf : Int → Int → Int) (D : List Int) (w0 : World) (blk : Nat) : Prop :=
  ∀ W, w0.grownBy W (some blk) → ∀ x ∈ D, ∀ y ∈ D, Calls Try.prog g (#[.int .i64 x, .int .i64 y] ++ lb) W fun e W' => e = .returned (.int .i64 (cf x y)) ∧ Below W.heap.size W W'
/-- How the comparison and the order go together. -/
structure Ord (cf : Int → Int → Int) (D : List Int) (R : Int → Int → Prop) : Prop where
  lt : ∀ x ∈ D, ∀ y ∈ D, cf x y < 0 → R x y
  ge : ∀ x ∈ D, ∀ y ∈ D, x < y → ¬ cf y x < 0 → R x y
  trans : ∀ x ∈ D, ∀ y ∈ D, ∀ z ∈ D, R x y → R y z → R x z
  bd : ∀ x ∈ D, ∀ y ∈ D, -1 ≤ cf x y ∧ cf x y ≤ 1

theorem pair_at {R : Int → Int → Prop} {B : List Int} (h : B.Pairwise R) {i j : Nat} (hij : i < j) (hj : j < B.length) : R (B[i]?.getD 0) (B[j]?.getD 0) := by
  rw [List.getElem?_eq_getElem hj, List.getElem?_eq_getElem (by omega)]
  exact List.pairwise_iff_getElem.1 h i j (by omega) hj hij
theorem mem_at {B : List Int} {i : Nat} (hi : i < B.length) : B[i]?.getD 0 ∈ B := by
  rw [List.getElem?_eq_getElem hi]; exact List.getElem_mem hi

theorem mem_take_at {B : List Int} {c : Nat} {y : Int} (h : y ∈ B.take c) : ∃ k, k < c ∧ k < B.length ∧ B[k]?.getD 0 = y := by
  obtain ⟨k, hk, e⟩ := List.mem_iff_getElem.1 h
  rw [List.length_take] at hk
  refine ⟨k, by omega, by omega, ?_⟩
  rw [List.getElem_take] at e
  rw [List.getElem?_eq_getElem (by omega)]; exact e
theorem mem_drop_at {B : List Int} {c : Nat} {y : Int} (h : y ∈ B.drop c) : ∃ k, c ≤ k ∧ k < B.length ∧ B[k]?.getD 0 = y := by
  obtain ⟨k, hk, e⟩ := List.mem_iff_getElem.1 h
  rw [List.length_drop] at hk
  refine ⟨c + k, by omega, by omega, ?_⟩
  rw [List.getElem_drop] at e
  rw [List.getElem?_eq_getElem (by omega)]; exact e
theorem at_two (X : List Int) (p q : Int) (Y : List Int) : (X ++ [p] ++ [q] ++ Y)[X.length]?.getD 0 = p ∧ (X ++ [p] ++ [q] ++ Y)[X.length + 1]?.getD 0 = q := by
  simp only [List.append_assoc]
  refine ⟨?_, ?_⟩
  · rw [List.getElem?_append_right (Nat.le_refl _), Nat.sub_self]; rfl
  · rw [List.getElem?_append_right (by omega), show X.length + 1 - X.length = 1 by omega]; rfl
theorem swp_next (X : List Int) (p q : Int) (Y : List Int) : swp (X ++ [p] ++ [q] ++ Y) X.length (X.length + 1) = X ++ [q] ++ [p] ++ Y := by
  have := swpN_list X [p] [] [q] Y rfl
  simp only [List.append_nil, List.length_cons, List.length_nil, Nat.add_zero, Nat.zero_add] at this
  exact this
theorem take_next (B : List Int) (e : Nat) (h : e < B.length) : B.take (e + 1) = B.take e ++ [B[e]?.getD 0] ∧ B.drop e = [B[e]?.getD 0] ++ B.drop (e + 1) := by
  rw [List.getElem?_eq_getElem h]
  exact ⟨List.take_succ_eq_append_getElem h, by rw [List.drop_eq_getElem_cons h]; rfl⟩

set_option maxRecDepth 100000 in
set_option maxHeartbeats 4000000 in
theorem sym_left (g : Nat) (lb : Array Value) (eg : ∀ args w, (callFunc g args).run Try.prog w = .ok (.enter g args) w) (cf : Int → Int → Int) (D : List Int) (R : Int → Int → Prop) (hO : Ord cf D R) (w0 : World) (P : List Int) (x : Int) (B S : List Int) (blk off cap : Nat) (hcmp : CmpOk g lb cf D w0 blk) (w : World) (hw0 : w0.grownBy w (some blk)) (h : IRow w blk off (P ++ [x] ++ B ++ S))
    (hx : x ∈ D) (hB : ∀ y ∈ B, y ∈ D) (hBp : B.Pairwise R) (hT : ∀ y ∈ B, x < y) (hB0 : 0 < B.length) (hlen : (P ++ [x] ++ B ++ S).length ≤ 1099511627776) :
    Calls Try.prog 37 #[.slice (some ⟨blk, off, none⟩) (P ++ [x] ++ B ++ S).length cap, .int .i64 P.length, .int .i64 ((P.length + 1 : Nat) : Int), .int .i64 ((P.length + 1 + B.length : Nat) : Int), .func (.func g) #[] lb] w fun e w' => e = .returned (.tuple #[]) ∧ (∃ B1 B2, B = B1 ++ B2 ∧ (∀ y ∈ B1, R y x) ∧ (∀ y ∈ B2, R x y) ∧ IRow w' blk off (P ++ B1 ++ [x] ++ B2 ++ S)) ∧ w.grownBy w' (some blk) := by
  have HR : Hid (IRow w blk off (P ++ [x] ++ B ++ S)) := h
  have HO : Hid (Ord cf D R) := hO
  have HW0 : Hid (w0.grownBy w (some blk)) := hw0
  have HCM : Hid (CmpOk g lb cf D w0 blk) := hcmp
  have HXD : Hid (x ∈ D) := hx
  have HBD : Hid (∀ y ∈ B, y ∈ D) := hB
  have HBP : Hid (B.Pairwise R) := hBp
  have HTB : Hid (∀ y ∈ B, x < y) := hT
  have hmx : Try.prog.follows .mixedOrders = true := by kernel_rfl
  obtain ⟨n, hn⟩ : ∃ n, (P ++ [x] ++ B ++ S).length = n := ⟨_, rfl⟩
  obtain ⟨a, ha⟩ : ∃ a, P.length = a := ⟨_, rfl⟩
  obtain ⟨b, hb⟩ : ∃ b, P.length + 1 + B.length = b := ⟨_, rfl⟩
  obtain ⟨m, hm⟩ : ∃ m, P.length + 1 = m := ⟨_, rfl⟩
  have hbn : b ≤ n := by rw [← hb, ← hn]; simp only [List.length_append, List.length_cons, List.length_nil]; omega
  have hma : (m : Int) - (a : Int) = 1 := by omega
  have hbm1 : b ≤ m + B.length := by omega
  have hbm2 : m + B.length ≤ b := by omega
  have hma1 : m ≤ a + 1 := by omega
  have hma2 : a + 1 ≤ m := by omega
  have HN : Hid ((P ++ [x] ++ B ++ S).length = n) := hn
  have HA : Hid (P.length = a) := ha
  -- the numbers of the row
  have HX : Hid ((P ++ [x] ++ B ++ S)[a]?.getD 0 = x) := by show _ = _; rw [← ha]; simp [List.append_assoc]
  have HBt : Hid (∀ t, t < B.length → (P ++ [x] ++ B ++ S)[m + t]?.getD 0 = B[t]?.getD 0) := by
    intro t ht
    rw [app_at, if_pos (by simp only [List.length_append, List.length_cons, List.length_nil]; omega), app_at, if_neg (by simp only [List.length_append, List.length_cons, List.length_nil]; omega)]
    congr 2; simp only [List.length_append, List.length_cons, List.length_nil]; omega
  rw [hn] at hlen ⊢
  rw [hb, hm, ha]
  clear h hO hw0 hcmp hx hB hBp hT hn ha hb hm
  go_enter Try.func37, Try.ntmps37
  go_wp2
  go_loopw [10, 11] (fun i j wr => ∃ s t : Nat, i = .int .i64 s ∧ j = .int .i64 t ∧ m ≤ s ∧ s ≤ t ∧ t ≤ b ∧ Hid (∀ k, m + k < s → R (B[k]?.getD 0) x) ∧ Hid (∀ k, t ≤ m + k → k < B.length → R x (B[k]?.getD 0)) ∧ Hid (IRow wr blk off (P ++ [x] ++ B ++ S)) ∧ Hid (w.grownBy wr (some blk))) (fun i j _ => (intOf j).toNat - (intOf i).toNat)
  case atStart => exact ⟨m, b, rfl, rfl, Nat.le_refl _, by omega, Nat.le_refl _, fun k hk => by omega, fun k h1 h2 => by omega, HR.out, grown_refl _ _⟩
  case round =>
    obtain ⟨s, t, rfl, rfl, hms, hst, htb, hlo, hhi, hrow, hgr⟩ := hrel
    by_cases hlt : s < t
    · have hlt' : (s : Int) < (t : Int) := by omega
      obtain ⟨q, hq⟩ : ∃ q : Nat, (s + t) / 2 = q := ⟨_, rfl⟩
      have hqi : ((s : Int) + (t : Int)) / 2 = (q : Int) := by omega
      have hq1 : s ≤ q := by omega
      have hq2 : q < t := by omega
      have hqn : (q : Int) < (n : Int) := by omega
      have han : (a : Int) < (n : Int) := by omega
      obtain ⟨k, hk⟩ : ∃ k, q = m + k := ⟨q - m, by omega⟩
      have hkB : k < B.length := by omega
      obtain ⟨y, hy⟩ : ∃ y, B[k]?.getD 0 = y := ⟨_, rfl⟩
      have HY : Hid (B[k]?.getD 0 = y) := hy
      have HK : Hid (q = m + k) := hk
      have hyB : Hid (y ∈ B) := by show y ∈ B; rw [← hy]; exact mem_at hkB
      have hlr : (P ++ [x] ++ B ++ S).length = n := HN.out
      have c0 : wr.cell? ⟨blk, off + q, none⟩ = some (.int .i64 y) := by
        rw [(hrow.out.2 q (by omega)).1, hk, HBt.out k hkB, hy]
      have c1 : wr.cell? ⟨blk, off + a, none⟩ = some (.int .i64 x) := by
        rw [(hrow.out.2 a (by omega)).1, HX.out]
      have HC1 : Hid (Calls Try.prog g (#[.int .i64 y, .int .i64 x] ++ lb) wr.drew fun e W' => e = .returned (.int .i64 (cf y x)) ∧ Below wr.heap.size wr W') := by
        refine (HCM.out wr.drew (grown_drew (grown_trans HW0.out hgr.out)) y (HBD.out y hyB.out) x HXD.out).mono ?_
        rintro e w2 ⟨rfl, b2⟩
        exact ⟨rfl, (Below.refl wr.heap.size wr).drew.trans b2⟩
      obtain ⟨z, hz⟩ : ∃ z, cf y x = z := ⟨_, rfl⟩
      have HZ : Hid (cf y x = z) := hz
      rw [hz] at HC1
      clear hq hk hy hlr hz
      go_wp2_with fail
      go_cut [50] from 40 to 50 (fun v wx => v = .bool (decide (z < 0)) ∧ Below wr.heap.size wr wx)
      case first =>
        go_region_with (refine HC1.out.mono ?_; rintro e wq ⟨rfl, bq⟩)
        all_goals (go_wp2_with fail)
        all_goals go_meet
        all_goals exact ⟨rfl, bq⟩
      case rest =>
        obtain ⟨rfl, bx⟩ := hcut
        have hrow' : Hid (IRow wc blk off (P ++ [x] ++ B ++ S)) := hrow.out.below bx
        have hgr' : Hid (w.grownBy wc (some blk)) := grown_trans hgr.out (grown_below bx)
        clear hrow hgr c0 c1 HC1
        by_cases hz0 : z < 0
        · have hlo' : Hid (∀ k', m + k' < q + 1 → R (B[k']?.getD 0) x) := by
            intro k' hk'
            have hyx : R y x := HO.out.lt y (HBD.out y hyB.out) x HXD.out (by rw [HZ.out]; exact hz0)
            by_cases e : k' = k
            · subst e; rw [HY.out]; exact hyx
            · have hkk : k' < k := by have := HK.out; omega
              have h1 := pair_at HBP.out hkk hkB
              rw [HY.out] at h1
              exact HO.out.trans _ (HBD.out _ (mem_at (by omega))) y (HBD.out y hyB.out) x HXD.out h1 hyx
          go_wp2
          go_roundw
          case rel => exact ⟨q + 1, t, by go_num, rfl, by omega, by omega, htb, hlo', hhi, hrow', hgr'⟩
          case measure => simp [intOf]; omega
        · have hhi' : Hid (∀ k', q ≤ m + k' → k' < B.length → R x (B[k']?.getD 0)) := by
            intro k' hk' hkl
            have hxy : R x y := HO.out.ge x HXD.out y (HBD.out y hyB.out) (HTB.out y hyB.out) (by rw [HZ.out]; exact hz0)
            by_cases e : k' = k
            · subst e; rw [HY.out]; exact hxy
            · have hkk : k < k' := by have := HK.out; omega
              have h1 := pair_at HBP.out hkk hkl
              rw [HY.out] at h1
              exact HO.out.trans x HXD.out y (HBD.out y hyB.out) _ (HBD.out _ (mem_at hkl)) hxy h1
          go_wp2
          go_roundw
          case rel => exact ⟨s, q, rfl, rfl, hms, by omega, by omega, hlo, hhi', hrow', hgr'⟩
          case measure => simp [intOf]; omega
    · have hlt' : ¬ (s : Int) < (t : Int) := by omega
      obtain rfl : s = t := by omega
      obtain ⟨c, hc⟩ : ∃ c, s = m + c := ⟨s - m, by omega⟩
      have HCc : Hid (s = m + c) := hc
      have hc1 : s ≤ m + c := by omega
      have hc2 : m + c ≤ s := by omega
      have hcB : c ≤ B.length := by omega
      have HB1 : Hid (∀ y ∈ B.take c, R y x) := by
        intro y hy
        obtain ⟨k, hk, _, e⟩ := mem_take_at hy
        rw [← e]; exact hlo.out k (by omega)
      have HB2 : Hid (∀ y ∈ B.drop c, R x y) := by
        intro y hy
        obtain ⟨k, hk, hkl, e⟩ := mem_drop_at hy
        rw [← e]; exact hhi.out k (by omega) hkl
      clear hc
      go_wp2
      go_loopw [13] (fun i wr => ∃ e u : Nat, a + e ≤ u ∧ u ≤ a + e ∧ i = .int .i64 u ∧ e ≤ c ∧ Hid (IRow wr blk off (P ++ B.take e ++ [x] ++ B.drop e ++ S)) ∧ Hid (w.grownBy wr (some blk))) (fun i _ => s - (intOf i).toNat)
      case atStart => exact ⟨0, a, by omega, by omega, rfl, Nat.zero_le _, by have := hrow.out; show IRow _ _ _ _; simpa using this, hgr⟩
      case round =>
        obtain ⟨e, u, hu1, hu2, rfl, hec, hrow2, hgr2⟩ := hrel
        by_cases hlt2 : e < c
        · have hlt3 : (u : Int) < (s : Int) - 1 := by omega
          have heB : e < B.length := by omega
          obtain ⟨y, hy⟩ : ∃ y, B[e]?.getD 0 = y := ⟨_, rfl⟩
          obtain ⟨ht1, ht2⟩ := take_next B e heB
          rw [hy] at ht1 ht2
          obtain ⟨v, hv⟩ : ∃ v, u + 1 = v := ⟨_, rfl⟩
          have hvi : (u : Int) + 1 = (v : Int) := by omega
          have huv : u < v := by omega
          have hXl : (P ++ B.take e).length = u := by have := HA.out; rw [List.length_append, List.length_take]; omega
          have HL2 : (P ++ B.take e ++ [x] ++ B.drop e ++ S).length = n := by
            have := HN.out
            simp only [List.length_append, List.length_take, List.length_drop, List.length_cons, List.length_nil] at *
            omega
          have hd : P ++ B.take e ++ [x] ++ B.drop e ++ S = (P ++ B.take e) ++ [x] ++ [y] ++ (B.drop (e + 1) ++ S) := by rw [ht2]; simp [List.append_assoc]
          have hr1 := hrow2.out
          rw [hd] at hr1 HL2
          have hdx : ((P ++ B.take e) ++ [x] ++ [y] ++ (B.drop (e + 1) ++ S))[u]?.getD 0 = x := by
            rw [← hXl]; exact (at_two _ _ _ _).1
          have hdy : ((P ++ B.take e) ++ [x] ++ [y] ++ (B.drop (e + 1) ++ S))[v]?.getD 0 = y := by
            rw [← hv, ← hXl]; exact (at_two _ _ _ _).2
          have c0 : wr.cell? ⟨blk, off + u, none⟩ = some (.int .i64 x) := by rw [(hr1.2 u (by omega)).1, hdx]
          have f0 : wr.frozen? ⟨blk, off + u, none⟩ = false := (hr1.2 u (by omega)).2
          have c1 : wr.cell? ⟨blk, off + v, none⟩ = some (.int .i64 y) := by rw [(hr1.2 v (by omega)).1, hdy]
          have f1 : wr.frozen? ⟨blk, off + v, none⟩ = false := (hr1.2 v (by omega)).2
          have HNew : Hid (IRow ((wr.setCell ⟨blk, off + u, none⟩ (.int .i64 y)).setCell ⟨blk, off + v, none⟩ (.int .i64 x)) blk off (P ++ B.take (e + 1) ++ [x] ++ B.drop (e + 1) ++ S)) := by
            have := irow_set2 hr1 u v (by omega) (by omega)
            rw [hdx, hdy] at this
            have hs2 := swp_next (P ++ B.take e) x y (B.drop (e + 1) ++ S)
            rw [hXl, hv] at hs2
            rw [hs2] at this
            show IRow _ _ _ _
            rw [ht1]
            simpa [List.append_assoc] using this
          have HG : Hid (w.grownBy ((wr.setCell ⟨blk, off + u, none⟩ (.int .i64 y)).setCell ⟨blk, off + v, none⟩ (.int .i64 x)) (some blk)) :=
            grown_trans hgr2.out (grown_trans (grown_set _ _ _ _) (grown_set _ _ _ _))
          have hun : (u : Int) < (n : Int) := by omega
          have hvn : (v : Int) < (n : Int) := by omega
          have hwv : IntKind.i64.wrap (v : Int) = (v : Int) := IntWalk.i64_in _ ⟨by omega, by omega⟩
          clear hr1 hd hdx hdy ht1 ht2 hy HL2 hXl hv hrow2 hgr2
          go_wp2
          go_big_region
          go_wp2
          go_roundw
          case rel => exact ⟨e + 1, v, by omega, by omega, rfl, by omega, HNew.out, grown_drew HG.out⟩
          case measure => simp [intOf]; omega
        · have hlt3 : ¬ (u : Int) < (s : Int) - 1 := by omega
          obtain rfl : e = c := by omega
          go_wp2
          try simp only [Exit.inBlock, Exit.then]
          refine bodyPost_ret (results_none rfl _ _ _) rfl ?_
          exact ⟨rfl, ⟨B.take e, B.drop e, (List.take_append_drop _ _).symm, HB1.out, HB2.out, by simpa [List.append_assoc] using hrow2.out⟩, hgr2.out⟩

end Go.Proofs.Ytmlicipdkbeihac
