/-
  insertionSortCmpFunc on an ascending stretch.
-/
import Derived.Test.YtmlicipdkbeihacSSymB
import Derived.Shelf.Abstract
import Derived.Shelf.SlSortCmp.QuietGrown
namespace Go.Proofs.Ytmlicipdkbeihac
open Go.RowKit Go.Sort
set_option linter.unusedVariables false

/-- The comparison, which may draw and lay blocks of its own. -/
def CmpG (g : Nat) (lb : Array Value) (cf : Int → Int → Int) (D : List Int) (w0 : World) (blk : Nat) : Prop :=
  ∀ W, w0.grownBy W (some blk) → ∀ x ∈ D, ∀ y ∈ D, Calls Try.prog g (#[.int .i64 x, .int .i64 y] ++ lb) W fun e W' => e = .returned (.int .i64 (cf x y)) ∧ ∃ q os, W' = grow (W.drewN q) os
theorem below_grow (W : World) (q : Nat) (os : Array Obj) : Below W.heap.size W (grow (W.drewN q) os) :=
  ⟨rfl, rfl, rfl, by show _ ≤ (W.heap ++ os).size; rw [Array.size_append]; omega, fun k hk => by show (W.heap ++ os)[k]? = _; rw [Array.getElem?_append_left hk]⟩
theorem CmpG.ok {g : Nat} {lb : Array Value} {cf : Int → Int → Int} {D : List Int} {w0 : World} {blk : Nat} (h : CmpG g lb cf D w0 blk) : CmpOk g lb cf D w0 blk :=
  fun W hW x hx y hy => (h W hW x hx y hy).mono fun e W' ⟨he, q, os, hq⟩ => ⟨he, by rw [hq]; exact below_grow W q os⟩

theorem last_of (M : List Int) : M = [] ∨ ∃ M' y, M = M' ++ [y] := by
  rcases List.eq_nil_or_concat M with h | ⟨M', y, h⟩
  · exact Or.inl h
  · exact Or.inr ⟨M', y, by rw [h, List.concat_eq_append]⟩

theorem ins_perm (A M1 M2 : List Int) (k : Nat) (hk : k < A.length) (h : (M1 ++ M2).Perm (A.take k)) : (M1 ++ [A[k]?.getD 0] ++ M2).Perm (A.take (k + 1)) := by
  rw [(take_next A k hk).1]
  refine List.Perm.trans ?_ (List.Perm.append_right _ h)
  rw [List.append_assoc, List.append_assoc]
  exact List.Perm.append_left _ List.perm_append_comm

theorem ins_pair {R : Int → Int → Prop} (M1 M2 : List Int) (x : Int) (h : (M1 ++ M2).Pairwise R) (h1 : ∀ y ∈ M1, R y x) (h2 : ∀ y ∈ M2, R x y) : (M1 ++ [x] ++ M2).Pairwise R := by
  have hp := List.pairwise_append.1 h
  refine List.pairwise_append.2 ⟨List.pairwise_append.2 ⟨hp.1, List.pairwise_singleton _ _, ?_⟩, hp.2.1, ?_⟩
  · intro y hy z hz; rw [List.mem_singleton] at hz; subst hz; exact h1 y hy
  · intro y hy z hz
    rcases List.mem_append.1 hy with h3 | h3
    · exact hp.2.2 y h3 z hz
    · rw [List.mem_singleton] at h3; subst h3; exact h2 z hz

/-- What insertionSortCmpFunc leaves. -/
def Sorted (w w' : World) (blk off : Nat) (R : Int → Int → Prop) (P A S : List Int) : Prop :=
  (∃ M : List Int, M.Perm A ∧ M.Pairwise R ∧ IRow w' blk off (P ++ M ++ S)) ∧ w.grownBy w' (some blk)

set_option maxRecDepth 100000 in
set_option maxHeartbeats 16000000 in
theorem ins_any (g : Nat) (lb : Array Value) (eg : ∀ args w, (callFunc g args).run Try.prog w = .ok (.enter g args) w) (cf : Int → Int → Int) (D : List Int) (R : Int → Int → Prop) (hO : Ord cf D R) (w0 : World) (blk off cap : Nat) (hcmp : CmpG g lb cf D w0 blk) (P A S : List Int) (w : World) (n a b : Nat) (hw0 : w0.grownBy w (some blk)) (h : IRow w blk off (P ++ A ++ S)) (hAD : ∀ x ∈ A, x ∈ D) (hasc : A.Pairwise (· < ·)) (hn : (P ++ A ++ S).length = n) (hlen : n ≤ 1099511627776) (ha : P.length = a) (hb : P.length + A.length = b) :
    Calls Try.prog 36 #[.slice (some ⟨blk, off, none⟩) n cap, .int .i64 a, .int .i64 b, .func (.func g) #[] lb] w fun e w' => e = .returned (.tuple #[]) ∧ Sorted w w' blk off R P A S := by
  have HR : Hid (IRow w blk off (P ++ A ++ S)) := h
  have HO : Hid (Ord cf D R) := hO
  have HW0 : Hid (w0.grownBy w (some blk)) := hw0
  have HCM : Hid (CmpG g lb cf D w0 blk) := hcmp
  have HAD : Hid (∀ x ∈ A, x ∈ D) := hAD
  have HAS : Hid (A.Pairwise (· < ·)) := hasc
  have hmx : Try.prog.follows .mixedOrders = true := by kernel_rfl
  have hbn : b ≤ n := by rw [← hb, ← hn]; simp only [List.length_append]; omega
  have hb1 : b ≤ a + A.length := by omega
  have hb2 : a + A.length ≤ b := by omega
  have HN : Hid (P.length + A.length + S.length = n) := by show _ = _; rw [← hn]; simp only [List.length_append]
  have HA : Hid (P.length = a) := ha
  clear h hO hw0 hcmp hAD hasc hn ha hb
  go_enter Try.func36, Try.ntmps36
  go_wp2
  go_loopw [8] (fun i wr => ∃ (u k : Nat) (M : List Int), i = .int .i64 u ∧ a + k ≤ u ∧ u ≤ a + k ∧ 1 ≤ k ∧ (k ≤ A.length ∨ k = 1) ∧ Hid (M.Perm (A.take k)) ∧ Hid (M.Pairwise R) ∧ Hid (IRow wr blk off (P ++ M ++ A.drop k ++ S)) ∧ Hid (w.grownBy wr (some blk))) (fun i _ => b + 2 - (intOf i).toNat)
  case atStart =>
    refine ⟨a + 1, 1, A.take 1, by go_num, by omega, by omega, by omega, Or.inr rfl, List.Perm.refl _, ?_, ?_, grown_refl _ _⟩
    · show List.Pairwise R _
      match A with
      | [] => exact List.Pairwise.nil
      | x :: l => exact List.pairwise_singleton _ _
    · show IRow _ _ _ _
      have := HR.out
      rw [List.append_assoc P, List.take_append_drop]; exact this
  case round =>
    obtain ⟨u, k, M, rfl, hu1, hu2, hk1, hkA, HM, HMP, hrow, hgr⟩ := hrel
    by_cases hlt : k < A.length
    · have hlt' : (u : Int) < (b : Int) := by omega
      have hun : u < n := by omega
      obtain ⟨x, hx⟩ : ∃ x, A[k]?.getD 0 = x := ⟨_, rfl⟩
      have HX : Hid (A[k]?.getD 0 = x) := hx
      have HXD : Hid (x ∈ D) := by show x ∈ D; rw [← hx]; exact HAD.out _ (mem_at hlt)
      have HML : Hid (M.length = k) := by show _ = _; rw [HM.out.length_eq, List.length_take]; omega
      have HMD : Hid (∀ y ∈ M, y ∈ D ∧ y < x) := by
        intro y hy
        obtain ⟨t, ht, htl, e⟩ := mem_take_at (HM.out.mem_iff.1 hy)
        rw [← e, ← hx]
        exact ⟨HAD.out _ (mem_at htl), pair_at HAS.out ht hlt⟩
      have hrow' : Hid (IRow wr blk off (P ++ M ++ [x] ++ [] ++ (A.drop (k + 1) ++ S))) := by
        have := hrow.out
        rw [(take_next A k hlt).2, hx] at this
        show IRow _ _ _ _
        simpa [List.append_assoc] using this
      clear hx hrow
      go_wp2
      go_loopw [9] (fun j wr => ∃ (v : Nat) (M1 M2 : List Int), j = .int .i64 v ∧ a + M1.length ≤ v ∧ v ≤ a + M1.length ∧ M1.length ≤ k ∧ Hid (M = M1 ++ M2) ∧ Hid (∀ y ∈ M2, R x y) ∧ Hid (IRow wr blk off (P ++ M1 ++ [x] ++ M2 ++ (A.drop (k + 1) ++ S))) ∧ Hid (w.grownBy wr (some blk))) (fun j _ => (intOf j).toNat)
      case atStart => exact ⟨u, M, [], rfl, by rw [HML.out]; omega, by rw [HML.out]; omega, by rw [HML.out]; omega, by show _ = _; simp, (fun y hy => by cases hy), hrow'.out, hgr⟩
      case round =>
        obtain ⟨v, M1, M2, rfl, hv1, hv2, hvk, HMM, H2, hrow2, hgr2⟩ := hrel
        have HDone : Hid ((∀ y ∈ M1, R y x) → ∃ M', List.Perm M' (A.take (k + 1)) ∧ M'.Pairwise R ∧ (P ++ M1 ++ [x] ++ M2 ++ (A.drop (k + 1) ++ S)) = P ++ M' ++ A.drop (k + 1) ++ S) := by
          intro h1
          refine ⟨M1 ++ [x] ++ M2, ?_, ?_, by simp [List.append_assoc]⟩
          · have := HM.out; rw [HMM.out] at this
            have := ins_perm A M1 M2 k hlt this
            rw [HX.out] at this; exact this
          · have := HMP.out; rw [HMM.out] at this
            exact ins_pair M1 M2 x this h1 H2.out
        rcases last_of M1 with rfl | ⟨M', y, rfl⟩
        · have hva : v = a := by simp at hv1 hv2; omega
          subst hva
          obtain ⟨M', d1, d2, d3⟩ := HDone.out (fun y hy => by cases hy)
          have hrow3 : Hid (IRow wr blk off (P ++ M' ++ A.drop (k + 1) ++ S)) := by
            have := hrow2.out; rw [d3] at this; exact this
          have D1 : Hid (List.Perm M' (A.take (k + 1))) := d1
          have D2 : Hid (M'.Pairwise R) := d2
          have hgr3 : Hid (w.grownBy wr (some blk)) := hgr2.out
          have hdd : decide ((v : Int) < (v : Int)) = false := by simp
          clear d1 d2 d3 hrow2 hgr2 HDone HMM H2
          go_wp2_with fail
          go_quiet (fail)
          go_wp2
          go_roundw
          case rel => exact ⟨u + 1, k + 1, M', by go_num, by omega, by omega, by omega, Or.inl (by omega), D1, D2, hrow3.out.drewN _, grown_trans hgr3.out (grown_drewN _ _ _)⟩
          case measure => simp [intOf]; omega
        · have hMl : (M' ++ [y]).length = M'.length + 1 := by simp
          rw [hMl] at hv1 hv2 hvk
          obtain ⟨q, hq⟩ : ∃ q, a + M'.length = q := ⟨_, rfl⟩
          have hqv : q + 1 = v := by omega
          have hvi : (v : Int) - 1 = (q : Int) := by omega
          have hav : (a : Int) < (v : Int) := by omega
          have hdd : decide ((a : Int) < (v : Int)) = true := by simpa using hav
          have hvn : (v : Int) < (n : Int) := by omega
          have hqn : (q : Int) < (n : Int) := by omega
          have hwq : IntKind.i64.wrap (q : Int) = (q : Int) := IntWalk.i64_in _ ⟨by omega, by omega⟩
          have hXl : (P ++ M').length = q := by have := HA.out; rw [List.length_append]; omega
          have HYM : Hid (y ∈ M) := by show y ∈ M; rw [HMM.out]; simp
          have hdx : ((P ++ M') ++ [y] ++ [x] ++ (M2 ++ (A.drop (k + 1) ++ S)))[q]?.getD 0 = y := by
            rw [← hXl]; exact (at_two _ _ _ _).1
          have hdy : ((P ++ M') ++ [y] ++ [x] ++ (M2 ++ (A.drop (k + 1) ++ S)))[v]?.getD 0 = x := by
            rw [← hqv, ← hXl]; exact (at_two _ _ _ _).2
          have HL2 : ((P ++ M') ++ [y] ++ [x] ++ (M2 ++ (A.drop (k + 1) ++ S))).length = n := by
            have h1 := HML.out; rw [HMM.out] at h1
            have := HN.out
            simp only [List.length_append, List.length_drop, List.length_cons, List.length_nil] at *
            omega
          have hr1 : IRow wr blk off ((P ++ M') ++ [y] ++ [x] ++ (M2 ++ (A.drop (k + 1) ++ S))) := by
            have := hrow2.out; simpa [List.append_assoc] using this
          have c0 : ∀ n' os', (grow (wr.drewN n') os').cell? ⟨blk, off + q, none⟩ = some (.int .i64 y) := cell_grown hr1.1 (by rw [(hr1.2 q (by omega)).1, hdx])
          have c1 : ∀ n' os', (grow (wr.drewN n') os').cell? ⟨blk, off + v, none⟩ = some (.int .i64 x) := cell_grown hr1.1 (by rw [(hr1.2 v (by omega)).1, hdy])
          have hcg : ∀ n' os', Calls Try.prog g (#[.int .i64 x, .int .i64 y] ++ lb) (grow (wr.drewN n') os') fun e w' => e = .returned (.int .i64 (cf x y)) ∧ ∃ q os'', w' = grow ((grow (wr.drewN n') os').drewN q) os'' := fun n' os' =>
            HCM.out _ (grown_trans (grown_trans HW0.out hgr2.out) (grown_below (below_grow wr n' os'))) x HXD.out y (HMD.out y HYM.out).1
          obtain ⟨z, hz⟩ : ∃ z, cf x y = z := ⟨_, rfl⟩
          have HZ : Hid (cf x y = z) := hz
          have HR1 : Hid (IRow wr blk off ((P ++ M') ++ [y] ++ [x] ++ (M2 ++ (A.drop (k + 1) ++ S)))) := hr1
          have HQV : Hid (q + 1 = v ∧ (P ++ M').length = q) := ⟨hqv, hXl⟩
          have HQ : Hid (a + M'.length = q) := hq
          have HDX : Hid (((P ++ M') ++ [y] ++ [x] ++ (M2 ++ (A.drop (k + 1) ++ S)))[q]?.getD 0 = y) := hdx
          have HDY : Hid (((P ++ M') ++ [y] ++ [x] ++ (M2 ++ (A.drop (k + 1) ++ S)))[v]?.getD 0 = x) := hdy
          have HLL : Hid (((P ++ M') ++ [y] ++ [x] ++ (M2 ++ (A.drop (k + 1) ++ S))).length = n) := HL2
          rw [hz] at hcg
          clear hq hz hr1 hXl hqv hdx hdy HL2 hMl hrow2
          go_wp2_with fail
          go_quiet_grown (first | (go_at_fn g; refine Calls.grown_of (hcg _ _)))
          have HR2 : Hid (IRow (grow (wr.drewN nq) osq) blk off ((P ++ M') ++ [y] ++ [x] ++ (M2 ++ (A.drop (k + 1) ++ S)))) := HR1.out.below (below_grow _ _ _)
          have hgr3 : Hid (w.grownBy (grow (wr.drewN nq) osq) (some blk)) := grown_trans hgr2.out (grown_below (below_grow _ _ _))
          clear HR1 hgr2 c0 c1 hcg
          generalize grow (wr.drewN nq) osq = wc at HR2 hgr3 ⊢
          clear nq osq
          by_cases hz0 : z < 0
          · have hd : decide (z < 0) = true := by simp [hz0]
            rw [hd]
            have hyx : R x y := HO.out.lt x HXD.out y (HMD.out y HYM.out).1 (by rw [HZ.out]; exact hz0)
            have H2' : Hid (∀ y' ∈ y :: M2, R x y') := by
              intro y' hy'
              rcases List.mem_cons.1 hy' with rfl | h3
              · exact hyx
              · exact H2.out y' h3
            have HMM' : Hid (M = M' ++ (y :: M2)) := by show _ = _; rw [HMM.out]; simp
            have hqn' : q < n := by omega
            have hvn' : v < n := by omega
            have c0 : wc.cell? ⟨blk, off + q, none⟩ = some (.int .i64 y) := by rw [(HR2.out.2 q (by rw [HLL.out]; omega)).1, HDX.out]
            have f0 : wc.frozen? ⟨blk, off + q, none⟩ = false := (HR2.out.2 q (by rw [HLL.out]; omega)).2
            have c1 : wc.cell? ⟨blk, off + v, none⟩ = some (.int .i64 x) := by rw [(HR2.out.2 v (by rw [HLL.out]; omega)).1, HDY.out]
            have f1 : wc.frozen? ⟨blk, off + v, none⟩ = false := (HR2.out.2 v (by rw [HLL.out]; omega)).2
            have HNew : Hid (IRow ((wc.setCell ⟨blk, off + v, none⟩ (.int .i64 y)).setCell ⟨blk, off + q, none⟩ (.int .i64 x)) blk off (P ++ M' ++ [x] ++ (y :: M2) ++ (A.drop (k + 1) ++ S))) := by
              have := irow_set2 HR2.out v q (by rw [HLL.out]; omega) (by rw [HLL.out]; omega)
              rw [HDX.out, HDY.out, swp_comm _ _ _ (by rw [HLL.out]; omega) (by rw [HLL.out]; omega)] at this
              have hs2 := swp_next (P ++ M') y x (M2 ++ (A.drop (k + 1) ++ S))
              rw [HQV.out.2, HQV.out.1] at hs2
              rw [hs2] at this
              show IRow _ _ _ _
              simpa [List.append_assoc] using this
            have HG : Hid (w.grownBy ((wc.setCell ⟨blk, off + v, none⟩ (.int .i64 y)).setCell ⟨blk, off + q, none⟩ (.int .i64 x)) (some blk)) :=
              grown_trans hgr3.out (grown_trans (grown_set _ _ _ _) (grown_set _ _ _ _))
            have hqv : q < v := by have := HQV.out.1; omega
            clear HR2 hgr3 hyx HDone
            go_wp2
            go_big_region
            go_wp2
            go_roundw
            case rel => exact ⟨q, M', y :: M2, rfl, by have := HQ.out; omega, by have := HQ.out; omega, by omega, HMM', H2', HNew.out, grown_drew HG.out⟩
            case measure => simp [intOf]; omega
          · have hd : decide (z < 0) = false := by simp [hz0]
            rw [hd]
            have hyx : R y x := HO.out.ge y (HMD.out y HYM.out).1 x HXD.out (HMD.out y HYM.out).2 (by rw [HZ.out]; exact hz0)
            obtain ⟨M3, d1, d2, d3⟩ := HDone.out (by
              intro y' hy'
              rcases List.mem_append.1 hy' with h3 | h3
              · have hp := HMP.out
                rw [HMM.out] at hp
                have h4 := (List.pairwise_append.1 (List.pairwise_append.1 hp).1).2.2 y' h3 y (by simp)
                exact HO.out.trans y' (HMD.out y' (by rw [HMM.out]; simp [h3])).1 y (HMD.out y HYM.out).1 x HXD.out h4 hyx
              · rw [List.mem_singleton] at h3; subst h3; exact hyx)
            have hrow3 : Hid (IRow wc blk off (P ++ M3 ++ A.drop (k + 1) ++ S)) := by
              have := HR2.out
              show IRow _ _ _ _
              rw [← d3]; simpa [List.append_assoc] using this
            have D1 : Hid (List.Perm M3 (A.take (k + 1))) := d1
            have D2 : Hid (M3.Pairwise R) := d2
            clear d1 d2 d3 HR2 HDone hyx
            go_wp2
            go_roundw
            case rel => exact ⟨u + 1, k + 1, M3, by go_num, by omega, by omega, by omega, Or.inl (by omega), D1, D2, hrow3, hgr3⟩
            case measure => simp [intOf]; omega
    · have hlt' : ¬ (u : Int) < (b : Int) := by omega
      have hrow3 : Hid (IRow wr blk off (P ++ M ++ S)) := by
        have := hrow.out; rw [List.drop_eq_nil_of_le (by omega)] at this
        show IRow _ _ _ _
        simpa [List.append_assoc] using this
      have HM' : Hid (M.Perm A) := by
        have := HM.out; rw [List.take_of_length_le (by omega)] at this; exact this
      clear hrow HM
      go_wp2
      go_end0
      exact ⟨rfl, ⟨M, HM'.out, HMP.out, hrow3.out⟩, hgr.out⟩

end Go.Proofs.Ytmlicipdkbeihac
