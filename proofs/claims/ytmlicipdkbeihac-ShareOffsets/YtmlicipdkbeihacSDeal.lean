/-
  share.dealOut.
-/
import Derived.Test.YtmlicipdkbeihacSOrder
import Derived.Test.YtmlicipdkbeihacSSort
namespace Go.Proofs.Ytmlicipdkbeihac
open Go.RowKit Go.Sort
set_option linter.unusedVariables false

/-- Numbers g of 0 up to n in memory, which may be written. -/
def FRow (W : World) (blk off n : Nat) (g : Nat → Int) : Prop := blk < W.heap.size ∧ ∀ j, j < n → W.cell? ⟨blk, off + j, none⟩ = some (.int .i64 (g j)) ∧ W.frozen? ⟨blk, off + j, none⟩ = false
def upd (g : Nat → Int) (i : Nat) (y : Int) : Nat → Int := fun k => if k = i then y else g k
theorem FRow.set {W : World} {blk off n : Nat} {g : Nat → Int} (h : FRow W blk off n g) (i : Nat) (y : Int) (hi : i < n) : FRow (W.setCell ⟨blk, off + i, none⟩ (.int .i64 y)) blk off n (upd g i y) := by
  refine ⟨by simpa using h.1, fun k hk => ?_⟩
  simp only [World.frozen?_setCell]
  refine ⟨?_, (h.2 k hk).2⟩
  rw [set_at _ _ _ _ _ ⟨_, (h.2 i hi).1⟩]
  unfold upd
  by_cases e : k = i
  · rw [if_pos e, if_pos (by omega)]
  · rw [if_neg e, if_neg (by omega)]; exact (h.2 k hk).1
theorem FRow.other {W : World} {blk off n : Nat} {g : Nat → Int} (h : FRow W blk off n g) (b o : Nat) (v : Value) (hb : b ≠ blk) : FRow (W.setCell ⟨b, o, none⟩ v) blk off n g := by
  refine ⟨by simpa using h.1, fun k hk => ?_⟩
  simp only [World.frozen?_setCell]
  refine ⟨?_, (h.2 k hk).2⟩
  rw [World.cell?_setCell_other _ _ _ _ (fun e => hb (by injection e with e1 e2)), (h.2 k hk).1]
theorem FRow.congr {W : World} {blk off n : Nat} {g g' : Nat → Int} (h : FRow W blk off n g) (e : ∀ j, j < n → g j = g' j) : FRow W blk off n g' :=
  ⟨h.1, fun j hj => by rw [← e j hj]; exact h.2 j hj⟩
theorem FRow.below {A B : World} {blk off n : Nat} {g : Nat → Int} (h : FRow A blk off n g) (hb : Below A.heap.size A B) : FRow B blk off n g :=
  ⟨Nat.lt_of_lt_of_le h.1 hb.size, fun j hj => ⟨(hb.cell (p := ⟨blk, off + j, none⟩) h.1).trans (h.2 j hj).1, (hb.frozen (p := ⟨blk, off + j, none⟩) h.1).trans (h.2 j hj).2⟩⟩
theorem grown_frozen {A B : World} {r b o : Nat} (hb : A.grownBy B (some r)) (hl : b < A.heap.size) (hn : b ≠ r) : B.frozen? ⟨b, o, none⟩ = A.frozen? ⟨b, o, none⟩ := by
  unfold World.frozen?
  rw [hb.block b hl (fun e => hn (by injection e))]
theorem FRow.grown {A B : World} {blk off n r : Nat} {g : Nat → Int} (h : FRow A blk off n g) (hb : A.grownBy B (some r)) (hn : blk ≠ r) : FRow B blk off n g :=
  ⟨Nat.lt_of_lt_of_le h.1 hb.size, fun j hj => ⟨hb.cell (h.2 j hj).1 (by simpa using hn), (grown_frozen hb h.1 hn).trans (h.2 j hj).2⟩⟩
theorem WRow.other {W : World} {blk off n : Nat} {a b c : Nat → Int} (h : WRow W blk off n a b c) (r o : Nat) (v : Value) (hb : r ≠ blk) : WRow (W.setCell ⟨r, o, none⟩ v) blk off n a b c := by
  have k : ∀ p, (W.setCell ⟨r, o, none⟩ v).cell? ⟨blk, p, none⟩ = W.cell? ⟨blk, p, none⟩ := fun p => World.cell?_setCell_other _ _ _ _ (fun e => hb (by injection e with e1 e2))
  refine ⟨by simpa using h.1, fun j hj => by rw [k, k, k]; exact h.2 j hj⟩
theorem IRow.other {W : World} {blk off : Nat} {d : List Int} (h : IRow W blk off d) (b o : Nat) (v : Value) (hb : b ≠ blk) : IRow (W.setCell ⟨b, o, none⟩ v) blk off d := by
  refine ⟨by simpa using h.1, fun k hk => ?_⟩
  simp only [World.frozen?_setCell]
  refine ⟨?_, (h.2 k hk).2⟩
  rw [World.cell?_setCell_other _ _ _ _ (fun e => hb (by injection e with e1 e2)), (h.2 k hk).1]

theorem sorted_nums {Q : List Nat} (hq : Q.Nodup) : ∃ A : List Nat, ((nums Q).mergeSort fun x y => decide (x ≤ y)) = nums A ∧ A.Perm Q ∧ A.Pairwise (· < ·) := by
  obtain ⟨A, hA, hp⟩ := nums_perm (List.mergeSort_perm (nums Q) fun x y => decide (x ≤ y))
  refine ⟨A, hA, hp, ?_⟩
  have hs : (nums A).Pairwise (fun x y => decide (x ≤ y) = true) := by
    rw [← hA]
    exact List.pairwise_mergeSort (fun a b c h1 h2 => by simp at *; omega) (fun a b => by simp; omega) _
  unfold nums at hs
  rw [List.pairwise_map] at hs
  have hn : A.Nodup := hp.nodup_iff.2 hq
  refine (hs.and hn).imp fun h => ?_
  have h1 := h.1
  have h2 := h.2
  simp at h1
  omega

/-- While the whole parts are given to the first k of A: lengths, fractions, open ones, wants. -/
structure DSt (w wr : World) (n lb lo wb wo ob oo B fb : Nat) (Mn Mx Wt g : Nat → Int) (A : List Nat) (L V : Int) (k : Nat) : Prop where
  len : FRow wr lb lo n (fun j => if j ∈ A.take k then g j + L * Wt j / V else g j)
  frac : FRow wr fb 0 n (fun j => if j ∈ A.take k then L * Wt j % V else 0)
  open_ : IRow wr ob oo (nums A)
  want : WRow wr wb wo n Mn Mx Wt
  box : wr.cell? ⟨fb + 1, 0, none⟩ = some (.slice (some ⟨fb, 0, none⟩) n n)
  size : fb + 1 < wr.heap.size
  bel : Below B w wr

theorem nums_at {A : List Nat} {k : Nat} (hk : k < A.length) : (nums A)[k]?.getD 0 = ((A[k]?.getD 0 : Nat) : Int) := by
  simp [nums, hk]
theorem takeN_next (A : List Nat) (k : Nat) (hk : k < A.length) : A.take (k + 1) = A.take k ++ [A[k]?.getD 0] := by
  rw [List.take_succ_eq_append_getElem hk, List.getElem?_eq_getElem hk]; rfl
theorem atN_mem {A : List Nat} {k : Nat} (hk : k < A.length) : A[k]?.getD 0 ∈ A := by
  rw [List.getElem?_eq_getElem hk]; exact List.getElem_mem hk
theorem atN_notin {A : List Nat} {k : Nat} (hA : A.Nodup) (hk : k < A.length) : A[k]?.getD 0 ∉ A.take k := by
  have h := hA.sublist (List.take_sublist (k + 1) A)
  rw [takeN_next A k hk, List.nodup_append] at h
  exact fun hm => h.2.2 _ hm _ (by simp) rfl

theorem DSt.next {w wr : World} {n lb lo wb wo ob oo B fb : Nat} {Mn Mx Wt g : Nat → Int} {A : List Nat} {L V : Int} {k : Nat} (h : DSt w wr n lb lo wb wo ob oo B fb Mn Mx Wt g A L V k) (hA : A.Nodup) (hk : k < A.length) (i : Nat) (hi : A[k]?.getD 0 = i) (hin : i < n) (h1 : lb ≠ ob) (h2 : lb ≠ wb) (h3 : lb < fb) (h4 : ob < fb) (h5 : wb < fb) (hB1 : B ≤ lb) (hB2 : B ≤ fb) :
    DSt w ((wr.setCell ⟨lb, lo + i, none⟩ (.int .i64 (g i + L * Wt i / V))).setCell ⟨fb, 0 + i, none⟩ (.int .i64 (L * Wt i % V))) n lb lo wb wo ob oo B fb Mn Mx Wt g A L V (k + 1) := by
  have ht := takeN_next A k hk
  have hni := atN_notin hA hk
  rw [hi] at ht hni
  have hm : ∀ j, j ∈ A.take (k + 1) ↔ j ∈ A.take k ∨ j = i := fun j => by rw [ht]; simp
  refine ⟨?_, ?_, ?_, ?_, ?_, ?_, ?_⟩
  · refine ((h.len.set i (g i + L * Wt i / V) hin).other _ _ _ (by omega)).congr fun j hj => ?_
    unfold upd
    by_cases e : j = i
    · subst e; rw [if_pos rfl, if_pos ((hm j).2 (.inr rfl))]
    · rw [if_neg e]
      dsimp only
      by_cases e2 : j ∈ A.take k
      · rw [if_pos e2, if_pos ((hm j).2 (.inl e2))]
      · rw [if_neg e2, if_neg (fun h => by rcases (hm j).1 h with h | h; exact e2 h; exact e h)]
  · refine ((h.frac.other lb (lo + i) (.int .i64 (g i + L * Wt i / V)) (by omega)).set i _ hin).congr fun j hj => ?_
    unfold upd
    by_cases e : j = i
    · subst e; rw [if_pos rfl, if_pos ((hm j).2 (.inr rfl))]
    · rw [if_neg e]
      dsimp only
      by_cases e2 : j ∈ A.take k
      · rw [if_pos e2, if_pos ((hm j).2 (.inl e2))]
      · rw [if_neg e2, if_neg (fun h => by rcases (hm j).1 h with h | h; exact e2 h; exact e h)]
  · exact (h.open_.other _ _ _ h1).other _ _ _ (by omega)
  · exact (h.want.other _ _ _ h2).other _ _ _ (by omega)
  · rw [World.cell?_setCell_other _ _ _ _ (fun e => by injection e with e1 e2; omega), World.cell?_setCell_other _ _ _ _ (fun e => by injection e with e1 e2; omega)]
    exact h.box
  · simpa using h.size
  · exact (h.bel.setCell hB1 _).setCell hB2 _

theorem DSt.below {w W W' : World} {n lb lo wb wo ob oo B fb : Nat} {Mn Mx Wt g : Nat → Int} {A : List Nat} {L V : Int} {k : Nat} (h : DSt w W n lb lo wb wo ob oo B fb Mn Mx Wt g A L V k) (hb : Below W.heap.size W W') (hB : B ≤ fb) : DSt w W' n lb lo wb wo ob oo B fb Mn Mx Wt g A L V k :=
  ⟨h.len.below hb, h.frac.below hb, h.open_.below hb, h.want.below hb, (hb.cell (p := ⟨fb + 1, 0, none⟩) h.size).trans h.box, Nat.lt_of_lt_of_le h.size hb.size, h.bel.trans (hb.mono (by have := h.size; omega))⟩

theorem sumL_take {f : Nat → Int} {A : List Nat} (h : ∀ j ∈ A, 0 ≤ f j) (k : Nat) : sumL f (A.take k) ≤ sumL f A := by
  have e : sumL f A = sumL f (A.take k) + sumL f (A.drop k) := by rw [← sumL_append, List.take_append_drop]
  have : 0 ≤ sumL f (A.drop k) := sumL_nonneg fun j hj => h j (List.mem_of_mem_drop hj)
  omega

/-- While one more each is given to the first k of S. -/
structure ESt (w wr : World) (n lb lo ob oo B : Nat) (h : Nat → Int) (S : List Nat) (k : Nat) : Prop where
  len : FRow wr lb lo n (fun j => if j ∈ S.take k then h j + 1 else h j)
  open_ : IRow wr ob oo (nums S)
  bel : Below B w wr
theorem ESt.next {w wr : World} {n lb lo ob oo B : Nat} {h : Nat → Int} {S : List Nat} {k : Nat} (H : ESt w wr n lb lo ob oo B h S k) (hS : S.Nodup) (hk : k < S.length) (i : Nat) (hi : S[k]?.getD 0 = i) (hin : i < n) (h1 : lb ≠ ob) (hB1 : B ≤ lb) :
    ESt w (wr.setCell ⟨lb, lo + i, none⟩ (.int .i64 (h i + 1))) n lb lo ob oo B h S (k + 1) := by
  have ht := takeN_next S k hk
  have hni := atN_notin hS hk
  rw [hi] at ht hni
  have hm : ∀ j, j ∈ S.take (k + 1) ↔ j ∈ S.take k ∨ j = i := fun j => by rw [ht]; simp
  refine ⟨?_, H.open_.other _ _ _ h1, H.bel.setCell hB1 _⟩
  refine (H.len.set i (h i + 1) hin).congr fun j hj => ?_
  unfold upd
  by_cases e : j = i
  · subst e; rw [if_pos rfl, if_pos ((hm j).2 (.inr rfl))]
  · rw [if_neg e]
    dsimp only
    by_cases e2 : j ∈ S.take k
    · rw [if_pos e2, if_pos ((hm j).2 (.inl e2))]
    · rw [if_neg e2, if_neg (fun h => by rcases (hm j).1 h with h | h; exact e2 h; exact e h)]

theorem info3row : (Try.prog.info? 3).map (fun i => (i.zero, i.size, i.bytes)) = some (some (.int .i64 0), 1, 8) := by kernel_rfl

set_option maxRecDepth 100000 in
set_option maxHeartbeats 4000000 in
theorem dealOut_any (n lb lo lc wb wo wc ob oo oc B nq : Nat) (Mn Mx Wt g : Nat → Int) (Q : List Nat) (L V : Int) (w : World) (hl : FRow w lb lo n g) (hw : WRow w wb wo n Mn Mx Wt) (ho : IRow w ob oo (nums Q))
    (h1 : lb ≠ ob) (h2 : lb ≠ wb) (h3 : wb ≠ ob) (hB1 : B ≤ lb) (hB2 : B ≤ ob) (hB3 : B ≤ w.heap.size) (hQ : Q.Nodup) (hQn : ∀ j ∈ Q, j < n) (hne : Q ≠ []) (hnq : Q.length = nq) (hqn1 : nq ≤ 1073741824) (hqc : nq ≤ oc) (hoc : oc ≤ maxLen)
    (hn : n ≤ 1073741824) (hL : 0 ≤ L ∧ L ≤ 1073741824) (hV : V = sumL Wt Q) (hV1 : 0 < V ∧ V ≤ 1152921504606846976) (hWt : ∀ j, 0 ≤ Wt j ∧ Wt j ≤ 1073741824) (hg : ∀ j, 0 ≤ g j ∧ g j ≤ 1073741824) :
    Calls Try.prog 24 #[.slice (some ⟨lb, lo, none⟩) n lc, .slice (some ⟨wb, wo, none⟩) n wc, .slice (some ⟨ob, oo, none⟩) nq oc, .int .i64 L, .int .i64 V] w fun e w' => e = .returned (.tuple #[]) ∧
      ∃ (S : List Nat) (m : Nat), S.Perm Q ∧ S.Pairwise (fun i k => L * Wt k % V < L * Wt i % V ∨ (L * Wt i % V = L * Wt k % V ∧ i < k)) ∧ (m : Int) = L - sumL (fun j => L * Wt j / V) S ∧
        FRow w' lb lo n (fun j => if j ∈ S then g j + L * Wt j / V + (if j ∈ S.take m then 1 else 0) else g j) ∧ Below B w w' := by
  have hql := hnq
  have CS : Hid (Calls Try.prog 30 #[.slice (some ⟨ob, oo, none⟩) nq oc] w fun e w' => e = .returned (.tuple #[]) ∧ IRow w' ob oo ((nums Q).mergeSort fun x y => decide (x ≤ y)) ∧ w.grownBy w' (some ob)) :=
    slicesSort_any (nums Q) ob oo oc nq w ho (by rw [nums_len]; exact hnq) (by omega)
  have HL : Hid (FRow w lb lo n g) := hl
  have HW : Hid (WRow w wb wo n Mn Mx Wt) := hw
  have HQN : Hid (∀ j ∈ Q, j < n) := hQn
  have HQ : Hid Q.Nodup := hQ
  have HV : Hid (V = sumL Wt Q) := hV
  have HWT : Hid (∀ j, 0 ≤ Wt j ∧ Wt j ≤ 1073741824) := hWt
  have HG : Hid (∀ j, 0 ≤ g j ∧ g j ≤ 1073741824) := hg
  have HNQ : Hid (Q.length = nq) := hnq
  have hL1 := hL.1
  have hL2 := hL.2
  have hV2 := hV1.1
  have hV3 := hV1.2
  have hzl := hl.1
  have hzw := hw.1
  have hzo := ho.1
  have hmk := run_make_row' (P := Try.prog) 25 3 (.int .i64 0) 8 Try.underlying25 info3row rfl .i64 .i64 n (by omega) (by omega)
  clear hl hw ho hQn hQ hV hWt hg hnq hql hL hV1
  go_enter Try.func24, Try.ntmps24
  go_wp2_with fail
  refine CS.out.mono ?_
  rintro e w1 ⟨rfl, hr1, hg1⟩
  obtain ⟨A, hA, hAp, hAs⟩ := sorted_nums HQ.out
  rw [hA] at hr1
  have hz1 := hg1.size
  have HR1 : Hid (IRow w1 ob oo (nums A)) := hr1
  have HL1 : Hid (FRow w1 lb lo n g) := HL.out.grown hg1 h1
  have HW1 : Hid (WRow w1 wb wo n Mn Mx Wt) := HW.out.grown hg1 h3
  have HB1 : Hid (Below B w w1) := (Below.refl B w).grown hg1 hB3 (fun q hq => by injection hq with hq; omega)
  have HAp : Hid (A.Perm Q) := hAp
  have HAs : Hid (A.Pairwise (· < ·)) := hAs
  clear hA hr1 hg1 CS HL HW hAp hAs
  go_wp2
  obtain ⟨fb, hfb⟩ : ∃ fb, w1.heap.size = fb := ⟨_, rfl⟩
  rw [hfb]
  have D0 : Hid (DSt w ((w1.alloc (.cells (madeCells #[.int .i64 0] n) 3)).alloc (.cells #[.slice (some ⟨fb, 0, none⟩) n n] 25)) n lb lo wb wo ob oo B fb Mn Mx Wt g A L V 0) := by
    have b1 : Below w1.heap.size w1 ((w1.alloc (.cells (madeCells #[.int .i64 0] n) 3)).alloc (.cells #[.slice (some ⟨fb, 0, none⟩) n n] 25)) := ((Below.refl _ w1).alloc (Nat.le_refl _) _).alloc (by simp) _
    refine ⟨(HL1.out.below b1).congr fun j _ => by simp, ?_, HR1.out.below b1, HW1.out.below b1, ?_, by simp; omega, HB1.out.trans (b1.mono (by omega))⟩
    · refine ⟨by simp; omega, fun j hj => ⟨?_, ?_⟩⟩
      · rw [World.cell?_alloc_past _ _ _ (by simp; omega), World.cell?_alloc_at _ _ _ _ hfb.symm]
        simp [madeCells, hj, Nat.mod_one]
      · rw [World.frozen?_alloc_past _ _ _ (by simp; omega), World.frozen?_alloc_at _ _ _ _ hfb.symm]
    · rw [World.cell?_alloc_at _ _ _ _ (by simp; omega)]; rfl
  have hlb : lb < fb := by omega
  have hwb : wb < fb := by omega
  have hob : ob < fb := by omega
  have HAl : Hid (A.length = nq) := HAp.out.length_eq.trans HNQ.out
  have HAn : Hid A.Nodup := HAp.out.nodup_iff.2 HQ.out
  have HVA : Hid (V = sumL Wt A) := HV.out.trans (sumL_perm HAp.out.symm)
  have hBf : B ≤ fb := by omega
  clear HL1 HW1 HR1 HB1 hfb hmk
  go_loopw [10, 25] (fun ms i wr => ∃ (k : Nat) (mi : Int), ms = .int .i64 mi ∧ i = .int .i64 k ∧ k ≤ nq ∧ 0 ≤ mi ∧ mi ≤ L ∧ Hid (mi = L - sumL (fun j => L * Wt j / V) (A.take k)) ∧ Hid (DSt w wr n lb lo wb wo ob oo B fb Mn Mx Wt g A L V k)) (fun _ i _ => nq - (intOf i).toNat)
  case atStart => exact ⟨0, L, rfl, rfl, Nat.zero_le _, by omega, by omega, by simp [Hid, sumL], D0.out⟩
  case round =>
    obtain ⟨k, mi, rfl, rfl, hk, hm1, hm2, HM, HD⟩ := hrel
    by_cases hlt : k < nq
    · have hlt' : (k : Int) < (nq : Int) := by omega
      have hd := HD.out
      have hkA : k < A.length := by rw [HAl.out]; exact hlt
      obtain ⟨i, hi⟩ : ∃ i, A[k]?.getD 0 = i := ⟨_, rfl⟩
      have hin : i < n := HQN.out i (HAp.out.mem_iff.1 (by rw [← hi]; exact atN_mem hkA))
      have hin' : (i : Int) < (n : Int) := by omega
      obtain ⟨x, hx⟩ : ∃ x, Wt i = x := ⟨_, rfl⟩
      obtain ⟨gi, hgi⟩ : ∃ x, g i = x := ⟨_, rfl⟩
      have hxb := HWT.out i
      have hgb := HG.out i
      rw [hx] at hxb
      rw [hgi] at hgb
      have co : wr.cell? ⟨ob, oo + k, none⟩ = some (.int .i64 (i : Int)) := by
        rw [(hd.open_.2 k (by rw [nums_len]; exact hkA)).1, nums_at hkA, hi]
      have cw : wr.cell? ⟨wb, wo + i * 3 + 2, none⟩ = some (.int .i64 x) := by rw [(hd.want.2 i hin).2.2, hx]
      have hnot : i ∉ A.take k := by rw [← hi]; exact atN_notin HAn.out hkA
      have cl1 : wr.cell? ⟨lb, lo + i, none⟩ = some (.int .i64 gi) := by rw [(hd.len.2 i hin).1]; dsimp only; rw [if_neg hnot, hgi]
      have fl1 := (hd.len.2 i hin).2
      have cf1 : wr.cell? ⟨fb, i, none⟩ = some (.int .i64 0) := by have := (hd.frac.2 i hin).1; dsimp only at this; rw [if_neg hnot, Nat.zero_add] at this; exact this
      have ff1 : wr.frozen? ⟨fb, i, none⟩ = false := by have := (hd.frac.2 i hin).2; rw [Nat.zero_add] at this; exact this
      have cb := hd.box
      have hsz := hd.size
      obtain ⟨p, hp⟩ : ∃ p, L * x = p := ⟨_, rfl⟩
      have hp0 : 0 ≤ p := by rw [← hp]; exact Int.mul_nonneg hL1 hxb.1
      have hp1 : p ≤ 1152921504606846976 := by rw [← hp]; exact Int.le_trans (Int.mul_le_mul hL2 hxb.2 hxb.1 (by omega)) (by decide)
      have hx1 := hxb.1
      have hx2 := hxb.2
      have hg1 := hgb.1
      have hg2 := hgb.2
      obtain ⟨q, hq⟩ : ∃ q, p / V = q := ⟨_, rfl⟩
      obtain ⟨r, hr⟩ : ∃ r, p % V = r := ⟨_, rfl⟩
      have hq0 : 0 ≤ q := by rw [← hq]; exact Int.ediv_nonneg hp0 (by omega)
      have hq1 : q ≤ p := by rw [← hq]; exact Int.ediv_le_self _ hp0
      have hr0 : 0 ≤ r := by rw [← hr]; exact Int.emod_nonneg _ (by omega)
      have hr1 : r < V := by rw [← hr]; exact Int.emod_lt_of_pos _ hV2
      have htd : p.tdiv V = q := by rw [Int.tdiv_eq_ediv_of_nonneg hp0, hq]
      have htm : p.tmod V = r := by rw [Int.tmod_eq_emod_of_nonneg hp0, hr]
      have HNx : Hid (DSt w ((wr.setCell ⟨lb, lo + i, none⟩ (.int .i64 (gi + q))).setCell ⟨fb, 0 + i, none⟩ (.int .i64 r)) n lb lo wb wo ob oo B fb Mn Mx Wt g A L V (k + 1)) := by
        have := HD.out.next HAn.out hkA i hi hin h1 h2 hlb hob hwb hB1 hBf
        rw [hgi, hx, hp, hq, hr] at this; exact this
      have HMx : Hid (mi - q = L - sumL (fun j => L * Wt j / V) (A.take (k + 1))) := by
        show _ = _
        rw [takeN_next A k hkA, sumL_snoc, hi]
        have := HM.out
        rw [hx, hp, hq]; omega
      have hmq : 0 ≤ mi - q := by
        rw [HMx.out]
        have t1 := sumL_take (f := fun j => L * Wt j / V) (A := A) (fun j _ => Int.ediv_nonneg (Int.mul_nonneg hL1 (HWT.out j).1) (by omega)) (k + 1)
        have t2 := (missing_bd (L := L) HVA.out hV2).1
        omega
      have w1 : IntKind.i64.wrap (gi + q) = gi + q := IntWalk.i64_in _ ⟨by omega, by omega⟩
      have w2 : IntKind.i64.wrap q = q := IntWalk.i64_in _ ⟨by omega, by omega⟩
      have w3 : IntKind.i64.wrap r = r := IntWalk.i64_in _ ⟨by omega, by omega⟩
      have w4 : IntKind.i64.wrap p = p := IntWalk.i64_in _ ⟨by omega, by omega⟩
      have hVne : V ≠ 0 := by omega
      clear hd hxb hgb hnot hx hgi hi HM HD
      go_wp2_with fail
      go_big_region
      go_wp2_with fail
      go_big_region
      go_wp2
      go_roundw
      case rel =>
        refine ⟨k + 1, mi - q, rfl, by go_num, by omega, by omega, by omega, HMx.out, ?_⟩
        have := HNx.out
        rw [Nat.zero_add] at this
        exact this.below ⟨rfl, rfl, rfl, by simp, fun _ _ => rfl⟩ hBf
      case measure => simp [intOf]; omega
    · have hge : ¬ (k : Int) < (nq : Int) := by omega
      obtain rfl : k = nq := by omega
      have hd := HD.out
      have htk : A.take k = A := List.take_of_length_le (by rw [HAl.out]; omega)
      obtain ⟨fr, hfr⟩ : ∃ fr : Nat → Int, (fun j => if j ∈ A.take k then L * Wt j % V else 0) = fr := ⟨_, rfl⟩
      obtain ⟨hh, hhh⟩ : ∃ hh : Nat → Int, (fun j => if j ∈ A.take k then g j + L * Wt j / V else g j) = hh := ⟨_, rfl⟩
      have hlen := hd.len
      have hfrac := hd.frac
      rw [hhh] at hlen
      rw [hfr] at hfrac
      have hF : ∀ j, j < n → ((List.range n).map fr)[j]?.getD 0 = fr j := fun j hj => by simp [hj]
      have hFl : ((List.range n).map fr).length = n := by simp
      have hsA : ∀ j ∈ A, j < n := fun j hj => HQN.out j (HAp.out.mem_iff.1 hj)
      have HS : Hid (Calls Try.prog 27 #[.slice (some ⟨ob, oo, none⟩) k oc, .func (.func 31) #[] #[.pointer (some ⟨fb + 1, 0, none⟩)]] wr fun e w' => e = .returned (.tuple #[]) ∧ Sorted wr w' ob oo (RFrac (fun x => ((List.range n).map fr)[x.toNat]?.getD 0)) [] (nums A) []) := by
        refine sortStable_any 31 #[.pointer (some ⟨fb + 1, 0, none⟩)] (enters_of Try.func31 (by kernel_rfl) rfl) (fun i k => cmpI (((List.range n).map fr)[k.toNat]?.getD 0) (((List.range n).map fr)[i.toNat]?.getD 0)) (nums A) (RFrac (fun x => ((List.range n).map fr)[x.toNat]?.getD 0)) (ord_frac _ _) wr ob oo oc ?_ (nums A) wr k (grown_refl _ _) hd.open_ (fun x hx => hx) (nums_asc HAs.out) (by rw [nums_len]; exact HAl.out) (by omega)
        refine cmpG_frac _ (fb + 1) fb 0 n ob wr (by rw [hFl]; exact hd.box) (fun j hj => ?_) _ ?_ (by omega) (by omega) (by omega)
        · rw [hFl] at hj
          rw [hF j hj]; exact (hfrac.2 j hj).1
        · intro x hx
          obtain ⟨j, rfl, hj⟩ := nums_mem hx
          exact ⟨j, rfl, by rw [hFl]; exact hsA j hj⟩
      have HFin : Hid (∀ w2, Sorted wr w2 ob oo (RFrac (fun x => ((List.range n).map fr)[x.toNat]?.getD 0)) [] (nums A) [] → ∃ S : List Nat, S.Perm A ∧ S.Pairwise (fun i k => L * Wt k % V < L * Wt i % V ∨ (L * Wt i % V = L * Wt k % V ∧ i < k)) ∧ ESt w w2 n lb lo ob oo B hh S 0 ∧ wr.heap.size ≤ w2.heap.size) := by
        rintro w2 ⟨⟨M, hp, hpw, hr2⟩, hgr⟩
        obtain ⟨S, rfl, hs⟩ := nums_perm hp
        refine ⟨S, hs, ?_, ⟨?_, by simpa using hr2, ?_⟩, hgr.size⟩
        · unfold nums at hpw
          rw [List.pairwise_map] at hpw
          refine List.Pairwise.imp_of_mem ?_ hpw
          intro i j hi hj h
          have hiA := hs.mem_iff.1 hi
          have hjA := hs.mem_iff.1 hj
          simp only [RFrac, Int.toNat_natCast, hF i (hsA i hiA), hF j (hsA j hjA)] at h
          rw [← hfr] at h
          dsimp only at h
          rw [htk, if_pos hiA, if_pos hjA] at h
          rcases h with h | ⟨h, h'⟩
          · exact .inl h
          · exact .inr ⟨h, by omega⟩
        · exact (hlen.grown hgr h1).congr fun j _ => by simp
        · exact hd.bel.grown hgr (by have := hd.size; omega) (fun q hq => by injection hq with hq; omega)
      obtain ⟨m, hm⟩ : ∃ m : Nat, mi = (m : Int) := ⟨mi.toNat, by omega⟩
      subst hm
      have hmq : (m : Int) < (k : Int) := by
        have := (missing_bd (L := L) HVA.out hV2).2
        have e := HM.out
        rw [htk] at e
        rw [← e, HAl.out] at this; omega
      have HMA : Hid ((m : Int) = L - sumL (fun j => L * Wt j / V) A) := by have := HM.out; rw [htk] at this; exact this
      have HHH : Hid (∀ j, hh j = if j ∈ A then g j + L * Wt j / V else g j) := fun j => by rw [← hhh]; dsimp only; rw [htk]
      have hhb : Hid (∀ j, 0 ≤ hh j ∧ hh j ≤ 2305843009213693952) := fun j => by
        rw [HHH.out j]
        have a1 := HG.out j
        have a2 := HWT.out j
        have a3 : 0 ≤ L * Wt j := Int.mul_nonneg hL1 a2.1
        have a4 : L * Wt j ≤ 1152921504606846976 := Int.le_trans (Int.mul_le_mul hL2 a2.2 a2.1 (by omega)) (by decide)
        have a5 : 0 ≤ L * Wt j / V := Int.ediv_nonneg a3 (by omega)
        have a6 : L * Wt j / V ≤ L * Wt j := Int.ediv_le_self _ a3
        split <;> omega
      have hsz := hd.size
      have hmc : (m : Int) ≤ (oc : Int) := by omega
      clear hd hlen hfrac hhh hfr htk hF hFl HM HD
      go_wp2_with fail
      refine HS.out.mono ?_
      rintro e w2 ⟨rfl, hS⟩
      obtain ⟨S, hS1, hS2, hS3, hS4⟩ := HFin.out w2 hS
      have HSp : Hid (S.Perm A) := hS1
      have HSs : Hid (S.Pairwise (fun i k => L * Wt k % V < L * Wt i % V ∨ (L * Wt i % V = L * Wt k % V ∧ i < k))) := hS2
      have HE : Hid (ESt w w2 n lb lo ob oo B hh S 0) := hS3
      clear hS hS1 hS2 hS3 HFin HS
      go_wp2
      go_loopw [64] (fun i wr => ∃ c : Nat, i = .int .i64 c ∧ c ≤ m ∧ Hid (ESt w wr n lb lo ob oo B hh S c)) (fun i _ => m - (intOf i).toNat)
      case atStart => exact ⟨0, rfl, Nat.zero_le _, HE.out⟩
      case round =>
        obtain ⟨c, rfl, hc, HEc⟩ := hrel
        have hSl : S.length = k := HSp.out.length_eq.trans HAl.out
        by_cases hlt : c < m
        · have hlt' : (c : Int) < (m : Int) := by omega
          have hd := HEc.out
          have hcS : c < S.length := by omega
          obtain ⟨i, hi⟩ : ∃ i, S[c]?.getD 0 = i := ⟨_, rfl⟩
          have hin : i < n := by have := atN_mem hcS; rw [hi] at this; exact HQN.out i (HAp.out.mem_iff.1 (HSp.out.mem_iff.1 this))
          have hin' : (i : Int) < (n : Int) := by omega
          have hSn : S.Nodup := HSp.out.nodup_iff.2 HAn.out
          have co : wr.cell? ⟨ob, oo + c, none⟩ = some (.int .i64 (i : Int)) := by
            rw [(hd.open_.2 c (by rw [nums_len]; exact hcS)).1, nums_at hcS, hi]
          obtain ⟨y, hy⟩ : ∃ y, hh i = y := ⟨_, rfl⟩
          have hyb := hhb.out i
          rw [hy] at hyb
          have hy1 := hyb.1
          have hy2 := hyb.2
          have hnot : i ∉ S.take c := by rw [← hi]; exact atN_notin hSn hcS
          have cl1 : wr.cell? ⟨lb, lo + i, none⟩ = some (.int .i64 y) := by rw [(hd.len.2 i hin).1]; dsimp only; rw [if_neg hnot, hy]
          have fl1 := (hd.len.2 i hin).2
          have HNx : Hid (ESt w (wr.setCell ⟨lb, lo + i, none⟩ (.int .i64 (y + 1))) n lb lo ob oo B hh S (c + 1)) := by
            have := hd.next hSn hcS i hi hin h1 hB1
            rw [hy] at this; exact this
          clear hd hyb hnot hi hy hSn hSl HEc
          go_wp2
          go_roundw
          case rel => exact ⟨c + 1, by go_num, by omega, HNx.out⟩
          case measure => simp [intOf]; omega
        · have hge : ¬ (c : Int) < (m : Int) := by omega
          obtain rfl : c = m := by omega
          have HZ : Hid (∃ (S : List Nat) (m : Nat), S.Perm Q ∧ S.Pairwise (fun i k => L * Wt k % V < L * Wt i % V ∨ (L * Wt i % V = L * Wt k % V ∧ i < k)) ∧ (m : Int) = L - sumL (fun j => L * Wt j / V) S ∧
              FRow wr lb lo n (fun j => if j ∈ S then g j + L * Wt j / V + (if j ∈ S.take m then 1 else 0) else g j) ∧ Below B w wr) := by
            refine ⟨S, c, HSp.out.trans HAp.out, HSs.out, HMA.out.trans (by rw [sumL_perm HSp.out]), HEc.out.len.congr fun j hj => ?_, HEc.out.bel⟩
            have hh1 := HHH.out j
            have hmem : j ∈ S ↔ j ∈ A := HSp.out.mem_iff
            by_cases e : j ∈ S
            · rw [if_pos (hmem.1 e)] at hh1
              rw [if_pos e, hh1]
              split <;> omega
            · rw [if_neg (fun h => e (hmem.2 h))] at hh1
              rw [if_neg e, if_neg (fun h => e (List.mem_of_mem_take h)), hh1]
          clear hSl HEc
          go_wp2
          go_end0
          obtain ⟨S', m', z1, z2, z3, z4, z5⟩ := HZ.out
          exact ⟨rfl, S', z1, z2, m', z3, z4, z5⟩

end Go.Proofs.Ytmlicipdkbeihac
