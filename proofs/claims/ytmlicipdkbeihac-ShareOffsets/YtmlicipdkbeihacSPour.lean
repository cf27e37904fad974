/-
  share.pour.
-/
import Derived.Test.YtmlicipdkbeihacSDeal
namespace Go.Proofs.Ytmlicipdkbeihac
open Go.RowKit Go.Sort
set_option linter.unusedVariables false

/-- While the first c of Q are filled. -/
structure PSt (w wr : World) (n lb lo wb wo g B : Nat) (Mn Mx Wt : Nat → Int) (Q : List Nat) (c : Nat) : Prop where
  len : FRow wr lb lo n (fun j => if j ∈ Q.take c then Mx j else Mn j)
  want : WRow wr wb wo n Mn Mx Wt
  open_ : IRow wr g 0 (nums Q)
  bel : Below B w wr
theorem PSt.below {w W W' : World} {n lb lo wb wo g B : Nat} {Mn Mx Wt : Nat → Int} {Q : List Nat} {c : Nat} (h : PSt w W n lb lo wb wo g B Mn Mx Wt Q c) (hb : Below W.heap.size W W') (hB : B ≤ w.heap.size) : PSt w W' n lb lo wb wo g B Mn Mx Wt Q c :=
  ⟨h.len.below hb, h.want.below hb, h.open_.below hb, h.bel.trans (hb.mono (Nat.le_trans hB h.bel.size))⟩
theorem PSt.next {w wr : World} {n lb lo wb wo g B : Nat} {Mn Mx Wt : Nat → Int} {Q : List Nat} {c : Nat} (H : PSt w wr n lb lo wb wo g B Mn Mx Wt Q c) (hQ : Q.Nodup) (hk : c < Q.length) (i : Nat) (hi : Q[c]?.getD 0 = i) (hin : i < n) (h1 : lb ≠ g) (h2 : lb ≠ wb) (hB1 : B ≤ lb) :
    PSt w (wr.setCell ⟨lb, lo + i, none⟩ (.int .i64 (Mx i))) n lb lo wb wo g B Mn Mx Wt Q (c + 1) := by
  have ht := takeN_next Q c hk
  have hni := atN_notin hQ hk
  rw [hi] at ht hni
  have hm : ∀ j, j ∈ Q.take (c + 1) ↔ j ∈ Q.take c ∨ j = i := fun j => by rw [ht]; simp
  refine ⟨?_, H.want.other _ _ _ h2, H.open_.other _ _ _ h1, H.bel.setCell hB1 _⟩
  refine (H.len.set i (Mx i) hin).congr fun j hj => ?_
  unfold upd
  by_cases e : j = i
  · subst e; rw [if_pos rfl, if_pos ((hm j).2 (.inr rfl))]
  · rw [if_neg e]
    dsimp only
    by_cases e2 : j ∈ Q.take c
    · rw [if_pos e2, if_pos ((hm j).2 (.inl e2))]
    · rw [if_neg e2, if_neg (fun h => by rcases (hm j).1 h with h | h; exact e2 h; exact e h)]

/-- The numbers while those that get full are filled. -/
structure PNum (Mn Mx Wt : Nat → Int) (Q : List Nat) (L0 : Int) (c : Nat) (L V : Int) : Prop where
  left : L = L0 - sumL (fun j => Mx j - Mn j) (Q.take c)
  pos : 0 ≤ L
  weight : V = sumL Wt (Q.drop c)
  full : ∀ j ∈ Q.take c, (Mx j - Mn j) * V ≤ L * Wt j

theorem dropN_next (A : List Nat) (k : Nat) (hk : k < A.length) : A.drop k = (A[k]?.getD 0) :: A.drop (k + 1) := by
  rw [List.getElem?_eq_getElem hk]; exact List.drop_eq_getElem_cons hk

theorem split_at {R : Nat → Nat → Prop} {Q : List Nat} (h : Q.Pairwise R) {c : Nat} (hc : c < Q.length) : (∀ j ∈ Q.take c, R j (Q[c]?.getD 0)) ∧ (∀ k ∈ Q.drop (c + 1), R (Q[c]?.getD 0) k) := by
  have e : Q = Q.take c ++ ((Q[c]?.getD 0) :: Q.drop (c + 1)) := by rw [← dropN_next Q c hc, List.take_append_drop]
  have h' : (Q.take c ++ ((Q[c]?.getD 0) :: Q.drop (c + 1))).Pairwise R := by rw [← e]; exact h
  rw [List.pairwise_append] at h'
  refine ⟨fun j hj => h'.2.2 j hj _ (by simp), ?_⟩
  exact (List.pairwise_cons.1 h'.2.1).1

theorem PNum.next {Mn Mx Wt : Nat → Int} {Q : List Nat} {L0 : Int} {c : Nat} {L V : Int} (h : PNum Mn Mx Wt Q L0 c L V) (hm : ∀ j, 0 ≤ Mx j - Mn j) (hs : Q.Pairwise (RFl Mn Mx Wt)) (hw : ∀ j ∈ Q, 0 < Wt j) (hc : c < Q.length) (i : Nat) (hi : Q[c]?.getD 0 = i) (hle : (Mx i - Mn i) * V ≤ L * Wt i) : PNum Mn Mx Wt Q L0 (c + 1) (L - (Mx i - Mn i)) (V - Wt i) := by
  have h1 := split_at hs hc
  rw [hi] at h1
  have hd := dropN_next Q c hc
  rw [hi] at hd
  have ht := takeN_next Q c hc
  rw [hi] at ht
  have hwi : 0 < Wt i := hw i (by rw [← hi]; exact atN_mem hc)
  have hV : V = sumL Wt (i :: Q.drop (c + 1)) := by rw [← hd]; exact h.weight
  have := full_next (A := Q.take c) (B := Q.drop (c + 1)) (i := i) (L := L) (W := V) hm (fun j hj => ⟨hw j (List.mem_of_mem_take hj), h1.1 j hj⟩) hwi (fun j hj => hw j (List.mem_of_mem_drop hj)) hV hle
  refine ⟨?_, this.1, ?_, ?_⟩
  · have e := h.left
    rw [ht, sumL_snoc]; omega
  · rw [sumL_cons] at hV; omega
  · rw [ht]; exact this.2

theorem PNum.stop {Mn Mx Wt : Nat → Int} {Q : List Nat} {L0 : Int} {c : Nat} {L V : Int} (h : PNum Mn Mx Wt Q L0 c L V) (hs : Q.Pairwise (RFl Mn Mx Wt)) (hw : ∀ j ∈ Q, 0 < Wt j) (hc : c < Q.length) (i : Nat) (hi : Q[c]?.getD 0 = i) (hgt : L * Wt i < (Mx i - Mn i) * V) : 0 < V ∧ ∀ k ∈ Q.drop c, L * Wt k < (Mx k - Mn k) * V := by
  have h1 := split_at hs hc
  rw [hi] at h1
  have hd := dropN_next Q c hc
  rw [hi] at hd
  have hwi : 0 < Wt i := hw i (by rw [← hi]; exact atN_mem hc)
  have hV : V = Wt i + sumL Wt (Q.drop (c + 1)) := by rw [← sumL_cons, ← hd]; exact h.weight
  have h0 : 0 ≤ sumL Wt (Q.drop (c + 1)) := sumL_nonneg fun j hj => Int.le_of_lt (hw j (List.mem_of_mem_drop hj))
  refine ⟨by omega, ?_⟩
  rw [hd]
  exact none_full hwi (by omega) (fun k hk => ⟨hw k (List.mem_of_mem_drop hk), h1.2 k hk⟩) hgt

theorem PNum.poured_all {Mn Mx Wt : Nat → Int} {Q : List Nat} {n : Nat} {r L V : Int} (h : PNum Mn Mx Wt Q (r - sumL Mn (List.range n)) Q.length L V) (hp : Q.Perm (heavy Wt n)) : Poured n Mn Mx Wt r (fun j => if j ∈ Q then Mx j else Mn j) Q [] L V 0 := by
  have e : Q.take Q.length = Q := List.take_length
  refine ⟨by rw [List.append_nil]; exact hp, ?_, h.pos, by have := h.weight; simpa using this, by have := h.full; rwa [e] at this, by simp, fun h => (h rfl).elim, fun _ => rfl, List.Pairwise.nil, fun j hj => ?_⟩
  · have := h.left; rw [e] at this; exact this
  · by_cases e : j ∈ Q <;> simp [e]

theorem PNum.poured_some {Mn Mx Wt : Nat → Int} {Q : List Nat} {n c : Nat} {r L V : Int} (h : PNum Mn Mx Wt Q (r - sumL Mn (List.range n)) c L V) (hp : Q.Perm (heavy Wt n)) (S : List Nat) (m : Nat) (hS : S.Perm (Q.drop c)) (ho : ∀ k ∈ Q.drop c, L * Wt k < (Mx k - Mn k) * V) (hne : Q.drop c ≠ []) (hm : (m : Int) = L - sumL (fun j => L * Wt j / V) S)
    (hs : S.Pairwise (fun i k => L * Wt k % V < L * Wt i % V ∨ (L * Wt i % V = L * Wt k % V ∧ i < k))) :
    Poured n Mn Mx Wt r (fun j => if j ∈ S then (if j ∈ Q.take c then Mx j else Mn j) + L * Wt j / V + (if j ∈ S.take m then 1 else 0) else (if j ∈ Q.take c then Mx j else Mn j)) (Q.take c) S L V m := by
  have hpp : (Q.take c ++ S).Perm Q := by
    conv => rhs; rw [← List.take_append_drop c Q]
    exact List.Perm.append_left _ hS
  have hnd : Q.Nodup := hp.nodup_iff.2 (List.nodup_range.filter _)
  have hdis : ∀ j ∈ Q.take c, j ∉ S := fun j h1 h2 => by
    have := hpp.nodup_iff.2 hnd
    rw [List.nodup_append] at this
    exact this.2.2 j h1 j h2 rfl
  refine ⟨hpp.trans hp, h.left, h.pos, h.weight.trans (sumL_perm hS.symm), h.full, fun j hj => ho j (hS.mem_iff.1 hj), fun _ => hm, fun e => (hne (by rw [e] at hS; exact hS.symm.eq_nil)).elim, hs, fun j hj => ?_⟩
  by_cases e : j ∈ Q.take c
  · rw [if_neg (hdis j e), if_pos e, if_pos e]
  · rw [if_neg e, if_neg e]

/-- What pouring leaves. -/
def PourOut (w w' : World) (n lb lo B : Nat) (Mn Mx Wt : Nat → Int) (r : Int) : Prop :=
  ∃ (a : Nat → Int) (A S : List Nat) (L V : Int) (m : Nat), Poured n Mn Mx Wt r a A S L V m ∧ FRow w' lb lo n a ∧ Below B w w'
def lenOfV : Value → Nat
  | .slice _ n _ => n
  | _ => 0

set_option maxRecDepth 100000 in
set_option maxHeartbeats 4000000 in
theorem pour_any (n lb lo lc wb wo wc B : Nat) (Mn Mx Wt : Nat → Int) (r L0 : Int) (w : World) (hl : FRow w lb lo n Mn) (hw : WRow w wb wo n Mn Mx Wt) (h2 : lb ≠ wb) (hB1 : B ≤ lb) (hB3 : B ≤ w.heap.size) (hn : n ≤ 1048576)
    (hM : ∀ j, 0 ≤ Mn j ∧ Mn j ≤ Mx j ∧ Mx j ≤ 1048576 ∧ 0 ≤ Wt j ∧ Wt j ≤ 1048576) (hL : L0 = r - sumL Mn (List.range n)) (hL0 : 0 ≤ L0 ∧ L0 ≤ 1073741824) :
    Calls Try.prog 18 #[.slice (some ⟨lb, lo, none⟩) n lc, .slice (some ⟨wb, wo, none⟩) n wc, .int .i64 L0] w fun e w' => e = .returned (.tuple #[]) ∧ PourOut w w' n lb lo B Mn Mx Wt r := by
  have CO : Hid (Calls Try.prog 23 #[.slice (some ⟨wb, wo, none⟩) n wc] w fun e w' => ∃ v Q, e = .returned v ∧ ORow w.heap.size w' v Q ∧ Q.Perm (heavy Wt n) ∧ Q.Pairwise (RFl Mn Mx Wt) ∧ Below w.heap.size w w') :=
    order_any n wb wo wc Mn Mx Wt w hw (fun j => by have := hM j; omega) (by omega)
  have HL : Hid (FRow w lb lo n Mn) := hl
  have HW : Hid (WRow w wb wo n Mn Mx Wt) := hw
  have HM : Hid (∀ j, 0 ≤ Mn j ∧ Mn j ≤ Mx j ∧ Mx j ≤ 1048576 ∧ 0 ≤ Wt j ∧ Wt j ≤ 1048576) := hM
  have HLe : Hid (L0 = r - sumL Mn (List.range n)) := hL
  have hzl := hl.1
  have hzw := hw.1
  have hL1 := hL0.1
  have hL2 := hL0.2
  clear hl hw hM hL hL0
  go_enter Try.func18, Try.ntmps18
  go_wp2_with fail
  refine CO.out.mono ?_
  rintro e w1 ⟨v, Q, rfl, hO, hp, hs, hb⟩
  have HP : Hid (Q.Perm (heavy Wt n)) := hp
  have HS : Hid (Q.Pairwise (RFl Mn Mx Wt)) := hs
  have HL1 : Hid (FRow w1 lb lo n Mn) := HL.out.below hb
  have HW1 : Hid (WRow w1 wb wo n Mn Mx Wt) := HW.out.below hb
  have HB1 : Hid (Below B w w1) := hb.mono hB3
  have hz1 := hb.size
  have HQn : Hid (∀ j ∈ Q, j < n ∧ 0 < Wt j) := fun j hj => heavy_mem (hp.mem_iff.1 hj)
  have HQd : Hid Q.Nodup := hp.nodup_iff.2 (List.nodup_range.filter _)
  clear hp hs hb CO HL HW
  rcases hO with ⟨hq, rfl⟩ | ⟨hne, g, cp, rfl, hgB, hqc, hcm, hro⟩
  · have HZ : Hid (PourOut w w1 n lb lo B Mn Mx Wt r) := by
      refine ⟨_, Q, [], L0, 0, 0, PNum.poured_all ⟨?_, hL1, ?_, ?_⟩ HP.out, HL1.out.congr fun j _ => by simp [hq], HB1.out⟩
      · rw [hq]; simp [sumL]; exact HLe.out
      · rw [hq]; rfl
      · rw [hq]; simp
    clear hq
    go_wp2
    go_loop [7, 16] (fun t i => t = .int .i64 0 ∧ i = .int .i64 0) (fun _ _ => 0)
    case atStart => exact ⟨rfl, rfl⟩
    case round =>
      obtain ⟨rfl, rfl⟩ := hrel
      go_wp2
      go_loop [2, 6, 7] (fun t o v => t = .int .i64 L0 ∧ o = .slice none 0 0 ∧ v = .int .i64 0) (fun _ _ _ => 0)
      case atStart => exact ⟨rfl, rfl, rfl⟩
      case round =>
        obtain ⟨rfl, rfl, rfl⟩ := hrel
        go_wp2
        go_end0
        exact ⟨rfl, HZ.out⟩
  · obtain ⟨nq, hnq⟩ : ∃ nq, Q.length = nq := ⟨_, rfl⟩
    have HNQ : Hid (Q.length = nq) := hnq
    have HRo : Hid (IRow w1 g 0 (nums Q)) := hro
    have hzg := hro.1
    have hqn : nq ≤ n := by
      have := HP.out.length_eq
      have := heavy_len Wt n
      omega
    have hnq0 : 0 < nq := by rw [← hnq]; exact List.length_pos_iff.2 hne
    rw [hnq] at hqc ⊢
    have hlg : lb ≠ g := by omega
    have hwg : wb ≠ g := by omega
    have hBg : B ≤ g := by omega
    have HSum : Hid (∀ k, 0 ≤ sumL Wt (Q.take k) ∧ sumL Wt (Q.take k) ≤ (k : Int) * 1048576) := fun k => by
      refine ⟨sumL_nonneg fun j _ => (HM.out j).2.2.2.1, ?_⟩
      have h1 : sumL Wt (Q.take k) ≤ ((Q.take k).length : Int) * 1048576 := sumL_bound fun j _ => (HM.out j).2.2.2.2
      have h2 : (Q.take k).length ≤ k := List.length_take_le _ _
      have h3 : ((Q.take k).length : Int) * 1048576 ≤ (k : Int) * 1048576 := Int.mul_le_mul_of_nonneg_right (by omega) (by omega)
      omega
    clear hro hnq hne
    go_wp2
    go_loop [7, 16] (fun t i => ∃ (k : Nat) (s : Int), t = .int .i64 s ∧ i = .int .i64 k ∧ k ≤ nq ∧ 0 ≤ s ∧ s ≤ (k : Int) * 1048576 ∧ Hid (s = sumL Wt (Q.take k))) (fun _ i => nq - (intOf i).toNat)
    case atStart => exact ⟨0, 0, rfl, rfl, Nat.zero_le _, by omega, by omega, by simp [Hid, sumL]⟩
    case round =>
      obtain ⟨k, s, rfl, rfl, hk, hs0, hs1, HSm⟩ := hrel
      by_cases hlt : k < nq
      · have hlt' : (k : Int) < (nq : Int) := by omega
        have hkQ : k < Q.length := by rw [HNQ.out]; exact hlt
        obtain ⟨i, hi⟩ : ∃ i, Q[k]?.getD 0 = i := ⟨_, rfl⟩
        have hin : i < n := (HQn.out i (by rw [← hi]; exact atN_mem hkQ)).1
        have hin' : (i : Int) < (n : Int) := by omega
        obtain ⟨x, hx⟩ : ∃ x, Wt i = x := ⟨_, rfl⟩
        have hxb := HM.out i
        rw [hx] at hxb
        have hx1 := hxb.2.2.2.1
        have hx2 := hxb.2.2.2.2
        have co : w1.cell? ⟨g, k, none⟩ = some (.int .i64 (i : Int)) := by
          have := (HRo.out.2 k (by rw [nums_len]; exact hkQ)).1
          rw [nums_at hkQ, hi, Nat.zero_add] at this; exact this
        have cw : w1.cell? ⟨wb, wo + i * 3 + 2, none⟩ = some (.int .i64 x) := by rw [(HW1.out.2 i hin).2.2, hx]
        have HSx : Hid (s + x = sumL Wt (Q.take (k + 1))) := by
          show _ = _
          rw [takeN_next Q k hkQ, sumL_snoc, hi, hx, HSm.out]
        have hk1 : ((k + 1 : Nat) : Int) * 1048576 = (k : Int) * 1048576 + 1048576 := by omega
        clear hxb hi hx HSm
        go_wp2
        go_round
        case rel => exact ⟨k + 1, s + x, rfl, by go_num, by omega, by omega, by omega, HSx.out⟩
        case measure => simp [intOf]; omega
      · have hge : ¬ (k : Int) < (nq : Int) := by omega
        obtain rfl : nq = k := by omega
        have N0 : Hid (PNum Mn Mx Wt Q (r - sumL Mn (List.range n)) 0 L0 s) := by
          refine ⟨by simp [sumL]; exact HLe.out, hL1, ?_, by simp⟩
          rw [HSm.out, List.take_of_length_le (by rw [HNQ.out]; omega), List.drop_zero]
        have P0 : Hid (PSt w w1 n lb lo wb wo g B Mn Mx Wt Q 0) := ⟨HL1.out.congr fun j _ => by simp, HW1.out, HRo.out, HB1.out⟩
        clear HSm HL1 HW1 HRo HB1
        go_wp2
        have hnq40 : (nq : Int) * 1048576 ≤ 1099511627776 := by omega
        go_loopw [2, 6, 7] (fun l o v wr => ∃ (c : Nat) (L V : Int) (p : Option Addr) (d e : Nat), l = .int .i64 L ∧ o = .slice p d e ∧ v = .int .i64 V ∧ c + d = nq ∧ c + e = cp ∧ 0 ≤ L ∧ L ≤ L0 ∧ 0 ≤ V ∧ V ≤ 1099511627776 ∧ Hid (0 < d → p = some ⟨g, c, none⟩) ∧ Hid (PNum Mn Mx Wt Q (r - sumL Mn (List.range n)) c L V) ∧ Hid (PSt w wr n lb lo wb wo g B Mn Mx Wt Q c)) (fun _ o _ _ => lenOfV o)
        case atStart => exact ⟨0, L0, s, _, nq, cp, rfl, rfl, rfl, by omega, by omega, hL1, by omega, hs0, by omega, fun _ => rfl, N0.out, P0.out⟩
        case round =>
          obtain ⟨c, L, V, p, d, e, rfl, rfl, rfl, hcd, hce, hL3, hL4, hV3, hV4, HPp, HN, HPS⟩ := hrel
          by_cases hd : 0 < d
          · have hd' : (0 : Int) < (d : Int) := by omega
            obtain rfl := HPp.out hd
            have hps := HPS.out
            have hcQ : c < Q.length := by rw [HNQ.out]; omega
            obtain ⟨i, hi⟩ : ∃ i, Q[c]?.getD 0 = i := ⟨_, rfl⟩
            have hiQ : i ∈ Q := by rw [← hi]; exact atN_mem hcQ
            have hin : i < n := (HQn.out i hiQ).1
            have hin' : (i : Int) < (n : Int) := by omega
            obtain ⟨x, hx⟩ : ∃ x, Wt i = x := ⟨_, rfl⟩
            obtain ⟨mn, hmn⟩ : ∃ x, Mn i = x := ⟨_, rfl⟩
            obtain ⟨mx, hmx⟩ : ∃ x, Mx i = x := ⟨_, rfl⟩
            have hxb := HM.out i
            rw [hx, hmn, hmx] at hxb
            obtain ⟨hb1, hb2, hb3, hb4, hb5⟩ := hxb
            have co : wr.cell? ⟨g, c, none⟩ = some (.int .i64 (i : Int)) := by
              have := (hps.open_.2 c (by rw [nums_len]; exact hcQ)).1
              rw [nums_at hcQ, hi, Nat.zero_add] at this; exact this
            have cw0 : wr.cell? ⟨wb, wo + i * 3, none⟩ = some (.int .i64 mn) := by rw [(hps.want.2 i hin).1, hmn]
            have cw1 : wr.cell? ⟨wb, wo + i * 3 + 1, none⟩ = some (.int .i64 mx) := by rw [(hps.want.2 i hin).2.1, hmx]
            have cw2 : wr.cell? ⟨wb, wo + i * 3 + 2, none⟩ = some (.int .i64 x) := by rw [(hps.want.2 i hin).2.2, hx]
            have hnot : i ∉ Q.take c := by rw [← hi]; exact atN_notin HQd.out hcQ
            have cl1 : wr.cell? ⟨lb, lo + i, none⟩ = some (.int .i64 mn) := by rw [(hps.len.2 i hin).1]; dsimp only; rw [if_neg hnot, hmn]
            have fl1 := (hps.len.2 i hin).2
            obtain ⟨df, hdf⟩ : ∃ x, mx - mn = x := ⟨_, rfl⟩
            have hdf0 : 0 ≤ df := by omega
            have hdf1 : df ≤ 1048576 := by omega
            obtain ⟨pv, hpv⟩ : ∃ x, df * V = x := ⟨_, rfl⟩
            have hpv0 : 0 ≤ pv := by rw [← hpv]; exact Int.mul_nonneg hdf0 hV3
            have hpv1 : pv ≤ 1152921504606846976 := by rw [← hpv]; exact Int.le_trans (Int.mul_le_mul hdf1 hV4 hV3 (by omega)) (by decide)
            obtain ⟨lx, hlx⟩ : ∃ y, L * x = y := ⟨_, rfl⟩
            have hlx0 : 0 ≤ lx := by rw [← hlx]; exact Int.mul_nonneg hL3 hb4
            have hlx1 : lx ≤ 1125899906842624 := by rw [← hlx]; exact Int.le_trans (Int.mul_le_mul (show L ≤ 1073741824 by omega) hb5 hb4 (by omega)) (by decide)
            have wdf : IntKind.i64.wrap df = df := IntWalk.i64_in _ ⟨by omega, by omega⟩
            by_cases hgt : lx < pv
            · have hst := HN.out.stop HS.out (fun j hj => (HQn.out j hj).2) hcQ i hi (by rw [hx, hmx, hmn, hdf, hpv, hlx]; exact hgt)
              have hV0 := hst.1
              have hP2 := hps.below (W' := wr.drew) ⟨rfl, rfl, rfl, Nat.le_refl _, fun _ _ => rfl⟩ hB3
              have hdl : (Q.drop c).length = d := by rw [List.length_drop, HNQ.out]; omega
              have CD : Hid (Calls Try.prog 24 #[.slice (some ⟨lb, lo, none⟩) n lc, .slice (some ⟨wb, wo, none⟩) n wc, .slice (some ⟨g, c, none⟩) d e, .int .i64 L, .int .i64 V] wr.drew fun e w' => e = .returned (.tuple #[]) ∧
                  ∃ (S : List Nat) (m : Nat), S.Perm (Q.drop c) ∧ S.Pairwise (fun i k => L * Wt k % V < L * Wt i % V ∨ (L * Wt i % V = L * Wt k % V ∧ i < k)) ∧ (m : Int) = L - sumL (fun j => L * Wt j / V) S ∧
                    FRow w' lb lo n (fun j => if j ∈ S then (if j ∈ Q.take c then Mx j else Mn j) + L * Wt j / V + (if j ∈ S.take m then 1 else 0) else (if j ∈ Q.take c then Mx j else Mn j)) ∧ Below B wr.drew w') := by
                refine dealOut_any n lb lo lc wb wo wc g c e B d Mn Mx Wt _ (Q.drop c) L V wr.drew hP2.len hP2.want ?_ hlg h2 hwg hB1 hBg (Nat.le_trans hB3 hP2.bel.size) (HQd.out.sublist (List.drop_sublist _ _)) (fun j hj => (HQn.out j (List.mem_of_mem_drop hj)).1) (by intro h; rw [h] at hdl; simp at hdl; omega) hdl (by omega) (by omega) (by omega) (by omega) ⟨hL3, by omega⟩ HN.out.weight ⟨hV0, by omega⟩ (fun j => by have := HM.out j; omega) (fun j => by have := HM.out j; split <;> omega)
                refine ⟨hP2.open_.1, fun j hj => ?_⟩
                rw [nums_len, hdl] at hj
                have h1 := hP2.open_.2 (c + j) (by rw [nums_len, HNQ.out]; omega)
                rw [Nat.zero_add] at h1
                refine ⟨h1.1.trans ?_, h1.2⟩
                have e1 : nums (Q.drop c) = (nums Q).drop c := by unfold nums; rw [List.map_drop]
                rw [e1, List.getElem?_drop]
              have HZ : Hid (∀ w2, (∃ (S : List Nat) (m : Nat), S.Perm (Q.drop c) ∧ S.Pairwise (fun i k => L * Wt k % V < L * Wt i % V ∨ (L * Wt i % V = L * Wt k % V ∧ i < k)) ∧ (m : Int) = L - sumL (fun j => L * Wt j / V) S ∧
                    FRow w2 lb lo n (fun j => if j ∈ S then (if j ∈ Q.take c then Mx j else Mn j) + L * Wt j / V + (if j ∈ S.take m then 1 else 0) else (if j ∈ Q.take c then Mx j else Mn j)) ∧ Below B wr.drew w2) → PourOut w w2 n lb lo B Mn Mx Wt r) := by
                rintro w2 ⟨S, m, q1, q2, q3, q4, q5⟩
                exact ⟨_, Q.take c, S, L, V, m, HN.out.poured_some HP.out S m q1 hst.2 (by intro h; rw [h] at hdl; simp at hdl; omega) q3 q2, q4, hP2.bel.trans q5⟩
              clear hst hP2 hdl hps hnot hi hx hmn hmx HN HPS
              go_wp2_with fail
              go_big_region
              go_wp2_with fail
              refine CD.out.mono ?_
              rintro e2 w2 ⟨rfl, hq⟩
              have HF : Hid (PourOut w w2 n lb lo B Mn Mx Wt r) := HZ.out w2 hq
              clear hq HZ
              go_wp2
              go_end0
              exact ⟨rfl, HF.out⟩
            · have hNx := HN.out.next (fun j => by have := HM.out j; omega) HS.out (fun j hj => (HQn.out j hj).2) hcQ i hi (by rw [hx, hmx, hmn, hdf, hpv, hlx]; omega)
              rw [hx, hmx, hmn, hdf] at hNx
              have HNx : Hid (PNum Mn Mx Wt Q (r - sumL Mn (List.range n)) (c + 1) (L - df) (V - x)) := hNx
              have hLd := hNx.pos
              have hVx : 0 ≤ V - x := by rw [hNx.weight]; exact sumL_nonneg fun j _ => (HM.out j).2.2.2.1
              have HPx : Hid (PSt w (wr.setCell ⟨lb, lo + i, none⟩ (.int .i64 (mn + df))) n lb lo wb wo g B Mn Mx Wt Q (c + 1)) := by
                have := hps.next HQd.out hcQ i hi hin hlg h2 hB1
                rw [hmx] at this
                have e : mn + df = mx := by omega
                rw [e]; exact this
              have hgt' : ¬ pv > lx := by omega
              have hde : (1 : Int) ≤ (e : Int) := by omega
              have hdd : (1 : Int) ≤ (d : Int) := by omega
              clear hNx hps hnot hi hx hmn hmx HN HPS
              go_wp2_with fail
              go_big_region
              go_wp2_with fail
              refine ⟨⟨c + 1, L - df, V - x, _, d - 1, e - 1, rfl, rfl, rfl, by omega, by omega, hLd, by omega, hVx, by omega, ?_, HNx.out, ?_⟩, ?_⟩
              · intro h
                rw [if_neg (by omega)]
              · exact HPx.out.below ⟨rfl, rfl, rfl, Nat.le_refl _, fun _ _ => rfl⟩ hB3
              · show d - 1 < d
                omega
          · obtain rfl : d = 0 := by omega
            have hcl : c = Q.length := by rw [HNQ.out]; omega
            have HF : Hid (PourOut w wr n lb lo B Mn Mx Wt r) := by
              have h1 := HN.out
              have h2 := HPS.out.len
              rw [hcl] at h1 h2
              exact ⟨_, Q, [], L, V, 0, h1.poured_all HP.out, h2.congr fun j _ => by rw [List.take_length], HPS.out.bel⟩
            clear hcl HN HPS
            go_wp2
            go_end0
            exact ⟨rfl, HF.out⟩

end Go.Proofs.Ytmlicipdkbeihac
