/-
  The one form is read as the same tree: nodes. Plain mathematics.
-/
import Derived.Test.YtnkebfmlaliddaaGreatDoorTAgx
import Derived.Test.YtnkebfmlaliddaaGreatDoorP34
namespace Go.Proofs.YtnkebfmlaliddaaGreatDoor
set_option linter.unusedVariables false

theorem kjI_congr {g g' : Nat → List UInt8} {ks : List Nat} (h : ∀ c ∈ ks, g c = g' c) : ∀ i, i ≤ ks.length → kjI g ks i = kjI g' ks i
  | 0, _ => rfl
  | i + 1, hi => by
    have ih := kjI_congr h i (by omega)
    have hl : i < ks.length := hi
    show kjI g ks i ++ ((if i = 0 then [] else [44]) ++ g (ks[i]?.getD 0)) = kjI g' ks i ++ ((if i = 0 then [] else [44]) ++ g' (ks[i]?.getD 0))
    rw [ih, List.getElem?_eq_getElem hl]
    show _ ++ (_ ++ g ks[i]) = _ ++ (_ ++ g' ks[i])
    rw [h _ (List.getElem_mem hl)]
theorem form_fuel {n : Nat} {L : Nat → Nd} {up : Nat → Int} (hN : Nest n (fun j => (L j).kids) up) : ∀ f f' k, k < n → n - k ≤ f → n - k ≤ f' → formF L f k = formF L f' k
  | 0, f', k, hk, h1, h2 => by omega
  | f + 1, 0, k, hk, h1, h2 => by omega
  | f + 1, f' + 1, k, hk, h1, h2 => by
    unfold formF
    rw [kjI_congr (g := formF L f) (g' := formF L f') (fun c hc => by
      obtain ⟨q1, q2, _⟩ := hN.kid k c hk hc
      exact form_fuel hN f f' c q2 (by omega) (by omega)) _ (Nat.le_refl _)]
/-- Forms with commas between. -/
def jt (T : Nat → List UInt8) : List Nat → List UInt8
  | [] => []
  | [c] => T c
  | c :: m :: r => T c ++ 44 :: jt T (m :: r)
theorem jt_snoc (T : Nat → List UInt8) (k : Nat) : ∀ ks : List Nat, jt T (ks ++ [k]) = if ks = [] then T k else jt T ks ++ 44 :: T k
  | [] => rfl
  | [c] => rfl
  | c :: m :: ks => by
    have ih := jt_snoc T k (m :: ks)
    rw [if_neg (by simp)] at ih ⊢
    show T c ++ 44 :: jt T (m :: ks ++ [k]) = T c ++ 44 :: jt T (m :: ks) ++ 44 :: T k
    rw [ih]
    simp
theorem kjI_jt (T : Nat → List UInt8) (ks : List Nat) : ∀ i, i ≤ ks.length → kjI T ks i = jt T (ks.take i)
  | 0, _ => rfl
  | i + 1, hi => by
    have hl : i < ks.length := hi
    have ih := kjI_jt T ks i (by omega)
    show kjI T ks i ++ ((if i = 0 then [] else [44]) ++ T (ks[i]?.getD 0)) = _
    rw [ih, List.take_succ_eq_append_getElem hl, jt_snoc, List.getElem?_eq_getElem hl]
    show jt T (ks.take i) ++ ((if i = 0 then [] else [44]) ++ T ks[i]) = _
    by_cases e : i = 0
    · subst e; rfl
    · have : ks.take i ≠ [] := fun q => by
        have := congrArg List.length q
        rw [List.length_take] at this
        have : min i ks.length = 0 := this
        omega
      rw [if_neg e, if_neg this]
      rfl

/-- The nodes that are known where the m-th begins. -/
def Lp (L : List Nd) (m : Nat) : List Nd := (L.take m).map fun d => { d with kids := d.kids.filter (· < m) }
theorem lp_len {L : List Nd} {m : Nat} (h : m ≤ L.length) : (Lp L m).length = m := by unfold Lp; rw [List.length_map, List.length_take]; omega
theorem lp_nth {L : List Nd} {m j : Nat} (hm : m ≤ L.length) (hj : j < m) : nth (Lp L m) j = { nth L j with kids := (nth L j).kids.filter (· < m) } := by
  unfold nth Lp
  rw [List.getElem?_map, List.getElem?_take, if_pos hj, List.getElem?_eq_getElem (by omega)]
  rfl
theorem nth_ext {L M : List Nd} (hl : L.length = M.length) (h : ∀ j, j < L.length → nth L j = nth M j) : L = M := by
  apply List.ext_getElem?
  intro j
  by_cases hj : j < L.length
  · have := h j hj
    unfold nth at this
    rw [List.getElem?_eq_getElem hj, List.getElem?_eq_getElem (by omega)] at this ⊢
    exact congrArg some this
  · rw [List.getElem?_eq_none (by omega), List.getElem?_eq_none (by omega)]
theorem filt_mem {c : Nat} : ∀ ks : List Nat, ks.Pairwise (· < ·) → c ∈ ks → ks.filter (· < c + 1) = ks.filter (· < c) ++ [c]
  | [], _, h => by cases h
  | x :: r, hp, h => by
    have hp2 := List.pairwise_cons.1 hp
    by_cases e : x = c
    · subst e
      have h1 : r.filter (· < x + 1) = [] := List.filter_eq_nil_iff.2 fun y hy => by have := hp2.1 y hy; simp; omega
      have h2 : r.filter (· < x) = [] := List.filter_eq_nil_iff.2 fun y hy => by have := hp2.1 y hy; simp; omega
      rw [List.filter_cons, if_pos (by simp), h1, List.filter_cons, if_neg (by simp), h2]
      rfl
    · have hm : c ∈ r := by rcases List.mem_cons.1 h with q | q; exact absurd q.symm e; exact q
      have hx := hp2.1 c hm
      rw [List.filter_cons, if_pos (by simp; omega), filt_mem r hp2.2 hm, List.filter_cons, if_pos (by simp; omega)]
      rfl
theorem filt_not {c : Nat} (ks : List Nat) (h : c ∉ ks) : ks.filter (· < c + 1) = ks.filter (· < c) := by
  apply List.filter_congr
  intro x hx
  have : x ≠ c := fun e => h (e ▸ hx)
  have h1 : (x < c + 1) ↔ (x < c) := by omega
  simp [h1]
theorem hasId_of {M : List Nd} {n : Int} (h : ∀ j, j < M.length → (nth M j).attr[0]?.getD 0 ≠ n) : hasId M n = false := by
  unfold hasId
  rw [List.any_eq_false]
  intro d hd
  obtain ⟨j, hj, e⟩ := List.mem_iff_getElem.1 hd
  have := h j hj
  unfold nth at this
  rw [List.getElem?_eq_getElem hj, Option.getD_some, e] at this
  simpa using this

/-- What is around a node has it as a kid. -/
def HasUp (L : List Nd) (c : Nat) : Prop := (c = 0 ∧ (nth L 0).up = -1) ∨ ∃ u, u < L.length ∧ c ∈ (nth L u).kids
section
variable {s0 : ByteArray} {L : List Nd} (hT : Tree s0 L)
include hT
theorem kid_of {u c : Nat} (hu : u < L.length) (hc : c ∈ (nth L u).kids) : u < c ∧ c < L.length ∧ (nth L c).up = (u : Int) := by
  obtain ⟨k, hk⟩ := List.mem_iff_getElem?.1 hc
  exact hT.gr.kid u k c hu hk
theorem kids_rise {u : Nat} (hu : u < L.length) : (nth L u).kids.Pairwise (· < ·) := rise_lt _ (fun k c d h1 h2 => hT.gr.rise u k c d hu h1 h2)
theorem grow_one {c : Nat} (hc : c < L.length) (hu : HasUp L c) : withText (grown (Lp L c) ⟨(nth L c).kind, (nth L c).attr, [], [], (nth L c).up⟩) c (nth L c).text = Lp L (c + 1) := by
  obtain ⟨d0, hd0⟩ : ∃ z : Nd, (⟨(nth L c).kind, (nth L c).attr, [], [], (nth L c).up⟩ : Nd) = z := ⟨_, rfl⟩
  have hlp := lp_len (L := L) (m := c) (by omega)
  have hgl := grown_len (Lp L c) d0
  have hwl : (withText (grown (Lp L c) d0) c (nth L c).text).length = c + 1 := by unfold withText; rw [List.length_modify, hgl, hlp]
  rw [hd0]
  apply nth_ext (by rw [hwl, lp_len (by omega)])
  intro j hj
  rw [hwl] at hj
  rw [lp_nth (by omega) hj]
  obtain ⟨_, _, _, _, x5, x6⟩ := text_same (grown (Lp L c) d0) c (nth L c).text j
  by_cases e : j = c
  · subst e
    rw [x6 rfl (by omega)]
    have hn := grown_new (Lp L j) d0
    rw [hlp] at hn
    rw [hn, ← hd0]
    have hk : (nth L j).kids.filter (· < j + 1) = [] := List.filter_eq_nil_iff.2 fun x hx => by
      have := (kid_of hT hc hx).1
      simp; omega
    rw [hk]
  · rw [x5 e]
    obtain ⟨_, _, _, _, y5, y6⟩ := grown_same (Lp L c) d0 j (by omega)
    have hup : d0.up = (nth L c).up := by rw [← hd0]
    by_cases e2 : (j : Int) = (nth L c).up
    · rw [y6 (by rw [hup]; exact e2), lp_nth (by omega) (by omega), hlp]
      have hmem : c ∈ (nth L j).kids := by
        rcases hu with ⟨q1, q2⟩ | ⟨u, q1, q2⟩
        · omega
        · have := (kid_of hT q1 q2).2.2
          have : u = j := by omega
          rw [← this]; exact q2
      rw [filt_mem _ (kids_rise hT (by omega)) hmem]
    · rw [y5 (by rw [hup]; exact e2), lp_nth (by omega) (by omega)]
      have hnm : c ∉ (nth L j).kids := fun q => e2 (kid_of hT (by omega) q).2.2.symm
      rw [filt_not _ hnm]
theorem grow_bare {c : Nat} (hc : c < L.length) (hu : HasUp L c) (ht : (nth L c).text = []) : grown (Lp L c) ⟨(nth L c).kind, (nth L c).attr, [], [], (nth L c).up⟩ = Lp L (c + 1) := by
  rw [← grow_one hT hc hu]
  have hlp := lp_len (L := L) (m := c) (by omega)
  obtain ⟨d0, hd0⟩ : ∃ z : Nd, (⟨(nth L c).kind, (nth L c).attr, [], [], (nth L c).up⟩ : Nd) = z := ⟨_, rfl⟩
  rw [hd0]
  have hgl := grown_len (Lp L c) d0
  apply nth_ext (by unfold withText; rw [List.length_modify])
  intro j hj
  obtain ⟨_, _, _, _, x5, x6⟩ := text_same (grown (Lp L c) d0) c (nth L c).text j
  by_cases e : j = c
  · subst e
    rw [x6 rfl hj]
    have hn := grown_new (Lp L j) d0
    rw [hlp] at hn
    rw [hn, ← hd0, ht]
  · rw [x5 e]
theorem lp_all : Lp L L.length = L := by
  apply nth_ext (lp_len (Nat.le_refl _))
  intro j hj
  rw [lp_len (Nat.le_refl _)] at hj
  rw [lp_nth (Nat.le_refl _) hj]
  have : (nth L j).kids.filter (· < L.length) = (nth L j).kids := List.filter_eq_self.2 fun x hx => by
    have := (kid_of hT hj hx).2.1
    simpa using this
  rw [this]

/-- The form of a node. -/
def fm (L : List Nd) (c : Nat) : List UInt8 := formF (nth L) L.length c
theorem fm_eq {c : Nat} (hc : c < L.length) : fm L c = ((kindsL[(nth L c).kind]?.getD ByteArray.empty).data.toList ++ braR (nth L c).attr) ++ (if (nth L c).kind = 5 then escR (nth L c).text else if (nth L c).kind = 6 then [] else 91 :: (jt (fm L) (nth L c).kids ++ [93])) := by
  obtain ⟨f, hf⟩ : ∃ f, L.length = f + 1 := ⟨L.length - 1, by omega⟩
  have h1 : fm L c = formF (nth L) (f + 1) c := by unfold fm; rw [hf]
  have h2 : kjI (formF (nth L) f) (nth L c).kids (nth L c).kids.length = jt (fm L) (nth L c).kids := by
    rw [kjI_congr (g' := fm L) (fun k hk => by
      obtain ⟨q1, q2, _⟩ := kid_of hT hc hk
      unfold fm
      exact form_fuel hT.fine.nest f L.length k q2 (by omega) (by omega)) _ (Nat.le_refl _), kjI_jt _ _ _ (Nat.le_refl _), List.take_length]
  rw [h1, formF, h2]
  rfl
/-- What may stand behind a node. -/
def Stp (r : List UInt8) : Prop := hd r = 256 ∨ hd r = 44 ∨ hd r = 93
omit hT in
theorem Stp.facts {r : List UInt8} (h : Stp r) : letter (hd r) = false ∧ blank (hd r) = false ∧ hd r ≠ 123 := by
  rcases h with e | e | e <;> rw [e] <;> exact ⟨by rfl, by rfl, by decide⟩
/-- A node is read as it is. -/
def NRd (t : ByteArray) (L : List Nd) (d c e : Nat) : Prop := ∀ i r F, Stp r → Sf t i (fm L c ++ r) → (fm L c).length + 1 ≤ F → nodeF t F (nth L c).up d ⟨i, Lp L c, none⟩ = .ok ⟨i + (fm L c).length, Lp L e, none⟩
def NRs (P : Nat → Nat → Prop) : List Nat → Nat → Nat → Prop
  | [], a, e => a = e
  | c :: r, a, e => a = c ∧ ∃ e1, P c e1 ∧ NRs P r e1 e
theorem fm_pos {c : Nat} (hc : c < L.length) : fm L c ≠ [] ∧ letter (hd (fm L c)) = true ∧ 1 ≤ (fm L c).length := by
  have hk := (hT.vl.nv c hc).kind
  obtain ⟨n1, n2, n3, n4⟩ := kd_letters _ hk
  have hne : fm L c ≠ [] := by
    rw [fm_eq hT hc]
    intro e
    have := (List.append_eq_nil_iff.1 (List.append_eq_nil_iff.1 e).1).1
    exact n2 this
  refine ⟨hne, ?_, List.length_pos_iff.2 hne⟩
  rw [fm_eq hT hc, List.append_assoc, hd_app n2]
  cases hq : (kindsL[(nth L c).kind]?.getD ByteArray.empty).data.toList with
  | nil => exact absurd hq n2
  | cons b r => exact n1 b (by rw [hq]; exact List.mem_cons_self ..)
theorem jt_len : ∀ ks : List Nat, (∀ c ∈ ks, c < L.length) → ks.length ≤ (jt (fm L) ks).length
  | [], _ => Nat.le_refl _
  | [c], h => (fm_pos hT (h c (List.mem_cons_self ..))).2.2
  | c :: m :: r, h => by
    have h1 := (fm_pos hT (h c (List.mem_cons_self ..))).2.2
    have h2 := jt_len (m :: r) (fun x hx => h x (List.mem_cons_of_mem _ hx))
    have : jt (fm L) (c :: m :: r) = fm L c ++ 44 :: jt (fm L) (m :: r) := rfl
    rw [this, List.length_append]
    simp only [List.length_cons] at h2 ⊢
    omega
omit hT in
theorem jt_hd {c : Nat} {r : List Nat} (x : List UInt8) (h : fm L c ≠ []) : hd (jt (fm L) (c :: r) ++ x) = hd (fm L c) := by
  cases r with
  | nil => exact hd_app h
  | cons m r =>
    have : jt (fm L) (c :: m :: r) = fm L c ++ 44 :: jt (fm L) (m :: r) := rfl
    rw [this, List.append_assoc, hd_app h]
omit hT in
/-- Several kids, read. -/
theorem list_read {t : ByteArray} {d : Nat} {u : Int} : ∀ (ks : List Nat) (a e f i F : Nat) (r : List UInt8), NRs (NRd t L d) ks a e → ks ≠ [] → (∀ c ∈ ks, (nth L c).up = u) → ks.length ≤ f → Sf t i (jt (fm L) ks ++ 93 :: r) → (jt (fm L) ks).length + 1 ≤ F →
    kidsF t (nodeF t F u d) f ⟨i, Lp L a, none⟩ = .ok ⟨i + (jt (fm L) ks).length + 1, Lp L e, none⟩
  | [], a, e, f, i, F, r, _, hne, _, _, _, _ => absurd rfl hne
  | c :: ks, a, e, 0, i, F, r, _, _, _, hf, _, _ => by simp at hf
  | [c], a, e, f + 1, i, F, r, h, _, hu, hf, hs, hF => by
    obtain ⟨rfl, e1, h1, h2⟩ := h
    obtain rfl : e1 = e := h2
    have hs1 : Sf t i (fm L a ++ 93 :: r) := hs
    unfold kidsF
    rw [← hu a (List.mem_cons_self ..), h1 i (93 :: r) F (.inr (.inr rfl)) hs1 hF]
    dsimp only
    have hs2 : Sf t (i + (fm L a).length) (93 :: r) := hs1.app
    have hm : mustR t (i + (fm L a).length) 93 = .ok (i + (fm L a).length + 1) := hs2.must (b := 93) (by rfl)
    rw [hs2.isAt (by rfl), if_neg (by simp [hd]), hm]
    rfl
  | c :: m :: ks, a, e, f + 1, i, F, r, h, _, hu, hf, hs, hF => by
    obtain ⟨rfl, e1, h1, h2⟩ := h
    have hj : jt (fm L) (a :: m :: ks) = fm L a ++ 44 :: jt (fm L) (m :: ks) := rfl
    have hs1 : Sf t i (fm L a ++ 44 :: (jt (fm L) (m :: ks) ++ 93 :: r)) := by
      rw [hj, List.append_assoc] at hs
      exact hs
    have hlen : (jt (fm L) (a :: m :: ks)).length = (fm L a).length + 1 + (jt (fm L) (m :: ks)).length := by rw [hj, List.length_append, List.length_cons]; omega
    unfold kidsF
    have hstep := h1 i (44 :: (jt (fm L) (m :: ks) ++ 93 :: r)) F (.inr (.inl rfl)) hs1 (by omega)
    rw [hu a (List.mem_cons_self ..)] at hstep
    rw [hstep]
    dsimp only
    have hs2 : Sf t (i + (fm L a).length) (44 :: (jt (fm L) (m :: ks) ++ 93 :: r)) := hs1.app
    have hgt : gotI t (i + (fm L a).length) 44 = i + (fm L a).length + 1 := hs2.gotI (b := 44) (by rfl)
    rw [hs2.isAt (by rfl), if_pos (by rfl), hgt, list_read (m :: ks) e1 e f _ F r h2 (by simp) (fun c hc => hu c (List.mem_cons_of_mem _ hc)) (by simpa using hf) hs2.tail (by omega), hlen]
    rw [show i + (fm L a).length + 1 + (jt (fm L) (m :: ks)).length + 1 = i + ((fm L a).length + 1 + (jt (fm L) (m :: ks)).length) + 1 by omega]

theorem node_read {t : ByteArray} {d c e1 : Nat} (hc : c < L.length) (hu : HasUp L c) (hd12 : d < 12) (hk : KidOk (nth L c)) (hks : NRs (NRd t L (d + 1)) (nth L c).kids (c + 1) e1) : NRd t L d c e1 := by
  intro i r F hr hs hF
  obtain ⟨F, rfl⟩ : ∃ F', F = F' + 1 := ⟨F - 1, by omega⟩
  have hnv := hT.vl.nv c hc
  obtain ⟨n1, n2, n3, n4⟩ := kd_letters _ hnv.kind
  have hlp := lp_len (L := L) (m := c) (by omega)
  have hcnt := hT.vl.cnt
  obtain ⟨kd, hkd⟩ : ∃ z, (nth L c).kind = z := ⟨_, rfl⟩
  obtain ⟨nm, hnm⟩ : ∃ z, kindsL[kd]?.getD ByteArray.empty = z := ⟨_, rfl⟩
  obtain ⟨nl, hnl⟩ : ∃ z, nm.data.toList = z := ⟨_, rfl⟩
  obtain ⟨A, hA⟩ : ∃ z, (nth L c).attr = z := ⟨_, rfl⟩
  obtain ⟨bd, hbd⟩ : ∃ z, (if kd = 5 then escR (nth L c).text else if kd = 6 then [] else 91 :: (jt (fm L) (nth L c).kids ++ [93])) = z := ⟨_, rfl⟩
  have hfm : fm L c = (nl ++ braR A) ++ bd := by rw [fm_eq hT hc, hkd, hnm, hnl, hA, hbd]
  rw [hkd, hnm, hnl] at n1 n2 n4
  rw [hkd, hnm] at n3
  have hs1 : Sf t i (nl ++ (braR A ++ (bd ++ r))) := by rw [hfm, List.append_assoc, List.append_assoc] at hs; exact hs
  -- what follows the attributes
  have hbh : letter (hd (bd ++ r)) = false ∧ blank (hd (bd ++ r)) = false ∧ hd (bd ++ r) ≠ 123 := by
    rw [← hbd]
    by_cases c5 : kd = 5
    · rw [if_pos c5]; exact ⟨by rfl, by rfl, by show (34 : Nat) ≠ 123; decide⟩
    · by_cases c6 : kd = 6
      · rw [if_neg c5, if_pos c6]; exact hr.facts
      · rw [if_neg c5, if_neg c6]; exact ⟨by rfl, by rfl, by show (91 : Nat) ≠ 123; decide⟩
  have hbr : letter (hd (braR A ++ (bd ++ r))) = false := by
    unfold braR
    split
    · exact hbh.1
    · rfl
  have k1 : sk t i = i := hs1.sk (by rw [hd_app n2]; exact n4)
  have k2 : run letter t i = i + nl.length := Sf.runs n1 hbr i hs1
  have hex : t.extract i (i + nl.length) = nm := by rw [hs1.extract, ← hnl]
  have hs2 : Sf t (i + nl.length) (braR A ++ (bd ++ r)) := hs1.app
  have hat : attrsR t kd (Lp L c) (i + nl.length) none = .ok (i + nl.length + (braR A).length, none, A) := by
    refine attrsR_read hs2 ⟨hbh.2.2, hbh.2.1⟩ (by rw [← hA]; exact hnv.len) (fun k hk hne => ?_)
    have hv := hnv.att k hk
    rw [hA, hkd] at hv
    rcases hv with q | ⟨q1, q2, q3⟩
    · exact absurd q hne
    · refine ⟨hk, q1, q2, q3, fun e h0 => ?_⟩
      subst e
      refine hasId_of fun j hj => ?_
      rw [hlp] at hj
      rw [lp_nth (by omega) hj]
      have := hT.vl.id j c hj hc (by rw [hA]; exact h0)
      rw [hA] at this
      exact this
  have hs3 : Sf t (i + nl.length + (braR A).length) (bd ++ r) := hs2.app
  have hlen : (fm L c).length = nl.length + (braR A).length + bd.length := by rw [hfm, List.length_append, List.length_append]
  have hpos : 0 < nl.length := List.length_pos_iff.2 n2
  unfold nodeF
  dsimp only
  rw [k1, k2, hex, n3]
  rw [if_neg (by omega), Int.toNat_natCast, hlp]
  have e1' : decide (12 ≤ d) = false := decide_eq_false (by omega)
  have e2' : decide (100 ≤ c) = false := decide_eq_false (by omega)
  rw [e1', e2']
  have e3 : addIf false (addIf false none 3 i) 4 i = none := rfl
  rw [e3, hat]
  dsimp only
  rw [hlen]
  obtain ⟨p, hp⟩ : ∃ z, i + nl.length + (braR A).length = z := ⟨_, rfl⟩
  rw [hp] at hs3 ⊢
  rw [show i + (nl.length + (braR A).length + bd.length) = p + bd.length by omega]
  unfold bodyR
  by_cases c3 : kd < 3
  · have hb : bd = 91 :: (jt (fm L) (nth L c).kids ++ [93]) := by rw [← hbd, if_neg (by omega), if_neg (by omega)]
    have htx : (nth L c).text = [] := by
      rcases hnv.text with q | q
      · exact q
      · rw [hkd] at q; omega
    have hg := grow_bare hT hc hu htx
    rw [hkd, hA] at hg
    rw [if_pos c3, hg]
    have hs4 : Sf t p (91 :: (jt (fm L) (nth L c).kids ++ 93 :: r)) := by rw [hb] at hs3; simpa using hs3
    have hm : mustR t p 91 = .ok (p + 1) := hs4.must (b := 91) (by rfl)
    have hs5 := hs4.tail
    rw [hm]
    dsimp only
    have hbl : bd.length = (jt (fm L) (nth L c).kids).length + 2 := by rw [hb, List.length_cons, List.length_append, List.length_cons, List.length_nil]
    cases hq : (nth L c).kids with
    | nil =>
      rw [hq] at hs5 hks hbl
      have he : c + 1 = e1 := hks
      have hs6 : Sf t (p + 1) (93 :: r) := hs5
      have hgt : gotI t (p + 1) 93 = p + 1 + 1 := hs6.gotI (b := 93) (by rfl)
      rw [hs6.isAt (by rfl), if_pos (by rfl), hgt, hbl, he]
      rfl
    | cons x ks =>
      have hx : x < L.length := (kid_of hT hc (by rw [hq]; exact List.mem_cons_self ..)).2.1
      have hp1 := fm_pos hT hx
      rw [hq] at hs5 hks hbl
      have hh : hd (jt (fm L) (x :: ks) ++ 93 :: r) = hd (fm L x) := jt_hd _ hp1.1
      have hlet := hp1.2.1
      unfold letter at hlet
      simp at hlet
      have hnb : blank (hd (jt (fm L) (x :: ks) ++ 93 :: r)) = false := by
        rw [hh]; unfold blank
        have q1 : (hd (fm L x) == 32) = false := by simpa using (by omega : hd (fm L x) ≠ 32)
        have q2 : (hd (fm L x) == 10) = false := by simpa using (by omega : hd (fm L x) ≠ 10)
        rw [q1, q2]; rfl
      have hn93 : (hd (jt (fm L) (x :: ks) ++ 93 :: r) == 93) = false := by rw [hh]; simpa using (by omega : hd (fm L x) ≠ 93)
      rw [hs5.isAt hnb, hn93, if_neg (by decide), hs5.sk hnb]
      have hkl := jt_len hT (x :: ks) (fun y hy => (kid_of hT hc (by rw [hq]; exact hy)).2.1)
      have hsz := hs5.len
      rw [List.length_append] at hsz
      have hlr := list_read (x :: ks) (c + 1) e1 (t.size + 1) (p + 1) F r hks (by simp) (u := (c : Int)) (fun y hy => (kid_of hT hc (by rw [hq]; exact hy)).2.2) (by omega) hs5 (by omega)
      rw [hlr, hbl, show p + 1 + (jt (fm L) (x :: ks)).length + 1 = p + ((jt (fm L) (x :: ks)).length + 2) by omega]
  · rw [if_neg c3]
    by_cases c5 : kd < 5
    · have hb : bd = 91 :: (jt (fm L) (nth L c).kids ++ [93]) := by rw [← hbd, if_neg (by omega), if_neg (by omega)]
      have htx : (nth L c).text = [] := by
        rcases hnv.text with q | q
        · exact q
        · rw [hkd] at q; omega
      have hg := grow_bare hT hc hu htx
      rw [hkd, hA] at hg
      rw [if_pos c5, hg]
      have hs4 : Sf t p (91 :: (jt (fm L) (nth L c).kids ++ 93 :: r)) := by rw [hb] at hs3; simpa using hs3
      have hm : mustR t p 91 = .ok (p + 1) := hs4.must (b := 91) (by rfl)
      have hs5 := hs4.tail
      rw [hm]
      dsimp only
      have hbl : bd.length = (jt (fm L) (nth L c).kids).length + 2 := by rw [hb, List.length_cons, List.length_append, List.length_cons, List.length_nil]
      have hone : (nth L c).kids.length = 1 := by
        rcases hk with q | q | q
        · rw [hkd] at q; omega
        · exact q.2.2
        · rw [hkd] at q; omega
      obtain ⟨x, hq⟩ := List.length_eq_one_iff.1 hone
      rw [hq] at hs5 hks hbl
      obtain ⟨q1, e2, q2, q3⟩ := hks
      have q3 : e2 = e1 := q3
      have hs6 : Sf t (p + 1) (fm L x ++ 93 :: r) := hs5
      have hbl2 : bd.length = (fm L x).length + 2 := hbl
      have hxu := (kid_of hT hc (show x ∈ (nth L c).kids by rw [hq]; exact List.mem_cons_self ..)).2.2
      have hst := q2 (p + 1) (93 :: r) F (.inr (.inr rfl)) hs6 (by omega)
      rw [hxu] at hst
      rw [q1, hst]
      dsimp only
      have hs7 : Sf t (p + 1 + (fm L x).length) (93 :: r) := hs6.app
      have hm2 : mustR t (p + 1 + (fm L x).length) 93 = .ok (p + 1 + (fm L x).length + 1) := hs7.must (b := 93) (by rfl)
      rw [hm2]
      dsimp only
      rw [hbl2, q3, show p + 1 + (fm L x).length + 1 = p + ((fm L x).length + 2) by omega]
    · rw [if_neg c5]
      have hkn : (nth L c).kids = [] := by
        rcases hk with q | q | q
        · rw [hkd] at q; omega
        · rw [hkd] at q; omega
        · exact q.2
      rw [hkn] at hks
      have he : c + 1 = e1 := hks
      by_cases c6 : kd = 5
      · have hb : bd = escR (nth L c).text := by rw [← hbd, if_pos c6]
        rw [if_pos c6]
        rw [hb] at hs3 ⊢
        rw [quo_read hs3]
        dsimp only
        have hg := grow_one hT hc hu
        rw [hkd, hA] at hg
        rw [hg, he]
      · have hb : bd = [] := by rw [← hbd, if_neg c6, if_pos (by have := hnv.kind; rw [hkd] at this; omega)]
        have htx : (nth L c).text = [] := by
          rcases hnv.text with q | q
          · exact q
          · rw [hkd] at q; exact absurd q c6
        have hg := grow_bare hT hc hu htx
        rw [hkd, hA] at hg
        rw [if_neg c6, hg, hb, he]
        rfl
theorem all_read {t : ByteArray} {d a e : Nat} {ks : List Nat} (h : Ch (nth L) d ks a e) : (∀ c ∈ ks, c < L.length ∧ HasUp L c) → NRs (NRd t L d) ks a e := by
  induction h with
  | nil d a => intro _; rfl
  | @cons d c r e1 e h1 h2 h3 h4 i1 i2 =>
    intro hc
    obtain ⟨q1, q2⟩ := hc c (List.mem_cons_self ..)
    refine ⟨rfl, e1, node_read hT q1 q2 h1 h2 (i1 fun x hx => ⟨(kid_of hT q1 hx).2.1, .inr ⟨c, q1, hx⟩⟩), i2 fun x hx => hc x (List.mem_cons_of_mem _ hx)⟩
/-- The one form is the same tree's text. -/
theorem parse_form (hl : (fm L 0).length ≤ 4000) : parse ⟨(fm L 0).toArray⟩ = .ok L := by
  obtain ⟨t, ht⟩ : ∃ z : ByteArray, (⟨(fm L 0).toArray⟩ : ByteArray) = z := ⟨_, rfl⟩
  have hsz : t.size = (fm L 0).length := by rw [← ht]; show (fm L 0).toArray.size = _; simp
  have hs : Sf t 0 (fm L 0 ++ []) := ⟨by rw [← ht]; simp, Nat.zero_le _⟩
  obtain ⟨_, e1, h1, h2⟩ := all_read hT (t := t) hT.ch (fun c hc => by
    rw [List.mem_singleton.1 hc]
    exact ⟨hT.pos, .inl ⟨rfl, hT.up0⟩⟩)
  have h2 : e1 = L.length := h2
  have hr := h1 0 [] (t.size + 1) (.inl rfl) hs (by omega)
  rw [hT.up0, h2, lp_all hT] at hr
  have h0 : Lp L 0 = [] := rfl
  rw [h0, Nat.zero_add] at hr
  rw [ht]
  unfold parse
  rw [if_neg (by omega), hr]
  dsimp only
  have hout : sk t (fm L 0).length = (fm L 0).length := run_out (by omega)
  rw [hout, if_neg (by omega)]
end

end Go.Proofs.YtnkebfmlaliddaaGreatDoor
