/-
  The nodes of a tree that is read: what TreeGrown asks of them. Plain mathematics.
-/
import Derived.Test.YtepeepipgkejiadGreatDoorTPg
namespace Go.Proofs.YtepeepipgkejiadGreatDoor
set_option linter.unusedVariables false

/-- How many kids the first n nodes have. -/
def kS (L : List Nd) : Nat → Nat
  | 0 => 0
  | n + 1 => kS L n + (nth L n).kids.length
theorem kS_same {L L' : List Nd} : ∀ n, (∀ j, j < n → (nth L' j).kids = (nth L j).kids) → kS L' n = kS L n
  | 0, _ => rfl
  | n + 1, h => by
    show kS L' n + (nth L' n).kids.length = kS L n + (nth L n).kids.length
    rw [kS_same n (fun j hj => h j (by omega)), h n (by omega)]
theorem kS_one {L L' : List Nd} {u : Nat} (hu : (nth L' u).kids.length = (nth L u).kids.length + 1) : ∀ n, u < n → (∀ j, j < n → j ≠ u → (nth L' j).kids = (nth L j).kids) → kS L' n = kS L n + 1
  | 0, h, _ => by omega
  | n + 1, h, hk => by
    show kS L' n + (nth L' n).kids.length = kS L n + (nth L n).kids.length + 1
    by_cases e : u = n
    · subst e
      rw [kS_same u (fun j hj => hk j (by omega) (by omega)), hu]; omega
    · rw [kS_one hu n (by omega) (fun j hj hj2 => hk j (by omega) hj2), hk n (by omega) (fun e2 => e e2.symm)]; omega

/-- What holds of the nodes. -/
structure Gr1 (L : List Nd) : Prop where
  up0 : ∀ i : Nat, i < L.length → ((nth L i).up < 0 ↔ i = 0)
  upl : ∀ i : Nat, i < L.length → (nth L i).up < i
  kid : ∀ i k c : Nat, i < L.length → (nth L i).kids[k]? = some c → i < c ∧ c < L.length ∧ (nth L c).up = i
  rise : ∀ i k c d : Nat, i < L.length → (nth L i).kids[k]? = some c → (nth L i).kids[k + 1]? = some d → c < d
  first : ∀ i c : Nat, i < L.length → (nth L i).kids[0]? = some c → c = i + 1
  cnt : 0 < L.length → kS L L.length + 1 = L.length
theorem Gr1.empty : Gr1 [] := ⟨fun i h => absurd h (by simp), fun i h => absurd h (by simp), fun i _ _ h => absurd h (by simp), fun i _ _ _ h => absurd h (by simp), fun i _ h => absurd h (by simp), fun h => absurd h (by simp)⟩
theorem Gr1.congr {L L' : List Nd} (h : Gr1 L) (hl : L'.length = L.length) (hk : ∀ j, (nth L' j).kids = (nth L j).kids) (hu : ∀ j, (nth L' j).up = (nth L j).up) : Gr1 L' := by
  refine ⟨fun i hi => ?_, fun i hi => ?_, fun i k c hi hc => ?_, fun i k c d hi hc hd => ?_, fun i c hi hc => ?_, fun hp => ?_⟩
  · rw [hu]; exact h.up0 i (by omega)
  · rw [hu]; exact h.upl i (by omega)
  · rw [hk] at hc; rw [hu, hl]; exact h.kid i k c (by omega) hc
  · rw [hk] at hc hd; exact h.rise i k c d (by omega) hc hd
  · rw [hk] at hc; exact h.first i c (by omega) hc
  · rw [hl, kS_same _ (fun j _ => hk j)]; exact h.cnt (by omega)
/-- Where a node may begin: the first one, or within node up. -/
def Pre1 (L : List Nd) (up : Int) : Prop := (up = -1 ∧ L = []) ∨ ∃ u : Nat, up = (u : Int) ∧ u < L.length ∧ ((nth L u).kids = [] → L.length = u + 1)
theorem Gr1.grow {L : List Nd} {d : Nd} (h : Gr1 L) (hd : d.kids = []) (hp : Pre1 L d.up) : Gr1 (grown L d) ∧ (∀ j, j < L.length → (nth L j).kids.length ≤ (nth (grown L d) j).kids.length) ∧ (0 ≤ d.up → (nth (grown L d) d.up.toNat).kids ≠ []) ∧ (nth (grown L d) L.length).kids = [] := by
  rcases hp with ⟨hu, rfl⟩ | ⟨u, hu, hul, hf⟩
  · have e : grown [] d = [d] := by unfold grown; rw [if_pos (by omega)]; rfl
    rw [e]
    have n0 : nth [d] 0 = d := rfl
    refine ⟨⟨fun i hi => ?_, fun i hi => ?_, fun i k c hi hc => ?_, fun i k c q hi hc => ?_, fun i c hi hc => ?_, fun _ => ?_⟩, fun j hj => absurd hj (by simp), fun h0 => by omega, by show (nth [d] 0).kids = []; rw [n0, hd]⟩
    · have : i = 0 := by simpa using hi
      subst this; rw [n0]; constructor
      · intro _; rfl
      · intro _; omega
    · have : i = 0 := by simpa using hi
      subst this; rw [n0]; omega
    · have : i = 0 := by simpa using hi
      subst this; rw [n0, hd] at hc; simp at hc
    · have : i = 0 := by simpa using hi
      subst this; rw [n0, hd] at hc; simp at hc
    · have : i = 0 := by simpa using hi
      subst this; rw [n0, hd] at hc; simp at hc
    · show 0 + (nth [d] 0).kids.length + 1 = 1
      rw [n0, hd]; rfl
  · have hL := grown_len L d
    have e := grown_eq L d u (by omega) (by omega)
    have a1 : nth (grown L d) u = { nth L u with kids := (nth L u).kids ++ [L.length] } := by
      rw [e, nth_mod_same _ (by simp; omega), nth_app_old hul]
    have a2 : nth (grown L d) L.length = d := by
      rw [e, nth_mod_other _ (by omega), nth_app_new]
    have a3 : ∀ j, j < L.length → j ≠ u → nth (grown L d) j = nth L j := fun j hj hju => by
      rw [e, nth_mod_other _ hju, nth_app_old hj]
    have au : ∀ j, j < L.length → (nth (grown L d) j).up = (nth L j).up := fun j hj => by
      by_cases hju : j = u
      · subst hju; rw [a1]
      · rw [a3 j hj hju]
    -- a kid of a node: an old one, or the new one
    have ak : ∀ i k c : Nat, i < L.length + 1 → (nth (grown L d) i).kids[k]? = some c → (i < L.length ∧ (nth L i).kids[k]? = some c) ∨ (i = u ∧ k = (nth L u).kids.length ∧ c = L.length) := fun i k c hi hc => by
      by_cases hin : i = L.length
      · subst hin; rw [a2, hd] at hc; simp at hc
      · by_cases hiu : i = u
        · subst hiu
          rw [a1] at hc
          have hc : ((nth L i).kids ++ [L.length])[k]? = some c := hc
          by_cases hk : k < (nth L i).kids.length
          · rw [List.getElem?_append_left hk] at hc; exact .inl ⟨hul, hc⟩
          · rw [List.getElem?_append_right (by omega)] at hc
            right
            have hlt := (List.getElem?_eq_some_iff.1 hc).1
            have hz : k - (nth L i).kids.length = 0 := by simp at hlt; omega
            rw [hz] at hc
            exact ⟨rfl, by omega, by simpa using hc.symm⟩
        · rw [a3 i (by omega) hiu] at hc; exact .inl ⟨by omega, hc⟩
    refine ⟨⟨fun i hi => ?_, fun i hi => ?_, fun i k c hi hc => ?_, fun i k c q hi hc hq => ?_, fun i c hi hc => ?_, fun _ => ?_⟩, fun j hj => ?_, fun _ => ?_, ?_⟩
    · rw [hL] at hi
      by_cases hin : i = L.length
      · subst hin; rw [a2]; constructor
        · intro hx; omega
        · intro hx; omega
      · rw [au i (by omega)]; exact h.up0 i (by omega)
    · rw [hL] at hi
      by_cases hin : i = L.length
      · subst hin; rw [a2]; omega
      · rw [au i (by omega)]; exact h.upl i (by omega)
    · rw [hL] at hi
      rcases ak i k c hi hc with ⟨hi2, hc2⟩ | ⟨rfl, _, rfl⟩
      · obtain ⟨q1, q2, q3⟩ := h.kid i k c hi2 hc2
        exact ⟨q1, by rw [hL]; omega, by rw [au c q2]; exact q3⟩
      · exact ⟨hul, by rw [hL]; omega, by rw [a2]; exact hu⟩
    · rw [hL] at hi
      rcases ak i k c hi hc with ⟨hi2, hc2⟩ | ⟨rfl, hk, rfl⟩
      · rcases ak i (k + 1) q hi hq with ⟨_, hq2⟩ | ⟨rfl, hk, rfl⟩
        · exact h.rise i k c q hi2 hc2 hq2
        · exact (h.kid i k c hi2 hc2).2.1
      · rcases ak i (k + 1) q hi hq with ⟨_, hq2⟩ | ⟨_, hk2, _⟩
        · have := (List.getElem?_eq_some_iff.1 hq2).1; omega
        · omega
    · rw [hL] at hi
      rcases ak i 0 c hi hc with ⟨hi2, hc2⟩ | ⟨rfl, hk, rfl⟩
      · exact h.first i c hi2 hc2
      · exact hf (List.eq_nil_of_length_eq_zero hk.symm)
    · rw [hL]
      show kS (grown L d) L.length + (nth (grown L d) L.length).kids.length + 1 = L.length + 1
      rw [a2, hd, kS_one (L := L) (u := u) (by rw [a1]; simp) L.length hul (fun j hj hju => by rw [a3 j hj hju])]
      have := h.cnt (by omega)
      simp; omega
    · by_cases hju : j = u
      · subst hju; rw [a1]; simp
      · rw [a3 j hj hju]; exact Nat.le_refl _
    · rw [show d.up.toNat = u by omega, a1]; simp
    · rw [a2, hd]

/-- A step: the nodes hold, none is lost, no kid is lost. -/
structure Fw1 (L L' : List Nd) : Prop where
  gr : Gr1 L'
  len : L.length ≤ L'.length
  kids : ∀ j, j < L.length → (nth L j).kids.length ≤ (nth L' j).kids.length
theorem Fw1.refl {L : List Nd} (h : Gr1 L) : Fw1 L L := ⟨h, Nat.le_refl _, fun _ _ => Nat.le_refl _⟩
theorem Fw1.trans {L L1 L2 : List Nd} (h : Fw1 L L1) (k : Fw1 L1 L2) : Fw1 L L2 := ⟨k.gr, Nat.le_trans h.len k.len, fun j hj => Nat.le_trans (h.kids j hj) (k.kids j (Nat.lt_of_lt_of_le hj h.len))⟩
def NodeOk (u : Nat) (node : PS → Except Nat PS) : Prop := ∀ a b, Gr1 a.L → Pre1 a.L (u : Int) → node a = .ok b → Fw1 a.L b.L ∧ (nth b.L u).kids ≠ []
theorem kids_ok {s : ByteArray} {u : Nat} {node : PS → Except Nat PS} (hn : NodeOk u node) : ∀ f st st', Gr1 st.L → Pre1 st.L (u : Int) → kidsF s node f st = .ok st' → Fw1 st.L st'.L
  | 0, st, st', h, hp, e => by cases e
  | f + 1, st, st', h, hp, e => by
    unfold kidsF at e
    split at e
    · cases e
    · rename_i st2 he
      obtain ⟨h2, k2⟩ := hn _ _ h hp he
      split at e
      · have hul : u < st2.L.length := by
          rcases hp with ⟨hx, _⟩ | ⟨u', hx, hul, _⟩
          · omega
          · have : u = u' := by omega
            subst this
            exact Nat.lt_of_lt_of_le hul h2.len
        exact h2.trans (kids_ok hn f { st2 with i := gotI s st2.i 44 } _ h2.gr (.inr ⟨u, rfl, hul, fun e => absurd e k2⟩) e)
      · split at e
        · cases e
        · injection e with e; subst e; exact h2
theorem body_ok {s : ByteArray} {kind u : Nat} {node : PS → Except Nat PS} (hn : NodeOk u node) {st st' : PS} (h : Gr1 st.L) (hp : Pre1 st.L (u : Int)) (e : bodyR s kind u node st = .ok st') : Fw1 st.L st'.L := by
  unfold bodyR at e
  split at e
  · split at e
    · cases e
    · split at e
      · injection e with e; subst e; exact Fw1.refl h
      · rename_i i2 _ _
        exact kids_ok hn _ { st with i := sk s i2 } _ h hp e
  · split at e
    · split at e
      · cases e
      · split at e
        · cases e
        · rename_i i2 _ _ st3 he
          obtain ⟨h3, _⟩ := hn { st with i := i2 } st3 h hp he
          split at e
          · cases e
          · injection e with e; rw [← e]; exact h3
    · split at e
      · split at e
        · cases e
        · rename_i i2 t he
          injection e with e
          subst e
          have hl : (withText st.L u t).length = st.L.length := by unfold withText; simp
          have hk := nth_text_kids st.L u
          refine ⟨h.congr hl (fun j => hk j t) (fun j => ?_), by show st.L.length ≤ (withText st.L u t).length; omega, fun j _ => by show _ ≤ (nth (withText st.L u t) j).kids.length; rw [hk]; exact Nat.le_refl _⟩
          show (nth (withText st.L u t) j).up = _
          unfold withText
          by_cases e : j = u
          · subst e
            by_cases h : j < st.L.length
            · rw [nth_mod_same _ h]
            · unfold nth; rw [List.getElem?_modify]; simp [h]
          · rw [nth_mod_other _ e]
      · injection e with e; subst e; exact Fw1.refl h
theorem node_ok {s : ByteArray} : ∀ f (up : Int) depth st st', Gr1 st.L → Pre1 st.L up → nodeF s f up depth st = .ok st' → Fw1 st.L st'.L ∧ st.L.length < st'.L.length ∧ (0 ≤ up → (nth st'.L up.toNat).kids ≠ [])
  | 0, up, depth, st, st', h, hp, e => by cases e
  | f + 1, up, depth, st, st', h, hp, e => by
    unfold nodeF at e
    dsimp only at e
    split at e
    · cases e
    · split at e
      · cases e
      · rename_i i2 er2 a he
        obtain ⟨d, hd⟩ : ∃ d : Nd, (⟨(findF kindsL (s.extract (sk s st.i) (run letter s (sk s st.i))) 0).toNat, a, [], [], up⟩ : Nd) = d := ⟨_, rfl⟩
        have hdk : d.kids = [] := by rw [← hd]
        have hdu : d.up = up := by rw [← hd]
        rw [hd] at e
        obtain ⟨g1, g2, g3, g4⟩ := h.grow hdk (by rw [hdu]; exact hp)
        have hl := grown_len st.L d
        have hb := body_ok (u := st.L.length) (fun a b ga pa hab => by
          obtain ⟨q1, _, q3⟩ := node_ok f (st.L.length : Int) (depth + 1) a b ga pa hab
          exact ⟨q1, by have := q3 (by omega); simpa using this⟩) (st := { i := i2, L := grown st.L d, er := er2 }) g1 (.inr ⟨st.L.length, rfl, by show st.L.length < (grown st.L d).length; omega, fun _ => hl⟩) e
        have hlen : (grown st.L d).length ≤ st'.L.length := hb.len
        refine ⟨Fw1.trans ⟨g1, by omega, g2⟩ hb, by omega, fun h0 => ?_⟩
        have h3 := g3 (by omega)
        rw [hdu] at h3
        have hlt : up.toNat < (grown st.L d).length := by
          rcases hp with ⟨hx, _⟩ | ⟨u', hx, hul, _⟩
          · omega
          · omega
        have h4 : (nth (grown st.L d) up.toNat).kids.length ≤ (nth st'.L up.toNat).kids.length := hb.kids up.toNat hlt
        intro h5
        rw [h5] at h4
        exact h3 (List.eq_nil_of_length_eq_zero (by simpa using h4))
/-- TreeGrown's facts. -/
theorem parse_grown {s : ByteArray} {L : List Nd} (h : parse s = .ok L) : Gr1 L ∧ 0 < L.length := by
  unfold parse at h
  split at h
  · cases h
  · split at h
    · cases h
    · rename_i st he
      split at h
      · cases h
      · split at h
        · cases h
        · injection h with h
          subst h
          obtain ⟨q1, q2, _⟩ := node_ok _ _ _ _ _ Gr1.empty (.inl ⟨rfl, rfl⟩) he
          exact ⟨q1.gr, Nat.lt_of_le_of_lt (Nat.zero_le _) q2⟩

end Go.Proofs.YtepeepipgkejiadGreatDoor
