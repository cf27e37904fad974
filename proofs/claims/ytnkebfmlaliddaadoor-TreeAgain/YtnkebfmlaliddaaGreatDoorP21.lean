/-
  What T1 lets a tree be: a node's attributes, text and kids, and how they are numbered. Plain mathematics.
-/
import Derived.Test.YtnkebfmlaliddaaGreatDoorP20
namespace Go.Proofs.YtnkebfmlaliddaaGreatDoor
set_option linter.unusedVariables false

/-- A node, kids aside. -/
structure Nv (d : Nd) : Prop where
  kind : d.kind < 7
  len : d.attr.length = 12
  att : ∀ k, k < 12 → d.attr[k]?.getD 0 = withoutL[k]?.getD 0 ∨ (ownsB d.kind k = true ∧ 0 ≤ d.attr[k]?.getD 0 ∧ d.attr[k]?.getD 0 ≤ mostL[k]?.getD 0)
  text : d.text = [] ∨ d.kind = 5
structure Vl (s : ByteArray) (L : List Nd) : Prop where
  nv : ∀ j, j < L.length → Nv (nth L j)
  tl : ∀ j, j < L.length → (nth L j).text.length ≤ s.size
  id : ∀ i j, i < j → j < L.length → (0 : Int) < (nth L j).attr[0]?.getD 0 → (nth L i).attr[0]?.getD 0 ≠ (nth L j).attr[0]?.getD 0
  cnt : L.length ≤ 100
def KidOk (d : Nd) : Prop := d.kind < 3 ∨ (3 ≤ d.kind ∧ d.kind < 5 ∧ d.kids.length = 1) ∨ (5 ≤ d.kind ∧ d.kids = [])
/-- Kids at depth d, numbered from a on to e as they nest. -/
inductive Ch (L : Nat → Nd) : Nat → List Nat → Nat → Nat → Prop
  | nil (d a : Nat) : Ch L d [] a a
  | cons {d c : Nat} {r : List Nat} {e1 e : Nat} : d < 12 → KidOk (L c) → Ch L (d + 1) (L c).kids (c + 1) e1 → Ch L d r e1 e → Ch L d (c :: r) c e
theorem Ch.le {L : Nat → Nd} {d : Nat} {ks : List Nat} {a e : Nat} (h : Ch L d ks a e) : a ≤ e := by
  induction h with
  | nil => exact Nat.le_refl _
  | cons _ _ _ _ i1 i2 => omega
theorem Ch.congr {L L' : Nat → Nd} {d : Nat} {ks : List Nat} {a e : Nat} (h : Ch L d ks a e) : (∀ j, a ≤ j → j < e → L' j = L j) → Ch L' d ks a e := by
  induction h with
  | nil d a => intro _; exact .nil d a
  | @cons d c r e1 e h1 h2 h3 h4 i1 i2 =>
    intro hj
    have l3 := h3.le
    have l4 := h4.le
    have ec : L' c = L c := hj c (Nat.le_refl _) (by omega)
    refine .cons (e1 := e1) h1 (by rw [ec]; exact h2) ?_ (i2 (fun j h1 h2 => hj j (by omega) h2))
    rw [ec]
    exact i1 (fun j h1 h2 => hj j (by omega) (by omega))
theorem Ch.app {L : Nat → Nd} {d : Nat} {ks : List Nat} {a b : Nat} (h : Ch L d ks a b) {ks' : List Nat} {e : Nat} (k : Ch L d ks' b e) : Ch L d (ks ++ ks') a e := by
  induction h with
  | nil d a => exact k
  | cons h1 h2 h3 h4 i1 i2 => exact .cons h1 h2 h3 (i2 k)

/-- The attributes as far as they are read. -/
structure Av (kind : Nat) (L : List Nd) (a : List Int) : Prop where
  len : a.length = 12
  att : ∀ k, k < 12 → a[k]?.getD 0 = withoutL[k]?.getD 0 ∨ (ownsB kind k = true ∧ 0 ≤ a[k]?.getD 0 ∧ a[k]?.getD 0 ≤ mostL[k]?.getD 0)
  id : (0 : Int) < a[0]?.getD 0 → hasId L (a[0]?.getD 0) = false
theorem addIf_none {b : Bool} {f : Flt} {c p : Nat} (h : addIf b f c p = none) : b = false ∧ f = none := by
  unfold addIf at h
  cases b with
  | false => exact ⟨rfl, by simpa using h⟩
  | true =>
    unfold addF at h
    cases f <;> simp at h
theorem addF_none {f : Flt} {c p : Nat} (h : addF f c p = none) : False := by
  unfold addF at h; cases f <;> simp at h
theorem dv_run (s : ByteArray) (j : Nat) : 0 ≤ dv s j (run digit s j - j) := (dv_bd s j _ (fun t ht => by
    have := run_all (p := digit) s (s.size - j) j t (by unfold run at ht; omega)
    unfold digit at this
    simpa using this)).1
theorem attr1_val {s : ByteArray} {kind : Nat} {L : List Nd} {i : Nat} {er : Flt} {a : List Int} {seen : List Nat} {i2 : Nat} {er2 : Flt} {a2 : List Int} {seen2 : List Nat} (h : attr1 s kind L i er a seen = .ok (i2, er2, a2, seen2)) (h0 : er2 = none) (hv : Av kind L a) : er = none ∧ Av kind L a2 := by
  unfold attr1 at h
  dsimp only at h
  split at h
  · cases h
  · split at h
    · cases h
    · split at h
      · cases h
      · rename_i j2 _ _
        split at h
        · injection h with h; injection h with e1 h; injection h with e2 h
          rw [← e2] at h0
          exact (addF_none h0).elim
        · rename_i hix
          have hn := dv_run s (sk s j2)
          obtain ⟨n, hnn⟩ : ∃ z, dv s (sk s j2) (run digit s (sk s j2) - sk s j2) = z := ⟨_, rfl⟩
          obtain ⟨ix, hxx⟩ : ∃ z, findF namesL (s.extract (sk s i) (run letter s (sk s i))) 0 = z := ⟨_, rfl⟩
          have hfb := findF_bd (s.extract (sk s i) (run letter s (sk s i))) namesL 0
          rw [hxx] at hfb
          rw [hxx, hnn] at h
          rw [hnn] at hn
          rw [hxx] at hix
          injection h with h; injection h with e1 h; injection h with e2 h; injection h with e3 e4
          rw [h0] at e2
          obtain ⟨q1, e2⟩ := addIf_none e2
          obtain ⟨q2, e2⟩ := addIf_none e2
          obtain ⟨q3, e2⟩ := addIf_none e2
          have hx0 : 0 ≤ ix ∧ ownsB kind ix.toNat = true := by
            constructor
            · exact Int.not_lt.1 (fun e => hix (.inl e))
            · cases ho : ownsB kind ix.toNat with
              | true => rfl
              | false => exact absurd (.inr ho) hix
          have hx12 : ix.toNat < 12 := by
            have : namesL.length = 12 := rfl
            rw [this] at hfb
            rcases hfb with e | e <;> omega
          refine ⟨e2, ?_⟩
          subst e3
          have hm : n ≤ mostL[ix.toNat]?.getD 0 := by simpa using q2
          have hl : ix.toNat < a.length := by rw [hv.len]; exact hx12
          refine ⟨by rw [List.length_set]; exact hv.len, fun k hk => ?_, fun hp => ?_⟩
          · by_cases e : ix.toNat = k
            · subst e
              rw [List.getElem?_set_self hl]
              exact .inr ⟨hx0.2, hn, hm⟩
            · rw [List.getElem?_set_ne e]
              exact hv.att k hk
          · by_cases e : ix.toNat = 0
            · rw [e] at hp ⊢
              rw [List.getElem?_set_self (by omega)] at hp ⊢
              have hp : 0 < n := hp
              show hasId L n = false
              have : ix = 0 := by omega
              rw [Bool.and_eq_false_iff] at q1
              rcases q1 with q1 | q1
              · exact absurd ⟨this, hp⟩ (of_decide_eq_false q1)
              · exact q1
            · rw [List.getElem?_set_ne e] at hp ⊢
              exact hv.id hp
theorem attrsF_val {s : ByteArray} {kind : Nat} {L : List Nd} : ∀ f i er a seen i2 er2 a2, attrsF s kind L f i er a seen = .ok (i2, er2, a2) → er2 = none → Av kind L a → er = none ∧ Av kind L a2
  | 0, i, er, a, seen, i2, er2, a2, h, h0, hv => by cases h
  | f + 1, i, er, a, seen, i2, er2, a2, h, h0, hv => by
    unfold attrsF at h
    split at h
    · cases h
    · rename_i j er1 a1 seen1 he
      split at h
      · obtain ⟨q1, q2⟩ := attrsF_val f _ _ _ _ _ _ _ h h0
          (by
            -- the attribute ahead has no fault either, seen from behind
            have : ∀ f i er a seen i2 er2 a2, attrsF s kind L f i er a seen = .ok (i2, er2, a2) → er2 = none → er = none := by
              intro f
              induction f with
              | zero => intro i er a seen i2 er2 a2 h; cases h
              | succ f ih =>
                intro i er a seen i2 er2 a2 h h0
                unfold attrsF at h
                split at h
                · cases h
                · rename_i j er1 a1 seen1 he
                  have back : er1 = none → er = none := fun e => by
                    unfold attr1 at he
                    dsimp only at he
                    split at he
                    · cases he
                    · split at he
                      · cases he
                      · split at he
                        · cases he
                        · split at he
                          · injection he with he; injection he with e1 he; injection he with e2 he
                            rw [← e2] at e
                            exact (addF_none e).elim
                          · injection he with he; injection he with e1 he; injection he with e2 he
                            rw [e] at e2
                            exact (addIf_none (addIf_none (addIf_none e2).2).2).2
                  split at h
                  · exact back (ih _ _ _ _ _ _ _ h h0)
                  · split at h
                    · cases h
                    · injection h with h; injection h with e1 h; injection h with e2 e3
                      exact back (e2.trans h0)
            exact (attr1_val he (this _ _ _ _ _ _ _ _ h h0) hv).2)
        exact ⟨(attr1_val he q1 hv).1, q2⟩
      · split at h
        · cases h
        · injection h with h; injection h with e1 h; injection h with e2 e3
          subst e3
          exact attr1_val he (e2.trans h0) hv
theorem av_none (kind : Nat) (L : List Nd) : Av kind L withoutL := ⟨rfl, fun k hk => .inl rfl, fun h => absurd h (by decide)⟩
theorem attrsR_val {s : ByteArray} {kind : Nat} {L : List Nd} {i : Nat} {er : Flt} {i2 : Nat} {er2 : Flt} {a2 : List Int} (h : attrsR s kind L i er = .ok (i2, er2, a2)) (h0 : er2 = none) : er = none ∧ Av kind L a2 := by
  unfold attrsR at h
  split at h
  · exact attrsF_val _ _ _ _ _ _ _ _ h h0 (av_none kind L)
  · injection h with h; injection h with e1 h; injection h with e2 e3
    subst e3
    exact ⟨e2.trans h0, av_none kind L⟩

theorem qF_len {s : ByteArray} : ∀ f p acc i t, qF s f p acc = .ok (i, t) → t.length + p ≤ i + acc.length ∧ (p ≤ s.size → i ≤ s.size)
  | 0, p, acc, i, t, h => by cases h
  | f + 1, p, acc, i, t, h => by
    have hin : ∀ q, bat s q ≠ 256 → q < s.size := fun q hq => by
      by_cases hh : q < s.size
      · exact hh
      · exact absurd (bat_out hh) hq
    unfold qF at h
    split at h
    · cases h
    · rename_i h0
      have := hin p h0
      split at h
      · injection h with h; injection h with h1 h2
        subst h1 h2
        exact ⟨by omega, fun _ => this⟩
      · split at h
        · split at h
          · rename_i hq
            have h3 := hin (p + 1) (by omega)
            have h4 := qF_len f (p + 2) _ i t h
            rw [List.length_append] at h4
            simp only [List.length_cons, List.length_nil] at h4
            exact ⟨by omega, fun _ => h4.2 (by omega)⟩
          · split at h
            · rename_i hq
              have h3 := hin (p + 1) (by omega)
              have h4 := qF_len f (p + 2) _ i t h
              rw [List.length_append] at h4
              simp only [List.length_cons, List.length_nil] at h4
              exact ⟨by omega, fun _ => h4.2 (by omega)⟩
            · cases h
        · have h4 := qF_len f (p + 1) _ i t h
          rw [List.length_append] at h4
          simp only [List.length_cons, List.length_nil] at h4
          exact ⟨by omega, fun _ => h4.2 (by omega)⟩
theorem quo_len {s : ByteArray} {i j : Nat} {t : List UInt8} (h : quoR s i = .ok (j, t)) : t.length ≤ s.size := by
  unfold quoR at h
  split at h
  · rename_i hq
    have h1 := qF_len _ _ _ _ _ h
    have h2 : gotI s i 34 = sk s i + 1 := by unfold isAt at hq; unfold gotI; rw [if_pos (by simpa using hq)]
    have h3 : sk s i < s.size := by
      by_cases hh : sk s i < s.size
      · exact hh
      · unfold isAt at hq
        rw [bat_out hh] at hq
        exact absurd hq (by decide)
    have h4 := h1.2 (by omega)
    have h5 := h1.1
    simp only [List.length_nil] at h5
    omega
  · cases h

/-- What is in a list of nodes but kids. -/
theorem grown_same (L : List Nd) (d : Nd) (j : Nat) (hj : j < L.length) : (nth (grown L d) j).kind = (nth L j).kind ∧ (nth (grown L d) j).attr = (nth L j).attr ∧ (nth (grown L d) j).text = (nth L j).text ∧ (nth (grown L d) j).up = (nth L j).up ∧ ((j : Int) ≠ d.up → nth (grown L d) j = nth L j) ∧ ((j : Int) = d.up → nth (grown L d) j = { nth L j with kids := (nth L j).kids ++ [L.length] }) := by
  unfold grown
  split
  · rename_i h0
    rw [nth_app_old hj]
    exact ⟨rfl, rfl, rfl, rfl, fun _ => rfl, fun e => absurd e (by omega)⟩
  · rename_i h0
    rw [nth_app_old (by rw [List.length_modify]; exact hj)]
    by_cases e : j = d.up.toNat
    · rw [← e, nth_mod_same _ hj]
      exact ⟨rfl, rfl, rfl, rfl, fun e2 => absurd (by omega) e2, fun _ => rfl⟩
    · rw [nth_mod_other _ e]
      exact ⟨rfl, rfl, rfl, rfl, fun _ => rfl, fun e2 => absurd (by omega) e⟩
theorem grown_new (L : List Nd) (d : Nd) : nth (grown L d) L.length = d := by
  unfold grown
  split
  · exact nth_app_new L d
  · have := nth_app_new (L.modify d.up.toNat fun u => { u with kids := u.kids ++ [L.length] }) d
    rw [List.length_modify] at this
    exact this
theorem hasId_no {L : List Nd} {n : Int} (h : hasId L n = false) (i : Nat) (hi : i < L.length) : (nth L i).attr[0]?.getD 0 ≠ n := by
  unfold hasId at h
  rw [List.any_eq_false] at h
  have hm : nth L i ∈ L := by
    unfold nth
    rw [List.getElem?_eq_getElem hi]
    exact List.getElem_mem hi
  have := h _ hm
  simpa using this
theorem Vl.grown {s : ByteArray} {L : List Nd} {d : Nd} (h : Vl s L) (hd : Nv d) (ht : d.text.length ≤ s.size) (hid : (0 : Int) < d.attr[0]?.getD 0 → hasId L (d.attr[0]?.getD 0) = false) (hc : L.length < 100) : Vl s (grown L d) := by
  have hl := grown_len L d
  refine ⟨fun j hj => ?_, fun j hj => ?_, fun i j hij hj h0 => ?_, by omega⟩
  · by_cases e : j = L.length
    · rw [e, grown_new]; exact hd
    · obtain ⟨a1, a2, a3, _⟩ := grown_same L d j (by omega)
      have := h.nv j (by omega)
      exact ⟨by rw [a1]; exact this.kind, by rw [a2]; exact this.len, by rw [a1, a2]; exact this.att, by rw [a1, a3]; exact this.text⟩
  · by_cases e : j = L.length
    · rw [e, grown_new]; exact ht
    · obtain ⟨a1, a2, a3, _⟩ := grown_same L d j (by omega)
      rw [a3]; exact h.tl j (by omega)
  · have ei := (grown_same L d i (by omega)).2.1
    by_cases e : j = L.length
    · rw [e, grown_new] at h0 ⊢
      rw [ei]
      exact hasId_no (hid h0) i (by omega)
    · have ej := (grown_same L d j (by omega)).2.1
      rw [ej] at h0 ⊢
      rw [ei]
      exact h.id i j hij (by omega) h0
theorem text_same (L : List Nd) (k : Nat) (t : List UInt8) (j : Nat) : (nth (withText L k t) j).kind = (nth L j).kind ∧ (nth (withText L k t) j).attr = (nth L j).attr ∧ (nth (withText L k t) j).kids = (nth L j).kids ∧ (nth (withText L k t) j).up = (nth L j).up ∧ (j ≠ k → nth (withText L k t) j = nth L j) ∧ (j = k → j < L.length → nth (withText L k t) j = { nth L j with text := t }) := by
  unfold withText
  by_cases e : j = k
  · subst e
    by_cases h : j < L.length
    · rw [nth_mod_same _ h]; exact ⟨rfl, rfl, rfl, rfl, fun e => absurd rfl e, fun _ _ => rfl⟩
    · have : nth (L.modify j fun u => { u with text := t }) j = nth L j := by unfold nth; rw [List.getElem?_modify]; simp [h]
      rw [this]
      exact ⟨rfl, rfl, rfl, rfl, fun _ => rfl, fun _ h2 => absurd h2 h⟩
  · rw [nth_mod_other _ e]; exact ⟨rfl, rfl, rfl, rfl, fun _ => rfl, fun e2 => absurd e2 e⟩
theorem Vl.texted {s : ByteArray} {L : List Nd} {k : Nat} {t : List UInt8} (h : Vl s L) (hk : k < L.length) (h5 : (nth L k).kind = 5) (ht : t.length ≤ s.size) : Vl s (withText L k t) := by
  have hl : (withText L k t).length = L.length := by unfold withText; simp
  refine ⟨fun j hj => ?_, fun j hj => ?_, fun i j hij hj h0 => ?_, by rw [hl]; exact h.cnt⟩
  · obtain ⟨a1, a2, a3, _, a5, a6⟩ := text_same L k t j
    have := h.nv j (by omega)
    refine ⟨by rw [a1]; exact this.kind, by rw [a2]; exact this.len, by rw [a1, a2]; exact this.att, ?_⟩
    by_cases e : j = k
    · right; rw [a1, e]; exact h5
    · rw [a5 e]; exact this.text
  · obtain ⟨a1, a2, a3, _, a5, a6⟩ := text_same L k t j
    by_cases e : j = k
    · rw [a6 e (by omega)]; exact ht
    · rw [a5 e]; exact h.tl j (by omega)
  · rw [(text_same L k t j).2.1] at h0 ⊢
    rw [(text_same L k t i).2.1]
    exact h.id i j hij (by omega) h0

structure NOk (s : ByteArray) (L L' : List Nd) (up : Int) (depth : Nat) : Prop where
  vl : Vl s L'
  lt : L.length < L'.length
  ch : Ch (nth L') depth [L.length] L.length L'.length
  upE : (nth L' L.length).up = up
  old : ∀ j : Nat, j < L.length → (j : Int) ≠ up → nth L' j = nth L j
  par : ∀ j : Nat, j < L.length → (j : Int) = up → nth L' j = { nth L j with kids := (nth L j).kids ++ [L.length] }
structure KOk (s : ByteArray) (L L' : List Nd) (u d : Nat) (ks : List Nat) : Prop where
  vl : Vl s L'
  le : L.length ≤ L'.length
  ch : Ch (nth L') d ks L.length L'.length
  old : ∀ j : Nat, j < L.length → j ≠ u → nth L' j = nth L j
  par : nth L' u = { nth L u with kids := (nth L u).kids ++ ks }
theorem NOk.kids {s : ByteArray} {L L1 : List Nd} {u d : Nat} (hu : u < L.length) (h : NOk s L L1 (u : Int) d) : KOk s L L1 u d [L.length] :=
  ⟨h.vl, Nat.le_of_lt h.lt, h.ch, fun j hj hju => h.old j hj (fun e => hju (Int.ofNat.inj e)), h.par u hu rfl⟩
theorem KOk.trans {s : ByteArray} {L L1 L2 : List Nd} {u d : Nat} {ks ks' : List Nat} (hu : u < L.length) (h : KOk s L L1 u d ks) (k : KOk s L1 L2 u d ks') : KOk s L L2 u d (ks ++ ks') := by
  refine ⟨k.vl, Nat.le_trans h.le k.le, ?_, fun j hj hju => (k.old j (Nat.lt_of_lt_of_le hj h.le) hju).trans (h.old j hj hju), ?_⟩
  · exact (h.ch.congr (fun j h1 h2 => k.old j h2 (by omega))).app k.ch
  · rw [k.par, h.par, List.append_assoc]
def NodeV (s : ByteArray) (u d : Nat) (node : PS → Except Nat PS) : Prop := ∀ a b, Vl s a.L → u < a.L.length → node a = .ok b → b.er = none → a.er = none ∧ NOk s a.L b.L (u : Int) d
theorem kids_val {s : ByteArray} {u d : Nat} {node : PS → Except Nat PS} (back : ∀ a b, node a = .ok b → b.er = none → a.er = none) (hn : NodeV s u d node) : ∀ f st st', Vl s st.L → u < st.L.length → kidsF s node f st = .ok st' → st'.er = none → st.er = none ∧ ∃ ks, KOk s st.L st'.L u d ks
  | 0, st, st', h, hu, e, h0 => by cases e
  | f + 1, st, st', h, hu, e, h0 => by
    have bk : ∀ f st st', kidsF s node f st = .ok st' → st'.er = none → st.er = none := by
      intro f
      induction f with
      | zero => intro st st' e; cases e
      | succ f ih =>
        intro st st' e h0
        unfold kidsF at e
        split at e
        · cases e
        · rename_i st2 he
          split at e
          · exact back _ _ he (ih { st2 with i := gotI s st2.i 44 } _ e h0)
          · split at e
            · cases e
            · injection e with e; subst e; exact back _ _ he h0
    unfold kidsF at e
    split at e
    · cases e
    · rename_i st2 he
      split at e
      · have h2 : st2.er = none := bk _ { st2 with i := gotI s st2.i 44 } _ e h0
        obtain ⟨q1, q2⟩ := hn _ _ h hu he h2
        obtain ⟨_, ks, q3⟩ := kids_val back hn f { st2 with i := gotI s st2.i 44 } _ q2.vl (Nat.lt_trans hu q2.lt) e h0
        exact ⟨q1, _, (q2.kids hu).trans hu q3⟩
      · split at e
        · cases e
        · injection e with e; subst e
          obtain ⟨q1, q2⟩ := hn _ _ h hu he h0
          exact ⟨q1, _, q2.kids hu⟩
/-- Behind a node's body. -/
structure BOk (s : ByteArray) (L L' : List Nd) (u d : Nat) : Prop where
  vl : Vl s L'
  le : L.length ≤ L'.length
  ch : Ch (nth L') d (nth L' u).kids L.length L'.length
  ok : KidOk (nth L' u)
  upE : (nth L' u).up = (nth L u).up
  old : ∀ j : Nat, j < L.length → j ≠ u → nth L' j = nth L j
theorem body_val {s : ByteArray} {kind u d : Nat} {node : PS → Except Nat PS} (back : ∀ a b, node a = .ok b → b.er = none → a.er = none) (hn : NodeV s u d node) {st st' : PS} (h : Vl s st.L) (hu : u < st.L.length) (hk : (nth st.L u).kind = kind) (hkids : (nth st.L u).kids = []) (e : bodyR s kind u node st = .ok st') (h0 : st'.er = none) : st.er = none ∧ BOk s st.L st'.L u d := by
  have fin : ∀ {L' : List Nd} {ks : List Nat}, KOk s st.L L' u d ks → (kind < 3 ∨ (3 ≤ kind ∧ kind < 5 ∧ ks.length = 1)) → BOk s st.L L' u d := fun {L' ks} q hq => by
    have ek : (nth L' u).kids = ks := by rw [q.par, hkids]; rfl
    have ekd : (nth L' u).kind = kind := by rw [q.par]; exact hk
    refine ⟨q.vl, q.le, by rw [ek]; exact q.ch, ?_, by rw [q.par], q.old⟩
    unfold KidOk
    rw [ekd, ek]
    rcases hq with a | a
    · exact .inl a
    · exact .inr (.inl a)
  have same : 5 ≤ kind ∨ kind < 3 → BOk s st.L st.L u d := fun hq => by
    refine ⟨h, Nat.le_refl _, by rw [hkids]; exact .nil _ _, ?_, rfl, fun _ _ _ => rfl⟩
    unfold KidOk
    rw [hk]
    rcases hq with a | a
    · exact .inr (.inr ⟨a, hkids⟩)
    · exact .inl a
  unfold bodyR at e
  split at e
  · rename_i h3
    split at e
    · cases e
    · split at e
      · injection e with e; subst e; exact ⟨h0, same (.inr h3)⟩
      · rename_i i2 _ _
        obtain ⟨q1, ks, q2⟩ := kids_val back hn _ { st with i := sk s i2 } _ h hu e h0
        exact ⟨q1, fin q2 (.inl h3)⟩
  · rename_i h3
    split at e
    · rename_i h5
      split at e
      · cases e
      · split at e
        · cases e
        · rename_i i2 _ _ st3 he
          split at e
          · cases e
          · injection e with e
            have h0' : st3.er = none := by rw [← e] at h0; exact h0
            obtain ⟨q1, q2⟩ := hn { st with i := i2 } st3 h hu he h0'
            refine ⟨q1, ?_⟩
            rw [← e]
            exact fin (q2.kids hu) (.inr ⟨by omega, h5, rfl⟩)
    · rename_i h5
      split at e
      · rename_i h6
        split at e
        · cases e
        · rename_i i2 t he
          injection e with e
          subst e
          refine ⟨h0, h.texted hu (by rw [hk, h6]) (quo_len he), ?_, ?_, ?_, ?_, fun j hj hju => (text_same st.L u t j).2.2.2.2.1 hju⟩
          · show st.L.length ≤ (withText st.L u t).length
            unfold withText; simp
          · show Ch (nth (withText st.L u t)) d (nth (withText st.L u t) u).kids st.L.length (withText st.L u t).length
            rw [(text_same st.L u t u).2.2.1, hkids]
            have : (withText st.L u t).length = st.L.length := by unfold withText; simp
            rw [this]
            exact .nil _ _
          · unfold KidOk
            rw [(text_same st.L u t u).1, (text_same st.L u t u).2.2.1, hk]
            exact .inr (.inr ⟨by omega, hkids⟩)
          · exact (text_same st.L u t u).2.2.2.1
      · injection e with e; subst e; exact ⟨h0, same (.inl (by omega))⟩
theorem kids_back {s : ByteArray} {node : PS → Except Nat PS} (back : ∀ a b, node a = .ok b → b.er = none → a.er = none) : ∀ f st st', kidsF s node f st = .ok st' → st'.er = none → st.er = none
  | 0, st, st', e, h0 => by cases e
  | f + 1, st, st', e, h0 => by
    unfold kidsF at e
    split at e
    · cases e
    · rename_i st2 he
      split at e
      · exact back _ _ he (kids_back back f { st2 with i := gotI s st2.i 44 } _ e h0)
      · split at e
        · cases e
        · injection e with e; subst e; exact back _ _ he h0
theorem body_back {s : ByteArray} {kind u : Nat} {node : PS → Except Nat PS} (back : ∀ a b, node a = .ok b → b.er = none → a.er = none) {st st' : PS} (e : bodyR s kind u node st = .ok st') (h0 : st'.er = none) : st.er = none := by
  unfold bodyR at e
  split at e
  · split at e
    · cases e
    · split at e
      · injection e with e; subst e; exact h0
      · rename_i i2 _ _
        exact kids_back back _ { st with i := sk s i2 } _ e h0
  · split at e
    · split at e
      · cases e
      · split at e
        · cases e
        · rename_i i2 _ _ st3 he
          split at e
          · cases e
          · injection e with e
            exact back { st with i := i2 } _ he (by rw [← e] at h0; exact h0)
    · split at e
      · split at e
        · cases e
        · injection e with e; subst e; exact h0
      · injection e with e; subst e; exact h0
theorem node_back {s : ByteArray} : ∀ f (up : Int) depth st st', nodeF s f up depth st = .ok st' → st'.er = none → st.er = none
  | 0, up, depth, st, st', e, h0 => by cases e
  | f + 1, up, depth, st, st', e, h0 => by
    unfold nodeF at e
    dsimp only at e
    split at e
    · cases e
    · split at e
      · cases e
      · rename_i i2 er2 a he
        have h1 := body_back (node_back f _ _) e h0
        exact (addIf_none (addIf_none (attrsR_val he h1).1).2).2
theorem node_val {s : ByteArray} : ∀ f (up : Int) depth st st', Vl s st.L → up < (st.L.length : Int) → nodeF s f up depth st = .ok st' → st'.er = none → NOk s st.L st'.L up depth
  | 0, up, depth, st, st', h, hp, e, h0 => by cases e
  | f + 1, up, depth, st, st', h, hp, e, h0 => by
    unfold nodeF at e
    dsimp only at e
    split at e
    · cases e
    · rename_i hkd
      split at e
      · cases e
      · rename_i i2 er2 a he
        have h1 := body_back (node_back f _ _) e h0
        obtain ⟨h2, hav⟩ := attrsR_val he h1
        obtain ⟨g1, h3⟩ := addIf_none h2
        obtain ⟨g2, h4⟩ := addIf_none h3
        have g1 : depth < 12 := by have : ¬ 12 ≤ depth := by simpa using g1
                                   omega
        have g2 : st.L.length < 100 := by have : ¬ 100 ≤ st.L.length := by simpa using g2
                                          omega
        have hfb := findF_bd (s.extract (sk s st.i) (run letter s (sk s st.i))) kindsL 0
        obtain ⟨kd, hkk⟩ : ∃ z, findF kindsL (s.extract (sk s st.i) (run letter s (sk s st.i))) 0 = z := ⟨_, rfl⟩
        rw [hkk] at e hfb hkd hav
        have hk0 : 0 ≤ kd := Int.not_lt.1 (fun e => hkd (.inr e))
        have hk7 : kd.toNat < 7 := by
          have : kindsL.length = 7 := rfl
          rw [this] at hfb
          rcases hfb with e | e <;> omega
        obtain ⟨d, hd⟩ : ∃ d : Nd, (⟨kd.toNat, a, [], [], up⟩ : Nd) = d := ⟨_, rfl⟩
        rw [hd] at e
        have hnv : Nv d := by rw [← hd]; exact ⟨hk7, hav.len, hav.att, .inl rfl⟩
        have hg : Vl s (grown st.L d) := h.grown hnv (by rw [← hd]; exact Nat.zero_le _) (by rw [← hd]; exact hav.id) g2
        have hl := grown_len st.L d
        have hn := grown_new st.L d
        obtain ⟨_, hb⟩ := body_val (d := depth + 1) (node_back f _ _) (fun a b ga pa hab hb0 => ⟨node_back f _ _ _ _ hab hb0, node_val f (st.L.length : Int) (depth + 1) a b ga (by omega) hab hb0⟩) (st := { i := i2, L := grown st.L d, er := er2 }) hg (by show st.L.length < (grown st.L d).length; omega) (by show (nth (grown st.L d) st.L.length).kind = _; rw [hn, ← hd]) (by show (nth (grown st.L d) st.L.length).kids = _; rw [hn, ← hd]) e h0
        have hbl : (grown st.L d).length ≤ st'.L.length := hb.le
        have hdu : d.up = up := by rw [← hd]
        have hbc : Ch (nth st'.L) (depth + 1) (nth st'.L st.L.length).kids (grown st.L d).length st'.L.length := hb.ch
        have hbu : (nth st'.L st.L.length).up = (nth (grown st.L d) st.L.length).up := hb.upE
        have hbo : ∀ j : Nat, j < (grown st.L d).length → j ≠ st.L.length → nth st'.L j = nth (grown st.L d) j := hb.old
        refine ⟨hb.vl, by omega, .cons g1 hb.ok (by rw [hl] at hbc; exact hbc) (.nil _ _), by rw [hbu, hn, hdu], fun j hj hju => ?_, fun j hj hju => ?_⟩
        · rw [hbo j (by omega) (by omega)]
          exact (grown_same st.L d j hj).2.2.2.2.1 (by rw [hdu]; exact hju)
        · rw [hbo j (by omega) (by omega)]
          exact (grown_same st.L d j hj).2.2.2.2.2 (by rw [hdu]; exact hju)
/-- What a tree is. -/
structure Tree (s : ByteArray) (L : List Nd) : Prop where
  sz : s.size ≤ 4000
  gr : Gr1 L
  pos : 0 < L.length
  vl : Vl s L
  ch : Ch (nth L) 0 [0] 0 L.length
  up0 : (nth L 0).up = -1
theorem parse_tree {s : ByteArray} {L : List Nd} (h : parse s = .ok L) : Tree s L := by
  obtain ⟨q1, q2⟩ := parse_grown h
  unfold parse at h
  split at h
  · cases h
  · rename_i hs
    split at h
    · cases h
    · rename_i st he
      split at h
      · cases h
      · split at h
        · cases h
        · rename_i her
          injection h with h
          subst h
          have := node_val _ _ _ _ _ ⟨fun j hj => absurd hj (by simp), fun j hj => absurd hj (by simp), fun i j _ hj => absurd hj (by simp), by simp⟩ (by show (-1 : Int) < 0; decide) he her
          exact ⟨by omega, q1, q2, this.vl, this.ch, this.upE⟩

end Go.Proofs.YtnkebfmlaliddaaGreatDoor

namespace Go.Proofs.YtnkebfmlaliddaaGreatDoor
open Go.RowKit
set_option linter.unusedVariables false

/-- The reader's state in memory. -/
structure RW (W0 W : World) (rb B : Nat) (s : ByteArray) (i : Nat) (L : List Nd) (f : Flt) (bad dep : Int) : Prop where
  il : i ≤ s.size
  ll : bad < 0 → L.length ≤ i
  kl : ∀ j, (nth L j).kids.length ≤ L.length
  rbB : rb < B
  le : B ≤ W.heap.size
  fr : Fr B rb W0 W
  mem : ∃ nv AV KV er at_, RS W rb s i nv bad er at_ dep ∧ (bad < 0 → FL er at_ f i) ∧ RD W B nv L AV KV
section
variable {W0 W W' : World} {rb B i i' : Nat} {s : ByteArray} {L : List Nd} {f : Flt} {bad bad' dep : Int}
theorem RW.step (h : RW W0 W rb B s i L f bad dep) (hi : i ≤ i') (hl : i' ≤ s.size) (hbb : bad' < 0 → bad < 0) (g : W.grownBy W' (some rb)) (hr : ∀ nv er at_, RS W rb s i nv bad er at_ dep → RS W' rb s i' nv bad' er at_ dep) : RW W0 W' rb B s i' L f bad' dep := by
  obtain ⟨nv, AV, KV, er, at_, h1, h2, h3⟩ := h.mem
  exact ⟨hl, fun e => Nat.le_trans (h.ll (hbb e)) hi, h.kl, h.rbB, Nat.le_trans h.le g.size, h.fr.trans (Fr.grown g h.le), nv, AV, KV, er, at_, hr nv er at_ h1, fun e => (h2 (hbb e)).on hi, h3.up (Up.grown g h.rbB)⟩
theorem RW.below (h : RW W0 W rb B s i L f bad dep) (hb : Below W.heap.size W W') : RW W0 W' rb B s i L f bad dep :=
  h.step (Nat.le_refl _) h.il id (gr_below hb) (fun nv er at_ r => r.below hb)
theorem mI_ge (s : ByteArray) (i c : Nat) (bad : Int) : i ≤ mI s i c bad := by
  unfold mI; split
  · exact gotI_ge s i c
  · exact sk_ge s i
theorem mB_neg {s : ByteArray} {i c : Nat} {bad : Int} (h : mB s i c bad < 0) : bad < 0 := by
  unfold mB at h; split at h
  · assumption
  · exact h
theorem rw_skip (h : RW W0 W rb B s i L f bad dep) (hs : s.size ≤ 1073741824) : Calls Tryz.prog 20 #[.pointer (some ⟨rb, 0, none⟩)] W fun e w' => e = .returned (.tuple #[]) ∧ RW W0 w' rb B s (sk s i) L f bad dep := by
  obtain ⟨nv, AV, KV, er, at_, h1, h2, h3⟩ := h.mem
  refine (skip_any rb s i nv bad er at_ dep W h1 (by omega) h.il).mono ?_
  rintro e w' ⟨rfl, r, g⟩
  exact ⟨rfl, sk_le s i h.il, fun e => Nat.le_trans (h.ll e) (sk_ge s i), h.kl, h.rbB, Nat.le_trans h.le g.size, h.fr.trans (Fr.grown g h.le), nv, AV, KV, er, at_, r, fun e => (h2 e).on (sk_ge s i), h3.up (Up.grown g h.rbB)⟩
theorem rw_must (c : Nat) (hc : c < 256) (h : RW W0 W rb B s i L f bad dep) (hs : s.size ≤ 1073741824) : Calls Tryz.prog 51 #[.pointer (some ⟨rb, 0, none⟩), .int .u8 (c : Int)] W fun e w' => e = .returned (.tuple #[]) ∧ RW W0 w' rb B s (mI s i c bad) L f (mB s i c bad) dep := by
  obtain ⟨nv, AV, KV, er, at_, h1, h2, h3⟩ := h.mem
  refine (must_all rb s i nv bad er at_ dep c W h1 (by omega) h.il hc).mono ?_
  rintro e w' ⟨rfl, r, g⟩
  have hi := mI_ge s i c bad
  have hbb := mB_neg (s := s) (i := i) (c := c) (bad := bad)
  exact ⟨rfl, mI_le bad hc h.il, fun e => Nat.le_trans (h.ll (hbb e)) hi, h.kl, h.rbB, Nat.le_trans h.le g.size, h.fr.trans (Fr.grown g h.le), nv, AV, KV, er, at_, r, fun e => (h2 (hbb e)).on hi, h3.up (Up.grown g h.rbB)⟩
theorem rw_got (c : Nat) (hc : c < 256) (h : RW W0 W rb B s i L f bad dep) (hs : s.size ≤ 1073741824) : Calls Tryz.prog 78 #[.pointer (some ⟨rb, 0, none⟩), .int .u8 (c : Int)] W fun e w' => e = .returned (.bool (gB s i c bad)) ∧ RW W0 w' rb B s (mI s i c bad) L f bad dep := by
  obtain ⟨nv, AV, KV, er, at_, h1, h2, h3⟩ := h.mem
  refine (got_all rb s i nv bad er at_ dep c W h1 (by omega) h.il hc).mono ?_
  rintro e w' ⟨rfl, r, g⟩
  have hi := mI_ge s i c bad
  exact ⟨rfl, mI_le bad hc h.il, fun e => Nat.le_trans (h.ll e) hi, h.kl, h.rbB, Nat.le_trans h.le g.size, h.fr.trans (Fr.grown g h.le), nv, AV, KV, er, at_, r, fun e => (h2 e).on hi, h3.up (Up.grown g h.rbB)⟩
theorem RW.c3 (h : RW W0 W rb B s i L f bad dep) : W.cell? ⟨rb, 3, none⟩ = some (.int .i64 bad) := by
  obtain ⟨nv, AV, KV, er, at_, h1, h2, h3⟩ := h.mem
  exact h1.c3
theorem RW.rdI (h : RW W0 W rb B s i L f bad dep) : rdI W rb = i := by
  obtain ⟨nv, AV, KV, er, at_, h1, h2, h3⟩ := h.mem
  exact h1.rdI
end
/-- What node leaves. -/
def NOut (W0 W' : World) (rb B : Nat) (s : ByteArray) (dep : Int) (st : PS) (r : Except Nat PS) : Prop := match r with
  | .error b => ∃ i L g, RW W0 W' rb B s i L g (b : Int) dep
  | .ok st' => RW W0 W' rb B s st'.i st'.L st'.er (-1) dep ∧ st.i < st'.i ∧ st.L.length ≤ st'.L.length
def NodeR (rb B : Nat) (s : ByteArray) (f : Nat) : Prop := ∀ (up : Int) (depth : Nat) (st : PS) (w0 w : World), RW w0 w rb B s st.i st.L st.er (-1) (depth : Int) → (up = -1 ∨ (0 ≤ up ∧ up < st.L.length)) → depth ≤ st.i → s.size < f + st.i →
  Calls Tryz.prog 19 #[.pointer (some ⟨rb, 0, none⟩), .int .i64 up] w fun e w' => e = .returned (.tuple #[]) ∧ NOut w0 w' rb B s (depth : Int) st (nodeF s f up depth st)
theorem find_empty : findF kindsL ByteArray.empty 0 = -1 := by kernel_rfl

set_option maxRecDepth 100000 in
set_option maxHeartbeats 4000000 in
theorem node_bad (rb B : Nat) (s : ByteArray) (i : Nat) (L : List Nd) (f : Flt) (bad dep : Int) (up : Int) (w0 w : World) (h : RW w0 w rb B s i L f bad dep) (hb : 0 ≤ bad) (hs : s.size ≤ 1073741824) :
    Calls Tryz.prog 19 #[.pointer (some ⟨rb, 0, none⟩), .int .i64 up] w fun e w' => e = .returned (.tuple #[]) ∧ RW w0 w' rb B s (sk s i) L f bad dep := by
  have SK : Hid (Calls Tryz.prog 20 #[.pointer (some ⟨rb, 0, none⟩)] w fun e w' => e = .returned (.tuple #[]) ∧ RW w0 w' rb B s (sk s i) L f bad dep) := rw_skip h hs
  have hge : decide (0 ≤ bad) = true := decide_eq_true hb
  clear h
  go_enter Tryz.func19, Tryz.ntmps19
  go_wp2_with fail
  refine Calls.mono SK.out ?_
  rintro e w1 ⟨rfl, h1⟩
  obtain ⟨nv, AV, KV, er, at_, r1, f1, d1⟩ := h1.mem
  have c1 := r1.c1
  have H1 : Hid (RW w0 w1 rb B s (sk s i) L f bad dep) := h1
  have WO : Hid (Calls Tryz.prog 46 #[.pointer (some ⟨rb, 0, none⟩)] w1 fun e w' => e = .returned (.string ByteArray.empty) ∧ RS w' rb s (sk s i) nv bad er at_ dep ∧ w1.grownBy w' (some rb)) := by
    have := word_bad rb s (sk s i) nv bad er at_ dep w1 r1 (by omega) h1.il hb
    rw [sk_sk] at this
    exact this
  have HF1 : Hid ((bad < 0 → FL er at_ f (sk s i)) ∧ RD w1 B nv L AV KV) := ⟨f1, d1⟩
  clear r1 f1 d1 h1 SK
  go_wp2_with fail
  clear c1
  refine Calls.mono WO.out ?_
  rintro e w2 ⟨rfl, r2, g2⟩
  have H2 : Hid (RW w0 w2 rb B s (sk s i) L f bad dep) := ⟨H1.out.il, H1.out.ll, H1.out.kl, H1.out.rbB, Nat.le_trans H1.out.le g2.size, H1.out.fr.trans (Fr.grown g2 H1.out.le), nv, AV, KV, er, at_, r2, HF1.out.1, HF1.out.2.up (Up.grown g2 H1.out.rbB)⟩
  clear r2 g2 WO H1 HF1
  go_wp2_with fail
  refine Calls.mono (kinds_any w2) ?_
  rintro e w3 ⟨rfl, hn3, hl3, b3⟩
  have H3 : Hid (RW w0 w3 rb B s (sk s i) L f bad dep) := H2.out.below b3
  have FI : Hid (Calls Tryz.prog 47 #[.slice (some ⟨w2.heap.size, 0, none⟩) 7 7, .string ByteArray.empty] w3 fun e w' => e = .returned (.int .i64 (-1)) ∧ w' = w3) := by
    have := find_any kindsL ByteArray.empty w2.heap.size 0 7 7 w3 hl3 hn3 rfl (by omega)
    rw [find_empty] at this
    exact this
  clear hn3 hl3 b3 H2
  go_wp2_with fail
  refine Calls.mono FI.out ?_
  rintro e w4 ⟨rfl, hw4⟩
  obtain rfl := hw4.symm
  obtain ⟨nv, AV, KV, er, at_, r3, f3, d3⟩ := H3.out.mem
  have FA : Hid (Calls Tryz.prog 21 #[.pointer (some ⟨rb, 0, none⟩), .int .i64 (sk s i : Int)] w3 fun e w' => e = .returned (.tuple #[]) ∧ RS w' rb s (sk s i) nv bad er at_ dep ∧ w3.grownBy w' (some rb)) := by
    have := fail_any rb s (sk s i) nv bad er at_ dep (sk s i : Int) w3 r3
    have e : badI bad (sk s i : Int) = bad := by unfold badI; rw [if_neg (by omega)]
    rw [e] at this
    exact this
  have HF3 : Hid ((bad < 0 → FL er at_ f (sk s i)) ∧ RD w3 B nv L AV KV) := ⟨f3, d3⟩
  clear r3 f3 d3 FI
  go_wp2_with fail
  refine Calls.mono FA.out ?_
  rintro e w5 ⟨rfl, r5, g5⟩
  have H5 : Hid (RW w0 w5 rb B s (sk s i) L f bad dep) := ⟨H3.out.il, H3.out.ll, H3.out.kl, H3.out.rbB, Nat.le_trans H3.out.le g5.size, H3.out.fr.trans (Fr.grown g5 H3.out.le), nv, AV, KV, er, at_, r5, HF3.out.1, HF3.out.2.up (Up.grown g5 H3.out.rbB)⟩
  have c3 := r5.c3
  clear r5 g5 FA
  go_wp2
  refine bodyPost_ret (results_none rfl _ _ _) rfl ?_
  exact ⟨rfl, H5.out⟩
end Go.Proofs.YtnkebfmlaliddaaGreatDoor
