/-
  A byte more: the document's terminal goes on as the program's.
-/
import Derived.Test.YtlfffpoeioecjaaDoorG42
import Derived.Test.YtlfffpoeioecjaaDoorG25
namespace Go.Proofs.YtlfffpoeioecjaaDoor
open Go.RowKit Go.Sort
set_option linter.unusedVariables false

/-- So many steps more, and then it waits. -/
def Ends : Nat → Rm → (Rm → Prop) → Prop
  | 0, s, P => ∃ s', StepTo s s' false ∧ s'.q.size ≤ s.q.size ∧ P s'
  | n + 1, s, P => ∃ s', StepTo s s' true ∧ s'.q.size < s.q.size ∧ Ends n s' P
/-- The numbers of a sequence, as both read them. -/
structure Pn (l : Nat → Int) (a : Int) (p : List Int × Int) : Prop where
  a0 : 0 ≤ a ∧ a ≤ 16
  len : p.1.length = a.toNat
  at_ : ∀ j, j < a.toNat → p.1[j]? = some (l j)
  cur : a < 16 → p.2 = l a.toNat
  up : ∀ j, a.toNat < j → l j = 0
def Hq (t : Tm) : St → List UInt8 → Prop
  | .out, q => q = []
  | .esc, q => q = [27] ∧ t.r.lw = 0
  | .amid h, q => q = h.data.toList ∧ q ≠ [] ∧ ¬ full q
  | .wth l a, q => ∃ m, q = 27 :: 91 :: m ∧ t.r.lw = 0 ∧ (∀ b ∈ m, 48 ≤ b.toNat ∧ b.toNat ≤ 59) ∧ Pn l a (parS ([], 0) m)
/-- The document's terminal stands as the program's. -/
def Docd (t : Tm) (st : St) (wv : Nat → Bool) (s : Rm) : Prop := ∃ q la mks, s = mkR t q la mks wv ∧ Lst t la mks ∧ Hq t st q.data.toList
def wvA (t : Tm) (l : List UInt8) (wv : Nat → Bool) : Nat → Bool := if full l then wvP t ((runes l)[0]?.getD 0) wv else wv
def wvO (t : Tm) (b : UInt8) (wv : Nat → Bool) : Nat → Bool := if b.toNat = 27 then wv else if b.toNat < 32 ∨ b.toNat = 127 then wv else wvA t [b] wv
def wvPs (t : Tm) : List Int → (Nat → Bool) → Nat → Bool
  | [], wv => wv
  | r :: R, wv => wvPs (prT t r) R (wvP t r wv)

theorem seq_single {b : UInt8} (h : 0x80 ≤ b.toNat) : seq [b] = 0 := by
  rcases seq_vd (l := [b]) h with ⟨v, _⟩ | ⟨_, e⟩
  · exact absurd v.2.1.1 (by simp)
  · exact e
theorem wh_W {t : Tm} {r : Int} : (prT t r).W = t.W ∧ (prT t r).H = t.H := ⟨congrArg Prod.fst (wh_pr t r), congrArg Prod.snd (wh_pr t r)⟩
def emp : ByteArray := ⟨#[]⟩

section
variable {t : Tm} {la mks : Int} {wv : Nat → Bool}
/-- A rune is printed, and nothing is left. -/
theorem ends_print (hW : 1 ≤ t.W ∧ t.W ≤ 400) (hH : 1 ≤ t.H ∧ t.H ≤ 400) (ht : Ti t) (hl : Lst t la mks) {q : ByteArray} (hq : 0 < q.size) {r : Int} (h : StepTo (mkR t q la mks wv) (prR { mkR t q la mks wv with q := emp } r) true) : Ends 1 (mkR t q la mks wv) (Docd (prT t r) .out (wvP t r wv)) := by
  obtain ⟨la', mks', e, hl'⟩ := pr_sim hW hH ht hl emp wv r
  have e' : prR { mkR t q la mks wv with q := emp } r = mkR (prT t r) emp la' mks' (wvP t r wv) := e
  rw [e'] at h
  exact ⟨_, h, hq, _, st_nil rfl, Nat.le_refl _, emp, la', mks', rfl, hl', rfl⟩
theorem feed_out (hW : 1 ≤ t.W ∧ t.W ≤ 400) (hH : 1 ≤ t.H ∧ t.H ≤ 400) (ht : Ti t) (hl : Lst t la mks) (b : UInt8) {q : ByteArray} (hq : q.data.toList = [b]) : ∃ n, Ends n (mkR t q la mks wv) (Docd (outT t b).1 (outT t b).2 (wvO t b wv)) := by
  have hz := size_of hq
  simp only [List.length_cons, List.length_nil] at hz
  by_cases h27 : b.toNat = 27
  · have e1 : outT t b = ({ t with r := clr t.r }, .esc) := by unfold outT; rw [if_pos h27]
    have e2 : wvO t b wv = wv := by unfold wvO; rw [if_pos h27]
    rw [e1, e2]
    have hb : b = 27 := by
      apply UInt8.toNat_inj.1
      rw [h27]; rfl
    rw [hb] at hq
    exact ⟨0, _, st_esc (s := mkR t q la mks wv) hq, Nat.le_refl _, q, -1, mks, rfl, .inl ⟨rfl, rfl⟩, hq, rfl⟩
  · by_cases hc : b.toNat < 32 ∨ b.toNat = 127
    · have e1 : outT t b = ({ t with r := clr t.r }, .out) := by unfold outT; rw [if_neg h27, if_pos hc]
      have e2 : wvO t b wv = wv := by unfold wvO; rw [if_neg h27, if_pos hc]
      rw [e1, e2]
      refine ⟨1, _, st_ctl (s := mkR t q la mks wv) hq h27 hc, ?_, _, st_nil rfl, Nat.le_refl _, emp, -1, mks, rfl, .inl ⟨rfl, rfl⟩, rfl⟩
      show 0 < q.size
      omega
    · have e1 : outT t b = amT t ⟨#[b]⟩ := by unfold outT; rw [if_neg h27, if_neg hc]
      have e2 : wvO t b wv = wvA t [b] wv := by unfold wvO; rw [if_neg h27, if_neg hc]
      rw [e1, e2]
      have eb : byt [b] 0 = b.toNat := rfl
      unfold amT wvA
      show ∃ n, Ends n _ (Docd (if full [b] then (prT t ((runes [b])[0]?.getD 0), St.out) else (t, .amid ⟨#[b]⟩)).1 (if full [b] then (prT t ((runes [b])[0]?.getD 0), St.out) else (t, .amid ⟨#[b]⟩)).2 (if full [b] then wvP t ((runes [b])[0]?.getD 0) wv else wv))
      by_cases h80 : b.toNat < 0x80
      · have hf : full [b] := ⟨by simp, .inl (by rw [eb]; omega)⟩
        have hs : seq [b] = ([b] : List UInt8).length := by unfold seq; rw [if_pos (by rw [eb]; exact h80)]; rfl
        obtain ⟨r, hr⟩ := runes_sole (by simp) hs
        rw [if_pos hf, if_pos hf, hr]
        exact ⟨1, ends_print hW hH ht hl (by omega) (st_seq (s := mkR t q la mks wv) hq (by simp) (by simp) (by rw [eb]; exact h27) (by rw [eb]; exact hc) hs (ri_of ht hl) hr)⟩
      · have hs := seq_single (b := b) (by omega)
        by_cases hf : full [b]
        · have hr : runes [b] = [65533] := by rw [runes_bad (by simp) hs]; rfl
          rw [if_pos hf, if_pos hf, hr]
          exact ⟨1, ends_print hW hH ht hl (by omega) (st_bad (s := mkR t q la mks wv) hq (by simp) (by omega) hs hf (ri_of ht hl))⟩
        · rw [if_neg hf, if_neg hf]
          exact ⟨0, _, st_wait (s := mkR t q la mks wv) hq (by simp) (by simp) (by rw [eb]; omega) hs hf (ri_of ht hl), Nat.le_refl _, q, la, mks, rfl, hl, hq, by rw [hq]; simp, by rw [hq]; exact hf⟩
end
theorem feed_tail : ∀ (u : List UInt8) (hu : ∀ c ∈ u, 0x80 ≤ c.toNat ∧ c.toNat ≤ 0xBF) (hul : u.length ≤ 4) (t : Tm) (hW : 1 ≤ t.W ∧ t.W ≤ 400) (hH : 1 ≤ t.H ∧ t.H ≤ 400) (ht : Ti t) (la mks : Int) (hl : Lst t la mks) (wv : Nat → Bool) (b : UInt8) (q : ByteArray) (hq : q.data.toList = u ++ [b]),
    ∃ n, Ends n (mkR t q la mks wv) (Docd (outT (prsT t (List.replicate u.length 65533)) b).1 (outT (prsT t (List.replicate u.length 65533)) b).2 (wvO (prsT t (List.replicate u.length 65533)) b (wvPs t (List.replicate u.length 65533) wv)))
  | [], hu, hul, t, hW, hH, ht, la, mks, hl, wv, b, q, hq => feed_out hW hH ht hl b hq
  | c :: u, hu, hul, t, hW, hH, ht, la, mks, hl, wv, b, q, hq => by
    have hc := hu c (List.mem_cons_self ..)
    have ec : byt (c :: (u ++ [b])) 0 = c.toNat := rfl
    have hs : seq (c :: (u ++ [b])) = 0 := seq_low (by rw [ec]; omega) (by rw [ec]; omega)
    have hf : full (c :: (u ++ [b])) := ⟨by simp, .inl (by rw [ec]; omega)⟩
    obtain ⟨la', mks', e, hl'⟩ := pr_sim hW hH ht hl ⟨(u ++ [b]).toArray⟩ wv 65533
    have h1 : StepTo (mkR t q la mks wv) (mkR (prT t 65533) ⟨(u ++ [b]).toArray⟩ la' mks' (wvP t 65533 wv)) true := by
      rw [← e]
      exact st_bad (s := mkR t q la mks wv) (u := u ++ [b]) hq (by rw [List.length_append]; simp only [List.length_cons, List.length_nil] at hul ⊢; omega) hc.1 hs hf (ri_of ht hl)
    have hwh := wh_W (t := t) (r := 65533)
    obtain ⟨n, hn⟩ := feed_tail u (fun d hd => hu d (List.mem_cons_of_mem _ hd)) (by simp only [List.length_cons] at hul; omega) (prT t 65533) (by rw [hwh.1]; exact hW) (by rw [hwh.2]; exact hH) (ht.pr 65533) la' mks' hl' (wvP t 65533 wv) b ⟨(u ++ [b]).toArray⟩ (by simp)
    refine ⟨n + 1, _, h1, ?_, hn⟩
    have hz := size_of hq
    simp only [List.length_cons, List.length_append, List.length_nil] at hz
    show (u ++ [b]).toArray.size < q.size
    simp
    omega
theorem feed_amid {t : Tm} (hW : 1 ≤ t.W ∧ t.W ≤ 400) (hH : 1 ≤ t.H ∧ t.H ≤ 400) (ht : Ti t) {la mks : Int} (hl : Lst t la mks) {wv : Nat → Bool} {h : ByteArray} (hh : h.data.toList ≠ []) (hf : ¬ full h.data.toList) (b : UInt8) {q : ByteArray} (hq : q.data.toList = h.data.toList ++ [b]) :
    ∃ n, Ends n (mkR t q la mks wv) (Docd (amA t h b).1 (amA t h b).2 (if full (h.data.toList ++ [b]) ∧ (runes (h.data.toList ++ [b])).length ≠ 1 then wvO (prsT t (runes h.data.toList)) b (wvPs t (runes h.data.toList) wv) else wvA t (h.data.toList ++ [b]) wv)) := by
  have el : (h ++ (⟨#[b]⟩ : ByteArray)).data.toList = h.data.toList ++ [b] := by simp
  obtain ⟨q0, q1, q2, q3⟩ := not_full hh hf
  have hN := n_bd (byt h.data.toList 0)
  obtain ⟨l, hl0⟩ : ∃ l, h.data.toList = l := ⟨_, rfl⟩
  rw [hl0] at hh hf hq q0 q1 q2 q3 hN el ⊢
  have hp : 0 < l.length := List.length_pos_iff.2 hh
  have e0 : byt (l ++ [b]) 0 = byt l 0 := by unfold byt; rw [List.getD_eq_getElem?_getD, List.getElem?_append_left hp, List.getD_eq_getElem?_getD]
  have hz := size_of hq
  rw [List.length_append] at hz
  simp only [List.length_cons, List.length_nil] at hz
  have hll : (l ++ [b]).length ≤ 5 := by rw [List.length_append]; simp; omega
  unfold amA
  rw [el]
  by_cases hs : seq (l ++ [b]) = 0
  · by_cases hfl : full (l ++ [b])
    · have hr1 : (runes (l ++ [b])).length ≠ 1 := by
        rw [runes_bad (by simp) hs]
        obtain ⟨a, u, rfl⟩ := List.exists_cons_of_ne_nil hh
        show (65533 :: runes (u ++ [b])).length ≠ 1
        have := runes_step (l := u ++ [b]) (by simp)
        rw [this]
        simp
      rw [if_pos ⟨hfl, hr1⟩, if_pos ⟨hfl, hr1⟩, hl0, runes_amid hh hf]
      obtain ⟨a, u, rfl⟩ := List.exists_cons_of_ne_nil hh
      have ea : byt (a :: u) 0 = a.toNat := rfl
      rw [ea] at q0
      obtain ⟨la', mks', e, hl'⟩ := pr_sim hW hH ht hl ⟨(u ++ [b]).toArray⟩ wv 65533
      have h1 : StepTo (mkR t q la mks wv) (mkR (prT t 65533) ⟨(u ++ [b]).toArray⟩ la' mks' (wvP t 65533 wv)) true := by
        rw [← e]
        exact st_bad (s := mkR t q la mks wv) (u := u ++ [b]) hq (by rw [List.length_append]; simp only [List.length_append, List.length_cons, List.length_nil] at hll ⊢; omega) (by omega) hs hfl (ri_of ht hl)
      have hwh := wh_W (t := t) (r := 65533)
      obtain ⟨n, hn⟩ := feed_tail u (tail_cont hf) (by simp only [List.length_append, List.length_cons, List.length_nil] at hll; omega) (prT t 65533) (by rw [hwh.1]; exact hW) (by rw [hwh.2]; exact hH) (ht.pr 65533) la' mks' hl' (wvP t 65533 wv) b ⟨(u ++ [b]).toArray⟩ (by simp)
      refine ⟨n + 1, _, h1, ?_, hn⟩
      show (u ++ [b]).toArray.size < q.size
      simp only [List.length_cons] at hz
      simp
      omega
    · rw [if_neg (fun z => hfl z.1), if_neg (fun z => hfl z.1)]
      unfold amT wvA
      rw [el, if_neg hfl, if_neg hfl]
      exact ⟨0, _, st_wait (s := mkR t q la mks wv) hq (by simp) (by omega) (by rw [e0]; omega) hs hfl (ri_of ht hl), Nat.le_refl _, q, la, mks, rfl, hl, by rw [hq, el], by rw [hq]; simp, by rw [hq]; exact hfl⟩
  · have hs1 := more_one hh hf b hs
    have hfl := full_seq (by simp) hs1
    obtain ⟨r, hr⟩ := runes_sole (by simp) hs1
    have hr1 : ¬ (full (l ++ [b]) ∧ (runes (l ++ [b])).length ≠ 1) := fun z => z.2 (by rw [hr]; rfl)
    rw [if_neg hr1, if_neg hr1]
    unfold amT wvA
    rw [el, if_pos hfl, if_pos hfl, hr]
    exact ⟨1, ends_print hW hH ht hl (by omega) (st_seq (s := mkR t q la mks wv) hq (by simp) (by omega) (by rw [e0]; omega) (by rw [e0]; omega) hs1 (ri_of ht hl) hr)⟩

end Go.Proofs.YtlfffpoeioecjaaDoor

namespace Go.Proofs.YtlfffpoeioecjaaDoor
open Go.RowKit Go.Sort
set_option linter.unusedVariables false

theorem Pn.o_eq {l : Nat → Int} {a : Int} {p : List Int × Int} (h : Pn l a p) : p.1 = lst l a.toNat := by
  unfold lst
  apply List.ext_getElem?
  intro j
  by_cases hj : j < a.toNat
  · rw [h.at_ j hj, List.getElem?_map, List.getElem?_range hj]; rfl
  · rw [List.getElem?_eq_none (by rw [h.len]; omega), List.getElem?_eq_none (by simp; omega)]
theorem lst_succ (l : Nat → Int) (m : Nat) : lst l (m + 1) = lst l m ++ [l m] := by unfold lst; rw [List.range_succ, List.map_append]; rfl
/-- The numbers are the same. -/
theorem Pn.list {l : Nat → Int} {a : Int} {p : List Int × Int} (h : Pn l a p) : parE p = lst l (cntN a) := by
  have ha := h.a0
  have hl := h.len
  unfold parE cntN
  by_cases h16 : a < 16
  · rw [if_pos (by omega), h.o_eq, h.cur h16, ← lst_succ]
    congr 1
    omega
  · rw [if_neg (by omega), h.o_eq]
    congr 1
    omega
theorem Pn.digit {l : Nat → Int} {a : Int} {p : List Int × Int} (h : Pn l a p) {b : UInt8} (h1 : 48 ≤ b.toNat) (h2 : b.toNat ≤ 57) : Pn (updN l a.toNat (min (l a.toNat * 10 + ((b.toNat : Int) - 48)) 999999)) (a.toNat : Int) (par1 p b) := by
  have ha := h.a0
  have e : par1 p b = (p.1, min 999999 (10 * p.2 + (b.toNat : Int) - 48)) := by unfold par1; rw [if_neg (by omega), if_neg (by omega)]
  rw [e]
  have ea : ((a.toNat : Int)).toNat = a.toNat := Int.toNat_natCast _
  refine ⟨by omega, by rw [ea]; exact h.len, fun j hj => ?_, fun h16 => ?_, fun j hj => ?_⟩
  · rw [ea] at hj
    unfold updN
    rw [if_neg (by omega)]
    exact h.at_ j hj
  · rw [ea]
    unfold updN
    rw [if_pos rfl]
    show min 999999 (10 * p.2 + (b.toNat : Int) - 48) = _
    rw [h.cur (by omega)]
    omega
  · rw [ea] at hj
    unfold updN
    rw [if_neg (by omega)]
    exact h.up j hj
theorem Pn.semi {l : Nat → Int} {a : Int} {p : List Int × Int} (h : Pn l a p) {b : UInt8} (h1 : b.toNat = 59) : Pn l (min ((a.toNat : Int) + 1) 16) (par1 p b) := by
  have ha := h.a0
  have hl := h.len
  have e : par1 p b = (if p.1.length < 16 then p.1 ++ [p.2] else p.1, 0) := by unfold par1; rw [if_pos h1]
  rw [e]
  by_cases h16 : a < 16
  · rw [if_pos (by omega)]
    have em : (min ((a.toNat : Int) + 1) 16).toNat = a.toNat + 1 := by omega
    refine ⟨by omega, by rw [em, List.length_append]; simp; omega, fun j hj => ?_, fun q => ?_, fun j hj => ?_⟩
    · rw [em] at hj
      show (p.1 ++ [p.2])[j]? = _
      by_cases e2 : j < a.toNat
      · rw [List.getElem?_append_left (by omega)]; exact h.at_ j e2
      · obtain rfl : j = a.toNat := by omega
        rw [List.getElem?_append_right (by omega), hl, Nat.sub_self, h.cur h16]; rfl
    · rw [em]; exact (h.up _ (by omega)).symm
    · rw [em] at hj; exact h.up j (by omega)
  · rw [if_neg (by omega)]
    have em : (min ((a.toNat : Int) + 1) 16).toNat = a.toNat := by omega
    refine ⟨by omega, by rw [em]; exact hl, fun j hj => by rw [em] at hj; exact h.at_ j hj, fun q => by omega, fun j hj => by rw [em] at hj; exact h.up j hj⟩
theorem lst_get (l : Nat → Int) {m j : Nat} (h : j < m) : (lst l m)[j]?.getD 0 = l j := by unfold lst; rw [List.getElem?_map, List.getElem?_range h]; rfl
def wvD (b : Int) (z : Int) (wv : Nat → Bool) : Nat → Bool := if b = 74 ∧ z = 2 then fun _ => true else wv
/-- What the last byte asks. -/
theorem do_sim {t : Tm} (hW : 1 ≤ t.W ∧ t.W ≤ 400) (hH : 1 ≤ t.H ∧ t.H ≤ 400) (hp : PAll t.W t.H t.c) (hw : t.r.lw = 0) {l : Nat → Int} {a : Int} {p : List Int × Int} (h : Pn l a p) (b : Int) (mks : Int) (wv : Nat → Bool) {s0 : Rm} (hs : StepTo s0 { doR (mkR t emp (-1) mks wv) b (parE p) with q := emp } true) :
    ∃ wv', StepTo s0 (mkR (obeyT t b l a) emp (-1) mks wv') true ∧ (obeyT t b l a).r.lw = 0 ∧ wv' = wvD b (l 0) wv := by
  have ha := h.a0
  rw [h.list] at hs
  have hc1 : 1 ≤ cntN a := by unfold cntN; omega
  have z0 : (lst l (cntN a))[(0 : Nat)]?.getD 0 = l 0 := lst_get l (by omega)
  have hlen : (lst l (cntN a)).length = cntN a := by unfold lst; simp
  unfold doR at hs
  rw [z0, hlen] at hs
  unfold obeyT
  by_cases h1 : b = 72
  · rw [if_pos h1] at hs
    rw [if_pos h1]
    refine ⟨wv, ?_, hw, by unfold wvD; rw [if_neg (by omega)]⟩
    have ex : min (if 1 < cntN a then max 1 ((lst l (cntN a))[(1 : Nat)]?.getD 0) else 1) (t.W : Int) - 1 = min (max (l 1) 1) (t.W : Int) - 1 := by
      by_cases h2 : 1 < cntN a
      · rw [if_pos h2, lst_get l h2, Int.max_comm]
      · rw [if_neg h2]
        have : a = 0 := by unfold cntN at h2; omega
        rw [h.up 1 (by omega)]
        rfl
    have ey : min (max 1 (l 0)) (t.H : Int) - 1 = min (max (l 0) 1) (t.H : Int) - 1 := by rw [Int.max_comm]
    have e : ({ ({ mkR t emp (-1) mks wv with y := min (max 1 (l 0)) ((mkR t emp (-1) mks wv).H : Int) - 1, x := min (if 1 < cntN a then max 1 ((lst l (cntN a))[(1 : Nat)]?.getD 0) else 1) ((mkR t emp (-1) mks wv).W : Int) - 1 } : Rm) with q := emp } : Rm) = mkR { t with r := { t.r with x := min (max (l 1) 1) (t.W : Int) - 1, y := min (max (l 0) 1) (t.H : Int) - 1 } } emp (-1) mks wv := by
      show (⟨t.W, t.H, t.c, min (if 1 < cntN a then max 1 ((lst l (cntN a))[(1 : Nat)]?.getD 0) else 1) (t.W : Int) - 1, min (max 1 (l 0)) (t.H : Int) - 1, t.r.f, t.r.g, t.r.b, emp, -1, mks, wv⟩ : Rm) = _
      rw [ex, ey]
      rfl
    rw [e] at hs
    exact hs
  · rw [if_neg h1] at hs
    rw [if_neg h1]
    by_cases h2 : b = 74
    · rw [if_pos h2] at hs
      rw [if_pos h2]
      by_cases h3 : l 0 = 2
      · rw [if_pos h3] at hs
        rw [if_pos h3]
        refine ⟨fun _ => true, ?_, hw, by unfold wvD; rw [if_pos ⟨h2, h3⟩]⟩
        have := hs.same (c' := filC t.W t.H t.c 0 0 t.W t.H 0 0 0 0 0 t.W t.H) (fun y x hy hx => (fil_whole hW hH t.c hy hx).symm) (hp.filX hW hH _ _ _ _ _ _ _ _ _ _ _)
        exact this
      · rw [if_neg h3] at hs
        rw [if_neg h3]
        exact ⟨wv, hs, hw, by unfold wvD; rw [if_neg (fun q => h3 q.2)]⟩
    · rw [if_neg h2] at hs
      rw [if_neg h2]
      by_cases h3 : b = 109
      · rw [if_pos h3] at hs
        rw [if_pos h3]
        exact ⟨wv, hs, hw, by unfold wvD; rw [if_neg (fun q => h2 q.1)]⟩
      · rw [if_neg h3] at hs
        rw [if_neg h3]
        exact ⟨wv, hs, hw, by unfold wvD; rw [if_neg (fun q => h2 q.1)]⟩
def wvW (l : Nat → Int) (b : UInt8) (wv : Nat → Bool) : Nat → Bool := if 64 ≤ b.toNat ∧ b.toNat ≤ 126 then wvD b.toNat (l 0) wv else wv
theorem doR_emp (t : Tm) (q : ByteArray) (mks : Int) (wv : Nat → Bool) (b : Int) (zs : List Int) : ({ doR (mkR t q (-1) mks wv) b zs with q := emp } : Rm) = { doR (mkR t emp (-1) mks wv) b zs with q := emp } := by
  unfold doR
  by_cases h1 : b = 72
  · rw [if_pos h1, if_pos h1]; rfl
  · rw [if_neg h1, if_neg h1]
    by_cases h2 : b = 74
    · rw [if_pos h2, if_pos h2]
      by_cases h3 : zs[(0 : Nat)]?.getD 0 = 2
      · rw [if_pos h3, if_pos h3]; rfl
      · rw [if_neg h3, if_neg h3]; rfl
    · rw [if_neg h2, if_neg h2]
      by_cases h3 : b = 109
      · rw [if_pos h3, if_pos h3]; rfl
      · rw [if_neg h3, if_neg h3]; rfl
theorem lst_out {t : Tm} {la mks : Int} (h : Lst t la mks) (hw : t.r.lw = 0) : la = -1 := by
  rcases h with ⟨_, h⟩ | h
  · exact h
  · have := h.lw; omega
theorem feed_wth {t : Tm} (hW : 1 ≤ t.W ∧ t.W ≤ 400) (hH : 1 ≤ t.H ∧ t.H ≤ 400) (hp : PAll t.W t.H t.c) {la mks : Int} (hl : Lst t la mks) {wv : Nat → Bool} {l : Nat → Int} {a : Int} {m : List UInt8} (hw : t.r.lw = 0) (hm : ∀ b ∈ m, 48 ≤ b.toNat ∧ b.toNat ≤ 59) (hn : Pn l a (parS ([], 0) m)) (b : UInt8) {q : ByteArray} (hq : q.data.toList = 27 :: 91 :: (m ++ [b])) (hqs : q.size ≤ 4611686018427387904) :
    ∃ n, Ends n (mkR t q la mks wv) (Docd (wthT t l a.toNat b.toNat).1 (wthT t l a.toNat b.toNat).2 (wvW l b wv)) := by
  obtain rfl := lst_out hl hw
  have ha := hn.a0
  have hb256 : b.toNat < 256 := UInt8.toNat_lt b
  have goOn : ∀ l' a', (48 ≤ b.toNat ∧ b.toNat ≤ 59) → Pn l' a' (par1 (parS ([], 0) m) b) → ∃ n, Ends n (mkR t q (-1) mks wv) (Docd t (.wth l' a') wv) := fun l' a' hb hn' => by
    refine ⟨0, _, st_more (s := mkR t q (-1) mks wv) hq (fun c hc => ?_) hqs, Nat.le_refl _, q, -1, mks, rfl, .inl ⟨hw, rfl⟩, m ++ [b], hq, hw, fun c hc => ?_, by rw [parS_app]; exact hn'⟩
    · rcases List.mem_append.1 hc with h | h
      · exact hm c h
      · rw [List.mem_singleton] at h; rw [h]; exact hb
    · rcases List.mem_append.1 hc with h | h
      · exact hm c h
      · rw [List.mem_singleton] at h; rw [h]; exact hb
  unfold wthT
  by_cases h1 : 48 ≤ b.toNat ∧ b.toNat ≤ 57
  · rw [if_pos (by omega)]
    have e : wvW l b wv = wv := by unfold wvW; rw [if_neg (by omega)]
    rw [e]
    exact goOn _ _ (by omega) (hn.digit h1.1 h1.2)
  · rw [if_neg (by omega)]
    by_cases h2 : b.toNat = 58
    · rw [if_pos (by omega)]
      have e : wvW l b wv = wv := by unfold wvW; rw [if_neg (by omega)]
      rw [e]
      refine goOn _ _ (by omega) ?_
      have e2 : par1 (parS ([], 0) m) b = parS ([], 0) m := by unfold par1; rw [if_neg (by omega), if_pos h2]
      rw [e2]
      have ea : ((a.toNat : Int)) = a := by omega
      rw [ea]
      exact hn
    · rw [if_neg (by omega)]
      by_cases h3 : b.toNat = 59
      · rw [if_pos (by omega)]
        have e : wvW l b wv = wv := by unfold wvW; rw [if_neg (by omega)]
        rw [e]
        exact goOn _ _ (by omega) (hn.semi h3)
      · rw [if_neg (by omega)]
        have he := st_end (s := mkR t q (-1) mks wv) hq hm (by omega) hqs
        have hz : 0 < q.size := by rw [size_of hq]; simp
        by_cases h4 : 64 ≤ b.toNat ∧ b.toNat ≤ 126
        · rw [if_pos (by omega)]
          rw [if_pos h4] at he
          have he' : StepTo (mkR t q (-1) mks wv) { doR (mkR t emp (-1) mks wv) b.toNat (parE (parS ([], 0) m)) with q := emp } true := by
            have e : ({ doR (esc0 (mkR t q (-1) mks wv)) b.toNat (parL m) with q := ⟨#[]⟩ } : Rm) = { doR (mkR t emp (-1) mks wv) b.toNat (parE (parS ([], 0) m)) with q := emp } := doR_emp t q mks wv _ _
            rw [e] at he
            exact he
          obtain ⟨wv', q1, q2, q3⟩ := do_sim hW hH hp hw hn b.toNat mks wv he'
          have ea : ((a.toNat : Int)) = a := by omega
          rw [ea]
          have e : wvW l b wv = wv' := by unfold wvW; rw [if_pos h4, q3]
          rw [e]
          exact ⟨1, _, q1, hz, _, st_nil rfl, Nat.le_refl _, emp, -1, mks, rfl, .inl ⟨q2, rfl⟩, rfl⟩
        · rw [if_neg (by omega)]
          rw [if_neg h4] at he
          have e : wvW l b wv = wv := by unfold wvW; rw [if_neg h4]
          rw [e]
          exact ⟨1, _, he, hz, _, st_nil rfl, Nat.le_refl _, emp, -1, mks, rfl, .inl ⟨hw, rfl⟩, rfl⟩
/-- What has been written, behind a byte. -/
def wvS (t : Tm) (b : UInt8) (wv : Nat → Bool) : St → Nat → Bool
  | .out => wvO t b wv
  | .esc => wv
  | .amid h => if full (h.data.toList ++ [b]) ∧ (runes (h.data.toList ++ [b])).length ≠ 1 then wvO (prsT t (runes h.data.toList)) b (wvPs t (runes h.data.toList) wv) else wvA t (h.data.toList ++ [b]) wv
  | .wth l a => wvW l b wv
theorem feed {t : Tm} {st : St} {wv : Nat → Bool} {s : Rm} (hW : 1 ≤ t.W ∧ t.W ≤ 400) (hH : 1 ≤ t.H ∧ t.H ≤ 400) (hp : PAll t.W t.H t.c) (ht : Ti t) (h : Docd t st wv s) (b : UInt8) (hqs : s.q.size + 1 ≤ 4611686018427387904) :
    ∃ n, Ends n { s with q := s.q ++ ⟨#[b]⟩ } (Docd (stepT t b st).1 (stepT t b st).2 (wvS t b wv st)) := by
  obtain ⟨q, la, mks, rfl, hl, hh⟩ := h
  have eq : (q ++ (⟨#[b]⟩ : ByteArray)).data.toList = q.data.toList ++ [b] := by simp
  have hsz : (q ++ (⟨#[b]⟩ : ByteArray)).size = q.size + 1 := by rw [ByteArray.size_append]; rfl
  have hqs' : q.size + 1 ≤ 4611686018427387904 := hqs
  cases st with
  | out =>
    have hq : q.data.toList = [] := hh
    exact feed_out hW hH ht hl b (by show (q ++ (⟨#[b]⟩ : ByteArray)).data.toList = _; rw [eq, hq]; rfl)
  | esc =>
    obtain ⟨hq, hw⟩ := hh
    obtain rfl := lst_out hl hw
    have eq2 : (q ++ (⟨#[b]⟩ : ByteArray)).data.toList = [27, b] := by rw [eq, hq]; rfl
    show ∃ n, Ends n (mkR t (q ++ ⟨#[b]⟩) (-1) mks wv) (Docd t (if (b.toNat : Int) = 91 then .wth (fun _ => 0) 0 else .out) wv)
    by_cases h91 : b.toNat = 91
    · rw [if_pos (by omega)]
      have hb : b = 91 := by
        apply UInt8.toNat_inj.1
        rw [h91]; rfl
      rw [hb] at eq2 ⊢
      exact ⟨0, _, st_more (s := mkR t (q ++ ⟨#[91]⟩) (-1) mks wv) eq2 (fun c hc => (by cases hc)) (by show (q ++ (⟨#[91]⟩ : ByteArray)).size ≤ _; rw [hb] at hsz; rw [hsz]; exact hqs'), Nat.le_refl _, _, -1, mks, rfl, .inl ⟨hw, rfl⟩, [], eq2, hw, fun c hc => (by cases hc), ⟨by decide, rfl, fun j hj => absurd hj (by simp), fun _ => rfl, fun _ _ => rfl⟩⟩
    · rw [if_neg (by omega)]
      exact ⟨1, _, st_none (s := mkR t (q ++ ⟨#[b]⟩) (-1) mks wv) eq2 h91, by show 0 < (q ++ (⟨#[b]⟩ : ByteArray)).size; rw [hsz]; omega, _, st_nil rfl, Nat.le_refl _, emp, -1, mks, rfl, .inl ⟨hw, rfl⟩, rfl⟩
  | amid hm =>
    obtain ⟨h1, h2, h3⟩ := hh
    rw [h1] at h2 h3
    exact feed_amid hW hH ht hl h2 h3 b (by show (q ++ (⟨#[b]⟩ : ByteArray)).data.toList = _; rw [eq, h1])
  | wth l a =>
    obtain ⟨m, h1, h2, h3, h4⟩ := hh
    exact feed_wth hW hH hp hl h2 h3 h4 b (by show (q ++ (⟨#[b]⟩ : ByteArray)).data.toList = _; rw [eq, h1]; rfl) (by show (q ++ (⟨#[b]⟩ : ByteArray)).size ≤ _; rw [hsz]; exact hqs')

end Go.Proofs.YtlfffpoeioecjaaDoor

namespace Go.Proofs.YtlfffpoeioecjaaDoor
open Go.RowKit Go.Sort
set_option linter.unusedVariables false

theorem one_byte : ∀ k : Fin 127, 32 ≤ k.val → runes [k.val.toUInt8] = [(k.val : Int)] ∧ wid (k.val : Int) = 1 ∧ enc [(k.val : Int)] = [k.val.toUInt8] ∧ full [k.val.toUInt8] := by
  intro k hk
  have h : runes [k.val.toUInt8] = [(k.val : Int)] ∧ wid (k.val : Int) = 1 ∧ enc [(k.val : Int)] = [k.val.toUInt8] ∧ byt [k.val.toUInt8] 0 < 0xC2 := by
    have := (by decide +kernel : ∀ k : Fin 127, 32 ≤ k.val → runes [k.val.toUInt8] = [(k.val : Int)] ∧ wid (k.val : Int) = 1 ∧ enc [(k.val : Int)] = [k.val.toUInt8] ∧ byt [k.val.toUInt8] 0 < 0xC2)
    exact this k hk
  exact ⟨h.1, h.2.1, h.2.2.1, by simp, .inl h.2.2.2⟩
theorem one_u8 (b : UInt8) (h1 : 32 ≤ b.toNat) (h2 : b.toNat ≤ 126) : runes [b] = [(b.toNat : Int)] ∧ wid (b.toNat : Int) = 1 ∧ enc [(b.toNat : Int)] = [b] ∧ full [b] := by
  have := one_byte ⟨b.toNat, by omega⟩ h1
  simp only at this
  rw [show b.toNat.toUInt8 = b by simp] at this
  exact this
/-- What is shown behind the bytes l. -/
def prS (l : List UInt8) : Nat → Nat → Ce := fun y j => if y = 0 ∧ j < l.length then ⟨⟨#[l.getD j 0]⟩, 2, 3, 1, 0⟩ else bk 0 0 0
structure Pr (W H : Nat) (l : List UInt8) (p : Tm × St) : Prop where
  st : p.2 = .out
  w : p.1.W = W
  h : p.1.H = H
  c : p.1.c = prS l
  x : p.1.r.x = l.length
  y : p.1.r.y = 0
  f : p.1.r.f = 2
  g : p.1.r.g = 3
  b : p.1.r.b = 1
theorem prS_next (l : List UInt8) (b : UInt8) : fill (prS l) l.length (l.length + 1) 0 (0 + 1) (gly l.length 1 ⟨#[b]⟩ (kn 2) (kn 3) (bo 1)) = prS (l ++ [b]) := by
  have hp : ∀ y j, (prS l y j).p = 0 := fun y j => by unfold prS; split <;> rfl
  funext y j
  unfold fill
  by_cases hy : y = 0
  · subst hy
    rw [if_pos (by omega)]
    by_cases hj : l.length ≤ j ∧ j < l.length + 1
    · obtain rfl : j = l.length := by omega
      rw [span_in hj]
      unfold prS gly
      rw [if_neg (by decide : ¬ (1 : Int) = 2), if_pos ⟨rfl, by simp⟩, show (l ++ [b]).getD l.length 0 = b by simp [List.getD_eq_getElem?_getD], show kn 2 = 2 from rfl, show kn 3 = 3 from rfl, show bo 1 = 1 from rfl]
    · have e : span (prS l 0) l.length (l.length + 1) (gly l.length 1 ⟨#[b]⟩ (kn 2) (kn 3) (bo 1)) j = prS l 0 j := by
        unfold span
        rw [if_neg hj, if_neg (fun q => by have := hp 0 l.length; omega), if_neg (fun q => by have := hp 0 (l.length + 1 - 1); omega)]
      rw [e]
      unfold prS
      by_cases h1 : j < l.length
      · rw [if_pos ⟨rfl, h1⟩, if_pos ⟨rfl, by simp; omega⟩]
        simp only [List.getD_eq_getElem?_getD]
        rw [List.getElem?_append_left h1]
      · rw [if_neg (fun q => h1 q.2), if_neg (fun q => by have := q.2; simp at this; omega)]
  · rw [if_neg (by omega)]
    unfold prS
    rw [if_neg (fun q => hy q.1), if_neg (fun q => hy q.1)]
theorem Pr.next {W H : Nat} {l : List UInt8} {p : Tm × St} (h : Pr W H l p) (hW : 1 ≤ W ∧ W ≤ 400) (hH : 1 ≤ H ∧ H ≤ 400) (hl : l.length < W) (b : UInt8) (h1 : 32 ≤ b.toNat) (h2 : b.toNat ≤ 126) : Pr W H (l ++ [b]) (stepT p.1 b p.2) := by
  obtain ⟨q1, q2, q3, q4⟩ := one_u8 b h1 h2
  obtain ⟨s, st⟩ := p
  obtain ⟨hst, hw, hh, hc, hx, hy, hf, hg, hb⟩ := h
  simp only at hst hw hh hc hx hy hf hg hb
  subst hst hw hh
  have e : stepT s b .out = (prT s b.toNat, .out) := by
    show outT s b = _
    unfold outT
    rw [if_neg (by omega), if_neg (by omega)]
    unfold amT
    rw [if_pos q4]
    simp only
    rw [q1]
    rfl
  rw [e]
  unfold prT
  rw [q2, if_neg (by decide), if_neg (by rw [hx]; omega), q3]
  refine ⟨rfl, rfl, rfl, ?_, ?_, hy, hf, hg, hb⟩
  · show putC s.W s.H s.c s.r.x s.r.y ⟨[b].toArray⟩ 1 s.r.f s.r.g s.r.b 0 0 s.W s.H = _
    have := put_whole hW hH s.c (x := l.length) (y := 0) (wd := 1) ⟨[b].toArray⟩ 2 3 1 (.inl rfl) (by omega) (by omega)
    rw [hx, hy, hf, hg, hb]
    rw [show ((0 : Nat) : Int) = 0 from rfl] at this
    rw [this, hc]
    exact prS_next l b
  · show s.r.x + 1 = _
    rw [hx]; simp
def look : List UInt8 := [27, 91, 49, 59, 51, 49, 59, 52, 50, 109]
set_option maxRecDepth 100000 in
theorem Pr.start (W H : Nat) : Pr W H [] (runT (tm0 W H, .out) look) := by
  have e : runT (tm0 W H, .out) look = (⟨W, H, fun _ _ => bk 0 0 0, ⟨0, 0, 2, 3, 1, 0, 0, ⟨#[]⟩, 0, 0⟩⟩, .out) := rfl
  rw [e]
  refine ⟨rfl, rfl, rfl, ?_, rfl, rfl, rfl, rfl, rfl⟩
  funext y j
  unfold prS
  rw [if_neg (fun q => by have := q.2; simp at this)]
theorem Pr.all (W H : Nat) (hW : 1 ≤ W ∧ W ≤ 400) (hH : 1 ≤ H ∧ H ≤ 400) (l : List UInt8) (hl : l.length ≤ W) (hb : ∀ b ∈ l, 32 ≤ b.toNat ∧ b.toNat ≤ 126) : Pr W H l (runT (tm0 W H, .out) (look ++ l)) := by
  rw [runT_append]
  have key : ∀ k, k ≤ l.length → Pr W H (l.take k) (runT (runT (tm0 W H, .out) look) (l.take k)) := by
    intro k
    induction k with
    | zero => intro _; rw [List.take_zero]; exact Pr.start W H
    | succ k ih =>
      intro hk
      have hk' : k < l.length := by omega
      have e : l.take (k + 1) = l.take k ++ [l[k]] := by rw [List.take_add_one, List.getElem?_eq_getElem hk']; rfl
      rw [e, runT_app]
      have hm := hb l[k] (List.getElem_mem hk')
      exact (ih (by omega)).next hW hH (by rw [List.length_take]; omega) _ hm.1 hm.2
  have := key l.length (Nat.le_refl _)
  rw [List.take_length] at this
  exact this

end Go.Proofs.YtlfffpoeioecjaaDoor
