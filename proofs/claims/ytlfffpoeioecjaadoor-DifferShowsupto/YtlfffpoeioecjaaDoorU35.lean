/-
  A byte more within a sequence.
-/
import Derived.Test.YtlfffpoeioecjaaDoorU34
import Derived.Test.YtlfffpoeioecjaaDoorU33
import Derived.Test.YtlfffpoeioecjaaDoorU30
namespace Go.Proofs.YtlfffpoeioecjaaDoor
open Go.RowKit Go.Sort
set_option linter.unusedVariables false

theorem Pn.o_eq {l : Nat → Int} {a : Int} {p : List Int × Int} (h : Pn l a p) : p.1 = lst l a.toNat := by
  unfold lst
  apply List.ext_getElem?
  intro j
  by_cases hj : j < a.toNat
  · rw [h.at_ j hj, List.getElem?_map, List.getElem?_range hj]; rfl
  · rw [List.getElem?_eq_none (by rw [h.len]; omega), List.getElem?_eq_none (by simp; omega)]
theorem lst_succ (l : Nat → Int) (m : Nat) : lst l (m + 1) = lst l m ++ [l m] := by unfold lst; rw [List.range_succ, List.map_append]; rfl
/-- The numbers are the same. -/
theorem Pn.list {l : Nat → Int} {a : Int} {p : List Int × Int} (h : Pn l a p) : parE p = lst l (cntN a) := by
  have ha := h.a0
  have hl := h.len
  unfold parE cntN
  by_cases h16 : a < 16
  · rw [if_pos (by omega), h.o_eq, h.cur h16, ← lst_succ]
    congr 1
    omega
  · rw [if_neg (by omega), h.o_eq]
    congr 1
    omega
theorem Pn.digit {l : Nat → Int} {a : Int} {p : List Int × Int} (h : Pn l a p) {b : UInt8} (h1 : 48 ≤ b.toNat) (h2 : b.toNat ≤ 57) : Pn (updN l a.toNat (min (l a.toNat * 10 + ((b.toNat : Int) - 48)) 999999)) (a.toNat : Int) (par1 p b) := by
  have ha := h.a0
  have e : par1 p b = (p.1, min 999999 (10 * p.2 + (b.toNat : Int) - 48)) := by unfold par1; rw [if_neg (by omega), if_neg (by omega)]
  rw [e]
  have ea : ((a.toNat : Int)).toNat = a.toNat := Int.toNat_natCast _
  refine ⟨by omega, by rw [ea]; exact h.len, fun j hj => ?_, fun h16 => ?_, fun j hj => ?_⟩
  · rw [ea] at hj
    unfold updN
    rw [if_neg (by omega)]
    exact h.at_ j hj
  · rw [ea]
    unfold updN
    rw [if_pos rfl]
    show min 999999 (10 * p.2 + (b.toNat : Int) - 48) = _
    rw [h.cur (by omega)]
    omega
  · rw [ea] at hj
    unfold updN
    rw [if_neg (by omega)]
    exact h.up j hj
theorem Pn.semi {l : Nat → Int} {a : Int} {p : List Int × Int} (h : Pn l a p) {b : UInt8} (h1 : b.toNat = 59) : Pn l (min ((a.toNat : Int) + 1) 16) (par1 p b) := by
  have ha := h.a0
  have hl := h.len
  have e : par1 p b = (if p.1.length < 16 then p.1 ++ [p.2] else p.1, 0) := by unfold par1; rw [if_pos h1]
  rw [e]
  by_cases h16 : a < 16
  · rw [if_pos (by omega)]
    have em : (min ((a.toNat : Int) + 1) 16).toNat = a.toNat + 1 := by omega
    refine ⟨by omega, by rw [em, List.length_append]; simp; omega, fun j hj => ?_, fun q => ?_, fun j hj => ?_⟩
    · rw [em] at hj
      show (p.1 ++ [p.2])[j]? = _
      by_cases e2 : j < a.toNat
      · rw [List.getElem?_append_left (by omega)]; exact h.at_ j e2
      · obtain rfl : j = a.toNat := by omega
        rw [List.getElem?_append_right (by omega), hl, Nat.sub_self, h.cur h16]; rfl
    · rw [em]; exact (h.up _ (by omega)).symm
    · rw [em] at hj; exact h.up j (by omega)
  · rw [if_neg (by omega)]
    have em : (min ((a.toNat : Int) + 1) 16).toNat = a.toNat := by omega
    refine ⟨by omega, by rw [em]; exact hl, fun j hj => by rw [em] at hj; exact h.at_ j hj, fun q => by omega, fun j hj => by rw [em] at hj; exact h.up j hj⟩
theorem lst_get (l : Nat → Int) {m j : Nat} (h : j < m) : (lst l m)[j]?.getD 0 = l j := by unfold lst; rw [List.getElem?_map, List.getElem?_range h]; rfl
def wvD (b : Int) (z : Int) (wv : Nat → Bool) : Nat → Bool := if b = 74 ∧ z = 2 then fun _ => true else wv
/-- What the last byte asks. -/
theorem do_sim {t : Tm} (hW : 1 ≤ t.W ∧ t.W ≤ 400) (hH : 1 ≤ t.H ∧ t.H ≤ 400) (hp : PAll t.W t.H t.c) (hw : t.r.lw = 0) {l : Nat → Int} {a : Int} {p : List Int × Int} (h : Pn l a p) (b : Int) (mks : Int) (wv : Nat → Bool) {s0 : Rm} (hs : StepTo s0 { doR (mkR t emp (-1) mks wv) b (parE p) with q := emp } true) :
    ∃ wv', StepTo s0 (mkR (obeyT t b l a) emp (-1) mks wv') true ∧ (obeyT t b l a).r.lw = 0 ∧ wv' = wvD b (l 0) wv := by
  have ha := h.a0
  rw [h.list] at hs
  have hc1 : 1 ≤ cntN a := by unfold cntN; omega
  have z0 : (lst l (cntN a))[(0 : Nat)]?.getD 0 = l 0 := lst_get l (by omega)
  have hlen : (lst l (cntN a)).length = cntN a := by unfold lst; simp
  unfold doR at hs
  rw [z0, hlen] at hs
  unfold obeyT
  by_cases h1 : b = 72
  · rw [if_pos h1] at hs
    rw [if_pos h1]
    refine ⟨wv, ?_, hw, by unfold wvD; rw [if_neg (by omega)]⟩
    have ex : min (if 1 < cntN a then max 1 ((lst l (cntN a))[(1 : Nat)]?.getD 0) else 1) (t.W : Int) - 1 = min (max (l 1) 1) (t.W : Int) - 1 := by
      by_cases h2 : 1 < cntN a
      · rw [if_pos h2, lst_get l h2, Int.max_comm]
      · rw [if_neg h2]
        have : a = 0 := by unfold cntN at h2; omega
        rw [h.up 1 (by omega)]
        rfl
    have ey : min (max 1 (l 0)) (t.H : Int) - 1 = min (max (l 0) 1) (t.H : Int) - 1 := by rw [Int.max_comm]
    have e : ({ ({ mkR t emp (-1) mks wv with y := min (max 1 (l 0)) ((mkR t emp (-1) mks wv).H : Int) - 1, x := min (if 1 < cntN a then max 1 ((lst l (cntN a))[(1 : Nat)]?.getD 0) else 1) ((mkR t emp (-1) mks wv).W : Int) - 1 } : Rm) with q := emp } : Rm) = mkR { t with r := { t.r with x := min (max (l 1) 1) (t.W : Int) - 1, y := min (max (l 0) 1) (t.H : Int) - 1 } } emp (-1) mks wv := by
      show (⟨t.W, t.H, t.c, min (if 1 < cntN a then max 1 ((lst l (cntN a))[(1 : Nat)]?.getD 0) else 1) (t.W : Int) - 1, min (max 1 (l 0)) (t.H : Int) - 1, t.r.f, t.r.g, t.r.b, emp, -1, mks, wv⟩ : Rm) = _
      rw [ex, ey]
      rfl
    rw [e] at hs
    exact hs
  · rw [if_neg h1] at hs
    rw [if_neg h1]
    by_cases h2 : b = 74
    · rw [if_pos h2] at hs
      rw [if_pos h2]
      by_cases h3 : l 0 = 2
      · rw [if_pos h3] at hs
        rw [if_pos h3]
        refine ⟨fun _ => true, ?_, hw, by unfold wvD; rw [if_pos ⟨h2, h3⟩]⟩
        have := hs.same (c' := filC t.W t.H t.c 0 0 t.W t.H 0 0 0 0 0 t.W t.H) (fun y x hy hx => (fil_whole hW hH t.c hy hx).symm) (hp.filX hW hH _ _ _ _ _ _ _ _ _ _ _)
        exact this
      · rw [if_neg h3] at hs
        rw [if_neg h3]
        exact ⟨wv, hs, hw, by unfold wvD; rw [if_neg (fun q => h3 q.2)]⟩
    · rw [if_neg h2] at hs
      rw [if_neg h2]
      by_cases h3 : b = 109
      · rw [if_pos h3] at hs
        rw [if_pos h3]
        exact ⟨wv, hs, hw, by unfold wvD; rw [if_neg (fun q => h2 q.1)]⟩
      · rw [if_neg h3] at hs
        rw [if_neg h3]
        exact ⟨wv, hs, hw, by unfold wvD; rw [if_neg (fun q => h2 q.1)]⟩
def wvW (l : Nat → Int) (b : UInt8) (wv : Nat → Bool) : Nat → Bool := if 64 ≤ b.toNat ∧ b.toNat ≤ 126 then wvD b.toNat (l 0) wv else wv
theorem doR_emp (t : Tm) (q : ByteArray) (mks : Int) (wv : Nat → Bool) (b : Int) (zs : List Int) : ({ doR (mkR t q (-1) mks wv) b zs with q := emp } : Rm) = { doR (mkR t emp (-1) mks wv) b zs with q := emp } := by
  unfold doR
  by_cases h1 : b = 72
  · rw [if_pos h1, if_pos h1]; rfl
  · rw [if_neg h1, if_neg h1]
    by_cases h2 : b = 74
    · rw [if_pos h2, if_pos h2]
      by_cases h3 : zs[(0 : Nat)]?.getD 0 = 2
      · rw [if_pos h3, if_pos h3]; rfl
      · rw [if_neg h3, if_neg h3]; rfl
    · rw [if_neg h2, if_neg h2]
      by_cases h3 : b = 109
      · rw [if_pos h3, if_pos h3]; rfl
      · rw [if_neg h3, if_neg h3]; rfl
theorem lst_out {t : Tm} {la mks : Int} (h : Lst t la mks) (hw : t.r.lw = 0) : la = -1 := by
  rcases h with ⟨_, h⟩ | h
  · exact h
  · have := h.lw; omega
theorem feed_wth {t : Tm} (hW : 1 ≤ t.W ∧ t.W ≤ 400) (hH : 1 ≤ t.H ∧ t.H ≤ 400) (hp : PAll t.W t.H t.c) {la mks : Int} (hl : Lst t la mks) {wv : Nat → Bool} {l : Nat → Int} {a : Int} {m : List UInt8} (hw : t.r.lw = 0) (hm : ∀ b ∈ m, 48 ≤ b.toNat ∧ b.toNat ≤ 59) (hn : Pn l a (parS ([], 0) m)) (b : UInt8) {q : ByteArray} (hq : q.data.toList = 27 :: 91 :: (m ++ [b])) (hqs : q.size ≤ 4611686018427387904) :
    ∃ n, Ends n (mkR t q la mks wv) (Docd (wthT t l a.toNat b.toNat).1 (wthT t l a.toNat b.toNat).2 (wvW l b wv)) := by
  obtain rfl := lst_out hl hw
  have ha := hn.a0
  have hb256 : b.toNat < 256 := UInt8.toNat_lt b
  have goOn : ∀ l' a', (48 ≤ b.toNat ∧ b.toNat ≤ 59) → Pn l' a' (par1 (parS ([], 0) m) b) → ∃ n, Ends n (mkR t q (-1) mks wv) (Docd t (.wth l' a') wv) := fun l' a' hb hn' => by
    refine ⟨0, _, st_more (s := mkR t q (-1) mks wv) hq (fun c hc => ?_) hqs, Nat.le_refl _, q, -1, mks, rfl, .inl ⟨hw, rfl⟩, m ++ [b], hq, hw, fun c hc => ?_, by rw [parS_app]; exact hn'⟩
    · rcases List.mem_append.1 hc with h | h
      · exact hm c h
      · rw [List.mem_singleton] at h; rw [h]; exact hb
    · rcases List.mem_append.1 hc with h | h
      · exact hm c h
      · rw [List.mem_singleton] at h; rw [h]; exact hb
  unfold wthT
  by_cases h1 : 48 ≤ b.toNat ∧ b.toNat ≤ 57
  · rw [if_pos (by omega)]
    have e : wvW l b wv = wv := by unfold wvW; rw [if_neg (by omega)]
    rw [e]
    exact goOn _ _ (by omega) (hn.digit h1.1 h1.2)
  · rw [if_neg (by omega)]
    by_cases h2 : b.toNat = 58
    · rw [if_pos (by omega)]
      have e : wvW l b wv = wv := by unfold wvW; rw [if_neg (by omega)]
      rw [e]
      refine goOn _ _ (by omega) ?_
      have e2 : par1 (parS ([], 0) m) b = parS ([], 0) m := by unfold par1; rw [if_neg (by omega), if_pos h2]
      rw [e2]
      have ea : ((a.toNat : Int)) = a := by omega
      rw [ea]
      exact hn
    · rw [if_neg (by omega)]
      by_cases h3 : b.toNat = 59
      · rw [if_pos (by omega)]
        have e : wvW l b wv = wv := by unfold wvW; rw [if_neg (by omega)]
        rw [e]
        exact goOn _ _ (by omega) (hn.semi h3)
      · rw [if_neg (by omega)]
        have he := st_end (s := mkR t q (-1) mks wv) hq hm (by omega) hqs
        have hz : 0 < q.size := by rw [size_of hq]; simp
        by_cases h4 : 64 ≤ b.toNat ∧ b.toNat ≤ 126
        · rw [if_pos (by omega)]
          rw [if_pos h4] at he
          have he' : StepTo (mkR t q (-1) mks wv) { doR (mkR t emp (-1) mks wv) b.toNat (parE (parS ([], 0) m)) with q := emp } true := by
            have e : ({ doR (esc0 (mkR t q (-1) mks wv)) b.toNat (parL m) with q := ⟨#[]⟩ } : Rm) = { doR (mkR t emp (-1) mks wv) b.toNat (parE (parS ([], 0) m)) with q := emp } := doR_emp t q mks wv _ _
            rw [e] at he
            exact he
          obtain ⟨wv', q1, q2, q3⟩ := do_sim hW hH hp hw hn b.toNat mks wv he'
          have ea : ((a.toNat : Int)) = a := by omega
          rw [ea]
          have e : wvW l b wv = wv' := by unfold wvW; rw [if_pos h4, q3]
          rw [e]
          exact ⟨1, _, q1, hz, _, st_nil rfl, Nat.le_refl _, emp, -1, mks, rfl, .inl ⟨q2, rfl⟩, rfl⟩
        · rw [if_neg (by omega)]
          rw [if_neg h4] at he
          have e : wvW l b wv = wv := by unfold wvW; rw [if_neg h4]
          rw [e]
          exact ⟨1, _, he, hz, _, st_nil rfl, Nat.le_refl _, emp, -1, mks, rfl, .inl ⟨hw, rfl⟩, rfl⟩
/-- What has been written, behind a byte. -/
def wvS (t : Tm) (b : UInt8) (wv : Nat → Bool) : St → Nat → Bool
  | .out => wvO t b wv
  | .esc => wv
  | .amid h => if full (h.data.toList ++ [b]) ∧ (runes (h.data.toList ++ [b])).length ≠ 1 then wvO (prsT t (runes h.data.toList)) b (wvPs t (runes h.data.toList) wv) else wvA t (h.data.toList ++ [b]) wv
  | .wth l a => wvW l b wv
theorem feed {t : Tm} {st : St} {wv : Nat → Bool} {s : Rm} (hW : 1 ≤ t.W ∧ t.W ≤ 400) (hH : 1 ≤ t.H ∧ t.H ≤ 400) (hp : PAll t.W t.H t.c) (ht : Ti t) (h : Docd t st wv s) (b : UInt8) (hqs : s.q.size + 1 ≤ 4611686018427387904) :
    ∃ n, Ends n { s with q := s.q ++ ⟨#[b]⟩ } (Docd (stepT t b st).1 (stepT t b st).2 (wvS t b wv st)) := by
  obtain ⟨q, la, mks, rfl, hl, hh⟩ := h
  have eq : (q ++ (⟨#[b]⟩ : ByteArray)).data.toList = q.data.toList ++ [b] := by simp
  have hsz : (q ++ (⟨#[b]⟩ : ByteArray)).size = q.size + 1 := by rw [ByteArray.size_append]; rfl
  have hqs' : q.size + 1 ≤ 4611686018427387904 := hqs
  cases st with
  | out =>
    have hq : q.data.toList = [] := hh
    exact feed_out hW hH ht hl b (by show (q ++ (⟨#[b]⟩ : ByteArray)).data.toList = _; rw [eq, hq]; rfl)
  | esc =>
    obtain ⟨hq, hw⟩ := hh
    obtain rfl := lst_out hl hw
    have eq2 : (q ++ (⟨#[b]⟩ : ByteArray)).data.toList = [27, b] := by rw [eq, hq]; rfl
    show ∃ n, Ends n (mkR t (q ++ ⟨#[b]⟩) (-1) mks wv) (Docd t (if (b.toNat : Int) = 91 then .wth (fun _ => 0) 0 else .out) wv)
    by_cases h91 : b.toNat = 91
    · rw [if_pos (by omega)]
      have hb : b = 91 := by
        apply UInt8.toNat_inj.1
        rw [h91]; rfl
      rw [hb] at eq2 ⊢
      exact ⟨0, _, st_more (s := mkR t (q ++ ⟨#[91]⟩) (-1) mks wv) eq2 (fun c hc => (by cases hc)) (by show (q ++ (⟨#[91]⟩ : ByteArray)).size ≤ _; rw [hb] at hsz; rw [hsz]; exact hqs'), Nat.le_refl _, _, -1, mks, rfl, .inl ⟨hw, rfl⟩, [], eq2, hw, fun c hc => (by cases hc), ⟨by decide, rfl, fun j hj => absurd hj (by simp), fun _ => rfl, fun _ _ => rfl⟩⟩
    · rw [if_neg (by omega)]
      exact ⟨1, _, st_none (s := mkR t (q ++ ⟨#[b]⟩) (-1) mks wv) eq2 h91, by show 0 < (q ++ (⟨#[b]⟩ : ByteArray)).size; rw [hsz]; omega, _, st_nil rfl, Nat.le_refl _, emp, -1, mks, rfl, .inl ⟨hw, rfl⟩, rfl⟩
  | amid hm =>
    obtain ⟨h1, h2, h3⟩ := hh
    rw [h1] at h2 h3
    exact feed_amid hW hH ht hl h2 h3 b (by show (q ++ (⟨#[b]⟩ : ByteArray)).data.toList = _; rw [eq, h1])
  | wth l a =>
    obtain ⟨m, h1, h2, h3, h4⟩ := hh
    exact feed_wth hW hH hp hl h2 h3 h4 b (by show (q ++ (⟨#[b]⟩ : ByteArray)).data.toList = _; rw [eq, h1]; rfl) (by show (q ++ (⟨#[b]⟩ : ByteArray)).size ≤ _; rw [hsz]; exact hqs')

end Go.Proofs.YtlfffpoeioecjaaDoor

namespace Go.Proofs.YtlfffpoeioecjaaDoor
open Go.RowKit Go.Sort
set_option linter.unusedVariables false

def qSz (w : World) (T : Nat) : Nat := match w.cell? ⟨T, 6, none⟩ with
  | some (.string q) => q.size
  | _ => 0
theorem RT.qSz {w : World} {T K M cap B bc : Nat} {s : Rm} (h : RT w T K M cap B bc s) : qSz w T = s.q.size := by
  have : w.cell? ⟨T, 6, none⟩ = some (.string s.q) := h.at rfl
  unfold Go.Proofs.YtlfffpoeioecjaaDoor.qSz
  rw [this]
/-- The document's terminal in memory, as the program's stands: at most k bytes are half come. -/
structure Doc (w0 w : World) (T M B bc : Nat) (p : Tm × St) (wv : Nat → Bool) (k : Nat) : Prop where
  rt : ∃ K' M' cap' s, RT w T K' M' cap' B bc s ∧ Docd p.1 p.2 wv s ∧ s.q.size ≤ k ∧ (M' = M ∨ w0.heap.size ≤ M')
  c3 : C3 T M B w0 w
/-- What has been written, behind bytes. -/
def runW : Tm × St → (Nat → Bool) → List UInt8 → Nat → Bool
  | _, wv, [] => wv
  | p, wv, b :: r => runW (stepT p.1 b p.2) (wvS p.1 b wv p.2) r
theorem runW_app (p : Tm × St) (wv : Nat → Bool) (l : List UInt8) (b : UInt8) : runW p wv (l ++ [b]) = wvS (runT p l).1 b (runW p wv l) (runT p l).2 := by
  induction l generalizing p wv with
  | nil => rfl
  | cons a l ih => exact ih _ _
/-- What the steps have left so far. -/
structure Lp (w0 w : World) (T M B bc : Nat) (P : Rm → Prop) (k : Nat) (a : Bool) : Prop where
  rt : ∃ K' M' cap' s, RT w T K' M' cap' B bc s ∧ (if a then ∃ n, Ends n s P else P s) ∧ s.q.size ≤ k ∧ (M' = M ∨ w0.heap.size ≤ M')
  c3 : C3 T M B w0 w
def bOf : Value → Nat
  | .bool true => 1
  | _ => 0
/-- One step more. -/
theorem Lp.step {w0 w : World} {T M B bc : Nat} {P : Rm → Prop} {k : Nat} (h : Lp w0 w T M B bc P k true) :
    ∃ a : Bool, Calls Tryd.prog 33 #[.pointer (some ⟨T, 0, none⟩)] w fun e w' => e = .returned (.bool a) ∧ Lp w0 w' T M B bc P k a ∧ 2 * qSz w' T + bOf (.bool a) < 2 * qSz w T + 1 := by
  obtain ⟨⟨K', M', cap', s, r, ⟨n, hn⟩, hk, hM⟩, hc⟩ := h
  have hsz := r.qSz
  have key : ∀ s' (a : Bool), StepTo s s' a → (if a then ∃ n, Ends n s' P else P s') → s'.q.size ≤ s.q.size → (a = true → s'.q.size < s.q.size) → Calls Tryd.prog 33 #[.pointer (some ⟨T, 0, none⟩)] w fun e w' => e = .returned (.bool a) ∧ Lp w0 w' T M B bc P k a ∧ 2 * qSz w' T + bOf (.bool a) < 2 * qSz w T + 1 := fun s' a hs he hle hlt => (hs w T K' M' cap' B bc r).mono fun e w' q => by
    obtain ⟨q1, ⟨K2, M2, cap2, r2, hM2⟩, c2⟩ := q
    have hsz2 := r2.qSz
    have hs0 := hc.size
    refine ⟨q1, ⟨⟨K2, M2, cap2, s', r2, he, by omega, ?_⟩, hc.transM c2 hM⟩, ?_⟩
    · rcases hM2 with h | h
      · rcases hM with g | g
        · exact .inl (h.trans g)
        · exact .inr (by omega)
      · exact .inr (by omega)
    · rw [hsz, hsz2]
      cases a with
      | true => have := hlt rfl; show 2 * s'.q.size + 1 < _; omega
      | false => show 2 * s'.q.size + 0 < _; omega
  cases n with
  | zero =>
    obtain ⟨s', h1, h2, h3⟩ := hn
    exact ⟨false, key s' false h1 h3 h2 (fun q => by cases q)⟩
  | succ n =>
    obtain ⟨s', h1, h2, h3⟩ := hn
    exact ⟨true, key s' true h1 ⟨n, h3⟩ (by omega) (fun _ => h2)⟩

section
variable {T M B bc : Nat}
set_option maxRecDepth 100000 in
set_option maxHeartbeats 8000000 in
theorem rwrite_any (x : ByteArray) (w : World) {p : Tm × St} {wv : Nat → Bool} {k : Nat} (h : Doc w w T M B bc p wv k) (hi : Ti p.1) (hs : Si p.2) (hx : k + x.size + 1 ≤ 4611686018427387904) :
    Calls Tryd.prog 18 #[.pointer (some ⟨T, 0, none⟩), .string x] w fun e w' => e = .returned (.tuple #[]) ∧ Doc w w' T M B bc (runT p x.data.toList) (runW p wv x.data.toList) (k + x.size) := by
  have hmix : Tryd.prog.follows .mixedOrders = true := by kernel_rfl
  have H0 : Hid (Doc w w T M B bc p wv k ∧ Ti p.1 ∧ Si p.2) := ⟨h, hi, hs⟩
  clear h hi hs
  go_enter Tryd.func18, Tryd.ntmps18
  go_wp2
  go_loopw [4] (fun iv wr => ∃ i : Nat, i ≤ x.size ∧ iv = .int .i64 i ∧ Hid (Doc w wr T M B bc (runT p (x.data.toList.take i)) (runW p wv (x.data.toList.take i)) (k + i) ∧ Ti (runT p (x.data.toList.take i)).1 ∧ Si (runT p (x.data.toList.take i)).2)) (fun iv _ => x.size - (intOf iv).toNat)
  case atStart => exact ⟨0, Nat.zero_le _, rfl, H0.out⟩
  case round =>
    obtain ⟨i, hil, rfl, HJ⟩ := hrel
    by_cases hlt : i < x.size
    · have hlt' : (i : Int) < (x.size : Int) := by omega
      obtain ⟨P, hP⟩ : ∃ z, runT p (x.data.toList.take i) = z := ⟨_, rfl⟩
      obtain ⟨V, hV⟩ : ∃ z, runW p wv (x.data.toList.take i) = z := ⟨_, rfl⟩
      obtain ⟨bt, hbt⟩ : ∃ b, x.data.toList.getD i 0 = b := ⟨_, rfl⟩
      have e : x.data.toList[i]? = some bt := by
        have hl : i < x.data.toList.length := by rw [len_data]; exact hlt
        rw [← hbt, List.getD_eq_getElem?_getD, List.getElem?_eq_getElem hl]; rfl
      have HP : Hid (runT p (x.data.toList.take (i + 1)) = stepT P.1 bt P.2 ∧ runW p wv (x.data.toList.take (i + 1)) = wvS P.1 bt V P.2) := by
        refine ⟨?_, ?_⟩
        · rw [List.take_add_one, e, ← hP, ← runT_app]; rfl
        · rw [List.take_add_one, e, ← hP, ← hV, ← runW_app]; rfl
      have HX : Hid (x.extract i (i + 1) = ⟨#[bt]⟩) := by show _ = _; rw [ext_one x i hlt, hbt]
      obtain ⟨hd, hti, hsi⟩ := HJ.out
      rw [hP, hV] at hd
      rw [hP] at hti hsi
      obtain ⟨⟨K', M', cap', s, r, hdoc, hk, hM⟩, hc⟩ := hd
      obtain ⟨n, hn⟩ : ∃ n, Ends n { s with q := s.q ++ ⟨#[bt]⟩ } (Docd (stepT P.1 bt P.2).1 (stepT P.1 bt P.2).2 (wvS P.1 bt V P.2)) := by
        obtain ⟨q, la, mks, rfl, hl, hh⟩ := hdoc
        exact feed r.hW r.hH r.pa hti ⟨q, la, mks, rfl, hl, hh⟩ bt (by show q.size + 1 ≤ _; have : q.size ≤ k + i := hk; omega)
      have SO : Hid (Ti (stepT P.1 bt P.2).1 ∧ Si (stepT P.1 bt P.2).2) := by
        obtain ⟨q, la, mks, rfl, hl, hh⟩ := hdoc
        exact step_ok hti hsi r.hW.1 r.hH.1 bt
      have t6 : wr.cell? ⟨T, 6, none⟩ = some (.string s.q) := r.at rfl
      have f6 := r.fz 6
      obtain ⟨fb, hfb⟩ : ∃ z, x.extract i (i + 1) = z := ⟨_, rfl⟩
      have hfs : fb = ⟨#[bt]⟩ := by rw [← hfb]; exact HX.out
      have hfz : fb.size = 1 := by rw [hfs]; rfl
      have hcc : ¬ 9223372036854775807 < s.q.size + fb.size := by omega
      have L0 : Hid (Lp w (wr.setCell ⟨T, 6, none⟩ (.string (s.q ++ fb))).drew T M B bc (Docd (stepT P.1 bt P.2).1 (stepT P.1 bt P.2).2 (wvS P.1 bt V P.2)) (k + (i + 1)) true) :=
        ⟨⟨K', M', cap', { s with q := s.q ++ fb }, (RT.q _ r _).gr (Gr.refl _).drew, ⟨n, by rw [hfs]; exact hn⟩, by show (s.q ++ fb).size ≤ _; rw [ByteArray.size_append]; omega, hM⟩, (hc.set _ _).trans (C3.gr (Gr.refl _).drew)⟩
      clear hn r hdoc hc hM HJ hti hsi hP hV e hbt hfs
      go_wp2_with fail
      go_region
      try rw [hfb]
      obtain ⟨w2, hw2⟩ : ∃ z, (wr.setCell ⟨T, 6, none⟩ (.string (s.q ++ fb))).drew = z := ⟨_, rfl⟩
      rw [hw2] at L0 ⊢
      clear hw2 t6 f6 hcc
      go_wp2_with fail
      go_loopw [5] (fun av wk => ∃ a : Bool, av = .bool a ∧ Hid (Lp w wk T M B bc (Docd (stepT P.1 bt P.2).1 (stepT P.1 bt P.2).2 (wvS P.1 bt V P.2)) (k + (i + 1)) a)) (fun av wk => 2 * qSz wk T + bOf av)
      case atStart => exact ⟨true, rfl, L0.out⟩
      case round =>
        obtain ⟨a, rfl, HL⟩ := hrel
        cases a with
        | true =>
          obtain ⟨a2, hcall⟩ := HL.out.step
          have HC : Hid (Calls Tryd.prog 33 #[.pointer (some ⟨T, 0, none⟩)] wr fun e w' => e = .returned (.bool a2) ∧ Lp w w' T M B bc (Docd (stepT P.1 bt P.2).1 (stepT P.1 bt P.2).2 (wvS P.1 bt V P.2)) (k + (i + 1)) a2 ∧ 2 * qSz w' T + bOf (.bool a2) < 2 * qSz wr T + 1) := hcall
          clear hcall
          go_wp2_with fail
          refine HC.out.mono ?_
          rintro e w3 ⟨rfl, l3, m3⟩
          have L3 : Hid (Lp w w3 T M B bc (Docd (stepT P.1 bt P.2).1 (stepT P.1 bt P.2).2 (wvS P.1 bt V P.2)) (k + (i + 1)) a2) := l3
          have M3 : Hid (2 * qSz w3 T + bOf (.bool a2) < 2 * qSz wr T + 1) := m3
          clear l3 m3 HC
          go_wp2
          go_roundw
          case rel => exact ⟨a2, rfl, L3.out⟩
          case measure => exact M3.out
        | false =>
          have HD : Hid (Doc w wr T M B bc (runT p (x.data.toList.take (i + 1))) (runW p wv (x.data.toList.take (i + 1))) (k + (i + 1)) ∧ Ti (runT p (x.data.toList.take (i + 1))).1 ∧ Si (runT p (x.data.toList.take (i + 1))).2) := by
            show _ ∧ _
            rw [HP.out.1, HP.out.2]
            exact ⟨⟨HL.out.rt, HL.out.c3⟩, SO.out⟩
          go_wp2
          go_roundw
          case rel => exact ⟨i + 1, by omega, by go_num, HD.out⟩
          case measure => simp [intOf]; omega
    · have hlt' : ¬ (i : Int) < (x.size : Int) := by omega
      obtain rfl : i = x.size := by omega
      have HF : Hid (x.data.toList.take x.size = x.data.toList) := List.take_of_length_le (by rw [len_data]; exact Nat.le_refl _)
      have HJ2 := HJ.out
      rw [HF.out] at HJ2
      go_wp2
      go_end0
      exact ⟨rfl, HJ2.1⟩
end

end Go.Proofs.YtlfffpoeioecjaaDoor

namespace Go.Proofs.YtlfffpoeioecjaaDoor
open Go.RowKit Go.Sort
set_option linter.unusedVariables false

def rm0 (W H : Nat) : Rm := mkR (tm0 W H) emp (-1) 0 (fun _ => false)
theorem docd0 (W H : Nat) : Docd (tm0 W H) .out (fun _ => false) (rm0 W H) := ⟨emp, -1, 0, rfl, .inl ⟨rfl, rfl⟩, rfl⟩
theorem BR.new (w : World) (n : Nat) : BR (w.alloc (.cells (madeCells #[.bool false] n) 4)) w.heap.size n (fun _ => false) :=
  ⟨⟨_, heap_alloc_new _ _⟩, fun j hj => by rw [World.cell?_alloc_at _ _ _ _ rfl]; simp [madeCells, hj, Nat.mod_one]⟩
/-- A new terminal of the document's. -/
structure RNw (w w' : World) (T B bc W H : Nat) : Prop where
  rt : ∃ K M cap, RT w' T K M cap B bc (rm0 W H) ∧ w.heap.size ≤ K ∧ w.heap.size ≤ M
  t : w.heap.size ≤ T
  b : w.heap.size ≤ B
  bel : Below w.heap.size w w'

set_option maxRecDepth 100000 in
set_option maxHeartbeats 2000000 in
theorem rterm_new (W H : Nat) (w : World) (hW : 1 ≤ W ∧ W ≤ 400) (hH : 1 ≤ H ∧ H ≤ 400) : Calls Tryd.prog 22 #[.int .i64 W, .int .i64 H] w fun e w' => ∃ T B bc, e = .returned (.tuple #[.pointer (some ⟨T, 0, none⟩), .int .i64 0]) ∧ RNw w w' T B bc W H := by
  have NO : Hid (Calls Tryd.prog 37 #[.int .i64 W, .int .i64 H] w fun e w' => ∃ K, e = .returned (.tuple #[.pointer (some ⟨K, 0, none⟩), .int .i64 0]) ∧ RN w w' W H K) := rnew_ok W H hW hH w
  have hwh : W * H ≤ 160000 := Nat.le_trans (Nat.mul_le_mul hW.2 hH.2) (by decide)
  obtain ⟨n, hn⟩ : ∃ n, W * H = n := ⟨_, rfl⟩
  have hn' : (W : Int) * (H : Int) = (n : Int) := by rw [← hn, Int.natCast_mul]
  have HN : Hid (W * H = n) := hn
  rw [hn] at hwh
  clear hn
  have hmk : ∀ u : World, (Instr.makeSlice 51 (.int .i64 (n : Int)) (.int .i64 (n : Int))).run Tryd.prog u = .ok (.slice (some ⟨u.heap.size, 0, none⟩) n n) (u.alloc (.cells (madeCells #[.bool false] n) 4)) := fun u => run_make_row' (P := Tryd.prog) 51 4 (.bool false) 1 Tryd.underlying51 infoBool rfl .i64 .i64 n (by omega) (by omega) u
  go_enter Tryd.func22, Tryd.ntmps22
  go_wp2_with fail
  refine NO.out.mono ?_
  rintro e w1 ⟨K, rfl, hk, M, cap, hcs, hm, b1⟩
  have HB : Hid (Below w.heap.size w w1) := b1
  have HC : Hid (CS 48 57 w1 K M cap W H (fun _ _ => bk 0 0 0)) := hcs
  have hkl := hcs.klt
  have hml := hcs.cv.lt
  clear hcs b1
  go_wp2
  refine bodyPost_ret (v := .tuple #[.pointer (some ⟨w1.heap.size + 1, 0, none⟩), .int .i64 0]) (by simp [results, Tryd.results22, go_sem]) rfl ?_
  have h1 := HB.out.size
  refine ⟨w1.heap.size + 1, w1.heap.size, n, rfl, ⟨⟨K, M, cap, ?_, hk, hm⟩, by omega, h1, (HB.out.alloc h1 _).alloc (by simp; omega) _⟩⟩
  have G : Gr w1 ((w1.alloc (.cells (madeCells #[.bool false] n) 4)).alloc (.cells (rtc K w1.heap.size n (rm0 W H)) 53)) := ((Gr.refl _).alloc _).alloc _
  have e0 : rtc K w1.heap.size n (rm0 W H) = #[.pointer (some ⟨K, 0, none⟩), .int .i64 0, .int .i64 0, .int .i64 0, .int .i64 0, .int .i64 0, .string ⟨#[]⟩, .int .i64 (-1), .int .i64 0, .slice (some ⟨w1.heap.size, 0, none⟩) n n] := by
    show #[_, _, _, _, _, _, _, _, _, Value.slice (some ⟨w1.heap.size, 0, none⟩) (W * H) n] = _
    rw [HN.out]
    rfl
  rw [← e0]
  have hal : (w1.alloc (.cells (madeCells #[.bool false] n) 4)).heap.size = w1.heap.size + 1 := by simp
  refine ⟨?_, HC.out.gr G, ?_, by omega, by omega, by omega, by omega, by omega, ?_, hW, hH, pall1 W H⟩
  · have := heap_alloc_new (w1.alloc (.cells (madeCells #[.bool false] n) 4)) (.cells (rtc K w1.heap.size n (rm0 W H)) 53)
    rw [hal] at this
    exact this
  · have hb := BR.new w1 n
    have hn2 : (rm0 W H).W * (rm0 W H).H = n := HN.out
    rw [hn2]
    exact hb.keep (((Gr.refl _).alloc _).block (by rw [hal]; omega))
  · show W * H ≤ n
    rw [HN.out]
    exact Nat.le_refl _

end Go.Proofs.YtlfffpoeioecjaaDoor
