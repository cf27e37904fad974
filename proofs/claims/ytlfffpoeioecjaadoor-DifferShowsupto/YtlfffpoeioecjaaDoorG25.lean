/-
  A terminal keeps its size, whatever it reads: plain mathematics.
-/
import Derived.Test.YtlfffpoeioecjaaDoorG24
import Derived.Test.YtlfffpoeioecjaaDoorG22
import Derived.Test.YtlfffpoeioecjaaDoorG05
import Derived.Lib.ItoaNum
import Derived.Lib.Join
namespace Go.Proofs.YtlfffpoeioecjaaDoor
open Go.RowKit Go.Sort
set_option linter.unusedVariables false

def wh (s : Tm) : Nat × Nat := (s.W, s.H)
theorem wh_mark (s : Tm) (mk : ByteArray) : wh (markT s mk) = wh s := by unfold markT; split <;> rfl
theorem wh_pr (s : Tm) (r : Int) : wh (prT s r) = wh s := by
  unfold prT
  split
  · exact wh_mark _ _
  · split <;> rfl
theorem wh_prs (s : Tm) : ∀ R : List Int, wh (prsT s R) = wh s
  | [] => rfl
  | r :: R => (wh_prs (prT s r) R).trans (wh_pr s r)
theorem wh_am (s : Tm) (t : ByteArray) : wh (amT s t).1 = wh s := by
  unfold amT
  split
  · exact wh_pr _ _
  · rfl
theorem wh_out (s : Tm) (b : UInt8) : wh (outT s b).1 = wh s := by
  unfold outT
  split
  · rfl
  · split
    · rfl
    · exact wh_am _ _
theorem wh_obey (s : Tm) (b : Int) (l : Nat → Int) (a : Int) : wh (obeyT s b l a) = wh s := by
  unfold obeyT
  split
  · rfl
  · split
    · split <;> rfl
    · split <;> rfl
theorem wh_step (s : Tm) (b : UInt8) (st : St) : wh (stepT s b st).1 = wh s := by
  cases st with
  | out => exact wh_out s b
  | esc => rfl
  | amid h =>
    show wh (amA s h b).1 = wh s
    unfold amA
    split
    · exact (wh_out _ _).trans (wh_prs _ _)
    · exact wh_am _ _
  | wth l a =>
    show wh (wthT s l a.toNat b.toNat).1 = wh s
    unfold wthT
    split
    · rfl
    · split
      · rfl
      · split
        · rfl
        · split
          · exact wh_obey _ _ _ _
          · rfl
theorem wh_run : ∀ (l : List UInt8) (p : Tm × St), wh (runT p l).1 = wh p.1
  | [], p => rfl
  | b :: l, p => (wh_run l (stepT p.1 b p.2)).trans (wh_step p.1 b p.2)
theorem pall0 (W H : Nat) : PAll W H (fun _ _ => bk 0 0 0) := fun y hy => ⟨fun i hi => .inl rfl, fun i hi h => absurd h (by show ¬ (0 : Int) = 1; decide), fun i hi h => absurd h (by show ¬ (0 : Int) = 2; decide)⟩

end Go.Proofs.YtlfffpoeioecjaaDoor

namespace Go.Proofs.YtlfffpoeioecjaaDoor
open Go.RowKit Go.Sort
set_option linter.unusedVariables false

theorem seen_whole {W H x y a b : Int} (hW : 1 ≤ W ∧ W ≤ 400) (hH : 1 ≤ H ∧ H ≤ 400) (hx : 0 ≤ x) (ha : 1 ≤ a) (hxa : x + a ≤ W) (hy : 0 ≤ y) (hb : 1 ≤ b) (hyb : y + b ≤ H) : seenQ W H x y a b 0 0 W H = (x, y, a, b) := by
  have e1 : capQ x y a b 0 0 W H = (x, y, a, b) := by
    rw [capQ_cq, posI_id (n := x) (by omega), posI_id (n := y) (by omega), lenI_id (n := a) (by omega), lenI_id (n := b) (by omega), lenI_id (n := W) (by omega), lenI_id (n := H) (by omega), show posI 0 = 0 from rfl]
    unfold cq
    rw [if_neg (by omega)]
    refine Prod.ext ?_ (Prod.ext ?_ (Prod.ext ?_ ?_)) <;> simp only <;> omega
  unfold seenQ
  rw [e1]
  simp only
  rw [capQ_cq, posI_id (n := x) (by omega), posI_id (n := y) (by omega), lenI_id (n := a) (by omega), lenI_id (n := b) (by omega), lenI_id (n := W) (by omega), lenI_id (n := H) (by omega), show posI 0 = 0 from rfl]
  unfold cq
  rw [if_neg (by omega)]
  refine Prod.ext ?_ (Prod.ext ?_ (Prod.ext ?_ ?_)) <;> simp only <;> omega

/-- What a terminal puts. -/
theorem put_whole {W H : Nat} (hW : 1 ≤ W ∧ W ≤ 400) (hH : 1 ≤ H ∧ H ≤ 400) (c : Nat → Nat → Ce) {x y : Nat} {wd : Int} (txt : ByteArray) (f g b : Int) (hw : wd = 1 ∨ wd = 2) (hx : (x : Int) + wd ≤ W) (hy : y < H) :
    putC W H c x y txt wd f g b 0 0 W H = fill c x (x + wd.toNat) y (y + 1) (gly x wd txt (kn f) (kn g) (bo b)) := by
  unfold putC
  rw [seen_whole (by omega) (by omega) (by omega) (by omega) (by omega) (by omega) (by omega) (by omega)]
  unfold putQ putX
  rw [if_pos hw]
  simp only
  rw [if_neg (by omega)]
  congr 1 <;> omega

/-- What is erased whole. -/
theorem fil_whole {W H : Nat} (hW : 1 ≤ W ∧ W ≤ 400) (hH : 1 ≤ H ∧ H ≤ 400) (c : Nat → Nat → Ce) {y x : Nat} (hy : y < H) (hx : x < W) : filC W H c 0 0 W H 0 0 0 0 0 W H y x = bk 0 0 0 := by
  unfold filC
  rw [seen_whole (by omega) (by omega) (by omega) (by omega) (by omega) (by omega) (by omega) (by omega)]
  simp only
  unfold fill
  rw [if_pos (by omega), span_in (by omega)]
  rfl

/-- Only the cells on the screen tell. -/
theorem TM.same {w : World} {T K M cap : Nat} {s : Tm} {nv : Value} {c' : Nat → Nat → Ce} (h : TM w T K M cap s nv) (hc : ∀ y x, y < s.H → x < s.W → s.c y x = c' y x) (hp : PAll s.W s.H c') : TM w T K M cap { s with c := c' } nv :=
  ⟨h.tb, ⟨h.cs.kb, h.cs.cv.same hc, h.cs.ne, h.cs.hc⟩, h.tk, h.tm, h.hW, h.hH, hp⟩

/-- An m ends what is half come. -/
theorem full_m {h : ByteArray} (hs : h.size ≤ 3) : full (h ++ ⟨#[109]⟩).data.toList := by
  obtain ⟨l, hl⟩ : ∃ l, h.data.toList = l := ⟨_, rfl⟩
  have e : (h ++ ⟨#[109]⟩).data.toList = l ++ [109] := by simp [hl]
  have hs2 : l.length ≤ 3 := by rw [← hl, len_data]; exact hs
  rw [e]
  refine ⟨by simp, ?_⟩
  match l, hs2 with
  | [], _ => exact .inl (by decide)
  | [a], _ =>
    have e1 : byt ([a] ++ [109]) 1 = 109 := rfl
    have := lo_bd (byt ([a] ++ [109]) 0)
    right; right; right; left
    exact ⟨by simp, .inl (by rw [e1]; omega)⟩
  | [a, b], _ =>
    right; right; right; right
    exact ⟨by simp, .inl (by show byt [a, b, 109] 2 < _; exact (by decide : (109 : Nat) < 0x80))⟩
  | [a, b, c], _ =>
    right; right; left
    have := n_bd (byt ([a, b, c] ++ [109]) 0)
    simp only [List.length_append, List.length_cons, List.length_nil]
    omega
theorem step_m (s : Tm) (st : St) (h : Si st) : (stepT s 109 st).2 = .out := by
  have out : ∀ s, (outT s 109).2 = .out := fun s => rfl
  cases st with
  | out => exact out s
  | esc => rfl
  | amid hh =>
    show (amA s hh 109).2 = .out
    have hf := full_m h
    unfold amA
    by_cases hr : (runes (hh ++ ⟨#[109]⟩).data.toList).length ≠ 1
    · rw [if_pos ⟨hf, hr⟩]; exact out _
    · rw [if_neg (fun q => hr q.2)]; unfold amT; rw [if_pos hf]
  | wth l a => rfl

/-- Erased, sent home and made plain. -/
def wipe : List UInt8 := [109, 27, 91, 109, 27, 91, 50, 74, 27, 91, 72]
set_option maxRecDepth 100000 in
theorem wiped (s : Tm) (st : St) (h : Si st) (hW : 1 ≤ s.W) (hH : 1 ≤ s.H) : runT (s, st) wipe = ({ tm0 s.W s.H with c := filC s.W s.H (stepT s 109 st).1.c 0 0 s.W s.H 0 0 0 0 0 s.W s.H }, .out) := by
  have e0 : stepT s 109 st = ((stepT s 109 st).1, .out) := Prod.ext rfl (step_m s st h)
  obtain ⟨s1, h1⟩ : ∃ z, (stepT s 109 st).1 = z := ⟨_, rfl⟩
  have hw : wh s1 = wh s := by rw [← h1]; exact wh_step s 109 st
  rw [h1] at e0 ⊢
  show runT (stepT s 109 st) (wipe.drop 1) = _
  rw [e0]
  have hsW : s1.W = s.W := congrArg Prod.fst hw
  have hsH : s1.H = s.H := congrArg Prod.snd hw
  have e : runT (s1, .out) (wipe.drop 1) = (⟨s1.W, s1.H, filC s1.W s1.H s1.c 0 0 s1.W s1.H 0 0 0 0 0 s1.W s1.H, ⟨min (max 0 1) (s1.W : Int) - 1, min (max 0 1) (s1.H : Int) - 1, 0, 0, 0, 0, 0, ⟨#[]⟩, 0, 0⟩⟩, .out) := rfl
  rw [e, hsW, hsH]
  have x0 : min (max 0 1) (s.W : Int) - 1 = 0 := by omega
  have y0 : min (max 0 1) (s.H : Int) - 1 = 0 := by omega
  rw [x0, y0]
  rfl

end Go.Proofs.YtlfffpoeioecjaaDoor

namespace Go.Proofs.YtlfffpoeioecjaaDoor
set_option linter.unusedVariables false

theorem span_over {r x x' : Nat → Ce} {a z : Nat} (h0 : (x a).p ≠ 2) (h1 : (x (z - 1)).p ≠ 1) : span (span r a z x) a z x' = span r a z x' := by
  by_cases haz : a < z
  · funext j
    by_cases hin : a ≤ j ∧ j < z
    · rw [span_in hin, span_in hin]
    · have e1 : span r a z x a = x a := span_in ⟨Nat.le_refl _, haz⟩
      have e2 : span r a z x (z - 1) = x (z - 1) := span_in ⟨by omega, by omega⟩
      have lhs : span (span r a z x) a z x' j = span r a z x j := by
        show (if a ≤ j ∧ j < z then x' j else if a < z ∧ j + 1 = a ∧ (span r a z x a).p = 2 then bl (span r a z x j) else if a < z ∧ j = z ∧ (span r a z x (z - 1)).p = 1 then bl (span r a z x j) else span r a z x j) = _
        rw [if_neg hin, e1, e2, if_neg (fun q => h0 q.2.2), if_neg (fun q => h1 q.2.2)]
      rw [lhs]
      unfold span
      rw [if_neg hin, if_neg hin]
  · rw [span_none haz, span_none haz, span_none haz]
theorem fill_over {c : Nat → Nat → Ce} {x x' : Nat → Ce} {l r t d : Nat} (h0 : (x l).p ≠ 2) (h1 : (x (r - 1)).p ≠ 1) : fill (fill c l r t d x) l r t d x' = fill c l r t d x' := by
  funext y
  unfold fill
  by_cases h : t ≤ y ∧ y < d
  · rw [if_pos h, if_pos h, if_pos h, span_over h0 h1]
  · rw [if_neg h, if_neg h, if_neg h]
theorem gly_first (X : Nat) (wd : Int) (hw : wd = 1 ∨ wd = 2) (txt : ByteArray) (f g b : Int) : (gly X wd txt f g b X).p ≠ 2 ∧ (gly X wd txt f g b (X + wd.toNat - 1)).p ≠ 1 := by
  unfold gly
  rcases hw with h | h
  · subst h
    rw [if_neg (by decide), if_neg (by decide)]
    exact ⟨by show (0 : Int) ≠ 2; decide, by show (0 : Int) ≠ 1; decide⟩
  · subst h
    rw [if_pos rfl, if_pos rfl, if_pos rfl, if_neg (by show ¬ X + 2 - 1 = X; omega)]
    exact ⟨by show (1 : Int) ≠ 2; decide, by show (2 : Int) ≠ 1; decide⟩
theorem enc_app (a b : List Int) : enc (a ++ b) = enc a ++ enc b := by unfold enc; rw [List.flatMap_append]
/-- A terminal behind a cell that was printed. -/
def celT (t : Tm) (X Y : Nat) (R : List Int) (n : Int) : Tm := ⟨t.W, t.H, fill t.c X (X + n.toNat) Y (Y + 1) (gly X n ⟨(enc R).toArray⟩ (kn t.r.f) (kn t.r.g) (bo t.r.b)), { clr t.r with x := X + n, y := Y, lx := X, ly := Y, lt := ⟨(enc R).toArray⟩, lw := n, lm := (R.length : Int) - 1 }⟩
theorem cell_run {t : Tm} (hW : 1 ≤ t.W ∧ t.W ≤ 400) (hH : 1 ≤ t.H ∧ t.H ≤ 400) {X Y : Nat} (hx : t.r.x = X) (hy : t.r.y = Y) (hY : Y < t.H) {b : Int} {n : Int} (hb : wid b = n) (hn : n = 1 ∨ n = 2) (hX : (X : Int) + n ≤ t.W) : ∀ (ms : List Int), (∀ m ∈ ms, wid m = 0) → ms.length ≤ 4 → prsT t (b :: ms) = celT t X Y (b :: ms) n := by
  have h1 : prT t b = celT t X Y [b] n := by
    unfold prT
    rw [hb, if_neg (by omega), if_neg (by rw [hx]; omega)]
    unfold celT putL
    simp only
    rw [hx, hy]
    have e : putC t.W t.H t.c (X : Int) (Y : Int) ⟨(enc [b]).toArray⟩ n t.r.f t.r.g t.r.b 0 0 t.W t.H = _ := put_whole hW hH t.c ⟨(enc [b]).toArray⟩ t.r.f t.r.g t.r.b hn hX hY
    have e2 : putC t.W t.H t.c (X : Int) (Y : Int) ⟨(enc [b]).toArray⟩ n (clr t.r).f (clr t.r).g (clr t.r).b 0 0 t.W t.H = putC t.W t.H t.c (X : Int) (Y : Int) ⟨(enc [b]).toArray⟩ n t.r.f t.r.g t.r.b 0 0 t.W t.H := rfl
    rw [e2, e]
    unfold clr
    simp [hy]
  have key : ∀ k, ∀ ms : List Int, ms.length = k → (∀ m ∈ ms, wid m = 0) → ms.length ≤ 4 → prsT t (b :: ms) = celT t X Y (b :: ms) n := by
    intro k
    induction k with
    | zero =>
      intro ms hk _ _
      obtain rfl := List.length_eq_zero_iff.1 hk
      exact h1
    | succ k ih =>
      intro ms hk hm hl
      have hne : ms ≠ [] := by intro e; rw [e] at hk; simp at hk
      obtain ⟨ps, m, rfl⟩ : ∃ ps m, ms = ps ++ [m] := ⟨ms.dropLast, ms.getLast hne, (List.dropLast_concat_getLast hne).symm⟩
      have hpl : ps.length = k := by rw [List.length_append] at hk; simp at hk; exact hk
      have hi := ih ps hpl (fun z hz => hm z (List.mem_append_left _ hz)) (by rw [List.length_append] at hl; simp at hl; omega)
      have hwm := hm m (List.mem_append_right _ (List.mem_singleton.2 rfl))
      rw [← List.cons_append, prsT_app, hi]
      unfold prT
      rw [if_pos hwm]
      unfold markT
      have hlm : (celT t X Y (b :: ps) n).r.lm = (ps.length : Int) := by show ((b :: ps).length : Int) - 1 = _; simp
      have hlw : (celT t X Y (b :: ps) n).r.lw = n := rfl
      have hl4 : ps.length < 4 := by rw [List.length_append] at hl; simp at hl; omega
      rw [if_neg (by rw [hlm, hlw]; omega)]
      have et : (⟨(enc (b :: ps)).toArray⟩ : ByteArray) ++ ⟨(enc [m]).toArray⟩ = ⟨(enc (b :: ps ++ [m])).toArray⟩ := by
        apply ByteArray.ext
        rw [enc_app]
        simp
      unfold putL
      simp only
      have ec : putC t.W t.H (celT t X Y (b :: ps) n).c (X : Int) (Y : Int) ((⟨(enc (b :: ps)).toArray⟩ : ByteArray) ++ ⟨(enc [m]).toArray⟩) n t.r.f t.r.g t.r.b 0 0 t.W t.H = fill t.c X (X + n.toNat) Y (Y + 1) (gly X n ⟨(enc (b :: ps ++ [m])).toArray⟩ (kn t.r.f) (kn t.r.g) (bo t.r.b)) := by
        rw [put_whole hW hH _ _ t.r.f t.r.g t.r.b hn hX hY, et]
        have hg := gly_first X n hn ⟨(enc (b :: ps)).toArray⟩ (kn t.r.f) (kn t.r.g) (bo t.r.b)
        exact fill_over hg.1 hg.2
      show (⟨t.W, t.H, putC t.W t.H (celT t X Y (b :: ps) n).c (X : Int) (Y : Int) ((⟨(enc (b :: ps)).toArray⟩ : ByteArray) ++ ⟨(enc [m]).toArray⟩) n t.r.f t.r.g t.r.b 0 0 t.W t.H, _⟩ : Tm) = _
      rw [ec]
      unfold celT
      simp only
      rw [← et]
      congr 1
      simp
  exact fun ms h1 h2 => key ms.length ms rfl h1 h2
theorem mem_while {p : Int → Bool} {m : Int} : ∀ {l : List Int}, m ∈ l.takeWhile p → p m = true
  | [], h => by cases h
  | a :: l, h => by
    rw [List.takeWhile_cons] at h
    by_cases q : p a = true
    · rw [if_pos q] at h
      rcases List.mem_cons.1 h with rfl | h
      · exact q
      · exact mem_while h
    · rw [if_neg q] at h; cases h
/-- The text of a cell that a screen may have. -/
theorem cell_text {l : List UInt8} {n : Int} (hn : n = 1 ∨ n = 2) (h : clus (runes l) = [(l, n)]) : ∃ b ms, l = enc (b :: ms) ∧ wid b = n ∧ (∀ m ∈ ms, wid m = 0) ∧ ms.length ≤ 4 ∧ ∀ r ∈ b :: ms, Good r ∧ r ≠ 10 := by
  obtain ⟨R, hR⟩ : ∃ R, runes l = R := ⟨_, rfl⟩
  have hgood : ∀ r ∈ R, Good r := by rw [← hR]; exact runes_good l
  rw [hR] at h
  have hne : R ≠ [] := by intro e; rw [e, clus_nil] at h; cases h
  rw [clus_step hne] at h
  injection h with h h'
  injection h with ht hw
  obtain ⟨r, R', rfl⟩ := List.exists_cons_of_ne_nil hne
  have h10 : r ≠ 10 := by
    intro e
    have : cWide (r :: R') = 0 := by show (if r = 10 then (0 : Int) else _) = 0; rw [if_pos e]
    omega
  have et : cText (r :: R') = enc (cBase (r :: R') :: (cMarks (r :: R')).take 4) := by show (if r = 10 then _ else _) = _; rw [if_neg h10]
  have ew : cWide (r :: R') = wid (cBase (r :: R')) := by show (if r = 10 then _ else _) = _; rw [if_neg h10]
  refine ⟨cBase (r :: R'), (cMarks (r :: R')).take 4, by rw [← et, ht], by rw [← ew, hw], fun m hm => ?_, by rw [List.length_take]; omega, fun z hz => ?_⟩
  · have h1 := List.mem_of_mem_take hm
    unfold cMarks mks at h1
    have := mem_while h1
    exact ((isMk_iff m).1 this).2
  · rcases List.mem_cons.1 hz with rfl | hz
    · have hb : cBase (r :: R') = 32 ∨ cBase (r :: R') = r := by show (if isMk r = true then _ else _) = _ ∨ _; unfold cBase; by_cases q : isMk r = true; simp [q]; simp [q]
      rcases hb with e | e
      · rw [e]
        exact ⟨⟨.inl ⟨by decide, by decide⟩, by decide⟩, by decide⟩
      · rw [e]
        exact ⟨hgood r (List.mem_cons_self ..), h10⟩
    · have h1 := List.mem_of_mem_take hz
      unfold cMarks mks at h1
      have h2 := mem_while h1
      have h3 : z ∈ r :: R' := List.mem_of_mem_drop ((List.takeWhile_sublist _).subset h1)
      exact ⟨hgood z h3, ((isMk_iff z).1 h2).1⟩

end Go.Proofs.YtlfffpoeioecjaaDoor

namespace Go.Proofs.YtlfffpoeioecjaaDoor
set_option linter.unusedVariables false

def dgt (n : Int) : List UInt8 := Lib.decDigits n.toNat
/-- A sequence. -/
def seqB (ns : List Int) (c : UInt8) : List UInt8 := 27 :: 91 :: (Lib.join (ns.map dgt) [59] ++ [c])
def fromL (ns : List Int) : Nat → Int := fun j => ns.getD j 0
theorem fromL_zero (ps : List Int) : fromL (ps ++ [0]) = fromL ps := by
  funext j
  unfold fromL
  rw [List.getD_eq_getElem?_getD, List.getD_eq_getElem?_getD]
  by_cases h : j < ps.length
  · rw [List.getElem?_append_left h]
  · rw [List.getElem?_append_right (by omega), List.getElem?_eq_none (l := ps) (by omega)]
    by_cases h2 : j - ps.length = 0
    · rw [h2]; rfl
    · rw [List.getElem?_eq_none (by simp; omega)]
theorem fromL_upd (ps : List Int) (v v' : Int) : updN (fromL (ps ++ [v])) ps.length v' = fromL (ps ++ [v']) := by
  funext j
  unfold updN fromL
  rw [List.getD_eq_getElem?_getD, List.getD_eq_getElem?_getD]
  by_cases h : j = ps.length
  · rw [if_pos h, h, List.getElem?_append_right (Nat.le_refl _)]; simp
  · rw [if_neg h]
    by_cases h2 : j < ps.length
    · rw [List.getElem?_append_left h2, List.getElem?_append_left h2]
    · rw [List.getElem?_eq_none (by simp; omega), List.getElem?_eq_none (by simp; omega)]
theorem fromL_at (ps : List Int) (v : Int) : fromL (ps ++ [v]) ps.length = v := by
  unfold fromL
  rw [List.getD_eq_getElem?_getD, List.getElem?_append_right (Nat.le_refl _)]
  simp
theorem u8_dig (d : Nat) (h : d < 10) : (UInt8.ofNat (48 + d)).toNat = 48 + d := by
  rw [UInt8.toNat_ofNat']
  omega
/-- A digit more. -/
theorem run_dig (s : Tm) (ps : List Int) (v : Int) (d : Nat) (hd : d < 10) : stepT s (UInt8.ofNat (48 + d)) (.wth (fromL (ps ++ [v])) (ps.length : Int)) = (s, .wth (fromL (ps ++ [min (v * 10 + (d : Int)) 999999])) (ps.length : Int)) := by
  show wthT s (fromL (ps ++ [v])) ((ps.length : Int)).toNat ((UInt8.ofNat (48 + d)).toNat : Int) = _
  rw [u8_dig d hd, Int.toNat_natCast]
  unfold wthT
  rw [if_pos (by omega), fromL_at, fromL_upd, show ((48 + d : Nat) : Int) - 48 = (d : Int) by omega]
theorem run_digs (s : Tm) (ps : List Int) : ∀ (n : Nat), n ≤ 999999 → runT (s, .wth (fromL (ps ++ [0])) (ps.length : Int)) (Lib.decDigits n) = (s, .wth (fromL (ps ++ [(n : Int)])) (ps.length : Int)) := by
  intro n
  induction n using Nat.strongRecOn with
  | _ n ih =>
    intro hn
    rw [Lib.decDigits]
    by_cases h : n < 10
    · rw [dif_pos h]
      show stepT s (UInt8.ofNat (48 + n)) (.wth (fromL (ps ++ [0])) (ps.length : Int)) = _
      rw [run_dig s ps 0 n h, show min ((0 : Int) * 10 + (n : Int)) 999999 = (n : Int) by omega]
    · rw [dif_neg h, runT_append, ih (n / 10) (by omega) (by omega)]
      show stepT s (UInt8.ofNat (48 + n % 10)) (.wth (fromL (ps ++ [((n / 10 : Nat) : Int)])) (ps.length : Int)) = _
      rw [run_dig s ps _ (n % 10) (by omega), show min (((n / 10 : Nat) : Int) * 10 + ((n % 10 : Nat) : Int)) 999999 = (n : Int) by omega]
/-- A semicolon. -/
theorem run_semi (s : Tm) (ps : List Int) (v : Int) (h : ps.length < 16) : stepT s 59 (.wth (fromL (ps ++ [v])) (ps.length : Int)) = (s, .wth (fromL (ps ++ [v] ++ [0])) (((ps ++ [v]).length : Nat) : Int)) := by
  show wthT s (fromL (ps ++ [v])) ((ps.length : Int)).toNat ((59 : UInt8).toNat : Int) = _
  rw [Int.toNat_natCast, fromL_zero]
  unfold wthT
  rw [show ((59 : UInt8).toNat : Int) = 59 from rfl, if_neg (by omega), if_neg (by omega), if_pos rfl, show min ((ps.length : Int) + 1) 16 = (((ps ++ [v]).length : Nat) : Int) by rw [List.length_append]; simp; omega]
/-- Numbers behind one another. -/
theorem run_nums (s : Tm) : ∀ (ns : List Int) (n : Int) (ps : List Int), (∀ z ∈ n :: ns, 0 ≤ z ∧ z ≤ 999999) → ps.length + ns.length + 1 ≤ 16 → runT (s, .wth (fromL (ps ++ [0])) (ps.length : Int)) (dgt n ++ Lib.joinTail [59] (ns.map dgt)) = (s, .wth (fromL (ps ++ n :: ns)) ((ps.length + ns.length : Nat) : Int))
  | [], n, ps, h, hl => by
    have hn := h n (List.mem_cons_self ..)
    have e : Lib.joinTail [59] (([] : List Int).map dgt) = [] := rfl
    rw [e, List.append_nil]
    have := run_digs s ps n.toNat (by omega)
    rw [show ((n.toNat : Nat) : Int) = n by omega] at this
    exact this
  | m :: ns, n, ps, h, hl => by
    have hn := h n (List.mem_cons_self ..)
    have e : dgt n ++ Lib.joinTail [59] ((m :: ns).map dgt) = dgt n ++ (59 :: (dgt m ++ Lib.joinTail [59] (ns.map dgt))) := by unfold Lib.joinTail; simp
    rw [e, runT_append]
    have h1 := run_digs s ps n.toNat (by omega)
    rw [show ((n.toNat : Nat) : Int) = n by omega] at h1
    have h2 : runT (s, .wth (fromL (ps ++ [0])) (ps.length : Int)) (dgt n) = (s, .wth (fromL (ps ++ [n])) (ps.length : Int)) := h1
    rw [h2]
    show runT (stepT s 59 (.wth (fromL (ps ++ [n])) (ps.length : Int))) (dgt m ++ Lib.joinTail [59] (ns.map dgt)) = _
    rw [run_semi s ps n (by omega)]
    have h3 := run_nums s ns m (ps ++ [n]) (fun z hz => h z (List.mem_cons_of_mem _ hz)) (by rw [List.length_append]; simp only [List.length_cons, List.length_nil] at hl ⊢; omega)
    rw [h3]
    have e2 : ps ++ [n] ++ m :: ns = ps ++ n :: m :: ns := by simp
    have e3 : (ps ++ [n]).length + ns.length = ps.length + (m :: ns).length := by simp; omega
    rw [e2, e3]
/-- A whole sequence. -/
theorem run_seq (s : Tm) (n : Int) (ns : List Int) (c : UInt8) (hc : 64 ≤ c.toNat ∧ c.toNat ≤ 126) (h : ∀ z ∈ n :: ns, 0 ≤ z ∧ z ≤ 999999) (hl : ns.length + 1 ≤ 16) : runT (s, .out) (seqB (n :: ns) c) = (obeyT { s with r := clr s.r } c.toNat (fromL (n :: ns)) (ns.length : Int), .out) := by
  unfold seqB
  have e : Lib.join ((n :: ns).map dgt) [59] = dgt n ++ Lib.joinTail [59] (ns.map dgt) := Lib.join_cons _ _ _
  rw [e]
  have z : fromL ([] ++ [0]) = fun _ => (0 : Int) := by rw [fromL_zero]; funext j; rfl
  have h2 := run_nums { s with r := clr s.r } ns n [] h (by simp; omega)
  rw [z] at h2
  show runT (stepT (stepT s 27 .out).1 91 (stepT s 27 .out).2) ((dgt n ++ Lib.joinTail [59] (ns.map dgt)) ++ [c]) = _
  have e1 : stepT s 27 .out = ({ s with r := clr s.r }, .esc) := rfl
  have e2 : stepT { s with r := clr s.r } 91 .esc = ({ s with r := clr s.r }, .wth (fun _ => 0) 0) := rfl
  rw [e1, e2, runT_append]
  have h3 : runT ({ s with r := clr s.r }, .wth (fun _ => 0) 0) (dgt n ++ Lib.joinTail [59] (ns.map dgt)) = ({ s with r := clr s.r }, .wth (fromL (n :: ns)) ((0 + ns.length : Nat) : Int)) := h2
  rw [h3]
  show wthT _ _ _ _ = _
  rw [Int.toNat_natCast, Nat.zero_add]
  unfold wthT
  rw [if_neg (by omega), if_neg (by omega), if_neg (by omega), if_pos (by omega)]
theorem fromL_lst (ns : List Int) (n : Int) (h : ns.length + 1 ≤ 16) : lst (fromL (n :: ns)) (cntN (ns.length : Int)) = n :: ns := by
  have e : cntN (ns.length : Int) = ns.length + 1 := by unfold cntN; omega
  rw [e]
  unfold lst fromL
  apply List.ext_getElem?
  intro j
  by_cases hj : j < ns.length + 1
  · rw [List.getElem?_map, List.getElem?_range hj]
    show some ((n :: ns).getD j 0) = _
    rw [List.getD_eq_getElem?_getD, List.getElem?_eq_getElem (by simpa using hj)]
    rfl
  · rw [List.getElem?_eq_none (by simp; omega), List.getElem?_eq_none (by simp; omega)]
/-- A sequence for the style. -/
theorem run_style (s : Tm) (n : Int) (ns : List Int) (h : ∀ z ∈ n :: ns, 0 ≤ z ∧ z ≤ 999999) (hl : ns.length + 1 ≤ 16) : runT (s, .out) (seqB (n :: ns) 109) = ({ s with r := { clr s.r with f := aplF (n :: ns) s.r.f, g := aplG (n :: ns) s.r.g, b := aplB (n :: ns) s.r.b } }, .out) := by
  rw [run_seq s n ns 109 (by decide) h hl]
  have e : ((109 : UInt8).toNat : Int) = 109 := rfl
  rw [e]
  unfold obeyT
  rw [if_neg (by decide), if_neg (by decide), if_pos rfl, fromL_lst ns n hl]
  rfl
/-- A sequence for the cursor. -/
theorem run_move (s : Tm) (i j : Nat) (hi : i < s.H) (hj : j < s.W) (hW : s.W ≤ 400) (hH : s.H ≤ 400) : runT (s, .out) (seqB [(i : Int) + 1, (j : Int) + 1] 72) = ({ s with r := { clr s.r with x := j, y := i } }, .out) := by
  rw [run_seq s _ _ 72 (by decide) (fun z hz => by
    rcases List.mem_cons.1 hz with rfl | hz
    · omega
    · rw [List.mem_singleton] at hz; omega) (by simp)]
  have e : ((72 : UInt8).toNat : Int) = 72 := rfl
  rw [e]
  unfold obeyT
  rw [if_pos rfl]
  have l0 : fromL [(i : Int) + 1, (j : Int) + 1] 0 = (i : Int) + 1 := rfl
  have l1 : fromL [(i : Int) + 1, (j : Int) + 1] 1 = (j : Int) + 1 := rfl
  rw [l0, l1]
  have ex : min (max ((j : Int) + 1) 1) (s.W : Int) - 1 = (j : Int) := by omega
  have ey : min (max ((i : Int) + 1) 1) (s.H : Int) - 1 = (i : Int) := by omega
  show ((_ : Tm), St.out) = _
  rw [ex, ey]

end Go.Proofs.YtlfffpoeioecjaaDoor
