/-
  New, Cells, Cursor, Style of a terminal.
-/
import Derived.Test.YtkdajaphbmclkaaGreatDoorX16
import Derived.Test.YtkdajaphbmclkaaGreatDoorX08
import Derived.Test.YtkdajaphbmclkaaGreatDoorClus
namespace Go.Proofs.YtkdajaphbmclkaaGreatDoor
open Go.RowKit Go.Sort
set_option linter.unusedVariables false

/-- A new terminal. -/
def tm0 (W H : Nat) : Tm := ⟨W, H, fun _ _ => bk 0 0 0, ⟨0, 0, 0, 0, 0, 0, 0, ⟨#[]⟩, 0, 0⟩⟩
theorem ti0 (W H : Nat) (hH : 1 ≤ H) : Ti (tm0 W H) := ⟨by show (0 : Int) ≤ 0; decide, by show (0 : Int) ≤ (W : Int); omega, by show (0 : Int) ≤ 0; decide, by show (0 : Int) < (H : Int); omega, by show (0 : Int) ≤ 0; decide, by show (0 : Int) ≤ 4; decide, by show ((⟨#[]⟩ : ByteArray).size : Int) ≤ 4 + 4 * 0; decide⟩

set_option maxRecDepth 100000 in
theorem tnew_bad (W H : Int) (w : World) (h : ¬ ((1 ≤ W ∧ W ≤ 400) ∧ (1 ≤ H ∧ H ≤ 400))) : Calls Tryz.prog 5 #[.int .i64 W, .int .i64 H] w fun e w' => e = .returned (.tuple #[.pointer none, .int .i64 6]) ∧ w' = w := by
  have NB : Hid (Calls Tryz.prog 14 #[.int .i64 W, .int .i64 H] w fun e w' => e = .returned (.tuple #[.pointer none, .int .i64 6]) ∧ w' = w) := new_bad W H w h
  clear h
  go_enter Tryz.func5, Tryz.ntmps5
  go_wp2_with fail
  refine NB.out.mono ?_
  rintro e w1 ⟨rfl, hw⟩
  obtain rfl := hw.symm
  go_wp2
  refine bodyPost_ret (v := .tuple #[.pointer none, .int .i64 6]) (by simp [results, Tryz.results5, go_sem]) rfl ?_
  exact ⟨rfl, rfl⟩

set_option maxRecDepth 100000 in
set_option maxHeartbeats 2000000 in
theorem tnew_ok (W H : Nat) (w : World) (hW : 1 ≤ W ∧ W ≤ 400) (hH : 1 ≤ H ∧ H ≤ 400) (hp : PAll W H (fun _ _ => bk 0 0 0)) : Calls Tryz.prog 5 #[.int .i64 W, .int .i64 H] w fun e w' => ∃ T K M, e = .returned (.tuple #[.pointer (some ⟨T, 0, none⟩), .int .i64 0]) ∧ TM w' T K M (W * H) (tm0 W H) (fnV 15 #[]) ∧ w.heap.size ≤ T ∧ w.heap.size ≤ K ∧ w.heap.size ≤ M ∧ Below w.heap.size w w' := by
  have NO : Hid (Calls Tryz.prog 14 #[.int .i64 W, .int .i64 H] w fun e w' => ∃ K M, e = .returned (.tuple #[.pointer (some ⟨K, 0, none⟩), .int .i64 0]) ∧ CS 82 71 w' K M (W * H) W H (fun _ _ => bk 0 0 0) ∧ w.heap.size ≤ K ∧ w.heap.size ≤ M ∧ Below w.heap.size w w') := new_ok W H w hW hH
  go_enter Tryz.func5, Tryz.ntmps5
  go_wp2_with fail
  refine NO.out.mono ?_
  rintro e w1 ⟨K, M, rfl, hcs, hk, hm, b1⟩
  have HD : Hid (TM (w1.alloc (.cells (tmc K (tm0 W H).r (fnV 15 #[])) 56)) w1.heap.size K M (W * H) (tm0 W H) (fnV 15 #[]) ∧ w.heap.size ≤ w1.heap.size ∧ w.heap.size ≤ K ∧ w.heap.size ≤ M ∧ Below w.heap.size w (w1.alloc (.cells (tmc K (tm0 W H).r (fnV 15 #[])) 56))) :=
    ⟨⟨heap_alloc_new _ _, hcs.gr ((Gr.refl _).alloc _), by have := hcs.klt; omega, by have := hcs.cv.lt; omega, hW, hH, hp⟩, b1.size, hk, hm, b1.alloc b1.size _⟩
  clear hcs hk hm b1
  go_wp2
  refine bodyPost_ret (v := .tuple #[.pointer (some ⟨w1.heap.size, 0, none⟩), .int .i64 0]) (by simp [results, Tryz.results5, go_sem]) rfl ?_
  exact ⟨_, K, M, rfl, HD.out.1, HD.out.2.1, HD.out.2.2.1, HD.out.2.2.2.1, HD.out.2.2.2.2⟩

section
variable {T K M cap : Nat} {s : Tm} {nv : Value}
set_option maxRecDepth 100000 in
theorem tcells_any (w : World) (h : TM w T K M cap s nv) : Calls Tryz.prog 10 #[.pointer (some ⟨T, 0, none⟩)] w fun e w' => ∃ N cap', e = .returned (.slice (some ⟨N, 0, none⟩) (s.W * s.H) cap') ∧ Cv 71 w' N s.W s.H s.c ∧ w.heap.size ≤ N ∧ Below w.heap.size w w' := by
  have c0 : w.cell? ⟨T, 0, none⟩ = some (.pointer (some ⟨K, 0, none⟩)) := h.at rfl
  have CC : Hid (Calls Tryz.prog 22 #[.pointer (some ⟨K, 0, none⟩)] w fun e w' => ∃ N cap', e = .returned (.slice (some ⟨N, 0, none⟩) (s.W * s.H) cap') ∧ Cv 71 w' N s.W s.H s.c ∧ w.heap.size ≤ N ∧ Below w.heap.size w w') := cells_any w h.cs h.hW h.hH
  clear h
  go_enter Tryz.func10, Tryz.ntmps10
  go_wp2_with fail
  refine CC.out.mono ?_
  rintro e w1 ⟨N, cp, rfl, q⟩
  have HQ : Hid (Cv 71 w1 N s.W s.H s.c ∧ w.heap.size ≤ N ∧ Below w.heap.size w w1) := q
  clear q
  go_wp2
  go_ret
  exact ⟨N, cp, rfl, HQ.out.1, HQ.out.2.1, HQ.out.2.2⟩

end

end Go.Proofs.YtkdajaphbmclkaaGreatDoor

namespace Go.Proofs.YtkdajaphbmclkaaGreatDoor
open Go.RowKit Go.Sort
set_option linter.unusedVariables false

def wh (s : Tm) : Nat × Nat := (s.W, s.H)
theorem wh_mark (s : Tm) (mk : ByteArray) : wh (markT s mk) = wh s := by unfold markT; split <;> rfl
theorem wh_pr (s : Tm) (r : Int) : wh (prT s r) = wh s := by
  unfold prT
  split
  · exact wh_mark _ _
  · split <;> rfl
theorem wh_prs (s : Tm) : ∀ R : List Int, wh (prsT s R) = wh s
  | [] => rfl
  | r :: R => (wh_prs (prT s r) R).trans (wh_pr s r)
theorem wh_am (s : Tm) (t : ByteArray) : wh (amT s t).1 = wh s := by
  unfold amT
  split
  · exact wh_pr _ _
  · rfl
theorem wh_out (s : Tm) (b : UInt8) : wh (outT s b).1 = wh s := by
  unfold outT
  split
  · rfl
  · split
    · rfl
    · exact wh_am _ _
theorem wh_obey (s : Tm) (b : Int) (l : Nat → Int) (a : Int) : wh (obeyT s b l a) = wh s := by
  unfold obeyT
  split
  · rfl
  · split
    · split <;> rfl
    · split <;> rfl
theorem wh_step (s : Tm) (b : UInt8) (st : St) : wh (stepT s b st).1 = wh s := by
  cases st with
  | out => exact wh_out s b
  | esc => rfl
  | amid h =>
    show wh (amA s h b).1 = wh s
    unfold amA
    split
    · exact (wh_out _ _).trans (wh_prs _ _)
    · exact wh_am _ _
  | wth l a =>
    show wh (wthT s l a.toNat b.toNat).1 = wh s
    unfold wthT
    split
    · rfl
    · split
      · rfl
      · split
        · rfl
        · split
          · exact wh_obey _ _ _ _
          · rfl
theorem wh_run : ∀ (l : List UInt8) (p : Tm × St), wh (runT p l).1 = wh p.1
  | [], p => rfl
  | b :: l, p => (wh_run l (stepT p.1 b p.2)).trans (wh_step p.1 b p.2)
theorem pall0 (W H : Nat) : PAll W H (fun _ _ => bk 0 0 0) := fun y hy => ⟨fun i hi => .inl rfl, fun i hi h => absurd h (by show ¬ (0 : Int) = 1; decide), fun i hi h => absurd h (by show ¬ (0 : Int) = 2; decide)⟩

end Go.Proofs.YtkdajaphbmclkaaGreatDoor

namespace Go.Proofs.YtkdajaphbmclkaaGreatDoor
open Go.RowKit Go.Sort
set_option linter.unusedVariables false

theorem seen_whole {W H x y a b : Int} (hW : 1 ≤ W ∧ W ≤ 400) (hH : 1 ≤ H ∧ H ≤ 400) (hx : 0 ≤ x) (ha : 1 ≤ a) (hxa : x + a ≤ W) (hy : 0 ≤ y) (hb : 1 ≤ b) (hyb : y + b ≤ H) : seenQ W H x y a b 0 0 W H = (x, y, a, b) := by
  have e1 : capQ x y a b 0 0 W H = (x, y, a, b) := by
    rw [capQ_cq, posI_id (n := x) (by omega), posI_id (n := y) (by omega), lenI_id (n := a) (by omega), lenI_id (n := b) (by omega), lenI_id (n := W) (by omega), lenI_id (n := H) (by omega), show posI 0 = 0 from rfl]
    unfold cq
    rw [if_neg (by omega)]
    refine Prod.ext ?_ (Prod.ext ?_ (Prod.ext ?_ ?_)) <;> simp only <;> omega
  unfold seenQ
  rw [e1]
  simp only
  rw [capQ_cq, posI_id (n := x) (by omega), posI_id (n := y) (by omega), lenI_id (n := a) (by omega), lenI_id (n := b) (by omega), lenI_id (n := W) (by omega), lenI_id (n := H) (by omega), show posI 0 = 0 from rfl]
  unfold cq
  rw [if_neg (by omega)]
  refine Prod.ext ?_ (Prod.ext ?_ (Prod.ext ?_ ?_)) <;> simp only <;> omega

/-- What a terminal puts. -/
theorem put_whole {W H : Nat} (hW : 1 ≤ W ∧ W ≤ 400) (hH : 1 ≤ H ∧ H ≤ 400) (c : Nat → Nat → Ce) {x y : Nat} {wd : Int} (txt : ByteArray) (f g b : Int) (hw : wd = 1 ∨ wd = 2) (hx : (x : Int) + wd ≤ W) (hy : y < H) :
    putC W H c x y txt wd f g b 0 0 W H = fill c x (x + wd.toNat) y (y + 1) (gly x wd txt (kn f) (kn g) (bo b)) := by
  unfold putC
  rw [seen_whole (by omega) (by omega) (by omega) (by omega) (by omega) (by omega) (by omega) (by omega)]
  unfold putQ putX
  rw [if_pos hw]
  simp only
  rw [if_neg (by omega)]
  congr 1 <;> omega

/-- What is erased whole. -/
theorem fil_whole {W H : Nat} (hW : 1 ≤ W ∧ W ≤ 400) (hH : 1 ≤ H ∧ H ≤ 400) (c : Nat → Nat → Ce) {y x : Nat} (hy : y < H) (hx : x < W) : filC W H c 0 0 W H 0 0 0 0 0 W H y x = bk 0 0 0 := by
  unfold filC
  rw [seen_whole (by omega) (by omega) (by omega) (by omega) (by omega) (by omega) (by omega) (by omega)]
  simp only
  unfold fill
  rw [if_pos (by omega), span_in (by omega)]
  rfl

/-- Only the cells on the screen tell. -/
theorem TM.same {w : World} {T K M cap : Nat} {s : Tm} {nv : Value} {c' : Nat → Nat → Ce} (h : TM w T K M cap s nv) (hc : ∀ y x, y < s.H → x < s.W → s.c y x = c' y x) (hp : PAll s.W s.H c') : TM w T K M cap { s with c := c' } nv :=
  ⟨h.tb, ⟨h.cs.kb, h.cs.cv.same hc, h.cs.ne, h.cs.hc⟩, h.tk, h.tm, h.hW, h.hH, hp⟩

/-- An m ends what is half come. -/
theorem full_m {h : ByteArray} (hs : h.size ≤ 3) : full (h ++ ⟨#[109]⟩).data.toList := by
  obtain ⟨l, hl⟩ : ∃ l, h.data.toList = l := ⟨_, rfl⟩
  have e : (h ++ ⟨#[109]⟩).data.toList = l ++ [109] := by simp [hl]
  have hs2 : l.length ≤ 3 := by rw [← hl, len_data]; exact hs
  rw [e]
  refine ⟨by simp, ?_⟩
  match l, hs2 with
  | [], _ => exact .inl (by decide)
  | [a], _ =>
    have e1 : byt ([a] ++ [109]) 1 = 109 := rfl
    have := lo_bd (byt ([a] ++ [109]) 0)
    right; right; right; left
    exact ⟨by simp, .inl (by rw [e1]; omega)⟩
  | [a, b], _ =>
    right; right; right; right
    exact ⟨by simp, .inl (by show byt [a, b, 109] 2 < _; exact (by decide : (109 : Nat) < 0x80))⟩
  | [a, b, c], _ =>
    right; right; left
    have := n_bd (byt ([a, b, c] ++ [109]) 0)
    simp only [List.length_append, List.length_cons, List.length_nil]
    omega
theorem step_m (s : Tm) (st : St) (h : Si st) : (stepT s 109 st).2 = .out := by
  have out : ∀ s, (outT s 109).2 = .out := fun s => rfl
  cases st with
  | out => exact out s
  | esc => rfl
  | amid hh =>
    show (amA s hh 109).2 = .out
    have hf := full_m h
    unfold amA
    by_cases hr : (runes (hh ++ ⟨#[109]⟩).data.toList).length ≠ 1
    · rw [if_pos ⟨hf, hr⟩]; exact out _
    · rw [if_neg (fun q => hr q.2)]; unfold amT; rw [if_pos hf]
  | wth l a => rfl

/-- Erased, sent home and made plain. -/
def wipe : List UInt8 := [109, 27, 91, 109, 27, 91, 50, 74, 27, 91, 72]
set_option maxRecDepth 100000 in
theorem wiped (s : Tm) (st : St) (h : Si st) (hW : 1 ≤ s.W) (hH : 1 ≤ s.H) : runT (s, st) wipe = ({ tm0 s.W s.H with c := filC s.W s.H (stepT s 109 st).1.c 0 0 s.W s.H 0 0 0 0 0 s.W s.H }, .out) := by
  have e0 : stepT s 109 st = ((stepT s 109 st).1, .out) := Prod.ext rfl (step_m s st h)
  obtain ⟨s1, h1⟩ : ∃ z, (stepT s 109 st).1 = z := ⟨_, rfl⟩
  have hw : wh s1 = wh s := by rw [← h1]; exact wh_step s 109 st
  rw [h1] at e0 ⊢
  show runT (stepT s 109 st) (wipe.drop 1) = _
  rw [e0]
  have hsW : s1.W = s.W := congrArg Prod.fst hw
  have hsH : s1.H = s.H := congrArg Prod.snd hw
  have e : runT (s1, .out) (wipe.drop 1) = (⟨s1.W, s1.H, filC s1.W s1.H s1.c 0 0 s1.W s1.H 0 0 0 0 0 s1.W s1.H, ⟨min (max 0 1) (s1.W : Int) - 1, min (max 0 1) (s1.H : Int) - 1, 0, 0, 0, 0, 0, ⟨#[]⟩, 0, 0⟩⟩, .out) := rfl
  rw [e, hsW, hsH]
  have x0 : min (max 0 1) (s.W : Int) - 1 = 0 := by omega
  have y0 : min (max 0 1) (s.H : Int) - 1 = 0 := by omega
  rw [x0, y0]
  rfl

end Go.Proofs.YtkdajaphbmclkaaGreatDoor

namespace Go.Proofs.YtkdajaphbmclkaaGreatDoor
set_option linter.unusedVariables false

theorem span_over {r x x' : Nat → Ce} {a z : Nat} (h0 : (x a).p ≠ 2) (h1 : (x (z - 1)).p ≠ 1) : span (span r a z x) a z x' = span r a z x' := by
  by_cases haz : a < z
  · funext j
    by_cases hin : a ≤ j ∧ j < z
    · rw [span_in hin, span_in hin]
    · have e1 : span r a z x a = x a := span_in ⟨Nat.le_refl _, haz⟩
      have e2 : span r a z x (z - 1) = x (z - 1) := span_in ⟨by omega, by omega⟩
      have lhs : span (span r a z x) a z x' j = span r a z x j := by
        show (if a ≤ j ∧ j < z then x' j else if a < z ∧ j + 1 = a ∧ (span r a z x a).p = 2 then bl (span r a z x j) else if a < z ∧ j = z ∧ (span r a z x (z - 1)).p = 1 then bl (span r a z x j) else span r a z x j) = _
        rw [if_neg hin, e1, e2, if_neg (fun q => h0 q.2.2), if_neg (fun q => h1 q.2.2)]
      rw [lhs]
      unfold span
      rw [if_neg hin, if_neg hin]
  · rw [span_none haz, span_none haz, span_none haz]
theorem fill_over {c : Nat → Nat → Ce} {x x' : Nat → Ce} {l r t d : Nat} (h0 : (x l).p ≠ 2) (h1 : (x (r - 1)).p ≠ 1) : fill (fill c l r t d x) l r t d x' = fill c l r t d x' := by
  funext y
  unfold fill
  by_cases h : t ≤ y ∧ y < d
  · rw [if_pos h, if_pos h, if_pos h, span_over h0 h1]
  · rw [if_neg h, if_neg h, if_neg h]
theorem gly_first (X : Nat) (wd : Int) (hw : wd = 1 ∨ wd = 2) (txt : ByteArray) (f g b : Int) : (gly X wd txt f g b X).p ≠ 2 ∧ (gly X wd txt f g b (X + wd.toNat - 1)).p ≠ 1 := by
  unfold gly
  rcases hw with h | h
  · subst h
    rw [if_neg (by decide), if_neg (by decide)]
    exact ⟨by show (0 : Int) ≠ 2; decide, by show (0 : Int) ≠ 1; decide⟩
  · subst h
    rw [if_pos rfl, if_pos rfl, if_pos rfl, if_neg (by show ¬ X + 2 - 1 = X; omega)]
    exact ⟨by show (1 : Int) ≠ 2; decide, by show (2 : Int) ≠ 1; decide⟩
theorem enc_app (a b : List Int) : enc (a ++ b) = enc a ++ enc b := by unfold enc; rw [List.flatMap_append]
/-- A terminal behind a cell that was printed. -/
def celT (t : Tm) (X Y : Nat) (R : List Int) (n : Int) : Tm := ⟨t.W, t.H, fill t.c X (X + n.toNat) Y (Y + 1) (gly X n ⟨(enc R).toArray⟩ (kn t.r.f) (kn t.r.g) (bo t.r.b)), { clr t.r with x := X + n, y := Y, lx := X, ly := Y, lt := ⟨(enc R).toArray⟩, lw := n, lm := (R.length : Int) - 1 }⟩
theorem cell_run {t : Tm} (hW : 1 ≤ t.W ∧ t.W ≤ 400) (hH : 1 ≤ t.H ∧ t.H ≤ 400) {X Y : Nat} (hx : t.r.x = X) (hy : t.r.y = Y) (hY : Y < t.H) {b : Int} {n : Int} (hb : wid b = n) (hn : n = 1 ∨ n = 2) (hX : (X : Int) + n ≤ t.W) : ∀ (ms : List Int), (∀ m ∈ ms, wid m = 0) → ms.length ≤ 4 → prsT t (b :: ms) = celT t X Y (b :: ms) n := by
  have h1 : prT t b = celT t X Y [b] n := by
    unfold prT
    rw [hb, if_neg (by omega), if_neg (by rw [hx]; omega)]
    unfold celT putL
    simp only
    rw [hx, hy]
    have e : putC t.W t.H t.c (X : Int) (Y : Int) ⟨(enc [b]).toArray⟩ n t.r.f t.r.g t.r.b 0 0 t.W t.H = _ := put_whole hW hH t.c ⟨(enc [b]).toArray⟩ t.r.f t.r.g t.r.b hn hX hY
    have e2 : putC t.W t.H t.c (X : Int) (Y : Int) ⟨(enc [b]).toArray⟩ n (clr t.r).f (clr t.r).g (clr t.r).b 0 0 t.W t.H = putC t.W t.H t.c (X : Int) (Y : Int) ⟨(enc [b]).toArray⟩ n t.r.f t.r.g t.r.b 0 0 t.W t.H := rfl
    rw [e2, e]
    unfold clr
    simp [hy]
  have key : ∀ k, ∀ ms : List Int, ms.length = k → (∀ m ∈ ms, wid m = 0) → ms.length ≤ 4 → prsT t (b :: ms) = celT t X Y (b :: ms) n := by
    intro k
    induction k with
    | zero =>
      intro ms hk _ _
      obtain rfl := List.length_eq_zero_iff.1 hk
      exact h1
    | succ k ih =>
      intro ms hk hm hl
      have hne : ms ≠ [] := by intro e; rw [e] at hk; simp at hk
      obtain ⟨ps, m, rfl⟩ : ∃ ps m, ms = ps ++ [m] := ⟨ms.dropLast, ms.getLast hne, (List.dropLast_concat_getLast hne).symm⟩
      have hpl : ps.length = k := by rw [List.length_append] at hk; simp at hk; exact hk
      have hi := ih ps hpl (fun z hz => hm z (List.mem_append_left _ hz)) (by rw [List.length_append] at hl; simp at hl; omega)
      have hwm := hm m (List.mem_append_right _ (List.mem_singleton.2 rfl))
      rw [← List.cons_append, prsT_app, hi]
      unfold prT
      rw [if_pos hwm]
      unfold markT
      have hlm : (celT t X Y (b :: ps) n).r.lm = (ps.length : Int) := by show ((b :: ps).length : Int) - 1 = _; simp
      have hlw : (celT t X Y (b :: ps) n).r.lw = n := rfl
      have hl4 : ps.length < 4 := by rw [List.length_append] at hl; simp at hl; omega
      rw [if_neg (by rw [hlm, hlw]; omega)]
      have et : (⟨(enc (b :: ps)).toArray⟩ : ByteArray) ++ ⟨(enc [m]).toArray⟩ = ⟨(enc (b :: ps ++ [m])).toArray⟩ := by
        apply ByteArray.ext
        rw [enc_app]
        simp
      unfold putL
      simp only
      have ec : putC t.W t.H (celT t X Y (b :: ps) n).c (X : Int) (Y : Int) ((⟨(enc (b :: ps)).toArray⟩ : ByteArray) ++ ⟨(enc [m]).toArray⟩) n t.r.f t.r.g t.r.b 0 0 t.W t.H = fill t.c X (X + n.toNat) Y (Y + 1) (gly X n ⟨(enc (b :: ps ++ [m])).toArray⟩ (kn t.r.f) (kn t.r.g) (bo t.r.b)) := by
        rw [put_whole hW hH _ _ t.r.f t.r.g t.r.b hn hX hY, et]
        have hg := gly_first X n hn ⟨(enc (b :: ps)).toArray⟩ (kn t.r.f) (kn t.r.g) (bo t.r.b)
        exact fill_over hg.1 hg.2
      show (⟨t.W, t.H, putC t.W t.H (celT t X Y (b :: ps) n).c (X : Int) (Y : Int) ((⟨(enc (b :: ps)).toArray⟩ : ByteArray) ++ ⟨(enc [m]).toArray⟩) n t.r.f t.r.g t.r.b 0 0 t.W t.H, _⟩ : Tm) = _
      rw [ec]
      unfold celT
      simp only
      rw [← et]
      congr 1
      simp
  exact fun ms h1 h2 => key ms.length ms rfl h1 h2
theorem mem_while {p : Int → Bool} {m : Int} : ∀ {l : List Int}, m ∈ l.takeWhile p → p m = true
  | [], h => by cases h
  | a :: l, h => by
    rw [List.takeWhile_cons] at h
    by_cases q : p a = true
    · rw [if_pos q] at h
      rcases List.mem_cons.1 h with rfl | h
      · exact q
      · exact mem_while h
    · rw [if_neg q] at h; cases h
/-- The text of a cell that a screen may have. -/
theorem cell_text {l : List UInt8} {n : Int} (hn : n = 1 ∨ n = 2) (h : clus (runes l) = [(l, n)]) : ∃ b ms, l = enc (b :: ms) ∧ wid b = n ∧ (∀ m ∈ ms, wid m = 0) ∧ ms.length ≤ 4 ∧ ∀ r ∈ b :: ms, Good r ∧ r ≠ 10 := by
  obtain ⟨R, hR⟩ : ∃ R, runes l = R := ⟨_, rfl⟩
  have hgood : ∀ r ∈ R, Good r := by rw [← hR]; exact runes_good l
  rw [hR] at h
  have hne : R ≠ [] := by intro e; rw [e, clus_nil] at h; cases h
  rw [clus_step hne] at h
  injection h with h h'
  injection h with ht hw
  obtain ⟨r, R', rfl⟩ := List.exists_cons_of_ne_nil hne
  have h10 : r ≠ 10 := by
    intro e
    have : cWide (r :: R') = 0 := by show (if r = 10 then (0 : Int) else _) = 0; rw [if_pos e]
    omega
  have et : cText (r :: R') = enc (cBase (r :: R') :: (cMarks (r :: R')).take 4) := by show (if r = 10 then _ else _) = _; rw [if_neg h10]
  have ew : cWide (r :: R') = wid (cBase (r :: R')) := by show (if r = 10 then _ else _) = _; rw [if_neg h10]
  refine ⟨cBase (r :: R'), (cMarks (r :: R')).take 4, by rw [← et, ht], by rw [← ew, hw], fun m hm => ?_, by rw [List.length_take]; omega, fun z hz => ?_⟩
  · have h1 := List.mem_of_mem_take hm
    unfold cMarks mks at h1
    have := mem_while h1
    exact ((isMk_iff m).1 this).2
  · rcases List.mem_cons.1 hz with rfl | hz
    · have hb : cBase (r :: R') = 32 ∨ cBase (r :: R') = r := by show (if isMk r = true then _ else _) = _ ∨ _; unfold cBase; by_cases q : isMk r = true; simp [q]; simp [q]
      rcases hb with e | e
      · rw [e]
        exact ⟨⟨.inl ⟨by decide, by decide⟩, by decide⟩, by decide⟩
      · rw [e]
        exact ⟨hgood r (List.mem_cons_self ..), h10⟩
    · have h1 := List.mem_of_mem_take hz
      unfold cMarks mks at h1
      have h2 := mem_while h1
      have h3 : z ∈ r :: R' := List.mem_of_mem_drop ((List.takeWhile_sublist _).subset h1)
      exact ⟨hgood z h3, ((isMk_iff z).1 h2).1⟩

end Go.Proofs.YtkdajaphbmclkaaGreatDoor
