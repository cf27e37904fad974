/-
  The document's terminal prints as the program's does.
-/
import Derived.Test.YtlfffpoeioecjaaDoorX34
import Derived.Test.YtlfffpoeioecjaaDoorX22
import Derived.Test.YtlfffpoeioecjaaDoorX15
import Derived.Test.YtlfffpoeioecjaaDoorX32
import Derived.Test.YtlfffpoeioecjaaDoorX30
namespace Go.Proofs.YtlfffpoeioecjaaDoor
open Go.RowKit Go.Sort
set_option linter.unusedVariables false

def mkR (t : Tm) (q : ByteArray) (la mks : Int) (wv : Nat → Bool) : Rm := ⟨t.W, t.H, t.c, t.r.x, t.r.y, t.r.f, t.r.g, t.r.b, q, la, mks, wv⟩
/-- The last cell, as both know it. -/
structure La (t : Tm) (la mks : Int) : Prop where
  lw : t.r.lw = 1 ∨ t.r.lw = 2
  x0 : 0 ≤ t.r.lx
  x1 : t.r.lx + t.r.lw ≤ t.W
  y0 : 0 ≤ t.r.ly
  y1 : t.r.ly < t.H
  la : la = t.r.ly * t.W + t.r.lx
  mq : mks = t.r.lm
  hd : t.c t.r.ly.toNat t.r.lx.toNat = ⟨t.r.lt, kn t.r.f, kn t.r.g, bo t.r.b, if t.r.lw = 2 then 1 else 0⟩
  tl : t.r.lw = 2 → t.c t.r.ly.toNat (t.r.lx.toNat + 1) = ⟨ept, kn t.r.f, kn t.r.g, bo t.r.b, 2⟩
def Lst (t : Tm) (la mks : Int) : Prop := (t.r.lw = 0 ∧ la = -1) ∨ La t la mks
theorem enc_one (r : Int) : (⟨(enc [r]).toArray⟩ : ByteArray) = encB r := by unfold encB enc; simp
theorem lin_div {W y x : Nat} (hx : x < W) : (y * W + x) / W = y ∧ (y * W + x) % W = x := by
  constructor
  · rw [Nat.mul_comm, Nat.mul_add_div (by omega), Nat.div_eq_of_lt hx, Nat.add_zero]
  · rw [Nat.mul_comm, Nat.mul_add_mod, Nat.mod_eq_of_lt hx]
theorem La.nat {t : Tm} {la mks : Int} (h : La t la mks) : ∃ X Y : Nat, t.r.lx = X ∧ t.r.ly = Y ∧ Y < t.H ∧ X < t.W ∧ la = ((Y * t.W + X : Nat) : Int) ∧ la.toNat / t.W = Y ∧ la.toNat % t.W = X ∧ la.toNat < t.W * t.H := by
  obtain ⟨X, hX⟩ : ∃ X : Nat, t.r.lx = X := ⟨t.r.lx.toNat, by have := h.x0; omega⟩
  obtain ⟨Y, hY⟩ : ∃ Y : Nat, t.r.ly = Y := ⟨t.r.ly.toNat, by have := h.y0; omega⟩
  have h1 := h.x1
  have h2 := h.y1
  have h3 := h.lw
  have hXW : X < t.W := by omega
  have hYH : Y < t.H := by omega
  have hla : la = ((Y * t.W + X : Nat) : Int) := by rw [h.la, hX, hY]; simp
  have hd := lin_div (y := Y) hXW
  have hlt : Y * t.W + X < t.W * t.H := by
    have : (Y + 1) * t.W ≤ t.H * t.W := Nat.mul_le_mul_right _ (by omega)
    rw [Nat.add_mul, Nat.one_mul, Nat.mul_comm t.H] at this
    omega
  exact ⟨X, Y, hX, hY, hYH, hXW, hla, by rw [hla, Int.toNat_natCast]; exact hd.1, by rw [hla, Int.toNat_natCast]; exact hd.2, by rw [hla, Int.toNat_natCast]; exact hlt⟩
theorem ri_of {t : Tm} {q : ByteArray} {la mks : Int} {wv : Nat → Bool} (ht : Ti t) (hl : Lst t la mks) : Ri (mkR t q la mks wv) := by
  refine ⟨ht.x0, ht.x1, ht.y0, ht.y1, ?_⟩
  rcases hl with ⟨_, h⟩ | h
  · exact .inl h
  · obtain ⟨X, Y, hX, hY, hYH, hXW, hla, e1, e2, hlt⟩ := h.nat
    have hd := h.hd
    rw [hX, hY, Int.toNat_natCast, Int.toNat_natCast] at hd
    right
    show 0 ≤ la ∧ la < ((t.W * t.H : Nat) : Int) ∧ 0 ≤ mks ∧ mks ≤ 4 ∧ ((t.c (la.toNat / t.W) (la.toNat % t.W)).t.size : Int) ≤ 4 + 4 * mks ∧ (t.c (la.toNat / t.W) (la.toNat % t.W)).p ≠ 2
    rw [e1, e2, hd, h.mq]
    refine ⟨by omega, by omega, ht.m0, ht.m1, ht.ts, ?_⟩
    show (if t.r.lw = 2 then (1 : Int) else 0) ≠ 2
    split <;> decide
/-- What stands where something was put. -/
theorem put_head {c : Nat → Nat → Ce} {X Y : Nat} {wd : Int} (hw : wd = 1 ∨ wd = 2) (txt : ByteArray) (f g b : Int) : fill c X (X + wd.toNat) Y (Y + 1) (gly X wd txt f g b) Y X = ⟨txt, f, g, b, if wd = 2 then 1 else 0⟩ := by
  unfold fill
  rw [if_pos (by omega), span_in (by omega)]
  unfold gly
  rcases hw with h | h
  · rw [if_neg (by omega), if_neg (by omega)]
  · rw [if_pos h, if_pos rfl, if_pos h]
theorem put_tail {c : Nat → Nat → Ce} {X Y : Nat} {wd : Int} (hw : wd = 2) (txt : ByteArray) (f g b : Int) : fill c X (X + wd.toNat) Y (Y + 1) (gly X wd txt f g b) Y (X + 1) = ⟨ept, f, g, b, 2⟩ := by
  unfold fill
  rw [if_pos (by omega), span_in (by omega)]
  unfold gly
  rw [if_pos hw, if_neg (by omega)]
/-- Put anew with another text: only the text is another one. -/
theorem put_again {c : Nat → Nat → Ce} {X Y : Nat} {wd : Int} {txt : ByteArray} {f g b : Int} (hw : wd = 1 ∨ wd = 2) (hd : c Y X = ⟨txt, f, g, b, if wd = 2 then 1 else 0⟩) (tl : wd = 2 → c Y (X + 1) = ⟨ept, f, g, b, 2⟩) (t2 : ByteArray) : fill c X (X + wd.toNat) Y (Y + 1) (gly X wd t2 f g b) = upd c Y X { c Y X with t := t2 } := by
  funext y j
  unfold upd
  by_cases e : y = Y ∧ j = X
  · obtain ⟨rfl, rfl⟩ := e
    rw [if_pos ⟨rfl, rfl⟩, put_head hw, hd]
  · rw [if_neg e]
    unfold fill
    by_cases hy : y = Y
    · subst hy
      rw [if_pos (by omega)]
      have hj : j ≠ X := fun q => e ⟨rfl, q⟩
      unfold span
      by_cases hin : X ≤ j ∧ j < X + wd.toNat
      · rw [if_pos hin]
        have hw2 : wd = 2 := by omega
        obtain rfl : j = X + 1 := by omega
        unfold gly
        rw [if_pos hw2, if_neg (by omega), tl hw2]
      · rw [if_neg hin, if_neg (fun q => by have := q.2.2; rw [hd] at this; simp only at this; split at this <;> omega), if_neg (fun q => by
          have h3 := q.2.2
          rcases hw with h | h
          · rw [show X + wd.toNat - 1 = X by omega, hd] at h3
            simp only at h3
            rw [if_neg (by omega)] at h3
            omega
          · rw [show X + wd.toNat - 1 = X + 1 by omega, tl h] at h3
            simp only at h3
            omega)]
    · rw [if_neg (by omega)]
def wvP (t : Tm) (r : Int) (wv : Nat → Bool) : Nat → Bool := if wid r = 0 then wv else if t.r.x + wid r > t.W then wv else wrN (mkR t ⟨#[]⟩ 0 0 wv) r

theorem pr_sim {t : Tm} (hW : 1 ≤ t.W ∧ t.W ≤ 400) (hH : 1 ≤ t.H ∧ t.H ≤ 400) (ht : Ti t) {la mks : Int} (hl : Lst t la mks) (q : ByteArray) (wv : Nat → Bool) (r : Int) : ∃ la' mks', prR (mkR t q la mks wv) r = mkR (prT t r) q la' mks' (wvP t r wv) ∧ Lst (prT t r) la' mks' := by
  have hwc := wid_cases r
  by_cases h0 : wid r = 0
  · have e1 : prR (mkR t q la mks wv) r = markR (mkR t q la mks wv) r := by unfold prR; rw [if_pos h0]
    have e2 : prT t r = markT t (encB r) := by unfold prT; rw [if_pos h0, enc_one]
    have e3 : wvP t r wv = wv := by unfold wvP; rw [if_pos h0]
    rw [e1, e2, e3]
    rcases hl with ⟨hlw, hla⟩ | h
    · refine ⟨la, mks, ?_, ?_⟩
      · unfold markR markT
        rw [if_neg (by show ¬ (0 ≤ la ∧ mks < 4); omega), if_pos (.inl hlw)]
      · unfold markT
        rw [if_pos (.inl hlw)]
        exact .inl ⟨hlw, hla⟩
    · obtain ⟨X, Y, hX, hY, hYH, hXW, hla, q1, q2, hlt⟩ := h.nat
      by_cases h4 : t.r.lm = 4
      · refine ⟨la, mks, ?_, ?_⟩
        · unfold markR markT
          rw [if_neg (by show ¬ (0 ≤ la ∧ mks < 4); rw [h.mq]; omega), if_pos (.inr h4)]
        · unfold markT
          rw [if_pos (.inr h4)]
          exact .inr h
      · have hm1 := ht.m1
        have hn : ¬ (t.r.lw = 0 ∨ t.r.lm = 4) := by have := h.lw; omega
        have hd := h.hd
        have tl := h.tl
        have hx1 := h.x1
        rw [hX, hY, Int.toNat_natCast, Int.toNat_natCast] at hd tl
        have ec : putC t.W t.H t.c t.r.lx t.r.ly (t.r.lt ++ encB r) t.r.lw t.r.f t.r.g t.r.b 0 0 t.W t.H = addT t.c t.W la (encB r) := by
          rw [hX, hY, put_whole hW hH t.c (t.r.lt ++ encB r) t.r.f t.r.g t.r.b h.lw (by rw [hX] at hx1; exact hx1) hYH, put_again h.lw hd tl]
          unfold addT
          rw [q1, q2, hd]
        refine ⟨la, mks + 1, ?_, ?_⟩
        · unfold markR markT
          rw [if_pos (by show 0 ≤ la ∧ mks < 4; rw [h.mq]; omega), if_neg hn]
          unfold putL mkR
          simp only
          rw [ec]
        · unfold markT
          rw [if_neg hn]
          right
          have hadd : (putL { t with r := { t.r with lm := t.r.lm + 1, lt := t.r.lt ++ encB r } }).c = fill t.c X (X + t.r.lw.toNat) Y (Y + 1) (gly X t.r.lw (t.r.lt ++ encB r) (kn t.r.f) (kn t.r.g) (bo t.r.b)) := by
            show putC t.W t.H t.c t.r.lx t.r.ly (t.r.lt ++ encB r) t.r.lw t.r.f t.r.g t.r.b 0 0 t.W t.H = _
            rw [hX, hY, put_whole hW hH t.c (t.r.lt ++ encB r) t.r.f t.r.g t.r.b h.lw (by rw [hX] at hx1; exact hx1) hYH]
          exact ⟨h.lw, h.x0, h.x1, h.y0, h.y1, h.la, by show mks + 1 = t.r.lm + 1; rw [h.mq],
            by rw [hadd]; show fill _ _ _ _ _ _ t.r.ly.toNat t.r.lx.toNat = _; rw [hX, hY, Int.toNat_natCast, Int.toNat_natCast, put_head h.lw]; rfl,
            fun z => by rw [hadd]; show fill _ _ _ _ _ _ t.r.ly.toNat (t.r.lx.toNat + 1) = _; rw [hX, hY, Int.toNat_natCast, Int.toNat_natCast, put_tail (show t.r.lw = 2 from z)]; rfl⟩
  · have e1 : prR (mkR t q la mks wv) r = bigR (mkR t q la mks wv) r := by unfold prR; rw [if_neg h0]
    rw [e1]
    by_cases hr : t.r.x + wid r > t.W
    · refine ⟨-1, mks, ?_, ?_⟩
      · unfold bigR prT wvP
        rw [if_pos (by exact hr), if_neg h0, if_pos hr, if_neg h0, if_pos hr]
        rfl
      · unfold prT
        rw [if_neg h0, if_pos hr]
        exact .inl ⟨rfl, rfl⟩
    · have hx0 := ht.x0
      have hy0 := ht.y0
      have hy1 := ht.y1
      obtain ⟨X, hX⟩ : ∃ X : Nat, t.r.x = X := ⟨t.r.x.toNat, by omega⟩
      obtain ⟨Y, hY⟩ : ∃ Y : Nat, t.r.y = Y := ⟨t.r.y.toNat, by omega⟩
      have hw12 : wid r = 1 ∨ wid r = 2 := by omega
      refine ⟨t.r.y * t.W + t.r.x, 0, ?_, ?_⟩
      · unfold bigR prT wvP
        rw [if_neg (by exact hr), if_neg h0, if_neg hr, if_neg h0, if_neg hr, enc_one]
        rfl
      · have ep : prT t r = { putL { t with r := { clr t.r with lx := t.r.x, ly := t.r.y, lt := encB r, lw := wid r } } with r := { clr t.r with lx := t.r.x, ly := t.r.y, lt := encB r, lw := wid r, x := t.r.x + wid r } } := by unfold prT; rw [if_neg h0, if_neg hr, enc_one]
        rw [ep]
        right
        have hadd : (putL { t with r := { clr t.r with lx := t.r.x, ly := t.r.y, lt := encB r, lw := wid r } }).c = fill t.c X (X + (wid r).toNat) Y (Y + 1) (gly X (wid r) (encB r) (kn t.r.f) (kn t.r.g) (bo t.r.b)) := by
          show putC t.W t.H t.c t.r.x t.r.y (encB r) (wid r) t.r.f t.r.g t.r.b 0 0 t.W t.H = _
          rw [hX, hY, put_whole hW hH t.c (encB r) t.r.f t.r.g t.r.b hw12 (by rw [hX] at hr; omega) (by omega)]
        exact ⟨hw12, hx0, by show t.r.x + wid r ≤ (t.W : Int); omega, hy0, hy1, rfl, rfl,
          by show (putL _).c t.r.y.toNat t.r.x.toNat = _; rw [hadd, hX, hY, Int.toNat_natCast, Int.toNat_natCast, put_head hw12]; rfl,
          fun z => by show (putL _).c t.r.y.toNat (t.r.x.toNat + 1) = _; rw [hadd, hX, hY, Int.toNat_natCast, Int.toNat_natCast, put_tail (show wid r = 2 from z)]; rfl⟩

end Go.Proofs.YtlfffpoeioecjaaDoor

namespace Go.Proofs.YtlfffpoeioecjaaDoor
open Go.RowKit Go.Sort
set_option linter.unusedVariables false

/-- So many steps more, and then it waits. -/
def Ends : Nat → Rm → (Rm → Prop) → Prop
  | 0, s, P => ∃ s', StepTo s s' false ∧ s'.q.size ≤ s.q.size ∧ P s'
  | n + 1, s, P => ∃ s', StepTo s s' true ∧ s'.q.size < s.q.size ∧ Ends n s' P
/-- The numbers of a sequence, as both read them. -/
structure Pn (l : Nat → Int) (a : Int) (p : List Int × Int) : Prop where
  a0 : 0 ≤ a ∧ a ≤ 16
  len : p.1.length = a.toNat
  at_ : ∀ j, j < a.toNat → p.1[j]? = some (l j)
  cur : a < 16 → p.2 = l a.toNat
  up : ∀ j, a.toNat < j → l j = 0
def Hq (t : Tm) : St → List UInt8 → Prop
  | .out, q => q = []
  | .esc, q => q = [27] ∧ t.r.lw = 0
  | .amid h, q => q = h.data.toList ∧ q ≠ [] ∧ ¬ full q
  | .wth l a, q => ∃ m, q = 27 :: 91 :: m ∧ t.r.lw = 0 ∧ (∀ b ∈ m, 48 ≤ b.toNat ∧ b.toNat ≤ 59) ∧ Pn l a (parS ([], 0) m)
/-- The document's terminal stands as the program's. -/
def Docd (t : Tm) (st : St) (wv : Nat → Bool) (s : Rm) : Prop := ∃ q la mks, s = mkR t q la mks wv ∧ Lst t la mks ∧ Hq t st q.data.toList
def wvA (t : Tm) (l : List UInt8) (wv : Nat → Bool) : Nat → Bool := if full l then wvP t ((runes l)[0]?.getD 0) wv else wv
def wvO (t : Tm) (b : UInt8) (wv : Nat → Bool) : Nat → Bool := if b.toNat = 27 then wv else if b.toNat < 32 ∨ b.toNat = 127 then wv else wvA t [b] wv
def wvPs (t : Tm) : List Int → (Nat → Bool) → Nat → Bool
  | [], wv => wv
  | r :: R, wv => wvPs (prT t r) R (wvP t r wv)

theorem seq_single {b : UInt8} (h : 0x80 ≤ b.toNat) : seq [b] = 0 := by
  rcases seq_vd (l := [b]) h with ⟨v, _⟩ | ⟨_, e⟩
  · exact absurd v.2.1.1 (by simp)
  · exact e
theorem wh_W {t : Tm} {r : Int} : (prT t r).W = t.W ∧ (prT t r).H = t.H := ⟨congrArg Prod.fst (wh_pr t r), congrArg Prod.snd (wh_pr t r)⟩
def emp : ByteArray := ⟨#[]⟩

section
variable {t : Tm} {la mks : Int} {wv : Nat → Bool}
/-- A rune is printed, and nothing is left. -/
theorem ends_print (hW : 1 ≤ t.W ∧ t.W ≤ 400) (hH : 1 ≤ t.H ∧ t.H ≤ 400) (ht : Ti t) (hl : Lst t la mks) {q : ByteArray} (hq : 0 < q.size) {r : Int} (h : StepTo (mkR t q la mks wv) (prR { mkR t q la mks wv with q := emp } r) true) : Ends 1 (mkR t q la mks wv) (Docd (prT t r) .out (wvP t r wv)) := by
  obtain ⟨la', mks', e, hl'⟩ := pr_sim hW hH ht hl emp wv r
  have e' : prR { mkR t q la mks wv with q := emp } r = mkR (prT t r) emp la' mks' (wvP t r wv) := e
  rw [e'] at h
  exact ⟨_, h, hq, _, st_nil rfl, Nat.le_refl _, emp, la', mks', rfl, hl', rfl⟩
theorem feed_out (hW : 1 ≤ t.W ∧ t.W ≤ 400) (hH : 1 ≤ t.H ∧ t.H ≤ 400) (ht : Ti t) (hl : Lst t la mks) (b : UInt8) {q : ByteArray} (hq : q.data.toList = [b]) : ∃ n, Ends n (mkR t q la mks wv) (Docd (outT t b).1 (outT t b).2 (wvO t b wv)) := by
  have hz := size_of hq
  simp only [List.length_cons, List.length_nil] at hz
  by_cases h27 : b.toNat = 27
  · have e1 : outT t b = ({ t with r := clr t.r }, .esc) := by unfold outT; rw [if_pos h27]
    have e2 : wvO t b wv = wv := by unfold wvO; rw [if_pos h27]
    rw [e1, e2]
    have hb : b = 27 := by
      apply UInt8.toNat_inj.1
      rw [h27]; rfl
    rw [hb] at hq
    exact ⟨0, _, st_esc (s := mkR t q la mks wv) hq, Nat.le_refl _, q, -1, mks, rfl, .inl ⟨rfl, rfl⟩, hq, rfl⟩
  · by_cases hc : b.toNat < 32 ∨ b.toNat = 127
    · have e1 : outT t b = ({ t with r := clr t.r }, .out) := by unfold outT; rw [if_neg h27, if_pos hc]
      have e2 : wvO t b wv = wv := by unfold wvO; rw [if_neg h27, if_pos hc]
      rw [e1, e2]
      refine ⟨1, _, st_ctl (s := mkR t q la mks wv) hq h27 hc, ?_, _, st_nil rfl, Nat.le_refl _, emp, -1, mks, rfl, .inl ⟨rfl, rfl⟩, rfl⟩
      show 0 < q.size
      omega
    · have e1 : outT t b = amT t ⟨#[b]⟩ := by unfold outT; rw [if_neg h27, if_neg hc]
      have e2 : wvO t b wv = wvA t [b] wv := by unfold wvO; rw [if_neg h27, if_neg hc]
      rw [e1, e2]
      have eb : byt [b] 0 = b.toNat := rfl
      unfold amT wvA
      show ∃ n, Ends n _ (Docd (if full [b] then (prT t ((runes [b])[0]?.getD 0), St.out) else (t, .amid ⟨#[b]⟩)).1 (if full [b] then (prT t ((runes [b])[0]?.getD 0), St.out) else (t, .amid ⟨#[b]⟩)).2 (if full [b] then wvP t ((runes [b])[0]?.getD 0) wv else wv))
      by_cases h80 : b.toNat < 0x80
      · have hf : full [b] := ⟨by simp, .inl (by rw [eb]; omega)⟩
        have hs : seq [b] = ([b] : List UInt8).length := by unfold seq; rw [if_pos (by rw [eb]; exact h80)]; rfl
        obtain ⟨r, hr⟩ := runes_sole (by simp) hs
        rw [if_pos hf, if_pos hf, hr]
        exact ⟨1, ends_print hW hH ht hl (by omega) (st_seq (s := mkR t q la mks wv) hq (by simp) (by simp) (by rw [eb]; exact h27) (by rw [eb]; exact hc) hs (ri_of ht hl) hr)⟩
      · have hs := seq_single (b := b) (by omega)
        by_cases hf : full [b]
        · have hr : runes [b] = [65533] := by rw [runes_bad (by simp) hs]; rfl
          rw [if_pos hf, if_pos hf, hr]
          exact ⟨1, ends_print hW hH ht hl (by omega) (st_bad (s := mkR t q la mks wv) hq (by simp) (by omega) hs hf (ri_of ht hl))⟩
        · rw [if_neg hf, if_neg hf]
          exact ⟨0, _, st_wait (s := mkR t q la mks wv) hq (by simp) (by simp) (by rw [eb]; omega) hs hf (ri_of ht hl), Nat.le_refl _, q, la, mks, rfl, hl, hq, by rw [hq]; simp, by rw [hq]; exact hf⟩
end
theorem feed_tail : ∀ (u : List UInt8) (hu : ∀ c ∈ u, 0x80 ≤ c.toNat ∧ c.toNat ≤ 0xBF) (hul : u.length ≤ 4) (t : Tm) (hW : 1 ≤ t.W ∧ t.W ≤ 400) (hH : 1 ≤ t.H ∧ t.H ≤ 400) (ht : Ti t) (la mks : Int) (hl : Lst t la mks) (wv : Nat → Bool) (b : UInt8) (q : ByteArray) (hq : q.data.toList = u ++ [b]),
    ∃ n, Ends n (mkR t q la mks wv) (Docd (outT (prsT t (List.replicate u.length 65533)) b).1 (outT (prsT t (List.replicate u.length 65533)) b).2 (wvO (prsT t (List.replicate u.length 65533)) b (wvPs t (List.replicate u.length 65533) wv)))
  | [], hu, hul, t, hW, hH, ht, la, mks, hl, wv, b, q, hq => feed_out hW hH ht hl b hq
  | c :: u, hu, hul, t, hW, hH, ht, la, mks, hl, wv, b, q, hq => by
    have hc := hu c (List.mem_cons_self ..)
    have ec : byt (c :: (u ++ [b])) 0 = c.toNat := rfl
    have hs : seq (c :: (u ++ [b])) = 0 := seq_low (by rw [ec]; omega) (by rw [ec]; omega)
    have hf : full (c :: (u ++ [b])) := ⟨by simp, .inl (by rw [ec]; omega)⟩
    obtain ⟨la', mks', e, hl'⟩ := pr_sim hW hH ht hl ⟨(u ++ [b]).toArray⟩ wv 65533
    have h1 : StepTo (mkR t q la mks wv) (mkR (prT t 65533) ⟨(u ++ [b]).toArray⟩ la' mks' (wvP t 65533 wv)) true := by
      rw [← e]
      exact st_bad (s := mkR t q la mks wv) (u := u ++ [b]) hq (by rw [List.length_append]; simp only [List.length_cons, List.length_nil] at hul ⊢; omega) hc.1 hs hf (ri_of ht hl)
    have hwh := wh_W (t := t) (r := 65533)
    obtain ⟨n, hn⟩ := feed_tail u (fun d hd => hu d (List.mem_cons_of_mem _ hd)) (by simp only [List.length_cons] at hul; omega) (prT t 65533) (by rw [hwh.1]; exact hW) (by rw [hwh.2]; exact hH) (ht.pr 65533) la' mks' hl' (wvP t 65533 wv) b ⟨(u ++ [b]).toArray⟩ (by simp)
    refine ⟨n + 1, _, h1, ?_, hn⟩
    have hz := size_of hq
    simp only [List.length_cons, List.length_append, List.length_nil] at hz
    show (u ++ [b]).toArray.size < q.size
    simp
    omega
theorem feed_amid {t : Tm} (hW : 1 ≤ t.W ∧ t.W ≤ 400) (hH : 1 ≤ t.H ∧ t.H ≤ 400) (ht : Ti t) {la mks : Int} (hl : Lst t la mks) {wv : Nat → Bool} {h : ByteArray} (hh : h.data.toList ≠ []) (hf : ¬ full h.data.toList) (b : UInt8) {q : ByteArray} (hq : q.data.toList = h.data.toList ++ [b]) :
    ∃ n, Ends n (mkR t q la mks wv) (Docd (amA t h b).1 (amA t h b).2 (if full (h.data.toList ++ [b]) ∧ (runes (h.data.toList ++ [b])).length ≠ 1 then wvO (prsT t (runes h.data.toList)) b (wvPs t (runes h.data.toList) wv) else wvA t (h.data.toList ++ [b]) wv)) := by
  have el : (h ++ (⟨#[b]⟩ : ByteArray)).data.toList = h.data.toList ++ [b] := by simp
  obtain ⟨q0, q1, q2, q3⟩ := not_full hh hf
  have hN := n_bd (byt h.data.toList 0)
  obtain ⟨l, hl0⟩ : ∃ l, h.data.toList = l := ⟨_, rfl⟩
  rw [hl0] at hh hf hq q0 q1 q2 q3 hN el ⊢
  have hp : 0 < l.length := List.length_pos_iff.2 hh
  have e0 : byt (l ++ [b]) 0 = byt l 0 := by unfold byt; rw [List.getD_eq_getElem?_getD, List.getElem?_append_left hp, List.getD_eq_getElem?_getD]
  have hz := size_of hq
  rw [List.length_append] at hz
  simp only [List.length_cons, List.length_nil] at hz
  have hll : (l ++ [b]).length ≤ 5 := by rw [List.length_append]; simp; omega
  unfold amA
  rw [el]
  by_cases hs : seq (l ++ [b]) = 0
  · by_cases hfl : full (l ++ [b])
    · have hr1 : (runes (l ++ [b])).length ≠ 1 := by
        rw [runes_bad (by simp) hs]
        obtain ⟨a, u, rfl⟩ := List.exists_cons_of_ne_nil hh
        show (65533 :: runes (u ++ [b])).length ≠ 1
        have := runes_step (l := u ++ [b]) (by simp)
        rw [this]
        simp
      rw [if_pos ⟨hfl, hr1⟩, if_pos ⟨hfl, hr1⟩, hl0, runes_amid hh hf]
      obtain ⟨a, u, rfl⟩ := List.exists_cons_of_ne_nil hh
      have ea : byt (a :: u) 0 = a.toNat := rfl
      rw [ea] at q0
      obtain ⟨la', mks', e, hl'⟩ := pr_sim hW hH ht hl ⟨(u ++ [b]).toArray⟩ wv 65533
      have h1 : StepTo (mkR t q la mks wv) (mkR (prT t 65533) ⟨(u ++ [b]).toArray⟩ la' mks' (wvP t 65533 wv)) true := by
        rw [← e]
        exact st_bad (s := mkR t q la mks wv) (u := u ++ [b]) hq (by rw [List.length_append]; simp only [List.length_append, List.length_cons, List.length_nil] at hll ⊢; omega) (by omega) hs hfl (ri_of ht hl)
      have hwh := wh_W (t := t) (r := 65533)
      obtain ⟨n, hn⟩ := feed_tail u (tail_cont hf) (by simp only [List.length_append, List.length_cons, List.length_nil] at hll; omega) (prT t 65533) (by rw [hwh.1]; exact hW) (by rw [hwh.2]; exact hH) (ht.pr 65533) la' mks' hl' (wvP t 65533 wv) b ⟨(u ++ [b]).toArray⟩ (by simp)
      refine ⟨n + 1, _, h1, ?_, hn⟩
      show (u ++ [b]).toArray.size < q.size
      simp only [List.length_cons] at hz
      simp
      omega
    · rw [if_neg (fun z => hfl z.1), if_neg (fun z => hfl z.1)]
      unfold amT wvA
      rw [el, if_neg hfl, if_neg hfl]
      exact ⟨0, _, st_wait (s := mkR t q la mks wv) hq (by simp) (by omega) (by rw [e0]; omega) hs hfl (ri_of ht hl), Nat.le_refl _, q, la, mks, rfl, hl, by rw [hq, el], by rw [hq]; simp, by rw [hq]; exact hfl⟩
  · have hs1 := more_one hh hf b hs
    have hfl := full_seq (by simp) hs1
    obtain ⟨r, hr⟩ := runes_sole (by simp) hs1
    have hr1 : ¬ (full (l ++ [b]) ∧ (runes (l ++ [b])).length ≠ 1) := fun z => z.2 (by rw [hr]; rfl)
    rw [if_neg hr1, if_neg hr1]
    unfold amT wvA
    rw [el, if_pos hfl, if_pos hfl, hr]
    exact ⟨1, ends_print hW hH ht hl (by omega) (st_seq (s := mkR t q la mks wv) hq (by simp) (by omega) (by rw [e0]; omega) (by rw [e0]; omega) hs1 (ri_of ht hl) hr)⟩

end Go.Proofs.YtlfffpoeioecjaaDoor

namespace Go.Proofs.YtlfffpoeioecjaaDoor
open Go.RowKit Go.Sort
set_option linter.unusedVariables false

theorem Pn.o_eq {l : Nat → Int} {a : Int} {p : List Int × Int} (h : Pn l a p) : p.1 = lst l a.toNat := by
  unfold lst
  apply List.ext_getElem?
  intro j
  by_cases hj : j < a.toNat
  · rw [h.at_ j hj, List.getElem?_map, List.getElem?_range hj]; rfl
  · rw [List.getElem?_eq_none (by rw [h.len]; omega), List.getElem?_eq_none (by simp; omega)]
theorem lst_succ (l : Nat → Int) (m : Nat) : lst l (m + 1) = lst l m ++ [l m] := by unfold lst; rw [List.range_succ, List.map_append]; rfl
/-- The numbers are the same. -/
theorem Pn.list {l : Nat → Int} {a : Int} {p : List Int × Int} (h : Pn l a p) : parE p = lst l (cntN a) := by
  have ha := h.a0
  have hl := h.len
  unfold parE cntN
  by_cases h16 : a < 16
  · rw [if_pos (by omega), h.o_eq, h.cur h16, ← lst_succ]
    congr 1
    omega
  · rw [if_neg (by omega), h.o_eq]
    congr 1
    omega
theorem Pn.digit {l : Nat → Int} {a : Int} {p : List Int × Int} (h : Pn l a p) {b : UInt8} (h1 : 48 ≤ b.toNat) (h2 : b.toNat ≤ 57) : Pn (updN l a.toNat (min (l a.toNat * 10 + ((b.toNat : Int) - 48)) 999999)) (a.toNat : Int) (par1 p b) := by
  have ha := h.a0
  have e : par1 p b = (p.1, min 999999 (10 * p.2 + (b.toNat : Int) - 48)) := by unfold par1; rw [if_neg (by omega), if_neg (by omega)]
  rw [e]
  have ea : ((a.toNat : Int)).toNat = a.toNat := Int.toNat_natCast _
  refine ⟨by omega, by rw [ea]; exact h.len, fun j hj => ?_, fun h16 => ?_, fun j hj => ?_⟩
  · rw [ea] at hj
    unfold updN
    rw [if_neg (by omega)]
    exact h.at_ j hj
  · rw [ea]
    unfold updN
    rw [if_pos rfl]
    show min 999999 (10 * p.2 + (b.toNat : Int) - 48) = _
    rw [h.cur (by omega)]
    omega
  · rw [ea] at hj
    unfold updN
    rw [if_neg (by omega)]
    exact h.up j hj
theorem Pn.semi {l : Nat → Int} {a : Int} {p : List Int × Int} (h : Pn l a p) {b : UInt8} (h1 : b.toNat = 59) : Pn l (min ((a.toNat : Int) + 1) 16) (par1 p b) := by
  have ha := h.a0
  have hl := h.len
  have e : par1 p b = (if p.1.length < 16 then p.1 ++ [p.2] else p.1, 0) := by unfold par1; rw [if_pos h1]
  rw [e]
  by_cases h16 : a < 16
  · rw [if_pos (by omega)]
    have em : (min ((a.toNat : Int) + 1) 16).toNat = a.toNat + 1 := by omega
    refine ⟨by omega, by rw [em, List.length_append]; simp; omega, fun j hj => ?_, fun q => ?_, fun j hj => ?_⟩
    · rw [em] at hj
      show (p.1 ++ [p.2])[j]? = _
      by_cases e2 : j < a.toNat
      · rw [List.getElem?_append_left (by omega)]; exact h.at_ j e2
      · obtain rfl : j = a.toNat := by omega
        rw [List.getElem?_append_right (by omega), hl, Nat.sub_self, h.cur h16]; rfl
    · rw [em]; exact (h.up _ (by omega)).symm
    · rw [em] at hj; exact h.up j (by omega)
  · rw [if_neg (by omega)]
    have em : (min ((a.toNat : Int) + 1) 16).toNat = a.toNat := by omega
    refine ⟨by omega, by rw [em]; exact hl, fun j hj => by rw [em] at hj; exact h.at_ j hj, fun q => by omega, fun j hj => by rw [em] at hj; exact h.up j hj⟩
theorem lst_get (l : Nat → Int) {m j : Nat} (h : j < m) : (lst l m)[j]?.getD 0 = l j := by unfold lst; rw [List.getElem?_map, List.getElem?_range h]; rfl
def wvD (b : Int) (z : Int) (wv : Nat → Bool) : Nat → Bool := if b = 74 ∧ z = 2 then fun _ => true else wv
/-- What the last byte asks. -/
theorem do_sim {t : Tm} (hW : 1 ≤ t.W ∧ t.W ≤ 400) (hH : 1 ≤ t.H ∧ t.H ≤ 400) (hp : PAll t.W t.H t.c) (hw : t.r.lw = 0) {l : Nat → Int} {a : Int} {p : List Int × Int} (h : Pn l a p) (b : Int) (mks : Int) (wv : Nat → Bool) {s0 : Rm} (hs : StepTo s0 { doR (mkR t emp (-1) mks wv) b (parE p) with q := emp } true) :
    ∃ wv', StepTo s0 (mkR (obeyT t b l a) emp (-1) mks wv') true ∧ (obeyT t b l a).r.lw = 0 ∧ wv' = wvD b (l 0) wv := by
  have ha := h.a0
  rw [h.list] at hs
  have hc1 : 1 ≤ cntN a := by unfold cntN; omega
  have z0 : (lst l (cntN a))[(0 : Nat)]?.getD 0 = l 0 := lst_get l (by omega)
  have hlen : (lst l (cntN a)).length = cntN a := by unfold lst; simp
  unfold doR at hs
  rw [z0, hlen] at hs
  unfold obeyT
  by_cases h1 : b = 72
  · rw [if_pos h1] at hs
    rw [if_pos h1]
    refine ⟨wv, ?_, hw, by unfold wvD; rw [if_neg (by omega)]⟩
    have ex : min (if 1 < cntN a then max 1 ((lst l (cntN a))[(1 : Nat)]?.getD 0) else 1) (t.W : Int) - 1 = min (max (l 1) 1) (t.W : Int) - 1 := by
      by_cases h2 : 1 < cntN a
      · rw [if_pos h2, lst_get l h2, Int.max_comm]
      · rw [if_neg h2]
        have : a = 0 := by unfold cntN at h2; omega
        rw [h.up 1 (by omega)]
        rfl
    have ey : min (max 1 (l 0)) (t.H : Int) - 1 = min (max (l 0) 1) (t.H : Int) - 1 := by rw [Int.max_comm]
    have e : ({ ({ mkR t emp (-1) mks wv with y := min (max 1 (l 0)) ((mkR t emp (-1) mks wv).H : Int) - 1, x := min (if 1 < cntN a then max 1 ((lst l (cntN a))[(1 : Nat)]?.getD 0) else 1) ((mkR t emp (-1) mks wv).W : Int) - 1 } : Rm) with q := emp } : Rm) = mkR { t with r := { t.r with x := min (max (l 1) 1) (t.W : Int) - 1, y := min (max (l 0) 1) (t.H : Int) - 1 } } emp (-1) mks wv := by
      show (⟨t.W, t.H, t.c, min (if 1 < cntN a then max 1 ((lst l (cntN a))[(1 : Nat)]?.getD 0) else 1) (t.W : Int) - 1, min (max 1 (l 0)) (t.H : Int) - 1, t.r.f, t.r.g, t.r.b, emp, -1, mks, wv⟩ : Rm) = _
      rw [ex, ey]
      rfl
    rw [e] at hs
    exact hs
  · rw [if_neg h1] at hs
    rw [if_neg h1]
    by_cases h2 : b = 74
    · rw [if_pos h2] at hs
      rw [if_pos h2]
      by_cases h3 : l 0 = 2
      · rw [if_pos h3] at hs
        rw [if_pos h3]
        refine ⟨fun _ => true, ?_, hw, by unfold wvD; rw [if_pos ⟨h2, h3⟩]⟩
        have := hs.same (c' := filC t.W t.H t.c 0 0 t.W t.H 0 0 0 0 0 t.W t.H) (fun y x hy hx => (fil_whole hW hH t.c hy hx).symm) (hp.filX hW hH _ _ _ _ _ _ _ _ _ _ _)
        exact this
      · rw [if_neg h3] at hs
        rw [if_neg h3]
        exact ⟨wv, hs, hw, by unfold wvD; rw [if_neg (fun q => h3 q.2)]⟩
    · rw [if_neg h2] at hs
      rw [if_neg h2]
      by_cases h3 : b = 109
      · rw [if_pos h3] at hs
        rw [if_pos h3]
        exact ⟨wv, hs, hw, by unfold wvD; rw [if_neg (fun q => h2 q.1)]⟩
      · rw [if_neg h3] at hs
        rw [if_neg h3]
        exact ⟨wv, hs, hw, by unfold wvD; rw [if_neg (fun q => h2 q.1)]⟩
def wvW (l : Nat → Int) (b : UInt8) (wv : Nat → Bool) : Nat → Bool := if 64 ≤ b.toNat ∧ b.toNat ≤ 126 then wvD b.toNat (l 0) wv else wv
theorem doR_emp (t : Tm) (q : ByteArray) (mks : Int) (wv : Nat → Bool) (b : Int) (zs : List Int) : ({ doR (mkR t q (-1) mks wv) b zs with q := emp } : Rm) = { doR (mkR t emp (-1) mks wv) b zs with q := emp } := by
  unfold doR
  by_cases h1 : b = 72
  · rw [if_pos h1, if_pos h1]; rfl
  · rw [if_neg h1, if_neg h1]
    by_cases h2 : b = 74
    · rw [if_pos h2, if_pos h2]
      by_cases h3 : zs[(0 : Nat)]?.getD 0 = 2
      · rw [if_pos h3, if_pos h3]; rfl
      · rw [if_neg h3, if_neg h3]; rfl
    · rw [if_neg h2, if_neg h2]
      by_cases h3 : b = 109
      · rw [if_pos h3, if_pos h3]; rfl
      · rw [if_neg h3, if_neg h3]; rfl
theorem lst_out {t : Tm} {la mks : Int} (h : Lst t la mks) (hw : t.r.lw = 0) : la = -1 := by
  rcases h with ⟨_, h⟩ | h
  · exact h
  · have := h.lw; omega
theorem feed_wth {t : Tm} (hW : 1 ≤ t.W ∧ t.W ≤ 400) (hH : 1 ≤ t.H ∧ t.H ≤ 400) (hp : PAll t.W t.H t.c) {la mks : Int} (hl : Lst t la mks) {wv : Nat → Bool} {l : Nat → Int} {a : Int} {m : List UInt8} (hw : t.r.lw = 0) (hm : ∀ b ∈ m, 48 ≤ b.toNat ∧ b.toNat ≤ 59) (hn : Pn l a (parS ([], 0) m)) (b : UInt8) {q : ByteArray} (hq : q.data.toList = 27 :: 91 :: (m ++ [b])) (hqs : q.size ≤ 4611686018427387904) :
    ∃ n, Ends n (mkR t q la mks wv) (Docd (wthT t l a.toNat b.toNat).1 (wthT t l a.toNat b.toNat).2 (wvW l b wv)) := by
  obtain rfl := lst_out hl hw
  have ha := hn.a0
  have hb256 : b.toNat < 256 := UInt8.toNat_lt b
  have goOn : ∀ l' a', (48 ≤ b.toNat ∧ b.toNat ≤ 59) → Pn l' a' (par1 (parS ([], 0) m) b) → ∃ n, Ends n (mkR t q (-1) mks wv) (Docd t (.wth l' a') wv) := fun l' a' hb hn' => by
    refine ⟨0, _, st_more (s := mkR t q (-1) mks wv) hq (fun c hc => ?_) hqs, Nat.le_refl _, q, -1, mks, rfl, .inl ⟨hw, rfl⟩, m ++ [b], hq, hw, fun c hc => ?_, by rw [parS_app]; exact hn'⟩
    · rcases List.mem_append.1 hc with h | h
      · exact hm c h
      · rw [List.mem_singleton] at h; rw [h]; exact hb
    · rcases List.mem_append.1 hc with h | h
      · exact hm c h
      · rw [List.mem_singleton] at h; rw [h]; exact hb
  unfold wthT
  by_cases h1 : 48 ≤ b.toNat ∧ b.toNat ≤ 57
  · rw [if_pos (by omega)]
    have e : wvW l b wv = wv := by unfold wvW; rw [if_neg (by omega)]
    rw [e]
    exact goOn _ _ (by omega) (hn.digit h1.1 h1.2)
  · rw [if_neg (by omega)]
    by_cases h2 : b.toNat = 58
    · rw [if_pos (by omega)]
      have e : wvW l b wv = wv := by unfold wvW; rw [if_neg (by omega)]
      rw [e]
      refine goOn _ _ (by omega) ?_
      have e2 : par1 (parS ([], 0) m) b = parS ([], 0) m := by unfold par1; rw [if_neg (by omega), if_pos h2]
      rw [e2]
      have ea : ((a.toNat : Int)) = a := by omega
      rw [ea]
      exact hn
    · rw [if_neg (by omega)]
      by_cases h3 : b.toNat = 59
      · rw [if_pos (by omega)]
        have e : wvW l b wv = wv := by unfold wvW; rw [if_neg (by omega)]
        rw [e]
        exact goOn _ _ (by omega) (hn.semi h3)
      · rw [if_neg (by omega)]
        have he := st_end (s := mkR t q (-1) mks wv) hq hm (by omega) hqs
        have hz : 0 < q.size := by rw [size_of hq]; simp
        by_cases h4 : 64 ≤ b.toNat ∧ b.toNat ≤ 126
        · rw [if_pos (by omega)]
          rw [if_pos h4] at he
          have he' : StepTo (mkR t q (-1) mks wv) { doR (mkR t emp (-1) mks wv) b.toNat (parE (parS ([], 0) m)) with q := emp } true := by
            have e : ({ doR (esc0 (mkR t q (-1) mks wv)) b.toNat (parL m) with q := ⟨#[]⟩ } : Rm) = { doR (mkR t emp (-1) mks wv) b.toNat (parE (parS ([], 0) m)) with q := emp } := doR_emp t q mks wv _ _
            rw [e] at he
            exact he
          obtain ⟨wv', q1, q2, q3⟩ := do_sim hW hH hp hw hn b.toNat mks wv he'
          have ea : ((a.toNat : Int)) = a := by omega
          rw [ea]
          have e : wvW l b wv = wv' := by unfold wvW; rw [if_pos h4, q3]
          rw [e]
          exact ⟨1, _, q1, hz, _, st_nil rfl, Nat.le_refl _, emp, -1, mks, rfl, .inl ⟨q2, rfl⟩, rfl⟩
        · rw [if_neg (by omega)]
          rw [if_neg h4] at he
          have e : wvW l b wv = wv := by unfold wvW; rw [if_neg h4]
          rw [e]
          exact ⟨1, _, he, hz, _, st_nil rfl, Nat.le_refl _, emp, -1, mks, rfl, .inl ⟨hw, rfl⟩, rfl⟩
/-- What has been written, behind a byte. -/
def wvS (t : Tm) (b : UInt8) (wv : Nat → Bool) : St → Nat → Bool
  | .out => wvO t b wv
  | .esc => wv
  | .amid h => if full (h.data.toList ++ [b]) ∧ (runes (h.data.toList ++ [b])).length ≠ 1 then wvO (prsT t (runes h.data.toList)) b (wvPs t (runes h.data.toList) wv) else wvA t (h.data.toList ++ [b]) wv
  | .wth l a => wvW l b wv
theorem feed {t : Tm} {st : St} {wv : Nat → Bool} {s : Rm} (hW : 1 ≤ t.W ∧ t.W ≤ 400) (hH : 1 ≤ t.H ∧ t.H ≤ 400) (hp : PAll t.W t.H t.c) (ht : Ti t) (h : Docd t st wv s) (b : UInt8) (hqs : s.q.size + 1 ≤ 4611686018427387904) :
    ∃ n, Ends n { s with q := s.q ++ ⟨#[b]⟩ } (Docd (stepT t b st).1 (stepT t b st).2 (wvS t b wv st)) := by
  obtain ⟨q, la, mks, rfl, hl, hh⟩ := h
  have eq : (q ++ (⟨#[b]⟩ : ByteArray)).data.toList = q.data.toList ++ [b] := by simp
  have hsz : (q ++ (⟨#[b]⟩ : ByteArray)).size = q.size + 1 := by rw [ByteArray.size_append]; rfl
  have hqs' : q.size + 1 ≤ 4611686018427387904 := hqs
  cases st with
  | out =>
    have hq : q.data.toList = [] := hh
    exact feed_out hW hH ht hl b (by show (q ++ (⟨#[b]⟩ : ByteArray)).data.toList = _; rw [eq, hq]; rfl)
  | esc =>
    obtain ⟨hq, hw⟩ := hh
    obtain rfl := lst_out hl hw
    have eq2 : (q ++ (⟨#[b]⟩ : ByteArray)).data.toList = [27, b] := by rw [eq, hq]; rfl
    show ∃ n, Ends n (mkR t (q ++ ⟨#[b]⟩) (-1) mks wv) (Docd t (if (b.toNat : Int) = 91 then .wth (fun _ => 0) 0 else .out) wv)
    by_cases h91 : b.toNat = 91
    · rw [if_pos (by omega)]
      have hb : b = 91 := by
        apply UInt8.toNat_inj.1
        rw [h91]; rfl
      rw [hb] at eq2 ⊢
      exact ⟨0, _, st_more (s := mkR t (q ++ ⟨#[91]⟩) (-1) mks wv) eq2 (fun c hc => (by cases hc)) (by show (q ++ (⟨#[91]⟩ : ByteArray)).size ≤ _; rw [hb] at hsz; rw [hsz]; exact hqs'), Nat.le_refl _, _, -1, mks, rfl, .inl ⟨hw, rfl⟩, [], eq2, hw, fun c hc => (by cases hc), ⟨by decide, rfl, fun j hj => absurd hj (by simp), fun _ => rfl, fun _ _ => rfl⟩⟩
    · rw [if_neg (by omega)]
      exact ⟨1, _, st_none (s := mkR t (q ++ ⟨#[b]⟩) (-1) mks wv) eq2 h91, by show 0 < (q ++ (⟨#[b]⟩ : ByteArray)).size; rw [hsz]; omega, _, st_nil rfl, Nat.le_refl _, emp, -1, mks, rfl, .inl ⟨hw, rfl⟩, rfl⟩
  | amid hm =>
    obtain ⟨h1, h2, h3⟩ := hh
    rw [h1] at h2 h3
    exact feed_amid hW hH ht hl h2 h3 b (by show (q ++ (⟨#[b]⟩ : ByteArray)).data.toList = _; rw [eq, h1])
  | wth l a =>
    obtain ⟨m, h1, h2, h3, h4⟩ := hh
    exact feed_wth hW hH hp hl h2 h3 h4 b (by show (q ++ (⟨#[b]⟩ : ByteArray)).data.toList = _; rw [eq, h1]; rfl) (by show (q ++ (⟨#[b]⟩ : ByteArray)).size ≤ _; rw [hsz]; exact hqs')

end Go.Proofs.YtlfffpoeioecjaaDoor

namespace Go.Proofs.YtlfffpoeioecjaaDoor
open Go.RowKit Go.Sort
set_option linter.unusedVariables false

def qSz (w : World) (T : Nat) : Nat := match w.cell? ⟨T, 6, none⟩ with
  | some (.string q) => q.size
  | _ => 0
theorem RT.qSz {w : World} {T K M cap B bc : Nat} {s : Rm} (h : RT w T K M cap B bc s) : qSz w T = s.q.size := by
  have : w.cell? ⟨T, 6, none⟩ = some (.string s.q) := h.at rfl
  unfold Go.Proofs.YtlfffpoeioecjaaDoor.qSz
  rw [this]
/-- The document's terminal in memory, as the program's stands: at most k bytes are half come. -/
structure Doc (w0 w : World) (T M B bc : Nat) (p : Tm × St) (wv : Nat → Bool) (k : Nat) : Prop where
  rt : ∃ K' M' cap' s, RT w T K' M' cap' B bc s ∧ Docd p.1 p.2 wv s ∧ s.q.size ≤ k ∧ (M' = M ∨ w0.heap.size ≤ M')
  c3 : C3 T M B w0 w
/-- What has been written, behind bytes. -/
def runW : Tm × St → (Nat → Bool) → List UInt8 → Nat → Bool
  | _, wv, [] => wv
  | p, wv, b :: r => runW (stepT p.1 b p.2) (wvS p.1 b wv p.2) r
theorem runW_app (p : Tm × St) (wv : Nat → Bool) (l : List UInt8) (b : UInt8) : runW p wv (l ++ [b]) = wvS (runT p l).1 b (runW p wv l) (runT p l).2 := by
  induction l generalizing p wv with
  | nil => rfl
  | cons a l ih => exact ih _ _
/-- What the steps have left so far. -/
structure Lp (w0 w : World) (T M B bc : Nat) (P : Rm → Prop) (k : Nat) (a : Bool) : Prop where
  rt : ∃ K' M' cap' s, RT w T K' M' cap' B bc s ∧ (if a then ∃ n, Ends n s P else P s) ∧ s.q.size ≤ k ∧ (M' = M ∨ w0.heap.size ≤ M')
  c3 : C3 T M B w0 w
def bOf : Value → Nat
  | .bool true => 1
  | _ => 0
/-- One step more. -/
theorem Lp.step {w0 w : World} {T M B bc : Nat} {P : Rm → Prop} {k : Nat} (h : Lp w0 w T M B bc P k true) :
    ∃ a : Bool, Calls Tryd.prog 33 #[.pointer (some ⟨T, 0, none⟩)] w fun e w' => e = .returned (.bool a) ∧ Lp w0 w' T M B bc P k a ∧ 2 * qSz w' T + bOf (.bool a) < 2 * qSz w T + 1 := by
  obtain ⟨⟨K', M', cap', s, r, ⟨n, hn⟩, hk, hM⟩, hc⟩ := h
  have hsz := r.qSz
  have key : ∀ s' (a : Bool), StepTo s s' a → (if a then ∃ n, Ends n s' P else P s') → s'.q.size ≤ s.q.size → (a = true → s'.q.size < s.q.size) → Calls Tryd.prog 33 #[.pointer (some ⟨T, 0, none⟩)] w fun e w' => e = .returned (.bool a) ∧ Lp w0 w' T M B bc P k a ∧ 2 * qSz w' T + bOf (.bool a) < 2 * qSz w T + 1 := fun s' a hs he hle hlt => (hs w T K' M' cap' B bc r).mono fun e w' q => by
    obtain ⟨q1, ⟨K2, M2, cap2, r2, hM2⟩, c2⟩ := q
    have hsz2 := r2.qSz
    have hs0 := hc.size
    refine ⟨q1, ⟨⟨K2, M2, cap2, s', r2, he, by omega, ?_⟩, hc.transM c2 hM⟩, ?_⟩
    · rcases hM2 with h | h
      · rcases hM with g | g
        · exact .inl (h.trans g)
        · exact .inr (by omega)
      · exact .inr (by omega)
    · rw [hsz, hsz2]
      cases a with
      | true => have := hlt rfl; show 2 * s'.q.size + 1 < _; omega
      | false => show 2 * s'.q.size + 0 < _; omega
  cases n with
  | zero =>
    obtain ⟨s', h1, h2, h3⟩ := hn
    exact ⟨false, key s' false h1 h3 h2 (fun q => by cases q)⟩
  | succ n =>
    obtain ⟨s', h1, h2, h3⟩ := hn
    exact ⟨true, key s' true h1 ⟨n, h3⟩ (by omega) (fun _ => h2)⟩

section
variable {T M B bc : Nat}
set_option maxRecDepth 100000 in
set_option maxHeartbeats 8000000 in
theorem rwrite_any (x : ByteArray) (w : World) {p : Tm × St} {wv : Nat → Bool} {k : Nat} (h : Doc w w T M B bc p wv k) (hi : Ti p.1) (hs : Si p.2) (hx : k + x.size + 1 ≤ 4611686018427387904) :
    Calls Tryd.prog 18 #[.pointer (some ⟨T, 0, none⟩), .string x] w fun e w' => e = .returned (.tuple #[]) ∧ Doc w w' T M B bc (runT p x.data.toList) (runW p wv x.data.toList) (k + x.size) := by
  have hmix : Tryd.prog.follows .mixedOrders = true := by kernel_rfl
  have H0 : Hid (Doc w w T M B bc p wv k ∧ Ti p.1 ∧ Si p.2) := ⟨h, hi, hs⟩
  clear h hi hs
  go_enter Tryd.func18, Tryd.ntmps18
  go_wp2
  go_loopw [4] (fun iv wr => ∃ i : Nat, i ≤ x.size ∧ iv = .int .i64 i ∧ Hid (Doc w wr T M B bc (runT p (x.data.toList.take i)) (runW p wv (x.data.toList.take i)) (k + i) ∧ Ti (runT p (x.data.toList.take i)).1 ∧ Si (runT p (x.data.toList.take i)).2)) (fun iv _ => x.size - (intOf iv).toNat)
  case atStart => exact ⟨0, Nat.zero_le _, rfl, H0.out⟩
  case round =>
    obtain ⟨i, hil, rfl, HJ⟩ := hrel
    by_cases hlt : i < x.size
    · have hlt' : (i : Int) < (x.size : Int) := by omega
      obtain ⟨P, hP⟩ : ∃ z, runT p (x.data.toList.take i) = z := ⟨_, rfl⟩
      obtain ⟨V, hV⟩ : ∃ z, runW p wv (x.data.toList.take i) = z := ⟨_, rfl⟩
      obtain ⟨bt, hbt⟩ : ∃ b, x.data.toList.getD i 0 = b := ⟨_, rfl⟩
      have e : x.data.toList[i]? = some bt := by
        have hl : i < x.data.toList.length := by rw [len_data]; exact hlt
        rw [← hbt, List.getD_eq_getElem?_getD, List.getElem?_eq_getElem hl]; rfl
      have HP : Hid (runT p (x.data.toList.take (i + 1)) = stepT P.1 bt P.2 ∧ runW p wv (x.data.toList.take (i + 1)) = wvS P.1 bt V P.2) := by
        refine ⟨?_, ?_⟩
        · rw [List.take_add_one, e, ← hP, ← runT_app]; rfl
        · rw [List.take_add_one, e, ← hP, ← hV, ← runW_app]; rfl
      have HX : Hid (x.extract i (i + 1) = ⟨#[bt]⟩) := by show _ = _; rw [ext_one x i hlt, hbt]
      obtain ⟨hd, hti, hsi⟩ := HJ.out
      rw [hP, hV] at hd
      rw [hP] at hti hsi
      obtain ⟨⟨K', M', cap', s, r, hdoc, hk, hM⟩, hc⟩ := hd
      obtain ⟨n, hn⟩ : ∃ n, Ends n { s with q := s.q ++ ⟨#[bt]⟩ } (Docd (stepT P.1 bt P.2).1 (stepT P.1 bt P.2).2 (wvS P.1 bt V P.2)) := by
        obtain ⟨q, la, mks, rfl, hl, hh⟩ := hdoc
        exact feed r.hW r.hH r.pa hti ⟨q, la, mks, rfl, hl, hh⟩ bt (by show q.size + 1 ≤ _; have : q.size ≤ k + i := hk; omega)
      have SO : Hid (Ti (stepT P.1 bt P.2).1 ∧ Si (stepT P.1 bt P.2).2) := by
        obtain ⟨q, la, mks, rfl, hl, hh⟩ := hdoc
        exact step_ok hti hsi r.hW.1 r.hH.1 bt
      have t6 : wr.cell? ⟨T, 6, none⟩ = some (.string s.q) := r.at rfl
      have f6 := r.fz 6
      obtain ⟨fb, hfb⟩ : ∃ z, x.extract i (i + 1) = z := ⟨_, rfl⟩
      have hfs : fb = ⟨#[bt]⟩ := by rw [← hfb]; exact HX.out
      have hfz : fb.size = 1 := by rw [hfs]; rfl
      have hcc : ¬ 9223372036854775807 < s.q.size + fb.size := by omega
      have L0 : Hid (Lp w (wr.setCell ⟨T, 6, none⟩ (.string (s.q ++ fb))).drew T M B bc (Docd (stepT P.1 bt P.2).1 (stepT P.1 bt P.2).2 (wvS P.1 bt V P.2)) (k + (i + 1)) true) :=
        ⟨⟨K', M', cap', { s with q := s.q ++ fb }, (RT.q _ r _).gr (Gr.refl _).drew, ⟨n, by rw [hfs]; exact hn⟩, by show (s.q ++ fb).size ≤ _; rw [ByteArray.size_append]; omega, hM⟩, (hc.set _ _).trans (C3.gr (Gr.refl _).drew)⟩
      clear hn r hdoc hc hM HJ hti hsi hP hV e hbt hfs
      go_wp2_with fail
      go_region
      try rw [hfb]
      obtain ⟨w2, hw2⟩ : ∃ z, (wr.setCell ⟨T, 6, none⟩ (.string (s.q ++ fb))).drew = z := ⟨_, rfl⟩
      rw [hw2] at L0 ⊢
      clear hw2 t6 f6 hcc
      go_wp2_with fail
      go_loopw [5] (fun av wk => ∃ a : Bool, av = .bool a ∧ Hid (Lp w wk T M B bc (Docd (stepT P.1 bt P.2).1 (stepT P.1 bt P.2).2 (wvS P.1 bt V P.2)) (k + (i + 1)) a)) (fun av wk => 2 * qSz wk T + bOf av)
      case atStart => exact ⟨true, rfl, L0.out⟩
      case round =>
        obtain ⟨a, rfl, HL⟩ := hrel
        cases a with
        | true =>
          obtain ⟨a2, hcall⟩ := HL.out.step
          have HC : Hid (Calls Tryd.prog 33 #[.pointer (some ⟨T, 0, none⟩)] wr fun e w' => e = .returned (.bool a2) ∧ Lp w w' T M B bc (Docd (stepT P.1 bt P.2).1 (stepT P.1 bt P.2).2 (wvS P.1 bt V P.2)) (k + (i + 1)) a2 ∧ 2 * qSz w' T + bOf (.bool a2) < 2 * qSz wr T + 1) := hcall
          clear hcall
          go_wp2_with fail
          refine HC.out.mono ?_
          rintro e w3 ⟨rfl, l3, m3⟩
          have L3 : Hid (Lp w w3 T M B bc (Docd (stepT P.1 bt P.2).1 (stepT P.1 bt P.2).2 (wvS P.1 bt V P.2)) (k + (i + 1)) a2) := l3
          have M3 : Hid (2 * qSz w3 T + bOf (.bool a2) < 2 * qSz wr T + 1) := m3
          clear l3 m3 HC
          go_wp2
          go_roundw
          case rel => exact ⟨a2, rfl, L3.out⟩
          case measure => exact M3.out
        | false =>
          have HD : Hid (Doc w wr T M B bc (runT p (x.data.toList.take (i + 1))) (runW p wv (x.data.toList.take (i + 1))) (k + (i + 1)) ∧ Ti (runT p (x.data.toList.take (i + 1))).1 ∧ Si (runT p (x.data.toList.take (i + 1))).2) := by
            show _ ∧ _
            rw [HP.out.1, HP.out.2]
            exact ⟨⟨HL.out.rt, HL.out.c3⟩, SO.out⟩
          go_wp2
          go_roundw
          case rel => exact ⟨i + 1, by omega, by go_num, HD.out⟩
          case measure => simp [intOf]; omega
    · have hlt' : ¬ (i : Int) < (x.size : Int) := by omega
      obtain rfl : i = x.size := by omega
      have HF : Hid (x.data.toList.take x.size = x.data.toList) := List.take_of_length_le (by rw [len_data]; exact Nat.le_refl _)
      have HJ2 := HJ.out
      rw [HF.out] at HJ2
      go_wp2
      go_end0
      exact ⟨rfl, HJ2.1⟩
end

end Go.Proofs.YtlfffpoeioecjaaDoor

namespace Go.Proofs.YtlfffpoeioecjaaDoor
open Go.RowKit Go.Sort
set_option linter.unusedVariables false

def rm0 (W H : Nat) : Rm := mkR (tm0 W H) emp (-1) 0 (fun _ => false)
theorem docd0 (W H : Nat) : Docd (tm0 W H) .out (fun _ => false) (rm0 W H) := ⟨emp, -1, 0, rfl, .inl ⟨rfl, rfl⟩, rfl⟩
theorem BR.new (w : World) (n : Nat) : BR (w.alloc (.cells (madeCells #[.bool false] n) 4)) w.heap.size n (fun _ => false) :=
  ⟨⟨_, heap_alloc_new _ _⟩, fun j hj => by rw [World.cell?_alloc_at _ _ _ _ rfl]; simp [madeCells, hj, Nat.mod_one]⟩
/-- A new terminal of the document's. -/
structure RNw (w w' : World) (T B bc W H : Nat) : Prop where
  rt : ∃ K M cap, RT w' T K M cap B bc (rm0 W H) ∧ w.heap.size ≤ K ∧ w.heap.size ≤ M
  t : w.heap.size ≤ T
  b : w.heap.size ≤ B
  bel : Below w.heap.size w w'

set_option maxRecDepth 100000 in
set_option maxHeartbeats 2000000 in
theorem rterm_new (W H : Nat) (w : World) (hW : 1 ≤ W ∧ W ≤ 400) (hH : 1 ≤ H ∧ H ≤ 400) : Calls Tryd.prog 22 #[.int .i64 W, .int .i64 H] w fun e w' => ∃ T B bc, e = .returned (.tuple #[.pointer (some ⟨T, 0, none⟩), .int .i64 0]) ∧ RNw w w' T B bc W H := by
  have NO : Hid (Calls Tryd.prog 37 #[.int .i64 W, .int .i64 H] w fun e w' => ∃ K, e = .returned (.tuple #[.pointer (some ⟨K, 0, none⟩), .int .i64 0]) ∧ RN w w' W H K) := rnew_ok W H hW hH w
  have hwh : W * H ≤ 160000 := Nat.le_trans (Nat.mul_le_mul hW.2 hH.2) (by decide)
  obtain ⟨n, hn⟩ : ∃ n, W * H = n := ⟨_, rfl⟩
  have hn' : (W : Int) * (H : Int) = (n : Int) := by rw [← hn, Int.natCast_mul]
  have HN : Hid (W * H = n) := hn
  rw [hn] at hwh
  clear hn
  have hmk : ∀ u : World, (Instr.makeSlice 51 (.int .i64 (n : Int)) (.int .i64 (n : Int))).run Tryd.prog u = .ok (.slice (some ⟨u.heap.size, 0, none⟩) n n) (u.alloc (.cells (madeCells #[.bool false] n) 4)) := fun u => run_make_row' (P := Tryd.prog) 51 4 (.bool false) 1 Tryd.underlying51 infoBool rfl .i64 .i64 n (by omega) (by omega) u
  go_enter Tryd.func22, Tryd.ntmps22
  go_wp2_with fail
  refine NO.out.mono ?_
  rintro e w1 ⟨K, rfl, hk, M, cap, hcs, hm, b1⟩
  have HB : Hid (Below w.heap.size w w1) := b1
  have HC : Hid (CS 48 57 w1 K M cap W H (fun _ _ => bk 0 0 0)) := hcs
  have hkl := hcs.klt
  have hml := hcs.cv.lt
  clear hcs b1
  go_wp2
  refine bodyPost_ret (v := .tuple #[.pointer (some ⟨w1.heap.size + 1, 0, none⟩), .int .i64 0]) (by simp [results, Tryd.results22, go_sem]) rfl ?_
  have h1 := HB.out.size
  refine ⟨w1.heap.size + 1, w1.heap.size, n, rfl, ⟨⟨K, M, cap, ?_, hk, hm⟩, by omega, h1, (HB.out.alloc h1 _).alloc (by simp; omega) _⟩⟩
  have G : Gr w1 ((w1.alloc (.cells (madeCells #[.bool false] n) 4)).alloc (.cells (rtc K w1.heap.size n (rm0 W H)) 53)) := ((Gr.refl _).alloc _).alloc _
  have e0 : rtc K w1.heap.size n (rm0 W H) = #[.pointer (some ⟨K, 0, none⟩), .int .i64 0, .int .i64 0, .int .i64 0, .int .i64 0, .int .i64 0, .string ⟨#[]⟩, .int .i64 (-1), .int .i64 0, .slice (some ⟨w1.heap.size, 0, none⟩) n n] := by
    show #[_, _, _, _, _, _, _, _, _, Value.slice (some ⟨w1.heap.size, 0, none⟩) (W * H) n] = _
    rw [HN.out]
    rfl
  rw [← e0]
  have hal : (w1.alloc (.cells (madeCells #[.bool false] n) 4)).heap.size = w1.heap.size + 1 := by simp
  refine ⟨?_, HC.out.gr G, ?_, by omega, by omega, by omega, by omega, by omega, ?_, hW, hH, pall1 W H⟩
  · have := heap_alloc_new (w1.alloc (.cells (madeCells #[.bool false] n) 4)) (.cells (rtc K w1.heap.size n (rm0 W H)) 53)
    rw [hal] at this
    exact this
  · have hb := BR.new w1 n
    have hn2 : (rm0 W H).W * (rm0 W H).H = n := HN.out
    rw [hn2]
    exact hb.keep (((Gr.refl _).alloc _).block (by rw [hal]; omega))
  · show W * H ≤ n
    rw [HN.out]
    exact Nat.le_refl _

end Go.Proofs.YtlfffpoeioecjaaDoor
