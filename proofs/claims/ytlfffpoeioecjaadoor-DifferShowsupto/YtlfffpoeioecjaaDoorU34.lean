/-
  The document's terminal prints as the program's does.
-/
import Derived.Test.YtlfffpoeioecjaaDoorU33
import Derived.Test.YtlfffpoeioecjaaDoorU21
import Derived.Test.YtlfffpoeioecjaaDoorU14
import Derived.Test.YtlfffpoeioecjaaDoorU32
import Derived.Test.YtlfffpoeioecjaaDoorU17
import Derived.Test.YtlfffpoeioecjaaDoorU31
import Derived.Test.YtlfffpoeioecjaaDoorU25
namespace Go.Proofs.YtlfffpoeioecjaaDoor
open Go.RowKit Go.Sort
set_option linter.unusedVariables false

def mkR (t : Tm) (q : ByteArray) (la mks : Int) (wv : Nat → Bool) : Rm := ⟨t.W, t.H, t.c, t.r.x, t.r.y, t.r.f, t.r.g, t.r.b, q, la, mks, wv⟩
/-- The last cell, as both know it. -/
structure La (t : Tm) (la mks : Int) : Prop where
  lw : t.r.lw = 1 ∨ t.r.lw = 2
  x0 : 0 ≤ t.r.lx
  x1 : t.r.lx + t.r.lw ≤ t.W
  y0 : 0 ≤ t.r.ly
  y1 : t.r.ly < t.H
  la : la = t.r.ly * t.W + t.r.lx
  mq : mks = t.r.lm
  hd : t.c t.r.ly.toNat t.r.lx.toNat = ⟨t.r.lt, kn t.r.f, kn t.r.g, bo t.r.b, if t.r.lw = 2 then 1 else 0⟩
  tl : t.r.lw = 2 → t.c t.r.ly.toNat (t.r.lx.toNat + 1) = ⟨ept, kn t.r.f, kn t.r.g, bo t.r.b, 2⟩
def Lst (t : Tm) (la mks : Int) : Prop := (t.r.lw = 0 ∧ la = -1) ∨ La t la mks
theorem enc_one (r : Int) : (⟨(enc [r]).toArray⟩ : ByteArray) = encB r := by unfold encB enc; simp
theorem lin_div {W y x : Nat} (hx : x < W) : (y * W + x) / W = y ∧ (y * W + x) % W = x := by
  constructor
  · rw [Nat.mul_comm, Nat.mul_add_div (by omega), Nat.div_eq_of_lt hx, Nat.add_zero]
  · rw [Nat.mul_comm, Nat.mul_add_mod, Nat.mod_eq_of_lt hx]
theorem La.nat {t : Tm} {la mks : Int} (h : La t la mks) : ∃ X Y : Nat, t.r.lx = X ∧ t.r.ly = Y ∧ Y < t.H ∧ X < t.W ∧ la = ((Y * t.W + X : Nat) : Int) ∧ la.toNat / t.W = Y ∧ la.toNat % t.W = X ∧ la.toNat < t.W * t.H := by
  obtain ⟨X, hX⟩ : ∃ X : Nat, t.r.lx = X := ⟨t.r.lx.toNat, by have := h.x0; omega⟩
  obtain ⟨Y, hY⟩ : ∃ Y : Nat, t.r.ly = Y := ⟨t.r.ly.toNat, by have := h.y0; omega⟩
  have h1 := h.x1
  have h2 := h.y1
  have h3 := h.lw
  have hXW : X < t.W := by omega
  have hYH : Y < t.H := by omega
  have hla : la = ((Y * t.W + X : Nat) : Int) := by rw [h.la, hX, hY]; simp
  have hd := lin_div (y := Y) hXW
  have hlt : Y * t.W + X < t.W * t.H := by
    have : (Y + 1) * t.W ≤ t.H * t.W := Nat.mul_le_mul_right _ (by omega)
    rw [Nat.add_mul, Nat.one_mul, Nat.mul_comm t.H] at this
    omega
  exact ⟨X, Y, hX, hY, hYH, hXW, hla, by rw [hla, Int.toNat_natCast]; exact hd.1, by rw [hla, Int.toNat_natCast]; exact hd.2, by rw [hla, Int.toNat_natCast]; exact hlt⟩
theorem ri_of {t : Tm} {q : ByteArray} {la mks : Int} {wv : Nat → Bool} (ht : Ti t) (hl : Lst t la mks) : Ri (mkR t q la mks wv) := by
  refine ⟨ht.x0, ht.x1, ht.y0, ht.y1, ?_⟩
  rcases hl with ⟨_, h⟩ | h
  · exact .inl h
  · obtain ⟨X, Y, hX, hY, hYH, hXW, hla, e1, e2, hlt⟩ := h.nat
    have hd := h.hd
    rw [hX, hY, Int.toNat_natCast, Int.toNat_natCast] at hd
    right
    show 0 ≤ la ∧ la < ((t.W * t.H : Nat) : Int) ∧ 0 ≤ mks ∧ mks ≤ 4 ∧ ((t.c (la.toNat / t.W) (la.toNat % t.W)).t.size : Int) ≤ 4 + 4 * mks ∧ (t.c (la.toNat / t.W) (la.toNat % t.W)).p ≠ 2
    rw [e1, e2, hd, h.mq]
    refine ⟨by omega, by omega, ht.m0, ht.m1, ht.ts, ?_⟩
    show (if t.r.lw = 2 then (1 : Int) else 0) ≠ 2
    split <;> decide
/-- What stands where something was put. -/
theorem put_head {c : Nat → Nat → Ce} {X Y : Nat} {wd : Int} (hw : wd = 1 ∨ wd = 2) (txt : ByteArray) (f g b : Int) : fill c X (X + wd.toNat) Y (Y + 1) (gly X wd txt f g b) Y X = ⟨txt, f, g, b, if wd = 2 then 1 else 0⟩ := by
  unfold fill
  rw [if_pos (by omega), span_in (by omega)]
  unfold gly
  rcases hw with h | h
  · rw [if_neg (by omega), if_neg (by omega)]
  · rw [if_pos h, if_pos rfl, if_pos h]
theorem put_tail {c : Nat → Nat → Ce} {X Y : Nat} {wd : Int} (hw : wd = 2) (txt : ByteArray) (f g b : Int) : fill c X (X + wd.toNat) Y (Y + 1) (gly X wd txt f g b) Y (X + 1) = ⟨ept, f, g, b, 2⟩ := by
  unfold fill
  rw [if_pos (by omega), span_in (by omega)]
  unfold gly
  rw [if_pos hw, if_neg (by omega)]
/-- Put anew with another text: only the text is another one. -/
theorem put_again {c : Nat → Nat → Ce} {X Y : Nat} {wd : Int} {txt : ByteArray} {f g b : Int} (hw : wd = 1 ∨ wd = 2) (hd : c Y X = ⟨txt, f, g, b, if wd = 2 then 1 else 0⟩) (tl : wd = 2 → c Y (X + 1) = ⟨ept, f, g, b, 2⟩) (t2 : ByteArray) : fill c X (X + wd.toNat) Y (Y + 1) (gly X wd t2 f g b) = upd c Y X { c Y X with t := t2 } := by
  funext y j
  unfold upd
  by_cases e : y = Y ∧ j = X
  · obtain ⟨rfl, rfl⟩ := e
    rw [if_pos ⟨rfl, rfl⟩, put_head hw, hd]
  · rw [if_neg e]
    unfold fill
    by_cases hy : y = Y
    · subst hy
      rw [if_pos (by omega)]
      have hj : j ≠ X := fun q => e ⟨rfl, q⟩
      unfold span
      by_cases hin : X ≤ j ∧ j < X + wd.toNat
      · rw [if_pos hin]
        have hw2 : wd = 2 := by omega
        obtain rfl : j = X + 1 := by omega
        unfold gly
        rw [if_pos hw2, if_neg (by omega), tl hw2]
      · rw [if_neg hin, if_neg (fun q => by have := q.2.2; rw [hd] at this; simp only at this; split at this <;> omega), if_neg (fun q => by
          have h3 := q.2.2
          rcases hw with h | h
          · rw [show X + wd.toNat - 1 = X by omega, hd] at h3
            simp only at h3
            rw [if_neg (by omega)] at h3
            omega
          · rw [show X + wd.toNat - 1 = X + 1 by omega, tl h] at h3
            simp only at h3
            omega)]
    · rw [if_neg (by omega)]
def wvP (t : Tm) (r : Int) (wv : Nat → Bool) : Nat → Bool := if wid r = 0 then wv else if t.r.x + wid r > t.W then wv else wrN (mkR t ⟨#[]⟩ 0 0 wv) r

theorem pr_sim {t : Tm} (hW : 1 ≤ t.W ∧ t.W ≤ 400) (hH : 1 ≤ t.H ∧ t.H ≤ 400) (ht : Ti t) {la mks : Int} (hl : Lst t la mks) (q : ByteArray) (wv : Nat → Bool) (r : Int) : ∃ la' mks', prR (mkR t q la mks wv) r = mkR (prT t r) q la' mks' (wvP t r wv) ∧ Lst (prT t r) la' mks' := by
  have hwc := wid_cases r
  by_cases h0 : wid r = 0
  · have e1 : prR (mkR t q la mks wv) r = markR (mkR t q la mks wv) r := by unfold prR; rw [if_pos h0]
    have e2 : prT t r = markT t (encB r) := by unfold prT; rw [if_pos h0, enc_one]
    have e3 : wvP t r wv = wv := by unfold wvP; rw [if_pos h0]
    rw [e1, e2, e3]
    rcases hl with ⟨hlw, hla⟩ | h
    · refine ⟨la, mks, ?_, ?_⟩
      · unfold markR markT
        rw [if_neg (by show ¬ (0 ≤ la ∧ mks < 4); omega), if_pos (.inl hlw)]
      · unfold markT
        rw [if_pos (.inl hlw)]
        exact .inl ⟨hlw, hla⟩
    · obtain ⟨X, Y, hX, hY, hYH, hXW, hla, q1, q2, hlt⟩ := h.nat
      by_cases h4 : t.r.lm = 4
      · refine ⟨la, mks, ?_, ?_⟩
        · unfold markR markT
          rw [if_neg (by show ¬ (0 ≤ la ∧ mks < 4); rw [h.mq]; omega), if_pos (.inr h4)]
        · unfold markT
          rw [if_pos (.inr h4)]
          exact .inr h
      · have hm1 := ht.m1
        have hn : ¬ (t.r.lw = 0 ∨ t.r.lm = 4) := by have := h.lw; omega
        have hd := h.hd
        have tl := h.tl
        have hx1 := h.x1
        rw [hX, hY, Int.toNat_natCast, Int.toNat_natCast] at hd tl
        have ec : putC t.W t.H t.c t.r.lx t.r.ly (t.r.lt ++ encB r) t.r.lw t.r.f t.r.g t.r.b 0 0 t.W t.H = addT t.c t.W la (encB r) := by
          rw [hX, hY, put_whole hW hH t.c (t.r.lt ++ encB r) t.r.f t.r.g t.r.b h.lw (by rw [hX] at hx1; exact hx1) hYH, put_again h.lw hd tl]
          unfold addT
          rw [q1, q2, hd]
        refine ⟨la, mks + 1, ?_, ?_⟩
        · unfold markR markT
          rw [if_pos (by show 0 ≤ la ∧ mks < 4; rw [h.mq]; omega), if_neg hn]
          unfold putL mkR
          simp only
          rw [ec]
        · unfold markT
          rw [if_neg hn]
          right
          have hadd : (putL { t with r := { t.r with lm := t.r.lm + 1, lt := t.r.lt ++ encB r } }).c = fill t.c X (X + t.r.lw.toNat) Y (Y + 1) (gly X t.r.lw (t.r.lt ++ encB r) (kn t.r.f) (kn t.r.g) (bo t.r.b)) := by
            show putC t.W t.H t.c t.r.lx t.r.ly (t.r.lt ++ encB r) t.r.lw t.r.f t.r.g t.r.b 0 0 t.W t.H = _
            rw [hX, hY, put_whole hW hH t.c (t.r.lt ++ encB r) t.r.f t.r.g t.r.b h.lw (by rw [hX] at hx1; exact hx1) hYH]
          exact ⟨h.lw, h.x0, h.x1, h.y0, h.y1, h.la, by show mks + 1 = t.r.lm + 1; rw [h.mq],
            by rw [hadd]; show fill _ _ _ _ _ _ t.r.ly.toNat t.r.lx.toNat = _; rw [hX, hY, Int.toNat_natCast, Int.toNat_natCast, put_head h.lw]; rfl,
            fun z => by rw [hadd]; show fill _ _ _ _ _ _ t.r.ly.toNat (t.r.lx.toNat + 1) = _; rw [hX, hY, Int.toNat_natCast, Int.toNat_natCast, put_tail (show t.r.lw = 2 from z)]; rfl⟩
  · have e1 : prR (mkR t q la mks wv) r = bigR (mkR t q la mks wv) r := by unfold prR; rw [if_neg h0]
    rw [e1]
    by_cases hr : t.r.x + wid r > t.W
    · refine ⟨-1, mks, ?_, ?_⟩
      · unfold bigR prT wvP
        rw [if_pos (by exact hr), if_neg h0, if_pos hr, if_neg h0, if_pos hr]
        rfl
      · unfold prT
        rw [if_neg h0, if_pos hr]
        exact .inl ⟨rfl, rfl⟩
    · have hx0 := ht.x0
      have hy0 := ht.y0
      have hy1 := ht.y1
      obtain ⟨X, hX⟩ : ∃ X : Nat, t.r.x = X := ⟨t.r.x.toNat, by omega⟩
      obtain ⟨Y, hY⟩ : ∃ Y : Nat, t.r.y = Y := ⟨t.r.y.toNat, by omega⟩
      have hw12 : wid r = 1 ∨ wid r = 2 := by omega
      refine ⟨t.r.y * t.W + t.r.x, 0, ?_, ?_⟩
      · unfold bigR prT wvP
        rw [if_neg (by exact hr), if_neg h0, if_neg hr, if_neg h0, if_neg hr, enc_one]
        rfl
      · have ep : prT t r = { putL { t with r := { clr t.r with lx := t.r.x, ly := t.r.y, lt := encB r, lw := wid r } } with r := { clr t.r with lx := t.r.x, ly := t.r.y, lt := encB r, lw := wid r, x := t.r.x + wid r } } := by unfold prT; rw [if_neg h0, if_neg hr, enc_one]
        rw [ep]
        right
        have hadd : (putL { t with r := { clr t.r with lx := t.r.x, ly := t.r.y, lt := encB r, lw := wid r } }).c = fill t.c X (X + (wid r).toNat) Y (Y + 1) (gly X (wid r) (encB r) (kn t.r.f) (kn t.r.g) (bo t.r.b)) := by
          show putC t.W t.H t.c t.r.x t.r.y (encB r) (wid r) t.r.f t.r.g t.r.b 0 0 t.W t.H = _
          rw [hX, hY, put_whole hW hH t.c (encB r) t.r.f t.r.g t.r.b hw12 (by rw [hX] at hr; omega) (by omega)]
        exact ⟨hw12, hx0, by show t.r.x + wid r ≤ (t.W : Int); omega, hy0, hy1, rfl, rfl,
          by show (putL _).c t.r.y.toNat t.r.x.toNat = _; rw [hadd, hX, hY, Int.toNat_natCast, Int.toNat_natCast, put_head hw12]; rfl,
          fun z => by show (putL _).c t.r.y.toNat (t.r.x.toNat + 1) = _; rw [hadd, hX, hY, Int.toNat_natCast, Int.toNat_natCast, put_tail (show wid r = 2 from z)]; rfl⟩

end Go.Proofs.YtlfffpoeioecjaaDoor

namespace Go.Proofs.YtlfffpoeioecjaaDoor
set_option linter.unusedVariables false

/-- What a pen knows: the cell at which the cursor stands (-1: it doesn't), and the style. -/
structure Pe0 where
  a : Int
  f : Int
  g : Int
  b : Int
/-- Numbers from one style to another one. -/
abbrev Kd := Int → Int → Int → Int → Int → Int → List Int
def StyOk (f g b : Int) : Prop := kn f = f ∧ kn g = g ∧ bo b = b
/-- They turn the one into the other. -/
structure Turns (K : Kd) : Prop where
  no : ∀ {f g b f2 g2 b2}, StyOk f g b → StyOk f2 g2 b2 → K f g b f2 g2 b2 = [] → f = f2 ∧ g = g2 ∧ b = b2
  few : ∀ {f g b f2 g2 b2}, (K f g b f2 g2 b2).length ≤ 16
  small : ∀ {f g b f2 g2 b2}, StyOk f g b → StyOk f2 g2 b2 → ∀ z ∈ K f g b f2 g2 b2, 0 ≤ z ∧ z ≤ 999999
  turn : ∀ {f g b f2 g2 b2}, StyOk f g b → StyOk f2 g2 b2 → K f g b f2 g2 b2 ≠ [] → aplF (K f g b f2 g2 b2) f = f2 ∧ aplG (K f g b f2 g2 b2) g = g2 ∧ aplB (K f g b f2 g2 b2) b = b2
def dipB (ns : List Int) : List UInt8 := if ns = [] then [] else seqB ns 109
def movB (W : Nat) (a : Int) (i : Nat) : List UInt8 := if (i : Int) ≠ a ∨ i % W = 0 then seqB [((i / W : Nat) : Int) + 1, ((i % W : Nat) : Int) + 1] 72 else []
/-- A cell's bytes. -/
def celB (K : Kd) (W : Nat) (p : Pe0) (i : Nat) (e : Ce) : List UInt8 := movB W p.a i ++ (dipB (K p.f p.g p.b e.f e.g e.b) ++ e.t.data.toList)
def celP (i : Nat) (e : Ce) : Pe0 := ⟨(i : Int) + (e.p + 1), e.f, e.g, e.b⟩
instance ceDec : DecidableEq Ce := fun a b => if h : a.t = b.t ∧ a.f = b.f ∧ a.g = b.g ∧ a.b = b.b ∧ a.p = b.p then .isTrue (by obtain ⟨h1, h2, h3, h4, h5⟩ := h; cases a; cases b; simp only at h1 h2 h3 h4 h5; subst h1; subst h2; subst h3; subst h4; subst h5; rfl) else .isFalse (fun e => by subst e; exact h ⟨rfl, rfl, rfl, rfl, rfl⟩)
/-- The pen and its bytes behind i cells. -/
def updB (K : Kd) (W : Nat) (old new : Nat → Ce) (p : Pe0) : Nat → Pe0 × List UInt8
  | 0 => (p, [])
  | i + 1 => if new i ≠ old i ∧ (new i).p ≠ 2 then (celP i (new i), (updB K W old new p i).2 ++ celB K W (updB K W old new p i).1 i (new i)) else updB K W old new p i
theorem runT_cat (p : Tm × St) (a b : List UInt8) : runT p (a ++ b) = runT (runT p a) b := by
  induction a generalizing p with
  | nil => rfl
  | cons x a ih => exact ih _
/-- The terminal is where the pen thinks. -/
structure PenAt (W : Nat) (t : Tm) (p : Pe0) : Prop where
  f : t.r.f = p.f
  g : t.r.g = p.g
  b : t.r.b = p.b
  ok : StyOk p.f p.g p.b
  at_ : ∀ j : Nat, p.a = j → j % W ≠ 0 → t.r.x = ((j % W : Nat) : Int) ∧ t.r.y = ((j / W : Nat) : Int)
section
variable {K : Kd} {t : Tm} {p : Pe0}
theorem dip_run (hK : Turns K) {f2 g2 b2 : Int} (ho : StyOk p.f p.g p.b) (h2 : StyOk f2 g2 b2) (hf : t.r.f = p.f) (hg : t.r.g = p.g) (hb : t.r.b = p.b) : ∃ t', runT (t, .out) (dipB (K p.f p.g p.b f2 g2 b2)) = (t', .out) ∧ t'.W = t.W ∧ t'.H = t.H ∧ t'.c = t.c ∧ t'.r.x = t.r.x ∧ t'.r.y = t.r.y ∧ t'.r.f = f2 ∧ t'.r.g = g2 ∧ t'.r.b = b2 := by
  obtain ⟨ns, hns⟩ : ∃ ns, K p.f p.g p.b f2 g2 b2 = ns := ⟨_, rfl⟩
  have hl := hK.few (f := p.f) (g := p.g) (b := p.b) (f2 := f2) (g2 := g2) (b2 := b2)
  have hs := hK.small ho h2
  have ht := hK.turn ho h2
  have hn := hK.no ho h2
  rw [hns] at hl hs ht hn ⊢
  unfold dipB
  by_cases e : ns = []
  · rw [if_pos e]
    obtain ⟨e1, e2, e3⟩ := hn e
    exact ⟨t, rfl, rfl, rfl, rfl, rfl, rfl, hf.trans e1, hg.trans e2, hb.trans e3⟩
  · rw [if_neg e]
    obtain ⟨t1, t2, t3⟩ := ht e
    obtain ⟨n, ms, rfl⟩ := List.exists_cons_of_ne_nil e
    rw [run_style t n ms hs (by simpa using hl)]
    exact ⟨_, rfl, rfl, rfl, rfl, rfl, rfl, by show aplF (n :: ms) t.r.f = f2; rw [hf]; exact t1, by show aplG (n :: ms) t.r.g = g2; rw [hg]; exact t2, by show aplB (n :: ms) t.r.b = b2; rw [hb]; exact t3⟩
theorem mov_run {W H Y X : Nat} (hW : t.W = W) (hH : t.H = H) (hW4 : W ≤ 400) (hH4 : H ≤ 400) (hY : Y < H) (hX : X < W) (hp : PenAt W t p) : ∃ t', runT (t, .out) (movB W p.a (Y * W + X)) = (t', .out) ∧ t'.W = t.W ∧ t'.H = t.H ∧ t'.c = t.c ∧ t'.r.x = X ∧ t'.r.y = Y ∧ t'.r.f = t.r.f ∧ t'.r.g = t.r.g ∧ t'.r.b = t.r.b := by
  have e1 : (Y * W + X) % W = X := by rw [Nat.add_comm, Nat.add_mul_mod_self_right, Nat.mod_eq_of_lt hX]
  have e2 : (Y * W + X) / W = Y := by rw [Nat.add_comm, Nat.add_mul_div_right _ _ (by omega), Nat.div_eq_of_lt hX, Nat.zero_add]
  unfold movB
  by_cases h : ((Y * W + X : Nat) : Int) ≠ p.a ∨ (Y * W + X) % W = 0
  · rw [if_pos h, e1, e2, run_move t Y X (by omega) (by omega) (by omega) (by omega)]
    exact ⟨_, rfl, rfl, rfl, rfl, rfl, rfl, rfl, rfl, rfl⟩
  · rw [if_neg h]
    have h1 : ((Y * W + X : Nat) : Int) = p.a := Classical.not_not.1 fun q => h (.inl q)
    have h2 : (Y * W + X) % W ≠ 0 := fun q => h (.inr q)
    have := hp.at_ _ h1.symm h2
    rw [e1, e2] at this
    exact ⟨t, rfl, rfl, rfl, rfl, this.1, this.2, rfl, rfl, rfl⟩
/-- What a cell's bytes do. -/
theorem cel_run (hK : Turns K) {W H Y X : Nat} (hW : t.W = W) (hH : t.H = H) (hW4 : 1 ≤ W ∧ W ≤ 400) (hH4 : 1 ≤ H ∧ H ≤ 400) (hY : Y < H) (hX : X < W) (hp : PenAt W t p) {new : Nat → Ce} (hn : Rws new W H) (h2 : (new (Y * W + X)).p ≠ 2) :
    ∃ t', runT (t, .out) (celB K W p (Y * W + X) (new (Y * W + X))) = (t', .out) ∧ t'.W = W ∧ t'.H = H ∧ t'.c = fill t.c X (X + ((new (Y * W + X)).p + 1).toNat) Y (Y + 1) (gly X ((new (Y * W + X)).p + 1) (new (Y * W + X)).t (new (Y * W + X)).f (new (Y * W + X)).g (new (Y * W + X)).b) ∧ PenAt W t' (celP (Y * W + X) (new (Y * W + X))) := by
  have hok := hn.ok hY hX
  obtain ⟨i, hi⟩ : ∃ i, Y * W + X = i := ⟨_, rfl⟩
  obtain ⟨t1, r1, w1, q1, c1, x1, y1, f1, g1, b1⟩ := mov_run hW hH hW4.2 hH4.2 hY hX hp
  have hs : StyOk (new i).f (new i).g (new i).b := by rw [← hi]; exact hok.sty
  obtain ⟨t2, r2, w2, q2, c2, x2, y2, f2, g2, b2⟩ := dip_run (t := t1) (p := p) hK hp.ok hs (f1.trans hp.f) (g1.trans hp.g) (b1.trans hp.b)
  have htxt := hok.text h2
  rw [hi] at htxt h2 r1 ⊢
  have hn12 : (new i).p + 1 = 1 ∨ (new i).p + 1 = 2 := by
    rcases hok.part with h | h | h <;> rw [hi] at h
    · exact .inl (by omega)
    · exact .inr (by omega)
    · exact absurd h h2
  obtain ⟨bb, ms, el, hwb, hwm, hlen, hgood⟩ := cell_text hn12 htxt
  have hXW : (X : Int) + ((new i).p + 1) ≤ (t2.W : Int) := by
    rw [w2, w1, hW]
    rcases hok.part with h | h | h <;> rw [hi] at h
    · rw [h]; omega
    · have := (hok.head (by rw [hi]; exact h)).1
      rw [h]; omega
    · exact absurd h h2
  have r3 : runT (t2, .out) (new i).t.data.toList = (celT t2 X Y (bb :: ms) ((new i).p + 1), .out) := by
    rw [el, run_runes _ _ hgood, cell_run (t := t2) (by rw [w2, w1, hW]; exact hW4) (by rw [q2, q1, hH]; exact hH4) (x2.trans x1) (y2.trans y1) (by rw [q2, q1, hH]; exact hY) hwb hn12 hXW ms hwm hlen]
  have et : (⟨(enc (bb :: ms)).toArray⟩ : ByteArray) = (new i).t := by
    apply ByteArray.ext
    rw [← el]
  refine ⟨celT t2 X Y (bb :: ms) ((new i).p + 1), ?_, ?_, ?_, ?_, ?_⟩
  · unfold celB
    rw [runT_cat, r1, runT_cat, r2, r3]
  · exact w2.trans (w1.trans hW)
  · exact q2.trans (q1.trans hH)
  · unfold celT
    simp only
    rw [et, f2, g2, b2, hs.1, hs.2.1, hs.2.2, c2, c1]
  · refine ⟨f2, g2, b2, hs, fun j hj h0 => ?_⟩
    have hj' : (i : Int) + ((new i).p + 1) = (j : Int) := hj
    obtain ⟨n, hnn⟩ : ∃ n : Nat, (new i).p + 1 = (n : Int) := ⟨((new i).p + 1).toNat, by omega⟩
    rw [hnn] at hj' hXW
    have hXn : X + n ≤ W := by rw [w2, w1, hW] at hXW; omega
    have ej : j = Y * W + (X + n) := by omega
    have hXn' : X + n < W := by
      rcases Nat.lt_or_ge (X + n) W with g | g
      · exact g
      · exfalso
        apply h0
        rw [ej, show X + n = W by omega, Nat.mul_add_mod_self_right] <;> simp
    show (X : Int) + ((new i).p + 1) = _ ∧ (Y : Int) = _
    rw [hnn, ej]
    have e1 : (Y * W + (X + n)) % W = X + n := by rw [Nat.add_comm, Nat.add_mul_mod_self_right, Nat.mod_eq_of_lt hXn']
    have e2 : (Y * W + (X + n)) / W = Y := by rw [Nat.add_comm, Nat.add_mul_div_right _ _ (by omega), Nat.div_eq_of_lt hXn', Nat.zero_add]
    rw [e1, e2]
    exact ⟨by omega, rfl⟩
/-- What the bytes up to a cell do. -/
theorem upd_run (hK : Turns K) {W H : Nat} (hW4 : 1 ≤ W ∧ W ≤ 400) (hH4 : 1 ≤ H ∧ H ≤ 400) {old new : Nat → Ce} (ho : Rws old W H) (hn : Rws new W H) {t : Tm} (hW : t.W = W) (hH : t.H = H) (hp : PenAt W t p) (hc : Shows t.c W H old) :
    ∀ i, i ≤ H * W → ∃ t', runT (t, .out) (updB K W old new p i).2 = (t', .out) ∧ t'.W = W ∧ t'.H = H ∧ Shows t'.c W H (Mid old new (kf new (H * W) i)) ∧ PenAt W t' (updB K W old new p i).1 := by
  intro i
  induction i with
  | zero => exact fun _ => ⟨t, rfl, hW, hH, fun y x hy hx => by rw [mid_start ho hn (by omega) (by omega)]; exact hc y x hy hx, hp⟩
  | succ i ih =>
    intro hi
    obtain ⟨t1, r1, w1, q1, s1, p1⟩ := ih (by omega)
    unfold updB
    by_cases h : new i ≠ old i ∧ (new i).p ≠ 2
    · rw [if_pos h]
      obtain ⟨Y, X, hY, hX, rfl⟩ := row_of (W := W) (H := H) (j := i) (by omega)
      obtain ⟨t2, r2, w2, q2, c2, p2⟩ := cel_run hK w1 q1 hW4 hH4 hY hX p1 hn h.2
      refine ⟨t2, by rw [runT_cat, r1, r2], w2, q2, ?_, p2⟩
      rw [c2]
      exact mid_put ho hn hY hX h.2 s1
    · rw [if_neg h]
      refine ⟨t1, r1, w1, q1, fun y x hy hx => ?_, p1⟩
      rw [s1 y x hy hx]
      by_cases h2 : (new i).p = 2
      · rw [kf_tail hn (by omega) h2]
      · exact (mid_same ho hn (by omega) h2 (Classical.not_not.1 fun q => h ⟨q, h2⟩) _ (row_lt hy hx)).symm
/-- All bytes. -/
def allB (K : Kd) (W n : Nat) (old new : Nat → Ce) (p : Pe0) : List UInt8 := (updB K W old new p n).2 ++ dipB (K (updB K W old new p n).1.f (updB K W old new p n).1.g (updB K W old new p n).1.b 0 0 0)
theorem all_run (hK : Turns K) {W H : Nat} (hW4 : 1 ≤ W ∧ W ≤ 400) (hH4 : 1 ≤ H ∧ H ≤ 400) {old new : Nat → Ce} (ho : Rws old W H) (hn : Rws new W H) {t : Tm} (hW : t.W = W) (hH : t.H = H) (hp : PenAt W t p) (hc : Shows t.c W H old) :
    ∃ t', runT (t, .out) (allB K W (H * W) old new p) = (t', .out) ∧ t'.W = W ∧ t'.H = H ∧ Shows t'.c W H new ∧ t'.r.f = 0 ∧ t'.r.g = 0 ∧ t'.r.b = 0 := by
  obtain ⟨t1, r1, w1, q1, s1, p1⟩ := upd_run hK hW4 hH4 ho hn hW hH hp hc (H * W) (Nat.le_refl _)
  obtain ⟨t2, r2, w2, q2, c2, x2, y2, f2, g2, b2⟩ := dip_run (t := t1) (p := (updB K W old new p (H * W)).1) (f2 := 0) (g2 := 0) (b2 := 0) hK p1.ok ⟨rfl, rfl, rfl⟩ p1.f p1.g p1.b
  refine ⟨t2, by unfold allB; rw [runT_cat, r1, r2], w2.trans w1, q2.trans q1, fun y x hy hx => ?_, f2, g2, b2⟩
  rw [c2, s1 y x hy hx]
  exact mid_end (row_lt hy hx)
end
end Go.Proofs.YtlfffpoeioecjaaDoor

namespace Go.Proofs.YtlfffpoeioecjaaDoor
set_option linter.unusedVariables false

theorem sq_seqB (ns : List Int) : sq ns = seqB ns 109 := rfl
theorem cds_dipB (ns : List Int) : cds ns = dipB ns := rfl
theorem kn_le {f : Int} (h : kn f = f) : 0 ≤ f ∧ f ≤ 8 := h ▸ kn_bd f
theorem bo_le {f : Int} (h : bo f = f) : 0 ≤ f ∧ f ≤ 1 := h ▸ bo_bd f
theorem turns_nms : Turns nms where
  no := fun {f g b f2 g2 b2} h1 h2 e => Classical.not_not.1 fun q => nms_ne q (bo_le h2.2.2) e
  few := fun {f g b f2 g2 b2} => Nat.le_trans (nms_len f g b f2 g2 b2) (by decide)
  small := fun {f g b f2 g2 b2} h1 h2 z hz => by
    have := nms_small (x := f) (y := g) (z := b) (z2 := b2) (kn_le h2.1) (kn_le h2.2.1) z hz
    omega
  turn := fun {f g b f2 g2 b2} h1 h2 e => by
    refine turned (kn_le h1.1) (kn_le h1.2.1) (bo_le h1.2.2) (kn_le h2.1) (kn_le h2.2.1) (bo_le h2.2.2) fun q => e ?_
    obtain ⟨rfl, rfl, rfl⟩ := q
    unfold nms
    rw [if_pos ⟨rfl, rfl, rfl⟩]

end Go.Proofs.YtlfffpoeioecjaaDoor

namespace Go.Proofs.YtlfffpoeioecjaaDoor
set_option linter.unusedVariables false

theorem dec_short (n : Nat) (h : n < 1000) : (Lib.decDigits n).length ≤ 3 := by
  rw [Lib.decDigits_length]
  by_cases h1 : n < 10
  · rw [Lib.nDigits_small h1]; omega
  · rw [Lib.nDigits_big h1]
    by_cases h2 : n / 10 < 10
    · rw [Lib.nDigits_small h2]; omega
    · rw [Lib.nDigits_big h2, Lib.nDigits_small (show n / 10 / 10 < 10 by omega)]; omega
/-- The bytes of a move, as they are put together. -/
def mvS (a b : List UInt8) : List UInt8 := 27 :: 91 :: (a ++ 59 :: (b ++ [72]))
theorem mvS_is (Y X : Nat) : seqB [(Y : Int) + 1, (X : Int) + 1] 72 = mvS (Lib.decDigits (Y + 1)) (Lib.decDigits (X + 1)) := by
  have e1 : ((Y : Int) + 1).toNat = Y + 1 := by omega
  have e2 : ((X : Int) + 1).toNat = X + 1 := by omega
  unfold seqB mvS
  simp [dgt, Lib.join, List.intercalate, e1, e2]
theorem mov_len {V i : Nat} (hV : 1 ≤ V ∧ V ≤ 400) (hi : i < 400 * V) (a : Int) : (movB V a i).length ≤ 10 := by
  have hX : i % V < V := Nat.mod_lt i (by omega)
  have hY : i / V < 400 := Nat.div_lt_of_lt_mul (by rw [Nat.mul_comm]; exact hi)
  unfold movB
  split
  · rw [mvS_is]
    have h1 := dec_short (i / V + 1) (by omega)
    have h2 := dec_short (i % V + 1) (by omega)
    unfold mvS
    simp
    omega
  · simp
theorem dip_len {f g b f2 g2 b2 : Int} (h2 : StyOk f2 g2 b2) : (dipB (nms f g b f2 g2 b2)).length ≤ 15 := by
  rw [← cds_dipB]
  unfold cds
  split
  · simp
  · rename_i hne
    exact (sq_len (nms_small (kn_le h2.1) (kn_le h2.2.1)) hne (nms_len ..)).2
/-- As many bytes as may be written for the cells up to i. -/
def wrS (old new : Nat → Ce) : Nat → Nat
  | 0 => 0
  | i + 1 => wrS old new i + if new i ≠ old i ∧ (new i).p ≠ 2 then 25 + (new i).t.size else 0
section
variable {old new : Nat → Ce} {V n : Nat} {p : Pe0}
theorem upd_sty (hp : StyOk p.f p.g p.b) (hn : ∀ i, i < n → Sty (new i)) : ∀ i, i ≤ n → StyOk (updB nms V old new p i).1.f (updB nms V old new p i).1.g (updB nms V old new p i).1.b
  | 0, _ => hp
  | i + 1, h => by
    unfold updB
    by_cases c : new i ≠ old i ∧ (new i).p ≠ 2
    · rw [if_pos c]; exact hn i (by omega)
    · rw [if_neg c]; exact upd_sty hp hn i (by omega)
theorem upd_at (hp : -1 ≤ p.a ∧ p.a ≤ n + 2) (hn : ∀ i, i < n → (new i).p = 0 ∨ (new i).p = 1 ∨ (new i).p = 2) : ∀ i, i ≤ n → -1 ≤ (updB nms V old new p i).1.a ∧ (updB nms V old new p i).1.a ≤ n + 2
  | 0, _ => hp
  | i + 1, h => by
    unfold updB
    by_cases c : new i ≠ old i ∧ (new i).p ≠ 2
    · rw [if_pos c]
      have := hn i (by omega)
      show -1 ≤ (i : Int) + ((new i).p + 1) ∧ (i : Int) + ((new i).p + 1) ≤ n + 2
      omega
    · rw [if_neg c]; exact upd_at hp hn i (by omega)
theorem upd_len (hV : 1 ≤ V ∧ V ≤ 400) (h4 : n ≤ 400 * V) (hn : ∀ i, i < n → Sty (new i)) : ∀ i, i ≤ n → (updB nms V old new p i).2.length ≤ wrS old new i
  | 0, _ => by simp [updB]
  | i + 1, h => by
    have ih := upd_len hV h4 hn i (by omega)
    unfold updB wrS
    by_cases c : new i ≠ old i ∧ (new i).p ≠ 2
    · rw [if_pos c, if_pos c]
      have h1 := mov_len hV (i := i) (by omega) (updB nms V old new p i).1.a
      have h2 := dip_len (f := (updB nms V old new p i).1.f) (g := (updB nms V old new p i).1.g) (b := (updB nms V old new p i).1.b) (f2 := (new i).f) (g2 := (new i).g) (b2 := (new i).b) (hn i (by omega))
      have h3 : (new i).t.data.toList.length = (new i).t.size := rfl
      show List.length (_ ++ _) ≤ _
      unfold celB
      rw [List.length_append, List.length_append, List.length_append, h3]
      omega
    · rw [if_neg c, if_neg c]; exact ih
end
theorem enc_len : ∀ R : List Int, (enc R).length ≤ 4 * R.length
  | [] => by simp [enc]
  | r :: R => by
    have h1 := encodeRune_le r
    have h2 := enc_len R
    have : enc (r :: R) = Lib.encodeRune r ++ enc R := by simp [enc]
    rw [this, List.length_append, List.length_cons]
    omega
theorem txt_len {e : Ce} {n : Int} (hn : n = 1 ∨ n = 2) (h : Txt e n) : e.t.size ≤ 20 := by
  obtain ⟨b, ms, h1, _, _, h4, _⟩ := cell_text hn h
  have h2 := enc_len (b :: ms)
  rw [← h1, List.length_cons] at h2
  have h3 : e.t.data.toList.length = e.t.size := rfl
  omega
theorem Rws.size {C : Nat → Ce} {W H : Nat} (h : Rws C W H) {j : Nat} (hj : j < H * W) : (C j).t.size ≤ 20 := by
  obtain ⟨y, x, hy, hx, rfl⟩ := row_of hj
  have o := h.ok hy hx
  by_cases c : (C (y * W + x)).p = 2
  · rw [(o.tail c).2.2]; decide
  · exact txt_len (by have := o.part; omega) (o.text c)
theorem Rws.sty {C : Nat → Ce} {W H : Nat} (h : Rws C W H) {j : Nat} (hj : j < H * W) : Sty (C j) := by
  obtain ⟨y, x, hy, hx, rfl⟩ := row_of hj
  exact (h.ok hy hx).sty
theorem wrS_le {old new : Nat → Ce} {n : Nat} (h : ∀ i, i < n → (new i).t.size ≤ 20) : ∀ i, i ≤ n → wrS old new i ≤ 45 * i
  | 0, _ => by simp [wrS]
  | i + 1, hi => by
    have ih := wrS_le (old := old) h i (by omega)
    have := h i (by omega)
    unfold wrS
    split <;> omega

end Go.Proofs.YtlfffpoeioecjaaDoor

namespace Go.Proofs.YtlfffpoeioecjaaDoor
open Go.RowKit Go.Sort
set_option linter.unusedVariables false

/-- So many steps more, and then it waits. -/
def Ends : Nat → Rm → (Rm → Prop) → Prop
  | 0, s, P => ∃ s', StepTo s s' false ∧ s'.q.size ≤ s.q.size ∧ P s'
  | n + 1, s, P => ∃ s', StepTo s s' true ∧ s'.q.size < s.q.size ∧ Ends n s' P
/-- The numbers of a sequence, as both read them. -/
structure Pn (l : Nat → Int) (a : Int) (p : List Int × Int) : Prop where
  a0 : 0 ≤ a ∧ a ≤ 16
  len : p.1.length = a.toNat
  at_ : ∀ j, j < a.toNat → p.1[j]? = some (l j)
  cur : a < 16 → p.2 = l a.toNat
  up : ∀ j, a.toNat < j → l j = 0
def Hq (t : Tm) : St → List UInt8 → Prop
  | .out, q => q = []
  | .esc, q => q = [27] ∧ t.r.lw = 0
  | .amid h, q => q = h.data.toList ∧ q ≠ [] ∧ ¬ full q
  | .wth l a, q => ∃ m, q = 27 :: 91 :: m ∧ t.r.lw = 0 ∧ (∀ b ∈ m, 48 ≤ b.toNat ∧ b.toNat ≤ 59) ∧ Pn l a (parS ([], 0) m)
/-- The document's terminal stands as the program's. -/
def Docd (t : Tm) (st : St) (wv : Nat → Bool) (s : Rm) : Prop := ∃ q la mks, s = mkR t q la mks wv ∧ Lst t la mks ∧ Hq t st q.data.toList
def wvA (t : Tm) (l : List UInt8) (wv : Nat → Bool) : Nat → Bool := if full l then wvP t ((runes l)[0]?.getD 0) wv else wv
def wvO (t : Tm) (b : UInt8) (wv : Nat → Bool) : Nat → Bool := if b.toNat = 27 then wv else if b.toNat < 32 ∨ b.toNat = 127 then wv else wvA t [b] wv
def wvPs (t : Tm) : List Int → (Nat → Bool) → Nat → Bool
  | [], wv => wv
  | r :: R, wv => wvPs (prT t r) R (wvP t r wv)

theorem seq_single {b : UInt8} (h : 0x80 ≤ b.toNat) : seq [b] = 0 := by
  rcases seq_vd (l := [b]) h with ⟨v, _⟩ | ⟨_, e⟩
  · exact absurd v.2.1.1 (by simp)
  · exact e
theorem wh_W {t : Tm} {r : Int} : (prT t r).W = t.W ∧ (prT t r).H = t.H := ⟨congrArg Prod.fst (wh_pr t r), congrArg Prod.snd (wh_pr t r)⟩
def emp : ByteArray := ⟨#[]⟩

section
variable {t : Tm} {la mks : Int} {wv : Nat → Bool}
/-- A rune is printed, and nothing is left. -/
theorem ends_print (hW : 1 ≤ t.W ∧ t.W ≤ 400) (hH : 1 ≤ t.H ∧ t.H ≤ 400) (ht : Ti t) (hl : Lst t la mks) {q : ByteArray} (hq : 0 < q.size) {r : Int} (h : StepTo (mkR t q la mks wv) (prR { mkR t q la mks wv with q := emp } r) true) : Ends 1 (mkR t q la mks wv) (Docd (prT t r) .out (wvP t r wv)) := by
  obtain ⟨la', mks', e, hl'⟩ := pr_sim hW hH ht hl emp wv r
  have e' : prR { mkR t q la mks wv with q := emp } r = mkR (prT t r) emp la' mks' (wvP t r wv) := e
  rw [e'] at h
  exact ⟨_, h, hq, _, st_nil rfl, Nat.le_refl _, emp, la', mks', rfl, hl', rfl⟩
theorem feed_out (hW : 1 ≤ t.W ∧ t.W ≤ 400) (hH : 1 ≤ t.H ∧ t.H ≤ 400) (ht : Ti t) (hl : Lst t la mks) (b : UInt8) {q : ByteArray} (hq : q.data.toList = [b]) : ∃ n, Ends n (mkR t q la mks wv) (Docd (outT t b).1 (outT t b).2 (wvO t b wv)) := by
  have hz := size_of hq
  simp only [List.length_cons, List.length_nil] at hz
  by_cases h27 : b.toNat = 27
  · have e1 : outT t b = ({ t with r := clr t.r }, .esc) := by unfold outT; rw [if_pos h27]
    have e2 : wvO t b wv = wv := by unfold wvO; rw [if_pos h27]
    rw [e1, e2]
    have hb : b = 27 := by
      apply UInt8.toNat_inj.1
      rw [h27]; rfl
    rw [hb] at hq
    exact ⟨0, _, st_esc (s := mkR t q la mks wv) hq, Nat.le_refl _, q, -1, mks, rfl, .inl ⟨rfl, rfl⟩, hq, rfl⟩
  · by_cases hc : b.toNat < 32 ∨ b.toNat = 127
    · have e1 : outT t b = ({ t with r := clr t.r }, .out) := by unfold outT; rw [if_neg h27, if_pos hc]
      have e2 : wvO t b wv = wv := by unfold wvO; rw [if_neg h27, if_pos hc]
      rw [e1, e2]
      refine ⟨1, _, st_ctl (s := mkR t q la mks wv) hq h27 hc, ?_, _, st_nil rfl, Nat.le_refl _, emp, -1, mks, rfl, .inl ⟨rfl, rfl⟩, rfl⟩
      show 0 < q.size
      omega
    · have e1 : outT t b = amT t ⟨#[b]⟩ := by unfold outT; rw [if_neg h27, if_neg hc]
      have e2 : wvO t b wv = wvA t [b] wv := by unfold wvO; rw [if_neg h27, if_neg hc]
      rw [e1, e2]
      have eb : byt [b] 0 = b.toNat := rfl
      unfold amT wvA
      show ∃ n, Ends n _ (Docd (if full [b] then (prT t ((runes [b])[0]?.getD 0), St.out) else (t, .amid ⟨#[b]⟩)).1 (if full [b] then (prT t ((runes [b])[0]?.getD 0), St.out) else (t, .amid ⟨#[b]⟩)).2 (if full [b] then wvP t ((runes [b])[0]?.getD 0) wv else wv))
      by_cases h80 : b.toNat < 0x80
      · have hf : full [b] := ⟨by simp, .inl (by rw [eb]; omega)⟩
        have hs : seq [b] = ([b] : List UInt8).length := by unfold seq; rw [if_pos (by rw [eb]; exact h80)]; rfl
        obtain ⟨r, hr⟩ := runes_sole (by simp) hs
        rw [if_pos hf, if_pos hf, hr]
        exact ⟨1, ends_print hW hH ht hl (by omega) (st_seq (s := mkR t q la mks wv) hq (by simp) (by simp) (by rw [eb]; exact h27) (by rw [eb]; exact hc) hs (ri_of ht hl) hr)⟩
      · have hs := seq_single (b := b) (by omega)
        by_cases hf : full [b]
        · have hr : runes [b] = [65533] := by rw [runes_bad (by simp) hs]; rfl
          rw [if_pos hf, if_pos hf, hr]
          exact ⟨1, ends_print hW hH ht hl (by omega) (st_bad (s := mkR t q la mks wv) hq (by simp) (by omega) hs hf (ri_of ht hl))⟩
        · rw [if_neg hf, if_neg hf]
          exact ⟨0, _, st_wait (s := mkR t q la mks wv) hq (by simp) (by simp) (by rw [eb]; omega) hs hf (ri_of ht hl), Nat.le_refl _, q, la, mks, rfl, hl, hq, by rw [hq]; simp, by rw [hq]; exact hf⟩
end
theorem feed_tail : ∀ (u : List UInt8) (hu : ∀ c ∈ u, 0x80 ≤ c.toNat ∧ c.toNat ≤ 0xBF) (hul : u.length ≤ 4) (t : Tm) (hW : 1 ≤ t.W ∧ t.W ≤ 400) (hH : 1 ≤ t.H ∧ t.H ≤ 400) (ht : Ti t) (la mks : Int) (hl : Lst t la mks) (wv : Nat → Bool) (b : UInt8) (q : ByteArray) (hq : q.data.toList = u ++ [b]),
    ∃ n, Ends n (mkR t q la mks wv) (Docd (outT (prsT t (List.replicate u.length 65533)) b).1 (outT (prsT t (List.replicate u.length 65533)) b).2 (wvO (prsT t (List.replicate u.length 65533)) b (wvPs t (List.replicate u.length 65533) wv)))
  | [], hu, hul, t, hW, hH, ht, la, mks, hl, wv, b, q, hq => feed_out hW hH ht hl b hq
  | c :: u, hu, hul, t, hW, hH, ht, la, mks, hl, wv, b, q, hq => by
    have hc := hu c (List.mem_cons_self ..)
    have ec : byt (c :: (u ++ [b])) 0 = c.toNat := rfl
    have hs : seq (c :: (u ++ [b])) = 0 := seq_low (by rw [ec]; omega) (by rw [ec]; omega)
    have hf : full (c :: (u ++ [b])) := ⟨by simp, .inl (by rw [ec]; omega)⟩
    obtain ⟨la', mks', e, hl'⟩ := pr_sim hW hH ht hl ⟨(u ++ [b]).toArray⟩ wv 65533
    have h1 : StepTo (mkR t q la mks wv) (mkR (prT t 65533) ⟨(u ++ [b]).toArray⟩ la' mks' (wvP t 65533 wv)) true := by
      rw [← e]
      exact st_bad (s := mkR t q la mks wv) (u := u ++ [b]) hq (by rw [List.length_append]; simp only [List.length_cons, List.length_nil] at hul ⊢; omega) hc.1 hs hf (ri_of ht hl)
    have hwh := wh_W (t := t) (r := 65533)
    obtain ⟨n, hn⟩ := feed_tail u (fun d hd => hu d (List.mem_cons_of_mem _ hd)) (by simp only [List.length_cons] at hul; omega) (prT t 65533) (by rw [hwh.1]; exact hW) (by rw [hwh.2]; exact hH) (ht.pr 65533) la' mks' hl' (wvP t 65533 wv) b ⟨(u ++ [b]).toArray⟩ (by simp)
    refine ⟨n + 1, _, h1, ?_, hn⟩
    have hz := size_of hq
    simp only [List.length_cons, List.length_append, List.length_nil] at hz
    show (u ++ [b]).toArray.size < q.size
    simp
    omega
theorem feed_amid {t : Tm} (hW : 1 ≤ t.W ∧ t.W ≤ 400) (hH : 1 ≤ t.H ∧ t.H ≤ 400) (ht : Ti t) {la mks : Int} (hl : Lst t la mks) {wv : Nat → Bool} {h : ByteArray} (hh : h.data.toList ≠ []) (hf : ¬ full h.data.toList) (b : UInt8) {q : ByteArray} (hq : q.data.toList = h.data.toList ++ [b]) :
    ∃ n, Ends n (mkR t q la mks wv) (Docd (amA t h b).1 (amA t h b).2 (if full (h.data.toList ++ [b]) ∧ (runes (h.data.toList ++ [b])).length ≠ 1 then wvO (prsT t (runes h.data.toList)) b (wvPs t (runes h.data.toList) wv) else wvA t (h.data.toList ++ [b]) wv)) := by
  have el : (h ++ (⟨#[b]⟩ : ByteArray)).data.toList = h.data.toList ++ [b] := by simp
  obtain ⟨q0, q1, q2, q3⟩ := not_full hh hf
  have hN := n_bd (byt h.data.toList 0)
  obtain ⟨l, hl0⟩ : ∃ l, h.data.toList = l := ⟨_, rfl⟩
  rw [hl0] at hh hf hq q0 q1 q2 q3 hN el ⊢
  have hp : 0 < l.length := List.length_pos_iff.2 hh
  have e0 : byt (l ++ [b]) 0 = byt l 0 := by unfold byt; rw [List.getD_eq_getElem?_getD, List.getElem?_append_left hp, List.getD_eq_getElem?_getD]
  have hz := size_of hq
  rw [List.length_append] at hz
  simp only [List.length_cons, List.length_nil] at hz
  have hll : (l ++ [b]).length ≤ 5 := by rw [List.length_append]; simp; omega
  unfold amA
  rw [el]
  by_cases hs : seq (l ++ [b]) = 0
  · by_cases hfl : full (l ++ [b])
    · have hr1 : (runes (l ++ [b])).length ≠ 1 := by
        rw [runes_bad (by simp) hs]
        obtain ⟨a, u, rfl⟩ := List.exists_cons_of_ne_nil hh
        show (65533 :: runes (u ++ [b])).length ≠ 1
        have := runes_step (l := u ++ [b]) (by simp)
        rw [this]
        simp
      rw [if_pos ⟨hfl, hr1⟩, if_pos ⟨hfl, hr1⟩, hl0, runes_amid hh hf]
      obtain ⟨a, u, rfl⟩ := List.exists_cons_of_ne_nil hh
      have ea : byt (a :: u) 0 = a.toNat := rfl
      rw [ea] at q0
      obtain ⟨la', mks', e, hl'⟩ := pr_sim hW hH ht hl ⟨(u ++ [b]).toArray⟩ wv 65533
      have h1 : StepTo (mkR t q la mks wv) (mkR (prT t 65533) ⟨(u ++ [b]).toArray⟩ la' mks' (wvP t 65533 wv)) true := by
        rw [← e]
        exact st_bad (s := mkR t q la mks wv) (u := u ++ [b]) hq (by rw [List.length_append]; simp only [List.length_append, List.length_cons, List.length_nil] at hll ⊢; omega) (by omega) hs hfl (ri_of ht hl)
      have hwh := wh_W (t := t) (r := 65533)
      obtain ⟨n, hn⟩ := feed_tail u (tail_cont hf) (by simp only [List.length_append, List.length_cons, List.length_nil] at hll; omega) (prT t 65533) (by rw [hwh.1]; exact hW) (by rw [hwh.2]; exact hH) (ht.pr 65533) la' mks' hl' (wvP t 65533 wv) b ⟨(u ++ [b]).toArray⟩ (by simp)
      refine ⟨n + 1, _, h1, ?_, hn⟩
      show (u ++ [b]).toArray.size < q.size
      simp only [List.length_cons] at hz
      simp
      omega
    · rw [if_neg (fun z => hfl z.1), if_neg (fun z => hfl z.1)]
      unfold amT wvA
      rw [el, if_neg hfl, if_neg hfl]
      exact ⟨0, _, st_wait (s := mkR t q la mks wv) hq (by simp) (by omega) (by rw [e0]; omega) hs hfl (ri_of ht hl), Nat.le_refl _, q, la, mks, rfl, hl, by rw [hq, el], by rw [hq]; simp, by rw [hq]; exact hfl⟩
  · have hs1 := more_one hh hf b hs
    have hfl := full_seq (by simp) hs1
    obtain ⟨r, hr⟩ := runes_sole (by simp) hs1
    have hr1 : ¬ (full (l ++ [b]) ∧ (runes (l ++ [b])).length ≠ 1) := fun z => z.2 (by rw [hr]; rfl)
    rw [if_neg hr1, if_neg hr1]
    unfold amT wvA
    rw [el, if_pos hfl, if_pos hfl, hr]
    exact ⟨1, ends_print hW hH ht hl (by omega) (st_seq (s := mkR t q la mks wv) hq (by simp) (by omega) (by rw [e0]; omega) (by rw [e0]; omega) hs1 (ri_of ht hl) hr)⟩

end Go.Proofs.YtlfffpoeioecjaaDoor
