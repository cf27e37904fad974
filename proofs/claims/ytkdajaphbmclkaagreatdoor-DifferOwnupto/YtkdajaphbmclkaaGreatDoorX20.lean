/-
  The bytes from one screen to the next, and what a terminal makes of them: plain mathematics.
-/
import Derived.Test.YtkdajaphbmclkaaGreatDoorX10
import Derived.Test.YtkdajaphbmclkaaGreatDoorX18
import Derived.Test.YtkdajaphbmclkaaGreatDoorX19
namespace Go.Proofs.YtkdajaphbmclkaaGreatDoor
set_option linter.unusedVariables false

/-- What a pen knows: the cell at which the cursor stands (-1: it doesn't), and the style. -/
structure Pe0 where
  a : Int
  f : Int
  g : Int
  b : Int
/-- Numbers from one style to another one. -/
abbrev Kd := Int → Int → Int → Int → Int → Int → List Int
def StyOk (f g b : Int) : Prop := kn f = f ∧ kn g = g ∧ bo b = b
/-- They turn the one into the other. -/
structure Turns (K : Kd) : Prop where
  no : ∀ {f g b f2 g2 b2}, StyOk f g b → StyOk f2 g2 b2 → K f g b f2 g2 b2 = [] → f = f2 ∧ g = g2 ∧ b = b2
  few : ∀ {f g b f2 g2 b2}, (K f g b f2 g2 b2).length ≤ 16
  small : ∀ {f g b f2 g2 b2}, StyOk f g b → StyOk f2 g2 b2 → ∀ z ∈ K f g b f2 g2 b2, 0 ≤ z ∧ z ≤ 999999
  turn : ∀ {f g b f2 g2 b2}, StyOk f g b → StyOk f2 g2 b2 → K f g b f2 g2 b2 ≠ [] → aplF (K f g b f2 g2 b2) f = f2 ∧ aplG (K f g b f2 g2 b2) g = g2 ∧ aplB (K f g b f2 g2 b2) b = b2
def dipB (ns : List Int) : List UInt8 := if ns = [] then [] else seqB ns 109
def movB (W : Nat) (a : Int) (i : Nat) : List UInt8 := if (i : Int) ≠ a ∨ i % W = 0 then seqB [((i / W : Nat) : Int) + 1, ((i % W : Nat) : Int) + 1] 72 else []
/-- A cell's bytes. -/
def celB (K : Kd) (W : Nat) (p : Pe0) (i : Nat) (e : Ce) : List UInt8 := movB W p.a i ++ (dipB (K p.f p.g p.b e.f e.g e.b) ++ e.t.data.toList)
def celP (i : Nat) (e : Ce) : Pe0 := ⟨(i : Int) + (e.p + 1), e.f, e.g, e.b⟩
instance ceDec : DecidableEq Ce := fun a b => if h : a.t = b.t ∧ a.f = b.f ∧ a.g = b.g ∧ a.b = b.b ∧ a.p = b.p then .isTrue (by obtain ⟨h1, h2, h3, h4, h5⟩ := h; cases a; cases b; simp only at h1 h2 h3 h4 h5; subst h1; subst h2; subst h3; subst h4; subst h5; rfl) else .isFalse (fun e => by subst e; exact h ⟨rfl, rfl, rfl, rfl, rfl⟩)
/-- The pen and its bytes behind i cells. -/
def updB (K : Kd) (W : Nat) (old new : Nat → Ce) (p : Pe0) : Nat → Pe0 × List UInt8
  | 0 => (p, [])
  | i + 1 => if new i ≠ old i ∧ (new i).p ≠ 2 then (celP i (new i), (updB K W old new p i).2 ++ celB K W (updB K W old new p i).1 i (new i)) else updB K W old new p i
theorem runT_cat (p : Tm × St) (a b : List UInt8) : runT p (a ++ b) = runT (runT p a) b := by
  induction a generalizing p with
  | nil => rfl
  | cons x a ih => exact ih _
/-- The terminal is where the pen thinks. -/
structure PenAt (W : Nat) (t : Tm) (p : Pe0) : Prop where
  f : t.r.f = p.f
  g : t.r.g = p.g
  b : t.r.b = p.b
  ok : StyOk p.f p.g p.b
  at_ : ∀ j : Nat, p.a = j → j % W ≠ 0 → t.r.x = ((j % W : Nat) : Int) ∧ t.r.y = ((j / W : Nat) : Int)
section
variable {K : Kd} {t : Tm} {p : Pe0}
theorem dip_run (hK : Turns K) {f2 g2 b2 : Int} (ho : StyOk p.f p.g p.b) (h2 : StyOk f2 g2 b2) (hf : t.r.f = p.f) (hg : t.r.g = p.g) (hb : t.r.b = p.b) : ∃ t', runT (t, .out) (dipB (K p.f p.g p.b f2 g2 b2)) = (t', .out) ∧ t'.W = t.W ∧ t'.H = t.H ∧ t'.c = t.c ∧ t'.r.x = t.r.x ∧ t'.r.y = t.r.y ∧ t'.r.f = f2 ∧ t'.r.g = g2 ∧ t'.r.b = b2 := by
  obtain ⟨ns, hns⟩ : ∃ ns, K p.f p.g p.b f2 g2 b2 = ns := ⟨_, rfl⟩
  have hl := hK.few (f := p.f) (g := p.g) (b := p.b) (f2 := f2) (g2 := g2) (b2 := b2)
  have hs := hK.small ho h2
  have ht := hK.turn ho h2
  have hn := hK.no ho h2
  rw [hns] at hl hs ht hn ⊢
  unfold dipB
  by_cases e : ns = []
  · rw [if_pos e]
    obtain ⟨e1, e2, e3⟩ := hn e
    exact ⟨t, rfl, rfl, rfl, rfl, rfl, rfl, hf.trans e1, hg.trans e2, hb.trans e3⟩
  · rw [if_neg e]
    obtain ⟨t1, t2, t3⟩ := ht e
    obtain ⟨n, ms, rfl⟩ := List.exists_cons_of_ne_nil e
    rw [run_style t n ms hs (by simpa using hl)]
    exact ⟨_, rfl, rfl, rfl, rfl, rfl, rfl, by show aplF (n :: ms) t.r.f = f2; rw [hf]; exact t1, by show aplG (n :: ms) t.r.g = g2; rw [hg]; exact t2, by show aplB (n :: ms) t.r.b = b2; rw [hb]; exact t3⟩
theorem mov_run {W H Y X : Nat} (hW : t.W = W) (hH : t.H = H) (hW4 : W ≤ 400) (hH4 : H ≤ 400) (hY : Y < H) (hX : X < W) (hp : PenAt W t p) : ∃ t', runT (t, .out) (movB W p.a (Y * W + X)) = (t', .out) ∧ t'.W = t.W ∧ t'.H = t.H ∧ t'.c = t.c ∧ t'.r.x = X ∧ t'.r.y = Y ∧ t'.r.f = t.r.f ∧ t'.r.g = t.r.g ∧ t'.r.b = t.r.b := by
  have e1 : (Y * W + X) % W = X := by rw [Nat.add_comm, Nat.add_mul_mod_self_right, Nat.mod_eq_of_lt hX]
  have e2 : (Y * W + X) / W = Y := by rw [Nat.add_comm, Nat.add_mul_div_right _ _ (by omega), Nat.div_eq_of_lt hX, Nat.zero_add]
  unfold movB
  by_cases h : ((Y * W + X : Nat) : Int) ≠ p.a ∨ (Y * W + X) % W = 0
  · rw [if_pos h, e1, e2, run_move t Y X (by omega) (by omega) (by omega) (by omega)]
    exact ⟨_, rfl, rfl, rfl, rfl, rfl, rfl, rfl, rfl, rfl⟩
  · rw [if_neg h]
    have h1 : ((Y * W + X : Nat) : Int) = p.a := Classical.not_not.1 fun q => h (.inl q)
    have h2 : (Y * W + X) % W ≠ 0 := fun q => h (.inr q)
    have := hp.at_ _ h1.symm h2
    rw [e1, e2] at this
    exact ⟨t, rfl, rfl, rfl, rfl, this.1, this.2, rfl, rfl, rfl⟩
/-- What a cell's bytes do. -/
theorem cel_run (hK : Turns K) {W H Y X : Nat} (hW : t.W = W) (hH : t.H = H) (hW4 : 1 ≤ W ∧ W ≤ 400) (hH4 : 1 ≤ H ∧ H ≤ 400) (hY : Y < H) (hX : X < W) (hp : PenAt W t p) {new : Nat → Ce} (hn : Rws new W H) (h2 : (new (Y * W + X)).p ≠ 2) :
    ∃ t', runT (t, .out) (celB K W p (Y * W + X) (new (Y * W + X))) = (t', .out) ∧ t'.W = W ∧ t'.H = H ∧ t'.c = fill t.c X (X + ((new (Y * W + X)).p + 1).toNat) Y (Y + 1) (gly X ((new (Y * W + X)).p + 1) (new (Y * W + X)).t (new (Y * W + X)).f (new (Y * W + X)).g (new (Y * W + X)).b) ∧ PenAt W t' (celP (Y * W + X) (new (Y * W + X))) := by
  have hok := hn.ok hY hX
  obtain ⟨i, hi⟩ : ∃ i, Y * W + X = i := ⟨_, rfl⟩
  obtain ⟨t1, r1, w1, q1, c1, x1, y1, f1, g1, b1⟩ := mov_run hW hH hW4.2 hH4.2 hY hX hp
  have hs : StyOk (new i).f (new i).g (new i).b := by rw [← hi]; exact hok.sty
  obtain ⟨t2, r2, w2, q2, c2, x2, y2, f2, g2, b2⟩ := dip_run (t := t1) (p := p) hK hp.ok hs (f1.trans hp.f) (g1.trans hp.g) (b1.trans hp.b)
  have htxt := hok.text h2
  rw [hi] at htxt h2 r1 ⊢
  have hn12 : (new i).p + 1 = 1 ∨ (new i).p + 1 = 2 := by
    rcases hok.part with h | h | h <;> rw [hi] at h
    · exact .inl (by omega)
    · exact .inr (by omega)
    · exact absurd h h2
  obtain ⟨bb, ms, el, hwb, hwm, hlen, hgood⟩ := cell_text hn12 htxt
  have hXW : (X : Int) + ((new i).p + 1) ≤ (t2.W : Int) := by
    rw [w2, w1, hW]
    rcases hok.part with h | h | h <;> rw [hi] at h
    · rw [h]; omega
    · have := (hok.head (by rw [hi]; exact h)).1
      rw [h]; omega
    · exact absurd h h2
  have r3 : runT (t2, .out) (new i).t.data.toList = (celT t2 X Y (bb :: ms) ((new i).p + 1), .out) := by
    rw [el, run_runes _ _ hgood, cell_run (t := t2) (by rw [w2, w1, hW]; exact hW4) (by rw [q2, q1, hH]; exact hH4) (x2.trans x1) (y2.trans y1) (by rw [q2, q1, hH]; exact hY) hwb hn12 hXW ms hwm hlen]
  have et : (⟨(enc (bb :: ms)).toArray⟩ : ByteArray) = (new i).t := by
    apply ByteArray.ext
    rw [← el]
  refine ⟨celT t2 X Y (bb :: ms) ((new i).p + 1), ?_, ?_, ?_, ?_, ?_⟩
  · unfold celB
    rw [runT_cat, r1, runT_cat, r2, r3]
  · exact w2.trans (w1.trans hW)
  · exact q2.trans (q1.trans hH)
  · unfold celT
    simp only
    rw [et, f2, g2, b2, hs.1, hs.2.1, hs.2.2, c2, c1]
  · refine ⟨f2, g2, b2, hs, fun j hj h0 => ?_⟩
    have hj' : (i : Int) + ((new i).p + 1) = (j : Int) := hj
    obtain ⟨n, hnn⟩ : ∃ n : Nat, (new i).p + 1 = (n : Int) := ⟨((new i).p + 1).toNat, by omega⟩
    rw [hnn] at hj' hXW
    have hXn : X + n ≤ W := by rw [w2, w1, hW] at hXW; omega
    have ej : j = Y * W + (X + n) := by omega
    have hXn' : X + n < W := by
      rcases Nat.lt_or_ge (X + n) W with g | g
      · exact g
      · exfalso
        apply h0
        rw [ej, show X + n = W by omega, Nat.mul_add_mod_self_right] <;> simp
    show (X : Int) + ((new i).p + 1) = _ ∧ (Y : Int) = _
    rw [hnn, ej]
    have e1 : (Y * W + (X + n)) % W = X + n := by rw [Nat.add_comm, Nat.add_mul_mod_self_right, Nat.mod_eq_of_lt hXn']
    have e2 : (Y * W + (X + n)) / W = Y := by rw [Nat.add_comm, Nat.add_mul_div_right _ _ (by omega), Nat.div_eq_of_lt hXn', Nat.zero_add]
    rw [e1, e2]
    exact ⟨by omega, rfl⟩
/-- What the bytes up to a cell do. -/
theorem upd_run (hK : Turns K) {W H : Nat} (hW4 : 1 ≤ W ∧ W ≤ 400) (hH4 : 1 ≤ H ∧ H ≤ 400) {old new : Nat → Ce} (ho : Rws old W H) (hn : Rws new W H) {t : Tm} (hW : t.W = W) (hH : t.H = H) (hp : PenAt W t p) (hc : Shows t.c W H old) :
    ∀ i, i ≤ H * W → ∃ t', runT (t, .out) (updB K W old new p i).2 = (t', .out) ∧ t'.W = W ∧ t'.H = H ∧ Shows t'.c W H (Mid old new (kf new (H * W) i)) ∧ PenAt W t' (updB K W old new p i).1 := by
  intro i
  induction i with
  | zero => exact fun _ => ⟨t, rfl, hW, hH, fun y x hy hx => by rw [mid_start ho hn (by omega) (by omega)]; exact hc y x hy hx, hp⟩
  | succ i ih =>
    intro hi
    obtain ⟨t1, r1, w1, q1, s1, p1⟩ := ih (by omega)
    unfold updB
    by_cases h : new i ≠ old i ∧ (new i).p ≠ 2
    · rw [if_pos h]
      obtain ⟨Y, X, hY, hX, rfl⟩ := row_of (W := W) (H := H) (j := i) (by omega)
      obtain ⟨t2, r2, w2, q2, c2, p2⟩ := cel_run hK w1 q1 hW4 hH4 hY hX p1 hn h.2
      refine ⟨t2, by rw [runT_cat, r1, r2], w2, q2, ?_, p2⟩
      rw [c2]
      exact mid_put ho hn hY hX h.2 s1
    · rw [if_neg h]
      refine ⟨t1, r1, w1, q1, fun y x hy hx => ?_, p1⟩
      rw [s1 y x hy hx]
      by_cases h2 : (new i).p = 2
      · rw [kf_tail hn (by omega) h2]
      · exact (mid_same ho hn (by omega) h2 (Classical.not_not.1 fun q => h ⟨q, h2⟩) _ (row_lt hy hx)).symm
/-- All bytes. -/
def allB (K : Kd) (W n : Nat) (old new : Nat → Ce) (p : Pe0) : List UInt8 := (updB K W old new p n).2 ++ dipB (K (updB K W old new p n).1.f (updB K W old new p n).1.g (updB K W old new p n).1.b 0 0 0)
theorem all_run (hK : Turns K) {W H : Nat} (hW4 : 1 ≤ W ∧ W ≤ 400) (hH4 : 1 ≤ H ∧ H ≤ 400) {old new : Nat → Ce} (ho : Rws old W H) (hn : Rws new W H) {t : Tm} (hW : t.W = W) (hH : t.H = H) (hp : PenAt W t p) (hc : Shows t.c W H old) :
    ∃ t', runT (t, .out) (allB K W (H * W) old new p) = (t', .out) ∧ t'.W = W ∧ t'.H = H ∧ Shows t'.c W H new ∧ t'.r.f = 0 ∧ t'.r.g = 0 ∧ t'.r.b = 0 := by
  obtain ⟨t1, r1, w1, q1, s1, p1⟩ := upd_run hK hW4 hH4 ho hn hW hH hp hc (H * W) (Nat.le_refl _)
  obtain ⟨t2, r2, w2, q2, c2, x2, y2, f2, g2, b2⟩ := dip_run (t := t1) (p := (updB K W old new p (H * W)).1) (f2 := 0) (g2 := 0) (b2 := 0) hK p1.ok ⟨rfl, rfl, rfl⟩ p1.f p1.g p1.b
  refine ⟨t2, by unfold allB; rw [runT_cat, r1, r2], w2.trans w1, q2.trans q1, fun y x hy hx => ?_, f2, g2, b2⟩
  rw [c2, s1 y x hy hx]
  exact mid_end (row_lt hy hx)
end
end Go.Proofs.YtkdajaphbmclkaaGreatDoor
