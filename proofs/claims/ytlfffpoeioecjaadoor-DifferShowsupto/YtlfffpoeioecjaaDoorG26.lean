/-
  The bytes from one screen to the next, and what a terminal makes of them: plain mathematics.
-/
import Derived.Test.YtlfffpoeioecjaaDoorG15
import Derived.Test.YtlfffpoeioecjaaDoorG25
import Derived.Test.YtlfffpoeioecjaaDoorG11
import Derived.Test.YtlfffpoeioecjaaDoorG13
namespace Go.Proofs.YtlfffpoeioecjaaDoor
set_option linter.unusedVariables false

/-- What a pen knows: the cell at which the cursor stands (-1: it doesn't), and the style. -/
structure Pe0 where
  a : Int
  f : Int
  g : Int
  b : Int
/-- Numbers from one style to another one. -/
abbrev Kd := Int → Int → Int → Int → Int → Int → List Int
def StyOk (f g b : Int) : Prop := kn f = f ∧ kn g = g ∧ bo b = b
/-- They turn the one into the other. -/
structure Turns (K : Kd) : Prop where
  no : ∀ {f g b f2 g2 b2}, StyOk f g b → StyOk f2 g2 b2 → K f g b f2 g2 b2 = [] → f = f2 ∧ g = g2 ∧ b = b2
  few : ∀ {f g b f2 g2 b2}, (K f g b f2 g2 b2).length ≤ 16
  small : ∀ {f g b f2 g2 b2}, StyOk f g b → StyOk f2 g2 b2 → ∀ z ∈ K f g b f2 g2 b2, 0 ≤ z ∧ z ≤ 999999
  turn : ∀ {f g b f2 g2 b2}, StyOk f g b → StyOk f2 g2 b2 → K f g b f2 g2 b2 ≠ [] → aplF (K f g b f2 g2 b2) f = f2 ∧ aplG (K f g b f2 g2 b2) g = g2 ∧ aplB (K f g b f2 g2 b2) b = b2
def dipB (ns : List Int) : List UInt8 := if ns = [] then [] else seqB ns 109
def movB (W : Nat) (a : Int) (i : Nat) : List UInt8 := if (i : Int) ≠ a ∨ i % W = 0 then seqB [((i / W : Nat) : Int) + 1, ((i % W : Nat) : Int) + 1] 72 else []
/-- A cell's bytes. -/
def celB (K : Kd) (W : Nat) (p : Pe0) (i : Nat) (e : Ce) : List UInt8 := movB W p.a i ++ (dipB (K p.f p.g p.b e.f e.g e.b) ++ e.t.data.toList)
def celP (i : Nat) (e : Ce) : Pe0 := ⟨(i : Int) + (e.p + 1), e.f, e.g, e.b⟩
instance ceDec : DecidableEq Ce := fun a b => if h : a.t = b.t ∧ a.f = b.f ∧ a.g = b.g ∧ a.b = b.b ∧ a.p = b.p then .isTrue (by obtain ⟨h1, h2, h3, h4, h5⟩ := h; cases a; cases b; simp only at h1 h2 h3 h4 h5; subst h1; subst h2; subst h3; subst h4; subst h5; rfl) else .isFalse (fun e => by subst e; exact h ⟨rfl, rfl, rfl, rfl, rfl⟩)
/-- The pen and its bytes behind i cells. -/
def updB (K : Kd) (W : Nat) (old new : Nat → Ce) (p : Pe0) : Nat → Pe0 × List UInt8
  | 0 => (p, [])
  | i + 1 => if new i ≠ old i ∧ (new i).p ≠ 2 then (celP i (new i), (updB K W old new p i).2 ++ celB K W (updB K W old new p i).1 i (new i)) else updB K W old new p i
theorem runT_cat (p : Tm × St) (a b : List UInt8) : runT p (a ++ b) = runT (runT p a) b := by
  induction a generalizing p with
  | nil => rfl
  | cons x a ih => exact ih _
/-- The terminal is where the pen thinks. -/
structure PenAt (W : Nat) (t : Tm) (p : Pe0) : Prop where
  f : t.r.f = p.f
  g : t.r.g = p.g
  b : t.r.b = p.b
  ok : StyOk p.f p.g p.b
  at_ : ∀ j : Nat, p.a = j → j % W ≠ 0 → t.r.x = ((j % W : Nat) : Int) ∧ t.r.y = ((j / W : Nat) : Int)
section
variable {K : Kd} {t : Tm} {p : Pe0}
theorem dip_run (hK : Turns K) {f2 g2 b2 : Int} (ho : StyOk p.f p.g p.b) (h2 : StyOk f2 g2 b2) (hf : t.r.f = p.f) (hg : t.r.g = p.g) (hb : t.r.b = p.b) : ∃ t', runT (t, .out) (dipB (K p.f p.g p.b f2 g2 b2)) = (t', .out) ∧ t'.W = t.W ∧ t'.H = t.H ∧ t'.c = t.c ∧ t'.r.x = t.r.x ∧ t'.r.y = t.r.y ∧ t'.r.f = f2 ∧ t'.r.g = g2 ∧ t'.r.b = b2 := by
  obtain ⟨ns, hns⟩ : ∃ ns, K p.f p.g p.b f2 g2 b2 = ns := ⟨_, rfl⟩
  have hl := hK.few (f := p.f) (g := p.g) (b := p.b) (f2 := f2) (g2 := g2) (b2 := b2)
  have hs := hK.small ho h2
  have ht := hK.turn ho h2
  have hn := hK.no ho h2
  rw [hns] at hl hs ht hn ⊢
  unfold dipB
  by_cases e : ns = []
  · rw [if_pos e]
    obtain ⟨e1, e2, e3⟩ := hn e
    exact ⟨t, rfl, rfl, rfl, rfl, rfl, rfl, hf.trans e1, hg.trans e2, hb.trans e3⟩
  · rw [if_neg e]
    obtain ⟨t1, t2, t3⟩ := ht e
    obtain ⟨n, ms, rfl⟩ := List.exists_cons_of_ne_nil e
    rw [run_style t n ms hs (by simpa using hl)]
    exact ⟨_, rfl, rfl, rfl, rfl, rfl, rfl, by show aplF (n :: ms) t.r.f = f2; rw [hf]; exact t1, by show aplG (n :: ms) t.r.g = g2; rw [hg]; exact t2, by show aplB (n :: ms) t.r.b = b2; rw [hb]; exact t3⟩
theorem mov_run {W H Y X : Nat} (hW : t.W = W) (hH : t.H = H) (hW4 : W ≤ 400) (hH4 : H ≤ 400) (hY : Y < H) (hX : X < W) (hp : PenAt W t p) : ∃ t', runT (t, .out) (movB W p.a (Y * W + X)) = (t', .out) ∧ t'.W = t.W ∧ t'.H = t.H ∧ t'.c = t.c ∧ t'.r.x = X ∧ t'.r.y = Y ∧ t'.r.f = t.r.f ∧ t'.r.g = t.r.g ∧ t'.r.b = t.r.b := by
  have e1 : (Y * W + X) % W = X := by rw [Nat.add_comm, Nat.add_mul_mod_self_right, Nat.mod_eq_of_lt hX]
  have e2 : (Y * W + X) / W = Y := by rw [Nat.add_comm, Nat.add_mul_div_right _ _ (by omega), Nat.div_eq_of_lt hX, Nat.zero_add]
  unfold movB
  by_cases h : ((Y * W + X : Nat) : Int) ≠ p.a ∨ (Y * W + X) % W = 0
  · rw [if_pos h, e1, e2, run_move t Y X (by omega) (by omega) (by omega) (by omega)]
    exact ⟨_, rfl, rfl, rfl, rfl, rfl, rfl, rfl, rfl, rfl⟩
  · rw [if_neg h]
    have h1 : ((Y * W + X : Nat) : Int) = p.a := Classical.not_not.1 fun q => h (.inl q)
    have h2 : (Y * W + X) % W ≠ 0 := fun q => h (.inr q)
    have := hp.at_ _ h1.symm h2
    rw [e1, e2] at this
    exact ⟨t, rfl, rfl, rfl, rfl, this.1, this.2, rfl, rfl, rfl⟩
/-- What a cell's bytes do. -/
theorem cel_run (hK : Turns K) {W H Y X : Nat} (hW : t.W = W) (hH : t.H = H) (hW4 : 1 ≤ W ∧ W ≤ 400) (hH4 : 1 ≤ H ∧ H ≤ 400) (hY : Y < H) (hX : X < W) (hp : PenAt W t p) {new : Nat → Ce} (hn : Rws new W H) (h2 : (new (Y * W + X)).p ≠ 2) :
    ∃ t', runT (t, .out) (celB K W p (Y * W + X) (new (Y * W + X))) = (t', .out) ∧ t'.W = W ∧ t'.H = H ∧ t'.c = fill t.c X (X + ((new (Y * W + X)).p + 1).toNat) Y (Y + 1) (gly X ((new (Y * W + X)).p + 1) (new (Y * W + X)).t (new (Y * W + X)).f (new (Y * W + X)).g (new (Y * W + X)).b) ∧ PenAt W t' (celP (Y * W + X) (new (Y * W + X))) := by
  have hok := hn.ok hY hX
  obtain ⟨i, hi⟩ : ∃ i, Y * W + X = i := ⟨_, rfl⟩
  obtain ⟨t1, r1, w1, q1, c1, x1, y1, f1, g1, b1⟩ := mov_run hW hH hW4.2 hH4.2 hY hX hp
  have hs : StyOk (new i).f (new i).g (new i).b := by rw [← hi]; exact hok.sty
  obtain ⟨t2, r2, w2, q2, c2, x2, y2, f2, g2, b2⟩ := dip_run (t := t1) (p := p) hK hp.ok hs (f1.trans hp.f) (g1.trans hp.g) (b1.trans hp.b)
  have htxt := hok.text h2
  rw [hi] at htxt h2 r1 ⊢
  have hn12 : (new i).p + 1 = 1 ∨ (new i).p + 1 = 2 := by
    rcases hok.part with h | h | h <;> rw [hi] at h
    · exact .inl (by omega)
    · exact .inr (by omega)
    · exact absurd h h2
  obtain ⟨bb, ms, el, hwb, hwm, hlen, hgood⟩ := cell_text hn12 htxt
  have hXW : (X : Int) + ((new i).p + 1) ≤ (t2.W : Int) := by
    rw [w2, w1, hW]
    rcases hok.part with h | h | h <;> rw [hi] at h
    · rw [h]; omega
    · have := (hok.head (by rw [hi]; exact h)).1
      rw [h]; omega
    · exact absurd h h2
  have r3 : runT (t2, .out) (new i).t.data.toList = (celT t2 X Y (bb :: ms) ((new i).p + 1), .out) := by
    rw [el, run_runes _ _ hgood, cell_run (t := t2) (by rw [w2, w1, hW]; exact hW4) (by rw [q2, q1, hH]; exact hH4) (x2.trans x1) (y2.trans y1) (by rw [q2, q1, hH]; exact hY) hwb hn12 hXW ms hwm hlen]
  have et : (⟨(enc (bb :: ms)).toArray⟩ : ByteArray) = (new i).t := by
    apply ByteArray.ext
    rw [← el]
  refine ⟨celT t2 X Y (bb :: ms) ((new i).p + 1), ?_, ?_, ?_, ?_, ?_⟩
  · unfold celB
    rw [runT_cat, r1, runT_cat, r2, r3]
  · exact w2.trans (w1.trans hW)
  · exact q2.trans (q1.trans hH)
  · unfold celT
    simp only
    rw [et, f2, g2, b2, hs.1, hs.2.1, hs.2.2, c2, c1]
  · refine ⟨f2, g2, b2, hs, fun j hj h0 => ?_⟩
    have hj' : (i : Int) + ((new i).p + 1) = (j : Int) := hj
    obtain ⟨n, hnn⟩ : ∃ n : Nat, (new i).p + 1 = (n : Int) := ⟨((new i).p + 1).toNat, by omega⟩
    rw [hnn] at hj' hXW
    have hXn : X + n ≤ W := by rw [w2, w1, hW] at hXW; omega
    have ej : j = Y * W + (X + n) := by omega
    have hXn' : X + n < W := by
      rcases Nat.lt_or_ge (X + n) W with g | g
      · exact g
      · exfalso
        apply h0
        rw [ej, show X + n = W by omega, Nat.mul_add_mod_self_right] <;> simp
    show (X : Int) + ((new i).p + 1) = _ ∧ (Y : Int) = _
    rw [hnn, ej]
    have e1 : (Y * W + (X + n)) % W = X + n := by rw [Nat.add_comm, Nat.add_mul_mod_self_right, Nat.mod_eq_of_lt hXn']
    have e2 : (Y * W + (X + n)) / W = Y := by rw [Nat.add_comm, Nat.add_mul_div_right _ _ (by omega), Nat.div_eq_of_lt hXn', Nat.zero_add]
    rw [e1, e2]
    exact ⟨by omega, rfl⟩
/-- What the bytes up to a cell do. -/
theorem upd_run (hK : Turns K) {W H : Nat} (hW4 : 1 ≤ W ∧ W ≤ 400) (hH4 : 1 ≤ H ∧ H ≤ 400) {old new : Nat → Ce} (ho : Rws old W H) (hn : Rws new W H) {t : Tm} (hW : t.W = W) (hH : t.H = H) (hp : PenAt W t p) (hc : Shows t.c W H old) :
    ∀ i, i ≤ H * W → ∃ t', runT (t, .out) (updB K W old new p i).2 = (t', .out) ∧ t'.W = W ∧ t'.H = H ∧ Shows t'.c W H (Mid old new (kf new (H * W) i)) ∧ PenAt W t' (updB K W old new p i).1 := by
  intro i
  induction i with
  | zero => exact fun _ => ⟨t, rfl, hW, hH, fun y x hy hx => by rw [mid_start ho hn (by omega) (by omega)]; exact hc y x hy hx, hp⟩
  | succ i ih =>
    intro hi
    obtain ⟨t1, r1, w1, q1, s1, p1⟩ := ih (by omega)
    unfold updB
    by_cases h : new i ≠ old i ∧ (new i).p ≠ 2
    · rw [if_pos h]
      obtain ⟨Y, X, hY, hX, rfl⟩ := row_of (W := W) (H := H) (j := i) (by omega)
      obtain ⟨t2, r2, w2, q2, c2, p2⟩ := cel_run hK w1 q1 hW4 hH4 hY hX p1 hn h.2
      refine ⟨t2, by rw [runT_cat, r1, r2], w2, q2, ?_, p2⟩
      rw [c2]
      exact mid_put ho hn hY hX h.2 s1
    · rw [if_neg h]
      refine ⟨t1, r1, w1, q1, fun y x hy hx => ?_, p1⟩
      rw [s1 y x hy hx]
      by_cases h2 : (new i).p = 2
      · rw [kf_tail hn (by omega) h2]
      · exact (mid_same ho hn (by omega) h2 (Classical.not_not.1 fun q => h ⟨q, h2⟩) _ (row_lt hy hx)).symm
/-- All bytes. -/
def allB (K : Kd) (W n : Nat) (old new : Nat → Ce) (p : Pe0) : List UInt8 := (updB K W old new p n).2 ++ dipB (K (updB K W old new p n).1.f (updB K W old new p n).1.g (updB K W old new p n).1.b 0 0 0)
theorem all_run (hK : Turns K) {W H : Nat} (hW4 : 1 ≤ W ∧ W ≤ 400) (hH4 : 1 ≤ H ∧ H ≤ 400) {old new : Nat → Ce} (ho : Rws old W H) (hn : Rws new W H) {t : Tm} (hW : t.W = W) (hH : t.H = H) (hp : PenAt W t p) (hc : Shows t.c W H old) :
    ∃ t', runT (t, .out) (allB K W (H * W) old new p) = (t', .out) ∧ t'.W = W ∧ t'.H = H ∧ Shows t'.c W H new ∧ t'.r.f = 0 ∧ t'.r.g = 0 ∧ t'.r.b = 0 := by
  obtain ⟨t1, r1, w1, q1, s1, p1⟩ := upd_run hK hW4 hH4 ho hn hW hH hp hc (H * W) (Nat.le_refl _)
  obtain ⟨t2, r2, w2, q2, c2, x2, y2, f2, g2, b2⟩ := dip_run (t := t1) (p := (updB K W old new p (H * W)).1) (f2 := 0) (g2 := 0) (b2 := 0) hK p1.ok ⟨rfl, rfl, rfl⟩ p1.f p1.g p1.b
  refine ⟨t2, by unfold allB; rw [runT_cat, r1, r2], w2.trans w1, q2.trans q1, fun y x hy hx => ?_, f2, g2, b2⟩
  rw [c2, s1 y x hy hx]
  exact mid_end (row_lt hy hx)
end
end Go.Proofs.YtlfffpoeioecjaaDoor

namespace Go.Proofs.YtlfffpoeioecjaaDoor
open Go.RowKit Go.Sort
set_option linter.unusedVariables false

theorem PenB.style {Q : World} {B b : Nat} {p v : Value} {W a f g d : Int} {l : List UInt8} (h : PenB Q B b p v W a f g d l) : Q.cell? ⟨b, 4, none⟩ = some (.int .i64 f) ∧ Q.cell? ⟨b, 5, none⟩ = some (.int .i64 g) ∧ Q.cell? ⟨b, 6, none⟩ = some (.int .i64 d) := ⟨h.cell (k := 4) rfl, h.cell (k := 5) rfl, h.cell (k := 6) rfl⟩
set_option maxHeartbeats 2000000 in
set_option maxRecDepth 100000 in
theorem penDip_any (B b : Nat) (p v : Value) (W a f g d : Int) (l : List UInt8) (f2 g2 d2 : Int) (w : World) (h : PenB w B b p v W a f g d l) (hlen : l.length ≤ 1099511627776) (hBw : B ≤ w.heap.size) (hs : StyOk f g d) (hs2 : StyOk f2 g2 d2) :
    Calls Tryd.prog 45 #[.pointer (some ⟨b, 0, none⟩), .agg #[.int .i64 f2, .int .i64 g2, .int .i64 d2]] w fun e w' => e = .returned (.tuple #[]) ∧ Hid (PenTo w w' B b W a f2 g2 d2 (l ++ cds (nms f g d f2 g2 d2))) := by
  have hlt : b < w.heap.size := h.lt
  obtain ⟨S, hS⟩ : ∃ z, w.heap.size = z := ⟨_, rfl⟩
  obtain ⟨W0, hW0⟩ : ∃ z, w.alloc (.cells #[.int .i64 f2, .int .i64 g2, .int .i64 d2] 32) = z := ⟨_, rfl⟩
  have G0 : Hid (Gr w W0) := by rw [← hW0]; exact (Gr.refl w).alloc _
  have N0 : Hid (W0.heap[S]? = some (.cells #[.int .i64 f2, .int .i64 g2, .int .i64 d2] 32 (0, 0))) := by rw [← hW0, ← hS]; exact new_block w _
  have n0 : W0.cell? ⟨S, 0, none⟩ = some (.int .i64 f2) := by rw [Lib.cell_of_heap N0.out]; rfl
  have n1 : W0.cell? ⟨S, 1, none⟩ = some (.int .i64 g2) := by rw [Lib.cell_of_heap N0.out]; rfl
  have n2 : W0.cell? ⟨S, 2, none⟩ = some (.int .i64 d2) := by rw [Lib.cell_of_heap N0.out]; rfl
  have HP : Hid (PenB W0 B b p v W a f g d l) := h.up G0.out.below
  have c4 := HP.out.style.1
  have c5 := HP.out.style.2.1
  have c6 := HP.out.style.2.2
  have hB0 : B ≤ W0.heap.size := Nat.le_trans hBw G0.out.size
  obtain ⟨K, hK⟩ : ∃ k, cds (nms f g d f2 g2 d2) = k := ⟨_, rfl⟩
  have hKl : K.length ≤ 1000 := by
    rw [← hK]
    unfold cds
    split
    · decide
    · rename_i hne
      have hsm := nms_small (x := f) (y := g) (z := d) (z2 := d2) (x2 := f2) (y2 := g2) (hs2.1 ▸ kn_bd f2) (hs2.2.1 ▸ kn_bd g2)
      have := (sq_len hsm hne (nms_len f g d f2 g2 d2)).2
      omega
  have CD : Hid (∀ w', Gr W0 w' → Calls Tryd.prog 66 #[.agg #[.int .i64 f, .int .i64 g, .int .i64 d], .agg #[.int .i64 f2, .int .i64 g2, .int .i64 d2]] w' fun e w2 => e = .returned (.string ⟨K.toArray⟩) ∧ Hid (Below W0.heap.size W0 w2)) := fun w' hg => by
    have := codes_any f g d f2 g2 d2 w'
    unfold sv at this
    rw [hs.1, hs.2.1, hs.2.2, hs2.1, hs2.2.1, hs2.2.2, hK] at this
    exact this.mono fun e w2 q => ⟨q.1, hg.below.trans (q.2.mono hg.size)⟩
  have PW : Hid (∀ w', Below W0.heap.size W0 w' → Calls Tryd.prog 26 #[.pointer (some ⟨b, 0, none⟩), .string ⟨K.toArray⟩] w' fun e w2 => e = .returned (.tuple #[.int .i64 (⟨K.toArray⟩ : ByteArray).size, .nilIface]) ∧ Hid (PenTo W0 w2 B b W a f g d (l ++ K))) := fun w' hb => (penWrite_any B b p v W a f g d l ⟨K.toArray⟩ w' (HP.out.up hb) (by show l.length + K.toArray.size ≤ _; simp; omega) (Nat.le_trans hB0 hb.size)).mono fun e w2 ⟨he, v', h1, h2, h3⟩ => ⟨he, _, v', by simpa using h1, (hb.mono hB0).trans h2, (below_others hb _ _).trans h3⟩
  rw [hK]
  clear h
  go_enter Tryd.func45, Tryd.ntmps45
  go_wp2_with fail
  go_region_with (first | (go_at_call 66; refine Calls.mono (CD.out _ (by first | exact Gr.refl _ | exact (Gr.refl _).drew | exact ((Gr.refl _).drew).drew)) ?_; rintro e1 w1 ⟨rfl, H1⟩) | (go_at_call 26; refine Calls.mono (PW.out _ (by first | exact H1.out | exact H1.out.drew)) ?_; rintro e2 w2 ⟨rfl, HT⟩))
  all_goals
    have M0 : w2.heap[S]? = some (.cells #[.int .i64 f2, .int .i64 g2, .int .i64 d2] 32 (0, 0)) := HT.out.block N0.out (by omega) (by decide)
    have o0 : w2.cell? ⟨S, 0, none⟩ = some (.int .i64 f2) := by rw [Lib.cell_of_heap M0]; rfl
    have o1 : w2.cell? ⟨S, 1, none⟩ = some (.int .i64 g2) := by rw [Lib.cell_of_heap M0]; rfl
    have o2 : w2.cell? ⟨S, 2, none⟩ = some (.int .i64 d2) := by rw [Lib.cell_of_heap M0]; rfl
    have e4 : w2.cell? ⟨b, 4, none⟩ = some (.int .i64 f) := by obtain ⟨p1, v1, hv1, _⟩ := HT.out; exact hv1.cell (k := 4) rfl
    have e5 : w2.cell? ⟨b, 5, none⟩ = some (.int .i64 g) := by obtain ⟨p1, v1, hv1, _⟩ := HT.out; exact hv1.cell (k := 5) rfl
    have e6 : w2.cell? ⟨b, 6, none⟩ = some (.int .i64 d) := by obtain ⟨p1, v1, hv1, _⟩ := HT.out; exact hv1.cell (k := 6) rfl
    have z4 : w2.frozen? ⟨b, 4, none⟩ = false := by obtain ⟨p1, v1, hv1, _⟩ := HT.out; exact hv1.fz 4
    have z5 : w2.frozen? ⟨b, 5, none⟩ = false := by obtain ⟨p1, v1, hv1, _⟩ := HT.out; exact hv1.fz 5
    have z6 : w2.frozen? ⟨b, 6, none⟩ = false := by obtain ⟨p1, v1, hv1, _⟩ := HT.out; exact hv1.fz 6
    clear M0
    go_wp2_with fail
    go_end0
    have X := (HT.out.start G0.out hBw).sty f2 g2 d2
    exact ⟨rfl, by first | exact X | exact X.drew | exact X.drew.drew | exact X.drew.drew.drew⟩

end Go.Proofs.YtlfffpoeioecjaaDoor

namespace Go.Proofs.YtlfffpoeioecjaaDoor
set_option linter.unusedVariables false

theorem sq_seqB (ns : List Int) : sq ns = seqB ns 109 := rfl
theorem cds_dipB (ns : List Int) : cds ns = dipB ns := rfl
theorem kn_le {f : Int} (h : kn f = f) : 0 ≤ f ∧ f ≤ 8 := h ▸ kn_bd f
theorem bo_le {f : Int} (h : bo f = f) : 0 ≤ f ∧ f ≤ 1 := h ▸ bo_bd f
theorem turns_nms : Turns nms where
  no := fun {f g b f2 g2 b2} h1 h2 e => Classical.not_not.1 fun q => nms_ne q (bo_le h2.2.2) e
  few := fun {f g b f2 g2 b2} => Nat.le_trans (nms_len f g b f2 g2 b2) (by decide)
  small := fun {f g b f2 g2 b2} h1 h2 z hz => by
    have := nms_small (x := f) (y := g) (z := b) (z2 := b2) (kn_le h2.1) (kn_le h2.2.1) z hz
    omega
  turn := fun {f g b f2 g2 b2} h1 h2 e => by
    refine turned (kn_le h1.1) (kn_le h1.2.1) (bo_le h1.2.2) (kn_le h2.1) (kn_le h2.2.1) (bo_le h2.2.2) fun q => e ?_
    obtain ⟨rfl, rfl, rfl⟩ := q
    unfold nms
    rw [if_pos ⟨rfl, rfl, rfl⟩]

end Go.Proofs.YtlfffpoeioecjaaDoor

namespace Go.Proofs.YtlfffpoeioecjaaDoor
set_option linter.unusedVariables false

theorem dec_short (n : Nat) (h : n < 1000) : (Lib.decDigits n).length ≤ 3 := by
  rw [Lib.decDigits_length]
  by_cases h1 : n < 10
  · rw [Lib.nDigits_small h1]; omega
  · rw [Lib.nDigits_big h1]
    by_cases h2 : n / 10 < 10
    · rw [Lib.nDigits_small h2]; omega
    · rw [Lib.nDigits_big h2, Lib.nDigits_small (show n / 10 / 10 < 10 by omega)]; omega
/-- The bytes of a move, as they are put together. -/
def mvS (a b : List UInt8) : List UInt8 := 27 :: 91 :: (a ++ 59 :: (b ++ [72]))
theorem mvS_is (Y X : Nat) : seqB [(Y : Int) + 1, (X : Int) + 1] 72 = mvS (Lib.decDigits (Y + 1)) (Lib.decDigits (X + 1)) := by
  have e1 : ((Y : Int) + 1).toNat = Y + 1 := by omega
  have e2 : ((X : Int) + 1).toNat = X + 1 := by omega
  unfold seqB mvS
  simp [dgt, Lib.join, List.intercalate, e1, e2]
theorem mov_len {V i : Nat} (hV : 1 ≤ V ∧ V ≤ 400) (hi : i < 400 * V) (a : Int) : (movB V a i).length ≤ 10 := by
  have hX : i % V < V := Nat.mod_lt i (by omega)
  have hY : i / V < 400 := Nat.div_lt_of_lt_mul (by rw [Nat.mul_comm]; exact hi)
  unfold movB
  split
  · rw [mvS_is]
    have h1 := dec_short (i / V + 1) (by omega)
    have h2 := dec_short (i % V + 1) (by omega)
    unfold mvS
    simp
    omega
  · simp
theorem dip_len {f g b f2 g2 b2 : Int} (h2 : StyOk f2 g2 b2) : (dipB (nms f g b f2 g2 b2)).length ≤ 15 := by
  rw [← cds_dipB]
  unfold cds
  split
  · simp
  · rename_i hne
    exact (sq_len (nms_small (kn_le h2.1) (kn_le h2.2.1)) hne (nms_len ..)).2
/-- As many bytes as may be written for the cells up to i. -/
def wrS (old new : Nat → Ce) : Nat → Nat
  | 0 => 0
  | i + 1 => wrS old new i + if new i ≠ old i ∧ (new i).p ≠ 2 then 25 + (new i).t.size else 0
section
variable {old new : Nat → Ce} {V n : Nat} {p : Pe0}
theorem upd_sty (hp : StyOk p.f p.g p.b) (hn : ∀ i, i < n → Sty (new i)) : ∀ i, i ≤ n → StyOk (updB nms V old new p i).1.f (updB nms V old new p i).1.g (updB nms V old new p i).1.b
  | 0, _ => hp
  | i + 1, h => by
    unfold updB
    by_cases c : new i ≠ old i ∧ (new i).p ≠ 2
    · rw [if_pos c]; exact hn i (by omega)
    · rw [if_neg c]; exact upd_sty hp hn i (by omega)
theorem upd_at (hp : -1 ≤ p.a ∧ p.a ≤ n + 2) (hn : ∀ i, i < n → (new i).p = 0 ∨ (new i).p = 1 ∨ (new i).p = 2) : ∀ i, i ≤ n → -1 ≤ (updB nms V old new p i).1.a ∧ (updB nms V old new p i).1.a ≤ n + 2
  | 0, _ => hp
  | i + 1, h => by
    unfold updB
    by_cases c : new i ≠ old i ∧ (new i).p ≠ 2
    · rw [if_pos c]
      have := hn i (by omega)
      show -1 ≤ (i : Int) + ((new i).p + 1) ∧ (i : Int) + ((new i).p + 1) ≤ n + 2
      omega
    · rw [if_neg c]; exact upd_at hp hn i (by omega)
theorem upd_len (hV : 1 ≤ V ∧ V ≤ 400) (h4 : n ≤ 400 * V) (hn : ∀ i, i < n → Sty (new i)) : ∀ i, i ≤ n → (updB nms V old new p i).2.length ≤ wrS old new i
  | 0, _ => by simp [updB]
  | i + 1, h => by
    have ih := upd_len hV h4 hn i (by omega)
    unfold updB wrS
    by_cases c : new i ≠ old i ∧ (new i).p ≠ 2
    · rw [if_pos c, if_pos c]
      have h1 := mov_len hV (i := i) (by omega) (updB nms V old new p i).1.a
      have h2 := dip_len (f := (updB nms V old new p i).1.f) (g := (updB nms V old new p i).1.g) (b := (updB nms V old new p i).1.b) (f2 := (new i).f) (g2 := (new i).g) (b2 := (new i).b) (hn i (by omega))
      have h3 : (new i).t.data.toList.length = (new i).t.size := rfl
      show List.length (_ ++ _) ≤ _
      unfold celB
      rw [List.length_append, List.length_append, List.length_append, h3]
      omega
    · rw [if_neg c, if_neg c]; exact ih
end
theorem enc_len : ∀ R : List Int, (enc R).length ≤ 4 * R.length
  | [] => by simp [enc]
  | r :: R => by
    have h1 := encodeRune_le r
    have h2 := enc_len R
    have : enc (r :: R) = Lib.encodeRune r ++ enc R := by simp [enc]
    rw [this, List.length_append, List.length_cons]
    omega
theorem txt_len {e : Ce} {n : Int} (hn : n = 1 ∨ n = 2) (h : Txt e n) : e.t.size ≤ 20 := by
  obtain ⟨b, ms, h1, _, _, h4, _⟩ := cell_text hn h
  have h2 := enc_len (b :: ms)
  rw [← h1, List.length_cons] at h2
  have h3 : e.t.data.toList.length = e.t.size := rfl
  omega
theorem Rws.size {C : Nat → Ce} {W H : Nat} (h : Rws C W H) {j : Nat} (hj : j < H * W) : (C j).t.size ≤ 20 := by
  obtain ⟨y, x, hy, hx, rfl⟩ := row_of hj
  have o := h.ok hy hx
  by_cases c : (C (y * W + x)).p = 2
  · rw [(o.tail c).2.2]; decide
  · exact txt_len (by have := o.part; omega) (o.text c)
theorem Rws.sty {C : Nat → Ce} {W H : Nat} (h : Rws C W H) {j : Nat} (hj : j < H * W) : Sty (C j) := by
  obtain ⟨y, x, hy, hx, rfl⟩ := row_of hj
  exact (h.ok hy hx).sty
theorem wrS_le {old new : Nat → Ce} {n : Nat} (h : ∀ i, i < n → (new i).t.size ≤ 20) : ∀ i, i ≤ n → wrS old new i ≤ 45 * i
  | 0, _ => by simp [wrS]
  | i + 1, hi => by
    have ih := wrS_le (old := old) h i (by omega)
    have := h i (by omega)
    unfold wrS
    split <;> omega

end Go.Proofs.YtlfffpoeioecjaaDoor
