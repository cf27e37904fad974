/-
  panelaw.painting.
-/
import Derived.Test.YtlfffpoeioecjaaDoorG27
import Derived.Test.YtlfffpoeioecjaaDoorG24
import Derived.Deep.RegionLaw
namespace Go.Proofs.YtlfffpoeioecjaaDoor
open Go.RowKit Go.Sort
set_option linter.unusedVariables false

theorem infoCell : (Tryd.prog.info? 34).map (fun i => (i.zero, i.size, i.bytes)) = some (some (.agg #[.string ⟨#[]⟩, .int .i64 0, .int .i64 0, .int .i64 0, .int .i64 0]), 5, 48) := by kernel_rfl

/-- Cells, laid one behind the other. -/
def lay5 (C : Nat → Ce) : Nat → List Value
  | 0 => []
  | k + 1 => lay5 C k ++ c5 (C k)
theorem lay5_len (C : Nat → Ce) : ∀ k, (lay5 C k).length = k * 5
  | 0 => rfl
  | k + 1 => by rw [lay5, List.length_append, lay5_len C k, c5_len]; omega
theorem lay5_at (C : Nat → Ce) : ∀ k j, j < k → ∀ (q : Nat) u, (c5 (C j))[q]? = some u → (lay5 C k)[j * 5 + q]? = some u
  | 0, j, h => by omega
  | k + 1, j, h => by
    intro q u hu
    have hq : q < 5 := by have := (List.getElem?_eq_some_iff.1 hu).1; rw [c5_len] at this; exact this
    have hl := lay5_len C k
    by_cases e : j < k
    · have := lay5_at C k j e q u hu
      simp only [lay5]
      rw [List.getElem?_append_left (by omega)]
      exact this
    · obtain rfl : j = k := by omega
      simp only [lay5]
      rw [List.getElem?_append_right (by omega), hl, show j * 5 + q - j * 5 = q by omega]
      exact hu
/-- n cells in a block of cells, from off on. -/
structure CB (Q : World) (g off n : Nat) (C : Nat → Ce) : Prop where
  at_ : ∃ cs fz, Q.heap[g]? = some (.cells cs 34 fz)
  cl : CL Q g off n C
theorem CB.kept {Q Q' : World} {g off n : Nat} {C : Nat → Ce} (h : CB Q g off n C) (he : ∀ cs fz, Q.heap[g]? = some (.cells cs 34 fz) → Q'.heap[g]? = some (.cells cs 34 fz)) : CB Q' g off n C := by
  obtain ⟨cs, fz, h1⟩ := h.at_
  have h2 := he cs fz h1
  refine ⟨⟨cs, fz, h2⟩, (Array.getElem?_eq_some_iff.1 h2).1, fun i hi k u hu => ?_⟩
  have := h.cl.cell i hi k u hu
  rw [Lib.cell_of_heap h1] at this
  rw [Lib.cell_of_heap h2]
  exact this
theorem CB.low {w w2 : World} {q off n : Nat} {C : Nat → Ce} (h : CB w q off n C) (ht : Below w.heap.size w w2) : CB w2 q off n C := h.kept fun cs fz he => (ht.block _ (Array.getElem?_eq_some_iff.1 he).1).trans he
/-- What painting answers. -/
def Pic (W : World) (v : Value) (n : Nat) (C : Nat → Ce) : Prop := ∃ p cap, v = .slice p n cap ∧ n ≤ cap ∧ cap ≤ 9223372036854775807 ∧ (n = 0 ∨ ∃ g, p = some ⟨g, 0, none⟩ ∧ CB W g 0 n C)
theorem pic_own {W : World} {B n : Nat} {v : Value} {C : Nat → Ce} (h : W.ownsRow B 34 5 v n (lay5 C n)) : Pic W v n C := by
  have h0 := h
  rcases h.2 with ⟨rfl, rfl⟩ | ⟨g, cap, cur, rfl, hb, hg, h1, h2, _⟩
  · exact ⟨none, 0, rfl, Nat.le_refl _, by omega, .inl rfl⟩
  · refine ⟨some ⟨g, 0, none⟩, cap, rfl, h1, by unfold maxLen at h2; omega, .inr ⟨g, rfl, ⟨_, _, hg⟩, (Array.getElem?_eq_some_iff.1 hg).1, fun i hi k u hu => ?_⟩⟩
    have hk : k < 5 := by have := (List.getElem?_eq_some_iff.1 hu).1; rw [c5_len] at this; exact this
    rw [Nat.zero_add, h0.cellAt _ (by omega)]
    exact lay5_at C n i hi k u hu
theorem cell_five_pn (w : World) (e : Ce) (t : TypeId) : ∀ j u, (c5 e)[j]? = some u → (w.alloc (.cells #[.string e.t, .int .i64 e.f, .int .i64 e.g, .int .i64 e.b, .int .i64 e.p] t)).cell? ((⟨w.heap.size, 0, none⟩ : Addr).add j) = some u := by
  intro j u h
  have e' : (⟨w.heap.size, 0, none⟩ : Addr).add j = ⟨w.heap.size, 0 + j, none⟩ := by unfold Addr.add; split <;> simp_all
  rw [e', Nat.zero_add, World.cell?_alloc_at _ _ _ _ rfl]
  rw [← h]
  match j with
  | 0 => rfl
  | 1 => rfl
  | 2 => rfl
  | 3 => rfl
  | 4 => rfl
  | _ + 5 => rfl

set_option maxRecDepth 100000 in
set_option maxHeartbeats 8000000 in
theorem painting_some (n blk off cap : Nat) (C : Nat → Ce) (w : World) (h : CL w blk off n C) (hn : n ≤ 1048576) :
    Calls Tryd.prog 11 #[.slice (some ⟨blk, off, none⟩) n cap] w fun e w' => ∃ v, e = .returned v ∧ Pic w' v n C ∧ Below w.heap.size w w' := by
  have hmix : Tryd.prog.follows .mixedOrders = true := by kernel_rfl
  obtain ⟨i0, hi, hz0, hz1, hz2⟩ := info_parts infoCell
  have HW : Hid (CL w blk off n C) := h
  have HL : Hid (∀ e w, Calls Tryd.prog 24 #[cev e] w fun r w' => r = .returned (cev e) ∧ Gr w w') := cell_any
  clear h
  go_enter Tryd.func11, Tryd.ntmps11
  go_wp2
  go_loopw [3, 4] (fun v i wr => ∃ k : Nat, i = .int .i64 k ∧ k ≤ n ∧ Hid (wr.ownsRow w.heap.size 34 5 v k (lay5 C k)) ∧ Hid (Below w.heap.size w wr)) (fun _ i _ => n - (intOf i).toNat)
  case atStart => exact ⟨0, rfl, Nat.zero_le _, World.ownsRow_nil _ _ _ _, Below.refl _ _⟩
  case round =>
    obtain ⟨k, rfl, hk, HO, HB⟩ := hrel
    by_cases hlt : k < n
    · have hlt' : (k : Int) < (n : Int) := by omega
      have V := HW.out.below HB.out
      obtain ⟨e, he⟩ : ∃ e, C k = e := ⟨_, rfl⟩
      have hC1 : ∀ (q : Nat) u, (c5 e)[q]? = some u → wr.cell? ⟨blk, off + k * 5 + q, none⟩ = some u := fun q u h => V.cell k hlt q u (by rw [he]; exact h)
      have HS : Hid (lay5 C (k + 1) = lay5 C k ++ c5 e) := by show _ = _; rw [lay5, he]
      obtain ⟨t, f, g, b, p⟩ := e
      have d0 : wr.cell? ⟨blk, off + k * 5, none⟩ = some (.string t) := hC1 0 _ rfl
      have d1 := hC1 1 (.int .i64 f) rfl
      have d2 := hC1 2 (.int .i64 g) rfl
      have d3 := hC1 3 (.int .i64 b) rfl
      have d4 := hC1 4 (.int .i64 p) rfl
      have CA : Hid (∀ w, Calls Tryd.prog 24 #[.agg #[.string t, .int .i64 f, .int .i64 g, .int .i64 b, .int .i64 p]] w fun r w' => r = .returned (.agg #[.string t, .int .i64 f, .int .i64 g, .int .i64 b, .int .i64 p]) ∧ Gr w w') := fun w => HL.out ⟨t, f, g, b, p⟩ w
      clear hC1 V he
      go_wp2_with fail
      refine (CA.out wr).mono ?_
      rintro e w1 ⟨rfl, g1⟩
      have HB1 : Hid (Below w.heap.size w w1) := HB.out.trans (g1.below.mono HB.out.size)
      have HO1 : Hid (w1.ownsRow w.heap.size 34 5 u3 k (lay5 C k)) := own_below2 HO.out g1.below
      clear d0 d1 d2 d3 d4 g1 CA
      have hzr := HB1.out.size
      go_wp2_with (at_builtin; refine wpList_append_own _ rfl _ _ 27 rfl w.heap.size 34 i0 (.agg #[.string ⟨#[]⟩, .int .i64 0, .int .i64 0, .int .i64 0, .int .i64 0]) 5 48 Tryd.underlying27 hi hz0 hz1 hz2 rfl (by decide) _ _ _ rfl (World.ownsRow.alloc (w := w1) HO1.out _) _ 1 1 [.string t, .int .i64 f, .int .i64 g, .int .i64 b, .int .i64 p] rfl rfl ?c1 ?c2 ?c3 ?c4 ?c5 ?_)
      case c1 => exact cell_five_pn w1 ⟨t, f, g, b, p⟩ _
      case c2 => intro u hu; simp at hu; rcases hu with rfl | rfl | rfl | rfl | rfl <;> rfl
      case c3 => unfold maxLen; omega
      case c4 => omega
      case c5 => simp; omega
      intro v' w3 hown' hg _
      have HB3 : Hid (Below w.heap.size w w3) := (HB1.out.alloc (by omega) _).grown hg (by simp; omega) (fun q hq => (HO1.out.lt q hq).1)
      have HO3 : Hid (w3.ownsRow w.heap.size 34 5 v' (k + 1) (lay5 C (k + 1))) := by show World.ownsRow _ _ _ _ _ _ _; rw [HS.out]; exact hown'
      clear hown' hg
      go_wp2
      go_roundw
      case rel => exact ⟨k + 1, by go_num, by omega, HO3.out, HB3.out⟩
      case measure => simp [intOf]; omega
    · have hge : ¬ (k : Int) < (n : Int) := by omega
      obtain rfl : n = k := by omega
      have HV := pic_own HO.out
      go_wp2
      go_ret
      exact ⟨_, rfl, HV, HB.out⟩

set_option maxRecDepth 100000 in
set_option maxHeartbeats 1000000 in
theorem painting_none (p : Option Addr) (cap : Nat) (C : Nat → Ce) (w : World) :
    Calls Tryd.prog 11 #[.slice p 0 cap] w fun e w' => ∃ v, e = .returned v ∧ Pic w' v 0 C ∧ Below w.heap.size w w' := by
  go_enter Tryd.func11, Tryd.ntmps11
  go_wp2
  go_loop [3, 4] (fun v i => v = .slice none 0 0 ∧ i = .int .i64 0) (fun _ _ => 0)
  case atStart => exact ⟨rfl, rfl⟩
  case round =>
    obtain ⟨rfl, rfl⟩ := hrel
    go_wp2
    go_ret
    exact ⟨_, rfl, ⟨none, 0, rfl, Nat.le_refl _, by omega, .inl rfl⟩, Below.refl _ _⟩

theorem painting_any (n cap : Nat) (p : Option Addr) (C : Nat → Ce) (w : World) (hC : n = 0 ∨ ∃ g off, p = some ⟨g, off, none⟩ ∧ CL w g off n C) (hn : n ≤ 1048576) :
    Calls Tryd.prog 11 #[.slice p n cap] w fun e w' => ∃ v, e = .returned v ∧ Pic w' v n C ∧ Below w.heap.size w w' := by
  rcases hC with rfl | ⟨g, off, rfl, h⟩
  · exact painting_none p cap C w
  · exact painting_some n g off cap C w h hn

end Go.Proofs.YtlfffpoeioecjaaDoor

namespace Go.Proofs.YtlfffpoeioecjaaDoor
open Go.RowKit Go.Sort
set_option linter.unusedVariables false

theorem CB.pen {w w2 : World} {B b : Nat} {W a f g d : Int} {l : List UInt8} {q off n : Nat} {C : Nat → Ce} (h : CB w q off n C) (ht : PenTo w w2 B b W a f g d l) (hb : q ≠ b) : CB w2 q off n C := h.kept fun cs fz he => ht.block he hb (by decide)
theorem CB.gr {w w2 : World} {q off n : Nat} {C : Nat → Ce} (h : CB w q off n C) (ht : Gr w w2) : CB w2 q off n C := h.kept fun cs fz he => (ht.below.block _ (Array.getElem?_eq_some_iff.1 he).1).trans he
theorem PenTo.next {w w1 w2 : World} {B b : Nat} {W W' a f g d a' f' g' d' : Int} {l l' : List UInt8} (h : PenTo w w1 B b W a f g d l) (h2 : PenTo w1 w2 B b W' a' f' g' d' l') : PenTo w w2 B b W' a' f' g' d' l' := by
  obtain ⟨_, _, _, h3, h4⟩ := h
  obtain ⟨p', v', k1, k2, k3⟩ := h2
  exact ⟨p', v', k1, h3.trans k2, h4.trans k3⟩
theorem PenTo.gr {w w1 w2 : World} {B b : Nat} {W a f g d : Int} {l : List UInt8} (h : PenTo w w1 B b W a f g d l) (hg : Gr w1 w2) (hB : B ≤ w1.heap.size) : PenTo w w2 B b W a f g d l := by
  obtain ⟨p', v', h1, h2, h3⟩ := h
  exact ⟨p', v', h1.up hg.below, h2.trans (hg.below.mono hB), h3.trans (below_others hg.below _ _)⟩
theorem PenTo.size {w w1 : World} {B b : Nat} {W a f g d : Int} {l : List UInt8} (h : PenTo w w1 B b W a f g d l) (hB : B ≤ w.heap.size) : B ≤ w1.heap.size := by
  obtain ⟨p', v', h1, h2, h3⟩ := h
  exact Nat.le_trans hB h2.size
theorem PenTo.tens {w w1 : World} {B b : Nat} {W a f g d : Int} {l : List UInt8} (h : PenTo w w1 B b W a f g d l) (ht : TensAt w) (hB : 3 < B) : TensAt w1 := by
  obtain ⟨p', v', h1, h2, h3⟩ := h
  exact ht.below h2 hB
/-- The two cells differ in a field, or they are the same. -/
theorem ce_cases (t f g b q t1 f1 g1 b1 q1) : (t.toList == t1.toList) = false ∧ (⟨t, f, g, b, q⟩ : Ce) ≠ ⟨t1, f1, g1, b1, q1⟩ ∨ t = t1 ∧ ((f == f1) = false ∧ (⟨t, f, g, b, q⟩ : Ce) ≠ ⟨t1, f1, g1, b1, q1⟩ ∨ f = f1 ∧ ((g == g1) = false ∧ (⟨t, f, g, b, q⟩ : Ce) ≠ ⟨t1, f1, g1, b1, q1⟩ ∨ g = g1 ∧ ((b == b1) = false ∧ (⟨t, f, g, b, q⟩ : Ce) ≠ ⟨t1, f1, g1, b1, q1⟩ ∨ b = b1 ∧ ((q == q1) = false ∧ (⟨t, f, g, b, q⟩ : Ce) ≠ ⟨t1, f1, g1, b1, q1⟩ ∨ q = q1)))) := by
  by_cases h0 : t = t1
  · refine .inr ⟨h0, ?_⟩
    by_cases h1 : f = f1
    · refine .inr ⟨h1, ?_⟩
      by_cases h2 : g = g1
      · refine .inr ⟨h2, ?_⟩
        by_cases h3 : b = b1
        · refine .inr ⟨h3, ?_⟩
          by_cases h4 : q = q1
          · exact .inr h4
          · exact .inl ⟨by simpa using h4, fun e => h4 (by injection e)⟩
        · exact .inl ⟨by simpa using h3, fun e => h3 (by injection e)⟩
      · exact .inl ⟨by simpa using h2, fun e => h2 (by injection e)⟩
    · exact .inl ⟨by simpa using h1, fun e => h1 (by injection e)⟩
  · exact .inl ⟨str_ne h0, fun e => h0 (by injection e)⟩

set_option maxHeartbeats 8000000 in
set_option maxRecDepth 100000 in
theorem penUpd_any (B b : Nat) (p v : Value) (V H n : Nat) (l : List UInt8) (gO oO capO gN oN capN : Nat) (old new : Nat → Ce) (w : World) (h : PenB w B b p v (V : Int) (-1) 0 0 0 l) (hlen : l.length ≤ 1000) (hBw : B ≤ w.heap.size) (hV : 1 ≤ V ∧ V ≤ 400) (hH : 1 ≤ H ∧ H ≤ 400) (hnn : n = H * V) (hr : Rws new V H) (hO : CB w gO oO n old) (hN : CB w gN oN n new) (hOb : gO ≠ b) (hNb : gN ≠ b) (ht : TensAt w) (hgB : 3 < B) :
    Calls Tryd.prog 28 #[.pointer (some ⟨b, 0, none⟩), .slice (some ⟨gO, oO, none⟩) n capO, .slice (some ⟨gN, oN, none⟩) n capN] w fun e w' => e = .returned (.tuple #[]) ∧ Hid (∃ a, PenTo w w' B b (V : Int) a 0 0 0 (l ++ allB nms V n old new ⟨-1, 0, 0, 0⟩)) := by
  have hmix : Tryd.prog.follows .mixedOrders = true := by kernel_rfl
  have hn4 : n ≤ 400 * V := by rw [hnn]; exact Nat.mul_le_mul_right V hH.2
  have hnb : n ≤ 160000 := by have := Nat.mul_le_mul_left 400 hV.2; omega
  have hn1 : 1 ≤ n := by rw [hnn]; exact Nat.mul_pos (by omega) (by omega)
  have hsty : ∀ i, i < n → Sty (new i) := fun i hi => hr.sty (by omega)
  have hsz : ∀ i, i < n → (new i).t.size ≤ 20 := fun i hi => hr.size (by omega)
  have hpt : ∀ i, i < n → (new i).p = 0 ∨ (new i).p = 1 ∨ (new i).p = 2 := fun i hi => hr.part (by omega)
  obtain ⟨p0, hp0⟩ : ∃ z : Pe0, (⟨-1, 0, 0, 0⟩ : Pe0) = z := ⟨_, rfl⟩
  have hps : StyOk p0.f p0.g p0.b := by rw [← hp0]; exact ⟨by decide, by decide, by decide⟩
  have hpa : -1 ≤ p0.a ∧ p0.a ≤ n + 2 := by rw [← hp0]; exact ⟨by decide, by show (-1 : Int) ≤ _; omega⟩
  have US : Hid (∀ i, i ≤ n → StyOk (updB nms V old new p0 i).1.f (updB nms V old new p0 i).1.g (updB nms V old new p0 i).1.b) := upd_sty hps hsty
  have UA : Hid (∀ i, i ≤ n → -1 ≤ (updB nms V old new p0 i).1.a ∧ (updB nms V old new p0 i).1.a ≤ n + 2) := upd_at hpa hpt
  have UL : Hid (∀ i, i ≤ n → (updB nms V old new p0 i).2.length ≤ 7200000) := fun i hi => Nat.le_trans (upd_len hV hn4 hsty i hi) (Nat.le_trans (wrS_le hsz i hi) (by omega))
  have HST : Hid (∀ i, i < n → Sty (new i)) := hsty
  have HSZ : Hid (∀ i, i < n → (new i).t.size ≤ 20) := hsz
  have HPT : Hid (∀ i, i < n → (new i).p = 0 ∨ (new i).p = 1 ∨ (new i).p = 2) := hpt
  have HO : Hid (CB w gO oO n old) := hO
  have HN : Hid (CB w gN oN n new) := hN
  have HT : Hid (TensAt w) := ht
  have H0 : Hid (PenTo w w B b (V : Int) (updB nms V old new p0 0).1.a (updB nms V old new p0 0).1.f (updB nms V old new p0 0).1.g (updB nms V old new p0 0).1.b (l ++ (updB nms V old new p0 0).2)) := ⟨p, v, by rw [← hp0]; show PenB w B b p v (V : Int) (-1) 0 0 0 (l ++ []); rw [List.append_nil]; exact h, Below.refl _ _, Lib.OthersKept.refl _ _ _⟩
  have HV : Hid (1 ≤ V ∧ V ≤ 400) := hV
  have HN4 : Hid (n ≤ 400 * V) := hn4
  clear h hO hN ht hsty hsz hpt hr hnn hps hpa hH hV hn4
  go_enter Tryd.func28, Tryd.ntmps28
  go_wp2
  go_loopw [10] (fun iv wr => ∃ k : Nat, iv = .int .i64 k ∧ k ≤ n ∧ Hid (PenTo w wr B b (V : Int) (updB nms V old new p0 k).1.a (updB nms V old new p0 k).1.f (updB nms V old new p0 k).1.g (updB nms V old new p0 k).1.b (l ++ (updB nms V old new p0 k).2))) (fun i _ => n - (intOf i).toNat)
  case atStart => exact ⟨0, rfl, Nat.zero_le _, H0.out⟩
  case round =>
    obtain ⟨k, rfl, hk, HR⟩ := hrel
    by_cases hlt : k < n
    · have hlt' : (k : Int) < (n : Int) := by omega
      have BO := HO.out.pen HR.out hOb
      have BN := HN.out.pen HR.out hNb
      obtain ⟨e, he⟩ : ∃ e, new k = e := ⟨_, rfl⟩
      obtain ⟨o, ho⟩ : ∃ e, old k = e := ⟨_, rfl⟩
      have hC1 : ∀ (q : Nat) u, (c5 e)[q]? = some u → wr.cell? ⟨gN, oN + k * 5 + q, none⟩ = some u := fun q u h => BN.cl.cell k hlt q u (by rw [he]; exact h)
      have hC2 : ∀ (q : Nat) u, (c5 o)[q]? = some u → wr.cell? ⟨gO, oO + k * 5 + q, none⟩ = some u := fun q u h => BO.cl.cell k hlt q u (by rw [ho]; exact h)
      obtain ⟨t, f, g, d, q⟩ := e
      obtain ⟨t1, f1, g1, d1, q1⟩ := o
      have x0 : wr.cell? ⟨gN, oN + k * 5, none⟩ = some (.string t) := hC1 0 _ rfl
      have x1 := hC1 1 (.int .i64 f) rfl
      have x2 := hC1 2 (.int .i64 g) rfl
      have x3 := hC1 3 (.int .i64 d) rfl
      have x4 := hC1 4 (.int .i64 q) rfl
      have HE : Hid (new k = ⟨t, f, g, d, q⟩) := he
      have HF : Hid (old k = ⟨t1, f1, g1, d1, q1⟩) := ho
      have HOL : Hid (∀ W0, Gr wr W0 → ∀ (q : Nat) u, (c5 ⟨t1, f1, g1, d1, q1⟩)[q]? = some u → W0.cell? ⟨gO, oO + k * 5 + q, none⟩ = some u) := fun W0 hg j u hu => by
        have := (BO.gr hg).cl.cell k hlt j u (by rw [ho]; exact hu)
        exact this
      clear hC1 hC2 he ho BO BN
      go_upto_region 3 with fail
      obtain ⟨W0, hW0⟩ : ∃ z, wr.alloc (.cells #[.string t, .int .i64 f, .int .i64 g, .int .i64 d, .int .i64 q] 34) = z := ⟨_, rfl⟩
      obtain ⟨S, hS⟩ : ∃ z, wr.heap.size = z := ⟨_, rfl⟩
      have G0 : Hid (Gr wr W0) := by rw [← hW0]; exact (Gr.refl wr).alloc _
      have R0 : Hid (R5 34 W0 S ⟨t, f, g, d, q⟩) := by rw [← hW0, ← hS]; exact R5.new wr ⟨t, f, g, d, q⟩ _
      have hSb : S ≠ b := by obtain ⟨p1, v1, hv1, _⟩ := HR.out; have := hv1.lt; omega
      rw [hW0, hS]
      clear x0 x1 x2 x3 x4 hW0 hS
      obtain ⟨cb, hcb⟩ : ∃ cb : Bool, cb = decide (new k ≠ old k ∧ (new k).p ≠ 2) := ⟨_, rfl⟩
      have HCB : Hid (cb = true ↔ new k ≠ old k ∧ (new k).p ≠ 2) := by show _ ↔ _; rw [hcb]; exact decide_eq_true_iff
      clear hcb
      go_cut [25] from 15 to 24 (fun s wx => s = .bool cb ∧ Hid (Gr W0 wx))
      case first =>
        have c0 := R0.out.c0
        have c1 := R0.out.c1
        have c2 := R0.out.c2
        have c3 := R0.out.c3
        have c4 := R0.out.c4
        have y0 : W0.cell? ⟨gO, oO + k * 5, none⟩ = some (.string t1) := HOL.out W0 G0.out 0 _ rfl
        have y1 := HOL.out W0 G0.out 1 (.int .i64 f1) rfl
        have y2 := HOL.out W0 G0.out 2 (.int .i64 g1) rfl
        have y3 := HOL.out W0 G0.out 3 (.int .i64 d1) rfl
        have y4 := HOL.out W0 G0.out 4 (.int .i64 q1) rfl
        simp only at c0 c1 c2 c3 c4
        have CBE : Hid (cb = true ↔ (⟨t, f, g, d, q⟩ : Ce) ≠ ⟨t1, f1, g1, d1, q1⟩ ∧ q ≠ 2) := by have := HCB.out; rw [HE.out, HF.out] at this; exact this
        clear HCB HE HF HOL HR R0 G0 H0 HN4 HV HT HN HO HPT HSZ HST UL UA US
        rcases ce_cases t f g d q t1 f1 g1 d1 q1 with ⟨e5, hne⟩ | ⟨rfl, ⟨e5, hne⟩ | ⟨rfl, ⟨e5, hne⟩ | ⟨rfl, ⟨e5, hne⟩ | ⟨rfl, ⟨e5, hne⟩ | rfl⟩⟩⟩⟩
        case inr.inr.inr.inr.inr =>
          obtain rfl : cb = false := by cases cb with
            | false => rfl
            | true => exact absurd rfl (CBE.out.1 rfl).1
          go_quiet (fail)
          go_wp2
          go_meet
          exact ⟨rfl, (Gr.refl W0).drewN _⟩
        all_goals
          by_cases hq2 : q = 2
          · obtain rfl : cb = false := by cases cb with
              | false => rfl
              | true => exact absurd hq2 (CBE.out.1 rfl).2
            have hq3 : (q != 2) = false := by simpa using hq2
            clear hne CBE hq2
            go_quiet (fail)
            go_wp2
            go_meet
            exact ⟨rfl, (Gr.refl W0).drewN _⟩
          · obtain rfl : cb = true := CBE.out.2 ⟨hne, hq2⟩
            have hq3 : (q != 2) = true := by simpa using hq2
            clear hne CBE hq2
            go_quiet (fail)
            go_wp2
            go_meet
            exact ⟨rfl, (Gr.refl W0).drewN _⟩
      case rest =>
        obtain ⟨rfl, GC⟩ := hcut
        have hB0 : B ≤ wr.heap.size := HR.out.size hBw
        have GW : Hid (Gr wr wc) := G0.out.trans GC.out
        have RC : Hid (R5 34 wc S ⟨t, f, g, d, q⟩) := (GC.out.below.block _ R0.out.lt).trans R0.out
        clear R0 HOL
        cases cb with
        | false =>
          have HR2 : Hid (PenTo w wc B b (V : Int) (updB nms V old new p0 (k + 1)).1.a (updB nms V old new p0 (k + 1)).1.f (updB nms V old new p0 (k + 1)).1.g (updB nms V old new p0 (k + 1)).1.b (l ++ (updB nms V old new p0 (k + 1)).2)) := by
            have e : updB nms V old new p0 (k + 1) = updB nms V old new p0 k := if_neg fun q => nomatch HCB.out.2 q
            rw [e]
            exact HR.out.gr GW.out hB0
          go_wp2
          go_roundw
          case rel => exact ⟨k + 1, by go_num, by omega, HR2.out⟩
          case measure => simp [intOf]; omega
        | true =>
          have HC2 : Hid (new k ≠ old k ∧ (new k).p ≠ 2) := HCB.out.1 rfl
          obtain ⟨pk, hpk⟩ : ∃ z, updB nms V old new p0 k = z := ⟨_, rfl⟩
          have HUP : Hid (updB nms V old new p0 (k + 1) = (celP k ⟨t, f, g, d, q⟩, pk.2 ++ celB nms V pk.1 k ⟨t, f, g, d, q⟩)) := by
            show _ = _
            rw [← hpk, ← HE.out]
            exact if_pos HC2.out
          have hsk := US.out k hk
          have hak := UA.out k hk
          have hlk := UL.out k hk
          rw [hpk] at HR hsk hak hlk
          have hst : StyOk f g d := by have := HST.out k hlt; rw [HE.out] at this; exact this
          have hsz : t.size ≤ 20 := by have := HSZ.out k hlt; rw [HE.out] at this; exact this
          have hq01 : q = 0 ∨ q = 1 := by
            have h1 := HPT.out k hlt
            have h2 := HC2.out.2
            rw [HE.out] at h1 h2
            simp only at h1 h2
            omega
          obtain ⟨⟨a0, f0, g0, d0⟩, L0⟩ := pk
          simp only at HR HUP hsk hak hlk
          have hL0 : (l ++ L0).length ≤ 7300000 := by rw [List.length_append]; omega
          obtain ⟨M0, hM0⟩ : ∃ z, l ++ L0 = z := ⟨_, rfl⟩
          have HM0 : Hid (l ++ L0 = M0) := hM0
          rw [hM0] at HR hL0
          clear hM0 hpk
          have HRC : Hid (PenTo w wc B b (V : Int) a0 f0 g0 d0 M0) := HR.out.gr GW.out hB0
          have hm10 := mov_len HV.out (i := k) (by have := HN4.out; omega) a0
          have MV : Hid (Calls Tryd.prog 44 #[.pointer (some ⟨b, 0, none⟩), .int .i64 (k : Int)] wc fun e w' => e = .returned (.tuple #[]) ∧ Hid (PenTo wc w' B b (V : Int) (k : Int) f0 g0 d0 (M0 ++ movB V a0 k))) := by
            obtain ⟨p1, v1, hv1, hv2, _⟩ := HRC.out
            exact penMov_any B b p1 v1 V a0 f0 g0 d0 M0 k wc hv1 (by omega) (Nat.le_trans hBw hv2.size) HV.out (by have := HN4.out; omega) (HRC.out.tens HT.out hgB) hgB
          clear HR GC GW HCB
          go_wp2_with fail
          refine MV.out.mono ?_
          rintro e1 w1 ⟨rfl, H1⟩
          obtain ⟨M1, hM1⟩ : ∃ z, M0 ++ movB V a0 k = z := ⟨_, rfl⟩
          have hL1 : M1.length ≤ 7300010 := by rw [← hM1, List.length_append]; omega
          have HM1 : Hid (M0 ++ movB V a0 k = M1) := hM1
          rw [hM1] at H1
          clear hM1 MV
          have HR1 : Hid (PenTo w w1 B b (V : Int) (k : Int) f0 g0 d0 M1) := HRC.out.next H1.out
          have R1 : Hid (R5 34 w1 S ⟨t, f, g, d, q⟩) := H1.out.block RC.out hSb (by decide)
          have c1 : w1.cell? ⟨S, 1, none⟩ = some (.int .i64 f) := R1.out.c1
          have c2 : w1.cell? ⟨S, 2, none⟩ = some (.int .i64 g) := R1.out.c2
          have c3 : w1.cell? ⟨S, 3, none⟩ = some (.int .i64 d) := R1.out.c3
          have DP : Hid (Calls Tryd.prog 45 #[.pointer (some ⟨b, 0, none⟩), .agg #[.int .i64 f, .int .i64 g, .int .i64 d]] w1 fun e w' => e = .returned (.tuple #[]) ∧ Hid (PenTo w1 w' B b (V : Int) (k : Int) f g d (M1 ++ cds (nms f0 g0 d0 f g d)))) := by
            obtain ⟨p1, v1, hv1, hv2, _⟩ := HR1.out
            exact penDip_any B b p1 v1 (V : Int) (k : Int) f0 g0 d0 M1 f g d w1 hv1 (by omega) (Nat.le_trans hBw hv2.size) hsk hst
          go_wp2_with fail
          refine DP.out.mono ?_
          rintro e2 w2 ⟨rfl, H2⟩
          have hd15 : (cds (nms f0 g0 d0 f g d)).length ≤ 15 := by rw [cds_dipB]; exact dip_len hst
          obtain ⟨M2, hM2⟩ : ∃ z, M1 ++ cds (nms f0 g0 d0 f g d) = z := ⟨_, rfl⟩
          have hL2 : M2.length ≤ 7300025 := by rw [← hM2, List.length_append]; omega
          have HM2 : Hid (M1 ++ cds (nms f0 g0 d0 f g d) = M2) := hM2
          rw [hM2] at H2
          clear hM2 DP c1 c2 c3
          have HR2 : Hid (PenTo w w2 B b (V : Int) (k : Int) f g d M2) := HR1.out.next H2.out
          have R2 : Hid (R5 34 w2 S ⟨t, f, g, d, q⟩) := H2.out.block R1.out hSb (by decide)
          have c0 : w2.cell? ⟨S, 0, none⟩ = some (.string t) := R2.out.c0
          have c1 : w2.cell? ⟨S, 1, none⟩ = some (.int .i64 f) := R2.out.c1
          have c2 : w2.cell? ⟨S, 2, none⟩ = some (.int .i64 g) := R2.out.c2
          have c3 : w2.cell? ⟨S, 3, none⟩ = some (.int .i64 d) := R2.out.c3
          have c4 : w2.cell? ⟨S, 4, none⟩ = some (.int .i64 q) := R2.out.c4
          have WR : Hid (Calls Tryd.prog 46 #[.pointer (some ⟨b, 0, none⟩), .agg #[.string t, .int .i64 f, .int .i64 g, .int .i64 d, .int .i64 q]] w2 fun e w' => e = .returned (.tuple #[]) ∧ Hid (PenTo w2 w' B b (V : Int) ((k : Int) + colI q) f g d (M2 ++ t.data.toList))) := by
            obtain ⟨p1, v1, hv1, hv2, _⟩ := HR2.out
            exact penWr_any B b p1 v1 (V : Int) (k : Int) f g d M2 t f g d q w2 hv1 (by omega) (Nat.le_trans hBw hv2.size) (by omega)
          go_wp2_with fail
          refine WR.out.mono ?_
          rintro e3 w3 ⟨rfl, H3⟩
          have HR3 : Hid (PenTo w w3 B b (V : Int) (updB nms V old new p0 (k + 1)).1.a (updB nms V old new p0 (k + 1)).1.f (updB nms V old new p0 (k + 1)).1.g (updB nms V old new p0 (k + 1)).1.b (l ++ (updB nms V old new p0 (k + 1)).2)) := by
            have X := HR2.out.next H3.out
            have e1 : M2 ++ t.data.toList = l ++ (L0 ++ celB nms V ⟨a0, f0, g0, d0⟩ k ⟨t, f, g, d, q⟩) := by
              unfold celB
              rw [← HM2.out, ← HM1.out, ← HM0.out, cds_dipB]
              simp only [List.append_assoc]
            have e2 : colI q = q + 1 := by rcases hq01 with e | e <;> subst e <;> rfl
            rw [e1, e2] at X
            rw [HUP.out]
            exact X
          clear c0 c1 c2 c3 c4 WR
          go_wp2
          go_roundw
          case rel => exact ⟨k + 1, by go_num, by omega, HR3.out⟩
          case measure => simp [intOf]; omega
    · have hge : ¬ (k : Int) < (n : Int) := by omega
      obtain rfl : k = n := by omega
      have hsk := US.out k hk
      have hlk := UL.out k hk
      have HAL : Hid (allB nms V k old new ⟨-1, 0, 0, 0⟩ = (updB nms V old new p0 k).2 ++ cds (nms (updB nms V old new p0 k).1.f (updB nms V old new p0 k).1.g (updB nms V old new p0 k).1.b 0 0 0)) := by show _ = _; rw [hp0]; rfl
      obtain ⟨pk, hpk⟩ : ∃ z, updB nms V old new p0 k = z := ⟨_, rfl⟩
      rw [hpk] at HR hsk hlk HAL
      obtain ⟨⟨a0, f0, g0, d0⟩, L0⟩ := pk
      simp only at HR hsk hlk HAL
      have DP : Hid (Calls Tryd.prog 45 #[.pointer (some ⟨b, 0, none⟩), .agg #[.int .i64 0, .int .i64 0, .int .i64 0]] wr fun e w' => e = .returned (.tuple #[]) ∧ Hid (PenTo wr w' B b (V : Int) a0 0 0 0 (l ++ L0 ++ cds (nms f0 g0 d0 0 0 0)))) := by
        obtain ⟨p1, v1, hv1, hv2, _⟩ := HR.out
        exact penDip_any B b p1 v1 (V : Int) a0 f0 g0 d0 (l ++ L0) 0 0 0 wr hv1 (by rw [List.length_append]; omega) (Nat.le_trans hBw hv2.size) hsk ⟨by decide, by decide, by decide⟩
      go_wp2_with fail
      refine DP.out.mono ?_
      rintro e1 w1 ⟨rfl, H1⟩
      go_wp2
      go_end0
      refine ⟨rfl, a0, ?_⟩
      rw [HAL.out, ← List.append_assoc]
      exact HR.out.next H1.out

end Go.Proofs.YtlfffpoeioecjaaDoor
