/-
  What Codes writes, read back as numbers; what these numbers do to a style. Plain mathematics.
-/
import Derived.Test.YtlfffpoeioecjaaDoorG12
namespace Go.Proofs.YtlfffpoeioecjaaDoor
open Go.RowKit Go.Sort
set_option linter.unusedVariables false

/-- The numbers of a text's rest: behind those in l, of d digits n so far. -/
def sc : List UInt8 → List Int → Int → Nat → Option (List Int)
  | [], l, _, _ => some l
  | c :: r, l, n, d => if 48 ≤ c.toNat ∧ c.toNat ≤ 57 ∧ d < 3 then sc r l (10 * n + ((c.toNat : Int) - 48)) (d + 1) else if d = 0 ∨ (c.toNat ≠ 59 ∧ r ≠ []) then none else sc r (l ++ [n]) 0 0
theorem sc_digit {c : UInt8} {r : List UInt8} {l : List Int} {n : Int} {d : Nat} (h : 48 ≤ c.toNat ∧ c.toNat ≤ 57 ∧ d < 3) : sc (c :: r) l n d = sc r l (10 * n + ((c.toNat : Int) - 48)) (d + 1) := by rw [sc, if_pos h]
theorem sc_sep {c : UInt8} {r : List UInt8} {l : List Int} {n : Int} {d : Nat} (h : ¬ (48 ≤ c.toNat ∧ c.toNat ≤ 57 ∧ d < 3)) (hd : d ≠ 0) (hr : c.toNat = 59 ∨ r = []) : sc (c :: r) l n d = sc r (l ++ [n]) 0 0 := by
  rw [sc, if_neg h, if_neg]
  rintro (e | ⟨e1, e2⟩)
  · exact hd e
  · rcases hr with e | e
    · exact e1 e
    · exact e2 e
theorem d8 {n : Int} (h : 0 ≤ n ∧ n < 10) : ((48 + n).toNat.toUInt8).toNat = (48 + n).toNat := by
  rw [UInt8.toNat_ofNat_of_lt']
  show _ < 256
  omega
theorem dc_one {n : Int} (h : 0 ≤ n ∧ n < 10) : dc n = [(48 + n).toNat.toUInt8] := by
  unfold dc
  rw [Lib.decDigits, dif_pos (by omega)]
  have : 48 + n.toNat = (48 + n).toNat := by omega
  rw [this]
theorem dc_two {n : Int} (h : 10 ≤ n ∧ n < 100) : dc n = [(48 + n / 10).toNat.toUInt8, (48 + n % 10).toNat.toUInt8] := by
  unfold dc
  rw [Lib.decDigits, dif_neg (by omega), Lib.decDigits, dif_pos (by omega)]
  have e1 : 48 + n.toNat / 10 = (48 + n / 10).toNat := by omega
  have e2 : 48 + n.toNat % 10 = (48 + n % 10).toNat := by omega
  rw [e1, e2]
  rfl
theorem sc_dc {n : Int} (h : 0 ≤ n ∧ n < 100) (c : UInt8) (hc : ¬ (48 ≤ c.toNat ∧ c.toNat ≤ 57)) (r : List UInt8) (hr : c.toNat = 59 ∨ r = []) (l : List Int) : sc (dc n ++ (c :: r)) l 0 0 = sc r (l ++ [n]) 0 0 := by
  by_cases h1 : n < 10
  · have e := d8 (n := n) ⟨h.1, h1⟩
    rw [dc_one ⟨h.1, h1⟩, List.singleton_append, sc_digit (by rw [e]; omega), sc_sep (fun k => hc ⟨k.1, k.2.1⟩) (by omega) hr, e]
    rw [show (10 * 0 + (((48 + n).toNat : Int) - 48)) = n by omega]
  · have e1 := d8 (n := n / 10) (by omega)
    have e2 := d8 (n := n % 10) (by omega)
    rw [dc_two (by omega), List.cons_append, List.singleton_append, sc_digit (by rw [e1]; omega), sc_digit (by rw [e2]; omega), sc_sep (fun k => hc ⟨k.1, k.2.1⟩) (by omega) hr, e1, e2]
    rw [show (10 * (10 * 0 + (((48 + n / 10).toNat : Int) - 48)) + (((48 + n % 10).toNat : Int) - 48)) = n by omega]
theorem sc_tail (ns : List Int) : ∀ (n : Int) (l : List Int), Small (n :: ns) → sc (dc n ++ (Lib.joinTail [59] (ns.map dc) ++ [109])) l 0 0 = some (l ++ n :: ns) := by
  induction ns with
  | nil =>
    intro n l h
    have : Lib.joinTail [59] (([] : List Int).map dc) = [] := by simp [Lib.joinTail]
    rw [this, List.nil_append, sc_dc (h n (List.mem_cons_self ..)) 109 (by decide) [] (.inr rfl)]
    rfl
  | cons m r ih =>
    intro n l h
    have : Lib.joinTail [59] ((m :: r).map dc) ++ [109] = 59 :: (dc m ++ (Lib.joinTail [59] (r.map dc) ++ [109])) := by simp [Lib.joinTail]
    rw [this, sc_dc (h n (List.mem_cons_self ..)) 59 (by decide) _ (.inl (by decide)), ih m (l ++ [n]) (fun k hk => h k (List.mem_cons_of_mem _ hk))]
    simp
theorem sc_sq {ns : List Int} (h : Small ns) (hp : ns ≠ []) : sc ((sq ns).drop 2) [] 0 0 = some ns := by
  cases ns with
  | nil => exact absurd rfl hp
  | cons n r =>
    have : (sq (n :: r)).drop 2 = dc n ++ (Lib.joinTail [59] (r.map dc) ++ [109]) := by
      unfold sq
      rw [List.map_cons, Lib.join_cons]
      simp
    rw [this, sc_tail r n [] h]
    rfl
theorem sq_len {ns : List Int} (h : Small ns) (hp : ns ≠ []) (hl : ns.length ≤ 4) : 4 ≤ (sq ns).length ∧ (sq ns).length ≤ 15 := by
  have h1 := join_len ns h
  have h2 : 1 ≤ (Lib.join (ns.map dc) [59]).length := by
    cases ns with
    | nil => exact absurd rfl hp
    | cons n r =>
      have := dc_len (h n (List.mem_cons_self ..))
      rw [List.map_cons, Lib.join_cons, List.length_append]
      omega
  unfold sq
  simp only [List.length_append, List.length_cons, List.length_nil]
  omega
theorem sq_0 (ns : List Int) : (sq ns)[0]? = some 27 := rfl
theorem sq_1 (ns : List Int) : (sq ns)[1]? = some 91 := rfl
theorem sq_last (ns : List Int) : (sq ns)[(sq ns).length - 1]? = some 109 := by
  have e : sq ns = ([27, 91] ++ Lib.join (ns.map dc) [59]) ++ [109] := by unfold sq; rw [List.append_assoc]
  rw [e, List.length_append]
  simp

/-- What the numbers do, part by part. -/
theorem apF_app (a b : List Int) (f : Int) : apF (a ++ b) f = apF b (apF a f) := List.foldl_append
theorem apG_app (a b : List Int) (f : Int) : apG (a ++ b) f = apG b (apG a f) := List.foldl_append
theorem apB_app (a b : List Int) (f : Int) : apB (a ++ b) f = apB b (apB a f) := List.foldl_append
theorem one_F (n f : Int) : apF [n] f = apf n f := rfl
theorem one_G (n f : Int) : apG [n] f = apg n f := rfl
theorem one_B (n f : Int) : apB [n] f = apb n f := rfl
theorem hueF {n : Int} (h : 0 ≤ n ∧ n ≤ 8) : (hue n 29 39 = 39 ∧ n = 0) ∨ (30 ≤ hue n 29 39 ∧ hue n 29 39 ≤ 37 ∧ hue n 29 39 = 29 + n) := by unfold hue; split <;> omega
theorem hueG {n : Int} (h : 0 ≤ n ∧ n ≤ 8) : (hue n 39 49 = 49 ∧ n = 0) ∨ (40 ≤ hue n 39 49 ∧ hue n 39 49 ≤ 47 ∧ hue n 39 49 = 39 + n) := by unfold hue; split <;> omega
theorem bold_F (z z2 f : Int) : apF (cBold z z2) f = f := by unfold cBold; split; exact apf_no (n := 1) f (by decide) (by decide) (by decide); rfl
theorem bold_G (z z2 f : Int) : apG (cBold z z2) f = f := by unfold cBold; split; exact apg_no (n := 1) f (by decide) (by decide) (by decide); rfl
theorem bold_B {z z2 : Int} (h : 0 ≤ z ∧ z ≤ z2 ∧ z2 ≤ 1) : apB (cBold z z2) z = z2 := by
  unfold cBold; split
  · rw [one_B]; unfold apb; simp; omega
  · show z = z2; omega
theorem fg_F {x x2 : Int} (h : 0 ≤ x2 ∧ x2 ≤ 8) : apF (cFg x x2) x = x2 := by
  unfold cFg; split
  · show x = x2; omega
  · rw [one_F]
    rcases hueF h with ⟨e, e2⟩ | ⟨e1, e2, e3⟩
    · rw [e, e2]; rfl
    · rw [apf_in _ ⟨e1, e2⟩]; omega
theorem fg_G {x x2 g : Int} (h : 0 ≤ x2 ∧ x2 ≤ 8) : apG (cFg x x2) g = g := by
  unfold cFg; split
  · rfl
  · rw [one_G]; have := hueF h; exact apg_no g (by omega) (by omega) (by omega)
theorem fg_B {x x2 g : Int} (h : 0 ≤ x2 ∧ x2 ≤ 8) : apB (cFg x x2) g = g := by
  unfold cFg; split
  · rfl
  · rw [one_B]; have := hueF h; exact apb_no g (by omega) (by omega) (by omega)
theorem bg_G {x x2 : Int} (h : 0 ≤ x2 ∧ x2 ≤ 8) : apG (cBg x x2) x = x2 := by
  unfold cBg; split
  · show x = x2; omega
  · rw [one_G]
    rcases hueG h with ⟨e, e2⟩ | ⟨e1, e2, e3⟩
    · rw [e, e2]; rfl
    · rw [apg_in _ ⟨e1, e2⟩]; omega
theorem bg_F {x x2 g : Int} (h : 0 ≤ x2 ∧ x2 ≤ 8) : apF (cBg x x2) g = g := by
  unfold cBg; split
  · rfl
  · rw [one_F]; have := hueG h; exact apf_no g (by omega) (by omega) (by omega)
theorem bg_B {x x2 g : Int} (h : 0 ≤ x2 ∧ x2 ≤ 8) : apB (cBg x x2) g = g := by
  unfold cBg; split
  · rfl
  · rw [one_B]; have := hueG h; exact apb_no g (by omega) (by omega) (by omega)
section
variable {x y z x2 y2 z2 : Int}
theorem chg_F (hx : 0 ≤ x2 ∧ x2 ≤ 8) (hy : 0 ≤ y2 ∧ y2 ≤ 8) : apF (chg x y z x2 y2 z2) x = x2 := by
  unfold chg; rw [apF_app, apF_app, bold_F, fg_F hx, bg_F hy]
theorem chg_G (hx : 0 ≤ x2 ∧ x2 ≤ 8) (hy : 0 ≤ y2 ∧ y2 ≤ 8) : apG (chg x y z x2 y2 z2) y = y2 := by
  unfold chg; rw [apG_app, apG_app, bold_G, fg_G hx, bg_G hy]
theorem chg_B (hx : 0 ≤ x2 ∧ x2 ≤ 8) (hy : 0 ≤ y2 ∧ y2 ≤ 8) (hz : 0 ≤ z ∧ z ≤ z2 ∧ z2 ≤ 1) : apB (chg x y z x2 y2 z2) z = z2 := by
  unfold chg; rw [apB_app, apB_app, bold_B hz, fg_B hx, bg_B hy]
theorem nms_ne (h : ¬ (x = x2 ∧ y = y2 ∧ z = z2)) (hz2 : 0 ≤ z2 ∧ z2 ≤ 1) : nms x y z x2 y2 z2 ≠ [] := by
  unfold nms
  rw [if_neg h]
  split
  · simp
  · rename_i h2
    split
    · simp
    · rename_i h3
      intro e
      have := chg_pos h h3
      rw [e] at this
      simp at this
/-- The numbers turn the one style into the other one. -/
theorem turned (hx : 0 ≤ x ∧ x ≤ 8) (hy : 0 ≤ y ∧ y ≤ 8) (hz : 0 ≤ z ∧ z ≤ 1) (hx2 : 0 ≤ x2 ∧ x2 ≤ 8) (hy2 : 0 ≤ y2 ∧ y2 ≤ 8) (hz2 : 0 ≤ z2 ∧ z2 ≤ 1) (h : ¬ (x = x2 ∧ y = y2 ∧ z = z2)) :
    aplF (nms x y z x2 y2 z2) x = x2 ∧ aplG (nms x y z x2 y2 z2) y = y2 ∧ aplB (nms x y z x2 y2 z2) z = z2 := by
  have hn := nms_ne h hz2
  unfold aplF aplG aplB
  rw [if_neg hn, if_neg hn, if_neg hn, kn_of hx, kn_of hy, bo_of hz]
  unfold nms
  rw [if_neg h]
  split
  · rename_i h2
    obtain ⟨rfl, rfl, rfl⟩ := h2
    exact ⟨rfl, rfl, rfl⟩
  · split
    · refine ⟨?_, ?_, ?_⟩
      · show apF (chg 0 0 0 x2 y2 z2) (apf 0 x) = x2
        exact chg_F hx2 hy2
      · show apG (chg 0 0 0 x2 y2 z2) (apg 0 y) = y2
        exact chg_G hx2 hy2
      · show apB (chg 0 0 0 x2 y2 z2) (apb 0 z) = z2
        exact chg_B hx2 hy2 ⟨by omega, hz2.1, hz2.2⟩
    · rename_i h3
      exact ⟨chg_F hx2 hy2, chg_G hx2 hy2, chg_B hx2 hy2 ⟨hz.1, by omega, hz2.2⟩⟩
end
end Go.Proofs.YtlfffpoeioecjaaDoor
