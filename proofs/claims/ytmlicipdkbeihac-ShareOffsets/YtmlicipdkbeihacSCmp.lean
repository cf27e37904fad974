/-
  Both comparisons as the stable sort asks.
-/
import Derived.Test.YtmlicipdkbeihacSFrac
import Derived.Test.YtmlicipdkbeihacSFill
import Derived.Test.YtmlicipdkbeihacSOrd
namespace Go.Proofs.Ytmlicipdkbeihac
open Go.RowKit Go.Sort
set_option linter.unusedVariables false

theorem cmpG_frac (F : List Int) (bx fb fo fc blk : Nat) (w0 : World) (hb : w0.cell? ⟨bx, 0, none⟩ = some (.slice (some ⟨fb, fo, none⟩) F.length fc)) (hF : ∀ j, j < F.length → w0.cell? ⟨fb, fo + j, none⟩ = some (.int .i64 (F[j]?.getD 0))) (D : List Int) (hD : ∀ x ∈ D, ∃ j : Nat, x = j ∧ j < F.length) (hlen : F.length ≤ 1099511627776) (h1 : bx ≠ blk) (h2 : fb ≠ blk) :
    CmpG 31 #[.pointer (some ⟨bx, 0, none⟩)] (fun i k => cmpI (F[k.toNat]?.getD 0) (F[i.toNat]?.getD 0)) D w0 blk := by
  intro W hW x hx y hy
  obtain ⟨i, rfl, hi⟩ := hD x hx
  obtain ⟨k, rfl, hk⟩ := hD y hy
  exact frac_any F bx fb fo fc W (hW.cell hb (by simpa using h1)) (fun j hj => hW.cell (hF j hj) (by simpa using h2)) i k hi hk hlen

theorem cmpG_fill (n bx wb wo wc blk : Nat) (Mn Mx Wt : Nat → Int) (w0 : World) (hb : w0.cell? ⟨bx, 0, none⟩ = some (.slice (some ⟨wb, wo, none⟩) n wc))
    (hW : ∀ j, j < n → w0.cell? ⟨wb, wo + j * 3, none⟩ = some (.int .i64 (Mn j)) ∧ w0.cell? ⟨wb, wo + j * 3 + 1, none⟩ = some (.int .i64 (Mx j)) ∧ w0.cell? ⟨wb, wo + j * 3 + 2, none⟩ = some (.int .i64 (Wt j)))
    (hR : ∀ j, j < n → 0 ≤ Mx j - Mn j ∧ Mx j - Mn j ≤ 1073741824 ∧ 0 ≤ Wt j ∧ Wt j ≤ 1073741824) (D : List Int) (hD : ∀ x ∈ D, ∃ j : Nat, x = j ∧ j < n) (hlen : n ≤ 1099511627776) (h1 : bx ≠ blk) (h2 : wb ≠ blk) (s1 : bx < w0.heap.size) (s2 : wb < w0.heap.size) :
    CmpG 28 #[.pointer (some ⟨bx, 0, none⟩)] (fun i k => cmpI ((Mx i.toNat - Mn i.toNat) * Wt k.toNat) ((Mx k.toNat - Mn k.toNat) * Wt i.toNat)) D w0 blk := by
  intro W hg x hx y hy
  obtain ⟨i, rfl, hi⟩ := hD x hx
  obtain ⟨k, rfl, hk⟩ := hD y hy
  exact fill_any n bx wb wo wc W (hg.cell hb (by simpa using h1)) i k (Mn i) (Mx i) (Wt i) (Mn k) (Mx k) (Wt k) (hg.cell (hW i hi).1 (by simpa using h2)) (hg.cell (hW i hi).2.1 (by simpa using h2)) (hg.cell (hW i hi).2.2 (by simpa using h2)) (hg.cell (hW k hk).1 (by simpa using h2)) (hg.cell (hW k hk).2.1 (by simpa using h2)) (hg.cell (hW k hk).2.2 (by simpa using h2)) (hR i hi) (hR k hk) hi hk hlen (Nat.lt_of_lt_of_le s1 hg.size) (Nat.lt_of_lt_of_le s2 hg.size)

end Go.Proofs.Ytmlicipdkbeihac
