/-
  CanvasSeen, of every cluster.
-/
import Derived.Test.YtepkoiijdckcnahCSeenA
import Derived.Test.YtepkoiijdckcnahCSeenB
namespace Go.Proofs.Ytepkoiijdckcnah
open Go.RowKit Go.Sort
set_option linter.unusedVariables false
theorem seen_walk (x0 x1 : Int) (v : Value) (n : Nat) (op : Nat → OpR) (w : World) (h : OpsIn w v n op) (hn : n ≤ 17592186044416) (x y : Int) (s : ByteArray) (wide : Bool) (f g b : Int) (hx : -9223372036854775808 ≤ x ∧ x ≤ 9223372036854775807) : Calls Try.prog 3 #[.int .i64 x0, .int .i64 x1, v, .int .i64 x, .int .i64 y, .string s, .bool wide, .agg #[.int .i64 f, .int .i64 g, .int .i64 b]] w fun e w' => e = .returned (.bool true) ∧ Below w.heap.size w w' := by
  by_cases hg : (1 ≤ x0 ∧ x0 ≤ 400) ∧ (1 ≤ x1 ∧ x1 ≤ 400)
  · obtain ⟨W, rfl⟩ := Int.eq_ofNat_of_zero_le (show 0 ≤ x0 by omega)
    obtain ⟨H, rfl⟩ := Int.eq_ofNat_of_zero_le (show 0 ≤ x1 by omega)
    cases wide with
    | true => exact seen_ok2 W H (by omega) (by omega) v n op w h hn x y s f g b hx
    | false => exact seen_ok1 W H (by omega) (by omega) v n op w h hn x y s f g b hx
  · exact seen_bad x0 x1 v v x y s wide f g b w hg
end Go.Proofs.Ytepkoiijdckcnah
