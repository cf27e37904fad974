/-
  A script as it is handed in.
-/
import Derived.Test.YtkcddikpjblpaagCEas
import Derived.Test.YtkcddikpjblpaagCDrw
namespace Go.Proofs.Ytkcddikpjblpaag
open Go.RowKit Go.Sort
set_option linter.unusedVariables false

structure OpR where
  kd : Int
  a : Int
  b : Int
  s : ByteArray
  t : ByteArray
  p : Option Addr
  m : Nat
  zs : List Int
/-- A script in memory. -/
def OpsIn (w : World) (v : Value) (n : Nat) (op : Nat → OpR) : Prop :=
  ∃ a cap, v = .slice a n cap ∧ (n = 0 ∨ ∃ b off, a = some ⟨b, off, none⟩ ∧ b < w.heap.size ∧ ∀ i, i < n →
    w.cell? ⟨b, off + i * 6, none⟩ = some (.int .i64 (op i).kd) ∧ w.cell? ⟨b, off + i * 6 + 1, none⟩ = some (.int .i64 (op i).a) ∧ w.cell? ⟨b, off + i * 6 + 2, none⟩ = some (.int .i64 (op i).b) ∧ w.cell? ⟨b, off + i * 6 + 3, none⟩ = some (.string (op i).s) ∧ w.cell? ⟨b, off + i * 6 + 4, none⟩ = some (.string (op i).t) ∧ w.cell? ⟨b, off + i * 6 + 5, none⟩ = some (.slice (op i).p (op i).zs.length (op i).m) ∧
    Ints w (.slice (op i).p (op i).zs.length (op i).m) (op i).zs)
/-- The cells behind so many steps. -/
def play (W H : Nat) (op : Nat → OpR) : Nat → Nat → Nat → Ce
  | 0 => fun _ _ => bk 0 0 0
  | i + 1 => drawC W H (play W H op i) (op i).kd (op i).a (op i).b (op i).s (op i).zs
theorem play_pairs {W H : Nat} (op : Nat → OpR) (hW : 1 ≤ W ∧ W ≤ 400) (hH : 1 ≤ H ∧ H ≤ 400) : ∀ i, PAll W H (play W H op i)
  | 0 => fun y _ => ⟨fun i _ => .inl rfl, fun i _ h => by have : (0 : Int) = 1 := h; omega, fun i _ h => by have : (0 : Int) = 2 := h; omega⟩
  | i + 1 => (play_pairs op hW hH i).draw hW hH _ _ _ _ _
end Go.Proofs.Ytkcddikpjblpaag
