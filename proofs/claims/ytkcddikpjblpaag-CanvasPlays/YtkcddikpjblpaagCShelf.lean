/-
  Functions of the library at this dump: the library's own contracts, laid.
-/
import Derived.Shelf.Bits.Mul64
import Derived.Test.YtkcddikpjblpaagProg
namespace Go.Proofs.Ytkcddikpjblpaag
open Go.Shelf Go.RowKit
def libRen : Go.Shelf.Ren := ⟨fun | 212 => 54 | 263 => 58 | 264 => 59 | n => n, fun | 46 => 98 | 51 => 103 | 53 => 106 | 146 => 104 | 148 => 107 | n => n, fun | n => n⟩
theorem lays212 : Go.Proofs.Lays.n212 Try.prog libRen := {
  mixed := by kernel_rfl
  f212 := Try.func54.trans (congrArg some (by kernel_rfl))
  f263 := Try.func58.trans (congrArg some (by kernel_rfl))
  f264 := Try.func59.trans (congrArg some (by kernel_rfl))
  t46 := Try.underlying98
  a46 := Try.isAgg98
  z46 := Try.sizeOf98
  v46 := Try.zeroValue98
  t51 := Try.underlying103
  a51 := Try.isAgg103
  z51 := Try.sizeOf103
  v51 := Try.zeroValue103
  t53 := Try.underlying106
  a53 := Try.isAgg106
  z53 := Try.sizeOf106
  v53 := Try.zeroValue106
  t146 := Try.underlying104
  a146 := Try.isAgg104
  z146 := Try.sizeOf104
  v146 := Try.zeroValue104
  t148 := Try.underlying107
  a148 := Try.isAgg107
  z148 := Try.sizeOf107
  v148 := Try.zeroValue107 }
theorem mul_lib (x y : Nat) (hx : x < 18446744073709551616) (hy : y < 18446744073709551616) (w : World) :
    Calls Try.prog 54 #[.int .u64 x, .int .u64 y] w fun e w' => e = .returned (.tuple #[.int .u64 ((x * y / 18446744073709551616 : Nat) : Int), .int .u64 ((x * y % 18446744073709551616 : Nat) : Int)]) ∧ w' = w := Any.bits_Mul lays212 x y hx hy w
end Go.Proofs.Ytkcddikpjblpaag
