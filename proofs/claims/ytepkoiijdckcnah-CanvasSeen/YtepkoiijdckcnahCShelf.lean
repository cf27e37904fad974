/-
  Functions of the library at this dump: the library's own contracts, laid.
-/
import Derived.Shelf.Bits.Mul64
import Derived.Test.YtepkoiijdckcnahProg
namespace Go.Proofs.Ytepkoiijdckcnah
open Go.Shelf Go.RowKit
def libRen : Go.Shelf.Ren := ⟨fun | 212 => 29 | 263 => 32 | 264 => 33 | n => n, fun | 46 => 69 | 51 => 73 | 53 => 76 | 146 => 74 | 148 => 77 | n => n, fun | n => n⟩
theorem lays212 : Go.Proofs.Lays.n212 Try.prog libRen := {
  mixed := by kernel_rfl
  f212 := Try.func29.trans (congrArg some (by kernel_rfl))
  f263 := Try.func32.trans (congrArg some (by kernel_rfl))
  f264 := Try.func33.trans (congrArg some (by kernel_rfl))
  t46 := Try.underlying69
  a46 := Try.isAgg69
  z46 := Try.sizeOf69
  v46 := Try.zeroValue69
  t51 := Try.underlying73
  a51 := Try.isAgg73
  z51 := Try.sizeOf73
  v51 := Try.zeroValue73
  t53 := Try.underlying76
  a53 := Try.isAgg76
  z53 := Try.sizeOf76
  v53 := Try.zeroValue76
  t146 := Try.underlying74
  a146 := Try.isAgg74
  z146 := Try.sizeOf74
  v146 := Try.zeroValue74
  t148 := Try.underlying77
  a148 := Try.isAgg77
  z148 := Try.sizeOf77
  v148 := Try.zeroValue77 }
theorem mul_lib (x y : Nat) (hx : x < 18446744073709551616) (hy : y < 18446744073709551616) (w : World) :
    Calls Try.prog 29 #[.int .u64 x, .int .u64 y] w fun e w' => e = .returned (.tuple #[.int .u64 ((x * y / 18446744073709551616 : Nat) : Int), .int .u64 ((x * y % 18446744073709551616 : Nat) : Int)]) ∧ w' = w := Any.bits_Mul lays212 x y hx hy w
end Go.Proofs.Ytepkoiijdckcnah
