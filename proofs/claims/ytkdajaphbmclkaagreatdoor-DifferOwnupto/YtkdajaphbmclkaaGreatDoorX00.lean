/-
  Functions of the library at this dump: the library's own contracts, laid.
-/
import Derived.Shelf.Bits.Mul64
import Derived.Test.YtkdajaphbmclkaaGreatDoorProg
namespace Go.Proofs.YtkdajaphbmclkaaGreatDoor
open Go.Shelf Go.RowKit
def libRen : Go.Shelf.Ren := ⟨fun | 212 => 35 | 263 => 53 | 264 => 54 | n => n, fun | 46 => 85 | 51 => 105 | 53 => 108 | 146 => 106 | 148 => 109 | n => n, fun | n => n⟩
theorem lays212 : Go.Proofs.Lays.n212 Tryz.prog libRen := {
  mixed := by kernel_rfl
  f212 := Tryz.func35.trans (congrArg some (by kernel_rfl))
  f263 := Tryz.func53.trans (congrArg some (by kernel_rfl))
  f264 := Tryz.func54.trans (congrArg some (by kernel_rfl))
  t46 := Tryz.underlying85
  a46 := Tryz.isAgg85
  z46 := Tryz.sizeOf85
  v46 := Tryz.zeroValue85
  t51 := Tryz.underlying105
  a51 := Tryz.isAgg105
  z51 := Tryz.sizeOf105
  v51 := Tryz.zeroValue105
  t53 := Tryz.underlying108
  a53 := Tryz.isAgg108
  z53 := Tryz.sizeOf108
  v53 := Tryz.zeroValue108
  t146 := Tryz.underlying106
  a146 := Tryz.isAgg106
  z146 := Tryz.sizeOf106
  v146 := Tryz.zeroValue106
  t148 := Tryz.underlying109
  a148 := Tryz.isAgg109
  z148 := Tryz.sizeOf109
  v148 := Tryz.zeroValue109 }
theorem mul_lib (x y : Nat) (hx : x < 18446744073709551616) (hy : y < 18446744073709551616) (w : World) :
    Calls Tryz.prog 35 #[.int .u64 x, .int .u64 y] w fun e w' => e = .returned (.tuple #[.int .u64 ((x * y / 18446744073709551616 : Nat) : Int), .int .u64 ((x * y % 18446744073709551616 : Nat) : Int)]) ∧ w' = w := Any.bits_Mul lays212 x y hx hy w
end Go.Proofs.YtkdajaphbmclkaaGreatDoor
