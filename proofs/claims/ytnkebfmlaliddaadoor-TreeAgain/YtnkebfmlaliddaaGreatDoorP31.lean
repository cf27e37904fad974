/-
  strconv.Itoa of any number, by the library's own contract.
-/
import Derived.Test.YtnkebfmlaliddaaGreatDoorP08
import Derived.Test.YtnkebfmlaliddaaGreatDoorP09
namespace Go.Proofs.YtnkebfmlaliddaaGreatDoor
open Go.Shelf Go.RowKit
set_option linter.unusedVariables false

theorem laysM171 : Go.Proofs.LaysM.n171 Tryz.prog yRen := { lays171 with
  i0 := by kernel_rfl
  i2 := by kernel_rfl
  i3 := by kernel_rfl
  i4 := by kernel_rfl
  i5 := by kernel_rfl
  i9 := by kernel_rfl
  i20 := by kernel_rfl
  i37 := by kernel_rfl
  i46 := by kernel_rfl
  i51 := by kernel_rfl
  i53 := by kernel_rfl
  i171 := by kernel_rfl
  i173 := by kernel_rfl
  i212 := by kernel_rfl
  i232 := by kernel_rfl
  i233 := by kernel_rfl
  m17 := by kernel_rfl
  m18 := by kernel_rfl
  m19 := by kernel_rfl }
/-- The table of tens, by its number. -/
def TensAt (w : World) : Prop := ∃ nm : String, Tryz.prog.globalNamed nm = some 9 ∧ Lib.TabIs Tryz.prog w nm .u64 Lib.pow10Tab
theorem tab_name {P : Program} {w : World} {n n' : String} {k : IntKind} {zs : List Int} {g : Nat} (h1 : P.globalNamed n = some g) (h2 : P.globalNamed n' = some g) (h : Lib.TabIs P w n k zs) : Lib.TabIs P w n' k zs := by
  unfold Lib.TabIs World.var? at *
  rw [h1] at h
  rw [h2]
  exact h
theorem TensAt.below {w w' : World} {B : Nat} (h : TensAt w) (hb : Below B w w') (hg : 9 < B) : TensAt w' := by
  obtain ⟨nm, h1, h2⟩ := h
  refine ⟨nm, h1, ?_⟩
  unfold Lib.TabIs World.var? at *
  rw [h1] at h2 ⊢
  simp only [Option.bind_some] at h2 ⊢
  have : w'.heap[9]? = w.heap[9]? := hb.block _ hg
  rw [this]
  exact h2
theorem itoa_any (n : Nat) (hn : n ≤ 1000000) (w : World) (ht : TensAt w) :
    Calls Tryz.prog 54 #[.int .i64 n] w fun e w' => e = .returned (.string ⟨(Lib.decDigits n).toArray⟩) ∧ Gr w w' := by
  obtain ⟨nm, h1, h2⟩ := ht
  refine (Any.strconv_Itoa laysM171 n (by omega) (by omega) w (tab_name h1 (by kernel_rfl) h2)).mono fun e w' ⟨h, k, os, hw⟩ => ?_
  refine ⟨?_, ?_⟩
  · rw [h]
    have : Lib.itoa (n : Int) = Lib.decDigits n := by
      unfold Lib.itoa
      first
        | rw [if_neg (by omega)]; rfl
        | simp
    rw [this]
  · exact ⟨k, os, hw⟩

end Go.Proofs.YtnkebfmlaliddaaGreatDoor
