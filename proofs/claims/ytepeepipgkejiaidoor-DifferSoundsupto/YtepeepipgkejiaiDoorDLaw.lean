/-
  DifferSounds, walked.
-/
import Derived.Test.YtepeepipgkejiaiDoorDWh
import Derived.Test.YtepeepipgkejiaiDoorDPnt
namespace Go.Proofs.YtepeepipgkejiaiDoor
open Go.RowKit Go.Sort
set_option linter.unusedVariables false

theorem painting_any (n cap : Nat) (p : Option Addr) (C : Nat → Ce) (w : World) (hC : n = 0 ∨ ∃ g off, p = some ⟨g, off, none⟩ ∧ CL w g off n C) (hn : n ≤ 1048576) :
    Calls Tryd.prog 18 #[.slice p n cap] w fun e w' => ∃ v, e = .returned v ∧ Pic w' v n C ∧ Below w.heap.size w w' := by
  rcases hC with rfl | ⟨g, off, rfl, h⟩
  · exact painting_none p cap C w
  · exact painting_some n g off cap C w h hn

set_option maxRecDepth 100000 in
set_option maxHeartbeats 4000000 in
theorem dsounds_walk (C : Nat → Ce) (x : Int) (p : Option Addr) (n cap : Nat) (w : World) (hC : n = 0 ∨ ∃ g off, p = some ⟨g, off, none⟩ ∧ CL w g off n C) (hs : ∀ i, i < n → (C i).t.size ≤ 1099511627776) (hb : n ≤ 1048576) (ht : TabAt w) :
    Calls Tryd.prog 7 #[.slice p n cap, .int .i64 x] w fun e w' => e = .returned (.bool true) ∧ Below w.heap.size w w' := by
  have hmix : Tryd.prog.follows .mixedOrders = true := by kernel_rfl
  have HC : Hid (∀ w', Below w.heap.size w w' → (n = 0 ∨ ∃ g off, p = some ⟨g, off, none⟩ ∧ CL w' g off n C)) := fun w' hb => by
    rcases hC with h | ⟨g, off, h1, h2⟩
    · exact .inl h
    · exact .inr ⟨g, off, h1, h2.below hb⟩
  have HZ : Hid (∀ i, i < n → (C i).t.size ≤ 1099511627776) := hs
  have HT : Hid (TabAt w) := ht
  clear hC hs ht
  go_enter Tryd.func7, Tryd.ntmps7
  go_wp2_with fail
  refine (painting_any n cap p C w (HC.out w (Below.refl _ _)) hb).mono ?_
  rintro e w1 ⟨v, rfl, ⟨p1, cap1, rfl, h1, h2, h3⟩, b1⟩
  have HB1 : Hid (Below w.heap.size w w1) := b1
  have DS : Hid (Calls Tryd.prog 17 #[.slice p1 n cap1, .int .i64 x] w1 fun r w' => Tells w1 w' r (Scr C n x)) := dSound_any C x p1 n cap1 hb h1 h2 w1 h3 (HT.out.below b1) HZ.out
  clear h1 h2 h3 b1
  go_wp2_with fail
  refine DS.out.mono ?_
  rintro e w2 ⟨a1, rfl, i1, b2⟩
  have HB2 : Hid (Below w.heap.size w w2) := HB1.out.trans (b2.mono HB1.out.size)
  have HI1 : Hid (a1 = true ↔ Scr C n x) := i1
  have WH : Hid (Calls Tryd.prog 19 #[.slice p n cap, .int .i64 x] w2 fun r w' => Tells w2 w' r (Scr C n x)) := whole_any C x p n cap hb w2 (HC.out w2 HB2.out) HZ.out
  clear b2 i1 DS
  go_wp2_with fail
  refine WH.out.mono ?_
  rintro e w3 ⟨a2, rfl, i2, b3⟩
  have HB3 : Hid (Below w.heap.size w w3) := HB2.out.trans (b3.mono HB2.out.size)
  have he : a1 = a2 := by
    have h1 := HI1.out
    cases a1 <;> cases a2 <;> simp_all
  subst he
  clear b3 i2 WH HI1
  go_wp2
  go_ret
  exact ⟨by simp, HB3.out⟩

end Go.Proofs.YtepeepipgkejiaiDoor
