/-
  panelaw.alike of two lists that hold the same clusters: true.
-/
import Derived.Test.YtlioofikfgdnmaaDoorClsMem
namespace Go.Proofs.YtlioofikfgdnmaaDoor
open Go.RowKit
set_option linter.unusedVariables false

set_option maxHeartbeats 1000000 in
theorem alike_some (l : List (List UInt8 × Int)) (b off cap b2 off2 cap2 : Nat) (w : World) (hb : b < w.heap.size) (hc : ∀ j (hj : j < l.length), w.cell? ⟨b, off + j * 2, none⟩ = some (.string ⟨(l[j]).1.toArray⟩) ∧ w.cell? ⟨b, off + j * 2 + 1, none⟩ = some (.int .i64 (l[j]).2))
    (hb2 : b2 < w.heap.size) (hc2 : ∀ j (hj : j < l.length), w.cell? ⟨b2, off2 + j * 2, none⟩ = some (.string ⟨(l[j]).1.toArray⟩) ∧ w.cell? ⟨b2, off2 + j * 2 + 1, none⟩ = some (.int .i64 (l[j]).2)) (hlen : l.length ≤ 17592186044416) :
    Calls Tryd.prog 13 #[.slice (some ⟨b, off, none⟩) l.length cap, .slice (some ⟨b2, off2, none⟩) l.length cap2] w fun e w' => e = .returned (.bool true) ∧ Below w.heap.size w w' := by
  have HC : Hid (∀ j (hj : j < l.length), w.cell? ⟨b, off + j * 2, none⟩ = some (.string ⟨(l[j]).1.toArray⟩) ∧ w.cell? ⟨b, off + j * 2 + 1, none⟩ = some (.int .i64 (l[j]).2)) := hc
  have HC2 : Hid (∀ j (hj : j < l.length), w.cell? ⟨b2, off2 + j * 2, none⟩ = some (.string ⟨(l[j]).1.toArray⟩) ∧ w.cell? ⟨b2, off2 + j * 2 + 1, none⟩ = some (.int .i64 (l[j]).2)) := hc2
  clear hc hc2
  go_enter Tryd.func13, Tryd.ntmps13
  go_wp2
  go_loopw [5] (fun i wr => ∃ k : Nat, k ≤ l.length ∧ i = .int .i64 k ∧ Below w.heap.size w wr) (fun i _ => l.length - (intOf i).toNat)
  case atStart => exact ⟨0, Nat.zero_le _, rfl, Below.refl _ _⟩
  case round =>
    obtain ⟨k, hk, rfl, hnx⟩ := hrel
    by_cases hlt : k < l.length
    · obtain ⟨T, W, hTW⟩ : ∃ T W, l[k] = (T, W) := ⟨_, _, rfl⟩
      have c0 : wr.cell? ⟨b, off + k * 2, none⟩ = some (.string ⟨T.toArray⟩) := by
        have := (HC.out k hlt).1; rw [hTW] at this; exact (hnx.cell (p := ⟨b, off + k * 2, none⟩) hb).trans this
      have c1 : wr.cell? ⟨b, off + k * 2 + 1, none⟩ = some (.int .i64 W) := by
        have := (HC.out k hlt).2; rw [hTW] at this; exact (hnx.cell (p := ⟨b, off + k * 2 + 1, none⟩) hb).trans this
      have d0 : wr.cell? ⟨b2, off2 + k * 2, none⟩ = some (.string ⟨T.toArray⟩) := by
        have := (HC2.out k hlt).1; rw [hTW] at this; exact (hnx.cell (p := ⟨b2, off2 + k * 2, none⟩) hb2).trans this
      have d1 : wr.cell? ⟨b2, off2 + k * 2 + 1, none⟩ = some (.int .i64 W) := by
        have := (HC2.out k hlt).2; rw [hTW] at this; exact (hnx.cell (p := ⟨b2, off2 + k * 2 + 1, none⟩) hb2).trans this
      clear hTW
      have hlt' : (k : Int) < (l.length : Int) := by omega
      go_wp2
      go_quiet (fail)
      go_wp2
      go_roundw
      case rel => exact ⟨k + 1, by omega, by go_num, below_drewN hnx _⟩
      case measure => simp [intOf]; omega
    · have hlt' : ¬ (k : Int) < (l.length : Int) := by omega
      go_wp2
      go_ret
      exact ⟨rfl, hnx⟩

set_option maxHeartbeats 1000000 in
theorem alike_none (a a2 : Option Addr) (cap cap2 : Nat) (w : World) :
    Calls Tryd.prog 13 #[.slice a 0 cap, .slice a2 0 cap2] w fun e w' => e = .returned (.bool true) ∧ Below w.heap.size w w' := by
  go_enter Tryd.func13, Tryd.ntmps13
  go_wp2
  go_loop [5] (fun i => i = .int .i64 0) (fun _ => 0)
  case atStart => exact rfl
  case round =>
    obtain rfl := hrel
    go_wp2
    go_ret
    exact ⟨rfl, Below.refl _ _⟩

theorem alike_yes (l : List (List UInt8 × Int)) (v v2 : Value) (w : World) (h : Cls w v l) (h2 : Cls w v2 l) (hlen : l.length ≤ 17592186044416) :
    Calls Tryd.prog 13 #[v, v2] w fun e w' => e = .returned (.bool true) ∧ Below w.heap.size w w' := by
  obtain ⟨a, cap, rfl, hh⟩ := h
  obtain ⟨a2, cap2, rfl, hh2⟩ := h2
  by_cases hz : l = []
  · subst hz; exact alike_none a a2 cap cap2 w
  · obtain ⟨b, off, rfl, hb, hc⟩ := hh.resolve_left hz
    obtain ⟨b2, off2, rfl, hb2, hc2⟩ := hh2.resolve_left hz
    exact alike_some l b off cap b2 off2 cap2 w hb hc hb2 hc2 hlen

end Go.Proofs.YtlioofikfgdnmaaDoor
