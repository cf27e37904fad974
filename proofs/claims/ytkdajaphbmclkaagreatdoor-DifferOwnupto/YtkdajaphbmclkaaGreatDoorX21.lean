/-
  The pen's ways: write, dip, moveTo.
-/
import Derived.Test.YtkdajaphbmclkaaGreatDoorDBld
import Derived.Test.YtkdajaphbmclkaaGreatDoorX13
import Derived.Test.YtkdajaphbmclkaaGreatDoorX12
import Derived.Shelf.Strings.BuilderK
namespace Go.Proofs.YtkdajaphbmclkaaGreatDoor
open Go.RowKit Go.Sort
set_option linter.unusedVariables false

theorem below_others {w w' : World} (h : Below w.heap.size w w') (e : TypeId) (b : Option Nat) : Lib.OthersKept e b w w' := fun k o hk _ _ => (h.block k (Array.getElem?_eq_some_iff.1 hk).1).trans hk
section
variable {Q Q' : World} {B b : Nat} {p v : Value} {W a f g d : Int} {l : List UInt8}
theorem PenB.up (h : PenB Q B b p v W a f g d l) (hb : Below Q.heap.size Q Q') : PenB Q' B b p v W a f g d l := by
  refine ⟨h.low, h.hp, (hb.block b h.lt).trans h.at_, ⟨h.own.1, ?_⟩, h.ne⟩
  rcases h.own.2 with q | ⟨c, cap, cur, fz, hv, hB, hg, r⟩
  · exact .inl q
  · exact .inr ⟨c, cap, cur, fz, hv, hB, (hb.block c (Array.getElem?_eq_some_iff.1 hg).1).trans hg, r⟩
theorem PenB.at3 (h : PenB Q B b p v W a f g d l) (a' : Int) : PenB (Q.setCell ⟨b, 3, none⟩ (.int .i64 a')) B b p v W a' f g d l := ⟨h.low, h.hp, (h.set 3 _).1, (h.set 3 _).2, h.ne⟩
theorem PenB.at4 (h : PenB Q B b p v W a f g d l) (u : Int) : PenB (Q.setCell ⟨b, 4, none⟩ (.int .i64 u)) B b p v W a u g d l := ⟨h.low, h.hp, (h.set 4 _).1, (h.set 4 _).2, h.ne⟩
theorem PenB.at5 (h : PenB Q B b p v W a f g d l) (u : Int) : PenB (Q.setCell ⟨b, 5, none⟩ (.int .i64 u)) B b p v W a f u d l := ⟨h.low, h.hp, (h.set 5 _).1, (h.set 5 _).2, h.ne⟩
theorem PenB.at6 (h : PenB Q B b p v W a f g d l) (u : Int) : PenB (Q.setCell ⟨b, 6, none⟩ (.int .i64 u)) B b p v W a f g u l := ⟨h.low, h.hp, (h.set 6 _).1, (h.set 6 _).2, h.ne⟩
end
/-- What a pen's way leaves. -/
def PenTo (w w' : World) (B b : Nat) (W a f g d : Int) (l : List UInt8) : Prop := ∃ p' v', PenB w' B b p' v' W a f g d l ∧ Below B w w' ∧ Lib.OthersKept 5 (some b) w w'

theorem PenTo.start {w w0 w2 : World} {B b : Nat} {W a f g d : Int} {l : List UInt8} (hg : Gr w w0) (hB : B ≤ w.heap.size) (h : PenTo w0 w2 B b W a f g d l) : PenTo w w2 B b W a f g d l := by
  obtain ⟨p', v', h1, h2, h3⟩ := h
  exact ⟨p', v', h1, (hg.below.mono hB).trans h2, (below_others hg.below _ _).trans h3⟩
/-- A block that is no pen and no row of bytes stays. -/
theorem PenTo.block {w w2 : World} {B b : Nat} {W a f g d : Int} {l : List UInt8} (h : PenTo w w2 B b W a f g d l) {k : Nat} {cs : Array Value} {T : TypeId} {fz : Nat × Nat} (hk : w.heap[k]? = some (.cells cs T fz)) (hb : k ≠ b) (hT : T ≠ 5) : w2.heap[k]? = some (.cells cs T fz) := by
  obtain ⟨p', v', h1, h2, h3⟩ := h
  refine h3 k _ hk (fun e => hb (Option.some.inj e)) fun c z e => hT ?_
  injection e
theorem PenTo.drew {w w2 : World} {B b : Nat} {W a f g d : Int} {l : List UInt8} (h : PenTo w w2 B b W a f g d l) : PenTo w w2.drew B b W a f g d l := by
  obtain ⟨p', v', h1, h2, h3⟩ := h
  exact ⟨p', v', h1.up ((Gr.refl w2).drew.below), Below.drew h2, h3.drew⟩
/-- The cursor stands elsewhere. -/
theorem PenTo.at3 {w w2 : World} {B b : Nat} {W a f g d : Int} {l : List UInt8} (h : PenTo w w2 B b W a f g d l) (a' : Int) : PenTo w (w2.setCell ⟨b, 3, none⟩ (.int .i64 a')) B b W a' f g d l := by
  obtain ⟨p', v', h1, h2, h3⟩ := h
  exact ⟨p', v', h1.at3 a', h2.setCell (p := ⟨b, 3, none⟩) h1.low _, h3.setCell ⟨b, 3, none⟩ rfl _⟩
theorem PenTo.sty {w w2 : World} {B b : Nat} {W a f g d : Int} {l : List UInt8} (h : PenTo w w2 B b W a f g d l) (f' g' d' : Int) : PenTo w (((w2.setCell ⟨b, 4, none⟩ (.int .i64 f')).setCell ⟨b, 5, none⟩ (.int .i64 g')).setCell ⟨b, 6, none⟩ (.int .i64 d')) B b W a f' g' d' l := by
  obtain ⟨p', v', h1, h2, h3⟩ := h
  exact ⟨p', v', ((h1.at4 f').at5 g').at6 d', ((h2.setCell (p := ⟨b, 4, none⟩) h1.low _).setCell (p := ⟨b, 5, none⟩) h1.low _).setCell (p := ⟨b, 6, none⟩) h1.low _, ((h3.setCell ⟨b, 4, none⟩ rfl _).setCell ⟨b, 5, none⟩ rfl _).setCell ⟨b, 6, none⟩ rfl _⟩
theorem new_block (w : World) (o : Obj) : (w.alloc o).heap[w.heap.size]? = some o := by show (w.heap.push o)[w.heap.size]? = some o; exact Array.getElem?_push_size

set_option maxHeartbeats 2000000 in
set_option maxRecDepth 100000 in
theorem penWr_any (B b : Nat) (p v : Value) (W a f g d : Int) (l : List UInt8) (t : ByteArray) (f2 g2 d2 q : Int) (w : World) (h : PenB w B b p v W a f g d l) (hlen : l.length + t.size ≤ 140737488355328) (hBw : B ≤ w.heap.size) (ha : -1 ≤ a ∧ a ≤ 1000000) :
    Calls Tryz.prog 38 #[.pointer (some ⟨b, 0, none⟩), .agg #[.string t, .int .i64 f2, .int .i64 g2, .int .i64 d2, .int .i64 q]] w fun e w' => e = .returned (.tuple #[]) ∧ Hid (PenTo w w' B b W (a + colI q) f g d (l ++ t.data.toList)) := by
  have hlt : b < w.heap.size := h.lt
  obtain ⟨S, hS⟩ : ∃ z, w.heap.size = z := ⟨_, rfl⟩
  obtain ⟨W0, hW0⟩ : ∃ z, w.alloc (.cells #[.string t, .int .i64 f2, .int .i64 g2, .int .i64 d2, .int .i64 q] 71) = z := ⟨_, rfl⟩
  have G0 : Hid (Gr w W0) := by rw [← hW0]; exact (Gr.refl w).alloc _
  have N0 : Hid (W0.heap[S]? = some (.cells #[.string t, .int .i64 f2, .int .i64 g2, .int .i64 d2, .int .i64 q] 71 (0, 0))) := by rw [← hW0, ← hS]; exact new_block w _
  have n0 : W0.cell? ⟨S, 0, none⟩ = some (.string t) := by rw [Lib.cell_of_heap N0.out]; rfl
  have HP : Hid (PenB W0 B b p v W a f g d l) := h.up G0.out.below
  have hB0 : B ≤ W0.heap.size := Nat.le_trans hBw G0.out.size
  have PW : Hid (∀ w', w' = W0 ∨ w' = W0.drew → Calls Tryz.prog 17 #[.pointer (some ⟨b, 0, none⟩), .string t] w' fun e w2 => e = .returned (.tuple #[.int .i64 t.size, .nilIface]) ∧ Hid (PenTo W0 w2 B b W a f g d (l ++ t.data.toList))) := by
    rintro w' (rfl | rfl)
    · exact (penWrite_any B b p v W a f g d l t w' HP.out hlen hB0).mono fun e w2 ⟨he, h1⟩ => ⟨he, _, h1⟩
    · exact (penWrite_any B b p v W a f g d l t W0.drew (HP.out.up ((Gr.refl W0).drew.below)) hlen hB0).mono fun e w2 ⟨he, h1⟩ => ⟨he, PenTo.start ((Gr.refl W0).drew) hB0 ⟨_, h1⟩⟩
  have CO : Hid (∀ w, Calls Tryz.prog 50 #[.int .i64 q] w fun e w' => e = .returned (.int .i64 (colI q)) ∧ w' = w) := columnsOf_any q
  have hc : 0 ≤ colI q ∧ colI q ≤ 2 := by unfold colI; split; omega; split <;> omega
  have hwr : IntKind.i64.wrap (a + colI q) = a + colI q := IntWalk.i64_in _ (by omega)
  clear h
  go_enter Tryz.func38, Tryz.ntmps38
  go_wp2_with fail
  go_region_with (go_at_call 17; refine Calls.mono (PW.out _ (by first | exact .inl rfl | exact .inr rfl)) ?_; rintro e1 w1 ⟨rfl, HT⟩)
  all_goals
    have M0 : w1.heap[S]? = some (.cells #[.string t, .int .i64 f2, .int .i64 g2, .int .i64 d2, .int .i64 q] 71 (0, 0)) := HT.out.block N0.out (by omega) (by decide)
    have o4 : w1.cell? ⟨S, 4, none⟩ = some (.int .i64 q) := by rw [Lib.cell_of_heap M0]; rfl
    have c3 : w1.cell? ⟨b, 3, none⟩ = some (.int .i64 a) := by obtain ⟨p1, v1, hv1, _⟩ := HT.out; exact hv1.cell (k := 3) rfl
    have z3 : w1.frozen? ⟨b, 3, none⟩ = false := by obtain ⟨p1, v1, hv1, _⟩ := HT.out; exact hv1.fz 3
    clear M0
    go_wp2_with fail
    go_region_with (go_at_call 50; refine Calls.mono (CO.out _) ?_; rintro e2 w2 ⟨rfl, rfl⟩)
    all_goals
      go_wp2_with fail
      go_end0
      have X := (HT.out.start G0.out hBw).at3 (a + colI q)
      exact ⟨rfl, by first | exact X | exact X.drew | exact X.drew.drew | exact X.drew.drew.drew⟩

end Go.Proofs.YtkdajaphbmclkaaGreatDoor

namespace Go.Proofs.YtkdajaphbmclkaaGreatDoor
open Go.RowKit Go.Sort
set_option linter.unusedVariables false

def Told (w w' : World) (B b : Nat) : Prop := Below B w w' ∧ Lib.OthersKept 5 (some b) w w'
set_option maxHeartbeats 2000000 in
set_option maxRecDepth 100000 in
theorem penStr_none (B b : Nat) (w : World) (hB : B ≤ b) (h1 : w.cell? ⟨b, 1, none⟩ = some (.slice none 0 0)) :
    Calls Tryz.prog 20 #[.pointer (some ⟨b, 0, none⟩)] w fun e w' => e = .returned (.string ⟨#[]⟩) ∧ Hid (Told w w' B b) := by
  have hUS : ∀ W q, (Builtin.unsafeString_ #[91, 3] 9 #[.pointer q, .int .i64 0]).run Tryz.prog W = .ok (.string .empty) W := fun W q => Lib.run_unsafeString_none W _ _ _ q
  have c1 : w.drew.cell? ⟨b, 1, none⟩ = some (.slice none 0 0) := h1
  have hSD : (Builtin.unsafeSliceData_ #[60] 91 #[.slice none 0 0]).run Tryz.prog w.drew = .ok (.pointer none) w.drew := rfl
  have hmix : Tryz.prog.follows .mixedOrders = true := by kernel_rfl
  go_enter Tryz.func20, Tryz.ntmps20
  go_wp2
  go_region_o
  all_goals (go_wp2; go_ret; exact ⟨rfl, Below.drew (Below.refl B w), (Lib.OthersKept.refl _ _ w).drew⟩)
set_option maxHeartbeats 2000000 in
set_option maxRecDepth 100000 in
theorem penStr_room (B b g cap : Nat) (w : World) (hB : B ≤ b) (hc : cap ≠ 0) (h1 : w.cell? ⟨b, 1, none⟩ = some (.slice (some ⟨g, 0, none⟩) 0 cap)) :
    Calls Tryz.prog 20 #[.pointer (some ⟨b, 0, none⟩)] w fun e w' => e = .returned (.string ⟨#[]⟩) ∧ Hid (Told w w' B b) := by
  have hUS : ∀ W q, (Builtin.unsafeString_ #[91, 3] 9 #[.pointer q, .int .i64 0]).run Tryz.prog W = .ok (.string .empty) W := fun W q => Lib.run_unsafeString_none W _ _ _ q
  have c1 : w.drew.cell? ⟨b, 1, none⟩ = some (.slice (some ⟨g, 0, none⟩) 0 cap) := h1
  have hSD : (Builtin.unsafeSliceData_ #[60] 91 #[.slice (some ⟨g, 0, none⟩) 0 cap]).run Tryz.prog w.drew = .ok (.pointer (some ⟨g, 0, none⟩)) w.drew := Lib.run_unsafeSliceData_row _ _ _ _ _ _ hc
  clear hc
  have hmix : Tryz.prog.follows .mixedOrders = true := by kernel_rfl
  go_enter Tryz.func20, Tryz.ntmps20
  go_wp2
  go_region_o
  all_goals (go_wp2; go_ret; exact ⟨rfl, Below.drew (Below.refl B w), (Lib.OthersKept.refl _ _ w).drew⟩)
set_option maxHeartbeats 2000000 in
set_option maxRecDepth 100000 in
theorem penStr_noroom (B b g : Nat) (w : World) (hB : B ≤ b) (hBw : B ≤ w.heap.size) (hlt : b < w.heap.size) (cur : Array Value) (fz : Nat × Nat) (hg : w.heap[g]? = some (.cells cur 5 fz)) (h1 : w.cell? ⟨b, 1, none⟩ = some (.slice (some ⟨g, 0, none⟩) 0 0)) :
    Calls Tryz.prog 20 #[.pointer (some ⟨b, 0, none⟩)] w fun e w' => e = .returned (.string ⟨#[]⟩) ∧ Hid (Told w w' B b) := by
  have hUS : ∀ W q, (Builtin.unsafeString_ #[91, 3] 9 #[.pointer q, .int .i64 0]).run Tryz.prog W = .ok (.string .empty) W := fun W q => Lib.run_unsafeString_none W _ _ _ q
  have c1 : w.drew.cell? ⟨b, 1, none⟩ = some (.slice (some ⟨g, 0, none⟩) 0 0) := h1
  have hSD : (Builtin.unsafeSliceData_ #[60] 91 #[.slice (some ⟨g, 0, none⟩) 0 0]).run Tryz.prog w.drew = .ok (.pointer (some ⟨w.drew.heap.size, 0, none⟩)) (w.drew.alloc (.view ⟨g, 0, none⟩ 5)) :=
    Lib.run_unsafeSliceData_zero w.drew _ _ 5 (by kernel_rfl) ⟨g, 0, none⟩ 0 (5, cur.size) (by have hg' : w.drew.heap[g]? = some (.cells cur 5 fz) := hg; simp [World.shape?, hg'])
  have c2 : (w.drew.alloc (.view ⟨g, 0, none⟩ 5)).cell? ⟨b, 1, none⟩ = some (.slice (some ⟨g, 0, none⟩) 0 0) := by
    rw [← h1]
    exact (((Gr.refl w).drew).alloc _).below.cell (p := ⟨b, 1, none⟩) hlt
  have c3 : (w.alloc (.view ⟨g, 0, none⟩ 5)).drew.cell? ⟨b, 1, none⟩ = some (.slice (some ⟨g, 0, none⟩) 0 0) := c2
  have hmix : Tryz.prog.follows .mixedOrders = true := by kernel_rfl
  go_enter Tryz.func20, Tryz.ntmps20
  go_wp2
  go_region_o
  all_goals (go_wp2; go_ret; exact ⟨rfl, (Below.drew (Below.refl B w)).alloc hBw _, ((Lib.OthersKept.refl _ _ w).drew).alloc _⟩)
set_option maxHeartbeats 2000000 in
set_option maxRecDepth 100000 in
theorem penStr_some (B b g cap : Nat) (l : List UInt8) (w : World) (hB : B ≤ b) (h0 : l ≠ []) (cur : Array Value) (fz : Nat × Nat) (hg : w.heap[g]? = some (.cells cur 5 fz)) (hBg : B ≤ g) (hc : l.length ≤ cap) (hcm : cap ≤ maxLen) (hcs : cur.size = cap * 1) (hcell : ∀ (j : Nat) x, l[j]? = some x → w.cell? ((⟨g, 0, none⟩ : Addr).add j) = some (.int .u8 x.toNat)) (h1 : w.cell? ⟨b, 1, none⟩ = some (.slice (some ⟨g, 0, none⟩) l.length cap)) :
    Calls Tryz.prog 20 #[.pointer (some ⟨b, 0, none⟩)] w fun e w' => e = .returned (.string ⟨l.toArray⟩) ∧ Hid (Told w w' B b) := by
  have hl0 : l.length ≠ 0 := by simpa using h0
  have c1 : w.drew.cell? ⟨b, 1, none⟩ = some (.slice (some ⟨g, 0, none⟩) l.length cap) := h1
  have hSD : (Builtin.unsafeSliceData_ #[60] 91 #[.slice (some ⟨g, 0, none⟩) l.length cap]).run Tryz.prog w.drew = .ok (.pointer (some ⟨g, 0, none⟩)) w.drew := Lib.run_unsafeSliceData_row _ _ _ _ _ _ (by omega)
  have hUS : (Builtin.unsafeString_ #[91, 3] 9 #[.pointer (some ⟨g, 0, none⟩), .int .i64 l.length]).run Tryz.prog w.drew = .ok (.string ⟨l.toArray⟩) (w.drew.freeze ⟨g, 0, none⟩ l.length) :=
    Lib.run_unsafeString_row w.drew 91 3 9 5 (by kernel_rfl) (by kernel_rfl) g cur.size (by have hg' : w.drew.heap[g]? = some (.cells cur 5 fz) := hg; simp [World.shape?, hg']) l h0 (by omega) (by unfold maxLen at hcm; omega) hcell
  clear hcell hc hcm hcs hl0
  have hmix : Tryz.prog.follows .mixedOrders = true := by kernel_rfl
  go_enter Tryz.func20, Tryz.ntmps20
  go_wp2
  go_region_o
  all_goals (go_wp2; go_ret; exact ⟨rfl, Lib.below_freeze (Below.drew (Below.refl B w)) (p := ⟨g, 0, none⟩) hBg _, ((Lib.OthersKept.refl _ _ w).drew).freeze ⟨g, 0, none⟩ _ ⟨cur, fz, hg⟩⟩)
theorem penStr_any (B b : Nat) (p v : Value) (W a f g d : Int) (l : List UInt8) (w : World) (h : PenB w B b p v W a f g d l) (hBw : B ≤ w.heap.size) :
    Calls Tryz.prog 20 #[.pointer (some ⟨b, 0, none⟩)] w fun e w' => e = .returned (.string ⟨l.toArray⟩) ∧ Hid (Told w w' B b) := by
  have h1 : w.cell? ⟨b, 1, none⟩ = some v := h.cell (k := 1) rfl
  rcases h.own.2 with ⟨rfl, hz⟩ | ⟨q, cap, cur, fz, rfl, hBg, hg, hfz, hnc, hcm, hcs, htake⟩
  · obtain rfl : l = [] := List.eq_nil_of_length_eq_zero hz
    exact penStr_none B b w h.low h1
  · by_cases h0 : l = []
    · subst h0
      by_cases hc : cap = 0
      · subst hc
        exact penStr_noroom B b q w h.low hBw h.lt cur fz hg h1
      · exact penStr_room B b q cap w h.low hc h1
    · exact penStr_some B b q cap l w h.low h0 cur fz hg hBg hnc hcm hcs (fun j x hx => h.own.cells (g := q) rfl j (.int .u8 x.toNat) (by simp [Lib.byteCells, hx])) h1

end Go.Proofs.YtkdajaphbmclkaaGreatDoor
