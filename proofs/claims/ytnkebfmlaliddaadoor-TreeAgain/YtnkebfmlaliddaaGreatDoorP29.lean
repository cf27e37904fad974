/-
  Replace of a new replacer; the printer's printString.
-/
import Derived.Test.YtnkebfmlaliddaaGreatDoorP13
import Derived.Test.YtnkebfmlaliddaaGreatDoorP14
namespace Go.Proofs.YtnkebfmlaliddaaGreatDoor
open Go.RowKit Go.Sort
set_option linter.unusedVariables false

set_option maxRecDepth 100000 in
set_option maxHeartbeats 4000000 in
theorem replace_any (s : ByteArray) (hs : s.size ≤ 1099511627776) (R O c : Nat) (w0 w : World) (h : Hid (Rp0 w0 w R O c)) :
    Calls Tryz.prog 57 #[.pointer (some ⟨R, 0, none⟩), .string s] w fun e w' => e = .returned (.string ⟨(escF s.data.toList).toArray⟩) ∧ Hid (Below w0.heap.size w0 w') := by
  obtain ⟨ES, hES⟩ : ∃ z, (⟨(escF s.data.toList).toArray⟩ : ByteArray) = z := ⟨_, rfl⟩
  have hR := h.out.at_
  have hRl : R < w.heap.size := (Array.getElem?_eq_some_iff.1 hR).1
  have ws : (w.setCell ⟨R, 1, none⟩ (.int .i32 1)).heap.size = w.heap.size := by simp [World.setCell]
  have hR1 : (w.setCell ⟨R, 1, none⟩ (.int .i32 1)).heap[R]? = some (.cells #[.int .u32 0, .int .i32 1, .int .u32 0, .nilIface, .slice (some ⟨O, 0, none⟩) 6 c] 140 (0, 0)) := heap_setCell_same w R 1 _ _ _ hR
  have OC : Hid (Calls Tryz.prog 85 #[.pointer (some ⟨R, 0, none⟩), .func (.func 86) #[.pointer (some ⟨R, 0, none⟩)] #[]] w fun e w' => e = .returned (.tuple #[]) ∧
      ∃ w1, Hid (∃ X, Rp1 (w.setCell ⟨R, 1, none⟩ (.int .i32 1)) w1 R X) ∧ w' = (w1.drew.setCell ⟨R, 0, none⟩ (.int .u32 1)).setCell ⟨R, 1, none⟩ (.int .i32 0)) := by
    refine once_any R (fun w' => ∃ X, Rp1 (w.setCell ⟨R, 1, none⟩ (.int .i32 1)) w' R X) w (by rw [Lib.cell_of_heap hR]; rfl) (by rw [Lib.cell_of_heap hR]; rfl) (Lib.frozen_of_heap hR 0) (Lib.frozen_of_heap hR 1) ?_ ?_
    · refine buildOnce_any R O c _ hR1 (by rw [ws]; exact h.out.lo) ?_
      intro k hk
      obtain ⟨q1, q2⟩ := h.out.on k hk
      have oth : ∀ j, (w.setCell ⟨R, 1, none⟩ (.int .i32 1)).cell? ⟨O, j, none⟩ = w.cell? ⟨O, j, none⟩ := fun j => World.cell?_of_block (Below.heap_setCell _ _ _ _ (fun e => h.out.ne (by simpa using e)))
      exact ⟨(oth _).trans q1, (oth _).trans q2⟩
    · rintro w' ⟨X, q⟩
      exact ⟨by rw [Lib.cell_of_heap q.at_]; rfl, by rw [Lib.cell_of_heap q.at_]; rfl, Lib.frozen_of_heap q.at_ 0, Lib.frozen_of_heap q.at_ 1⟩
  have hmf : ∀ (fn : Fn) (first cap : Array Value) (w : World), (Instr.makeFunc fn first cap).run Tryz.prog w = .ok (.func fn first cap) w := fun _ _ _ _ => rfl
  clear hR hR1
  rw [hES]
  have HES : Hid ((⟨(escF s.data.toList).toArray⟩ : ByteArray) = ES) := hES
  clear hES
  go_enter Tryz.func57, Tryz.ntmps57
  go_wp2_with fail
  refine OC.out.mono ?_
  rintro e w2 ⟨rfl, w1, HX, hw2⟩
  obtain ⟨X, HX1⟩ : ∃ X, Hid (Rp1 (w.setCell ⟨R, 1, none⟩ (.int .i32 1)) w1 R X) := HX.out
  have hd : w1.drew.heap[R]? = some (.cells #[.int .u32 0, .int .i32 1, .int .u32 0, .iface 188 (.pointer (some ⟨X, 0, none⟩)), .slice none 0 0] 140 (0, 0)) := HX1.out.at_
  have q1 := heap_setCell_same w1.drew R 0 _ _ (.int .u32 1) hd
  have q2 := heap_setCell_same _ R 1 _ _ (.int .i32 0) q1
  rw [← hw2] at q2
  have c3 : w2.cell? ⟨R, 3, none⟩ = some (.iface 188 (.pointer (some ⟨X, 0, none⟩))) := by rw [Lib.cell_of_heap q2]; rfl
  have oth : ∀ b, b ≠ R → w2.heap[b]? = w1.heap[b]? := fun b hb => by
    rw [hw2]
    exact (Below.heap_setCell _ _ _ _ (fun e => hb (by simpa using e))).trans (Below.heap_setCell _ _ _ _ (fun e => hb (by simpa using e)))
  have hsz : w2.heap.size = w1.heap.size := by rw [hw2]; simp [World.setCell]
  have HB2 : Hid (Bsr w2 X) := by
    obtain ⟨W0, tv, rv, hk, hu⟩ := HX1.out.bk
    refine hk.bsr ⟨by have := hu.size; omega, fun b h1 h2 => ?_⟩
    rw [oth b (by omega), hu.block b h1 h2]
  have HW2 : Hid (Below w0.heap.size w0 w2) := by
    have b0 := h.out.bel
    have s1 := HX1.out.size
    rw [ws] at s1
    refine ⟨?_, ?_, ?_, ?_, fun b hb => ?_⟩
    all_goals first
      | (rw [oth b (by have := h.out.low; omega), HX1.out.bel b (by rw [ws]; have := b0.size; omega) (by have := h.out.low; omega), Below.heap_setCell _ _ _ _ (fun e => by have := h.out.low; simp at e; omega)]; exact b0.block b hb)
      | (have := b0.size; omega)
      | (rw [hw2]; exact HX1.out.os.trans b0.os)
      | (rw [hw2]; exact HX1.out.tape.trans b0.tape)
      | (rw [hw2]; exact HX1.out.output.trans b0.output)
  clear hd q1 q2 oth hsz hw2 HX OC
  have BR : Hid (Calls Tryz.prog 205 #[.pointer (some ⟨X, 0, none⟩), .string s] w2 fun e w' => e = .returned (.string ES) ∧ Hid (Below w2.heap.size w2 w')) := by
    have := bsr_any s hs X w2 HB2
    rw [HES.out] at this
    exact this
  go_wp2_with fail
  refine BR.out.mono ?_
  rintro e w3 ⟨rfl, hb3⟩
  go_wp2
  go_ret
  exact ⟨rfl, HW2.out.trans (hb3.out.mono HW2.out.size)⟩

/-- A printer that has written l. -/
def PrL (w : World) (B b : Nat) (nv av : Value) (l : List UInt8) : Prop := ∃ p v, PrB w B b nv av p v l
theorem PrL.below {w w' : World} {B b : Nat} {nv av : Value} {l : List UInt8} (h : PrL w B b nv av l) (hb : Below w.heap.size w w') : PrL w' B b nv av l := by
  obtain ⟨p, v, q⟩ := h
  exact ⟨p, v, q.below hb⟩
theorem PrL.size {w : World} {B b : Nat} {nv av : Value} {l : List UInt8} (h : PrL w B b nv av l) : B ≤ w.heap.size := by
  obtain ⟨p, v, q⟩ := h
  have := q.lt
  have := q.low
  omega
theorem PrL.write {w : World} {B b : Nat} {nv av : Value} {l : List UInt8} (h : PrL w B b nv av l) (s : ByteArray) (hl : l.length + s.size ≤ 140737488355328) : Calls Tryz.prog 34 #[.pointer (some ⟨b, 2, none⟩), .string s] w fun e w' => e = .returned (.tuple #[.int .i64 s.size, .nilIface]) ∧ Hid (PrL w' B b nv av (l ++ s.data.toList)) ∧ Hid (Below B w w') := by
  have hz := h.size
  obtain ⟨p, v, q⟩ := h
  refine (prWrite_any B b nv av p v l s w q hl hz).mono ?_
  rintro e w' ⟨he, v', h1, h2⟩
  exact ⟨he, ⟨_, _, h1⟩, h2.1⟩
theorem PrL.byte {w : World} {B b : Nat} {nv av : Value} {l : List UInt8} (h : PrL w B b nv av l) (x : UInt8) (hl : l.length + 1 ≤ 140737488355328) : Calls Tryz.prog 58 #[.pointer (some ⟨b, 2, none⟩), .int .u8 (x.toNat : Int)] w fun e w' => e = .returned .nilIface ∧ Hid (PrL w' B b nv av (l ++ [x])) ∧ Hid (Below B w w') := by
  have hz := h.size
  obtain ⟨p, v, q⟩ := h
  refine (prByte_any B b nv av p v l x w q hl hz).mono ?_
  rintro e w' ⟨he, v', h1, h2⟩
  exact ⟨he, ⟨_, _, h1⟩, h2.1⟩

set_option maxRecDepth 100000 in
set_option maxHeartbeats 4000000 in
theorem printString_any (s : ByteArray) (B b : Nat) (nv av : Value) (l : List UInt8) (w : World) (h : Hid (PrL w B b nv av l)) (hs : s.size ≤ 1099511627776) (hl : l.length + (escR s.data.toList).length ≤ 140737488355328) :
    Calls Tryz.prog 36 #[.pointer (some ⟨b, 0, none⟩), .string s] w fun e w' => e = .returned (.tuple #[]) ∧ Hid (PrL w' B b nv av (l ++ escR s.data.toList)) ∧ Hid (Below B w w') := by
  obtain ⟨E, hE⟩ : ∃ z, escF s.data.toList = z := ⟨_, rfl⟩
  have HE : Hid (escF s.data.toList = E) := hE
  have hRE : escR s.data.toList = 34 :: (E ++ [34]) := by unfold escR; rw [hE]
  have hlE : l.length + E.length + 2 ≤ 140737488355328 := by rw [hRE] at hl; simp at hl; omega
  rw [hRE]
  obtain ⟨w1, hw1⟩ : ∃ z, w.alloc (.cells #[.string ⟨#[34]⟩, .string ⟨#[92, 34]⟩, .string ⟨#[92]⟩, .string ⟨#[92, 92]⟩, .string ⟨#[10]⟩, .string ⟨#[92, 110]⟩] 9) = z := ⟨_, rfl⟩
  have hb1 : Below w.heap.size w w1 := by rw [← hw1]; exact ((Gr.refl w).alloc _).below
  have NR1 : Hid (Calls Tryz.prog 56 #[.slice (some ⟨w.heap.size, 0, none⟩) 6 6] w1 fun e w' => ∃ R O c, e = .returned (.pointer (some ⟨R, 0, none⟩)) ∧ Hid (Rp0 w1 w' R O c)) := newRep_any w.heap.size w1 (fun j u hj => by
    have hat : w1.heap[w.heap.size]? = some (.cells onL.toArray 9 (0, 0)) := by
      rw [← hw1]
      show (w.heap.push _)[w.heap.size]? = _
      exact Array.getElem?_push_size
    rw [Lib.cell_of_heap hat]
    simpa using hj)
  have HB1 : Hid (Below w.heap.size w w1) := hb1
  have hmix : Tryz.prog.follows .mixedOrders = true := by kernel_rfl
  clear hE hRE hl hb1
  go_enter Tryz.func36, Tryz.ntmps36
  go_wp2_with fail
  try rw [hw1]
  refine NR1.out.mono ?_
  rintro e w2 ⟨R, O, c, rfl, HR⟩
  have RP : Hid (Calls Tryz.prog 57 #[.pointer (some ⟨R, 0, none⟩), .string s] w2 fun e w' => e = .returned (.string ⟨E.toArray⟩) ∧ Hid (Below w1.heap.size w1 w')) := by
    have := replace_any s hs R O c w1 w2 HR
    rw [HE.out] at this
    exact this
  have RPd : Hid (Calls Tryz.prog 57 #[.pointer (some ⟨R, 0, none⟩), .string s] w2.drew fun e w' => e = .returned (.string ⟨E.toArray⟩) ∧ Hid (Below w1.heap.size w1 w')) := by
    have := replace_any s hs R O c w1 w2.drew ⟨HR.out.at_, HR.out.on, HR.out.low, HR.out.lo, HR.out.ne, Below.drew HR.out.bel⟩
    rw [HE.out] at this
    exact this
  have WR : Hid (∀ u, Below w1.heap.size w1 u → Calls Tryz.prog 34 #[.pointer (some ⟨b, 2, none⟩), .string (⟨#[34]⟩ ++ (⟨E.toArray⟩ : ByteArray) ++ ⟨#[34]⟩)] u fun e w' => ∃ n, e = .returned (.tuple #[.int .i64 n, .nilIface]) ∧ Hid (PrL w' B b nv av (l ++ 34 :: (E ++ [34]))) ∧ Hid (Below B w w')) := fun u hu => by
    have hbu : Below w.heap.size w u := HB1.out.trans (hu.mono HB1.out.size)
    have hsz : (⟨#[34]⟩ ++ (⟨E.toArray⟩ : ByteArray) ++ ⟨#[34]⟩ : ByteArray).size = E.length + 2 := by
      rw [ByteArray.size_append, ByteArray.size_append]
      show 1 + E.toArray.size + 1 = _
      simp; omega
    have hlist : (⟨#[34]⟩ ++ (⟨E.toArray⟩ : ByteArray) ++ ⟨#[34]⟩ : ByteArray).data.toList = 34 :: (E ++ [34]) := by simp
    have := (h.out.below hbu).write (⟨#[34]⟩ ++ (⟨E.toArray⟩ : ByteArray) ++ ⟨#[34]⟩) (by rw [hsz]; omega)
    rw [hlist] at this
    exact this.mono fun e w' ⟨q1, q2, q3⟩ => ⟨_, q1, q2, (hbu.mono h.out.size).trans q3.out⟩
  clear NR1
  have j1 : ¬ 9223372036854775807 < 1 + E.length := by omega
  have j2 : ¬ 9223372036854775807 < 1 + E.length + 1 := by omega
  go_wp2_with fail
  go_region_with (first | (go_at_call 57; first | (refine Calls.mono RPd.out ?_; rintro e3 w3 ⟨rfl, hb3⟩) | (refine Calls.mono RP.out ?_; rintro e3 w3 ⟨rfl, hb3⟩)) | (go_at_call 34; refine Calls.mono (WR.out _ (by first | exact hb3.out | exact Below.drew hb3.out)) ?_; rintro e4 w4 ⟨n4, rfl, HP4, HB4⟩))
  all_goals
    go_wp2
    go_end0
    exact ⟨rfl, by first | exact HP4.out, by first | exact HB4.out⟩

end Go.Proofs.YtnkebfmlaliddaaGreatDoor
