/-
  outside, and what reads the byte amid a rune.
-/
import Derived.Test.YtgaogkggbccfnaaDoorMSt
import Derived.Test.YtgaogkggbccfnaaDoorMFul
import Derived.Test.YtgaogkggbccfnaaDoorDec
namespace Go.Proofs.YtgaogkggbccfnaaDoor
open Go.RowKit Go.Sort
set_option linter.unusedVariables false

theorem conv_one (bt : UInt8) (w : World) : (convert 109 9 (.slice (some ⟨w.heap.size, 0, none⟩) 1 1)).run Tryd.prog (w.alloc (.cells #[.int .u8 (bt.toNat : Int)] 5)) = .ok (.string ⟨#[bt]⟩) (w.alloc (.cells #[.int .u8 (bt.toNat : Int)] 5)) := by
  refine run_convert_bytes_back (P := Tryd.prog) (w.alloc (.cells #[.int .u8 (bt.toNat : Int)] 5)) 109 9 5 ⟨w.heap.size, 0, none⟩ 1 [bt] Tryd.underlying109 Tryd.underlying5 Tryd.underlying9 ?_
  intro j hj
  have hj0 : j = 0 := by simp at hj; omega
  subst hj0
  have e : (⟨w.heap.size, 0, none⟩ : Addr).add 0 = ⟨w.heap.size, 0, none⟩ := by unfold Addr.add; split <;> simp_all
  rw [e, World.cell?_alloc_mark]
  simp

instance (l : List UInt8) : Decidable (full l) := by unfold full; exact inferInstance
/-- A byte that comes behind h: what is done, if it is not read anew. -/
def amT (s : Tm) (t : ByteArray) : Tm × St := if full t.data.toList then (prT s ((runes t.data.toList)[0]?.getD 0), .out) else (s, .amid t)

section
variable {T K M cap : Nat} {s : Tm} {nv : Value}
set_option maxRecDepth 100000 in
set_option maxHeartbeats 8000000 in
/-- Where the byte goes on as it must, or ends the rune. -/
theorem amid1_on (w : World) (h : TM w T K M cap s nv) (hi : Ti s) (ht : TabAt w) (hU : Utf w) (bt : UInt8) (hf : ByteArray) (hfs : hf.size ≤ 3) (k : Nat) (hk : w.heap[k]? = some (.cells #[.string hf] 9 (0, 0)))
    (hone : full (hf ++ ⟨#[bt]⟩).data.toList → (runes (hf ++ ⟨#[bt]⟩).data.toList).length = 1) :
    Calls Tryd.prog 53 #[.pointer (some ⟨T, 0, none⟩), .int .u8 (bt.toNat : Int), .pointer (some ⟨k, 0, none⟩)] w fun e w' => Done w w' e T K M cap (amT s (hf ++ ⟨#[bt]⟩)).1 nv (amT s (hf ++ ⟨#[bt]⟩)).2 := by
  have HM : Hid (TM w T K M cap s nv) := h
  have HT : Hid (TabAt w) := ht
  have HI : Hid (Ti s) := hi
  have HU : Hid (Utf w) := hU
  have ck : w.cell? ⟨k, 0, none⟩ = some (.string hf) := by simp [World.cell?, hk]
  have cv := conv_one bt w
  obtain ⟨tx, htx⟩ : ∃ z, hf ++ (⟨#[bt]⟩ : ByteArray) = z := ⟨_, rfl⟩
  have hts : tx.size ≤ 1000000 := by
    have e : (hf ++ (⟨#[bt]⟩ : ByteArray)).size = hf.size + 1 := ByteArray.size_append
    rw [← htx, e]; omega
  have HTX : Hid (hf ++ (⟨#[bt]⟩ : ByteArray) = tx) := htx
  rw [htx]
  rw [htx] at hone
  have HON : Hid (full tx.data.toList → (runes tx.data.toList).length = 1) := hone
  clear h ht hi hU hk hone
  go_enter Tryd.func53, Tryd.ntmps53
  go_wp2_with fail
  clear cv
  have G0 : Gr w (w.alloc (.cells #[.int .u8 (bt.toNat : Int)] 5)) := (Gr.refl w).alloc _
  refine (full_any tx _ (HU.out.below G0.below) hts).mono ?_
  rintro e w1 ⟨b, rfl, hb, g1⟩
  have G1 : Hid (Gr w w1) := G0.trans g1
  have HB : Hid (b = true ↔ full tx.data.toList) := hb
  clear G0 g1 hb
  cases b with
  | false =>
    have HA : Hid (amT s tx = (s, .amid tx)) := by show _ = _; unfold amT; rw [if_neg (fun q => (nomatch HB.out.2 q))]
    go_wp2_with fail
    refine (amid_mk tx w1).mono ?_
    rintro e w2 ⟨rfl, n2, g2⟩
    have HD : Done w w2 (.returned (fnV 53 #[.pointer (some ⟨w1.heap.size, 0, none⟩)])) T K M cap s nv (.amid tx) :=
      ⟨_, rfl, (HM.out.gr G1.out).gr g2, ⟨_, rfl, by have := (HM.out.gr G1.out).lt; omega, by have := (HM.out.gr G1.out).cs.cv.lt; omega, n2⟩, (C2.gr G1.out).trans (C2.gr g2)⟩
    clear n2 g2
    go_wp2
    go_ret
    rw [HA.out]
    exact HD
  | true =>
    have hfu : full tx.data.toList := HB.out.1 rfl
    have HA : Hid (amT s tx = (prT s ((runes tx.data.toList)[0]?.getD 0), .out)) := by show _ = _; unfold amT; rw [if_pos hfu]
    have hr1 := HON.out hfu
    obtain ⟨R, hR⟩ : ∃ R, runes tx.data.toList = R := ⟨_, rfl⟩
    have DC : Hid (Calls Tryd.prog 55 #[.string tx] w1 fun e w' => ∃ v, e = .returned v ∧ w'.ownsRow w1.heap.size 3 1 v R.length (R.map (Value.int .i64)) ∧ Below w1.heap.size w1 w') := by have := gDecode_any tx w1 (by omega); rw [hR] at this; exact this
    rw [hR] at hr1 HA
    obtain ⟨r, rfl⟩ : ∃ r, R = [r] := by
      match R, hr1 with
      | [r], _ => exact ⟨r, rfl⟩
    clear hr1 hR hfu HB HON
    go_wp2_with fail
    refine DC.out.mono ?_
    rintro e w2 ⟨v, rfl, hv, b2⟩
    obtain ⟨g, cp, rfl, _⟩ : ∃ g cp, v = .slice (some ⟨g, 0, none⟩) 1 cp ∧ True := by
      rcases hv.2 with ⟨_, h⟩ | ⟨g, cp, cur, e, _⟩
      · cases h
      · exact ⟨g, cp, e, trivial⟩
    have y0 : w2.cell? ⟨g, 0, none⟩ = some (.int .i64 r) := hv.cellAt 0 (by decide)
    have HM2 : Hid (TM w2 T K M cap s nv) := (HM.out.gr G1.out).below b2
    have HC2 : Hid (C2 T M w w2) := (C2.gr G1.out).trans (C2.below b2)
    have HT2 : Hid (TabAt w2) := (HT.out.below G1.out.below).below b2
    clear hv b2 DC
    go_wp2_with fail
    refine (print_any w2 HM2.out HI.out HT2.out r).mono ?_
    rintro e w3 ⟨rfl, h3, g3⟩
    have HD : Hid (TM w3 T K M cap (prT s r) nv ∧ C2 T M w w3) := ⟨h3, HC2.out.trans g3⟩
    clear h3 g3
    go_wp2
    go_ret
    rw [HA.out]
    exact ⟨_, rfl, HD.out.1, rfl, HD.out.2⟩
end

end Go.Proofs.YtgaogkggbccfnaaDoor
