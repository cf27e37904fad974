/-
  within, amid, escaped, and what reads the byte within a sequence.
-/
import Derived.Test.YtlfffpoeioecjaaDoorX27b
import Derived.Test.YtlfffpoeioecjaaDoorX15
import Derived.Test.YtlfffpoeioecjaaDoorX04
namespace Go.Proofs.YtlfffpoeioecjaaDoor
open Go.RowKit Go.Sort
set_option linter.unusedVariables false

/-- What reads the next byte. -/
inductive St where
  | out
  | esc
  | amid (h : ByteArray)
  | wth (l : Nat → Int) (a : Int)
def fnV (f : Nat) (cap : Array Value) : Value := .func (.func f) #[] cap
def Nx (Q : World) (T M : Nat) (v : Value) : St → Prop
  | .out => v = fnV 36 #[]
  | .esc => v = fnV 58 #[]
  | .amid h => ∃ k, v = fnV 76 #[.pointer (some ⟨k, 0, none⟩)] ∧ k ≠ T ∧ k ≠ M ∧ Q.heap[k]? = some (.cells #[.string h] 9 (0, 0))
  | .wth l a => ∃ k, v = fnV 92 #[.pointer (some ⟨k, 0, none⟩)] ∧ k ≠ T ∧ k ≠ M ∧ N18 Q k l a

set_option maxRecDepth 100000 in
theorem within_mk (l : Nat → Int) (a : Int) (w : World) : Calls Tryd.prog 75 #[numV l a] w fun e w' => e = .returned (fnV 92 #[.pointer (some ⟨w.heap.size, 0, none⟩)]) ∧ N18 w' w.heap.size l a ∧ Gr w w' := by
  have hmf : ∀ (fn : Fn) (first cap : Array Value) (w : World), (Instr.makeFunc fn first cap).run Tryd.prog w = .ok (.func fn first cap) w := fun _ _ _ _ => rfl
  unfold numV
  go_enter Tryd.func75, Tryd.ntmps75
  go_wp2
  go_ret
  exact ⟨rfl, N18.new w l a, (Gr.refl w).alloc _⟩

set_option maxRecDepth 100000 in
theorem amid_mk (h : ByteArray) (w : World) : Calls Tryd.prog 59 #[.string h] w fun e w' => e = .returned (fnV 76 #[.pointer (some ⟨w.heap.size, 0, none⟩)]) ∧ w'.heap[w.heap.size]? = some (.cells #[.string h] 9 (0, 0)) ∧ Gr w w' := by
  have hmf : ∀ (fn : Fn) (first cap : Array Value) (w : World), (Instr.makeFunc fn first cap).run Tryd.prog w = .ok (.func fn first cap) w := fun _ _ _ _ => rfl
  go_enter Tryd.func59, Tryd.ntmps59
  go_wp2
  go_ret
  exact ⟨rfl, heap_alloc_new _ _, (Gr.refl w).alloc _⟩

section
variable {T K M cap : Nat} {s : Tm} {nv : Value}
/-- What the reading of a byte leaves. -/
def Done (w w' : World) (e : Ending) (T K M cap : Nat) (s : Tm) (nv : Value) (st : St) : Prop := ∃ v, e = .returned v ∧ TM w' T K M cap s nv ∧ Nx w' T M v st ∧ C2 T M w w'
theorem Done.wth {w w1 w' : World} {l : Nat → Int} {a : Int} (h : TM w1 T K M cap s nv) (g : C2 T M w w1) (hn : N18 w' w1.heap.size l a) (g2 : Gr w1 w') : Done w w' (.returned (fnV 92 #[.pointer (some ⟨w1.heap.size, 0, none⟩)])) T K M cap s nv (.wth l a) :=
  ⟨_, rfl, h.gr g2, ⟨_, rfl, by have := h.lt; omega, by have := h.cs.cv.lt; omega, hn⟩, g.trans (C2.gr g2)⟩

set_option maxRecDepth 100000 in
set_option maxHeartbeats 2000000 in
theorem escaped_any (w : World) (h : TM w T K M cap s nv) (bt : Int) : Calls Tryd.prog 58 #[.pointer (some ⟨T, 0, none⟩), .int .u8 bt] w fun e w' => Done w w' e T K M cap s nv (if bt = 91 then .wth (fun _ => 0) 0 else .out) := by
  have HM : Hid (TM w T K M cap s nv) := h
  have WI : Hid (∀ w, Calls Tryd.prog 75 #[numV (fun _ => 0) 0] w fun e w' => e = .returned (fnV 92 #[.pointer (some ⟨w.heap.size, 0, none⟩)]) ∧ N18 w' w.heap.size (fun _ => 0) 0 ∧ Gr w w') := within_mk _ _
  unfold numV at WI
  clear h
  go_enter Tryd.func58, Tryd.ntmps58
  by_cases hb : bt = 91
  · subst hb
    rw [if_pos rfl]
    go_wp2_with fail
    refine (WI.out w).mono ?_
    rintro e w1 ⟨rfl, n1, g1⟩
    have HD := Done.wth HM.out (C2.refl T M w) n1 g1
    clear n1 g1
    go_wp2
    go_ret
    exact HD
  · have e91 : (bt == 91) = false := by simpa using hb
    rw [if_neg hb]
    go_wp2
    go_ret
    exact ⟨_, rfl, HM.out, rfl, C2.refl T M w⟩

/-- A byte within a sequence. -/
def wthT (s : Tm) (l : Nat → Int) (a : Nat) (b : Int) : Tm × St :=
  if 48 ≤ b ∧ b ≤ 57 then (s, .wth (updN l a (min (l a * 10 + (b - 48)) 999999)) a)
  else if b = 58 then (s, .wth l a)
  else if b = 59 then (s, .wth l (min ((a : Int) + 1) 16))
  else if 64 ≤ b ∧ b ≤ 126 then (obeyT s b l a, .out)
  else (s, .out)

set_option maxRecDepth 100000 in
set_option maxHeartbeats 8000000 in
theorem within1_any (w : World) (h : TM w T K M cap s nv) (bt : Int) (hbt : 0 ≤ bt ∧ bt ≤ 255) (l : Nat → Int) (a : Nat) (k : Nat) (ha : a ≤ 16) (hl : ∀ j, j < 17 → 0 ≤ l j ∧ l j ≤ 999999) (hn : N18 w k l a) :
    Calls Tryd.prog 92 #[.pointer (some ⟨T, 0, none⟩), .int .u8 bt, .pointer (some ⟨k, 0, none⟩)] w fun e w' => Done w w' e T K M cap (wthT s l a bt).1 nv (wthT s l a bt).2 := by
  have HM : Hid (TM w T K M cap s nv) := h
  have HL : Hid (∀ j, j < 17 → 0 ≤ l j ∧ l j ≤ 999999) := hl
  have HN : Hid (N18 w k l a) := hn
  obtain ⟨d0, hu, hd0⟩ := numDesc
  have hi3 : (Tryd.prog.info? 141).map (·.size) = some (numC l (a : Int)).toList.length := numInfo
  clear h hl hn
  go_enter Tryd.func92, Tryd.ntmps92
  by_cases h1 : 48 ≤ bt ∧ bt ≤ 57
  · have hE : wthT s l a bt = (s, .wth (updN l a (min (l a * 10 + (bt - 48)) 999999)) a) := if_pos h1
    rw [hE]
    clear hE
    obtain ⟨h1a, h1b⟩ := h1
    go_wp2_with (refine wpList_load_mid rfl 141 _ rfl k 0 rfl (numC l (a : Int)).toList d0 HN.out.range hu hd0 hi3 ?_)
    refine (withDigit_any l a (bt - 48) (by omega) (HL.out a (by omega)) (by omega) w).mono ?_
    rintro e w1 ⟨rfl, g1⟩
    have H1 : Hid (TM w1 T K M cap s nv) := HM.out.gr g1
    have C1 : Hid (C2 T M w w1) := C2.gr g1
    clear g1
    go_wp2_with fail
    refine (within_mk _ _ w1).mono ?_
    rintro e w2 ⟨rfl, n2, g2⟩
    have HD := Done.wth H1.out C1.out n2 g2
    clear n2 g2
    go_wp2
    go_ret
    exact HD
  · have h1a : ¬ (48 ≤ bt) ∨ ¬ (bt ≤ 57) := by omega
    by_cases h58 : bt = 58
    · have hE : wthT s l a bt = (s, .wth l a) := by unfold wthT; rw [if_neg h1, if_pos h58]
      rw [hE]
      clear hE
      subst h58
      go_wp2_with (refine wpList_load_mid rfl 141 _ rfl k 0 rfl (numC l (a : Int)).toList d0 HN.out.range hu hd0 hi3 ?_)
      refine (within_mk l a w).mono ?_
      rintro e w2 ⟨rfl, n2, g2⟩
      have HD := Done.wth HM.out (C2.refl T M w) n2 g2
      clear n2 g2
      go_wp2
      go_ret
      exact HD
    · by_cases h59 : bt = 59
      · have hE : wthT s l a bt = (s, .wth l (min ((a : Int) + 1) 16)) := by unfold wthT; rw [if_neg h1, if_neg h58, if_pos h59]
        rw [hE]
        clear hE
        subst h59
        go_wp2_with (refine wpList_load_mid rfl 141 _ rfl k 0 rfl (numC l (a : Int)).toList d0 HN.out.range hu hd0 hi3 ?_)
        refine (withAnother_any l a (by omega) w).mono ?_
        rintro e w1 ⟨rfl, g1⟩
        have H1 : Hid (TM w1 T K M cap s nv) := HM.out.gr g1
        have C1 : Hid (C2 T M w w1) := C2.gr g1
        clear g1
        go_wp2_with fail
        refine (within_mk _ _ w1).mono ?_
        rintro e w2 ⟨rfl, n2, g2⟩
        have HD := Done.wth H1.out C1.out n2 g2
        clear n2 g2
        go_wp2
        go_ret
        exact HD
      · have e58 : (bt == 58) = false := by simpa using h58
        have e59 : (bt == 59) = false := by simpa using h59
        by_cases h64 : 64 ≤ bt ∧ bt ≤ 126
        · have hE : wthT s l a bt = (obeyT s bt l a, .out) := by unfold wthT; rw [if_neg h1, if_neg h58, if_neg h59, if_pos h64]
          rw [hE]
          clear hE
          obtain ⟨h64a, h64b⟩ := h64
          have hx1 : decide (bt ≤ 57) = false := decide_eq_false (by omega)
          have hx2 : (48 : Int) ≤ bt := by omega
          go_wp2_with (refine wpList_load_mid rfl 141 _ rfl k 0 rfl (numC l (a : Int)).toList d0 HN.out.range hu hd0 hi3 ?_)
          refine (obey_any w HM.out bt l a (by omega) HL.out).mono ?_
          rintro e w1 ⟨rfl, h1', g1⟩
          have HD : Hid (TM w1 T K M cap (obeyT s bt l a) nv ∧ C2 T M w w1) := ⟨h1', g1⟩
          clear h1' g1
          go_wp2
          go_ret
          exact ⟨_, rfl, HD.out.1, rfl, HD.out.2⟩
        · have hE : wthT s l a bt = (s, .out) := by unfold wthT; rw [if_neg h1, if_neg h58, if_neg h59, if_neg h64]
          rw [hE]
          clear hE
          by_cases q1 : 48 ≤ bt
          · have hx1 : decide (bt ≤ 57) = false := decide_eq_false (by omega)
            by_cases q2 : 64 ≤ bt
            · have hx3 : decide (bt ≤ 126) = false := decide_eq_false (by omega)
              go_wp2
              go_ret
              exact ⟨_, rfl, HM.out, rfl, C2.refl T M w⟩
            · have hx3 : decide (64 ≤ bt) = false := decide_eq_false q2
              go_wp2
              go_ret
              exact ⟨_, rfl, HM.out, rfl, C2.refl T M w⟩
          · have hx1 : decide (48 ≤ bt) = false := decide_eq_false q1
            have hx3 : decide (64 ≤ bt) = false := decide_eq_false (by omega)
            go_wp2
            go_ret
            exact ⟨_, rfl, HM.out, rfl, C2.refl T M w⟩
end

end Go.Proofs.YtlfffpoeioecjaaDoor

namespace Go.Proofs.YtlfffpoeioecjaaDoor
open Go.RowKit Go.Sort
set_option linter.unusedVariables false

theorem conv_one (bt : UInt8) (w : World) : (convert 76 9 (.slice (some ⟨w.heap.size, 0, none⟩) 1 1)).run Tryd.prog (w.alloc (.cells #[.int .u8 (bt.toNat : Int)] 5)) = .ok (.string ⟨#[bt]⟩) (w.alloc (.cells #[.int .u8 (bt.toNat : Int)] 5)) := by
  refine run_convert_bytes_back (P := Tryd.prog) (w.alloc (.cells #[.int .u8 (bt.toNat : Int)] 5)) 76 9 5 ⟨w.heap.size, 0, none⟩ 1 [bt] Tryd.underlying76 Tryd.underlying5 Tryd.underlying9 ?_
  intro j hj
  have hj0 : j = 0 := by simp at hj; omega
  subst hj0
  have e : (⟨w.heap.size, 0, none⟩ : Addr).add 0 = ⟨w.heap.size, 0, none⟩ := by unfold Addr.add; split <;> simp_all
  rw [e, World.cell?_alloc_mark]
  simp

instance (l : List UInt8) : Decidable (full l) := by unfold full; exact inferInstance
/-- A byte that comes behind h: what is done, if it is not read anew. -/
def amT (s : Tm) (t : ByteArray) : Tm × St := if full t.data.toList then (prT s ((runes t.data.toList)[0]?.getD 0), .out) else (s, .amid t)

section
variable {T K M cap : Nat} {s : Tm} {nv : Value}
set_option maxRecDepth 100000 in
set_option maxHeartbeats 8000000 in
/-- Where the byte goes on as it must, or ends the rune. -/
theorem amid1_on (w : World) (h : TM w T K M cap s nv) (hi : Ti s) (ht : TabAt w) (hU : Utf w) (bt : UInt8) (hf : ByteArray) (hfs : hf.size ≤ 3) (k : Nat) (hk : w.heap[k]? = some (.cells #[.string hf] 9 (0, 0)))
    (hone : full (hf ++ ⟨#[bt]⟩).data.toList → (runes (hf ++ ⟨#[bt]⟩).data.toList).length = 1) :
    Calls Tryd.prog 76 #[.pointer (some ⟨T, 0, none⟩), .int .u8 (bt.toNat : Int), .pointer (some ⟨k, 0, none⟩)] w fun e w' => Done w w' e T K M cap (amT s (hf ++ ⟨#[bt]⟩)).1 nv (amT s (hf ++ ⟨#[bt]⟩)).2 := by
  have HM : Hid (TM w T K M cap s nv) := h
  have HT : Hid (TabAt w) := ht
  have HI : Hid (Ti s) := hi
  have HU : Hid (Utf w) := hU
  have ck : w.cell? ⟨k, 0, none⟩ = some (.string hf) := by simp [World.cell?, hk]
  have cv := conv_one bt w
  obtain ⟨tx, htx⟩ : ∃ z, hf ++ (⟨#[bt]⟩ : ByteArray) = z := ⟨_, rfl⟩
  have hts : tx.size ≤ 1000000 := by
    have e : (hf ++ (⟨#[bt]⟩ : ByteArray)).size = hf.size + 1 := ByteArray.size_append
    rw [← htx, e]; omega
  have HTX : Hid (hf ++ (⟨#[bt]⟩ : ByteArray) = tx) := htx
  rw [htx]
  rw [htx] at hone
  have HON : Hid (full tx.data.toList → (runes tx.data.toList).length = 1) := hone
  clear h ht hi hU hk hone
  go_enter Tryd.func76, Tryd.ntmps76
  go_wp2_with fail
  clear cv
  have G0 : Gr w (w.alloc (.cells #[.int .u8 (bt.toNat : Int)] 5)) := (Gr.refl w).alloc _
  refine (full_any tx _ (HU.out.below G0.below) hts).mono ?_
  rintro e w1 ⟨b, rfl, hb, g1⟩
  have G1 : Hid (Gr w w1) := G0.trans g1
  have HB : Hid (b = true ↔ full tx.data.toList) := hb
  clear G0 g1 hb
  cases b with
  | false =>
    have HA : Hid (amT s tx = (s, .amid tx)) := by show _ = _; unfold amT; rw [if_neg (fun q => (nomatch HB.out.2 q))]
    go_wp2_with fail
    refine (amid_mk tx w1).mono ?_
    rintro e w2 ⟨rfl, n2, g2⟩
    have HD : Done w w2 (.returned (fnV 76 #[.pointer (some ⟨w1.heap.size, 0, none⟩)])) T K M cap s nv (.amid tx) :=
      ⟨_, rfl, (HM.out.gr G1.out).gr g2, ⟨_, rfl, by have := (HM.out.gr G1.out).lt; omega, by have := (HM.out.gr G1.out).cs.cv.lt; omega, n2⟩, (C2.gr G1.out).trans (C2.gr g2)⟩
    clear n2 g2
    go_wp2
    go_ret
    rw [HA.out]
    exact HD
  | true =>
    have hfu : full tx.data.toList := HB.out.1 rfl
    have HA : Hid (amT s tx = (prT s ((runes tx.data.toList)[0]?.getD 0), .out)) := by show _ = _; unfold amT; rw [if_pos hfu]
    have hr1 := HON.out hfu
    obtain ⟨R, hR⟩ : ∃ R, runes tx.data.toList = R := ⟨_, rfl⟩
    have DC : Hid (Calls Tryd.prog 78 #[.string tx] w1 fun e w' => ∃ v, e = .returned v ∧ w'.ownsRow w1.heap.size 3 1 v R.length (R.map (Value.int .i64)) ∧ Below w1.heap.size w1 w') := by have := gDecode_any tx w1 (by omega); rw [hR] at this; exact this
    rw [hR] at hr1 HA
    obtain ⟨r, rfl⟩ : ∃ r, R = [r] := by
      match R, hr1 with
      | [r], _ => exact ⟨r, rfl⟩
    clear hr1 hR hfu HB HON
    go_wp2_with fail
    refine DC.out.mono ?_
    rintro e w2 ⟨v, rfl, hv, b2⟩
    obtain ⟨g, cp, rfl, _⟩ : ∃ g cp, v = .slice (some ⟨g, 0, none⟩) 1 cp ∧ True := by
      rcases hv.2 with ⟨_, h⟩ | ⟨g, cp, cur, e, _⟩
      · cases h
      · exact ⟨g, cp, e, trivial⟩
    have y0 : w2.cell? ⟨g, 0, none⟩ = some (.int .i64 r) := hv.cellAt 0 (by decide)
    have HM2 : Hid (TM w2 T K M cap s nv) := (HM.out.gr G1.out).below b2
    have HC2 : Hid (C2 T M w w2) := (C2.gr G1.out).trans (C2.below b2)
    have HT2 : Hid (TabAt w2) := (HT.out.below G1.out.below).below b2
    clear hv b2 DC
    go_wp2_with fail
    refine (print_any w2 HM2.out HI.out HT2.out r).mono ?_
    rintro e w3 ⟨rfl, h3, g3⟩
    have HD : Hid (TM w3 T K M cap (prT s r) nv ∧ C2 T M w w3) := ⟨h3, HC2.out.trans g3⟩
    clear h3 g3
    go_wp2
    go_ret
    rw [HA.out]
    exact ⟨_, rfl, HD.out.1, rfl, HD.out.2⟩
end

end Go.Proofs.YtlfffpoeioecjaaDoor
