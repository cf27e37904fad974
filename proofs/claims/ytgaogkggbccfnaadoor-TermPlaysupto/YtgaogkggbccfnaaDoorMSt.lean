/-
  within, amid, escaped, and what reads the byte within a sequence.
-/
import Derived.Test.YtgaogkggbccfnaaDoorMObe
namespace Go.Proofs.YtgaogkggbccfnaaDoor
open Go.RowKit Go.Sort
set_option linter.unusedVariables false

/-- What reads the next byte. -/
inductive St where
  | out
  | esc
  | amid (h : ByteArray)
  | wth (l : Nat → Int) (a : Int)
def fnV (f : Nat) (cap : Array Value) : Value := .func (.func f) #[] cap
def Nx (Q : World) (T M : Nat) (v : Value) : St → Prop
  | .out => v = fnV 28 #[]
  | .esc => v = fnV 42 #[]
  | .amid h => ∃ k, v = fnV 53 #[.pointer (some ⟨k, 0, none⟩)] ∧ k ≠ T ∧ k ≠ M ∧ Q.heap[k]? = some (.cells #[.string h] 9 (0, 0))
  | .wth l a => ∃ k, v = fnV 69 #[.pointer (some ⟨k, 0, none⟩)] ∧ k ≠ T ∧ k ≠ M ∧ N18 Q k l a

set_option maxRecDepth 100000 in
theorem within_mk (l : Nat → Int) (a : Int) (w : World) : Calls Tryd.prog 52 #[numV l a] w fun e w' => e = .returned (fnV 69 #[.pointer (some ⟨w.heap.size, 0, none⟩)]) ∧ N18 w' w.heap.size l a ∧ Gr w w' := by
  have hmf : ∀ (fn : Fn) (first cap : Array Value) (w : World), (Instr.makeFunc fn first cap).run Tryd.prog w = .ok (.func fn first cap) w := fun _ _ _ _ => rfl
  unfold numV
  go_enter Tryd.func52, Tryd.ntmps52
  go_wp2
  go_ret
  exact ⟨rfl, N18.new w l a, (Gr.refl w).alloc _⟩

set_option maxRecDepth 100000 in
theorem amid_mk (h : ByteArray) (w : World) : Calls Tryd.prog 43 #[.string h] w fun e w' => e = .returned (fnV 53 #[.pointer (some ⟨w.heap.size, 0, none⟩)]) ∧ w'.heap[w.heap.size]? = some (.cells #[.string h] 9 (0, 0)) ∧ Gr w w' := by
  have hmf : ∀ (fn : Fn) (first cap : Array Value) (w : World), (Instr.makeFunc fn first cap).run Tryd.prog w = .ok (.func fn first cap) w := fun _ _ _ _ => rfl
  go_enter Tryd.func43, Tryd.ntmps43
  go_wp2
  go_ret
  exact ⟨rfl, heap_alloc_new _ _, (Gr.refl w).alloc _⟩

section
variable {T K M cap : Nat} {s : Tm} {nv : Value}
/-- What the reading of a byte leaves. -/
def Done (w w' : World) (e : Ending) (T K M cap : Nat) (s : Tm) (nv : Value) (st : St) : Prop := ∃ v, e = .returned v ∧ TM w' T K M cap s nv ∧ Nx w' T M v st ∧ C2 T M w w'
theorem Done.wth {w w1 w' : World} {l : Nat → Int} {a : Int} (h : TM w1 T K M cap s nv) (g : C2 T M w w1) (hn : N18 w' w1.heap.size l a) (g2 : Gr w1 w') : Done w w' (.returned (fnV 69 #[.pointer (some ⟨w1.heap.size, 0, none⟩)])) T K M cap s nv (.wth l a) :=
  ⟨_, rfl, h.gr g2, ⟨_, rfl, by have := h.lt; omega, by have := h.cs.cv.lt; omega, hn⟩, g.trans (C2.gr g2)⟩

set_option maxRecDepth 100000 in
set_option maxHeartbeats 2000000 in
theorem escaped_any (w : World) (h : TM w T K M cap s nv) (bt : Int) : Calls Tryd.prog 42 #[.pointer (some ⟨T, 0, none⟩), .int .u8 bt] w fun e w' => Done w w' e T K M cap s nv (if bt = 91 then .wth (fun _ => 0) 0 else .out) := by
  have HM : Hid (TM w T K M cap s nv) := h
  have WI : Hid (∀ w, Calls Tryd.prog 52 #[numV (fun _ => 0) 0] w fun e w' => e = .returned (fnV 69 #[.pointer (some ⟨w.heap.size, 0, none⟩)]) ∧ N18 w' w.heap.size (fun _ => 0) 0 ∧ Gr w w') := within_mk _ _
  unfold numV at WI
  clear h
  go_enter Tryd.func42, Tryd.ntmps42
  by_cases hb : bt = 91
  · subst hb
    rw [if_pos rfl]
    go_wp2_with fail
    refine (WI.out w).mono ?_
    rintro e w1 ⟨rfl, n1, g1⟩
    have HD := Done.wth HM.out (C2.refl T M w) n1 g1
    clear n1 g1
    go_wp2
    go_ret
    exact HD
  · have e91 : (bt == 91) = false := by simpa using hb
    rw [if_neg hb]
    go_wp2
    go_ret
    exact ⟨_, rfl, HM.out, rfl, C2.refl T M w⟩

/-- A byte within a sequence. -/
def wthT (s : Tm) (l : Nat → Int) (a : Nat) (b : Int) : Tm × St :=
  if 48 ≤ b ∧ b ≤ 57 then (s, .wth (updN l a (min (l a * 10 + (b - 48)) 999999)) a)
  else if b = 58 then (s, .wth l a)
  else if b = 59 then (s, .wth l (min ((a : Int) + 1) 16))
  else if 64 ≤ b ∧ b ≤ 126 then (obeyT s b l a, .out)
  else (s, .out)

set_option maxRecDepth 100000 in
set_option maxHeartbeats 8000000 in
theorem within1_any (w : World) (h : TM w T K M cap s nv) (bt : Int) (hbt : 0 ≤ bt ∧ bt ≤ 255) (l : Nat → Int) (a : Nat) (k : Nat) (ha : a ≤ 16) (hl : ∀ j, j < 17 → 0 ≤ l j ∧ l j ≤ 999999) (hn : N18 w k l a) :
    Calls Tryd.prog 69 #[.pointer (some ⟨T, 0, none⟩), .int .u8 bt, .pointer (some ⟨k, 0, none⟩)] w fun e w' => Done w w' e T K M cap (wthT s l a bt).1 nv (wthT s l a bt).2 := by
  have HM : Hid (TM w T K M cap s nv) := h
  have HL : Hid (∀ j, j < 17 → 0 ≤ l j ∧ l j ≤ 999999) := hl
  have HN : Hid (N18 w k l a) := hn
  obtain ⟨d0, hu, hd0⟩ := numDesc
  have hi3 : (Tryd.prog.info? 108).map (·.size) = some (numC l (a : Int)).toList.length := numInfo
  clear h hl hn
  go_enter Tryd.func69, Tryd.ntmps69
  by_cases h1 : 48 ≤ bt ∧ bt ≤ 57
  · have hE : wthT s l a bt = (s, .wth (updN l a (min (l a * 10 + (bt - 48)) 999999)) a) := if_pos h1
    rw [hE]
    clear hE
    obtain ⟨h1a, h1b⟩ := h1
    go_wp2_with (refine wpList_load_mid rfl 108 _ rfl k 0 rfl (numC l (a : Int)).toList d0 HN.out.range hu hd0 hi3 ?_)
    refine (withDigit_any l a (bt - 48) (by omega) (HL.out a (by omega)) (by omega) w).mono ?_
    rintro e w1 ⟨rfl, g1⟩
    have H1 : Hid (TM w1 T K M cap s nv) := HM.out.gr g1
    have C1 : Hid (C2 T M w w1) := C2.gr g1
    clear g1
    go_wp2_with fail
    refine (within_mk _ _ w1).mono ?_
    rintro e w2 ⟨rfl, n2, g2⟩
    have HD := Done.wth H1.out C1.out n2 g2
    clear n2 g2
    go_wp2
    go_ret
    exact HD
  · have h1a : ¬ (48 ≤ bt) ∨ ¬ (bt ≤ 57) := by omega
    by_cases h58 : bt = 58
    · have hE : wthT s l a bt = (s, .wth l a) := by unfold wthT; rw [if_neg h1, if_pos h58]
      rw [hE]
      clear hE
      subst h58
      go_wp2_with (refine wpList_load_mid rfl 108 _ rfl k 0 rfl (numC l (a : Int)).toList d0 HN.out.range hu hd0 hi3 ?_)
      refine (within_mk l a w).mono ?_
      rintro e w2 ⟨rfl, n2, g2⟩
      have HD := Done.wth HM.out (C2.refl T M w) n2 g2
      clear n2 g2
      go_wp2
      go_ret
      exact HD
    · by_cases h59 : bt = 59
      · have hE : wthT s l a bt = (s, .wth l (min ((a : Int) + 1) 16)) := by unfold wthT; rw [if_neg h1, if_neg h58, if_pos h59]
        rw [hE]
        clear hE
        subst h59
        go_wp2_with (refine wpList_load_mid rfl 108 _ rfl k 0 rfl (numC l (a : Int)).toList d0 HN.out.range hu hd0 hi3 ?_)
        refine (withAnother_any l a (by omega) w).mono ?_
        rintro e w1 ⟨rfl, g1⟩
        have H1 : Hid (TM w1 T K M cap s nv) := HM.out.gr g1
        have C1 : Hid (C2 T M w w1) := C2.gr g1
        clear g1
        go_wp2_with fail
        refine (within_mk _ _ w1).mono ?_
        rintro e w2 ⟨rfl, n2, g2⟩
        have HD := Done.wth H1.out C1.out n2 g2
        clear n2 g2
        go_wp2
        go_ret
        exact HD
      · have e58 : (bt == 58) = false := by simpa using h58
        have e59 : (bt == 59) = false := by simpa using h59
        by_cases h64 : 64 ≤ bt ∧ bt ≤ 126
        · have hE : wthT s l a bt = (obeyT s bt l a, .out) := by unfold wthT; rw [if_neg h1, if_neg h58, if_neg h59, if_pos h64]
          rw [hE]
          clear hE
          obtain ⟨h64a, h64b⟩ := h64
          have hx1 : decide (bt ≤ 57) = false := decide_eq_false (by omega)
          have hx2 : (48 : Int) ≤ bt := by omega
          go_wp2_with (refine wpList_load_mid rfl 108 _ rfl k 0 rfl (numC l (a : Int)).toList d0 HN.out.range hu hd0 hi3 ?_)
          refine (obey_any w HM.out bt l a (by omega) HL.out).mono ?_
          rintro e w1 ⟨rfl, h1', g1⟩
          have HD : Hid (TM w1 T K M cap (obeyT s bt l a) nv ∧ C2 T M w w1) := ⟨h1', g1⟩
          clear h1' g1
          go_wp2
          go_ret
          exact ⟨_, rfl, HD.out.1, rfl, HD.out.2⟩
        · have hE : wthT s l a bt = (s, .out) := by unfold wthT; rw [if_neg h1, if_neg h58, if_neg h59, if_neg h64]
          rw [hE]
          clear hE
          by_cases q1 : 48 ≤ bt
          · have hx1 : decide (bt ≤ 57) = false := decide_eq_false (by omega)
            by_cases q2 : 64 ≤ bt
            · have hx3 : decide (bt ≤ 126) = false := decide_eq_false (by omega)
              go_wp2
              go_ret
              exact ⟨_, rfl, HM.out, rfl, C2.refl T M w⟩
            · have hx3 : decide (64 ≤ bt) = false := decide_eq_false q2
              go_wp2
              go_ret
              exact ⟨_, rfl, HM.out, rfl, C2.refl T M w⟩
          · have hx1 : decide (48 ≤ bt) = false := decide_eq_false q1
            have hx3 : decide (64 ≤ bt) = false := decide_eq_false (by omega)
            go_wp2
            go_ret
            exact ⟨_, rfl, HM.out, rfl, C2.refl T M w⟩
end

end Go.Proofs.YtgaogkggbccfnaaDoor
