/-
  The document's terminal: does what has come tell something whole?
-/
import Derived.Test.YtlfffpoeioecjaaDoorX21
import Derived.Test.YtlfffpoeioecjaaDoorX15
namespace Go.Proofs.YtlfffpoeioecjaaDoor
open Go.RowKit Go.Sort
set_option linter.unusedVariables false

def prR (s : Rm) (r : Int) : Rm := if wid r = 0 then markR s r else bigR s r
section
variable {T K M cap B bc : Nat} {s : Rm}
theorem rprint_any (w : World) (h : RT w T K M cap B bc s) (hi : Ri s) (r : Int) : Calls Tryd.prog 53 #[.pointer (some ⟨T, 0, none⟩), .int .i64 r] w fun e w' => PrOut w w' e T K M cap B bc (prR s r) := by
  unfold prR
  have hw := wid_bd r
  by_cases h0 : wid r = 0
  · rw [if_pos h0]; exact rmark_any w h hi r h0
  · rw [if_neg h0]; exact rbig_any w h hi r (by omega)
theorem Ri.q (h : Ri s) (y : ByteArray) : Ri { s with q := y } := ⟨h.x0, h.x1, h.y0, h.y1, h.la⟩
theorem RT.q (w : World) (h : RT w T K M cap B bc s) (y : ByteArray) : RT (w.setCell ⟨T, 6, none⟩ (.string y)) T K M cap B bc { s with q := y } := h.set 6 (.string y) { s with q := y } rfl ⟨rfl, rfl, rfl, rfl⟩

set_option maxRecDepth 100000 in
set_option maxHeartbeats 4000000 in
theorem step_0 (w : World) (h : RT w T K M cap B bc s) (hq : s.q.size = 0) : Calls Tryd.prog 33 #[.pointer (some ⟨T, 0, none⟩)] w fun e w' => StEnd w w' e T M B bc s false := by
  have HR : Hid (RT w T K M cap B bc s) := h
  have e : s.q = ⟨#[]⟩ := by
    apply ByteArray.ext
    exact Array.eq_empty_of_size_eq_zero hq
  have t6 : w.cell? ⟨T, 6, none⟩ = some (.string ⟨#[]⟩) := by rw [← e]; exact h.at rfl
  clear h e
  go_enter Tryd.func33, Tryd.ntmps33
  go_wp2
  go_ret
  exact ⟨rfl, ⟨K, M, cap, HR.out, .inl rfl⟩, C3.refl _ _ _ _⟩

theorem ne_empty {q : ByteArray} (h : 0 < q.size) : q.toList.isEmpty = false := by
  cases hh : q.toList.isEmpty with
  | false => rfl
  | true =>
    rw [List.isEmpty_iff, ByteArray.toList_eq] at hh
    have := len_data q
    rw [hh] at this
    simp at this
    omega

set_option maxRecDepth 100000 in
set_option maxHeartbeats 4000000 in
theorem step_esc (w : World) (h : RT w T K M cap B bc s) (hq : 0 < s.q.size) (hb : (s.q[0]'hq).toNat = 27) {s' : Rm} {a : Bool} (hE : Calls Tryd.prog 51 #[.pointer (some ⟨T, 0, none⟩)] w fun e w' => StEnd w w' e T M B bc s' a) :
    Calls Tryd.prog 33 #[.pointer (some ⟨T, 0, none⟩)] w fun e w' => StEnd w w' e T M B bc s' a := by
  have HE : Hid (Calls Tryd.prog 51 #[.pointer (some ⟨T, 0, none⟩)] w fun e w' => e = .returned (.bool a) ∧ DoOut w w' T M B bc s') := hE
  have t6 : w.cell? ⟨T, 6, none⟩ = some (.string s.q) := h.at rfl
  have ne := ne_empty hq
  obtain ⟨bt, hbt⟩ : ∃ b, s.q[0]'hq = b := ⟨_, rfl⟩
  have e1 : ((bt.toNat : Int) == 27) = true := by rw [hbt] at hb; simpa using (by omega : (bt.toNat : Int) = 27)
  have hq' : (0 : Int) < (s.q.size : Int) := by omega
  clear h hE hb
  go_enter Tryd.func33, Tryd.ntmps33
  go_wp2_with fail
  refine HE.out.mono ?_
  rintro e w1 ⟨rfl, d⟩
  have HD : Hid (DoOut w w1 T M B bc s') := d
  clear d
  go_wp2
  go_ret
  exact ⟨rfl, HD.out⟩

set_option maxRecDepth 100000 in
set_option maxHeartbeats 4000000 in
theorem step_ctl (w : World) (h : RT w T K M cap B bc s) (hq : 0 < s.q.size) (hb : (s.q[0]'hq).toNat ≠ 27) (hc : (s.q[0]'hq).toNat < 32 ∨ (s.q[0]'hq).toNat = 127) :
    Calls Tryd.prog 33 #[.pointer (some ⟨T, 0, none⟩)] w fun e w' => StEnd w w' e T M B bc { s with la := -1, q := s.q.extract 1 s.q.size } true := by
  have HR : Hid (RT w T K M cap B bc s) := h
  have t6 : w.cell? ⟨T, 6, none⟩ = some (.string s.q) := h.at rfl
  have t7 : w.cell? ⟨T, 7, none⟩ = some (.int .i64 s.la) := h.at rfl
  have f6 := h.fz 6
  have f7 := h.fz 7
  have ne := ne_empty hq
  obtain ⟨bt, hbt⟩ : ∃ b, s.q[0]'hq = b := ⟨_, rfl⟩
  rw [hbt] at hb hc
  have e1 : ((bt.toNat : Int) == 27) = false := by simpa using (by omega : ¬ (bt.toNat : Int) = 27)
  have hq' : (0 : Int) < (s.q.size : Int) := by omega
  have HF : Hid (StEnd w ((w.setCell ⟨T, 7, none⟩ (.int .i64 (-1))).setCell ⟨T, 6, none⟩ (.string (s.q.extract 1 s.q.size))) (.returned (.bool true)) T M B bc { s with la := -1, q := s.q.extract 1 s.q.size } true) :=
    ⟨rfl, DoOut.q (s := esc0 s) ⟨⟨K, M, cap, esc0_set w HR.out, .inl rfl⟩, (C3.refl _ _ _ _).set _ _⟩ _⟩
  clear h hb
  by_cases h32 : (bt.toNat : Int) < 32
  · go_enter Tryd.func33, Tryd.ntmps33
    go_wp2
    go_ret
    exact ⟨rfl, HF.out.2⟩
  · have e2 : ((bt.toNat : Int) == 127) = true := by simpa using (by omega : (bt.toNat : Int) = 127)
    go_enter Tryd.func33, Tryd.ntmps33
    go_wp2
    go_ret
    exact ⟨rfl, HF.out.2⟩

set_option maxRecDepth 100000 in
set_option maxHeartbeats 8000000 in
theorem step_seq (w : World) (h : RT w T K M cap B bc s) (hi : Ri s) (hq : 0 < s.q.size) (hqs : s.q.size ≤ 1000) (hb : (s.q[0]'hq).toNat ≠ 27) (hc : ¬ ((s.q[0]'hq).toNat < 32 ∨ (s.q[0]'hq).toNat = 127)) (n : Nat) (hn : seq s.q.data.toList = n) (hn0 : 0 < n) (hns : n ≤ s.q.size) (r : Int) (hr : runes (s.q.extract 0 n).data.toList = [r]) :
    Calls Tryd.prog 33 #[.pointer (some ⟨T, 0, none⟩)] w fun e w' => StEnd w w' e T M B bc (prR { s with q := s.q.extract n s.q.size } r) true := by
  have HR : Hid (RT w T K M cap B bc s) := h
  have HI : Hid (Ri s) := hi
  have t6 : w.cell? ⟨T, 6, none⟩ = some (.string s.q) := h.at rfl
  have ne := ne_empty hq
  obtain ⟨bt, hbt⟩ : ∃ b, s.q[0]'hq = b := ⟨_, rfl⟩
  rw [hbt] at hb hc
  have e1 : ((bt.toNat : Int) == 27) = false := by simpa using (by omega : ¬ (bt.toNat : Int) = 27)
  have h32 : ¬ (bt.toNat : Int) < 32 := by omega
  have e2 : ((bt.toNat : Int) == 127) = false := by simpa using (by omega : ¬ (bt.toNat : Int) = 127)
  have hq' : (0 : Int) < (s.q.size : Int) := by omega
  have hn0' : (0 : Int) < (n : Int) := by omega
  have hns' : (n : Int) ≤ (s.q.size : Int) := by omega
  have SQ : Hid (∀ w, Calls Tryd.prog 52 #[.string s.q, .int .i64 0] w fun e w' => e = .returned (.int .i64 n) ∧ w' = w) := fun w => by
    have := sequence_any s.q 0 hq (by omega) w
    rw [List.drop_zero, hn] at this
    exact this
  have DC : Hid (∀ w, Calls Tryd.prog 48 #[.string (s.q.extract 0 n)] w fun e w' => ∃ b off c, e = .returned (.slice (some ⟨b, off, none⟩) 1 c) ∧ w.heap.size ≤ b ∧ w'.cell? ⟨b, off, none⟩ = some (.int .i64 r) ∧ Below w.heap.size w w') := fun w => (rDecode_any (s.q.extract 0 n) w (by simp [ByteArray.size_extract]; omega)).mono fun e w' q => by
    obtain ⟨v, q1, q2, q3⟩ := q
    rw [hr] at q2
    rcases q2.2 with ⟨_, h0⟩ | ⟨g, c, cur, rfl, hg, hcell, _⟩
    · exact absurd h0 (by simp)
    · have := q2.cells (g := g) rfl 0 (.int .i64 r) rfl
      exact ⟨g, 0, c, q1, hg, this, q3⟩
  clear h hi hb hc hr hn
  go_enter Tryd.func33, Tryd.ntmps33
  go_wp2_with fail
  refine (SQ.out _).mono ?_
  rintro e w1 ⟨rfl, hw⟩
  obtain rfl := hw.symm
  go_wp2_with fail
  refine (DC.out _).mono ?_
  rintro e w2 ⟨b0, off, c0, rfl, hb0, z0, g2⟩
  have H2 : Hid (RT w2 T K M cap B bc s) := HR.out.below g2
  have B2 : Hid (C3 T M B w w2) := C3.below g2
  have hTl := HR.out.lt
  have u6 : w2.cell? ⟨T, 6, none⟩ = some (.string s.q) := H2.out.at rfl
  have f6 := H2.out.fz 6
  have z1 : (w2.setCell ⟨T, 6, none⟩ (.string (s.q.extract n s.q.size))).cell? ⟨b0, off, none⟩ = some (.int .i64 r) := keepo z0 (by show b0 ≠ T; omega)
  have H3 : Hid (RT (w2.setCell ⟨T, 6, none⟩ (.string (s.q.extract n s.q.size))) T K M cap B bc { s with q := s.q.extract n s.q.size }) := RT.q w2 H2.out _
  have B3 : Hid (C3 T M B w (w2.setCell ⟨T, 6, none⟩ (.string (s.q.extract n s.q.size)))) := B2.out.set _ _
  have I3 : Hid (Ri { s with q := s.q.extract n s.q.size }) := HI.out.q _
  clear g2 H2 B2 SQ DC t6 hb0
  go_wp2_with fail
  refine (rprint_any _ H3.out I3.out r).mono ?_
  rintro e w4 ⟨rfl, h4, c4⟩
  have H4 : Hid (RT w4 T K M cap B bc (prR { s with q := s.q.extract n s.q.size } r)) := h4
  have B4 : Hid (C3 T M B w w4) := B3.out.trans c4
  clear h4 c4 H3 B3
  go_wp2
  go_ret
  exact ⟨rfl, ⟨K, M, cap, H4.out, .inl rfl⟩, B4.out⟩

set_option maxRecDepth 100000 in
set_option maxHeartbeats 8000000 in
theorem step_amid (w : World) (h : RT w T K M cap B bc s) (hi : Ri s) (hq : 0 < s.q.size) (hqs : s.q.size ≤ 1000) (hb : (s.q[0]'hq).toNat ≠ 27) (hc : ¬ ((s.q[0]'hq).toNat < 32 ∨ (s.q[0]'hq).toNat = 127)) (hn : seq s.q.data.toList = 0) (bb : Bool) (hbb : bb = true ↔ ∃ n, 1 ≤ n ∧ n < 4 ∧ begN s.q.data.toList n) :
    Calls Tryd.prog 33 #[.pointer (some ⟨T, 0, none⟩)] w fun e w' => StEnd w w' e T M B bc (if bb then s else prR { s with q := s.q.extract 1 s.q.size } 65533) (!bb) := by
  have HR : Hid (RT w T K M cap B bc s) := h
  have HI : Hid (Ri s) := hi
  have t6 : w.cell? ⟨T, 6, none⟩ = some (.string s.q) := h.at rfl
  have ne := ne_empty hq
  obtain ⟨bt, hbt⟩ : ∃ b, s.q[0]'hq = b := ⟨_, rfl⟩
  rw [hbt] at hb hc
  have e1 : ((bt.toNat : Int) == 27) = false := by simpa using (by omega : ¬ (bt.toNat : Int) = 27)
  have h32 : ¬ (bt.toNat : Int) < 32 := by omega
  have e2 : ((bt.toNat : Int) == 127) = false := by simpa using (by omega : ¬ (bt.toNat : Int) = 127)
  have hq' : (0 : Int) < (s.q.size : Int) := by omega
  have SQ : Hid (∀ w, Calls Tryd.prog 52 #[.string s.q, .int .i64 0] w fun e w' => e = .returned (.int .i64 0) ∧ w' = w) := fun w => by
    have := sequence_any s.q 0 hq (by omega) w
    rw [List.drop_zero, hn] at this
    exact this
  have BG : Hid (∀ w, Calls Tryd.prog 54 #[.string s.q] w fun e w' => e = .returned (.bool bb) ∧ Below w.heap.size w w') := fun w => (begins_any s.q hq hqs w).mono fun e w' q => by
    obtain ⟨b2, q1, q2, q3⟩ := q
    obtain rfl : b2 = bb := by
      cases b2 <;> cases bb
      · rfl
      · exact absurd (q2.2 (hbb.1 rfl)) (by decide)
      · exact absurd (hbb.2 (q2.1 rfl)) (by decide)
      · rfl
    exact ⟨q1, q3⟩
  clear h hi hb hc hn hbb
  cases bb with
  | true =>
    go_enter Tryd.func33, Tryd.ntmps33
    go_wp2_with fail
    refine (SQ.out _).mono ?_
    rintro e w1 ⟨rfl, hw⟩
    obtain rfl := hw.symm
    go_wp2_with fail
    refine (BG.out _).mono ?_
    rintro e w2 ⟨rfl, g2⟩
    have H2 : Hid (RT w2 T K M cap B bc s) := HR.out.below g2
    have B2 : Hid (C3 T M B w w2) := C3.below g2
    clear g2
    go_wp2
    go_ret
    exact ⟨rfl, ⟨K, M, cap, H2.out, .inl rfl⟩, B2.out⟩
  | false =>
    go_enter Tryd.func33, Tryd.ntmps33
    go_wp2_with fail
    refine (SQ.out _).mono ?_
    rintro e w1 ⟨rfl, hw⟩
    obtain rfl := hw.symm
    go_wp2_with fail
    refine (BG.out _).mono ?_
    rintro e w2 ⟨rfl, g2⟩
    have H2 : Hid (RT w2 T K M cap B bc s) := HR.out.below g2
    have B2 : Hid (C3 T M B w w2) := C3.below g2
    have u6 : w2.cell? ⟨T, 6, none⟩ = some (.string s.q) := H2.out.at rfl
    have f6 := H2.out.fz 6
    have H3 : Hid (RT (w2.setCell ⟨T, 6, none⟩ (.string (s.q.extract 1 s.q.size))) T K M cap B bc { s with q := s.q.extract 1 s.q.size }) := RT.q w2 H2.out _
    have B3 : Hid (C3 T M B w (w2.setCell ⟨T, 6, none⟩ (.string (s.q.extract 1 s.q.size)))) := B2.out.set _ _
    have I3 : Hid (Ri { s with q := s.q.extract 1 s.q.size }) := HI.out.q _
    clear g2 H2 B2 SQ BG t6
    go_wp2_with fail
    refine (rprint_any _ H3.out I3.out 65533).mono ?_
    rintro e w4 ⟨rfl, h4, c4⟩
    have H4 : Hid (RT w4 T K M cap B bc (prR { s with q := s.q.extract 1 s.q.size } 65533)) := h4
    have B4 : Hid (C3 T M B w w4) := B3.out.trans c4
    clear h4 c4 H3 B3
    go_wp2
    go_ret
    exact ⟨rfl, ⟨K, M, cap, H4.out, .inl rfl⟩, B4.out⟩
end

end Go.Proofs.YtlfffpoeioecjaaDoor

namespace Go.Proofs.YtlfffpoeioecjaaDoor
open Go.RowKit Go.Sort
set_option linter.unusedVariables false

def StepTo (s s' : Rm) (a : Bool) : Prop := ∀ (w : World) (T K M cap B bc : Nat), RT w T K M cap B bc s → Calls Tryd.prog 33 #[.pointer (some ⟨T, 0, none⟩)] w fun e w' => StEnd w w' e T M B bc s' a
theorem StepTo.same {s s' : Rm} {a : Bool} {c' : Nat → Nat → Ce} (h : StepTo s s' a) (hc : ∀ y x, y < s'.H → x < s'.W → s'.c y x = c' y x) (hp : PAll s'.W s'.H c') : StepTo s { s' with c := c' } a := fun w T K M cap B bc r => (h w T K M cap B bc r).mono fun e w' q => by
  obtain ⟨q1, ⟨K', M', cap', q2, q3⟩, q4⟩ := q
  exact ⟨q1, ⟨K', M', cap', q2.same hc hp, q3⟩, q4⟩
theorem ext_drop (q : ByteArray) (n : Nat) : q.extract n q.size = ⟨(q.data.toList.drop n).toArray⟩ := by
  apply ByteArray.ext
  rw [ByteArray.data_extract]
  apply Array.ext'
  rw [Array.toList_extract]
  simp only [List.extract]
  rw [List.take_of_length_le (by rw [List.length_drop, len_data]; exact Nat.le_refl _)]
theorem ext_take (q : ByteArray) (a n : Nat) : (q.extract a n).data.toList = (q.data.toList.take n).drop a := by
  rw [ByteArray.data_extract, Array.toList_extract]
  simp [List.extract, List.drop_take]
theorem size_of {q : ByteArray} {l : List UInt8} (h : q.data.toList = l) : q.size = l.length := by rw [← h, len_data]
theorem at_of {q : ByteArray} {l : List UInt8} (h : q.data.toList = l) (j : Nat) (hj : j < q.size) : (q[j]'hj).toNat = byt l j := by rw [← byt_at q j hj, h]
variable {s : Rm}
theorem st_nil (h : s.q.data.toList = []) : StepTo s s false := fun w T K M cap B bc r => step_0 w r (by rw [size_of h]; rfl)
theorem st_esc (h : s.q.data.toList = [27]) : StepTo s (esc0 s) false := fun w T K M cap B bc r =>
  step_esc w r (by rw [size_of h]; decide) (by rw [at_of h]; rfl) (esc_short w r (by rw [size_of h]; rfl))
theorem st_none {b : UInt8} (h : s.q.data.toList = [27, b]) (hb : b.toNat ≠ 91) : StepTo s { esc0 s with q := ⟨#[]⟩ } true := fun w T K M cap B bc r => by
  have e := ext_drop s.q 2
  rw [h] at e
  have := esc_none w r (by rw [size_of h]; simp) (by rw [at_of h]; exact hb)
  rw [e] at this
  exact step_esc w r (by rw [size_of h]; simp) (by rw [at_of h]; rfl) this
theorem st_more {m : List UInt8} (h : s.q.data.toList = 27 :: 91 :: m) (hm : ∀ b ∈ m, 48 ≤ b.toNat ∧ b.toNat ≤ 59) (hs : s.q.size ≤ 4611686018427387904) : StepTo s (esc0 s) false := fun w T K M cap B bc r => by
  have hz := size_of h
  simp only [List.length_cons] at hz
  have := esc_long w r (by omega) hs (by rw [at_of h]; rfl) s.q.size (by omega) (Nat.le_refl _) (fun j hj h2 _ => by
    rw [at_of h]
    obtain ⟨i, rfl⟩ : ∃ i, j = i + 2 := ⟨j - 2, by omega⟩
    have hi : i < m.length := by omega
    have e : byt (27 :: 91 :: m) (i + 2) = (m[i]'hi).toNat := by unfold byt; rw [List.getD_eq_getElem?_getD]; simp [hi]
    rw [e]
    exact hm _ (List.getElem_mem hi)) (fun hj => absurd hj (by omega))
  have e1 : escR s s.q.size = esc0 s := by unfold escR; rw [if_neg (by omega)]
  rw [e1, decide_eq_false (by omega)] at this
  exact step_esc w r (by omega) (by rw [at_of h]; rfl) this
theorem st_end {m : List UInt8} {b : UInt8} (h : s.q.data.toList = 27 :: 91 :: (m ++ [b])) (hm : ∀ b ∈ m, 48 ≤ b.toNat ∧ b.toNat ≤ 59) (hb : ¬ (48 ≤ b.toNat ∧ b.toNat ≤ 59)) (hs : s.q.size ≤ 4611686018427387904) :
    StepTo s { (if 64 ≤ b.toNat ∧ b.toNat ≤ 126 then doR (esc0 s) b.toNat (parL m) else esc0 s) with q := ⟨#[]⟩ } true := fun w T K M cap B bc r => by
  have hz := size_of h
  simp only [List.length_cons, List.length_append, List.length_nil] at hz
  have eb : byt (27 :: 91 :: (m ++ [b])) (2 + m.length) = b.toNat := by
    unfold byt
    rw [List.getD_eq_getElem?_getD, show 2 + m.length = m.length + 1 + 1 by omega, List.getElem?_cons_succ, List.getElem?_cons_succ, List.getElem?_append_right (Nat.le_refl _)]
    simp
  have := esc_long w r (by omega) hs (by rw [at_of h]; rfl) (2 + m.length) (by omega) (by omega) (fun j hj h2 h3 => by
    rw [at_of h]
    obtain ⟨i, rfl⟩ : ∃ i, j = i + 2 := ⟨j - 2, by omega⟩
    have hi : i < m.length := by omega
    have e : byt (27 :: 91 :: (m ++ [b])) (i + 2) = (m[i]'hi).toNat := by
      unfold byt
      rw [List.getD_eq_getElem?_getD, List.getElem?_cons_succ, List.getElem?_cons_succ, List.getElem?_append_left hi, List.getElem?_eq_getElem hi]
      rfl
    rw [e]
    exact hm _ (List.getElem_mem hi)) (fun hj => by rw [at_of h, eb]; exact hb)
  have e2 : (s.q.extract 2 (2 + m.length)).data.toList = m := by
    rw [ext_take, h, show 2 + m.length = m.length + 1 + 1 by omega]
    simp
  have e3 : s.q.extract (2 + m.length + 1) s.q.size = ⟨#[]⟩ := by
    rw [ext_drop, h, List.drop_of_length_le (by simp; omega)]
  have e1 : escR s (2 + m.length) = { (if 64 ≤ b.toNat ∧ b.toNat ≤ 126 then doR (esc0 s) b.toNat (parL m) else esc0 s) with q := ⟨#[]⟩ } := by
    unfold escR
    rw [if_pos (by omega), h, eb, e2, e3]
  rw [e1, decide_eq_true (by omega)] at this
  exact step_esc w r (by omega) (by rw [at_of h]; rfl) this
theorem st_ctl {b : UInt8} {u : List UInt8} (h : s.q.data.toList = b :: u) (h27 : b.toNat ≠ 27) (hc : b.toNat < 32 ∨ b.toNat = 127) : StepTo s { s with la := -1, q := ⟨u.toArray⟩ } true := fun w T K M cap B bc r => by
  have hz := size_of h
  simp only [List.length_cons] at hz
  have eb : byt (b :: u) 0 = b.toNat := rfl
  have e := ext_drop s.q 1
  rw [h] at e
  have := step_ctl w r (by omega) (by rw [at_of h, eb]; exact h27) (by rw [at_of h, eb]; exact hc)
  rw [e] at this
  exact this
theorem st_seq {l : List UInt8} (h : s.q.data.toList = l) (hl : l ≠ []) (hll : l.length ≤ 1000) (h27 : byt l 0 ≠ 27) (hc : ¬ (byt l 0 < 32 ∨ byt l 0 = 127)) (hs : seq l = l.length) (hi : Ri s) {r : Int} (hr : runes l = [r]) : StepTo s (prR { s with q := ⟨#[]⟩ } r) true := fun w T K M cap B bc rt => by
  have hz := size_of h
  have hp : 0 < l.length := List.length_pos_iff.2 hl
  have e := ext_drop s.q l.length
  rw [h, List.drop_length] at e
  have e2 : (s.q.extract 0 l.length).data.toList = l := by rw [ext_take, h, List.take_length]; rfl
  have := step_seq w rt hi (by omega) (by omega) (by rw [at_of h]; exact h27) (by rw [at_of h]; exact hc) l.length (by rw [h]; exact hs) hp (by omega) r (by rw [e2]; exact hr)
  rw [← hz] at this e
  rw [e] at this
  exact this
theorem st_bad {b : UInt8} {u : List UInt8} (h : s.q.data.toList = b :: u) (hll : u.length ≤ 900) (hb : 0x80 ≤ b.toNat) (hs : seq (b :: u) = 0) (hf : full (b :: u)) (hi : Ri s) : StepTo s (prR { s with q := ⟨u.toArray⟩ } 65533) true := fun w T K M cap B bc rt => by
  have hz := size_of h
  simp only [List.length_cons] at hz
  have eb : byt (b :: u) 0 = b.toNat := rfl
  have e := ext_drop s.q 1
  rw [h] at e
  have := step_amid w rt hi (by omega) (by omega) (by rw [at_of h, eb]; omega) (by rw [at_of h, eb]; omega) (by rw [h]; exact hs) false (by
    rw [h, beg_iff (by simp) (by rw [eb]; exact hb)]
    exact ⟨fun q => (by cases q), fun q => absurd hf q⟩)
  rw [e] at this
  exact this
theorem st_wait {l : List UInt8} (h : s.q.data.toList = l) (hl : l ≠ []) (hll : l.length ≤ 900) (hb : 0x80 ≤ byt l 0) (hs : seq l = 0) (hf : ¬ full l) (hi : Ri s) : StepTo s s false := fun w T K M cap B bc rt => by
  have hz := size_of h
  have hp : 0 < l.length := List.length_pos_iff.2 hl
  have := step_amid w rt hi (by omega) (by omega) (by rw [at_of h]; omega) (by rw [at_of h]; omega) (by rw [h]; exact hs) true (by
    rw [h, beg_iff hl hb]
    exact ⟨fun _ => hf, fun _ => rfl⟩)
  exact this

end Go.Proofs.YtlfffpoeioecjaaDoor
