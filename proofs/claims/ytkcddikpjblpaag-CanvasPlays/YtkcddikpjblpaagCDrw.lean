/-
  panelaw.drawn.
-/
import Derived.Test.YtkcddikpjblpaagCDraw
namespace Go.Proofs.Ytkcddikpjblpaag
open Go.RowKit Go.Sort
set_option linter.unusedVariables false

/-- A step in memory. -/
def R6 (T : TypeId) (Q : World) (o : Nat) (kd a b : Int) (s t : ByteArray) (v : Value) : Prop := Q.heap[o]? = some (.cells #[.int .i64 kd, .int .i64 a, .int .i64 b, .string s, .string t, v] T (0, 0))
section
variable {T : TypeId} {Q Q' : World} {o k : Nat} {kd a b : Int} {s t : ByteArray} {v : Value}
theorem R6.lt (h : R6 T Q o kd a b s t v) : o < Q.heap.size := (Array.getElem?_eq_some_iff.1 h).1
theorem R6.c0 (h : R6 T Q o kd a b s t v) : Q.cell? ⟨o, 0, none⟩ = some (.int .i64 kd) := by unfold R6 at h; simp [World.cell?, h]
theorem R6.c1 (h : R6 T Q o kd a b s t v) : Q.cell? ⟨o, 1, none⟩ = some (.int .i64 a) := by unfold R6 at h; simp [World.cell?, h]
theorem R6.c2 (h : R6 T Q o kd a b s t v) : Q.cell? ⟨o, 2, none⟩ = some (.int .i64 b) := by unfold R6 at h; simp [World.cell?, h]
theorem R6.c3 (h : R6 T Q o kd a b s t v) : Q.cell? ⟨o, 3, none⟩ = some (.string s) := by unfold R6 at h; simp [World.cell?, h]
theorem R6.c4 (h : R6 T Q o kd a b s t v) : Q.cell? ⟨o, 4, none⟩ = some (.string t) := by unfold R6 at h; simp [World.cell?, h]
theorem R6.c5 (h : R6 T Q o kd a b s t v) : Q.cell? ⟨o, 5, none⟩ = some v := by unfold R6 at h; simp [World.cell?, h]
theorem R6.gr (h : R6 T Q o kd a b s t v) (g : Gr Q Q') : R6 T Q' o kd a b s t v := (g.block h.lt).trans h
theorem R6.ch (h : R6 T Q o kd a b s t v) (g : Ch k Q Q') (hk : o ≠ k) : R6 T Q' o kd a b s t v := (g.block o h.lt hk).trans h
theorem R6.new (Q : World) (kd a b : Int) (s t : ByteArray) (v : Value) (T : TypeId) : R6 T (Q.alloc (.cells #[.int .i64 kd, .int .i64 a, .int .i64 b, .string s, .string t, v] T)) Q.heap.size kd a b s t v := heap_alloc_new _ _
end

section
variable {K M cap W H : Nat} {c : Nat → Nat → Ce}
set_option maxRecDepth 100000 in
set_option maxHeartbeats 4000000 in
theorem drawn_any (w : World) (h : CS 85 58 w K M cap W H c) (hW : 1 ≤ W ∧ W ≤ 400) (hH : 1 ≤ H ∧ H ≤ 400) (hp : PAll W H c) (kd a b : Int) (s t : ByteArray) (p : Option Addr) (m : Nat) (zs : List Int) (hI : Ints w (.slice p zs.length m) zs) :
    Calls Try.prog 15 #[.pointer (some ⟨K, 0, none⟩), opv kd a b s t (.slice p zs.length m)] w fun e w' => e = .returned (.tuple #[]) ∧ Cv 58 w' M W H (drawC W H c kd a b s zs) ∧ Ch M w w' := by
  have HE : Hid (∀ w, Ints w (.slice p zs.length m) zs → ∀ (i : Int) (n : Nat), i = n → n ≤ 100 → Calls Try.prog 33 #[.slice p zs.length m, .int .i64 i] w fun e w' => e = .returned (.int .i64 (en zs n)) ∧ w' = w) := fun w h i n hin hn => entry_any zs _ w h i n hin hn
  have HF : Hid (∀ w, Ints w (.slice p zs.length m) zs → ∀ (i : Int) (n : Nat), i = n → n ≤ 90 → Calls Try.prog 21 #[.slice p zs.length m, .int .i64 i] w fun e w' => e = .returned (rv (en zs n) (en zs (n + 1)) (en zs (n + 2)) (en zs (n + 3))) ∧ Gr w w') := fun w h i n hin hn => four_any zs _ w h i n hin hn
  have HU : Hid (∀ w, Ints w (.slice p zs.length m) zs → Calls Try.prog 30 #[.slice p zs.length m] w fun e w' => e = .returned (sv (en zs 1) (en zs 2) (en zs 3)) ∧ Gr w w') := fun w h => hue_any zs _ w h
  have LK : Hid (∀ f g b w, Calls Try.prog 9 #[sv f g b] w fun e w' => e = .returned (sv f g b) ∧ Gr w w') := look_any
  have TH : Hid (∀ x y a b w, Calls Try.prog 31 #[rv x y a b] w fun e w' => e = .returned (rv x y a b) ∧ Gr w w') := theirs_any
  have PU : Hid (∀ w0, CS 85 58 w0 K M cap W H c → ∀ (x y : Int) (txt : ByteArray) (wd f g b cx cy ca cb : Int), Calls Try.prog 32 #[.pointer (some ⟨K, 0, none⟩), .int .i64 x, .int .i64 y, .agg #[.string txt, .int .i64 wd], sv f g b, rv cx cy ca cb] w0 fun e w' => e = .returned (.tuple #[]) ∧ Cv 58 w' M W H (putC W H c x y txt wd f g b cx cy ca cb) ∧ Ch M w0 w') := fun w0 h0 x y txt wd f g b cx cy ca cb => put_any w0 h0 hW hH hp x y txt wd f g b cx cy ca cb
  have FI : Hid (∀ w0, CS 85 58 w0 K M cap W H c → ∀ (x y a b f g bd cx cy ca cb : Int), Calls Try.prog 34 #[.pointer (some ⟨K, 0, none⟩), rv x y a b, sv f g bd, rv cx cy ca cb] w0 fun e w' => e = .returned (.tuple #[]) ∧ Cv 58 w' M W H (filC W H c x y a b f g bd cx cy ca cb) ∧ Ch M w0 w') := fun w0 h0 x y a b f g bd cx cy ca cb => fill_any w0 h0 hW hH hp x y a b f g bd cx cy ca cb _ _ _ _ rfl
  have HC : Hid (CS 85 58 w K M cap W H c) := h
  have HII : Hid (Ints w (.slice p zs.length m) zs) := hI
  have HD : Hid (drawC W H c kd a b s zs = drawC W H c kd a b s zs) := rfl
  clear h hp hI
  obtain ⟨d, hd⟩ : ∃ d, drawC W H c kd a b s zs = d := ⟨_, rfl⟩
  rw [hd]
  have HDD : Hid (drawC W H c kd a b s zs = d) := hd
  clear hd HD
  obtain ⟨ln, hln⟩ : ∃ z, zs.length = z := ⟨_, rfl⟩
  rw [hln] at HE HF HU HII ⊢
  clear hln
  unfold rv at HF TH PU FI
  unfold sv at HU LK PU FI
  obtain ⟨z1, h1⟩ : ∃ z, en zs 1 = z := ⟨_, rfl⟩
  obtain ⟨z2, h2⟩ : ∃ z, en zs 2 = z := ⟨_, rfl⟩
  obtain ⟨z3, h3⟩ : ∃ z, en zs 3 = z := ⟨_, rfl⟩
  obtain ⟨z4, h4⟩ : ∃ z, en zs 4 = z := ⟨_, rfl⟩
  obtain ⟨z5, h5⟩ : ∃ z, en zs 5 = z := ⟨_, rfl⟩
  obtain ⟨z6, h6⟩ : ∃ z, en zs 6 = z := ⟨_, rfl⟩
  obtain ⟨z7, h7⟩ : ∃ z, en zs 7 = z := ⟨_, rfl⟩
  have F4 := fun w h => HF.out w h 4 4 rfl (by omega)
  simp only [h4, h5, h6, h7, Nat.reduceAdd] at F4
  rw [h1, h2, h3] at HU
  have HZ : Hid (en zs 1 = z1 ∧ en zs 2 = z2 ∧ en zs 3 = z3 ∧ en zs 4 = z4 ∧ en zs 5 = z5 ∧ en zs 6 = z6 ∧ en zs 7 = z7) := ⟨h1, h2, h3, h4, h5, h6, h7⟩
  have HF4 : Hid (∀ w, Ints w (.slice p ln m) zs → Calls Try.prog 21 #[.slice p ln m, .int .i64 4] w fun e w' => e = .returned (.agg #[.int .i64 z4, .int .i64 z5, .int .i64 z6, .int .i64 z7]) ∧ Gr w w') := F4
  clear h1 h2 h3 h4 h5 h6 h7 F4
  unfold opv
  obtain ⟨S, hS⟩ : ∃ z, w.heap.size = z := ⟨_, rfl⟩
  have HS : Hid (w.heap.size = S) := hS
  go_enter Try.func15, Try.ntmps15
  go_wp2_with fail
  obtain ⟨W0, hW0⟩ : ∃ z, w.alloc (.cells #[.int .i64 kd, .int .i64 a, .int .i64 b, .string s, .string t, .slice p ln m] 42) = z := ⟨_, rfl⟩
  have G0 : Hid (Gr w W0) := by rw [← hW0]; exact (Gr.refl w).alloc _
  have R0 : Hid (R6 42 W0 S kd a b s t (.slice p ln m)) := by rw [← hW0, ← hS]; exact R6.new w _ _ _ _ _ _ _
  rw [hW0]
  clear hW0 hS
  refine Calls.mono (HU.out _ (ints_gr HII.out G0.out)) ?_
  rintro e1 w1 ⟨rfl, g1⟩
  have G1 : Hid (Gr w w1) := G0.out.trans g1
  have R1 : Hid (R6 42 w1 S kd a b s t (.slice p ln m)) := R0.out.gr g1
  clear g1 G0 R0 HU
  go_wp2_with fail
  refine Calls.mono (LK.out _ _ _ _) ?_
  rintro e2 w2 ⟨rfl, g2⟩
  have G2 : Hid (Gr w w2) := G1.out.trans g2
  have R2 : Hid (R6 42 w2 S kd a b s t (.slice p ln m)) := R1.out.gr g2
  clear g2 G1 R1 LK
  obtain ⟨W3, hW3⟩ : ∃ z, w2.alloc (.cells #[.int .i64 z1, .int .i64 z2, .int .i64 z3] 25) = z := ⟨_, rfl⟩
  have G3 : Hid (Gr w W3) := by rw [← hW3]; exact G2.out.alloc _
  have R3' : Hid (R6 42 W3 S kd a b s t (.slice p ln m) ∧ R3 25 W3 w2.heap.size z1 z2 z3) := by rw [← hW3]; exact ⟨R2.out.gr ((Gr.refl _).alloc _), R3.new _ _ _ _ _⟩
  have c5 := R3'.out.1.c5
  have Z2 : Hid (S ≤ w2.heap.size) := (by have := G2.out.size; rw [HS.out] at this; exact this : S ≤ w2.heap.size)
  go_wp2_with fail
  clear hW3
  obtain ⟨Z, hZ⟩ : ∃ z, w2.heap.size = z := ⟨_, rfl⟩
  rw [hZ] at R3' Z2
  rw [hZ]
  clear hZ R2 G2 c5
  refine Calls.mono (HF4.out _ (ints_gr HII.out G3.out)) ?_
  rintro e4 w4 ⟨rfl, g4⟩
  have G4 : Hid (Gr w w4) := G3.out.trans g4
  have R4' : Hid (R6 42 w4 S kd a b s t (.slice p ln m) ∧ R3 25 w4 Z z1 z2 z3) := ⟨R3'.out.1.gr g4, R3'.out.2.gr g4⟩
  clear g4 G3 R3' HF4
  go_wp2_with fail
  refine Calls.mono (TH.out _ _ _ _ _) ?_
  rintro e5 w5 ⟨rfl, g5⟩
  have G5 : Hid (Gr w w5) := G4.out.trans g5
  have R5' : Hid (R6 42 w5 S kd a b s t (.slice p ln m) ∧ R3 25 w5 Z z1 z2 z3) := ⟨R4'.out.1.gr g5, R4'.out.2.gr g5⟩
  clear g5 G4 R4'
  obtain ⟨W6, hW6⟩ : ∃ z, w5.alloc (.cells #[.int .i64 z4, .int .i64 z5, .int .i64 z6, .int .i64 z7] 73) = z := ⟨_, rfl⟩
  obtain ⟨Y, hY⟩ : ∃ z, w5.heap.size = z := ⟨_, rfl⟩
  have G6 : Hid (Gr w W6) := by rw [← hW6]; exact G5.out.alloc _
  have R6' : Hid (R6 42 W6 S kd a b s t (.slice p ln m) ∧ R3 25 W6 Z z1 z2 z3 ∧ R4 73 W6 Y z4 z5 z6 z7) := by rw [← hW6, ← hY]; exact ⟨R5'.out.1.gr ((Gr.refl _).alloc _), R5'.out.2.gr ((Gr.refl _).alloc _), R4.new _ _ _ _ _ _⟩
  have Y2 : Hid (S ≤ Y) := (by rw [← hY, ← HS.out]; exact G5.out.size : S ≤ Y)
  have HM : Hid (M < S) := (by rw [← HS.out]; exact HC.out.cv.lt : M < S)
  have c0 := R6'.out.1.c0
  by_cases k1 : kd = 1
  · subst k1
    have HDE : Hid (d = putC W H c a b s (en zs 0) z1 z2 z3 z4 z5 z6 z7) := by
      show _ = _; rw [← HDD.out]; unfold drawC; rw [if_pos rfl, HZ.out.1, HZ.out.2.1, HZ.out.2.2.1, HZ.out.2.2.2.1, HZ.out.2.2.2.2.1, HZ.out.2.2.2.2.2.1, HZ.out.2.2.2.2.2.2]
    have E0 := fun w h => HE.out w h 0 0 rfl (by omega)
    obtain ⟨z0, hz0⟩ : ∃ z, en zs 0 = z := ⟨_, rfl⟩
    rw [hz0] at HDE
    simp only [hz0] at E0
    have HE0 : Hid (∀ w, Ints w (.slice p ln m) zs → Calls Try.prog 33 #[.slice p ln m, .int .i64 0] w fun e w' => e = .returned (.int .i64 z0) ∧ w' = w) := E0
    clear hz0 E0
    have x0 := R6'.out.1.c1
    have x1 := R6'.out.1.c2
    have x2 := R6'.out.1.c3
    have x3 := R6'.out.1.c5
    have x4 := R6'.out.2.1.c0
    have x5 := R6'.out.2.1.c1
    have x6 := R6'.out.2.1.c2
    have x7 := R6'.out.2.2.c0
    have x8 := R6'.out.2.2.c1
    have x9 := R6'.out.2.2.c2
    have xa := R6'.out.2.2.c3
    go_wp2_with fail
    clear hW6 hY
    go_region_held (fun W => W.cell? ⟨S, 1, none⟩ = some (.int .i64 a) ∧ W.cell? ⟨S, 2, none⟩ = some (.int .i64 b) ∧ W.cell? ⟨S, 3, none⟩ = some (.string s) ∧ W.cell? ⟨S, 5, none⟩ = some (.slice p ln m) ∧ W.cell? ⟨Z, 0, none⟩ = some (.int .i64 z1) ∧ W.cell? ⟨Z, 1, none⟩ = some (.int .i64 z2) ∧ W.cell? ⟨Z, 2, none⟩ = some (.int .i64 z3) ∧ W.cell? ⟨Y, 0, none⟩ = some (.int .i64 z4) ∧ W.cell? ⟨Y, 1, none⟩ = some (.int .i64 z5) ∧ W.cell? ⟨Y, 2, none⟩ = some (.int .i64 z6) ∧ W.cell? ⟨Y, 3, none⟩ = some (.int .i64 z7)) (go_keep) (first | (go_at_call 33; refine Calls.mono (HE0.out _ (ints_gr HII.out (by first | exact G6.out.drew | exact G6.out))) ?_; rintro e7 w7 ⟨rfl, hw7⟩; obtain rfl := hw7.symm) | (go_at_call 32; refine Calls.mono (PU.out _ (HC.out.gr (by first | exact G6.out.drew | exact G6.out)) _ _ _ _ _ _ _ _ _ _ _) ?_; rintro e8 w8 ⟨rfl, V8, C8⟩; have HV8 : Hid (Cv 58 w8 M W H (putC W H c a b s z0 z1 z2 z3 z4 z5 z6 z7) ∧ Ch M w w8) := (⟨V8, (Ch.gr (by first | exact G6.out.drew | exact G6.out)).trans C8⟩ : _ ∧ _); have R8 : Hid (R6 42 w8 S 1 a b s t (.slice p ln m) ∧ R3 25 w8 Z z1 z2 z3 ∧ R4 73 w8 Y z4 z5 z6 z7) := (⟨(R6'.out.1.gr ((Gr.refl _).drew)).ch C8 (by have := HM.out; omega), (R6'.out.2.1.gr ((Gr.refl _).drew)).ch C8 (by have := HM.out; have := Z2.out; omega), (R6'.out.2.2.gr ((Gr.refl _).drew)).ch C8 (by have := HM.out; have := Y2.out; omega)⟩ : _ ∧ _ ∧ _); clear V8 C8; have y0 := R8.out.1.c1; have y1 := R8.out.1.c2; have y2 := R8.out.1.c3; have y3 := R8.out.1.c5; have y4 := R8.out.2.1.c0; have y5 := R8.out.2.1.c1; have y6 := R8.out.2.1.c2; have y7 := R8.out.2.2.c0; have y8 := R8.out.2.2.c1; have y9 := R8.out.2.2.c2; have ya := R8.out.2.2.c3))
    all_goals
      go_wp2
      go_end0
      exact ⟨rfl, by rw [HDE.out]; exact HV8.out.1, HV8.out.2⟩
  · by_cases k2 : kd = 2
    · subst k2
      have HDE : Hid (d = filC W H c (en zs 8) (en zs 9) (en zs 10) (en zs 11) z1 z2 z3 z4 z5 z6 z7) := by
        show _ = _; rw [← HDD.out]; unfold drawC; rw [if_neg (by omega), if_pos rfl, HZ.out.1, HZ.out.2.1, HZ.out.2.2.1, HZ.out.2.2.2.1, HZ.out.2.2.2.2.1, HZ.out.2.2.2.2.2.1, HZ.out.2.2.2.2.2.2]
      have F8 := fun w h => HF.out w h 8 8 rfl (by omega)
      obtain ⟨y0, hy0⟩ : ∃ z, en zs 8 = z := ⟨_, rfl⟩
      obtain ⟨y1, hy1⟩ : ∃ z, en zs 9 = z := ⟨_, rfl⟩
      obtain ⟨y2, hy2⟩ : ∃ z, en zs 10 = z := ⟨_, rfl⟩
      obtain ⟨y3, hy3⟩ : ∃ z, en zs 11 = z := ⟨_, rfl⟩
      rw [hy0, hy1, hy2, hy3] at HDE
      simp only [hy0, hy1, hy2, hy3, Nat.reduceAdd] at F8
      have HF8 : Hid (∀ w, Ints w (.slice p ln m) zs → Calls Try.prog 21 #[.slice p ln m, .int .i64 8] w fun e w' => e = .returned (.agg #[.int .i64 y0, .int .i64 y1, .int .i64 y2, .int .i64 y3]) ∧ Gr w w') := F8
      clear hy0 hy1 hy2 hy3 F8
      have x3 := R6'.out.1.c5
      have x4 := R6'.out.2.1.c0
      have x5 := R6'.out.2.1.c1
      have x6 := R6'.out.2.1.c2
      have x7 := R6'.out.2.2.c0
      have x8 := R6'.out.2.2.c1
      have x9 := R6'.out.2.2.c2
      have xa := R6'.out.2.2.c3
      go_wp2_with fail
      clear hW6 hY
      go_region_held (fun W => W.cell? ⟨S, 5, none⟩ = some (.slice p ln m) ∧ W.cell? ⟨Z, 0, none⟩ = some (.int .i64 z1) ∧ W.cell? ⟨Z, 1, none⟩ = some (.int .i64 z2) ∧ W.cell? ⟨Z, 2, none⟩ = some (.int .i64 z3) ∧ W.cell? ⟨Y, 0, none⟩ = some (.int .i64 z4) ∧ W.cell? ⟨Y, 1, none⟩ = some (.int .i64 z5) ∧ W.cell? ⟨Y, 2, none⟩ = some (.int .i64 z6) ∧ W.cell? ⟨Y, 3, none⟩ = some (.int .i64 z7)) (go_keep) (first | (go_at_call 21; refine Calls.mono (HF8.out _ (ints_gr HII.out (by first | exact G6.out.drew | exact G6.out))) ?_; rintro e7 w7 ⟨rfl, g7⟩; have G7 : Hid (Gr W6 w7) := (by first | exact ((Gr.refl W6).drew).trans g7 | exact g7); have R7 : Hid (R6 42 w7 S 2 a b s t (.slice p ln m) ∧ R3 25 w7 Z z1 z2 z3 ∧ R4 73 w7 Y z4 z5 z6 z7) := (⟨R6'.out.1.gr G7.out, R6'.out.2.1.gr G7.out, R6'.out.2.2.gr G7.out⟩ : _ ∧ _ ∧ _); clear g7; have u3 := R7.out.1.c5; have u4 := R7.out.2.1.c0; have u5 := R7.out.2.1.c1; have u6 := R7.out.2.1.c2; have u7 := R7.out.2.2.c0; have u8 := R7.out.2.2.c1; have u9 := R7.out.2.2.c2; have ua := R7.out.2.2.c3) | (go_at_call 31; refine Calls.mono (TH.out _ _ _ _ _) ?_; rintro e7 w9 ⟨rfl, g9⟩; have G9 : Hid (Gr W6 w9) := G7.out.trans g9; have R9 : Hid (R6 42 w9 S 2 a b s t (.slice p ln m) ∧ R3 25 w9 Z z1 z2 z3 ∧ R4 73 w9 Y z4 z5 z6 z7) := (⟨R6'.out.1.gr G9.out, R6'.out.2.1.gr G9.out, R6'.out.2.2.gr G9.out⟩ : _ ∧ _ ∧ _); clear g9; have v3 := R9.out.1.c5; have v4 := R9.out.2.1.c0; have v5 := R9.out.2.1.c1; have v6 := R9.out.2.1.c2; have v7 := R9.out.2.2.c0; have v8 := R9.out.2.2.c1; have v9 := R9.out.2.2.c2; have va := R9.out.2.2.c3) | (go_at_call 34; refine Calls.mono (FI.out _ (HC.out.gr (G6.out.trans G9.out)) _ _ _ _ _ _ _ _ _ _ _) ?_; rintro e8 w8 ⟨rfl, V8, C8⟩; have HV8 : Hid (Cv 58 w8 M W H (filC W H c y0 y1 y2 y3 z1 z2 z3 z4 z5 z6 z7) ∧ Ch M w w8) := (⟨V8, (Ch.gr (G6.out.trans G9.out)).trans C8⟩ : _ ∧ _); have R8 : Hid (R6 42 w8 S 2 a b s t (.slice p ln m) ∧ R3 25 w8 Z z1 z2 z3 ∧ R4 73 w8 Y z4 z5 z6 z7) := (⟨R9.out.1.ch C8 (by have := HM.out; omega), R9.out.2.1.ch C8 (by have := HM.out; have := Z2.out; omega), R9.out.2.2.ch C8 (by have := HM.out; have := Y2.out; omega)⟩ : _ ∧ _ ∧ _); clear V8 C8; have q3 := R8.out.1.c5; have q4 := R8.out.2.1.c0; have q5 := R8.out.2.1.c1; have q6 := R8.out.2.1.c2; have q7 := R8.out.2.2.c0; have q8 := R8.out.2.2.c1; have q9 := R8.out.2.2.c2; have qa := R8.out.2.2.c3))
      all_goals
        go_wp2
        go_end0
        exact ⟨rfl, by rw [HDE.out]; exact HV8.out.1, HV8.out.2⟩
    · have HDE : Hid (d = c) := by show _ = _; rw [← HDD.out]; unfold drawC; rw [if_neg k1, if_neg k2]
      have n1 : (kd == 1) = false := by simpa using k1
      have n2 : (kd == 2) = false := by simpa using k2
      go_wp2
      go_end0
      exact ⟨rfl, by rw [HDE.out]; exact HC.out.cv.gr G6.out, Ch.gr G6.out⟩
end
end Go.Proofs.Ytkcddikpjblpaag
