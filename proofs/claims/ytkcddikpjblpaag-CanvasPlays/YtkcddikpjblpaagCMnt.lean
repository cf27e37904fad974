/-
  panelaw.meant: one step on the reference's canvas.
-/
import Derived.Test.YtkcddikpjblpaagCDrw
import Derived.Test.YtkcddikpjblpaagCRfl
namespace Go.Proofs.Ytkcddikpjblpaag
open Go.RowKit Go.Sort
set_option linter.unusedVariables false

section
variable {K M cap W H : Nat} {c : Nat → Nat → Ce}
set_option maxRecDepth 100000 in
set_option maxHeartbeats 4000000 in
theorem meant_any (w : World) (h : CS 49 71 w K M cap W H c) (hW : 1 ≤ W ∧ W ≤ 400) (hH : 1 ≤ H ∧ H ≤ 400) (hp : PAll W H c) (kd a b : Int) (s t : ByteArray) (p : Option Addr) (m : Nat) (zs : List Int) (hI : Ints w (.slice p zs.length m) zs) :
    Calls Try.prog 16 #[.pointer (some ⟨K, 0, none⟩), opv kd a b s t (.slice p zs.length m)] w fun e w' => e = .returned (.tuple #[]) ∧ Cv 71 w' M W H (drawC W H c kd a b s zs) ∧ Ch M w w' := by
  have HE : Hid (∀ w, Ints w (.slice p zs.length m) zs → ∀ (i : Int) (n : Nat), i = n → n ≤ 100 → Calls Try.prog 33 #[.slice p zs.length m, .int .i64 i] w fun e w' => e = .returned (.int .i64 (en zs n)) ∧ w' = w) := fun w h i n hin hn => entry_any zs _ w h i n hin hn
  have HF : Hid (∀ w, Ints w (.slice p zs.length m) zs → ∀ (i : Int) (n : Nat), i = n → n ≤ 90 → Calls Try.prog 21 #[.slice p zs.length m, .int .i64 i] w fun e w' => e = .returned (rv (en zs n) (en zs (n + 1)) (en zs (n + 2)) (en zs (n + 3))) ∧ Gr w w') := fun w h i n hin hn => four_any zs _ w h i n hin hn
  have HU : Hid (∀ w, Ints w (.slice p zs.length m) zs → Calls Try.prog 30 #[.slice p zs.length m] w fun e w' => e = .returned (sv (en zs 1) (en zs 2) (en zs 3)) ∧ Gr w w') := fun w h => hue_any zs _ w h
  have PU : Hid (∀ w0, CS 49 71 w0 K M cap W H c → ∀ (x y : Int) (txt : ByteArray) (wd f g b cx cy ca cb : Int), Calls Try.prog 35 #[.pointer (some ⟨K, 0, none⟩), .int .i64 x, .int .i64 y, .agg #[.string txt, .int .i64 wd], sv f g b, rv cx cy ca cb] w0 fun e w' => e = .returned (.tuple #[]) ∧ Cv 71 w' M W H (putC W H c x y txt wd f g b cx cy ca cb) ∧ Ch M w0 w') := fun w0 h0 x y txt wd f g b cx cy ca cb => rput_any w0 h0 hW hH hp x y txt wd f g b cx cy ca cb
  have FI : Hid (∀ w0, CS 49 71 w0 K M cap W H c → ∀ (x y a b f g bd cx cy ca cb : Int), Calls Try.prog 36 #[.pointer (some ⟨K, 0, none⟩), rv x y a b, sv f g bd, rv cx cy ca cb] w0 fun e w' => e = .returned (.tuple #[]) ∧ Cv 71 w' M W H (filC W H c x y a b f g bd cx cy ca cb) ∧ Ch M w0 w') := fun w0 h0 x y a b f g bd cx cy ca cb => rfill_any w0 h0 hW hH hp x y a b f g bd cx cy ca cb
  have HC : Hid (CS 49 71 w K M cap W H c) := h
  have HII : Hid (Ints w (.slice p zs.length m) zs) := hI
  clear h hp hI
  obtain ⟨d, hd⟩ : ∃ d, drawC W H c kd a b s zs = d := ⟨_, rfl⟩
  rw [hd]
  have HDD : Hid (drawC W H c kd a b s zs = d) := hd
  clear hd
  obtain ⟨ln, hln⟩ : ∃ z, zs.length = z := ⟨_, rfl⟩
  rw [hln] at HE HF HU HII ⊢
  clear hln
  unfold rv at HF PU FI
  unfold sv at HU PU FI
  obtain ⟨z1, h1⟩ : ∃ z, en zs 1 = z := ⟨_, rfl⟩
  obtain ⟨z2, h2⟩ : ∃ z, en zs 2 = z := ⟨_, rfl⟩
  obtain ⟨z3, h3⟩ : ∃ z, en zs 3 = z := ⟨_, rfl⟩
  obtain ⟨z4, h4⟩ : ∃ z, en zs 4 = z := ⟨_, rfl⟩
  obtain ⟨z5, h5⟩ : ∃ z, en zs 5 = z := ⟨_, rfl⟩
  obtain ⟨z6, h6⟩ : ∃ z, en zs 6 = z := ⟨_, rfl⟩
  obtain ⟨z7, h7⟩ : ∃ z, en zs 7 = z := ⟨_, rfl⟩
  have F4 := fun w h => HF.out w h 4 4 rfl (by omega)
  simp only [h4, h5, h6, h7, Nat.reduceAdd] at F4
  rw [h1, h2, h3] at HU
  have HZ : Hid (en zs 1 = z1 ∧ en zs 2 = z2 ∧ en zs 3 = z3 ∧ en zs 4 = z4 ∧ en zs 5 = z5 ∧ en zs 6 = z6 ∧ en zs 7 = z7) := ⟨h1, h2, h3, h4, h5, h6, h7⟩
  have HF4 : Hid (∀ w, Ints w (.slice p ln m) zs → Calls Try.prog 21 #[.slice p ln m, .int .i64 4] w fun e w' => e = .returned (.agg #[.int .i64 z4, .int .i64 z5, .int .i64 z6, .int .i64 z7]) ∧ Gr w w') := F4
  clear h1 h2 h3 h4 h5 h6 h7 F4
  unfold opv
  obtain ⟨S, hS⟩ : ∃ z, w.heap.size = z := ⟨_, rfl⟩
  have HS : Hid (w.heap.size = S) := hS
  obtain ⟨W0, hW0⟩ : ∃ z, w.alloc (.cells #[.int .i64 kd, .int .i64 a, .int .i64 b, .string s, .string t, .slice p ln m] 42) = z := ⟨_, rfl⟩
  have G0 : Hid (Gr w W0) := by rw [← hW0]; exact (Gr.refl w).alloc _
  have R0 : Hid (R6 42 W0 S kd a b s t (.slice p ln m)) := by rw [← hW0, ← hS]; exact R6.new w _ _ _ _ _ _ _
  have HM : Hid (M < S) := (by rw [← HS.out]; exact HC.out.cv.lt : M < S)
  have c0 := R0.out.c0
  have x0 := R0.out.c1
  have x1 := R0.out.c2
  have x2 := R0.out.c3
  have x3 := R0.out.c5
  have xl := R0.out.lt
  go_enter Try.func16, Try.ntmps16
  by_cases k1 : kd = 1
  · subst k1
    have HDE : Hid (d = putC W H c a b s (en zs 0) z1 z2 z3 z4 z5 z6 z7) := by
      show _ = _; rw [← HDD.out]; unfold drawC; rw [if_pos rfl, HZ.out.1, HZ.out.2.1, HZ.out.2.2.1, HZ.out.2.2.2.1, HZ.out.2.2.2.2.1, HZ.out.2.2.2.2.2.1, HZ.out.2.2.2.2.2.2]
    have E0 := fun w h => HE.out w h 0 0 rfl (by omega)
    obtain ⟨z0, hz0⟩ : ∃ z, en zs 0 = z := ⟨_, rfl⟩
    rw [hz0] at HDE
    simp only [hz0] at E0
    have HE0 : Hid (∀ w, Ints w (.slice p ln m) zs → Calls Try.prog 33 #[.slice p ln m, .int .i64 0] w fun e w' => e = .returned (.int .i64 z0) ∧ w' = w) := E0
    clear hz0 E0
    go_wp2_with fail
    clear hW0 hS
    go_region_held (fun W => W.cell? ⟨S, 1, none⟩ = some (.int .i64 a) ∧ W.cell? ⟨S, 2, none⟩ = some (.int .i64 b) ∧ W.cell? ⟨S, 3, none⟩ = some (.string s) ∧ W.cell? ⟨S, 5, none⟩ = some (.slice p ln m)) (go_keep) (first | (go_at_call 33; refine Calls.mono (HE0.out _ (ints_gr HII.out (by first | exact G0.out.drew | exact G0.out))) ?_; rintro e7 w7 ⟨rfl, hw7⟩; obtain rfl := hw7.symm) | (go_at_call 30; refine Calls.mono (HU.out _ (ints_gr HII.out (by first | exact G0.out.drew | exact G0.out))) ?_; rintro e5 w5 ⟨rfl, g5⟩; have G5 : Hid (Gr W0 w5) := (by first | exact ((Gr.refl W0).drew).trans g5 | exact g5); clear g5; have f5_0 := (R0.out.gr G5.out).c1; have f5_1 := (R0.out.gr G5.out).c2; have f5_2 := (R0.out.gr G5.out).c3; have f5_3 := (R0.out.gr G5.out).c5) | (go_at_call 21; refine Calls.mono (HF4.out _ (ints_gr HII.out (G0.out.trans G5.out))) ?_; rintro e6 w6 ⟨rfl, g6⟩; have G6 : Hid (Gr W0 w6) := G5.out.trans g6; clear g6; have f6_0 := (R0.out.gr G6.out).c1; have f6_1 := (R0.out.gr G6.out).c2; have f6_2 := (R0.out.gr G6.out).c3; have f6_3 := (R0.out.gr G6.out).c5) | (go_at_call 35; refine Calls.mono (PU.out _ (HC.out.gr (G0.out.trans G6.out)) _ _ _ _ _ _ _ _ _ _ _) ?_; rintro e8 w8 ⟨rfl, V8, C8⟩; have HV8 : Hid (Cv 71 w8 M W H (putC W H c a b s z0 z1 z2 z3 z4 z5 z6 z7) ∧ Ch M w w8) := (⟨V8, (Ch.gr (G0.out.trans G6.out)).trans C8⟩ : _ ∧ _); have R8 : Hid (R6 42 w8 S 1 a b s t (.slice p ln m)) := (R0.out.gr G6.out).ch C8 (by have := HM.out; omega); clear V8 C8; have y0 := R8.out.c1; have y1 := R8.out.c2; have y2 := R8.out.c3; have y3 := R8.out.c5))
    all_goals
      go_wp2
      go_end0
      exact ⟨rfl, by rw [HDE.out]; exact HV8.out.1, HV8.out.2⟩
  · by_cases k2 : kd = 2
    · subst k2
      have HDE : Hid (d = filC W H c (en zs 8) (en zs 9) (en zs 10) (en zs 11) z1 z2 z3 z4 z5 z6 z7) := by
        show _ = _; rw [← HDD.out]; unfold drawC; rw [if_neg (by omega), if_pos rfl, HZ.out.1, HZ.out.2.1, HZ.out.2.2.1, HZ.out.2.2.2.1, HZ.out.2.2.2.2.1, HZ.out.2.2.2.2.2.1, HZ.out.2.2.2.2.2.2]
      have F8 := fun w h => HF.out w h 8 8 rfl (by omega)
      obtain ⟨y0, hy0⟩ : ∃ z, en zs 8 = z := ⟨_, rfl⟩
      obtain ⟨y1, hy1⟩ : ∃ z, en zs 9 = z := ⟨_, rfl⟩
      obtain ⟨y2, hy2⟩ : ∃ z, en zs 10 = z := ⟨_, rfl⟩
      obtain ⟨y3, hy3⟩ : ∃ z, en zs 11 = z := ⟨_, rfl⟩
      rw [hy0, hy1, hy2, hy3] at HDE
      simp only [hy0, hy1, hy2, hy3, Nat.reduceAdd] at F8
      have HF8 : Hid (∀ w, Ints w (.slice p ln m) zs → Calls Try.prog 21 #[.slice p ln m, .int .i64 8] w fun e w' => e = .returned (.agg #[.int .i64 y0, .int .i64 y1, .int .i64 y2, .int .i64 y3]) ∧ Gr w w') := F8
      clear hy0 hy1 hy2 hy3 F8 HF
      go_wp2_with fail
      clear hW0 hS
      go_region_held (fun W => W.cell? ⟨S, 5, none⟩ = some (.slice p ln m)) (go_keep) (first | (go_at_call 21; (with_reducible refine Calls.mono (HF8.out _ (ints_gr HII.out (by first | exact G0.out.drew | exact G0.out))) ?_); rintro e4 w4 ⟨rfl, g4⟩; have G4 : Hid (Gr W0 w4) := (by first | exact ((Gr.refl W0).drew).trans g4 | exact g4); clear g4; have f4_3 := (R0.out.gr G4.out).c5) | (go_at_call 30; refine Calls.mono (HU.out _ (ints_gr HII.out (G0.out.trans G4.out))) ?_; rintro e5 w5 ⟨rfl, g5⟩; have G5 : Hid (Gr W0 w5) := G4.out.trans g5; clear g5; have f5_3 := (R0.out.gr G5.out).c5) | (go_at_call 21; (with_reducible refine Calls.mono (HF4.out _ (ints_gr HII.out (G0.out.trans G5.out))) ?_); rintro e6 w6 ⟨rfl, g6⟩; have G6 : Hid (Gr W0 w6) := G5.out.trans g6; clear g6; have f6_3 := (R0.out.gr G6.out).c5) | (go_at_call 36; refine Calls.mono (FI.out _ (HC.out.gr (G0.out.trans G6.out)) _ _ _ _ _ _ _ _ _ _ _) ?_; rintro e8 w8 ⟨rfl, V8, C8⟩; have HV8 : Hid (Cv 71 w8 M W H (filC W H c y0 y1 y2 y3 z1 z2 z3 z4 z5 z6 z7) ∧ Ch M w w8) := (⟨V8, (Ch.gr (G0.out.trans G6.out)).trans C8⟩ : _ ∧ _); have R8 : Hid (R6 42 w8 S 2 a b s t (.slice p ln m)) := (R0.out.gr G6.out).ch C8 (by have := HM.out; omega); clear V8 C8; have f8_3 := R8.out.c5))
      all_goals
        go_wp2
        go_end0
        exact ⟨rfl, by rw [HDE.out]; exact HV8.out.1, HV8.out.2⟩
    · have HDE : Hid (d = c) := by show _ = _; rw [← HDD.out]; unfold drawC; rw [if_neg k1, if_neg k2]
      have n1 : (kd == 1) = false := by simpa using k1
      have n2 : (kd == 2) = false := by simpa using k2
      go_wp2
      go_end0
      exact ⟨rfl, by rw [HDE.out]; exact HC.out.cv.gr G0.out, Ch.gr G0.out⟩
end
end Go.Proofs.Ytkcddikpjblpaag
