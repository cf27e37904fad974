/-
  Put.
-/
import Derived.Test.YtlfffpoeioecjaaDoorU08
namespace Go.Proofs.YtlfffpoeioecjaaDoor
open Go.RowKit Go.Sort
set_option linter.unusedVariables false

/-- What a cluster that is seen whole writes. -/
def gly (l : Nat) (wd : Int) (txt : ByteArray) (f g b : Int) : Nat → Ce := fun j => if wd = 2 then (if j = l then ⟨txt, f, g, b, 1⟩ else ⟨ept, f, g, b, 2⟩) else ⟨txt, f, g, b, 0⟩
/-- What Put writes, of which l t u v can be seen. -/
def putX (l u wd : Int) (txt : ByteArray) (f g b : Int) : Nat → Ce := if u < wd then fun _ => bk (kn f) (kn g) (bo b) else gly l.toNat wd txt (kn f) (kn g) (bo b)
def putQ (c : Nat → Nat → Ce) (wd : Int) (txt : ByteArray) (f g b : Int) (q : Int × Int × Int × Int) : Nat → Nat → Ce :=
  if wd = 1 ∨ wd = 2 then fill c q.1.toNat (q.1 + q.2.2.1).toNat q.2.1.toNat (q.2.1 + q.2.2.2).toNat (putX q.1 q.2.2.1 wd txt f g b) else c
def putC (W H : Nat) (c : Nat → Nat → Ce) (x y : Int) (txt : ByteArray) (wd : Int) (f g b cx cy ca cb : Int) : Nat → Nat → Ce := putQ c wd txt f g b (seenQ W H x y wd 1 cx cy ca cb)
def filC (W H : Nat) (c : Nat → Nat → Ce) (x y a b f g bd cx cy ca cb : Int) : Nat → Nat → Ce :=
  fill c (seenQ W H x y a b cx cy ca cb).1.toNat ((seenQ W H x y a b cx cy ca cb).1 + (seenQ W H x y a b cx cy ca cb).2.2.1).toNat (seenQ W H x y a b cx cy ca cb).2.1.toNat ((seenQ W H x y a b cx cy ca cb).2.1 + (seenQ W H x y a b cx cy ca cb).2.2.2).toNat (fun _ => bk (kn f) (kn g) (bo bd))
/-- Seen whole: it stands where it was put. -/
theorem Seen.whole {W H x y wd cx cy ca cb l t u v : Int} (h : Seen W H x y wd 1 cx cy ca cb l t u v) (hw : wd = 1 ∨ wd = 2) (hu : wd ≤ u) (hW : W ≤ 400) (hH : H ≤ 400) : l = x ∧ t = y ∧ u = wd ∧ v = 1 := by
  have l0 := h.l0
  have t0 := h.t0
  have lu := h.lu
  have tv := h.tv
  have uv := h.uv
  have m1 := (h.mem l t).1 (by omega)
  have m2 := (h.mem (l + u - 1) (t + v - 1)).1 (by omega)
  have e : lenI wd = wd := lenI_id (by omega)
  have e1 : lenI 1 = 1 := rfl
  rw [e, e1] at m1 m2
  have b1 := posI_bd x
  have b2 := posI_bd y
  have hx : posI x = l := by omega
  have hy : posI y = t := by omega
  unfold posI at hx hy
  omega
theorem Seen.most {W H x y wd cx cy ca cb l t u v : Int} (h : Seen W H x y wd 1 cx cy ca cb l t u v) (hw : wd = 1 ∨ wd = 2) : u ≤ wd := by
  by_cases hu : 0 < u
  · have uv := h.uv
    have m1 := (h.mem l t).1 (by omega)
    have m2 := (h.mem (l + u - 1) (t + v - 1)).1 (by omega)
    have e : lenI wd = wd := lenI_id (by omega)
    rw [e] at m1 m2
    omega
  · omega
theorem PAll.putX {W H : Nat} {c : Nat → Nat → Ce} (h : PAll W H c) (hW : 1 ≤ W ∧ W ≤ 400) (hH : 1 ≤ H ∧ H ≤ 400) (x y : Int) (txt : ByteArray) (wd f g b cx cy ca cb : Int) : PAll W H (putC W H c x y txt wd f g b cx cy ca cb) := by
  have SF := seen_facts (W := W) (H := H) (by omega) (by omega) x y wd 1 cx cy ca cb
  unfold putC putQ
  obtain ⟨q, hq⟩ : ∃ q, seenQ W H x y wd 1 cx cy ca cb = q := ⟨_, rfl⟩
  rw [hq] at SF ⊢
  obtain ⟨l, t, u, v⟩ := q
  simp only at SF ⊢
  have lu := SF.lu
  have l0 := SF.l0
  have u0 := SF.u0
  split
  · rename_i hw
    unfold Go.Proofs.YtlfffpoeioecjaaDoor.putX
    by_cases hu : u < wd
    · rw [if_pos hu]; exact h.fill0 (by omega) (fun _ => rfl)
    · rw [if_neg hu]
      obtain ⟨e1, e2, e3, e4⟩ := SF.whole hw (by omega) (by omega) (by omega)
      rcases hw with hw | hw
      · refine h.fill0 (by omega) (fun j => ?_)
        unfold gly; rw [if_neg (by omega)]
      · rw [show (l + u).toNat = l.toNat + 2 by omega]
        refine h.fill2 (by omega) ?_ ?_ ?_ ?_ ?_ ?_ <;> (unfold gly; simp [hw])
  · exact h
theorem PAll.filX {W H : Nat} {c : Nat → Nat → Ce} (h : PAll W H c) (hW : 1 ≤ W ∧ W ≤ 400) (hH : 1 ≤ H ∧ H ≤ 400) (x y a b f g bd cx cy ca cb : Int) : PAll W H (filC W H c x y a b f g bd cx cy ca cb) := by
  have SF := seen_facts (W := W) (H := H) (by omega) (by omega) x y a b cx cy ca cb
  unfold filC
  exact h.fill0 (by have := SF.lu; have := SF.l0; omega) (fun _ => rfl)

/-- A block of a cluster. -/
def RCl (T : TypeId) (Q : World) (b : Nat) (txt : ByteArray) (wd : Int) : Prop := Q.heap[b]? = some (.cells #[.string txt, .int .i64 wd] T (0, 0))
section
variable {T : TypeId} {Q Q' : World} {b k : Nat} {txt : ByteArray} {wd : Int}
theorem RCl.lt (h : RCl T Q b txt wd) : b < Q.heap.size := (Array.getElem?_eq_some_iff.1 h).1
theorem RCl.c0 (h : RCl T Q b txt wd) : Q.cell? ⟨b, 0, none⟩ = some (.string txt) := by unfold RCl at h; simp [World.cell?, h]
theorem RCl.c1 (h : RCl T Q b txt wd) : Q.cell? ⟨b, 1, none⟩ = some (.int .i64 wd) := by unfold RCl at h; simp [World.cell?, h]
theorem RCl.gr (h : RCl T Q b txt wd) (g : Gr Q Q') : RCl T Q' b txt wd := (g.block h.lt).trans h
theorem RCl.ch (h : RCl T Q b txt wd) (g : Ch k Q Q') (hk : b ≠ k) : RCl T Q' b txt wd := (g.block b h.lt hk).trans h
theorem RCl.other (h : RCl T Q b txt wd) (hk : b ≠ k) (o : Nat) (v : Value) : RCl T (Q.setCell ⟨k, o, none⟩ v) b txt wd := (Below.heap_setCell Q ⟨k, o, none⟩ v b hk).trans h
theorem RCl.new (Q : World) (txt : ByteArray) (wd : Int) (T : TypeId) : RCl T (Q.alloc (.cells #[.string txt, .int .i64 wd] T)) Q.heap.size txt wd := heap_alloc_new _ _
end
theorem R3.ch {T : TypeId} {Q Q' : World} {b k : Nat} {x y a : Int} (h : R3 T Q b x y a) (g : Ch k Q Q') (hk : b ≠ k) : R3 T Q' b x y a := (g.block b h.lt hk).trans h

theorem put_two (c : Nat → Nat → Ce) (Y X y' x' : Nat) (txt : ByteArray) (kf kg kb : Int) :
    upd (upd (upd (cut c Y X (X + 1)) Y X ⟨txt, kf, kg, kb, 0⟩) Y X { upd (cut c Y X (X + 1)) Y X ⟨txt, kf, kg, kb, 0⟩ Y X with p := 1 }) Y (X + 1) ⟨ept, kf, kg, kb, 2⟩ y' x' = part c Y X (X + 1) (X + 1 + 1 - X) (gly X 2 txt kf kg kb) y' x' := by
  have u0 : upd (cut c Y X (X + 1)) Y X ⟨txt, kf, kg, kb, 0⟩ Y X = ⟨txt, kf, kg, kb, 0⟩ := by unfold upd; rw [if_pos ⟨rfl, rfl⟩]
  rw [u0]
  unfold part gly
  rw [if_pos rfl]
  by_cases h1 : y' = Y ∧ x' = X + 1
  · rw [show upd (upd (upd (cut c Y X (X + 1)) Y X ⟨txt, kf, kg, kb, 0⟩) Y X ⟨txt, kf, kg, kb, 1⟩) Y (X + 1) ⟨ept, kf, kg, kb, 2⟩ y' x' = ⟨ept, kf, kg, kb, 2⟩ from if_pos h1, if_pos (by omega), if_neg (by omega)]
  · rw [show upd (upd (upd (cut c Y X (X + 1)) Y X ⟨txt, kf, kg, kb, 0⟩) Y X ⟨txt, kf, kg, kb, 1⟩) Y (X + 1) ⟨ept, kf, kg, kb, 2⟩ y' x' = upd (upd (cut c Y X (X + 1)) Y X ⟨txt, kf, kg, kb, 0⟩) Y X ⟨txt, kf, kg, kb, 1⟩ y' x' from if_neg h1]
    by_cases h2 : y' = Y ∧ x' = X
    · rw [show upd (upd (cut c Y X (X + 1)) Y X ⟨txt, kf, kg, kb, 0⟩) Y X ⟨txt, kf, kg, kb, 1⟩ y' x' = ⟨txt, kf, kg, kb, 1⟩ from if_pos h2, if_pos (by omega), if_pos h2.2]
    · rw [show upd (upd (cut c Y X (X + 1)) Y X ⟨txt, kf, kg, kb, 0⟩) Y X ⟨txt, kf, kg, kb, 1⟩ y' x' = upd (cut c Y X (X + 1)) Y X ⟨txt, kf, kg, kb, 0⟩ y' x' from if_neg h2, show upd (cut c Y X (X + 1)) Y X ⟨txt, kf, kg, kb, 0⟩ y' x' = cut c Y X (X + 1) y' x' from if_neg h2, if_neg (by omega)]
theorem fld2 (a b c d : Value) (W : World) : Sem.run Tryd.prog (Instr.field 169 (Value.agg #[a, b, c, d]) 2) W = Result.ok c W := by
  unfold Instr.field
  simp [go_sem]
  rfl

section
variable {K M cap W H : Nat} {c : Nat → Nat → Ce}
set_option maxRecDepth 100000 in
set_option maxHeartbeats 4000000 in
theorem put_any (w : World) (h : CS 101 34 w K M cap W H c) (hW : 1 ≤ W ∧ W ≤ 400) (hH : 1 ≤ H ∧ H ≤ 400) (hp : PAll W H c) (x y : Int) (txt : ByteArray) (wd f g b cx cy ca cb : Int) :
    Calls Tryd.prog 118 #[.pointer (some ⟨K, 0, none⟩), .int .i64 x, .int .i64 y, .agg #[.string txt, .int .i64 wd], sv f g b, rv cx cy ca cb] w fun e w' => e = .returned (.tuple #[]) ∧ Cv 34 w' M W H (putC W H c x y txt wd f g b cx cy ca cb) ∧ Ch M w w' := by
  have SF := seen_facts (W := W) (H := H) (by omega) (by omega) x y wd 1 cx cy ca cb
  unfold putC
  obtain ⟨q, hq⟩ : ∃ q, seenQ W H x y wd 1 cx cy ca cb = q := ⟨_, rfl⟩
  have SN : Hid (∀ w0, CS 101 34 w0 K M cap W H c → Calls Tryd.prog 126 #[.pointer (some ⟨K, 0, none⟩), rv x y wd 1, rv cx cy ca cb] w0 fun e w' => e = .returned (rv q.1 q.2.1 q.2.2.1 q.2.2.2) ∧ Gr w0 w') := fun w0 h0 => by
    have := seen_any w0 h0 x y wd 1 cx cy ca cb
    rw [hq] at this; exact this
  rw [hq] at SF ⊢
  obtain ⟨l, t, u, v⟩ := q
  have FL : Hid (∀ w0, CS 101 34 w0 K M cap W H c → Calls Tryd.prog 111 #[.pointer (some ⟨K, 0, none⟩), rv x y wd 1, sv f g b, rv cx cy ca cb] w0 fun e w' => e = .returned (.tuple #[]) ∧ Cv 34 w' M W H (fill c l.toNat (l + u).toNat t.toNat (t + v).toNat (fun _ => bk (kn f) (kn g) (bo b))) ∧ Ch M w0 w') := fun w0 h0 => fill_any w0 h0 hW hH hp x y wd 1 f g b cx cy ca cb l t u v hq
  simp only at SN SF
  unfold putQ
  simp only
  have CN : Hid (∀ f g b w, Calls Tryd.prog 127 #[sv f g b] w fun e w' => e = .returned (sv (kn f) (kn g) (bo b)) ∧ Gr w w') := counts_any
  have HC : Hid (CS 101 34 w K M cap W H c) := h
  have HP : Hid (PAll W H c) := hp
  have HF : Hid (Seen W H x y wd 1 cx cy ca cb l t u v) := SF
  clear h hp hq SF
  unfold rv at SN FL
  unfold rv sv
  unfold sv at CN FL
  have C1 := CN.out f g b
  obtain ⟨S, hS⟩ : ∃ z, w.heap.size = z := ⟨_, rfl⟩
  have HS : Hid (w.heap.size = S) := hS
  by_cases h1 : wd = 1 ∨ wd = 2
  · rcases h1 with rfl | rfl
    · have HI : Hid ((if (1 : Int) = 1 ∨ (1 : Int) = 2 then fill c l.toNat (l + u).toNat t.toNat (t + v).toNat (putX l u 1 txt f g b) else c) = fill c l.toNat (l + u).toNat t.toNat (t + v).toNat (putX l u 1 txt f g b)) := if_pos (by omega)
      rw [HI.out]
      clear HI
      go_enter Tryd.func118, Tryd.ntmps118
      go_wp2_with fail
      obtain ⟨W0, hW0⟩ : ∃ z, (((w.alloc (.cells #[.string txt, .int .i64 1] 67)).alloc (.cells #[.int .i64 f, .int .i64 g, .int .i64 b] 32)).alloc (.cells #[.int .i64 cx, .int .i64 cy, .int .i64 ca, .int .i64 cb] 169)).alloc (.cells #[.int .i64 x, .int .i64 y, .int .i64 1, .int .i64 1] 169) = z := ⟨_, rfl⟩
      have G0 : Hid (Gr w W0) := by rw [← hW0]; exact ((((Gr.refl w).alloc _).alloc _).alloc _).alloc _
      have R0 : Hid (RCl 67 W0 S txt 1 ∧ R3 32 W0 (S + 1) f g b ∧ R4 169 W0 (S + 1 + 1) cx cy ca cb ∧ R4 169 W0 (S + 1 + 1 + 1) x y 1 1) := by
        rw [← hW0, ← hS]
        refine ⟨(RCl.new w _ _ _).gr ((((Gr.refl _).alloc _).alloc _).alloc _), ?_, ?_, ?_⟩
        · have := R3.new (w.alloc (.cells #[.string txt, .int .i64 1] 67)) f g b 32
          simp only [World.size_alloc] at this
          exact this.gr (((Gr.refl _).alloc _).alloc _)
        · have := R4.new ((w.alloc (.cells #[.string txt, .int .i64 1] 67)).alloc (.cells #[.int .i64 f, .int .i64 g, .int .i64 b] 32)) cx cy ca cb 169
          simp only [World.size_alloc] at this
          exact this.gr ((Gr.refl _).alloc _)
        · have := R4.new (((w.alloc (.cells #[.string txt, .int .i64 1] 67)).alloc (.cells #[.int .i64 f, .int .i64 g, .int .i64 b] 32)).alloc (.cells #[.int .i64 cx, .int .i64 cy, .int .i64 ca, .int .i64 cb] 169)) x y 1 1 169
          simp only [World.size_alloc] at this
          exact this
      rw [hW0]
      clear hW0 hS
      have q0 := R0.out.1.c0
      have q1 := R0.out.1.c1
      have r0 := R0.out.2.2.1.c0
      have r1 := R0.out.2.2.1.c1
      have r2 := R0.out.2.2.1.c2
      have r3 := R0.out.2.2.1.c3
      have m0 := R0.out.2.2.2.c0
      have m1 := R0.out.2.2.2.c1
      have m2 := R0.out.2.2.2.c2
      have m3 := R0.out.2.2.2.c3
      have hfl := fld2 (.int .i64 l) (.int .i64 t) (.int .i64 u) (.int .i64 v)
      by_cases hu : u < 1
      · have HX : Hid (putX l u 1 txt f g b = fun _ => bk (kn f) (kn g) (bo b)) := if_pos hu
        go_cut [34] from 22 to 33 (fun s wx => s = .bool true ∧ Hid (RCl 67 wx S txt 1 ∧ R3 32 wx (S + 1) f g b ∧ R4 169 wx (S + 1 + 1) cx cy ca cb ∧ R4 169 wx (S + 1 + 1 + 1) x y 1 1 ∧ Gr w wx))
        case first =>
          go_region_with (go_at_call 126; refine Calls.mono (SN.out _ (HC.out.gr (by first | exact G0.out.drew | exact G0.out))) ?_; rintro e1 w1 ⟨rfl, g1⟩; have G1 : Hid (Gr W0 w1) := (by first | exact ((Gr.refl W0).drew).trans g1 | exact g1); clear g1; have o1 := (R0.out.1.gr G1.out).c1)
          all_goals
            go_wp2_with fail
            go_meet
            exact ⟨rfl, R0.out.1.gr G1.out, R0.out.2.1.gr G1.out, R0.out.2.2.1.gr G1.out, R0.out.2.2.2.gr G1.out, G0.out.trans G1.out⟩
        case rest =>
          obtain ⟨rfl, HR⟩ := hcut
          clear q0 q1 r0 r1 r2 r3 m0 m1 m2 m3 hfl
          have s0 := HR.out.2.1.c0
          have s1 := HR.out.2.1.c1
          have s2 := HR.out.2.1.c2
          have r0 := HR.out.2.2.1.c0
          have r1 := HR.out.2.2.1.c1
          have r2 := HR.out.2.2.1.c2
          have r3 := HR.out.2.2.1.c3
          have m0 := HR.out.2.2.2.1.c0
          have m1 := HR.out.2.2.2.1.c1
          have m2 := HR.out.2.2.2.1.c2
          have m3 := HR.out.2.2.2.1.c3
          go_wp2_with (go_at_call 111; refine Calls.mono (FL.out _ (HC.out.gr HR.out.2.2.2.2)) ?_; rintro e2 w2 ⟨rfl, V2, C2⟩; have HV2 : Hid (Cv 34 w2 M W H (fill c l.toNat (l + u).toNat t.toNat (t + v).toNat (fun _ => bk (kn f) (kn g) (bo b))) ∧ Ch M w w2) := (⟨V2, (Ch.gr HR.out.2.2.2.2).trans C2⟩ : _ ∧ _); clear V2 C2)
          refine bodyPost_ret (results_none rfl _ _ _) rfl ?_
          exact ⟨rfl, by rw [HX.out]; exact HV2.out.1, HV2.out.2⟩
      · have HX : Hid (putX l u 1 txt f g b = gly l.toNat 1 txt (kn f) (kn g) (bo b)) := if_neg hu
        have WH := HF.out.whole (by omega) (show (1 : Int) ≤ u by omega) (by omega) (by omega)
        have hlu := HF.out.lu
        have hl0 := HF.out.l0
        have htv := HF.out.tv
        have ht0 := HF.out.t0
        have hx : 0 ≤ x ∧ x + 1 ≤ W := by omega
        have hy : 0 ≤ y ∧ y < H := by omega
        have HW : Hid (l = x ∧ t = y ∧ u = 1 ∧ v = 1) := WH
        clear WH hlu hl0 htv ht0
        go_cut [34] from 22 to 33 (fun s wx => s = .bool false ∧ Hid (RCl 67 wx S txt 1 ∧ R3 32 wx (S + 1) f g b ∧ R4 169 wx (S + 1 + 1) cx cy ca cb ∧ R4 169 wx (S + 1 + 1 + 1) x y 1 1 ∧ Gr w wx))
        case first =>
          have hu' : ¬ u < 1 := hu
          go_region_with (go_at_call 126; refine Calls.mono (SN.out _ (HC.out.gr (by first | exact G0.out.drew | exact G0.out))) ?_; rintro e1 w1 ⟨rfl, g1⟩; have G1 : Hid (Gr W0 w1) := (by first | exact ((Gr.refl W0).drew).trans g1 | exact g1); clear g1; have o1 := (R0.out.1.gr G1.out).c1)
          all_goals
            go_wp2_with fail
            go_meet
            exact ⟨congrArg Value.bool (decide_eq_false (by omega)), R0.out.1.gr G1.out, R0.out.2.1.gr G1.out, R0.out.2.2.1.gr G1.out, R0.out.2.2.2.gr G1.out, G0.out.trans G1.out⟩
        case rest =>
          obtain ⟨rfl, HR⟩ := hcut
          clear q0 q1 r0 r1 r2 r3 m0 m1 m2 m3 hfl
          have s0 := HR.out.2.1.c0
          have s1 := HR.out.2.1.c1
          have s2 := HR.out.2.1.c2
          go_wp2_with fail
          refine Calls.mono (C1 _) ?_
          rintro e1 w1 ⟨rfl, g1⟩
          have R1 : Hid (RCl 67 w1 S txt 1 ∧ R3 32 w1 (S + 1) f g b ∧ Gr w w1) := ⟨HR.out.1.gr g1, HR.out.2.1.gr g1, HR.out.2.2.2.2.trans g1⟩
          clear g1 s0 s1 s2 HR C1
          obtain ⟨kf, hkf⟩ : ∃ z, kn f = z := ⟨_, rfl⟩
          obtain ⟨kg, hkg⟩ : ∃ z, kn g = z := ⟨_, rfl⟩
          obtain ⟨kb, hkb⟩ : ∃ z, bo b = z := ⟨_, rfl⟩
          rw [hkf, hkg, hkb] at HX
          rw [hkf, hkg, hkb]
          clear hkf hkg hkb
          obtain ⟨w2, hw2⟩ : ∃ z, ((w1.setCell ⟨S + 1, 0, none⟩ (.int .i64 kf)).setCell ⟨S + 1, 1, none⟩ (.int .i64 kg)).setCell ⟨S + 1, 2, none⟩ (.int .i64 kb) = z := ⟨_, rfl⟩
          have R2 : Hid (RCl 67 w2 S txt 1 ∧ R3 32 w2 (S + 1) kf kg kb ∧ Gr w w2) := by
            rw [← hw2]
            exact ⟨((R1.out.1.other (by omega) _ _).other (by omega) _ _).other (by omega) _ _, R1.out.2.1.set _ _ _, R1.out.2.2.set3 (by rw [HS.out]; omega) _ _ _⟩
          have s0 := R1.out.2.1.c0
          have s1 := R1.out.2.1.c1
          have s2 := R1.out.2.1.c2
          have z0 := R1.out.2.1.fz 0
          have z1 := R1.out.2.1.fz 1
          have z2 := R1.out.2.1.fz 2
          have q1 := R2.out.1.c1
          go_wp2_with fail
          refine Calls.mono (stretch_int w2 (HC.out.gr R2.out.2.2) hW hH.2 HP.out y x (x + 1) hy (by omega) hx.2) ?_
          rintro e3 w3 ⟨rfl, V3, C3⟩
          have HM : Hid (M < S) := (by rw [← HS.out]; exact HC.out.cv.lt : M < S)
          have R3' : Hid (RCl 67 w3 S txt 1 ∧ R3 32 w3 (S + 1) kf kg kb ∧ Ch M w w3) := ⟨R2.out.1.ch C3 (by have := HM.out; omega), R2.out.2.1.ch C3 (by have := HM.out; omega), (Ch.gr R2.out.2.2).trans C3⟩
          obtain ⟨X, hX⟩ : ∃ z, x.toNat = z := ⟨_, rfl⟩
          obtain ⟨Y, hY⟩ : ∃ z, y.toNat = z := ⟨_, rfl⟩
          rw [hX, hY] at V3
          rw [hX, hY]
          have HV3 : Hid (Cv 34 w3 M W H (cut c Y X (X + 1 - 1))) := by
            rw [show (x + 1).toNat - 1 = X + 1 - 1 by omega] at V3; exact V3
          have HXY : Hid (x.toNat = X ∧ y.toNat = Y) := ⟨hX, hY⟩
          have hXW : X + 1 ≤ W := by omega
          have hYH : Y < H := by omega
          rw [show (x + 1 - x).toNat = 1 by omega]
          clear hX hY V3 C3 s0 s1 s2 z0 z1 z2 q1 hw2 R1 R2
          obtain ⟨o, ho⟩ : ∃ z, Y * W * 5 + X * 5 = z := ⟨_, rfl⟩
          have HO : Hid (Y * W * 5 + X * 5 = o) := ho
          have d0 := HV3.out.c0 hYH (show X < W by omega)
          have d1 := HV3.out.c1 hYH (show X < W by omega)
          have d2 := HV3.out.c2 hYH (show X < W by omega)
          have d3 := HV3.out.c3 hYH (show X < W by omega)
          have d4 := HV3.out.c4 hYH (show X < W by omega)
          rw [ho] at d0 d1 d2 d3 d4
          rw [ho]
          clear ho
          have fz := HV3.out.fz
          have q0 := R3'.out.1.c0
          have q1 := R3'.out.1.c1
          have s0 := R3'.out.2.1.c0
          have s1 := R3'.out.2.1.c1
          have s2 := R3'.out.2.1.c2
          have sm : ¬ S = M := by have := HM.out; omega
          have sm1 : ¬ S + 1 = M := by have := HM.out; omega
          go_wp2
          go_end0
          refine ⟨rfl, ?_, R3'.out.2.2.set5 _ _ _ _ _⟩
          have VS := HV3.out.set hYH (show X < W by omega) ⟨txt, kf, kg, kb, 0⟩
          rw [HO.out] at VS
          refine VS.same ?_
          intro y' x' _ _
          rw [HX.out, HW.out.1, HW.out.2.1, HW.out.2.2.1, HW.out.2.2.2, show (x + 1).toNat = x.toNat + 1 by omega, show (y + 1).toNat = y.toNat + 1 by omega, HXY.out.1, HXY.out.2, ← part_done c Y X X _ (Nat.le_refl _), show X + 1 - X = 0 + 1 by omega, ← part_next, part_zero]
          rfl
    · have HI : Hid ((if (2 : Int) = 1 ∨ (2 : Int) = 2 then fill c l.toNat (l + u).toNat t.toNat (t + v).toNat (putX l u 2 txt f g b) else c) = fill c l.toNat (l + u).toNat t.toNat (t + v).toNat (putX l u 2 txt f g b)) := if_pos (by omega)
      rw [HI.out]
      clear HI
      go_enter Tryd.func118, Tryd.ntmps118
      go_wp2_with fail
      obtain ⟨W0, hW0⟩ : ∃ z, (((w.alloc (.cells #[.string txt, .int .i64 2] 67)).alloc (.cells #[.int .i64 f, .int .i64 g, .int .i64 b] 32)).alloc (.cells #[.int .i64 cx, .int .i64 cy, .int .i64 ca, .int .i64 cb] 169)).alloc (.cells #[.int .i64 x, .int .i64 y, .int .i64 2, .int .i64 1] 169) = z := ⟨_, rfl⟩
      have G0 : Hid (Gr w W0) := by rw [← hW0]; exact ((((Gr.refl w).alloc _).alloc _).alloc _).alloc _
      have R0 : Hid (RCl 67 W0 S txt 2 ∧ R3 32 W0 (S + 1) f g b ∧ R4 169 W0 (S + 1 + 1) cx cy ca cb ∧ R4 169 W0 (S + 1 + 1 + 1) x y 2 1) := by
        rw [← hW0, ← hS]
        refine ⟨(RCl.new w _ _ _).gr ((((Gr.refl _).alloc _).alloc _).alloc _), ?_, ?_, ?_⟩
        · have := R3.new (w.alloc (.cells #[.string txt, .int .i64 2] 67)) f g b 32
          simp only [World.size_alloc] at this
          exact this.gr (((Gr.refl _).alloc _).alloc _)
        · have := R4.new ((w.alloc (.cells #[.string txt, .int .i64 2] 67)).alloc (.cells #[.int .i64 f, .int .i64 g, .int .i64 b] 32)) cx cy ca cb 169
          simp only [World.size_alloc] at this
          exact this.gr ((Gr.refl _).alloc _)
        · have := R4.new (((w.alloc (.cells #[.string txt, .int .i64 2] 67)).alloc (.cells #[.int .i64 f, .int .i64 g, .int .i64 b] 32)).alloc (.cells #[.int .i64 cx, .int .i64 cy, .int .i64 ca, .int .i64 cb] 169)) x y 2 1 169
          simp only [World.size_alloc] at this
          exact this
      rw [hW0]
      clear hW0 hS
      have q0 := R0.out.1.c0
      have q1 := R0.out.1.c1
      have r0 := R0.out.2.2.1.c0
      have r1 := R0.out.2.2.1.c1
      have r2 := R0.out.2.2.1.c2
      have r3 := R0.out.2.2.1.c3
      have m0 := R0.out.2.2.2.c0
      have m1 := R0.out.2.2.2.c1
      have m2 := R0.out.2.2.2.c2
      have m3 := R0.out.2.2.2.c3
      have hfl := fld2 (.int .i64 l) (.int .i64 t) (.int .i64 u) (.int .i64 v)
      by_cases hu : u < 2
      · have HX : Hid (putX l u 2 txt f g b = fun _ => bk (kn f) (kn g) (bo b)) := if_pos hu
        go_cut [34] from 22 to 33 (fun s wx => s = .bool true ∧ Hid (RCl 67 wx S txt 2 ∧ R3 32 wx (S + 1) f g b ∧ R4 169 wx (S + 1 + 1) cx cy ca cb ∧ R4 169 wx (S + 1 + 1 + 1) x y 2 1 ∧ Gr w wx))
        case first =>
          go_region_with (go_at_call 126; refine Calls.mono (SN.out _ (HC.out.gr (by first | exact G0.out.drew | exact G0.out))) ?_; rintro e1 w1 ⟨rfl, g1⟩; have G1 : Hid (Gr W0 w1) := (by first | exact ((Gr.refl W0).drew).trans g1 | exact g1); clear g1; have o1 := (R0.out.1.gr G1.out).c1)
          all_goals
            go_wp2_with fail
            go_meet
            exact ⟨rfl, R0.out.1.gr G1.out, R0.out.2.1.gr G1.out, R0.out.2.2.1.gr G1.out, R0.out.2.2.2.gr G1.out, G0.out.trans G1.out⟩
        case rest =>
          obtain ⟨rfl, HR⟩ := hcut
          clear q0 q1 r0 r1 r2 r3 m0 m1 m2 m3 hfl
          have s0 := HR.out.2.1.c0
          have s1 := HR.out.2.1.c1
          have s2 := HR.out.2.1.c2
          have r0 := HR.out.2.2.1.c0
          have r1 := HR.out.2.2.1.c1
          have r2 := HR.out.2.2.1.c2
          have r3 := HR.out.2.2.1.c3
          have m0 := HR.out.2.2.2.1.c0
          have m1 := HR.out.2.2.2.1.c1
          have m2 := HR.out.2.2.2.1.c2
          have m3 := HR.out.2.2.2.1.c3
          go_wp2_with (go_at_call 111; refine Calls.mono (FL.out _ (HC.out.gr HR.out.2.2.2.2)) ?_; rintro e2 w2 ⟨rfl, V2, C2⟩; have HV2 : Hid (Cv 34 w2 M W H (fill c l.toNat (l + u).toNat t.toNat (t + v).toNat (fun _ => bk (kn f) (kn g) (bo b))) ∧ Ch M w w2) := (⟨V2, (Ch.gr HR.out.2.2.2.2).trans C2⟩ : _ ∧ _); clear V2 C2)
          refine bodyPost_ret (results_none rfl _ _ _) rfl ?_
          exact ⟨rfl, by rw [HX.out]; exact HV2.out.1, HV2.out.2⟩
      · have HX : Hid (putX l u 2 txt f g b = gly l.toNat 2 txt (kn f) (kn g) (bo b)) := if_neg hu
        have WH := HF.out.whole (by omega) (show (2 : Int) ≤ u by omega) (by omega) (by omega)
        have hlu := HF.out.lu
        have hl0 := HF.out.l0
        have htv := HF.out.tv
        have ht0 := HF.out.t0
        have hx : 0 ≤ x ∧ x + 2 ≤ W := by omega
        have hy : 0 ≤ y ∧ y < H := by omega
        have HW : Hid (l = x ∧ t = y ∧ u = 2 ∧ v = 1) := WH
        clear WH hlu hl0 htv ht0
        go_cut [34] from 22 to 33 (fun s wx => s = .bool false ∧ Hid (RCl 67 wx S txt 2 ∧ R3 32 wx (S + 1) f g b ∧ R4 169 wx (S + 1 + 1) cx cy ca cb ∧ R4 169 wx (S + 1 + 1 + 1) x y 2 1 ∧ Gr w wx))
        case first =>
          have hu' : ¬ u < 2 := hu
          go_region_with (go_at_call 126; refine Calls.mono (SN.out _ (HC.out.gr (by first | exact G0.out.drew | exact G0.out))) ?_; rintro e1 w1 ⟨rfl, g1⟩; have G1 : Hid (Gr W0 w1) := (by first | exact ((Gr.refl W0).drew).trans g1 | exact g1); clear g1; have o1 := (R0.out.1.gr G1.out).c1)
          all_goals
            go_wp2_with fail
            go_meet
            exact ⟨congrArg Value.bool (decide_eq_false (by omega)), R0.out.1.gr G1.out, R0.out.2.1.gr G1.out, R0.out.2.2.1.gr G1.out, R0.out.2.2.2.gr G1.out, G0.out.trans G1.out⟩
        case rest =>
          obtain ⟨rfl, HR⟩ := hcut
          clear q0 q1 r0 r1 r2 r3 m0 m1 m2 m3 hfl
          have s0 := HR.out.2.1.c0
          have s1 := HR.out.2.1.c1
          have s2 := HR.out.2.1.c2
          go_wp2_with fail
          refine Calls.mono (C1 _) ?_
          rintro e1 w1 ⟨rfl, g1⟩
          have R1 : Hid (RCl 67 w1 S txt 2 ∧ R3 32 w1 (S + 1) f g b ∧ Gr w w1) := ⟨HR.out.1.gr g1, HR.out.2.1.gr g1, HR.out.2.2.2.2.trans g1⟩
          clear g1 s0 s1 s2 HR C1
          obtain ⟨kf, hkf⟩ : ∃ z, kn f = z := ⟨_, rfl⟩
          obtain ⟨kg, hkg⟩ : ∃ z, kn g = z := ⟨_, rfl⟩
          obtain ⟨kb, hkb⟩ : ∃ z, bo b = z := ⟨_, rfl⟩
          rw [hkf, hkg, hkb] at HX
          rw [hkf, hkg, hkb]
          clear hkf hkg hkb
          obtain ⟨w2, hw2⟩ : ∃ z, ((w1.setCell ⟨S + 1, 0, none⟩ (.int .i64 kf)).setCell ⟨S + 1, 1, none⟩ (.int .i64 kg)).setCell ⟨S + 1, 2, none⟩ (.int .i64 kb) = z := ⟨_, rfl⟩
          have R2 : Hid (RCl 67 w2 S txt 2 ∧ R3 32 w2 (S + 1) kf kg kb ∧ Gr w w2) := by
            rw [← hw2]
            exact ⟨((R1.out.1.other (by omega) _ _).other (by omega) _ _).other (by omega) _ _, R1.out.2.1.set _ _ _, R1.out.2.2.set3 (by rw [HS.out]; omega) _ _ _⟩
          have s0 := R1.out.2.1.c0
          have s1 := R1.out.2.1.c1
          have s2 := R1.out.2.1.c2
          have z0 := R1.out.2.1.fz 0
          have z1 := R1.out.2.1.fz 1
          have z2 := R1.out.2.1.fz 2
          have q1 := R2.out.1.c1
          go_wp2_with fail
          refine Calls.mono (stretch_int w2 (HC.out.gr R2.out.2.2) hW hH.2 HP.out y x (x + 2) hy (by omega) hx.2) ?_
          rintro e3 w3 ⟨rfl, V3, C3⟩
          have HM : Hid (M < S) := (by rw [← HS.out]; exact HC.out.cv.lt : M < S)
          have R3' : Hid (RCl 67 w3 S txt 2 ∧ R3 32 w3 (S + 1) kf kg kb ∧ Ch M w w3) := ⟨R2.out.1.ch C3 (by have := HM.out; omega), R2.out.2.1.ch C3 (by have := HM.out; omega), (Ch.gr R2.out.2.2).trans C3⟩
          obtain ⟨X, hX⟩ : ∃ z, x.toNat = z := ⟨_, rfl⟩
          obtain ⟨Y, hY⟩ : ∃ z, y.toNat = z := ⟨_, rfl⟩
          rw [hX, hY] at V3
          rw [hX, hY]
          have HV3 : Hid (Cv 34 w3 M W H (cut c Y X (X + 2 - 1))) := by
            rw [show (x + 2).toNat - 1 = X + 2 - 1 by omega] at V3; exact V3
          have HXY : Hid (x.toNat = X ∧ y.toNat = Y) := ⟨hX, hY⟩
          have hXW : X + 2 ≤ W := by omega
          have hYH : Y < H := by omega
          rw [show (x + 2 - x).toNat = 2 by omega]
          clear hX hY V3 C3 s0 s1 s2 z0 z1 z2 q1 hw2 R1 R2
          obtain ⟨o, ho⟩ : ∃ z, Y * W * 5 + X * 5 = z := ⟨_, rfl⟩
          have HO : Hid (Y * W * 5 + X * 5 = o) := ho
          have d0 := HV3.out.c0 hYH (show X < W by omega)
          have d1 := HV3.out.c1 hYH (show X < W by omega)
          have d2 := HV3.out.c2 hYH (show X < W by omega)
          have d3 := HV3.out.c3 hYH (show X < W by omega)
          have d4 := HV3.out.c4 hYH (show X < W by omega)
          rw [ho] at d0 d1 d2 d3 d4
          rw [ho]
          clear ho
          have fz := HV3.out.fz
          have q0 := R3'.out.1.c0
          have q1 := R3'.out.1.c1
          have s0 := R3'.out.2.1.c0
          have s1 := R3'.out.2.1.c1
          have s2 := R3'.out.2.1.c2
          have sm : ¬ S = M := by have := HM.out; omega
          have sm1 : ¬ S + 1 = M := by have := HM.out; omega
          go_upto_if 58 with fail
          obtain ⟨w4, hw4⟩ : ∃ z, ((((w3.setCell ⟨M, o, none⟩ (.string txt)).setCell ⟨M, o + 1, none⟩ (.int .i64 kf)).setCell ⟨M, o + 2, none⟩ (.int .i64 kg)).setCell ⟨M, o + 3, none⟩ (.int .i64 kb)).setCell ⟨M, o + 4, none⟩ (.int .i64 0) = z := ⟨_, rfl⟩
          have HR4 : Hid (RCl 67 w4 S txt 2 ∧ R3 32 w4 (S + 1) kf kg kb ∧ Ch M w w4 ∧ Cv 34 w4 M W H (upd (cut c Y X (X + 1)) Y X ⟨txt, kf, kg, kb, 0⟩)) := by
            have VS := HV3.out.set hYH (show X < W by omega) ⟨txt, kf, kg, kb, 0⟩
            rw [HO.out, hw4] at VS
            have cc : Ch M w3 w4 := by rw [← hw4]; exact (Ch.refl M w3).set5 _ _ _ _ _
            exact ⟨R3'.out.1.ch cc sm, R3'.out.2.1.ch cc sm1, R3'.out.2.2.trans cc, VS⟩
          rw [hw4]
          clear hw4 d0 d1 d2 d3 d4 fz q0 q1 s0 s1 s2 R3' HV3
          have d4 := HR4.out.2.2.2.c4 hYH (show X < W by omega)
          rw [HO.out] at d4
          have fz := HR4.out.2.2.2.fz
          have q1 := HR4.out.1.c1
          have s0 := HR4.out.2.1.c0
          have s1 := HR4.out.2.1.c1
          have s2 := HR4.out.2.1.c2
          have e0 := HR4.out.2.2.2.c0 hYH (show X + 1 < W by omega)
          have e1 := HR4.out.2.2.2.c1 hYH (show X + 1 < W by omega)
          have e2 := HR4.out.2.2.2.c2 hYH (show X + 1 < W by omega)
          have e3 := HR4.out.2.2.2.c3 hYH (show X + 1 < W by omega)
          have e4 := HR4.out.2.2.2.c4 hYH (show X + 1 < W by omega)
          have EO : Hid (Y * W * 5 + (X + 1) * 5 = o + 5) := (by rw [← HO.out]; omega : Y * W * 5 + (X + 1) * 5 = o + 5)
          rw [EO.out] at e0 e1 e2 e3 e4
          go_wp2_with fail
          go_end0
          refine ⟨rfl, ?_, (HR4.out.2.2.1.set (.inl rfl) _ _).set5 _ _ _ _ _⟩
          have VP := HR4.out.2.2.2.setPart hYH (show X < W by omega) 1
          rw [HO.out] at VP
          have VS := VP.set hYH (show X + 1 < W by omega) ⟨ept, kf, kg, kb, 2⟩
          rw [EO.out] at VS
          refine VS.same ?_
          intro y' x' _ _
          rw [HX.out, HW.out.1, HW.out.2.1, HW.out.2.2.1, HW.out.2.2.2, show (x + 2).toNat = x.toNat + 1 + 1 by omega, show (y + 1).toNat = y.toNat + 1 by omega, HXY.out.1, HXY.out.2, ← part_done c Y X (X + 1) _ (by omega)]
          exact put_two c Y X y' x' txt kf kg kb
  · have n1 : (wd != 1) = true := by simp; omega
    have n2 : (wd != 2) = true := by simp; omega
    have n3 : ¬ wd = 1 := by omega
    rw [if_neg h1]
    clear hS
    go_enter Tryd.func118, Tryd.ntmps118
    go_wp2
    refine bodyPost_ret (results_none rfl _ _ _) rfl ?_
    exact ⟨rfl, HC.out.cv.gr ((((Gr.refl w).alloc _).alloc _).alloc _), Ch.gr ((((Gr.refl w).alloc _).alloc _).alloc _)⟩
end
end Go.Proofs.YtlfffpoeioecjaaDoor

namespace Go.Proofs.YtlfffpoeioecjaaDoor
open Go.RowKit Go.Sort
set_option linter.unusedVariables false

theorem R5.fz {T : TypeId} {Q : World} {b : Nat} {e : Ce} (h : R5 T Q b e) (j : Nat) : Q.frozen? ⟨b, j, none⟩ = false := frozen_of_row _ _ _ _ _ h
theorem R5.set {T : TypeId} {Q : World} {b : Nat} {e : Ce} (h : R5 T Q b e) (e' : Ce) : R5 T (((((Q.setCell ⟨b, 0, none⟩ (.string e'.t)).setCell ⟨b, 1, none⟩ (.int .i64 e'.f)).setCell ⟨b, 2, none⟩ (.int .i64 e'.g)).setCell ⟨b, 3, none⟩ (.int .i64 e'.b)).setCell ⟨b, 4, none⟩ (.int .i64 e'.p)) b e' := by
  have h0 : R5 T (Q.setCell ⟨b, 0, none⟩ (.string e'.t)) b ⟨e'.t, e.f, e.g, e.b, e.p⟩ := heap_setCell_same _ b 0 _ T _ h
  have h1 : R5 T _ b ⟨e'.t, e'.f, e.g, e.b, e.p⟩ := heap_setCell_same _ b 1 _ T (.int .i64 e'.f) h0
  have h2 : R5 T _ b ⟨e'.t, e'.f, e'.g, e.b, e.p⟩ := heap_setCell_same _ b 2 _ T (.int .i64 e'.g) h1
  have h3 : R5 T _ b ⟨e'.t, e'.f, e'.g, e'.b, e.p⟩ := heap_setCell_same _ b 3 _ T (.int .i64 e'.b) h2
  exact heap_setCell_same _ b 4 _ T (.int .i64 e'.p) h3

theorem Gr.set5 {Q Q' : World} {k o0 o1 o2 o3 o4 : Nat} (h : Gr Q Q') (hk : Q.heap.size ≤ k) (v0 v1 v2 v3 v4 : Value) : Gr Q (((((Q'.setCell ⟨k, o0, none⟩ v0).setCell ⟨k, o1, none⟩ v1).setCell ⟨k, o2, none⟩ v2).setCell ⟨k, o3, none⟩ v3).setCell ⟨k, o4, none⟩ v4) := ((((h.set hk v0).set hk v1).set hk v2).set hk v3).set hk v4

set_option maxRecDepth 100000 in
set_option maxHeartbeats 2000000 in
theorem cell_any (e : Ce) (w : World) : Calls Tryd.prog 24 #[cev e] w fun r w' => r = .returned (cev e) ∧ Gr w w' := by
  have LA : Hid (∀ f g b w, Calls Tryd.prog 39 #[sv f g b] w fun e w' => e = .returned (sv f g b) ∧ Gr w w') := look_any
  obtain ⟨t, f, g, b, p⟩ := e
  unfold cev
  unfold sv at LA
  go_enter Tryd.func24, Tryd.ntmps24
  go_wp2_with fail
  obtain ⟨S, hS⟩ : ∃ z, w.heap.size = z := ⟨_, rfl⟩
  obtain ⟨W0, hW0⟩ : ∃ z, (w.alloc (.cells #[.string t, .int .i64 f, .int .i64 g, .int .i64 b, .int .i64 p] 57)).alloc (.cells #[.string ⟨#[]⟩, .int .i64 0, .int .i64 0, .int .i64 0, .int .i64 0] 34) = z := ⟨_, rfl⟩
  have G0 : Hid (Gr w W0) := by rw [← hW0]; exact ((Gr.refl w).alloc _).alloc _
  have R0 : Hid (R5 57 W0 S ⟨t, f, g, b, p⟩) := by rw [← hW0, ← hS]; exact (R5.new w ⟨t, f, g, b, p⟩ _).gr ((Gr.refl _).alloc _)
  have R1 : Hid (R5 34 W0 (S + 1) ⟨⟨#[]⟩, 0, 0, 0, 0⟩) := by
    have := R5.new (w.alloc (.cells #[.string t, .int .i64 f, .int .i64 g, .int .i64 b, .int .i64 p] 57)) ⟨⟨#[]⟩, 0, 0, 0, 0⟩ 34
    rw [World.size_alloc, hS] at this
    rw [← hW0]; exact this
  rw [hW0, hS]
  have HS : Hid (w.heap.size = S) := hS
  clear hW0 hS
  have q0 := R0.out.c0
  have q1 := R0.out.c1
  have q2 := R0.out.c2
  have q3 := R0.out.c3
  have q4 := R0.out.c4
  go_region_with (go_at_call 39; refine Calls.mono (LA.out _ _ _ _) ?_; rintro e1 w1 ⟨rfl, g1⟩; have G1 : Hid (Gr W0 w1) := (by first | exact ((Gr.refl W0).drew).trans g1 | exact g1); clear g1; have o0 := (R0.out.gr G1.out).c0; have o4 := (R0.out.gr G1.out).c4; have u0 := (R1.out.gr G1.out).c0; have u1 := (R1.out.gr G1.out).c1; have u2 := (R1.out.gr G1.out).c2; have u3 := (R1.out.gr G1.out).c3; have u4 := (R1.out.gr G1.out).c4; have uf := (R1.out.gr G1.out).fz)
  all_goals
    go_wp2
    refine bodyPost_ret (results_cell_row rfl _ _ (S + 1) _ _ _ _ rfl ((R1.out.gr G1.out).set ⟨t, f, g, b, p⟩) Tryd.underlying34 rfl (by kernel_rfl)) rfl ?_
    exact ⟨rfl, (G0.out.trans G1.out).set5 (by rw [HS.out]; omega) _ _ _ _ _⟩

/-- A place in the list is a row and a column. -/
theorem lin_split {W H i : Nat} (hi : i < W * H) : ∃ y x, y < H ∧ x < W ∧ i = y * W + x := by
  have h0 : 0 < W := by
    rcases Nat.eq_zero_or_pos W with h | h
    · subst h; simp at hi
    · exact h
  refine ⟨i / W, i % W, ?_, Nat.mod_lt _ h0, ?_⟩
  · exact Nat.div_lt_of_lt_mul hi
  · rw [Nat.mul_comm]; exact (Nat.div_add_mod i W).symm

end Go.Proofs.YtlfffpoeioecjaaDoor

namespace Go.Proofs.YtlfffpoeioecjaaDoor
open Go.RowKit Go.Sort
set_option linter.unusedVariables false

theorem lenI_one : lenI 1 = 1 := rfl
/-- What is seen lies in the row of the cluster. -/
theorem Seen.row {W H x y wd cx cy ca cb l t u v : Int} (h : Seen W H x y wd 1 cx cy ca cb l t u v) (hy : 0 ≤ y ∧ y < 400) (hu : 0 < u) : t = y ∧ v = 1 := by
  have uv := h.uv.1 hu
  have m1 := (h.mem l t).1 (by omega)
  have m2 := (h.mem l (t + v - 1)).1 (by omega)
  have e : posI y = y := by unfold posI; omega
  rw [lenI_one, e] at m1 m2
  omega
/-- A place of the cluster that lies on the screen and in the clip is one that is seen. -/
theorem Seen.vis {W H x y wd cx cy ca cb l t u v : Int} (h : Seen W H x y wd 1 cx cy ca cb l t u v) (hw : wd = 1 ∨ wd = 2) (hy : 0 ≤ y ∧ y < 400) (hx : -1 ≤ x ∧ x < 400) (p : Int) (h1 : x ≤ p) (h2 : p < x + wd) :
    ((0 ≤ p ∧ p < W ∧ 0 ≤ y ∧ y < H) ∧ (posI cx ≤ p ∧ p < posI cx + lenI ca ∧ posI cy ≤ y ∧ y < posI cy + lenI cb)) ↔ (l ≤ p ∧ p < l + u) := by
  have m := h.mem p y
  have ex : posI x = x := by unfold posI; omega
  have ey : posI y = y := by unfold posI; omega
  have ew : lenI wd = wd := lenI_id (by omega)
  rw [ex, ey, ew, lenI_one] at m
  constructor
  · intro q; have := m.2 ⟨q.1, by omega, q.2⟩; exact ⟨this.1, this.2.1⟩
  · intro q
    have r := h.row hy (by omega)
    have := m.1 ⟨q.1, q.2, by omega, by omega⟩
    exact ⟨this.1, this.2.2⟩
/-- And what is seen lies within the cluster. -/
theorem Seen.within {W H x y wd cx cy ca cb l t u v : Int} (h : Seen W H x y wd 1 cx cy ca cb l t u v) (hw : wd = 1 ∨ wd = 2) (hx : -1 ≤ x ∧ x < 400) (hu : 0 < u) : x ≤ l ∧ l + u ≤ x + wd := by
  have uv := h.uv.1 hu
  have m1 := (h.mem l t).1 (by omega)
  have m2 := (h.mem (l + u - 1) t).1 (by omega)
  have ex : posI x = x := by unfold posI; omega
  have ew : lenI wd = wd := lenI_id (by omega)
  rw [ex, ew] at m1 m2
  omega
/-- Beyond the screen, or of another width: nothing changes. -/
theorem putC_out {W H : Nat} (hW : 1 ≤ W ∧ W ≤ 400) (hH : 1 ≤ H ∧ H ≤ 400) (c : Nat → Nat → Ce) (x y : Int) (txt : ByteArray) (wd f g b cx cy ca cb : Int) (h : ¬ (wd = 1 ∨ wd = 2) ∨ y < 0 ∨ (H : Int) ≤ y ∨ x < -1 ∨ (W : Int) ≤ x) : putC W H c x y txt wd f g b cx cy ca cb = c := by
  have SF := seen_facts (W := W) (H := H) (by omega) (by omega) x y wd 1 cx cy ca cb
  unfold putC putQ
  generalize seenQ W H x y wd 1 cx cy ca cb = q at SF ⊢
  obtain ⟨l, t, u, v⟩ := q
  simp only at SF ⊢
  split
  · rename_i hw
    refine fill_none (fun hh => ?_)
    have l0 := SF.l0
    have t0 := SF.t0
    have u0 := SF.u0
    have v0 := SF.v0
    have m := (SF.mem l t).1 (by omega)
    have ew : lenI wd = wd := lenI_id (by omega)
    rw [ew, lenI_one] at m
    unfold posI at m
    omega
  · rfl
end Go.Proofs.YtlfffpoeioecjaaDoor
