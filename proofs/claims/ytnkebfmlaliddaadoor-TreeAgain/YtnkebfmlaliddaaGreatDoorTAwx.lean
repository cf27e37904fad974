/-
  TreeAgain, walked. Written by tools/genag.py.
-/
import Derived.Test.YtnkebfmlaliddaaGreatDoorTAjx
import Derived.Test.YtnkebfmlaliddaaGreatDoorP34
import Derived.Test.YtnkebfmlaliddaaGreatDoorTSmx
namespace Go.Proofs.YtnkebfmlaliddaaGreatDoor
open Go.RowKit
set_option linter.unusedVariables false

theorem twelve : ∀ {l : List Int}, l.length = 12 → ∃ a0 a1 a2 a3 a4 a5 a6 a7 a8 a9 b0 b1, l = [a0, a1, a2, a3, a4, a5, a6, a7, a8, a9, b0, b1]
  | [a0, a1, a2, a3, a4, a5, a6, a7, a8, a9, b0, b1], _ => ⟨_, _, _, _, _, _, _, _, _, _, _, _, rfl⟩
theorem kids_ints {w : World} {B : Nat} {v : Value} {K : List Nat} (h : w.ownsRow B 3 1 v K.length (kInts K)) : Ints w v (K.map fun (k : Nat) => (k : Int)) := by
  have e : kInts K = (K.map fun (k : Nat) => (k : Int)).map (Value.int .i64) := by unfold kInts; rw [List.map_map]; rfl
  rw [e] at h
  exact ints_own h
theorem own_row {W : World} {B n size g cap : Nat} {e : TypeId} {xs : List Value} (h : W.ownsRow B e size (.slice (some ⟨g, 0, none⟩) n cap) n xs) : ∃ cur, W.heap[g]? = some (.cells cur e (0, 0)) := by
  rcases h.2 with ⟨h2, _⟩ | ⟨g', cap', cur, e1, _, c, _⟩
  · cases h2
  · simp only [Value.slice.injEq, Option.some.injEq, Addr.mk.injEq, true_and, and_true] at e1
    obtain ⟨rfl, _⟩ := e1
    exact ⟨cur, c⟩
/-- The nodes from k on are as they were; all else but their block, too. -/
structure Ag (w0 wr : World) (g k : Nat) : Prop where
  gr : w0.grownBy wr (some g)
  cell : ∀ j, k * 16 ≤ j → wr.cell? ⟨g, j, none⟩ = w0.cell? ⟨g, j, none⟩
  row : ∃ cur, wr.heap[g]? = some (.cells cur 38 (0, 0))
theorem Ag.below {w0 wr u : World} {g k : Nat} (h : Ag w0 wr g k) (hb : Below wr.heap.size wr u) : Ag w0 u g k := by
  obtain ⟨cur, hc⟩ := h.row
  have hl := (Array.getElem?_eq_some_iff.1 hc).1
  refine ⟨⟨hb.os.trans h.gr.os, hb.tape.trans h.gr.tape, hb.output.trans h.gr.output, Nat.le_trans h.gr.size hb.size, fun b h1 h2 => (hb.block b (Nat.lt_of_lt_of_le h1 h.gr.size)).trans (h.gr.block b h1 h2)⟩, fun j hj => (hb.cell (p := ⟨g, j, none⟩) hl).trans (h.cell j hj), cur, (hb.block g hl).trans hc⟩
theorem Ag.set {w0 wr : World} {g k : Nat} (h : Ag w0 wr g k) (v : Value) : Ag w0 (wr.setCell ⟨g, k * 16 + 14, none⟩ v) g (k + 1) := by
  obtain ⟨cur, hc⟩ := h.row
  refine ⟨⟨h.gr.os, h.gr.tape, h.gr.output, by simpa [World.setCell] using h.gr.size, fun b h1 h2 => (heap_setCell_other wr ⟨g, k * 16 + 14, none⟩ b v (fun e => h2 (by rw [e]))).trans (h.gr.block b h1 h2)⟩, fun j hj => ?_, _, heap_setCell_same wr g _ cur _ v hc⟩
  exact (World.cell?_setCell_other (w := wr) (a := ⟨g, k * 16 + 14, none⟩) (b := ⟨g, j, none⟩) (v := v) (by intro e; injection e with _ e; omega)).trans (h.cell j (by omega))
/-- One node of two lists: what the loop reads. -/
structure Ag2 (u : World) (g1 g2 k : Nat) (d : Nd) (kv1 kv2 : Value) : Prop where
  one : ∀ t x, (pnCells d kv1)[t]? = some x → u.cell? ⟨g1, k * 16 + t, none⟩ = some x
  two : ∀ t x, (pnCells d kv2)[t]? = some x → u.cell? ⟨g2, k * 16 + t, none⟩ = some x
  i1 : Ints u kv1 (d.kids.map fun (k : Nat) => (k : Int))
  i2 : Ints u kv2 (d.kids.map fun (k : Nat) => (k : Int))
  lt1 : g1 < u.heap.size
  lt2 : g2 < u.heap.size
theorem Ag2.below {u u' : World} {g1 g2 k : Nat} {d : Nd} {kv1 kv2 : Value} (h : Ag2 u g1 g2 k d kv1 kv2) (hb : Below u.heap.size u u') : Ag2 u' g1 g2 k d kv1 kv2 :=
  ⟨fun t x ht => (hb.cell (p := ⟨g1, _, none⟩) h.lt1).trans (h.one t x ht), fun t x ht => (hb.cell (p := ⟨g2, _, none⟩) h.lt2).trans (h.two t x ht), h.i1.below hb, h.i2.below hb, Nat.lt_of_lt_of_le h.lt1 hb.size, Nat.lt_of_lt_of_le h.lt2 hb.size⟩
theorem ints_grown {w0 wr : World} {B g1 n : Nat} {v : Value} {K : List Nat} {xs : List Value} {cap B1 : Nat} (h : w0.ownsRow B 3 1 v K.length (kInts K)) (hg : w0.ownsRow B1 38 16 (.slice (some ⟨g1, 0, none⟩) n cap) n xs) (hgr : w0.grownBy wr (some g1)) : Ints wr v (K.map fun (k : Nat) => (k : Int)) :=
  kids_ints (h.kept hgr (own_apart h hg (by decide)))
theorem PN.pair {w0 wr : World} {B1 B2 g1 c1 g2 c2 : Nat} {L : List Nd} {KV1 KV2 : Nat → Value} (h1 : PN w0 B1 (.slice (some ⟨g1, 0, none⟩) L.length c1) L KV1) (h2 : PN w0 B2 (.slice (some ⟨g2, 0, none⟩) L.length c2) L KV2) (hl1 : g1 < w0.heap.size) (hl2 : g2 < w0.heap.size) (hne : g2 ≠ g1) {k : Nat} (hk : k < L.length) (ha : Ag w0 wr g1 k) : Ag2 wr g1 g2 k (nth L k) (KV1 k) (KV2 k) := by
  obtain ⟨xs, hx⟩ := h1.nr.row
  refine ⟨fun t x ht => (ha.cell _ (by omega)).trans (h1.nr.cells g1 rfl k hk t x ht), fun t x ht => ?_, ints_grown (h1.nr.kids k hk) hx ha.gr, ints_grown (h2.nr.kids k hk) hx ha.gr, Nat.lt_of_lt_of_le hl1 ha.gr.size, Nat.lt_of_lt_of_le hl2 ha.gr.size⟩
  rw [World.cell?_of_block (ha.gr.block g2 hl2 (fun e => hne (by simpa using e)))]
  exact h2.nr.cells g2 rfl k hk t x ht
theorem parse_long {t : ByteArray} (h : 4000 < t.size) : parse t = .error (1, 0) := by unfold parse; rw [if_pos h]
theorem pTree_of_ok {s : ByteArray} {L : List Nd} (h : parse s = .ok L) : pTree s = .ok L := by
  cases hp : pTree s with
  | ok M => rw [parse_of_ok hp] at h; injection h with h; rw [h]
  | error x => rw [parse_of_err hp] at h; cases h
/-- What the program's Parse answers, by parse. -/
theorem tparse_err (s : ByteArray) (c p : Nat) (hp : parse s = .error (c, p)) (E : Nat → Addr) (w : World) (hG : Glo w E) (hA : Apart w E) (hT : ErT w) :
    Calls Tryz.prog 8 #[.string s] w fun e w' => e = .returned (.tuple #[.slice none 0 0, .int .i64 (c : Int), .int .i64 (p : Int)]) ∧ Hid (Below w.heap.size w w') := by
  have := tparse_any s E w hG hA hT
  cases hq : pTree s with
  | ok M => rw [parse_of_ok hq] at hp; cases hp
  | error x =>
    rw [hq] at this
    have h2 := parse_of_err hq
    rw [hp] at h2
    injection h2 with h2
    injection h2 with h3 h4
    exact this.mono fun e w' h => ⟨by rw [h3, h4]; exact h.2, h.1⟩
theorem tparse_ok (s : ByteArray) (L : List Nd) (hp : parse s = .ok L) (E : Nat → Addr) (w : World) (hG : Glo w E) (hA : Apart w E) (hT : ErT w) :
    Calls Tryz.prog 8 #[.string s] w fun e w' => ∃ g cap KV, e = .returned (.tuple #[.slice (some ⟨g, 0, none⟩) L.length cap, .int .i64 0, .int .i64 0]) ∧ Hid (PN w' w.heap.size (.slice (some ⟨g, 0, none⟩) L.length cap) L KV ∧ g < w'.heap.size ∧ w.heap.size ≤ g) ∧ Hid (Below w.heap.size w w') := by
  have := tparse_any s E w hG hA hT
  have hpos := (parse_tree hp).pos
  rw [pTree_of_ok hp] at this
  exact this.mono fun e w' ⟨h1, nv, KV, h2, h3⟩ => by
    obtain ⟨g, cap, rfl, hlo, hg, _⟩ := h3.nr.form hpos
    exact ⟨g, cap, KV, h2, ⟨h3, hg, hlo⟩, h1⟩

theorem kn_lt2 {W : World} (h : Kn W) : 0 < W.heap.size := World.block_lt_of_cell? W ⟨0, 0, none⟩ (h 0 (by decide))
/-- All that Parse and Print lean on. -/
structure Gls (w : World) (E : Nat → Addr) : Prop where
  glo : Glo w E
  ap : Apart w E
  er : ErT w
  te : TensAt w
  tg : 9 < w.heap.size
theorem Gls.below {w w' : World} {E : Nat → Addr} (h : Gls w E) (hb : Below w.heap.size w w') : Gls w' E := ⟨h.glo.cells hb, h.ap.below hb, h.er.below hb, h.te.below hb h.tg, Nat.lt_of_lt_of_le h.tg hb.size⟩
theorem Gls.print {w : World} {E : Nat → Addr} (h : Gls w E) (s : ByteArray) : Calls Tryz.prog 5 #[.string s] w fun e w' => e = .returned (PrR (parse s)) ∧ Hid (Below w.heap.size w w') := tprint_any s E w h.glo h.ap h.er h.te h.tg (kn_lt2 h.glo.kn)

set_option maxRecDepth 100000 in
set_option maxHeartbeats 16000000 in
theorem again_err (s : ByteArray) (E : Nat → Addr) (w : World) (HW : Hid (Gls w E)) (c p : Nat) (hp : parse s = .error (c, p)) (P1 : Hid (Calls Tryz.prog 5 #[.string s] w fun e w' => e = .returned (PrR (parse s)) ∧ Hid (Below w.heap.size w w'))) :
    Calls Tryz.prog 4 #[.string s] w fun e w' => e = .returned (.bool true) ∧ Below w.heap.size w w' := by
  have hc := parse_pos hp
  rw [hp] at P1
  have P1' : Hid (Calls Tryz.prog 5 #[.string s] w fun e w' => e = .returned (.tuple #[.string ⟨#[]⟩, .int .i64 (c : Int), .int .i64 (p : Int)]) ∧ Hid (Below w.heap.size w w')) := P1.out
  have P2 : Hid (∀ u, Below w.heap.size w u → Calls Tryz.prog 8 #[.string s] u fun e w' => e = .returned (.tuple #[.slice none 0 0, .int .i64 (c : Int), .int .i64 (p : Int)]) ∧ Hid (Below u.heap.size u w')) := fun u hu => tparse_err s c p hp E u (HW.out.below hu).glo (HW.out.below hu).ap (HW.out.below hu).er
  have P3 : Hid (∀ u, Calls Tryz.prog 9 #[.string s] u fun e w' => Hid (Below u.heap.size u w') ∧ e = .returned (.tuple #[.slice none 0 0, .int .i64 (c : Int), .int .i64 (p : Int)])) := fun u => (rparse_any s u).mono fun e w' h => by rw [hp] at h; exact h
  have hne : ((c : Int) != 0) = true := by simp; omega
  clear hp P1
  go_enter Tryz.func4, Tryz.ntmps4
  go_wp2_with fail
  refine P1'.out.mono ?_
  rintro e w1 ⟨rfl, HB1⟩
  go_wp2_with fail
  refine (P2.out _ HB1.out).mono ?_
  rintro e w2 ⟨rfl, HB2⟩
  have HBA : Hid (Below w.heap.size w w2) := HB1.out.trans (HB2.out.mono HB1.out.size)
  clear HB1 HB2 P2 P1'
  go_wp2_with (first | (go_at_call 7; refine (num_any _ _).mono ?_; rintro e w3 ⟨rfl, hw⟩; obtain rfl := hw.symm) | fail)
  refine (P3.out _).mono ?_
  rintro e w4 ⟨HB4, rfl⟩
  have HBB : Hid (Below w.heap.size w w4) := HBA.out.trans (HB4.out.mono HBA.out.size)
  clear HBA HB4 P3
  go_wp2_with (go_at_call 7; refine (num_any _ _).mono ?_; rintro e w3 ⟨rfl, hw⟩; obtain rfl := hw.symm)
  go_ret
  exact ⟨rfl, HBB.out⟩

set_option maxRecDepth 100000 in
set_option maxHeartbeats 16000000 in
theorem again_walk (s : ByteArray) (E : Nat → Addr) (w : World) (hW : Gls w E) :
    Calls Tryz.prog 4 #[.string s] w fun e w' => e = .returned (.bool true) ∧ Below w.heap.size w w' := by
  have HW : Hid (Gls w E) := hW
  have hmix : Tryz.prog.follows .mixedOrders = true := by kernel_rfl
  have P1 : Hid (Calls Tryz.prog 5 #[.string s] w fun e w' => e = .returned (PrR (parse s)) ∧ Hid (Below w.heap.size w w')) := hW.print s
  clear hW
  cases hp : parse s with
  | error q =>
    obtain ⟨c, p⟩ := q
    exact again_err s E w HW c p hp P1
  | ok L =>
    have hTr := parse_tree hp
    have hpos := hTr.pos
    have hcnt := hTr.vl.cnt
    have HKL : Hid (∀ j, j < L.length → (nth L j).kids.length ≤ 4000) := fun j hj => by
      have := nodup_len L.length (nth L j).kids (hTr.fine.nest.nd j hj) (fun c hc => (hTr.fine.nest.kid j c hj hc).2.1)
      omega
    rw [hp] at P1
    obtain ⟨FM, hFM⟩ : ∃ z : List UInt8, fm L 0 = z := ⟨_, rfl⟩
    obtain ⟨T, hTT⟩ : ∃ z : ByteArray, (⟨FM.toArray⟩ : ByteArray) = z := ⟨_, rfl⟩
    have hTs : T.size = FM.length := by rw [← hTT]; show FM.toArray.size = _; simp
    have ePr : PrR (.ok L) = .tuple #[.string T, .int .i64 0, .int .i64 0] := by rw [← hTT, ← hFM]; rfl
    rw [ePr] at P1
    have hSh : T.size ≤ 4000 → parse T = .ok L := fun h => by
      have := parse_form hTr (by rw [hFM]; omega)
      rw [hFM, hTT] at this
      exact this
    have P2 : Hid (∀ u, Below w.heap.size w u → Calls Tryz.prog 8 #[.string s] u fun e w' => ∃ g cap KV, e = .returned (.tuple #[.slice (some ⟨g, 0, none⟩) L.length cap, .int .i64 0, .int .i64 0]) ∧ Hid (PN w' u.heap.size (.slice (some ⟨g, 0, none⟩) L.length cap) L KV ∧ g < w'.heap.size ∧ u.heap.size ≤ g) ∧ Hid (Below u.heap.size u w')) := fun u hu => tparse_ok s L hp E u (HW.out.below hu).glo (HW.out.below hu).ap (HW.out.below hu).er
    have P3 : Hid (∀ u, Below w.heap.size w u → Calls Tryz.prog 5 #[.string T] u fun e w' => e = .returned (PrR (parse T)) ∧ Hid (Below u.heap.size u w')) := fun u hu => (HW.out.below hu).print T
    clear hp hTr hTT hFM
    go_enter Tryz.func4, Tryz.ntmps4
    go_wp2_with fail
    refine P1.out.mono ?_
    rintro e w1 ⟨rfl, HB1⟩
    clear P1
    go_wp2_with fail
    refine (P2.out _ HB1.out).mono ?_
    rintro e w2 ⟨g1, c1, KV1, rfl, HN1, HB2⟩
    have HBA : Hid (Below w.heap.size w w2) := HB1.out.trans (HB2.out.mono HB1.out.size)
    have HG1 : Hid (w.heap.size ≤ g1) := Nat.le_trans HB1.out.size HN1.out.2.2
    have HM1 : Hid (PN w2 w1.heap.size (.slice (some ⟨g1, 0, none⟩) L.length c1) L KV1 ∧ g1 < w2.heap.size) := ⟨HN1.out.1, HN1.out.2.1⟩
    clear HB1 HB2 P2 HN1
    by_cases hlg : 4000 < T.size
    · as_aux_lemma =>
        have hpl := parse_long hlg
        have hlg' : (4000 : Int) < (T.size : Int) := by omega
        rw [hpl] at P3
        have P3' : Hid (∀ u, Below w.heap.size w u → Calls Tryz.prog 5 #[.string T] u fun e w' => e = .returned (.tuple #[.string ⟨#[]⟩, .int .i64 1, .int .i64 0]) ∧ Hid (Below u.heap.size u w')) := P3.out
        have P4 : Hid (∀ u, Below w.heap.size w u → Calls Tryz.prog 8 #[.string T] u fun e w' => e = .returned (.tuple #[.slice none 0 0, .int .i64 1, .int .i64 0]) ∧ Hid (Below u.heap.size u w')) := fun u hu => tparse_err T 1 0 hpl E u (HW.out.below hu).glo (HW.out.below hu).ap (HW.out.below hu).er
        clear P3 hpl hSh
        go_wp2_with (first | (go_at_call 7; refine (num_any _ _).mono ?_; rintro e w3 ⟨rfl, hw⟩; obtain rfl := hw.symm) | fail)
        refine (P3'.out _ HBA.out).mono ?_
        rintro e w3 ⟨rfl, HB3⟩
        have HBB : Hid (Below w.heap.size w w3) := HBA.out.trans (HB3.out.mono HBA.out.size)
        clear HB3 P3'
        go_wp2_with fail
        refine (P4.out _ HBB.out).mono ?_
        rintro e w4 ⟨rfl, HB4⟩
        have HBC : Hid (Below w.heap.size w w4) := HBB.out.trans (HB4.out.mono HBB.out.size)
        clear HB4 P4 HBB HBA
        go_wp2_with (go_at_call 7; refine (num_any _ _).mono ?_; rintro e w3 ⟨rfl, hw⟩; obtain rfl := hw.symm)
        go_ret
        exact ⟨rfl, HBC.out⟩
    · have hps := hSh (by omega)
      have hlg' : ¬ (4000 : Int) < (T.size : Int) := by omega
      rw [hps, ePr] at P3
      have P4 : Hid (∀ u, Below w.heap.size w u → Calls Tryz.prog 8 #[.string T] u fun e w' => ∃ g cap KV, e = .returned (.tuple #[.slice (some ⟨g, 0, none⟩) L.length cap, .int .i64 0, .int .i64 0]) ∧ Hid (PN w' u.heap.size (.slice (some ⟨g, 0, none⟩) L.length cap) L KV ∧ g < w'.heap.size ∧ u.heap.size ≤ g) ∧ Hid (Below u.heap.size u w')) := fun u hu => tparse_ok T L hps E u (HW.out.below hu).glo (HW.out.below hu).ap (HW.out.below hu).er
      clear hps hSh ePr
      have hlp : ((L.length : Int) == 0) = false := beq_eq_false_iff_ne.2 (by omega)
      go_wp2_with (first | (go_at_call 7; refine (num_any _ _).mono ?_; rintro e w3 ⟨rfl, hw⟩; obtain rfl := hw.symm) | fail)
      refine (P3.out _ HBA.out).mono ?_
      rintro e w3 ⟨rfl, HB3⟩
      have HBB : Hid (Below w.heap.size w w3) := HBA.out.trans (HB3.out.mono HBA.out.size)
      have HM2 : Hid (PN w3 w1.heap.size (.slice (some ⟨g1, 0, none⟩) L.length c1) L KV1 ∧ g1 < w3.heap.size) := ⟨HM1.out.1.up (Up.below HB3.out), Nat.lt_of_lt_of_le HM1.out.2 HB3.out.size⟩
      clear HB3 P3 HBA HM1
      go_wp2_with fail
      refine (P4.out _ HBB.out).mono ?_
      rintro e w0 ⟨g2, c2, KV2, rfl, HN2, HB4⟩
      have HBC : Hid (Below w.heap.size w w0) := HBB.out.trans (HB4.out.mono HBB.out.size)
      have HM3 : Hid (PN w0 w1.heap.size (.slice (some ⟨g1, 0, none⟩) L.length c1) L KV1 ∧ g1 < w0.heap.size) := ⟨HM2.out.1.up (Up.below HB4.out), Nat.lt_of_lt_of_le HM2.out.2 HB4.out.size⟩
      have HNE : Hid (g2 ≠ g1) := fun e => by have := HN2.out.2.2; have := HM2.out.2; omega
      have HPR : Hid (∀ wr k, k < L.length → Ag w0 wr g1 k → Ag2 wr g1 g2 k (nth L k) (KV1 k) (KV2 k)) := fun wr k hk ha => HM3.out.1.pair HN2.out.1 HM3.out.2 HN2.out.2.1 HNE.out hk ha
      have HLN : Hid (∀ k, k < L.length → (nth L k).attr.length = 12) := HM3.out.1.len
      have HRW : Hid (∃ cur, w0.heap[g1]? = some (.cells cur 38 (0, 0))) := by
        obtain ⟨xs, hx⟩ := HM3.out.1.nr.row
        exact own_row hx
      have SM : Hid (∀ zs v v2 u, Ints u v zs → Ints u v2 zs → zs.length ≤ 4000 → Calls Tryz.prog 10 #[v, v2] u fun e w' => e = .returned (.bool true) ∧ Gr u w') := fun zs v v2 u h1 h2 h3 => same_yes zs v v2 u h1 h2 (by omega)
      have HNG : Hid (¬ g1 = g2) := fun e => HNE.out e.symm
      clear HB4 P4 HBB HM2 HM3 HN2
      go_wp2_with (go_at_call 7; refine (num_any _ _).mono ?_; rintro e w3 ⟨rfl, hw⟩; obtain rfl := hw.symm)
      go_loopw [18] (fun iv wr => ∃ k : Nat, k ≤ L.length ∧ iv = .int .i64 (k : Int) ∧ Hid (Ag w0 wr g1 k) ∧ Hid (Below w.heap.size w wr)) (fun iv _ => L.length - (intOf iv).toNat)
      case atStart => exact ⟨0, Nat.zero_le _, rfl, ⟨⟨rfl, rfl, rfl, Nat.le_refl _, fun _ _ _ => rfl⟩, fun _ _ => rfl, HRW.out⟩, HBC.out⟩
      case round =>
        obtain ⟨k, hk, rfl, HAG, HB⟩ := hrel
        by_cases hlt : k < L.length
        · have hlt' : (k : Int) < (L.length : Int) := by omega
          have HP2 : Hid (Ag2 wr g1 g2 k (nth L k) (KV1 k) (KV2 k)) := HPR.out wr k hlt HAG.out
          have hal := HLN.out k hlt
          have hkk := HKL.out k hlt
          obtain ⟨d, hd⟩ : ∃ z, nth L k = z := ⟨_, rfl⟩
          obtain ⟨kv1, hk1⟩ : ∃ z, KV1 k = z := ⟨_, rfl⟩
          obtain ⟨kv2, hk2⟩ : ∃ z, KV2 k = z := ⟨_, rfl⟩
          rw [hd, hk1, hk2] at HP2
          rw [hd] at hal hkk
          obtain ⟨kd, al, tl, ks, up⟩ := d
          have hal : al.length = 12 := hal
          have hkk : ks.length ≤ 4000 := hkk
          obtain ⟨a0, a1, a2, a3, a4, a5, a6, a7, a8, a9, b0, b1, rfl⟩ := twelve hal
          obtain ⟨tx, htx⟩ : ∃ z : ByteArray, (⟨tl.toArray⟩ : ByteArray) = z := ⟨_, rfl⟩
          have SC : Hid (∀ u, Below wr.heap.size wr u → Calls Tryz.prog 10 #[kv1, kv2] u fun e w' => e = .returned (.bool true) ∧ Hid (Below wr.heap.size wr w')) := fun u hu => by
            have := HP2.out.below hu
            exact (SM.out (ks.map fun (k : Nat) => (k : Int)) kv1 kv2 u this.i1 this.i2 (by rw [List.length_map]; exact hkk)).mono fun e w' ⟨h1, h2⟩ => ⟨h1, hu.trans (h2.below.mono hu.size)⟩
          have x14 : wr.cell? ⟨g1, k * 16 + 14, none⟩ = some kv1 := HP2.out.one 14 _ rfl
          have y14 : wr.cell? ⟨g2, k * 16 + 14, none⟩ = some kv2 := HP2.out.two 14 _ rfl
          have x14d : wr.drew.cell? ⟨g1, k * 16 + 14, none⟩ = some kv1 := x14
          have y14d : wr.drew.cell? ⟨g2, k * 16 + 14, none⟩ = some kv2 := y14
          clear hd hk1 hk2 hal
          go_upto_region 17 with fail
          go_cut [19] from 113 to 123 (fun sv wx => sv = .bool true ∧ Hid (Below wr.heap.size wr wx))
          case first =>
            go_region_with (go_at_call 10; refine Calls.mono (SC.out _ (by first | exact Below.drew (Below.refl _ wr) | exact Below.refl _ wr)) ?_; rintro e1 u ⟨rfl, HU⟩)
            all_goals
              go_wp2_with fail
              go_meet
              exact ⟨rfl, HU.out⟩
          case rest =>
            as_aux_lemma =>
              obtain ⟨rfl, HU⟩ := hcut
              have HAU : Hid (Ag w0 wc g1 k) := HAG.out.below HU.out
              have HPU : Hid (Ag2 wc g1 g2 k ⟨kd, [a0, a1, a2, a3, a4, a5, a6, a7, a8, a9, b0, b1], tl, ks, up⟩ kv1 kv2) := HP2.out.below HU.out
              have z14 : wc.cell? ⟨g1, k * 16 + 14, none⟩ = some kv1 := HPU.out.one 14 _ rfl
              have f14 : wc.frozen? ⟨g1, k * 16 + 14, none⟩ = false := by
                obtain ⟨cur, hc⟩ := HAU.out.row
                exact frozen_of_row _ _ _ _ _ hc
              obtain ⟨W2, hW2⟩ : ∃ z, wc.setCell ⟨g1, k * 16 + 14, none⟩ (.slice none 0 0) = z := ⟨_, rfl⟩
              have HA2 : Hid (Ag w0 W2 g1 (k + 1)) := by rw [← hW2]; exact HAU.out.set _
              have HB2 : Hid (Below w.heap.size w W2) := by
                rw [← hW2]
                exact (HB.out.trans (HU.out.mono HB.out.size)).setCell (p := ⟨g1, _, none⟩) HG1.out _
              have hl1 : g1 < W2.heap.size := by rw [← hW2]; simp [World.setCell]; exact HPU.out.lt1
              have hl2 : g2 < W2.heap.size := by rw [← hW2]; simp [World.setCell]; exact HPU.out.lt2
              have o1 : ∀ t x, t ≠ 14 → (pnCells ⟨kd, [a0, a1, a2, a3, a4, a5, a6, a7, a8, a9, b0, b1], tl, ks, up⟩ kv1)[t]? = some x → W2.cell? ⟨g1, k * 16 + t, none⟩ = some x := fun t x ht hx => by
                rw [← hW2]
                exact (World.cell?_setCell_other (w := wc) (a := ⟨g1, k * 16 + 14, none⟩) (b := ⟨g1, k * 16 + t, none⟩) (v := .slice none 0 0) (by intro e; injection e with _ e; omega)).trans (HPU.out.one t x hx)
              have o2 : ∀ t x, (pnCells ⟨kd, [a0, a1, a2, a3, a4, a5, a6, a7, a8, a9, b0, b1], tl, ks, up⟩ kv2)[t]? = some x → W2.cell? ⟨g2, k * 16 + t, none⟩ = some x := fun t x hx => by
                rw [← hW2]
                exact (World.cell?_setCell_other (w := wc) (a := ⟨g1, k * 16 + 14, none⟩) (b := ⟨g2, k * 16 + t, none⟩) (v := .slice none 0 0) (by intro e; injection e with e; exact HNG.out e)).trans (HPU.out.two t x hx)
              have p0 : W2.cell? ⟨g1, k * 16, none⟩ = some (.int .i64 (kd : Int)) := o1 0 _ (by decide) rfl
              have p1 : W2.cell? ⟨g1, k * 16 + 1, none⟩ = some (.int .i64 a0) := o1 1 _ (by decide) rfl
              have p2 : W2.cell? ⟨g1, k * 16 + 2, none⟩ = some (.int .i64 a1) := o1 2 _ (by decide) rfl
              have p3 : W2.cell? ⟨g1, k * 16 + 3, none⟩ = some (.int .i64 a2) := o1 3 _ (by decide) rfl
              have p4 : W2.cell? ⟨g1, k * 16 + 4, none⟩ = some (.int .i64 a3) := o1 4 _ (by decide) rfl
              have p5 : W2.cell? ⟨g1, k * 16 + 5, none⟩ = some (.int .i64 a4) := o1 5 _ (by decide) rfl
              have p6 : W2.cell? ⟨g1, k * 16 + 6, none⟩ = some (.int .i64 a5) := o1 6 _ (by decide) rfl
              have p7 : W2.cell? ⟨g1, k * 16 + 7, none⟩ = some (.int .i64 a6) := o1 7 _ (by decide) rfl
              have p8 : W2.cell? ⟨g1, k * 16 + 8, none⟩ = some (.int .i64 a7) := o1 8 _ (by decide) rfl
              have p9 : W2.cell? ⟨g1, k * 16 + 9, none⟩ = some (.int .i64 a8) := o1 9 _ (by decide) rfl
              have p10 : W2.cell? ⟨g1, k * 16 + 10, none⟩ = some (.int .i64 a9) := o1 10 _ (by decide) rfl
              have p11 : W2.cell? ⟨g1, k * 16 + 11, none⟩ = some (.int .i64 b0) := o1 11 _ (by decide) rfl
              have p12 : W2.cell? ⟨g1, k * 16 + 12, none⟩ = some (.int .i64 b1) := o1 12 _ (by decide) rfl
              have p13 : W2.cell? ⟨g1, k * 16 + 13, none⟩ = some (.string tx) := by rw [← htx]; exact o1 13 _ (by decide) rfl
              have p14 : W2.cell? ⟨g1, k * 16 + 14, none⟩ = some (.slice none 0 0) := by rw [← hW2]; exact World.cell?_setCell_same wc ⟨g1, k * 16 + 14, none⟩ _ z14
              have p15 : W2.cell? ⟨g1, k * 16 + 15, none⟩ = some (.int .i64 up) := o1 15 _ (by decide) rfl
              obtain ⟨W3, hW3⟩ : ∃ z, W2.alloc (.cells #[.int .i64 (kd : Int), .int .i64 a0, .int .i64 a1, .int .i64 a2, .int .i64 a3, .int .i64 a4, .int .i64 a5, .int .i64 a6, .int .i64 a7, .int .i64 a8, .int .i64 a9, .int .i64 b0, .int .i64 b1, .string tx, .slice none 0 0, .int .i64 up] 38) = z := ⟨_, rfl⟩
              have hb3 : Below W2.heap.size W2 W3 := by rw [← hW3]; exact ((Gr.refl W2).alloc _).below
              have r0 : W3.cell? ⟨g2, k * 16, none⟩ = some (.int .i64 (kd : Int)) := (hb3.cell (p := ⟨g2, k * 16, none⟩) hl2).trans (o2 0 _ rfl)
              have r1 : W3.cell? ⟨g2, k * 16 + 1, none⟩ = some (.int .i64 a0) := (hb3.cell (p := ⟨g2, k * 16 + 1, none⟩) hl2).trans (o2 1 _ rfl)
              have r2 : W3.cell? ⟨g2, k * 16 + 2, none⟩ = some (.int .i64 a1) := (hb3.cell (p := ⟨g2, k * 16 + 2, none⟩) hl2).trans (o2 2 _ rfl)
              have r3 : W3.cell? ⟨g2, k * 16 + 3, none⟩ = some (.int .i64 a2) := (hb3.cell (p := ⟨g2, k * 16 + 3, none⟩) hl2).trans (o2 3 _ rfl)
              have r4 : W3.cell? ⟨g2, k * 16 + 4, none⟩ = some (.int .i64 a3) := (hb3.cell (p := ⟨g2, k * 16 + 4, none⟩) hl2).trans (o2 4 _ rfl)
              have r5 : W3.cell? ⟨g2, k * 16 + 5, none⟩ = some (.int .i64 a4) := (hb3.cell (p := ⟨g2, k * 16 + 5, none⟩) hl2).trans (o2 5 _ rfl)
              have r6 : W3.cell? ⟨g2, k * 16 + 6, none⟩ = some (.int .i64 a5) := (hb3.cell (p := ⟨g2, k * 16 + 6, none⟩) hl2).trans (o2 6 _ rfl)
              have r7 : W3.cell? ⟨g2, k * 16 + 7, none⟩ = some (.int .i64 a6) := (hb3.cell (p := ⟨g2, k * 16 + 7, none⟩) hl2).trans (o2 7 _ rfl)
              have r8 : W3.cell? ⟨g2, k * 16 + 8, none⟩ = some (.int .i64 a7) := (hb3.cell (p := ⟨g2, k * 16 + 8, none⟩) hl2).trans (o2 8 _ rfl)
              have r9 : W3.cell? ⟨g2, k * 16 + 9, none⟩ = some (.int .i64 a8) := (hb3.cell (p := ⟨g2, k * 16 + 9, none⟩) hl2).trans (o2 9 _ rfl)
              have r10 : W3.cell? ⟨g2, k * 16 + 10, none⟩ = some (.int .i64 a9) := (hb3.cell (p := ⟨g2, k * 16 + 10, none⟩) hl2).trans (o2 10 _ rfl)
              have r11 : W3.cell? ⟨g2, k * 16 + 11, none⟩ = some (.int .i64 b0) := (hb3.cell (p := ⟨g2, k * 16 + 11, none⟩) hl2).trans (o2 11 _ rfl)
              have r12 : W3.cell? ⟨g2, k * 16 + 12, none⟩ = some (.int .i64 b1) := (hb3.cell (p := ⟨g2, k * 16 + 12, none⟩) hl2).trans (o2 12 _ rfl)
              have r13 : W3.cell? ⟨g2, k * 16 + 13, none⟩ = some (.string tx) := (hb3.cell (p := ⟨g2, k * 16 + 13, none⟩) hl2).trans (by rw [← htx]; exact o2 13 _ rfl)
              have r14 : W3.cell? ⟨g2, k * 16 + 14, none⟩ = some (kv2) := (hb3.cell (p := ⟨g2, k * 16 + 14, none⟩) hl2).trans (o2 14 _ rfl)
              have r15 : W3.cell? ⟨g2, k * 16 + 15, none⟩ = some (.int .i64 up) := (hb3.cell (p := ⟨g2, k * 16 + 15, none⟩) hl2).trans (o2 15 _ rfl)
              have HB3 : Hid (Below w.heap.size w W3) := HB2.out.trans (hb3.mono HB2.out.size)
              have HA3 : Hid (Ag w0 W3 g1 (k + 1)) := HA2.out.below hb3
              have HW3 : Hid (W2.alloc (.cells #[.int .i64 (kd : Int), .int .i64 a0, .int .i64 a1, .int .i64 a2, .int .i64 a3, .int .i64 a4, .int .i64 a5, .int .i64 a6, .int .i64 a7, .int .i64 a8, .int .i64 a9, .int .i64 b0, .int .i64 b1, .string tx, .slice none 0 0, .int .i64 up] 38) = W3) := hW3
              clear hb3 o1 o2 x14 y14 x14d y14d
              obtain ⟨ao, n2, cc2, hkv2⟩ : ∃ ao n2 cc2, kv2 = .slice ao n2 cc2 := by
                obtain ⟨a, cap, e, _⟩ := HPU.out.i2
                exact ⟨_, _, _, e⟩
              subst hkv2
              have S2 : W2.heap.size < W3.heap.size := by rw [← hW3]; simp
              have hat3 : W3.heap[W2.heap.size]? = some (.cells #[.int .i64 (kd : Int), .int .i64 a0, .int .i64 a1, .int .i64 a2, .int .i64 a3, .int .i64 a4, .int .i64 a5, .int .i64 a6, .int .i64 a7, .int .i64 a8, .int .i64 a9, .int .i64 b0, .int .i64 b1, .string tx, .slice none 0 0, .int .i64 up] 38 (0, 0)) := by rw [← hW3]; show (W2.heap.push _)[W2.heap.size]? = _; exact Array.getElem?_push_size
              obtain ⟨W4, hW4⟩ : ∃ z, W3.alloc (.cells #[.int .i64 (kd : Int), .int .i64 a0, .int .i64 a1, .int .i64 a2, .int .i64 a3, .int .i64 a4, .int .i64 a5, .int .i64 a6, .int .i64 a7, .int .i64 a8, .int .i64 a9, .int .i64 b0, .int .i64 b1, .string tx, .slice ao n2 cc2, .int .i64 up] 38) = z := ⟨_, rfl⟩
              have hb4 : Below W3.heap.size W3 W4 := by rw [← hW4]; exact ((Gr.refl W3).alloc _).below
              have hat4 : W4.heap[W3.heap.size]? = some (.cells #[.int .i64 (kd : Int), .int .i64 a0, .int .i64 a1, .int .i64 a2, .int .i64 a3, .int .i64 a4, .int .i64 a5, .int .i64 a6, .int .i64 a7, .int .i64 a8, .int .i64 a9, .int .i64 b0, .int .i64 b1, .string tx, .slice ao n2 cc2, .int .i64 up] 38 (0, 0)) := by rw [← hW4]; show (W3.heap.push _)[W3.heap.size]? = _; exact Array.getElem?_push_size
              have hat5 : W4.heap[W2.heap.size]? = some (.cells #[.int .i64 (kd : Int), .int .i64 a0, .int .i64 a1, .int .i64 a2, .int .i64 a3, .int .i64 a4, .int .i64 a5, .int .i64 a6, .int .i64 a7, .int .i64 a8, .int .i64 a9, .int .i64 b0, .int .i64 b1, .string tx, .slice none 0 0, .int .i64 up] 38 (0, 0)) := (hb4.block _ S2).trans hat3
              have HB4 : Hid (Below w.heap.size w W4) := HB3.out.trans (hb4.mono HB3.out.size)
              have HA4 : Hid (Ag w0 W4 g1 (k + 1)) := HA3.out.below hb4
              have m0 : W4.cell? ⟨W2.heap.size, 0, none⟩ = some (.int .i64 (kd : Int)) := by rw [Lib.cell_of_heap hat5]; rfl
              have n0 : W4.cell? ⟨W3.heap.size, 0, none⟩ = some (.int .i64 (kd : Int)) := by rw [Lib.cell_of_heap hat4]; rfl
              have m1 : W4.cell? ⟨W2.heap.size, 1, none⟩ = some (.int .i64 a0) := by rw [Lib.cell_of_heap hat5]; rfl
              have n1 : W4.cell? ⟨W3.heap.size, 1, none⟩ = some (.int .i64 a0) := by rw [Lib.cell_of_heap hat4]; rfl
              have m2 : W4.cell? ⟨W2.heap.size, 2, none⟩ = some (.int .i64 a1) := by rw [Lib.cell_of_heap hat5]; rfl
              have n2 : W4.cell? ⟨W3.heap.size, 2, none⟩ = some (.int .i64 a1) := by rw [Lib.cell_of_heap hat4]; rfl
              have m3 : W4.cell? ⟨W2.heap.size, 3, none⟩ = some (.int .i64 a2) := by rw [Lib.cell_of_heap hat5]; rfl
              have n3 : W4.cell? ⟨W3.heap.size, 3, none⟩ = some (.int .i64 a2) := by rw [Lib.cell_of_heap hat4]; rfl
              have m4 : W4.cell? ⟨W2.heap.size, 4, none⟩ = some (.int .i64 a3) := by rw [Lib.cell_of_heap hat5]; rfl
              have n4 : W4.cell? ⟨W3.heap.size, 4, none⟩ = some (.int .i64 a3) := by rw [Lib.cell_of_heap hat4]; rfl
              have m5 : W4.cell? ⟨W2.heap.size, 5, none⟩ = some (.int .i64 a4) := by rw [Lib.cell_of_heap hat5]; rfl
              have n5 : W4.cell? ⟨W3.heap.size, 5, none⟩ = some (.int .i64 a4) := by rw [Lib.cell_of_heap hat4]; rfl
              have m6 : W4.cell? ⟨W2.heap.size, 6, none⟩ = some (.int .i64 a5) := by rw [Lib.cell_of_heap hat5]; rfl
              have n6 : W4.cell? ⟨W3.heap.size, 6, none⟩ = some (.int .i64 a5) := by rw [Lib.cell_of_heap hat4]; rfl
              have m7 : W4.cell? ⟨W2.heap.size, 7, none⟩ = some (.int .i64 a6) := by rw [Lib.cell_of_heap hat5]; rfl
              have n7 : W4.cell? ⟨W3.heap.size, 7, none⟩ = some (.int .i64 a6) := by rw [Lib.cell_of_heap hat4]; rfl
              have m8 : W4.cell? ⟨W2.heap.size, 8, none⟩ = some (.int .i64 a7) := by rw [Lib.cell_of_heap hat5]; rfl
              have n8 : W4.cell? ⟨W3.heap.size, 8, none⟩ = some (.int .i64 a7) := by rw [Lib.cell_of_heap hat4]; rfl
              have m9 : W4.cell? ⟨W2.heap.size, 9, none⟩ = some (.int .i64 a8) := by rw [Lib.cell_of_heap hat5]; rfl
              have n9 : W4.cell? ⟨W3.heap.size, 9, none⟩ = some (.int .i64 a8) := by rw [Lib.cell_of_heap hat4]; rfl
              have m10 : W4.cell? ⟨W2.heap.size, 10, none⟩ = some (.int .i64 a9) := by rw [Lib.cell_of_heap hat5]; rfl
              have n10 : W4.cell? ⟨W3.heap.size, 10, none⟩ = some (.int .i64 a9) := by rw [Lib.cell_of_heap hat4]; rfl
              have m11 : W4.cell? ⟨W2.heap.size, 11, none⟩ = some (.int .i64 b0) := by rw [Lib.cell_of_heap hat5]; rfl
              have n11 : W4.cell? ⟨W3.heap.size, 11, none⟩ = some (.int .i64 b0) := by rw [Lib.cell_of_heap hat4]; rfl
              have m12 : W4.cell? ⟨W2.heap.size, 12, none⟩ = some (.int .i64 b1) := by rw [Lib.cell_of_heap hat5]; rfl
              have n12 : W4.cell? ⟨W3.heap.size, 12, none⟩ = some (.int .i64 b1) := by rw [Lib.cell_of_heap hat4]; rfl
              have m13 : W4.cell? ⟨W2.heap.size, 13, none⟩ = some (.string tx) := by rw [Lib.cell_of_heap hat5]; rfl
              have n13 : W4.cell? ⟨W3.heap.size, 13, none⟩ = some (.string tx) := by rw [Lib.cell_of_heap hat4]; rfl
              have m15 : W4.cell? ⟨W2.heap.size, 15, none⟩ = some (.int .i64 up) := by rw [Lib.cell_of_heap hat5]; rfl
              have n15 : W4.cell? ⟨W3.heap.size, 15, none⟩ = some (.int .i64 up) := by rw [Lib.cell_of_heap hat4]; rfl
              clear hat3 hat4 hat5 hb4 S2
              go_wp2
              go_roundw
              case rel => exact ⟨k + 1, hlt, by go_num, HA4.out, HB4.out⟩
              case measure => simp [intOf]; omega
        · have hlt' : ¬ (k : Int) < (L.length : Int) := by omega
          go_wp2
          go_ret
          exact ⟨rfl, HB.out⟩

end Go.Proofs.YtnkebfmlaliddaaGreatDoor
