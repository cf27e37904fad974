/-
  The reference's form, walked.
-/
import Derived.Test.YtnkebfmlaliddaaGreatDoorP10
namespace Go.Proofs.YtnkebfmlaliddaaGreatDoor
open Go.RowKit Go.Sort
set_option linter.unusedVariables false

def KidsAt (W : World) (kv : Value) (ks : List Nat) : Prop := ∃ p c, kv = .slice p ks.length c ∧ (ks = [] ∨ ∃ kb ko, p = some ⟨kb, ko, none⟩ ∧ kb < W.heap.size ∧ ∀ i, i < ks.length → W.cell? ⟨kb, ko + i, none⟩ = some (.int .i64 ((ks[i]?.getD 0 : Nat) : Int)))
/-- A node, to be read. -/
structure Nd1 (W : World) (g j : Nat) (d : Nd) (ab : Nat) (kv : Value) : Prop where
  c0 : W.cell? ⟨g, j * 5, none⟩ = some (.int .i64 (d.kind : Int))
  c1 : W.cell? ⟨g, j * 5 + 1, none⟩ = some (.slice (some ⟨ab, 0, none⟩) 12 12)
  c2 : W.cell? ⟨g, j * 5 + 2, none⟩ = some (.string ⟨d.text.toArray⟩)
  c3 : W.cell? ⟨g, j * 5 + 3, none⟩ = some kv
  c4 : W.cell? ⟨g, j * 5 + 4, none⟩ = some (.int .i64 d.up)
  lab : ab < W.heap.size
  att : ∀ k, k < 12 → W.cell? ⟨ab, k, none⟩ = some (.int .i64 (d.attr[k]?.getD 0))
  kids : KidsAt W kv d.kids
structure NdsR (W : World) (g n : Nat) (L : Nat → Nd) : Prop where
  lt : g < W.heap.size
  nd : ∀ j, j < n → ∃ ab kv, Nd1 W g j (L j) ab kv
theorem NdsR.below {W W' : World} {g n : Nat} {L : Nat → Nd} (h : NdsR W g n L) (hb : Below W.heap.size W W') : NdsR W' g n L := by
  refine ⟨Nat.lt_of_lt_of_le h.lt hb.size, fun j hj => ?_⟩
  obtain ⟨ab, kv, q⟩ := h.nd j hj
  refine ⟨ab, kv, (hb.cell (p := ⟨g, _, none⟩) h.lt).trans q.c0, (hb.cell (p := ⟨g, _, none⟩) h.lt).trans q.c1, (hb.cell (p := ⟨g, _, none⟩) h.lt).trans q.c2, (hb.cell (p := ⟨g, _, none⟩) h.lt).trans q.c3, (hb.cell (p := ⟨g, _, none⟩) h.lt).trans q.c4, Nat.lt_of_lt_of_le q.lab hb.size, fun k hk => (hb.cell (p := ⟨ab, k, none⟩) q.lab).trans (q.att k hk), ?_⟩
  obtain ⟨p, c, e, r⟩ := q.kids
  refine ⟨p, c, e, ?_⟩
  rcases r with r | ⟨kb, ko, e2, h1, h2⟩
  · exact .inl r
  · exact .inr ⟨kb, ko, e2, Nat.lt_of_lt_of_le h1 hb.size, fun i hi => (hb.cell (p := ⟨kb, ko + i, none⟩) h1).trans (h2 i hi)⟩
/-- What the nodes must be. -/
structure Fine (n m : Nat) (L : Nat → Nd) (up : Nat → Int) : Prop where
  nest : Nest n (fun j => (L j).kids) up
  own : ∀ j, j < n → ownN L j ≤ m
  mul : n * m ≤ 1099511627776
  kind : ∀ j, j < n → (L j).kind < 7
  att : ∀ j, j < n → ∀ k, k < 12 → (L j).attr[k]?.getD 0 ≠ withoutL[k]?.getD 0 → 0 ≤ (L j).attr[k]?.getD 0 ∧ (L j).attr[k]?.getD 0 ≤ 1000000
  nn : n ≤ 1000000

theorem kjI_mono (g : Nat → List UInt8) (ks : List Nat) : ∀ i j, i ≤ j → (kjI g ks i).length ≤ (kjI g ks j).length := by
  intro i j h
  induction j with
  | zero => obtain rfl : i = 0 := by omega
            exact Nat.le_refl _
  | succ j ih =>
    by_cases e : i = j + 1
    · subst e; exact Nat.le_refl _
    · have := ih (by omega)
      show _ ≤ (kjI g ks j ++ ((if j = 0 then [] else [44]) ++ g (ks[j]?.getD 0))).length
      rw [List.length_append]
      omega
set_option maxRecDepth 100000 in
set_option maxHeartbeats 16000000 in
theorem form_any {n m : Nat} {L : Nat → Nd} {up : Nat → Int} (hF : Fine n m L up) (g cap : Nat) : ∀ (f k : Nat), k < n → n - k ≤ f → ∀ w, NdsR w g n L → Calls Tryz.prog 14 #[.slice (some ⟨g, 0, none⟩) n cap, .int .i64 (k : Int)] w fun e w' => e = .returned (.string ⟨(formF L f k).toArray⟩) ∧ Hid (Below w.heap.size w w') := by
  intro f
  induction f with
  | zero => intro k hk hf; omega
  | succ f ih =>
    intro k hk hf w hN
    have hmix : Tryz.prog.follows .mixedOrders = true := by kernel_rfl
    have IH : Hid (∀ (k : Nat), k < n → n - k ≤ f → ∀ w, NdsR w g n L → Calls Tryz.prog 14 #[.slice (some ⟨g, 0, none⟩) n cap, .int .i64 (k : Int)] w fun e w' => e = .returned (.string ⟨(formF L f k).toArray⟩) ∧ Hid (Below w.heap.size w w')) := ih
    have HN : Hid (NdsR w g n L) := hN
    have HF : Hid (Fine n m L up) := hF
    have hk' : (k : Int) < (n : Int) := by omega
    obtain ⟨ab, kv, q⟩ := hN.nd k hk
    have x0 := q.c0
    have x1 := q.c1
    have x2 := q.c2
    have x3 := q.c3
    have x4 := q.c4
    have HQ : Hid (Nd1 w g k (L k) ab kv) := q
    obtain ⟨p, c, rfl, hkids⟩ := q.kids
    have hlen := form_short L hF.nest hF.own (f + 1) k hk hf
    have hmul := hF.mul
    obtain ⟨d, hd⟩ : ∃ d, L k = d := ⟨_, rfl⟩
    have HFF : Hid (formF L (f + 1) k = ownS d ++ (if d.kind = 5 then escR d.text else if d.kind = 6 then [] else 91 :: (kjI (formF L f) d.kids d.kids.length ++ [93]))) := by rw [← hd]; rfl
    have hkd : d.kind < 7 := by rw [← hd]; exact hF.kind k hk
    have HKN : Hid (∀ c ∈ d.kids, k < c ∧ c < n) := fun c hc => by have := hF.nest.kid k c hk (by show c ∈ (L k).kids; rw [hd]; exact hc); exact ⟨this.1, this.2.1⟩
    have HAT : Hid (∀ k, k < 12 → d.attr[k]?.getD 0 ≠ withoutL[k]?.getD 0 → 0 ≤ d.attr[k]?.getD 0 ∧ d.attr[k]?.getD 0 ≤ 1000000) := by rw [← hd]; exact hF.att k hk
    have hown : (ownS d).length + (escR d.text).length + 3 ≤ n * m := by
      have h1 := hF.own k hk
      unfold ownN at h1
      rw [hd] at h1
      have h2 : m ≤ n * m := Nat.le_mul_of_pos_left m (by omega)
      omega
    have htx : d.text.length ≤ 1099511627776 := by
      have h1 : d.text.length ≤ (escR d.text).length := by
        unfold escR
        have : ∀ l : List UInt8, l.length ≤ (escF l).length := fun l => by
          induction l with
          | nil => exact Nat.le_refl _
          | cons b l ih2 =>
            unfold escF at *
            rw [List.flatMap_cons, List.length_append, List.length_cons]
            have : 1 ≤ (escQ b).length := by unfold escQ; (repeat' split) <;> simp
            omega
        have := this d.text
        rw [List.length_cons, List.length_append]
        omega
      omega
    rw [hd] at x0 x2 x3 x4 HQ hkids
    have nn := hF.nn
    have hkN : d.kids.length ≤ n := nodup_len n d.kids (by have := hF.nest.nd k hk; rw [← hd]; exact this) (fun c hc => (HKN.out c hc).2)
    clear q hN ih hF hd
    go_enter Tryz.func14, Tryz.ntmps14
    go_wp2_with fail
    obtain ⟨W0, hW0⟩ : ∃ z, w.alloc (.cells #[.int .i64 (d.kind : Int), .slice (some ⟨ab, 0, none⟩) 12 12, .string ⟨d.text.toArray⟩, .slice p d.kids.length c, .int .i64 d.up] 74) = z := ⟨_, rfl⟩
    obtain ⟨S0, hS0⟩ : ∃ z, w.heap.size = z := ⟨_, rfl⟩
    have HB0 : Hid (Below w.heap.size w W0) := by rw [← hW0]; exact ((Gr.refl w).alloc _).below
    have N0 : Hid (W0.heap[S0]? = some (.cells #[.int .i64 (d.kind : Int), .slice (some ⟨ab, 0, none⟩) 12 12, .string ⟨d.text.toArray⟩, .slice p d.kids.length c, .int .i64 d.up] 74 (0, 0))) := by rw [← hW0, ← hS0]; show (w.heap.push _)[w.heap.size]? = _; exact Array.getElem?_push_size
    have lt0 : S0 < W0.heap.size := (Array.getElem?_eq_some_iff.1 N0.out).1
    have NK : Hid (∀ u, Below W0.heap.size W0 u → u.cell? ⟨S0, 0, none⟩ = some (.int .i64 (d.kind : Int)) ∧ u.cell? ⟨S0, 2, none⟩ = some (.string ⟨d.text.toArray⟩) ∧ u.cell? ⟨S0, 3, none⟩ = some (.slice p d.kids.length c)) := fun u hu => by
      have h1 : u.heap[S0]? = _ := (hu.block S0 lt0).trans N0.out
      exact ⟨by rw [Lib.cell_of_heap h1]; rfl, by rw [Lib.cell_of_heap h1]; rfl, by rw [Lib.cell_of_heap h1]; rfl⟩
    have BC : Hid (Calls Tryz.prog 38 #[.agg #[.int .i64 (d.kind : Int), .slice (some ⟨ab, 0, none⟩) 12 12, .string ⟨d.text.toArray⟩, .slice p d.kids.length c, .int .i64 d.up]] W0 fun e w' => e = .returned (.string ⟨(braR d.attr).toArray⟩) ∧ Hid (Below W0.heap.size W0 w')) := braces_any d.attr ab _ _ _ _ W0 (by have := HB0.out.size; have := HQ.out.lab; omega) (fun j hj => (HB0.out.cell (p := ⟨ab, j, none⟩) HQ.out.lab).trans (HQ.out.att j hj)) HAT.out
    have KD : Hid (∀ u, Calls Tryz.prog 39 #[] u fun e w' => ∃ S, e = .returned (.slice (some ⟨S, 0, none⟩) 7 7) ∧ w'.cell? ⟨S, d.kind, none⟩ = some (.string (kindsL[d.kind]?.getD ByteArray.empty)) ∧ Hid (Below u.heap.size u w')) := fun u => (kinds_any u).mono fun e w' q => ⟨u.heap.size, q.1, by have := q.2.1 d.kind hkd; rw [Nat.zero_add] at this; exact this, q.2.2.2⟩
    obtain ⟨nm, hnm⟩ : ∃ z, kindsL[d.kind]?.getD ByteArray.empty = z := ⟨_, rfl⟩
    obtain ⟨BR, hBR⟩ : ∃ z, braR d.attr = z := ⟨_, rfl⟩
    have HOW : Hid (ownS d = nm.data.toList ++ BR) := by show _ = _; unfold ownS; rw [hnm, hBR]
    have hol : (ownS d).length = nm.size + BR.length := by rw [HOW.out, List.length_append]; rfl
    rw [hnm] at KD
    rw [hBR] at BC
    rw [hW0, hS0]
    have HSZ : Hid (w.heap.size = S0) := hS0
    clear hW0 hS0 hnm hBR x0 x1 x2 x3 x4
    refine BC.out.mono ?_
    rintro e1 u1 ⟨rfl, HB1⟩
    have s0 := (NK.out u1 HB1.out).1
    have j1 : ¬ 9223372036854775807 < nm.size + BR.length := by omega
    have SB : Hid (∀ X : List UInt8, (⟨(ownS d ++ X).toArray⟩ : ByteArray) = nm ++ (⟨BR.toArray⟩ : ByteArray) ++ (⟨X.toArray⟩ : ByteArray)) := fun X => by
      apply ByteArray.ext
      apply Array.toList_inj.1
      rw [HOW.out]
      simp
    have LOW : Hid (∀ u, Below W0.heap.size W0 u → Below w.heap.size w u) := fun u hu => HB0.out.trans (hu.mono HB0.out.size)
    by_cases c5 : d.kind = 5
    · have HR : Hid (formF L (f + 1) k = ownS d ++ escR d.text) := by show _ = _; rw [HFF.out, if_pos c5]
      have ES : Hid (∀ u, Calls Tryz.prog 40 #[.string ⟨d.text.toArray⟩] u fun e w' => e = .returned (.string ⟨(escR d.text).toArray⟩) ∧ Gr u w') := fun u => by
        have := escaped_any ⟨d.text.toArray⟩ (by show d.text.toArray.size ≤ _; simp; omega) u
        have e0 : (⟨d.text.toArray⟩ : ByteArray).data.toList = d.text := rfl
        rw [e0] at this
        exact this
      obtain ⟨ET, hET⟩ : ∃ z, escR d.text = z := ⟨_, rfl⟩
      rw [hET] at HR ES hown
      have e5 : ((d.kind : Int) == 5) = true := by rw [c5]; rfl
      have j2 : ¬ 9223372036854775807 < nm.size + BR.length + ET.length := by omega
      clear hET c5
      go_wp2_with fail
      go_region_with (go_at_call 39; refine Calls.mono (KD.out _) ?_; rintro e2 u2 ⟨S, rfl, dk, hb2⟩; have HB2 : Hid (Below W0.heap.size W0 u2) := (by first | exact HB1.out.trans (hb2.out.mono HB1.out.size) | exact (Below.drew HB1.out).trans (hb2.out.mono (Below.drew HB1.out).size)); have s0 := (NK.out u2 HB2.out).1; have s2 := (NK.out u2 HB2.out).2.1; have s3 := (NK.out u2 HB2.out).2.2)
      all_goals
        go_wp2_with fail
        refine (ES.out _).mono ?_
        rintro e3 u3 ⟨rfl, g3⟩
        have HB3 : Hid (Below W0.heap.size W0 u3) := by first | exact HB2.out.trans (g3.below.mono HB2.out.size) | exact (Below.drew HB2.out).trans (g3.below.mono (Below.drew HB2.out).size)
        clear g3
        go_wp2
        go_ret
        exact ⟨by rw [HR.out, SB.out]; rfl, by first | exact LOW.out _ HB3.out | exact LOW.out _ (Below.drew HB3.out)⟩
    · have e5 : ((d.kind : Int) == 5) = false := by simpa using fun e => c5 (Int.ofNat.inj e)
      by_cases c6 : d.kind = 6
      · have HR : Hid ((⟨(formF L (f + 1) k).toArray⟩ : ByteArray) = nm ++ (⟨BR.toArray⟩ : ByteArray)) := by
          show _ = _
          rw [HFF.out, if_neg c5, if_pos c6, List.append_nil]
          apply ByteArray.ext
          apply Array.toList_inj.1
          rw [HOW.out]
          simp
        have e6 : ((d.kind : Int) == 6) = true := by rw [c6]; rfl
        clear c5 c6
        go_wp2_with fail
        go_region_with (go_at_call 39; refine Calls.mono (KD.out _) ?_; rintro e2 u2 ⟨S, rfl, dk, hb2⟩; have HB2 : Hid (Below W0.heap.size W0 u2) := (by first | exact HB1.out.trans (hb2.out.mono HB1.out.size) | exact (Below.drew HB1.out).trans (hb2.out.mono (Below.drew HB1.out).size)); have s0 := (NK.out u2 HB2.out).1; have s2 := (NK.out u2 HB2.out).2.1; have s3 := (NK.out u2 HB2.out).2.2)
        all_goals
          go_wp2
          go_ret
          exact ⟨by rw [HR.out]; rfl, by first | exact LOW.out _ HB2.out | exact LOW.out _ (Below.drew HB2.out)⟩
      · have e6 : ((d.kind : Int) == 6) = false := by simpa using fun e => c6 (Int.ofNat.inj e)
        have HR : Hid (formF L (f + 1) k = ownS d ++ (91 :: (kjI (formF L f) d.kids d.kids.length ++ [93]))) := by show _ = _; rw [HFF.out, if_neg c5, if_neg c6]
        have hkl : nm.size + BR.length + 1 + (kjI (formF L f) d.kids d.kids.length).length + 1 ≤ n * m := by
          rw [HR.out, List.length_append, hol, List.length_cons, List.length_append] at hlen
          simp only [List.length_cons, List.length_nil] at hlen
          omega
        clear c5 c6
        have HKA : Hid (∀ u, Below W0.heap.size W0 u → ∀ i, i < d.kids.length → ∃ kb ko, p = some ⟨kb, ko, none⟩ ∧ u.cell? ⟨kb, ko + i, none⟩ = some (.int .i64 ((d.kids[i]?.getD 0 : Nat) : Int))) := fun u hu i hi => by
          rcases hkids with q | ⟨kb, ko, q1, q2, q3⟩
          · rw [q] at hi; exact absurd hi (by simp)
          · exact ⟨kb, ko, q1, ((LOW.out u hu).cell (p := ⟨kb, ko + i, none⟩) q2).trans (q3 i hi)⟩
        have HKM : Hid (∀ i, i ≤ d.kids.length → nm.size + BR.length + 1 + (kjI (formF L f) d.kids i).length + 1 ≤ 1099511627776) := fun i hi => by
          have := kjI_mono (formF L f) d.kids i d.kids.length hi
          omega
        have hkn : d.kids.length ≤ 1099511627776 ∨ True := .inr trivial
        clear hkids hkn
        go_wp2_with fail
        go_region_with (go_at_call 39; refine Calls.mono (KD.out _) ?_; rintro e2 u2 ⟨S, rfl, dk, hb2⟩; have HB2 : Hid (Below W0.heap.size W0 u2) := (by first | exact HB1.out.trans (hb2.out.mono HB1.out.size) | exact (Below.drew HB1.out).trans (hb2.out.mono (Below.drew HB1.out).size)); have s0 := (NK.out u2 HB2.out).1; have s2 := (NK.out u2 HB2.out).2.1; have s3 := (NK.out u2 HB2.out).2.2)
        all_goals
          have j3 : ¬ 9223372036854775807 < nm.size + BR.length + 1 := by omega
          go_wp2_with fail
          go_loopw [7, 9] (fun ov iv wr => ∃ (i : Nat) (Z : ByteArray), iv = .int .i64 i ∧ ov = .string Z ∧ i ≤ d.kids.length ∧ Z.size = nm.size + BR.length + 1 + (kjI (formF L f) d.kids i).length ∧ Hid (Z.data.toList = ownS d ++ 91 :: kjI (formF L f) d.kids i) ∧ Hid (Below W0.heap.size W0 wr)) (fun _ iv _ => d.kids.length - (intOf iv).toNat)
          case atStart =>
            refine ⟨0, _, rfl, rfl, Nat.zero_le _, ?_, ?_, by first | exact HB2.out | exact Below.drew HB2.out⟩
            · rw [ByteArray.size_append, ByteArray.size_append]
              first | rfl | (show nm.size + BR.toArray.size + 1 = _; simp [kjI])
            · show _ = _
              rw [HOW.out]
              simp [kjI]
          case round =>
            obtain ⟨i, Z, rfl, rfl, hi, hZ, HZ, HB⟩ := hrel
            have s3 := (NK.out wr HB.out).2.2
            have hM := HKM.out i hi
            by_cases hil : i < d.kids.length
            · have hil' : (i : Int) < (d.kids.length : Int) := by omega
              have hM1 := HKM.out (i + 1) hil
              obtain ⟨kb, ko, hp, ck⟩ := HKA.out wr HB.out i hil
              obtain ⟨cc, hcc⟩ : ∃ z, d.kids[i]?.getD 0 = z := ⟨_, rfl⟩
              have hmem : cc ∈ d.kids := by rw [← hcc, List.getElem?_eq_getElem hil]; exact List.getElem_mem hil
              have hkc := HKN.out cc hmem
              obtain ⟨G, hG⟩ : ∃ z, formF L f cc = z := ⟨_, rfl⟩
              have FO : Hid (∀ u, Below W0.heap.size W0 u → Calls Tryz.prog 14 #[.slice (some ⟨g, 0, none⟩) n cap, .int .i64 (cc : Int)] u fun e w' => e = .returned (.string ⟨G.toArray⟩) ∧ Hid (Below u.heap.size u w')) := fun u hu => by
                have := IH.out cc hkc.2 (by omega) u (HN.out.below (LOW.out u hu))
                rw [hG] at this
                exact this
              have HKJ : Hid (kjI (formF L f) d.kids (i + 1) = kjI (formF L f) d.kids i ++ ((if i = 0 then [] else [44]) ++ G)) := by
                show kjI (formF L f) d.kids i ++ ((if i = 0 then [] else [44]) ++ formF L f (d.kids[i]?.getD 0)) = _
                rw [hcc, hG]
              rw [hcc] at ck
              subst hp
              clear hcc hG hmem
              by_cases h0 : i = 0
              · subst h0
                have ck0 : wr.cell? ⟨kb, ko, none⟩ = some (.int .i64 (cc : Int)) := ck
                have hK : (kjI (formF L f) d.kids (0 + 1)).length = (kjI (formF L f) d.kids 0).length + G.length := by rw [HKJ.out, List.length_append]; rfl
                have HN2 : Hid ((Z ++ (⟨G.toArray⟩ : ByteArray)).data.toList = ownS d ++ 91 :: kjI (formF L f) d.kids (0 + 1)) := by
                  show _ = _
                  have h1 : (Z ++ (⟨G.toArray⟩ : ByteArray)).data.toList = Z.data.toList ++ G := by simp
                  rw [h1, HZ.out, HKJ.out, if_pos rfl]
                  simp
                have hS2 : (Z ++ (⟨G.toArray⟩ : ByteArray)).size = nm.size + BR.length + 1 + (kjI (formF L f) d.kids (0 + 1)).length := by
                  rw [ByteArray.size_append, hK, hZ]
                  show _ + G.toArray.size = _
                  simp
                  omega
                have j4 : ¬ 9223372036854775807 < Z.size + G.length := by omega
                go_wp2_with fail
                refine (FO.out _ HB.out).mono ?_
                rintro e4 u4 ⟨rfl, hb4⟩
                have HB4 : Hid (Below W0.heap.size W0 u4) := HB.out.trans (hb4.out.mono HB.out.size)
                clear hb4
                go_wp2
                go_roundw
                case rel => exact ⟨0 + 1, _, by go_num, rfl, by omega, hS2, HN2.out, HB4.out⟩
                case measure => simp [intOf]; omega
              · have h0' : (0 : Int) < (i : Int) := by omega
                have hK : (kjI (formF L f) d.kids (i + 1)).length = (kjI (formF L f) d.kids i).length + 1 + G.length := by
                  rw [HKJ.out, if_neg h0, List.length_append, List.length_append]
                  simp only [List.length_cons, List.length_nil]
                  omega
                have HN2 : Hid ((Z ++ (⟨#[44]⟩ : ByteArray) ++ (⟨G.toArray⟩ : ByteArray)).data.toList = ownS d ++ 91 :: kjI (formF L f) d.kids (i + 1)) := by
                  show _ = _
                  have h1 : (Z ++ (⟨#[44]⟩ : ByteArray) ++ (⟨G.toArray⟩ : ByteArray)).data.toList = Z.data.toList ++ 44 :: G := by simp
                  rw [h1, HZ.out, HKJ.out, if_neg h0]
                  simp
                have hS2 : (Z ++ (⟨#[44]⟩ : ByteArray) ++ (⟨G.toArray⟩ : ByteArray)).size = nm.size + BR.length + 1 + (kjI (formF L f) d.kids (i + 1)).length := by
                  rw [ByteArray.size_append, ByteArray.size_append, hK, hZ]
                  show _ + 1 + G.toArray.size = _
                  simp
                  omega
                have j4 : ¬ 9223372036854775807 < Z.size + 1 := by omega
                have j5 : ¬ 9223372036854775807 < Z.size + 1 + G.length := by omega
                go_wp2_with fail
                refine (FO.out _ HB.out).mono ?_
                rintro e4 u4 ⟨rfl, hb4⟩
                have HB4 : Hid (Below W0.heap.size W0 u4) := HB.out.trans (hb4.out.mono HB.out.size)
                clear hb4
                go_wp2
                go_roundw
                case rel => exact ⟨i + 1, _, by go_num, rfl, by omega, hS2, HN2.out, HB4.out⟩
                case measure => simp [intOf]; omega
            · have hil' : ¬ (i : Int) < (d.kids.length : Int) := by omega
              obtain rfl : i = d.kids.length := by omega
              have j4 : ¬ 9223372036854775807 < Z.size + 1 := by omega
              have HE : Hid ((⟨(formF L (f + 1) k).toArray⟩ : ByteArray) = Z ++ (⟨#[93]⟩ : ByteArray)) := by
                show _ = _
                apply ByteArray.ext
                apply Array.toList_inj.1
                have h1 : (Z ++ (⟨#[93]⟩ : ByteArray)).data.toList = Z.data.toList ++ [93] := by simp
                rw [h1, HZ.out, HR.out]
                simp
              go_wp2
              go_ret
              exact ⟨by rw [HE.out]; rfl, LOW.out _ HB.out⟩

end Go.Proofs.YtnkebfmlaliddaaGreatDoor
