/-
  What may be written (paneref.Touched), equal asked, and the sums.
-/
import Derived.Test.YtlfffpoeioecjaaDoorDLstx
import Derived.Test.YtlfffpoeioecjaaDoorX36
import Derived.Test.YtlfffpoeioecjaaDoorX39
namespace Go.Proofs.YtlfffpoeioecjaaDoor
open Go.RowKit Go.Sort
set_option linter.unusedVariables false

def mW (wv : Nat → Bool) (new : Nat → Ce) : Nat → Nat
  | 0 => 0
  | i + 1 => mW wv new i + if wv i = true then 64 + (new i).t.size else 0
theorem wrS_mW {wv : Nat → Bool} {old new : Nat → Ce} {n : Nat} (h : ∀ j, j < n → new j ≠ old j → (new j).p ≠ 2 → wv j = true) : ∀ i, i ≤ n → wrS old new i ≤ mW wv new i ∧ ((∃ j, j < i ∧ new j ≠ old j ∧ (new j).p ≠ 2) → wrS old new i + 39 ≤ mW wv new i)
  | 0, _ => ⟨Nat.le_refl _, fun ⟨j, hj, _⟩ => absurd hj (by omega)⟩
  | i + 1, hi => by
    obtain ⟨h1, h2⟩ := wrS_mW h i (by omega)
    unfold wrS mW
    by_cases c : new i ≠ old i ∧ (new i).p ≠ 2
    · rw [if_pos c, if_pos (h i (by omega) c.1 c.2)]
      exact ⟨by omega, fun _ => by omega⟩
    · rw [if_neg c]
      refine ⟨by split <;> omega, fun ⟨j, hj, hc⟩ => ?_⟩
      have hji : j ≠ i := fun e => c (e ▸ hc)
      have := h2 ⟨j, by omega, hc⟩
      split <;> omega
theorem mW_le {wv : Nat → Bool} {new : Nat → Ce} {n : Nat} (h : ∀ i, i < n → (new i).t.size ≤ 20) : ∀ i, i ≤ n → mW wv new i ≤ 84 * i
  | 0, _ => by simp [mW]
  | i + 1, hi => by
    have ih := mW_le (wv := wv) h i (by omega)
    have := h i (by omega)
    unfold mW
    split <;> omega
theorem some_wr {old new : Nat → Ce} {W H : Nat} (hW : 1 ≤ W) (hH : 1 ≤ H) (ho : Rws old W H) (hn : Rws new W H) (h : ∃ j, j < H * W ∧ new j ≠ old j) : ∃ j, j < H * W ∧ new j ≠ old j ∧ (new j).p ≠ 2 := by
  obtain ⟨j, hj, hd⟩ := h
  by_cases h2 : (new j).p = 2
  · have h0 : j ≠ 0 := by
      intro e
      subst e
      have := hn.start (y := 0) (by omega) (by omega)
      rw [Nat.zero_mul] at this
      exact this h2
    obtain ⟨k, rfl⟩ : ∃ k, j = k + 1 := ⟨j - 1, by omega⟩
    have h1 := (hn.next hj).1 h2
    refine ⟨k, by omega, fun e => hd ?_, by rw [h1]; decide⟩
    have e1 := (hn.head (j := k) (by omega) h1).2
    have e2 := (ho.head (j := k) (by omega) (by rw [← e]; exact h1)).2
    rw [e1, e2, e]
  · exact ⟨j, hj, hd, h2⟩
theorem updB_same {old new : Nat → Ce} {V n : Nat} (h : ∀ j, j < n → new j = old j) : ∀ i, i ≤ n → updB nms V old new pn0 i = (pn0, [])
  | 0, _ => rfl
  | i + 1, hi => by
    unfold updB
    rw [if_neg (fun q => q.1 (h i (by omega)))]
    exact updB_same h i (by omega)
theorem allB_same {old new : Nat → Ce} {V n : Nat} (h : ∀ j, j < n → new j = old j) : allB nms V n old new pn0 = [] := by
  unfold allB
  rw [updB_same h n (Nat.le_refl _)]
  decide
theorem oth_in {C : Nat → Ce} {W H i : Nat} (h : Rws C W H) (hW : 1 ≤ W) (hH : 1 ≤ H) (hi : i < H * W) : oth C i = -1 ∨ ∃ k : Nat, oth C i = (k : Int) ∧ k < H * W := by
  unfold oth
  by_cases h1 : (C i).p = 1
  · rw [if_pos h1]; exact .inr ⟨i + 1, by omega, (h.head hi h1).1⟩
  · rw [if_neg h1]
    by_cases h2 : (C i).p = 2
    · rw [if_pos h2]
      have h0 : i ≠ 0 := by
        intro e
        subst e
        have := h.start (y := 0) (by omega) (by omega)
        rw [Nat.zero_mul] at this
        exact this h2
      exact .inr ⟨i - 1, by omega, by omega⟩
    · rw [if_neg h2]; exact .inl rfl

section
variable {g off g' off' cap cap' n : Nat} {C D : Nat → Ce}
set_option maxRecDepth 100000 in
set_option maxHeartbeats 8000000 in
theorem equal_any (w : World) (h : CL w g off n C) (h' : CL w g' off' n D) (nb : n ≤ 1048576) : Calls Tryd.prog 19 #[.slice (some ⟨g, off, none⟩) n cap, .slice (some ⟨g', off', none⟩) n cap'] w fun e w' => Tells w w' e (∀ j, j < n → C j = D j) := by
  have hmix : Tryd.prog.follows .mixedOrders = true := by kernel_rfl
  have HV : Hid (CL w g off n C) := h
  have HV' : Hid (CL w g' off' n D) := h'
  clear h h'
  go_enter Tryd.func19, Tryd.ntmps19
  go_wp2_with fail
  go_loopw [5] (fun iv wi => ∃ i : Nat, i ≤ n ∧ iv = .int .i64 i ∧ Hid (Gr w wi) ∧ Hid (∀ j, j < i → C j = D j)) (fun iv _ => n - (intOf iv).toNat)
  case atStart => exact ⟨0, by omega, rfl, Gr.refl w, fun j hj => absurd hj (by omega)⟩
  case round =>
    obtain ⟨i, hi, rfl, HI, HQ⟩ := hrel
    by_cases hil : i < n
    · have V1 := cell_gr1 HV.out HI.out
      have V2 := cell_gr1 HV'.out HI.out
      obtain ⟨e, he⟩ : ∃ e, C i = e := ⟨_, rfl⟩
      obtain ⟨o, ho⟩ : ∃ e, D i = e := ⟨_, rfl⟩
      have HEO : Hid (C i = e ∧ D i = o) := ⟨he, ho⟩
      obtain ⟨t, f, g0, b, p⟩ := e
      obtain ⟨t1, f1, g1, b1, p1⟩ := o
      have L1 : ∀ (k : Nat) u, (c5 ⟨t, f, g0, b, p⟩)[k]? = some u → wr.cell? ⟨g, off + i * 5 + k, none⟩ = some u := fun k u hu => V1.cell i hil k u (by rw [he]; exact hu)
      have L2 : ∀ (k : Nat) u, (c5 ⟨t1, f1, g1, b1, p1⟩)[k]? = some u → wr.cell? ⟨g', off' + i * 5 + k, none⟩ = some u := fun k u hu => V2.cell i hil k u (by rw [ho]; exact hu)
      have hil' : (i : Int) < (n : Int) := by omega
      have d0 : wr.cell? ⟨g, off + i * 5, none⟩ = some (.string t) := L1 0 _ rfl
      have d1 := L1 1 (.int .i64 f) rfl
      have d2 := L1 2 (.int .i64 g0) rfl
      have d3 := L1 3 (.int .i64 b) rfl
      have d4 := L1 4 (.int .i64 p) rfl
      have q0 : wr.cell? ⟨g', off' + i * 5, none⟩ = some (.string t1) := L2 0 _ rfl
      have q1 := L2 1 (.int .i64 f1) rfl
      have q2 := L2 2 (.int .i64 g1) rfl
      have q3 := L2 3 (.int .i64 b1) rfl
      have q4 := L2 4 (.int .i64 p1) rfl
      clear V1 V2 he ho L1 L2
      go_wp2_with fail
      rcases ce_cases t f g0 b p t1 f1 g1 b1 p1 with ⟨e5, hne⟩ | ⟨rfl, ⟨e5, hne⟩ | ⟨rfl, ⟨e5, hne⟩ | ⟨rfl, ⟨e5, hne⟩ | ⟨rfl, ⟨e5, hne⟩ | rfl⟩⟩⟩⟩
      case inr.inr.inr.inr.inr =>
        have HQ2 : Hid (∀ j, j < i + 1 → C j = D j) := fun j hj => by
          by_cases e : j = i
          · subst e; rw [HEO.out.1, HEO.out.2]
          · exact HQ.out j (by omega)
        go_quiet (fail)
        go_wp2
        go_roundw
        case rel => exact ⟨i + 1, by omega, by go_num, HI.out.trans ((Gr.refl _).drewN _), HQ2.out⟩
        case measure => simp [intOf]; omega
      all_goals
        have HNE : Hid (¬ ∀ j, j < n → C j = D j) := fun q => hne (by have := q i hil; rw [HEO.out.1, HEO.out.2] at this; exact this)
        clear hne
        go_quiet (fail)
        go_wp2
        go_ret
        exact ⟨false, rfl, ⟨fun q => (nomatch q), fun q => absurd q HNE.out⟩, (HI.out.trans ((Gr.refl _).drewN _)).below⟩
    · have hil' : ¬ (i : Int) < (n : Int) := by omega
      obtain rfl : i = n := by omega
      go_wp2
      go_ret
      exact ⟨true, rfl, ⟨fun _ => HQ.out, fun _ => rfl⟩, HI.out.below⟩
set_option maxRecDepth 100000 in
set_option maxHeartbeats 2000000 in
theorem other_any (w : World) (h : CL w g off n C) (i : Nat) (hi : i < n) (nb : n ≤ 1048576) : Calls Tryd.prog 34 #[.slice (some ⟨g, off, none⟩) n cap, .int .i64 (i : Int)] w fun e w' => e = .returned (.int .i64 (oth C i)) ∧ w' = w := by
  have d4 : w.cell? ⟨g, off + i * 5 + 4, none⟩ = some (.int .i64 (C i).p) := h.cell i hi 4 _ rfl
  have hil' : (i : Int) < (n : Int) := by omega
  have w1 : IntKind.i64.wrap ((i : Int) + 1) = (i : Int) + 1 := IntWalk.i64_in _ (by omega)
  have w2 : IntKind.i64.wrap ((i : Int) - 1) = (i : Int) - 1 := IntWalk.i64_in _ (by omega)
  obtain ⟨o, ho⟩ : ∃ z, oth C i = z := ⟨_, rfl⟩
  have HO : Hid (o = if (C i).p = 1 then (i : Int) + 1 else if (C i).p = 2 then (i : Int) - 1 else -1) := by rw [← ho]; rfl
  rw [ho]
  obtain ⟨p, hp⟩ : ∃ p, (C i).p = p := ⟨_, rfl⟩
  rw [hp] at d4 HO
  clear ho hp h
  by_cases h1 : p = 1
  · subst h1
    obtain rfl : o = (i : Int) + 1 := HO.out
    go_enter Tryd.func34, Tryd.ntmps34
    go_wp2
    go_ret
    exact ⟨rfl, rfl⟩
  · have e1 : (p == 1) = false := by simpa using h1
    by_cases h2 : p = 2
    · subst h2
      obtain rfl : o = (i : Int) - 1 := HO.out
      go_enter Tryd.func34, Tryd.ntmps34
      go_wp2
      go_ret
      exact ⟨rfl, rfl⟩
    · have e2 : (p == 2) = false := by simpa using h2
      obtain rfl : o = -1 := by have := HO.out; rw [if_neg h1, if_neg h2] at this; exact this
      clear HO
      go_enter Tryd.func34, Tryd.ntmps34
      go_wp2
      go_ret
      exact ⟨rfl, rfl⟩
end
/-- What is touched so far. -/
structure TL (w wr : World) (B n : Nat) (old new : Nat → Ce) (i : Nat) (tv : Nat → Bool) : Prop where
  br : BR wr B n tv
  ch : Ch B w wr
  up : ∀ j, j < n → (∃ m, m < i ∧ new m ≠ old m ∧ (j = m ∨ oth old m = (j : Int) ∨ oth new m = (j : Int))) → tv j = true
theorem BR.ch {Q Q' : World} {B n : Nat} {tv : Nat → Bool} (h : BR Q B n tv) (g : Gr Q Q') : BR Q' B n tv := h.keep (g.below.block B h.lt)
theorem Ch.setB {B : Nat} {w wr : World} (h : Ch B w wr) (k : Nat) (v : Value) : Ch B w (wr.setCell ⟨B, k, none⟩ v) := h.set (.inl rfl) k v

set_option maxRecDepth 100000 in
set_option maxHeartbeats 8000000 in
theorem touched_any (old new : Nat → Ce) (W H n gO oO capO gN oN capN : Nat) (w : World) (hO : CL w gO oO n old) (hN : CL w gN oN n new) (hW : 1 ≤ W ∧ W ≤ 400) (hH : 1 ≤ H ∧ H ≤ 400) (hn : n = H * W) (ro : Rws old W H) (rn : Rws new W H) :
    Calls Tryd.prog 20 #[.slice (some ⟨gO, oO, none⟩) n capO, .slice (some ⟨gN, oN, none⟩) n capN] w fun e w' => ∃ B, e = .returned (.slice (some ⟨B, 0, none⟩) n n) ∧ Hid (∃ tv, BR w' B n tv ∧ ∀ j, j < n → Tch old new n j → tv j = true) ∧ Hid (Below w.heap.size w w') := by
  have hmix : Tryd.prog.follows .mixedOrders = true := by kernel_rfl
  have hn160 : n ≤ 160000 := by rw [hn]; exact Nat.le_trans (Nat.mul_le_mul hH.2 hW.2) (by decide)
  have hmk : ∀ u : World, (Instr.makeSlice 51 (.int .i64 (n : Int)) (.int .i64 (n : Int))).run Tryd.prog u = .ok (.slice (some ⟨u.heap.size, 0, none⟩) n n) (u.alloc (.cells (madeCells #[.bool false] n) 4)) := fun u => run_make_row' (P := Tryd.prog) 51 4 (.bool false) 1 Tryd.underlying51 infoBool rfl .i64 .i64 n (by omega) (by omega) u
  have OI : Hid (∀ i, i < n → (oth old i = -1 ∨ ∃ k : Nat, oth old i = (k : Int) ∧ k < n) ∧ (oth new i = -1 ∨ ∃ k : Nat, oth new i = (k : Int) ∧ k < n)) := fun i hi => by
    have h1 := oth_in ro hW.1 hH.1 (i := i) (by omega)
    have h2 := oth_in rn hW.1 hH.1 (i := i) (by omega)
    rw [← hn] at h1 h2
    exact ⟨h1, h2⟩
  have HO : Hid (CL w gO oO n old) := hO
  have HN : Hid (CL w gN oN n new) := hN
  have ltO := hO.lt
  have ltN := hN.lt
  clear hO hN hW hH hn ro rn
  go_enter Tryd.func20, Tryd.ntmps20
  go_wp2_with fail
  obtain ⟨w0, hw0⟩ : ∃ z, w.alloc (.cells (madeCells #[.bool false] n) 4) = z := ⟨_, rfl⟩
  obtain ⟨B, hB⟩ : ∃ z, w.heap.size = z := ⟨_, rfl⟩
  have HG0 : Hid (Gr w w0) := by rw [← hw0]; exact (Gr.refl w).alloc _
  have T0 : Hid (TL w0 w0 B n old new 0 (fun _ => false)) := ⟨by rw [← hw0, ← hB]; exact BR.new w n, Ch.refl _ _, fun j hj ⟨m, hm, _⟩ => absurd hm (by omega)⟩
  have hBe : B = w.heap.size := hB.symm
  have HBE : Hid (B = w.heap.size) := hBe
  have ltO' : gO < B := by omega
  have ltN' : gN < B := by omega
  rw [hw0, hB]
  clear hw0 hB hBe
  go_loopw [6] (fun iv wr => ∃ i : Nat, i ≤ n ∧ iv = .int .i64 i ∧ Hid (∃ tv, TL w0 wr B n old new i tv)) (fun iv _ => n - (intOf iv).toNat)
  case atStart => exact ⟨0, by omega, rfl, _, T0.out⟩
  case round =>
    obtain ⟨i, hi, rfl, HS⟩ := hrel
    by_cases hil : i < n
    · have hil' : (i : Int) < (n : Int) := by omega
      obtain ⟨tv, hS⟩ := HS.out
      have keep : ∀ (q o : Nat) (C : Nat → Ce), q < B → CL w q o n C → CL wr q o n C := fun q o C hq hc => by
        have h1 := cell_gr1 hc HG0.out
        refine ⟨Nat.lt_of_lt_of_le h1.lt hS.ch.size, fun a ha k u hu => ?_⟩
        exact (World.cell?_of_block (a := ⟨q, o + a * 5 + k, none⟩) (hS.ch.block q h1.lt (by omega))).trans (h1.cell a ha k u hu)
      have V1 := keep gO oO old ltO' HO.out
      have V2 := keep gN oN new ltN' HN.out
      obtain ⟨e, he⟩ : ∃ e, old i = e := ⟨_, rfl⟩
      obtain ⟨o, ho⟩ : ∃ e, new i = e := ⟨_, rfl⟩
      have HEO : Hid (old i = e ∧ new i = o) := ⟨he, ho⟩
      obtain ⟨t, f, g0, b, p⟩ := e
      obtain ⟨t1, f1, g1, b1, p1⟩ := o
      have L1 : ∀ (k : Nat) u, (c5 ⟨t, f, g0, b, p⟩)[k]? = some u → wr.cell? ⟨gO, oO + i * 5 + k, none⟩ = some u := fun k u hu => V1.cell i hil k u (by rw [he]; exact hu)
      have L2 : ∀ (k : Nat) u, (c5 ⟨t1, f1, g1, b1, p1⟩)[k]? = some u → wr.cell? ⟨gN, oN + i * 5 + k, none⟩ = some u := fun k u hu => V2.cell i hil k u (by rw [ho]; exact hu)
      have d0 : wr.cell? ⟨gO, oO + i * 5, none⟩ = some (.string t) := L1 0 _ rfl
      have d1 := L1 1 (.int .i64 f) rfl
      have d2 := L1 2 (.int .i64 g0) rfl
      have d3 := L1 3 (.int .i64 b) rfl
      have d4 := L1 4 (.int .i64 p) rfl
      have q0 : wr.cell? ⟨gN, oN + i * 5, none⟩ = some (.string t1) := L2 0 _ rfl
      have q1 := L2 1 (.int .i64 f1) rfl
      have q2 := L2 2 (.int .i64 g1) rfl
      have q3 := L2 3 (.int .i64 b1) rfl
      have q4 := L2 4 (.int .i64 p1) rfl
      have HTL : Hid (TL w0 wr B n old new i tv) := hS
      clear V1 V2 he ho L1 L2 keep hS HS
      obtain ⟨cb, hcb⟩ : ∃ cb : Bool, cb = decide (new i ≠ old i) := ⟨_, rfl⟩
      have HCB : Hid (cb = true ↔ new i ≠ old i) := by show _ ↔ _; rw [hcb]; exact decide_eq_true_iff
      clear hcb
      go_upto_region 5 with fail
      go_cut [26] from 18 to 25 (fun s wx => s = .bool cb ∧ Hid (Gr wr wx))
      case first =>
        have CBE : Hid (cb = true ↔ (⟨t1, f1, g1, b1, p1⟩ : Ce) ≠ ⟨t, f, g0, b, p⟩) := by have := HCB.out; rw [HEO.out.1, HEO.out.2] at this; exact this
        clear HCB HEO HTL T0 HN HO OI HG0 HBE
        rcases ce_cases t f g0 b p t1 f1 g1 b1 p1 with ⟨e5, hne⟩ | ⟨rfl, ⟨e5, hne⟩ | ⟨rfl, ⟨e5, hne⟩ | ⟨rfl, ⟨e5, hne⟩ | ⟨rfl, ⟨e5, hne⟩ | rfl⟩⟩⟩⟩
        case inr.inr.inr.inr.inr =>
          obtain rfl : cb = false := by cases cb with
            | false => rfl
            | true => exact absurd rfl (CBE.out.1 rfl)
          go_quiet (fail)
          go_wp2
          go_meet
          exact ⟨rfl, (Gr.refl wr).drewN _⟩
        all_goals
          obtain rfl : cb = true := CBE.out.2 fun e => hne e.symm
          clear hne CBE
          go_quiet (fail)
          go_wp2
          go_meet
          exact ⟨rfl, (Gr.refl wr).drewN _⟩
      case rest =>
        obtain ⟨rfl, GC⟩ := hcut
        have HTC : Hid (TL w0 wc B n old new i tv) := ⟨HTL.out.br.ch GC.out, HTL.out.ch.thenGr GC.out, HTL.out.up⟩
        clear d0 d1 d2 d3 d4 q0 q1 q2 q3 q4 HTL GC
        cases cb with
        | false =>
          have HT2 : Hid (TL w0 wc B n old new (i + 1) tv) := ⟨HTC.out.br, HTC.out.ch, fun j hj ⟨m, hm, h1, h2⟩ => by
            by_cases e : m = i
            · subst e; exact absurd (HCB.out.2 h1) (by decide)
            · exact HTC.out.up j hj ⟨m, by omega, h1, h2⟩⟩
          go_wp2
          go_roundw
          case rel => exact ⟨i + 1, by omega, by go_num, _, HT2.out⟩
          case measure => simp [intOf]; omega
        | true =>
          have c1 : wc.cell? ⟨B, i, none⟩ = some (.bool (tv i)) := HTC.out.br.cell i hil
          have z1 := HTC.out.br.fz i
          obtain ⟨w1, hw1⟩ : ∃ z, wc.setCell ⟨B, i, none⟩ (.bool true) = z := ⟨_, rfl⟩
          obtain ⟨tv1, htv1⟩ : ∃ z : Nat → Bool, (fun j => if j = i then true else tv j) = z := ⟨_, rfl⟩
          have B1 : Hid (BR w1 B n tv1) := by rw [← hw1, ← htv1]; exact HTC.out.br.set hil
          have C1 : Hid (Ch B w0 w1) := by rw [← hw1]; exact HTC.out.ch.setB _ _
          have U1 : Hid ((∀ j, tv j = true → tv1 j = true) ∧ tv1 i = true) := by rw [← htv1]; exact ⟨fun j hj => by show (if j = i then true else tv j) = true; split <;> first | rfl | exact hj, if_pos rfl⟩
          have keep1 : Hid (∀ (q o : Nat) (C : Nat → Ce), q < B → CL w q o n C → CL w1 q o n C) := fun q o C hq hc => by
            have h1 := cell_gr1 hc HG0.out
            refine ⟨Nat.lt_of_lt_of_le h1.lt C1.out.size, fun a ha k u hu => ?_⟩
            exact (World.cell?_of_block (a := ⟨q, o + a * 5 + k, none⟩) (C1.out.block q h1.lt (by omega))).trans (h1.cell a ha k u hu)
          have O1 : Hid (Calls Tryd.prog 34 #[.slice (some ⟨gO, oO, none⟩) n capO, .int .i64 (i : Int)] w1 fun e w' => e = .returned (.int .i64 (oth old i)) ∧ w' = w1) := other_any w1 (keep1.out gO oO old ltO' HO.out) i hil (by omega)
          have O2 : Hid (Calls Tryd.prog 34 #[.slice (some ⟨gN, oN, none⟩) n capN, .int .i64 (i : Int)] w1 fun e w' => e = .returned (.int .i64 (oth new i)) ∧ w' = w1) := other_any w1 (keep1.out gN oN new ltN' HN.out) i hil (by omega)
          go_wp2_with fail
          try rw [hw1]
          clear c1 z1 hw1 htv1
          refine O1.out.mono ?_
          rintro e wa ⟨rfl, hwa⟩
          obtain rfl := hwa.symm
          go_wp2_with fail
          refine O2.out.mono ?_
          rintro e wb ⟨rfl, hwb⟩
          obtain rfl := hwb.symm
          clear O1 O2 keep1
          obtain ⟨oa, hoa⟩ : ∃ z, oth old i = z := ⟨_, rfl⟩
          obtain ⟨ob, hob⟩ : ∃ z, oth new i = z := ⟨_, rfl⟩
          have HOA : Hid (oth old i = oa ∧ oth new i = ob) := ⟨hoa, hob⟩
          have hcs := OI.out i hil
          rw [hoa, hob] at hcs ⊢
          have done : ∀ (wz : World) (tz : Nat → Bool), BR wz B n tz → Ch B w0 wz → (∀ j, tv j = true → tz j = true) → tz i = true → (∀ j : Nat, oa = (j : Int) → tz j = true) → (∀ j : Nat, ob = (j : Int) → tz j = true) → TL w0 wz B n old new (i + 1) tz := fun wz tz h1 h2 h3 h4 h5 h6 => ⟨h1, h2, fun j hj ⟨m, hm, k1, k2⟩ => by
            by_cases e : m = i
            · subst e
              rcases k2 with k2 | k2 | k2
              · rw [k2]; exact h4
              · exact h5 j (HOA.out.1.symm.trans k2)
              · exact h6 j (HOA.out.2.symm.trans k2)
            · exact h3 j (HTC.out.up j hj ⟨m, by omega, k1, k2⟩)⟩
          have DN : Hid (∀ (wz : World) (tz : Nat → Bool), BR wz B n tz → Ch B w0 wz → (∀ j, tv j = true → tz j = true) → tz i = true → (∀ j : Nat, oa = (j : Int) → tz j = true) → (∀ j : Nat, ob = (j : Int) → tz j = true) → TL w0 wz B n old new (i + 1) tz) := done
          clear done hoa hob
          obtain ⟨ha, hb⟩ := hcs
          rcases ha with rfl | ⟨ka, rfl, hka⟩
          · rcases hb with rfl | ⟨kb, rfl, hkb⟩
            · have HT2 : Hid (TL w0 w1 B n old new (i + 1) tv1) := DN.out w1 tv1 B1.out C1.out U1.out.1 U1.out.2 (fun j hj => by omega) (fun j hj => by omega)
              go_wp2
              go_roundw
              case rel => exact ⟨i + 1, by omega, by go_num, _, HT2.out⟩
              case measure => simp [intOf]; omega
            · have c2 : w1.cell? ⟨B, kb, none⟩ = some (.bool (tv1 kb)) := B1.out.cell kb hkb
              have z2 := B1.out.fz kb
              have hkb' : (kb : Int) < (n : Int) := by omega
              have HT2 : Hid (TL w0 (w1.setCell ⟨B, kb, none⟩ (.bool true)) B n old new (i + 1) (fun j => if j = kb then true else tv1 j)) := DN.out _ _ (B1.out.set hkb) (C1.out.setB _ _) (fun j hj => by show (if j = kb then true else tv1 j) = true; split <;> first | rfl | exact U1.out.1 j hj) (by show (if i = kb then true else tv1 i) = true; split <;> first | rfl | exact U1.out.2) (fun j hj => by omega) (fun j hj => if_pos (by omega))
              go_wp2
              go_roundw
              case rel => exact ⟨i + 1, by omega, by go_num, _, HT2.out⟩
              case measure => simp [intOf]; omega
          · have c2 : w1.cell? ⟨B, ka, none⟩ = some (.bool (tv1 ka)) := B1.out.cell ka hka
            have z2 := B1.out.fz ka
            have hka' : (ka : Int) < (n : Int) := by omega
            obtain ⟨w2, hw2⟩ : ∃ z, w1.setCell ⟨B, ka, none⟩ (.bool true) = z := ⟨_, rfl⟩
            have B2 : Hid (BR w2 B n (fun j => if j = ka then true else tv1 j)) := by rw [← hw2]; exact B1.out.set hka
            have C2_ : Hid (Ch B w0 w2) := by rw [← hw2]; exact C1.out.setB _ _
            have U2 : Hid ((∀ j, tv j = true → (if j = ka then true else tv1 j) = true) ∧ (if i = ka then true else tv1 i) = true) := ⟨fun j hj => by split <;> first | rfl | exact U1.out.1 j hj, by split <;> first | rfl | exact U1.out.2⟩
            rcases hb with rfl | ⟨kb, rfl, hkb⟩
            · have HT2 : Hid (TL w0 (w1.setCell ⟨B, ka, none⟩ (.bool true)) B n old new (i + 1) (fun j => if j = ka then true else tv1 j)) := by rw [hw2]; exact DN.out w2 _ B2.out C2_.out U2.out.1 U2.out.2 (fun j hj => if_pos (by omega)) (fun j hj => by omega)
              clear hw2
              go_wp2
              go_roundw
              case rel => exact ⟨i + 1, by omega, by go_num, _, HT2.out⟩
              case measure => simp [intOf]; omega
            · have hkb' : (kb : Int) < (n : Int) := by omega
              have c3 : (w1.setCell ⟨B, ka, none⟩ (.bool true)).cell? ⟨B, kb, none⟩ = some (.bool (if kb = ka then true else tv1 kb)) := by rw [hw2]; exact B2.out.cell kb hkb
              have z3 : (w1.setCell ⟨B, ka, none⟩ (.bool true)).frozen? ⟨B, kb, none⟩ = false := by rw [hw2]; exact B2.out.fz kb
              have HT2 : Hid (TL w0 ((w1.setCell ⟨B, ka, none⟩ (.bool true)).setCell ⟨B, kb, none⟩ (.bool true)) B n old new (i + 1) (fun j => if j = kb then true else if j = ka then true else tv1 j)) := by rw [hw2]; exact DN.out _ _ (B2.out.set hkb) (C2_.out.setB _ _) (fun j hj => by show (if j = kb then true else if j = ka then true else tv1 j) = true; split <;> first | rfl | exact U2.out.1 j hj) (by show (if i = kb then true else if i = ka then true else tv1 i) = true; split <;> first | rfl | exact U2.out.2) (fun j hj => by show (if j = kb then true else if j = ka then true else tv1 j) = true; rw [if_pos (show j = ka by omega)]; split <;> rfl) (fun j hj => if_pos (by omega))
              clear hw2
              go_wp2
              go_roundw
              case rel => exact ⟨i + 1, by omega, by go_num, _, HT2.out⟩
              case measure => simp [intOf]; omega
    · have hil' : ¬ (i : Int) < (n : Int) := by omega
      obtain rfl : i = n := by omega
      have HBL : Hid (Below w.heap.size w wr) := by
        obtain ⟨tv, hS⟩ := HS.out
        exact hS.ch.low (by have := HBE.out; omega) (HG0.out.size) (HG0.out.below)
      have HTV : Hid (∃ tv, BR wr B i tv ∧ ∀ j, j < i → Tch old new i j → tv j = true) := by
        obtain ⟨tv, hS⟩ := HS.out
        exact ⟨tv, hS.br, fun j hj h => hS.up j hj h⟩
      go_wp2
      go_ret
      exact ⟨B, rfl, HTV.out, HBL.out⟩

end Go.Proofs.YtlfffpoeioecjaaDoor
