/-
  strings.Replacer: what Replace answers.
-/
import Derived.Test.YtnkebfmlaliddaaGreatDoorP12
import Derived.Test.YtnkebfmlaliddaaGreatDoorP10
import Derived.Test.YtnkebfmlaliddaaGreatDoorP03
import Derived.Lib.Bytealg
import Derived.Laws.CopyOwn
import Derived.BigQuiet
namespace Go.Proofs.YtnkebfmlaliddaaGreatDoor
open Go.RowKit Go.Sort
set_option linter.unusedVariables false

def isE (b : UInt8) : Bool := b == 34 || b == 92 || b == 10
theorem escQ_len2 (b : UInt8) : (escQ b).length = 1 + (if isE b then 1 else 0) := by
  unfold escQ isE
  by_cases h1 : b = 34
  · subst h1; rfl
  · by_cases h2 : b = 92
    · subst h2; rfl
    · by_cases h3 : b = 10
      · subst h3; rfl
      · simp [h1, h2, h3]
theorem escF_cons (b : UInt8) (l : List UInt8) : escF (b :: l) = escQ b ++ escF l := by unfold escF; rw [List.flatMap_cons]
theorem escF_cnt : ∀ l : List UInt8, (escF l).length = l.length + l.countP isE
  | [] => rfl
  | b :: l => by
    rw [escF_cons, List.length_append, escQ_len2, escF_cnt l, List.length_cons, List.countP_cons]
    omega
theorem escF_none : ∀ l : List UInt8, l.countP isE = 0 → escF l = l
  | [], _ => rfl
  | b :: l, h => by
    rw [List.countP_cons] at h
    have hb : isE b = false := by
      cases hq : isE b with
      | false => rfl
      | true => rw [hq] at h; simp at h
    have h1 : b ≠ 34 := fun e => by subst e; exact absurd hb (by decide)
    have h2 : b ≠ 92 := fun e => by subst e; exact absurd hb (by decide)
    have h3 : b ≠ 10 := fun e => by subst e; exact absurd hb (by decide)
    rw [escF_cons, escF_none l (by omega)]
    unfold escQ
    rw [if_neg h1, if_neg h2, if_neg h3]
    rfl
/-- How many of the first k. -/
def sumE (l : List UInt8) : Nat → Nat
  | 0 => 0
  | k + 1 => sumE l k + l.count (UInt8.ofNat (oA k))
theorem sumE_all (l : List UInt8) : sumE l 3 = l.countP isE := by
  show 0 + l.count (UInt8.ofNat 10) + l.count (UInt8.ofNat 92) + l.count (UInt8.ofNat 34) = _
  induction l with
  | nil => rfl
  | cons b l ih =>
    rw [List.countP_cons, ← ih, List.count_cons, List.count_cons, List.count_cons]
    have e1 : (UInt8.ofNat 10) = (10 : UInt8) := rfl
    have e2 : (UInt8.ofNat 92) = (92 : UInt8) := rfl
    have e3 : (UInt8.ofNat 34) = (34 : UInt8) := rfl
    rw [e1, e2, e3]
    unfold isE
    by_cases h1 : b = 34
    · subst h1
      have a1 : ((34 : UInt8) == 10) = false := by decide
      have a2 : ((34 : UInt8) == 92) = false := by decide
      simp [a1, a2]; omega
    · by_cases h2 : b = 92
      · subst h2
        have a1 : ((92 : UInt8) == 10) = false := by decide
        have a2 : ((92 : UInt8) == 34) = false := by decide
        simp [a1, a2]; omega
      · by_cases h3 : b = 10
        · subst h3
          have a1 : ((10 : UInt8) == 92) = false := by decide
          have a2 : ((10 : UInt8) == 34) = false := by decide
          simp [a1, a2]; omega
        · simp [h1, h2, h3]
theorem sumE_le (l : List UInt8) (k : Nat) (hk : k ≤ 3) : sumE l k ≤ l.length := by
  have h3 : sumE l 3 ≤ l.length := by rw [sumE_all]; exact List.countP_le_length
  have hm : sumE l k ≤ sumE l 3 := by
    have h1 : sumE l 0 ≤ sumE l 1 := Nat.le_add_right _ _
    have h2 : sumE l 1 ≤ sumE l 2 := Nat.le_add_right _ _
    have h4 : sumE l 2 ≤ sumE l 3 := Nat.le_add_right _ _
    match k, hk with
    | 0, _ => omega
    | 1, _ => omega
    | 2, _ => omega
    | 3, _ => exact Nat.le_refl _
  omega

/-- A table of replacements, to be read. -/
structure Bsr (W : World) (X : Nat) : Prop where
  lt : X < W.heap.size
  rep : ∀ x : UInt8, isE x = false → W.cell? ⟨X, x.toNat, none⟩ = some (.slice none 0 0)
  esc : ∀ x : UInt8, isE x = true → ∃ g cap, W.cell? ⟨X, x.toNat, none⟩ = some (.slice (some ⟨g, 0, none⟩) 2 cap) ∧ g < W.heap.size ∧ ∃ y : UInt8, escQ x = [92, y] ∧ W.cell? ⟨g, 0, none⟩ = some (.int .u8 92) ∧ W.cell? ⟨g, 1, none⟩ = some (.int .u8 (y.toNat : Int))
  tor : ∃ T cap, W.cell? ⟨X, 256, none⟩ = some (.slice (some ⟨T, 0, none⟩) 3 cap) ∧ T < W.heap.size ∧ ∀ k, k < 3 → W.cell? ⟨T, k, none⟩ = some (oStr k)
theorem Bsr.below {W W' : World} {X : Nat} (h : Bsr W X) (hb : Below W.heap.size W W') : Bsr W' X := by
  refine ⟨Nat.lt_of_lt_of_le h.lt hb.size, fun x hx => (hb.cell (p := ⟨X, _, none⟩) h.lt).trans (h.rep x hx), fun x hx => ?_, ?_⟩
  · obtain ⟨g, cap, q1, q2, y, q3, q4, q5⟩ := h.esc x hx
    exact ⟨g, cap, (hb.cell (p := ⟨X, _, none⟩) h.lt).trans q1, Nat.lt_of_lt_of_le q2 hb.size, y, q3, (hb.cell (p := ⟨g, _, none⟩) q2).trans q4, (hb.cell (p := ⟨g, _, none⟩) q2).trans q5⟩
  · obtain ⟨T, cap, q1, q2, q3⟩ := h.tor
    exact ⟨T, cap, (hb.cell (p := ⟨X, _, none⟩) h.lt).trans q1, Nat.lt_of_lt_of_le q2 hb.size, fun k hk => (hb.cell (p := ⟨T, _, none⟩) q2).trans (q3 k hk)⟩
theorem oA_isE (x : UInt8) : isE x = true ↔ ∃ k, k < 3 ∧ x.toNat = oA k := by
  constructor
  · intro h
    unfold isE at h
    simp at h
    rcases h with (h | h) | h
    · exact ⟨2, by omega, by rw [h]; rfl⟩
    · exact ⟨1, by omega, by rw [h]; rfl⟩
    · exact ⟨0, by omega, by rw [h]; rfl⟩
  · rintro ⟨k, hk, h⟩
    have hx : x = UInt8.ofNat (oA k) := by rw [← h]; exact (UInt8.ofNat_toNat).symm
    rw [hx]
    match k, hk with
    | 0, _ => rfl
    | 1, _ => rfl
    | 2, _ => rfl
theorem escQ_oA (k : Nat) (hk : k < 3) (x : UInt8) (h : x.toNat = oA k) : escQ x = [92, UInt8.ofNat (nA k)] := by
  have hx : x = UInt8.ofNat (oA k) := by rw [← h]; exact (UInt8.ofNat_toNat).symm
  rw [hx]
  match k, hk with
  | 0, _ => rfl
  | 1, _ => rfl
  | 2, _ => rfl
theorem BsK.bsr {w W W' : World} {X : Nat} {tv : Value} {rv : Nat → Value} (h : BsK w W X 3 tv rv) (hu : Up w.heap.size W W') : Bsr W' X := by
  obtain ⟨cx, ct, cf, cl⟩ := h.cell
  have tX : ∀ j, W'.cell? ⟨X, j, none⟩ = W.cell? ⟨X, j, none⟩ := fun j => World.cell?_of_block (hu.block X h.low cl)
  refine ⟨Nat.lt_of_lt_of_le cl hu.size, fun x hx => ?_, fun x hx => ?_, ?_⟩
  · rw [tX, cx x.toNat x.toNat_lt, h.nil x.toNat x.toNat_lt (fun j hj e => by
      have := (oA_isE x).2 ⟨j, hj, e⟩
      rw [hx] at this; cases this)]
  · obtain ⟨k, hk, e⟩ := (oA_isE x).1 hx
    obtain ⟨g, cap, cb, fz, r1, r2, r3, r4, r5, r6⟩ := h.esc k hk
    have gl := (Array.getElem?_eq_some_iff.1 r4).1
    have tg : ∀ j, W'.cell? ⟨g, j, none⟩ = W.cell? ⟨g, j, none⟩ := fun j => World.cell?_of_block (hu.block g r3 gl)
    refine ⟨g, cap, by rw [tX, e, cx (oA k) (oA_lt k hk), r1], Nat.lt_of_lt_of_le gl hu.size, UInt8.ofNat (nA k), escQ_oA k hk x e, by rw [tg, Lib.cell_of_heap r4]; exact r5, ?_⟩
    rw [tg, Lib.cell_of_heap r4, UInt8.toNat_ofNat_of_lt' (nA_lt k hk)]; exact r6
  · rcases h.own.2 with ⟨rfl, h0⟩ | ⟨g, cap, cur, rfl, hb, hg, hq⟩
    · omega
    · have gl := (Array.getElem?_eq_some_iff.1 hg).1
      exact ⟨g, cap, by rw [tX]; exact ct, Nat.lt_of_lt_of_le gl hu.size, fun k hk => by
        rw [World.cell?_of_block (hu.block g hb gl), h.own.cellAt k (by omega)]
        simp [hk]⟩

theorem run_copy_two {P : Program} (w : World) (dT sT ty elem : TypeId) (g o dLen dCap : Nat) (a : Addr) (sCap : Nat) (cur : List Value) (t : TypeId) (x y : Value)
    (hu : P.underlying dT = some (.slice elem)) (hs : (P.info? elem).map (·.size) = some 1)
    (hg : w.heap[g]? = some (.cells cur.toArray t (0, 0))) (hn : 2 ≤ dLen)
    (h0 : w.cell? (a.add 0) = some x) (h1 : w.cell? (a.add 1) = some y) (hfit : o + 2 ≤ cur.length) (hx : x.oneCell' = true) (hy : y.oneCell' = true) :
    (Builtin.copy_ #[dT, sT] ty #[.slice (some ⟨g, o, none⟩) dLen dCap, .slice (some a) 2 sCap]).run P w =
      .ok (goInt 2) (w.setRow g (splice cur o [x, y]).toArray) := by
  have hl := run_loadCells_list (P := P) w a [x, y] (fun j v hj => by
    match j with
    | 0 => simp at hj; subst hj; exact h0
    | 1 => simp at hj; subst hj; exact h1
    | j + 2 => simp at hj)
  have hst := run_storeCells_at P g o t [x, y] 0 cur.toArray w hg (by simpa using hfit) (fun v hv => by
    simp at hv
    rcases hv with rfl | rfl
    · exact hx
    · exact hy)
  have hm : Nat.min 2 dLen = 2 := Nat.min_eq_left hn
  cases hq : P.info? elem with
  | none => simp [hq] at hs
  | some i =>
    have hi : i.size = 1 := by simpa [hq] using hs
    have hl2 : ([x, y] : List Value).length = 2 := rfl
    rw [hl2] at hl
    simp [Builtin.copy_, run_underlying hu, Builtin.lenOf, Builtin.firstCells, sizeOf, typeInfo, hq, hi, hm, hl, hst, splice]

set_option maxRecDepth 100000 in
set_option maxHeartbeats 1600000 in
theorem count_one (s : ByteArray) (c : UInt8) (w : World) : Calls Tryz.prog 207 #[.string s, .string ⟨#[c]⟩] w fun e w' => e = .returned (.int .i64 (s.data.toList.count c : Nat)) ∧ w' = w := by
  have ga : (({ data := #[c] } : ByteArray)[0]'(by show 0 < 1; omega)) = c := rfl
  go_enter Tryz.func207, Tryz.ntmps207
  go_wp2
  rw [run_callFunc_extern Tryz.func209 (by kernel_rfl) (by kernel_rfl) (by kernel_rfl) (e := Extern.BytealgCount.count) (by kernel_rfl), Lib.run_countString]
  simp only [Result.andThen]
  rw [Oper.upon_value]
  go_wp2
  go_ret
  refine ⟨?_, rfl⟩
  have : ((c.toNat : Int).toNat.toUInt8) = c := by simp
  first | rw [this]; rfl | simp [Lib.countByte]

set_option maxRecDepth 100000 in
set_option maxHeartbeats 16000000 in
theorem bsr_any (s : ByteArray) (hs : s.size ≤ 1099511627776) (X : Nat) (w : World) (hX : Hid (Bsr w X)) :
    Calls Tryz.prog 205 #[.pointer (some ⟨X, 0, none⟩), .string s] w fun e w' => e = .returned (.string ⟨(escF s.data.toList).toArray⟩) ∧ Hid (Below w.heap.size w w') := by
  obtain ⟨l, hl⟩ : ∃ z, s.data.toList = z := ⟨_, rfl⟩
  have hll : l.length = s.size := by rw [← hl]; rfl
  obtain ⟨T, capT, hT1, hT2, hT3⟩ := hX.out.tor
  have HT : Hid (∀ k, k < 3 → w.cell? ⟨T, k, none⟩ = some (oStr k)) := hT3
  have hmix : Tryz.prog.follows .mixedOrders = true := by kernel_rfl
  have CO : Hid (∀ (k : Nat) u, k < 3 → Calls Tryz.prog 207 #[.string s, oStr k] u fun e w' => e = .returned (.int .i64 ((l.count (UInt8.ofNat (oA k)) : Nat) : Int)) ∧ w' = u) := fun k u hk => by
    have := count_one s (UInt8.ofNat (oA k)) u
    rw [hl] at this
    exact this
  clear hT3
  rw [hl]
  obtain ⟨N, hN⟩ : ∃ z, l.countP isE = z := ⟨_, rfl⟩
  have HN : Hid (l.countP isE = N) := hN
  have hNs : N ≤ s.size := by rw [← hN, ← hll]; exact List.countP_le_length
  have HLE : Hid ((escF l).length = s.size + N) := by show _ = _; rw [escF_cnt, hN, hll]
  have HNS : Hid (N = 0 → (⟨(escF l).toArray⟩ : ByteArray) = s) := fun h0 => by
    rw [escF_none l (by rw [hN, h0]), ← hl]
  have HGT : Hid (∀ i (h : i < s.size), l[i]? = some s[i]) := fun i h => by
    rw [← hl, Array.getElem?_toList]
    exact Array.getElem?_eq_getElem (xs := s.data) h
  clear hN
  go_enter Tryz.func205, Tryz.ntmps205
  go_upto_if 26 with fail
  go_cut [5, 6, 8, 9, 10, 11, 26] from 27 to 80 (fun nv av _ _ _ _ _ wx => nv = .int .i64 ((s.size + N : Nat) : Int) ∧ av = .bool (decide (0 < N)) ∧ Hid (Gr w wx))
  case first =>
    have h0 : (24 : Int) ≤ (s.size : Int) ∨ ¬ (24 : Int) ≤ (s.size : Int) := by omega
    rcases h0 with h0 | h0
    · rw [show decide ((24 : Int) ≤ (s.size : Int)) = true from decide_eq_true h0]
      go_wp2
      go_loopw [5, 6, 32] (fun nv av kv wr => ∃ k : Nat, k ≤ 3 ∧ kv = .int .i64 (k : Int) ∧ nv = .int .i64 ((s.size + sumE l k : Nat) : Int) ∧ av = .bool (decide (0 < sumE l k)) ∧ Hid (Gr w wr)) (fun _ _ kv _ => 3 - (intOf kv).toNat)
      case atStart => exact ⟨0, by omega, rfl, rfl, rfl, Gr.refl w⟩
      case round =>
        obtain ⟨k, hk, rfl, rfl, rfl, HG⟩ := hrel
        by_cases hk3 : k < 3
        · have hk3' : (k : Int) < 3 := by omega
          obtain ⟨a, ha⟩ : ∃ z, UInt8.ofNat (oA k) = z := ⟨_, rfl⟩
          have hat : a.toNat = oA k := by rw [← ha]; exact UInt8.toNat_ofNat_of_lt' (oA_lt k hk3)
          have cT : wr.cell? ⟨T, k, none⟩ = some (.string ⟨#[a]⟩) := by rw [← ha]; exact (HG.out.below.cell (p := ⟨T, k, none⟩) hT2).trans (HT.out k hk3)
          have cT0 : wr.drew.cell? ⟨T, k, none⟩ = some (.string ⟨#[a]⟩) := cT
          obtain ⟨g, cap, cX, _⟩ := (hX.out.below HG.out.below).esc a ((oA_isE a).2 ⟨k, hk3, hat⟩)
          have cX0 : wr.drew.cell? ⟨X, a.toNat, none⟩ = some (.slice (some ⟨g, 0, none⟩) 2 cap) := cX
          have hal : a.toNat < 256 := a.toNat_lt
          have hal' : (a.toNat : Int) < 256 := by omega
          have ga : (({ data := #[a] } : ByteArray)[0]'(by show 0 < 1; omega)) = a := rfl
          have CO1 : Hid (∀ u, Calls Tryz.prog 207 #[.string s, .string ⟨#[a]⟩] u fun e w' => e = .returned (.int .i64 ((l.count a : Nat) : Int)) ∧ w' = u) := fun u => by
            have := CO.out k u hk3
            unfold oStr at this
            rw [ha] at this
            exact this
          have HSM : Hid (sumE l (k + 1) = sumE l k + l.count a) := by show _ = _; rw [← ha]; rfl
          have hb1 := sumE_le l k hk
          have hb2 := sumE_le l (k + 1) hk3
          rw [HSM.out] at hb2
          obtain ⟨m, hm⟩ : ∃ z, sumE l k = z := ⟨_, rfl⟩
          obtain ⟨n, hn⟩ : ∃ z, l.count a = z := ⟨_, rfl⟩
          rw [hm] at hb1 hb2 HSM ⊢
          rw [hn] at hb2 HSM CO1
          clear ha hat hm hn
          go_wp2_with fail
          refine (CO1.out _).mono ?_
          rintro e2 w2 ⟨rfl, hw2⟩
          obtain rfl := hw2.symm
          by_cases hn0 : n = 0
          · subst hn0
            go_wp2
            go_roundw
            case rel => exact ⟨k + 1, hk3, by go_num, by rw [HSM.out]; rfl, by rw [HSM.out]; rfl, HG.out⟩
            case measure => simp [intOf]; omega
          · have hne : ((n : Int) != 0) = true := by simp; omega
            go_wp2_with fail
            go_quiet (fail)
            go_wp2
            go_roundw
            case rel => exact ⟨k + 1, hk3, by go_num, by rw [HSM.out]; go_num, by rw [HSM.out]; simp; omega, by first | exact HG.out | exact HG.out.drew | exact Gr.drewN HG.out _⟩
            case measure => simp [intOf]; omega
        · obtain rfl : k = 3 := by omega
          have hk3' : ¬ ((3 : Nat) : Int) < 3 := by omega
          rw [sumE_all, HN.out]
          go_wp2
          go_meet
          exact ⟨rfl, rfl, HG.out⟩
    · rw [show decide ((24 : Int) ≤ (s.size : Int)) = false from decide_eq_false h0]
      go_wp2
      go_loopw [5, 6, 10] (fun nv av iv wr => ∃ i : Nat, i ≤ s.size ∧ iv = .int .i64 (i : Int) ∧ nv = .int .i64 ((s.size + (l.take i).countP isE : Nat) : Int) ∧ av = .bool (decide (0 < (l.take i).countP isE)) ∧ Hid (Gr w wr)) (fun _ _ iv _ => s.size - (intOf iv).toNat)
      case atStart => exact ⟨0, Nat.zero_le _, rfl, rfl, rfl, Gr.refl w⟩
      case round =>
        obtain ⟨i, hi, rfl, rfl, rfl, HG⟩ := hrel
        by_cases hil : i < s.size
        · have hil' : (i : Int) < (s.size : Int) := by omega
          obtain ⟨x, hx⟩ : ∃ z, s[i] = z := ⟨_, rfl⟩
          have HTK : Hid ((l.take (i + 1)).countP isE = (l.take i).countP isE + (if isE x then 1 else 0)) := by
            show _ = _
            have hl2 : i < l.length := by omega
            rw [List.take_succ_eq_append_getElem hl2, List.countP_append, List.countP_singleton]
            have : l[i] = x := by rw [← hx]; subst hl; rfl
            rw [this]
          have hc1 : (l.take i).countP isE ≤ s.size := by
            have h1 : (l.take i).countP isE ≤ (l.take i).length := List.countP_le_length
            rw [List.length_take] at h1; omega
          obtain ⟨m, hm⟩ : ∃ z, (l.take i).countP isE = z := ⟨_, rfl⟩
          rw [hm] at HTK hc1 ⊢
          have hal : x.toNat < 256 := x.toNat_lt
          have hal' : (x.toNat : Int) < 256 := by omega
          clear hm
          cases hq : isE x with
          | false =>
            have cX := (hX.out.below HG.out.below).rep x hq
            rw [hq] at HTK
            clear hq
            go_wp2
            go_roundw
            case rel => exact ⟨i + 1, hil, by go_num, by rw [HTK.out]; rfl, by rw [HTK.out]; rfl, HG.out⟩
            case measure => simp [intOf]; omega
          | true =>
            obtain ⟨g, cap, cX, _⟩ := (hX.out.below HG.out.below).esc x hq
            have cX0 : wr.drew.cell? ⟨X, x.toNat, none⟩ = some (.slice (some ⟨g, 0, none⟩) 2 cap) := cX
            rw [hq] at HTK
            clear hq
            go_wp2
            go_roundw
            case rel => exact ⟨i + 1, hil, by go_num, by rw [HTK.out]; go_num, by rw [HTK.out]; simp, by first | exact HG.out | exact HG.out.drew⟩
            case measure => simp [intOf]; omega
        · have hil' : ¬ (i : Int) < (s.size : Int) := by omega
          obtain rfl : i = s.size := by omega
          have HTA : Hid ((l.take s.size).countP isE = l.countP isE) := by show _ = _; rw [List.take_of_length_le (by omega)]
          rw [HTA.out, HN.out]
          go_wp2
          go_meet
          exact ⟨rfl, rfl, HG.out⟩
  case rest =>
    obtain ⟨rfl, rfl, HG⟩ := hcut
    by_cases hN0 : N = 0
    · have HE : Hid ((⟨(escF l).toArray⟩ : ByteArray) = s) := HNS.out hN0
      subst hN0
      go_wp2
      go_ret
      exact ⟨by rw [HE.out]; rfl, HG.out.below⟩
    · have hN1 : 0 < N := by omega
      obtain ⟨M, hM⟩ : ∃ z, s.size + N = z := ⟨_, rfl⟩
      have HLM : Hid ((escF l).length = M) := by show _ = _; rw [HLE.out, hM]
      have hM2 : M ≤ 2199023255552 := by omega
      obtain ⟨i0, hi, hz0, hz1, hz2⟩ := info_parts (by kernel_rfl : (Tryz.prog.info? 5).map (fun i => (i.zero, i.size, i.bytes)) = some (some (.int .u8 0), 1, 1))
      have hmk := run_make (P := Tryz.prog) wc 42 5 i0 (.int .u8 0) (by kernel_rfl) hi hz0 .i64 .i64 (M : Int) (M : Int) (by omega) (Int.le_refl _) (by rw [hz2]; omega) (by omega)
      obtain ⟨C0, hC0⟩ : ∃ z : List Value, (madeCells (Value.int .u8 0).cells ((M : Int).toNat * i0.size)).toList = z := ⟨_, rfl⟩
      have hC1 : C0.length = M := by rw [← hC0, Array.length_toList, size_madeCells, hz1]; simp
      have hC2 : madeCells (Value.int .u8 0).cells ((M : Int).toNat * i0.size) = C0.toArray := by rw [← hC0]
      obtain ⟨W1, hW1⟩ : ∃ z, wc.alloc (.cells C0.toArray 5) = z := ⟨_, rfl⟩
      obtain ⟨G, hG⟩ : ∃ z, wc.heap.size = z := ⟨_, rfl⟩
      rw [hC2, hW1, hG, Int.toNat_natCast] at hmk
      have HS : Hid (W1.heap[G]? = some (.cells C0.toArray 5 (0, 0)) ∧ C0.length = M) := ⟨by rw [← hW1, ← hG]; show (wc.heap.push _)[wc.heap.size]? = _; exact Array.getElem?_push_size, hC1⟩
      have HB1 : Hid (Below w.heap.size w W1) := by rw [← hW1]; exact (HG.out.alloc _).below
      have HGW : Hid (w.heap.size ≤ G) := by rw [← hG]; exact HG.out.below.size
      clear hC0 hC1 hC2 hW1 hG
      rw [hM]
      go_wp2
      go_loopw [13, 14] (fun jv iv wr => ∃ (i j : Nat) (cur : List Value), iv = .int .i64 (i : Int) ∧ jv = .int .i64 (j : Int) ∧ i ≤ s.size ∧ j ≤ M ∧ Hid (j = (escF (l.take i)).length) ∧ Hid (wr.heap[G]? = some (.cells cur.toArray 5 (0, 0)) ∧ cur.length = M) ∧ Hid (cur.take j = Lib.byteCells (escF (l.take i))) ∧ Hid (Below w.heap.size w wr)) (fun _ iv _ => s.size - (intOf iv).toNat)
      case atStart => exact ⟨0, 0, C0, rfl, rfl, Nat.zero_le _, Nat.zero_le _, rfl, HS.out, rfl, HB1.out⟩
      case round =>
        obtain ⟨i, j, cur, rfl, rfl, hi2, hj2, HJ, HC, HT2, HBR⟩ := hrel
        by_cases hil : i < s.size
        · have hil' : (i : Int) < (s.size : Int) := by omega
          obtain ⟨x, hx⟩ : ∃ z, s[i] = z := ⟨_, rfl⟩
          have hlx : i < l.length := by omega
          have HTK : Hid (escF (l.take (i + 1)) = escF (l.take i) ++ escQ x) := by
            show _ = _
            have h1 : l[i] = x := by
              have := HGT.out i hil
              rw [List.getElem?_eq_getElem hlx] at this
              rw [Option.some.inj this, hx]
            rw [List.take_succ_eq_append_getElem hlx, escF_snoc, h1]
          have hjM : j + (escQ x).length ≤ M := by
            have h1 : (escF (l.take (i + 1))).length ≤ (escF l).length := by
              conv => rhs; rw [← List.take_append_drop (i + 1) l]
              unfold escF
              rw [List.flatMap_append, List.length_append]
              omega
            rw [HTK.out, List.length_append, ← HJ.out, HLM.out] at h1
            exact h1
          have hal : x.toNat < 256 := x.toNat_lt
          have hal' : (x.toNat : Int) < 256 := by omega
          cases hq : isE x with
          | false =>
            have hxe : escQ x = [x] := by
              have := escQ_len2 x
              have h1 : x ≠ 34 := fun e => by subst e; exact absurd hq (by decide)
              have h2 : x ≠ 92 := fun e => by subst e; exact absurd hq (by decide)
              have h3 : x ≠ 10 := fun e => by subst e; exact absurd hq (by decide)
              unfold escQ
              rw [if_neg h1, if_neg h2, if_neg h3]
            have cX := (hX.out.below HBR.out).rep x hq
            rw [hxe] at HTK hjM
            have hjM' : j < M := by simp at hjM; omega
            have cG : wr.cell? ⟨G, j, none⟩ = some (cur[j]'(by rw [HC.out.2]; exact hjM')) := by
              rw [Lib.cell_of_heap HC.out.1]
              simp
            have fG : wr.frozen? ⟨G, j, none⟩ = false := Lib.frozen_of_heap HC.out.1 j
            obtain ⟨W2, hW2⟩ : ∃ z, wr.setCell ⟨G, j, none⟩ (.int .u8 (x.toNat : Int)) = z := ⟨_, rfl⟩
            have HC2 : Hid (W2.heap[G]? = some (.cells (cur.set j (.int .u8 (x.toNat : Int))).toArray 5 (0, 0)) ∧ (cur.set j (.int .u8 (x.toNat : Int))).length = M) := by
              refine ⟨?_, by rw [List.length_set]; exact HC.out.2⟩
              rw [← hW2, heap_setCell_same wr G j _ _ _ HC.out.1]
              simp
            have HT3 : Hid ((cur.set j (.int .u8 (x.toNat : Int))).take (j + 1) = Lib.byteCells (escF (l.take (i + 1)))) := by
              show _ = _
              have hjl : j < cur.length := by rw [HC.out.2]; exact hjM'
              rw [HTK.out, Lib.byteCells_append, ← HT2.out, List.take_succ_eq_append_getElem (by rw [List.length_set]; exact hjl), List.take_set_of_le (Nat.le_refl _), List.getElem_set_self]
              rfl
            have HJ2 : Hid (j + 1 = (escF (l.take (i + 1))).length) := by show _ = _; rw [HTK.out, List.length_append, ← HJ.out]; rfl
            have HB2 : Hid (Below w.heap.size w W2) := by rw [← hW2]; exact HBR.out.setCell (p := ⟨G, j, none⟩) HGW.out _
            clear hq hxe
            go_wp2
            refine ⟨⟨i + 1, j + 1, _, by go_num, by go_num, hil, hjM', HJ2.out, HC2.out, HT3.out, HB2.out⟩, ?_⟩
            simp [intOf]; omega
          | true =>
            obtain ⟨g, cap, cX, hgl, y, hxe, cg0, cg1⟩ := (hX.out.below HBR.out).esc x hq
            rw [hxe] at HTK hjM
            have hjM' : j + 2 ≤ M := by simpa using hjM
            have cX0 : wr.drew.cell? ⟨X, x.toNat, none⟩ = some (.slice (some ⟨g, 0, none⟩) 2 cap) := cX
            obtain ⟨W2, hW2⟩ : ∃ z, wr.drew.setRow G (splice cur j [.int .u8 92, .int .u8 (y.toNat : Int)]).toArray = z := ⟨_, rfl⟩
            have hcp : ∀ c1 c2, 2 ≤ c1 → (Builtin.copy_ #[42, 42] 3 #[.slice (some ⟨G, j, none⟩) c1 c2, .slice (some ⟨g, 0, none⟩) 2 cap]).run Tryz.prog wr.drew = .ok (.int .i64 2) W2 := fun c1 c2 h2 => by
              rw [← hW2]
              exact run_copy_two (P := Tryz.prog) wr.drew 42 42 3 5 G j c1 c2 ⟨g, 0, none⟩ cap cur 5 _ _ (by kernel_rfl) (by kernel_rfl) HC.out.1 h2 cg0 cg1 (by rw [HC.out.2]; exact hjM') rfl rfl
            have hcp1 := hcp (M - j) (M - j) (by omega)
            have hlen : (splice cur j [.int .u8 92, .int .u8 (y.toNat : Int)]).length = M := by rw [length_splice _ _ _ (by rw [HC.out.2]; exact hjM')]; exact HC.out.2
            have HC2 : Hid (W2.heap[G]? = some (.cells (splice cur j [.int .u8 92, .int .u8 (y.toNat : Int)]).toArray 5 (0, 0)) ∧ (splice cur j [.int .u8 92, .int .u8 (y.toNat : Int)]).length = M) := by
              refine ⟨?_, hlen⟩
              rw [← hW2]
              exact setRow_heap wr.drew G _ _ _ _ HC.out.1
            have HT3 : Hid ((splice cur j [.int .u8 92, .int .u8 (y.toNat : Int)]).take (j + 2) = Lib.byteCells (escF (l.take (i + 1)))) := by
              show _ = _
              have hjl : j + 2 ≤ cur.length := by rw [HC.out.2]; exact hjM'
              rw [HTK.out, Lib.byteCells_append, ← HT2.out]
              unfold splice
              have hlt : (cur.take j).length = j := by rw [List.length_take]; omega
              rw [List.take_append, hlt, List.take_of_length_le (by omega), show j + 2 - j = 2 by omega]
              rfl
            have HJ2 : Hid (j + 2 = (escF (l.take (i + 1))).length) := by show _ = _; rw [HTK.out, List.length_append, ← HJ.out]; rfl
            have HB2 : Hid (Below w.heap.size w W2) := by rw [← hW2]; exact below_setRow (Below.drew HBR.out) HGW.out _
            clear hq hxe hcp hlen
            have hjI : (j : Int) ≤ (M : Int) := by omega
            go_wp2
            go_region
            all_goals
              go_wp2
              refine ⟨⟨i + 1, j + 2, _, by go_num, by go_num, hil, hjM', HJ2.out, HC2.out, HT3.out, HB2.out⟩, ?_⟩
              simp [intOf]; omega
        · have hil' : ¬ (i : Int) < (s.size : Int) := by omega
          obtain rfl : i = s.size := by omega
          have HTA : Hid (l.take s.size = l) := List.take_of_length_le (by omega)
          rw [HTA.out] at HJ HT2
          have hjM : j = M := by rw [HJ.out, HLM.out]
          subst hjM
          have hcb : (convert 42 9 (.slice (some ⟨G, 0, none⟩) j j)).run Tryz.prog wr = .ok (.string ⟨(escF l).toArray⟩) wr := by
            have := run_convert_bytes_back (P := Tryz.prog) wr 42 9 5 ⟨G, 0, none⟩ j (escF l) (by kernel_rfl) (by kernel_rfl) (by kernel_rfl) (fun k hk => by
              show wr.cell? ((⟨G, 0, none⟩ : Addr).add k) = _
              have e : (⟨G, 0, none⟩ : Addr).add k = ⟨G, k, none⟩ := by unfold Addr.add; split <;> simp_all
              rw [e, Lib.cell_of_heap HC.out.1]
              have h1 : (cur.take j)[k]? = some (.int .u8 ((escF l)[k].toNat : Int)) := by
                rw [HT2.out]
                unfold Lib.byteCells
                rw [List.getElem?_map, List.getElem?_eq_getElem hk]
                rfl
              rw [List.getElem?_take] at h1
              split at h1
              · simpa using h1
              · cases h1)
            rw [← HJ.out] at this
            exact this
          go_wp2
          go_ret
          exact ⟨rfl, HBR.out⟩

end Go.Proofs.YtnkebfmlaliddaaGreatDoor

namespace Go.Proofs.YtnkebfmlaliddaaGreatDoor
open Go.RowKit Go.Sort
set_option linter.unusedVariables false

def onL : List Value := [.string ⟨#[34]⟩, .string ⟨#[92, 34]⟩, .string ⟨#[92]⟩, .string ⟨#[92, 92]⟩, .string ⟨#[10]⟩, .string ⟨#[92, 110]⟩]
/-- A replacer that was never asked. -/
structure Rp0 (w W : World) (R O c : Nat) : Prop where
  at_ : W.heap[R]? = some (.cells #[.int .u32 0, .int .i32 0, .int .u32 0, .nilIface, .slice (some ⟨O, 0, none⟩) 6 c] 140 (0, 0))
  on : OnAt W O
  low : w.heap.size ≤ R
  lo : O < W.heap.size
  ne : O ≠ R
  bel : Below w.heap.size w W
set_option maxRecDepth 100000 in
set_option maxHeartbeats 4000000 in
theorem newRep_any (O0 : Nat) (w : World) (h : Hid (∀ j u, onL[j]? = some u → w.cell? ⟨O0, j, none⟩ = some u)) :
    Calls Tryz.prog 56 #[.slice (some ⟨O0, 0, none⟩) 6 6] w fun e w' => ∃ R O c, e = .returned (.pointer (some ⟨R, 0, none⟩)) ∧ Hid (Rp0 w w' R O c) := by
  obtain ⟨i0, hi, hz0, hz1, hz2⟩ := info_parts (by kernel_rfl : (Tryz.prog.info? 9).map (fun i => (i.zero, i.size, i.bytes)) = some (some (.string ⟨#[]⟩), 1, 16))
  go_enter Tryz.func56, Tryz.ntmps56
  go_wp2_with (at_builtin; go_loud (refine wpList_append_own _ rfl _ _ 76 rfl w.heap.size 9 i0 (.string ⟨#[]⟩) 1 16 (by kernel_rfl) hi hz0 hz1 hz2 rfl (by decide) (.slice none 0 0) 0 [] rfl ⟨rfl, .inl ⟨rfl, rfl⟩⟩ ⟨O0, 0, none⟩ 6 6 onL rfl rfl ?c1 ?c2 ?c3 ?c4 ?c5 ?_))
  case c1 =>
    intro j u hj
    have e : (⟨O0, 0, none⟩ : Addr).add j = ⟨O0, j, none⟩ := by unfold Addr.add; split <;> simp_all
    rw [e]
    exact h.out j u hj
  case c2 =>
    intro u hu
    simp [onL] at hu
    rcases hu with rfl | rfl | rfl | rfl | rfl | rfl <;> rfl
  case c3 => unfold maxLen; omega
  case c4 => omega
  case c5 => exact Nat.le_refl _
  intro v' w2 hown' hgrow _
  rcases hown'.2 with ⟨_, h0⟩ | ⟨O, c, cur, rfl, hb, hg, hq⟩
  · omega
  have hb2 : Below w.heap.size w w2 := (Below.refl _ w).grown hgrow (Nat.le_refl _) (fun k hk => by cases hk)
  have HB2 : Hid (Below w.heap.size w w2) := hb2
  have hO : O < w2.heap.size := (Array.getElem?_eq_some_iff.1 hg).1
  have HON : Hid (∀ j u, onL[j]? = some u → w2.cell? ⟨O, j, none⟩ = some u) := fun j u hj => by
    have hj6 : j < 6 := (List.getElem?_eq_some_iff.1 hj).1
    have h2 := hown'.cellAt j (by omega)
    rw [h2]
    exact hj
  clear hown' hgrow hb hg hq hb2
  go_wp2
  go_ret
  refine ⟨w2.heap.size, O, c, rfl, ?_, ?_, HB2.out.size, ?_, ?_, ?_⟩
  · show (w2.heap.push _)[w2.heap.size]? = _
    exact Array.getElem?_push_size
  · have hc : ∀ j u, onL[j]? = some u → (w2.alloc (.cells #[.int .u32 0, .int .i32 0, .int .u32 0, .nilIface, .slice (some ⟨O, 0, none⟩) 6 c] 140)).cell? ⟨O, j, none⟩ = some u := fun j u hj => (((Gr.refl w2).alloc _).below.cell (p := ⟨O, j, none⟩) hO).trans (HON.out j u hj)
    intro k hk
    match k, hk with
    | 0, _ => exact ⟨hc 4 _ rfl, hc 5 _ rfl⟩
    | 1, _ => exact ⟨hc 2 _ rfl, hc 3 _ rfl⟩
    | 2, _ => exact ⟨hc 0 _ rfl, hc 1 _ rfl⟩
  · have := (((Gr.refl w2).alloc (.cells #[.int .u32 0, .int .i32 0, .int .u32 0, .nilIface, .slice (some ⟨O, 0, none⟩) 6 c] 140)).below).size
    omega
  · omega
  · exact HB2.out.trans ((((Gr.refl w2).alloc _).below).mono HB2.out.size)

/-- The replacer behind buildOnce, the lock held. -/
structure Rp1 (w W : World) (R X : Nat) : Prop where
  at_ : W.heap[R]? = some (.cells #[.int .u32 0, .int .i32 1, .int .u32 0, .iface 188 (.pointer (some ⟨X, 0, none⟩)), .slice none 0 0] 140 (0, 0))
  bk : ∃ W0 tv rv, BsK w W0 X 3 tv rv ∧ Up w.heap.size W0 W
  bel : ∀ b, b < w.heap.size → b ≠ R → W.heap[b]? = w.heap[b]?
  size : w.heap.size ≤ W.heap.size
  os : W.os = w.os
  tape : W.tape = w.tape
  output : W.output = w.output
set_option maxRecDepth 100000 in
set_option maxHeartbeats 4000000 in
theorem buildOnce_any (R O c : Nat) (w : World) (hR : w.heap[R]? = some (.cells #[.int .u32 0, .int .i32 1, .int .u32 0, .nilIface, .slice (some ⟨O, 0, none⟩) 6 c] 140 (0, 0))) (hOl : O < w.heap.size) (hO : Hid (OnAt w O)) :
    Calls Tryz.prog 86 #[.pointer (some ⟨R, 0, none⟩)] w fun e w' => e = .returned (.tuple #[]) ∧ Hid (∃ X, Rp1 w w' R X) := by
  have h4 : w.cell? ⟨R, 4, none⟩ = some (.slice (some ⟨O, 0, none⟩) 6 c) := by rw [Lib.cell_of_heap hR]; rfl
  have hRl : R < w.heap.size := (Array.getElem?_eq_some_iff.1 hR).1
  have BA : Hid (Calls Tryz.prog 98 #[.pointer (some ⟨R, 0, none⟩)] w fun e w' => ∃ X, e = .returned (.iface 188 (.pointer (some ⟨X, 0, none⟩))) ∧ ∃ tv rv, Hid (BsK w w' X 3 tv rv)) := build_any R O c w hOl h4 hO
  have HR : Hid (w.heap[R]? = some (.cells #[.int .u32 0, .int .i32 1, .int .u32 0, .nilIface, .slice (some ⟨O, 0, none⟩) 6 c] 140 (0, 0))) := hR
  clear hR h4 hO
  go_enter Tryz.func86, Tryz.ntmps86
  go_wp2_with fail
  refine BA.out.mono ?_
  rintro e w1 ⟨X, rfl, tv, rv, HB⟩
  have hR1 : w1.heap[R]? = some (.cells #[.int .u32 0, .int .i32 1, .int .u32 0, .nilIface, .slice (some ⟨O, 0, none⟩) 6 c] 140 (0, 0)) := (HB.out.bel.block R hRl).trans HR.out
  have c3 : w1.cell? ⟨R, 3, none⟩ = some .nilIface := by rw [Lib.cell_of_heap hR1]; rfl
  have f3 : w1.frozen? ⟨R, 3, none⟩ = false := Lib.frozen_of_heap hR1 3
  have hR2 : (w1.setCell ⟨R, 3, none⟩ (.iface 188 (.pointer (some ⟨X, 0, none⟩)))).heap[R]? = some (.cells #[.int .u32 0, .int .i32 1, .int .u32 0, .iface 188 (.pointer (some ⟨X, 0, none⟩)), .slice (some ⟨O, 0, none⟩) 6 c] 140 (0, 0)) := heap_setCell_same w1 R 3 _ _ _ hR1
  have c4 : (w1.setCell ⟨R, 3, none⟩ (.iface 188 (.pointer (some ⟨X, 0, none⟩)))).cell? ⟨R, 4, none⟩ = some (.slice (some ⟨O, 0, none⟩) 6 c) := by rw [Lib.cell_of_heap hR2]; rfl
  have f4 : (w1.setCell ⟨R, 3, none⟩ (.iface 188 (.pointer (some ⟨X, 0, none⟩)))).frozen? ⟨R, 4, none⟩ = false := Lib.frozen_of_heap hR2 4
  have HEND : Hid (Rp1 w ((w1.setCell ⟨R, 3, none⟩ (.iface 188 (.pointer (some ⟨X, 0, none⟩)))).setCell ⟨R, 4, none⟩ (.slice none 0 0)) R X) := by
    have hR3 := heap_setCell_same _ R 4 _ _ (.slice none 0 0) hR2
    have oth : ∀ b, b ≠ R → ((w1.setCell ⟨R, 3, none⟩ (.iface 188 (.pointer (some ⟨X, 0, none⟩)))).setCell ⟨R, 4, none⟩ (.slice none 0 0)).heap[b]? = w1.heap[b]? := fun b hb => (Below.heap_setCell _ _ _ _ (fun e => hb (by simpa using e))).trans (Below.heap_setCell _ _ _ _ (fun e => hb (by simpa using e)))
    have hsz : ((w1.setCell ⟨R, 3, none⟩ (.iface 188 (.pointer (some ⟨X, 0, none⟩)))).setCell ⟨R, 4, none⟩ (.slice none 0 0)).heap.size = w1.heap.size := by simp [World.setCell]
    have hbs := HB.out.bel.size
    exact ⟨hR3, ⟨w1, tv, rv, HB.out, ⟨by omega, fun b hb _ => oth b (by omega)⟩⟩, fun b hb hbR => (oth b hbR).trans (HB.out.bel.block b hb), by omega, HB.out.bel.os, HB.out.bel.tape, HB.out.bel.output⟩
  clear hR1 hR2 HB
  go_wp2
  go_end0
  exact ⟨rfl, X, HEND.out⟩

end Go.Proofs.YtnkebfmlaliddaaGreatDoor
