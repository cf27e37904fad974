/-
  The printer's printAttributes.
-/
import Derived.Test.YtnkebfmlaliddaaGreatDoorP29
import Derived.Test.YtnkebfmlaliddaaGreatDoorP31
import Derived.Test.YtnkebfmlaliddaaGreatDoorP05
import Derived.Test.YtnkebfmlaliddaaGreatDoorP10
import Derived.Deep.RegionLaw
import Derived.Laws.EntriesVeiled
namespace Go.Proofs.YtnkebfmlaliddaaGreatDoor
open Go.RowKit Go.Sort
set_option linter.unusedVariables false

/-- One attribute as it is told. -/
def tb1 (a : List Int) (k : Nat) : List UInt8 := (nmAt k).data.toList ++ 61 :: dcn (a[k]?.getD 0).toNat
/-- All that are told, up to k. -/
def tld (a : List Int) : Nat → List ByteArray
  | 0 => []
  | k + 1 => if a[k]?.getD 0 ≠ woAt k then tld a k ++ [⟨(tb1 a k).toArray⟩] else tld a k
theorem tld_len (a : List Int) : ∀ k, (tld a k).length ≤ k
  | 0 => Nat.le_refl _
  | k + 1 => by
    have := tld_len a k
    unfold tld
    split
    · rw [List.length_append]; simp; omega
    · omega
theorem tail_snoc (sep : List UInt8) (r : List (List UInt8)) (y : List UInt8) : Lib.joinTail sep (r ++ [y]) = Lib.joinTail sep r ++ (sep ++ y) := by
  unfold Lib.joinTail
  simp
theorem join_snoc (x : List UInt8) (r : List (List UInt8)) (y sep : List UInt8) : Lib.join (x :: r ++ [y]) sep = Lib.join (x :: r) sep ++ (sep ++ y) := by
  rw [List.cons_append, Lib.join_cons, Lib.join_cons, tail_snoc, List.append_assoc]
theorem tld_bra (a : List Int) : ∀ k, (tld a k = [] ↔ braF a k = []) ∧ Lib.join ((tld a k).map (·.data.toList)) [59] = braF a k
  | 0 => ⟨⟨fun _ => rfl, fun _ => rfl⟩, rfl⟩
  | k + 1 => by
    obtain ⟨h1, h2⟩ := tld_bra a k
    have hne : tb1 a k ≠ [] := by unfold tb1; simp
    unfold tld braF
    by_cases c : a[k]?.getD 0 ≠ woAt k
    · have c2 : a[k]?.getD 0 ≠ withoutL[k]?.getD 0 := c
      rw [if_pos c, if_pos c2]
      have e3 : (namesL[k]?.getD ByteArray.empty).data.toList ++ 61 :: dcn (a[k]?.getD 0).toNat = tb1 a k := rfl
      rw [e3]
      refine ⟨⟨fun e => by simp at e, fun e => by
        have := (List.append_eq_nil_iff.1 e).2
        exact absurd this hne⟩, ?_⟩
      rw [List.map_append]
      have e4 : ([(⟨(tb1 a k).toArray⟩ : ByteArray)]).map (·.data.toList) = [tb1 a k] := rfl
      rw [e4]
      cases ht : tld a k with
      | nil =>
        rw [if_pos (h1.1 ht)]
        show Lib.join ([] ++ [tb1 a k]) [59] = [] ++ tb1 a k
        rw [List.nil_append, Lib.join_one, List.nil_append]
      | cons x r =>
        rw [if_neg (fun e => by rw [h1.2 e] at ht; cases ht), ← h2, ht, List.map_cons, join_snoc, List.append_assoc]
    · have c2 : ¬ a[k]?.getD 0 ≠ withoutL[k]?.getD 0 := c
      rw [if_neg c, if_neg c2]
      exact ⟨h1, h2⟩
theorem nm_len (k : Nat) : (nmAt k).data.toList.length ≤ 6 := by
  by_cases h : k < 12
  · have : k = 0 ∨ k = 1 ∨ k = 2 ∨ k = 3 ∨ k = 4 ∨ k = 5 ∨ k = 6 ∨ k = 7 ∨ k = 8 ∨ k = 9 ∨ k = 10 ∨ k = 11 := by omega
    rcases this with rfl | rfl | rfl | rfl | rfl | rfl | rfl | rfl | rfl | rfl | rfl | rfl <;> decide
  · unfold nmAt
    rw [List.getElem?_eq_none (by show 12 ≤ k; omega)]
    decide
/-- Attributes whose numbers are told. -/
def AttB (a : List Int) : Prop := ∀ k, k < 12 → a[k]?.getD 0 ≠ withoutL[k]?.getD 0 → 0 ≤ a[k]?.getD 0 ∧ a[k]?.getD 0 ≤ 1000000
theorem tb1_len {a : List Int} (h : AttB a) {k : Nat} (hk : k < 12) (hne : a[k]?.getD 0 ≠ withoutL[k]?.getD 0) : (tb1 a k).length ≤ 1000008 := by
  unfold tb1
  have h1 := nm_len k
  have h2 := dcn_len (a[k]?.getD 0).toNat
  have h3 := h k hk hne
  rw [List.length_append, List.length_cons]
  omega
theorem braR_len {a : List Int} (h : AttB a) : (braR a).length ≤ 24000002 := by
  have := braF_len a h 12 (Nat.le_refl _)
  unfold braR
  split
  · exact Nat.zero_le _
  · rw [List.length_cons, List.length_append, List.length_cons, List.length_nil]; omega
theorem below_tab {W W' : World} {ab : Nat} (h : Tab W ab) (hb : Below W.heap.size W W') : Tab W' ab := h.fr (r := W.heap.size) (Fr.below hb (Nat.le_refl _)) h.lt (by have := h.lt; omega)

theorem step_append_own {P : Program} {ops : Array Oper} {o : Oper} {a : Act} {w : World} {K : Act → World → Prop} {Q : Exit → Act → World → Prop} {E : Prop}
    (hg : o.guard = none) (s x : Operand) (t : TypeId) (hop : o.op = Op.call { callee := Callee.builtin Builtin.append, args := #[s, x], argTypes := #[t, t] })
    (base : Nat) (e : TypeId) (i : TypeInfo) (z : Value) (size bytes : Nat) (h1 : P.underlying t = some (.slice e)) (h2 : P.info? e = some i) (h3 : i.zero = some z) (h4 : i.size = size) (h5 : i.bytes = bytes) (h6 : z.cells.size = size) (h7 : 0 < size)
    (v : Value) (n : Nat) (olds : List Value) (hs : a.eval s = v) (hown : w.ownsRow base e size v n olds)
    (ad : Addr) (m c : Nat) (news : List Value) (hx : a.eval x = .slice (some ad) m c) (hn : news.length = m * size) (hc : ∀ j u, news[j]? = some u → w.cell? (ad.add j) = some u) (h1c : ∀ u ∈ news, u.oneCell' = true)
    (b1 : n + m ≤ maxLen) (b2 : (n + m) * bytes ≤ 140737488355328) (b3 : base ≤ w.heap.size)
    (hK : ∀ v' w', w'.ownsRow base e size v' (n + m) (olds ++ news) → w.grownBy w' v.ownBlock → K (a.put o.dst v') w') :
    if Region.wanted o (yielded ops a.tmps) = true then Oper.wp P o a w K Q else E := by
  have hw : Region.wanted o (yielded ops a.tmps) = true := by simp [Region.wanted, hg]
  rw [if_pos hw]
  obtain ⟨v', w', hrun, r1, r2, _⟩ := run_append_own (P := P) w base t o.type e i z size bytes h1 h2 h3 h4 h5 h6 h7 v n olds hown ad m c news hn hc h1c b1 b2 b3
  unfold Oper.wp
  simp [execOp, hop, resolve, invoke, builtin, hs, hx, hrun, Result.andThen]
  exact hK v' w' r1 r2
theorem one_new (w : World) (u : Value) (T : TypeId) (j : Nat) (x : Value) (h : [u][j]? = some x) : (w.alloc (.cells #[u] T)).cell? ((⟨w.heap.size, 0, none⟩ : Addr).add j) = some x := by
  match j with
  | 0 => simp at h; subst h; simp [Addr.add]
  | j + 1 => simp at h
theorem step_call {P : Program} {ops : Array Oper} {o : Oper} {a : Act} {w : World} {K : Act → World → Prop} {Q : Exit → Act → World → Prop} {E : Prop}
    (hg : o.guard = none) (f : FuncId) (xs : Array Operand) (ts : Array TypeId) (hop : o.op = Op.call { callee := Callee.value (Operand.func f), args := xs, argTypes := ts }) (args : Array Value) (hx : xs.map a.eval = args)
    (hent : ∀ args w, (callFunc f args).run P w = .ok (.enter f args) w) (post : Ending → World → Prop) (hC : Calls P f args w post) (hK : ∀ e w', post e w' → ∃ v, e = .returned v ∧ K (a.put o.dst v) w') :
    if Region.wanted o (yielded ops a.tmps) = true then Oper.wp P o a w K Q else E := by
  have hw : Region.wanted o (yielded ops a.tmps) = true := by simp [Region.wanted, hg]
  rw [if_pos hw]
  have he : (execOp a.eval o).run P w = .ok (.enter f args) w := by
    simp [execOp, hop, resolve, invoke, hx, hent, Act.eval, Deferred.ofValue]
  unfold Oper.wp
  rw [he, Oper.upon_enter]
  refine hC.mono ?_
  rintro e w' h
  obtain ⟨v, rfl, hk⟩ := hK e w' h
  exact hk

set_option maxRecDepth 100000 in
set_option maxHeartbeats 8000000 in
theorem printAttrs_any (a : List Int) (g o ab : Nat) (B b : Nat) (nv : Value) (l : List UInt8) (w : World) (h : Hid (PrL w B b nv (.slice (some ⟨ab, 0, none⟩) 12 12) l)) (hT : Hid (Tab w ab)) (hTn : Hid (TensAt w)) (hTg : 9 < w.heap.size)
    (hg : g < w.heap.size) (hA : Hid (∀ k, k < 12 → w.cell? ⟨g, o + (k + 1), none⟩ = some (.int .i64 (a[k]?.getD 0)))) (hB : Hid (AttB a)) (hl : l.length ≤ 70368744177664) :
    Calls Tryz.prog 35 #[.pointer (some ⟨b, 0, none⟩), .pointer (some ⟨g, o, none⟩)] w fun e w' => e = .returned (.tuple #[]) ∧ Hid (PrL w' B b nv (.slice (some ⟨ab, 0, none⟩) 12 12) (l ++ braR a)) ∧ Hid (Below B w w') := by
  obtain ⟨i0, hi, hz0, hz1, hz2⟩ := info_parts (by kernel_rfl : (Tryz.prog.info? 9).map (fun i => (i.zero, i.size, i.bytes)) = some (some (.string ⟨#[]⟩), 1, 16))
  have cb : w.cell? ⟨b, 1, none⟩ = some (.slice (some ⟨ab, 0, none⟩) 12 12) := by
    obtain ⟨p, v, q⟩ := h.out
    exact q.cell (k := 1) rfl
  have hmix : Tryz.prog.follows .mixedOrders = true := by kernel_rfl
  go_enter Tryz.func35, Tryz.ntmps35
  go_wp2
  go_loopw [4, 13] (fun tv kv wr => ∃ k : Nat, k ≤ 12 ∧ kv = .int .i64 (k : Int) ∧ Hid (wr.ownsRow w.heap.size 9 1 tv (tld a k).length ((tld a k).map Value.string) ∧ Below w.heap.size w wr)) (fun _ kv _ => 12 - (intOf kv).toNat)
  case atStart => exact ⟨0, by omega, rfl, World.ownsRow_nil _ _ _ _, Below.refl _ _⟩
  case round =>
    obtain ⟨k, hk, rfl, HR⟩ := hrel
    by_cases hlt : k < 12
    · have hlt' : (k : Int) < 12 := by omega
      have hT1 := below_tab hT.out HR.out.2
      obtain ⟨t0, t1, t2, t3, t4, t5⟩ := hT1.at hlt
      have hT2 := hT1.lt
      obtain ⟨x, hx⟩ : ∃ x, a[k]?.getD 0 = x := ⟨_, rfl⟩
      have hga : g < wr.heap.size := Nat.lt_of_lt_of_le hg HR.out.2.size
      have n1 : ∀ ob, (wr.alloc ob).cell? ⟨g, o + (k + 1), none⟩ = some (.int .i64 x) := fun ob => by
        rw [← hx]
        exact ((((Gr.refl wr).alloc ob).below.cell (p := ⟨g, o + (k + 1), none⟩) hga).trans ((HR.out.2.cell (p := ⟨g, o + (k + 1), none⟩) hg).trans (hA.out k hlt)))
      have HQ : Hid (InAt (fnAt k) k) := in_at k hlt
      have HTL : Hid (tld a (k + 1) = if x ≠ woAt k then tld a k ++ [⟨(tb1 a k).toArray⟩] else tld a k) := by show _ = _; rw [← hx]; rfl
      have HXA : Hid (x = a[k]?.getD 0) := hx.symm
      obtain ⟨fg, hfg⟩ : ∃ g, fnAt k = g := ⟨_, rfl⟩
      obtain ⟨a0, h0⟩ : ∃ x, nmAt k = x := ⟨_, rfl⟩
      obtain ⟨a1, h1⟩ : ∃ x, kdAt k = x := ⟨_, rfl⟩
      obtain ⟨a2, h2⟩ : ∃ x, moAt k = x := ⟨_, rfl⟩
      obtain ⟨a3, h3⟩ : ∃ x, woAt k = x := ⟨_, rfl⟩
      obtain ⟨a4, h4⟩ : ∃ x, sgAt k = x := ⟨_, rfl⟩
      rw [h0] at t0
      rw [h1] at t1
      rw [h2] at t2
      rw [h3] at t3 HTL
      rw [h4] at t4
      rw [hfg] at t5 HQ
      have H0 : Hid (nmAt k = a0) := h0
      have H3 : Hid (woAt k = a3) := h3
      have eg := HQ.out.1
      clear h0 h1 h2 h3 h4 hfg hT1 hx
      by_cases hxw : x = a3
      · have HT1 : Hid (tld a (k + 1) = tld a k) := by show _ = _; rw [HTL.out, if_neg (by simpa using hxw)]
        subst hxw
        go_wp2_with (go_at_fn fg; refine (HQ.out.2 _ _ _).mono ?_; rintro e w2 ⟨rfl, rfl⟩)
        go_roundw
        case rel => exact ⟨k + 1, by omega, by go_num, by rw [HT1.out]; exact HR.out.1.alloc _, (HR.out.2.alloc HR.out.2.size _)⟩
        case measure => simp [intOf]; omega
      · have HT1 : Hid (tld a (k + 1) = tld a k ++ [⟨(tb1 a k).toArray⟩]) := by show _ = _; rw [HTL.out, if_pos hxw]
        have hxb : 0 ≤ x ∧ x ≤ 1000000 := by rw [HXA.out]; exact hB.out k hlt (by rw [← HXA.out]; show x ≠ woAt k; rw [H3.out]; exact hxw)
        obtain ⟨n, hn⟩ : ∃ n : Nat, x = (n : Int) := ⟨x.toNat, by omega⟩
        subst hn
        have hne : ((n : Int) != a3) = true := by simpa using hxw
        obtain ⟨wA, hwA⟩ : ∃ z, wr.alloc (.cells #[.string a0, .int .u64 (a1 : Int), .int .i64 a2, .int .i64 a3, .bool a4, .func (.func fg) #[] #[]] 64) = z := ⟨_, rfl⟩
        obtain ⟨A, hAz⟩ : ∃ z, wr.heap.size = z := ⟨_, rfl⟩
        have hAt : wA.heap[A]? = some (.cells #[.string a0, .int .u64 (a1 : Int), .int .i64 a2, .int .i64 a3, .bool a4, .func (.func fg) #[] #[]] 64 (0, 0)) := by rw [← hwA, ← hAz]; show (wr.heap.push _)[wr.heap.size]? = _; exact Array.getElem?_push_size
        have hAl : A < wA.heap.size := (Array.getElem?_eq_some_iff.1 hAt).1
        have hbA : Below wr.heap.size wr wA := by rw [← hwA]; exact ((Gr.refl wr).alloc _).below
        have HBA : Hid (Below w.heap.size w wA) := HR.out.2.trans (hbA.mono HR.out.2.size)
        have HOA : Hid (wA.ownsRow w.heap.size 9 1 u4 (tld a k).length ((tld a k).map Value.string)) := by rw [← hwA]; exact HR.out.1.alloc _
        have cA : ∀ u, Below wA.heap.size wA u → u.cell? ⟨A, 0, none⟩ = some (.string a0) := fun u hu => by
          rw [hu.cell (p := ⟨A, 0, none⟩) hAl, Lib.cell_of_heap hAt]; rfl
        have cA0 := cA wA (Below.refl _ _)
        have cA3 : wA.cell? ⟨A, 3, none⟩ = some (.int .i64 a3) := by rw [Lib.cell_of_heap hAt]; rfl
        have cA5 : wA.cell? ⟨A, 5, none⟩ = some (.func (.func fg) #[] #[]) := by rw [Lib.cell_of_heap hAt]; rfl
        have cAn : wA.cell? ⟨g, o + (k + 1), none⟩ = some (.int .i64 (n : Int)) := by rw [← hwA]; exact n1 _
        have cA1 : wA.drew.cell? ⟨A, 0, none⟩ = some (.string a0) := cA0
        have HCA : Hid (∀ u, Below wA.heap.size wA u → u.cell? ⟨A, 0, none⟩ = some (.string a0)) := cA
        have IT : Hid (∀ u, Below wA.heap.size wA u → Calls Tryz.prog 54 #[.int .i64 (n : Int)] u fun e w' => e = .returned (.string ⟨(dcn n).toArray⟩) ∧ Hid (Below wA.heap.size wA w')) := fun u hu => by
          have hbu := HBA.out.trans (hu.mono HBA.out.size)
          refine (itoa_any n (by omega) u (hTn.out.below hbu hTg)).mono ?_
          rintro e w' ⟨q1, q2⟩
          exact ⟨q1, hu.trans (q2.below.mono hu.size)⟩
        obtain ⟨D, hD⟩ : ∃ z, dcn n = z := ⟨_, rfl⟩
        have hdl : D.length ≤ 1000001 := by rw [← hD]; have := dcn_len n; omega
        rw [hD] at IT
        have hal : a0.size ≤ 6 := by have := nm_len k; rw [H0.out] at this; exact this
        have j1 : ¬ 9223372036854775807 < a0.size + 1 := by omega
        have j2 : ¬ 9223372036854775807 < a0.size + 1 + D.length := by omega
        have HTB : Hid ((⟨(tb1 a k).toArray⟩ : ByteArray) = a0 ++ ⟨#[61]⟩ ++ (⟨D.toArray⟩ : ByteArray)) := by
          show _ = _
          apply ByteArray.ext
          apply Array.toList_inj.1
          unfold tb1
          rw [← HXA.out, H0.out, Int.toNat_natCast, hD]
          simp
        have hkl := tld_len a k
        have eI : ∀ args w, (callFunc 54 args).run Tryz.prog w = .ok (.enter 54 args) w := enters_of Tryz.func54 (by kernel_rfl) rfl
        clear cA hAt hbA hD
        go_wp2_with (go_at_fn fg; refine (HQ.out.2 _ _ _).mono ?_; rintro e w2 ⟨rfl, hw2⟩; obtain rfl := hw2.symm)
        go_region_law (first | (refine step_append_own rfl (.tmp 27) (.tmp 34) 76 rfl w.heap.size 9 i0 (.string ⟨#[]⟩) 1 16 (by kernel_rfl) hi hz0 hz1 hz2 rfl (by decide) u4 (tld a k).length ((tld a k).map Value.string) (by simp [Act.eval]) (World.ownsRow.alloc (HOU.out) _) _ 1 1 [.string (a0 ++ ⟨#[61]⟩ ++ (⟨D.toArray⟩ : ByteArray))] (by simp [Act.eval]) rfl (one_new _ _ _) (fun u hu => by simp at hu; subst hu; rfl) (by unfold maxLen; omega) (by omega) (by rw [World.size_alloc]; have := HBU.out.size; omega) ?_; intro v' w3 ho hgr) | (refine step_call rfl 54 #[.tmp 31] #[3] rfl #[.int .i64 (n : Int)] (by simp [Act.eval, Act.put]) eI _ (IT.out _ (by first | exact Below.drew (Below.refl _ wA) | exact Below.refl _ wA)) ?_; rintro e2 u2 ⟨rfl, HU⟩; refine ⟨_, rfl, ?_⟩; have cU := HCA.out u2 HU.out; have HBU : Hid (Below w.heap.size w u2) := HBA.out.trans (HU.out.mono HBA.out.size); have HOU : Hid (u2.ownsRow w.heap.size 9 1 u4 (tld a k).length ((tld a k).map Value.string)) := own_up HOA.out (Up.below HU.out)))
        all_goals
          have hb3 : Hid (Below w.heap.size w w3) := ((HBU.out.alloc HBU.out.size _).grown hgr (by rw [World.size_alloc]; have := HBU.out.size; omega) (fun q hq => (HOU.out.lt q hq).1))
          have HO3 : Hid (w3.ownsRow w.heap.size 9 1 v' (tld a (k + 1)).length ((tld a (k + 1)).map Value.string)) := by
            rw [HT1.out, List.length_append, List.map_append, HTB.out]
            exact ho
          clear ho hgr
          go_wp2
          go_roundw
          case rel => exact ⟨k + 1, by omega, by go_num, HO3.out, hb3.out⟩
          case measure => simp [intOf]; omega
    · obtain rfl : k = 12 := by omega
      have hlt' : ¬ ((12 : Nat) : Int) < 12 := by omega
      obtain ⟨q1, q2⟩ := tld_bra a 12
      have hbl := braF_len a hB.out 12 (Nat.le_refl _)
      obtain ⟨ts, hts⟩ : ∃ z, tld a 12 = z := ⟨_, rfl⟩
      obtain ⟨F, hF⟩ : ∃ z, braF a 12 = z := ⟨_, rfl⟩
      have hts12 := tld_len a 12
      rw [hts] at q1 q2 HR hts12
      rw [hF] at q1 q2 hbl
      have HBF : Hid (braF a 12 = F) := hF
      clear hts hF
      by_cases hnil : ts = []
      · have HRB : Hid (braR a = []) := by show _ = _; unfold braR; rw [HBF.out, if_pos (q1.1 hnil)]
        subst hnil
        obtain ⟨ao, c0, htv⟩ : ∃ ao c0, u4 = .slice ao 0 c0 := by
          rcases HR.out.1.2 with ⟨hv, _⟩ | ⟨g, cap, cur, hv, _⟩
          · exact ⟨_, _, hv⟩
          · exact ⟨_, _, hv⟩
        subst htv
        go_wp2
        go_end0
        refine ⟨rfl, ?_, HR.out.2.mono h.out.size⟩
        show PrL _ B b nv _ (l ++ braR a)
        rw [HRB.out, List.append_nil]
        exact h.out.below HR.out.2
      · have hF0 : F ≠ [] := fun e => hnil (q1.2 e)
        have HRB : Hid (braR a = 123 :: (F ++ [125])) := by show _ = _; unfold braR; rw [HBF.out, if_neg hF0]
        have hpos : 0 < ts.length := List.length_pos_iff.2 hnil
        obtain ⟨T, c0, htv, hTl, hc0⟩ : ∃ T c0, u4 = .slice (some ⟨T, 0, none⟩) ts.length c0 ∧ T < wr.heap.size ∧ ts.length ≤ c0 := by
          rcases HR.out.1.2 with ⟨hv, h0⟩ | ⟨T, cap, cur, hv, hb, hg2, hcc⟩
          · omega
          · exact ⟨T, cap, hv, (Array.getElem?_eq_some_iff.1 hg2).1, by first | exact hcc.1 | exact hcc.2.1⟩
        have HCE : Hid (∀ (j : Nat) x, ts[j]? = some x → wr.cell? ⟨T, 0 + j, none⟩ = some (.string x)) := fun j x hj => by
          have hjl := (List.getElem?_eq_some_iff.1 hj).1
          have hO := HR.out.1
          rw [htv] at hO
          rw [Nat.zero_add, hO.cellAt j (by omega)]
          simp [hj]
        subst htv
        have JO : Hid (∀ u, Below wr.heap.size wr u → Calls Tryz.prog 55 #[.slice (some ⟨T, 0, none⟩) ts.length c0, .string ⟨#[59]⟩] u fun e w' => e = .returned (.string ⟨F.toArray⟩) ∧ Hid (Below wr.heap.size wr w')) := fun u hu => by
          have e59 : (⟨#[59]⟩ : ByteArray).data.toList = [59] := rfl
          have := join_lib T 0 c0 ts ⟨#[59]⟩ u (fun j x hj => (hu.cell (p := ⟨T, 0 + j, none⟩) hTl).trans (HCE.out j x hj)) (Nat.lt_of_lt_of_le hTl hu.size) (by omega) hc0 (by rw [e59, q2]; omega)
          rw [e59, q2] at this
          exact this.mono fun e w' ⟨r1, r2⟩ => ⟨r1, hu.trans (r2.mono hu.size)⟩
        have WR : Hid (∀ u, Below wr.heap.size wr u → Calls Tryz.prog 34 #[.pointer (some ⟨b, 2, none⟩), .string (⟨#[123]⟩ ++ (⟨F.toArray⟩ : ByteArray) ++ ⟨#[125]⟩)] u fun e w' => ∃ n, e = .returned (.tuple #[.int .i64 n, .nilIface]) ∧ Hid (PrL w' B b nv (.slice (some ⟨ab, 0, none⟩) 12 12) (l ++ braR a)) ∧ Hid (Below B w w')) := fun u hu => by
          have hbu : Below w.heap.size w u := HR.out.2.trans (hu.mono HR.out.2.size)
          have hsz : (⟨#[123]⟩ ++ (⟨F.toArray⟩ : ByteArray) ++ ⟨#[125]⟩ : ByteArray).size = F.length + 2 := by
            rw [ByteArray.size_append, ByteArray.size_append]
            show 1 + F.toArray.size + 1 = _
            simp; omega
          have hlist : (⟨#[123]⟩ ++ (⟨F.toArray⟩ : ByteArray) ++ ⟨#[125]⟩ : ByteArray).data.toList = 123 :: (F ++ [125]) := by simp
          have := (h.out.below hbu).write (⟨#[123]⟩ ++ (⟨F.toArray⟩ : ByteArray) ++ ⟨#[125]⟩) (by rw [hsz]; omega)
          rw [hlist, ← HRB.out] at this
          exact this.mono fun e w' ⟨q1, q2, q3⟩ => ⟨_, q1, q2, (hbu.mono h.out.size).trans q3.out⟩
        have j1 : ¬ 9223372036854775807 < 1 + F.length := by omega
        have j2 : ¬ 9223372036854775807 < 1 + F.length + 1 := by omega
        have hpos' : (0 : Int) < (ts.length : Int) := by omega
        clear q1 q2 hnil hF0
        go_wp2_with fail
        go_region_with (first | (go_at_call 55; refine Calls.mono (JO.out _ (by first | exact Below.drew (Below.refl _ wr) | exact Below.refl _ wr)) ?_; rintro e3 w3 ⟨rfl, hb3⟩) | (go_at_call 34; refine Calls.mono (WR.out _ (by first | exact hb3.out | exact Below.drew hb3.out)) ?_; rintro e4 w4 ⟨n4, rfl, HP4, HB4⟩))
        all_goals
          go_wp2
          go_end0
          exact ⟨rfl, HP4.out, HB4.out⟩

end Go.Proofs.YtnkebfmlaliddaaGreatDoor
