/-
  panelaw.wants.
-/
import Derived.Test.YtmlicipdkbeihacSRef
import Derived.Deep.RegionLaw
namespace Go.Proofs.Ytmlicipdkbeihac
open Go.RowKit Go.Sort
set_option linter.unusedVariables false

theorem step_append_own {P : Program} {ops : Array Oper} {o : Oper} {a : Act} {w : World} {K : Act → World → Prop} {Q : Exit → Act → World → Prop} {E : Prop}
    (hg : o.guard = none) (s x : Operand) (t : TypeId) (hop : o.op = Op.call { callee := Callee.builtin Builtin.append, args := #[s, x], argTypes := #[t, t] })
    (base : Nat) (e : TypeId) (i : TypeInfo) (z : Value) (size bytes : Nat) (h1 : P.underlying t = some (.slice e)) (h2 : P.info? e = some i) (h3 : i.zero = some z) (h4 : i.size = size) (h5 : i.bytes = bytes) (h6 : z.cells.size = size) (h7 : 0 < size)
    (v : Value) (n : Nat) (olds : List Value) (hs : a.eval s = v) (hown : w.ownsRow base e size v n olds)
    (ad : Addr) (m c : Nat) (news : List Value) (hx : a.eval x = .slice (some ad) m c) (hn : news.length = m * size) (hc : ∀ j u, news[j]? = some u → w.cell? (ad.add j) = some u) (h1c : ∀ u ∈ news, u.oneCell' = true)
    (b1 : n + m ≤ maxLen) (b2 : (n + m) * bytes ≤ 140737488355328) (b3 : base ≤ w.heap.size)
    (hK : ∀ v' w', w'.ownsRow base e size v' (n + m) (olds ++ news) → w.grownBy w' v.ownBlock → K (a.put o.dst v') w') :
    if Region.wanted o (yielded ops a.tmps) = true then Oper.wp P o a w K Q else E := by
  have hw : Region.wanted o (yielded ops a.tmps) = true := by simp [Region.wanted, hg]
  rw [if_pos hw]
  obtain ⟨v', w', hrun, r1, r2, _⟩ := run_append_own (P := P) w base t o.type e i z size bytes h1 h2 h3 h4 h5 h6 h7 v n olds hown ad m c news hn hc h1c b1 b2 b3
  unfold Oper.wp
  simp [execOp, hop, resolve, invoke, builtin, hs, hx, hrun, Result.andThen]
  exact hK v' w' r1 r2

/-- Wants as cells. -/
def wCells (a b c : Nat → Int) : Nat → List Value
  | 0 => []
  | k + 1 => wCells a b c k ++ [.int .i64 (a k), .int .i64 (b k), .int .i64 (c k)]
theorem wCells_len (a b c : Nat → Int) : ∀ k, (wCells a b c k).length = k * 3
  | 0 => rfl
  | k + 1 => by rw [wCells, List.length_append, wCells_len a b c k]; simp; omega
theorem wCells_at (a b c : Nat → Int) : ∀ k j, j < k → (wCells a b c k)[j * 3]? = some (.int .i64 (a j)) ∧ (wCells a b c k)[j * 3 + 1]? = some (.int .i64 (b j)) ∧ (wCells a b c k)[j * 3 + 2]? = some (.int .i64 (c j))
  | 0, j, h => by omega
  | k + 1, j, h => by
    have hl := wCells_len a b c k
    by_cases e : j < k
    · have := wCells_at a b c k j e
      simp only [wCells]
      rw [List.getElem?_append_left (by omega), List.getElem?_append_left (by omega), List.getElem?_append_left (by omega)]
      exact this
    · obtain rfl : j = k := by omega
      simp only [wCells]
      rw [List.getElem?_append_right (by omega), List.getElem?_append_right (by omega), List.getElem?_append_right (by omega), hl, Nat.sub_self, show j * 3 + 1 - j * 3 = 1 by omega, show j * 3 + 2 - j * 3 = 2 by omega]
      exact ⟨rfl, rfl, rfl⟩

/-- A list of wants in memory, new behind B. -/
def WVal (B : Nat) (W : World) (v : Value) (n : Nat) (a b c : Nat → Int) : Prop := ∃ p cap, v = .slice p n cap ∧ (n = 0 ∨ ∃ g, p = some ⟨g, 0, none⟩ ∧ B ≤ g ∧ WRow W g 0 n a b c)
theorem wval_own {W : World} {B n : Nat} {e : TypeId} {v : Value} {a b c : Nat → Int} (h : W.ownsRow B e 3 v n (wCells a b c n)) : WVal B W v n a b c := by
  have h0 := h
  rcases h.2 with ⟨rfl, rfl⟩ | ⟨g, cap, cur, rfl, hb, hg, h1, h2, _⟩
  · exact ⟨none, 0, rfl, .inl rfl⟩
  · refine ⟨some ⟨g, 0, none⟩, cap, rfl, .inr ⟨g, rfl, hb, (Array.getElem?_eq_some_iff.1 hg).1, fun j hj => ?_⟩⟩
    have := wCells_at a b c n j hj
    rw [h0.cellAt _ (by omega), h0.cellAt _ (by omega), h0.cellAt _ (by omega), Nat.zero_add]
    exact this

theorem cell_three_new (w : World) (x y z : Value) (t : TypeId) : ∀ j u, [x, y, z][j]? = some u → (w.alloc (.cells #[x, y, z] t)).cell? ((⟨w.heap.size, 0, none⟩ : Addr).add j) = some u := by
  intro j u h
  have e : (⟨w.heap.size, 0, none⟩ : Addr).add j = ⟨w.heap.size, 0 + j, none⟩ := by unfold Addr.add; split <;> simp_all
  rw [e, Nat.zero_add, World.cell?_alloc_at _ _ _ _ rfl]
  rw [← h]
  match j with
  | 0 => rfl
  | 1 => rfl
  | 2 => rfl
  | _ + 3 => rfl

set_option maxRecDepth 100000 in
set_option maxHeartbeats 4000000 in
theorem wants_some (n blk off cap : Nat) (a b c : Nat → Int) (w : World) (h : WRow w blk off n a b c) (hn : n ≤ 5864062014805) :
    Calls Try.prog 6 #[.slice (some ⟨blk, off, none⟩) n cap] w fun e w' => ∃ v, e = .returned v ∧ WVal w.heap.size w' v n a b c ∧ Below w.heap.size w w' := by
  obtain ⟨i0, hi, hz0, hz1, hz2⟩ := info_parts infoWant
  have HW : Hid (WRow w blk off n a b c) := h
  have hblk := h.1
  clear h
  go_enter Try.func6, Try.ntmps6
  go_wp2
  go_loopw [3, 4] (fun v i wr => ∃ k : Nat, i = .int .i64 k ∧ k ≤ n ∧ wr.ownsRow w.heap.size 28 3 v k (wCells a b c k) ∧ Below w.heap.size w wr) (fun _ i _ => n - (intOf i).toNat)
  case atStart => exact ⟨0, rfl, Nat.zero_le _, World.ownsRow_nil _ _ _ _, Below.refl _ _⟩
  case round =>
    obtain ⟨k, rfl, hk, hown, hbw⟩ := hrel
    by_cases hlt : k < n
    · have hlt' : (k : Int) < (n : Int) := by omega
      have hw1 := HW.out.below hbw
      obtain ⟨c0, c1, c2⟩ := hw1.2 k hlt
      obtain ⟨a1, ha1⟩ : ∃ x, a k = x := ⟨_, rfl⟩
      obtain ⟨a2, ha2⟩ : ∃ x, b k = x := ⟨_, rfl⟩
      obtain ⟨a3, ha3⟩ : ∃ x, c k = x := ⟨_, rfl⟩
      rw [ha1] at c0
      rw [ha2] at c1
      rw [ha3] at c2
      have hz := hw1.1
      have hzr := hbw.size
      have HS : Hid (wCells a b c (k + 1) = wCells a b c k ++ [.int .i64 a1, .int .i64 a2, .int .i64 a3]) := by show _ = _; rw [wCells, ha1, ha2, ha3]
      clear hw1 ha1 ha2 ha3
      go_wp2_with fail
      go_region_law (refine step_append_own rfl (.tmp 11) (.tmp 28) 23 rfl w.heap.size 28 i0 (.agg #[.int .i64 0, .int .i64 0, .int .i64 0]) 3 24 Try.underlying23 hi hz0 hz1 hz2 rfl (by decide) u3 k (wCells a b c k) (by simp [Act.eval]) (World.ownsRow.alloc (w := wr.drew) hown _) _ 1 1 [.int .i64 a1, .int .i64 a2, .int .i64 a3] (by simp [Act.eval]) rfl (cell_three_new _ _ _ _ _) (by intro u hu; simp at hu; rcases hu with rfl | rfl | rfl <;> rfl) (by unfold maxLen; omega) (by omega) (by simp; omega) ?_; intro v' w1 hown' hg)
      all_goals
        have hb1 : Below w.heap.size w w1 := ((hbw.trans (below_drewN (Below.refl _ _) 1)).alloc (by simp; omega) _).grown hg (by simp; omega) (fun q hq => (hown.lt q hq).1)
        clear hg hown hbw
        go_wp2
        go_roundw
        case rel => exact ⟨k + 1, by go_num, by omega, by rw [HS.out]; exact hown', hb1⟩
        case measure => simp [intOf]; omega
    · have hge : ¬ (k : Int) < (n : Int) := by omega
      obtain rfl : n = k := by omega
      have HV := wval_own hown
      clear hown
      go_wp2
      go_ret
      exact ⟨_, rfl, HV, hbw⟩

set_option maxRecDepth 100000 in
set_option maxHeartbeats 1000000 in
theorem wants_none (p : Option Addr) (cap : Nat) (a b c : Nat → Int) (w : World) :
    Calls Try.prog 6 #[.slice p 0 cap] w fun e w' => ∃ v, e = .returned v ∧ WVal w.heap.size w' v 0 a b c ∧ Below w.heap.size w w' := by
  go_enter Try.func6, Try.ntmps6
  go_wp2
  go_loop [3, 4] (fun v i => v = .slice none 0 0 ∧ i = .int .i64 0) (fun _ _ => 0)
  case atStart => exact ⟨rfl, rfl⟩
  case round =>
    obtain ⟨rfl, rfl⟩ := hrel
    go_wp2
    go_ret
    exact ⟨_, rfl, ⟨none, 0, rfl, .inl rfl⟩, Below.refl _ _⟩

/-- A list of wants that was handed in. -/
def WIn (W : World) (v : Value) (n : Nat) (a b c : Nat → Int) : Prop := ∃ p cap, v = .slice p n cap ∧ (n = 0 ∨ ∃ g off, p = some ⟨g, off, none⟩ ∧ WRow W g off n a b c)
theorem WIn.below {A B : World} {v : Value} {n : Nat} {a b c : Nat → Int} (h : WIn A v n a b c) (hb : Below A.heap.size A B) : WIn B v n a b c := by
  obtain ⟨p, cap, hv, h⟩ := h
  refine ⟨p, cap, hv, ?_⟩
  rcases h with h | ⟨g, off, hp, hr⟩
  · exact .inl h
  · exact .inr ⟨g, off, hp, hr.below hb⟩
theorem WVal.win {B : Nat} {W : World} {v : Value} {n : Nat} {a b c : Nat → Int} (h : WVal B W v n a b c) : WIn W v n a b c := by
  obtain ⟨p, cap, hv, h⟩ := h
  refine ⟨p, cap, hv, ?_⟩
  rcases h with h | ⟨g, hp, _, hr⟩
  · exact .inl h
  · exact .inr ⟨g, 0, hp, hr⟩
theorem wants_any (v : Value) (n : Nat) (a b c : Nat → Int) (w : World) (h : WIn w v n a b c) (hn : n ≤ 5864062014805) :
    Calls Try.prog 6 #[v] w fun e w' => ∃ v, e = .returned v ∧ WVal w.heap.size w' v n a b c ∧ Below w.heap.size w w' := by
  obtain ⟨p, cap, rfl, h⟩ := h
  by_cases h0 : n = 0
  · subst h0; exact wants_none p cap a b c w
  · obtain ⟨g, off, rfl, hr⟩ := h.resolve_left h0
    exact wants_some n g off cap a b c w hr hn

/-- What Split answers, of any list of wants. -/
def SplitV (w w' : World) (v : Value) (n : Nat) (a b c : Nat → Int) (room gap : Int) : Prop :=
  ((n = 0 ∨ 200 < n) ∧ v = .slice none 0 0 ∧ w' = w) ∨ (0 < n ∧ n ≤ 200 ∧ ∃ lb, v = .slice (some ⟨lb, 0, none⟩) n n ∧ SplitAt w w' lb n (fun j => cl (a j)) (fun j => hMax (a j) (b j)) (fun j => cl (c j)) (rm room gap n))
theorem split_all (v : Value) (n : Nat) (a b c : Nat → Int) (room gap : Int) (w : World) (h : WIn w v n a b c) (hn : n ≤ 5864062014805) :
    Calls Try.prog 7 #[.int .i64 room, .int .i64 gap, v] w fun e w' => ∃ v, e = .returned v ∧ SplitV w w' v n a b c room gap := by
  obtain ⟨p, cap, rfl, h⟩ := h
  by_cases h0 : n = 0 ∨ 200 < n
  · exact (split_none p n cap room gap w h0 (by omega)).mono fun e w' ⟨he, hw⟩ => ⟨_, he, .inl ⟨h0, rfl, hw⟩⟩
  · obtain ⟨g, off, rfl, hr⟩ := h.resolve_left (fun e => h0 (.inl e))
    exact (split_any n g off cap a b c room gap w hr (by omega) (by omega)).mono fun e w' ⟨lb, he, hs⟩ => ⟨_, he, .inr ⟨by omega, by omega, lb, rfl, hs⟩⟩
theorem SplitV.below {w w' : World} {v : Value} {n : Nat} {a b c : Nat → Int} {room gap : Int} (h : SplitV w w' v n a b c room gap) : Below w.heap.size w w' := by
  rcases h with ⟨_, _, rfl⟩ | ⟨_, _, lb, _, h⟩
  · exact Below.refl _ _
  · exact h.2.2

end Go.Proofs.Ytmlicipdkbeihac
