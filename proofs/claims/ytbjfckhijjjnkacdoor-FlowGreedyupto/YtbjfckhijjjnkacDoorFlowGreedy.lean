/-
  FlowGreedy, for every input of bulk at most 1048576.
-/
import Derived.Test.YtbjfckhijjjnkacDoorCards
import Derived.Test.YtbjfckhijjjnkacDoorTie
import Derived.Test.YtbjfckhijjjnkacDoorTable
import Derived.Test.YtbjfckhijjjnkacDoorFRound
import Derived.Test.YtbjfckhijjjnkacDoorFWord
import Derived.WalkKit
import Derived.ShutString
import Derived.Deep.DeepHandedRow
namespace Go.Proofs.YtbjfckhijjjnkacDoor.flowGreedy
open Go.ChangeShapes Go.WideShapes Go.ChangeAt Go.RowKit
open Go.ChangeMaps (open_string shut_string)
set_option linter.unusedVariables false

theorem own : ownKnob Tryd.prog.godebug = none := by kernel_rfl
theorem short {H : Type} {s0 : ByteArray} {x1 : Int} (hk : Rows.uptoSmall H [.lit (.string s0.data.toList), .lit (.int .i64 x1)] = true) : s0.size ≤ 1048576 := by
  have h : Rows.uptoBulkAll [DataW.lit (H := H) (.string s0.data.toList), DataW.lit (.int .i64 x1)] ≤ 1048576 := of_decide_eq_true hk
  simp only [Rows.uptoBulkAll, Rows.uptoBulk] at h
  have e_s0 : s0.data.toList.length = s0.size := by rw [Array.length_toList]; rfl
  omega
theorem bounds {x : Int} (h : (Lit.int .i64 x).wf = true) : -9223372036854775808 ≤ x ∧ x ≤ 9223372036854775807 := bounds_i64 h

theorem one_wide_at (l : List (List UInt8 × Int)) (a : Nat) (h : a < l.length) : wideSum ((l.drop a).take 1) = (l[a]).2 := by
  have hk : 0 < (l.drop a).length := by rw [List.length_drop]; omega
  have := wideSum_snoc (l.drop a) 0 hk
  rw [this, List.getElem_drop]
  simp [wideSum]
theorem next_wide (l : List (List UInt8 × Int)) (a n : Nat) (h : a + n < l.length) : wideSum ((l.drop a).take (n + 1)) = wideSum ((l.drop a).take n) + (l[a + n]).2 := by
  have hk : n < (l.drop a).length := by rw [List.length_drop]; omega
  rw [wideSum_snoc (l.drop a) n hk, List.getElem_drop]

theorem below_drewN {B : Nat} {w w' : World} (h : Below B w w') (n : Nat) : Below B w (w'.drewN n) := by
  exact ⟨h.os, h.tape, h.output, h.size, h.block⟩

/-- What FlowGreedy asks of a line. -/
theorem greedy_facts (l : List (List UInt8 × Int)) (W : Int) (hb : ∀ c ∈ l, 0 ≤ c.2 ∧ c.2 ≤ 2) (hn : ∀ c ∈ l, Nrm c) (F N d : Nat) (E V : Int) (hkd : LineKind (l.drop F) W N d E)
    (hV : (W < wideSum ((l.drop F).take N) ∧ N = 1 ∧ W = 1 ∧ V = 1) ∨ (wideSum ((l.drop F).take N) ≤ W ∧ V = wideSum ((l.drop F).take N))) :
    (∀ j, j < N → tx l (F + j) ≠ [10]) ∧ (E = 1 → 1 < N → ∀ j, j < N → tx l (F + j) ≠ [32]) ∧ (E = 0 → F + N < l.length ∧ W < V + 1 + wordW (l.drop (F + N + 1))) ∧
      (E = 1 → F + N < l.length → (hF : F < l.length) → (hFN : F + N < l.length) → (l[F]).2 ≤ W → W < V + (l[F + N]).2) ∧ (E = 1 → F < l.length) ∧ (E = 3 ∨ E = 2 ∨ E = 1 ∨ E = 0) := by
  have hE0 : E = 0 → F + N < l.length ∧ W < V + 1 + wordW (l.drop (F + N + 1)) := by
    rintro rfl
    obtain ⟨_, h1, h2⟩ := blank_greedy hb hn hkd
    refine ⟨h1, ?_⟩
    rcases hV with ⟨hw, h3, _, _⟩ | ⟨_, h3⟩
    · cases hkd with
      | blank _ _ _ hw' => omega
    · rw [h3]; exact h2
  cases hkd with
  | all _ _ _ h10 => exact ⟨fun j hj => by rw [← tx_drop]; exact h10 j hj, fun e => by simp at e, hE0, fun e => by simp at e, fun e => by simp at e, .inl rfl⟩
  | newline _ _ _ h10 => exact ⟨fun j hj => by rw [← tx_drop]; exact h10 j hj, fun e => by simp at e, hE0, fun e => by simp at e, fun e => by simp at e, .inr (.inl rfl)⟩
  | wide hl hw h2 h10 =>
    rw [List.length_drop] at hl
    refine ⟨fun j hj => ?_, fun _ h => by omega, hE0, fun _ _ hF _ hle => ?_, fun _ => by omega, .inr (.inr (.inl rfl))⟩
    · have : j = 0 := by omega
      subst this; rw [← tx_drop]; exact h10
    · rw [one_wide_at l F hF] at h2; omega
  | blank _ _ _ _ h10 => exact ⟨fun j hj => by rw [← tx_drop]; exact h10 j hj, fun e => by simp at e, hE0, fun e => by simp at e, fun e => by simp at e, .inr (.inr (.inr rfl))⟩
  | word _ hl h1 hw h10 h32 hg =>
    rw [List.length_drop] at hl
    refine ⟨fun j hj => by rw [← tx_drop]; exact h10 j hj, fun _ _ j hj => by rw [← tx_drop]; exact h32 j hj, hE0, fun _ _ hF hFN _ => ?_, fun _ => by omega, .inr (.inr (.inl rfl))⟩
    rw [next_wide l F N hFN] at hg
    rcases hV with ⟨hw', _⟩ | ⟨_, h3⟩
    · omega
    · rw [h3]; exact hg

set_option maxRecDepth 100000 in
set_option maxHeartbeats 4000000 in
theorem walk (s : ByteArray) (W : Int) (w : World) (ht : TabAt w) (hs : s.size ≤ 1048576) (hW0 : -9223372036854775808 ≤ W) (hW1 : W ≤ 9223372036854775807) :
    Calls Tryd.prog 3 #[.string s, .int .i64 W] w fun e w' => e = .returned (.bool true) ∧ Below w.heap.size w w' := by
  have hsl : s.data.toList.length = s.size := by rw [Array.length_toList]; rfl
  have hR := runes_length s.data.toList
  have hC := clus_length (runes s.data.toList)
  rw [hsl] at hR
  have A1 : Hid (Calls Tryd.prog 6 #[.string s, .int .i64 W] w fun e w' => ∃ v, e = .returned v ∧ Lns w' v (linesOf (clus (runes s.data.toList)) W) ∧ Below w.heap.size w w') := by
    refine (lines_any s W w ht (by omega) hW0 hW1).mono ?_
    rintro e w1 ⟨v, rfl, o, b⟩
    exact ⟨v, rfl, lns_own o, b⟩
  have A2 : Hid (∀ w, TabAt w → Calls Tryd.prog 7 #[.string s] w fun e w' => ∃ v, e = .returned v ∧ Cls w' v (clus (runes s.data.toList)) ∧ Below w.heap.size w w') := by
    intro w h
    refine (gClusters_any s w h (by omega)).mono ?_
    rintro e w1 ⟨v, rfl, o, b⟩
    exact ⟨v, rfl, cls_own o, b⟩
  have hbd := clus_wide (runes s.data.toList)
  have hnr := clus_nrm (runes s.data.toList) (runes_good _)
  have hsh := clus_short (runes s.data.toList)
  obtain ⟨l, hl⟩ : ∃ l, clus (runes s.data.toList) = l := ⟨_, rfl⟩
  rw [hl] at hC A1 A2 hbd hnr hsh
  have HT : Hid (TabAt w) := ht
  have HBD : Hid (∀ c ∈ l, 0 ≤ c.2 ∧ c.2 ≤ 2) := hbd
  clear hl hsl ht
  by_cases hlt : W < 1
  · have e0 : linesOf l W = [] := by rw [linesOf, if_pos hlt]
    rw [e0] at A1
    clear e0 hbd hnr hsh
    go_enter Tryd.func3, Tryd.ntmps3
    go_wp2_with fail
    refine A1.out.mono ?_
    rintro e w1 ⟨v, rfl, ⟨a, cap, rfl, _⟩, b1⟩
    go_wp2_with fail
    refine (A2.out _ (HT.out.below b1)).mono ?_
    rintro e w2 ⟨v2, rfl, ⟨a2, cap2, rfl, _⟩, b2⟩
    go_wp2
    go_ret
    exact ⟨rfl, b1.trans (b2.mono b1.size)⟩
  have hW1' : 1 ≤ W := by omega
  have e0 : linesOf l W = linesA l W 0 := by rw [linesOf, if_neg hlt]
  rw [e0] at A1
  have hLl := linesA_length l W 0 (Nat.zero_le _)
  have HRF : Hid (∀ (L : List Ln) (k a : Nat) (hk : k < L.length) (ha : a ≤ l.length) (hd : L.drop k = linesA l W a), ∃ (x : Ln) (d : Nat), L[k] = x ∧ x.F = a ∧ a + x.N + d ≤ l.length ∧ 0 ≤ x.W ∧ x.W ≤ 2 * l.length + 1 ∧
      (x.E = 3 → k + 1 = L.length ∧ a + x.N + d = l.length) ∧ (x.E ≠ 3 → k + 1 < L.length ∧ L.drop (k + 1) = linesA l W (a + x.N + d)) ∧
      ((∀ j, j < x.N → tx l (a + j) ≠ [10]) ∧ (x.E = 1 → 1 < x.N → ∀ j, j < x.N → tx l (a + j) ≠ [32]) ∧ (x.E = 0 → a + x.N < l.length ∧ W < x.W + 1 + wordW (l.drop (a + x.N + 1))) ∧
      (x.E = 1 → a + x.N < l.length → (hF : a < l.length) → (hFN : a + x.N < l.length) → (l[a]).2 ≤ W → W < x.W + (l[a + x.N]).2) ∧ (x.E = 1 → a < l.length) ∧ (x.E = 3 ∨ x.E = 2 ∨ x.E = 1 ∨ x.E = 0))) := by
    intro L k a hk ha hd
    obtain ⟨x, n, d, h1, h2, h3, h4, h5, _, _, h8, h9, _, h11, h12, h13⟩ := round_facts l W hbd hnr hsh hW1' L k a hk ha hd
    subst h4
    refine ⟨x, d, h1, h3, h5, h8, h9, h11, h12, ?_⟩
    exact greedy_facts l W hbd hnr a x.N d x.E x.W h2 (h13.imp (fun h => ⟨h.1, h.2.1, h.2.2.1, h.2.2.2.2⟩) (fun h => ⟨h.1, h.2.2⟩))
  obtain ⟨L, hL⟩ : ∃ L, linesA l W 0 = L := ⟨_, rfl⟩
  have HLE : Hid (linesA l W 0 = L) := hL
  rw [hL] at A1 hLl
  clear e0 hbd hnr hsh hL
  go_enter Tryd.func3, Tryd.ntmps3
  go_wp2_with fail
  refine A1.out.mono ?_
  rintro e w1 ⟨v1, rfl, c1, b1⟩
  have HL1 : Hid (Lns w1 v1 L) := c1
  have HT1 : Hid (TabAt w1) := HT.out.below b1
  have hs1 := b1.size
  clear A1 c1
  go_wp2_with fail
  refine (A2.out _ HT1.out).mono ?_
  rintro e w2 ⟨v2, rfl, c2, b2⟩
  have HC2 : Hid (Cls w2 v2 l) := c2
  obtain ⟨aL, capL, rfl, hh⟩ := HL1.out.below b2
  have hs2 := b2.size
  have hB02 : Below w.heap.size w w2 := b1.trans (b2.mono hs1)
  obtain ⟨a2, cap2, rfl, hh2⟩ := c2
  clear A2 b1 b2 HL1
  have hne : L ≠ [] := fun e => by rw [e] at hLl; simp at hLl
  obtain ⟨b, rfl, hb, hc⟩ := hh.resolve_left hne
  have HC : Hid (∀ j (hj : j < L.length), w2.cell? ⟨b, j * 5, none⟩ = some (.string ⟨(L[j]).T.toArray⟩) ∧ w2.cell? ⟨b, j * 5 + 1, none⟩ = some (.int .i64 (L[j]).W) ∧ w2.cell? ⟨b, j * 5 + 2, none⟩ = some (.int .i64 (L[j]).F) ∧ w2.cell? ⟨b, j * 5 + 3, none⟩ = some (.int .i64 (L[j]).N) ∧ w2.cell? ⟨b, j * 5 + 4, none⟩ = some (.int .i64 (L[j]).E)) := hc
  have HCC : Hid (l = [] ∨ ∃ b off, a2 = some ⟨b, off, none⟩ ∧ b < w2.heap.size ∧ ∀ j (hj : j < l.length), w2.cell? ⟨b, off + j * 2, none⟩ = some (.string ⟨(l[j]).1.toArray⟩) ∧ w2.cell? ⟨b, off + j * 2 + 1, none⟩ = some (.int .i64 (l[j]).2)) := hh2
  have HLP : Hid (0 < L.length) := Nat.lt_of_lt_of_le Nat.zero_lt_one hLl.1
  clear hh hc hne hh2
  go_wp2
  go_loopw [7] (fun i wr => ∃ k a : Nat, k ≤ L.length ∧ a ≤ l.length ∧ i = .int .i64 k ∧ Hid (k < L.length → L.drop k = linesA l W a) ∧ Below w2.heap.size w2 wr) (fun i _ => L.length - (intOf i).toNat)
  case atStart => exact ⟨0, 0, Nat.zero_le _, Nat.zero_le _, rfl, fun _ => HLE.out.symm, Below.refl _ _⟩
  case round =>
    obtain ⟨k, a, hk, ha, rfl, hD, hbw⟩ := hrel
    have hsz := hbw.size
    by_cases hk2 : k < L.length
    · have hk3 : (k : Int) < (L.length : Int) := by omega
      obtain ⟨x, d, hx, hF, hle, hV0, hV1, h3, hn3, g10, g32, g0, g1, g1F, gE⟩ := HRF.out L k a hk2 ha (hD.out hk2)
      have hcc := HC.out k hk2
      rw [hx] at hcc
      obtain ⟨T, V, F, N, E⟩ := x
      simp only at hF hle hV0 hV1 h3 hn3 hcc g10 g32 g0 g1 g1F gE
      subst hF
      have c0 := (hbw.cell (p := ⟨b, k * 5, none⟩) hb).trans hcc.1
      have c1 := (hbw.cell (p := ⟨b, k * 5 + 1, none⟩) hb).trans hcc.2.1
      have c2 := (hbw.cell (p := ⟨b, k * 5 + 2, none⟩) hb).trans hcc.2.2.1
      have c3 := (hbw.cell (p := ⟨b, k * 5 + 3, none⟩) hb).trans hcc.2.2.2.1
      have c4 := (hbw.cell (p := ⟨b, k * 5 + 4, none⟩) hb).trans hcc.2.2.2.2
      have HNX : Hid (k + 1 < L.length → L.drop (k + 1) = linesA l W (F + N + d)) := fun h => by
        by_cases e : E = 3
        · have := (h3 e).1; omega
        · exact (hn3 e).2
      have hFN : (F : Int) + (N : Int) ≤ (l.length : Int) := by omega
      have G10 : Hid (∀ j, j < N → tx l (F + j) ≠ [10]) := g10
      have G32 : Hid (E = 1 → 1 < N → ∀ j, j < N → tx l (F + j) ≠ [32]) := g32
      have G0 : Hid (E = 0 → F + N < l.length ∧ W < V + 1 + wordW (l.drop (F + N + 1))) := g0
      have G1 : Hid (E = 1 → F + N < l.length → (hF : F < l.length) → (hFN : F + N < l.length) → (l[F]).2 ≤ W → W < V + (l[F + N]).2) := g1
      have G1F : Hid (E = 1 → F < l.length) := g1F
      have HCR : Hid (l ≠ [] → ∃ b' off', a2 = some ⟨b', off', none⟩ ∧ b' < wr.heap.size ∧ ∀ j (hj : j < l.length), wr.cell? ⟨b', off' + j * 2, none⟩ = some (.string ⟨(l[j]).1.toArray⟩) ∧ wr.cell? ⟨b', off' + j * 2 + 1, none⟩ = some (.int .i64 (l[j]).2)) := by
        intro hne
        obtain ⟨b', off', e1, e2, e3⟩ := HCC.out.resolve_left hne
        exact ⟨b', off', e1, by omega, fun j hj => ⟨(hbw.cell (p := ⟨b', off' + j * 2, none⟩) e2).trans (e3 j hj).1, (hbw.cell (p := ⟨b', off' + j * 2 + 1, none⟩) e2).trans (e3 j hj).2⟩⟩
      clear hx hcc h3 hn3 g10 g32 g0 g1 g1F
      obtain ⟨q, hq⟩ : ∃ q : Nat, F + N = q := ⟨_, rfl⟩
      have hqi : (F : Int) + (N : Int) = (q : Int) := by omega
      have HQ : Hid (F + N = q) := hq
      have hq1 : F ≤ q := by omega
      have hq2 : q ≤ l.length := by omega
      have hq3 : q ≤ F + N := by omega
      have hq4 : F + N ≤ q := by omega
      clear hq
      go_wp2
      obtain ⟨wx, hwx⟩ : ∃ wx, wr.alloc (.cells #[.string ⟨T.toArray⟩, .int .i64 V, .int .i64 F, .int .i64 N, .int .i64 E] 27) = wx := ⟨_, rfl⟩
      have x1 : wx.cell? ⟨wr.heap.size, 1, none⟩ = some (.int .i64 V) := by rw [← hwx]; simp
      have x2 : wx.cell? ⟨wr.heap.size, 2, none⟩ = some (.int .i64 F) := by rw [← hwx]; simp
      have x3 : wx.cell? ⟨wr.heap.size, 3, none⟩ = some (.int .i64 N) := by rw [← hwx]; simp
      have x4 : wx.cell? ⟨wr.heap.size, 4, none⟩ = some (.int .i64 E) := by rw [← hwx]; simp
      have hbx : Below w2.heap.size w2 wx := by rw [← hwx]; exact hbw.alloc hsz _
      have hsx : wr.heap.size ≤ wx.heap.size := by rw [← hwx, World.size_alloc]; omega
      have HCX : Hid (l ≠ [] → ∃ b' off', a2 = some ⟨b', off', none⟩ ∧ ∀ j (hj : j < l.length), wx.cell? ⟨b', off' + j * 2, none⟩ = some (.string ⟨(l[j]).1.toArray⟩) ∧ wx.cell? ⟨b', off' + j * 2 + 1, none⟩ = some (.int .i64 (l[j]).2)) := by
        intro hne
        obtain ⟨b', off', e1, e2, e3⟩ := HCC.out.resolve_left hne
        exact ⟨b', off', e1, fun j hj => ⟨(hbx.cell (p := ⟨b', off' + j * 2, none⟩) e2).trans (e3 j hj).1, (hbx.cell (p := ⟨b', off' + j * 2 + 1, none⟩) e2).trans (e3 j hj).2⟩⟩
      have HCx : Hid (Cls wx (.slice a2 l.length cap2) l) := HC2.out.below hbx
      rw [hwx]
      clear hwx HCR c0 c1 c2 c3 c4
      go_loop [10] (fun i => ∃ j : Nat, F ≤ j ∧ j ≤ q ∧ i = .int .i64 j) (fun i => q - (intOf i).toNat)
      case atStart => exact ⟨F, Nat.le_refl _, hq1, rfl⟩
      case round =>
        obtain ⟨j, hj1, hj2, rfl⟩ := hrel
        by_cases hjq : j < q
        · have hjq' : (j : Int) < (q : Int) := by omega
          have hjl : j < l.length := by omega
          have hjl' : (j : Int) < (l.length : Int) := by omega
          obtain ⟨b', off', rfl, hcc⟩ := HCX.out (fun e => by rw [e] at hjl; simp at hjl)
          obtain ⟨T', V', hTV⟩ : ∃ T V, l[j] = (T, V) := ⟨_, _, rfl⟩
          have y0 : wx.cell? ⟨b', off' + j * 2, none⟩ = some (.string ⟨T'.toArray⟩) := by have := (hcc j hjl).1; rw [hTV] at this; exact this
          have hT10 : T' ≠ [10] := by
            have := G10.out (j - F) (by omega)
            rw [show F + (j - F) = j by omega, tx_at hjl, hTV] at this; exact this
          have hT10' : (T' == [10]) = false := by simpa using hT10
          have hcase : E ≠ 1 ∨ (E = 1 ∧ ¬ 1 < N) ∨ (E = 1 ∧ 1 < N ∧ T' ≠ [32]) := by
            by_cases h1 : E = 1
            · by_cases h2 : 1 < N
              · have := G32.out h1 h2 (j - F) (by omega)
                rw [show F + (j - F) = j by omega, tx_at hjl, hTV] at this
                exact .inr (.inr ⟨h1, h2, this⟩)
              · exact .inr (.inl ⟨h1, h2⟩)
            · exact .inl h1
          clear hcc hTV hT10
          rcases hcase with h1 | ⟨rfl, h2⟩ | ⟨rfl, h2, h3⟩
          · go_wp2
            go_round
            case rel => exact ⟨j + 1, by omega, by omega, by go_num⟩
            case measure => simp [intOf]; omega
          · have h2' : ¬ (1 : Int) < (N : Int) := by omega
            go_wp2
            go_round
            case rel => exact ⟨j + 1, by omega, by omega, by go_num⟩
            case measure => simp [intOf]; omega
          · have h2' : (1 : Int) < (N : Int) := by omega
            have h3' : (T' == [32]) = false := by simpa using h3
            go_wp2
            go_round
            case rel => exact ⟨j + 1, by omega, by omega, by go_num⟩
            case measure => simp [intOf]; omega
        · have hjq' : ¬ (j : Int) < (q : Int) := by omega
          rcases gE with rfl | rfl | rfl | rfl
          · go_wp2
            go_quiet (fail)
            go_wp2
            go_quiet (fail)
            go_wp2
            go_roundw
            case rel => exact ⟨k + 1, F + N + d, by omega, by omega, by go_num, HNX, below_drewN hbx _⟩
            case measure => simp [intOf]; omega
          · go_wp2
            go_quiet (fail)
            go_wp2
            go_quiet (fail)
            go_wp2
            go_roundw
            case rel => exact ⟨k + 1, F + N + d, by omega, by omega, by go_num, HNX, below_drewN hbx _⟩
            case measure => simp [intOf]; omega
          · have hFl : F < l.length := G1F.out rfl
            have hFl' : (F : Int) < (l.length : Int) := by omega
            obtain ⟨b', off', rfl, hcc⟩ := HCX.out (fun e => by rw [e] at hFl; simp at hFl)
            obtain ⟨T0, V0, hTV0⟩ : ∃ T V, l[F] = (T, V) := ⟨_, _, rfl⟩
            have y0 : wx.cell? ⟨b', off' + F * 2 + 1, none⟩ = some (.int .i64 V0) := by have := (hcc F hFl).2; rw [hTV0] at this; exact this
            by_cases hql : q < l.length
            · have hql' : (q : Int) < (l.length : Int) := by omega
              obtain ⟨T1, V1, hTV1⟩ : ∃ T V, l[q] = (T, V) := ⟨_, _, rfl⟩
              have y1 : wx.cell? ⟨b', off' + q * 2 + 1, none⟩ = some (.int .i64 V1) := by have := (hcc q hql).2; rw [hTV1] at this; exact this
              have hV1b := HBD.out l[q] (List.getElem_mem hql)
              rw [hTV1] at hV1b
              simp only at hV1b
              by_cases hle0 : V0 ≤ W
              · have hgt : W < V + V1 := by
                  have e := HQ.out
                  subst e
                  have := G1.out rfl hql hFl hql (by rw [hTV0]; exact hle0)
                  rw [hTV1] at this; exact this
                have hwr : IntKind.i64.wrap (V + V1) = V + V1 := IntWalk.i64_in _ ⟨by omega, by omega⟩
                have hd0 : decide (V0 ≤ W) = true := by simpa using hle0
                clear hcc hTV0 hTV1
                go_wp2
                go_quiet (fail)
                go_wp2
                go_quiet (fail)
                go_wp2
                go_roundw
                case rel => exact ⟨k + 1, F + N + d, by omega, by omega, by go_num, HNX, below_drewN hbx _⟩
                case measure => simp [intOf]; omega
              · clear hcc hTV0 hTV1
                have hd1 : decide (V0 ≤ W) = false := by simp; omega
                go_wp2
                go_quiet (fail)
                go_wp2
                go_quiet (fail)
                go_wp2
                go_roundw
                case rel => exact ⟨k + 1, F + N + d, by omega, by omega, by go_num, HNX, below_drewN hbx _⟩
                case measure => simp [intOf]; omega
            · have hql' : ¬ (q : Int) < (l.length : Int) := by omega
              clear hcc hTV0
              go_wp2
              go_quiet (fail)
              go_wp2
              go_quiet (fail)
              go_wp2
              go_roundw
              case rel => exact ⟨k + 1, F + N + d, by omega, by omega, by go_num, HNX, below_drewN hbx _⟩
              case measure => simp [intOf]; omega
          · obtain ⟨hql, hgt⟩ := G0.out rfl
            have e := HQ.out
            rw [e] at hql hgt
            have hql' : ¬ (l.length : Int) ≤ (q : Int) := by omega
            have hwb := wordW_bd (l.drop (q + 1)) (fun c hc => HBD.out c (List.mem_of_mem_drop hc))
            rw [List.length_drop] at hwb
            have HWD : Hid (∀ n, Calls Tryd.prog 8 #[.slice a2 l.length cap2, .int .i64 ((q : Int) + 1)] (wx.drewN n) fun e w' => e = .returned (.int .i64 (wordW (l.drop (q + 1)))) ∧ w' = wx.drewN n) := by
              intro n
              exact word_any l _ (q + 1) _ (HCx.out.below (below_drewN (Below.refl _ _) n)) (by omega) HBD.out (by omega)
            obtain ⟨X, hX⟩ : ∃ X, wordW (l.drop (q + 1)) = X := ⟨_, rfl⟩
            rw [hX] at hgt hwb HWD
            have hwr1 : IntKind.i64.wrap (V + 1) = V + 1 := IntWalk.i64_in _ ⟨by omega, by omega⟩
            have hwr2 : IntKind.i64.wrap ((q : Int) + 1) = (q : Int) + 1 := IntWalk.i64_in _ ⟨by omega, by omega⟩
            have hwr3 : IntKind.i64.wrap (V + 1 + X) = V + 1 + X := IntWalk.i64_in _ ⟨by omega, by omega⟩
            clear e hX
            go_wp2
            go_quiet (exact (HWD.out _).mono (fun e w' h => ⟨h.1, _, h.2⟩))
            go_wp2
            go_quiet (fail)
            go_wp2
            go_roundw
            case rel => exact ⟨k + 1, F + N + d, by omega, by omega, by go_num, HNX, below_drewN hbx _⟩
            case measure => simp [intOf]; omega
    · have hk3 : ¬ (k : Int) < (L.length : Int) := by omega
      have hLp : (0 : Int) < (L.length : Int) := by omega
      go_wp2
      go_ret
      exact ⟨by simp; omega, hB02.trans (hbw.mono (by omega))⟩

theorem contract (H : Type) (enc : TypeId × Value → H) (W : World) (base : Nat) (args : Array Value) (ds gs : List (DataW H)) (before : List MemPlace)
    (hval : ∀ (j : Nat) t v, Tryd.f3.params[j]? = some t → args[j]? = some v → Value.okWide Tryd.prog W .any base t v)
    (hW : DataW.Whole enc Tryd.prog Tryd.f3.params.toList Rows.flowGreedySpec.vars false W args.toList ds gs before) (hk : Rows.uptoSmall H (ds ++ gs) = true) (hL : laidMetH Tryd.prog Rows.flowGreedyUptoRow.laid W) :
    Calls Tryd.prog 3 args W fun e W' => ∃ v, e = .returned v ∧ Rows.flowGreedySpec.post enc Tryd.prog Tryd.f3 false true false false W args v W' := by
  have hW' := hW
  obtain ⟨p, q, hA0, hV, rfl, hfz, hnd⟩ := hW
  have hA : DataW.TrodAll enc Tryd.prog W 0 (fun _ => true) true Tryd.f3.params.toList args.toList ds p := hA0
  rw [Tryd.params3] at hA hval
  obtain ⟨v0, vs0, d0, ds0, p0, q0, hargs, rfl, rfl, h0, r0⟩ := trodAll_cons hA
  obtain ⟨v1, vs1, d1, ds1, p1, q1, rfl, rfl, rfl, h1, r1⟩ := trodAll_cons r0
  obtain ⟨rfl, rfl, rfl⟩ := trodAll_nil r1
  obtain rfl : args = #[v0, v1] := by cases args; simp_all
  obtain ⟨rfl, rfl⟩ := trodVars_none hV
  obtain ⟨s0, rfl, rfl, rfl, m0⟩ := open_string Tryd.underlying9 (hval 0 9 v0 rfl rfl) h0
  obtain ⟨x1, rfl, rfl, rfl, m1⟩ := open_int Tryd.underlying3 (hval 1 3 v1 rfl rfl) h1
  clear hA0
  simp only [List.append_nil] at hW' hk
  refine (walk s0 x1 W (tab_of (by kernel_rfl) hL) (short hk) (bounds m1).1 (bounds m1).2).mono fun e W' ⟨he, bel⟩ => ?_
  subst he
  exact ⟨_, rfl, _, _, _, [], [], [], hW', trodAll_mk1 (shut_bool Tryd.underlying4 _), (trodAll_cons_mk (shut_string Tryd.underlying9 m0) (trodAll_cons_mk (shut_int Tryd.underlying3 m1) trodAll_mk0)), rfl, bel.frame _, fun h => by cases h⟩

theorem laid_met (os : Os) : laidMet Tryd.prog Rows.flowGreedyUptoRow.laid ((withTab (World.holding Tryd.prog os ⟨#[], #[], []⟩)).forCall (fun _ _ => 0) ⟨#[], #[.string .empty, .int .i64 0], []⟩).memory :=
  laidMet_of_run' 8 (by kernel_rfl) (by kernel_rfl)
theorem reads (os : Os) {H : Type} (enc : TypeId × Value → H) : ∃ places, DataW.whole enc Tryd.prog ((withTab (World.holding Tryd.prog os ⟨#[], #[], []⟩)).forCall (fun _ _ => 0) ⟨#[], #[.string .empty, .int .i64 0], []⟩).memory Tryd.f3.params.toList Rows.flowGreedySpec.vars false #[Value.string .empty, Value.int .i64 0].toList 8 = some ([.lit (.string []), .lit (.int .i64 0)], [], places) :=
  ⟨[], by kernel_rfl⟩

set_option maxRecDepth 100000 in
theorem lifted (os : Os) (started : os.Started) (H : Type) (enc : TypeId × Value → H) (F : Stop.Interp) :
    ReturnsInHanded {} Tryd.checked os 3 .any ((Rows.OpenSpec.upto Rows.flowGreedySpec).preRow enc Tryd.prog Tryd.f3 Rows.flowGreedyUptoRow.domain false Rows.flowGreedyUptoRow.laid) (((Rows.OpenSpec.upto Rows.flowGreedySpec).at F).post enc Tryd.prog Tryd.f3 false true false false) := by
  obtain ⟨places, hx⟩ := reads os enc
  refine returnsInHanded_of_row (C := Tryd.checked) (s := Rows.OpenSpec.upto Rows.flowGreedySpec) own started (by kernel_rfl) Tryd.func3
    (witness_row_at (enc := enc) (C := Tryd.checked) false (withTab (World.holding Tryd.prog os ⟨#[], #[], []⟩)) #[.string .empty, .int .i64 0] rfl (by kernel_rfl) (by kernel_rfl) (by kernel_rfl)
      (OpenSpec.preRow_of_cond 8 hx (by kernel_rfl) (fun k hk => by cases hk; kernel_rfl) (by kernel_rfl) (laid_met os))) ?_
  intro W base args ds gs before hval hW _ hcond _ hL _ _
  exact contract H enc W base args ds gs before hval hW (hcond _ rfl) hL

theorem said : Rows.FlowGreedyUptoSaid :=
  OpenClaim.holds_of_cond 3 Tryd.f3 rfl rfl rfl rfl rfl rfl rfl ⟨rfl, rfl, rfl, rfl, rfl⟩ rfl rfl rfl rfl rfl (by kernel_rfl) Tryd.func3 (by kernel_rfl)
    (of_decide_eq_true (by kernel_rfl)) (by unfold Func.isWrapper; first | (rw [if_pos (by decide +kernel)]; kernel_rfl) | (rw [if_neg (by decide +kernel)]; exact ⟨rfl, rfl⟩))
    (fun os started H enc _ F => by rw [OpenClaim.pre_eq_preRow]; exact lifted os started H enc F)

theorem plain (f : FuncId) (fn : Func) (hf : Tryd.pinned.checked.prog.funcNamed Rows.flowGreedyUptoRow.func = some f) (hfn : Tryd.pinned.checked.prog.funcs[f]? = some fn) :
    false = Tryd.pinned.checked.prog.looks [] ∧ ∀ (j : Nat) t, fn.params[j]? = some t → Tryd.pinned.checked.prog.wantsStandIn t = false := by
  obtain rfl : f = 3 := Option.some.inj ((show Tryd.prog.funcNamed Rows.flowGreedyUptoRow.func = some 3 by kernel_rfl).symm.trans hf) |>.symm
  obtain rfl : fn = Tryd.f3 := (Option.some.inj (Tryd.func3.symm.trans hfn)).symm
  refine ⟨by kernel_rfl, fun j t ht => ?_⟩
  rw [Tryd.params3] at ht
  have hm : t = 9 ∨ t = 3 := by have := Array.mem_of_getElem? ht; simp at this; omega
  rcases hm with rfl | rfl
  · exact (show Tryd.prog.wantsStandIn 9 = false by kernel_rfl)
  · exact (show Tryd.prog.wantsStandIn 3 = false by kernel_rfl)

theorem proved : Rows.FlowGreedyUptoCardSaid :=
  Claim7.holds_tied_plain_at .later [] _ _ _ _ said (fun _ h => by cases h) (by kernel_rfl) (fun _ h => by cases h) flowGreedyUpto_row_tie rfl ⟨rfl, rfl⟩ (by kernel_rfl) rfl plain (by kernel_rfl)
#print axioms proved
end Go.Proofs.YtbjfckhijjjnkacDoor.flowGreedy

