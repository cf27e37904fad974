/-
  The walks of flow.Lines and flow.Count.
-/
import Derived.Test.YtbjfckhijjjnkabDoorFEach
import Derived.Maps.AppendAt
namespace Go.Proofs.YtbjfckhijjjnkabDoor
open Go.RowKit Go.Shelf
attribute [local go_sem] Oper.semAt_some
set_option linter.unusedVariables false

theorem keepL_put {Bw B : Nat} (hB : Bw < B) (W : World) (l : Nat) (o o' : Obj) (hl : B ≤ l) (h : W.heap[l]? = some o) (hc : o.isCells = false) (_ : o.isWalk = false) : KeepL Bw W (W.putObj l o') := by
  have hg := grownBy_putObj' W l o'
  have hls := (Array.getElem?_eq_some_iff.1 h).1
  refine ⟨fun k c fz e => ?_, hg.block Bw (by omega) (fun e => by cases e; omega)⟩
  refine (hg.block k (Array.getElem?_eq_some_iff.1 e).1 (fun e' => ?_)).trans e
  cases e'
  rw [h] at e; cases e; cases hc

theorem each_stops (n : Nat) (hn : 3 ≤ n) (Bw Bs : Nat) (s : ByteArray) (w : Int) (l : List (List UInt8 × Int)) (hl : clus (runes s.data.toList) = l) (hs : s.size ≤ 68719476736) (hw0 : -9223372036854775808 ≤ w) (hw1 : w ≤ 9223372036854775807) (W0 : World) (ht : TabAt W0)
    (hBw : W0.heap[Bw]? = some (.cells #[.int .i64 w] 3 (0, 0))) (hBs : W0.heap[Bs]? = some (.cells #[.string s] 9 (0, 0))) :
    SeqStopsK Fence.wide n Tryd.prog 40 #[.pointer (some ⟨Bw, 0, none⟩), .pointer (some ⟨Bs, 0, none⟩)] lnV (KeepL Bw) (fun ys => ys = linesOf l w) (fun _ => True) (l.length + 1) W0 := fun k0 J Jx W hW hJ _ hY h0 =>
  each1_in n hn k0 Bw Bs s w l hl hs hw0 hw1 J Jx W hJ hY (fun W' hW' => (ht.below hW).below hW')
    ((hW.block Bw (Array.getElem?_eq_some_iff.1 hBw).1).trans hBw) ((hW.block Bs (Array.getElem?_eq_some_iff.1 hBs).1).trans hBs) h0

set_option maxHeartbeats 1000000 in
theorem each_any (s : ByteArray) (w : Int) (W : World) :
    Calls Tryd.prog 22 #[.string s, .int .i64 w] W fun e w' => e = .returned (.func (.func 40) #[] #[.pointer (some ⟨W.heap.size + 1, 0, none⟩), .pointer (some ⟨W.heap.size, 0, none⟩)]) ∧ w' = (W.alloc (.cells #[.string s] 9)).alloc (.cells #[.int .i64 w] 3) := by
  go_enter Tryd.func22, Tryd.ntmps22
  go_wp2
  go_ret
  exact ⟨rfl, rfl⟩

/-- Lines in memory. -/
def lnCells (x : Ln) : List Value := [.string ⟨x.T.toArray⟩, .int .i64 x.W, .int .i64 x.F, .int .i64 x.N, .int .i64 x.E]
def lCells (ls : List Ln) : List Value := ls.flatMap lnCells
theorem lCells_snoc (ls : List Ln) (x : Ln) : lCells (ls ++ [x]) = lCells ls ++ lnCells x := by simp [lCells]
theorem infoLine : (Tryd.prog.info? 33).map (fun i => (i.zero, i.size, i.bytes)) = some (some (.agg #[.string ⟨#[]⟩, .int .i64 0, .int .i64 0, .int .i64 0, .int .i64 0]), 5, 48) := by kernel_rfl

theorem own_not {W : World} {n₀ k : Nat} {v : Value} {xs : List Value} (h : W.ownsRow n₀ 33 5 v k xs) {j : Nat} {c : Array Value} {t : TypeId} {fz : Nat × Nat} (hj : W.heap[j]? = some (.cells c t fz)) (ht : t ≠ 33) : some j ≠ v.ownBlock := by
  rcases h.2 with ⟨rfl, _⟩ | ⟨g, cap, cur, rfl, _, hg, _⟩
  · simp [Value.ownBlock]
  · intro e
    obtain rfl : j = g := by simpa [Value.ownBlock] using e
    rw [hj] at hg; cases hg; exact ht rfl
theorem keep_app {W w1 : World} {n₀ B Bw k : Nat} {t : TypeId} {v v' x : Value} {xs : List Value} {tmp : Obj} (hte : t ≠ 41) (hBne : Bw ≠ B) (hv : Boxed W B t v) (hrow : W.ownsRow n₀ 33 5 v k xs) (hw : Boxed W Bw 3 x) (hgrow : (W.alloc tmp).grownBy w1 v.ownBlock) :
    KeepL Bw W (w1.setCell ⟨B, 0, none⟩ v') ∧ Boxed (w1.setCell ⟨B, 0, none⟩ v') Bw 3 x := by
  have hb : Boxed (w1.setCell ⟨B, 0, none⟩ v') Bw 3 x := Boxed.other ((hw.alloc tmp).kept hgrow (own_not hrow hw (by decide))) hBne v'
  refine ⟨⟨fun j c fz e => ?_, hb.trans hw.symm⟩, hb⟩
  have hjs := (Array.getElem?_eq_some_iff.1 e).1
  have hjB : j ≠ B := by
    rintro rfl
    rw [show W.heap[j]? = _ from hv] at e; cases e; exact hte rfl
  rw [heap_setCell_other _ _ _ _ hjB]
  exact (hgrow.block j (by rw [World.size_alloc]; omega) (own_not hrow e (by decide))).trans ((heap_alloc_old _ _ _ hjs).trans e)

theorem keepL_alloc {W : World} {Bw : Nat} {x : Value} (h : Boxed W Bw 3 x) (o : Obj) : KeepL Bw W (W.alloc o) :=
  ⟨fun k c fz e => (heap_alloc_old _ _ _ (Array.getElem?_eq_some_iff.1 e).1).trans e, heap_alloc_old _ _ _ h.lt⟩
theorem cell_five {W : World} {B : Nat} {x : Ln} {t : TypeId} (h : W.heap[B]? = some (.cells (lnCells x).toArray t (0, 0))) : W.cell? ⟨B, 0, none⟩ = some (.string ⟨x.T.toArray⟩) ∧ W.cell? ⟨B, 1, none⟩ = some (.int .i64 x.W) ∧ W.cell? ⟨B, 2, none⟩ = some (.int .i64 x.F) ∧ W.cell? ⟨B, 3, none⟩ = some (.int .i64 x.N) ∧ W.cell? ⟨B, 4, none⟩ = some (.int .i64 x.E) := by
  simp [World.cell?, h, lnCells]
theorem new_five (W : World) (x : Ln) (t : TypeId) : ∀ (j : Nat) (u : Value), (lnCells x)[j]? = some u → (W.alloc (.cells (lnCells x).toArray t)).cell? ((⟨W.heap.size, 0, none⟩ : Addr).add j) = some u := by
  intro j u hu
  have e0 : (⟨W.heap.size, 0, none⟩ : Addr).add j = ⟨W.heap.size, j, none⟩ := by unfold Addr.add; split <;> simp_all
  rw [e0]
  have hh := heap_alloc_new W (.cells (lnCells x).toArray t)
  simp only [World.cell?]
  rw [hh]
  simpa using hu

set_option maxRecDepth 100000 in
set_option maxHeartbeats 4000000 in
theorem lines_any (s : ByteArray) (w : Int) (W : World) (ht : TabAt W) (hs : s.size ≤ 68719476736) (hw0 : -9223372036854775808 ≤ w) (hw1 : w ≤ 9223372036854775807) :
    Calls Tryd.prog 11 #[.string s, .int .i64 w] W fun e W' => ∃ v, e = .returned v ∧ W'.ownsRow W.heap.size 33 5 v (linesOf (clus (runes s.data.toList)) w).length (lCells (linesOf (clus (runes s.data.toList)) w)) ∧ Below W.heap.size W W' := by
  have hsl : s.data.toList.length = s.size := by rw [Array.length_toList]; rfl
  have hR := runes_length s.data.toList
  have hC := clus_length (runes s.data.toList)
  rw [hsl] at hR
  obtain ⟨l, hl⟩ : ∃ l, clus (runes s.data.toList) = l := ⟨_, rfl⟩
  rw [hl] at hC ⊢
  obtain ⟨i0, hi, hz0, hz1, hz2⟩ := info_parts infoLine
  refine (callsIn_wide (n := 6)).1 ?_
  refine callsIn_of_wp_marks Tryd.func11 rfl trivial ?_ rfl
  simp only [Tryd.ntmps11, List.size_toArray, List.length_cons, List.length_nil, Nat.reduceAdd, Nat.reduceSub, Array.replicate_succ, Array.replicate_zero, List.push_toArray, List.append_toArray, List.nil_append, List.cons_append]
  gi_wp2_with fail
  refine ⟨trivial, (callsIn_wide.2 (each_any s w _)).mono ?_⟩
  rintro e w' ⟨rfl, rfl⟩
  have bO := Boxed.new W 26 (.slice none 0 0)
  obtain ⟨W0, hW0⟩ : ∃ W0, ((W.alloc (.cells #[.slice none 0 0] 26)).alloc (.cells #[.string s] 9)).alloc (.cells #[.int .i64 w] 3) = W0 := ⟨_, rfl⟩
  have bO0 : Boxed W0 W.heap.size 26 (.slice none 0 0) := by rw [← hW0]; exact (bO.alloc _).alloc _
  have bS0 : Boxed W0 (W.heap.size + 1) 9 (.string s) := by
    rw [← hW0]; have := Boxed.new (W.alloc (.cells #[.slice none 0 0] 26)) 9 (.string s); rw [World.size_alloc] at this; exact this.alloc _
  have bW0 : Boxed W0 (W.heap.size + 2) 3 (.int .i64 w) := by
    rw [← hW0]; have := Boxed.new ((W.alloc (.cells #[.slice none 0 0] 26)).alloc (.cells #[.string s] 9)) 3 (.int .i64 w); rw [World.size_alloc, World.size_alloc] at this; exact this
  have hB0 : Below W.heap.size W W0 := by rw [← hW0]; exact (((Below.refl _ W).alloc (Nat.le_refl _) _).alloc (by simp) _).alloc (by simp; omega) _
  have hsz : W0.heap.size = W.heap.size + 3 := by rw [← hW0]; simp
  have ht0 : TabAt W0 := ht.below hB0
  rw [World.size_alloc, hW0]
  gi_wp2
  refine wpIn_rangeFunc_ownH rfl (by omega) (gf := 40) (lb := #[.pointer (some ⟨W.heap.size + 2, 0, none⟩), .pointer (some ⟨W.heap.size + 1, 0, none⟩)]) rfl trivial (enters_of Tryd.func40 (by kernel_rfl) rfl)
    (each_stops 5 (by omega) (W.heap.size + 2) (W.heap.size + 1) s w l hl hs hw0 hw1 W0 ht0 bW0 bS0) KeepL.trans (keepL_put (by omega)) (Below.refl _ _) (fun _ => rfl)
    (fun pre W' => ((∃ v, Boxed W' W.heap.size 26 v ∧ W'.ownsRow W.heap.size 33 5 v pre.length (lCells pre) ∧ True) ∧ Boxed W' (W.heap.size + 2) 3 (.int .i64 w)) ∧ Below W.heap.size W W')
    (fun _ _ _ => False)
    (OwnFrom.and (OwnFrom.and (Own.from (holdsRow_own W.heap.size W.heap.size 26 33 5 (fun pre : List Ln => pre.length) (fun pre => lCells pre) (fun _ _ => True)) _) (Own.from (boxed_own _ _ _) _)) (ownFrom_below (Nat.le_refl _) (by omega)))
    (fun _ _ _ _ _ hs _ _ => hs)
    ⟨⟨⟨_, bO0, World.ownsRow_nil _ _ _ _, trivial⟩, bW0⟩, hB0⟩
    (fun x a' W' => ∃ Bx, W'.heap[Bx]? = some (.cells (lnCells x).toArray 33 (0, 0)) ∧ a' = { tmps := #[.string s, .int .i64 w, undef, undef, .slice none 0 0, .pointer (some ⟨W.heap.size, 0, none⟩), .pointer (some ⟨Bx, 0, none⟩), .string s, .int .i64 w, .func (.func 40) #[] #[.pointer (some ⟨W.heap.size + 2, 0, none⟩), .pointer (some ⟨W.heap.size + 1, 0, none⟩)], .agg (lnCells x).toArray, undef, undef, undef, undef, undef], defers := [] })
    ?hAx ?assign ?body ?done ?stop
  case hAx =>
    rintro x a' _ A B row ⟨Bx, h2, h3⟩ hg hr
    refine ⟨Bx, (hg.block Bx (Array.getElem?_eq_some_iff.1 h2).1 (fun e => ?_)).trans h2, h3⟩
    obtain ⟨_, o, ho, hc⟩ := hr Bx e.symm
    rw [h2] at ho; cases ho; cases hc
  case assign =>
    rintro k0 pre ⟨T, V, F, N, E⟩ W' K ⟨⟨⟨v, hv, hrow, _⟩, hbw⟩, hB⟩ hK
    dsimp only [lnV, lnCells] at hK ⊢
    have hBs := hB.size
    gi_wp2
    exact hK _ _ ((KeepsOthers.alloc _ _).from _) (keepL_alloc hbw _) ⟨⟨⟨v, hv.alloc _, hrow.alloc _, trivial⟩, hbw.alloc _⟩, hB.alloc hB.size _⟩ ⟨W'.heap.size, heap_alloc_new _ _, rfl⟩
  case body =>
    rintro k0 pre x a' W' hlk ⟨r, hr⟩ ⟨⟨⟨v, hv, hrow, _⟩, hbw⟩, hB⟩ ⟨Bx, hx, rfl⟩ hlt
    have hc := hv.cell
    obtain ⟨x0, x1, x2, x3, x4⟩ := cell_five hx
    have HX : Hid (W'.heap[Bx]? = some (.cells (lnCells x).toArray 33 (0, 0))) := hx
    have hBs := hB.size
    clear hx
    gi_wp2_with (gi_at_builtin; refine wpListIn_append_own _ rfl _ _ 26 rfl W.heap.size 33 i0 (.agg #[.string ⟨#[]⟩, .int .i64 0, .int .i64 0, .int .i64 0, .int .i64 0]) 5 48 Tryd.underlying26 hi hz0 hz1 hz2 rfl (by decide) _ _ _ rfl (hrow.alloc _) ⟨W'.heap.size, 0, none⟩ 1 1 (lnCells x) rfl rfl (new_five _ _ _) (by intro u hu; simp [lnCells] at hu; rcases hu with rfl | rfl | rfl | rfl | rfl <;> rfl) (by unfold maxLen; omega) (by omega) (by simp; omega) ?_; intro v' w1 hown' hgrow _; obtain ⟨g', cap', rfl⟩ := ownsRow_succ hown'; obtain ⟨hv1, hv2, hr2, hk2, hb2⟩ := hv.appended (by decide) hrow hB.size (Nat.le_refl _) hown' hgrow; obtain ⟨hkl, hbw2⟩ := keep_app (v' := .slice (some ⟨g', 0, none⟩) (pre.length + 1) cap') (by decide) (by omega) hv hrow hbw hgrow; have hc1 := hv1.cell; have hf1 := hv1.frozen)
    exact ⟨hk2.from _, hkl, ⟨⟨_, hv2, by rw [lCells_snoc, List.length_append]; exact hr2, trivial⟩, hbw2⟩, hB.trans hb2⟩
  case done =>
    rintro D ys W' hD rfl ⟨⟨⟨v, hv, hrow, _⟩, hbw⟩, hB⟩ hK
    have hc := hv.cell
    gi_wp2
    refine ⟨by simp, .inl ⟨_, _, rfl, run_takeDeferred hK, ?_⟩⟩
    exact ⟨_, results_tmp rfl _ _ _, v, rfl, ownsRow_putObj hrow _ hK rfl, hB.trans (belowK_b (w := W) (Nat.le_refl _) W' D _ _ (by omega) hK rfl rfl)⟩
  case stop =>
    rintro D c pre W' _ _ h _
    exact h.elim

theorem keep_set {W : World} {B Bw : Nat} {v v' x : Value} (hne : Bw ≠ B) (hv : Boxed W B 3 v) (hw : Boxed W Bw 3 x) : KeepL Bw W (W.setCell ⟨B, 0, none⟩ v') ∧ Boxed (W.setCell ⟨B, 0, none⟩ v') Bw 3 x := by
  have hb := Boxed.other hw hne v'
  refine ⟨⟨fun j c fz e => ?_, hb.trans hw.symm⟩, hb⟩
  have hjB : j ≠ B := by
    rintro rfl
    rw [show W.heap[j]? = _ from hv] at e; cases e
  rw [heap_setCell_other _ _ _ _ hjB]
  exact e

set_option maxRecDepth 100000 in
set_option maxHeartbeats 4000000 in
theorem count_any (s : ByteArray) (w : Int) (W : World) (ht : TabAt W) (hs : s.size ≤ 68719476736) (hw0 : -9223372036854775808 ≤ w) (hw1 : w ≤ 9223372036854775807) :
    Calls Tryd.prog 13 #[.string s, .int .i64 w] W fun e W' => e = .returned (.int .i64 (linesOf (clus (runes s.data.toList)) w).length) ∧ Below W.heap.size W W' := by
  have hsl : s.data.toList.length = s.size := by rw [Array.length_toList]; rfl
  have hR := runes_length s.data.toList
  have hC := clus_length (runes s.data.toList)
  rw [hsl] at hR
  obtain ⟨l, hl⟩ : ∃ l, clus (runes s.data.toList) = l := ⟨_, rfl⟩
  rw [hl] at hC ⊢
  refine (callsIn_wide (n := 6)).1 ?_
  refine callsIn_of_wp_marks Tryd.func13 rfl trivial ?_ rfl
  simp only [Tryd.ntmps13, List.size_toArray, List.length_cons, List.length_nil, Nat.reduceAdd, Nat.reduceSub, Array.replicate_succ, Array.replicate_zero, List.push_toArray, List.append_toArray, List.nil_append, List.cons_append]
  gi_wp2_with fail
  refine ⟨trivial, (callsIn_wide.2 (each_any s w _)).mono ?_⟩
  rintro e w' ⟨rfl, rfl⟩
  have bO := Boxed.new W 3 (.int .i64 0)
  obtain ⟨W0, hW0⟩ : ∃ W0, ((W.alloc (.cells #[.int .i64 0] 3)).alloc (.cells #[.string s] 9)).alloc (.cells #[.int .i64 w] 3) = W0 := ⟨_, rfl⟩
  have bO0 : Boxed W0 W.heap.size 3 (.int .i64 0) := by rw [← hW0]; exact (bO.alloc _).alloc _
  have bS0 : Boxed W0 (W.heap.size + 1) 9 (.string s) := by
    rw [← hW0]; have := Boxed.new (W.alloc (.cells #[.int .i64 0] 3)) 9 (.string s); rw [World.size_alloc] at this; exact this.alloc _
  have bW0 : Boxed W0 (W.heap.size + 2) 3 (.int .i64 w) := by
    rw [← hW0]; have := Boxed.new ((W.alloc (.cells #[.int .i64 0] 3)).alloc (.cells #[.string s] 9)) 3 (.int .i64 w); rw [World.size_alloc, World.size_alloc] at this; exact this
  have hB0 : Below W.heap.size W W0 := by rw [← hW0]; exact (((Below.refl _ W).alloc (Nat.le_refl _) _).alloc (by simp) _).alloc (by simp; omega) _
  have hsz : W0.heap.size = W.heap.size + 3 := by rw [← hW0]; simp
  have ht0 : TabAt W0 := ht.below hB0
  rw [World.size_alloc, hW0]
  gi_wp2
  refine wpIn_rangeFunc_ownG rfl (by omega) (gf := 40) (lb := #[.pointer (some ⟨W.heap.size + 2, 0, none⟩), .pointer (some ⟨W.heap.size + 1, 0, none⟩)]) rfl trivial (enters_of Tryd.func40 (by kernel_rfl) rfl)
    (each_stops 5 (by omega) (W.heap.size + 2) (W.heap.size + 1) s w l hl hs hw0 hw1 W0 ht0 bW0 bS0) KeepL.trans (keepL_put (by omega)) (Below.refl _ _) (fun _ => rfl)
    (fun pre W' => (Boxed W' W.heap.size 3 (.int .i64 pre.length) ∧ Boxed W' (W.heap.size + 2) 3 (.int .i64 w)) ∧ Below W.heap.size W W')
    (fun _ _ _ => False)
    (OwnFrom.and (OwnFrom.and (Own.from (boxed_own W.heap.size 3 (fun pre : List Ln => Value.int .i64 (pre.length : Int))) _) (Own.from (boxed_own _ _ _) _)) (ownFrom_below (Nat.le_refl _) (by omega)))
    (fun _ _ _ _ _ hs _ _ => hs)
    ⟨⟨bO0, bW0⟩, hB0⟩
    (fun x => { tmps := #[.string s, .int .i64 w, undef, undef, .int .i64 0, .pointer (some ⟨W.heap.size, 0, none⟩), .string s, .int .i64 w, .func (.func 40) #[] #[.pointer (some ⟨W.heap.size + 2, 0, none⟩), .pointer (some ⟨W.heap.size + 1, 0, none⟩)], .agg (lnCells x).toArray, undef, undef, undef], defers := [] })
    ?assign ?body ?done ?stop
  case assign =>
    rintro k0 ⟨T, V, F, N, E⟩ W' K hK
    dsimp only [lnV, lnCells] at hK ⊢
    gi_wp2
    simpa using hK
  case body =>
    rintro k0 pre x W' ⟨⟨hv, hbw⟩, hB⟩ hlt
    have hc := hv.cell
    have hf := hv.frozen
    have hBs := hB.size
    gi_wp2
    obtain ⟨hkl, hbw2⟩ := keep_set (v' := .int .i64 ((pre.length : Int) + 1)) (by omega) hv hbw
    exact ⟨(KeepsOthers.setCell _ _ _).from _, hkl, ⟨by have := hv.set (.int .i64 ((pre.length : Int) + 1)); simpa using this, hbw2⟩, hB.setCell (p := ⟨W.heap.size, 0, none⟩) (Nat.le_refl _) _⟩
  case done =>
    rintro D ys W' hD rfl ⟨⟨hv, hbw⟩, hB⟩ hK
    have hc := hv.cell
    gi_wp2
    refine ⟨by simp, .inl ⟨_, _, rfl, run_takeDeferred hK, ?_⟩⟩
    exact ⟨_, results_tmp rfl _ _ _, rfl, hB.trans (belowK_b (w := W) (Nat.le_refl _) W' D _ _ (by omega) hK rfl rfl)⟩
  case stop =>
    rintro D c pre W' _ _ h _
    exact h.elim

end Go.Proofs.YtbjfckhijjjnkabDoor
