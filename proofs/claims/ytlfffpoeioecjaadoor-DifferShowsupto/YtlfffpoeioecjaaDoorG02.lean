/-
  style.sequence: ESC, the numbers with semicolons between them, m.
-/
import Derived.Test.YtlfffpoeioecjaaDoorG01
import Derived.Lib.Builder
import Derived.Lib.FrozenHead2
import Derived.Laws.Externs
import Derived.Lib.OthersKept
import Derived.Test.YtlfffpoeioecjaaDoorProg
import Derived.WalkKit
import Derived.WalkSpells
import Derived.WalkLawsBesides
import Derived.RegionTactic
import Derived.BigRegion
import Derived.BigQuiet
import Derived.Deep.QuietTactic
import Derived.Deep.RegionWith
import Derived.Deep.RegionHeld
import Derived.Deep.Cut
import Derived.Deep.CutRange
import Derived.Shelf.SlSortCmp.QuietGrown
namespace Go.Proofs.YtlfffpoeioecjaaDoor
open Go.RowKit Go.Sort
set_option linter.unusedVariables false

theorem str_app (a b : List UInt8) : (⟨a.toArray⟩ : ByteArray) ++ (⟨b.toArray⟩ : ByteArray) = ⟨(a ++ b).toArray⟩ := by
  apply ByteArray.ext
  simp
theorem dc_len {n : Int} (h : 0 ≤ n ∧ n < 100) : 1 ≤ (dc n).length ∧ (dc n).length ≤ 2 := by
  unfold dc
  by_cases h1 : n.toNat < 10
  · rw [Lib.decDigits, dif_pos h1]; simp
  · rw [Lib.decDigits, dif_neg h1, Lib.decDigits, dif_pos (by omega)]; simp
theorem tail_len (ns : List Int) (h : Small ns) : (Lib.joinTail [59] (ns.map dc)).length ≤ 3 * ns.length := by
  induction ns with
  | nil => simp [Lib.joinTail]
  | cons n r ih =>
    have h1 := dc_len (h n (List.mem_cons_self ..))
    have h2 := ih (fun m hm => h m (List.mem_cons_of_mem _ hm))
    unfold Lib.joinTail at *
    simp only [List.map_cons, List.flatten_cons, List.length_append, List.length_cons, List.length_nil] at *
    omega
theorem join_len (ns : List Int) (h : Small ns) : (Lib.join (ns.map dc) [59]).length ≤ 3 * ns.length := by
  cases ns with
  | nil => simp [Lib.join_nil]
  | cons n r =>
    have h1 := dc_len (h n (List.mem_cons_self ..))
    have h2 := tail_len r (fun m hm => h m (List.mem_cons_of_mem _ hm))
    rw [List.map_cons, Lib.join_cons, List.length_append, List.length_cons]
    omega
theorem infoS : (Tryd.prog.info? 9).map (fun i => (i.zero, i.size, i.bytes)) = some (some (.string ⟨#[]⟩), 1, 16) := by kernel_rfl
def wd (n : Int) : Value := .string ⟨(dc n).toArray⟩
theorem wd_cell (n : Int) (u : Value) (h : u ∈ [wd n]) : u.oneCell' = true := by simp at h; subst h; rfl
theorem map_back (ns : List Int) : (ns.map (fun n => (⟨(dc n).toArray⟩ : ByteArray))).map (fun x => x.data.toList) = ns.map dc := by
  rw [List.map_map]; rfl

set_option maxRecDepth 100000 in
set_option maxHeartbeats 4000000 in
theorem ysequence_any (ns : List Int) (B off cap : Nat) (w : World) (hp : 0 < ns.length) (hB : B < w.heap.size) (hc : ∀ j, j < ns.length → w.cell? ⟨B, off + j, none⟩ = some (.int .i64 (ns[j]?.getD 0))) (hs : Small ns) (hl : ns.length ≤ 100) :
    Calls Tryd.prog 85 #[.slice (some ⟨B, off, none⟩) ns.length cap] w fun e w' => e = .returned (.string ⟨(sq ns).toArray⟩) ∧ Below w.heap.size w w' := by
  have HC : Hid (∀ j, j < ns.length → w.cell? ⟨B, off + j, none⟩ = some (.int .i64 (ns[j]?.getD 0))) := hc
  have HS : Hid (Small ns) := hs
  have HB : Hid (B < w.heap.size) := hB
  obtain ⟨i0, hi, hz0, hz1, hz2⟩ := info_parts infoS
  clear hc hs hB
  go_enter Tryd.func85, Tryd.ntmps85
  go_wp2_with fail
  go_loopw [3, 8] (fun u i wr => ∃ k : Nat, k ≤ ns.length ∧ i = .int .i64 k ∧ Hid (wr.ownsRow w.heap.size 9 1 u k ((ns.take k).map wd) ∧ Below w.heap.size w wr)) (fun _ i _ => ns.length - (intOf i).toNat)
  case atStart => exact ⟨0, Nat.zero_le _, rfl, World.ownsRow_nil _ _ _ _, Below.refl _ _⟩
  case round =>
    obtain ⟨k, hk, rfl, HR⟩ := hrel
    by_cases hlt : k < ns.length
    · obtain ⟨n, hn⟩ : ∃ q, ns[k]?.getD 0 = q := ⟨_, rfl⟩
      have hnm : 0 ≤ n ∧ n < 100 := by
        rw [← hn, List.getElem?_eq_getElem hlt]; exact HS.out _ (List.getElem_mem hlt)
      obtain ⟨m, hm⟩ : ∃ m : Nat, (m : Int) = n := ⟨n.toNat, by omega⟩
      have hcx : wr.cell? ⟨B, off + k, none⟩ = some (.int .i64 m) := by rw [hm, ← hn]; exact (HR.out.2.cell (p := ⟨B, off + k, none⟩) HB.out).trans (HC.out k hlt)
      have bb : B < wr.heap.size := Nat.lt_of_lt_of_le HB.out HR.out.2.size
      have IT : Hid (∀ w, Calls Tryd.prog 65 #[.int .i64 m] w fun e w' => e = .returned (.string ⟨(dc n).toArray⟩) ∧ w' = w) := fun w => by have := itoa_lib m (by omega) w; unfold dc; rw [← hm, show ((m : Int).toNat) = m from rfl]; exact this
      have HT : Hid ((ns.take (k + 1)).map wd = (ns.take k).map wd ++ [wd n]) := by
        show _ = _
        rw [List.take_succ_eq_append_getElem hlt, List.map_append, ← hn, List.getElem?_eq_getElem hlt]; rfl
      clear hn hm hnm
      have hlt' : (k : Int) < (ns.length : Int) := by omega
      have hown := HR.out.1
      go_wp2_with (first | (go_at_call 65; refine Calls.mono (IT.out _) ?_; rintro e w' ⟨rfl, rfl⟩) | (at_builtin; refine wpList_append_own _ rfl _ _ 164 rfl w.heap.size 9 i0 (.string ⟨#[]⟩) 1 16 Tryd.underlying164 hi hz0 hz1 hz2 rfl (by decide) _ _ _ rfl (hown.alloc _) _ 1 1 [wd n] rfl rfl (one_new _ _ _) (wd_cell _) (by unfold maxLen; omega) (by omega) (by rw [World.size_alloc]; have := HR.out.2.size; omega) ?_))
      intro v' w1 ho hg _
      have hb1 : Hid (Below w.heap.size w w1) := (HR.out.2.alloc (by have := HR.out.2.size; omega) _).grown hg (by rw [World.size_alloc]; have := HR.out.2.size; omega) (fun q hq => by have := (hown.lt q hq).1; omega)
      have HO : Hid (w1.ownsRow w.heap.size 9 1 v' (k + 1) ((ns.take (k + 1)).map wd)) := by rw [HT.out]; first | exact ho | (rw [List.map_take]; exact ho)
      clear ho hg hown
      go_wp2
      go_roundw
      case rel => exact ⟨k + 1, by omega, by go_num, HO.out, hb1.out⟩
      case measure => simp [intOf]; omega
    · have hlt' : ¬ (k : Int) < (ns.length : Int) := by omega
      have hkk : k = ns.length := by omega
      have HK : Hid (wr.ownsRow w.heap.size 9 1 u3 ns.length (ns.map wd)) := by have := HR.out.1; rw [hkk, List.take_length] at this; exact this
      obtain ⟨g, cp, cur, rfl, hbg, hg, hcp⟩ : ∃ g cp cur, u3 = .slice (some ⟨g, 0, none⟩) ns.length cp ∧ w.heap.size ≤ g ∧ wr.heap[g]? = some (.cells cur 9 (0, 0)) ∧ ns.length ≤ cp := by
        rcases HK.out.2 with ⟨_, h⟩ | ⟨g, cp, cur, h, h1, h2, h3, _⟩
        · omega
        · exact ⟨g, cp, cur, h, h1, h2, h3⟩
      have JJ : Hid (Calls Tryd.prog 106 #[.slice (some ⟨g, 0, none⟩) ns.length cp, .string ⟨#[59]⟩] wr fun e w' => e = .returned (.string ⟨(Lib.join (ns.map dc) [59]).toArray⟩) ∧ Below wr.heap.size wr w') := by
        have := join_lib g 0 cp (ns.map (fun n => (⟨(dc n).toArray⟩ : ByteArray))) ⟨#[59]⟩ wr ?_ (Array.getElem?_eq_some_iff.1 hg).1 (by rw [List.length_map]; omega) (by rw [List.length_map]; exact hcp) ?_
        · rw [List.length_map, map_back] at this; exact this
        · intro j x hx
          have := HK.out.cells (g := g) rfl j (.string x) (by
            rw [List.getElem?_map] at hx ⊢
            cases h : ns[j]? with
            | none => rw [h] at hx; simp at hx
            | some q => rw [h] at hx; simp at hx; subst hx; rfl)
          have e : (⟨g, 0, none⟩ : Addr).add j = ⟨g, 0 + j, none⟩ := by unfold Addr.add; split <;> simp_all
          rwa [e] at this
        · rw [map_back]
          have := join_len ns HS.out
          show (Lib.join (ns.map dc) [59]).length ≤ _
          omega
      clear hbg hg hcp HK
      obtain ⟨J, hJ⟩ : ∃ q, Lib.join (ns.map dc) [59] = q := ⟨_, rfl⟩
      have HJ : Hid (sq ns = [27, 91] ++ (J ++ [109])) := by show _ = _; unfold sq; rw [hJ]
      rw [hJ] at JJ
      have jl := join_len ns HS.out
      rw [hJ] at jl
      have j1 : ¬ 9223372036854775807 < 2 + J.length := by omega
      have j2 : ¬ 9223372036854775807 < 2 + J.length + 1 := by omega
      clear hJ jl
      go_wp2_with (go_at_call 106; refine Calls.mono JJ.out ?_; rintro e w2 ⟨rfl, hb2⟩)
      go_ret
      refine ⟨?_, HR.out.2.trans (hb2.mono HR.out.2.size)⟩
      rw [HJ.out]
      refine congrArg (fun q => Ending.returned (Value.string q)) ?_
      show (⟨[27, 91].toArray⟩ : ByteArray) ++ (⟨J.toArray⟩ : ByteArray) ++ (⟨[109].toArray⟩ : ByteArray) = _
      rw [str_app, str_app, List.append_assoc]

end Go.Proofs.YtlfffpoeioecjaaDoor

namespace Go.Proofs.YtlfffpoeioecjaaDoor
open Go.RowKit Go.Sort
set_option linter.unusedVariables false

/-- A pen in a block, its bytes in a row above B. -/
structure PenB (Q : World) (B b : Nat) (p v : Value) (W a f g d : Int) (l : List UInt8) : Prop where
  low : B ≤ b
  hp : p = .pointer none ∨ p = .pointer (some ⟨b, 0, none⟩)
  at_ : Q.heap[b]? = some (.cells #[p, v, .int .i64 W, .int .i64 a, .int .i64 f, .int .i64 g, .int .i64 d] 80 (0, 0))
  own : Q.ownsRowF B 5 1 v l.length (Lib.byteCells l)
  ne : v.ownBlock ≠ some b

set_option maxHeartbeats 1000000 in
set_option maxRecDepth 100000 in
theorem penCopy_used (b : Nat) (w : World) (h0 : w.cell? ⟨b, 0, none⟩ = some (.pointer (some ⟨b, 0, none⟩))) :
    Calls Tryd.prog 42 #[.pointer (some ⟨b, 0, none⟩)] w fun e w' => e = .returned (.tuple #[]) ∧ w' = w := by
  obtain ⟨j, hj, _⟩ := Option.map_eq_some_iff.1 (by kernel_rfl : (Tryd.prog.info? 78).map (·.size) = some 2)
  go_enter Tryd.func42, Tryd.ntmps42
  go_wp2
  rw [Lib.run_neq_ptr_same w _ (by kernel_rfl : Tryd.prog.underlying 75 = some (.pointer 78)) hj]
  go_wp2
  go_end0
  exact ⟨rfl, rfl⟩
set_option maxHeartbeats 1000000 in
set_option maxRecDepth 100000 in
theorem penCopy_fresh (b : Nat) (w : World) (h0 : w.cell? ⟨b, 0, none⟩ = some (.pointer none)) (hsh : w.shape? b = some (80, 7)) (hfz : w.frozen? ⟨b, 0, none⟩ = false) :
    Calls Tryd.prog 42 #[.pointer (some ⟨b, 0, none⟩)] w fun e w' => e = .returned (.tuple #[]) ∧ w' = w.setCell ⟨b, 0, none⟩ (.pointer (some ⟨b, 0, none⟩)) := by
  obtain ⟨j, hj, hjs⟩ := Option.map_eq_some_iff.1 (by kernel_rfl : (Tryd.prog.info? 78).map (·.size) = some 2)
  have t70 : Tryd.prog.underlying 75 = some (.pointer 78) := by kernel_rfl
  have t164 : Tryd.prog.underlying 121 = some .unsafePointer := by kernel_rfl
  have hl : liesAt Tryd.prog Tryd.prog.depth 80 (7 / Tryd.prog.cellsOf 80) 0 78 1 = true := by kernel_rfl
  go_enter Tryd.func42, Tryd.ntmps42
  go_wp2
  rw [Lib.run_to_unsafe w ⟨b, 0, none⟩ t70 t164 hj (by rw [hjs]; decide) hsh (Nat.zero_lt_succ 6)]
  simp only [Result.andThen]
  rw [Oper.upon_value]
  go_wp2
  rw [run_callFunc_extern Tryd.func62 (by kernel_rfl) (by kernel_rfl) (by kernel_rfl) (e := Extern.AbiNoEscape.same) (by kernel_rfl)]
  rw [Lib.run_noEscape]
  simp only [Result.andThen]
  rw [Oper.upon_value]
  go_wp2
  rw [Lib.run_from_unsafe w ⟨b, 0, none⟩ t164 t70 hj hsh hl]
  simp only [Result.andThen]
  rw [Oper.upon_value]
  go_wp2
  go_end0
  exact ⟨rfl, rfl⟩
theorem PenB.cell {Q : World} {B b : Nat} {p v : Value} {W a f g d : Int} {l : List UInt8} (h : PenB Q B b p v W a f g d l) {k : Nat} {u : Value} (hk : #[p, v, .int .i64 W, .int .i64 a, .int .i64 f, .int .i64 g, .int .i64 d][k]? = some u) : Q.cell? ⟨b, k, none⟩ = some u := by rw [Lib.cell_of_heap h.at_]; exact hk
theorem PenB.fz {Q : World} {B b : Nat} {p v : Value} {W a f g d : Int} {l : List UInt8} (h : PenB Q B b p v W a f g d l) (k : Nat) : Q.frozen? ⟨b, k, none⟩ = false := Lib.frozen_of_heap h.at_ k
theorem PenB.lt {Q : World} {B b : Nat} {p v : Value} {W a f g d : Int} {l : List UInt8} (h : PenB Q B b p v W a f g d l) : b < Q.heap.size := (Array.getElem?_eq_some_iff.1 h.at_).1
theorem pen_ne5 : (80 : TypeId) ≠ 5 := by decide
/-- A cell of a pen's is another one now. -/
theorem PenB.set {Q : World} {B b : Nat} {p v : Value} {W a f g d : Int} {l : List UInt8} (h : PenB Q B b p v W a f g d l) (k : Nat) (u : Value) : (Q.setCell ⟨b, k, none⟩ u).heap[b]? = some (.cells (#[p, v, .int .i64 W, .int .i64 a, .int .i64 f, .int .i64 g, .int .i64 d].setIfInBounds k u) 80 (0, 0)) ∧ (Q.setCell ⟨b, k, none⟩ u).ownsRowF B 5 1 v l.length (Lib.byteCells l) := by
  refine ⟨heap_setCell_same Q b k _ _ u h.at_, h.own.1, ?_⟩
  rcases h.own.2 with q | ⟨c, cap, cur, fz, hv, hb, hg, r⟩
  · exact .inl q
  · have hcb : c ≠ b := by intro e; subst e; exact h.ne (by rw [hv]; rfl)
    exact .inr ⟨c, cap, cur, fz, hv, hb, by rw [heap_setCell_other]; exact hg; exact hcb, r⟩
theorem penCopy_any (B b : Nat) (p v : Value) (W a f g d : Int) (l : List UInt8) (w : World) (h : PenB w B b p v W a f g d l) :
    Calls Tryd.prog 42 #[.pointer (some ⟨b, 0, none⟩)] w fun e w' => e = .returned (.tuple #[]) ∧ PenB w' B b (.pointer (some ⟨b, 0, none⟩)) v W a f g d l ∧ Below B w w' ∧ Lib.OthersKept 5 (some b) w w' := by
  rcases h.hp with rfl | rfl
  · refine (penCopy_fresh b w (h.cell (k := 0) rfl) (by simp [World.shape?, h.at_]) (h.fz 0)).mono ?_
    rintro e w' ⟨rfl, rfl⟩
    have q := h.set 0 (.pointer (some ⟨b, 0, none⟩))
    exact ⟨rfl, ⟨h.low, .inr rfl, q.1, q.2, h.ne⟩, (Below.refl B w).setCell (p := ⟨b, 0, none⟩) h.low _, (Lib.OthersKept.refl _ _ w).setCell ⟨b, 0, none⟩ rfl _⟩
  · refine (penCopy_used b w (h.cell (k := 0) rfl)).mono ?_
    rintro e w' ⟨rfl, rfl⟩
    exact ⟨rfl, h, Below.refl B _, Lib.OthersKept.refl _ _ _⟩
set_option maxHeartbeats 2000000 in
set_option maxRecDepth 100000 in
theorem penWrite_any (B b : Nat) (p v : Value) (W a f g d : Int) (l : List UInt8) (s : ByteArray) (w : World) (h : PenB w B b p v W a f g d l) (hlen : l.length + s.size ≤ 140737488355328) (hBw : B ≤ w.heap.size) :
    Calls Tryd.prog 26 #[.pointer (some ⟨b, 0, none⟩), .string s] w fun e w' => e = .returned (.tuple #[.int .i64 s.size, .nilIface]) ∧ ∃ v', PenB w' B b (.pointer (some ⟨b, 0, none⟩)) v' W a f g d (l ++ s.data.toList) ∧ Below B w w' ∧ Lib.OthersKept 5 (some b) w w' := by
  obtain ⟨i0, hi, hz0, hz1, hz2⟩ := info_parts (by kernel_rfl : (Tryd.prog.info? 5).map (fun i => (i.zero, i.size, i.bytes)) = some (some (.int .u8 0), 1, 1))
  have CC : Hid (∀ w, PenB w B b p v W a f g d l → Calls Tryd.prog 42 #[.pointer (some ⟨b, 0, none⟩)] w fun e w' => e = .returned (.tuple #[]) ∧ PenB w' B b (.pointer (some ⟨b, 0, none⟩)) v W a f g d l ∧ Below B w w' ∧ Lib.OthersKept 5 (some b) w w') := penCopy_any B b p v W a f g d l
  have HP : Hid (PenB w B b p v W a f g d l) := h
  clear h
  go_enter Tryd.func26, Tryd.ntmps26
  go_wp2_with fail
  refine (CC.out _ HP.out).mono ?_
  rintro e w1 ⟨rfl, h1, hb1, hk1⟩
  have c0 : w1.cell? ⟨b, 0, none⟩ = some (.pointer (some ⟨b, 0, none⟩)) := h1.cell (k := 0) rfl
  have c1 : w1.cell? ⟨b, 1, none⟩ = some v := h1.cell (k := 1) rfl
  go_wp2_with (at_builtin; refine Lib.wpList_append_own_stringF _ rfl _ _ 76 9 rfl B 5 i0 (by kernel_rfl) (by kernel_rfl) hi hz0 hz1 hz2 _ _ _ rfl h1.own s rfl ?c3 ?c4 ?c5 ?_)
  case c3 => unfold maxLen; omega
  case c4 => omega
  case c5 => have := hb1.size; omega
  intro v' w2 hown' hgrow _
  have hb2 : w2.heap[b]? = some (.cells #[.pointer (some ⟨b, 0, none⟩), v, .int .i64 W, .int .i64 a, .int .i64 f, .int .i64 g, .int .i64 d] 80 (0, 0)) := by
    rw [hgrow.block b h1.lt (fun e => h1.ne e.symm)]
    exact h1.at_
  have d0 : w2.cell? ⟨b, 0, none⟩ = some (.pointer (some ⟨b, 0, none⟩)) := by rw [Lib.cell_of_heap hb2]; rfl
  have d1 : w2.cell? ⟨b, 1, none⟩ = some v := by rw [Lib.cell_of_heap hb2]; rfl
  have f1 : w2.frozen? ⟨b, 1, none⟩ = false := Lib.frozen_of_heap hb2 1
  have hne : v'.ownBlock ≠ some b := Lib.ownBlock_neF hown' hb2 pen_ne5
  have hown2 : w2.ownsRowF B 5 1 v' (l ++ s.data.toList).length (Lib.byteCells (l ++ s.data.toList)) := by
    rw [Lib.byteCells_append, List.length_append]
    have e1 : s.data.toList.length = s.size := rfl
    rw [e1]
    exact hown'
  obtain ⟨ao, n', cap, rfl⟩ : ∃ ao n' cap, v' = .slice ao n' cap := by
    rcases hown'.2 with ⟨hv, _⟩ | ⟨g, cap, cur, fz, hv, _⟩
    · exact ⟨_, _, _, hv⟩
    · exact ⟨_, _, _, hv⟩
  go_wp2
  go_ret2
  refine ⟨rfl, .slice ao n' cap, ?_, (hb1.grown hgrow (by have := hb1.size; omega) (fun k hk => (h1.own.lt k hk).1)).setCell (p := ⟨b, 1, none⟩) h1.low _, (hk1.grown hgrow (Lib.ownsRowF_kind h1.own)).setCell ⟨b, 1, none⟩ rfl _⟩
  refine ⟨h1.low, .inr rfl, heap_setCell_same w2 b 1 _ _ _ hb2, ?_, hne⟩
  exact hown2.kept (row := some b) ⟨rfl, rfl, rfl, by simp [World.setCell], fun k _ hk => Below.heap_setCell _ _ _ _ (fun e => hk (by simp [e]))⟩ (Or.inr hne)

end Go.Proofs.YtlfffpoeioecjaaDoor

namespace Go.Proofs.YtlfffpoeioecjaaDoor
open Go.RowKit
set_option linter.unusedVariables false

def posI (n : Int) : Int := min (max n (-100000)) 100000
def lenI (n : Int) : Int := min (max n 0) 100000
def rv (x y w h : Int) : Value := .agg #[.int .i64 x, .int .i64 y, .int .i64 w, .int .i64 h]
theorem posI_bd (n : Int) : -100000 ≤ posI n ∧ posI n ≤ 100000 := by unfold posI; omega
theorem lenI_bd (n : Int) : 0 ≤ lenI n ∧ lenI n ≤ 100000 := by unfold lenI; omega

set_option maxRecDepth 100000 in
theorem length_any (n : Int) (w : World) : Calls Tryd.prog 145 #[.int .i64 n] w fun e w' => e = .returned (.int .i64 (lenI n)) ∧ w' = w := by
  go_enter Tryd.func145, Tryd.ntmps145
  go_wp2
  all_goals
    go_ret
    refine ⟨?_, rfl⟩
    refine congrArg (fun n : Int => Ending.returned (.int .i64 n)) (?_ : _ = lenI n)
    unfold lenI
    omega
set_option maxRecDepth 100000 in
theorem position_any (n : Int) (w : World) : Calls Tryd.prog 144 #[.int .i64 n] w fun e w' => e = .returned (.int .i64 (posI n)) ∧ w' = w := by
  go_enter Tryd.func144, Tryd.ntmps144
  go_wp2
  all_goals
    go_ret
    refine ⟨?_, rfl⟩
    refine congrArg (fun n : Int => Ending.returned (.int .i64 n)) (?_ : _ = posI n)
    unfold posI
    omega

set_option maxRecDepth 100000 in
set_option maxHeartbeats 2000000 in
theorem clamped_any (x y a b : Int) (w : World) : Calls Tryd.prog 143 #[rv x y a b] w fun e w' => e = .returned (rv (posI x) (posI y) (lenI a) (lenI b)) ∧ w' = ((w.alloc (.cells #[.int .i64 x, .int .i64 y, .int .i64 a, .int .i64 b] 169)).alloc (.cells #[.int .i64 (posI x), .int .i64 (posI y), .int .i64 (lenI a), .int .i64 (lenI b)] 169)).drew := by
  have P : Hid (∀ n w, Calls Tryd.prog 144 #[.int .i64 n] w fun e w' => e = .returned (.int .i64 (posI n)) ∧ w' = w) := position_any
  have G : Hid (∀ n w, Calls Tryd.prog 145 #[.int .i64 n] w fun e w' => e = .returned (.int .i64 (lenI n)) ∧ w' = w) := length_any
  unfold rv
  go_enter Tryd.func143, Tryd.ntmps143
  go_wp2_with fail
  obtain ⟨px, hpx⟩ : ∃ z, posI x = z := ⟨_, rfl⟩
  obtain ⟨py, hpy⟩ : ∃ z, posI y = z := ⟨_, rfl⟩
  obtain ⟨la, hla⟩ : ∃ z, lenI a = z := ⟨_, rfl⟩
  obtain ⟨lb, hlb⟩ : ∃ z, lenI b = z := ⟨_, rfl⟩
  have P1 := P.out x
  have P2 := P.out y
  have G1 := G.out a
  have G2 := G.out b
  rw [hpx] at P1
  rw [hpy] at P2
  rw [hla] at G1
  rw [hlb] at G2
  go_region_held (fun W => W.cell? ⟨w.heap.size, 0, none⟩ = some (.int .i64 x) ∧ W.cell? ⟨w.heap.size, 1, none⟩ = some (.int .i64 y) ∧ W.cell? ⟨w.heap.size, 2, none⟩ = some (.int .i64 a) ∧ W.cell? ⟨w.heap.size, 3, none⟩ = some (.int .i64 b)) (go_keep) (first | (go_at_call 144; first | (refine (P1 _).mono ?_; rintro e w2 ⟨rfl, rfl⟩) | (refine (P2 _).mono ?_; rintro e w2 ⟨rfl, rfl⟩)) | (go_at_call 145; first | (refine (G1 _).mono ?_; rintro e w2 ⟨rfl, rfl⟩) | (refine (G2 _).mono ?_; rintro e w2 ⟨rfl, rfl⟩)))
  go_wp2
  refine bodyPost_ret (v := rv px py la lb) (by simp [results, Tryd.results143, go_sem, rv]) rfl ?_
  subst hpx hpy hla hlb
  exact ⟨rfl, rfl⟩

end Go.Proofs.YtlfffpoeioecjaaDoor
