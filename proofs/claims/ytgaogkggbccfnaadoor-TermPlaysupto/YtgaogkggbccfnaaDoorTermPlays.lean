/-
  Write: byte after byte.
-/
import Derived.Test.YtgaogkggbccfnaaDoorMAny
import Derived.Laws.EntriesVeiled
import Derived.Laws.CopyOwn
import Derived.Test.YtgaogkggbccfnaaDoorCMem
import Derived.Shelf.Bits.Mul64
import Derived.Test.YtgaogkggbccfnaaDoorProg
import Derived.Test.YtgaogkggbccfnaaDoorCBl
import Derived.Laws.MakeOwn
import Derived.OwnWalk
import Derived.Deep.RegionLaw
import Derived.Test.YtgaogkggbccfnaaDoorCFill
import Derived.Laws.AppendOwn
import Derived.Lib.SliceRun
import Derived.Test.YtgaogkggbccfnaaDoorRStl
import Derived.Deep.OwnRows
import Derived.Test.YtgaogkggbccfnaaDoorCCel
import Derived.Test.YtgaogkggbccfnaaDoorInts
import Derived.Test.YtgaogkggbccfnaaDoorRows
import Derived.Deep.Slices
import Derived.ChangeSame
import Derived.ProofKit
import Derived.OpenShut
import Derived.ShutString
import Derived.ChangeOld
import Derived.Below
import Derived.SizedLaws
import Derived.Test.YtgaogkggbccfnaaDoorTable
import Derived.Test.YtgaogkggbccfnaaDoorMFul
import Derived.LaidLaws
import Derived.LaidSub
import Derived.Lib.LaidTab
import Derived.Test.YtgaogkggbccfnaaDoorCards
import Derived.Test.YtgaogkggbccfnaaDoorTie
import Derived.WalkKit
import Derived.Lay
import Derived.Deep.DeepHandedRow
namespace Go.Proofs.YtgaogkggbccfnaaDoor
open Go.RowKit Go.Sort
set_option linter.unusedVariables false

/-- What holds of what reads the next byte. -/
def Si : St → Prop
  | .out => True
  | .esc => True
  | .amid h => h.size ≤ 3
  | .wth l a => (0 ≤ a ∧ a ≤ 16) ∧ ∀ j, j < 17 → 0 ≤ l j ∧ l j ≤ 999999
/-- One byte. -/
def stepT (s : Tm) (b : UInt8) : St → Tm × St
  | .out => outT s b
  | .esc => (s, if (b.toNat : Int) = 91 then .wth (fun _ => 0) 0 else .out)
  | .amid h => amA s h b
  | .wth l a => wthT s l a.toNat b.toNat
def runT : Tm × St → List UInt8 → Tm × St
  | p, [] => p
  | p, b :: r => runT (stepT p.1 b p.2) r
theorem runT_app (p : Tm × St) (l : List UInt8) (b : UInt8) : runT p (l ++ [b]) = stepT (runT p l).1 b (runT p l).2 := by
  induction l generalizing p with
  | nil => rfl
  | cons a l ih => exact ih _
theorem runT_append (p : Tm × St) (l m : List UInt8) : runT p (l ++ m) = runT (runT p l) m := by
  induction l generalizing p with
  | nil => rfl
  | cons a l ih => exact ih _
theorem not_full_size {l : List UInt8} (h : ¬ full l) : l.length ≤ 3 := by
  by_cases hl : l = []
  · subst hl; decide
  · have hn : ¬ (seqN (byt l 0) ≤ l.length) := fun q => h ⟨hl, .inr (.inr (.inl q))⟩
    have : seqN (byt l 0) ≤ 4 := by unfold seqN; split <;> (try split) <;> omega
    omega
theorem am_ok {s : Tm} (hi : Ti s) (t : ByteArray) : Ti (amT s t).1 ∧ Si (amT s t).2 := by
  unfold amT
  split
  · exact ⟨hi.pr _, trivial⟩
  · rename_i hn
    exact ⟨hi, by have := not_full_size hn; rw [len_data] at this; exact this⟩
theorem out_ok {s : Tm} (hi : Ti s) (b : UInt8) : Ti (outT s b).1 ∧ Si (outT s b).2 := by
  unfold outT
  split
  · exact ⟨hi.clr, trivial⟩
  · split
    · exact ⟨hi.clr, trivial⟩
    · exact am_ok hi _
theorem Ti.obey {s : Tm} (h : Ti s) (hW : 1 ≤ s.W) (hH : 1 ≤ s.H) (b : Int) (l : Nat → Int) (a : Int) : Ti (obeyT s b l a) := by
  unfold obeyT
  split
  · refine ⟨?_, ?_, ?_, ?_, h.m0, h.m1, h.ts⟩
    · show 0 ≤ min (max (l 1) 1) (s.W : Int) - 1; omega
    · show min (max (l 1) 1) (s.W : Int) - 1 ≤ (s.W : Int); omega
    · show 0 ≤ min (max (l 0) 1) (s.H : Int) - 1; omega
    · show min (max (l 0) 1) (s.H : Int) - 1 < (s.H : Int); omega
  · split
    · split
      · exact ⟨h.x0, h.x1, h.y0, h.y1, h.m0, h.m1, h.ts⟩
      · exact h
    · split
      · exact ⟨h.x0, h.x1, h.y0, h.y1, h.m0, h.m1, h.ts⟩
      · exact h
theorem step_ok {s : Tm} {st : St} (hi : Ti s) (hs : Si st) (hW : 1 ≤ s.W) (hH : 1 ≤ s.H) (b : UInt8) : Ti (stepT s b st).1 ∧ Si (stepT s b st).2 := by
  cases st with
  | out => exact out_ok hi b
  | esc =>
    refine ⟨hi, ?_⟩
    show Si (if (b.toNat : Int) = 91 then .wth (fun _ => 0) 0 else .out)
    split
    · exact ⟨by decide, fun j _ => ⟨by show (0 : Int) ≤ 0; decide, by show (0 : Int) ≤ 999999; decide⟩⟩
    · exact trivial
  | amid h =>
    show Ti (amA s h b).1 ∧ Si (amA s h b).2
    unfold amA
    split
    · exact out_ok (hi.prs _) b
    · exact am_ok hi _
  | wth l a =>
    obtain ⟨⟨h0, h1⟩, h2⟩ := hs
    show Ti (wthT s l a.toNat b.toNat).1 ∧ Si (wthT s l a.toNat b.toNat).2
    unfold wthT
    split
    · rename_i hd
      refine ⟨hi, ⟨by omega, by omega⟩, fun j hj => ?_⟩
      show 0 ≤ updN l a.toNat _ j ∧ updN l a.toNat _ j ≤ 999999
      unfold updN
      split
      · have := h2 a.toNat (by omega)
        constructor <;> omega
      · exact h2 j hj
    · split
      · exact ⟨hi, ⟨by omega, by omega⟩, h2⟩
      · split
        · exact ⟨hi, ⟨by omega, by omega⟩, h2⟩
        · split
          · exact ⟨hi.obey hW hH _ _ _, trivial⟩
          · exact ⟨hi, trivial⟩

section
variable {T K M cap : Nat}
theorem Nx.set {w : World} {v v' : Value} {st : St} (h : Nx w T M v st) (o : Nat) : Nx (w.setCell ⟨T, o, none⟩ v') T M v st := by
  cases st with
  | out => exact h
  | esc => exact h
  | amid hh => obtain ⟨k, h1, h2, h3, h4⟩ := h; exact ⟨k, h1, h2, h3, (Below.heap_setCell w ⟨T, o, none⟩ v' k h2).trans h4⟩
  | wth l a => obtain ⟨k, h1, h2, h3, h4⟩ := h; exact ⟨k, h1, h2, h3, (Below.heap_setCell w ⟨T, o, none⟩ v' k h2).trans h4⟩
theorem Nx.gr {w w' : World} {v : Value} {st : St} (h : Nx w T M v st) (g : Gr w w') : Nx w' T M v st := by
  cases st with
  | out => exact h
  | esc => exact h
  | amid hh => obtain ⟨k, h1, h2, h3, h4⟩ := h; exact ⟨k, h1, h2, h3, (g.block (Array.getElem?_eq_some_iff.1 h4).1).trans h4⟩
  | wth l a => obtain ⟨k, h1, h2, h3, h4⟩ := h; exact ⟨k, h1, h2, h3, h4.gr g⟩

/-- The byte is read by whatever reads it. -/
theorem next_any {s : Tm} {nv : Value} {st : St} (w : World) (h : TM w T K M cap s nv) (hn : Nx w T M nv st) (hi : Ti s) (hs : Si st) (ht : TabAt w) (hU : Utf w) (hfar : Far T M) (bt : UInt8) :
    ∃ f caps, nv = fnV f caps ∧ (∀ args w, (callFunc f args).run Tryd.prog w = .ok (.enter f args) w) ∧ Calls Tryd.prog f (#[.pointer (some ⟨T, 0, none⟩), .int .u8 (bt.toNat : Int)] ++ caps) w fun e w' => Done w w' e T K M cap (stepT s bt st).1 nv (stepT s bt st).2 := by
  have hb : (bt.toNat : Int) ≤ 255 := by have := UInt8.toNat_lt bt; omega
  cases st with
  | out =>
    obtain rfl := hn
    exact ⟨_, #[], rfl, enters_of Tryd.func28 (by kernel_rfl) rfl, outside_any w h hi ht hU bt⟩
  | esc =>
    obtain rfl := hn
    exact ⟨_, #[], rfl, enters_of Tryd.func42 (by kernel_rfl) rfl, escaped_any w h (bt.toNat : Int)⟩
  | amid hh =>
    obtain ⟨k, rfl, h2, h3, h4⟩ := hn
    exact ⟨_, _, rfl, enters_of Tryd.func53 (by kernel_rfl) rfl, amid1_any w h hi ht hU bt hh hs hfar k h4⟩
  | wth l a =>
    obtain ⟨k, rfl, h2, h3, h4⟩ := hn
    obtain ⟨a, rfl⟩ : ∃ a' : Nat, a = (a' : Int) := ⟨a.toNat, by have := hs.1.1; omega⟩
    refine ⟨_, _, rfl, enters_of Tryd.func69 (by kernel_rfl) rfl, ?_⟩
    exact within1_any w h (bt.toNat : Int) (by omega) l a k (by have := hs.1.2; omega) hs.2 h4

theorem Nx.form {w : World} {v : Value} {st : St} (h : Nx w T M v st) : ∃ f c, v = .func (.func f) #[] c := by
  cases st with
  | out => exact ⟨_, _, h⟩
  | esc => exact ⟨_, _, h⟩
  | amid hh => obtain ⟨k, h1, _⟩ := h; exact ⟨_, _, h1⟩
  | wth l a => obtain ⟨k, h1, _⟩ := h; exact ⟨_, _, h1⟩
/-- What Write leaves. -/
def WrOut (w w' : World) (e : Ending) (T K M cap : Nat) (p : Tm × St) : Prop := e = .returned (.tuple #[]) ∧ (∃ nv', TM w' T K M cap p.1 nv' ∧ Nx w' T M nv' p.2) ∧ Ti p.1 ∧ Si p.2 ∧ C2 T M w w'
set_option maxRecDepth 100000 in
set_option maxHeartbeats 8000000 in
theorem write_any (x : ByteArray) (hx : x.size ≤ 9223372036854775807) {s : Tm} {nv : Value} {st : St} (w : World) (h : TM w T K M cap s nv) (hn : Nx w T M nv st) (hi : Ti s) (hs : Si st) (ht : TabAt w) (hU : Utf w) (hfar : Far T M) :
    Calls Tryd.prog 9 #[.pointer (some ⟨T, 0, none⟩), .string x] w fun e w' => WrOut w w' e T K M cap (runT (s, st) x.data.toList) := by
  have HT : Hid (TabAt w) := ht
  have HU : Hid (Utf w) := hU
  have H0 : Hid (TM w T K M cap s nv ∧ Nx w T M nv st ∧ Ti s ∧ Si st) := ⟨h, hn, hi, hs⟩
  clear h hn hi hs ht hU
  go_enter Tryd.func9, Tryd.ntmps9
  go_wp2
  go_loopw [7] (fun iv wr => ∃ i : Nat, i ≤ x.size ∧ iv = .int .i64 (i : Int) ∧ Hid (∃ nv', TM wr T K M cap (runT (s, st) (x.data.toList.take i)).1 nv' ∧ Nx wr T M nv' (runT (s, st) (x.data.toList.take i)).2 ∧ Ti (runT (s, st) (x.data.toList.take i)).1 ∧ Si (runT (s, st) (x.data.toList.take i)).2 ∧ C2 T M w wr)) (fun iv _ => x.size - (intOf iv).toNat)
  case atStart => exact ⟨0, Nat.zero_le _, rfl, nv, H0.out.1, H0.out.2.1, H0.out.2.2.1, H0.out.2.2.2, C2.refl _ _ _⟩
  case round =>
    obtain ⟨i, hil, rfl, HJ⟩ := hrel
    by_cases hlt : i < x.size
    · have hlt' : (i : Int) < (x.size : Int) := by omega
      obtain ⟨nw, h1, h2, h3, h4, h5⟩ := HJ.out
      obtain ⟨bt, hbt⟩ : ∃ b, x[i]'hlt = b := ⟨_, rfl⟩
      obtain ⟨p, hp⟩ : ∃ p, runT (s, st) (x.data.toList.take i) = p := ⟨_, rfl⟩
      have HP : Hid (runT (s, st) (x.data.toList.take (i + 1)) = stepT p.1 bt p.2) := by
        show _ = _
        have e : x.data.toList[i]? = some bt := by rw [Array.getElem?_toList, ← hbt]; exact Array.getElem?_eq_getElem hlt
        rw [List.take_add_one, e, ← hp, ← runT_app]
        rfl
      rw [hp] at h1 h2 h3 h4
      have h5d : C2 T M w wr.drew := h5.trans (C2.gr (Gr.refl _).drew)
      obtain ⟨f, caps, rfl, ef, CL⟩ := next_any wr.drew (h1.gr (Gr.refl _).drew) (h2.gr (Gr.refl _).drew) h3 h4 (HT.out.c2 h5d hfar) (HU.out.c2 h5d hfar) hfar bt
      have CLH : Hid (Calls Tryd.prog f (#[.pointer (some ⟨T, 0, none⟩), .int .u8 (bt.toNat : Int)] ++ caps) wr.drew fun e w' => Done wr.drew w' e T K M cap (stepT p.1 bt p.2).1 (fnV f caps) (stepT p.1 bt p.2).2) := CL
      have SO : Hid (Ti (stepT p.1 bt p.2).1 ∧ Si (stepT p.1 bt p.2).2) := step_ok h3 h4 h1.hW.1 h1.hH.1 bt
      have HC : Hid (C2 T M w wr.drew) := h5d
      have c11 : wr.cell? ⟨T, 11, none⟩ = some (.func (.func f) #[] caps) := h1.at rfl
      clear h1 h2 h3 h4 h5 h5d CL hp HJ
      go_wp2_with fail
      go_region_with (refine Calls.mono CLH.out ?_; rintro e1 w1 ⟨v1, rfl, h1, n1, g1⟩; obtain ⟨f2, caps2, rfl⟩ := n1.form; have H1 : Hid (TM w1 T K M cap (stepT p.1 bt p.2).1 (fnV f caps)) := h1; have N1 : Hid (Nx w1 T M (.func (.func f2) #[] caps2) (stepT p.1 bt p.2).2) := n1; have C1 : Hid (C2 T M w w1) := HC.out.trans g1; have f1 := h1.fz; have k11 : w1.cell? ⟨T, 11, none⟩ = some (.func (.func f) #[] caps) := h1.at rfl; clear h1 n1 g1)
      all_goals
        have HR : Hid (∃ nv', TM (w1.setCell ⟨T, 11, none⟩ (.func (.func f2) #[] caps2)) T K M cap (runT (s, st) (x.data.toList.take (i + 1))).1 nv' ∧ Nx (w1.setCell ⟨T, 11, none⟩ (.func (.func f2) #[] caps2)) T M nv' (runT (s, st) (x.data.toList.take (i + 1))).2 ∧ Ti (runT (s, st) (x.data.toList.take (i + 1))).1 ∧ Si (runT (s, st) (x.data.toList.take (i + 1))).2 ∧ C2 T M w (w1.setCell ⟨T, 11, none⟩ (.func (.func f2) #[] caps2))) := by
          show ∃ nv', _
          rw [HP.out]
          exact ⟨.func (.func f2) #[] caps2, H1.out.set 11 (.func (.func f2) #[] caps2) (stepT p.1 bt p.2).1.r (.func (.func f2) #[] caps2) rfl, N1.out.set 11, SO.out.1, SO.out.2, C1.out.set _ _⟩
        clear HP H1 N1 C1
        go_wp2
        go_roundw
        case rel => exact ⟨i + 1, by omega, by go_num, HR.out⟩
        case measure => simp [intOf]; omega
    · have hlt' : ¬ (i : Int) < (x.size : Int) := by omega
      obtain rfl : i = x.size := by omega
      have HF : Hid (x.data.toList.take x.size = x.data.toList) := List.take_of_length_le (by rw [len_data]; exact Nat.le_refl _)
      have HJ2 := HJ.out
      rw [HF.out] at HJ2
      obtain ⟨nw, h1, h2, h3, h4, h5⟩ := HJ2
      go_wp2
      go_end0
      exact ⟨rfl, ⟨nw, h1, h2⟩, h3, h4, h5⟩
end

end Go.Proofs.YtgaogkggbccfnaaDoor

namespace Go.Proofs.YtgaogkggbccfnaaDoor
open Go.RowKit
set_option linter.unusedVariables false

theorem run_copy_sz {P : Program} (w : World) (dT sT ty elem : TypeId) (s g o dLen dCap : Nat) (a : Addr) (sLen sCap : Nat) (cur : List Value) (t : TypeId) (cs : List Value) (n : Nat)
    (hu : P.underlying dT = some (.slice elem)) (hs : (P.info? elem).map (·.size) = some s)
    (hg : w.heap[g]? = some (.cells cur.toArray t (0, 0))) (hn : n = Nat.min sLen dLen) (hcs : cs.length = n * s)
    (hsrc : ∀ j v, cs[j]? = some v → w.cell? (a.add j) = some v) (hfit : o + cs.length ≤ cur.length) (h1 : ∀ v ∈ cs, v.oneCell' = true) :
    (Builtin.copy_ #[dT, sT] ty #[.slice (some ⟨g, o, none⟩) dLen dCap, .slice (some a) sLen sCap]).run P w =
      .ok (goInt n) (w.setRow g (splice cur o cs).toArray) := by
  have hl := run_loadCells_list (P := P) w a cs hsrc
  have hst := run_storeCells_at P g o t cs 0 cur.toArray w hg (by simpa using hfit) h1
  cases hq : P.info? elem with
  | none => simp [hq] at hs
  | some i =>
    have hi : i.size = s := by simpa [hq] using hs
    rw [hcs] at hl
    simp [Builtin.copy_, run_underlying hu, Builtin.lenOf, Builtin.firstCells, sizeOf, typeInfo, hq, hi, ← hn, hl, hst, splice]

theorem wpList_copy_sz {P : Program} {w : World} {ops : Array Oper} {rest : List Oper} {o : Oper} {a : Act} {Q : Exit → Act → World → Prop} (hgd : o.guard = none) (d s : Operand) (dT sT : TypeId)
    (ho : o.op = .call { callee := .builtin .copy, args := #[d, s], argTypes := #[dT, sT] }) (elem : TypeId) (z : Nat) (hu : P.underlying dT = some (.slice elem)) (hsz : (P.info? elem).map (·.size) = some z)
    (g off dLen dCap : Nat) (ad : Addr) (sLen sCap : Nat) (hd : a.eval d = .slice (some ⟨g, off, none⟩) dLen dCap) (hs : a.eval s = .slice (some ad) sLen sCap)
    (cur : List Value) (t : TypeId) (hg : w.heap[g]? = some (.cells cur.toArray t (0, 0))) (cs : List Value) (n : Nat) (hn : n = Nat.min sLen dLen) (hcs : cs.length = n * z)
    (hsrc : ∀ j v, cs[j]? = some v → w.cell? (ad.add j) = some v) (hfit : off + cs.length ≤ cur.length) (h1 : ∀ v ∈ cs, v.oneCell' = true) (B : Nat) (w0 : World) (hb : Below B w0 w) (hBg : B ≤ g)
    (h : ∀ w', Hid (w'.heap[g]? = some (.cells (splice cur off cs).toArray t (0, 0))) → Below B w0 w' → wpList P ops Q rest (a.put o.dst (goInt n)) w') : wpList P ops Q (o :: rest) a w := by
  refine wpList_plain hgd fun K hK => ?_
  have hrun := run_copy_sz (P := P) w dT sT o.type elem z g off dLen dCap ad sLen sCap cur t cs n hu hsz hg hn hcs hsrc hfit h1
  unfold Oper.wp
  simp [execOp, ho, resolve, invoke, builtin, hd, hs, hrun, Result.andThen]
  exact hK _ _ (h _ (show _ = _ from setRow_heap w g _ _ t _ hg) (below_setRow hb hBg _))

theorem step_copy_sz {P : Program} {ops : Array Oper} {o : Oper} {a : Act} {w : World} {K : Act → World → Prop} {Q : Exit → Act → World → Prop} {E : Prop} (hgd : o.guard = none) (d s : Operand) (dT sT : TypeId)
    (ho : o.op = .call { callee := .builtin .copy, args := #[d, s], argTypes := #[dT, sT] }) (elem : TypeId) (z : Nat) (hu : P.underlying dT = some (.slice elem)) (hsz : (P.info? elem).map (·.size) = some z)
    (g off dLen dCap : Nat) (ad : Addr) (sLen sCap : Nat) (hd : a.eval d = .slice (some ⟨g, off, none⟩) dLen dCap) (hs : a.eval s = .slice (some ad) sLen sCap)
    (cur : List Value) (t : TypeId) (hg : w.heap[g]? = some (.cells cur.toArray t (0, 0))) (cs : List Value) (n : Nat) (hn : n = Nat.min sLen dLen) (hcs : cs.length = n * z)
    (hsrc : ∀ j v, cs[j]? = some v → w.cell? (ad.add j) = some v) (hfit : off + cs.length ≤ cur.length) (h1 : ∀ v ∈ cs, v.oneCell' = true) (B : Nat) (w0 : World) (hb : Below B w0 w) (hBg : B ≤ g)
    (h : ∀ w', Hid (w'.heap[g]? = some (.cells (splice cur off cs).toArray t (0, 0))) → Below B w0 w' → K (a.put o.dst (goInt n)) w') :
    if Region.wanted o (yielded ops a.tmps) = true then Oper.wp P o a w K Q else E := by
  have hw : Region.wanted o (yielded ops a.tmps) = true := by simp [Region.wanted, hgd]
  rw [if_pos hw]
  have hrun := run_copy_sz (P := P) w dT sT o.type elem z g off dLen dCap ad sLen sCap cur t cs n hu hsz hg hn hcs hsrc hfit h1
  unfold Oper.wp
  simp [execOp, ho, resolve, invoke, builtin, hd, hs, hrun, Result.andThen]
  exact h _ (show _ = _ from setRow_heap w g _ _ t _ hg) (below_setRow hb hBg _)

/-- The first m of N elements are all the same cell. -/
def Fl (L : List Value) (N m : Nat) (e : Ce) : Prop := L.length = N * 5 ∧ ∀ i k u, i < m → (c5 e)[k]? = some u → L[i * 5 + k]? = some u
theorem Fl.take {L : List Value} {N m cnt : Nat} {e : Ce} (h : Fl L N m e) (hm : m ≤ N) (hc : cnt ≤ m) (hN : m + cnt ≤ N) : Fl (splice L (m * 5) (L.take (cnt * 5))) N (m + cnt) e := by
  have hl : (L.take (cnt * 5)).length = cnt * 5 := by rw [List.length_take, h.1]; omega
  refine ⟨by rw [length_splice _ _ _ (by rw [hl, h.1]; omega)]; exact h.1, fun i k u hi hu => ?_⟩
  have hk : k < 5 := (List.getElem?_eq_some_iff.1 hu).1
  unfold splice
  by_cases h1 : i < m
  · rw [List.getElem?_append_left (by rw [List.length_take, h.1]; omega), List.getElem?_take, if_pos (by omega)]
    exact h.2 i k u h1 hu
  · have hlm : (L.take (m * 5)).length = m * 5 := by rw [List.length_take, h.1]; omega
    rw [List.getElem?_append_right (by rw [hlm]; omega), hlm, show i * 5 + k - m * 5 = (i - m) * 5 + k by omega, List.getElem?_append_left (by rw [hl]; omega), List.getElem?_take, if_pos (by omega)]
    exact h.2 (i - m) k u (by omega) hu
theorem Fl.first {L : List Value} {N : Nat} {e : Ce} (h : L.length = N * 5) (hN : 1 ≤ N) : Fl (splice L 0 (c5 e)) N 1 e := by
  refine ⟨by rw [length_splice _ _ _ (by rw [h, c5_len]; omega)]; exact h, fun i k u hi hu => ?_⟩
  have hk : k < 5 := (List.getElem?_eq_some_iff.1 hu).1
  obtain rfl : i = 0 := by omega
  unfold splice
  rw [List.take_zero, List.nil_append, List.getElem?_append_left (by rw [c5_len]; omega), Nat.zero_mul, Nat.zero_add]; exact hu
theorem Fl.one {L : List Value} {N m : Nat} {e : Ce} (h : Fl L N m e) {cnt : Nat} (hc : cnt ≤ m) : ∀ v ∈ L.take (cnt * 5), v.oneCell' = true := by
  intro v hv
  obtain ⟨j, hj⟩ := List.mem_iff_getElem?.1 hv
  rw [List.getElem?_take] at hj
  split at hj
  · rename_i hj5
    have hk : j % 5 < (c5 e).length := by rw [c5_len]; omega
    have := h.2 (j / 5) (j % 5) _ (by omega) (List.getElem?_eq_getElem hk)
    rw [show j / 5 * 5 + j % 5 = j by omega, hj] at this
    injection this with this
    rw [this]
    have : ∀ v ∈ c5 e, v.oneCell' = true := by intro v hv; simp [c5] at hv; rcases hv with rfl | rfl | rfl | rfl | rfl <;> rfl
    exact this _ (List.getElem_mem hk)
  · exact absurd hj (by simp)
end Go.Proofs.YtgaogkggbccfnaaDoor

namespace Go.Proofs.YtgaogkggbccfnaaDoor
open Go.Shelf Go.RowKit
def libRen : Go.Shelf.Ren := ⟨fun | 212 => 51 | 263 => 67 | 264 => 68 | n => n, fun | 46 => 102 | 51 => 117 | 53 => 120 | 146 => 118 | 148 => 121 | n => n, fun | n => n⟩
theorem lays212 : Go.Proofs.Lays.n212 Tryd.prog libRen := {
  mixed := by kernel_rfl
  f212 := Tryd.func51.trans (congrArg some (by kernel_rfl))
  f263 := Tryd.func67.trans (congrArg some (by kernel_rfl))
  f264 := Tryd.func68.trans (congrArg some (by kernel_rfl))
  t46 := Tryd.underlying102
  a46 := Tryd.isAgg102
  z46 := Tryd.sizeOf102
  v46 := Tryd.zeroValue102
  t51 := Tryd.underlying117
  a51 := Tryd.isAgg117
  z51 := Tryd.sizeOf117
  v51 := Tryd.zeroValue117
  t53 := Tryd.underlying120
  a53 := Tryd.isAgg120
  z53 := Tryd.sizeOf120
  v53 := Tryd.zeroValue120
  t146 := Tryd.underlying118
  a146 := Tryd.isAgg118
  z146 := Tryd.sizeOf118
  v146 := Tryd.zeroValue118
  t148 := Tryd.underlying121
  a148 := Tryd.isAgg121
  z148 := Tryd.sizeOf121
  v148 := Tryd.zeroValue121 }
theorem mul_lib (x y : Nat) (hx : x < 18446744073709551616) (hy : y < 18446744073709551616) (w : World) :
    Calls Tryd.prog 51 #[.int .u64 x, .int .u64 y] w fun e w' => e = .returned (.tuple #[.int .u64 ((x * y / 18446744073709551616 : Nat) : Int), .int .u64 ((x * y % 18446744073709551616 : Nat) : Int)]) ∧ w' = w := Any.bits_Mul lays212 x y hx hy w
end Go.Proofs.YtgaogkggbccfnaaDoor

namespace Go.Proofs.YtgaogkggbccfnaaDoor
open Go.RowKit Go.Sort
set_option linter.unusedVariables false

theorem infoC : (Tryd.prog.info? 45).map (fun i => (i.zero, i.size, i.bytes)) = some (some (.agg #[.string ⟨#[]⟩, .int .i64 0, .int .i64 0, .int .i64 0, .int .i64 0]), 5, 48) := by kernel_rfl
theorem sizeC : (Tryd.prog.info? 45).map (·.size) = some 5 := by kernel_rfl

set_option maxRecDepth 100000 in
set_option maxHeartbeats 4000000 in
theorem repeat_any (w : World) (e : Ce) (B N : Nat) (hN : 1 ≤ N ∧ N ≤ 160000) (hB : B < w.heap.size) (hc : ∀ (k : Nat) u, (c5 e)[k]? = some u → w.cell? ⟨B, k, none⟩ = some u) :
    Calls Tryd.prog 39 #[.slice (some ⟨B, 0, none⟩) 1 1, .int .i64 N] w fun r w' => r = .returned (.slice (some ⟨w.heap.size, 0, none⟩) N N) ∧ (∃ L, w'.heap[w.heap.size]? = some (.cells L.toArray 45 (0, 0)) ∧ Fl L N N e) ∧ Below w.heap.size w w' := by
  have MU : Hid (∀ w, Calls Tryd.prog 51 #[.int .u64 1, .int .u64 N] w fun r w' => r = .returned (.tuple #[.int .u64 0, .int .u64 N]) ∧ w' = w) := fun w => by
    have := mul_lib 1 N (by omega) (by omega) w
    rw [show 1 * N / 18446744073709551616 = 0 by omega, show 1 * N % 18446744073709551616 = N by omega] at this
    exact this
  obtain ⟨i0, hi, hz0, hz1, hz2⟩ := info_parts infoC
  obtain ⟨Z0, hZl, hmk⟩ : ∃ Z0 : List Value, Hid (Z0.length = N * 5) ∧ ∀ W : World, (Instr.makeSlice 37 (.int .i64 (N : Int)) (.int .i64 (N : Int))).run Tryd.prog W = .ok (.slice (some ⟨W.heap.size, 0, none⟩) N N) (W.alloc (.cells Z0.toArray 45)) := by
    refine ⟨(madeCells (Value.agg #[.string ⟨#[]⟩, .int .i64 0, .int .i64 0, .int .i64 0, .int .i64 0]).cells (N * 5)).toList, (by show _ = _; rw [Array.length_toList, size_madeCells] : _), fun W => ?_⟩
    have := run_make (P := Tryd.prog) W 37 45 i0 _ Tryd.underlying37 hi hz0 .i64 .i64 N N (by omega) (Int.le_refl _) (by rw [hz2]; omega) (by omega)
    rw [hz1, Int.toNat_natCast] at this
    rw [Array.toArray_toList]
    exact this
  have HC : Hid (∀ (k : Nat) u, (c5 e)[k]? = some u → w.cell? ⟨B, k, none⟩ = some u) := hc
  have HB : Hid (B < w.heap.size) := hB
  clear hc hB hi hz0 hz1 hz2
  have nN : ¬ (N : Int) < 0 := by omega
  obtain ⟨S, hS⟩ : ∃ z, w.heap.size = z := ⟨_, rfl⟩
  have HS : Hid (w.heap.size = S) := hS
  go_enter Tryd.func39, Tryd.ntmps39
  have nb : decide (9223372036854775807 < (N : Int)) = false := decide_eq_false (by omega)
  have HSRC : Hid (∀ (j : Nat) v, (c5 e)[j]? = some v → (w.alloc (.cells Z0.toArray 45)).cell? ((⟨B, 0, none⟩ : Addr).add j) = some v) := fun j v hv => by
    have ea : (⟨B, 0, none⟩ : Addr).add j = ⟨B, j, none⟩ := by unfold Addr.add; split <;> simp_all
    rw [ea]
    exact (World.cell?_of_block (a := ⟨B, j, none⟩) (((Gr.refl w).alloc _).block HB.out)).trans (HC.out j v hv)
  have HNEW : Hid ((w.alloc (.cells Z0.toArray 45)).heap[S]? = some (.cells Z0.toArray 45 (0, 0))) := by rw [← hS]; exact heap_alloc_new _ _
  have HBEL : Hid (Below S w (w.alloc (.cells Z0.toArray 45))) := by rw [← hS]; exact ((Gr.refl w).alloc _).below
  have h1c : ∀ v ∈ c5 e, v.oneCell' = true := by intro v hv; simp [c5] at hv; rcases hv with rfl | rfl | rfl | rfl | rfl <;> rfl
  have H1C : Hid (∀ v ∈ c5 e, v.oneCell' = true) := h1c
  have HF : Hid (0 + (c5 e).length ≤ Z0.length) := (by rw [hZl.out, c5_len]; omega : 0 + (c5 e).length ≤ Z0.length)
  clear h1c
  obtain ⟨w2, hcp, hg2, hb2⟩ : ∃ w2, (Builtin.copy_ #[37, 37] 3 #[.slice (some ⟨S, 0, none⟩) N N, .slice (some ⟨B, 0, none⟩) 1 1]).run Tryd.prog (w.alloc (.cells Z0.toArray 45)) = .ok (goInt 1) w2 ∧ Hid (w2.heap[S]? = some (.cells (splice Z0 0 (c5 e)).toArray 45 (0, 0))) ∧ Hid (Below S w w2) :=
    ⟨_, run_copy_sz (P := Tryd.prog) (w.alloc (.cells Z0.toArray 45)) 37 37 3 45 5 S 0 N N ⟨B, 0, none⟩ 1 1 Z0 45 (c5 e) 1 Tryd.underlying37 sizeC HNEW.out (by show 1 = min 1 N; omega) rfl HSRC.out HF.out H1C.out, setRow_heap _ S _ _ 45 _ HNEW.out, below_setRow HBEL.out (Nat.le_refl _) _⟩
  have HL : Hid (∃ L, w2.heap[S]? = some (.cells L.toArray 45 (0, 0)) ∧ Fl L N 1 e) := ⟨_, hg2.out, Fl.first hZl.out hN.1⟩
  clear hg2
  go_wp2_with (first | (go_at_call 51; refine Calls.mono (MU.out _) ?_; rintro r w1 ⟨rfl, hw1⟩; obtain rfl := hw1.symm))
  clear hS hcp hmk
  go_loopw [8] (fun nv wr => ∃ m : Nat, 1 ≤ m ∧ m ≤ N ∧ nv = .int .i64 m ∧ Hid (∃ L, wr.heap[S]? = some (.cells L.toArray 45 (0, 0)) ∧ Fl L N m e) ∧ Hid (Below S w wr)) (fun nv _ => N - (intOf nv).toNat)
  case atStart => exact ⟨1, Nat.le_refl _, hN.1, rfl, HL, hb2⟩
  case round =>
    obtain ⟨m, hm1, hm2, rfl, HR, HBR⟩ := hrel
    by_cases hlt : m < N
    · obtain ⟨L, hL, hF⟩ := HR.out
      have HLL : Hid (wr.heap[S]? = some (.cells L.toArray 45 (0, 0))) := hL
      have HFF : Hid (Fl L N m e) := hF
      obtain ⟨cnt, hcnt⟩ : ∃ cnt, Nat.min m (N - m) = cnt := ⟨_, rfl⟩
      have hcn : cnt ≤ m ∧ cnt ≤ N - m ∧ 1 ≤ cnt := by have : min m (N - m) = cnt := hcnt; omega
      have HCN : Hid (cnt = Nat.min m (N - m)) := hcnt.symm
      have HTL : Hid ((L.take (cnt * 5)).length = cnt * 5) := (by rw [List.length_take, hF.1]; omega : (L.take (cnt * 5)).length = cnt * 5)
      have HSR : Hid (∀ (j : Nat) v, (L.take (cnt * 5))[j]? = some v → wr.drew.cell? ((⟨S, 0, none⟩ : Addr).add j) = some v) := fun j v hv => by
        have ea : (⟨S, 0, none⟩ : Addr).add j = ⟨S, j, none⟩ := by unfold Addr.add; split <;> simp_all
        rw [ea]
        rw [List.getElem?_take] at hv
        split at hv
        · show wr.cell? ⟨S, j, none⟩ = some v
          simp [World.cell?, hL, hv]
        · exact absurd hv (by simp)
      obtain ⟨cs, hcs⟩ : ∃ z, L.take (cnt * 5) = z := ⟨_, rfl⟩
      have HON : Hid (∀ v ∈ cs, v.oneCell' = true) := by rw [← hcs]; exact hF.one hcn.1
      have HFI : Hid (Fl (splice L (m * 5) cs) N (m + cnt) e) := by rw [← hcs]; exact hF.take hm2 hcn.1 (by omega)
      have HLE : Hid (m * 5 + cs.length ≤ L.length) := by rw [← hcs]; exact (by rw [HTL.out, hF.1]; omega : m * 5 + (L.take (cnt * 5)).length ≤ L.length)
      rw [hcs] at HTL HSR
      clear hcs hL hF HR hcnt HL hb2
      have hlt' : (m : Int) < (N : Int) := by omega
      have e1 : ¬ N = m := by omega
      have e2 : ¬ N - m = 0 := by omega
      obtain ⟨w4, hcp2, hg4, HB4⟩ : ∃ w4, (Builtin.copy_ #[37, 37] 3 #[.slice (some ⟨S, m * 5, none⟩) (N - m) (N - m), .slice (some ⟨S, 0, none⟩) m N]).run Tryd.prog wr.drew = .ok (.int .i64 (cnt : Int)) w4 ∧ Hid (w4.heap[S]? = some (.cells (splice L (m * 5) cs).toArray 45 (0, 0))) ∧ Hid (Below S w w4) :=
        ⟨_, run_copy_sz (P := Tryd.prog) wr.drew 37 37 3 45 5 S (m * 5) (N - m) (N - m) ⟨S, 0, none⟩ m N L 45 cs cnt Tryd.underlying37 sizeC HLL.out HCN.out HTL.out HSR.out HLE.out HON.out, setRow_heap _ S _ _ 45 _ HLL.out, below_setRow HBR.out.drew (Nat.le_refl _) _⟩
      have ww : IntKind.i64.wrap ((m : Int) + (cnt : Int)) = (m : Int) + (cnt : Int) := by rw [IntKind.wrap_i64]; omega
      go_wp2_with fail
      go_region
      all_goals
        go_wp2
        go_roundw
        case rel => exact ⟨m + cnt, by omega, by omega, by go_num, ⟨_, hg4.out, HFI.out⟩, HB4⟩
        case measure => simp [intOf]; omega
    · have hlt' : ¬ (m : Int) < (N : Int) := by omega
      obtain rfl : m = N := by omega
      go_wp2
      go_ret
      exact ⟨by rw [HS.out]; rfl, by rw [HS.out]; exact HR.out, by rw [HS.out]; exact HBR.out⟩
end Go.Proofs.YtgaogkggbccfnaaDoor

namespace Go.Proofs.YtgaogkggbccfnaaDoor
open Go.RowKit Go.Sort
set_option linter.unusedVariables false

/-- What is not mine stays; what is new lies behind B. -/
theorem Cv.below {T : TypeId} {Q Q' : World} {M W H : Nat} {c : Nat → Nat → Ce} (h : Cv T Q M W H c) (g : Below Q.heap.size Q Q') : Cv T Q' M W H c := h.keep (g.block M h.lt)
theorem CS.below {TK T : TypeId} {Q Q' : World} {K M cap W H : Nat} {c : Nat → Nat → Ce} (h : CS TK T Q K M cap W H c) (g : Below Q.heap.size Q Q') : CS TK T Q' K M cap W H c := ⟨(g.block K h.klt).trans h.kb, h.cv.below g, h.ne, h.hc⟩
theorem cv_of_fl {T : TypeId} {Q : World} {M W H : Nat} {e : Ce} {L : List Value} (h : Q.heap[M]? = some (.cells L.toArray T (0, 0))) (hf : Fl L (W * H) (W * H) e) : Cv T Q M W H (fun _ _ => e) := by
  refine ⟨⟨_, h⟩, fun y x hy hx k u hu => ?_⟩
  have hi : y * W + x < W * H := by
    have : (y + 1) * W ≤ H * W := Nat.mul_le_mul_right _ (by omega)
    rw [Nat.add_mul] at this
    rw [Nat.mul_comm W H]; omega
  have := hf.2 (y * W + x) k u hi hu
  rw [show (y * W + x) * 5 + k = y * W * 5 + x * 5 + k by rw [Nat.add_mul]] at this
  simp [World.cell?, h, this]

theorem r5_cells {T : TypeId} {Q : World} {b : Nat} {e : Ce} (h : R5 T Q b e) (k : Nat) (u : Value) (hu : (c5 e)[k]? = some u) : Q.cell? ⟨b, k, none⟩ = some u := by
  unfold R5 at h
  have : (#[.string e.t, .int .i64 e.f, .int .i64 e.g, .int .i64 e.b, .int .i64 e.p] : Array Value)[k]? = some u := by
    rw [← hu]; unfold c5; simp
  simp [World.cell?, h, this]

set_option maxRecDepth 100000 in
set_option maxHeartbeats 2000000 in
theorem new_bad (W H : Int) (w : World) (h : ¬ ((1 ≤ W ∧ W ≤ 400) ∧ (1 ≤ H ∧ H ≤ 400))) : Calls Tryd.prog 27 #[.int .i64 W, .int .i64 H] w fun e w' => e = .returned (.tuple #[.pointer none, .int .i64 6]) ∧ w' = w := by
  have SD : Hid (∀ n w, Calls Tryd.prog 38 #[.int .i64 n] w fun e w' => e = .returned (.bool (decide (1 ≤ n ∧ n ≤ 400))) ∧ w' = w) := side_any
  have S1 := SD.out W
  have S2 := SD.out H
  by_cases h1 : 1 ≤ W ∧ W ≤ 400
  · have h2 : ¬ (1 ≤ H ∧ H ≤ 400) := fun q => h ⟨h1, q⟩
    rw [decide_eq_true h1] at S1
    rw [decide_eq_false h2] at S2
    clear h
    go_enter Tryd.func27, Tryd.ntmps27
    go_wp2_with fail
    refine Calls.mono (S1 _) ?_
    rintro e w1 ⟨rfl, hw1⟩
    obtain rfl := hw1.symm
    go_wp2_with fail
    refine Calls.mono (S2 _) ?_
    rintro e w2 ⟨rfl, hw2⟩
    obtain rfl := hw2.symm
    go_wp2
    go_ret2
    exact ⟨rfl, rfl⟩
  · rw [decide_eq_false h1] at S1
    clear h
    go_enter Tryd.func27, Tryd.ntmps27
    go_wp2_with fail
    refine Calls.mono (S1 _) ?_
    rintro e w1 ⟨rfl, hw1⟩
    obtain rfl := hw1.symm
    go_wp2
    go_ret2
    exact ⟨rfl, rfl⟩

set_option maxRecDepth 100000 in
set_option maxHeartbeats 2000000 in
theorem new_ok (W H : Nat) (w : World) (hW : 1 ≤ W ∧ W ≤ 400) (hH : 1 ≤ H ∧ H ≤ 400) : Calls Tryd.prog 27 #[.int .i64 W, .int .i64 H] w fun e w' => ∃ K M, e = .returned (.tuple #[.pointer (some ⟨K, 0, none⟩), .int .i64 0]) ∧ CS 88 45 w' K M (W * H) W H (fun _ _ => bk 0 0 0) ∧ w.heap.size ≤ K ∧ w.heap.size ≤ M ∧ Below w.heap.size w w' := by
  have SD : Hid (∀ n w, Calls Tryd.prog 38 #[.int .i64 n] w fun e w' => e = .returned (.bool (decide (1 ≤ n ∧ n ≤ 400))) ∧ w' = w) := side_any
  have S1 := SD.out W
  have S2 := SD.out H
  rw [decide_eq_true (by omega)] at S1 S2
  have BL : Hid (∀ w, Calls Tryd.prog 40 #[sv 0 0 0] w fun e w' => e = .returned (cev (bk 0 0 0)) ∧ Gr w w') := blank_any 0 0 0
  obtain ⟨e, he⟩ : ∃ e, bk 0 0 0 = e := ⟨_, rfl⟩
  rw [he] at BL ⊢
  unfold sv cev at BL
  obtain ⟨n, hn⟩ : ∃ n, W * H = n := ⟨_, rfl⟩
  have nb : 1 ≤ n ∧ n ≤ 160000 := by rw [← hn]; exact ⟨Nat.mul_le_mul hW.1 hH.1, Nat.mul_le_mul hW.2 hH.2⟩
  have e1 : (W : Int) * (H : Int) = (n : Int) := by rw [← hn]; simp
  have HN : Hid (W * H = n) := hn
  rw [hn]
  clear hn he
  go_enter Tryd.func27, Tryd.ntmps27
  go_wp2_with fail
  refine Calls.mono (S1 _) ?_
  rintro e1 w1 ⟨rfl, hw1⟩
  obtain rfl := hw1.symm
  go_wp2_with fail
  refine Calls.mono (S2 _) ?_
  rintro e2 w2 ⟨rfl, hw2⟩
  obtain rfl := hw2.symm
  go_wp2_with fail
  refine Calls.mono (BL.out _) ?_
  rintro e3 w3 ⟨rfl, g3⟩
  have G3 : Hid (Gr w w3) := g3
  clear g3
  have B0 : Hid (R5 45 (w3.alloc (.cells #[.string e.t, .int .i64 e.f, .int .i64 e.g, .int .i64 e.b, .int .i64 e.p] 45)) w3.heap.size e) := R5.new w3 e _
  go_wp2_with fail
  refine Calls.mono (repeat_any _ e w3.heap.size n nb B0.out.lt (r5_cells B0.out)) ?_
  rintro e4 w4 ⟨rfl, ⟨L, hL, hF⟩, b4⟩
  have HL : Hid (w4.heap[w3.heap.size + 1]? = some (.cells L.toArray 45 (0, 0)) ∧ Fl L n n e ∧ Below (w3.heap.size + 1) (w3.alloc (.cells #[.string e.t, .int .i64 e.f, .int .i64 e.g, .int .i64 e.b, .int .i64 e.p] 45)) w4) := by
    simp only [World.size_alloc] at hL b4
    exact ⟨hL, hF, b4⟩
  clear hL hF b4
  simp only [World.size_alloc]
  obtain ⟨M, hM⟩ : ∃ z, w3.heap.size + 1 = z := ⟨_, rfl⟩
  rw [hM] at HL
  rw [hM]
  have HM : Hid (w3.heap.size + 1 = M) := hM
  clear hM
  go_wp2
  go_ret2
  refine ⟨w4.heap.size, M, rfl, ?_, ?_, ?_, ?_⟩
  · have hlt : M < w4.heap.size := (Array.getElem?_eq_some_iff.1 HL.out.1).1
    refine ⟨?_, ?_, by omega, by rw [HN.out]; exact Nat.le_refl _⟩
    · rw [HN.out]; exact heap_alloc_new _ _
    · refine Cv.gr ?_ ((Gr.refl w4).alloc _)
      refine cv_of_fl HL.out.1 ?_
      rw [HN.out]; exact HL.out.2.1
  · have := G3.out.size; have := HL.out.2.2.size; simp only [World.size_alloc] at this; omega
  · have := G3.out.size; have := HM.out; omega
  · have hz := G3.out.size
    have b1 : Below w.heap.size w (w3.alloc (.cells #[.string e.t, .int .i64 e.f, .int .i64 e.g, .int .i64 e.b, .int .i64 e.p] 45)) := (G3.out.alloc _).below
    have b2 : Below w.heap.size w w4 := b1.trans (HL.out.2.2.mono (by have := HM.out; omega))
    exact b2.alloc (by have := HL.out.2.2.size; simp only [World.size_alloc] at this; omega) _
end Go.Proofs.YtgaogkggbccfnaaDoor

namespace Go.Proofs.YtgaogkggbccfnaaDoor
open Go.RowKit Go.Sort
set_option linter.unusedVariables false

/-- All cells, one behind the other. -/
def lin (c : Nat → Nat → Ce) (W : Nat) : Nat → List Value
  | 0 => []
  | n + 1 => lin c W n ++ c5 (c (n / W) (n % W))
theorem lin_len (c : Nat → Nat → Ce) (W n : Nat) : (lin c W n).length = n * 5 := by
  induction n with
  | zero => rfl
  | succ n ih => rw [lin, List.length_append, ih, c5_len]; omega
theorem lin_get (c : Nat → Nat → Ce) (W : Nat) : ∀ n i k, i < n → k < 5 → (lin c W n)[i * 5 + k]? = (c5 (c (i / W) (i % W)))[k]?
  | 0, i, k, hi, hk => absurd hi (by omega)
  | n + 1, i, k, hi, hk => by
    rw [lin]
    by_cases h : i < n
    · rw [List.getElem?_append_left (by rw [lin_len]; omega)]; exact lin_get c W n i k h hk
    · obtain rfl : i = n := by omega
      rw [List.getElem?_append_right (by rw [lin_len]; omega), lin_len, show i * 5 + k - i * 5 = k by omega]
theorem lin_one (c : Nat → Nat → Ce) (W n : Nat) : ∀ v ∈ lin c W n, v.oneCell' = true := by
  intro v hv
  obtain ⟨j, hj⟩ := List.mem_iff_getElem?.1 hv
  have hl : j < n * 5 := by rw [← lin_len c W n]; exact (List.getElem?_eq_some_iff.1 hj).1
  have := lin_get c W n (j / 5) (j % 5) (by omega) (by omega)
  rw [show j / 5 * 5 + j % 5 = j by omega, hj] at this
  have hm := List.mem_of_getElem? this.symm
  simp [c5] at hm
  rcases hm with rfl | rfl | rfl | rfl | rfl <;> rfl
theorem div_lt {i W H : Nat} (h : i < W * H) : i / W < H := Nat.div_lt_of_lt_mul h
theorem W_pos {i W H : Nat} (h : i < W * H) : 0 < W := by
  rcases Nat.eq_zero_or_pos W with e | e
  · rw [e, Nat.zero_mul] at h; omega
  · exact e
theorem lin_off (i W : Nat) : i / W * W * 5 + i % W * 5 = i * 5 := by
  have := Nat.div_add_mod i W
  rw [← Nat.add_mul, Nat.mul_comm (i / W) W, this]
theorem cv_lin {T : TypeId} {Q : World} {M W H : Nat} {c : Nat → Nat → Ce} (h : Cv T Q M W H c) (j : Nat) (v : Value) (hj : (lin c W (W * H))[j]? = some v) : Q.cell? ((⟨M, 0, none⟩ : Addr).add j) = some v := by
  have ea : (⟨M, 0, none⟩ : Addr).add j = ⟨M, j, none⟩ := by unfold Addr.add; split <;> simp_all
  have hl : j < W * H * 5 := by rw [← lin_len c W (W * H)]; exact (List.getElem?_eq_some_iff.1 hj).1
  have hi : j / 5 < W * H := by omega
  have hg := lin_get c W (W * H) (j / 5) (j % 5) hi (by omega)
  rw [show j / 5 * 5 + j % 5 = j by omega, hj] at hg
  have := h.cell (j / 5 / W) (j / 5 % W) (div_lt hi) (Nat.mod_lt _ (W_pos hi)) (j % 5) v hg.symm
  rw [lin_off, show j / 5 * 5 + j % 5 = j by omega] at this
  rw [ea]; exact this
theorem cv_own {T : TypeId} {Q : World} {B W H : Nat} {c : Nat → Nat → Ce} {v : Value} (h : Q.ownsRow B T 5 v (W * H) (lin c W (W * H))) (hp : 0 < W * H) : ∃ N cap, v = .slice (some ⟨N, 0, none⟩) (W * H) cap ∧ B ≤ N ∧ Cv T Q N W H c := by
  rcases h.2 with ⟨_, h0⟩ | ⟨g, cap, cur, hv, hb, hg, _⟩
  · omega
  · refine ⟨g, cap, hv, hb, ⟨_, hg⟩, fun y x hy hx k u hu => ?_⟩
    have hk : k < 5 := (List.getElem?_eq_some_iff.1 hu).1
    have hi : y * W + x < W * H := by
      have : (y + 1) * W ≤ H * W := Nat.mul_le_mul_right _ (by omega)
      rw [Nat.add_mul] at this
      rw [Nat.mul_comm W H]; omega
    have hy' : (y * W + x) / W = y := by rw [Nat.mul_comm, Nat.mul_add_div (by omega), Nat.div_eq_of_lt hx, Nat.add_zero]
    have hx' : (y * W + x) % W = x := by rw [Nat.mul_comm, Nat.mul_add_mod, Nat.mod_eq_of_lt hx]
    have hl := lin_get c W (W * H) (y * W + x) k hi hk
    rw [hy', hx', hu] at hl
    have := h.cells (g := g) (by rw [hv]; rfl) _ _ hl
    have ea : (⟨g, 0, none⟩ : Addr).add ((y * W + x) * 5 + k) = ⟨g, y * W * 5 + x * 5 + k, none⟩ := by
      rw [Nat.add_mul]; unfold Addr.add; split <;> simp_all
    rwa [ea] at this

section
variable {K M cap W H : Nat} {c : Nat → Nat → Ce}
set_option maxRecDepth 100000 in
set_option maxHeartbeats 2000000 in
theorem clone_any (w : World) (h : Cv 45 w M W H c) (hW : 1 ≤ W ∧ W ≤ 400) (hH : 1 ≤ H ∧ H ≤ 400) : Calls Tryd.prog 37 #[.slice (some ⟨M, 0, none⟩) (W * H) cap] w fun e w' => ∃ N cap', e = .returned (.slice (some ⟨N, 0, none⟩) (W * H) cap') ∧ Cv 45 w' N W H c ∧ w.heap.size ≤ N ∧ Below w.heap.size w w' := by
  obtain ⟨i0, hi, hz0, hz1, hz2⟩ := info_parts infoC
  obtain ⟨n, hn⟩ : ∃ n, W * H = n := ⟨_, rfl⟩
  have nb : 1 ≤ n ∧ n ≤ 160000 := by rw [← hn]; exact ⟨Nat.mul_le_mul hW.1 hH.1, Nat.mul_le_mul hW.2 hH.2⟩
  have HN : Hid (W * H = n) := hn
  have HV : Hid (Cv 45 w M W H c) := h
  obtain ⟨L, hL⟩ : ∃ L, lin c W n = L := ⟨_, rfl⟩
  have HL : Hid (lin c W (W * H) = L) := by show _ = _; rw [hn]; exact hL
  have HLen : Hid (L.length = n * 5) := by rw [← hL]; exact lin_len c W n
  have HOne : Hid (∀ v ∈ L, v.oneCell' = true) := by rw [← hL]; exact lin_one c W n
  rw [hn]
  clear h hn hL
  have ML : M < w.heap.size := HV.out.lt
  have qs : ∀ (w : World) (a : Option Addr) (n c n' c' : Nat), (binOp .eql 37 (.slice a n c) (.slice none n' c')).run Tryd.prog w = .ok (.bool a.isNone) w := fun w a n c n' c' => Lib.run_eql_slice_nil w _ _ a n c n' c' Tryd.underlying37
  have HCell : Hid (∀ (j : Nat) u, L[j]? = some u → (w.alloc (.cells #[] 45)).cell? ((⟨M, 0, none⟩ : Addr).add j) = some u) := fun j u hj => by
    rw [← HL.out] at hj
    exact cv_lin (HV.out.gr ((Gr.refl w).alloc _)) j u hj
  go_enter Tryd.func37, Tryd.ntmps37
  go_wp2_with (at_builtin; refine wpList_append_own _ rfl _ _ 37 rfl w.heap.size 45 i0 (.agg #[.string ⟨#[]⟩, .int .i64 0, .int .i64 0, .int .i64 0, .int .i64 0]) 5 48 Tryd.underlying37 hi hz0 hz1 hz2 rfl (by decide) _ _ _ rfl (World.ownsRow_made w #[] 0 (Nat.le_refl _) (Nat.zero_le _) rfl) ⟨M, 0, none⟩ n cap L rfl HLen.out HCell.out HOne.out (by unfold maxLen; omega) (by omega) (by simp) ?_)
  intro v' w1 hown hgrow hnil
  have HO : Hid (w1.ownsRow w.heap.size 45 5 v' n L) := hown
  have HG : Hid (Below w.heap.size w w1) := ((Below.refl _ w).alloc (Nat.le_refl _) _).grown hgrow (by simp) (by intro k hk; simp [Value.ownBlock] at hk; omega)
  clear hown hgrow hnil
  go_wp2
  go_ret
  have hO := HO.out
  rw [← HN.out, ← HL.out] at hO
  obtain ⟨N, cap', hv, hb, hcv⟩ := cv_own hO (by rw [HN.out]; omega)
  exact ⟨N, cap', by rw [← HN.out]; exact congrArg Ending.returned hv, hcv, hb, HG.out⟩

set_option maxRecDepth 100000 in
set_option maxHeartbeats 2000000 in
theorem cells_any (w : World) (h : CS 88 45 w K M cap W H c) (hW : 1 ≤ W ∧ W ≤ 400) (hH : 1 ≤ H ∧ H ≤ 400) : Calls Tryd.prog 26 #[.pointer (some ⟨K, 0, none⟩)] w fun e w' => ∃ N cap', e = .returned (.slice (some ⟨N, 0, none⟩) (W * H) cap') ∧ Cv 45 w' N W H c ∧ w.heap.size ≤ N ∧ Below w.heap.size w w' := by
  have CL : Hid (Calls Tryd.prog 37 #[.slice (some ⟨M, 0, none⟩) (W * H) cap] w fun e w' => ∃ N cap', e = .returned (.slice (some ⟨N, 0, none⟩) (W * H) cap') ∧ Cv 45 w' N W H c ∧ w.heap.size ≤ N ∧ Below w.heap.size w w') := clone_any w h.cv hW hH
  have k2 := h.k2
  obtain ⟨n, hn⟩ : ∃ n, W * H = n := ⟨_, rfl⟩
  rw [hn] at CL k2 ⊢
  clear h hn
  go_enter Tryd.func26, Tryd.ntmps26
  go_wp2_with fail
  refine Calls.mono CL.out ?_
  rintro e w1 ⟨N, cap', rfl, h1, h2, h3⟩
  have HH : Hid (Cv 45 w1 N W H c ∧ w.heap.size ≤ N ∧ Below w.heap.size w w1) := ⟨h1, h2, h3⟩
  clear h1 h2 h3
  go_wp2
  go_ret
  exact ⟨N, cap', rfl, HH.out⟩
end
end Go.Proofs.YtgaogkggbccfnaaDoor

namespace Go.Proofs.YtgaogkggbccfnaaDoor
open Go.RowKit Go.Sort
set_option linter.unusedVariables false

/-- A new terminal. -/
def tm0 (W H : Nat) : Tm := ⟨W, H, fun _ _ => bk 0 0 0, ⟨0, 0, 0, 0, 0, 0, 0, ⟨#[]⟩, 0, 0⟩⟩
theorem ti0 (W H : Nat) (hH : 1 ≤ H) : Ti (tm0 W H) := ⟨by show (0 : Int) ≤ 0; decide, by show (0 : Int) ≤ (W : Int); omega, by show (0 : Int) ≤ 0; decide, by show (0 : Int) < (H : Int); omega, by show (0 : Int) ≤ 0; decide, by show (0 : Int) ≤ 4; decide, by show ((⟨#[]⟩ : ByteArray).size : Int) ≤ 4 + 4 * 0; decide⟩

set_option maxRecDepth 100000 in
theorem tnew_bad (W H : Int) (w : World) (h : ¬ ((1 ≤ W ∧ W ≤ 400) ∧ (1 ≤ H ∧ H ≤ 400))) : Calls Tryd.prog 19 #[.int .i64 W, .int .i64 H] w fun e w' => e = .returned (.tuple #[.pointer none, .int .i64 6]) ∧ w' = w := by
  have NB : Hid (Calls Tryd.prog 27 #[.int .i64 W, .int .i64 H] w fun e w' => e = .returned (.tuple #[.pointer none, .int .i64 6]) ∧ w' = w) := new_bad W H w h
  clear h
  go_enter Tryd.func19, Tryd.ntmps19
  go_wp2_with fail
  refine NB.out.mono ?_
  rintro e w1 ⟨rfl, hw⟩
  obtain rfl := hw.symm
  go_wp2
  refine bodyPost_ret (v := .tuple #[.pointer none, .int .i64 6]) (by simp [results, Tryd.results19, go_sem]) rfl ?_
  exact ⟨rfl, rfl⟩

set_option maxRecDepth 100000 in
set_option maxHeartbeats 2000000 in
theorem tnew_ok (W H : Nat) (w : World) (hW : 1 ≤ W ∧ W ≤ 400) (hH : 1 ≤ H ∧ H ≤ 400) (hp : PAll W H (fun _ _ => bk 0 0 0)) : Calls Tryd.prog 19 #[.int .i64 W, .int .i64 H] w fun e w' => ∃ T K M, e = .returned (.tuple #[.pointer (some ⟨T, 0, none⟩), .int .i64 0]) ∧ TM w' T K M (W * H) (tm0 W H) (fnV 28 #[]) ∧ w.heap.size ≤ T ∧ w.heap.size ≤ K ∧ w.heap.size ≤ M ∧ Below w.heap.size w w' := by
  have NO : Hid (Calls Tryd.prog 27 #[.int .i64 W, .int .i64 H] w fun e w' => ∃ K M, e = .returned (.tuple #[.pointer (some ⟨K, 0, none⟩), .int .i64 0]) ∧ CS 88 45 w' K M (W * H) W H (fun _ _ => bk 0 0 0) ∧ w.heap.size ≤ K ∧ w.heap.size ≤ M ∧ Below w.heap.size w w') := new_ok W H w hW hH
  go_enter Tryd.func19, Tryd.ntmps19
  go_wp2_with fail
  refine NO.out.mono ?_
  rintro e w1 ⟨K, M, rfl, hcs, hk, hm, b1⟩
  have HD : Hid (TM (w1.alloc (.cells (tmc K (tm0 W H).r (fnV 28 #[])) 62)) w1.heap.size K M (W * H) (tm0 W H) (fnV 28 #[]) ∧ w.heap.size ≤ w1.heap.size ∧ w.heap.size ≤ K ∧ w.heap.size ≤ M ∧ Below w.heap.size w (w1.alloc (.cells (tmc K (tm0 W H).r (fnV 28 #[])) 62))) :=
    ⟨⟨heap_alloc_new _ _, hcs.gr ((Gr.refl _).alloc _), by have := hcs.klt; omega, by have := hcs.cv.lt; omega, hW, hH, hp⟩, b1.size, hk, hm, b1.alloc b1.size _⟩
  clear hcs hk hm b1
  go_wp2
  refine bodyPost_ret (v := .tuple #[.pointer (some ⟨w1.heap.size, 0, none⟩), .int .i64 0]) (by simp [results, Tryd.results19, go_sem]) rfl ?_
  exact ⟨_, K, M, rfl, HD.out.1, HD.out.2.1, HD.out.2.2.1, HD.out.2.2.2.1, HD.out.2.2.2.2⟩

section
variable {T K M cap : Nat} {s : Tm} {nv : Value}
set_option maxRecDepth 100000 in
theorem tcells_any (w : World) (h : TM w T K M cap s nv) : Calls Tryd.prog 15 #[.pointer (some ⟨T, 0, none⟩)] w fun e w' => ∃ N cap', e = .returned (.slice (some ⟨N, 0, none⟩) (s.W * s.H) cap') ∧ Cv 45 w' N s.W s.H s.c ∧ w.heap.size ≤ N ∧ Below w.heap.size w w' := by
  have c0 : w.cell? ⟨T, 0, none⟩ = some (.pointer (some ⟨K, 0, none⟩)) := h.at rfl
  have CC : Hid (Calls Tryd.prog 26 #[.pointer (some ⟨K, 0, none⟩)] w fun e w' => ∃ N cap', e = .returned (.slice (some ⟨N, 0, none⟩) (s.W * s.H) cap') ∧ Cv 45 w' N s.W s.H s.c ∧ w.heap.size ≤ N ∧ Below w.heap.size w w') := cells_any w h.cs h.hW h.hH
  clear h
  go_enter Tryd.func15, Tryd.ntmps15
  go_wp2_with fail
  refine CC.out.mono ?_
  rintro e w1 ⟨N, cp, rfl, q⟩
  have HQ : Hid (Cv 45 w1 N s.W s.H s.c ∧ w.heap.size ≤ N ∧ Below w.heap.size w w1) := q
  clear q
  go_wp2
  go_ret
  exact ⟨N, cp, rfl, HQ.out.1, HQ.out.2.1, HQ.out.2.2⟩

set_option maxRecDepth 100000 in
theorem cursor_any (w : World) (h : TM w T K M cap s nv) : Calls Tryd.prog 16 #[.pointer (some ⟨T, 0, none⟩)] w fun e w' => e = .returned (.tuple #[.int .i64 s.r.x, .int .i64 s.r.y]) ∧ Gr w w' := by
  have hmix : Tryd.prog.follows .mixedOrders = true := by kernel_rfl
  have c1 : w.cell? ⟨T, 1, none⟩ = some (.int .i64 s.r.x) := h.at rfl
  have c2 : w.cell? ⟨T, 2, none⟩ = some (.int .i64 s.r.y) := h.at rfl
  clear h
  go_enter Tryd.func16, Tryd.ntmps16
  go_wp2_with fail
  go_quiet (fail)
  go_wp2
  refine bodyPost_ret (v := .tuple #[.int .i64 s.r.x, .int .i64 s.r.y]) (by simp [results, Tryd.results16, go_sem]) rfl ?_
  exact ⟨rfl, (Gr.refl _).drewN _⟩
end

end Go.Proofs.YtgaogkggbccfnaaDoor

namespace Go.Proofs.YtgaogkggbccfnaaDoor
open Go.RowKit Go.Sort
set_option linter.unusedVariables false

theorem infoBool : (Tryd.prog.info? 4).map (fun i => (i.zero, i.size, i.bytes)) = some (some (.bool false), 1, 1) := by kernel_rfl
set_option maxRecDepth 100000 in
theorem tnum_any (n : Int) (w : World) : Calls Tryd.prog 12 #[.int .i64 n] w fun e w' => e = .returned (.int .i64 n) ∧ w' = w := by
  go_enter Tryd.func12, Tryd.ntmps12
  go_wp2
  go_ret
  exact ⟨rfl, rfl⟩

set_option maxRecDepth 100000 in
theorem rnew_bad (W H : Int) (w : World) (h : ¬ ((1 ≤ W ∧ W ≤ 400) ∧ (1 ≤ H ∧ H ≤ 400))) : Calls Tryd.prog 29 #[.int .i64 W, .int .i64 H] w fun e w' => e = .returned (.tuple #[.pointer none, .int .i64 6]) ∧ w' = w := by
  have hc : W < 1 ∨ ¬ W < 1 ∧ (400 < W ∨ ¬ 400 < W ∧ (H < 1 ∨ ¬ H < 1 ∧ 400 < H)) := by omega
  clear h
  rcases hc with h1 | ⟨h1, h2 | ⟨h2, h3 | ⟨h3, h4⟩⟩⟩ <;>
  · go_enter Tryd.func29, Tryd.ntmps29
    go_wp2
    refine bodyPost_ret (v := .tuple #[.pointer none, .int .i64 6]) (by simp [results, Tryd.results29, go_sem]) rfl ?_
    exact ⟨rfl, rfl⟩

set_option maxRecDepth 100000 in
theorem rterm_bad (W H : Int) (w : World) (h : ¬ ((1 ≤ W ∧ W ≤ 400) ∧ (1 ≤ H ∧ H ≤ 400))) : Calls Tryd.prog 20 #[.int .i64 W, .int .i64 H] w fun e w' => e = .returned (.tuple #[.pointer none, .int .i64 6]) ∧ w' = w := by
  have NB : Hid (Calls Tryd.prog 29 #[.int .i64 W, .int .i64 H] w fun e w' => e = .returned (.tuple #[.pointer none, .int .i64 6]) ∧ w' = w) := rnew_bad W H w h
  clear h
  go_enter Tryd.func20, Tryd.ntmps20
  go_wp2_with fail
  refine NB.out.mono ?_
  rintro e w1 ⟨rfl, hw⟩
  obtain rfl := hw.symm
  go_wp2
  refine bodyPost_ret (v := .tuple #[.pointer none, .int .i64 6]) (by simp [results, Tryd.results20, go_sem]) rfl ?_
  exact ⟨rfl, rfl⟩

set_option maxRecDepth 100000 in
set_option maxHeartbeats 2000000 in
theorem rterm_ok (W H : Nat) (w : World) (hW : 1 ≤ W ∧ W ≤ 400) (hH : 1 ≤ H ∧ H ≤ 400) : Calls Tryd.prog 20 #[.int .i64 W, .int .i64 H] w fun e w' => ∃ T, e = .returned (.tuple #[.pointer (some ⟨T, 0, none⟩), .int .i64 0]) ∧ Below w.heap.size w w' := by
  have NO : Hid (Calls Tryd.prog 29 #[.int .i64 W, .int .i64 H] w fun e w' => ∃ K, e = .returned (.tuple #[.pointer (some ⟨K, 0, none⟩), .int .i64 0]) ∧ RN w w' W H K) := rnew_ok W H hW hH w
  have hwh : W * H ≤ 160000 := Nat.le_trans (Nat.mul_le_mul hW.2 hH.2) (by decide)
  obtain ⟨n, hn⟩ : ∃ n, W * H = n := ⟨_, rfl⟩
  have hn' : (W : Int) * (H : Int) = (n : Int) := by rw [← hn, Int.natCast_mul]
  rw [hn] at hwh
  clear hn
  obtain ⟨C, hmk⟩ : ∃ C, ∀ u : World, (Instr.makeSlice 65 (.int .i64 (n : Int)) (.int .i64 (n : Int))).run Tryd.prog u = .ok (.slice (some ⟨u.heap.size, 0, none⟩) n n) (u.alloc (.cells C 4)) := ⟨_, fun u => by
    have := run_make_row' (P := Tryd.prog) 65 4 (.bool false) 1 Tryd.underlying65 infoBool rfl .i64 .i64 n (by omega) (by omega) u
    simpa using this⟩
  go_enter Tryd.func20, Tryd.ntmps20
  go_wp2_with fail
  refine NO.out.mono ?_
  rintro e w1 ⟨K, rfl, hk, M, cap, hcs, hm, b1⟩
  have HB : Hid (Below w.heap.size w w1) := b1
  clear hk hcs hm b1
  go_wp2
  refine bodyPost_ret (v := .tuple #[.pointer (some ⟨w1.heap.size + 1, 0, none⟩), .int .i64 0]) (by simp [results, Tryd.results20, go_sem]) rfl ?_
  have h1 := HB.out.size
  exact ⟨_, rfl, (HB.out.alloc h1 _).alloc (by simp; omega) _⟩

set_option maxRecDepth 100000 in
set_option maxHeartbeats 2000000 in
theorem twin_bad (W H : Int) (w : World) (h : ¬ ((1 ≤ W ∧ W ≤ 400) ∧ (1 ≤ H ∧ H ≤ 400))) : Calls Tryd.prog 8 #[.int .i64 W, .int .i64 H] w fun e w' => e = .returned (.tuple #[.pointer none, .pointer none, .bool true]) ∧ w' = w := by
  have N1 : Hid (Calls Tryd.prog 19 #[.int .i64 W, .int .i64 H] w fun e w' => e = .returned (.tuple #[.pointer none, .int .i64 6]) ∧ w' = w) := tnew_bad W H w h
  have N2 : Hid (Calls Tryd.prog 20 #[.int .i64 W, .int .i64 H] w fun e w' => e = .returned (.tuple #[.pointer none, .int .i64 6]) ∧ w' = w) := rterm_bad W H w h
  clear h
  go_enter Tryd.func8, Tryd.ntmps8
  go_wp2_with fail
  refine N1.out.mono ?_
  rintro e w1 ⟨rfl, hw⟩
  obtain rfl := hw.symm
  go_wp2_with fail
  refine N2.out.mono ?_
  rintro e w1 ⟨rfl, hw⟩
  obtain rfl := hw.symm
  go_wp2_with fail
  refine (tnum_any _ _).mono ?_
  rintro e w1 ⟨rfl, hw⟩
  obtain rfl := hw.symm
  go_wp2
  refine bodyPost_ret (v := .tuple #[.pointer none, .pointer none, .bool true]) (by simp [results, Tryd.results8, go_sem]) rfl ?_
  exact ⟨rfl, rfl⟩

set_option maxRecDepth 100000 in
set_option maxHeartbeats 2000000 in
theorem twin_ok (W H : Nat) (w : World) (hW : 1 ≤ W ∧ W ≤ 400) (hH : 1 ≤ H ∧ H ≤ 400) (hp : PAll W H (fun _ _ => bk 0 0 0)) : Calls Tryd.prog 8 #[.int .i64 W, .int .i64 H] w fun e w' => ∃ T K M T2, e = .returned (.tuple #[.pointer (some ⟨T, 0, none⟩), .pointer (some ⟨T2, 0, none⟩), .bool true]) ∧ TM w' T K M (W * H) (tm0 W H) (fnV 28 #[]) ∧ w.heap.size ≤ T ∧ w.heap.size ≤ K ∧ w.heap.size ≤ M ∧ Below w.heap.size w w' := by
  have N1 : Hid (Calls Tryd.prog 19 #[.int .i64 W, .int .i64 H] w fun e w' => ∃ T K M, e = .returned (.tuple #[.pointer (some ⟨T, 0, none⟩), .int .i64 0]) ∧ TM w' T K M (W * H) (tm0 W H) (fnV 28 #[]) ∧ w.heap.size ≤ T ∧ w.heap.size ≤ K ∧ w.heap.size ≤ M ∧ Below w.heap.size w w') := tnew_ok W H w hW hH hp
  have N2 : Hid (∀ w, Calls Tryd.prog 20 #[.int .i64 W, .int .i64 H] w fun e w' => ∃ T, e = .returned (.tuple #[.pointer (some ⟨T, 0, none⟩), .int .i64 0]) ∧ Below w.heap.size w w') := fun w => rterm_ok W H w hW hH
  go_enter Tryd.func8, Tryd.ntmps8
  go_wp2_with fail
  refine N1.out.mono ?_
  rintro e w1 ⟨T, K, M, rfl, hq⟩
  have HQ : Hid (TM w1 T K M (W * H) (tm0 W H) (fnV 28 #[]) ∧ w.heap.size ≤ T ∧ w.heap.size ≤ K ∧ w.heap.size ≤ M ∧ Below w.heap.size w w1) := hq
  clear hq
  go_wp2_with fail
  refine (N2.out w1).mono ?_
  rintro e w2 ⟨T2, rfl, b2⟩
  have HR : Hid (TM w2 T K M (W * H) (tm0 W H) (fnV 28 #[]) ∧ w.heap.size ≤ T ∧ w.heap.size ≤ K ∧ w.heap.size ≤ M ∧ Below w.heap.size w w2) := ⟨HQ.out.1.below b2, HQ.out.2.1, HQ.out.2.2.1, HQ.out.2.2.2.1, HQ.out.2.2.2.2.trans (b2.mono HQ.out.2.2.2.2.size)⟩
  clear b2 HQ
  go_wp2_with fail
  refine (tnum_any _ _).mono ?_
  rintro e w3 ⟨rfl, hw⟩
  obtain rfl := hw.symm
  go_wp2
  refine bodyPost_ret (v := .tuple #[.pointer (some ⟨T, 0, none⟩), .pointer (some ⟨T2, 0, none⟩), .bool true]) (by simp [results, Tryd.results8, go_sem]) rfl ?_
  exact ⟨T, K, M, T2, rfl, HR.out.1, HR.out.2.1, HR.out.2.2.1, HR.out.2.2.2.1, HR.out.2.2.2.2⟩

end Go.Proofs.YtgaogkggbccfnaaDoor

namespace Go.Proofs.YtgaogkggbccfnaaDoor
open Go.RowKit Go.Sort
set_option linter.unusedVariables false

section
variable {N cap W H : Nat} {c : Nat → Nat → Ce}
set_option maxRecDepth 100000 in
set_option maxHeartbeats 4000000 in
theorem paired_yes (w : World) (h : Cv 45 w N W H c) (hp : PAll W H c) (hW : 1 ≤ W ∧ W ≤ 400) (hH : 1 ≤ H ∧ H ≤ 400) : Calls Tryd.prog 18 #[.slice (some ⟨N, 0, none⟩) (W * H) cap, .int .i64 W] w fun e w' => e = .returned (.bool true) ∧ Gr w w' := by
  obtain ⟨n, hn⟩ : ∃ n, W * H = n := ⟨_, rfl⟩
  have nb : 1 ≤ n ∧ n ≤ 160000 := by rw [← hn]; exact ⟨Nat.mul_le_mul hW.1 hH.1, Nat.mul_le_mul hW.2 hH.2⟩
  have HN : Hid (W * H = n) := hn
  rw [hn]
  have HV : Hid (Cv 45 w N W H c) := h
  have HP : Hid (PAll W H c) := hp
  clear hn h hp
  go_enter Tryd.func18, Tryd.ntmps18
  go_wp2_with fail
  go_loopw [5] (fun iv wr => ∃ i : Nat, i ≤ n ∧ iv = .int .i64 i ∧ Hid (Gr w wr)) (fun iv _ => n - (intOf iv).toNat)
  case atStart => exact ⟨0, by omega, rfl, Gr.refl w⟩
  case round =>
    obtain ⟨i, hi, rfl, HG⟩ := hrel
    by_cases hlt : i < n
    · have hlt' : (i : Int) < (n : Int) := by omega
      have HI : Hid (i < W * H) := by rw [HN.out]; exact hlt
      obtain ⟨y, hy⟩ : ∃ y, i / W = y := ⟨_, rfl⟩
      obtain ⟨x, hx⟩ : ∃ x, i % W = x := ⟨_, rfl⟩
      have hyH : y < H := by rw [← hy]; exact div_lt HI.out
      have hxW : x < W := by rw [← hx]; exact Nat.mod_lt _ (by omega)
      have eo : y * W * 5 + x * 5 = i * 5 := by rw [← hy, ← hx]; exact lin_off i W
      have er : (i : Int) % (W : Int) = (x : Int) := by rw [← hx]; omega
      have V1 := HV.out.gr HG.out
      have PR := HP.out y hyH
      obtain ⟨e, he⟩ : ∃ e, c y x = e := ⟨_, rfl⟩
      have c4 := V1.c4 hyH hxW
      rw [eo, he] at c4
      rcases PR.part x hxW with h0 | h1 | h2
      · rw [he] at h0
        rw [h0] at c4
        clear hy hx eo V1 PR he
        go_wp2_with fail
        go_quiet (fail)
        go_wp2
        go_roundw
        case rel => exact ⟨i + 1, by omega, by go_num, HG.out.drewN _⟩
        case measure => simp [intOf]; omega
      · obtain ⟨q1, q2, q3, q4, q5⟩ := PR.head x hxW h1
        rw [he] at h1 q3 q4 q5
        rw [h1] at c4
        have en1 : y * W * 5 + (x + 1) * 5 = (i + 1) * 5 := by omega
        have il : i + 1 < n := by
          rw [← HN.out]
          have hm : (y + 1) * W ≤ H * W := Nat.mul_le_mul_right _ (by omega)
          rw [Nat.add_mul, Nat.mul_comm H W] at hm
          have : i = y * W + x := by omega
          omega
        have s1 := V1.c1 hyH hxW
        have s2 := V1.c2 hyH hxW
        have s3 := V1.c3 hyH hxW
        rw [eo, he] at s1 s2 s3
        have t1 := V1.c1 hyH q1
        have t2 := V1.c2 hyH q1
        have t3 := V1.c3 hyH q1
        have t4 := V1.c4 hyH q1
        rw [en1] at t1 t2 t3 t4
        rw [q2] at t4
        rw [q3] at t1
        rw [q4] at t2
        rw [q5] at t3
        have nw : ((x : Int) == (W : Int) - 1) = false := by simp; omega
        have il' : (i : Int) + 1 < (n : Int) := by omega
        clear hy hx eo V1 PR he en1 q2 q3 q4 q5
        obtain ⟨f, hf⟩ : ∃ z, e.f = z := ⟨_, rfl⟩
        obtain ⟨g, hg⟩ : ∃ z, e.g = z := ⟨_, rfl⟩
        obtain ⟨b, hb⟩ : ∃ z, e.b = z := ⟨_, rfl⟩
        rw [hf] at s1 t1
        rw [hg] at s2 t2
        rw [hb] at s3 t3
        clear hf hg hb h1
        go_wp2_with fail
        go_quiet (fail)
        go_wp2
        go_roundw
        case rel => exact ⟨i + 1, by omega, by go_num, HG.out.drewN _⟩
        case measure => simp [intOf]; omega
      · obtain ⟨k, hk, q1, q2⟩ := PR.tail x hxW h2
        rw [he] at h2 q2
        rw [h2] at c4
        subst hk
        obtain ⟨j, rfl⟩ : ∃ j, i = j + 1 := ⟨i - 1, by omega⟩
        have en1 : y * W * 5 + k * 5 = j * 5 := by omega
        have t4 := V1.c4 hyH (show k < W by omega)
        rw [en1, q1] at t4
        have s0 := V1.c0 hyH hxW
        rw [eo, he, q2] at s0
        unfold ept at s0
        have nw : (((k : Int) + 1) == 0) = false := by simp; omega
        have er' : ((j : Int) + 1) % (W : Int) = (k : Int) + 1 := er
        clear er
        clear hy hx eo V1 PR he en1 q1 q2 h2
        go_wp2_with fail
        go_quiet (fail)
        go_wp2
        go_roundw
        case rel => exact ⟨j + 1 + 1, by omega, by go_num, HG.out.drewN _⟩
        case measure => simp [intOf]; omega
    · have hlt' : ¬ (i : Int) < (n : Int) := by omega
      go_wp2
      go_ret
      exact ⟨rfl, HG.out⟩
end
end Go.Proofs.YtgaogkggbccfnaaDoor

namespace Go.Proofs.YtgaogkggbccfnaaDoor
open Go.RowKit Go.Sort
set_option linter.unusedVariables false

def wh (s : Tm) : Nat × Nat := (s.W, s.H)
theorem wh_mark (s : Tm) (mk : ByteArray) : wh (markT s mk) = wh s := by unfold markT; split <;> rfl
theorem wh_pr (s : Tm) (r : Int) : wh (prT s r) = wh s := by
  unfold prT
  split
  · exact wh_mark _ _
  · split <;> rfl
theorem wh_prs (s : Tm) : ∀ R : List Int, wh (prsT s R) = wh s
  | [] => rfl
  | r :: R => (wh_prs (prT s r) R).trans (wh_pr s r)
theorem wh_am (s : Tm) (t : ByteArray) : wh (amT s t).1 = wh s := by
  unfold amT
  split
  · exact wh_pr _ _
  · rfl
theorem wh_out (s : Tm) (b : UInt8) : wh (outT s b).1 = wh s := by
  unfold outT
  split
  · rfl
  · split
    · rfl
    · exact wh_am _ _
theorem wh_obey (s : Tm) (b : Int) (l : Nat → Int) (a : Int) : wh (obeyT s b l a) = wh s := by
  unfold obeyT
  split
  · rfl
  · split
    · split <;> rfl
    · split <;> rfl
theorem wh_step (s : Tm) (b : UInt8) (st : St) : wh (stepT s b st).1 = wh s := by
  cases st with
  | out => exact wh_out s b
  | esc => rfl
  | amid h =>
    show wh (amA s h b).1 = wh s
    unfold amA
    split
    · exact (wh_out _ _).trans (wh_prs _ _)
    · exact wh_am _ _
  | wth l a =>
    show wh (wthT s l a.toNat b.toNat).1 = wh s
    unfold wthT
    split
    · rfl
    · split
      · rfl
      · split
        · rfl
        · split
          · exact wh_obey _ _ _ _
          · rfl
theorem wh_run : ∀ (l : List UInt8) (p : Tm × St), wh (runT p l).1 = wh p.1
  | [], p => rfl
  | b :: l, p => (wh_run l (stepT p.1 b p.2)).trans (wh_step p.1 b p.2)
theorem pall0 (W H : Nat) : PAll W H (fun _ _ => bk 0 0 0) := fun y hy => ⟨fun i hi => .inl rfl, fun i hi h => absurd h (by show ¬ (0 : Int) = 1; decide), fun i hi h => absurd h (by show ¬ (0 : Int) = 2; decide)⟩

set_option maxRecDepth 100000 in
set_option maxHeartbeats 4000000 in
theorem keeps_walk (W H : Int) (x : ByteArray) (hx : x.size ≤ 9223372036854775807) (w : World) (ht : TabAt w) (hU : Utf w) (hg : 2 < w.heap.size) : Calls Tryd.prog 5 #[.int .i64 W, .int .i64 H, .string x] w fun e w' => e = .returned (.bool true) ∧ Below w.heap.size w w' := by
  by_cases hwh : (1 ≤ W ∧ W ≤ 400) ∧ (1 ≤ H ∧ H ≤ 400)
  · obtain ⟨W, rfl⟩ : ∃ W' : Nat, W = (W' : Int) := ⟨W.toNat, by omega⟩
    obtain ⟨H, rfl⟩ : ∃ H' : Nat, H = (H' : Int) := ⟨H.toNat, by omega⟩
    have TW : Hid (Calls Tryd.prog 8 #[.int .i64 W, .int .i64 H] w fun e w' => ∃ T K M T2, e = .returned (.tuple #[.pointer (some ⟨T, 0, none⟩), .pointer (some ⟨T2, 0, none⟩), .bool true]) ∧ TM w' T K M (W * H) (tm0 W H) (fnV 28 #[]) ∧ w.heap.size ≤ T ∧ w.heap.size ≤ K ∧ w.heap.size ≤ M ∧ Below w.heap.size w w') := twin_ok W H w (by omega) (by omega) (pall0 W H)
    have HT : Hid (TabAt w) := ht
    have HU : Hid (Utf w) := hU
    have hsz := hU.sz
    clear ht hU
    go_enter Tryd.func5, Tryd.ntmps5
    go_wp2_with fail
    refine TW.out.mono ?_
    rintro e w1 ⟨T, K, M, T2, rfl, h1, hT, _, hM, b1⟩
    have hfar : Far T M := ⟨by omega, by omega, by omega⟩
    have WR : Hid (Calls Tryd.prog 9 #[.pointer (some ⟨T, 0, none⟩), .string x] w1 fun e w' => WrOut w1 w' e T K M (W * H) (runT (tm0 W H, .out) x.data.toList)) := write_any x hx w1 h1 rfl (ti0 W H (by omega)) trivial (HT.out.below b1) (HU.out.below b1) hfar
    have HB1 : Hid (Below w.heap.size w w1) := b1
    obtain ⟨p, hp⟩ : ∃ p, runT (tm0 W H, .out) x.data.toList = p := ⟨_, rfl⟩
    have hwhp : wh p.1 = (W, H) := by rw [← hp]; exact wh_run _ _
    rw [hp] at WR
    obtain ⟨s, st⟩ := p
    have hsW : s.W = W := congrArg Prod.fst hwhp
    have hsH : s.H = H := congrArg Prod.snd hwhp
    clear h1 b1 hp hwhp TW
    go_wp2_with fail
    refine WR.out.mono ?_
    rintro e w2 ⟨rfl, ⟨nv, h2, _⟩, hti, _, c2⟩
    have H2 : Hid (TM w2 T K M (W * H) s nv) := h2
    have HC2 : Hid (Below w.heap.size w w2) := ⟨c2.os.trans HB1.out.os, c2.tape.trans HB1.out.tape, c2.output.trans HB1.out.output, Nat.le_trans HB1.out.size c2.size, fun b hb => (c2.block b (Nat.lt_of_lt_of_le hb HB1.out.size) (by omega) (by omega)).trans (HB1.out.block b hb)⟩
    have q1 := hti.x0
    have q2 := hti.x1
    have q3 := hti.y0
    have q4 := hti.y1
    have TC : Hid (Calls Tryd.prog 15 #[.pointer (some ⟨T, 0, none⟩)] w2 fun e w' => ∃ N cap', e = .returned (.slice (some ⟨N, 0, none⟩) (W * H) cap') ∧ Cv 45 w' N W H s.c ∧ w2.heap.size ≤ N ∧ Below w2.heap.size w2 w') := by have := tcells_any w2 h2; rw [hsW, hsH] at this; exact this
    rw [hsW] at q2
    rw [hsH] at q4
    have hpa : PAll W H s.c := by have := h2.pa; rw [hsW, hsH] at this; exact this
    have HPA : Hid (PAll W H s.c) := hpa
    clear h2 hti c2 WR hpa
    go_wp2_with fail
    refine TC.out.mono ?_
    rintro e w3 ⟨N, cp, rfl, hcv, hN, b3⟩
    have H3 : Hid (TM w3 T K M (W * H) s nv) := H2.out.below b3
    have HC3 : Hid (Below w.heap.size w w3) := HC2.out.trans (b3.mono HC2.out.size)
    have HV3 : Hid (Cv 45 w3 N W H s.c) := hcv
    clear hcv hN b3 TC
    go_wp2_with fail
    refine (cursor_any w3 H3.out).mono ?_
    rintro e w4 ⟨rfl, g4⟩
    have HC4 : Hid (Below w.heap.size w w4) := HC3.out.trans (g4.below.mono HC3.out.size)
    have PY : Hid (Calls Tryd.prog 18 #[.slice (some ⟨N, 0, none⟩) (W * H) cp, .int .i64 W] w4 fun e w' => e = .returned (.bool true) ∧ Gr w4 w') := paired_yes w4 (HV3.out.gr g4) HPA.out (by omega) (by omega)
    obtain ⟨n, hn⟩ : ∃ n, W * H = n := ⟨_, rfl⟩
    have hn' : (W : Int) * (H : Int) = (n : Int) := by rw [← hn, Int.natCast_mul]
    have hnb : n ≤ 160000 := by rw [← hn]; exact Nat.le_trans (Nat.mul_le_mul (by omega : W ≤ 400) (by omega : H ≤ 400)) (by decide)
    rw [hn] at PY
    rw [hn]
    obtain ⟨cx, hcx⟩ : ∃ z, s.r.x = z := ⟨_, rfl⟩
    obtain ⟨cy, hcy⟩ : ∃ z, s.r.y = z := ⟨_, rfl⟩
    rw [hcx, hcy]
    rw [hcx] at q1 q2
    rw [hcy] at q3 q4
    clear g4 hn hcx hcy H3 HV3 H2
    go_wp2_with fail
    refine PY.out.mono ?_
    rintro e w5 ⟨rfl, g5⟩
    have HC5 : Hid (Below w.heap.size w w5) := HC4.out.trans (g5.below.mono HC4.out.size)
    clear g5 PY
    go_wp2
    go_ret
    exact ⟨rfl, HC5.out⟩
  · have TW : Hid (Calls Tryd.prog 8 #[.int .i64 W, .int .i64 H] w fun e w' => e = .returned (.tuple #[.pointer none, .pointer none, .bool true]) ∧ w' = w) := twin_bad W H w hwh
    clear ht hU
    go_enter Tryd.func5, Tryd.ntmps5
    go_wp2_with fail
    refine TW.out.mono ?_
    rintro e w1 ⟨rfl, hw⟩
    obtain rfl := hw.symm
    go_wp2
    go_ret
    exact ⟨rfl, Below.refl _ _⟩

end Go.Proofs.YtgaogkggbccfnaaDoor

namespace Go.Proofs.YtgaogkggbccfnaaDoor
open Go.RowKit Go.Sort
set_option linter.unusedVariables false

theorem seen_whole {W H x y a b : Int} (hW : 1 ≤ W ∧ W ≤ 400) (hH : 1 ≤ H ∧ H ≤ 400) (hx : 0 ≤ x) (ha : 1 ≤ a) (hxa : x + a ≤ W) (hy : 0 ≤ y) (hb : 1 ≤ b) (hyb : y + b ≤ H) : seenQ W H x y a b 0 0 W H = (x, y, a, b) := by
  have e1 : capQ x y a b 0 0 W H = (x, y, a, b) := by
    rw [capQ_cq, posI_id (n := x) (by omega), posI_id (n := y) (by omega), lenI_id (n := a) (by omega), lenI_id (n := b) (by omega), lenI_id (n := W) (by omega), lenI_id (n := H) (by omega), show posI 0 = 0 from rfl]
    unfold cq
    rw [if_neg (by omega)]
    refine Prod.ext ?_ (Prod.ext ?_ (Prod.ext ?_ ?_)) <;> simp only <;> omega
  unfold seenQ
  rw [e1]
  simp only
  rw [capQ_cq, posI_id (n := x) (by omega), posI_id (n := y) (by omega), lenI_id (n := a) (by omega), lenI_id (n := b) (by omega), lenI_id (n := W) (by omega), lenI_id (n := H) (by omega), show posI 0 = 0 from rfl]
  unfold cq
  rw [if_neg (by omega)]
  refine Prod.ext ?_ (Prod.ext ?_ (Prod.ext ?_ ?_)) <;> simp only <;> omega

/-- What a terminal puts. -/
theorem put_whole {W H : Nat} (hW : 1 ≤ W ∧ W ≤ 400) (hH : 1 ≤ H ∧ H ≤ 400) (c : Nat → Nat → Ce) {x y : Nat} {wd : Int} (txt : ByteArray) (f g b : Int) (hw : wd = 1 ∨ wd = 2) (hx : (x : Int) + wd ≤ W) (hy : y < H) :
    putC W H c x y txt wd f g b 0 0 W H = fill c x (x + wd.toNat) y (y + 1) (gly x wd txt (kn f) (kn g) (bo b)) := by
  unfold putC
  rw [seen_whole (by omega) (by omega) (by omega) (by omega) (by omega) (by omega) (by omega) (by omega)]
  unfold putQ putX
  rw [if_pos hw]
  simp only
  rw [if_neg (by omega)]
  congr 1 <;> omega

/-- What is erased whole. -/
theorem fil_whole {W H : Nat} (hW : 1 ≤ W ∧ W ≤ 400) (hH : 1 ≤ H ∧ H ≤ 400) (c : Nat → Nat → Ce) {y x : Nat} (hy : y < H) (hx : x < W) : filC W H c 0 0 W H 0 0 0 0 0 W H y x = bk 0 0 0 := by
  unfold filC
  rw [seen_whole (by omega) (by omega) (by omega) (by omega) (by omega) (by omega) (by omega) (by omega)]
  simp only
  unfold fill
  rw [if_pos (by omega), span_in (by omega)]
  rfl

/-- Only the cells on the screen tell. -/
theorem TM.same {w : World} {T K M cap : Nat} {s : Tm} {nv : Value} {c' : Nat → Nat → Ce} (h : TM w T K M cap s nv) (hc : ∀ y x, y < s.H → x < s.W → s.c y x = c' y x) (hp : PAll s.W s.H c') : TM w T K M cap { s with c := c' } nv :=
  ⟨h.tb, ⟨h.cs.kb, h.cs.cv.same hc, h.cs.ne, h.cs.hc⟩, h.tk, h.tm, h.hW, h.hH, hp⟩

/-- An m ends what is half come. -/
theorem full_m {h : ByteArray} (hs : h.size ≤ 3) : full (h ++ ⟨#[109]⟩).data.toList := by
  obtain ⟨l, hl⟩ : ∃ l, h.data.toList = l := ⟨_, rfl⟩
  have e : (h ++ ⟨#[109]⟩).data.toList = l ++ [109] := by simp [hl]
  have hs2 : l.length ≤ 3 := by rw [← hl, len_data]; exact hs
  rw [e]
  refine ⟨by simp, ?_⟩
  match l, hs2 with
  | [], _ => exact .inl (by decide)
  | [a], _ =>
    have e1 : byt ([a] ++ [109]) 1 = 109 := rfl
    have := lo_bd (byt ([a] ++ [109]) 0)
    right; right; right; left
    exact ⟨by simp, .inl (by rw [e1]; omega)⟩
  | [a, b], _ =>
    right; right; right; right
    exact ⟨by simp, .inl (by show byt [a, b, 109] 2 < _; exact (by decide : (109 : Nat) < 0x80))⟩
  | [a, b, c], _ =>
    right; right; left
    have := n_bd (byt ([a, b, c] ++ [109]) 0)
    simp only [List.length_append, List.length_cons, List.length_nil]
    omega
theorem step_m (s : Tm) (st : St) (h : Si st) : (stepT s 109 st).2 = .out := by
  have out : ∀ s, (outT s 109).2 = .out := fun s => rfl
  cases st with
  | out => exact out s
  | esc => rfl
  | amid hh =>
    show (amA s hh 109).2 = .out
    have hf := full_m h
    unfold amA
    by_cases hr : (runes (hh ++ ⟨#[109]⟩).data.toList).length ≠ 1
    · rw [if_pos ⟨hf, hr⟩]; exact out _
    · rw [if_neg (fun q => hr q.2)]; unfold amT; rw [if_pos hf]
  | wth l a => rfl

/-- Erased, sent home and made plain. -/
def wipe : List UInt8 := [109, 27, 91, 109, 27, 91, 50, 74, 27, 91, 72]
set_option maxRecDepth 100000 in
theorem wiped (s : Tm) (st : St) (h : Si st) (hW : 1 ≤ s.W) (hH : 1 ≤ s.H) : runT (s, st) wipe = ({ tm0 s.W s.H with c := filC s.W s.H (stepT s 109 st).1.c 0 0 s.W s.H 0 0 0 0 0 s.W s.H }, .out) := by
  have e0 : stepT s 109 st = ((stepT s 109 st).1, .out) := Prod.ext rfl (step_m s st h)
  obtain ⟨s1, h1⟩ : ∃ z, (stepT s 109 st).1 = z := ⟨_, rfl⟩
  have hw : wh s1 = wh s := by rw [← h1]; exact wh_step s 109 st
  rw [h1] at e0 ⊢
  show runT (stepT s 109 st) (wipe.drop 1) = _
  rw [e0]
  have hsW : s1.W = s.W := congrArg Prod.fst hw
  have hsH : s1.H = s.H := congrArg Prod.snd hw
  have e : runT (s1, .out) (wipe.drop 1) = (⟨s1.W, s1.H, filC s1.W s1.H s1.c 0 0 s1.W s1.H 0 0 0 0 0 s1.W s1.H, ⟨min (max 0 1) (s1.W : Int) - 1, min (max 0 1) (s1.H : Int) - 1, 0, 0, 0, 0, 0, ⟨#[]⟩, 0, 0⟩⟩, .out) := rfl
  rw [e, hsW, hsH]
  have x0 : min (max 0 1) (s.W : Int) - 1 = 0 := by omega
  have y0 : min (max 0 1) (s.H : Int) - 1 = 0 := by omega
  rw [x0, y0]
  rfl

end Go.Proofs.YtgaogkggbccfnaaDoor

namespace Go.Proofs.YtgaogkggbccfnaaDoor
open Go.RowKit Go.Sort
set_option linter.unusedVariables false

def mkR (t : Tm) (q : ByteArray) (la mks : Int) (wv : Nat → Bool) : Rm := ⟨t.W, t.H, t.c, t.r.x, t.r.y, t.r.f, t.r.g, t.r.b, q, la, mks, wv⟩
/-- The last cell, as both know it. -/
structure La (t : Tm) (la mks : Int) : Prop where
  lw : t.r.lw = 1 ∨ t.r.lw = 2
  x0 : 0 ≤ t.r.lx
  x1 : t.r.lx + t.r.lw ≤ t.W
  y0 : 0 ≤ t.r.ly
  y1 : t.r.ly < t.H
  la : la = t.r.ly * t.W + t.r.lx
  mq : mks = t.r.lm
  hd : t.c t.r.ly.toNat t.r.lx.toNat = ⟨t.r.lt, kn t.r.f, kn t.r.g, bo t.r.b, if t.r.lw = 2 then 1 else 0⟩
  tl : t.r.lw = 2 → t.c t.r.ly.toNat (t.r.lx.toNat + 1) = ⟨ept, kn t.r.f, kn t.r.g, bo t.r.b, 2⟩
def Lst (t : Tm) (la mks : Int) : Prop := (t.r.lw = 0 ∧ la = -1) ∨ La t la mks
theorem enc_one (r : Int) : (⟨(enc [r]).toArray⟩ : ByteArray) = encB r := by unfold encB enc; simp
theorem lin_div {W y x : Nat} (hx : x < W) : (y * W + x) / W = y ∧ (y * W + x) % W = x := by
  constructor
  · rw [Nat.mul_comm, Nat.mul_add_div (by omega), Nat.div_eq_of_lt hx, Nat.add_zero]
  · rw [Nat.mul_comm, Nat.mul_add_mod, Nat.mod_eq_of_lt hx]
theorem La.nat {t : Tm} {la mks : Int} (h : La t la mks) : ∃ X Y : Nat, t.r.lx = X ∧ t.r.ly = Y ∧ Y < t.H ∧ X < t.W ∧ la = ((Y * t.W + X : Nat) : Int) ∧ la.toNat / t.W = Y ∧ la.toNat % t.W = X ∧ la.toNat < t.W * t.H := by
  obtain ⟨X, hX⟩ : ∃ X : Nat, t.r.lx = X := ⟨t.r.lx.toNat, by have := h.x0; omega⟩
  obtain ⟨Y, hY⟩ : ∃ Y : Nat, t.r.ly = Y := ⟨t.r.ly.toNat, by have := h.y0; omega⟩
  have h1 := h.x1
  have h2 := h.y1
  have h3 := h.lw
  have hXW : X < t.W := by omega
  have hYH : Y < t.H := by omega
  have hla : la = ((Y * t.W + X : Nat) : Int) := by rw [h.la, hX, hY]; simp
  have hd := lin_div (y := Y) hXW
  have hlt : Y * t.W + X < t.W * t.H := by
    have : (Y + 1) * t.W ≤ t.H * t.W := Nat.mul_le_mul_right _ (by omega)
    rw [Nat.add_mul, Nat.one_mul, Nat.mul_comm t.H] at this
    omega
  exact ⟨X, Y, hX, hY, hYH, hXW, hla, by rw [hla, Int.toNat_natCast]; exact hd.1, by rw [hla, Int.toNat_natCast]; exact hd.2, by rw [hla, Int.toNat_natCast]; exact hlt⟩
theorem ri_of {t : Tm} {q : ByteArray} {la mks : Int} {wv : Nat → Bool} (ht : Ti t) (hl : Lst t la mks) : Ri (mkR t q la mks wv) := by
  refine ⟨ht.x0, ht.x1, ht.y0, ht.y1, ?_⟩
  rcases hl with ⟨_, h⟩ | h
  · exact .inl h
  · obtain ⟨X, Y, hX, hY, hYH, hXW, hla, e1, e2, hlt⟩ := h.nat
    have hd := h.hd
    rw [hX, hY, Int.toNat_natCast, Int.toNat_natCast] at hd
    right
    show 0 ≤ la ∧ la < ((t.W * t.H : Nat) : Int) ∧ 0 ≤ mks ∧ mks ≤ 4 ∧ ((t.c (la.toNat / t.W) (la.toNat % t.W)).t.size : Int) ≤ 4 + 4 * mks ∧ (t.c (la.toNat / t.W) (la.toNat % t.W)).p ≠ 2
    rw [e1, e2, hd, h.mq]
    refine ⟨by omega, by omega, ht.m0, ht.m1, ht.ts, ?_⟩
    show (if t.r.lw = 2 then (1 : Int) else 0) ≠ 2
    split <;> decide
/-- What stands where something was put. -/
theorem put_head {c : Nat → Nat → Ce} {X Y : Nat} {wd : Int} (hw : wd = 1 ∨ wd = 2) (txt : ByteArray) (f g b : Int) : fill c X (X + wd.toNat) Y (Y + 1) (gly X wd txt f g b) Y X = ⟨txt, f, g, b, if wd = 2 then 1 else 0⟩ := by
  unfold fill
  rw [if_pos (by omega), span_in (by omega)]
  unfold gly
  rcases hw with h | h
  · rw [if_neg (by omega), if_neg (by omega)]
  · rw [if_pos h, if_pos rfl, if_pos h]
theorem put_tail {c : Nat → Nat → Ce} {X Y : Nat} {wd : Int} (hw : wd = 2) (txt : ByteArray) (f g b : Int) : fill c X (X + wd.toNat) Y (Y + 1) (gly X wd txt f g b) Y (X + 1) = ⟨ept, f, g, b, 2⟩ := by
  unfold fill
  rw [if_pos (by omega), span_in (by omega)]
  unfold gly
  rw [if_pos hw, if_neg (by omega)]
/-- Put anew with another text: only the text is another one. -/
theorem put_again {c : Nat → Nat → Ce} {X Y : Nat} {wd : Int} {txt : ByteArray} {f g b : Int} (hw : wd = 1 ∨ wd = 2) (hd : c Y X = ⟨txt, f, g, b, if wd = 2 then 1 else 0⟩) (tl : wd = 2 → c Y (X + 1) = ⟨ept, f, g, b, 2⟩) (t2 : ByteArray) : fill c X (X + wd.toNat) Y (Y + 1) (gly X wd t2 f g b) = upd c Y X { c Y X with t := t2 } := by
  funext y j
  unfold upd
  by_cases e : y = Y ∧ j = X
  · obtain ⟨rfl, rfl⟩ := e
    rw [if_pos ⟨rfl, rfl⟩, put_head hw, hd]
  · rw [if_neg e]
    unfold fill
    by_cases hy : y = Y
    · subst hy
      rw [if_pos (by omega)]
      have hj : j ≠ X := fun q => e ⟨rfl, q⟩
      unfold span
      by_cases hin : X ≤ j ∧ j < X + wd.toNat
      · rw [if_pos hin]
        have hw2 : wd = 2 := by omega
        obtain rfl : j = X + 1 := by omega
        unfold gly
        rw [if_pos hw2, if_neg (by omega), tl hw2]
      · rw [if_neg hin, if_neg (fun q => by have := q.2.2; rw [hd] at this; simp only at this; split at this <;> omega), if_neg (fun q => by
          have h3 := q.2.2
          rcases hw with h | h
          · rw [show X + wd.toNat - 1 = X by omega, hd] at h3
            simp only at h3
            rw [if_neg (by omega)] at h3
            omega
          · rw [show X + wd.toNat - 1 = X + 1 by omega, tl h] at h3
            simp only at h3
            omega)]
    · rw [if_neg (by omega)]
def wvP (t : Tm) (r : Int) (wv : Nat → Bool) : Nat → Bool := if wid r = 0 then wv else if t.r.x + wid r > t.W then wv else wrN (mkR t ⟨#[]⟩ 0 0 wv) r

theorem pr_sim {t : Tm} (hW : 1 ≤ t.W ∧ t.W ≤ 400) (hH : 1 ≤ t.H ∧ t.H ≤ 400) (ht : Ti t) {la mks : Int} (hl : Lst t la mks) (q : ByteArray) (wv : Nat → Bool) (r : Int) : ∃ la' mks', prR (mkR t q la mks wv) r = mkR (prT t r) q la' mks' (wvP t r wv) ∧ Lst (prT t r) la' mks' := by
  have hwc := wid_cases r
  by_cases h0 : wid r = 0
  · have e1 : prR (mkR t q la mks wv) r = markR (mkR t q la mks wv) r := by unfold prR; rw [if_pos h0]
    have e2 : prT t r = markT t (encB r) := by unfold prT; rw [if_pos h0, enc_one]
    have e3 : wvP t r wv = wv := by unfold wvP; rw [if_pos h0]
    rw [e1, e2, e3]
    rcases hl with ⟨hlw, hla⟩ | h
    · refine ⟨la, mks, ?_, ?_⟩
      · unfold markR markT
        rw [if_neg (by show ¬ (0 ≤ la ∧ mks < 4); omega), if_pos (.inl hlw)]
      · unfold markT
        rw [if_pos (.inl hlw)]
        exact .inl ⟨hlw, hla⟩
    · obtain ⟨X, Y, hX, hY, hYH, hXW, hla, q1, q2, hlt⟩ := h.nat
      by_cases h4 : t.r.lm = 4
      · refine ⟨la, mks, ?_, ?_⟩
        · unfold markR markT
          rw [if_neg (by show ¬ (0 ≤ la ∧ mks < 4); rw [h.mq]; omega), if_pos (.inr h4)]
        · unfold markT
          rw [if_pos (.inr h4)]
          exact .inr h
      · have hm1 := ht.m1
        have hn : ¬ (t.r.lw = 0 ∨ t.r.lm = 4) := by have := h.lw; omega
        have hd := h.hd
        have tl := h.tl
        have hx1 := h.x1
        rw [hX, hY, Int.toNat_natCast, Int.toNat_natCast] at hd tl
        have ec : putC t.W t.H t.c t.r.lx t.r.ly (t.r.lt ++ encB r) t.r.lw t.r.f t.r.g t.r.b 0 0 t.W t.H = addT t.c t.W la (encB r) := by
          rw [hX, hY, put_whole hW hH t.c (t.r.lt ++ encB r) t.r.f t.r.g t.r.b h.lw (by rw [hX] at hx1; exact hx1) hYH, put_again h.lw hd tl]
          unfold addT
          rw [q1, q2, hd]
        refine ⟨la, mks + 1, ?_, ?_⟩
        · unfold markR markT
          rw [if_pos (by show 0 ≤ la ∧ mks < 4; rw [h.mq]; omega), if_neg hn]
          unfold putL mkR
          simp only
          rw [ec]
        · unfold markT
          rw [if_neg hn]
          right
          have hadd : (putL { t with r := { t.r with lm := t.r.lm + 1, lt := t.r.lt ++ encB r } }).c = fill t.c X (X + t.r.lw.toNat) Y (Y + 1) (gly X t.r.lw (t.r.lt ++ encB r) (kn t.r.f) (kn t.r.g) (bo t.r.b)) := by
            show putC t.W t.H t.c t.r.lx t.r.ly (t.r.lt ++ encB r) t.r.lw t.r.f t.r.g t.r.b 0 0 t.W t.H = _
            rw [hX, hY, put_whole hW hH t.c (t.r.lt ++ encB r) t.r.f t.r.g t.r.b h.lw (by rw [hX] at hx1; exact hx1) hYH]
          exact ⟨h.lw, h.x0, h.x1, h.y0, h.y1, h.la, by show mks + 1 = t.r.lm + 1; rw [h.mq],
            by rw [hadd]; show fill _ _ _ _ _ _ t.r.ly.toNat t.r.lx.toNat = _; rw [hX, hY, Int.toNat_natCast, Int.toNat_natCast, put_head h.lw]; rfl,
            fun z => by rw [hadd]; show fill _ _ _ _ _ _ t.r.ly.toNat (t.r.lx.toNat + 1) = _; rw [hX, hY, Int.toNat_natCast, Int.toNat_natCast, put_tail (show t.r.lw = 2 from z)]; rfl⟩
  · have e1 : prR (mkR t q la mks wv) r = bigR (mkR t q la mks wv) r := by unfold prR; rw [if_neg h0]
    rw [e1]
    by_cases hr : t.r.x + wid r > t.W
    · refine ⟨-1, mks, ?_, ?_⟩
      · unfold bigR prT wvP
        rw [if_pos (by exact hr), if_neg h0, if_pos hr, if_neg h0, if_pos hr]
        rfl
      · unfold prT
        rw [if_neg h0, if_pos hr]
        exact .inl ⟨rfl, rfl⟩
    · have hx0 := ht.x0
      have hy0 := ht.y0
      have hy1 := ht.y1
      obtain ⟨X, hX⟩ : ∃ X : Nat, t.r.x = X := ⟨t.r.x.toNat, by omega⟩
      obtain ⟨Y, hY⟩ : ∃ Y : Nat, t.r.y = Y := ⟨t.r.y.toNat, by omega⟩
      have hw12 : wid r = 1 ∨ wid r = 2 := by omega
      refine ⟨t.r.y * t.W + t.r.x, 0, ?_, ?_⟩
      · unfold bigR prT wvP
        rw [if_neg (by exact hr), if_neg h0, if_neg hr, if_neg h0, if_neg hr, enc_one]
        rfl
      · have ep : prT t r = { putL { t with r := { clr t.r with lx := t.r.x, ly := t.r.y, lt := encB r, lw := wid r } } with r := { clr t.r with lx := t.r.x, ly := t.r.y, lt := encB r, lw := wid r, x := t.r.x + wid r } } := by unfold prT; rw [if_neg h0, if_neg hr, enc_one]
        rw [ep]
        right
        have hadd : (putL { t with r := { clr t.r with lx := t.r.x, ly := t.r.y, lt := encB r, lw := wid r } }).c = fill t.c X (X + (wid r).toNat) Y (Y + 1) (gly X (wid r) (encB r) (kn t.r.f) (kn t.r.g) (bo t.r.b)) := by
          show putC t.W t.H t.c t.r.x t.r.y (encB r) (wid r) t.r.f t.r.g t.r.b 0 0 t.W t.H = _
          rw [hX, hY, put_whole hW hH t.c (encB r) t.r.f t.r.g t.r.b hw12 (by rw [hX] at hr; omega) (by omega)]
        exact ⟨hw12, hx0, by show t.r.x + wid r ≤ (t.W : Int); omega, hy0, hy1, rfl, rfl,
          by show (putL _).c t.r.y.toNat t.r.x.toNat = _; rw [hadd, hX, hY, Int.toNat_natCast, Int.toNat_natCast, put_head hw12]; rfl,
          fun z => by show (putL _).c t.r.y.toNat (t.r.x.toNat + 1) = _; rw [hadd, hX, hY, Int.toNat_natCast, Int.toNat_natCast, put_tail (show wid r = 2 from z)]; rfl⟩

end Go.Proofs.YtgaogkggbccfnaaDoor

namespace Go.Proofs.YtgaogkggbccfnaaDoor
open Go.RowKit Go.Sort
set_option linter.unusedVariables false

/-- So many steps more, and then it waits. -/
def Ends : Nat → Rm → (Rm → Prop) → Prop
  | 0, s, P => ∃ s', StepTo s s' false ∧ s'.q.size ≤ s.q.size ∧ P s'
  | n + 1, s, P => ∃ s', StepTo s s' true ∧ s'.q.size < s.q.size ∧ Ends n s' P
/-- The numbers of a sequence, as both read them. -/
structure Pn (l : Nat → Int) (a : Int) (p : List Int × Int) : Prop where
  a0 : 0 ≤ a ∧ a ≤ 16
  len : p.1.length = a.toNat
  at_ : ∀ j, j < a.toNat → p.1[j]? = some (l j)
  cur : a < 16 → p.2 = l a.toNat
  up : ∀ j, a.toNat < j → l j = 0
def Hq (t : Tm) : St → List UInt8 → Prop
  | .out, q => q = []
  | .esc, q => q = [27] ∧ t.r.lw = 0
  | .amid h, q => q = h.data.toList ∧ q ≠ [] ∧ ¬ full q
  | .wth l a, q => ∃ m, q = 27 :: 91 :: m ∧ t.r.lw = 0 ∧ (∀ b ∈ m, 48 ≤ b.toNat ∧ b.toNat ≤ 59) ∧ Pn l a (parS ([], 0) m)
/-- The document's terminal stands as the program's. -/
def Docd (t : Tm) (st : St) (wv : Nat → Bool) (s : Rm) : Prop := ∃ q la mks, s = mkR t q la mks wv ∧ Lst t la mks ∧ Hq t st q.data.toList
def wvA (t : Tm) (l : List UInt8) (wv : Nat → Bool) : Nat → Bool := if full l then wvP t ((runes l)[0]?.getD 0) wv else wv
def wvO (t : Tm) (b : UInt8) (wv : Nat → Bool) : Nat → Bool := if b.toNat = 27 then wv else if b.toNat < 32 ∨ b.toNat = 127 then wv else wvA t [b] wv
def wvPs (t : Tm) : List Int → (Nat → Bool) → Nat → Bool
  | [], wv => wv
  | r :: R, wv => wvPs (prT t r) R (wvP t r wv)

theorem seq_single {b : UInt8} (h : 0x80 ≤ b.toNat) : seq [b] = 0 := by
  rcases seq_vd (l := [b]) h with ⟨v, _⟩ | ⟨_, e⟩
  · exact absurd v.2.1.1 (by simp)
  · exact e
theorem wh_W {t : Tm} {r : Int} : (prT t r).W = t.W ∧ (prT t r).H = t.H := ⟨congrArg Prod.fst (wh_pr t r), congrArg Prod.snd (wh_pr t r)⟩
def emp : ByteArray := ⟨#[]⟩

section
variable {t : Tm} {la mks : Int} {wv : Nat → Bool}
/-- A rune is printed, and nothing is left. -/
theorem ends_print (hW : 1 ≤ t.W ∧ t.W ≤ 400) (hH : 1 ≤ t.H ∧ t.H ≤ 400) (ht : Ti t) (hl : Lst t la mks) {q : ByteArray} (hq : 0 < q.size) {r : Int} (h : StepTo (mkR t q la mks wv) (prR { mkR t q la mks wv with q := emp } r) true) : Ends 1 (mkR t q la mks wv) (Docd (prT t r) .out (wvP t r wv)) := by
  obtain ⟨la', mks', e, hl'⟩ := pr_sim hW hH ht hl emp wv r
  have e' : prR { mkR t q la mks wv with q := emp } r = mkR (prT t r) emp la' mks' (wvP t r wv) := e
  rw [e'] at h
  exact ⟨_, h, hq, _, st_nil rfl, Nat.le_refl _, emp, la', mks', rfl, hl', rfl⟩
theorem feed_out (hW : 1 ≤ t.W ∧ t.W ≤ 400) (hH : 1 ≤ t.H ∧ t.H ≤ 400) (ht : Ti t) (hl : Lst t la mks) (b : UInt8) {q : ByteArray} (hq : q.data.toList = [b]) : ∃ n, Ends n (mkR t q la mks wv) (Docd (outT t b).1 (outT t b).2 (wvO t b wv)) := by
  have hz := size_of hq
  simp only [List.length_cons, List.length_nil] at hz
  by_cases h27 : b.toNat = 27
  · have e1 : outT t b = ({ t with r := clr t.r }, .esc) := by unfold outT; rw [if_pos h27]
    have e2 : wvO t b wv = wv := by unfold wvO; rw [if_pos h27]
    rw [e1, e2]
    have hb : b = 27 := by
      apply UInt8.toNat_inj.1
      rw [h27]; rfl
    rw [hb] at hq
    exact ⟨0, _, st_esc (s := mkR t q la mks wv) hq, Nat.le_refl _, q, -1, mks, rfl, .inl ⟨rfl, rfl⟩, hq, rfl⟩
  · by_cases hc : b.toNat < 32 ∨ b.toNat = 127
    · have e1 : outT t b = ({ t with r := clr t.r }, .out) := by unfold outT; rw [if_neg h27, if_pos hc]
      have e2 : wvO t b wv = wv := by unfold wvO; rw [if_neg h27, if_pos hc]
      rw [e1, e2]
      refine ⟨1, _, st_ctl (s := mkR t q la mks wv) hq h27 hc, ?_, _, st_nil rfl, Nat.le_refl _, emp, -1, mks, rfl, .inl ⟨rfl, rfl⟩, rfl⟩
      show 0 < q.size
      omega
    · have e1 : outT t b = amT t ⟨#[b]⟩ := by unfold outT; rw [if_neg h27, if_neg hc]
      have e2 : wvO t b wv = wvA t [b] wv := by unfold wvO; rw [if_neg h27, if_neg hc]
      rw [e1, e2]
      have eb : byt [b] 0 = b.toNat := rfl
      unfold amT wvA
      show ∃ n, Ends n _ (Docd (if full [b] then (prT t ((runes [b])[0]?.getD 0), St.out) else (t, .amid ⟨#[b]⟩)).1 (if full [b] then (prT t ((runes [b])[0]?.getD 0), St.out) else (t, .amid ⟨#[b]⟩)).2 (if full [b] then wvP t ((runes [b])[0]?.getD 0) wv else wv))
      by_cases h80 : b.toNat < 0x80
      · have hf : full [b] := ⟨by simp, .inl (by rw [eb]; omega)⟩
        have hs : seq [b] = ([b] : List UInt8).length := by unfold seq; rw [if_pos (by rw [eb]; exact h80)]; rfl
        obtain ⟨r, hr⟩ := runes_sole (by simp) hs
        rw [if_pos hf, if_pos hf, hr]
        exact ⟨1, ends_print hW hH ht hl (by omega) (st_seq (s := mkR t q la mks wv) hq (by simp) (by simp) (by rw [eb]; exact h27) (by rw [eb]; exact hc) hs (ri_of ht hl) hr)⟩
      · have hs := seq_single (b := b) (by omega)
        by_cases hf : full [b]
        · have hr : runes [b] = [65533] := by rw [runes_bad (by simp) hs]; rfl
          rw [if_pos hf, if_pos hf, hr]
          exact ⟨1, ends_print hW hH ht hl (by omega) (st_bad (s := mkR t q la mks wv) hq (by simp) (by omega) hs hf (ri_of ht hl))⟩
        · rw [if_neg hf, if_neg hf]
          exact ⟨0, _, st_wait (s := mkR t q la mks wv) hq (by simp) (by simp) (by rw [eb]; omega) hs hf (ri_of ht hl), Nat.le_refl _, q, la, mks, rfl, hl, hq, by rw [hq]; simp, by rw [hq]; exact hf⟩
end
theorem feed_tail : ∀ (u : List UInt8) (hu : ∀ c ∈ u, 0x80 ≤ c.toNat ∧ c.toNat ≤ 0xBF) (hul : u.length ≤ 4) (t : Tm) (hW : 1 ≤ t.W ∧ t.W ≤ 400) (hH : 1 ≤ t.H ∧ t.H ≤ 400) (ht : Ti t) (la mks : Int) (hl : Lst t la mks) (wv : Nat → Bool) (b : UInt8) (q : ByteArray) (hq : q.data.toList = u ++ [b]),
    ∃ n, Ends n (mkR t q la mks wv) (Docd (outT (prsT t (List.replicate u.length 65533)) b).1 (outT (prsT t (List.replicate u.length 65533)) b).2 (wvO (prsT t (List.replicate u.length 65533)) b (wvPs t (List.replicate u.length 65533) wv)))
  | [], hu, hul, t, hW, hH, ht, la, mks, hl, wv, b, q, hq => feed_out hW hH ht hl b hq
  | c :: u, hu, hul, t, hW, hH, ht, la, mks, hl, wv, b, q, hq => by
    have hc := hu c (List.mem_cons_self ..)
    have ec : byt (c :: (u ++ [b])) 0 = c.toNat := rfl
    have hs : seq (c :: (u ++ [b])) = 0 := seq_low (by rw [ec]; omega) (by rw [ec]; omega)
    have hf : full (c :: (u ++ [b])) := ⟨by simp, .inl (by rw [ec]; omega)⟩
    obtain ⟨la', mks', e, hl'⟩ := pr_sim hW hH ht hl ⟨(u ++ [b]).toArray⟩ wv 65533
    have h1 : StepTo (mkR t q la mks wv) (mkR (prT t 65533) ⟨(u ++ [b]).toArray⟩ la' mks' (wvP t 65533 wv)) true := by
      rw [← e]
      exact st_bad (s := mkR t q la mks wv) (u := u ++ [b]) hq (by rw [List.length_append]; simp only [List.length_cons, List.length_nil] at hul ⊢; omega) hc.1 hs hf (ri_of ht hl)
    have hwh := wh_W (t := t) (r := 65533)
    obtain ⟨n, hn⟩ := feed_tail u (fun d hd => hu d (List.mem_cons_of_mem _ hd)) (by simp only [List.length_cons] at hul; omega) (prT t 65533) (by rw [hwh.1]; exact hW) (by rw [hwh.2]; exact hH) (ht.pr 65533) la' mks' hl' (wvP t 65533 wv) b ⟨(u ++ [b]).toArray⟩ (by simp)
    refine ⟨n + 1, _, h1, ?_, hn⟩
    have hz := size_of hq
    simp only [List.length_cons, List.length_append, List.length_nil] at hz
    show (u ++ [b]).toArray.size < q.size
    simp
    omega
theorem feed_amid {t : Tm} (hW : 1 ≤ t.W ∧ t.W ≤ 400) (hH : 1 ≤ t.H ∧ t.H ≤ 400) (ht : Ti t) {la mks : Int} (hl : Lst t la mks) {wv : Nat → Bool} {h : ByteArray} (hh : h.data.toList ≠ []) (hf : ¬ full h.data.toList) (b : UInt8) {q : ByteArray} (hq : q.data.toList = h.data.toList ++ [b]) :
    ∃ n, Ends n (mkR t q la mks wv) (Docd (amA t h b).1 (amA t h b).2 (if full (h.data.toList ++ [b]) ∧ (runes (h.data.toList ++ [b])).length ≠ 1 then wvO (prsT t (runes h.data.toList)) b (wvPs t (runes h.data.toList) wv) else wvA t (h.data.toList ++ [b]) wv)) := by
  have el : (h ++ (⟨#[b]⟩ : ByteArray)).data.toList = h.data.toList ++ [b] := by simp
  obtain ⟨q0, q1, q2, q3⟩ := not_full hh hf
  have hN := n_bd (byt h.data.toList 0)
  obtain ⟨l, hl0⟩ : ∃ l, h.data.toList = l := ⟨_, rfl⟩
  rw [hl0] at hh hf hq q0 q1 q2 q3 hN el ⊢
  have hp : 0 < l.length := List.length_pos_iff.2 hh
  have e0 : byt (l ++ [b]) 0 = byt l 0 := by unfold byt; rw [List.getD_eq_getElem?_getD, List.getElem?_append_left hp, List.getD_eq_getElem?_getD]
  have hz := size_of hq
  rw [List.length_append] at hz
  simp only [List.length_cons, List.length_nil] at hz
  have hll : (l ++ [b]).length ≤ 5 := by rw [List.length_append]; simp; omega
  unfold amA
  rw [el]
  by_cases hs : seq (l ++ [b]) = 0
  · by_cases hfl : full (l ++ [b])
    · have hr1 : (runes (l ++ [b])).length ≠ 1 := by
        rw [runes_bad (by simp) hs]
        obtain ⟨a, u, rfl⟩ := List.exists_cons_of_ne_nil hh
        show (65533 :: runes (u ++ [b])).length ≠ 1
        have := runes_step (l := u ++ [b]) (by simp)
        rw [this]
        simp
      rw [if_pos ⟨hfl, hr1⟩, if_pos ⟨hfl, hr1⟩, hl0, runes_amid hh hf]
      obtain ⟨a, u, rfl⟩ := List.exists_cons_of_ne_nil hh
      have ea : byt (a :: u) 0 = a.toNat := rfl
      rw [ea] at q0
      obtain ⟨la', mks', e, hl'⟩ := pr_sim hW hH ht hl ⟨(u ++ [b]).toArray⟩ wv 65533
      have h1 : StepTo (mkR t q la mks wv) (mkR (prT t 65533) ⟨(u ++ [b]).toArray⟩ la' mks' (wvP t 65533 wv)) true := by
        rw [← e]
        exact st_bad (s := mkR t q la mks wv) (u := u ++ [b]) hq (by rw [List.length_append]; simp only [List.length_append, List.length_cons, List.length_nil] at hll ⊢; omega) (by omega) hs hfl (ri_of ht hl)
      have hwh := wh_W (t := t) (r := 65533)
      obtain ⟨n, hn⟩ := feed_tail u (tail_cont hf) (by simp only [List.length_append, List.length_cons, List.length_nil] at hll; omega) (prT t 65533) (by rw [hwh.1]; exact hW) (by rw [hwh.2]; exact hH) (ht.pr 65533) la' mks' hl' (wvP t 65533 wv) b ⟨(u ++ [b]).toArray⟩ (by simp)
      refine ⟨n + 1, _, h1, ?_, hn⟩
      show (u ++ [b]).toArray.size < q.size
      simp only [List.length_cons] at hz
      simp
      omega
    · rw [if_neg (fun z => hfl z.1), if_neg (fun z => hfl z.1)]
      unfold amT wvA
      rw [el, if_neg hfl, if_neg hfl]
      exact ⟨0, _, st_wait (s := mkR t q la mks wv) hq (by simp) (by omega) (by rw [e0]; omega) hs hfl (ri_of ht hl), Nat.le_refl _, q, la, mks, rfl, hl, by rw [hq, el], by rw [hq]; simp, by rw [hq]; exact hfl⟩
  · have hs1 := more_one hh hf b hs
    have hfl := full_seq (by simp) hs1
    obtain ⟨r, hr⟩ := runes_sole (by simp) hs1
    have hr1 : ¬ (full (l ++ [b]) ∧ (runes (l ++ [b])).length ≠ 1) := fun z => z.2 (by rw [hr]; rfl)
    rw [if_neg hr1, if_neg hr1]
    unfold amT wvA
    rw [el, if_pos hfl, if_pos hfl, hr]
    exact ⟨1, ends_print hW hH ht hl (by omega) (st_seq (s := mkR t q la mks wv) hq (by simp) (by omega) (by rw [e0]; omega) (by rw [e0]; omega) hs1 (ri_of ht hl) hr)⟩

end Go.Proofs.YtgaogkggbccfnaaDoor

namespace Go.Proofs.YtgaogkggbccfnaaDoor
open Go.RowKit Go.Sort
set_option linter.unusedVariables false

theorem Pn.o_eq {l : Nat → Int} {a : Int} {p : List Int × Int} (h : Pn l a p) : p.1 = lst l a.toNat := by
  unfold lst
  apply List.ext_getElem?
  intro j
  by_cases hj : j < a.toNat
  · rw [h.at_ j hj, List.getElem?_map, List.getElem?_range hj]; rfl
  · rw [List.getElem?_eq_none (by rw [h.len]; omega), List.getElem?_eq_none (by simp; omega)]
theorem lst_succ (l : Nat → Int) (m : Nat) : lst l (m + 1) = lst l m ++ [l m] := by unfold lst; rw [List.range_succ, List.map_append]; rfl
/-- The numbers are the same. -/
theorem Pn.list {l : Nat → Int} {a : Int} {p : List Int × Int} (h : Pn l a p) : parE p = lst l (cntN a) := by
  have ha := h.a0
  have hl := h.len
  unfold parE cntN
  by_cases h16 : a < 16
  · rw [if_pos (by omega), h.o_eq, h.cur h16, ← lst_succ]
    congr 1
    omega
  · rw [if_neg (by omega), h.o_eq]
    congr 1
    omega
theorem Pn.digit {l : Nat → Int} {a : Int} {p : List Int × Int} (h : Pn l a p) {b : UInt8} (h1 : 48 ≤ b.toNat) (h2 : b.toNat ≤ 57) : Pn (updN l a.toNat (min (l a.toNat * 10 + ((b.toNat : Int) - 48)) 999999)) (a.toNat : Int) (par1 p b) := by
  have ha := h.a0
  have e : par1 p b = (p.1, min 999999 (10 * p.2 + (b.toNat : Int) - 48)) := by unfold par1; rw [if_neg (by omega), if_neg (by omega)]
  rw [e]
  have ea : ((a.toNat : Int)).toNat = a.toNat := Int.toNat_natCast _
  refine ⟨by omega, by rw [ea]; exact h.len, fun j hj => ?_, fun h16 => ?_, fun j hj => ?_⟩
  · rw [ea] at hj
    unfold updN
    rw [if_neg (by omega)]
    exact h.at_ j hj
  · rw [ea]
    unfold updN
    rw [if_pos rfl]
    show min 999999 (10 * p.2 + (b.toNat : Int) - 48) = _
    rw [h.cur (by omega)]
    omega
  · rw [ea] at hj
    unfold updN
    rw [if_neg (by omega)]
    exact h.up j hj
theorem Pn.semi {l : Nat → Int} {a : Int} {p : List Int × Int} (h : Pn l a p) {b : UInt8} (h1 : b.toNat = 59) : Pn l (min ((a.toNat : Int) + 1) 16) (par1 p b) := by
  have ha := h.a0
  have hl := h.len
  have e : par1 p b = (if p.1.length < 16 then p.1 ++ [p.2] else p.1, 0) := by unfold par1; rw [if_pos h1]
  rw [e]
  by_cases h16 : a < 16
  · rw [if_pos (by omega)]
    have em : (min ((a.toNat : Int) + 1) 16).toNat = a.toNat + 1 := by omega
    refine ⟨by omega, by rw [em, List.length_append]; simp; omega, fun j hj => ?_, fun q => ?_, fun j hj => ?_⟩
    · rw [em] at hj
      show (p.1 ++ [p.2])[j]? = _
      by_cases e2 : j < a.toNat
      · rw [List.getElem?_append_left (by omega)]; exact h.at_ j e2
      · obtain rfl : j = a.toNat := by omega
        rw [List.getElem?_append_right (by omega), hl, Nat.sub_self, h.cur h16]; rfl
    · rw [em]; exact (h.up _ (by omega)).symm
    · rw [em] at hj; exact h.up j (by omega)
  · rw [if_neg (by omega)]
    have em : (min ((a.toNat : Int) + 1) 16).toNat = a.toNat := by omega
    refine ⟨by omega, by rw [em]; exact hl, fun j hj => by rw [em] at hj; exact h.at_ j hj, fun q => by omega, fun j hj => by rw [em] at hj; exact h.up j hj⟩
theorem lst_get (l : Nat → Int) {m j : Nat} (h : j < m) : (lst l m)[j]?.getD 0 = l j := by unfold lst; rw [List.getElem?_map, List.getElem?_range h]; rfl
def wvD (b : Int) (z : Int) (wv : Nat → Bool) : Nat → Bool := if b = 74 ∧ z = 2 then fun _ => true else wv
/-- What the last byte asks. -/
theorem do_sim {t : Tm} (hW : 1 ≤ t.W ∧ t.W ≤ 400) (hH : 1 ≤ t.H ∧ t.H ≤ 400) (hp : PAll t.W t.H t.c) (hw : t.r.lw = 0) {l : Nat → Int} {a : Int} {p : List Int × Int} (h : Pn l a p) (b : Int) (mks : Int) (wv : Nat → Bool) {s0 : Rm} (hs : StepTo s0 { doR (mkR t emp (-1) mks wv) b (parE p) with q := emp } true) :
    ∃ wv', StepTo s0 (mkR (obeyT t b l a) emp (-1) mks wv') true ∧ (obeyT t b l a).r.lw = 0 ∧ wv' = wvD b (l 0) wv := by
  have ha := h.a0
  rw [h.list] at hs
  have hc1 : 1 ≤ cntN a := by unfold cntN; omega
  have z0 : (lst l (cntN a))[(0 : Nat)]?.getD 0 = l 0 := lst_get l (by omega)
  have hlen : (lst l (cntN a)).length = cntN a := by unfold lst; simp
  unfold doR at hs
  rw [z0, hlen] at hs
  unfold obeyT
  by_cases h1 : b = 72
  · rw [if_pos h1] at hs
    rw [if_pos h1]
    refine ⟨wv, ?_, hw, by unfold wvD; rw [if_neg (by omega)]⟩
    have ex : min (if 1 < cntN a then max 1 ((lst l (cntN a))[(1 : Nat)]?.getD 0) else 1) (t.W : Int) - 1 = min (max (l 1) 1) (t.W : Int) - 1 := by
      by_cases h2 : 1 < cntN a
      · rw [if_pos h2, lst_get l h2, Int.max_comm]
      · rw [if_neg h2]
        have : a = 0 := by unfold cntN at h2; omega
        rw [h.up 1 (by omega)]
        rfl
    have ey : min (max 1 (l 0)) (t.H : Int) - 1 = min (max (l 0) 1) (t.H : Int) - 1 := by rw [Int.max_comm]
    have e : ({ ({ mkR t emp (-1) mks wv with y := min (max 1 (l 0)) ((mkR t emp (-1) mks wv).H : Int) - 1, x := min (if 1 < cntN a then max 1 ((lst l (cntN a))[(1 : Nat)]?.getD 0) else 1) ((mkR t emp (-1) mks wv).W : Int) - 1 } : Rm) with q := emp } : Rm) = mkR { t with r := { t.r with x := min (max (l 1) 1) (t.W : Int) - 1, y := min (max (l 0) 1) (t.H : Int) - 1 } } emp (-1) mks wv := by
      show (⟨t.W, t.H, t.c, min (if 1 < cntN a then max 1 ((lst l (cntN a))[(1 : Nat)]?.getD 0) else 1) (t.W : Int) - 1, min (max 1 (l 0)) (t.H : Int) - 1, t.r.f, t.r.g, t.r.b, emp, -1, mks, wv⟩ : Rm) = _
      rw [ex, ey]
      rfl
    rw [e] at hs
    exact hs
  · rw [if_neg h1] at hs
    rw [if_neg h1]
    by_cases h2 : b = 74
    · rw [if_pos h2] at hs
      rw [if_pos h2]
      by_cases h3 : l 0 = 2
      · rw [if_pos h3] at hs
        rw [if_pos h3]
        refine ⟨fun _ => true, ?_, hw, by unfold wvD; rw [if_pos ⟨h2, h3⟩]⟩
        have := hs.same (c' := filC t.W t.H t.c 0 0 t.W t.H 0 0 0 0 0 t.W t.H) (fun y x hy hx => (fil_whole hW hH t.c hy hx).symm) (hp.filX hW hH _ _ _ _ _ _ _ _ _ _ _)
        exact this
      · rw [if_neg h3] at hs
        rw [if_neg h3]
        exact ⟨wv, hs, hw, by unfold wvD; rw [if_neg (fun q => h3 q.2)]⟩
    · rw [if_neg h2] at hs
      rw [if_neg h2]
      by_cases h3 : b = 109
      · rw [if_pos h3] at hs
        rw [if_pos h3]
        exact ⟨wv, hs, hw, by unfold wvD; rw [if_neg (fun q => h2 q.1)]⟩
      · rw [if_neg h3] at hs
        rw [if_neg h3]
        exact ⟨wv, hs, hw, by unfold wvD; rw [if_neg (fun q => h2 q.1)]⟩
def wvW (l : Nat → Int) (b : UInt8) (wv : Nat → Bool) : Nat → Bool := if 64 ≤ b.toNat ∧ b.toNat ≤ 126 then wvD b.toNat (l 0) wv else wv
theorem doR_emp (t : Tm) (q : ByteArray) (mks : Int) (wv : Nat → Bool) (b : Int) (zs : List Int) : ({ doR (mkR t q (-1) mks wv) b zs with q := emp } : Rm) = { doR (mkR t emp (-1) mks wv) b zs with q := emp } := by
  unfold doR
  by_cases h1 : b = 72
  · rw [if_pos h1, if_pos h1]; rfl
  · rw [if_neg h1, if_neg h1]
    by_cases h2 : b = 74
    · rw [if_pos h2, if_pos h2]
      by_cases h3 : zs[(0 : Nat)]?.getD 0 = 2
      · rw [if_pos h3, if_pos h3]; rfl
      · rw [if_neg h3, if_neg h3]; rfl
    · rw [if_neg h2, if_neg h2]
      by_cases h3 : b = 109
      · rw [if_pos h3, if_pos h3]; rfl
      · rw [if_neg h3, if_neg h3]; rfl
theorem lst_out {t : Tm} {la mks : Int} (h : Lst t la mks) (hw : t.r.lw = 0) : la = -1 := by
  rcases h with ⟨_, h⟩ | h
  · exact h
  · have := h.lw; omega
theorem feed_wth {t : Tm} (hW : 1 ≤ t.W ∧ t.W ≤ 400) (hH : 1 ≤ t.H ∧ t.H ≤ 400) (hp : PAll t.W t.H t.c) {la mks : Int} (hl : Lst t la mks) {wv : Nat → Bool} {l : Nat → Int} {a : Int} {m : List UInt8} (hw : t.r.lw = 0) (hm : ∀ b ∈ m, 48 ≤ b.toNat ∧ b.toNat ≤ 59) (hn : Pn l a (parS ([], 0) m)) (b : UInt8) {q : ByteArray} (hq : q.data.toList = 27 :: 91 :: (m ++ [b])) (hqs : q.size ≤ 4611686018427387904) :
    ∃ n, Ends n (mkR t q la mks wv) (Docd (wthT t l a.toNat b.toNat).1 (wthT t l a.toNat b.toNat).2 (wvW l b wv)) := by
  obtain rfl := lst_out hl hw
  have ha := hn.a0
  have hb256 : b.toNat < 256 := UInt8.toNat_lt b
  have goOn : ∀ l' a', (48 ≤ b.toNat ∧ b.toNat ≤ 59) → Pn l' a' (par1 (parS ([], 0) m) b) → ∃ n, Ends n (mkR t q (-1) mks wv) (Docd t (.wth l' a') wv) := fun l' a' hb hn' => by
    refine ⟨0, _, st_more (s := mkR t q (-1) mks wv) hq (fun c hc => ?_) hqs, Nat.le_refl _, q, -1, mks, rfl, .inl ⟨hw, rfl⟩, m ++ [b], hq, hw, fun c hc => ?_, by rw [parS_app]; exact hn'⟩
    · rcases List.mem_append.1 hc with h | h
      · exact hm c h
      · rw [List.mem_singleton] at h; rw [h]; exact hb
    · rcases List.mem_append.1 hc with h | h
      · exact hm c h
      · rw [List.mem_singleton] at h; rw [h]; exact hb
  unfold wthT
  by_cases h1 : 48 ≤ b.toNat ∧ b.toNat ≤ 57
  · rw [if_pos (by omega)]
    have e : wvW l b wv = wv := by unfold wvW; rw [if_neg (by omega)]
    rw [e]
    exact goOn _ _ (by omega) (hn.digit h1.1 h1.2)
  · rw [if_neg (by omega)]
    by_cases h2 : b.toNat = 58
    · rw [if_pos (by omega)]
      have e : wvW l b wv = wv := by unfold wvW; rw [if_neg (by omega)]
      rw [e]
      refine goOn _ _ (by omega) ?_
      have e2 : par1 (parS ([], 0) m) b = parS ([], 0) m := by unfold par1; rw [if_neg (by omega), if_pos h2]
      rw [e2]
      have ea : ((a.toNat : Int)) = a := by omega
      rw [ea]
      exact hn
    · rw [if_neg (by omega)]
      by_cases h3 : b.toNat = 59
      · rw [if_pos (by omega)]
        have e : wvW l b wv = wv := by unfold wvW; rw [if_neg (by omega)]
        rw [e]
        exact goOn _ _ (by omega) (hn.semi h3)
      · rw [if_neg (by omega)]
        have he := st_end (s := mkR t q (-1) mks wv) hq hm (by omega) hqs
        have hz : 0 < q.size := by rw [size_of hq]; simp
        by_cases h4 : 64 ≤ b.toNat ∧ b.toNat ≤ 126
        · rw [if_pos (by omega)]
          rw [if_pos h4] at he
          have he' : StepTo (mkR t q (-1) mks wv) { doR (mkR t emp (-1) mks wv) b.toNat (parE (parS ([], 0) m)) with q := emp } true := by
            have e : ({ doR (esc0 (mkR t q (-1) mks wv)) b.toNat (parL m) with q := ⟨#[]⟩ } : Rm) = { doR (mkR t emp (-1) mks wv) b.toNat (parE (parS ([], 0) m)) with q := emp } := doR_emp t q mks wv _ _
            rw [e] at he
            exact he
          obtain ⟨wv', q1, q2, q3⟩ := do_sim hW hH hp hw hn b.toNat mks wv he'
          have ea : ((a.toNat : Int)) = a := by omega
          rw [ea]
          have e : wvW l b wv = wv' := by unfold wvW; rw [if_pos h4, q3]
          rw [e]
          exact ⟨1, _, q1, hz, _, st_nil rfl, Nat.le_refl _, emp, -1, mks, rfl, .inl ⟨q2, rfl⟩, rfl⟩
        · rw [if_neg (by omega)]
          rw [if_neg h4] at he
          have e : wvW l b wv = wv := by unfold wvW; rw [if_neg h4]
          rw [e]
          exact ⟨1, _, he, hz, _, st_nil rfl, Nat.le_refl _, emp, -1, mks, rfl, .inl ⟨hw, rfl⟩, rfl⟩
/-- What has been written, behind a byte. -/
def wvS (t : Tm) (b : UInt8) (wv : Nat → Bool) : St → Nat → Bool
  | .out => wvO t b wv
  | .esc => wv
  | .amid h => if full (h.data.toList ++ [b]) ∧ (runes (h.data.toList ++ [b])).length ≠ 1 then wvO (prsT t (runes h.data.toList)) b (wvPs t (runes h.data.toList) wv) else wvA t (h.data.toList ++ [b]) wv
  | .wth l a => wvW l b wv
theorem feed {t : Tm} {st : St} {wv : Nat → Bool} {s : Rm} (hW : 1 ≤ t.W ∧ t.W ≤ 400) (hH : 1 ≤ t.H ∧ t.H ≤ 400) (hp : PAll t.W t.H t.c) (ht : Ti t) (h : Docd t st wv s) (b : UInt8) (hqs : s.q.size + 1 ≤ 4611686018427387904) :
    ∃ n, Ends n { s with q := s.q ++ ⟨#[b]⟩ } (Docd (stepT t b st).1 (stepT t b st).2 (wvS t b wv st)) := by
  obtain ⟨q, la, mks, rfl, hl, hh⟩ := h
  have eq : (q ++ (⟨#[b]⟩ : ByteArray)).data.toList = q.data.toList ++ [b] := by simp
  have hsz : (q ++ (⟨#[b]⟩ : ByteArray)).size = q.size + 1 := by rw [ByteArray.size_append]; rfl
  have hqs' : q.size + 1 ≤ 4611686018427387904 := hqs
  cases st with
  | out =>
    have hq : q.data.toList = [] := hh
    exact feed_out hW hH ht hl b (by show (q ++ (⟨#[b]⟩ : ByteArray)).data.toList = _; rw [eq, hq]; rfl)
  | esc =>
    obtain ⟨hq, hw⟩ := hh
    obtain rfl := lst_out hl hw
    have eq2 : (q ++ (⟨#[b]⟩ : ByteArray)).data.toList = [27, b] := by rw [eq, hq]; rfl
    show ∃ n, Ends n (mkR t (q ++ ⟨#[b]⟩) (-1) mks wv) (Docd t (if (b.toNat : Int) = 91 then .wth (fun _ => 0) 0 else .out) wv)
    by_cases h91 : b.toNat = 91
    · rw [if_pos (by omega)]
      have hb : b = 91 := by
        apply UInt8.toNat_inj.1
        rw [h91]; rfl
      rw [hb] at eq2 ⊢
      exact ⟨0, _, st_more (s := mkR t (q ++ ⟨#[91]⟩) (-1) mks wv) eq2 (fun c hc => (by cases hc)) (by show (q ++ (⟨#[91]⟩ : ByteArray)).size ≤ _; rw [hb] at hsz; rw [hsz]; exact hqs'), Nat.le_refl _, _, -1, mks, rfl, .inl ⟨hw, rfl⟩, [], eq2, hw, fun c hc => (by cases hc), ⟨by decide, rfl, fun j hj => absurd hj (by simp), fun _ => rfl, fun _ _ => rfl⟩⟩
    · rw [if_neg (by omega)]
      exact ⟨1, _, st_none (s := mkR t (q ++ ⟨#[b]⟩) (-1) mks wv) eq2 h91, by show 0 < (q ++ (⟨#[b]⟩ : ByteArray)).size; rw [hsz]; omega, _, st_nil rfl, Nat.le_refl _, emp, -1, mks, rfl, .inl ⟨hw, rfl⟩, rfl⟩
  | amid hm =>
    obtain ⟨h1, h2, h3⟩ := hh
    rw [h1] at h2 h3
    exact feed_amid hW hH ht hl h2 h3 b (by show (q ++ (⟨#[b]⟩ : ByteArray)).data.toList = _; rw [eq, h1])
  | wth l a =>
    obtain ⟨m, h1, h2, h3, h4⟩ := hh
    exact feed_wth hW hH hp hl h2 h3 h4 b (by show (q ++ (⟨#[b]⟩ : ByteArray)).data.toList = _; rw [eq, h1]; rfl) (by show (q ++ (⟨#[b]⟩ : ByteArray)).size ≤ _; rw [hsz]; exact hqs')

end Go.Proofs.YtgaogkggbccfnaaDoor

namespace Go.Proofs.YtgaogkggbccfnaaDoor
open Go.RowKit Go.Sort
set_option linter.unusedVariables false

theorem one_byte : ∀ k : Fin 127, 32 ≤ k.val → runes [k.val.toUInt8] = [(k.val : Int)] ∧ wid (k.val : Int) = 1 ∧ enc [(k.val : Int)] = [k.val.toUInt8] ∧ full [k.val.toUInt8] := by
  intro k hk
  have h : runes [k.val.toUInt8] = [(k.val : Int)] ∧ wid (k.val : Int) = 1 ∧ enc [(k.val : Int)] = [k.val.toUInt8] ∧ byt [k.val.toUInt8] 0 < 0xC2 := by
    have := (by decide +kernel : ∀ k : Fin 127, 32 ≤ k.val → runes [k.val.toUInt8] = [(k.val : Int)] ∧ wid (k.val : Int) = 1 ∧ enc [(k.val : Int)] = [k.val.toUInt8] ∧ byt [k.val.toUInt8] 0 < 0xC2)
    exact this k hk
  exact ⟨h.1, h.2.1, h.2.2.1, by simp, .inl h.2.2.2⟩
theorem one_u8 (b : UInt8) (h1 : 32 ≤ b.toNat) (h2 : b.toNat ≤ 126) : runes [b] = [(b.toNat : Int)] ∧ wid (b.toNat : Int) = 1 ∧ enc [(b.toNat : Int)] = [b] ∧ full [b] := by
  have := one_byte ⟨b.toNat, by omega⟩ h1
  simp only at this
  rw [show b.toNat.toUInt8 = b by simp] at this
  exact this
/-- What is shown behind the bytes l. -/
def prS (l : List UInt8) : Nat → Nat → Ce := fun y j => if y = 0 ∧ j < l.length then ⟨⟨#[l.getD j 0]⟩, 2, 3, 1, 0⟩ else bk 0 0 0
structure Pr (W H : Nat) (l : List UInt8) (p : Tm × St) : Prop where
  st : p.2 = .out
  w : p.1.W = W
  h : p.1.H = H
  c : p.1.c = prS l
  x : p.1.r.x = l.length
  y : p.1.r.y = 0
  f : p.1.r.f = 2
  g : p.1.r.g = 3
  b : p.1.r.b = 1
theorem prS_next (l : List UInt8) (b : UInt8) : fill (prS l) l.length (l.length + 1) 0 (0 + 1) (gly l.length 1 ⟨#[b]⟩ (kn 2) (kn 3) (bo 1)) = prS (l ++ [b]) := by
  have hp : ∀ y j, (prS l y j).p = 0 := fun y j => by unfold prS; split <;> rfl
  funext y j
  unfold fill
  by_cases hy : y = 0
  · subst hy
    rw [if_pos (by omega)]
    by_cases hj : l.length ≤ j ∧ j < l.length + 1
    · obtain rfl : j = l.length := by omega
      rw [span_in hj]
      unfold prS gly
      rw [if_neg (by decide : ¬ (1 : Int) = 2), if_pos ⟨rfl, by simp⟩, show (l ++ [b]).getD l.length 0 = b by simp [List.getD_eq_getElem?_getD], show kn 2 = 2 from rfl, show kn 3 = 3 from rfl, show bo 1 = 1 from rfl]
    · have e : span (prS l 0) l.length (l.length + 1) (gly l.length 1 ⟨#[b]⟩ (kn 2) (kn 3) (bo 1)) j = prS l 0 j := by
        unfold span
        rw [if_neg hj, if_neg (fun q => by have := hp 0 l.length; omega), if_neg (fun q => by have := hp 0 (l.length + 1 - 1); omega)]
      rw [e]
      unfold prS
      by_cases h1 : j < l.length
      · rw [if_pos ⟨rfl, h1⟩, if_pos ⟨rfl, by simp; omega⟩]
        simp only [List.getD_eq_getElem?_getD]
        rw [List.getElem?_append_left h1]
      · rw [if_neg (fun q => h1 q.2), if_neg (fun q => by have := q.2; simp at this; omega)]
  · rw [if_neg (by omega)]
    unfold prS
    rw [if_neg (fun q => hy q.1), if_neg (fun q => hy q.1)]
theorem Pr.next {W H : Nat} {l : List UInt8} {p : Tm × St} (h : Pr W H l p) (hW : 1 ≤ W ∧ W ≤ 400) (hH : 1 ≤ H ∧ H ≤ 400) (hl : l.length < W) (b : UInt8) (h1 : 32 ≤ b.toNat) (h2 : b.toNat ≤ 126) : Pr W H (l ++ [b]) (stepT p.1 b p.2) := by
  obtain ⟨q1, q2, q3, q4⟩ := one_u8 b h1 h2
  obtain ⟨s, st⟩ := p
  obtain ⟨hst, hw, hh, hc, hx, hy, hf, hg, hb⟩ := h
  simp only at hst hw hh hc hx hy hf hg hb
  subst hst hw hh
  have e : stepT s b .out = (prT s b.toNat, .out) := by
    show outT s b = _
    unfold outT
    rw [if_neg (by omega), if_neg (by omega)]
    unfold amT
    rw [if_pos q4]
    simp only
    rw [q1]
    rfl
  rw [e]
  unfold prT
  rw [q2, if_neg (by decide), if_neg (by rw [hx]; omega), q3]
  refine ⟨rfl, rfl, rfl, ?_, ?_, hy, hf, hg, hb⟩
  · show putC s.W s.H s.c s.r.x s.r.y ⟨[b].toArray⟩ 1 s.r.f s.r.g s.r.b 0 0 s.W s.H = _
    have := put_whole hW hH s.c (x := l.length) (y := 0) (wd := 1) ⟨[b].toArray⟩ 2 3 1 (.inl rfl) (by omega) (by omega)
    rw [hx, hy, hf, hg, hb]
    rw [show ((0 : Nat) : Int) = 0 from rfl] at this
    rw [this, hc]
    exact prS_next l b
  · show s.r.x + 1 = _
    rw [hx]; simp
def look : List UInt8 := [27, 91, 49, 59, 51, 49, 59, 52, 50, 109]
set_option maxRecDepth 100000 in
theorem Pr.start (W H : Nat) : Pr W H [] (runT (tm0 W H, .out) look) := by
  have e : runT (tm0 W H, .out) look = (⟨W, H, fun _ _ => bk 0 0 0, ⟨0, 0, 2, 3, 1, 0, 0, ⟨#[]⟩, 0, 0⟩⟩, .out) := rfl
  rw [e]
  refine ⟨rfl, rfl, rfl, ?_, rfl, rfl, rfl, rfl, rfl⟩
  funext y j
  unfold prS
  rw [if_neg (fun q => by have := q.2; simp at this)]
theorem Pr.all (W H : Nat) (hW : 1 ≤ W ∧ W ≤ 400) (hH : 1 ≤ H ∧ H ≤ 400) (l : List UInt8) (hl : l.length ≤ W) (hb : ∀ b ∈ l, 32 ≤ b.toNat ∧ b.toNat ≤ 126) : Pr W H l (runT (tm0 W H, .out) (look ++ l)) := by
  rw [runT_append]
  have key : ∀ k, k ≤ l.length → Pr W H (l.take k) (runT (runT (tm0 W H, .out) look) (l.take k)) := by
    intro k
    induction k with
    | zero => intro _; rw [List.take_zero]; exact Pr.start W H
    | succ k ih =>
      intro hk
      have hk' : k < l.length := by omega
      have e : l.take (k + 1) = l.take k ++ [l[k]] := by rw [List.take_add_one, List.getElem?_eq_getElem hk']; rfl
      rw [e, runT_app]
      have hm := hb l[k] (List.getElem_mem hk')
      exact (ih (by omega)).next hW hH (by rw [List.length_take]; omega) _ hm.1 hm.2
  have := key l.length (Nat.le_refl _)
  rw [List.take_length] at this
  exact this

end Go.Proofs.YtgaogkggbccfnaaDoor

namespace Go.Proofs.YtgaogkggbccfnaaDoor
open Go.RowKit Go.Sort
set_option linter.unusedVariables false

theorem ext_one (x : ByteArray) (i : Nat) (h : i < x.size) : x.extract i (i + 1) = ⟨#[x.data.toList.getD i 0]⟩ := by
  apply ByteArray.ext
  rw [ByteArray.data_extract]
  apply Array.ext'
  rw [Array.toList_extract]
  have hl : i < x.data.toList.length := by rw [len_data]; exact h
  simp only [List.extract]
  rw [List.drop_eq_getElem_cons hl, List.getD_eq_getElem?_getD, List.getElem?_eq_getElem hl]
  simp
theorem look_list (x : ByteArray) : ((⟨#[27, 91, 49, 59, 51, 49, 59, 52, 50, 109]⟩ : ByteArray) ++ x).data.toList = look ++ x.data.toList := by simp [look]

theorem look_size (x : ByteArray) : ((⟨#[27, 91, 49, 59, 51, 49, 59, 52, 50, 109]⟩ : ByteArray) ++ x).size = 10 + x.size := by rw [ByteArray.size_append]; rfl

set_option maxRecDepth 100000 in
set_option maxHeartbeats 8000000 in
theorem prints_walk (W H : Int) (x : ByteArray) (hx : x.size ≤ 9223372036854775807) (w : World) (ht : TabAt w) (hU : Utf w) (hg : 2 < w.heap.size) : Calls Tryd.prog 7 #[.int .i64 W, .int .i64 H, .string x] w fun e w' => e = .returned (.bool true) ∧ Below w.heap.size w w' := by
  by_cases hwh : (1 ≤ W ∧ W ≤ 400) ∧ (1 ≤ H ∧ H ≤ 400)
  · obtain ⟨W, rfl⟩ : ∃ W' : Nat, W = (W' : Int) := ⟨W.toNat, by omega⟩
    obtain ⟨H, rfl⟩ : ∃ H' : Nat, H = (H' : Int) := ⟨H.toNat, by omega⟩
    have TW : Hid (Calls Tryd.prog 8 #[.int .i64 W, .int .i64 H] w fun e w' => ∃ T K M T2, e = .returned (.tuple #[.pointer (some ⟨T, 0, none⟩), .pointer (some ⟨T2, 0, none⟩), .bool true]) ∧ TM w' T K M (W * H) (tm0 W H) (fnV 28 #[]) ∧ w.heap.size ≤ T ∧ w.heap.size ≤ K ∧ w.heap.size ≤ M ∧ Below w.heap.size w w') := twin_ok W H w (by omega) (by omega) (pall0 W H)
    have HT : Hid (TabAt w) := ht
    have HU : Hid (Utf w) := hU
    have hsz := hU.sz
    clear ht hU
    go_enter Tryd.func7, Tryd.ntmps7
    go_wp2_with fail
    refine TW.out.mono ?_
    rintro e w1 ⟨T, K, M, T2, rfl, h1, hT, _, hM, b1⟩
    have hfar : Far T M := ⟨by omega, by omega, by omega⟩
    have H1 : Hid (TM w1 T K M (W * H) (tm0 W H) (fnV 28 #[])) := h1
    have B1 : Hid (Below w.heap.size w w1) := b1
    clear h1 b1 TW
    go_wp2_with fail
    go_loopw [10] (fun iv wr => ∃ i : Nat, i ≤ x.size ∧ iv = .int .i64 i ∧ wr = w1 ∧ Hid (∀ j, j < i → 32 ≤ (x.data.toList.getD j 0).toNat ∧ (x.data.toList.getD j 0).toNat ≤ 126)) (fun iv _ => x.size - (intOf iv).toNat)
    case atStart => exact ⟨0, Nat.zero_le _, rfl, by first | rfl | trivial, fun j hj => absurd hj (Nat.not_lt_zero _)⟩
    case round =>
      obtain ⟨i, hi, rfl, rfl, HA⟩ := hrel
      by_cases hlt : i < x.size
      · have hlt' : (i : Int) < (x.size : Int) := by omega
        obtain ⟨bt, hbt⟩ : ∃ b, x[i]'hlt = b := ⟨_, rfl⟩
        have HD : Hid (x.data.toList.getD i 0 = bt) := by
          show _ = _
          rw [List.getD_eq_getElem?_getD, Array.getElem?_toList, ← hbt, show x.data[i]? = some (x[i]'hlt) from Array.getElem?_eq_getElem hlt]
          rfl
        by_cases h1 : (bt.toNat : Int) < 32
        · go_wp2
          go_ret
          exact ⟨rfl, B1.out⟩
        · by_cases h2 : (126 : Int) < (bt.toNat : Int)
          · go_wp2
            go_ret
            exact ⟨rfl, B1.out⟩
          · go_wp2
            go_roundw
            case rel =>
              refine ⟨i + 1, by omega, by go_num, by first | rfl | trivial, fun j hj => ?_⟩
              by_cases hj2 : j < i
              · exact HA.out j hj2
              · obtain rfl : j = i := by omega
                rw [HD.out]; omega
            case measure => simp [intOf]; omega
      · have hlt' : ¬ (i : Int) < (x.size : Int) := by omega
        obtain rfl : i = x.size := by omega
        by_cases hw : (W : Int) < (x.size : Int)
        · go_wp2
          go_ret
          exact ⟨rfl, B1.out⟩
        · have WR : Hid (Calls Tryd.prog 9 #[.pointer (some ⟨T, 0, none⟩), .string ((⟨#[27, 91, 49, 59, 51, 49, 59, 52, 50, 109]⟩ : ByteArray) ++ x)] wr fun e w' => WrOut wr w' e T K M (W * H) (runT (tm0 W H, .out) ((⟨#[27, 91, 49, 59, 51, 49, 59, 52, 50, 109]⟩ : ByteArray) ++ x).data.toList)) := write_any _ (by rw [look_size]; omega) wr H1.out rfl (ti0 W H (by omega)) trivial (HT.out.below B1.out) (HU.out.below B1.out) hfar
          rw [look_list] at WR
          have HL : Hid (x.data.toList.length = x.size) := len_data x
          have PA : Hid (Pr W H x.data.toList (runT (tm0 W H, .out) (look ++ x.data.toList))) := Pr.all W H (by omega) (by omega) x.data.toList (by rw [HL.out]; omega) (fun b hb => by
            obtain ⟨j, hj, rfl⟩ := List.mem_iff_getElem.1 hb
            have := HA.out j (by rw [← HL.out]; exact hj)
            rw [List.getD_eq_getElem?_getD, List.getElem?_eq_getElem hj] at this
            exact this)
          obtain ⟨p, hp⟩ : ∃ p, runT (tm0 W H, .out) (look ++ x.data.toList) = p := ⟨_, rfl⟩
          rw [hp] at WR PA
          obtain ⟨s, st⟩ := p
          clear hp HA
          go_wp2_with fail
          refine WR.out.mono ?_
          rintro e w2 ⟨rfl, ⟨nv, h2, _⟩, hti, _, c2⟩
          have H2 : Hid (TM w2 T K M (W * H) s nv) := h2
          have HC2 : Hid (Below w.heap.size w w2) := ⟨c2.os.trans B1.out.os, c2.tape.trans B1.out.tape, c2.output.trans B1.out.output, Nat.le_trans B1.out.size c2.size, fun b hb => (c2.block b (Nat.lt_of_lt_of_le hb B1.out.size) (by omega) (by omega)).trans (B1.out.block b hb)⟩
          have hsW : s.W = W := PA.out.w
          have hsH : s.H = H := PA.out.h
          have TC : Hid (Calls Tryd.prog 15 #[.pointer (some ⟨T, 0, none⟩)] w2 fun e w' => ∃ N cap', e = .returned (.slice (some ⟨N, 0, none⟩) (W * H) cap') ∧ Cv 45 w' N W H s.c ∧ w2.heap.size ≤ N ∧ Below w2.heap.size w2 w') := by have := tcells_any w2 h2; rw [hsW, hsH] at this; exact this
          have hsx : s.r.x = (x.size : Int) := by rw [← HL.out]; exact PA.out.x
          have hsy : s.r.y = 0 := PA.out.y
          have hsc : s.c = prS x.data.toList := PA.out.c
          rw [hsc] at TC
          clear h2 hti c2 WR hsc hsW hsH PA
          go_wp2_with fail
          refine TC.out.mono ?_
          rintro e w3 ⟨N, cp, rfl, hcv, hN, b3⟩
          have H3 : Hid (TM w3 T K M (W * H) s nv) := H2.out.below b3
          have HC3 : Hid (Below w.heap.size w w3) := HC2.out.trans (b3.mono HC2.out.size)
          have HV3 : Hid (Cv 45 w3 N W H (prS x.data.toList)) := hcv
          clear hcv hN b3 TC
          go_wp2_with fail
          refine (cursor_any w3 H3.out).mono ?_
          rintro e w4 ⟨rfl, g4⟩
          have HC4 : Hid (Below w.heap.size w w4) := HC3.out.trans (g4.below.mono HC3.out.size)
          have HV4 : Hid (Cv 45 w4 N W H (prS x.data.toList)) := HV3.out.gr g4
          rw [hsx, hsy]
          obtain ⟨n, hn⟩ : ∃ n, W * H = n := ⟨_, rfl⟩
          have hn' : (W : Int) * (H : Int) = (n : Int) := by rw [← hn, Int.natCast_mul]
          have hnb : n ≤ 160000 := by rw [← hn]; exact Nat.le_trans (Nat.mul_le_mul (by omega : W ≤ 400) (by omega : H ≤ 400)) (by decide)
          have HN : Hid (W * H = n) := hn
          rw [hn]
          clear hn g4 H3 H2 hsx hsy HV3
          go_wp2_with fail
          go_loopw [14] (fun iv wr => ∃ i : Nat, i ≤ n ∧ iv = .int .i64 i ∧ Hid (Gr w4 wr)) (fun iv _ => n - (intOf iv).toNat)
          case atStart => exact ⟨0, by omega, rfl, Gr.refl _⟩
          case round =>
            obtain ⟨i, hi, rfl, HI⟩ := hrel
            by_cases hil : i < n
            · have hil' : (i : Int) < (n : Int) := by omega
              obtain ⟨y, z, hy, hz, hix⟩ := lin_split (by rw [HN.out]; exact hil)
              have eo : y * W * 5 + z * 5 = i * 5 := by rw [hix, Nat.add_mul]
              by_cases hs : i < x.size
              · have hs' : (i : Int) < (x.size : Int) := by omega
                have hy0 : y = 0 := by
                  rcases Nat.eq_zero_or_pos y with h | h
                  · exact h
                  · have : 1 * W ≤ y * W := Nat.mul_le_mul_right _ h
                    omega
                have hz0 : z = i := by rw [hix, hy0]; omega
                obtain ⟨tx, htx⟩ : ∃ t, x.extract i (i + 1) = t := ⟨_, rfl⟩
                have he : prS x.data.toList y z = ⟨tx, 2, 3, 1, 0⟩ := by
                  unfold prS
                  rw [if_pos ⟨hy0, by rw [HL.out]; omega⟩, ← htx, ext_one x i hs, hz0]
                have HE : Hid (y * W * 5 + z * 5 = i * 5 ∧ prS x.data.toList y z = _) := ⟨eo, he⟩
                clear eo hix he
                go_wp2_with fail
                try rw [htx]
                obtain ⟨W0, hW0⟩ : ∃ z, wr.alloc (.cells #[.string tx, .int .i64 2, .int .i64 3, .int .i64 1, .int .i64 0] 45) = z := ⟨_, rfl⟩
                obtain ⟨S, hS⟩ : ∃ z, wr.heap.size = z := ⟨_, rfl⟩
                have G0 : Hid (Gr wr W0) := by rw [← hW0]; exact (Gr.refl wr).alloc _
                have R0 : Hid (R5 45 W0 S ⟨tx, 2, 3, 1, 0⟩) := by rw [← hW0, ← hS]; exact R5.new wr ⟨tx, 2, 3, 1, 0⟩ _
                have V1 := HV4.out.gr (HI.out.trans G0.out)
                have e0 := V1.c0 hy hz
                have e1 := V1.c1 hy hz
                have e2 := V1.c2 hy hz
                have e3 := V1.c3 hy hz
                have e4 := V1.c4 hy hz
                rw [HE.out.1, HE.out.2] at e0 e1 e2 e3 e4
                have z0 := R0.out.c0
                have z1 := R0.out.c1
                have z2 := R0.out.c2
                have z3 := R0.out.c3
                have z4 := R0.out.c4
                rw [hW0, hS]
                clear hW0 hS htx V1 HE
                have hmix : Tryd.prog.follows .mixedOrders = true := by kernel_rfl
                go_quiet (fail)
                have HG : Hid (Gr w4 (W0.drewN nq)) := (HI.out.trans G0.out).drewN _
                go_wp2
                go_roundw
                case rel => exact ⟨i + 1, by omega, by go_num, HG.out⟩
                case measure => simp [intOf]; omega
              · have hs' : ¬ (i : Int) < (x.size : Int) := by omega
                obtain ⟨tx, htx⟩ : ∃ t, (⟨#[32]⟩ : ByteArray) = t := ⟨_, rfl⟩
                have he : prS x.data.toList y z = ⟨tx, 0, 0, 0, 0⟩ := by
                  unfold prS
                  rw [if_neg (fun q => hs (by rw [HL.out] at q; have := q.1; have := q.2; subst_vars; omega)), ← htx]; rfl
                have HE : Hid (y * W * 5 + z * 5 = i * 5 ∧ prS x.data.toList y z = _) := ⟨eo, he⟩
                clear eo hix he
                go_wp2_with fail
                try rw [htx]
                obtain ⟨W0, hW0⟩ : ∃ z, wr.alloc (.cells #[.string tx, .int .i64 0, .int .i64 0, .int .i64 0, .int .i64 0] 45) = z := ⟨_, rfl⟩
                obtain ⟨S, hS⟩ : ∃ z, wr.heap.size = z := ⟨_, rfl⟩
                have G0 : Hid (Gr wr W0) := by rw [← hW0]; exact (Gr.refl wr).alloc _
                have R0 : Hid (R5 45 W0 S ⟨tx, 0, 0, 0, 0⟩) := by rw [← hW0, ← hS]; exact R5.new wr ⟨tx, 0, 0, 0, 0⟩ _
                have V1 := HV4.out.gr (HI.out.trans G0.out)
                have e0 := V1.c0 hy hz
                have e1 := V1.c1 hy hz
                have e2 := V1.c2 hy hz
                have e3 := V1.c3 hy hz
                have e4 := V1.c4 hy hz
                rw [HE.out.1, HE.out.2] at e0 e1 e2 e3 e4
                have z0 := R0.out.c0
                have z1 := R0.out.c1
                have z2 := R0.out.c2
                have z3 := R0.out.c3
                have z4 := R0.out.c4
                rw [hW0, hS]
                clear hW0 hS htx V1 HE
                have hmix : Tryd.prog.follows .mixedOrders = true := by kernel_rfl
                go_quiet (fail)
                have HG : Hid (Gr w4 (W0.drewN nq)) := (HI.out.trans G0.out).drewN _
                go_wp2
                go_roundw
                case rel => exact ⟨i + 1, by omega, by go_num, HG.out⟩
                case measure => simp [intOf]; omega
            · have hil' : ¬ (i : Int) < (n : Int) := by omega
              go_wp2
              go_ret
              exact ⟨rfl, HC4.out.trans (HI.out.below.mono HC4.out.size)⟩
  · have TW : Hid (Calls Tryd.prog 8 #[.int .i64 W, .int .i64 H] w fun e w' => e = .returned (.tuple #[.pointer none, .pointer none, .bool true]) ∧ w' = w) := twin_bad W H w hwh
    clear ht hU
    go_enter Tryd.func7, Tryd.ntmps7
    go_wp2_with fail
    refine TW.out.mono ?_
    rintro e w1 ⟨rfl, hw⟩
    obtain rfl := hw.symm
    go_wp2
    go_ret
    exact ⟨rfl, Below.refl _ _⟩

end Go.Proofs.YtgaogkggbccfnaaDoor

namespace Go.Proofs.YtgaogkggbccfnaaDoor
open Go.RowKit Go.Sort
set_option linter.unusedVariables false

def qSz (w : World) (T : Nat) : Nat := match w.cell? ⟨T, 6, none⟩ with
  | some (.string q) => q.size
  | _ => 0
theorem RT.qSz {w : World} {T K M cap B bc : Nat} {s : Rm} (h : RT w T K M cap B bc s) : qSz w T = s.q.size := by
  have : w.cell? ⟨T, 6, none⟩ = some (.string s.q) := h.at rfl
  unfold Go.Proofs.YtgaogkggbccfnaaDoor.qSz
  rw [this]
/-- The document's terminal in memory, as the program's stands: at most k bytes are half come. -/
structure Doc (w0 w : World) (T M B bc : Nat) (p : Tm × St) (wv : Nat → Bool) (k : Nat) : Prop where
  rt : ∃ K' M' cap' s, RT w T K' M' cap' B bc s ∧ Docd p.1 p.2 wv s ∧ s.q.size ≤ k ∧ (M' = M ∨ w0.heap.size ≤ M')
  c3 : C3 T M B w0 w
/-- What has been written, behind bytes. -/
def runW : Tm × St → (Nat → Bool) → List UInt8 → Nat → Bool
  | _, wv, [] => wv
  | p, wv, b :: r => runW (stepT p.1 b p.2) (wvS p.1 b wv p.2) r
theorem runW_app (p : Tm × St) (wv : Nat → Bool) (l : List UInt8) (b : UInt8) : runW p wv (l ++ [b]) = wvS (runT p l).1 b (runW p wv l) (runT p l).2 := by
  induction l generalizing p wv with
  | nil => rfl
  | cons a l ih => exact ih _ _
/-- What the steps have left so far. -/
structure Lp (w0 w : World) (T M B bc : Nat) (P : Rm → Prop) (k : Nat) (a : Bool) : Prop where
  rt : ∃ K' M' cap' s, RT w T K' M' cap' B bc s ∧ (if a then ∃ n, Ends n s P else P s) ∧ s.q.size ≤ k ∧ (M' = M ∨ w0.heap.size ≤ M')
  c3 : C3 T M B w0 w
def bOf : Value → Nat
  | .bool true => 1
  | _ => 0
/-- One step more. -/
theorem Lp.step {w0 w : World} {T M B bc : Nat} {P : Rm → Prop} {k : Nat} (h : Lp w0 w T M B bc P k true) :
    ∃ a : Bool, Calls Tryd.prog 21 #[.pointer (some ⟨T, 0, none⟩)] w fun e w' => e = .returned (.bool a) ∧ Lp w0 w' T M B bc P k a ∧ 2 * qSz w' T + bOf (.bool a) < 2 * qSz w T + 1 := by
  obtain ⟨⟨K', M', cap', s, r, ⟨n, hn⟩, hk, hM⟩, hc⟩ := h
  have hsz := r.qSz
  have key : ∀ s' (a : Bool), StepTo s s' a → (if a then ∃ n, Ends n s' P else P s') → s'.q.size ≤ s.q.size → (a = true → s'.q.size < s.q.size) → Calls Tryd.prog 21 #[.pointer (some ⟨T, 0, none⟩)] w fun e w' => e = .returned (.bool a) ∧ Lp w0 w' T M B bc P k a ∧ 2 * qSz w' T + bOf (.bool a) < 2 * qSz w T + 1 := fun s' a hs he hle hlt => (hs w T K' M' cap' B bc r).mono fun e w' q => by
    obtain ⟨q1, ⟨K2, M2, cap2, r2, hM2⟩, c2⟩ := q
    have hsz2 := r2.qSz
    have hs0 := hc.size
    refine ⟨q1, ⟨⟨K2, M2, cap2, s', r2, he, by omega, ?_⟩, hc.transM c2 hM⟩, ?_⟩
    · rcases hM2 with h | h
      · rcases hM with g | g
        · exact .inl (h.trans g)
        · exact .inr (by omega)
      · exact .inr (by omega)
    · rw [hsz, hsz2]
      cases a with
      | true => have := hlt rfl; show 2 * s'.q.size + 1 < _; omega
      | false => show 2 * s'.q.size + 0 < _; omega
  cases n with
  | zero =>
    obtain ⟨s', h1, h2, h3⟩ := hn
    exact ⟨false, key s' false h1 h3 h2 (fun q => by cases q)⟩
  | succ n =>
    obtain ⟨s', h1, h2, h3⟩ := hn
    exact ⟨true, key s' true h1 ⟨n, h3⟩ (by omega) (fun _ => h2)⟩

section
variable {T M B bc : Nat}
set_option maxRecDepth 100000 in
set_option maxHeartbeats 8000000 in
theorem rwrite_any (x : ByteArray) (w : World) {p : Tm × St} {wv : Nat → Bool} {k : Nat} (h : Doc w w T M B bc p wv k) (hi : Ti p.1) (hs : Si p.2) (hx : k + x.size + 1 ≤ 4611686018427387904) :
    Calls Tryd.prog 10 #[.pointer (some ⟨T, 0, none⟩), .string x] w fun e w' => e = .returned (.tuple #[]) ∧ Doc w w' T M B bc (runT p x.data.toList) (runW p wv x.data.toList) (k + x.size) := by
  have hmix : Tryd.prog.follows .mixedOrders = true := by kernel_rfl
  have H0 : Hid (Doc w w T M B bc p wv k ∧ Ti p.1 ∧ Si p.2) := ⟨h, hi, hs⟩
  clear h hi hs
  go_enter Tryd.func10, Tryd.ntmps10
  go_wp2
  go_loopw [4] (fun iv wr => ∃ i : Nat, i ≤ x.size ∧ iv = .int .i64 i ∧ Hid (Doc w wr T M B bc (runT p (x.data.toList.take i)) (runW p wv (x.data.toList.take i)) (k + i) ∧ Ti (runT p (x.data.toList.take i)).1 ∧ Si (runT p (x.data.toList.take i)).2)) (fun iv _ => x.size - (intOf iv).toNat)
  case atStart => exact ⟨0, Nat.zero_le _, rfl, H0.out⟩
  case round =>
    obtain ⟨i, hil, rfl, HJ⟩ := hrel
    by_cases hlt : i < x.size
    · have hlt' : (i : Int) < (x.size : Int) := by omega
      obtain ⟨P, hP⟩ : ∃ z, runT p (x.data.toList.take i) = z := ⟨_, rfl⟩
      obtain ⟨V, hV⟩ : ∃ z, runW p wv (x.data.toList.take i) = z := ⟨_, rfl⟩
      obtain ⟨bt, hbt⟩ : ∃ b, x.data.toList.getD i 0 = b := ⟨_, rfl⟩
      have e : x.data.toList[i]? = some bt := by
        have hl : i < x.data.toList.length := by rw [len_data]; exact hlt
        rw [← hbt, List.getD_eq_getElem?_getD, List.getElem?_eq_getElem hl]; rfl
      have HP : Hid (runT p (x.data.toList.take (i + 1)) = stepT P.1 bt P.2 ∧ runW p wv (x.data.toList.take (i + 1)) = wvS P.1 bt V P.2) := by
        refine ⟨?_, ?_⟩
        · rw [List.take_add_one, e, ← hP, ← runT_app]; rfl
        · rw [List.take_add_one, e, ← hP, ← hV, ← runW_app]; rfl
      have HX : Hid (x.extract i (i + 1) = ⟨#[bt]⟩) := by show _ = _; rw [ext_one x i hlt, hbt]
      obtain ⟨hd, hti, hsi⟩ := HJ.out
      rw [hP, hV] at hd
      rw [hP] at hti hsi
      obtain ⟨⟨K', M', cap', s, r, hdoc, hk, hM⟩, hc⟩ := hd
      obtain ⟨n, hn⟩ : ∃ n, Ends n { s with q := s.q ++ ⟨#[bt]⟩ } (Docd (stepT P.1 bt P.2).1 (stepT P.1 bt P.2).2 (wvS P.1 bt V P.2)) := by
        obtain ⟨q, la, mks, rfl, hl, hh⟩ := hdoc
        exact feed r.hW r.hH r.pa hti ⟨q, la, mks, rfl, hl, hh⟩ bt (by show q.size + 1 ≤ _; have : q.size ≤ k + i := hk; omega)
      have SO : Hid (Ti (stepT P.1 bt P.2).1 ∧ Si (stepT P.1 bt P.2).2) := by
        obtain ⟨q, la, mks, rfl, hl, hh⟩ := hdoc
        exact step_ok hti hsi r.hW.1 r.hH.1 bt
      have t6 : wr.cell? ⟨T, 6, none⟩ = some (.string s.q) := r.at rfl
      have f6 := r.fz 6
      obtain ⟨fb, hfb⟩ : ∃ z, x.extract i (i + 1) = z := ⟨_, rfl⟩
      have hfs : fb = ⟨#[bt]⟩ := by rw [← hfb]; exact HX.out
      have hfz : fb.size = 1 := by rw [hfs]; rfl
      have hcc : ¬ 9223372036854775807 < s.q.size + fb.size := by omega
      have L0 : Hid (Lp w (wr.setCell ⟨T, 6, none⟩ (.string (s.q ++ fb))).drew T M B bc (Docd (stepT P.1 bt P.2).1 (stepT P.1 bt P.2).2 (wvS P.1 bt V P.2)) (k + (i + 1)) true) :=
        ⟨⟨K', M', cap', { s with q := s.q ++ fb }, (RT.q _ r _).gr (Gr.refl _).drew, ⟨n, by rw [hfs]; exact hn⟩, by show (s.q ++ fb).size ≤ _; rw [ByteArray.size_append]; omega, hM⟩, (hc.set _ _).trans (C3.gr (Gr.refl _).drew)⟩
      clear hn r hdoc hc hM HJ hti hsi hP hV e hbt hfs
      go_wp2_with fail
      go_region
      try rw [hfb]
      obtain ⟨w2, hw2⟩ : ∃ z, (wr.setCell ⟨T, 6, none⟩ (.string (s.q ++ fb))).drew = z := ⟨_, rfl⟩
      rw [hw2] at L0 ⊢
      clear hw2 t6 f6 hcc
      go_wp2_with fail
      go_loopw [5] (fun av wk => ∃ a : Bool, av = .bool a ∧ Hid (Lp w wk T M B bc (Docd (stepT P.1 bt P.2).1 (stepT P.1 bt P.2).2 (wvS P.1 bt V P.2)) (k + (i + 1)) a)) (fun av wk => 2 * qSz wk T + bOf av)
      case atStart => exact ⟨true, rfl, L0.out⟩
      case round =>
        obtain ⟨a, rfl, HL⟩ := hrel
        cases a with
        | true =>
          obtain ⟨a2, hcall⟩ := HL.out.step
          have HC : Hid (Calls Tryd.prog 21 #[.pointer (some ⟨T, 0, none⟩)] wr fun e w' => e = .returned (.bool a2) ∧ Lp w w' T M B bc (Docd (stepT P.1 bt P.2).1 (stepT P.1 bt P.2).2 (wvS P.1 bt V P.2)) (k + (i + 1)) a2 ∧ 2 * qSz w' T + bOf (.bool a2) < 2 * qSz wr T + 1) := hcall
          clear hcall
          go_wp2_with fail
          refine HC.out.mono ?_
          rintro e w3 ⟨rfl, l3, m3⟩
          have L3 : Hid (Lp w w3 T M B bc (Docd (stepT P.1 bt P.2).1 (stepT P.1 bt P.2).2 (wvS P.1 bt V P.2)) (k + (i + 1)) a2) := l3
          have M3 : Hid (2 * qSz w3 T + bOf (.bool a2) < 2 * qSz wr T + 1) := m3
          clear l3 m3 HC
          go_wp2
          go_roundw
          case rel => exact ⟨a2, rfl, L3.out⟩
          case measure => exact M3.out
        | false =>
          have HD : Hid (Doc w wr T M B bc (runT p (x.data.toList.take (i + 1))) (runW p wv (x.data.toList.take (i + 1))) (k + (i + 1)) ∧ Ti (runT p (x.data.toList.take (i + 1))).1 ∧ Si (runT p (x.data.toList.take (i + 1))).2) := by
            show _ ∧ _
            rw [HP.out.1, HP.out.2]
            exact ⟨⟨HL.out.rt, HL.out.c3⟩, SO.out⟩
          go_wp2
          go_roundw
          case rel => exact ⟨i + 1, by omega, by go_num, HD.out⟩
          case measure => simp [intOf]; omega
    · have hlt' : ¬ (i : Int) < (x.size : Int) := by omega
      obtain rfl : i = x.size := by omega
      have HF : Hid (x.data.toList.take x.size = x.data.toList) := List.take_of_length_le (by rw [len_data]; exact Nat.le_refl _)
      have HJ2 := HJ.out
      rw [HF.out] at HJ2
      go_wp2
      go_end0
      exact ⟨rfl, HJ2.1⟩
end

end Go.Proofs.YtgaogkggbccfnaaDoor

namespace Go.Proofs.YtgaogkggbccfnaaDoor
open Go.RowKit Go.Sort
set_option linter.unusedVariables false

def rm0 (W H : Nat) : Rm := mkR (tm0 W H) emp (-1) 0 (fun _ => false)
theorem docd0 (W H : Nat) : Docd (tm0 W H) .out (fun _ => false) (rm0 W H) := ⟨emp, -1, 0, rfl, .inl ⟨rfl, rfl⟩, rfl⟩
theorem BR.new (w : World) (n : Nat) : BR (w.alloc (.cells (madeCells #[.bool false] n) 4)) w.heap.size n (fun _ => false) :=
  ⟨⟨_, heap_alloc_new _ _⟩, fun j hj => by rw [World.cell?_alloc_at _ _ _ _ rfl]; simp [madeCells, hj, Nat.mod_one]⟩
/-- A new terminal of the document's. -/
structure RNw (w w' : World) (T B bc W H : Nat) : Prop where
  rt : ∃ K M cap, RT w' T K M cap B bc (rm0 W H) ∧ w.heap.size ≤ K ∧ w.heap.size ≤ M
  t : w.heap.size ≤ T
  b : w.heap.size ≤ B
  bel : Below w.heap.size w w'

set_option maxRecDepth 100000 in
set_option maxHeartbeats 2000000 in
theorem rterm_new (W H : Nat) (w : World) (hW : 1 ≤ W ∧ W ≤ 400) (hH : 1 ≤ H ∧ H ≤ 400) : Calls Tryd.prog 20 #[.int .i64 W, .int .i64 H] w fun e w' => ∃ T B bc, e = .returned (.tuple #[.pointer (some ⟨T, 0, none⟩), .int .i64 0]) ∧ RNw w w' T B bc W H := by
  have NO : Hid (Calls Tryd.prog 29 #[.int .i64 W, .int .i64 H] w fun e w' => ∃ K, e = .returned (.tuple #[.pointer (some ⟨K, 0, none⟩), .int .i64 0]) ∧ RN w w' W H K) := rnew_ok W H hW hH w
  have hwh : W * H ≤ 160000 := Nat.le_trans (Nat.mul_le_mul hW.2 hH.2) (by decide)
  obtain ⟨n, hn⟩ : ∃ n, W * H = n := ⟨_, rfl⟩
  have hn' : (W : Int) * (H : Int) = (n : Int) := by rw [← hn, Int.natCast_mul]
  have HN : Hid (W * H = n) := hn
  rw [hn] at hwh
  clear hn
  have hmk : ∀ u : World, (Instr.makeSlice 65 (.int .i64 (n : Int)) (.int .i64 (n : Int))).run Tryd.prog u = .ok (.slice (some ⟨u.heap.size, 0, none⟩) n n) (u.alloc (.cells (madeCells #[.bool false] n) 4)) := fun u => run_make_row' (P := Tryd.prog) 65 4 (.bool false) 1 Tryd.underlying65 infoBool rfl .i64 .i64 n (by omega) (by omega) u
  go_enter Tryd.func20, Tryd.ntmps20
  go_wp2_with fail
  refine NO.out.mono ?_
  rintro e w1 ⟨K, rfl, hk, M, cap, hcs, hm, b1⟩
  have HB : Hid (Below w.heap.size w w1) := b1
  have HC : Hid (CS 72 85 w1 K M cap W H (fun _ _ => bk 0 0 0)) := hcs
  have hkl := hcs.klt
  have hml := hcs.cv.lt
  clear hcs b1
  go_wp2
  refine bodyPost_ret (v := .tuple #[.pointer (some ⟨w1.heap.size + 1, 0, none⟩), .int .i64 0]) (by simp [results, Tryd.results20, go_sem]) rfl ?_
  have h1 := HB.out.size
  refine ⟨w1.heap.size + 1, w1.heap.size, n, rfl, ⟨⟨K, M, cap, ?_, hk, hm⟩, by omega, h1, (HB.out.alloc h1 _).alloc (by simp; omega) _⟩⟩
  have G : Gr w1 ((w1.alloc (.cells (madeCells #[.bool false] n) 4)).alloc (.cells (rtc K w1.heap.size n (rm0 W H)) 67)) := ((Gr.refl _).alloc _).alloc _
  have e0 : rtc K w1.heap.size n (rm0 W H) = #[.pointer (some ⟨K, 0, none⟩), .int .i64 0, .int .i64 0, .int .i64 0, .int .i64 0, .int .i64 0, .string ⟨#[]⟩, .int .i64 (-1), .int .i64 0, .slice (some ⟨w1.heap.size, 0, none⟩) n n] := by
    show #[_, _, _, _, _, _, _, _, _, Value.slice (some ⟨w1.heap.size, 0, none⟩) (W * H) n] = _
    rw [HN.out]
    rfl
  rw [← e0]
  have hal : (w1.alloc (.cells (madeCells #[.bool false] n) 4)).heap.size = w1.heap.size + 1 := by simp
  refine ⟨?_, HC.out.gr G, ?_, by omega, by omega, by omega, by omega, by omega, ?_, hW, hH, pall1 W H⟩
  · have := heap_alloc_new (w1.alloc (.cells (madeCells #[.bool false] n) 4)) (.cells (rtc K w1.heap.size n (rm0 W H)) 67)
    rw [hal] at this
    exact this
  · have hb := BR.new w1 n
    have hn2 : (rm0 W H).W * (rm0 W H).H = n := HN.out
    rw [hn2]
    exact hb.keep (((Gr.refl _).alloc _).block (by rw [hal]; omega))
  · show W * H ≤ n
    rw [HN.out]
    exact Nat.le_refl _

end Go.Proofs.YtgaogkggbccfnaaDoor

namespace Go.Proofs.YtgaogkggbccfnaaDoor
open Go.RowKit Go.Sort
set_option linter.unusedVariables false

section
variable {T K M cap : Nat} {s : Tm} {nv : Value}
/-- A terminal as a new one. -/
structure Res (w w' : World) (T W H : Nat) : Prop where
  tm : ∃ K M, TM w' T K M (W * H) (tm0 W H) (fnV 28 #[]) ∧ w.heap.size ≤ K ∧ w.heap.size ≤ M
  c2 : C2 T T w w'
/-- Twelve cells are others now. -/
theorem row12 {Q : World} {T : Nat} {τ : TypeId} {a0 a1 a2 a3 a4 a5 a6 a7 a8 a9 a10 a11 : Value} (b0 b1 b2 b3 b4 b5 b6 b7 b8 b9 b10 b11 : Value) (h : Q.heap[T]? = some (.cells #[a0, a1, a2, a3, a4, a5, a6, a7, a8, a9, a10, a11] τ (0, 0))) : ((((((((((((Q.setCell ⟨T, 0, none⟩ b0).setCell ⟨T, 1, none⟩ b1).setCell ⟨T, 2, none⟩ b2).setCell ⟨T, 3, none⟩ b3).setCell ⟨T, 4, none⟩ b4).setCell ⟨T, 5, none⟩ b5).setCell ⟨T, 6, none⟩ b6).setCell ⟨T, 7, none⟩ b7).setCell ⟨T, 8, none⟩ b8).setCell ⟨T, 9, none⟩ b9).setCell ⟨T, 10, none⟩ b10).setCell ⟨T, 11, none⟩ b11).heap[T]? = some (.cells #[b0, b1, b2, b3, b4, b5, b6, b7, b8, b9, b10, b11] τ (0, 0)) := by
  have h : (Q.setCell ⟨T, 0, none⟩ b0).heap[T]? = some (.cells #[b0, a1, a2, a3, a4, a5, a6, a7, a8, a9, a10, a11] τ (0, 0)) := heap_setCell_same Q T 0 _ _ b0 h
  have h : ((Q.setCell ⟨T, 0, none⟩ b0).setCell ⟨T, 1, none⟩ b1).heap[T]? = some (.cells #[b0, b1, a2, a3, a4, a5, a6, a7, a8, a9, a10, a11] τ (0, 0)) := heap_setCell_same (Q.setCell ⟨T, 0, none⟩ b0) T 1 _ _ b1 h
  have h : (((Q.setCell ⟨T, 0, none⟩ b0).setCell ⟨T, 1, none⟩ b1).setCell ⟨T, 2, none⟩ b2).heap[T]? = some (.cells #[b0, b1, b2, a3, a4, a5, a6, a7, a8, a9, a10, a11] τ (0, 0)) := heap_setCell_same ((Q.setCell ⟨T, 0, none⟩ b0).setCell ⟨T, 1, none⟩ b1) T 2 _ _ b2 h
  have h : ((((Q.setCell ⟨T, 0, none⟩ b0).setCell ⟨T, 1, none⟩ b1).setCell ⟨T, 2, none⟩ b2).setCell ⟨T, 3, none⟩ b3).heap[T]? = some (.cells #[b0, b1, b2, b3, a4, a5, a6, a7, a8, a9, a10, a11] τ (0, 0)) := heap_setCell_same (((Q.setCell ⟨T, 0, none⟩ b0).setCell ⟨T, 1, none⟩ b1).setCell ⟨T, 2, none⟩ b2) T 3 _ _ b3 h
  have h : (((((Q.setCell ⟨T, 0, none⟩ b0).setCell ⟨T, 1, none⟩ b1).setCell ⟨T, 2, none⟩ b2).setCell ⟨T, 3, none⟩ b3).setCell ⟨T, 4, none⟩ b4).heap[T]? = some (.cells #[b0, b1, b2, b3, b4, a5, a6, a7, a8, a9, a10, a11] τ (0, 0)) := heap_setCell_same ((((Q.setCell ⟨T, 0, none⟩ b0).setCell ⟨T, 1, none⟩ b1).setCell ⟨T, 2, none⟩ b2).setCell ⟨T, 3, none⟩ b3) T 4 _ _ b4 h
  have h : ((((((Q.setCell ⟨T, 0, none⟩ b0).setCell ⟨T, 1, none⟩ b1).setCell ⟨T, 2, none⟩ b2).setCell ⟨T, 3, none⟩ b3).setCell ⟨T, 4, none⟩ b4).setCell ⟨T, 5, none⟩ b5).heap[T]? = some (.cells #[b0, b1, b2, b3, b4, b5, a6, a7, a8, a9, a10, a11] τ (0, 0)) := heap_setCell_same (((((Q.setCell ⟨T, 0, none⟩ b0).setCell ⟨T, 1, none⟩ b1).setCell ⟨T, 2, none⟩ b2).setCell ⟨T, 3, none⟩ b3).setCell ⟨T, 4, none⟩ b4) T 5 _ _ b5 h
  have h : (((((((Q.setCell ⟨T, 0, none⟩ b0).setCell ⟨T, 1, none⟩ b1).setCell ⟨T, 2, none⟩ b2).setCell ⟨T, 3, none⟩ b3).setCell ⟨T, 4, none⟩ b4).setCell ⟨T, 5, none⟩ b5).setCell ⟨T, 6, none⟩ b6).heap[T]? = some (.cells #[b0, b1, b2, b3, b4, b5, b6, a7, a8, a9, a10, a11] τ (0, 0)) := heap_setCell_same ((((((Q.setCell ⟨T, 0, none⟩ b0).setCell ⟨T, 1, none⟩ b1).setCell ⟨T, 2, none⟩ b2).setCell ⟨T, 3, none⟩ b3).setCell ⟨T, 4, none⟩ b4).setCell ⟨T, 5, none⟩ b5) T 6 _ _ b6 h
  have h : ((((((((Q.setCell ⟨T, 0, none⟩ b0).setCell ⟨T, 1, none⟩ b1).setCell ⟨T, 2, none⟩ b2).setCell ⟨T, 3, none⟩ b3).setCell ⟨T, 4, none⟩ b4).setCell ⟨T, 5, none⟩ b5).setCell ⟨T, 6, none⟩ b6).setCell ⟨T, 7, none⟩ b7).heap[T]? = some (.cells #[b0, b1, b2, b3, b4, b5, b6, b7, a8, a9, a10, a11] τ (0, 0)) := heap_setCell_same (((((((Q.setCell ⟨T, 0, none⟩ b0).setCell ⟨T, 1, none⟩ b1).setCell ⟨T, 2, none⟩ b2).setCell ⟨T, 3, none⟩ b3).setCell ⟨T, 4, none⟩ b4).setCell ⟨T, 5, none⟩ b5).setCell ⟨T, 6, none⟩ b6) T 7 _ _ b7 h
  have h : (((((((((Q.setCell ⟨T, 0, none⟩ b0).setCell ⟨T, 1, none⟩ b1).setCell ⟨T, 2, none⟩ b2).setCell ⟨T, 3, none⟩ b3).setCell ⟨T, 4, none⟩ b4).setCell ⟨T, 5, none⟩ b5).setCell ⟨T, 6, none⟩ b6).setCell ⟨T, 7, none⟩ b7).setCell ⟨T, 8, none⟩ b8).heap[T]? = some (.cells #[b0, b1, b2, b3, b4, b5, b6, b7, b8, a9, a10, a11] τ (0, 0)) := heap_setCell_same ((((((((Q.setCell ⟨T, 0, none⟩ b0).setCell ⟨T, 1, none⟩ b1).setCell ⟨T, 2, none⟩ b2).setCell ⟨T, 3, none⟩ b3).setCell ⟨T, 4, none⟩ b4).setCell ⟨T, 5, none⟩ b5).setCell ⟨T, 6, none⟩ b6).setCell ⟨T, 7, none⟩ b7) T 8 _ _ b8 h
  have h : ((((((((((Q.setCell ⟨T, 0, none⟩ b0).setCell ⟨T, 1, none⟩ b1).setCell ⟨T, 2, none⟩ b2).setCell ⟨T, 3, none⟩ b3).setCell ⟨T, 4, none⟩ b4).setCell ⟨T, 5, none⟩ b5).setCell ⟨T, 6, none⟩ b6).setCell ⟨T, 7, none⟩ b7).setCell ⟨T, 8, none⟩ b8).setCell ⟨T, 9, none⟩ b9).heap[T]? = some (.cells #[b0, b1, b2, b3, b4, b5, b6, b7, b8, b9, a10, a11] τ (0, 0)) := heap_setCell_same (((((((((Q.setCell ⟨T, 0, none⟩ b0).setCell ⟨T, 1, none⟩ b1).setCell ⟨T, 2, none⟩ b2).setCell ⟨T, 3, none⟩ b3).setCell ⟨T, 4, none⟩ b4).setCell ⟨T, 5, none⟩ b5).setCell ⟨T, 6, none⟩ b6).setCell ⟨T, 7, none⟩ b7).setCell ⟨T, 8, none⟩ b8) T 9 _ _ b9 h
  have h : (((((((((((Q.setCell ⟨T, 0, none⟩ b0).setCell ⟨T, 1, none⟩ b1).setCell ⟨T, 2, none⟩ b2).setCell ⟨T, 3, none⟩ b3).setCell ⟨T, 4, none⟩ b4).setCell ⟨T, 5, none⟩ b5).setCell ⟨T, 6, none⟩ b6).setCell ⟨T, 7, none⟩ b7).setCell ⟨T, 8, none⟩ b8).setCell ⟨T, 9, none⟩ b9).setCell ⟨T, 10, none⟩ b10).heap[T]? = some (.cells #[b0, b1, b2, b3, b4, b5, b6, b7, b8, b9, b10, a11] τ (0, 0)) := heap_setCell_same ((((((((((Q.setCell ⟨T, 0, none⟩ b0).setCell ⟨T, 1, none⟩ b1).setCell ⟨T, 2, none⟩ b2).setCell ⟨T, 3, none⟩ b3).setCell ⟨T, 4, none⟩ b4).setCell ⟨T, 5, none⟩ b5).setCell ⟨T, 6, none⟩ b6).setCell ⟨T, 7, none⟩ b7).setCell ⟨T, 8, none⟩ b8).setCell ⟨T, 9, none⟩ b9) T 10 _ _ b10 h
  have h : ((((((((((((Q.setCell ⟨T, 0, none⟩ b0).setCell ⟨T, 1, none⟩ b1).setCell ⟨T, 2, none⟩ b2).setCell ⟨T, 3, none⟩ b3).setCell ⟨T, 4, none⟩ b4).setCell ⟨T, 5, none⟩ b5).setCell ⟨T, 6, none⟩ b6).setCell ⟨T, 7, none⟩ b7).setCell ⟨T, 8, none⟩ b8).setCell ⟨T, 9, none⟩ b9).setCell ⟨T, 10, none⟩ b10).setCell ⟨T, 11, none⟩ b11).heap[T]? = some (.cells #[b0, b1, b2, b3, b4, b5, b6, b7, b8, b9, b10, b11] τ (0, 0)) := heap_setCell_same (((((((((((Q.setCell ⟨T, 0, none⟩ b0).setCell ⟨T, 1, none⟩ b1).setCell ⟨T, 2, none⟩ b2).setCell ⟨T, 3, none⟩ b3).setCell ⟨T, 4, none⟩ b4).setCell ⟨T, 5, none⟩ b5).setCell ⟨T, 6, none⟩ b6).setCell ⟨T, 7, none⟩ b7).setCell ⟨T, 8, none⟩ b8).setCell ⟨T, 9, none⟩ b9).setCell ⟨T, 10, none⟩ b10) T 11 _ _ b11 h
  exact h

set_option maxRecDepth 100000 in
set_option maxHeartbeats 4000000 in
theorem resize_any (w : World) (h : TM w T K M cap s nv) (W H : Nat) (hW : 1 ≤ W ∧ W ≤ 400) (hH : 1 ≤ H ∧ H ≤ 400) (hp : PAll W H (fun _ _ => bk 0 0 0)) : Calls Tryd.prog 11 #[.pointer (some ⟨T, 0, none⟩), .int .i64 W, .int .i64 H] w fun e w' => e = .returned (.int .i64 0) ∧ Res w w' T W H := by
  have NO : Hid (Calls Tryd.prog 19 #[.int .i64 W, .int .i64 H] w fun e w' => ∃ T K M, e = .returned (.tuple #[.pointer (some ⟨T, 0, none⟩), .int .i64 0]) ∧ TM w' T K M (W * H) (tm0 W H) (fnV 28 #[]) ∧ w.heap.size ≤ T ∧ w.heap.size ≤ K ∧ w.heap.size ≤ M ∧ Below w.heap.size w w') := tnew_ok W H w hW hH hp
  have HM : Hid (TM w T K M cap s nv) := h
  have hlt := h.lt
  clear h
  go_enter Tryd.func11, Tryd.ntmps11
  go_wp2_with fail
  refine NO.out.mono ?_
  rintro e w1 ⟨T', K', M', rfl, h1, hT, hK, hM, b1⟩
  have H1 : Hid (TM w1 T' K' M' (W * H) (tm0 W H) (fnV 28 #[])) := h1
  have HO : Hid (TM w1 T K M cap s nv) := HM.out.below b1
  have B1 : Hid (Below w.heap.size w w1) := b1
  have c0 : w1.cell? ⟨T', 0, none⟩ = some (.pointer (some ⟨K', 0, none⟩)) := h1.at rfl
  have c1 : w1.cell? ⟨T', 1, none⟩ = some (.int .i64 0) := h1.at rfl
  have c2 : w1.cell? ⟨T', 2, none⟩ = some (.int .i64 0) := h1.at rfl
  have c3 : w1.cell? ⟨T', 3, none⟩ = some (.int .i64 0) := h1.at rfl
  have c4 : w1.cell? ⟨T', 4, none⟩ = some (.int .i64 0) := h1.at rfl
  have c5 : w1.cell? ⟨T', 5, none⟩ = some (.int .i64 0) := h1.at rfl
  have c6 : w1.cell? ⟨T', 6, none⟩ = some (.int .i64 0) := h1.at rfl
  have c7 : w1.cell? ⟨T', 7, none⟩ = some (.int .i64 0) := h1.at rfl
  have c8 : w1.cell? ⟨T', 8, none⟩ = some (.string ⟨#[]⟩) := h1.at rfl
  have c9 : w1.cell? ⟨T', 9, none⟩ = some (.int .i64 0) := h1.at rfl
  have c10 : w1.cell? ⟨T', 10, none⟩ = some (.int .i64 0) := h1.at rfl
  have c11 : w1.cell? ⟨T', 11, none⟩ = some (.func (.func 28) #[] #[]) := h1.at rfl
  have d0 : w1.cell? ⟨T, 0, none⟩ = some (.pointer (some ⟨K, 0, none⟩)) := HO.out.at rfl
  have d1 : w1.cell? ⟨T, 1, none⟩ = some (.int .i64 s.r.x) := HO.out.at rfl
  have d2 : w1.cell? ⟨T, 2, none⟩ = some (.int .i64 s.r.y) := HO.out.at rfl
  have d3 : w1.cell? ⟨T, 3, none⟩ = some (.int .i64 s.r.f) := HO.out.at rfl
  have d4 : w1.cell? ⟨T, 4, none⟩ = some (.int .i64 s.r.g) := HO.out.at rfl
  have d5 : w1.cell? ⟨T, 5, none⟩ = some (.int .i64 s.r.b) := HO.out.at rfl
  have d6 : w1.cell? ⟨T, 6, none⟩ = some (.int .i64 s.r.lx) := HO.out.at rfl
  have d7 : w1.cell? ⟨T, 7, none⟩ = some (.int .i64 s.r.ly) := HO.out.at rfl
  have d8 : w1.cell? ⟨T, 8, none⟩ = some (.string s.r.lt) := HO.out.at rfl
  have d9 : w1.cell? ⟨T, 9, none⟩ = some (.int .i64 s.r.lw) := HO.out.at rfl
  have d10 : w1.cell? ⟨T, 10, none⟩ = some (.int .i64 s.r.lm) := HO.out.at rfl
  have d11 : w1.cell? ⟨T, 11, none⟩ = some (nv) := HO.out.at rfl
  have fz := HO.out.fz
  clear h1 b1 NO HM
  go_wp2
  go_ret
  have g := (((((((((((((C2.refl T T w1).set 0 (.pointer (some ⟨K', 0, none⟩))).set 1 (.int .i64 0)).set 2 (.int .i64 0)).set 3 (.int .i64 0)).set 4 (.int .i64 0)).set 5 (.int .i64 0)).set 6 (.int .i64 0)).set 7 (.int .i64 0)).set 8 (.string ⟨#[]⟩)).set 9 (.int .i64 0)).set 10 (.int .i64 0)).set 11 (.func (.func 28) #[] #[]))
  have hb := row12 (.pointer (some ⟨K', 0, none⟩)) (.int .i64 0) (.int .i64 0) (.int .i64 0) (.int .i64 0) (.int .i64 0) (.int .i64 0) (.int .i64 0) (.string ⟨#[]⟩) (.int .i64 0) (.int .i64 0) (.func (.func 28) #[] #[]) HO.out.tb
  exact ⟨rfl, ⟨K', M', ⟨hb, ⟨(g.block K' H1.out.cs.klt (by omega) (by omega)).trans H1.out.cs.kb, H1.out.cs.cv.keep (g.block M' H1.out.cs.cv.lt (by omega) (by omega)), H1.out.cs.ne, H1.out.cs.hc⟩, by omega, by omega, hW, hH, hp⟩, hK, hM⟩, (C2.below B1.out).trans g⟩
end

end Go.Proofs.YtgaogkggbccfnaaDoor

namespace Go.Proofs.YtgaogkggbccfnaaDoor
open Go.RowKit Go.Sort
set_option linter.unusedVariables false

/-- Ten cells are others now. -/
theorem row10 {Q : World} {T : Nat} {τ : TypeId} {a0 a1 a2 a3 a4 a5 a6 a7 a8 a9 : Value} (b0 b1 b2 b3 b4 b5 b6 b7 b8 b9 : Value) (h : Q.heap[T]? = some (.cells #[a0, a1, a2, a3, a4, a5, a6, a7, a8, a9] τ (0, 0))) : ((((((((((Q.setCell ⟨T, 0, none⟩ b0).setCell ⟨T, 1, none⟩ b1).setCell ⟨T, 2, none⟩ b2).setCell ⟨T, 3, none⟩ b3).setCell ⟨T, 4, none⟩ b4).setCell ⟨T, 5, none⟩ b5).setCell ⟨T, 6, none⟩ b6).setCell ⟨T, 7, none⟩ b7).setCell ⟨T, 8, none⟩ b8).setCell ⟨T, 9, none⟩ b9).heap[T]? = some (.cells #[b0, b1, b2, b3, b4, b5, b6, b7, b8, b9] τ (0, 0)) := by
  have h : (Q.setCell ⟨T, 0, none⟩ b0).heap[T]? = some (.cells #[b0, a1, a2, a3, a4, a5, a6, a7, a8, a9] τ (0, 0)) := heap_setCell_same Q T 0 _ _ b0 h
  have h : ((Q.setCell ⟨T, 0, none⟩ b0).setCell ⟨T, 1, none⟩ b1).heap[T]? = some (.cells #[b0, b1, a2, a3, a4, a5, a6, a7, a8, a9] τ (0, 0)) := heap_setCell_same (Q.setCell ⟨T, 0, none⟩ b0) T 1 _ _ b1 h
  have h : (((Q.setCell ⟨T, 0, none⟩ b0).setCell ⟨T, 1, none⟩ b1).setCell ⟨T, 2, none⟩ b2).heap[T]? = some (.cells #[b0, b1, b2, a3, a4, a5, a6, a7, a8, a9] τ (0, 0)) := heap_setCell_same ((Q.setCell ⟨T, 0, none⟩ b0).setCell ⟨T, 1, none⟩ b1) T 2 _ _ b2 h
  have h : ((((Q.setCell ⟨T, 0, none⟩ b0).setCell ⟨T, 1, none⟩ b1).setCell ⟨T, 2, none⟩ b2).setCell ⟨T, 3, none⟩ b3).heap[T]? = some (.cells #[b0, b1, b2, b3, a4, a5, a6, a7, a8, a9] τ (0, 0)) := heap_setCell_same (((Q.setCell ⟨T, 0, none⟩ b0).setCell ⟨T, 1, none⟩ b1).setCell ⟨T, 2, none⟩ b2) T 3 _ _ b3 h
  have h : (((((Q.setCell ⟨T, 0, none⟩ b0).setCell ⟨T, 1, none⟩ b1).setCell ⟨T, 2, none⟩ b2).setCell ⟨T, 3, none⟩ b3).setCell ⟨T, 4, none⟩ b4).heap[T]? = some (.cells #[b0, b1, b2, b3, b4, a5, a6, a7, a8, a9] τ (0, 0)) := heap_setCell_same ((((Q.setCell ⟨T, 0, none⟩ b0).setCell ⟨T, 1, none⟩ b1).setCell ⟨T, 2, none⟩ b2).setCell ⟨T, 3, none⟩ b3) T 4 _ _ b4 h
  have h : ((((((Q.setCell ⟨T, 0, none⟩ b0).setCell ⟨T, 1, none⟩ b1).setCell ⟨T, 2, none⟩ b2).setCell ⟨T, 3, none⟩ b3).setCell ⟨T, 4, none⟩ b4).setCell ⟨T, 5, none⟩ b5).heap[T]? = some (.cells #[b0, b1, b2, b3, b4, b5, a6, a7, a8, a9] τ (0, 0)) := heap_setCell_same (((((Q.setCell ⟨T, 0, none⟩ b0).setCell ⟨T, 1, none⟩ b1).setCell ⟨T, 2, none⟩ b2).setCell ⟨T, 3, none⟩ b3).setCell ⟨T, 4, none⟩ b4) T 5 _ _ b5 h
  have h : (((((((Q.setCell ⟨T, 0, none⟩ b0).setCell ⟨T, 1, none⟩ b1).setCell ⟨T, 2, none⟩ b2).setCell ⟨T, 3, none⟩ b3).setCell ⟨T, 4, none⟩ b4).setCell ⟨T, 5, none⟩ b5).setCell ⟨T, 6, none⟩ b6).heap[T]? = some (.cells #[b0, b1, b2, b3, b4, b5, b6, a7, a8, a9] τ (0, 0)) := heap_setCell_same ((((((Q.setCell ⟨T, 0, none⟩ b0).setCell ⟨T, 1, none⟩ b1).setCell ⟨T, 2, none⟩ b2).setCell ⟨T, 3, none⟩ b3).setCell ⟨T, 4, none⟩ b4).setCell ⟨T, 5, none⟩ b5) T 6 _ _ b6 h
  have h : ((((((((Q.setCell ⟨T, 0, none⟩ b0).setCell ⟨T, 1, none⟩ b1).setCell ⟨T, 2, none⟩ b2).setCell ⟨T, 3, none⟩ b3).setCell ⟨T, 4, none⟩ b4).setCell ⟨T, 5, none⟩ b5).setCell ⟨T, 6, none⟩ b6).setCell ⟨T, 7, none⟩ b7).heap[T]? = some (.cells #[b0, b1, b2, b3, b4, b5, b6, b7, a8, a9] τ (0, 0)) := heap_setCell_same (((((((Q.setCell ⟨T, 0, none⟩ b0).setCell ⟨T, 1, none⟩ b1).setCell ⟨T, 2, none⟩ b2).setCell ⟨T, 3, none⟩ b3).setCell ⟨T, 4, none⟩ b4).setCell ⟨T, 5, none⟩ b5).setCell ⟨T, 6, none⟩ b6) T 7 _ _ b7 h
  have h : (((((((((Q.setCell ⟨T, 0, none⟩ b0).setCell ⟨T, 1, none⟩ b1).setCell ⟨T, 2, none⟩ b2).setCell ⟨T, 3, none⟩ b3).setCell ⟨T, 4, none⟩ b4).setCell ⟨T, 5, none⟩ b5).setCell ⟨T, 6, none⟩ b6).setCell ⟨T, 7, none⟩ b7).setCell ⟨T, 8, none⟩ b8).heap[T]? = some (.cells #[b0, b1, b2, b3, b4, b5, b6, b7, b8, a9] τ (0, 0)) := heap_setCell_same ((((((((Q.setCell ⟨T, 0, none⟩ b0).setCell ⟨T, 1, none⟩ b1).setCell ⟨T, 2, none⟩ b2).setCell ⟨T, 3, none⟩ b3).setCell ⟨T, 4, none⟩ b4).setCell ⟨T, 5, none⟩ b5).setCell ⟨T, 6, none⟩ b6).setCell ⟨T, 7, none⟩ b7) T 8 _ _ b8 h
  have h : ((((((((((Q.setCell ⟨T, 0, none⟩ b0).setCell ⟨T, 1, none⟩ b1).setCell ⟨T, 2, none⟩ b2).setCell ⟨T, 3, none⟩ b3).setCell ⟨T, 4, none⟩ b4).setCell ⟨T, 5, none⟩ b5).setCell ⟨T, 6, none⟩ b6).setCell ⟨T, 7, none⟩ b7).setCell ⟨T, 8, none⟩ b8).setCell ⟨T, 9, none⟩ b9).heap[T]? = some (.cells #[b0, b1, b2, b3, b4, b5, b6, b7, b8, b9] τ (0, 0)) := heap_setCell_same (((((((((Q.setCell ⟨T, 0, none⟩ b0).setCell ⟨T, 1, none⟩ b1).setCell ⟨T, 2, none⟩ b2).setCell ⟨T, 3, none⟩ b3).setCell ⟨T, 4, none⟩ b4).setCell ⟨T, 5, none⟩ b5).setCell ⟨T, 6, none⟩ b6).setCell ⟨T, 7, none⟩ b7).setCell ⟨T, 8, none⟩ b8) T 9 _ _ b9 h
  exact h

set_option maxRecDepth 100000 in
theorem tres_bad (T : Nat) (W H : Int) (w : World) (h : ¬ ((1 ≤ W ∧ W ≤ 400) ∧ (1 ≤ H ∧ H ≤ 400))) : Calls Tryd.prog 11 #[.pointer (some ⟨T, 0, none⟩), .int .i64 W, .int .i64 H] w fun e w' => e = .returned (.int .i64 6) ∧ w' = w := by
  have NB : Hid (Calls Tryd.prog 19 #[.int .i64 W, .int .i64 H] w fun e w' => e = .returned (.tuple #[.pointer none, .int .i64 6]) ∧ w' = w) := tnew_bad W H w h
  clear h
  go_enter Tryd.func11, Tryd.ntmps11
  go_wp2_with fail
  refine NB.out.mono ?_
  rintro e w1 ⟨rfl, hw⟩
  obtain rfl := hw.symm
  go_wp2
  go_ret
  exact ⟨rfl, rfl⟩
set_option maxRecDepth 100000 in
theorem rres_bad (T : Nat) (W H : Int) (w : World) (h : ¬ ((1 ≤ W ∧ W ≤ 400) ∧ (1 ≤ H ∧ H ≤ 400))) : Calls Tryd.prog 13 #[.pointer (some ⟨T, 0, none⟩), .int .i64 W, .int .i64 H] w fun e w' => e = .returned (.int .i64 6) ∧ w' = w := by
  have NB : Hid (Calls Tryd.prog 20 #[.int .i64 W, .int .i64 H] w fun e w' => e = .returned (.tuple #[.pointer none, .int .i64 6]) ∧ w' = w) := rterm_bad W H w h
  clear h
  go_enter Tryd.func13, Tryd.ntmps13
  go_wp2_with fail
  refine NB.out.mono ?_
  rintro e w1 ⟨rfl, hw⟩
  obtain rfl := hw.symm
  go_wp2
  go_ret
  exact ⟨rfl, rfl⟩
/-- As a new one. -/
structure RRs (w w' : World) (T W H : Nat) : Prop where
  rt : ∃ K M cap B bc, RT w' T K M cap B bc (rm0 W H) ∧ w.heap.size ≤ K ∧ w.heap.size ≤ M ∧ w.heap.size ≤ B
  c3 : C3 T T T w w'

section
variable {T K M cap B bc : Nat} {s : Rm}
set_option maxRecDepth 100000 in
set_option maxHeartbeats 4000000 in
theorem rres_ok (w : World) (h : RT w T K M cap B bc s) (W H : Nat) (hW : 1 ≤ W ∧ W ≤ 400) (hH : 1 ≤ H ∧ H ≤ 400) : Calls Tryd.prog 13 #[.pointer (some ⟨T, 0, none⟩), .int .i64 W, .int .i64 H] w fun e w' => e = .returned (.int .i64 0) ∧ RRs w w' T W H := by
  have NO : Hid (Calls Tryd.prog 20 #[.int .i64 W, .int .i64 H] w fun e w' => ∃ T B bc, e = .returned (.tuple #[.pointer (some ⟨T, 0, none⟩), .int .i64 0]) ∧ RNw w w' T B bc W H) := rterm_new W H w hW hH
  have HM : Hid (RT w T K M cap B bc s) := h
  have hlt := h.lt
  obtain ⟨n, hn⟩ : ∃ n, W * H = n := ⟨_, rfl⟩
  have HN : Hid (W * H = n) := hn
  clear h hn
  go_enter Tryd.func13, Tryd.ntmps13
  go_wp2_with fail
  refine NO.out.mono ?_
  rintro e w1 ⟨T', B', bc', rfl, ⟨⟨K', M', cap', h1, hK, hM⟩, hT, hB, b1⟩⟩
  have H1 : Hid (RT w1 T' K' M' cap' B' bc' (rm0 W H)) := h1
  have HO : Hid (RT w1 T K M cap B bc s) := HM.out.below b1
  have B1 : Hid (Below w.heap.size w w1) := b1
  clear h1
  have c0 : w1.cell? ⟨T', 0, none⟩ = some (.pointer (some ⟨K', 0, none⟩)) := H1.out.at rfl
  have c1 : w1.cell? ⟨T', 1, none⟩ = some (.int .i64 0) := H1.out.at rfl
  have c2 : w1.cell? ⟨T', 2, none⟩ = some (.int .i64 0) := H1.out.at rfl
  have c3 : w1.cell? ⟨T', 3, none⟩ = some (.int .i64 0) := H1.out.at rfl
  have c4 : w1.cell? ⟨T', 4, none⟩ = some (.int .i64 0) := H1.out.at rfl
  have c5 : w1.cell? ⟨T', 5, none⟩ = some (.int .i64 0) := H1.out.at rfl
  have c6 : w1.cell? ⟨T', 6, none⟩ = some (.string ⟨#[]⟩) := H1.out.at rfl
  have c7 : w1.cell? ⟨T', 7, none⟩ = some (.int .i64 (-1)) := H1.out.at rfl
  have c8 : w1.cell? ⟨T', 8, none⟩ = some (.int .i64 0) := H1.out.at rfl
  have c9 : w1.cell? ⟨T', 9, none⟩ = some (.slice (some ⟨B', 0, none⟩) n bc') := by rw [← HN.out]; exact H1.out.at rfl
  have d0 : w1.cell? ⟨T, 0, none⟩ = some (.pointer (some ⟨K, 0, none⟩)) := HO.out.at rfl
  have d1 : w1.cell? ⟨T, 1, none⟩ = some (.int .i64 s.x) := HO.out.at rfl
  have d2 : w1.cell? ⟨T, 2, none⟩ = some (.int .i64 s.y) := HO.out.at rfl
  have d3 : w1.cell? ⟨T, 3, none⟩ = some (.int .i64 s.f) := HO.out.at rfl
  have d4 : w1.cell? ⟨T, 4, none⟩ = some (.int .i64 s.g) := HO.out.at rfl
  have d5 : w1.cell? ⟨T, 5, none⟩ = some (.int .i64 s.b) := HO.out.at rfl
  have d6 : w1.cell? ⟨T, 6, none⟩ = some (.string s.q) := HO.out.at rfl
  have d7 : w1.cell? ⟨T, 7, none⟩ = some (.int .i64 s.la) := HO.out.at rfl
  have d8 : w1.cell? ⟨T, 8, none⟩ = some (.int .i64 s.mks) := HO.out.at rfl
  have d9 : w1.cell? ⟨T, 9, none⟩ = some (.slice (some ⟨B, 0, none⟩) (s.W * s.H) bc) := HO.out.at rfl
  have fz := HO.out.fz
  clear b1 NO HM
  go_wp2
  go_ret
  have g := (((((((((((C3.refl T T T w1).set 0 (.pointer (some ⟨K', 0, none⟩))).set 1 (.int .i64 0)).set 2 (.int .i64 0)).set 3 (.int .i64 0)).set 4 (.int .i64 0)).set 5 (.int .i64 0)).set 6 (.string ⟨#[]⟩)).set 7 (.int .i64 (-1))).set 8 (.int .i64 0)).set 9 (.slice (some ⟨B', 0, none⟩) n bc'))
  have hb := row10 (.pointer (some ⟨K', 0, none⟩)) (.int .i64 0) (.int .i64 0) (.int .i64 0) (.int .i64 0) (.int .i64 0) (.string ⟨#[]⟩) (.int .i64 (-1)) (.int .i64 0) (.slice (some ⟨B', 0, none⟩) n bc') HO.out.tb
  refine ⟨rfl, ⟨K', M', cap', B', bc', ⟨?_, ⟨(g.block K' H1.out.cs.klt (by omega) (by omega) (by omega)).trans H1.out.cs.kb, H1.out.cs.cv.keep (g.block M' H1.out.cs.cv.lt (by omega) (by omega) (by omega)), H1.out.cs.ne, H1.out.cs.hc⟩, H1.out.bv.keep (g.block B' H1.out.bv.lt (by omega) (by omega) (by omega)), by omega, by omega, by omega, H1.out.kB, H1.out.mB, H1.out.hb, hW, hH, pall1 W H⟩, hK, hM, hB⟩, (C3.below B1.out).trans g⟩
  have e0 : rtc K' B' bc' (rm0 W H) = #[.pointer (some ⟨K', 0, none⟩), .int .i64 0, .int .i64 0, .int .i64 0, .int .i64 0, .int .i64 0, .string ⟨#[]⟩, .int .i64 (-1), .int .i64 0, .slice (some ⟨B', 0, none⟩) n bc'] := by
    show #[_, _, _, _, _, _, _, _, _, Value.slice (some ⟨B', 0, none⟩) (W * H) bc'] = _
    rw [HN.out]
    rfl
  rw [e0]
  exact hb
end

end Go.Proofs.YtgaogkggbccfnaaDoor

namespace Go.Proofs.YtgaogkggbccfnaaDoor
open Go.RowKit Go.Sort
set_option linter.unusedVariables false

section
variable {T K M cap : Nat} {s : Tm} {nv : Value}
set_option maxRecDepth 100000 in
set_option maxHeartbeats 1000000 in
theorem tstyle_any (w : World) (h : TM w T K M cap s nv) : Calls Tryd.prog 17 #[.pointer (some ⟨T, 0, none⟩)] w fun e w' => e = .returned (sv s.r.f s.r.g s.r.b) ∧ Gr w w' := by
  have HM : Hid (TM w T K M cap s nv) := h
  clear h
  go_enter Tryd.func17, Tryd.ntmps17
  go_upto_region 1 with fail
  obtain ⟨S, hS⟩ : ∃ z, w.heap.size = z := ⟨_, rfl⟩
  obtain ⟨W0, hW0⟩ : ∃ z, w.alloc (.cells #[.int .i64 0, .int .i64 0, .int .i64 0] 42) = z := ⟨_, rfl⟩
  have G0 : Hid (Gr w W0) := by rw [← hW0]; exact (Gr.refl w).alloc _
  have R0 : Hid (R3 42 W0 S 0 0 0) := by rw [← hW0, ← hS]; exact R3.new w 0 0 0 _
  have H0 : Hid (TM W0 T K M cap s nv) := HM.out.gr G0.out
  rw [hW0, hS]
  have HS : Hid (w.heap.size = S) := hS
  clear hW0 hS
  have c3 : W0.cell? ⟨T, 3, none⟩ = some (.int .i64 s.r.f) := H0.out.at rfl
  have c4 : W0.cell? ⟨T, 4, none⟩ = some (.int .i64 s.r.g) := H0.out.at rfl
  have c5 : W0.cell? ⟨T, 5, none⟩ = some (.int .i64 s.r.b) := H0.out.at rfl
  have z0 := R0.out.c0
  have z1 := R0.out.c1
  have z2 := R0.out.c2
  have zf := R0.out.fz
  go_wp2
  refine bodyPost_ret (results_cell_row rfl _ _ S _ _ _ _ rfl (R0.out.set s.r.f s.r.g s.r.b) Tryd.underlying42 rfl (by kernel_rfl)) rfl ?_
  exact ⟨rfl, ((G0.out.set (by rw [HS.out]; exact Nat.le_refl _) _).set (by rw [HS.out]; exact Nat.le_refl _) _).set (by rw [HS.out]; exact Nat.le_refl _) _⟩

/-- A terminal, while another one is written. -/
theorem TM.c2 {w w' : World} {U N : Nat} (h : TM w T K M cap s nv) (g : C2 U N w w') (h1 : T ≠ U ∧ T ≠ N) (h2 : K ≠ U ∧ K ≠ N) (h3 : M ≠ U ∧ M ≠ N) : TM w' T K M cap s nv :=
  ⟨(g.block T h.lt h1.1 h1.2).trans h.tb, ⟨(g.block K h.cs.klt h2.1 h2.2).trans h.cs.kb, h.cs.cv.keep (g.block M h.cs.cv.lt h3.1 h3.2), h.cs.ne, h.cs.hc⟩, h.tk, h.tm, h.hW, h.hH, h.pa⟩
theorem Nx.c2 {w w' : World} {v : Value} {st : St} {U N : Nat} (h : Nx w T M v st) (g : C2 U N w w') (hu : ∀ k, (∃ c t, w.heap[k]? = some (.cells c t (0, 0))) → v ≠ fnV 28 #[] → k ≠ U ∧ k ≠ N) : Nx w' T M v st := by
  cases st with
  | out => exact h
  | esc => exact h
  | amid hh =>
    obtain ⟨k, h1, h2, h3, h4⟩ := h
    have q := hu k ⟨_, _, h4⟩ (by rw [h1]; intro e; simp [fnV] at e)
    exact ⟨k, h1, h2, h3, (g.block k (Array.getElem?_eq_some_iff.1 h4).1 q.1 q.2).trans h4⟩
  | wth l a =>
    obtain ⟨k, h1, h2, h3, h4⟩ := h
    have q := hu k ⟨_, _, h4⟩ (by rw [h1]; intro e; simp [fnV] at e)
    exact ⟨k, h1, h2, h3, h4.c2 g q.1 q.2⟩
end

end Go.Proofs.YtgaogkggbccfnaaDoor

namespace Go.Proofs.YtgaogkggbccfnaaDoor
open Go.RowKit Go.Sort
set_option linter.unusedVariables false

section
variable {M M' cap cap' W H : Nat} {c : Nat → Nat → Ce}
set_option maxRecDepth 100000 in
set_option maxHeartbeats 4000000 in
theorem lcells_any (w : World) (h : Cv 45 w M W H c) (h' : Cv 85 w M' W H c) (n : Nat) (hn : W * H = n) (nb : n ≤ 160000) : Calls Tryd.prog 22 #[.slice (some ⟨M, 0, none⟩) n cap, .slice (some ⟨M', 0, none⟩) n cap'] w fun e w' => e = .returned (.bool true) ∧ Gr w w' := by
  have HL : Hid (∀ e w, Calls Tryd.prog 35 #[cev e] w fun r w' => r = .returned (cev e) ∧ Gr w w') := cell_any
  have HV : Hid (Cv 45 w M W H c) := h
  have HV' : Hid (Cv 85 w M' W H c) := h'
  have HN : Hid (W * H = n) := hn
  clear h h' hn
  go_enter Tryd.func22, Tryd.ntmps22
  go_wp2_with fail
  go_loopw [5] (fun iv wi => ∃ i : Nat, i ≤ n ∧ iv = .int .i64 i ∧ Hid (Gr w wi)) (fun iv _ => n - (intOf iv).toNat)
  case atStart => exact ⟨0, by omega, rfl, Gr.refl w⟩
  case round =>
    obtain ⟨i, hi, rfl, HI⟩ := hrel
    by_cases hil : i < n
    · obtain ⟨y, x, hy, hx, hix⟩ := lin_split (by rw [HN.out]; exact hil)
      have eo : y * W * 5 + x * 5 = i * 5 := by rw [hix, Nat.add_mul]
      have V1 := HV.out.gr HI.out
      have V2 := HV'.out.gr HI.out
      have d0 := V1.c0 hy hx
      have d1 := V1.c1 hy hx
      have d2 := V1.c2 hy hx
      have d3 := V1.c3 hy hx
      have d4 := V1.c4 hy hx
      have q0 := V2.c0 hy hx
      have q1 := V2.c1 hy hx
      have q2 := V2.c2 hy hx
      have q3 := V2.c3 hy hx
      have q4 := V2.c4 hy hx
      rw [eo] at d0 d1 d2 d3 d4 q0 q1 q2 q3 q4
      have hil' : (i : Int) < (n : Int) := by omega
      obtain ⟨e, he⟩ : ∃ e, c y x = e := ⟨_, rfl⟩
      rw [he] at d0 d1 d2 d3 d4 q0 q1 q2 q3 q4
      obtain ⟨t, f, g, b, p⟩ := e
      have CA : Hid (∀ w, Calls Tryd.prog 35 #[.agg #[.string t, .int .i64 f, .int .i64 g, .int .i64 b, .int .i64 p]] w fun r w' => r = .returned (.agg #[.string t, .int .i64 f, .int .i64 g, .int .i64 b, .int .i64 p]) ∧ Gr w w') := fun w => HL.out ⟨t, f, g, b, p⟩ w
      have a0 := cell_grown V1.lt d0
      have a1 := cell_grown V1.lt d1
      have a2 := cell_grown V1.lt d2
      have a3 := cell_grown V1.lt d3
      have a4 := cell_grown V1.lt d4
      have b0 := cell_grown V2.lt q0
      have b1 := cell_grown V2.lt q1
      have b2 := cell_grown V2.lt q2
      have b3 := cell_grown V2.lt q3
      have b4 := cell_grown V2.lt q4
      clear eo hix V1 V2 he d0 d1 d2 d3 d4 q0 q1 q2 q3 q4
      go_wp2_with fail
      have hmix : Tryd.prog.follows .mixedOrders = true := by kernel_rfl
      go_quiet_grown (first | (go_at_call 35; exact Calls.grown_of (CA.out _)))
      have HG : Hid (Gr w (grow (wr.drewN nq) osq)) := HI.out.trans ⟨nq, osq, rfl⟩
      go_wp2
      go_roundw
      case rel => exact ⟨i + 1, by omega, by go_num, HG.out⟩
      case measure => simp [intOf]; omega
    · have hil' : ¬ (i : Int) < (n : Int) := by omega
      go_wp2
      go_ret
      exact ⟨rfl, HI.out⟩
end
end Go.Proofs.YtgaogkggbccfnaaDoor

namespace Go.Proofs.YtgaogkggbccfnaaDoor
open Go.RowKit Go.Sort
set_option linter.unusedVariables false

section
variable {M cap W H : Nat} {c : Nat → Nat → Ce}
set_option maxRecDepth 100000 in
set_option maxHeartbeats 4000000 in
theorem smear_any (w : World) (h : Cv 45 w M W H c) (n : Nat) (hn : W * H = n) (nb : n ≤ 160000) : Calls Tryd.prog 23 #[.slice (some ⟨M, 0, none⟩) n cap] w fun e w' => e = .returned (.tuple #[]) ∧ Ch M w w' := by
  have HV : Hid (Cv 45 w M W H c) := h
  have HN : Hid (W * H = n) := hn
  clear h hn
  go_enter Tryd.func23, Tryd.ntmps23
  go_wp2_with fail
  go_loopw [2] (fun iv wi => ∃ i : Nat, i ≤ n ∧ iv = .int .i64 i ∧ Hid ((∃ c', Cv 45 wi M W H c') ∧ Ch M w wi)) (fun iv _ => n - (intOf iv).toNat)
  case atStart => exact ⟨0, by omega, rfl, ⟨_, HV.out⟩, Ch.refl M w⟩
  case round =>
    obtain ⟨i, hi, rfl, HI⟩ := hrel
    by_cases hil : i < n
    · obtain ⟨y, x, hy, hx, hix⟩ := lin_split (by rw [HN.out]; exact hil)
      obtain ⟨c', hc'⟩ := HI.out.1
      have HC : Hid (Cv 45 wr M W H c') := hc'
      have eo : y * W * 5 + x * 5 = i * 5 := by rw [hix, Nat.add_mul]
      have EO : Hid (y * W * 5 + x * 5 = i * 5) := eo
      have d0 := hc'.c0 hy hx
      have d1 := hc'.c1 hy hx
      have d2 := hc'.c2 hy hx
      have d3 := hc'.c3 hy hx
      have d4 := hc'.c4 hy hx
      rw [eo] at d0 d1 d2 d3 d4
      have fz := hc'.fz
      have hil' : (i : Int) < (n : Int) := by omega
      clear eo hix hc'
      go_wp2
      go_roundw
      case rel =>
        have VS := HC.out.set hy hx ⟨⟨#[63]⟩, 0, 0, 0, 7⟩
        rw [EO.out] at VS
        exact ⟨i + 1, by omega, by go_num, ⟨_, VS⟩, HI.out.2.set5 _ _ _ _ _⟩
      case measure => simp [intOf]; omega
    · have hil' : ¬ (i : Int) < (n : Int) := by omega
      go_wp2
      go_end0
      exact ⟨rfl, HI.out.2⟩
end
end Go.Proofs.YtgaogkggbccfnaaDoor

namespace Go.Proofs.YtgaogkggbccfnaaDoor
open Go.RowKit Go.Sort
set_option linter.unusedVariables false

section
variable {T K M cap T2 K2 M2 cap2 B bc : Nat} {t : Tm} {nv : Value} {q : ByteArray} {la mks : Int} {wv : Nat → Bool}
set_option maxRecDepth 100000 in
set_option maxHeartbeats 16000000 in
theorem shows_yes (w : World) (h : TM w T K M cap t nv) (r : RT w T2 K2 M2 cap2 B bc (mkR t q la mks wv)) : Calls Tryd.prog 14 #[.pointer (some ⟨T, 0, none⟩), .pointer (some ⟨T2, 0, none⟩)] w fun e w' => e = .returned (.bool true) ∧ Below w.heap.size w w' := by
  have hmix : Tryd.prog.follows .mixedOrders = true := by kernel_rfl
  obtain ⟨n, hn⟩ : ∃ n, t.W * t.H = n := ⟨_, rfl⟩
  have hnb : n ≤ 160000 := by rw [← hn]; exact Nat.le_trans (Nat.mul_le_mul h.hW.2 h.hH.2) (by decide)
  have HN : Hid (t.W * t.H = n) := hn
  have HT : Hid (TM w T K M cap t nv) := h
  have HR : Hid (RT w T2 K2 M2 cap2 B bc (mkR t q la mks wv)) := r
  have TC : Hid (∀ w, TM w T K M cap t nv → Calls Tryd.prog 15 #[.pointer (some ⟨T, 0, none⟩)] w fun e w' => ∃ N cap', e = .returned (.slice (some ⟨N, 0, none⟩) n cap') ∧ Cv 45 w' N t.W t.H t.c ∧ w.heap.size ≤ N ∧ Below w.heap.size w w') := fun w h => by have := tcells_any w h; rw [hn] at this; exact this
  have TS : Hid (∀ w, TM w T K M cap t nv → Calls Tryd.prog 17 #[.pointer (some ⟨T, 0, none⟩)] w fun e w' => e = .returned (.agg #[.int .i64 t.r.f, .int .i64 t.r.g, .int .i64 t.r.b]) ∧ Gr w w') := fun w h => tstyle_any w h
  have LK : Hid (∀ w, Calls Tryd.prog 25 #[.agg #[.int .i64 t.r.f, .int .i64 t.r.g, .int .i64 t.r.b]] w fun e w' => e = .returned (.agg #[.int .i64 t.r.f, .int .i64 t.r.g, .int .i64 t.r.b]) ∧ Gr w w') := fun w => look_any t.r.f t.r.g t.r.b w
  clear h r hn
  go_enter Tryd.func14, Tryd.ntmps14
  go_wp2_with fail
  refine (TC.out w HT.out).mono ?_
  rintro e w1 ⟨A1, ca1, rfl, v1, hA1, b1⟩
  have T1 : Hid (TM w1 T K M cap t nv) := HT.out.below b1
  have R1 : Hid (RT w1 T2 K2 M2 cap2 B bc (mkR t q la mks wv)) := HR.out.below b1
  have V1 : Hid (Cv 45 w1 A1 t.W t.H t.c) := v1
  have B1 : Hid (Below w.heap.size w w1) := b1
  clear v1 b1
  go_wp2_with fail
  refine (TC.out w1 T1.out).mono ?_
  rintro e w2 ⟨A2, ca2, rfl, v2, hA2, b2⟩
  have T2' : Hid (TM w2 T K M cap t nv) := T1.out.below b2
  have R2 : Hid (RT w2 T2 K2 M2 cap2 B bc (mkR t q la mks wv)) := R1.out.below b2
  have V12 : Hid (Cv 45 w2 A1 t.W t.H t.c) := V1.out.keep (b2.block _ V1.out.lt)
  have V22 : Hid (Cv 45 w2 A2 t.W t.H t.c) := v2
  have B2 : Hid (Below w.heap.size w w2) := B1.out.trans (b2.mono B1.out.size)
  have hA12 : A1 ≠ A2 := by have := V1.out.lt; omega
  have hA1T : A1 ≠ T ∧ A1 ≠ K ∧ A1 ≠ M ∧ A1 ≠ T2 ∧ A1 ≠ K2 ∧ A1 ≠ M2 ∧ A1 ≠ B := by
    have h1 := HT.out.lt; have h2 := HT.out.cs.klt; have h3 := HT.out.cs.cv.lt
    have h4 := HR.out.lt; have h5 := HR.out.cs.klt; have h6 := HR.out.cs.cv.lt; have h7 := HR.out.bv.lt
    omega
  clear v2 b2 T1 R1 V1 B1 hA2
  have t0 : w2.cell? ⟨T2, 0, none⟩ = some (.pointer (some ⟨K2, 0, none⟩)) := R2.out.at rfl
  have k2 : w2.cell? ⟨K2, 2, none⟩ = some (.slice (some ⟨M2, 0, none⟩) n cap2) := by rw [← HN.out]; exact R2.out.cs.k2
  have CC : Hid (Calls Tryd.prog 22 #[.slice (some ⟨A1, 0, none⟩) n ca1, .slice (some ⟨M2, 0, none⟩) n cap2] w2 fun e w' => e = .returned (.bool true) ∧ Gr w2 w') := lcells_any w2 V12.out R2.out.cs.cv n HN.out hnb
  go_wp2_with fail
  refine CC.out.mono ?_
  rintro e w3 ⟨rfl, g3⟩
  have T3 : Hid (TM w3 T K M cap t nv) := T2'.out.gr g3
  have R3 : Hid (RT w3 T2 K2 M2 cap2 B bc (mkR t q la mks wv)) := R2.out.gr g3
  have V13 : Hid (Cv 45 w3 A1 t.W t.H t.c) := V12.out.gr g3
  have V23 : Hid (Cv 45 w3 A2 t.W t.H t.c) := V22.out.gr g3
  have B3 : Hid (Below w.heap.size w w3) := B2.out.trans (g3.below.mono B2.out.size)
  clear g3 T2' R2 V12 V22 B2 CC t0 k2
  have SM : Hid (Calls Tryd.prog 23 #[.slice (some ⟨A1, 0, none⟩) n ca1] w3 fun e w' => e = .returned (.tuple #[]) ∧ Ch A1 w3 w') := smear_any w3 V13.out n HN.out hnb
  go_wp2_with fail
  refine SM.out.mono ?_
  rintro e w4 ⟨rfl, g4⟩
  have T4 : Hid (TM w4 T K M cap t nv) := T3.out.c2 (U := A1) (N := A1) ⟨g4.os, g4.tape, g4.output, g4.size, fun b h1 h2 _ => g4.block b h1 h2⟩ ⟨by omega, by omega⟩ ⟨by omega, by omega⟩ ⟨by omega, by omega⟩
  have R4 : Hid (RT w4 T2 K2 M2 cap2 B bc (mkR t q la mks wv)) := by
    have r := R3.out
    exact ⟨(g4.block T2 r.lt (by omega)).trans r.tb, ⟨(g4.block K2 r.cs.klt (by omega)).trans r.cs.kb, r.cs.cv.keep (g4.block M2 r.cs.cv.lt (by omega)), r.cs.ne, r.cs.hc⟩, r.bv.keep (g4.block B r.bv.lt (by omega)), r.tk, r.tm, r.tB, r.kB, r.mB, r.hb, r.hW, r.hH, r.pa⟩
  have V24 : Hid (Cv 45 w4 A2 t.W t.H t.c) := V23.out.keep (g4.block A2 V23.out.lt (fun e => hA12 e.symm))
  have B4 : Hid (Below w.heap.size w w4) := ⟨g4.os.trans B3.out.os, g4.tape.trans B3.out.tape, g4.output.trans B3.out.output, Nat.le_trans B3.out.size g4.size, fun b hb => (g4.block b (Nat.lt_of_lt_of_le hb B3.out.size) (by omega)).trans (B3.out.block b hb)⟩
  clear g4 T3 R3 V13 V23 B3 SM
  have t0 : w4.cell? ⟨T2, 0, none⟩ = some (.pointer (some ⟨K2, 0, none⟩)) := R4.out.at rfl
  have k2 : w4.cell? ⟨K2, 2, none⟩ = some (.slice (some ⟨M2, 0, none⟩) n cap2) := by rw [← HN.out]; exact R4.out.cs.k2
  have CC : Hid (Calls Tryd.prog 22 #[.slice (some ⟨A2, 0, none⟩) n ca2, .slice (some ⟨M2, 0, none⟩) n cap2] w4 fun e w' => e = .returned (.bool true) ∧ Gr w4 w') := lcells_any w4 V24.out R4.out.cs.cv n HN.out hnb
  go_wp2_with fail
  refine CC.out.mono ?_
  rintro e w5 ⟨rfl, g5⟩
  have T5 : Hid (TM w5 T K M cap t nv) := T4.out.gr g5
  have R5' : Hid (RT w5 T2 K2 M2 cap2 B bc (mkR t q la mks wv)) := R4.out.gr g5
  have B5 : Hid (Below w.heap.size w w5) := B4.out.trans (g5.below.mono B4.out.size)
  clear g5 T4 R4 V24 B4 CC t0 k2
  go_wp2_with fail
  refine (cursor_any w5 T5.out).mono ?_
  rintro e w6 ⟨rfl, g6⟩
  have T6 : Hid (TM w6 T K M cap t nv) := T5.out.gr g6
  have R6 : Hid (RT w6 T2 K2 M2 cap2 B bc (mkR t q la mks wv)) := R5'.out.gr g6
  have B6 : Hid (Below w.heap.size w w6) := B5.out.trans (g6.below.mono B5.out.size)
  clear g6 T5 R5' B5
  go_wp2_with fail
  refine (tsize_any w6 T6.out).mono ?_
  rintro e w7 ⟨rfl, g7⟩
  have T7 : Hid (TM w7 T K M cap t nv) := T6.out.gr g7
  have R7 : Hid (RT w7 T2 K2 M2 cap2 B bc (mkR t q la mks wv)) := R6.out.gr g7
  have B7 : Hid (Below w.heap.size w w7) := B6.out.trans (g7.below.mono B6.out.size)
  clear g7 T6 R6 B6
  go_wp2_with fail
  refine (TS.out w7 T7.out).mono ?_
  rintro e w8 ⟨rfl, g8⟩
  have R8 : Hid (RT w8 T2 K2 M2 cap2 B bc (mkR t q la mks wv)) := R7.out.gr g8
  have B8 : Hid (Below w.heap.size w w8) := B7.out.trans (g8.below.mono B7.out.size)
  clear g8 T7 R7 B7 TS TC
  obtain ⟨f, hf⟩ : ∃ z, t.r.f = z := ⟨_, rfl⟩
  obtain ⟨g, hg⟩ : ∃ z, t.r.g = z := ⟨_, rfl⟩
  obtain ⟨b, hb⟩ : ∃ z, t.r.b = z := ⟨_, rfl⟩
  obtain ⟨x, hx⟩ : ∃ z, t.r.x = z := ⟨_, rfl⟩
  obtain ⟨y, hy⟩ : ∃ z, t.r.y = z := ⟨_, rfl⟩
  have HE : Hid ((t.r.f = f ∧ t.r.g = g ∧ t.r.b = b) ∧ t.r.x = x ∧ t.r.y = y) := ⟨⟨hf, hg, hb⟩, hx, hy⟩
  rw [hf, hg, hb] at LK ⊢
  rw [hx, hy]
  clear hf hg hb hx hy
  go_wp2_with fail
  obtain ⟨W9, hW9⟩ : ∃ z, w8.alloc (.cells #[.int .i64 f, .int .i64 g, .int .i64 b] 42) = z := ⟨_, rfl⟩
  obtain ⟨S, hS⟩ : ∃ z, w8.heap.size = z := ⟨_, rfl⟩
  have G9 : Hid (Gr w8 W9) := by rw [← hW9]; exact (Gr.refl w8).alloc _
  have S9 : Hid (R3 42 W9 S f g b) := by rw [← hW9, ← hS]; exact R3.new w8 f g b _
  have R9 : Hid (RT W9 T2 K2 M2 cap2 B bc (mkR t q la mks wv)) := R8.out.gr G9.out
  rw [hW9, hS]
  clear hW9 hS R8
  have l1 := R9.out.lt
  have l2 := R9.out.cs.klt
  have l3 := S9.out.lt
  have d0 := cell_grown (a := ⟨T2, 0, none⟩) l1 (show W9.cell? ⟨T2, 0, none⟩ = some (.pointer (some ⟨K2, 0, none⟩)) from R9.out.at rfl)
  have d1 := cell_grown (a := ⟨T2, 1, none⟩) l1 (show W9.cell? ⟨T2, 1, none⟩ = some (.int .i64 x) from by rw [← HE.out.2.1]; exact R9.out.at rfl)
  have d2 := cell_grown (a := ⟨T2, 2, none⟩) l1 (show W9.cell? ⟨T2, 2, none⟩ = some (.int .i64 y) from by rw [← HE.out.2.2]; exact R9.out.at rfl)
  have d3 := cell_grown (a := ⟨T2, 3, none⟩) l1 (show W9.cell? ⟨T2, 3, none⟩ = some (.int .i64 f) from by rw [← HE.out.1.1]; exact R9.out.at rfl)
  have d4 := cell_grown (a := ⟨T2, 4, none⟩) l1 (show W9.cell? ⟨T2, 4, none⟩ = some (.int .i64 g) from by rw [← HE.out.1.2.1]; exact R9.out.at rfl)
  have d5 := cell_grown (a := ⟨T2, 5, none⟩) l1 (show W9.cell? ⟨T2, 5, none⟩ = some (.int .i64 b) from by rw [← HE.out.1.2.2]; exact R9.out.at rfl)
  have k0 := cell_grown (a := ⟨K2, 0, none⟩) l2 (show W9.cell? ⟨K2, 0, none⟩ = some (.int .i64 t.W) from R9.out.cs.k0)
  have k1 := cell_grown (a := ⟨K2, 1, none⟩) l2 (show W9.cell? ⟨K2, 1, none⟩ = some (.int .i64 t.H) from R9.out.cs.k1)
  have s0 := cell_grown (a := ⟨S, 0, none⟩) l3 S9.out.c0
  have s1 := cell_grown (a := ⟨S, 1, none⟩) l3 S9.out.c1
  have s2 := cell_grown (a := ⟨S, 2, none⟩) l3 S9.out.c2
  clear l1 l2 l3
  go_quiet_grown (first | (go_at_call 25; exact Calls.grown_of (LK.out _)))
  have HG : Hid (Below w.heap.size w (grow (W9.drewN nq) osq)) := B8.out.trans ((G9.out.trans ⟨nq, osq, rfl⟩).below.mono B8.out.size)
  go_wp2
  go_ret
  exact ⟨rfl, HG.out⟩
end

end Go.Proofs.YtgaogkggbccfnaaDoor

namespace Go.Proofs.YtgaogkggbccfnaaDoor
open Go.RowKit Go.Sort
set_option linter.unusedVariables false

theorem cut_list (x : ByteArray) (a b : Nat) (h : a ≤ b) (hb : b ≤ x.size) : x.data.toList.take a ++ (x.extract a b).data.toList = x.data.toList.take b := by
  have e : (x.extract a b).data.toList = (x.data.toList.take b).drop a := by
    rw [ByteArray.data_extract, Array.toList_extract]
    simp [List.extract, List.drop_take]
  rw [e]
  have h2 : (x.data.toList.take b).take a = x.data.toList.take a := by rw [List.take_take, Nat.min_eq_left h]
  rw [← h2, List.take_append_drop]
theorem C2.low {T M : Nat} {w0 w w' : World} (g : C2 T M w w') (b : Below w0.heap.size w0 w) (hT : w0.heap.size ≤ T) (hM : w0.heap.size ≤ M) : Below w0.heap.size w0 w' :=
  ⟨g.os.trans b.os, g.tape.trans b.tape, g.output.trans b.output, Nat.le_trans b.size g.size, fun k hk => (g.block k (Nat.lt_of_lt_of_le hk b.size) (by omega) (by omega)).trans (b.block k hk)⟩

/-- A terminal that has read l. -/
structure At2 (w : World) (T K M cap W H : Nat) (l : List UInt8) : Prop where
  tm : ∃ nv, TM w T K M cap (runT (tm0 W H, .out) l).1 nv ∧ Nx w T M nv (runT (tm0 W H, .out) l).2
  ti : Ti (runT (tm0 W H, .out) l).1
  si : Si (runT (tm0 W H, .out) l).2
/-- It reads m more. -/
theorem At2.write {w : World} {T K M cap W H : Nat} {l : List UInt8} (h : At2 w T K M cap W H l) (x : ByteArray) (hx : x.size ≤ 9223372036854775807) (ht : TabAt w) (hU : Utf w) (hfar : Far T M) :
    Calls Tryd.prog 9 #[.pointer (some ⟨T, 0, none⟩), .string x] w fun e w' => e = .returned (.tuple #[]) ∧ At2 w' T K M cap W H (l ++ x.data.toList) ∧ C2 T M w w' := by
  obtain ⟨nv, h1, h2⟩ := h.tm
  refine (write_any x hx w h1 h2 h.ti h.si ht hU hfar).mono fun e w' q => ?_
  obtain ⟨q1, ⟨nv', q2, q3⟩, q4, q5, q6⟩ := q
  have e2 : runT ((runT (tm0 W H, .out) l).1, (runT (tm0 W H, .out) l).2) x.data.toList = runT (tm0 W H, .out) (l ++ x.data.toList) := (runT_append _ _ _).symm
  rw [e2] at q2 q3 q4 q5
  exact ⟨q1, ⟨⟨nv', q2, q3⟩, q4, q5⟩, q6⟩

end Go.Proofs.YtgaogkggbccfnaaDoor

namespace Go.Proofs.YtgaogkggbccfnaaDoor
open Go.RowKit Go.Sort
set_option linter.unusedVariables false

/-- Blocks of two types are two. -/
theorem ne_type {w : World} {b b' : Nat} {a a' : Array Value} {τ τ' : TypeId} (h : w.heap[b]? = some (.cells a τ (0, 0))) (h' : w.heap[b']? = some (.cells a' τ' (0, 0))) (hτ : τ ≠ τ') : b ≠ b' := by
  intro e
  subst e
  rw [h] at h'
  injection h' with h'
  injection h' with _ h' _
  exact hτ h'
section
variable {w w' : World} {T K M cap T2 K2 M2 cap2 B bc : Nat} {t : Tm} {nv : Value} {st : St} {s : Rm}
/-- The program's terminal and the document's lie apart. -/
structure Apt (T K M T2 K2 M2 B : Nat) : Prop where
  t2 : T ≠ T2 ∧ T ≠ K2 ∧ T ≠ M2 ∧ T ≠ B
  k2 : K ≠ T2 ∧ K ≠ K2 ∧ K ≠ M2 ∧ K ≠ B
  m2 : M ≠ T2 ∧ M ≠ K2 ∧ M ≠ M2 ∧ M ≠ B
theorem apt (h : TM w T K M cap t nv) (r : RT w T2 K2 M2 cap2 B bc s) : Apt T K M T2 K2 M2 B := by
  obtain ⟨a, ha⟩ := h.cs.cv.arr
  obtain ⟨b, hb⟩ := r.cs.cv.arr
  obtain ⟨c, hc⟩ := r.bv.arr
  exact ⟨⟨ne_type h.tb r.tb (by decide), ne_type h.tb r.cs.kb (by decide), ne_type h.tb hb (by decide), ne_type h.tb hc (by decide)⟩,
    ⟨ne_type h.cs.kb r.tb (by decide), ne_type h.cs.kb r.cs.kb (by decide), ne_type h.cs.kb hb (by decide), ne_type h.cs.kb hc (by decide)⟩,
    ⟨ne_type ha r.tb (by decide), ne_type ha r.cs.kb (by decide), ne_type ha hb (by decide), ne_type ha hc (by decide)⟩⟩
theorem RT.c2 (r : RT w T2 K2 M2 cap2 B bc s) (g : C2 T M w w') (a : Apt T K M T2 K2 M2 B) : RT w' T2 K2 M2 cap2 B bc s :=
  ⟨(g.block T2 r.lt (fun e => a.t2.1 e.symm) (fun e => a.m2.1 e.symm)).trans r.tb, ⟨(g.block K2 r.cs.klt (fun e => a.t2.2.1 e.symm) (fun e => a.m2.2.1 e.symm)).trans r.cs.kb, r.cs.cv.keep (g.block M2 r.cs.cv.lt (fun e => a.t2.2.2.1 e.symm) (fun e => a.m2.2.2.1 e.symm)), r.cs.ne, r.cs.hc⟩, r.bv.keep (g.block B r.bv.lt (fun e => a.t2.2.2.2 e.symm) (fun e => a.m2.2.2.2 e.symm)), r.tk, r.tm, r.tB, r.kB, r.mB, r.hb, r.hW, r.hH, r.pa⟩
theorem TM.c3 (h : TM w T K M cap t nv) (g : C3 T2 M2 B w w') (a : Apt T K M T2 K2 M2 B) : TM w' T K M cap t nv :=
  ⟨(g.block T h.lt a.t2.1 a.t2.2.2.1 a.t2.2.2.2).trans h.tb, ⟨(g.block K h.cs.klt a.k2.1 a.k2.2.2.1 a.k2.2.2.2).trans h.cs.kb, h.cs.cv.keep (g.block M h.cs.cv.lt a.m2.1 a.m2.2.2.1 a.m2.2.2.2), h.cs.ne, h.cs.hc⟩, h.tk, h.tm, h.hW, h.hH, h.pa⟩
theorem Nx.c3 {v : Value} (h : Nx w T M v st) (r : RT w T2 K2 M2 cap2 B bc s) (g : C3 T2 M2 B w w') : Nx w' T M v st := by
  obtain ⟨b, hb⟩ := r.cs.cv.arr
  obtain ⟨c, hc⟩ := r.bv.arr
  cases st with
  | out => exact h
  | esc => exact h
  | amid hh =>
    obtain ⟨k, h1, h2, h3, h4⟩ := h
    exact ⟨k, h1, h2, h3, (g.block k (Array.getElem?_eq_some_iff.1 h4).1 (ne_type h4 r.tb (by decide)) (ne_type h4 hb (by decide)) (ne_type h4 hc (by decide))).trans h4⟩
  | wth l a =>
    obtain ⟨k, h1, h2, h3, h4⟩ := h
    exact ⟨k, h1, h2, h3, (g.block k (Array.getElem?_eq_some_iff.1 h4).1 (ne_type h4 r.tb (by decide)) (ne_type h4 hb (by decide)) (ne_type h4 hc (by decide))).trans h4⟩
theorem Nx.below {v : Value} (h : Nx w T M v st) (g : Below w.heap.size w w') : Nx w' T M v st := by
  cases st with
  | out => exact h
  | esc => exact h
  | amid hh =>
    obtain ⟨k, h1, h2, h3, h4⟩ := h
    exact ⟨k, h1, h2, h3, (g.block k (Array.getElem?_eq_some_iff.1 h4).1).trans h4⟩
  | wth l a =>
    obtain ⟨k, h1, h2, h3, h4⟩ := h
    exact ⟨k, h1, h2, h3, (g.block k (Array.getElem?_eq_some_iff.1 h4).1).trans h4⟩
end

/-- A step's own block stays. -/
def KeepO (w w' : World) : Prop := ∀ (b : Nat) (a : Array Value), w.heap[b]? = some (Obj.cells a 29 (0, 0)) → w'.heap[b]? = w.heap[b]?
theorem KeepO.below {w w' : World} (g : Below w.heap.size w w') : KeepO w w' := fun b a h => g.block b (Array.getElem?_eq_some_iff.1 h).1
/-- Both: the program's at p, the document's at d, at most k bytes half come. -/
structure Bt (w0 w : World) (T T2 : Nat) (p d : Tm × St) (k : Nat) : Prop where
  tm : ∃ K M cap nv, TM w T K M cap p.1 nv ∧ Nx w T M nv p.2 ∧ w0.heap.size ≤ M
  ti : Ti p.1
  si : Si p.2
  rt : ∃ K2 M2 cap2 B bc s wv, RT w T2 K2 M2 cap2 B bc s ∧ Docd d.1 d.2 wv s ∧ s.q.size ≤ k ∧ w0.heap.size ≤ M2 ∧ w0.heap.size ≤ B
  td : Ti d.1
  sd : Si d.2
  t0 : w0.heap.size ≤ T
  t2 : w0.heap.size ≤ T2
  bel : Below w0.heap.size w0 w
section
variable {w0 w w' : World} {T T2 : Nat} {p d : Tm × St} {k : Nat}
theorem Bt.below (h : Bt w0 w T T2 p d k) (g : Below w.heap.size w w') : Bt w0 w' T T2 p d k := by
  obtain ⟨K, M, cap, nv, a1, a2, a3⟩ := h.tm
  obtain ⟨K2, M2, cap2, B, bc, s, wv, b1, b2, b3, b4, b5⟩ := h.rt
  exact ⟨⟨K, M, cap, nv, a1.below g, a2.below g, a3⟩, h.ti, h.si, ⟨K2, M2, cap2, B, bc, s, wv, b1.below g, b2, b3, b4, b5⟩, h.td, h.sd, h.t0, h.t2, h.bel.trans (g.mono h.bel.size)⟩
theorem Bt.mono (h : Bt w0 w T T2 p d k) {k' : Nat} (hk : k ≤ k') : Bt w0 w T T2 p d k' := by
  obtain ⟨K2, M2, cap2, B, bc, s, wv, b1, b2, b3, b4, b5⟩ := h.rt
  exact ⟨h.tm, h.ti, h.si, ⟨K2, M2, cap2, B, bc, s, wv, b1, b2, by omega, b4, b5⟩, h.td, h.sd, h.t0, h.t2, h.bel⟩
theorem Bt.writeT (h : Bt w0 w T T2 p d k) (x : ByteArray) (hx : x.size ≤ 9223372036854775807) (ht : TabAt w0) (hU : Utf w0) (hg : 2 < w0.heap.size) :
    Calls Tryd.prog 9 #[.pointer (some ⟨T, 0, none⟩), .string x] w fun e w' => e = .returned (.tuple #[]) ∧ Bt w0 w' T T2 (runT p x.data.toList) d k ∧ KeepO w w' := by
  obtain ⟨K, M, cap, nv, a1, a2, a3⟩ := h.tm
  obtain ⟨K2, M2, cap2, B, bc, s, wv, b1, b2, b3, b4, b5⟩ := h.rt
  have hsz := hU.sz
  have t0 := h.t0
  have hfar : Far T M := ⟨by omega, by omega, by omega⟩
  refine (write_any x hx w a1 a2 h.ti h.si (ht.below h.bel) (hU.below h.bel) hfar).mono fun e w' q => ?_
  obtain ⟨q1, ⟨nv', q2, q3⟩, q4, q5, q6⟩ := q
  exact ⟨q1, ⟨⟨K, M, cap, nv', q2, q3, a3⟩, q4, q5, ⟨K2, M2, cap2, B, bc, s, wv, b1.c2 q6 (apt a1 b1), b2, b3, b4, b5⟩, h.td, h.sd, h.t0, h.t2, q6.low h.bel h.t0 a3⟩, fun b a hb => by
    obtain ⟨c, hc⟩ := a1.cs.cv.arr
    exact q6.block b (Array.getElem?_eq_some_iff.1 hb).1 (ne_type hb a1.tb (by decide)) (ne_type hb hc (by decide))⟩
theorem C3.low {T M B : Nat} (g : C3 T M B w w') (b : Below w0.heap.size w0 w) (hT : w0.heap.size ≤ T) (hM : w0.heap.size ≤ M) (hB : w0.heap.size ≤ B) : Below w0.heap.size w0 w' :=
  ⟨g.os.trans b.os, g.tape.trans b.tape, g.output.trans b.output, Nat.le_trans b.size g.size, fun k hk => (g.block k (Nat.lt_of_lt_of_le hk b.size) (by omega) (by omega) (by omega)).trans (b.block k hk)⟩
theorem docd_wh {t : Tm} {st : St} {wv : Nat → Bool} {s : Rm} (h : Docd t st wv s) : s.W = t.W ∧ s.H = t.H := by
  obtain ⟨q, la, mks, rfl, _⟩ := h
  exact ⟨rfl, rfl⟩
theorem ti_si_run (p : Tm × St) (hW : 1 ≤ p.1.W) (hH : 1 ≤ p.1.H) (hi : Ti p.1) (hs : Si p.2) : ∀ l : List UInt8, Ti (runT p l).1 ∧ Si (runT p l).2
  | [] => ⟨hi, hs⟩
  | b :: l => by
    have q := step_ok hi hs hW hH b
    have e := wh_step p.1 b p.2
    have eW : (stepT p.1 b p.2).1.W = p.1.W := congrArg Prod.fst e
    have eH : (stepT p.1 b p.2).1.H = p.1.H := congrArg Prod.snd e
    exact ti_si_run (stepT p.1 b p.2) (by rw [eW]; exact hW) (by rw [eH]; exact hH) q.1 q.2 l
theorem Bt.writeD (h : Bt w0 w T T2 p d k) (x : ByteArray) (hx : k + x.size + 1 ≤ 4611686018427387904) :
    Calls Tryd.prog 10 #[.pointer (some ⟨T2, 0, none⟩), .string x] w fun e w' => e = .returned (.tuple #[]) ∧ Bt w0 w' T T2 p (runT d x.data.toList) (k + x.size) := by
  obtain ⟨K, M, cap, nv, a1, a2, a3⟩ := h.tm
  obtain ⟨K2, M2, cap2, B, bc, s, wv, b1, b2, b3, b4, b5⟩ := h.rt
  have hwh := docd_wh b2
  have hrun := ti_si_run d (by rw [← hwh.1]; exact b1.hW.1) (by rw [← hwh.2]; exact b1.hH.1) h.td h.sd x.data.toList
  refine (rwrite_any x w (T := T2) (M := M2) (B := B) (bc := bc) (p := d) (wv := wv) (k := k) ⟨⟨K2, M2, cap2, s, b1, b2, b3, .inl rfl⟩, C3.refl _ _ _ _⟩ h.td h.sd hx).mono fun e w' q => ?_
  obtain ⟨q1, ⟨⟨K', M', cap', s', r', q2, q3, q4⟩, q5⟩⟩ := q
  have hs0 := h.bel.size
  exact ⟨q1, ⟨⟨K, M, cap, nv, a1.c3 q5 (apt a1 b1), a2.c3 b1 q5, a3⟩, h.ti, h.si, ⟨K', M', cap', B, bc, s', _, r', q2, q3, by rcases q4 with e | e <;> omega, b5⟩, hrun.1, hrun.2, h.t0, h.t2, q5.low h.bel h.t2 b4 b5⟩⟩
theorem Bt.resT (h : Bt w0 w T T2 p d k) (W H : Nat) (hW : 1 ≤ W ∧ W ≤ 400) (hH : 1 ≤ H ∧ H ≤ 400) :
    Calls Tryd.prog 11 #[.pointer (some ⟨T, 0, none⟩), .int .i64 W, .int .i64 H] w fun e w' => e = .returned (.int .i64 0) ∧ Bt w0 w' T T2 (tm0 W H, .out) d k ∧ KeepO w w' := by
  obtain ⟨K, M, cap, nv, a1, a2, a3⟩ := h.tm
  obtain ⟨K2, M2, cap2, B, bc, s, wv, b1, b2, b3, b4, b5⟩ := h.rt
  have ap := apt a1 b1
  refine (resize_any w a1 W H hW hH (pall0 W H)).mono fun e w' q => ?_
  obtain ⟨q1, ⟨⟨K', M', q2, q3, q4⟩, q5⟩⟩ := q
  have hs0 := h.bel.size
  have ap2 : Apt T K T T2 K2 M2 B := ⟨ap.t2, ap.k2, ap.t2⟩
  exact ⟨q1, ⟨⟨K', M', _, _, q2, rfl, by omega⟩, ti0 W H hH.1, trivial, ⟨K2, M2, cap2, B, bc, s, wv, b1.c2 q5 ap2, b2, b3, b4, b5⟩, h.td, h.sd, h.t0, h.t2, q5.low h.bel h.t0 h.t0⟩, fun b a hb => q5.block b (Array.getElem?_eq_some_iff.1 hb).1 (ne_type hb a1.tb (by decide)) (ne_type hb a1.tb (by decide))⟩
theorem Bt.resD (h : Bt w0 w T T2 p d k) (W H : Nat) (hW : 1 ≤ W ∧ W ≤ 400) (hH : 1 ≤ H ∧ H ≤ 400) :
    Calls Tryd.prog 13 #[.pointer (some ⟨T2, 0, none⟩), .int .i64 W, .int .i64 H] w fun e w' => e = .returned (.int .i64 0) ∧ Bt w0 w' T T2 p (tm0 W H, .out) 0 ∧ KeepO w w' := by
  obtain ⟨K, M, cap, nv, a1, a2, a3⟩ := h.tm
  obtain ⟨K2, M2, cap2, B, bc, s, wv, b1, b2, b3, b4, b5⟩ := h.rt
  have ap := apt a1 b1
  refine (rres_ok w b1 W H hW hH).mono fun e w' q => ?_
  obtain ⟨q1, ⟨⟨K', M', cap', B', bc', q2, q3, q4, q5⟩, q6⟩⟩ := q
  have hs0 := h.bel.size
  have ap2 : Apt T K M T2 K2 T2 T2 := ⟨⟨ap.t2.1, ap.t2.2.1, ap.t2.1, ap.t2.1⟩, ⟨ap.k2.1, ap.k2.2.1, ap.k2.1, ap.k2.1⟩, ⟨ap.m2.1, ap.m2.2.1, ap.m2.1, ap.m2.1⟩⟩
  have q7 : C3 T2 M2 B w w' := ⟨q6.os, q6.tape, q6.output, q6.size, fun b h1 h2 _ _ => q6.block b h1 h2 h2 h2⟩
  exact ⟨q1, ⟨⟨K, M, cap, nv, a1.c3 q7 ap, a2.c3 b1 q7, a3⟩, h.ti, h.si, ⟨K', M', cap', B', bc', rm0 W H, _, q2, docd0 W H, Nat.le_refl _, by omega, by omega⟩, ti0 W H hH.1, trivial, h.t0, h.t2, q7.low h.bel h.t2 b4 b5⟩, fun b a hb => q6.block b (Array.getElem?_eq_some_iff.1 hb).1 (ne_type hb b1.tb (by decide)) (ne_type hb b1.tb (by decide)) (ne_type hb b1.tb (by decide))⟩
theorem Bt.shows (h : Bt w0 w T T2 p p k) : Calls Tryd.prog 14 #[.pointer (some ⟨T, 0, none⟩), .pointer (some ⟨T2, 0, none⟩)] w fun e w' => e = .returned (.bool true) ∧ Bt w0 w' T T2 p p k ∧ Below w.heap.size w w' := by
  obtain ⟨K, M, cap, nv, a1, a2, a3⟩ := h.tm
  obtain ⟨K2, M2, cap2, B, bc, s, wv, b1, b2, b3, b4, b5⟩ := h.rt
  obtain ⟨q, la, mks, rfl, _, _⟩ := b2
  exact (shows_yes w a1 b1).mono fun e w' q => ⟨q.1, h.below q.2, q.2⟩
end

set_option maxRecDepth 100000 in
set_option maxHeartbeats 2000000 in
theorem twin_two (W H : Nat) (w : World) (hW : 1 ≤ W ∧ W ≤ 400) (hH : 1 ≤ H ∧ H ≤ 400) : Calls Tryd.prog 8 #[.int .i64 W, .int .i64 H] w fun e w' => ∃ T T2, e = .returned (.tuple #[.pointer (some ⟨T, 0, none⟩), .pointer (some ⟨T2, 0, none⟩), .bool true]) ∧ Bt w w' T T2 (tm0 W H, .out) (tm0 W H, .out) 0 := by
  have N1 : Hid (Calls Tryd.prog 19 #[.int .i64 W, .int .i64 H] w fun e w' => ∃ T K M, e = .returned (.tuple #[.pointer (some ⟨T, 0, none⟩), .int .i64 0]) ∧ TM w' T K M (W * H) (tm0 W H) (fnV 28 #[]) ∧ w.heap.size ≤ T ∧ w.heap.size ≤ K ∧ w.heap.size ≤ M ∧ Below w.heap.size w w') := tnew_ok W H w hW hH (pall0 W H)
  have N2 : Hid (∀ w, Calls Tryd.prog 20 #[.int .i64 W, .int .i64 H] w fun e w' => ∃ T B bc, e = .returned (.tuple #[.pointer (some ⟨T, 0, none⟩), .int .i64 0]) ∧ RNw w w' T B bc W H) := fun w => rterm_new W H w hW hH
  go_enter Tryd.func8, Tryd.ntmps8
  go_wp2_with fail
  refine N1.out.mono ?_
  rintro e w1 ⟨T, K, M, rfl, hq⟩
  have HQ : Hid (TM w1 T K M (W * H) (tm0 W H) (fnV 28 #[]) ∧ w.heap.size ≤ T ∧ w.heap.size ≤ K ∧ w.heap.size ≤ M ∧ Below w.heap.size w w1) := hq
  clear hq
  go_wp2_with fail
  refine (N2.out w1).mono ?_
  rintro e w2 ⟨T2, B, bc, rfl, hr⟩
  have HB : Hid (Bt w w2 T T2 (tm0 W H, .out) (tm0 W H, .out) 0) := by
    obtain ⟨q1, q2, q3, q4, q5⟩ := HQ.out
    obtain ⟨⟨K2, M2, cap2, r1, r2, r3⟩, r4, r5, r6⟩ := hr
    have hs := q5.size
    exact ⟨⟨K, M, _, _, q1.below r6, rfl, q4⟩, ti0 W H hH.1, trivial, ⟨K2, M2, cap2, B, bc, rm0 W H, _, r1, docd0 W H, Nat.le_refl _, by omega, by omega⟩, ti0 W H hH.1, trivial, q2, by omega, q5.trans (r6.mono q5.size)⟩
  clear hr HQ
  go_wp2_with fail
  refine (tnum_any _ _).mono ?_
  rintro e w3 ⟨rfl, hw⟩
  obtain rfl := hw.symm
  go_wp2
  refine bodyPost_ret (v := .tuple #[.pointer (some ⟨T, 0, none⟩), .pointer (some ⟨T2, 0, none⟩), .bool true]) (by simp [results, Tryd.results8, go_sem]) rfl ?_
  exact ⟨T, T2, rfl, HB.out⟩

end Go.Proofs.YtgaogkggbccfnaaDoor

namespace Go.Proofs.YtgaogkggbccfnaaDoor
open Go.RowKit
set_option linter.unusedVariables false

structure OpR where
  kd : Int
  a : Int
  b : Int
  s : ByteArray
  t : ByteArray
  p : Option Addr
  m : Nat
  zs : List Int
/-- A script in memory. -/
def OpsIn (w : World) (v : Value) (n : Nat) (op : Nat → OpR) : Prop :=
  ∃ a cap, v = .slice a n cap ∧ (n = 0 ∨ ∃ b off, a = some ⟨b, off, none⟩ ∧ b < w.heap.size ∧ ∀ i, i < n →
    w.cell? ⟨b, off + i * 6, none⟩ = some (.int .i64 (op i).kd) ∧ w.cell? ⟨b, off + i * 6 + 1, none⟩ = some (.int .i64 (op i).a) ∧ w.cell? ⟨b, off + i * 6 + 2, none⟩ = some (.int .i64 (op i).b) ∧ w.cell? ⟨b, off + i * 6 + 3, none⟩ = some (.string (op i).s) ∧ w.cell? ⟨b, off + i * 6 + 4, none⟩ = some (.string (op i).t) ∧ w.cell? ⟨b, off + i * 6 + 5, none⟩ = some (.slice (op i).p (op i).zs.length (op i).m) ∧
    Ints w (.slice (op i).p (op i).zs.length (op i).m) (op i).zs)
end Go.Proofs.YtgaogkggbccfnaaDoor

namespace Go.Proofs.YtgaogkggbccfnaaDoor
open Go.RowKit Go.Sort
set_option linter.unusedVariables false

def bulk (op : Nat → OpR) : Nat → Nat
  | 0 => 0
  | i + 1 => bulk op i + (op i).s.size
theorem OpsIn.below {w w' : World} {v : Value} {n : Nat} {op : Nat → OpR} (h : OpsIn w v n op) (g : Below w.heap.size w w') : OpsIn w' v n op := by
  obtain ⟨a, cap, rfl, h⟩ := h
  refine ⟨a, cap, rfl, h.imp id ?_⟩
  rintro ⟨b, off, rfl, hb, hc⟩
  refine ⟨b, off, rfl, Nat.lt_of_lt_of_le hb g.size, fun i hi => ?_⟩
  obtain ⟨c0, c1, c2, c3, c4, c5, c6⟩ := hc i hi
  exact ⟨keepb g c0, keepb g c1, keepb g c2, keepb g c3, keepb g c4, keepb g c5, c6.below g⟩
/-- A step in a block of its own. -/
def R6 (w : World) (b : Nat) (r : OpR) : Prop := w.heap[b]? = some (.cells #[.int .i64 r.kd, .int .i64 r.a, .int .i64 r.b, .string r.s, .string r.t, .slice r.p r.zs.length r.m] 29 (0, 0))
theorem R6.keep {w w' : World} {b : Nat} {r : OpR} (h : R6 w b r) (g : KeepO w w') : R6 w' b r := (g b _ h).trans h
theorem R6.c1 {w : World} {b : Nat} {r : OpR} (h : R6 w b r) : w.cell? ⟨b, 1, none⟩ = some (.int .i64 r.a) := by unfold R6 at h; simp [World.cell?, h]
theorem R6.c2 {w : World} {b : Nat} {r : OpR} (h : R6 w b r) : w.cell? ⟨b, 2, none⟩ = some (.int .i64 r.b) := by unfold R6 at h; simp [World.cell?, h]
theorem R6.c3 {w : World} {b : Nat} {r : OpR} (h : R6 w b r) : w.cell? ⟨b, 3, none⟩ = some (.string r.s) := by unfold R6 at h; simp [World.cell?, h]

set_option maxRecDepth 100000 in
set_option maxHeartbeats 16000000 in
theorem tplays_ok (W H : Nat) (hW : 1 ≤ W ∧ W ≤ 400) (hH : 1 ≤ H ∧ H ≤ 400) (v : Value) (n : Nat) (op : Nat → OpR) (w : World) (h : OpsIn w v n op) (hn : n ≤ 1152921504606846976) (hsum : ∀ i, i ≤ n → bulk op i + 2 ≤ 4611686018427387904) (ht : TabAt w) (hU : Utf w) (hg : 2 < w.heap.size) :
    Calls Tryd.prog 3 #[.int .i64 W, .int .i64 H, v] w fun e w' => e = .returned (.bool true) ∧ Below w.heap.size w w' := by
  have hmix : Tryd.prog.follows .mixedOrders = true := by kernel_rfl
  have HO : Hid (OpsIn w v n op) := h
  have HS : Hid (∀ i, i ≤ n → bulk op i + 2 ≤ 4611686018427387904) := hsum
  have HT : Hid (TabAt w ∧ Utf w ∧ 2 < w.heap.size) := ⟨ht, hU, hg⟩
  have TW : Hid (Calls Tryd.prog 8 #[.int .i64 W, .int .i64 H] w fun e w' => ∃ T T2, e = .returned (.tuple #[.pointer (some ⟨T, 0, none⟩), .pointer (some ⟨T2, 0, none⟩), .bool true]) ∧ Bt w w' T T2 (tm0 W H, .out) (tm0 W H, .out) 0) := twin_two W H w hW hH
  obtain ⟨av, cv, rfl, _⟩ := h
  clear hsum ht hU hg
  go_enter Tryd.func3, Tryd.ntmps3
  go_wp2_with fail
  refine TW.out.mono ?_
  rintro e w1 ⟨T, T2, rfl, b1⟩
  have B1 : Hid (Bt w w1 T T2 (tm0 W H, .out) (tm0 W H, .out) 0) := b1
  clear b1 TW
  go_wp2_with fail
  go_loopw [9, 10] (fun okv iv wr => ∃ i : Nat, i ≤ n ∧ iv = .int .i64 i ∧ okv = .bool true ∧ Hid (∃ p, Bt w wr T T2 p p (bulk op i))) (fun _ iv _ => n - (intOf iv).toNat)
  case atStart => exact ⟨0, Nat.zero_le _, rfl, rfl, _, B1.out⟩
  case round =>
    obtain ⟨i, hi, rfl, rfl, HB⟩ := hrel
    by_cases hlt : i < n
    · have hlt' : (i : Int) < (n : Int) := by omega
      have hlt2 : (i : Int) < 1152921504606846976 := by omega
      obtain ⟨p, hp⟩ := HB.out
      obtain ⟨bb, off, rfl, hcs⟩ : ∃ b o, av = some ⟨b, o, none⟩ ∧ (wr.cell? ⟨b, o + i * 6, none⟩ = some (.int .i64 (op i).kd) ∧ wr.cell? ⟨b, o + i * 6 + 1, none⟩ = some (.int .i64 (op i).a) ∧ wr.cell? ⟨b, o + i * 6 + 2, none⟩ = some (.int .i64 (op i).b) ∧ wr.cell? ⟨b, o + i * 6 + 3, none⟩ = some (.string (op i).s) ∧ wr.cell? ⟨b, o + i * 6 + 4, none⟩ = some (.string (op i).t) ∧ wr.cell? ⟨b, o + i * 6 + 5, none⟩ = some (.slice (op i).p (op i).zs.length (op i).m)) := by
        obtain ⟨a, cap, e, h⟩ := HO.out.below hp.bel
        injection e with e1 e2 e3
        rcases h with h | ⟨b, o, h1, h2, h3⟩
        · omega
        · obtain ⟨c0, c1, c2, c3, c4, c5, _⟩ := h3 i hlt
          exact ⟨b, o, e1.trans h1, c0, c1, c2, c3, c4, c5⟩
      obtain ⟨r, hr⟩ : ∃ r, op i = r := ⟨_, rfl⟩
      rw [hr] at hcs
      obtain ⟨c0, c1, c2, c3, c4, c5⟩ := hcs
      have HR : Hid (op i = r) := hr
      have HP : Hid (Bt w wr T T2 p p (bulk op i)) := hp
      have HK : Hid (bulk op (i + 1) = bulk op i + r.s.size) := by show bulk op i + (op i).s.size = _; rw [hr]
      have hS := HS.out (i + 1) (by omega)
      rw [HK.out] at hS
      obtain ⟨W0, hW0⟩ : ∃ z, wr.alloc (.cells #[.int .i64 r.kd, .int .i64 r.a, .int .i64 r.b, .string r.s, .string r.t, .slice r.p r.zs.length r.m] 29) = z := ⟨_, rfl⟩
      obtain ⟨S, hSS⟩ : ∃ z, wr.heap.size = z := ⟨_, rfl⟩
      have O0 : Hid (R6 W0 S r) := by rw [← hW0, ← hSS]; exact heap_alloc_new _ _
      have P0 : Hid (Bt w W0 T T2 p p (bulk op i)) := by rw [← hW0]; exact hp.below ((Gr.refl wr).alloc _).below
      have HW0 : Hid (wr.alloc (.cells #[.int .i64 r.kd, .int .i64 r.a, .int .i64 r.b, .string r.s, .string r.t, .slice r.p r.zs.length r.m] 29) = W0 ∧ wr.heap.size = S) := ⟨hW0, hSS⟩
      clear hp hr HB hW0 hSS
      by_cases h1 : r.kd = 1
      · have e1 : (r.kd == 1) = true := by simpa using h1
        clear h1
        go_wp2_with fail
        rw [HW0.out.1, HW0.out.2]
        refine (P0.out.writeT r.s (by omega) HT.out.1 HT.out.2.1 HT.out.2.2).mono ?_
        rintro e w2 ⟨rfl, p2, k2⟩
        have P2 : Hid (Bt w w2 T T2 (runT p r.s.data.toList) p (bulk op i)) := p2
        have o3 : w2.cell? ⟨S, 3, none⟩ = some (.string r.s) := (O0.out.keep k2).c3
        clear p2 k2 P0 HP
        go_wp2_with fail
        refine (P2.out.writeD r.s (by omega)).mono ?_
        rintro e w3 ⟨rfl, p3⟩
        have P3 : Hid (Bt w w3 T T2 (runT p r.s.data.toList) (runT p r.s.data.toList) (bulk op (i + 1))) := by show Bt _ _ _ _ _ _ _; rw [HK.out]; exact p3
        clear p3 P2 o3
        go_wp2
        go_roundw
        case rel => exact ⟨i + 1, by omega, by go_num, rfl, _, P3.out⟩
        case measure => simp [intOf]; omega
      · have e1 : (r.kd == 1) = false := by simpa using h1
        clear h1
        by_cases h2 : r.kd = 2
        · have e2 : (r.kd == 2) = true := by simpa using h2
          clear h2
          by_cases hv : (1 ≤ r.a ∧ r.a ≤ 400) ∧ (1 ≤ r.b ∧ r.b ≤ 400)
          · obtain ⟨A, hA⟩ : ∃ A : Nat, r.a = A := ⟨r.a.toNat, by omega⟩
            obtain ⟨Bn, hB⟩ : ∃ B : Nat, r.b = B := ⟨r.b.toNat, by omega⟩
            have RS : Hid (Calls Tryd.prog 11 #[.pointer (some ⟨T, 0, none⟩), .int .i64 r.a, .int .i64 r.b] W0 fun e w' => e = .returned (.int .i64 0) ∧ Bt w w' T T2 (tm0 A Bn, .out) p (bulk op i) ∧ KeepO W0 w') := by rw [hA, hB]; exact P0.out.resT A Bn (by omega) (by omega)
            have HA : Hid (r.a = A ∧ r.b = Bn ∧ (1 ≤ A ∧ A ≤ 400) ∧ (1 ≤ Bn ∧ Bn ≤ 400)) := ⟨hA, hB, by omega, by omega⟩
            clear hA hB hv
            go_wp2_with fail
            rw [HW0.out.1, HW0.out.2]
            refine RS.out.mono ?_
            rintro e w2 ⟨rfl, p2, k2⟩
            have o1 : w2.cell? ⟨S, 1, none⟩ = some (.int .i64 r.a) := (O0.out.keep k2).c1
            have o2 : w2.cell? ⟨S, 2, none⟩ = some (.int .i64 r.b) := (O0.out.keep k2).c2
            have O2 : Hid (R6 w2 S r) := O0.out.keep k2
            have P2 : Hid (Bt w w2.drew T T2 (tm0 A Bn, .out) p (bulk op i)) := p2.below (Gr.refl _).drew.below
            have RD : Hid (Calls Tryd.prog 13 #[.pointer (some ⟨T2, 0, none⟩), .int .i64 r.a, .int .i64 r.b] w2.drew fun e w' => e = .returned (.int .i64 0) ∧ Bt w w' T T2 (tm0 A Bn, .out) (tm0 A Bn, .out) 0 ∧ KeepO w2.drew w') := by rw [HA.out.1, HA.out.2.1]; exact P2.out.resD A Bn HA.out.2.2.1 HA.out.2.2.2
            have NU : Hid (∀ w, Calls Tryd.prog 12 #[.int .i64 0] w fun e w' => e = .returned (.int .i64 0) ∧ w' = w) := tnum_any 0
            clear p2 k2 RS P0 HP
            go_wp2_with fail
            go_region_held (fun W_ => W_.cell? ⟨S, 1, none⟩ = some (.int .i64 r.a) ∧ W_.cell? ⟨S, 2, none⟩ = some (.int .i64 r.b)) (first | exact ⟨o1, o2⟩ | exact ⟨(O2.out.keep k3).c1, (O2.out.keep k3).c2⟩) (first | (go_at_call 12; refine Calls.mono (NU.out _) ?_; rintro e5 w5 ⟨rfl, rfl⟩) | (go_at_call 13; refine Calls.mono RD.out ?_; rintro e4 w4 ⟨rfl, p4, k3⟩))
            all_goals
              have P4 : Hid (Bt w w4 T T2 (tm0 A Bn, .out) (tm0 A Bn, .out) (bulk op (i + 1))) := p4.mono (Nat.zero_le _)
              clear p4 k3
              go_wp2
              go_roundw
              case rel => exact ⟨i + 1, by omega, by go_num, rfl, _, P4.out⟩
              case measure => simp [intOf]; omega
          · have RS : Hid (Calls Tryd.prog 11 #[.pointer (some ⟨T, 0, none⟩), .int .i64 r.a, .int .i64 r.b] W0 fun e w' => e = .returned (.int .i64 6) ∧ w' = W0) := tres_bad T r.a r.b W0 hv
            have RD : Hid (∀ w, Calls Tryd.prog 13 #[.pointer (some ⟨T2, 0, none⟩), .int .i64 r.a, .int .i64 r.b] w fun e w' => e = .returned (.int .i64 6) ∧ w' = w) := fun w => rres_bad T2 r.a r.b w hv
            have NU : Hid (∀ w, Calls Tryd.prog 12 #[.int .i64 6] w fun e w' => e = .returned (.int .i64 6) ∧ w' = w) := tnum_any 6
            clear hv
            go_wp2_with fail
            rw [HW0.out.1, HW0.out.2]
            refine RS.out.mono ?_
            rintro e w2 ⟨rfl, hw2⟩
            obtain rfl := hw2.symm
            have o1 : W0.cell? ⟨S, 1, none⟩ = some (.int .i64 r.a) := O0.out.c1
            have o2 : W0.cell? ⟨S, 2, none⟩ = some (.int .i64 r.b) := O0.out.c2
            clear RS HP
            go_wp2_with fail
            go_quiet (first | (go_at_call 12; exact Calls.quiet_of_same (NU.out _)) | (go_at_call 13; exact Calls.quiet_of_same (RD.out _)))
            have P4 : Hid (Bt w (W0.drewN nq) T T2 p p (bulk op (i + 1))) := (P0.out.below ((Gr.refl _).drewN _).below).mono (by rw [HK.out]; omega)
            clear P0
            go_wp2
            go_roundw
            case rel => exact ⟨i + 1, by omega, by go_num, rfl, _, P4.out⟩
            case measure => simp [intOf]; omega
        · have e2 : (r.kd == 2) = false := by simpa using h2
          clear h2
          go_wp2_with fail
          rw [HW0.out.1, HW0.out.2]
          refine (P0.out.shows).mono ?_
          rintro e w2 ⟨rfl, p2, k2⟩
          have P2 : Hid (Bt w w2 T T2 p p (bulk op (i + 1))) := p2.mono (by rw [HK.out]; omega)
          clear p2 k2 P0 HP
          go_wp2
          go_roundw
          case rel => exact ⟨i + 1, by omega, by go_num, rfl, _, P2.out⟩
          case measure => simp [intOf]; omega
    · have hlt' : ¬ (i : Int) < (n : Int) := by omega
      obtain ⟨p, hp⟩ := HB.out
      have HP : Hid (Bt w wr T T2 p p (bulk op i)) := hp
      clear hp
      go_wp2_with fail
      refine (HP.out.shows).mono ?_
      rintro e w2 ⟨rfl, p2, k2⟩
      have P2 : Hid (Below w.heap.size w w2) := p2.bel
      clear p2 k2
      go_wp2
      go_ret
      exact ⟨rfl, P2.out⟩

set_option maxRecDepth 100000 in
set_option maxHeartbeats 4000000 in
theorem tplays_bad (W H : Int) (v : Value) (w : World) (h : ¬ ((1 ≤ W ∧ W ≤ 400) ∧ (1 ≤ H ∧ H ≤ 400))) : Calls Tryd.prog 3 #[.int .i64 W, .int .i64 H, v] w fun e w' => e = .returned (.bool true) ∧ Below w.heap.size w w' := by
  have TW : Hid (Calls Tryd.prog 8 #[.int .i64 W, .int .i64 H] w fun e w' => e = .returned (.tuple #[.pointer none, .pointer none, .bool true]) ∧ w' = w) := twin_bad W H w h
  clear h
  go_enter Tryd.func3, Tryd.ntmps3
  go_wp2_with fail
  refine TW.out.mono ?_
  rintro e w1 ⟨rfl, hw⟩
  obtain rfl := hw.symm
  go_wp2
  go_ret
  exact ⟨rfl, Below.refl _ _⟩

end Go.Proofs.YtgaogkggbccfnaaDoor

namespace Go.Proofs.YtgaogkggbccfnaaDoor
open Go.ChangeShapes Go.WideShapes Go.ChangeAt Go.RowKit Go.Deep
set_option linter.unusedVariables false

theorem cellsO : Tryd.prog.cellsOf 29 = 6 := by kernel_rfl
theorem cells3 : Tryd.prog.cellsOf 3 = 1 := by kernel_rfl
theorem cells9 : Tryd.prog.cellsOf 9 = 1 := by kernel_rfl
theorem cellsI : Tryd.prog.cellsOf 27 = 1 := by kernel_rfl
theorem bulk_pos {H : Type} (d : DataW H) : 1 ≤ Rows.uptoBulk d := by
  cases d with
  | lit l => cases l <;> simp [Rows.uptoBulk]
  | _ => simp [Rows.uptoBulk]
theorem bulk_len {H : Type} : ∀ l : List (DataW H), l.length ≤ Rows.uptoBulkAll l
  | [] => Nat.zero_le _
  | d :: r => by
    have h1 := bulk_pos d
    have h2 := bulk_len r
    simp only [Rows.uptoBulkAll, List.length_cons]
    omega
theorem bulk_mem {H : Type} : ∀ {l : List (DataW H)} {d : DataW H}, d ∈ l → Rows.uptoBulk d ≤ Rows.uptoBulkAll l
  | d' :: r, d, h => by
    simp only [Rows.uptoBulkAll]
    rcases List.mem_cons.1 h with rfl | h
    · omega
    · have := bulk_mem h; omega

section
variable {H : Type} {enc : TypeId × Value → H} {w : World} {base : Nat} {spare : Nat → Bool} {held : Bool}

theorem int_of {v : Value} {n : Nat} {y : DataW H × List MemPlace} (h : DataW.trod enc Tryd.prog w base spare held n 3 [v] = some y) : ∃ x : Int, v = .int .i64 x := by
  obtain ⟨x, e, _⟩ := DataW.trod_int Tryd.underlying3 h
  injection e with e
  exact ⟨x, e⟩
theorem str_of {v : Value} {n : Nat} {y : DataW H × List MemPlace} (h : DataW.trod enc Tryd.prog w base spare held n 9 [v] = some y) : ∃ s : ByteArray, v = .string s ∧ y.1 = .lit (.string s.data.toList) := by
  obtain ⟨x, e, e2, _⟩ := DataW.trod_string Tryd.underlying9 h
  injection e with e
  exact ⟨x, e, by rw [e2]⟩
theorem ints_of {v : Value} {n : Nat} {y : DataW H × List MemPlace} (h : DataW.trod enc Tryd.prog w base spare held n 27 [v] = some y) : ∃ (p : Option Addr) (m : Nat) (zs : List Int), v = .slice p zs.length m ∧ Ints w v zs := by
  rcases open_ints Tryd.underlying27 Tryd.underlying3 cells3 h with ⟨hcs, _⟩ | ⟨x, l, c, zs, hcs, _, hl, hm, hz, hd, hcell, hwz⟩
  · injection hcs with hcs
    subst hcs
    exact ⟨none, 0, [], rfl, none, 0, rfl, .inl rfl⟩
  · injection hcs with hcs
    subst hcs
    have hlz : l ≤ zs.length := by rw [hz]; split <;> omega
    have hL : (zs.take l).length = l := by rw [List.length_take]; omega
    refine ⟨some x, c, zs.take l, by rw [hL], some x, c, by rw [hL], ?_⟩
    have hc : ∀ i, i < (zs.take l).length → w.cell? (x.add i) = some (.int .i64 ((zs.take l)[i]?.getD 0)) := by
      intro i hi
      rw [List.length_take] at hi
      rw [hcell i (by omega), List.getElem?_take, if_pos (by omega), List.getD_eq_getElem?_getD]
    by_cases h0 : zs.take l = []
    · exact .inl h0
    · have hp : 0 < (zs.take l).length := List.length_pos_iff.2 h0
      obtain ⟨b, off, rfl, hc'⟩ := ints_at (zs := zs.take l) (fun i hi => by rw [List.getD_eq_getElem?_getD]; exact hc i hi) hp
      refine .inr ⟨b, off, rfl, World.block_lt_of_cell? w ⟨b, off + 0, none⟩ (hc' 0 hp), fun j hj => ?_⟩
      rw [← List.getD_eq_getElem?_getD]; exact hc' j hj
set_option maxRecDepth 100000 in
/-- What is handed in is a step. -/
theorem op_of {cs : List Value} {n : Nat} {y : DataW H × List MemPlace} (hlen : cs.length = 6) (h : DataW.trod enc Tryd.prog w base spare held n 29 cs = some y) :
    ∃ r : OpR, cs = [.int .i64 r.kd, .int .i64 r.a, .int .i64 r.b, .string r.s, .string r.t, .slice r.p r.zs.length r.m] ∧ Ints w (.slice r.p r.zs.length r.m) r.zs ∧ r.s.size ≤ Rows.uptoBulk y.1 := by
  obtain ⟨xs, k, hk, hxy, _, hxl, hf⟩ := DataW.trod_struct Tryd.underlying29 h
  match xs, hxl, cs, hlen with
  | [y0, y1, y2, y3, y4, y5], _, [v0, v1, v2, v3, v4, v5], _ =>
    have g0 := hf 0 _ rfl
    have g1 := hf 1 _ rfl
    have g2 := hf 2 _ rfl
    have g3 := hf 3 _ rfl
    have g4 := hf 4 _ rfl
    have g5 := hf 5 _ rfl
    simp [cells3, cells9, cellsI] at g0 g1 g2 g3 g4 g5
    obtain ⟨x0, rfl⟩ := int_of g0
    obtain ⟨x1, rfl⟩ := int_of g1
    obtain ⟨x2, rfl⟩ := int_of g2
    obtain ⟨x3, rfl, e3⟩ := str_of g3
    obtain ⟨x4, rfl, e4⟩ := str_of g4
    obtain ⟨p, m, zs, rfl, hi⟩ := ints_of g5
    refine ⟨⟨x0, x1, x2, x3, x4, p, m, zs⟩, rfl, hi, ?_⟩
    rw [hxy]
    have e : x3.data.toList.length = x3.size := by rw [Array.length_toList]; rfl
    simp only [List.map_cons, List.map_nil, e3, Rows.uptoBulk, Rows.uptoBulkAll]
    omega

/-- What is handed in is a script. -/
theorem open_ops {fuel : Nat} {p : Option Addr} {len cap : Nat} {x : DataW H × List MemPlace} (h : DataW.trod enc Tryd.prog w base spare held fuel 22 [.slice p len cap] = some x) :
    ∃ op : Nat → OpR, OpsIn w (.slice p len cap) len op ∧ len ≤ Rows.uptoBulk x.1 ∧ ∀ i, i < len → (op i).s.size ≤ Rows.uptoBulk x.1 := by
  rcases open_slice Tryd.underlying22 h with ⟨h0, hx⟩ | ⟨ad, l, cp, m, n, D, Pl, h0, hb, hl, hm, hmm, rfl, hx⟩
  · injection h0 with h0
    injection h0 with h1 h2 h3
    subst h1 h2 h3
    exact ⟨fun _ => ⟨0, 0, 0, ⟨#[]⟩, ⟨#[]⟩, none, 0, []⟩, ⟨none, 0, rfl, .inl rfl⟩, Nat.zero_le _, fun i hi => absurd hi (by omega)⟩
  · injection h0 with h0
    injection h0 with h1 h2 h3
    subst h1 h2 h3
    have hlm : len ≤ m := by rw [hmm]; split <;> omega
    have each : ∀ i, i < m → ∃ r : OpR, w.cell? (ad.add (i * 6)) = some (.int .i64 r.kd) ∧ w.cell? (ad.add (i * 6 + 1)) = some (.int .i64 r.a) ∧ w.cell? (ad.add (i * 6 + 2)) = some (.int .i64 r.b) ∧ w.cell? (ad.add (i * 6 + 3)) = some (.string r.s) ∧ w.cell? (ad.add (i * 6 + 4)) = some (.string r.t) ∧ w.cell? (ad.add (i * 6 + 5)) = some (.slice r.p r.zs.length r.m) ∧ Ints w (.slice r.p r.zs.length r.m) r.zs ∧ r.s.size ≤ Rows.uptoBulk (D i) := by
      intro i hi
      obtain ⟨cs', h1, h2⟩ := hx i hi
      rw [cellsO] at h1
      obtain ⟨_, hlen, hcell⟩ := World.cells?_some h1
      obtain ⟨r, hr, hin, hbk⟩ := op_of hlen h2
      subst hr
      have e0 := hcell 0 (by omega)
      have e1 := hcell 1 (by omega)
      have e2 := hcell 2 (by omega)
      have e3 := hcell 3 (by omega)
      have e4 := hcell 4 (by omega)
      have e5 := hcell 5 (by omega)
      rw [add_add] at e0 e1 e2 e3 e4 e5
      exact ⟨r, by simpa using e0, by simpa using e1, by simpa using e2, by simpa using e3, by simpa using e4, by simpa using e5, hin, hbk⟩
    have inh : Inhabited OpR := ⟨⟨0, 0, 0, ⟨#[]⟩, ⟨#[]⟩, none, 0, []⟩⟩
    obtain ⟨q, hq⟩ := choose_lt each
    have hbulk : Rows.uptoBulkAll ((List.range len).map D) ≤ Rows.uptoBulk (DataW.slice ((List.range len).map D) ((List.range (m - len)).map fun j => D (len + j))) := by simp only [Rows.uptoBulk]; omega
    refine ⟨q, ⟨some ad, cap, rfl, ?_⟩, ?_, fun i hi => ?_⟩
    rotate_left
    · have := bulk_len ((List.range len).map D)
      simp only [List.length_map, List.length_range] at this
      exact Nat.le_trans this hbulk
    · refine Nat.le_trans (hq i (by omega)).2.2.2.2.2.2.2 (Nat.le_trans (bulk_mem ?_) hbulk)
      exact List.mem_map.2 ⟨i, List.mem_range.2 hi, rfl⟩
    by_cases hz : len = 0
    · exact .inl hz
    · right
      obtain ⟨b, off, spot⟩ := ad
      have hspot : spot = none := by simpa [Addr.add] using World.cell?_spot (hq 0 (by omega)).1
      subst hspot
      refine ⟨b, off, rfl, World.block_lt_of_cell? w ⟨b, off + 0 * 6, none⟩ (by rw [← Go.WideShapes.add_plain]; exact (hq 0 (by omega)).1), fun j hj => ?_⟩
      have hj8 := hq j (by omega)
      have := (⟨hj8.1, hj8.2.1, hj8.2.2.1, hj8.2.2.2.1, hj8.2.2.2.2.1, hj8.2.2.2.2.2.1, hj8.2.2.2.2.2.2.1⟩ : _ ∧ _ ∧ _ ∧ _ ∧ _ ∧ _ ∧ _)
      rw [Go.WideShapes.add_plain, Go.WideShapes.add_plain, Go.WideShapes.add_plain, Go.WideShapes.add_plain, Go.WideShapes.add_plain, Go.WideShapes.add_plain] at this
      simpa only [Nat.add_assoc] using this
end

end Go.Proofs.YtgaogkggbccfnaaDoor

namespace Go.Proofs.YtgaogkggbccfnaaDoor
open Go.ChangeShapes Go.WideShapes Go.RowKit
set_option linter.unusedVariables false

theorem laid_mem {P : Program} {w : World} : ∀ {l : List (String × DataW Unit)} {ps : List MemPlace}, DataW.LaidVars P w l ps → ∀ x ∈ l, ∃ g t cs fuel p, P.globalNamed x.1 = some g ∧ (P.globals[g]?).map (·.type) = some t ∧ w.var? P x.1 = some cs ∧ DataW.trod (fun _ => ()) P w 0 (fun _ => true) false fuel t cs.toList = some (x.2, p) ∧ ∀ y ∈ MemPlace.row ⟨g, 0, none⟩ cs.size ++ p, y ∈ ps
  | [], ps, _, x, hx => by cases hx
  | (n, d) :: r, ps, h, x, hx => by
    obtain ⟨g, t, cs, fuel, p, q, h1, h2, h3, h4, h5, rfl⟩ := h
    rcases List.mem_cons.1 hx with rfl | hx'
    · exact ⟨g, t, cs, fuel, p, h1, h2, h3, h4, fun y hy => List.mem_append.2 (.inl hy)⟩
    · obtain ⟨g', t', cs', fuel', p', a1, a2, a3, a4, a5⟩ := laid_mem h5 x hx'
      exact ⟨g', t', cs', fuel', p', a1, a2, a3, a4, fun y hy => List.mem_append.2 (.inr (a5 y hy))⟩
theorem lt_of_cell {W : World} {g : Nat} (h : W.cell? ⟨g, 0, none⟩ ≠ none) : g < W.heap.size := by
  by_cases e : g < W.heap.size
  · exact e
  · exact absurd (by simp [World.cell?, Array.getElem?_eq_none (Nat.le_of_not_lt e)]) h
def tlaids : List (String × DataW Unit) := Rows.termKeepsRow.laid
def tlay (i : Nat) : String × DataW Unit := (tlaids[i]?).getD ("", .nil)
theorem tlay_in (i : Nat) (h : tlaids[i]? = some (tlay i)) : tlay i ∈ tlaids := List.mem_of_getElem? h
def firZ : List Int := (List.range 256).map fun c => (fir c : Int)

set_option maxRecDepth 100000 in
theorem first_of {W : World} (h : laidMet Tryd.prog tlaids W) : ∀ c, c < 256 → W.cell? ⟨0, c, none⟩ = some (.int .u8 (fir c)) := by
  obtain ⟨ps, hl, hnd, hall⟩ := h
  obtain ⟨g, t, cs, fuel, p, a1, a2, a3, a4, a5⟩ := laid_mem hl (tlay 2) (tlay_in 2 (by kernel_rfl))
  have hg : Tryd.prog.globalNamed (tlay 2).1 = some 0 := by kernel_rfl
  have ht : (Tryd.prog.globals[0]?).map (·.type) = some 126 := by kernel_rfl
  obtain rfl := Option.some.inj (hg.symm.trans a1)
  obtain rfl := Option.some.inj (ht.symm.trans a2)
  have hd : (tlay 2).2 = .agg (firZ.map fun z => .lit (.int .u8 z)) := by kernel_rfl
  rw [hd] at a4
  have key := Lib.cells_of_tab (P := Tryd.prog) Tryd.underlying126 Tryd.underlying5 (by kernel_rfl) (by kernel_rfl) a4
  intro c hc
  rw [World.var?_cell hg a3 c, ← Array.getElem?_toList, key]
  simp [firZ, hc]

theorem one_of' {α : Type} {l : List α} {k : Nat} {x : α} (h : (l.drop k).take 1 = [x]) : l[k]? = some x := by
  have := congrArg (·[0]?) h
  simpa [List.getElem?_take, List.getElem?_drop] using this
theorem cellsU8 : Tryd.prog.cellsOf 5 = 1 := by kernel_rfl
theorem cellsAcc : Tryd.prog.cellsOf 128 = 2 := by kernel_rfl
theorem pair_cells {W : World} {base : Nat} {sp : Nat → Bool} {held : Bool} {fuel : Nat} {cs : List Value} {a b : Int} {p : List MemPlace}
    (h : DataW.trod (fun _ => ()) Tryd.prog W base sp held fuel 128 cs = some (.agg [.lit (.int .u8 a), .lit (.int .u8 b)], p)) :
    cs[0]? = some (.int .u8 a) ∧ cs[1]? = some (.int .u8 b) := by
  obtain ⟨xs, n, _, hx, _, hl, hf⟩ := DataW.trod_struct Tryd.underlying128 h
  have hl2 : xs.length = 2 := hl
  match xs, hl2 with
  | [x0, x1], _ =>
    have hx' := congrArg Prod.fst hx
    simp only [List.map_cons, List.map_nil, DataW.agg.injEq, List.cons.injEq, and_true] at hx'
    obtain ⟨e0, e1⟩ := hx'
    have f0 : DataW.trod (fun _ => ()) Tryd.prog W base sp held n 5 ((cs.drop 0).take (Tryd.prog.cellsOf 5)) = some x0 := hf 0 _ rfl
    have f1 : DataW.trod (fun _ => ()) Tryd.prog W base sp held n 5 ((cs.drop 1).take (Tryd.prog.cellsOf 5)) = some x1 := hf 1 _ rfl
    rw [cellsU8] at f0 f1
    obtain ⟨z0, h0, y0, _⟩ := DataW.trod_int Tryd.underlying5 f0
    obtain ⟨z1, h1, y1, _⟩ := DataW.trod_int Tryd.underlying5 f1
    have g0 := one_of' h0
    have g1 := one_of' h1
    rw [y0] at e0; rw [y1] at e1
    simp only [DataW.lit.injEq, Lit.int.injEq, true_and] at e0 e1
    subst e0 e1
    exact ⟨g0, g1⟩
def accD (i : Nat) : DataW Unit := .agg [.lit (.int .u8 (accL i)), .lit (.int .u8 (accH i))]

set_option maxRecDepth 100000 in
theorem accept_of {W : World} (h : laidMet Tryd.prog tlaids W) : ∀ i, i < 5 → W.cell? ⟨1, i * 2, none⟩ = some (.int .u8 (accL i)) ∧ W.cell? ⟨1, i * 2 + 1, none⟩ = some (.int .u8 (accH i)) := by
  obtain ⟨ps, hl, hnd, hall⟩ := h
  obtain ⟨g, t, cs, fuel, p, a1, a2, a3, a4, a5⟩ := laid_mem hl (tlay 0) (tlay_in 0 (by kernel_rfl))
  have hg : Tryd.prog.globalNamed (tlay 0).1 = some 1 := by kernel_rfl
  have ht : (Tryd.prog.globals[1]?).map (·.type) = some 129 := by kernel_rfl
  obtain rfl := Option.some.inj (hg.symm.trans a1)
  obtain rfl := Option.some.inj (ht.symm.trans a2)
  obtain ⟨ys, hys⟩ : ∃ ys, (tlay 0).2 = .agg ys := ⟨_, rfl⟩
  have hy5 : ∀ i, i < 5 → ys[i]? = some (accD i) := by
    have e : (match (tlay 0).2 with | .agg l => l | _ => []) = ys := by rw [hys]
    intro i hi
    rw [← e]
    have : i = 0 ∨ i = 1 ∨ i = 2 ∨ i = 3 ∨ i = 4 := by omega
    rcases this with rfl | rfl | rfl | rfl | rfl <;> rfl
  rw [hys] at a4
  obtain ⟨xs, n, _, hx, _, hxl, hf⟩ := DataW.trod_array Tryd.underlying129 a4
  have hx' : xs.map (·.1) = ys := by
    have := congrArg Prod.fst hx
    simp only [DataW.agg.injEq] at this
    exact this.symm
  intro i hi
  have f := hf i (by omega)
  rw [cellsAcc] at f
  have e : (xs.map (·.1))[i]? = some (accD i) := by rw [hx']; exact hy5 i hi
  rw [List.getElem?_map] at e
  obtain ⟨y, hy, ey⟩ := Option.map_eq_some_iff.1 e
  rw [hy] at f
  obtain ⟨d, pl⟩ := y
  simp only at ey
  subst ey
  obtain ⟨k0, k1⟩ := pair_cells f
  have at' : ∀ k v, k < 2 → ((cs.toList.drop (i * 2)).take 2)[k]? = some v → cs[i * 2 + k]? = some v := by
    intro k v hk hv
    rw [List.getElem?_take, if_pos hk, List.getElem?_drop, Array.getElem?_toList] at hv
    exact hv
  have c := fun k => World.var?_cell hg a3 k
  exact ⟨(c (i * 2)).trans (at' 0 _ (by omega) k0), (c (i * 2 + 1)).trans (at' 1 _ (by omega) k1)⟩

theorem utf_of {W : World} (h : laidMet Tryd.prog tlaids W) : Utf W := by
  have h1 := first_of h
  have h2 := accept_of h
  exact ⟨⟨lt_of_cell (by rw [h1 0 (by decide)]; simp), lt_of_cell (by rw [show (⟨1, 0, none⟩ : Addr) = ⟨1, 0 * 2, none⟩ from rfl, (h2 0 (by decide)).1]; simp)⟩, h1, fun i hi => (h2 i hi).1, fun i hi => (h2 i hi).2⟩
theorem tab_of3 {W : World} (h : laidMet Tryd.prog tlaids W) : TabAt W := by
  obtain ⟨ps, hl, hnd, hall⟩ := h
  obtain ⟨g', t', cs, fuel, p, hg', ht', hvar, hd, _⟩ := laid_mem hl (tlay 1) (tlay_in 1 (by kernel_rfl))
  have gSpans : Tryd.prog.globalNamed (tlay 1).1 = some 2 := by kernel_rfl
  obtain rfl := Option.some.inj (gSpans.symm.trans hg')
  obtain rfl := Option.some.inj (gSpansType.symm.trans ht')
  have hd' : DataW.trod (fun _ => ()) Tryd.prog W 0 (fun _ => true) false fuel 142 cs.toList = some ((Rows.laid_pane_glyph_spans : DataW Unit), p) := hd
  clear hd
  have hd := hd'
  rw [laid_eq] at hd
  obtain ⟨xs, n, _, hx, _, hl, hf⟩ := DataW.trod_array Tryd.underlying142 hd
  have hx' : xs.map (·.1) = spansL.map fun s => (.agg [.lit (.int .i64 s.1), .lit (.int .i64 s.2.1), .lit (.int .i64 s.2.2)] : DataW Unit) := by
    have := congrArg Prod.fst hx
    simp only [DataW.agg.injEq] at this
    exact this.symm
  intro i hi
  have f := hf i hi
  rw [cellsSpan] at f
  have hs : spansL[i]? = some (spanAt i) := by
    unfold spanAt
    have : i < spansL.length := hi
    rw [List.getD_eq_getElem?_getD, List.getElem?_eq_getElem this]; rfl
  have e : (xs.map (·.1))[i]? = some (.agg [.lit (.int .i64 (spanAt i).1), .lit (.int .i64 (spanAt i).2.1), .lit (.int .i64 (spanAt i).2.2)] : DataW Unit) := by
    rw [hx', List.getElem?_map, hs]; rfl
  rw [List.getElem?_map] at e
  obtain ⟨y, hy, ey⟩ := Option.map_eq_some_iff.1 e
  rw [hy] at f
  obtain ⟨d, pl⟩ := y
  simp only at ey
  subst ey
  obtain ⟨k0, k1, k2⟩ := span_cells f
  have at' : ∀ k v, k < 3 → ((cs.toList.drop (i * 3)).take 3)[k]? = some v → cs[i * 3 + k]? = some v := by
    intro k v hk hv
    rw [List.getElem?_take, if_pos hk, List.getElem?_drop, Array.getElem?_toList] at hv
    exact hv
  have c := fun k => World.var?_cell gSpans hvar k
  exact ⟨(c (i * 3)).trans (at' 0 _ (by omega) k0), (c (i * 3 + 1)).trans (at' 1 _ (by omega) k1), (c (i * 3 + 2)).trans (at' 2 _ (by omega) k2)⟩

end Go.Proofs.YtgaogkggbccfnaaDoor

namespace Go.Proofs.YtgaogkggbccfnaaDoor.termPlays
open Go.ChangeShapes Go.WideShapes Go.ChangeAt Go.RowKit
open Go.ChangeMaps (open_string shut_string)
set_option linter.unusedVariables false

theorem own : ownKnob Tryd.prog.godebug = none := by kernel_rfl
theorem laidOut : laidOutB Tryd.prog = true := by kernel_rfl

theorem short {H : Type} {d : DataW H} {x y : Int} (hk : Rows.uptoSmall H [.lit (.int .i64 x), .lit (.int .i64 y), d] = true) : Rows.uptoBulk d ≤ 1048576 := by
  have h : Rows.uptoBulkAll [DataW.lit (.int .i64 x), DataW.lit (.int .i64 y), d] ≤ 1048576 := of_decide_eq_true hk
  simp only [Rows.uptoBulkAll] at h
  omega
theorem bulk_sum (op : Nat → OpR) (n : Nat) (h : ∀ i, i < n → (op i).s.size ≤ 1048576) : ∀ i, i ≤ n → bulk op i ≤ i * 1048576
  | 0, _ => Nat.le_refl _
  | i + 1, hi => by
    have h1 := bulk_sum op n h i (by omega)
    have h2 := h i (by omega)
    show bulk op i + (op i).s.size ≤ _
    omega

set_option maxRecDepth 100000 in
theorem contract (H : Type) (enc : TypeId × Value → H) (W : World) (base : Nat) (args : Array Value) (ds gs : List (DataW H)) (before : List MemPlace)
    (hval : ∀ (j : Nat) t v, Tryd.f3.params[j]? = some t → args[j]? = some v → Value.okWide Tryd.prog W .any base t v)
    (hW : DataW.Whole enc Tryd.prog Tryd.f3.params.toList Rows.termPlaysSpec.vars false W args.toList ds gs before) (hk : Rows.uptoSmall H (ds ++ gs) = true) (hL : laidMetH Tryd.prog Rows.termPlaysUptoRow.laid W) :
    Calls Tryd.prog 3 args W fun e W' => ∃ v, e = .returned v ∧ Rows.termPlaysSpec.post enc Tryd.prog Tryd.f3 false true false false W args v W' := by
  have hW' := hW
  obtain ⟨p, q, hA0, hV, rfl, hfz, hnd⟩ := hW
  have hA : DataW.TrodAll enc Tryd.prog W 0 (fun _ => true) true Tryd.f3.params.toList args.toList ds p := hA0
  rw [Tryd.params3] at hA hval
  obtain ⟨v0, vs0, d0, ds0, p0, q0, hargs, rfl, rfl, h0, r0⟩ := trodAll_cons hA
  obtain ⟨v1, vs1, d1, ds1, p1, q1, rfl, rfl, rfl, h1, r1⟩ := trodAll_cons r0
  obtain ⟨v2, vs2, d2, ds2, p2, q2, rfl, rfl, rfl, h2, r2⟩ := trodAll_cons r1
  obtain ⟨rfl, rfl, rfl⟩ := trodAll_nil r2
  obtain rfl : args = #[v0, v1, v2] := by cases args; simp_all
  obtain ⟨rfl, rfl⟩ := trodVars_none hV
  obtain ⟨x0, rfl, rfl, rfl, m0⟩ := open_int Tryd.underlying3 (hval 0 3 v0 rfl rfl) h0
  obtain ⟨x1, rfl, rfl, rfl, m1⟩ := open_int Tryd.underlying3 (hval 1 3 v1 rfl rfl) h1
  obtain ⟨a2, len, cap, rfl⟩ := okWide_slice Tryd.underlying22 (hval 2 22 v2 rfl rfl)
  have k2 := h2
  have lt2 : ∀ x ∈ p2, x.block < W.heap.size := by obtain ⟨m, hm⟩ := k2; exact DataW.trod_lt m _ _ _ hm
  clear hA0
  simp only [List.append_nil] at hk
  have hbk := short hk
  have hLm : laidMet Tryd.prog tlaids W := hL
  have hT := tab_of3 hLm
  have main : Calls Tryd.prog 3 #[.int .i64 x0, .int .i64 x1, .slice a2 len cap] W fun e w' => e = .returned (.bool true) ∧ Below W.heap.size W w' := by
    obtain ⟨fuel, hf⟩ := h2
    have hf' : DataW.trod enc Tryd.prog W 0 (fun _ => true) true fuel 22 [.slice a2 len cap] = some (d2, p2) := by simpa [Value.cells] using hf
    obtain ⟨op, hO, hl, hz⟩ := open_ops hf'
    have hl' : len ≤ Rows.uptoBulk d2 := hl
    have hz' : ∀ i, i < len → (op i).s.size ≤ 1048576 := fun i hi => by have : (op i).s.size ≤ Rows.uptoBulk d2 := hz i hi; omega
    by_cases hwh : (1 ≤ x0 ∧ x0 ≤ 400) ∧ (1 ≤ x1 ∧ x1 ≤ 400)
    · obtain ⟨A, rfl⟩ : ∃ A : Nat, x0 = (A : Int) := ⟨x0.toNat, by omega⟩
      obtain ⟨B, rfl⟩ : ∃ B : Nat, x1 = (B : Int) := ⟨x1.toNat, by omega⟩
      exact tplays_ok A B (by omega) (by omega) _ len op W hO (by omega) (fun i hi => by have := bulk_sum op len hz' i hi; omega) hT (utf_of hLm) (World.block_lt_of_cell? W _ (hT 0 (by decide)).1)
    · exact tplays_bad x0 x1 _ W hwh
  refine main.mono fun e W' ⟨he, bel⟩ => ?_
  subst he
  exact ⟨_, rfl, _, _, _, [], _, [], hW', trodAll_mk1 (shut_bool Tryd.underlying4 _), (trodAll_cons_mk (shut_int Tryd.underlying3 m0) (trodAll_cons_mk (shut_int Tryd.underlying3 m1) (trodAll_cons_mk (Below.trod laidOut (by kernel_rfl) (of_decide_eq_true (by kernel_rfl)) k2 bel lt2) trodAll_mk0))), rfl, bel.frame _, fun h => by cases h⟩

/-- For the witness: a world whose variables hold what their initialisers lay. -/
theorem laid_met (os : Os) : laidMet Tryd.prog Rows.termPlaysUptoRow.laid (((World.holding Tryd.prog os ⟨#[], #[], []⟩).layVars Tryd.prog tlaids).forCall (fun _ _ => 0) ⟨#[], #[.int .i64 0, .int .i64 0, .slice none 0 0], []⟩).memory := by
  have hd : laidMet Tryd.prog tlaids ((World.holding Tryd.prog os ⟨#[], #[], []⟩).layVars Tryd.prog tlaids) := by
    have e1 : (tlaids.filter fun x => (tlaids.map (·.1)).contains x.1) = tlaids := List.filter_eq_self.2 fun x hx => List.contains_iff_mem.2 (List.mem_map.2 ⟨x, hx, rfl⟩)
    have e2 : (tlaids.filter fun x => !(tlaids.map (·.1)).contains x.1) = [] := List.filter_eq_nil_iff.2 fun x hx => by rw [List.contains_iff_mem.2 (List.mem_map.2 ⟨x, hx, rfl⟩)]; simp
    exact laidMet_layVars (w0 := World.holding Tryd.prog os ⟨#[], #[], []⟩) (tlaids.map (·.1)) [] (by rw [e1]) (by rw [e1]; kernel_rfl) (by rw [e1]; kernel_rfl) (by rw [e2]; exact LaidIn.none)
  exact hd.of_heap (by simp [World.memory, World.forCall, Input.heap])
theorem reads (os : Os) {H : Type} (enc : TypeId × Value → H) : ∃ places, DataW.whole enc Tryd.prog (((World.holding Tryd.prog os ⟨#[], #[], []⟩).layVars Tryd.prog tlaids).forCall (fun _ _ => 0) ⟨#[], #[.int .i64 0, .int .i64 0, .slice none 0 0], []⟩).memory Tryd.f3.params.toList Rows.termPlaysSpec.vars false #[Value.int .i64 0, Value.int .i64 0, Value.slice none 0 0].toList 8 = some ([.lit (.int .i64 0), .lit (.int .i64 0), .nil], [], places) :=
  ⟨[], by kernel_rfl⟩

set_option maxRecDepth 100000 in
theorem lifted (os : Os) (started : os.Started) (H : Type) (enc : TypeId × Value → H) (F : Stop.Interp) :
    ReturnsInHanded {} Tryd.checked os 3 .any ((Rows.OpenSpec.upto Rows.termPlaysSpec).preRow enc Tryd.prog Tryd.f3 Rows.termPlaysUptoRow.domain false Rows.termPlaysUptoRow.laid) (((Rows.OpenSpec.upto Rows.termPlaysSpec).at F).post enc Tryd.prog Tryd.f3 false true false false) := by
  obtain ⟨places, hx⟩ := reads os enc
  refine returnsInHanded_of_row (C := Tryd.checked) (s := Rows.OpenSpec.upto Rows.termPlaysSpec) own started (by kernel_rfl) Tryd.func3
    (witness_row_at (enc := enc) (C := Tryd.checked) false ((World.holding Tryd.prog os ⟨#[], #[], []⟩).layVars Tryd.prog tlaids) #[.int .i64 0, .int .i64 0, .slice none 0 0] (World.layVars_os _ _ _) (by kernel_rfl) (by kernel_rfl) (by kernel_rfl)
      (OpenSpec.preRow_of_cond 8 hx (by kernel_rfl) (fun k hk => by cases hk; kernel_rfl) (by kernel_rfl) (laid_met os))) ?_
  intro W base args ds gs before hval hW _ hcond _ hL _ _
  exact contract H enc W base args ds gs before hval hW (hcond _ rfl) hL

theorem said : Rows.TermPlaysUptoSaid :=
  OpenClaim.holds_of_cond 3 Tryd.f3 rfl rfl rfl rfl rfl rfl rfl ⟨rfl, rfl, rfl, rfl, rfl⟩ rfl rfl rfl rfl rfl (by kernel_rfl) Tryd.func3 (by kernel_rfl)
    (of_decide_eq_true (by kernel_rfl)) (by unfold Func.isWrapper; first | (rw [if_pos (by decide +kernel)]; kernel_rfl) | (rw [if_neg (by decide +kernel)]; exact ⟨rfl, rfl⟩))
    (fun os started H enc _ F => by rw [OpenClaim.pre_eq_preRow]; exact lifted os started H enc F)

theorem plain (f : FuncId) (fn : Func) (hf : Tryd.pinned.checked.prog.funcNamed Rows.termPlaysUptoRow.func = some f) (hfn : Tryd.pinned.checked.prog.funcs[f]? = some fn) :
    false = Tryd.pinned.checked.prog.looks [] ∧ ∀ (j : Nat) t, fn.params[j]? = some t → Tryd.pinned.checked.prog.wantsStandIn t = false := by
  obtain rfl : f = 3 := Option.some.inj ((show Tryd.prog.funcNamed Rows.termPlaysUptoRow.func = some 3 by kernel_rfl).symm.trans hf) |>.symm
  obtain rfl : fn = Tryd.f3 := (Option.some.inj (Tryd.func3.symm.trans hfn)).symm
  refine ⟨by kernel_rfl, fun j t ht => ?_⟩
  rw [Tryd.params3] at ht
  have hm : t = 22 ∨ t = 3 := by
    have hq := Array.mem_of_getElem? ht
    simp only [List.mem_toArray, List.mem_cons, List.not_mem_nil, or_false] at hq
    rcases hq with h | h | h
    · exact .inr h
    · exact .inr h
    · exact .inl h
  rcases hm with rfl | rfl
  · exact (show Tryd.prog.wantsStandIn 22 = false by kernel_rfl)
  · exact (show Tryd.prog.wantsStandIn 3 = false by kernel_rfl)

theorem proved : Rows.TermPlaysUptoCardSaid :=
  Claim7.holds_tied_plain_at .later [] _ _ _ _ said (fun _ h => by cases h) (by kernel_rfl) (fun _ h => by cases h) termPlaysUpto_row_tie rfl ⟨rfl, rfl⟩ (by kernel_rfl) rfl plain (by kernel_rfl)
#print axioms proved
end Go.Proofs.YtgaogkggbccfnaaDoor.termPlays
