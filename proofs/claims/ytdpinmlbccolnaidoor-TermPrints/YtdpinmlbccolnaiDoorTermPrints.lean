/-
  A terminal's own: what is put is seen whole, what is erased is blank; cells beyond the screen tell nothing.
-/
import Derived.Test.YtdpinmlbccolnaiDoorMKeep
import Derived.Test.YtdpinmlbccolnaiDoorCCel
import Derived.Test.YtdpinmlbccolnaiDoorCards
import Derived.Test.YtdpinmlbccolnaiDoorTie
import Derived.Test.YtdpinmlbccolnaiDoorMLaid
import Derived.WalkKit
import Derived.ShutString
import Derived.ProofKit
import Derived.OpenShut
import Derived.ChangeOld
import Derived.Below
import Derived.Lay
import Derived.Lib.LaidTab
import Derived.Deep.DeepHandedRow
namespace Go.Proofs.YtdpinmlbccolnaiDoor
open Go.RowKit Go.Sort
set_option linter.unusedVariables false

theorem seen_whole {W H x y a b : Int} (hW : 1 ≤ W ∧ W ≤ 400) (hH : 1 ≤ H ∧ H ≤ 400) (hx : 0 ≤ x) (ha : 1 ≤ a) (hxa : x + a ≤ W) (hy : 0 ≤ y) (hb : 1 ≤ b) (hyb : y + b ≤ H) : seenQ W H x y a b 0 0 W H = (x, y, a, b) := by
  have e1 : capQ x y a b 0 0 W H = (x, y, a, b) := by
    rw [capQ_cq, posI_id (n := x) (by omega), posI_id (n := y) (by omega), lenI_id (n := a) (by omega), lenI_id (n := b) (by omega), lenI_id (n := W) (by omega), lenI_id (n := H) (by omega), show posI 0 = 0 from rfl]
    unfold cq
    rw [if_neg (by omega)]
    refine Prod.ext ?_ (Prod.ext ?_ (Prod.ext ?_ ?_)) <;> simp only <;> omega
  unfold seenQ
  rw [e1]
  simp only
  rw [capQ_cq, posI_id (n := x) (by omega), posI_id (n := y) (by omega), lenI_id (n := a) (by omega), lenI_id (n := b) (by omega), lenI_id (n := W) (by omega), lenI_id (n := H) (by omega), show posI 0 = 0 from rfl]
  unfold cq
  rw [if_neg (by omega)]
  refine Prod.ext ?_ (Prod.ext ?_ (Prod.ext ?_ ?_)) <;> simp only <;> omega

/-- What a terminal puts. -/
theorem put_whole {W H : Nat} (hW : 1 ≤ W ∧ W ≤ 400) (hH : 1 ≤ H ∧ H ≤ 400) (c : Nat → Nat → Ce) {x y : Nat} {wd : Int} (txt : ByteArray) (f g b : Int) (hw : wd = 1 ∨ wd = 2) (hx : (x : Int) + wd ≤ W) (hy : y < H) :
    putC W H c x y txt wd f g b 0 0 W H = fill c x (x + wd.toNat) y (y + 1) (gly x wd txt (kn f) (kn g) (bo b)) := by
  unfold putC
  rw [seen_whole (by omega) (by omega) (by omega) (by omega) (by omega) (by omega) (by omega) (by omega)]
  unfold putQ putX
  rw [if_pos hw]
  simp only
  rw [if_neg (by omega)]
  congr 1 <;> omega

/-- What is erased whole. -/
theorem fil_whole {W H : Nat} (hW : 1 ≤ W ∧ W ≤ 400) (hH : 1 ≤ H ∧ H ≤ 400) (c : Nat → Nat → Ce) {y x : Nat} (hy : y < H) (hx : x < W) : filC W H c 0 0 W H 0 0 0 0 0 W H y x = bk 0 0 0 := by
  unfold filC
  rw [seen_whole (by omega) (by omega) (by omega) (by omega) (by omega) (by omega) (by omega) (by omega)]
  simp only
  unfold fill
  rw [if_pos (by omega), span_in (by omega)]
  rfl

/-- Only the cells on the screen tell. -/
theorem TM.same {w : World} {T K M cap : Nat} {s : Tm} {nv : Value} {c' : Nat → Nat → Ce} (h : TM w T K M cap s nv) (hc : ∀ y x, y < s.H → x < s.W → s.c y x = c' y x) (hp : PAll s.W s.H c') : TM w T K M cap { s with c := c' } nv :=
  ⟨h.tb, ⟨h.cs.kb, h.cs.cv.same hc, h.cs.ne, h.cs.hc⟩, h.tk, h.tm, h.hW, h.hH, hp⟩

/-- An m ends what is half come. -/
theorem full_m {h : ByteArray} (hs : h.size ≤ 3) : full (h ++ ⟨#[109]⟩).data.toList := by
  obtain ⟨l, hl⟩ : ∃ l, h.data.toList = l := ⟨_, rfl⟩
  have e : (h ++ ⟨#[109]⟩).data.toList = l ++ [109] := by simp [hl]
  have hs2 : l.length ≤ 3 := by rw [← hl, len_data]; exact hs
  rw [e]
  refine ⟨by simp, ?_⟩
  match l, hs2 with
  | [], _ => exact .inl (by decide)
  | [a], _ =>
    have e1 : byt ([a] ++ [109]) 1 = 109 := rfl
    have := lo_bd (byt ([a] ++ [109]) 0)
    right; right; right; left
    exact ⟨by simp, .inl (by rw [e1]; omega)⟩
  | [a, b], _ =>
    right; right; right; right
    exact ⟨by simp, .inl (by show byt [a, b, 109] 2 < _; exact (by decide : (109 : Nat) < 0x80))⟩
  | [a, b, c], _ =>
    right; right; left
    have := n_bd (byt ([a, b, c] ++ [109]) 0)
    simp only [List.length_append, List.length_cons, List.length_nil]
    omega
theorem step_m (s : Tm) (st : St) (h : Si st) : (stepT s 109 st).2 = .out := by
  have out : ∀ s, (outT s 109).2 = .out := fun s => rfl
  cases st with
  | out => exact out s
  | esc => rfl
  | amid hh =>
    show (amA s hh 109).2 = .out
    have hf := full_m h
    unfold amA
    by_cases hr : (runes (hh ++ ⟨#[109]⟩).data.toList).length ≠ 1
    · rw [if_pos ⟨hf, hr⟩]; exact out _
    · rw [if_neg (fun q => hr q.2)]; unfold amT; rw [if_pos hf]
  | wth l a => rfl

/-- Erased, sent home and made plain. -/
def wipe : List UInt8 := [109, 27, 91, 109, 27, 91, 50, 74, 27, 91, 72]
set_option maxRecDepth 100000 in
theorem wiped (s : Tm) (st : St) (h : Si st) (hW : 1 ≤ s.W) (hH : 1 ≤ s.H) : runT (s, st) wipe = ({ tm0 s.W s.H with c := filC s.W s.H (stepT s 109 st).1.c 0 0 s.W s.H 0 0 0 0 0 s.W s.H }, .out) := by
  have e0 : stepT s 109 st = ((stepT s 109 st).1, .out) := Prod.ext rfl (step_m s st h)
  obtain ⟨s1, h1⟩ : ∃ z, (stepT s 109 st).1 = z := ⟨_, rfl⟩
  have hw : wh s1 = wh s := by rw [← h1]; exact wh_step s 109 st
  rw [h1] at e0 ⊢
  show runT (stepT s 109 st) (wipe.drop 1) = _
  rw [e0]
  have hsW : s1.W = s.W := congrArg Prod.fst hw
  have hsH : s1.H = s.H := congrArg Prod.snd hw
  have e : runT (s1, .out) (wipe.drop 1) = (⟨s1.W, s1.H, filC s1.W s1.H s1.c 0 0 s1.W s1.H 0 0 0 0 0 s1.W s1.H, ⟨min (max 0 1) (s1.W : Int) - 1, min (max 0 1) (s1.H : Int) - 1, 0, 0, 0, 0, 0, ⟨#[]⟩, 0, 0⟩⟩, .out) := rfl
  rw [e, hsW, hsH]
  have x0 : min (max 0 1) (s.W : Int) - 1 = 0 := by omega
  have y0 : min (max 0 1) (s.H : Int) - 1 = 0 := by omega
  rw [x0, y0]
  rfl

end Go.Proofs.YtdpinmlbccolnaiDoor

namespace Go.Proofs.YtdpinmlbccolnaiDoor
open Go.RowKit Go.Sort
set_option linter.unusedVariables false

theorem one_byte : ∀ k : Fin 127, 32 ≤ k.val → runes [k.val.toUInt8] = [(k.val : Int)] ∧ wid (k.val : Int) = 1 ∧ enc [(k.val : Int)] = [k.val.toUInt8] ∧ full [k.val.toUInt8] := by
  intro k hk
  have h : runes [k.val.toUInt8] = [(k.val : Int)] ∧ wid (k.val : Int) = 1 ∧ enc [(k.val : Int)] = [k.val.toUInt8] ∧ byt [k.val.toUInt8] 0 < 0xC2 := by
    have := (by decide +kernel : ∀ k : Fin 127, 32 ≤ k.val → runes [k.val.toUInt8] = [(k.val : Int)] ∧ wid (k.val : Int) = 1 ∧ enc [(k.val : Int)] = [k.val.toUInt8] ∧ byt [k.val.toUInt8] 0 < 0xC2)
    exact this k hk
  exact ⟨h.1, h.2.1, h.2.2.1, by simp, .inl h.2.2.2⟩
theorem one_u8 (b : UInt8) (h1 : 32 ≤ b.toNat) (h2 : b.toNat ≤ 126) : runes [b] = [(b.toNat : Int)] ∧ wid (b.toNat : Int) = 1 ∧ enc [(b.toNat : Int)] = [b] ∧ full [b] := by
  have := one_byte ⟨b.toNat, by omega⟩ h1
  simp only at this
  rw [show b.toNat.toUInt8 = b by simp] at this
  exact this
/-- What is shown behind the bytes l. -/
def prS (l : List UInt8) : Nat → Nat → Ce := fun y j => if y = 0 ∧ j < l.length then ⟨⟨#[l.getD j 0]⟩, 2, 3, 1, 0⟩ else bk 0 0 0
structure Pr (W H : Nat) (l : List UInt8) (p : Tm × St) : Prop where
  st : p.2 = .out
  w : p.1.W = W
  h : p.1.H = H
  c : p.1.c = prS l
  x : p.1.r.x = l.length
  y : p.1.r.y = 0
  f : p.1.r.f = 2
  g : p.1.r.g = 3
  b : p.1.r.b = 1
theorem prS_next (l : List UInt8) (b : UInt8) : fill (prS l) l.length (l.length + 1) 0 (0 + 1) (gly l.length 1 ⟨#[b]⟩ (kn 2) (kn 3) (bo 1)) = prS (l ++ [b]) := by
  have hp : ∀ y j, (prS l y j).p = 0 := fun y j => by unfold prS; split <;> rfl
  funext y j
  unfold fill
  by_cases hy : y = 0
  · subst hy
    rw [if_pos (by omega)]
    by_cases hj : l.length ≤ j ∧ j < l.length + 1
    · obtain rfl : j = l.length := by omega
      rw [span_in hj]
      unfold prS gly
      rw [if_neg (by decide : ¬ (1 : Int) = 2), if_pos ⟨rfl, by simp⟩, show (l ++ [b]).getD l.length 0 = b by simp [List.getD_eq_getElem?_getD], show kn 2 = 2 from rfl, show kn 3 = 3 from rfl, show bo 1 = 1 from rfl]
    · have e : span (prS l 0) l.length (l.length + 1) (gly l.length 1 ⟨#[b]⟩ (kn 2) (kn 3) (bo 1)) j = prS l 0 j := by
        unfold span
        rw [if_neg hj, if_neg (fun q => by have := hp 0 l.length; omega), if_neg (fun q => by have := hp 0 (l.length + 1 - 1); omega)]
      rw [e]
      unfold prS
      by_cases h1 : j < l.length
      · rw [if_pos ⟨rfl, h1⟩, if_pos ⟨rfl, by simp; omega⟩]
        simp only [List.getD_eq_getElem?_getD]
        rw [List.getElem?_append_left h1]
      · rw [if_neg (fun q => h1 q.2), if_neg (fun q => by have := q.2; simp at this; omega)]
  · rw [if_neg (by omega)]
    unfold prS
    rw [if_neg (fun q => hy q.1), if_neg (fun q => hy q.1)]
theorem Pr.next {W H : Nat} {l : List UInt8} {p : Tm × St} (h : Pr W H l p) (hW : 1 ≤ W ∧ W ≤ 400) (hH : 1 ≤ H ∧ H ≤ 400) (hl : l.length < W) (b : UInt8) (h1 : 32 ≤ b.toNat) (h2 : b.toNat ≤ 126) : Pr W H (l ++ [b]) (stepT p.1 b p.2) := by
  obtain ⟨q1, q2, q3, q4⟩ := one_u8 b h1 h2
  obtain ⟨s, st⟩ := p
  obtain ⟨hst, hw, hh, hc, hx, hy, hf, hg, hb⟩ := h
  simp only at hst hw hh hc hx hy hf hg hb
  subst hst hw hh
  have e : stepT s b .out = (prT s b.toNat, .out) := by
    show outT s b = _
    unfold outT
    rw [if_neg (by omega), if_neg (by omega)]
    unfold amT
    rw [if_pos q4]
    simp only
    rw [q1]
    rfl
  rw [e]
  unfold prT
  rw [q2, if_neg (by decide), if_neg (by rw [hx]; omega), q3]
  refine ⟨rfl, rfl, rfl, ?_, ?_, hy, hf, hg, hb⟩
  · show putC s.W s.H s.c s.r.x s.r.y ⟨[b].toArray⟩ 1 s.r.f s.r.g s.r.b 0 0 s.W s.H = _
    have := put_whole hW hH s.c (x := l.length) (y := 0) (wd := 1) ⟨[b].toArray⟩ 2 3 1 (.inl rfl) (by omega) (by omega)
    rw [hx, hy, hf, hg, hb]
    rw [show ((0 : Nat) : Int) = 0 from rfl] at this
    rw [this, hc]
    exact prS_next l b
  · show s.r.x + 1 = _
    rw [hx]; simp
def look : List UInt8 := [27, 91, 49, 59, 51, 49, 59, 52, 50, 109]
set_option maxRecDepth 100000 in
theorem Pr.start (W H : Nat) : Pr W H [] (runT (tm0 W H, .out) look) := by
  have e : runT (tm0 W H, .out) look = (⟨W, H, fun _ _ => bk 0 0 0, ⟨0, 0, 2, 3, 1, 0, 0, ⟨#[]⟩, 0, 0⟩⟩, .out) := rfl
  rw [e]
  refine ⟨rfl, rfl, rfl, ?_, rfl, rfl, rfl, rfl, rfl⟩
  funext y j
  unfold prS
  rw [if_neg (fun q => by have := q.2; simp at this)]
theorem Pr.all (W H : Nat) (hW : 1 ≤ W ∧ W ≤ 400) (hH : 1 ≤ H ∧ H ≤ 400) (l : List UInt8) (hl : l.length ≤ W) (hb : ∀ b ∈ l, 32 ≤ b.toNat ∧ b.toNat ≤ 126) : Pr W H l (runT (tm0 W H, .out) (look ++ l)) := by
  rw [runT_append]
  have key : ∀ k, k ≤ l.length → Pr W H (l.take k) (runT (runT (tm0 W H, .out) look) (l.take k)) := by
    intro k
    induction k with
    | zero => intro _; rw [List.take_zero]; exact Pr.start W H
    | succ k ih =>
      intro hk
      have hk' : k < l.length := by omega
      have e : l.take (k + 1) = l.take k ++ [l[k]] := by rw [List.take_add_one, List.getElem?_eq_getElem hk']; rfl
      rw [e, runT_app]
      have hm := hb l[k] (List.getElem_mem hk')
      exact (ih (by omega)).next hW hH (by rw [List.length_take]; omega) _ hm.1 hm.2
  have := key l.length (Nat.le_refl _)
  rw [List.take_length] at this
  exact this

end Go.Proofs.YtdpinmlbccolnaiDoor

namespace Go.Proofs.YtdpinmlbccolnaiDoor
open Go.RowKit Go.Sort
set_option linter.unusedVariables false

theorem ext_one (x : ByteArray) (i : Nat) (h : i < x.size) : x.extract i (i + 1) = ⟨#[x.data.toList.getD i 0]⟩ := by
  apply ByteArray.ext
  rw [ByteArray.data_extract]
  apply Array.ext'
  rw [Array.toList_extract]
  have hl : i < x.data.toList.length := by rw [len_data]; exact h
  simp only [List.extract]
  rw [List.drop_eq_getElem_cons hl, List.getD_eq_getElem?_getD, List.getElem?_eq_getElem hl]
  simp
theorem look_list (x : ByteArray) : ((⟨#[27, 91, 49, 59, 51, 49, 59, 52, 50, 109]⟩ : ByteArray) ++ x).data.toList = look ++ x.data.toList := by simp [look]

theorem look_size (x : ByteArray) : ((⟨#[27, 91, 49, 59, 51, 49, 59, 52, 50, 109]⟩ : ByteArray) ++ x).size = 10 + x.size := by rw [ByteArray.size_append]; rfl

set_option maxRecDepth 100000 in
set_option maxHeartbeats 8000000 in
theorem prints_walk (W H : Int) (x : ByteArray) (hx : x.size ≤ 9223372036854775807) (w : World) (ht : TabAt w) (hU : Utf w) (hg : 2 < w.heap.size) : Calls Tryd.prog 6 #[.int .i64 W, .int .i64 H, .string x] w fun e w' => e = .returned (.bool true) ∧ Below w.heap.size w w' := by
  by_cases hwh : (1 ≤ W ∧ W ≤ 400) ∧ (1 ≤ H ∧ H ≤ 400)
  · obtain ⟨W, rfl⟩ : ∃ W' : Nat, W = (W' : Int) := ⟨W.toNat, by omega⟩
    obtain ⟨H, rfl⟩ : ∃ H' : Nat, H = (H' : Int) := ⟨H.toNat, by omega⟩
    have TW : Hid (Calls Tryd.prog 9 #[.int .i64 W, .int .i64 H] w fun e w' => ∃ T K M T2, e = .returned (.tuple #[.pointer (some ⟨T, 0, none⟩), .pointer (some ⟨T2, 0, none⟩), .bool true]) ∧ TM w' T K M (W * H) (tm0 W H) (fnV 41 #[]) ∧ w.heap.size ≤ T ∧ w.heap.size ≤ K ∧ w.heap.size ≤ M ∧ Below w.heap.size w w') := twin_ok W H w (by omega) (by omega) (pall0 W H)
    have HT : Hid (TabAt w) := ht
    have HU : Hid (Utf w) := hU
    have hsz := hU.sz
    clear ht hU
    go_enter Tryd.func6, Tryd.ntmps6
    go_wp2_with fail
    refine TW.out.mono ?_
    rintro e w1 ⟨T, K, M, T2, rfl, h1, hT, _, hM, b1⟩
    have hfar : Far T M := ⟨by omega, by omega, by omega⟩
    have H1 : Hid (TM w1 T K M (W * H) (tm0 W H) (fnV 41 #[])) := h1
    have B1 : Hid (Below w.heap.size w w1) := b1
    clear h1 b1 TW
    go_wp2_with fail
    go_loopw [10] (fun iv wr => ∃ i : Nat, i ≤ x.size ∧ iv = .int .i64 i ∧ wr = w1 ∧ Hid (∀ j, j < i → 32 ≤ (x.data.toList.getD j 0).toNat ∧ (x.data.toList.getD j 0).toNat ≤ 126)) (fun iv _ => x.size - (intOf iv).toNat)
    case atStart => exact ⟨0, Nat.zero_le _, rfl, by first | rfl | trivial, fun j hj => absurd hj (Nat.not_lt_zero _)⟩
    case round =>
      obtain ⟨i, hi, rfl, rfl, HA⟩ := hrel
      by_cases hlt : i < x.size
      · have hlt' : (i : Int) < (x.size : Int) := by omega
        obtain ⟨bt, hbt⟩ : ∃ b, x[i]'hlt = b := ⟨_, rfl⟩
        have HD : Hid (x.data.toList.getD i 0 = bt) := by
          show _ = _
          rw [List.getD_eq_getElem?_getD, Array.getElem?_toList, ← hbt, show x.data[i]? = some (x[i]'hlt) from Array.getElem?_eq_getElem hlt]
          rfl
        by_cases h1 : (bt.toNat : Int) < 32
        · go_wp2
          go_ret
          exact ⟨rfl, B1.out⟩
        · by_cases h2 : (126 : Int) < (bt.toNat : Int)
          · go_wp2
            go_ret
            exact ⟨rfl, B1.out⟩
          · go_wp2
            go_roundw
            case rel =>
              refine ⟨i + 1, by omega, by go_num, by first | rfl | trivial, fun j hj => ?_⟩
              by_cases hj2 : j < i
              · exact HA.out j hj2
              · obtain rfl : j = i := by omega
                rw [HD.out]; omega
            case measure => simp [intOf]; omega
      · have hlt' : ¬ (i : Int) < (x.size : Int) := by omega
        obtain rfl : i = x.size := by omega
        by_cases hw : (W : Int) < (x.size : Int)
        · go_wp2
          go_ret
          exact ⟨rfl, B1.out⟩
        · have WR : Hid (Calls Tryd.prog 10 #[.pointer (some ⟨T, 0, none⟩), .string ((⟨#[27, 91, 49, 59, 51, 49, 59, 52, 50, 109]⟩ : ByteArray) ++ x)] wr fun e w' => WrOut wr w' e T K M (W * H) (runT (tm0 W H, .out) ((⟨#[27, 91, 49, 59, 51, 49, 59, 52, 50, 109]⟩ : ByteArray) ++ x).data.toList)) := write_any _ (by rw [look_size]; omega) wr H1.out rfl (ti0 W H (by omega)) trivial (HT.out.below B1.out) (HU.out.below B1.out) hfar
          rw [look_list] at WR
          have HL : Hid (x.data.toList.length = x.size) := len_data x
          have PA : Hid (Pr W H x.data.toList (runT (tm0 W H, .out) (look ++ x.data.toList))) := Pr.all W H (by omega) (by omega) x.data.toList (by rw [HL.out]; omega) (fun b hb => by
            obtain ⟨j, hj, rfl⟩ := List.mem_iff_getElem.1 hb
            have := HA.out j (by rw [← HL.out]; exact hj)
            rw [List.getD_eq_getElem?_getD, List.getElem?_eq_getElem hj] at this
            exact this)
          obtain ⟨p, hp⟩ : ∃ p, runT (tm0 W H, .out) (look ++ x.data.toList) = p := ⟨_, rfl⟩
          rw [hp] at WR PA
          obtain ⟨s, st⟩ := p
          clear hp HA
          go_wp2_with fail
          refine WR.out.mono ?_
          rintro e w2 ⟨rfl, ⟨nv, h2, _⟩, hti, _, c2⟩
          have H2 : Hid (TM w2 T K M (W * H) s nv) := h2
          have HC2 : Hid (Below w.heap.size w w2) := ⟨c2.os.trans B1.out.os, c2.tape.trans B1.out.tape, c2.output.trans B1.out.output, Nat.le_trans B1.out.size c2.size, fun b hb => (c2.block b (Nat.lt_of_lt_of_le hb B1.out.size) (by omega) (by omega)).trans (B1.out.block b hb)⟩
          have hsW : s.W = W := PA.out.w
          have hsH : s.H = H := PA.out.h
          have TC : Hid (Calls Tryd.prog 11 #[.pointer (some ⟨T, 0, none⟩)] w2 fun e w' => ∃ N cap', e = .returned (.slice (some ⟨N, 0, none⟩) (W * H) cap') ∧ Cv 36 w' N W H s.c ∧ w2.heap.size ≤ N ∧ Below w2.heap.size w2 w') := by have := tcells_any w2 h2; rw [hsW, hsH] at this; exact this
          have hsx : s.r.x = (x.size : Int) := by rw [← HL.out]; exact PA.out.x
          have hsy : s.r.y = 0 := PA.out.y
          have hsc : s.c = prS x.data.toList := PA.out.c
          rw [hsc] at TC
          clear h2 hti c2 WR hsc hsW hsH PA
          go_wp2_with fail
          refine TC.out.mono ?_
          rintro e w3 ⟨N, cp, rfl, hcv, hN, b3⟩
          have H3 : Hid (TM w3 T K M (W * H) s nv) := H2.out.below b3
          have HC3 : Hid (Below w.heap.size w w3) := HC2.out.trans (b3.mono HC2.out.size)
          have HV3 : Hid (Cv 36 w3 N W H (prS x.data.toList)) := hcv
          clear hcv hN b3 TC
          go_wp2_with fail
          refine (cursor_any w3 H3.out).mono ?_
          rintro e w4 ⟨rfl, g4⟩
          have HC4 : Hid (Below w.heap.size w w4) := HC3.out.trans (g4.below.mono HC3.out.size)
          have HV4 : Hid (Cv 36 w4 N W H (prS x.data.toList)) := HV3.out.gr g4
          rw [hsx, hsy]
          obtain ⟨n, hn⟩ : ∃ n, W * H = n := ⟨_, rfl⟩
          have hn' : (W : Int) * (H : Int) = (n : Int) := by rw [← hn, Int.natCast_mul]
          have hnb : n ≤ 160000 := by rw [← hn]; exact Nat.le_trans (Nat.mul_le_mul (by omega : W ≤ 400) (by omega : H ≤ 400)) (by decide)
          have HN : Hid (W * H = n) := hn
          rw [hn]
          clear hn g4 H3 H2 hsx hsy HV3
          go_wp2_with fail
          go_loopw [14] (fun iv wr => ∃ i : Nat, i ≤ n ∧ iv = .int .i64 i ∧ Hid (Gr w4 wr)) (fun iv _ => n - (intOf iv).toNat)
          case atStart => exact ⟨0, by omega, rfl, Gr.refl _⟩
          case round =>
            obtain ⟨i, hi, rfl, HI⟩ := hrel
            by_cases hil : i < n
            · have hil' : (i : Int) < (n : Int) := by omega
              obtain ⟨y, z, hy, hz, hix⟩ := lin_split (by rw [HN.out]; exact hil)
              have eo : y * W * 5 + z * 5 = i * 5 := by rw [hix, Nat.add_mul]
              by_cases hs : i < x.size
              · have hs' : (i : Int) < (x.size : Int) := by omega
                have hy0 : y = 0 := by
                  rcases Nat.eq_zero_or_pos y with h | h
                  · exact h
                  · have : 1 * W ≤ y * W := Nat.mul_le_mul_right _ h
                    omega
                have hz0 : z = i := by rw [hix, hy0]; omega
                obtain ⟨tx, htx⟩ : ∃ t, x.extract i (i + 1) = t := ⟨_, rfl⟩
                have he : prS x.data.toList y z = ⟨tx, 2, 3, 1, 0⟩ := by
                  unfold prS
                  rw [if_pos ⟨hy0, by rw [HL.out]; omega⟩, ← htx, ext_one x i hs, hz0]
                have HE : Hid (y * W * 5 + z * 5 = i * 5 ∧ prS x.data.toList y z = _) := ⟨eo, he⟩
                clear eo hix he
                go_wp2_with fail
                try rw [htx]
                obtain ⟨W0, hW0⟩ : ∃ z, wr.alloc (.cells #[.string tx, .int .i64 2, .int .i64 3, .int .i64 1, .int .i64 0] 36) = z := ⟨_, rfl⟩
                obtain ⟨S, hS⟩ : ∃ z, wr.heap.size = z := ⟨_, rfl⟩
                have G0 : Hid (Gr wr W0) := by rw [← hW0]; exact (Gr.refl wr).alloc _
                have R0 : Hid (R5 36 W0 S ⟨tx, 2, 3, 1, 0⟩) := by rw [← hW0, ← hS]; exact R5.new wr ⟨tx, 2, 3, 1, 0⟩ _
                have V1 := HV4.out.gr (HI.out.trans G0.out)
                have e0 := V1.c0 hy hz
                have e1 := V1.c1 hy hz
                have e2 := V1.c2 hy hz
                have e3 := V1.c3 hy hz
                have e4 := V1.c4 hy hz
                rw [HE.out.1, HE.out.2] at e0 e1 e2 e3 e4
                have z0 := R0.out.c0
                have z1 := R0.out.c1
                have z2 := R0.out.c2
                have z3 := R0.out.c3
                have z4 := R0.out.c4
                rw [hW0, hS]
                clear hW0 hS htx V1 HE
                have hmix : Tryd.prog.follows .mixedOrders = true := by kernel_rfl
                go_quiet (fail)
                have HG : Hid (Gr w4 (W0.drewN nq)) := (HI.out.trans G0.out).drewN _
                go_wp2
                go_roundw
                case rel => exact ⟨i + 1, by omega, by go_num, HG.out⟩
                case measure => simp [intOf]; omega
              · have hs' : ¬ (i : Int) < (x.size : Int) := by omega
                obtain ⟨tx, htx⟩ : ∃ t, (⟨#[32]⟩ : ByteArray) = t := ⟨_, rfl⟩
                have he : prS x.data.toList y z = ⟨tx, 0, 0, 0, 0⟩ := by
                  unfold prS
                  rw [if_neg (fun q => hs (by rw [HL.out] at q; have := q.1; have := q.2; subst_vars; omega)), ← htx]; rfl
                have HE : Hid (y * W * 5 + z * 5 = i * 5 ∧ prS x.data.toList y z = _) := ⟨eo, he⟩
                clear eo hix he
                go_wp2_with fail
                try rw [htx]
                obtain ⟨W0, hW0⟩ : ∃ z, wr.alloc (.cells #[.string tx, .int .i64 0, .int .i64 0, .int .i64 0, .int .i64 0] 36) = z := ⟨_, rfl⟩
                obtain ⟨S, hS⟩ : ∃ z, wr.heap.size = z := ⟨_, rfl⟩
                have G0 : Hid (Gr wr W0) := by rw [← hW0]; exact (Gr.refl wr).alloc _
                have R0 : Hid (R5 36 W0 S ⟨tx, 0, 0, 0, 0⟩) := by rw [← hW0, ← hS]; exact R5.new wr ⟨tx, 0, 0, 0, 0⟩ _
                have V1 := HV4.out.gr (HI.out.trans G0.out)
                have e0 := V1.c0 hy hz
                have e1 := V1.c1 hy hz
                have e2 := V1.c2 hy hz
                have e3 := V1.c3 hy hz
                have e4 := V1.c4 hy hz
                rw [HE.out.1, HE.out.2] at e0 e1 e2 e3 e4
                have z0 := R0.out.c0
                have z1 := R0.out.c1
                have z2 := R0.out.c2
                have z3 := R0.out.c3
                have z4 := R0.out.c4
                rw [hW0, hS]
                clear hW0 hS htx V1 HE
                have hmix : Tryd.prog.follows .mixedOrders = true := by kernel_rfl
                go_quiet (fail)
                have HG : Hid (Gr w4 (W0.drewN nq)) := (HI.out.trans G0.out).drewN _
                go_wp2
                go_roundw
                case rel => exact ⟨i + 1, by omega, by go_num, HG.out⟩
                case measure => simp [intOf]; omega
            · have hil' : ¬ (i : Int) < (n : Int) := by omega
              go_wp2
              go_ret
              exact ⟨rfl, HC4.out.trans (HI.out.below.mono HC4.out.size)⟩
  · have TW : Hid (Calls Tryd.prog 9 #[.int .i64 W, .int .i64 H] w fun e w' => e = .returned (.tuple #[.pointer none, .pointer none, .bool true]) ∧ w' = w) := twin_bad W H w hwh
    clear ht hU
    go_enter Tryd.func6, Tryd.ntmps6
    go_wp2_with fail
    refine TW.out.mono ?_
    rintro e w1 ⟨rfl, hw⟩
    obtain rfl := hw.symm
    go_wp2
    go_ret
    exact ⟨rfl, Below.refl _ _⟩

end Go.Proofs.YtdpinmlbccolnaiDoor

namespace Go.Proofs.YtdpinmlbccolnaiDoor.termPrints
open Go.ChangeShapes Go.WideShapes Go.ChangeAt Go.RowKit
open Go.ChangeMaps (open_string shut_string)
set_option linter.unusedVariables false

theorem own : ownKnob Tryd.prog.godebug = none := by kernel_rfl
theorem laidOut : laidOutB Tryd.prog = true := by kernel_rfl

set_option maxRecDepth 100000 in
theorem contract (H : Type) (enc : TypeId × Value → H) (W : World) (base : Nat) (args : Array Value) (ds gs : List (DataW H)) (before : List MemPlace)
    (hval : ∀ (j : Nat) t v, Tryd.f6.params[j]? = some t → args[j]? = some v → Value.okWide Tryd.prog W .any base t v)
    (hW : DataW.Whole enc Tryd.prog Tryd.f6.params.toList Rows.termPrintsSpec.vars false W args.toList ds gs before) (hL : laidMetH Tryd.prog Rows.termPrintsRow.laid W) :
    Calls Tryd.prog 6 args W fun e W' => ∃ v, e = .returned v ∧ Rows.termPrintsSpec.post enc Tryd.prog Tryd.f6 false true false false W args v W' := by
  have hW' := hW
  obtain ⟨p, q, hA0, hV, rfl, hfz, hnd⟩ := hW
  have hA : DataW.TrodAll enc Tryd.prog W 0 (fun _ => true) true Tryd.f6.params.toList args.toList ds p := hA0
  rw [Tryd.params6] at hA hval
  obtain ⟨v0, vs0, d0, ds0, p0, q0, hargs, rfl, rfl, h0, r0⟩ := trodAll_cons hA
  obtain ⟨v1, vs1, d1, ds1, p1, q1, rfl, rfl, rfl, h1, r1⟩ := trodAll_cons r0
  obtain ⟨v2, vs2, d2, ds2, p2, q2, rfl, rfl, rfl, h2, r2⟩ := trodAll_cons r1
  obtain ⟨rfl, rfl, rfl⟩ := trodAll_nil r2
  obtain rfl : args = #[v0, v1, v2] := by cases args; simp_all
  obtain ⟨rfl, rfl⟩ := trodVars_none hV
  obtain ⟨x0, rfl, rfl, rfl, m0⟩ := open_int Tryd.underlying3 (hval 0 3 v0 rfl rfl) h0
  obtain ⟨x1, rfl, rfl, rfl, m1⟩ := open_int Tryd.underlying3 (hval 1 3 v1 rfl rfl) h1
  obtain ⟨s2, rfl, rfl, rfl, m2⟩ := open_string Tryd.underlying9 (hval 2 9 v2 rfl rfl) h2
  clear hA0
  simp only [List.append_nil] at hW'
  have hLm : laidMet Tryd.prog tlaids W := hL
  have hT := tab_of3 hLm
  have hsz : s2.size ≤ 9223372036854775807 := m2
  refine (prints_walk x0 x1 s2 hsz W hT (utf_of hLm) (World.block_lt_of_cell? W _ (hT 0 (by decide)).1)).mono fun e W' ⟨he, bel⟩ => ?_
  subst he
  exact ⟨_, rfl, _, _, _, [], [], [], hW', trodAll_mk1 (shut_bool Tryd.underlying4 _), (trodAll_cons_mk (shut_int Tryd.underlying3 m0) (trodAll_cons_mk (shut_int Tryd.underlying3 m1) (trodAll_cons_mk (shut_string Tryd.underlying9 m2) trodAll_mk0))), rfl, bel.frame _, fun h => by cases h⟩

/-- For the witness: a world whose variables hold what their initialisers lay. -/
theorem laid_met (os : Os) : laidMet Tryd.prog Rows.termPrintsRow.laid (((World.holding Tryd.prog os ⟨#[], #[], []⟩).layVars Tryd.prog tlaids).forCall (fun _ _ => 0) ⟨#[], #[.int .i64 0, .int .i64 0, .string ⟨#[]⟩], []⟩).memory := by
  have hd : laidMet Tryd.prog tlaids ((World.holding Tryd.prog os ⟨#[], #[], []⟩).layVars Tryd.prog tlaids) := by
    have e1 : (tlaids.filter fun x => (tlaids.map (·.1)).contains x.1) = tlaids := List.filter_eq_self.2 fun x hx => List.contains_iff_mem.2 (List.mem_map.2 ⟨x, hx, rfl⟩)
    have e2 : (tlaids.filter fun x => !(tlaids.map (·.1)).contains x.1) = [] := List.filter_eq_nil_iff.2 fun x hx => by rw [List.contains_iff_mem.2 (List.mem_map.2 ⟨x, hx, rfl⟩)]; simp
    exact laidMet_layVars (w0 := World.holding Tryd.prog os ⟨#[], #[], []⟩) (tlaids.map (·.1)) [] (by rw [e1]) (by rw [e1]; kernel_rfl) (by rw [e1]; kernel_rfl) (by rw [e2]; exact LaidIn.none)
  exact hd.of_heap (by simp [World.memory, World.forCall, Input.heap])
theorem reads (os : Os) {H : Type} (enc : TypeId × Value → H) : ∃ places, DataW.whole enc Tryd.prog (((World.holding Tryd.prog os ⟨#[], #[], []⟩).layVars Tryd.prog tlaids).forCall (fun _ _ => 0) ⟨#[], #[.int .i64 0, .int .i64 0, .string ⟨#[]⟩], []⟩).memory Tryd.f6.params.toList Rows.termPrintsSpec.vars false #[Value.int .i64 0, Value.int .i64 0, Value.string ⟨#[]⟩].toList 8 = some ([.lit (.int .i64 0), .lit (.int .i64 0), .lit (.string [])], [], places) :=
  ⟨[], by kernel_rfl⟩

set_option maxRecDepth 100000 in
theorem lifted (os : Os) (started : os.Started) (H : Type) (enc : TypeId × Value → H) (F : Stop.Interp) :
    ReturnsInHanded {} Tryd.checked os 6 .any ((OpenSpec.ofChange Rows.termPrintsSpec).preRow enc Tryd.prog Tryd.f6 Rows.termPrintsRow.domain false Rows.termPrintsRow.laid) (((OpenSpec.ofChange Rows.termPrintsSpec).at F).post enc Tryd.prog Tryd.f6 false true false false) := by
  obtain ⟨places, hx⟩ := reads os enc
  refine returnsInHanded_of_row (C := Tryd.checked) (s := OpenSpec.ofChange Rows.termPrintsSpec) own started (by kernel_rfl) Tryd.func6
    (witness_row_at (enc := enc) (C := Tryd.checked) false ((World.holding Tryd.prog os ⟨#[], #[], []⟩).layVars Tryd.prog tlaids) #[.int .i64 0, .int .i64 0, .string ⟨#[]⟩] (World.layVars_os _ _ _) (by kernel_rfl) (by kernel_rfl) (by kernel_rfl)
      (OpenSpec.preRow_of_cond 8 hx (by kernel_rfl) (fun k hk => by cases hk) (by kernel_rfl) (laid_met os))) ?_
  intro W base args ds gs before hval hW _ _ _ hL _ _
  exact contract H enc W base args ds gs before hval hW hL

theorem said : Rows.TermPrintsSaid :=
  OpenClaim.holds_of_cond 6 Tryd.f6 rfl rfl rfl rfl rfl rfl rfl ⟨rfl, rfl, rfl, rfl, rfl⟩ rfl rfl rfl rfl rfl (by kernel_rfl) Tryd.func6 (by kernel_rfl)
    (of_decide_eq_true (by kernel_rfl)) (by unfold Func.isWrapper; first | (rw [if_pos (by decide +kernel)]; kernel_rfl) | (rw [if_neg (by decide +kernel)]; exact ⟨rfl, rfl⟩))
    (fun os started H enc _ F => by rw [OpenClaim.pre_eq_preRow]; exact lifted os started H enc F)

theorem plain (f : FuncId) (fn : Func) (hf : Tryd.pinned.checked.prog.funcNamed Rows.termPrintsRow.func = some f) (hfn : Tryd.pinned.checked.prog.funcs[f]? = some fn) :
    false = Tryd.pinned.checked.prog.looks [] ∧ ∀ (j : Nat) t, fn.params[j]? = some t → Tryd.pinned.checked.prog.wantsStandIn t = false := by
  obtain rfl : f = 6 := Option.some.inj ((show Tryd.prog.funcNamed Rows.termPrintsRow.func = some 6 by kernel_rfl).symm.trans hf) |>.symm
  obtain rfl : fn = Tryd.f6 := (Option.some.inj (Tryd.func6.symm.trans hfn)).symm
  refine ⟨by kernel_rfl, fun j t ht => ?_⟩
  rw [Tryd.params6] at ht
  have hm : t = 9 ∨ t = 3 := by
    have hq := Array.mem_of_getElem? ht
    simp only [List.mem_toArray, List.mem_cons, List.not_mem_nil, or_false] at hq
    rcases hq with h | h | h
    · exact .inr h
    · exact .inr h
    · exact .inl h
  rcases hm with rfl | rfl
  · exact (show Tryd.prog.wantsStandIn 9 = false by kernel_rfl)
  · exact (show Tryd.prog.wantsStandIn 3 = false by kernel_rfl)

theorem proved : Rows.TermPrintsCardSaid :=
  Claim7.holds_tied_plain_at .later [] _ _ _ _ said (fun _ h => by cases h) (by kernel_rfl) (fun _ h => by cases h) termPrints_row_tie rfl ⟨rfl, rfl⟩ (by kernel_rfl) rfl plain (by kernel_rfl)
#print axioms proved
end Go.Proofs.YtdpinmlbccolnaiDoor.termPrints
