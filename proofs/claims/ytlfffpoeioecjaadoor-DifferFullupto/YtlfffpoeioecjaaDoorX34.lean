/-
  paneref.NewTerm as far as twin asks; panelaw.twin.
-/
import Derived.Test.YtlfffpoeioecjaaDoorX32
import Derived.Test.YtlfffpoeioecjaaDoorX12
import Derived.Deep.OwnRows
import Derived.Test.YtlfffpoeioecjaaDoorX11
namespace Go.Proofs.YtlfffpoeioecjaaDoor
open Go.RowKit Go.Sort
set_option linter.unusedVariables false

theorem infoBool : (Tryd.prog.info? 4).map (fun i => (i.zero, i.size, i.bytes)) = some (some (.bool false), 1, 1) := by kernel_rfl
set_option maxRecDepth 100000 in
theorem tnum_any (n : Int) (w : World) : Calls Tryd.prog 14 #[.int .i64 n] w fun e w' => e = .returned (.int .i64 n) ∧ w' = w := by
  go_enter Tryd.func14, Tryd.ntmps14
  go_wp2
  go_ret
  exact ⟨rfl, rfl⟩

set_option maxRecDepth 100000 in
theorem rnew_bad (W H : Int) (w : World) (h : ¬ ((1 ≤ W ∧ W ≤ 400) ∧ (1 ≤ H ∧ H ≤ 400))) : Calls Tryd.prog 37 #[.int .i64 W, .int .i64 H] w fun e w' => e = .returned (.tuple #[.pointer none, .int .i64 6]) ∧ w' = w := by
  have hc : W < 1 ∨ ¬ W < 1 ∧ (400 < W ∨ ¬ 400 < W ∧ (H < 1 ∨ ¬ H < 1 ∧ 400 < H)) := by omega
  clear h
  rcases hc with h1 | ⟨h1, h2 | ⟨h2, h3 | ⟨h3, h4⟩⟩⟩ <;>
  · go_enter Tryd.func37, Tryd.ntmps37
    go_wp2
    refine bodyPost_ret (v := .tuple #[.pointer none, .int .i64 6]) (by simp [results, Tryd.results37, go_sem]) rfl ?_
    exact ⟨rfl, rfl⟩

set_option maxRecDepth 100000 in
theorem rterm_bad (W H : Int) (w : World) (h : ¬ ((1 ≤ W ∧ W ≤ 400) ∧ (1 ≤ H ∧ H ≤ 400))) : Calls Tryd.prog 22 #[.int .i64 W, .int .i64 H] w fun e w' => e = .returned (.tuple #[.pointer none, .int .i64 6]) ∧ w' = w := by
  have NB : Hid (Calls Tryd.prog 37 #[.int .i64 W, .int .i64 H] w fun e w' => e = .returned (.tuple #[.pointer none, .int .i64 6]) ∧ w' = w) := rnew_bad W H w h
  clear h
  go_enter Tryd.func22, Tryd.ntmps22
  go_wp2_with fail
  refine NB.out.mono ?_
  rintro e w1 ⟨rfl, hw⟩
  obtain rfl := hw.symm
  go_wp2
  refine bodyPost_ret (v := .tuple #[.pointer none, .int .i64 6]) (by simp [results, Tryd.results22, go_sem]) rfl ?_
  exact ⟨rfl, rfl⟩

set_option maxRecDepth 100000 in
set_option maxHeartbeats 2000000 in
theorem rterm_ok (W H : Nat) (w : World) (hW : 1 ≤ W ∧ W ≤ 400) (hH : 1 ≤ H ∧ H ≤ 400) : Calls Tryd.prog 22 #[.int .i64 W, .int .i64 H] w fun e w' => ∃ T, e = .returned (.tuple #[.pointer (some ⟨T, 0, none⟩), .int .i64 0]) ∧ Below w.heap.size w w' := by
  have NO : Hid (Calls Tryd.prog 37 #[.int .i64 W, .int .i64 H] w fun e w' => ∃ K, e = .returned (.tuple #[.pointer (some ⟨K, 0, none⟩), .int .i64 0]) ∧ RN w w' W H K) := rnew_ok W H hW hH w
  have hwh : W * H ≤ 160000 := Nat.le_trans (Nat.mul_le_mul hW.2 hH.2) (by decide)
  obtain ⟨n, hn⟩ : ∃ n, W * H = n := ⟨_, rfl⟩
  have hn' : (W : Int) * (H : Int) = (n : Int) := by rw [← hn, Int.natCast_mul]
  rw [hn] at hwh
  clear hn
  obtain ⟨C, hmk⟩ : ∃ C, ∀ u : World, (Instr.makeSlice 51 (.int .i64 (n : Int)) (.int .i64 (n : Int))).run Tryd.prog u = .ok (.slice (some ⟨u.heap.size, 0, none⟩) n n) (u.alloc (.cells C 4)) := ⟨_, fun u => by
    have := run_make_row' (P := Tryd.prog) 51 4 (.bool false) 1 Tryd.underlying51 infoBool rfl .i64 .i64 n (by omega) (by omega) u
    simpa using this⟩
  go_enter Tryd.func22, Tryd.ntmps22
  go_wp2_with fail
  refine NO.out.mono ?_
  rintro e w1 ⟨K, rfl, hk, M, cap, hcs, hm, b1⟩
  have HB : Hid (Below w.heap.size w w1) := b1
  clear hk hcs hm b1
  go_wp2
  refine bodyPost_ret (v := .tuple #[.pointer (some ⟨w1.heap.size + 1, 0, none⟩), .int .i64 0]) (by simp [results, Tryd.results22, go_sem]) rfl ?_
  have h1 := HB.out.size
  exact ⟨_, rfl, (HB.out.alloc h1 _).alloc (by simp; omega) _⟩

set_option maxRecDepth 100000 in
set_option maxHeartbeats 2000000 in
theorem twin_bad (W H : Int) (w : World) (h : ¬ ((1 ≤ W ∧ W ≤ 400) ∧ (1 ≤ H ∧ H ≤ 400))) : Calls Tryd.prog 7 #[.int .i64 W, .int .i64 H] w fun e w' => e = .returned (.tuple #[.pointer none, .pointer none, .bool true]) ∧ w' = w := by
  have N1 : Hid (Calls Tryd.prog 21 #[.int .i64 W, .int .i64 H] w fun e w' => e = .returned (.tuple #[.pointer none, .int .i64 6]) ∧ w' = w) := tnew_bad W H w h
  have N2 : Hid (Calls Tryd.prog 22 #[.int .i64 W, .int .i64 H] w fun e w' => e = .returned (.tuple #[.pointer none, .int .i64 6]) ∧ w' = w) := rterm_bad W H w h
  clear h
  go_enter Tryd.func7, Tryd.ntmps7
  go_wp2_with fail
  refine N1.out.mono ?_
  rintro e w1 ⟨rfl, hw⟩
  obtain rfl := hw.symm
  go_wp2_with fail
  refine N2.out.mono ?_
  rintro e w1 ⟨rfl, hw⟩
  obtain rfl := hw.symm
  go_wp2_with fail
  refine (tnum_any _ _).mono ?_
  rintro e w1 ⟨rfl, hw⟩
  obtain rfl := hw.symm
  go_wp2
  refine bodyPost_ret (v := .tuple #[.pointer none, .pointer none, .bool true]) (by simp [results, Tryd.results7, go_sem]) rfl ?_
  exact ⟨rfl, rfl⟩

set_option maxRecDepth 100000 in
set_option maxHeartbeats 2000000 in
theorem twin_ok (W H : Nat) (w : World) (hW : 1 ≤ W ∧ W ≤ 400) (hH : 1 ≤ H ∧ H ≤ 400) (hp : PAll W H (fun _ _ => bk 0 0 0)) : Calls Tryd.prog 7 #[.int .i64 W, .int .i64 H] w fun e w' => ∃ T K M T2, e = .returned (.tuple #[.pointer (some ⟨T, 0, none⟩), .pointer (some ⟨T2, 0, none⟩), .bool true]) ∧ TM w' T K M (W * H) (tm0 W H) (fnV 36 #[]) ∧ w.heap.size ≤ T ∧ w.heap.size ≤ K ∧ w.heap.size ≤ M ∧ Below w.heap.size w w' := by
  have N1 : Hid (Calls Tryd.prog 21 #[.int .i64 W, .int .i64 H] w fun e w' => ∃ T K M, e = .returned (.tuple #[.pointer (some ⟨T, 0, none⟩), .int .i64 0]) ∧ TM w' T K M (W * H) (tm0 W H) (fnV 36 #[]) ∧ w.heap.size ≤ T ∧ w.heap.size ≤ K ∧ w.heap.size ≤ M ∧ Below w.heap.size w w') := tnew_ok W H w hW hH hp
  have N2 : Hid (∀ w, Calls Tryd.prog 22 #[.int .i64 W, .int .i64 H] w fun e w' => ∃ T, e = .returned (.tuple #[.pointer (some ⟨T, 0, none⟩), .int .i64 0]) ∧ Below w.heap.size w w') := fun w => rterm_ok W H w hW hH
  go_enter Tryd.func7, Tryd.ntmps7
  go_wp2_with fail
  refine N1.out.mono ?_
  rintro e w1 ⟨T, K, M, rfl, hq⟩
  have HQ : Hid (TM w1 T K M (W * H) (tm0 W H) (fnV 36 #[]) ∧ w.heap.size ≤ T ∧ w.heap.size ≤ K ∧ w.heap.size ≤ M ∧ Below w.heap.size w w1) := hq
  clear hq
  go_wp2_with fail
  refine (N2.out w1).mono ?_
  rintro e w2 ⟨T2, rfl, b2⟩
  have HR : Hid (TM w2 T K M (W * H) (tm0 W H) (fnV 36 #[]) ∧ w.heap.size ≤ T ∧ w.heap.size ≤ K ∧ w.heap.size ≤ M ∧ Below w.heap.size w w2) := ⟨HQ.out.1.below b2, HQ.out.2.1, HQ.out.2.2.1, HQ.out.2.2.2.1, HQ.out.2.2.2.2.trans (b2.mono HQ.out.2.2.2.2.size)⟩
  clear b2 HQ
  go_wp2_with fail
  refine (tnum_any _ _).mono ?_
  rintro e w3 ⟨rfl, hw⟩
  obtain rfl := hw.symm
  go_wp2
  refine bodyPost_ret (v := .tuple #[.pointer (some ⟨T, 0, none⟩), .pointer (some ⟨T2, 0, none⟩), .bool true]) (by simp [results, Tryd.results7, go_sem]) rfl ?_
  exact ⟨T, K, M, T2, rfl, HR.out.1, HR.out.2.1, HR.out.2.2.1, HR.out.2.2.2.1, HR.out.2.2.2.2⟩

end Go.Proofs.YtlfffpoeioecjaaDoor

namespace Go.Proofs.YtlfffpoeioecjaaDoor
open Go.RowKit Go.Sort
set_option linter.unusedVariables false

theorem one_byte : ∀ k : Fin 127, 32 ≤ k.val → runes [k.val.toUInt8] = [(k.val : Int)] ∧ wid (k.val : Int) = 1 ∧ enc [(k.val : Int)] = [k.val.toUInt8] ∧ full [k.val.toUInt8] := by
  intro k hk
  have h : runes [k.val.toUInt8] = [(k.val : Int)] ∧ wid (k.val : Int) = 1 ∧ enc [(k.val : Int)] = [k.val.toUInt8] ∧ byt [k.val.toUInt8] 0 < 0xC2 := by
    have := (by decide +kernel : ∀ k : Fin 127, 32 ≤ k.val → runes [k.val.toUInt8] = [(k.val : Int)] ∧ wid (k.val : Int) = 1 ∧ enc [(k.val : Int)] = [k.val.toUInt8] ∧ byt [k.val.toUInt8] 0 < 0xC2)
    exact this k hk
  exact ⟨h.1, h.2.1, h.2.2.1, by simp, .inl h.2.2.2⟩
theorem one_u8 (b : UInt8) (h1 : 32 ≤ b.toNat) (h2 : b.toNat ≤ 126) : runes [b] = [(b.toNat : Int)] ∧ wid (b.toNat : Int) = 1 ∧ enc [(b.toNat : Int)] = [b] ∧ full [b] := by
  have := one_byte ⟨b.toNat, by omega⟩ h1
  simp only at this
  rw [show b.toNat.toUInt8 = b by simp] at this
  exact this
/-- What is shown behind the bytes l. -/
def prS (l : List UInt8) : Nat → Nat → Ce := fun y j => if y = 0 ∧ j < l.length then ⟨⟨#[l.getD j 0]⟩, 2, 3, 1, 0⟩ else bk 0 0 0
structure Pr (W H : Nat) (l : List UInt8) (p : Tm × St) : Prop where
  st : p.2 = .out
  w : p.1.W = W
  h : p.1.H = H
  c : p.1.c = prS l
  x : p.1.r.x = l.length
  y : p.1.r.y = 0
  f : p.1.r.f = 2
  g : p.1.r.g = 3
  b : p.1.r.b = 1
theorem prS_next (l : List UInt8) (b : UInt8) : fill (prS l) l.length (l.length + 1) 0 (0 + 1) (gly l.length 1 ⟨#[b]⟩ (kn 2) (kn 3) (bo 1)) = prS (l ++ [b]) := by
  have hp : ∀ y j, (prS l y j).p = 0 := fun y j => by unfold prS; split <;> rfl
  funext y j
  unfold fill
  by_cases hy : y = 0
  · subst hy
    rw [if_pos (by omega)]
    by_cases hj : l.length ≤ j ∧ j < l.length + 1
    · obtain rfl : j = l.length := by omega
      rw [span_in hj]
      unfold prS gly
      rw [if_neg (by decide : ¬ (1 : Int) = 2), if_pos ⟨rfl, by simp⟩, show (l ++ [b]).getD l.length 0 = b by simp [List.getD_eq_getElem?_getD], show kn 2 = 2 from rfl, show kn 3 = 3 from rfl, show bo 1 = 1 from rfl]
    · have e : span (prS l 0) l.length (l.length + 1) (gly l.length 1 ⟨#[b]⟩ (kn 2) (kn 3) (bo 1)) j = prS l 0 j := by
        unfold span
        rw [if_neg hj, if_neg (fun q => by have := hp 0 l.length; omega), if_neg (fun q => by have := hp 0 (l.length + 1 - 1); omega)]
      rw [e]
      unfold prS
      by_cases h1 : j < l.length
      · rw [if_pos ⟨rfl, h1⟩, if_pos ⟨rfl, by simp; omega⟩]
        simp only [List.getD_eq_getElem?_getD]
        rw [List.getElem?_append_left h1]
      · rw [if_neg (fun q => h1 q.2), if_neg (fun q => by have := q.2; simp at this; omega)]
  · rw [if_neg (by omega)]
    unfold prS
    rw [if_neg (fun q => hy q.1), if_neg (fun q => hy q.1)]
theorem Pr.next {W H : Nat} {l : List UInt8} {p : Tm × St} (h : Pr W H l p) (hW : 1 ≤ W ∧ W ≤ 400) (hH : 1 ≤ H ∧ H ≤ 400) (hl : l.length < W) (b : UInt8) (h1 : 32 ≤ b.toNat) (h2 : b.toNat ≤ 126) : Pr W H (l ++ [b]) (stepT p.1 b p.2) := by
  obtain ⟨q1, q2, q3, q4⟩ := one_u8 b h1 h2
  obtain ⟨s, st⟩ := p
  obtain ⟨hst, hw, hh, hc, hx, hy, hf, hg, hb⟩ := h
  simp only at hst hw hh hc hx hy hf hg hb
  subst hst hw hh
  have e : stepT s b .out = (prT s b.toNat, .out) := by
    show outT s b = _
    unfold outT
    rw [if_neg (by omega), if_neg (by omega)]
    unfold amT
    rw [if_pos q4]
    simp only
    rw [q1]
    rfl
  rw [e]
  unfold prT
  rw [q2, if_neg (by decide), if_neg (by rw [hx]; omega), q3]
  refine ⟨rfl, rfl, rfl, ?_, ?_, hy, hf, hg, hb⟩
  · show putC s.W s.H s.c s.r.x s.r.y ⟨[b].toArray⟩ 1 s.r.f s.r.g s.r.b 0 0 s.W s.H = _
    have := put_whole hW hH s.c (x := l.length) (y := 0) (wd := 1) ⟨[b].toArray⟩ 2 3 1 (.inl rfl) (by omega) (by omega)
    rw [hx, hy, hf, hg, hb]
    rw [show ((0 : Nat) : Int) = 0 from rfl] at this
    rw [this, hc]
    exact prS_next l b
  · show s.r.x + 1 = _
    rw [hx]; simp
def look : List UInt8 := [27, 91, 49, 59, 51, 49, 59, 52, 50, 109]
set_option maxRecDepth 100000 in
theorem Pr.start (W H : Nat) : Pr W H [] (runT (tm0 W H, .out) look) := by
  have e : runT (tm0 W H, .out) look = (⟨W, H, fun _ _ => bk 0 0 0, ⟨0, 0, 2, 3, 1, 0, 0, ⟨#[]⟩, 0, 0⟩⟩, .out) := rfl
  rw [e]
  refine ⟨rfl, rfl, rfl, ?_, rfl, rfl, rfl, rfl, rfl⟩
  funext y j
  unfold prS
  rw [if_neg (fun q => by have := q.2; simp at this)]
theorem Pr.all (W H : Nat) (hW : 1 ≤ W ∧ W ≤ 400) (hH : 1 ≤ H ∧ H ≤ 400) (l : List UInt8) (hl : l.length ≤ W) (hb : ∀ b ∈ l, 32 ≤ b.toNat ∧ b.toNat ≤ 126) : Pr W H l (runT (tm0 W H, .out) (look ++ l)) := by
  rw [runT_append]
  have key : ∀ k, k ≤ l.length → Pr W H (l.take k) (runT (runT (tm0 W H, .out) look) (l.take k)) := by
    intro k
    induction k with
    | zero => intro _; rw [List.take_zero]; exact Pr.start W H
    | succ k ih =>
      intro hk
      have hk' : k < l.length := by omega
      have e : l.take (k + 1) = l.take k ++ [l[k]] := by rw [List.take_add_one, List.getElem?_eq_getElem hk']; rfl
      rw [e, runT_app]
      have hm := hb l[k] (List.getElem_mem hk')
      exact (ih (by omega)).next hW hH (by rw [List.length_take]; omega) _ hm.1 hm.2
  have := key l.length (Nat.le_refl _)
  rw [List.take_length] at this
  exact this

end Go.Proofs.YtlfffpoeioecjaaDoor

namespace Go.Proofs.YtlfffpoeioecjaaDoor
open Go.RowKit Go.Sort
set_option linter.unusedVariables false

theorem ext_one (x : ByteArray) (i : Nat) (h : i < x.size) : x.extract i (i + 1) = ⟨#[x.data.toList.getD i 0]⟩ := by
  apply ByteArray.ext
  rw [ByteArray.data_extract]
  apply Array.ext'
  rw [Array.toList_extract]
  have hl : i < x.data.toList.length := by rw [len_data]; exact h
  simp only [List.extract]
  rw [List.drop_eq_getElem_cons hl, List.getD_eq_getElem?_getD, List.getElem?_eq_getElem hl]
  simp
theorem look_list (x : ByteArray) : ((⟨#[27, 91, 49, 59, 51, 49, 59, 52, 50, 109]⟩ : ByteArray) ++ x).data.toList = look ++ x.data.toList := by simp [look]

theorem look_size (x : ByteArray) : ((⟨#[27, 91, 49, 59, 51, 49, 59, 52, 50, 109]⟩ : ByteArray) ++ x).size = 10 + x.size := by rw [ByteArray.size_append]; rfl

set_option maxRecDepth 100000 in
set_option maxHeartbeats 8000000 in
theorem prints_walk (W H : Int) (x : ByteArray) (hx : x.size ≤ 9223372036854775807) (w : World) (ht : TabAt w) (hU : Utf w) (hg : 2 < w.heap.size) : Calls Tryd.prog 3 #[.int .i64 W, .int .i64 H, .string x] w fun e w' => e = .returned (.bool true) ∧ Below w.heap.size w w' := by
  by_cases hwh : (1 ≤ W ∧ W ≤ 400) ∧ (1 ≤ H ∧ H ≤ 400)
  · obtain ⟨W, rfl⟩ : ∃ W' : Nat, W = (W' : Int) := ⟨W.toNat, by omega⟩
    obtain ⟨H, rfl⟩ : ∃ H' : Nat, H = (H' : Int) := ⟨H.toNat, by omega⟩
    have TW : Hid (Calls Tryd.prog 7 #[.int .i64 W, .int .i64 H] w fun e w' => ∃ T K M T2, e = .returned (.tuple #[.pointer (some ⟨T, 0, none⟩), .pointer (some ⟨T2, 0, none⟩), .bool true]) ∧ TM w' T K M (W * H) (tm0 W H) (fnV 36 #[]) ∧ w.heap.size ≤ T ∧ w.heap.size ≤ K ∧ w.heap.size ≤ M ∧ Below w.heap.size w w') := twin_ok W H w (by omega) (by omega) (pall0 W H)
    have HT : Hid (TabAt w) := ht
    have HU : Hid (Utf w) := hU
    have hsz := hU.sz
    clear ht hU
    go_enter Tryd.func3, Tryd.ntmps3
    go_wp2_with fail
    refine TW.out.mono ?_
    rintro e w1 ⟨T, K, M, T2, rfl, h1, hT, _, hM, b1⟩
    have hfar : Far T M := ⟨by omega, by omega, by omega⟩
    have H1 : Hid (TM w1 T K M (W * H) (tm0 W H) (fnV 36 #[])) := h1
    have B1 : Hid (Below w.heap.size w w1) := b1
    clear h1 b1 TW
    go_wp2_with fail
    go_loopw [10] (fun iv wr => ∃ i : Nat, i ≤ x.size ∧ iv = .int .i64 i ∧ wr = w1 ∧ Hid (∀ j, j < i → 32 ≤ (x.data.toList.getD j 0).toNat ∧ (x.data.toList.getD j 0).toNat ≤ 126)) (fun iv _ => x.size - (intOf iv).toNat)
    case atStart => exact ⟨0, Nat.zero_le _, rfl, by first | rfl | trivial, fun j hj => absurd hj (Nat.not_lt_zero _)⟩
    case round =>
      obtain ⟨i, hi, rfl, rfl, HA⟩ := hrel
      by_cases hlt : i < x.size
      · have hlt' : (i : Int) < (x.size : Int) := by omega
        obtain ⟨bt, hbt⟩ : ∃ b, x[i]'hlt = b := ⟨_, rfl⟩
        have HD : Hid (x.data.toList.getD i 0 = bt) := by
          show _ = _
          rw [List.getD_eq_getElem?_getD, Array.getElem?_toList, ← hbt, show x.data[i]? = some (x[i]'hlt) from Array.getElem?_eq_getElem hlt]
          rfl
        by_cases h1 : (bt.toNat : Int) < 32
        · go_wp2
          go_ret
          exact ⟨rfl, B1.out⟩
        · by_cases h2 : (126 : Int) < (bt.toNat : Int)
          · go_wp2
            go_ret
            exact ⟨rfl, B1.out⟩
          · go_wp2
            go_roundw
            case rel =>
              refine ⟨i + 1, by omega, by go_num, by first | rfl | trivial, fun j hj => ?_⟩
              by_cases hj2 : j < i
              · exact HA.out j hj2
              · obtain rfl : j = i := by omega
                rw [HD.out]; omega
            case measure => simp [intOf]; omega
      · have hlt' : ¬ (i : Int) < (x.size : Int) := by omega
        obtain rfl : i = x.size := by omega
        by_cases hw : (W : Int) < (x.size : Int)
        · go_wp2
          go_ret
          exact ⟨rfl, B1.out⟩
        · have WR : Hid (Calls Tryd.prog 8 #[.pointer (some ⟨T, 0, none⟩), .string ((⟨#[27, 91, 49, 59, 51, 49, 59, 52, 50, 109]⟩ : ByteArray) ++ x)] wr fun e w' => WrOut wr w' e T K M (W * H) (runT (tm0 W H, .out) ((⟨#[27, 91, 49, 59, 51, 49, 59, 52, 50, 109]⟩ : ByteArray) ++ x).data.toList)) := write_any _ (by rw [look_size]; omega) wr H1.out rfl (ti0 W H (by omega)) trivial (HT.out.below B1.out) (HU.out.below B1.out) hfar
          rw [look_list] at WR
          have HL : Hid (x.data.toList.length = x.size) := len_data x
          have PA : Hid (Pr W H x.data.toList (runT (tm0 W H, .out) (look ++ x.data.toList))) := Pr.all W H (by omega) (by omega) x.data.toList (by rw [HL.out]; omega) (fun b hb => by
            obtain ⟨j, hj, rfl⟩ := List.mem_iff_getElem.1 hb
            have := HA.out j (by rw [← HL.out]; exact hj)
            rw [List.getD_eq_getElem?_getD, List.getElem?_eq_getElem hj] at this
            exact this)
          obtain ⟨p, hp⟩ : ∃ p, runT (tm0 W H, .out) (look ++ x.data.toList) = p := ⟨_, rfl⟩
          rw [hp] at WR PA
          obtain ⟨s, st⟩ := p
          clear hp HA
          go_wp2_with fail
          refine WR.out.mono ?_
          rintro e w2 ⟨rfl, ⟨nv, h2, _⟩, hti, _, c2⟩
          have H2 : Hid (TM w2 T K M (W * H) s nv) := h2
          have HC2 : Hid (Below w.heap.size w w2) := ⟨c2.os.trans B1.out.os, c2.tape.trans B1.out.tape, c2.output.trans B1.out.output, Nat.le_trans B1.out.size c2.size, fun b hb => (c2.block b (Nat.lt_of_lt_of_le hb B1.out.size) (by omega) (by omega)).trans (B1.out.block b hb)⟩
          have hsW : s.W = W := PA.out.w
          have hsH : s.H = H := PA.out.h
          have TC : Hid (Calls Tryd.prog 9 #[.pointer (some ⟨T, 0, none⟩)] w2 fun e w' => ∃ N cap', e = .returned (.slice (some ⟨N, 0, none⟩) (W * H) cap') ∧ Cv 34 w' N W H s.c ∧ w2.heap.size ≤ N ∧ Below w2.heap.size w2 w') := by have := tcells_any w2 h2; rw [hsW, hsH] at this; exact this
          have hsx : s.r.x = (x.size : Int) := by rw [← HL.out]; exact PA.out.x
          have hsy : s.r.y = 0 := PA.out.y
          have hsc : s.c = prS x.data.toList := PA.out.c
          rw [hsc] at TC
          clear h2 hti c2 WR hsc hsW hsH PA
          go_wp2_with fail
          refine TC.out.mono ?_
          rintro e w3 ⟨N, cp, rfl, hcv, hN, b3⟩
          have H3 : Hid (TM w3 T K M (W * H) s nv) := H2.out.below b3
          have HC3 : Hid (Below w.heap.size w w3) := HC2.out.trans (b3.mono HC2.out.size)
          have HV3 : Hid (Cv 34 w3 N W H (prS x.data.toList)) := hcv
          clear hcv hN b3 TC
          go_wp2_with fail
          refine (cursor_any w3 H3.out).mono ?_
          rintro e w4 ⟨rfl, g4⟩
          have HC4 : Hid (Below w.heap.size w w4) := HC3.out.trans (g4.below.mono HC3.out.size)
          have HV4 : Hid (Cv 34 w4 N W H (prS x.data.toList)) := HV3.out.gr g4
          rw [hsx, hsy]
          obtain ⟨n, hn⟩ : ∃ n, W * H = n := ⟨_, rfl⟩
          have hn' : (W : Int) * (H : Int) = (n : Int) := by rw [← hn, Int.natCast_mul]
          have hnb : n ≤ 160000 := by rw [← hn]; exact Nat.le_trans (Nat.mul_le_mul (by omega : W ≤ 400) (by omega : H ≤ 400)) (by decide)
          have HN : Hid (W * H = n) := hn
          rw [hn]
          clear hn g4 H3 H2 hsx hsy HV3
          go_wp2_with fail
          go_loopw [14] (fun iv wr => ∃ i : Nat, i ≤ n ∧ iv = .int .i64 i ∧ Hid (Gr w4 wr)) (fun iv _ => n - (intOf iv).toNat)
          case atStart => exact ⟨0, by omega, rfl, Gr.refl _⟩
          case round =>
            obtain ⟨i, hi, rfl, HI⟩ := hrel
            by_cases hil : i < n
            · have hil' : (i : Int) < (n : Int) := by omega
              obtain ⟨y, z, hy, hz, hix⟩ := lin_split (by rw [HN.out]; exact hil)
              have eo : y * W * 5 + z * 5 = i * 5 := by rw [hix, Nat.add_mul]
              by_cases hs : i < x.size
              · have hs' : (i : Int) < (x.size : Int) := by omega
                have hy0 : y = 0 := by
                  rcases Nat.eq_zero_or_pos y with h | h
                  · exact h
                  · have : 1 * W ≤ y * W := Nat.mul_le_mul_right _ h
                    omega
                have hz0 : z = i := by rw [hix, hy0]; omega
                obtain ⟨tx, htx⟩ : ∃ t, x.extract i (i + 1) = t := ⟨_, rfl⟩
                have he : prS x.data.toList y z = ⟨tx, 2, 3, 1, 0⟩ := by
                  unfold prS
                  rw [if_pos ⟨hy0, by rw [HL.out]; omega⟩, ← htx, ext_one x i hs, hz0]
                have HE : Hid (y * W * 5 + z * 5 = i * 5 ∧ prS x.data.toList y z = _) := ⟨eo, he⟩
                clear eo hix he
                go_wp2_with fail
                try rw [htx]
                obtain ⟨W0, hW0⟩ : ∃ z, wr.alloc (.cells #[.string tx, .int .i64 2, .int .i64 3, .int .i64 1, .int .i64 0] 34) = z := ⟨_, rfl⟩
                obtain ⟨S, hS⟩ : ∃ z, wr.heap.size = z := ⟨_, rfl⟩
                have G0 : Hid (Gr wr W0) := by rw [← hW0]; exact (Gr.refl wr).alloc _
                have R0 : Hid (R5 34 W0 S ⟨tx, 2, 3, 1, 0⟩) := by rw [← hW0, ← hS]; exact R5.new wr ⟨tx, 2, 3, 1, 0⟩ _
                have V1 := HV4.out.gr (HI.out.trans G0.out)
                have e0 := V1.c0 hy hz
                have e1 := V1.c1 hy hz
                have e2 := V1.c2 hy hz
                have e3 := V1.c3 hy hz
                have e4 := V1.c4 hy hz
                rw [HE.out.1, HE.out.2] at e0 e1 e2 e3 e4
                have z0 := R0.out.c0
                have z1 := R0.out.c1
                have z2 := R0.out.c2
                have z3 := R0.out.c3
                have z4 := R0.out.c4
                rw [hW0, hS]
                clear hW0 hS htx V1 HE
                have hmix : Tryd.prog.follows .mixedOrders = true := by kernel_rfl
                go_quiet (fail)
                have HG : Hid (Gr w4 (W0.drewN nq)) := (HI.out.trans G0.out).drewN _
                go_wp2
                go_roundw
                case rel => exact ⟨i + 1, by omega, by go_num, HG.out⟩
                case measure => simp [intOf]; omega
              · have hs' : ¬ (i : Int) < (x.size : Int) := by omega
                obtain ⟨tx, htx⟩ : ∃ t, (⟨#[32]⟩ : ByteArray) = t := ⟨_, rfl⟩
                have he : prS x.data.toList y z = ⟨tx, 0, 0, 0, 0⟩ := by
                  unfold prS
                  rw [if_neg (fun q => hs (by rw [HL.out] at q; have := q.1; have := q.2; subst_vars; omega)), ← htx]; rfl
                have HE : Hid (y * W * 5 + z * 5 = i * 5 ∧ prS x.data.toList y z = _) := ⟨eo, he⟩
                clear eo hix he
                go_wp2_with fail
                try rw [htx]
                obtain ⟨W0, hW0⟩ : ∃ z, wr.alloc (.cells #[.string tx, .int .i64 0, .int .i64 0, .int .i64 0, .int .i64 0] 34) = z := ⟨_, rfl⟩
                obtain ⟨S, hS⟩ : ∃ z, wr.heap.size = z := ⟨_, rfl⟩
                have G0 : Hid (Gr wr W0) := by rw [← hW0]; exact (Gr.refl wr).alloc _
                have R0 : Hid (R5 34 W0 S ⟨tx, 0, 0, 0, 0⟩) := by rw [← hW0, ← hS]; exact R5.new wr ⟨tx, 0, 0, 0, 0⟩ _
                have V1 := HV4.out.gr (HI.out.trans G0.out)
                have e0 := V1.c0 hy hz
                have e1 := V1.c1 hy hz
                have e2 := V1.c2 hy hz
                have e3 := V1.c3 hy hz
                have e4 := V1.c4 hy hz
                rw [HE.out.1, HE.out.2] at e0 e1 e2 e3 e4
                have z0 := R0.out.c0
                have z1 := R0.out.c1
                have z2 := R0.out.c2
                have z3 := R0.out.c3
                have z4 := R0.out.c4
                rw [hW0, hS]
                clear hW0 hS htx V1 HE
                have hmix : Tryd.prog.follows .mixedOrders = true := by kernel_rfl
                go_quiet (fail)
                have HG : Hid (Gr w4 (W0.drewN nq)) := (HI.out.trans G0.out).drewN _
                go_wp2
                go_roundw
                case rel => exact ⟨i + 1, by omega, by go_num, HG.out⟩
                case measure => simp [intOf]; omega
            · have hil' : ¬ (i : Int) < (n : Int) := by omega
              go_wp2
              go_ret
              exact ⟨rfl, HC4.out.trans (HI.out.below.mono HC4.out.size)⟩
  · have TW : Hid (Calls Tryd.prog 7 #[.int .i64 W, .int .i64 H] w fun e w' => e = .returned (.tuple #[.pointer none, .pointer none, .bool true]) ∧ w' = w) := twin_bad W H w hwh
    clear ht hU
    go_enter Tryd.func3, Tryd.ntmps3
    go_wp2_with fail
    refine TW.out.mono ?_
    rintro e w1 ⟨rfl, hw⟩
    obtain rfl := hw.symm
    go_wp2
    go_ret
    exact ⟨rfl, Below.refl _ _⟩

end Go.Proofs.YtlfffpoeioecjaaDoor
