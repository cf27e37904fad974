/-
  TermPrints, walked.
-/
import Derived.Test.YtlfffpoeioecjaaDoorG43
import Derived.Test.YtlfffpoeioecjaaDoorG24
import Derived.Test.YtlfffpoeioecjaaDoorG22
namespace Go.Proofs.YtlfffpoeioecjaaDoor
open Go.RowKit Go.Sort
set_option linter.unusedVariables false

theorem ext_one (x : ByteArray) (i : Nat) (h : i < x.size) : x.extract i (i + 1) = ⟨#[x.data.toList.getD i 0]⟩ := by
  apply ByteArray.ext
  rw [ByteArray.data_extract]
  apply Array.ext'
  rw [Array.toList_extract]
  have hl : i < x.data.toList.length := by rw [len_data]; exact h
  simp only [List.extract]
  rw [List.drop_eq_getElem_cons hl, List.getD_eq_getElem?_getD, List.getElem?_eq_getElem hl]
  simp
theorem look_list (x : ByteArray) : ((⟨#[27, 91, 49, 59, 51, 49, 59, 52, 50, 109]⟩ : ByteArray) ++ x).data.toList = look ++ x.data.toList := by simp [look]

theorem look_size (x : ByteArray) : ((⟨#[27, 91, 49, 59, 51, 49, 59, 52, 50, 109]⟩ : ByteArray) ++ x).size = 10 + x.size := by rw [ByteArray.size_append]; rfl

set_option maxRecDepth 100000 in
set_option maxHeartbeats 8000000 in
theorem prints_walk (W H : Int) (x : ByteArray) (hx : x.size ≤ 9223372036854775807) (w : World) (ht : TabAt w) (hU : Utf w) (hg : 2 < w.heap.size) : Calls Tryd.prog 3 #[.int .i64 W, .int .i64 H, .string x] w fun e w' => e = .returned (.bool true) ∧ Below w.heap.size w w' := by
  by_cases hwh : (1 ≤ W ∧ W ≤ 400) ∧ (1 ≤ H ∧ H ≤ 400)
  · obtain ⟨W, rfl⟩ : ∃ W' : Nat, W = (W' : Int) := ⟨W.toNat, by omega⟩
    obtain ⟨H, rfl⟩ : ∃ H' : Nat, H = (H' : Int) := ⟨H.toNat, by omega⟩
    have TW : Hid (Calls Tryd.prog 7 #[.int .i64 W, .int .i64 H] w fun e w' => ∃ T K M T2, e = .returned (.tuple #[.pointer (some ⟨T, 0, none⟩), .pointer (some ⟨T2, 0, none⟩), .bool true]) ∧ TM w' T K M (W * H) (tm0 W H) (fnV 36 #[]) ∧ w.heap.size ≤ T ∧ w.heap.size ≤ K ∧ w.heap.size ≤ M ∧ Below w.heap.size w w') := twin_ok W H w (by omega) (by omega) (pall0 W H)
    have HT : Hid (TabAt w) := ht
    have HU : Hid (Utf w) := hU
    have hsz := hU.sz
    clear ht hU
    go_enter Tryd.func3, Tryd.ntmps3
    go_wp2_with fail
    refine TW.out.mono ?_
    rintro e w1 ⟨T, K, M, T2, rfl, h1, hT, _, hM, b1⟩
    have hfar : Far T M := ⟨by omega, by omega, by omega⟩
    have H1 : Hid (TM w1 T K M (W * H) (tm0 W H) (fnV 36 #[])) := h1
    have B1 : Hid (Below w.heap.size w w1) := b1
    clear h1 b1 TW
    go_wp2_with fail
    go_loopw [10] (fun iv wr => ∃ i : Nat, i ≤ x.size ∧ iv = .int .i64 i ∧ wr = w1 ∧ Hid (∀ j, j < i → 32 ≤ (x.data.toList.getD j 0).toNat ∧ (x.data.toList.getD j 0).toNat ≤ 126)) (fun iv _ => x.size - (intOf iv).toNat)
    case atStart => exact ⟨0, Nat.zero_le _, rfl, by first | rfl | trivial, fun j hj => absurd hj (Nat.not_lt_zero _)⟩
    case round =>
      obtain ⟨i, hi, rfl, rfl, HA⟩ := hrel
      by_cases hlt : i < x.size
      · have hlt' : (i : Int) < (x.size : Int) := by omega
        obtain ⟨bt, hbt⟩ : ∃ b, x[i]'hlt = b := ⟨_, rfl⟩
        have HD : Hid (x.data.toList.getD i 0 = bt) := by
          show _ = _
          rw [List.getD_eq_getElem?_getD, Array.getElem?_toList, ← hbt, show x.data[i]? = some (x[i]'hlt) from Array.getElem?_eq_getElem hlt]
          rfl
        by_cases h1 : (bt.toNat : Int) < 32
        · go_wp2
          go_ret
          exact ⟨rfl, B1.out⟩
        · by_cases h2 : (126 : Int) < (bt.toNat : Int)
          · go_wp2
            go_ret
            exact ⟨rfl, B1.out⟩
          · go_wp2
            go_roundw
            case rel =>
              refine ⟨i + 1, by omega, by go_num, by first | rfl | trivial, fun j hj => ?_⟩
              by_cases hj2 : j < i
              · exact HA.out j hj2
              · obtain rfl : j = i := by omega
                rw [HD.out]; omega
            case measure => simp [intOf]; omega
      · have hlt' : ¬ (i : Int) < (x.size : Int) := by omega
        obtain rfl : i = x.size := by omega
        by_cases hw : (W : Int) < (x.size : Int)
        · go_wp2
          go_ret
          exact ⟨rfl, B1.out⟩
        · have WR : Hid (Calls Tryd.prog 8 #[.pointer (some ⟨T, 0, none⟩), .string ((⟨#[27, 91, 49, 59, 51, 49, 59, 52, 50, 109]⟩ : ByteArray) ++ x)] wr fun e w' => WrOut wr w' e T K M (W * H) (runT (tm0 W H, .out) ((⟨#[27, 91, 49, 59, 51, 49, 59, 52, 50, 109]⟩ : ByteArray) ++ x).data.toList)) := write_any _ (by rw [look_size]; omega) wr H1.out rfl (ti0 W H (by omega)) trivial (HT.out.below B1.out) (HU.out.below B1.out) hfar
          rw [look_list] at WR
          have HL : Hid (x.data.toList.length = x.size) := len_data x
          have PA : Hid (Pr W H x.data.toList (runT (tm0 W H, .out) (look ++ x.data.toList))) := Pr.all W H (by omega) (by omega) x.data.toList (by rw [HL.out]; omega) (fun b hb => by
            obtain ⟨j, hj, rfl⟩ := List.mem_iff_getElem.1 hb
            have := HA.out j (by rw [← HL.out]; exact hj)
            rw [List.getD_eq_getElem?_getD, List.getElem?_eq_getElem hj] at this
            exact this)
          obtain ⟨p, hp⟩ : ∃ p, runT (tm0 W H, .out) (look ++ x.data.toList) = p := ⟨_, rfl⟩
          rw [hp] at WR PA
          obtain ⟨s, st⟩ := p
          clear hp HA
          go_wp2_with fail
          refine WR.out.mono ?_
          rintro e w2 ⟨rfl, ⟨nv, h2, _⟩, hti, _, c2⟩
          have H2 : Hid (TM w2 T K M (W * H) s nv) := h2
          have HC2 : Hid (Below w.heap.size w w2) := ⟨c2.os.trans B1.out.os, c2.tape.trans B1.out.tape, c2.output.trans B1.out.output, Nat.le_trans B1.out.size c2.size, fun b hb => (c2.block b (Nat.lt_of_lt_of_le hb B1.out.size) (by omega) (by omega)).trans (B1.out.block b hb)⟩
          have hsW : s.W = W := PA.out.w
          have hsH : s.H = H := PA.out.h
          have TC : Hid (Calls Tryd.prog 9 #[.pointer (some ⟨T, 0, none⟩)] w2 fun e w' => ∃ N cap', e = .returned (.slice (some ⟨N, 0, none⟩) (W * H) cap') ∧ Cv 34 w' N W H s.c ∧ w2.heap.size ≤ N ∧ Below w2.heap.size w2 w') := by have := tcells_any w2 h2; rw [hsW, hsH] at this; exact this
          have hsx : s.r.x = (x.size : Int) := by rw [← HL.out]; exact PA.out.x
          have hsy : s.r.y = 0 := PA.out.y
          have hsc : s.c = prS x.data.toList := PA.out.c
          rw [hsc] at TC
          clear h2 hti c2 WR hsc hsW hsH PA
          go_wp2_with fail
          refine TC.out.mono ?_
          rintro e w3 ⟨N, cp, rfl, hcv, hN, b3⟩
          have H3 : Hid (TM w3 T K M (W * H) s nv) := H2.out.below b3
          have HC3 : Hid (Below w.heap.size w w3) := HC2.out.trans (b3.mono HC2.out.size)
          have HV3 : Hid (Cv 34 w3 N W H (prS x.data.toList)) := hcv
          clear hcv hN b3 TC
          go_wp2_with fail
          refine (cursor_any w3 H3.out).mono ?_
          rintro e w4 ⟨rfl, g4⟩
          have HC4 : Hid (Below w.heap.size w w4) := HC3.out.trans (g4.below.mono HC3.out.size)
          have HV4 : Hid (Cv 34 w4 N W H (prS x.data.toList)) := HV3.out.gr g4
          rw [hsx, hsy]
          obtain ⟨n, hn⟩ : ∃ n, W * H = n := ⟨_, rfl⟩
          have hn' : (W : Int) * (H : Int) = (n : Int) := by rw [← hn, Int.natCast_mul]
          have hnb : n ≤ 160000 := by rw [← hn]; exact Nat.le_trans (Nat.mul_le_mul (by omega : W ≤ 400) (by omega : H ≤ 400)) (by decide)
          have HN : Hid (W * H = n) := hn
          rw [hn]
          clear hn g4 H3 H2 hsx hsy HV3
          go_wp2_with fail
          go_loopw [14] (fun iv wr => ∃ i : Nat, i ≤ n ∧ iv = .int .i64 i ∧ Hid (Gr w4 wr)) (fun iv _ => n - (intOf iv).toNat)
          case atStart => exact ⟨0, by omega, rfl, Gr.refl _⟩
          case round =>
            obtain ⟨i, hi, rfl, HI⟩ := hrel
            by_cases hil : i < n
            · have hil' : (i : Int) < (n : Int) := by omega
              obtain ⟨y, z, hy, hz, hix⟩ := lin_split (by rw [HN.out]; exact hil)
              have eo : y * W * 5 + z * 5 = i * 5 := by rw [hix, Nat.add_mul]
              by_cases hs : i < x.size
              · have hs' : (i : Int) < (x.size : Int) := by omega
                have hy0 : y = 0 := by
                  rcases Nat.eq_zero_or_pos y with h | h
                  · exact h
                  · have : 1 * W ≤ y * W := Nat.mul_le_mul_right _ h
                    omega
                have hz0 : z = i := by rw [hix, hy0]; omega
                obtain ⟨tx, htx⟩ : ∃ t, x.extract i (i + 1) = t := ⟨_, rfl⟩
                have he : prS x.data.toList y z = ⟨tx, 2, 3, 1, 0⟩ := by
                  unfold prS
                  rw [if_pos ⟨hy0, by rw [HL.out]; omega⟩, ← htx, ext_one x i hs, hz0]
                have HE : Hid (y * W * 5 + z * 5 = i * 5 ∧ prS x.data.toList y z = _) := ⟨eo, he⟩
                clear eo hix he
                go_wp2_with fail
                try rw [htx]
                obtain ⟨W0, hW0⟩ : ∃ z, wr.alloc (.cells #[.string tx, .int .i64 2, .int .i64 3, .int .i64 1, .int .i64 0] 34) = z := ⟨_, rfl⟩
                obtain ⟨S, hS⟩ : ∃ z, wr.heap.size = z := ⟨_, rfl⟩
                have G0 : Hid (Gr wr W0) := by rw [← hW0]; exact (Gr.refl wr).alloc _
                have R0 : Hid (R5 34 W0 S ⟨tx, 2, 3, 1, 0⟩) := by rw [← hW0, ← hS]; exact R5.new wr ⟨tx, 2, 3, 1, 0⟩ _
                have V1 := HV4.out.gr (HI.out.trans G0.out)
                have e0 := V1.c0 hy hz
                have e1 := V1.c1 hy hz
                have e2 := V1.c2 hy hz
                have e3 := V1.c3 hy hz
                have e4 := V1.c4 hy hz
                rw [HE.out.1, HE.out.2] at e0 e1 e2 e3 e4
                have z0 := R0.out.c0
                have z1 := R0.out.c1
                have z2 := R0.out.c2
                have z3 := R0.out.c3
                have z4 := R0.out.c4
                rw [hW0, hS]
                clear hW0 hS htx V1 HE
                have hmix : Tryd.prog.follows .mixedOrders = true := by kernel_rfl
                go_quiet (fail)
                have HG : Hid (Gr w4 (W0.drewN nq)) := (HI.out.trans G0.out).drewN _
                go_wp2
                go_roundw
                case rel => exact ⟨i + 1, by omega, by go_num, HG.out⟩
                case measure => simp [intOf]; omega
              · have hs' : ¬ (i : Int) < (x.size : Int) := by omega
                obtain ⟨tx, htx⟩ : ∃ t, (⟨#[32]⟩ : ByteArray) = t := ⟨_, rfl⟩
                have he : prS x.data.toList y z = ⟨tx, 0, 0, 0, 0⟩ := by
                  unfold prS
                  rw [if_neg (fun q => hs (by rw [HL.out] at q; have := q.1; have := q.2; subst_vars; omega)), ← htx]; rfl
                have HE : Hid (y * W * 5 + z * 5 = i * 5 ∧ prS x.data.toList y z = _) := ⟨eo, he⟩
                clear eo hix he
                go_wp2_with fail
                try rw [htx]
                obtain ⟨W0, hW0⟩ : ∃ z, wr.alloc (.cells #[.string tx, .int .i64 0, .int .i64 0, .int .i64 0, .int .i64 0] 34) = z := ⟨_, rfl⟩
                obtain ⟨S, hS⟩ : ∃ z, wr.heap.size = z := ⟨_, rfl⟩
                have G0 : Hid (Gr wr W0) := by rw [← hW0]; exact (Gr.refl wr).alloc _
                have R0 : Hid (R5 34 W0 S ⟨tx, 0, 0, 0, 0⟩) := by rw [← hW0, ← hS]; exact R5.new wr ⟨tx, 0, 0, 0, 0⟩ _
                have V1 := HV4.out.gr (HI.out.trans G0.out)
                have e0 := V1.c0 hy hz
                have e1 := V1.c1 hy hz
                have e2 := V1.c2 hy hz
                have e3 := V1.c3 hy hz
                have e4 := V1.c4 hy hz
                rw [HE.out.1, HE.out.2] at e0 e1 e2 e3 e4
                have z0 := R0.out.c0
                have z1 := R0.out.c1
                have z2 := R0.out.c2
                have z3 := R0.out.c3
                have z4 := R0.out.c4
                rw [hW0, hS]
                clear hW0 hS htx V1 HE
                have hmix : Tryd.prog.follows .mixedOrders = true := by kernel_rfl
                go_quiet (fail)
                have HG : Hid (Gr w4 (W0.drewN nq)) := (HI.out.trans G0.out).drewN _
                go_wp2
                go_roundw
                case rel => exact ⟨i + 1, by omega, by go_num, HG.out⟩
                case measure => simp [intOf]; omega
            · have hil' : ¬ (i : Int) < (n : Int) := by omega
              go_wp2
              go_ret
              exact ⟨rfl, HC4.out.trans (HI.out.below.mono HC4.out.size)⟩
  · have TW : Hid (Calls Tryd.prog 7 #[.int .i64 W, .int .i64 H] w fun e w' => e = .returned (.tuple #[.pointer none, .pointer none, .bool true]) ∧ w' = w) := twin_bad W H w hwh
    clear ht hU
    go_enter Tryd.func3, Tryd.ntmps3
    go_wp2_with fail
    refine TW.out.mono ?_
    rintro e w1 ⟨rfl, hw⟩
    obtain rfl := hw.symm
    go_wp2
    go_ret
    exact ⟨rfl, Below.refl _ _⟩

end Go.Proofs.YtlfffpoeioecjaaDoor

namespace Go.Proofs.YtlfffpoeioecjaaDoor
open Go.RowKit Go.Sort
set_option linter.unusedVariables false

def qSz (w : World) (T : Nat) : Nat := match w.cell? ⟨T, 6, none⟩ with
  | some (.string q) => q.size
  | _ => 0
theorem RT.qSz {w : World} {T K M cap B bc : Nat} {s : Rm} (h : RT w T K M cap B bc s) : qSz w T = s.q.size := by
  have : w.cell? ⟨T, 6, none⟩ = some (.string s.q) := h.at rfl
  unfold Go.Proofs.YtlfffpoeioecjaaDoor.qSz
  rw [this]
/-- The document's terminal in memory, as the program's stands: at most k bytes are half come. -/
structure Doc (w0 w : World) (T M B bc : Nat) (p : Tm × St) (wv : Nat → Bool) (k : Nat) : Prop where
  rt : ∃ K' M' cap' s, RT w T K' M' cap' B bc s ∧ Docd p.1 p.2 wv s ∧ s.q.size ≤ k ∧ (M' = M ∨ w0.heap.size ≤ M')
  c3 : C3 T M B w0 w
/-- What has been written, behind bytes. -/
def runW : Tm × St → (Nat → Bool) → List UInt8 → Nat → Bool
  | _, wv, [] => wv
  | p, wv, b :: r => runW (stepT p.1 b p.2) (wvS p.1 b wv p.2) r
theorem runW_app (p : Tm × St) (wv : Nat → Bool) (l : List UInt8) (b : UInt8) : runW p wv (l ++ [b]) = wvS (runT p l).1 b (runW p wv l) (runT p l).2 := by
  induction l generalizing p wv with
  | nil => rfl
  | cons a l ih => exact ih _ _
/-- What the steps have left so far. -/
structure Lp (w0 w : World) (T M B bc : Nat) (P : Rm → Prop) (k : Nat) (a : Bool) : Prop where
  rt : ∃ K' M' cap' s, RT w T K' M' cap' B bc s ∧ (if a then ∃ n, Ends n s P else P s) ∧ s.q.size ≤ k ∧ (M' = M ∨ w0.heap.size ≤ M')
  c3 : C3 T M B w0 w
def bOf : Value → Nat
  | .bool true => 1
  | _ => 0
/-- One step more. -/
theorem Lp.step {w0 w : World} {T M B bc : Nat} {P : Rm → Prop} {k : Nat} (h : Lp w0 w T M B bc P k true) :
    ∃ a : Bool, Calls Tryd.prog 33 #[.pointer (some ⟨T, 0, none⟩)] w fun e w' => e = .returned (.bool a) ∧ Lp w0 w' T M B bc P k a ∧ 2 * qSz w' T + bOf (.bool a) < 2 * qSz w T + 1 := by
  obtain ⟨⟨K', M', cap', s, r, ⟨n, hn⟩, hk, hM⟩, hc⟩ := h
  have hsz := r.qSz
  have key : ∀ s' (a : Bool), StepTo s s' a → (if a then ∃ n, Ends n s' P else P s') → s'.q.size ≤ s.q.size → (a = true → s'.q.size < s.q.size) → Calls Tryd.prog 33 #[.pointer (some ⟨T, 0, none⟩)] w fun e w' => e = .returned (.bool a) ∧ Lp w0 w' T M B bc P k a ∧ 2 * qSz w' T + bOf (.bool a) < 2 * qSz w T + 1 := fun s' a hs he hle hlt => (hs w T K' M' cap' B bc r).mono fun e w' q => by
    obtain ⟨q1, ⟨K2, M2, cap2, r2, hM2⟩, c2⟩ := q
    have hsz2 := r2.qSz
    have hs0 := hc.size
    refine ⟨q1, ⟨⟨K2, M2, cap2, s', r2, he, by omega, ?_⟩, hc.transM c2 hM⟩, ?_⟩
    · rcases hM2 with h | h
      · rcases hM with g | g
        · exact .inl (h.trans g)
        · exact .inr (by omega)
      · exact .inr (by omega)
    · rw [hsz, hsz2]
      cases a with
      | true => have := hlt rfl; show 2 * s'.q.size + 1 < _; omega
      | false => show 2 * s'.q.size + 0 < _; omega
  cases n with
  | zero =>
    obtain ⟨s', h1, h2, h3⟩ := hn
    exact ⟨false, key s' false h1 h3 h2 (fun q => by cases q)⟩
  | succ n =>
    obtain ⟨s', h1, h2, h3⟩ := hn
    exact ⟨true, key s' true h1 ⟨n, h3⟩ (by omega) (fun _ => h2)⟩

section
variable {T M B bc : Nat}
set_option maxRecDepth 100000 in
set_option maxHeartbeats 8000000 in
theorem rwrite_any (x : ByteArray) (w : World) {p : Tm × St} {wv : Nat → Bool} {k : Nat} (h : Doc w w T M B bc p wv k) (hi : Ti p.1) (hs : Si p.2) (hx : k + x.size + 1 ≤ 4611686018427387904) :
    Calls Tryd.prog 18 #[.pointer (some ⟨T, 0, none⟩), .string x] w fun e w' => e = .returned (.tuple #[]) ∧ Doc w w' T M B bc (runT p x.data.toList) (runW p wv x.data.toList) (k + x.size) := by
  have hmix : Tryd.prog.follows .mixedOrders = true := by kernel_rfl
  have H0 : Hid (Doc w w T M B bc p wv k ∧ Ti p.1 ∧ Si p.2) := ⟨h, hi, hs⟩
  clear h hi hs
  go_enter Tryd.func18, Tryd.ntmps18
  go_wp2
  go_loopw [4] (fun iv wr => ∃ i : Nat, i ≤ x.size ∧ iv = .int .i64 i ∧ Hid (Doc w wr T M B bc (runT p (x.data.toList.take i)) (runW p wv (x.data.toList.take i)) (k + i) ∧ Ti (runT p (x.data.toList.take i)).1 ∧ Si (runT p (x.data.toList.take i)).2)) (fun iv _ => x.size - (intOf iv).toNat)
  case atStart => exact ⟨0, Nat.zero_le _, rfl, H0.out⟩
  case round =>
    obtain ⟨i, hil, rfl, HJ⟩ := hrel
    by_cases hlt : i < x.size
    · have hlt' : (i : Int) < (x.size : Int) := by omega
      obtain ⟨P, hP⟩ : ∃ z, runT p (x.data.toList.take i) = z := ⟨_, rfl⟩
      obtain ⟨V, hV⟩ : ∃ z, runW p wv (x.data.toList.take i) = z := ⟨_, rfl⟩
      obtain ⟨bt, hbt⟩ : ∃ b, x.data.toList.getD i 0 = b := ⟨_, rfl⟩
      have e : x.data.toList[i]? = some bt := by
        have hl : i < x.data.toList.length := by rw [len_data]; exact hlt
        rw [← hbt, List.getD_eq_getElem?_getD, List.getElem?_eq_getElem hl]; rfl
      have HP : Hid (runT p (x.data.toList.take (i + 1)) = stepT P.1 bt P.2 ∧ runW p wv (x.data.toList.take (i + 1)) = wvS P.1 bt V P.2) := by
        refine ⟨?_, ?_⟩
        · rw [List.take_add_one, e, ← hP, ← runT_app]; rfl
        · rw [List.take_add_one, e, ← hP, ← hV, ← runW_app]; rfl
      have HX : Hid (x.extract i (i + 1) = ⟨#[bt]⟩) := by show _ = _; rw [ext_one x i hlt, hbt]
      obtain ⟨hd, hti, hsi⟩ := HJ.out
      rw [hP, hV] at hd
      rw [hP] at hti hsi
      obtain ⟨⟨K', M', cap', s, r, hdoc, hk, hM⟩, hc⟩ := hd
      obtain ⟨n, hn⟩ : ∃ n, Ends n { s with q := s.q ++ ⟨#[bt]⟩ } (Docd (stepT P.1 bt P.2).1 (stepT P.1 bt P.2).2 (wvS P.1 bt V P.2)) := by
        obtain ⟨q, la, mks, rfl, hl, hh⟩ := hdoc
        exact feed r.hW r.hH r.pa hti ⟨q, la, mks, rfl, hl, hh⟩ bt (by show q.size + 1 ≤ _; have : q.size ≤ k + i := hk; omega)
      have SO : Hid (Ti (stepT P.1 bt P.2).1 ∧ Si (stepT P.1 bt P.2).2) := by
        obtain ⟨q, la, mks, rfl, hl, hh⟩ := hdoc
        exact step_ok hti hsi r.hW.1 r.hH.1 bt
      have t6 : wr.cell? ⟨T, 6, none⟩ = some (.string s.q) := r.at rfl
      have f6 := r.fz 6
      obtain ⟨fb, hfb⟩ : ∃ z, x.extract i (i + 1) = z := ⟨_, rfl⟩
      have hfs : fb = ⟨#[bt]⟩ := by rw [← hfb]; exact HX.out
      have hfz : fb.size = 1 := by rw [hfs]; rfl
      have hcc : ¬ 9223372036854775807 < s.q.size + fb.size := by omega
      have L0 : Hid (Lp w (wr.setCell ⟨T, 6, none⟩ (.string (s.q ++ fb))).drew T M B bc (Docd (stepT P.1 bt P.2).1 (stepT P.1 bt P.2).2 (wvS P.1 bt V P.2)) (k + (i + 1)) true) :=
        ⟨⟨K', M', cap', { s with q := s.q ++ fb }, (RT.q _ r _).gr (Gr.refl _).drew, ⟨n, by rw [hfs]; exact hn⟩, by show (s.q ++ fb).size ≤ _; rw [ByteArray.size_append]; omega, hM⟩, (hc.set _ _).trans (C3.gr (Gr.refl _).drew)⟩
      clear hn r hdoc hc hM HJ hti hsi hP hV e hbt hfs
      go_wp2_with fail
      go_region
      try rw [hfb]
      obtain ⟨w2, hw2⟩ : ∃ z, (wr.setCell ⟨T, 6, none⟩ (.string (s.q ++ fb))).drew = z := ⟨_, rfl⟩
      rw [hw2] at L0 ⊢
      clear hw2 t6 f6 hcc
      go_wp2_with fail
      go_loopw [5] (fun av wk => ∃ a : Bool, av = .bool a ∧ Hid (Lp w wk T M B bc (Docd (stepT P.1 bt P.2).1 (stepT P.1 bt P.2).2 (wvS P.1 bt V P.2)) (k + (i + 1)) a)) (fun av wk => 2 * qSz wk T + bOf av)
      case atStart => exact ⟨true, rfl, L0.out⟩
      case round =>
        obtain ⟨a, rfl, HL⟩ := hrel
        cases a with
        | true =>
          obtain ⟨a2, hcall⟩ := HL.out.step
          have HC : Hid (Calls Tryd.prog 33 #[.pointer (some ⟨T, 0, none⟩)] wr fun e w' => e = .returned (.bool a2) ∧ Lp w w' T M B bc (Docd (stepT P.1 bt P.2).1 (stepT P.1 bt P.2).2 (wvS P.1 bt V P.2)) (k + (i + 1)) a2 ∧ 2 * qSz w' T + bOf (.bool a2) < 2 * qSz wr T + 1) := hcall
          clear hcall
          go_wp2_with fail
          refine HC.out.mono ?_
          rintro e w3 ⟨rfl, l3, m3⟩
          have L3 : Hid (Lp w w3 T M B bc (Docd (stepT P.1 bt P.2).1 (stepT P.1 bt P.2).2 (wvS P.1 bt V P.2)) (k + (i + 1)) a2) := l3
          have M3 : Hid (2 * qSz w3 T + bOf (.bool a2) < 2 * qSz wr T + 1) := m3
          clear l3 m3 HC
          go_wp2
          go_roundw
          case rel => exact ⟨a2, rfl, L3.out⟩
          case measure => exact M3.out
        | false =>
          have HD : Hid (Doc w wr T M B bc (runT p (x.data.toList.take (i + 1))) (runW p wv (x.data.toList.take (i + 1))) (k + (i + 1)) ∧ Ti (runT p (x.data.toList.take (i + 1))).1 ∧ Si (runT p (x.data.toList.take (i + 1))).2) := by
            show _ ∧ _
            rw [HP.out.1, HP.out.2]
            exact ⟨⟨HL.out.rt, HL.out.c3⟩, SO.out⟩
          go_wp2
          go_roundw
          case rel => exact ⟨i + 1, by omega, by go_num, HD.out⟩
          case measure => simp [intOf]; omega
    · have hlt' : ¬ (i : Int) < (x.size : Int) := by omega
      obtain rfl : i = x.size := by omega
      have HF : Hid (x.data.toList.take x.size = x.data.toList) := List.take_of_length_le (by rw [len_data]; exact Nat.le_refl _)
      have HJ2 := HJ.out
      rw [HF.out] at HJ2
      go_wp2
      go_end0
      exact ⟨rfl, HJ2.1⟩
end

end Go.Proofs.YtlfffpoeioecjaaDoor

namespace Go.Proofs.YtlfffpoeioecjaaDoor
open Go.RowKit Go.Sort
set_option linter.unusedVariables false

def rm0 (W H : Nat) : Rm := mkR (tm0 W H) emp (-1) 0 (fun _ => false)
theorem docd0 (W H : Nat) : Docd (tm0 W H) .out (fun _ => false) (rm0 W H) := ⟨emp, -1, 0, rfl, .inl ⟨rfl, rfl⟩, rfl⟩
theorem BR.new (w : World) (n : Nat) : BR (w.alloc (.cells (madeCells #[.bool false] n) 4)) w.heap.size n (fun _ => false) :=
  ⟨⟨_, heap_alloc_new _ _⟩, fun j hj => by rw [World.cell?_alloc_at _ _ _ _ rfl]; simp [madeCells, hj, Nat.mod_one]⟩
/-- A new terminal of the document's. -/
structure RNw (w w' : World) (T B bc W H : Nat) : Prop where
  rt : ∃ K M cap, RT w' T K M cap B bc (rm0 W H) ∧ w.heap.size ≤ K ∧ w.heap.size ≤ M
  t : w.heap.size ≤ T
  b : w.heap.size ≤ B
  bel : Below w.heap.size w w'

set_option maxRecDepth 100000 in
set_option maxHeartbeats 2000000 in
theorem rterm_new (W H : Nat) (w : World) (hW : 1 ≤ W ∧ W ≤ 400) (hH : 1 ≤ H ∧ H ≤ 400) : Calls Tryd.prog 22 #[.int .i64 W, .int .i64 H] w fun e w' => ∃ T B bc, e = .returned (.tuple #[.pointer (some ⟨T, 0, none⟩), .int .i64 0]) ∧ RNw w w' T B bc W H := by
  have NO : Hid (Calls Tryd.prog 37 #[.int .i64 W, .int .i64 H] w fun e w' => ∃ K, e = .returned (.tuple #[.pointer (some ⟨K, 0, none⟩), .int .i64 0]) ∧ RN w w' W H K) := rnew_ok W H hW hH w
  have hwh : W * H ≤ 160000 := Nat.le_trans (Nat.mul_le_mul hW.2 hH.2) (by decide)
  obtain ⟨n, hn⟩ : ∃ n, W * H = n := ⟨_, rfl⟩
  have hn' : (W : Int) * (H : Int) = (n : Int) := by rw [← hn, Int.natCast_mul]
  have HN : Hid (W * H = n) := hn
  rw [hn] at hwh
  clear hn
  have hmk : ∀ u : World, (Instr.makeSlice 51 (.int .i64 (n : Int)) (.int .i64 (n : Int))).run Tryd.prog u = .ok (.slice (some ⟨u.heap.size, 0, none⟩) n n) (u.alloc (.cells (madeCells #[.bool false] n) 4)) := fun u => run_make_row' (P := Tryd.prog) 51 4 (.bool false) 1 Tryd.underlying51 infoBool rfl .i64 .i64 n (by omega) (by omega) u
  go_enter Tryd.func22, Tryd.ntmps22
  go_wp2_with fail
  refine NO.out.mono ?_
  rintro e w1 ⟨K, rfl, hk, M, cap, hcs, hm, b1⟩
  have HB : Hid (Below w.heap.size w w1) := b1
  have HC : Hid (CS 48 57 w1 K M cap W H (fun _ _ => bk 0 0 0)) := hcs
  have hkl := hcs.klt
  have hml := hcs.cv.lt
  clear hcs b1
  go_wp2
  refine bodyPost_ret (v := .tuple #[.pointer (some ⟨w1.heap.size + 1, 0, none⟩), .int .i64 0]) (by simp [results, Tryd.results22, go_sem]) rfl ?_
  have h1 := HB.out.size
  refine ⟨w1.heap.size + 1, w1.heap.size, n, rfl, ⟨⟨K, M, cap, ?_, hk, hm⟩, by omega, h1, (HB.out.alloc h1 _).alloc (by simp; omega) _⟩⟩
  have G : Gr w1 ((w1.alloc (.cells (madeCells #[.bool false] n) 4)).alloc (.cells (rtc K w1.heap.size n (rm0 W H)) 53)) := ((Gr.refl _).alloc _).alloc _
  have e0 : rtc K w1.heap.size n (rm0 W H) = #[.pointer (some ⟨K, 0, none⟩), .int .i64 0, .int .i64 0, .int .i64 0, .int .i64 0, .int .i64 0, .string ⟨#[]⟩, .int .i64 (-1), .int .i64 0, .slice (some ⟨w1.heap.size, 0, none⟩) n n] := by
    show #[_, _, _, _, _, _, _, _, _, Value.slice (some ⟨w1.heap.size, 0, none⟩) (W * H) n] = _
    rw [HN.out]
    rfl
  rw [← e0]
  have hal : (w1.alloc (.cells (madeCells #[.bool false] n) 4)).heap.size = w1.heap.size + 1 := by simp
  refine ⟨?_, HC.out.gr G, ?_, by omega, by omega, by omega, by omega, by omega, ?_, hW, hH, pall1 W H⟩
  · have := heap_alloc_new (w1.alloc (.cells (madeCells #[.bool false] n) 4)) (.cells (rtc K w1.heap.size n (rm0 W H)) 53)
    rw [hal] at this
    exact this
  · have hb := BR.new w1 n
    have hn2 : (rm0 W H).W * (rm0 W H).H = n := HN.out
    rw [hn2]
    exact hb.keep (((Gr.refl _).alloc _).block (by rw [hal]; omega))
  · show W * H ≤ n
    rw [HN.out]
    exact Nat.le_refl _

end Go.Proofs.YtlfffpoeioecjaaDoor
