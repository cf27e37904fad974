/-
  The reference's kids, given what node does.
-/
import Derived.Test.YtnkebfmlaliddaaGreatDoorP21
import Derived.Test.YtnkebfmlaliddaaGreatDoorP17
import Derived.Test.YtnkebfmlaliddaaGreatDoorP20
namespace Go.Proofs.YtnkebfmlaliddaaGreatDoor
open Go.RowKit
set_option linter.unusedVariables false

def kidsR (s : ByteArray) (node : PS → Except Nat PS) (st : PS) : Except Nat PS := match mustR s st.i 91 with
  | .error b => .error b
  | .ok i2 => if isAt s i2 93 then .ok { st with i := gotI s i2 93 } else kidsF s node (s.size + 1) { st with i := sk s i2 }
def endR (s : ByteArray) (st : PS) : Except Nat PS := match mustR s st.i 93 with
  | .error b => .error b
  | .ok i3 => .ok { st with i := i3 }
theorem mustR_sk (s : ByteArray) (i c : Nat) : mustR s (sk s i) c = mustR s i c := by unfold mustR; rw [isAt_sk, gotI_sk, sk_sk]
theorem endR_sk (s : ByteArray) (st : PS) : endR s { st with i := sk s st.i } = endR s st := by unfold endR; simp only; rw [mustR_sk]
theorem kidsF_err {s : ByteArray} {node : PS → Except Nat PS} {g : Nat} {st : PS} {b : Nat} (h : node st = .error b) : kidsF s node (g + 1) st = .error b := by rw [kidsF, h]
theorem kidsF_more {s : ByteArray} {node : PS → Except Nat PS} {g : Nat} {st st2 : PS} (h : node st = .ok st2) (hm : isAt s st2.i 44 = true) : kidsF s node (g + 1) st = kidsF s node g { st2 with i := gotI s st2.i 44 } := by
  rw [kidsF, h]; simp only; rw [if_pos hm]
theorem kidsF_last {s : ByteArray} {node : PS → Except Nat PS} {g : Nat} {st st2 : PS} (h : node st = .ok st2) (hm : ¬ isAt s st2.i 44 = true) : kidsF s node (g + 1) st = endR s st2 := by
  rw [kidsF, h]; simp only; rw [if_neg hm]; rfl
/-- How a round of kids stands. -/
def KI (s : ByteArray) (node : PS → Except Nat PS) (R : Except Nat PS) (m : Bool) (i : Nat) (L : List Nd) (f : Flt) (bad : Int) : Prop :=
  (bad = -1 ∧ m = true ∧ ∃ g, s.size < g + i ∧ kidsF s node g ⟨i, L, f⟩ = R) ∨ (bad = -1 ∧ m = false ∧ endR s ⟨i, L, f⟩ = R) ∨ (∃ b : Nat, bad = b ∧ m = false ∧ R = .error b)
section
variable {s : ByteArray} {i c : Nat} {b : Nat}
theorem gB_ok : gB s i c (-1) = isAt s i c := by unfold gB; rw [if_pos (by omega)]
theorem mI_ok : mI s i c (-1) = gotI s i c := by unfold mI; rw [if_pos (by omega)]
theorem mB_ok : mB s i c (-1) = if isAt s i c then -1 else (sk s i : Int) := by unfold mB; rw [if_pos (by omega)]; rfl
theorem gB_bad : gB s i c (b : Int) = false := by unfold gB; rw [if_neg (by omega)]
theorem mB_bad : mB s i c (b : Int) = b := by unfold mB; rw [if_neg (by omega)]
theorem gI_at (h : isAt s i c = true) : gotI s i c = sk s i + 1 := by unfold gotI; rw [if_pos (by unfold isAt at h; simpa using h)]
theorem gotI_not (h : ¬ isAt s i c = true) : gotI s i c = sk s i := by unfold gotI; rw [if_neg (by unfold isAt at h; simpa using h)]
end

set_option maxRecDepth 100000 in
set_option maxHeartbeats 4000000 in
theorem kids_bad (rb B : Nat) (s : ByteArray) (i : Nat) (L : List Nd) (f : Flt) (b : Nat) (dep up : Int) (w0 w : World) (h : RW w0 w rb B s i L f (b : Int) dep) (hs : s.size ≤ 1073741824) :
    Calls Tryz.prog 50 #[.pointer (some ⟨rb, 0, none⟩), .int .i64 up] w fun e w' => e = .returned (.tuple #[]) ∧ ∃ i', RW w0 w' rb B s i' L f (b : Int) dep := by
  have MU : Hid (∀ (c i : Nat) (w : World), c < 256 → RW w0 w rb B s i L f (b : Int) dep → Calls Tryz.prog 51 #[.pointer (some ⟨rb, 0, none⟩), .int .u8 (c : Int)] w fun e w' => e = .returned (.tuple #[]) ∧ RW w0 w' rb B s (mI s i c b) L f (b : Int) dep) := fun c i w hc h => by have := rw_must c hc h hs; rw [mB_bad] at this; exact this
  have GO : Hid (∀ (c i : Nat) (w : World), c < 256 → RW w0 w rb B s i L f (b : Int) dep → Calls Tryz.prog 78 #[.pointer (some ⟨rb, 0, none⟩), .int .u8 (c : Int)] w fun e w' => e = .returned (.bool false) ∧ RW w0 w' rb B s (mI s i c b) L f (b : Int) dep) := fun c i w hc h => by have := rw_got c hc h hs; rw [gB_bad] at this; exact this
  have M91 : Hid (Calls Tryz.prog 51 #[.pointer (some ⟨rb, 0, none⟩), .int .u8 91] w fun e w' => e = .returned (.tuple #[]) ∧ RW w0 w' rb B s (mI s i 91 b) L f (b : Int) dep) := MU.out 91 i w (by omega) h
  have hbf : decide ((b : Int) < 0) = false := decide_eq_false (by omega)
  clear h
  go_enter Tryz.func50, Tryz.ntmps50
  go_wp2_with fail
  refine Calls.mono M91.out ?_
  rintro e w1 ⟨rfl, h1⟩
  have G93 : Hid (Calls Tryz.prog 78 #[.pointer (some ⟨rb, 0, none⟩), .int .u8 93] w1 fun e w' => e = .returned (.bool false) ∧ RW w0 w' rb B s (mI s (mI s i 91 b) 93 b) L f (b : Int) dep) := GO.out 93 _ w1 (by omega) h1
  clear h1 M91
  go_wp2_with fail
  refine Calls.mono G93.out ?_
  rintro e w2 ⟨rfl, h2⟩
  have H2 : Hid (RW w0 w2 rb B s (mI s (mI s i 91 b) 93 b) L f (b : Int) dep) := h2
  have E93 : Hid (Calls Tryz.prog 51 #[.pointer (some ⟨rb, 0, none⟩), .int .u8 93] w2 fun e w' => e = .returned (.tuple #[]) ∧ RW w0 w' rb B s (mI s (mI s (mI s i 91 b) 93 b) 93 b) L f (b : Int) dep) := MU.out 93 _ w2 (by omega) h2
  clear h2 G93
  go_wp2_with fail
  go_loopw [4] (fun mv wr => mv = .bool true ∧ wr = w2) (fun _ _ => 0)
  case atStart => exact ⟨rfl, rfl⟩
  case round =>
    obtain ⟨rfl, rfl⟩ := hrel
    have c3 := H2.out.c3
    go_wp2_with fail
    refine Calls.mono E93.out ?_
    rintro e w3 ⟨rfl, h3⟩
    have H3 : Hid (RW w0 w3 rb B s (mI s (mI s (mI s i 91 b) 93 b) 93 b) L f (b : Int) dep) := h3
    clear h3 E93 c3
    go_wp2
    go_end0
    exact ⟨rfl, _, H3.out⟩

set_option maxRecDepth 100000 in
set_option maxHeartbeats 8000000 in
theorem kids_of (rb B : Nat) (s : ByteArray) (f : Nat) (hN : NodeR rb B s f) (hs : s.size ≤ 1073741824) (up : Nat) (depth : Nat) (st : PS) (w0 w : World) (h : RW w0 w rb B s st.i st.L st.er (-1) (depth : Int)) (hup : up < st.L.length) (hd : depth ≤ st.i) (hf : s.size < f + st.i) :
    Calls Tryz.prog 50 #[.pointer (some ⟨rb, 0, none⟩), .int .i64 (up : Int)] w fun e w' => e = .returned (.tuple #[]) ∧ NOut w0 w' rb B s (depth : Int) st (kidsR s (nodeF s f (up : Int) depth) st) := by
  by_cases hq : isAt s st.i 91 = true
  · have M91 : Hid (Calls Tryz.prog 51 #[.pointer (some ⟨rb, 0, none⟩), .int .u8 91] w fun e w' => e = .returned (.tuple #[]) ∧ RW w0 w' rb B s (gotI s st.i 91) st.L st.er (-1) (depth : Int)) := by
      have := rw_must 91 (by omega) h hs
      rw [mB_ok, if_pos hq, mI_ok] at this
      exact this
    have hi2 : st.i < gotI s st.i 91 := by rw [gI_at hq]; have := sk_ge s st.i; omega
    have HK : Hid (kidsR s (nodeF s f (up : Int) depth) st = if isAt s (gotI s st.i 91) 93 then .ok { st with i := gotI s (gotI s st.i 91) 93 } else kidsF s (nodeF s f (up : Int) depth) (s.size + 1) { st with i := sk s (gotI s st.i 91) }) := by show _ = _; unfold kidsR mustR; rw [if_pos hq]
    obtain ⟨R, hR⟩ : ∃ z, kidsR s (nodeF s f (up : Int) depth) st = z := ⟨_, rfl⟩
    rw [hR] at HK ⊢
    have HN : Hid (NodeR rb B s f) := hN
    obtain ⟨i2, hi2e⟩ : ∃ z, gotI s st.i 91 = z := ⟨_, rfl⟩
    rw [hi2e] at M91 hi2 HK
    clear h hN hR hi2e hq
    go_enter Tryz.func50, Tryz.ntmps50
    go_wp2_with fail
    refine Calls.mono M91.out ?_
    rintro e w1 ⟨rfl, h1⟩
    have G93 : Hid (Calls Tryz.prog 78 #[.pointer (some ⟨rb, 0, none⟩), .int .u8 93] w1 fun e w' => e = .returned (.bool (isAt s i2 93)) ∧ RW w0 w' rb B s (gotI s i2 93) st.L st.er (-1) (depth : Int)) := by
      have := rw_got 93 (by omega) h1 hs
      rw [gB_ok, mI_ok] at this
      exact this
    clear h1 M91
    have hg93 := gotI_ge s i2 93
    by_cases hq2 : isAt s i2 93 = true
    · have HRE : Hid (R = .ok { st with i := gotI s i2 93 }) := by show _ = _; rw [HK.out, if_pos hq2]
      rw [hq2] at G93
      clear HK hq2
      go_wp2_with fail
      refine Calls.mono G93.out ?_
      rintro e w2 ⟨rfl, h2⟩
      have H2 : Hid (RW w0 w2 rb B s (gotI s i2 93) st.L st.er (-1) (depth : Int)) := h2
      clear h2 G93
      go_wp2
      try simp only [Exit.inBlock, Exit.then]
      refine bodyPost_ret (results_none rfl _ _ _) rfl ?_
      refine ⟨rfl, ?_⟩
      show NOut _ _ _ _ _ _ _ _
      rw [HRE.out]
      exact ⟨H2.out, by show st.i < gotI s i2 93; omega, Nat.le_refl _⟩
    · have hsk : gotI s i2 93 = sk s i2 := gotI_not hq2
      have HKF : Hid (kidsF s (nodeF s f (up : Int) depth) (s.size + 1) ⟨sk s i2, st.L, st.er⟩ = R) := by show _ = _; rw [HK.out, if_neg hq2]
      rw [show isAt s i2 93 = false by simpa using hq2, hsk] at G93
      rw [hsk] at hg93
      clear HK hq2 hsk
      go_wp2_with fail
      refine Calls.mono G93.out ?_
      rintro e w2 ⟨rfl, h2⟩
      have H2 : Hid (RW w0 w2 rb B s (sk s i2) st.L st.er (-1) (depth : Int)) := h2
      have hsl := h2.il
      clear h2 G93
      go_wp2_with fail
      go_loopw [4] (fun mv wr => ∃ (m : Bool) (i : Nat) (L : List Nd) (g : Flt) (bad : Int), mv = .bool m ∧ i ≤ s.size ∧ (bad = -1 → st.i < i ∧ st.L.length ≤ L.length) ∧ Hid (KI s (nodeF s f (up : Int) depth) R m i L g bad) ∧ Hid (RW w0 wr rb B s i L g bad (depth : Int))) (fun mv wr => if moreOf mv then s.size + 1 - rdI wr rb else 0)
      case atStart => exact ⟨true, sk s i2, st.L, st.er, -1, rfl, hsl, fun _ => ⟨by omega, Nat.le_refl _⟩, .inl ⟨rfl, rfl, s.size + 1, by omega, HKF.out⟩, H2.out⟩
      case round =>
        clear H2 HKF
        obtain ⟨m, i, L, g, bad, rfl, hil, hLL, HI, HS⟩ := hrel
        have c3 := HS.out.c3
        have HRd : Hid (rdI wr rb = i) := HS.out.rdI
        rcases HI.out with ⟨rfl, rfl, fu, hfu, hkf⟩ | ⟨rfl, rfl, hen⟩ | ⟨b, rfl, rfl, hre⟩
        · obtain ⟨fu, rfl⟩ : ∃ q, fu = q + 1 := ⟨fu - 1, by omega⟩
          obtain ⟨hii, hLs⟩ := hLL rfl
          clear hLL
          have CN : Hid (Calls Tryz.prog 19 #[.pointer (some ⟨rb, 0, none⟩), .int .i64 (up : Int)] wr fun e w' => e = .returned (.tuple #[]) ∧ NOut w0 w' rb B s (depth : Int) ⟨i, L, g⟩ (nodeF s f (up : Int) depth ⟨i, L, g⟩)) := HN.out (up : Int) depth ⟨i, L, g⟩ w0 wr HS.out (.inr ⟨by omega, by show (up : Int) < (L.length : Int); omega⟩) (by show depth ≤ i; omega) (by show s.size < f + i; omega)
          have HKF : Hid (kidsF s (nodeF s f (up : Int) depth) (fu + 1) ⟨i, L, g⟩ = R) := hkf
          clear hkf HI
          cases hp : nodeF s f (up : Int) depth ⟨i, L, g⟩ with
          | error b =>
            have HRE : Hid (R = .error b) := by show _ = _; rw [← HKF.out]; exact kidsF_err hp
            rw [hp] at CN
            clear hp HKF
            go_wp2_with fail
            refine Calls.mono CN.out ?_
            rintro e w3 ⟨rfl, i3, L3, g3, h3⟩
            have G44 : Hid (Calls Tryz.prog 78 #[.pointer (some ⟨rb, 0, none⟩), .int .u8 44] w3 fun e w' => e = .returned (.bool false) ∧ RW w0 w' rb B s (mI s i3 44 b) L3 g3 (b : Int) (depth : Int)) := by
              have := rw_got 44 (by omega) h3 hs
              rw [gB_bad] at this
              exact this
            clear h3 CN c3
            go_wp2_with fail
            refine Calls.mono G44.out ?_
            rintro e w4 ⟨rfl, h4⟩
            have H4 : Hid (RW w0 w4 rb B s (mI s i3 44 b) L3 g3 (b : Int) (depth : Int)) := h4
            clear h4 G44
            go_wp2_with fail
            go_roundw
            case rel => exact ⟨false, _, L3, g3, (b : Int), rfl, H4.out.il, fun e => by omega, .inr (.inr ⟨b, rfl, rfl, HRE.out⟩), H4.out⟩
            case measure => rw [HRd.out]; show 0 < s.size + 1 - i; omega
          | ok st3 =>
            rw [hp] at CN
            have HP : Hid (nodeF s f (up : Int) depth ⟨i, L, g⟩ = .ok st3) := hp
            clear hp
            go_wp2_with fail
            refine Calls.mono CN.out ?_
            rintro e w3 ⟨rfl, h3, p3, l3⟩
            have hp3 : i < st3.i := p3
            have hl3 : L.length ≤ st3.L.length := l3
            have G44 : Hid (Calls Tryz.prog 78 #[.pointer (some ⟨rb, 0, none⟩), .int .u8 44] w3 fun e w' => e = .returned (.bool (isAt s st3.i 44)) ∧ RW w0 w' rb B s (gotI s st3.i 44) st3.L st3.er (-1) (depth : Int)) := by
              have := rw_got 44 (by omega) h3 hs
              rw [gB_ok, mI_ok] at this
              exact this
            have hgg := gotI_ge s st3.i 44
            clear h3 CN c3 p3 l3
            go_wp2_with fail
            refine Calls.mono G44.out ?_
            rintro e w4 ⟨rfl, h4⟩
            have H4 : Hid (RW w0 w4 rb B s (gotI s st3.i 44) st3.L st3.er (-1) (depth : Int)) := h4
            have HR4 : Hid (rdI w4 rb = gotI s st3.i 44) := h4.rdI
            have hil4 := h4.il
            clear h4 G44
            by_cases hm : isAt s st3.i 44 = true
            · have HK2 : Hid (kidsF s (nodeF s f (up : Int) depth) fu ⟨gotI s st3.i 44, st3.L, st3.er⟩ = R) := by show _ = _; rw [← HKF.out]; exact (kidsF_more HP.out hm).symm
              rw [hm]
              clear hm HP HKF
              go_wp2_with fail
              go_roundw
              case rel => exact ⟨true, gotI s st3.i 44, st3.L, st3.er, -1, rfl, hil4, fun _ => ⟨by omega, by omega⟩, .inl ⟨rfl, rfl, fu, by omega, HK2.out⟩, H4.out⟩
              case measure => rw [HRd.out, HR4.out]; show s.size + 1 - gotI s st3.i 44 < s.size + 1 - i; omega
            · have hsk : gotI s st3.i 44 = sk s st3.i := gotI_not hm
              have HK2 : Hid (endR s ⟨gotI s st3.i 44, st3.L, st3.er⟩ = R) := by
                show _ = _
                rw [← HKF.out, kidsF_last HP.out hm, hsk]
                exact endR_sk s st3
              rw [show isAt s st3.i 44 = false by simpa using hm]
              clear hm HP HKF hsk
              go_wp2_with fail
              go_roundw
              case rel => exact ⟨false, gotI s st3.i 44, st3.L, st3.er, -1, rfl, hil4, fun _ => ⟨by omega, by omega⟩, .inr (.inl ⟨rfl, rfl, HK2.out⟩), H4.out⟩
              case measure => rw [HRd.out]; show 0 < s.size + 1 - i; omega
        · obtain ⟨hii, hLs⟩ := hLL rfl
          have HEN : Hid (endR s ⟨i, L, g⟩ = R) := hen
          have M93 : Hid (Calls Tryz.prog 51 #[.pointer (some ⟨rb, 0, none⟩), .int .u8 93] wr fun e w' => e = .returned (.tuple #[]) ∧ RW w0 w' rb B s (gotI s i 93) L g (if isAt s i 93 then -1 else (sk s i : Int)) (depth : Int)) := by
            have := rw_must 93 (by omega) HS.out hs
            rw [mB_ok, mI_ok] at this
            exact this
          have hgg := gotI_ge s i 93
          clear hen HI hLL
          go_wp2_with fail
          refine Calls.mono M93.out ?_
          rintro e w3 ⟨rfl, h3⟩
          have H3 : Hid (RW w0 w3 rb B s (gotI s i 93) L g (if isAt s i 93 then -1 else (sk s i : Int)) (depth : Int)) := h3
          clear h3 M93 c3
          go_wp2
          go_end0
          refine ⟨rfl, ?_⟩
          show NOut _ _ _ _ _ _ _ _
          rw [← HEN.out]
          unfold endR mustR
          have hh := H3.out
          by_cases hm : isAt s i 93 = true
          · rw [if_pos hm] at hh
            simp only [hm, if_true]
            exact ⟨hh, by show st.i < gotI s i 93; omega, hLs⟩
          · rw [if_neg hm] at hh
            simp only [hm]
            exact ⟨_, _, _, hh⟩
        · have HRE : Hid (R = .error b) := hre
          have hbf : decide ((b : Int) < 0) = false := decide_eq_false (by omega)
          have M93 : Hid (Calls Tryz.prog 51 #[.pointer (some ⟨rb, 0, none⟩), .int .u8 93] wr fun e w' => e = .returned (.tuple #[]) ∧ RW w0 w' rb B s (mI s i 93 b) L g (b : Int) (depth : Int)) := by
            have := rw_must 93 (by omega) HS.out hs
            rw [mB_bad] at this
            exact this
          clear hre HI hLL
          go_wp2_with fail
          refine Calls.mono M93.out ?_
          rintro e w3 ⟨rfl, h3⟩
          have H3 : Hid (RW w0 w3 rb B s (mI s i 93 b) L g (b : Int) (depth : Int)) := h3
          clear h3 M93 c3
          go_wp2
          go_end0
          refine ⟨rfl, ?_⟩
          show NOut _ _ _ _ _ _ _ _
          rw [HRE.out]
          exact ⟨_, _, _, H3.out⟩
  · have hR : kidsR s (nodeF s f (up : Int) depth) st = .error (sk s st.i) := by unfold kidsR mustR; rw [if_neg hq]
    have HR : Hid (kidsR s (nodeF s f (up : Int) depth) st = .error (sk s st.i)) := hR
    have M91 : Hid (Calls Tryz.prog 51 #[.pointer (some ⟨rb, 0, none⟩), .int .u8 91] w fun e w' => e = .returned (.tuple #[]) ∧ RW w0 w' rb B s (gotI s st.i 91) st.L st.er (sk s st.i : Int) (depth : Int)) := by
      have := rw_must 91 (by omega) h hs
      rw [mB_ok, if_neg hq, mI_ok] at this
      exact this
    have hbf : decide ((sk s st.i : Int) < 0) = false := decide_eq_false (by omega)
    rw [hR]
    clear hN hR h
    go_enter Tryz.func50, Tryz.ntmps50
    go_wp2_with fail
    refine Calls.mono M91.out ?_
    rintro e w1 ⟨rfl, h1⟩
    have G93 : Hid (Calls Tryz.prog 78 #[.pointer (some ⟨rb, 0, none⟩), .int .u8 93] w1 fun e w' => e = .returned (.bool false) ∧ RW w0 w' rb B s (mI s (gotI s st.i 91) 93 (sk s st.i : Int)) st.L st.er (sk s st.i : Int) (depth : Int)) := by
      have := rw_got 93 (by omega) h1 hs
      rw [gB_bad] at this
      exact this
    clear h1 M91
    go_wp2_with fail
    refine Calls.mono G93.out ?_
    rintro e w2 ⟨rfl, h2⟩
    have H2 : Hid (RW w0 w2 rb B s (mI s (gotI s st.i 91) 93 (sk s st.i : Int)) st.L st.er (sk s st.i : Int) (depth : Int)) := h2
    have E93 : Hid (Calls Tryz.prog 51 #[.pointer (some ⟨rb, 0, none⟩), .int .u8 93] w2 fun e w' => e = .returned (.tuple #[]) ∧ RW w0 w' rb B s (mI s (mI s (gotI s st.i 91) 93 (sk s st.i : Int)) 93 (sk s st.i : Int)) st.L st.er (sk s st.i : Int) (depth : Int)) := by
      have := rw_must 93 (by omega) h2 hs
      rw [mB_bad] at this
      exact this
    clear h2 G93
    go_wp2_with fail
    go_loopw [4] (fun mv wr => mv = .bool true ∧ wr = w2) (fun _ _ => 0)
    case atStart => exact ⟨rfl, rfl⟩
    case round =>
      obtain ⟨rfl, rfl⟩ := hrel
      have c3 := H2.out.c3
      go_wp2_with fail
      refine Calls.mono E93.out ?_
      rintro e w3 ⟨rfl, h3⟩
      have H3 : Hid (RW w0 w3 rb B s (mI s (mI s (gotI s st.i 91) 93 (sk s st.i : Int)) 93 (sk s st.i : Int)) st.L st.er (sk s st.i : Int) (depth : Int)) := h3
      clear h3 E93 c3
      go_wp2
      go_end0
      exact ⟨rfl, _, _, _, H3.out⟩
end Go.Proofs.YtnkebfmlaliddaaGreatDoor

namespace Go.Proofs.YtnkebfmlaliddaaGreatDoor
open Go.RowKit
set_option linter.unusedVariables false

set_option maxRecDepth 100000 in
set_option maxHeartbeats 4000000 in
theorem rw_quoted_bad (rb B : Nat) (s : ByteArray) (i : Nat) (L : List Nd) (f : Flt) (b : Nat) (dep : Int) (w0 w : World) (h : RW w0 w rb B s i L f (b : Int) dep) (hs : s.size ≤ 1073741824) :
    Calls Tryz.prog 52 #[.pointer (some ⟨rb, 0, none⟩)] w fun e w' => e = .returned (.string ByteArray.empty) ∧ ∃ p, RW w0 w' rb B s p L f (b : Int) dep := by
  have MU : Hid (Calls Tryz.prog 51 #[.pointer (some ⟨rb, 0, none⟩), .int .u8 34] w fun e w' => e = .returned (.tuple #[]) ∧ RW w0 w' rb B s (mI s i 34 b) L f (b : Int) dep) := by have := rw_must 34 (by omega) h hs; rw [mB_bad] at this; exact this
  have hbf : decide ((b : Int) < 0) = false := decide_eq_false (by omega)
  clear h
  go_enter Tryz.func52, Tryz.ntmps52
  go_wp2_with fail
  refine Calls.mono MU.out ?_
  rintro e w1 ⟨rfl, h1⟩
  have H1 : Hid (RW w0 w1 rb B s (mI s i 34 b) L f (b : Int) dep) := h1
  clear h1 MU
  go_wp2_with fail
  go_loopw [3] (fun v wr => wr = w1) (fun _ _ => 0)
  case atStart => exact rfl
  case round =>
    obtain rfl := hrel
    have c3 := H1.out.c3
    go_wp2
    go_ret
    exact ⟨rfl, _, H1.out⟩
theorem quoR_bd {s : ByteArray} {i p : Nat} {t : List UInt8} (hi : i ≤ s.size) (h : quoR s i = .ok (p, t)) : i ≤ p ∧ p ≤ s.size := by
  unfold quoR at h
  split at h
  · have g := qF_bd _ _ _ _ _ (gotI_le (by omega) hi) h
    have := gotI_ge s i 34
    omega
  · cases h
theorem rw_quoted {rb B : Nat} {s : ByteArray} {i : Nat} {L : List Nd} {f : Flt} {dep : Int} {w0 w : World} (h : RW w0 w rb B s i L f (-1) dep) (hs : s.size ≤ 1073741824) :
    Calls Tryz.prog 52 #[.pointer (some ⟨rb, 0, none⟩)] w fun e w' => match quoR s i with
      | .ok (p, t) => e = .returned (.string ⟨t.toArray⟩) ∧ RW w0 w' rb B s p L f (-1) dep
      | .error b => e = .returned (.string ByteArray.empty) ∧ ∃ p, RW w0 w' rb B s p L f (b : Int) dep := by
  obtain ⟨nv, AV, KV, er, at_, h1, h2, h3⟩ := h.mem
  refine (quoted_any rb s i nv (-1) er at_ dep w h1 hs h.il (by omega)).mono ?_
  rintro e w' ⟨g, hq⟩
  have hfr := h.fr.trans (Fr.grown g h.le)
  have hrd := h3.up (Up.grown g h.rbB)
  have hle := Nat.le_trans h.le g.size
  cases hR : quoR s i with
  | error b =>
    rw [hR] at hq
    obtain ⟨rfl, p, hp, r⟩ := hq
    exact ⟨rfl, p, hp, fun e => by omega, h.kl, h.rbB, hle, hfr, nv, AV, KV, er, at_, r, fun e => by omega, hrd⟩
  | ok q =>
    obtain ⟨p, t⟩ := q
    rw [hR] at hq
    obtain ⟨rfl, r⟩ := hq
    have hb := quoR_bd h.il hR
    exact ⟨rfl, hb.2, fun e => Nat.le_trans (h.ll e) hb.1, h.kl, h.rbB, hle, hfr, nv, AV, KV, er, at_, r, fun e => (h2 e).on hb.1, hrd⟩
theorem withText_len (L : List Nd) (k : Nat) (x : List UInt8) : (withText L k x).length = L.length := by unfold withText; simp
theorem withText_kids {L : List Nd} {k : Nat} (hk : k < L.length) (x : List UInt8) (j : Nat) : (nth (withText L k x) j).kids = (nth L j).kids := by
  unfold withText
  by_cases e : j = k
  · subst e; rw [nth_mod_same _ hk]
  · rw [nth_mod_other _ e]
/-- A text for node k. -/
theorem RW.text {W0 W : World} {rb B i : Nat} {s : ByteArray} {L : List Nd} {f : Flt} {bad dep : Int} (h : RW W0 W rb B s i L f bad dep) {k : Nat} (hk : k < L.length) :
    ∃ g cap, W.cell? ⟨rb, 2, none⟩ = some (.slice (some ⟨g, 0, none⟩) L.length cap) ∧ (∃ u, W.cell? ⟨g, k * 5 + 2, none⟩ = some u) ∧ W.frozen? ⟨g, k * 5 + 2, none⟩ = false ∧ L.length ≤ cap ∧ g ≠ rb ∧ ∀ x : List UInt8, RW W0 (W.setCell ⟨g, k * 5 + 2, none⟩ (.string ⟨x.toArray⟩)) rb B s i (withText L k x) f bad dep := by
  obtain ⟨nv, AV, KV, er, at_, h1, h2, h3⟩ := h.mem
  obtain ⟨g, cap, rfl, hBg, hgl, hc, _⟩ := h3.nr.form (by omega)
  have hrb := h.rbB
  refine ⟨g, cap, h1.c2, ⟨_, h3.nr.cell hk rfl⟩, h3.nr.frozen _, hc, by omega, fun x => ?_⟩
  have hgs := gr_set W g (k * 5 + 2) (.string ⟨x.toArray⟩)
  refine ⟨h.il, fun e => by rw [withText_len]; exact h.ll e, fun j => by rw [withText_kids hk, withText_len]; exact h.kl j, h.rbB, by simpa [World.setCell] using h.le, h.fr.trans (Fr.own hgs h.le (fun q e => by injection e with e; omega)), _, AV, KV, er, at_, RS.other h1 (by omega) _, h2, h3.setText hk x⟩
end Go.Proofs.YtnkebfmlaliddaaGreatDoor
