/-
  outside; and the byte amid a rune, whichever it is.
-/
import Derived.Test.YtgaogkggbccfnaaDoorMAmid
namespace Go.Proofs.YtgaogkggbccfnaaDoor
open Go.RowKit Go.Sort
set_option linter.unusedVariables false

theorem runes_one (b : UInt8) : (runes [b]).length = 1 := by
  rw [runes_step (by simp)]
  have h : ([b] : List UInt8).drop (dec [b]).2 = [] := by
    have h1 : 1 ≤ (dec [b]).2 := dec_pos [b]
    apply List.drop_eq_nil_of_le
    simpa using h1
  rw [h]
  rfl
def outT (s : Tm) (b : UInt8) : Tm × St :=
  if b.toNat = 27 then ({ s with r := clr s.r }, .esc) else if b.toNat < 32 ∨ b.toNat = 127 then ({ s with r := clr s.r }, .out) else amT s ⟨#[b]⟩

section
variable {T K M cap : Nat} {s : Tm} {nv : Value}
set_option maxRecDepth 100000 in
set_option maxHeartbeats 8000000 in
theorem outside_any (w : World) (h : TM w T K M cap s nv) (hi : Ti s) (ht : TabAt w) (hU : Utf w) (bt : UInt8) :
    Calls Tryd.prog 28 #[.pointer (some ⟨T, 0, none⟩), .int .u8 (bt.toNat : Int)] w fun e w' => Done w w' e T K M cap (outT s bt).1 nv (outT s bt).2 := by
  have HM : Hid (TM w T K M cap s nv) := h
  have HT : Hid (TabAt w) := ht
  have HI : Hid (Ti s) := hi
  have HU : Hid (Utf w) := hU
  clear h ht hi hU
  obtain ⟨n, hn⟩ : ∃ n, bt.toNat = n := ⟨_, rfl⟩
  have HN : Hid (bt.toNat = n) := hn
  by_cases h27 : n = 27
  · have HO : Hid (outT s bt = ({ s with r := clr s.r }, .esc)) := by show _ = _; unfold outT; rw [if_pos (hn.trans h27)]
    rw [hn, h27]
    clear hn
    go_enter Tryd.func28, Tryd.ntmps28
    go_wp2_with fail
    refine (forget_any w HM.out).mono ?_
    rintro e w1 ⟨rfl, h1, g1⟩
    have HD : Hid (TM w1 T K M cap { s with r := clr s.r } nv ∧ C2 T M w w1) := ⟨h1, g1⟩
    clear h1 g1
    go_wp2
    go_ret
    rw [HO.out]
    exact ⟨_, rfl, HD.out.1, rfl, HD.out.2⟩
  · have e27 : ((n : Int) == 27) = false := beq_eq_false_iff_ne.2 (by omega)
    by_cases hc : n < 32 ∨ n = 127
    · have HO : Hid (outT s bt = ({ s with r := clr s.r }, .out)) := by show _ = _; unfold outT; rw [hn, if_neg h27, if_pos hc]
      rw [hn]
      clear hn
      have hcc : (decide ((n : Int) < 32) = true) ∨ (decide ((n : Int) < 32) = false ∧ n = 127) := by
        by_cases q : n < 32
        · exact .inl (decide_eq_true (by omega))
        · exact .inr ⟨decide_eq_false (by omega), by omega⟩
      rcases hcc with q1 | ⟨q1, rfl⟩
      · go_enter Tryd.func28, Tryd.ntmps28
        go_wp2_with fail
        refine (forget_any w HM.out).mono ?_
        rintro e w1 ⟨rfl, h1, g1⟩
        have HD : Hid (TM w1 T K M cap { s with r := clr s.r } nv ∧ C2 T M w w1) := ⟨h1, g1⟩
        clear h1 g1
        go_wp2
        go_ret
        rw [HO.out]
        exact ⟨_, rfl, HD.out.1, rfl, HD.out.2⟩
      · go_enter Tryd.func28, Tryd.ntmps28
        go_wp2_with fail
        refine (forget_any w HM.out).mono ?_
        rintro e w1 ⟨rfl, h1, g1⟩
        have HD : Hid (TM w1 T K M cap { s with r := clr s.r } nv ∧ C2 T M w w1) := ⟨h1, g1⟩
        clear h1 g1
        go_wp2
        go_ret
        rw [HO.out]
        exact ⟨_, rfl, HD.out.1, rfl, HD.out.2⟩
    · have HO : Hid (outT s bt = amT s ⟨#[bt]⟩) := by show _ = _; unfold outT; rw [hn, if_neg h27, if_neg hc]
      have q1 : decide ((n : Int) < 32) = false := decide_eq_false (by omega)
      have q2 : ((n : Int) == 127) = false := beq_eq_false_iff_ne.2 (by omega)
      have AM : Hid (∀ w1 k, Gr w w1 → w1.heap[k]? = some (.cells #[.string ⟨#[]⟩] 9 (0, 0)) → Calls Tryd.prog 53 #[.pointer (some ⟨T, 0, none⟩), .int .u8 (n : Int), .pointer (some ⟨k, 0, none⟩)] w1 fun e w' => Done w1 w' e T K M cap (amT s ⟨#[bt]⟩).1 nv (amT s ⟨#[bt]⟩).2) := fun w1 k g hk => by
        have := amid1_on w1 (HM.out.gr g) HI.out (HT.out.below g.below) (HU.out.below g.below) bt ⟨#[]⟩ (by decide) k hk (fun _ => by
          have e : ((⟨#[]⟩ : ByteArray) ++ ⟨#[bt]⟩) = ⟨#[bt]⟩ := rfl
          rw [e]
          exact runes_one bt)
        rw [hn] at this
        exact this
      rw [hn]
      clear hn
      go_enter Tryd.func28, Tryd.ntmps28
      go_wp2_with fail
      refine (amid_mk _ w).mono ?_
      rintro e w1 ⟨rfl, n1, g1⟩
      have AM1 : Hid (Calls Tryd.prog 53 #[.pointer (some ⟨T, 0, none⟩), .int .u8 (n : Int), .pointer (some ⟨w.heap.size, 0, none⟩)] w1 fun e w' => Done w1 w' e T K M cap (amT s ⟨#[bt]⟩).1 nv (amT s ⟨#[bt]⟩).2) := AM.out w1 _ g1 n1
      have C1 : Hid (C2 T M w w1) := C2.gr g1
      clear n1 g1 AM
      unfold fnV
      go_wp2_with fail
      refine AM1.out.mono ?_
      rintro e w2 ⟨v, rfl, h2, n2, c2⟩
      have HD : Hid (TM w2 T K M cap (amT s ⟨#[bt]⟩).1 nv ∧ Nx w2 T M v (amT s ⟨#[bt]⟩).2 ∧ C2 T M w w2) := ⟨h2, n2, C1.out.trans c2⟩
      clear h2 n2 c2
      go_wp2
      go_ret
      rw [HO.out]
      exact ⟨v, rfl, HD.out.1, HD.out.2.1, HD.out.2.2⟩
end

end Go.Proofs.YtgaogkggbccfnaaDoor
