/-
  Write: byte after byte.
-/
import Derived.Test.YtkdajaphbmclkaaGreatDoorX14
import Derived.Laws.EntriesVeiled
import Derived.Test.YtkdajaphbmclkaaGreatDoorX07
import Derived.Test.YtkdajaphbmclkaaGreatDoorAgain
namespace Go.Proofs.YtkdajaphbmclkaaGreatDoor
open Go.RowKit Go.Sort
set_option linter.unusedVariables false

/-- What holds of what reads the next byte. -/
def Si : St → Prop
  | .out => True
  | .esc => True
  | .amid h => h.size ≤ 3
  | .wth l a => (0 ≤ a ∧ a ≤ 16) ∧ ∀ j, j < 17 → 0 ≤ l j ∧ l j ≤ 999999
/-- One byte. -/
def stepT (s : Tm) (b : UInt8) : St → Tm × St
  | .out => outT s b
  | .esc => (s, if (b.toNat : Int) = 91 then .wth (fun _ => 0) 0 else .out)
  | .amid h => amA s h b
  | .wth l a => wthT s l a.toNat b.toNat
def runT : Tm × St → List UInt8 → Tm × St
  | p, [] => p
  | p, b :: r => runT (stepT p.1 b p.2) r
theorem runT_app (p : Tm × St) (l : List UInt8) (b : UInt8) : runT p (l ++ [b]) = stepT (runT p l).1 b (runT p l).2 := by
  induction l generalizing p with
  | nil => rfl
  | cons a l ih => exact ih _
theorem runT_append (p : Tm × St) (l m : List UInt8) : runT p (l ++ m) = runT (runT p l) m := by
  induction l generalizing p with
  | nil => rfl
  | cons a l ih => exact ih _
theorem not_full_size {l : List UInt8} (h : ¬ full l) : l.length ≤ 3 := by
  by_cases hl : l = []
  · subst hl; decide
  · have hn : ¬ (seqN (byt l 0) ≤ l.length) := fun q => h ⟨hl, .inr (.inr (.inl q))⟩
    have : seqN (byt l 0) ≤ 4 := by unfold seqN; split <;> (try split) <;> omega
    omega
theorem am_ok {s : Tm} (hi : Ti s) (t : ByteArray) : Ti (amT s t).1 ∧ Si (amT s t).2 := by
  unfold amT
  split
  · exact ⟨hi.pr _, trivial⟩
  · rename_i hn
    exact ⟨hi, by have := not_full_size hn; rw [len_data] at this; exact this⟩
theorem out_ok {s : Tm} (hi : Ti s) (b : UInt8) : Ti (outT s b).1 ∧ Si (outT s b).2 := by
  unfold outT
  split
  · exact ⟨hi.clr, trivial⟩
  · split
    · exact ⟨hi.clr, trivial⟩
    · exact am_ok hi _
theorem Ti.obey {s : Tm} (h : Ti s) (hW : 1 ≤ s.W) (hH : 1 ≤ s.H) (b : Int) (l : Nat → Int) (a : Int) : Ti (obeyT s b l a) := by
  unfold obeyT
  split
  · refine ⟨?_, ?_, ?_, ?_, h.m0, h.m1, h.ts⟩
    · show 0 ≤ min (max (l 1) 1) (s.W : Int) - 1; omega
    · show min (max (l 1) 1) (s.W : Int) - 1 ≤ (s.W : Int); omega
    · show 0 ≤ min (max (l 0) 1) (s.H : Int) - 1; omega
    · show min (max (l 0) 1) (s.H : Int) - 1 < (s.H : Int); omega
  · split
    · split
      · exact ⟨h.x0, h.x1, h.y0, h.y1, h.m0, h.m1, h.ts⟩
      · exact h
    · split
      · exact ⟨h.x0, h.x1, h.y0, h.y1, h.m0, h.m1, h.ts⟩
      · exact h
theorem step_ok {s : Tm} {st : St} (hi : Ti s) (hs : Si st) (hW : 1 ≤ s.W) (hH : 1 ≤ s.H) (b : UInt8) : Ti (stepT s b st).1 ∧ Si (stepT s b st).2 := by
  cases st with
  | out => exact out_ok hi b
  | esc =>
    refine ⟨hi, ?_⟩
    show Si (if (b.toNat : Int) = 91 then .wth (fun _ => 0) 0 else .out)
    split
    · exact ⟨by decide, fun j _ => ⟨by show (0 : Int) ≤ 0; decide, by show (0 : Int) ≤ 999999; decide⟩⟩
    · exact trivial
  | amid h =>
    show Ti (amA s h b).1 ∧ Si (amA s h b).2
    unfold amA
    split
    · exact out_ok (hi.prs _) b
    · exact am_ok hi _
  | wth l a =>
    obtain ⟨⟨h0, h1⟩, h2⟩ := hs
    show Ti (wthT s l a.toNat b.toNat).1 ∧ Si (wthT s l a.toNat b.toNat).2
    unfold wthT
    split
    · rename_i hd
      refine ⟨hi, ⟨by omega, by omega⟩, fun j hj => ?_⟩
      show 0 ≤ updN l a.toNat _ j ∧ updN l a.toNat _ j ≤ 999999
      unfold updN
      split
      · have := h2 a.toNat (by omega)
        constructor <;> omega
      · exact h2 j hj
    · split
      · exact ⟨hi, ⟨by omega, by omega⟩, h2⟩
      · split
        · exact ⟨hi, ⟨by omega, by omega⟩, h2⟩
        · split
          · exact ⟨hi.obey hW hH _ _ _, trivial⟩
          · exact ⟨hi, trivial⟩

section
variable {T K M cap : Nat}
theorem Nx.set {w : World} {v v' : Value} {st : St} (h : Nx w T M v st) (o : Nat) : Nx (w.setCell ⟨T, o, none⟩ v') T M v st := by
  cases st with
  | out => exact h
  | esc => exact h
  | amid hh => obtain ⟨k, h1, h2, h3, h4⟩ := h; exact ⟨k, h1, h2, h3, (Below.heap_setCell w ⟨T, o, none⟩ v' k h2).trans h4⟩
  | wth l a => obtain ⟨k, h1, h2, h3, h4⟩ := h; exact ⟨k, h1, h2, h3, (Below.heap_setCell w ⟨T, o, none⟩ v' k h2).trans h4⟩
theorem Nx.gr {w w' : World} {v : Value} {st : St} (h : Nx w T M v st) (g : Gr w w') : Nx w' T M v st := by
  cases st with
  | out => exact h
  | esc => exact h
  | amid hh => obtain ⟨k, h1, h2, h3, h4⟩ := h; exact ⟨k, h1, h2, h3, (g.block (Array.getElem?_eq_some_iff.1 h4).1).trans h4⟩
  | wth l a => obtain ⟨k, h1, h2, h3, h4⟩ := h; exact ⟨k, h1, h2, h3, h4.gr g⟩

/-- The byte is read by whatever reads it. -/
theorem next_any {s : Tm} {nv : Value} {st : St} (w : World) (h : TM w T K M cap s nv) (hn : Nx w T M nv st) (hi : Ti s) (hs : Si st) (ht : TabAt w) (hU : Utf w) (hfar : Far T M) (bt : UInt8) :
    ∃ f caps, nv = fnV f caps ∧ (∀ args w, (callFunc f args).run Tryz.prog w = .ok (.enter f args) w) ∧ Calls Tryz.prog f (#[.pointer (some ⟨T, 0, none⟩), .int .u8 (bt.toNat : Int)] ++ caps) w fun e w' => Done w w' e T K M cap (stepT s bt st).1 nv (stepT s bt st).2 := by
  have hb : (bt.toNat : Int) ≤ 255 := by have := UInt8.toNat_lt bt; omega
  cases st with
  | out =>
    obtain rfl := hn
    exact ⟨_, #[], rfl, enters_of Tryz.func15 (by kernel_rfl) rfl, outside_any w h hi ht hU bt⟩
  | esc =>
    obtain rfl := hn
    exact ⟨_, #[], rfl, enters_of Tryz.func30 (by kernel_rfl) rfl, escaped_any w h (bt.toNat : Int)⟩
  | amid hh =>
    obtain ⟨k, rfl, h2, h3, h4⟩ := hn
    exact ⟨_, _, rfl, enters_of Tryz.func46 (by kernel_rfl) rfl, amid1_any w h hi ht hU bt hh hs hfar k h4⟩
  | wth l a =>
    obtain ⟨k, rfl, h2, h3, h4⟩ := hn
    obtain ⟨a, rfl⟩ : ∃ a' : Nat, a = (a' : Int) := ⟨a.toNat, by have := hs.1.1; omega⟩
    refine ⟨_, _, rfl, enters_of Tryz.func58 (by kernel_rfl) rfl, ?_⟩
    exact within1_any w h (bt.toNat : Int) (by omega) l a k (by have := hs.1.2; omega) hs.2 h4

theorem Nx.form {w : World} {v : Value} {st : St} (h : Nx w T M v st) : ∃ f c, v = .func (.func f) #[] c := by
  cases st with
  | out => exact ⟨_, _, h⟩
  | esc => exact ⟨_, _, h⟩
  | amid hh => obtain ⟨k, h1, _⟩ := h; exact ⟨_, _, h1⟩
  | wth l a => obtain ⟨k, h1, _⟩ := h; exact ⟨_, _, h1⟩
/-- What Write leaves. -/
def WrOut (w w' : World) (e : Ending) (T K M cap : Nat) (p : Tm × St) : Prop := e = .returned (.tuple #[]) ∧ (∃ nv', TM w' T K M cap p.1 nv' ∧ Nx w' T M nv' p.2) ∧ Ti p.1 ∧ Si p.2 ∧ C2 T M w w'
set_option maxRecDepth 100000 in
set_option maxHeartbeats 8000000 in
theorem write_any (x : ByteArray) (hx : x.size ≤ 9223372036854775807) {s : Tm} {nv : Value} {st : St} (w : World) (h : TM w T K M cap s nv) (hn : Nx w T M nv st) (hi : Ti s) (hs : Si st) (ht : TabAt w) (hU : Utf w) (hfar : Far T M) :
    Calls Tryz.prog 9 #[.pointer (some ⟨T, 0, none⟩), .string x] w fun e w' => WrOut w w' e T K M cap (runT (s, st) x.data.toList) := by
  have HT : Hid (TabAt w) := ht
  have HU : Hid (Utf w) := hU
  have H0 : Hid (TM w T K M cap s nv ∧ Nx w T M nv st ∧ Ti s ∧ Si st) := ⟨h, hn, hi, hs⟩
  clear h hn hi hs ht hU
  go_enter Tryz.func9, Tryz.ntmps9
  go_wp2
  go_loopw [7] (fun iv wr => ∃ i : Nat, i ≤ x.size ∧ iv = .int .i64 (i : Int) ∧ Hid (∃ nv', TM wr T K M cap (runT (s, st) (x.data.toList.take i)).1 nv' ∧ Nx wr T M nv' (runT (s, st) (x.data.toList.take i)).2 ∧ Ti (runT (s, st) (x.data.toList.take i)).1 ∧ Si (runT (s, st) (x.data.toList.take i)).2 ∧ C2 T M w wr)) (fun iv _ => x.size - (intOf iv).toNat)
  case atStart => exact ⟨0, Nat.zero_le _, rfl, nv, H0.out.1, H0.out.2.1, H0.out.2.2.1, H0.out.2.2.2, C2.refl _ _ _⟩
  case round =>
    obtain ⟨i, hil, rfl, HJ⟩ := hrel
    by_cases hlt : i < x.size
    · have hlt' : (i : Int) < (x.size : Int) := by omega
      obtain ⟨nw, h1, h2, h3, h4, h5⟩ := HJ.out
      obtain ⟨bt, hbt⟩ : ∃ b, x[i]'hlt = b := ⟨_, rfl⟩
      obtain ⟨p, hp⟩ : ∃ p, runT (s, st) (x.data.toList.take i) = p := ⟨_, rfl⟩
      have HP : Hid (runT (s, st) (x.data.toList.take (i + 1)) = stepT p.1 bt p.2) := by
        show _ = _
        have e : x.data.toList[i]? = some bt := by rw [Array.getElem?_toList, ← hbt]; exact Array.getElem?_eq_getElem hlt
        rw [List.take_add_one, e, ← hp, ← runT_app]
        rfl
      rw [hp] at h1 h2 h3 h4
      have h5d : C2 T M w wr.drew := h5.trans (C2.gr (Gr.refl _).drew)
      obtain ⟨f, caps, rfl, ef, CL⟩ := next_any wr.drew (h1.gr (Gr.refl _).drew) (h2.gr (Gr.refl _).drew) h3 h4 (HT.out.c2 h5d hfar) (HU.out.c2 h5d hfar) hfar bt
      have CLH : Hid (Calls Tryz.prog f (#[.pointer (some ⟨T, 0, none⟩), .int .u8 (bt.toNat : Int)] ++ caps) wr.drew fun e w' => Done wr.drew w' e T K M cap (stepT p.1 bt p.2).1 (fnV f caps) (stepT p.1 bt p.2).2) := CL
      have SO : Hid (Ti (stepT p.1 bt p.2).1 ∧ Si (stepT p.1 bt p.2).2) := step_ok h3 h4 h1.hW.1 h1.hH.1 bt
      have HC : Hid (C2 T M w wr.drew) := h5d
      have c11 : wr.cell? ⟨T, 11, none⟩ = some (.func (.func f) #[] caps) := h1.at rfl
      clear h1 h2 h3 h4 h5 h5d CL hp HJ
      go_wp2_with fail
      go_region_with (refine Calls.mono CLH.out ?_; rintro e1 w1 ⟨v1, rfl, h1, n1, g1⟩; obtain ⟨f2, caps2, rfl⟩ := n1.form; have H1 : Hid (TM w1 T K M cap (stepT p.1 bt p.2).1 (fnV f caps)) := h1; have N1 : Hid (Nx w1 T M (.func (.func f2) #[] caps2) (stepT p.1 bt p.2).2) := n1; have C1 : Hid (C2 T M w w1) := HC.out.trans g1; have f1 := h1.fz; have k11 : w1.cell? ⟨T, 11, none⟩ = some (.func (.func f) #[] caps) := h1.at rfl; clear h1 n1 g1)
      all_goals
        have HR : Hid (∃ nv', TM (w1.setCell ⟨T, 11, none⟩ (.func (.func f2) #[] caps2)) T K M cap (runT (s, st) (x.data.toList.take (i + 1))).1 nv' ∧ Nx (w1.setCell ⟨T, 11, none⟩ (.func (.func f2) #[] caps2)) T M nv' (runT (s, st) (x.data.toList.take (i + 1))).2 ∧ Ti (runT (s, st) (x.data.toList.take (i + 1))).1 ∧ Si (runT (s, st) (x.data.toList.take (i + 1))).2 ∧ C2 T M w (w1.setCell ⟨T, 11, none⟩ (.func (.func f2) #[] caps2))) := by
          show ∃ nv', _
          rw [HP.out]
          exact ⟨.func (.func f2) #[] caps2, H1.out.set 11 (.func (.func f2) #[] caps2) (stepT p.1 bt p.2).1.r (.func (.func f2) #[] caps2) rfl, N1.out.set 11, SO.out.1, SO.out.2, C1.out.set _ _⟩
        clear HP H1 N1 C1
        go_wp2
        go_roundw
        case rel => exact ⟨i + 1, by omega, by go_num, HR.out⟩
        case measure => simp [intOf]; omega
    · have hlt' : ¬ (i : Int) < (x.size : Int) := by omega
      obtain rfl : i = x.size := by omega
      have HF : Hid (x.data.toList.take x.size = x.data.toList) := List.take_of_length_le (by rw [len_data]; exact Nat.le_refl _)
      have HJ2 := HJ.out
      rw [HF.out] at HJ2
      obtain ⟨nw, h1, h2, h3, h4, h5⟩ := HJ2
      go_wp2
      go_end0
      exact ⟨rfl, ⟨nw, h1, h2⟩, h3, h4, h5⟩
end

end Go.Proofs.YtkdajaphbmclkaaGreatDoor

namespace Go.Proofs.YtkdajaphbmclkaaGreatDoor
set_option linter.unusedVariables false

/-- The first bytes of a right sequence are not whole. -/
theorem take_amid {l : List UInt8} (h80 : 0x80 ≤ byt l 0) (hs : seq l = l.length) (hl : l ≠ []) (k : Nat) (hk : 1 ≤ k) (hkl : k < l.length) : ¬ full (l.take k) := by
  have hp : 0 < l.length := List.length_pos_iff.2 hl
  rcases seq_vd h80 with ⟨v, e⟩ | ⟨_, e⟩
  · obtain ⟨v1, v2, v3, v4⟩ := v
    have hN := n_bd (byt l 0)
    have b0 : byt (l.take k) 0 = byt l 0 := by unfold byt; rw [List.getD_eq_getElem?_getD, List.getElem?_take, if_pos (by omega), List.getD_eq_getElem?_getD]
    have b1 : 1 < k → byt (l.take k) 1 = byt l 1 := fun q => by unfold byt; rw [List.getD_eq_getElem?_getD, List.getElem?_take, if_pos q, List.getD_eq_getElem?_getD]
    have b2 : 2 < k → byt (l.take k) 2 = byt l 2 := fun q => by unfold byt; rw [List.getD_eq_getElem?_getD, List.getElem?_take, if_pos q, List.getD_eq_getElem?_getD]
    have hlen : (l.take k).length = k := by rw [List.length_take]; omega
    rintro ⟨_, q⟩
    rw [b0, hlen] at q
    rcases q with q | q | q | ⟨q, z⟩ | ⟨q, z⟩
    · omega
    · omega
    · omega
    · rw [b1 q] at z; omega
    · rw [b2 q] at z; have := v3 (by omega); omega
  · omega
/-- A right sequence is printed. -/
theorem run_whole (t : Tm) {l : List UInt8} (hl : l ≠ []) (hc : ¬ (byt l 0 < 32 ∨ byt l 0 = 127)) (hs : seq l = l.length) {r : Int} (hr : runes l = [r]) : runT (t, .out) l = (prT t r, .out) := by
  have hp : 0 < l.length := List.length_pos_iff.2 hl
  have hfl := full_seq hl hs
  by_cases h1 : l.length = 1
  · obtain ⟨b, rfl⟩ : ∃ b, l = [b] := List.length_eq_one_iff.1 h1
    have eb : byt [b] 0 = b.toNat := rfl
    show outT t b = _
    unfold outT
    rw [if_neg (by rw [eb] at hc; omega), if_neg (by rw [eb] at hc; exact hc)]
    unfold amT
    show (if full [b] then _ else _) = _
    rw [if_pos hfl]
    show (prT t ((runes [b])[0]?.getD 0), St.out) = _
    rw [hr]
    rfl
  · have h80 : 0x80 ≤ byt l 0 := by
      by_cases q : byt l 0 < 0x80
      · have : seq l = 1 := by unfold seq; rw [if_pos q]
        omega
      · omega
    have key : ∀ k, 1 ≤ k → k < l.length → runT (t, .out) (l.take k) = (t, .amid ⟨(l.take k).toArray⟩) := by
      intro k
      induction k with
      | zero => intro h; omega
      | succ k ih =>
        intro _ hk
        have hnf := take_amid h80 hs hl (k + 1) (by omega) hk
        have e : l.take (k + 1) = l.take k ++ [l[k]] := by rw [List.take_add_one, List.getElem?_eq_getElem (by omega)]; rfl
        by_cases h0 : k = 0
        · subst h0
          have e1 : l.take (0 + 1) = [l[0]] := by rw [e]; rfl
          rw [e1] at hnf ⊢
          have eb : byt l 0 = (l[0]'hp).toNat := by unfold byt; rw [List.getD_eq_getElem?_getD, List.getElem?_eq_getElem hp]; rfl
          show outT t (l[0]'hp) = _
          unfold outT
          rw [if_neg (by rw [← eb]; omega), if_neg (by rw [← eb]; omega)]
          unfold amT
          show (if full [l[0]'hp] then _ else _) = _
          rw [if_neg hnf]
        · have hi := ih (by omega) (by omega)
          rw [e, runT_app, hi]
          show amA t ⟨(l.take k).toArray⟩ (l[k]'(by omega)) = _
          have ea : ((⟨(l.take k).toArray⟩ : ByteArray) ++ (⟨#[l[k]'(by omega)]⟩ : ByteArray)) = ⟨(l.take k ++ [l[k]'(by omega)]).toArray⟩ := by
            apply ByteArray.ext
            simp
          unfold amA
          rw [ea]
          rw [e] at hnf
          show (if full (l.take k ++ [l[k]'(by omega)]) ∧ _ then _ else _) = _
          rw [if_neg (fun q => hnf q.1)]
          unfold amT
          show (if full (l.take k ++ [l[k]'(by omega)]) then _ else _) = _
          rw [if_neg hnf]
    obtain ⟨m, hm⟩ : ∃ m, l.length = m + 1 := ⟨l.length - 1, by omega⟩
    have e : l.take m ++ [l[m]'(by omega)] = l := by
      have : l.take (m + 1) = l.take m ++ [l[m]'(by omega)] := by rw [List.take_add_one, List.getElem?_eq_getElem (by omega)]; rfl
      rw [← this, List.take_of_length_le (by omega)]
    have hk := key m (by omega) (by omega)
    conv => lhs; rw [← e]
    rw [runT_app, hk]
    show amA t ⟨(l.take m).toArray⟩ (l[m]'(by omega)) = _
    have ea : ((⟨(l.take m).toArray⟩ : ByteArray) ++ (⟨#[l[m]'(by omega)]⟩ : ByteArray)) = ⟨l.toArray⟩ := by
      apply ByteArray.ext
      conv => rhs; rw [← e]
      simp
    unfold amA
    rw [ea]
    show (if full l ∧ (runes l).length ≠ 1 then _ else _) = _
    rw [if_neg (fun q => q.2 (by rw [hr]; rfl))]
    unfold amT
    show (if full l then _ else _) = _
    rw [if_pos hfl]
    show (prT t ((runes l)[0]?.getD 0), St.out) = _
    rw [hr]
    rfl
/-- A rune is printed. -/
theorem run_rune (t : Tm) {r : Int} (hg : Good r) (h10 : r ≠ 10) : runT (t, .out) (Lib.encodeRune r) = (prT t r, .out) := by
  have hr : runes (enc [r]) = [r] := runes_enc [r] (fun z hz => by rw [List.mem_singleton] at hz; rw [hz]; exact hg)
  have ee : enc [r] = Lib.encodeRune r := by unfold enc; simp
  rw [ee] at hr
  have hd := dec_enc r hg.1 []
  rw [List.append_nil] at hd
  obtain ⟨l, hl⟩ : ∃ l, Lib.encodeRune r = l := ⟨_, rfl⟩
  rw [hl] at hr hd ⊢
  have hne : l ≠ [] := by rw [← hl]; have := encodeRune_ne r []; rw [List.append_nil] at this; exact this
  have hp : 0 < l.length := List.length_pos_iff.2 hne
  have hsh := hg.2
  have hr0 : 0 ≤ r := by rcases hg.1 with h | h <;> omega
  have hs : seq l = l.length := by
    rw [dec_seq] at hd
    by_cases q : seq l = 0
    · rw [if_pos q] at hd
      have h1 := congrArg Prod.fst hd
      have h2 := congrArg Prod.snd hd
      simp only at h1 h2
      have : r = 65533 := by omega
      rw [this] at hl
      have h3 : (Lib.encodeRune 65533).length = 3 := by decide +kernel
      rw [hl] at h3
      omega
    · rw [if_neg q] at hd
      exact congrArg Prod.snd hd
  refine run_whole t hne (fun q => ?_) hs hr
  have h80 : byt l 0 < 0x80 := by omega
  rw [dec_one l h80] at hd
  have h1 := congrArg Prod.fst hd
  simp only at h1
  unfold shownI at hsh
  by_cases z : (r < 32 ∧ r ≠ 10) ∨ (127 ≤ r ∧ r ≤ 159)
  · rw [if_pos z] at hsh; omega
  · omega
/-- Runes are printed one behind the other. -/
theorem run_runes : ∀ (R : List Int) (t : Tm), (∀ r ∈ R, Good r ∧ r ≠ 10) → runT (t, .out) (enc R) = (prsT t R, .out)
  | [], t, _ => rfl
  | r :: R, t, h => by
    have hr := h r (List.mem_cons_self ..)
    rw [enc_cons, runT_append, run_rune t hr.1 hr.2]
    exact run_runes R (prT t r) (fun z hz => h z (List.mem_cons_of_mem _ hz))

end Go.Proofs.YtkdajaphbmclkaaGreatDoor
