/-
  The program's reader: set.
-/
import Derived.Test.YtepeepipgkejiadGreatDoorTHas
namespace Go.Proofs.YtepeepipgkejiadGreatDoor
open Go.RowKit
set_option linter.unusedVariables false

/-- What set answers, and the nodes behind it. -/
def setB (L : List Nd) (k : Nat) (n : Int) : Bool := sgAt k && (n != woAt k) && hasAt L k n
def setE (L : List Nd) (k : Nat) (n : Int) (rg tw : Addr) : Value := if moAt k < n then errV rg else if setB L k n = true then errV tw else .nilIface
def setL (L : List Nd) (j k : Nat) (n : Int) : List Nd := if moAt k < n ∨ setB L k n = true then L else L.modify j fun d => { d with attr := d.attr.set k n }
def SetOut (w w' : World) (e : Ending) (rb B : Nat) (s : ByteArray) (i : Nat) (av nv fv : Value) (L : List Nd) (KV : Nat → Value) (j k : Nat) (n : Int) (rg tw : Addr) (bl : Nat) : Prop :=
  w.grownBy w' (some bl) ∧ e = .returned (setE L k n rg tw) ∧ PR w' rb s i av nv fv ∧ PN w' B nv (setL L j k n) KV ∧ Fr B rb w w' ∧ B ≤ w'.heap.size

set_option maxRecDepth 100000 in
set_option maxHeartbeats 4000000 in
theorem set_any (rb B : Nat) (s : ByteArray) (i : Nat) (av fv : Value) (L : List Nd) (KV : Nat → Value) (bl cap j k : Nat) (hk : k < 12) (n : Int) (rg tw : Addr) (w : World) (h : PR w rb s i av (.slice (some ⟨bl, 0, none⟩) L.length cap) fv) (hn : PN w B (.slice (some ⟨bl, 0, none⟩) L.length cap) L KV) (hL : L.length ≤ 100000) (hj : j < L.length) (hrb : rb < B) (hB : B ≤ w.heap.size)
    (hg3 : 3 < B) (hg4 : 4 < B) (hn3 : 3 ≠ rb) (hn4 : 4 ≠ rb)
    (er : w.cell? ⟨4, 0, none⟩ = some (errV rg)) (et : w.cell? ⟨3, 0, none⟩ = some (errV tw)) :
    Calls Tryz.prog 101 #[.pointer (some ⟨rb, 0, none⟩), .pointer (some ⟨bl, j * 16, none⟩), rowA k, .int .i64 n] w fun e w' => SetOut w w' e rb B s i av (.slice (some ⟨bl, 0, none⟩) L.length cap) fv L KV j k n rg tw bl := by
  have HQ : Hid (InAt (fnAt k) k) := in_at k hk
  have HS : Hid (∀ W, PR W rb s i av (.slice (some ⟨bl, 0, none⟩) L.length cap) fv → PN W B (.slice (some ⟨bl, 0, none⟩) L.length cap) L KV → Calls Tryz.prog 111 #[.pointer (some ⟨rb, 0, none⟩), rowA k, .int .i64 n] W fun e w' => e = .returned (.bool (hasAt L k n)) ∧ Below W.heap.size W w') := fun W h1 h2 => someNodeHas_any rb B s i av _ fv L KV k hk n W h1 h2 hL
  have HE : Hid (∀ x, setE L k n rg tw = x → x = setE L k n rg tw) := fun x hx => hx.symm
  unfold rowA at HS ⊢
  have HD : Hid (setE L k n rg tw = if moAt k < n then errV rg else if (sgAt k && (n != woAt k) && hasAt L k n) = true then errV tw else .nilIface) := rfl
  have HL : Hid (setL L j k n = if moAt k < n ∨ (sgAt k && (n != woAt k) && hasAt L k n) = true then L else L.modify j fun d => { d with attr := d.attr.set k n }) := rfl
  obtain ⟨g, hg⟩ : ∃ g, fnAt k = g := ⟨_, rfl⟩
  obtain ⟨a0, h0⟩ : ∃ x, nmAt k = x := ⟨_, rfl⟩
  obtain ⟨a1, h1⟩ : ∃ x, kdAt k = x := ⟨_, rfl⟩
  obtain ⟨a2, h2⟩ : ∃ x, moAt k = x := ⟨_, rfl⟩
  obtain ⟨a3, h3⟩ : ∃ x, woAt k = x := ⟨_, rfl⟩
  obtain ⟨a4, h4⟩ : ∃ x, sgAt k = x := ⟨_, rfl⟩
  obtain ⟨hh, h5⟩ : ∃ x, hasAt L k n = x := ⟨_, rfl⟩
  rw [hg, h0, h1, h2, h3, h4] at HS ⊢
  rw [h5] at HS
  rw [h2, h3, h4, h5] at HD HL
  rw [hg] at HQ
  have eg := HQ.out.1
  clear h0 h1 h2 h3 h4 h5 hg HE
  have HR : Hid (PR w rb s i av (.slice (some ⟨bl, 0, none⟩) L.length cap) fv) := h
  have HN : Hid (PN w B (.slice (some ⟨bl, 0, none⟩) L.length cap) L KV) := hn
  have hBl : B ≤ bl := (hn.nr.row.choose_spec.lt bl rfl).1
  clear h hn
  have er' : w.cell? ⟨4, 0, none⟩ = some (.iface 242 (.pointer (some rg))) := er
  have et' : w.cell? ⟨3, 0, none⟩ = some (.iface 242 (.pointer (some tw))) := et
  have ER : Hid (w.cell? ⟨4, 0, none⟩ = some (.iface 242 (.pointer (some rg)))) := er'
  have ET : Hid (w.cell? ⟨3, 0, none⟩ = some (.iface 242 (.pointer (some tw)))) := et'
  clear er et er' et'
  obtain ⟨bx, hbx⟩ : ∃ z : Obj, (.cells #[.string a0, .int .u64 (a1 : Int), .int .i64 a2, .int .i64 a3, .bool a4, .func (.func g) #[] #[]] 83) = z := ⟨_, rfl⟩
  have BA : Hid (Below w.heap.size w (w.alloc (.cells #[.string a0, .int .u64 (a1 : Int), .int .i64 a2, .int .i64 a3, .bool a4, .func (.func g) #[] #[]] 83))) := (Below.refl _ _).alloc (Nat.le_refl _) _
  clear hbx bx
  have hbl : bl < w.heap.size := (HN.out.nr.row.choose_spec.lt bl rfl).2
  have hl3 : 3 < w.heap.size := by omega
  have hl4 : 4 < w.heap.size := by omega
  have hlr : rb < w.heap.size := by omega
  have ce := HN.out.nr.cells bl rfl j hj (k + 1) _ (pn_attr (by rw [HN.out.len j hj]; exact hk))
  obtain ⟨x0, hx0⟩ : ∃ x, (nth L j).attr[k]?.getD 0 = x := ⟨_, rfl⟩
  rw [hx0] at ce
  have ce2 : w.cell? ⟨bl, j * 16 + k + 1, none⟩ = some (.int .i64 x0) := ce
  have cf : w.frozen? ⟨bl, j * 16 + (k + 1), none⟩ = false := HN.out.nr.frz rfl _
  have cf2 : w.frozen? ⟨bl, j * 16 + k + 1, none⟩ = false := HN.out.nr.frz rfl _
  clear hx0
  have FIN : Hid (∀ (W' : World), Below w.heap.size w W' → ¬ a2 < n → (a4 && (n != a3) && hh) = false → SetOut w (W'.setCell ⟨bl, j * 16 + (k + 1), none⟩ (.int .i64 n)) (.returned .nilIface) rb B s i av (.slice (some ⟨bl, 0, none⟩) L.length cap) fv L KV j k n rg tw bl) := fun W' hb c1 c2 => by
    have hn' := HN.out.up (Up.below (B := B) hb)
    refine ⟨gr_trans (gr_below hb) (gr_set W' bl _ _), by rw [HD.out, if_neg c1, c2]; rfl, PR.far (HR.out.below hb) (gr_set W' bl _ _) (fun q e => by injection e with e; omega) hrb, ?_, (Fr.below hb hB).trans (Fr.own (gr_set W' bl _ _) (Nat.le_trans hB hb.size) (fun q e => by injection e with e; omega)), ?_⟩
    · rw [HL.out, if_neg (by rw [c2]; simp; omega)]
      have := hn'.setAttr hj hk n
      simpa using this
    · have := hb.size
      simp; omega
  have FIN2 : Hid (∀ (o : Obj), ¬ a2 < n → (a4 && (n != a3) && hh) = false → SetOut w ((w.setCell ⟨bl, j * 16 + (k + 1), none⟩ (.int .i64 n)).alloc o) (.returned .nilIface) rb B s i av (.slice (some ⟨bl, 0, none⟩) L.length cap) fv L KV j k n rg tw bl) := fun o c1 c2 => by
    obtain ⟨e0, e1, e2, e3, e4, e5⟩ := FIN.out w (Below.refl _ _) c1 c2
    have hb : Below (w.setCell ⟨bl, j * 16 + (k + 1), none⟩ (.int .i64 n)).heap.size (w.setCell ⟨bl, j * 16 + (k + 1), none⟩ (.int .i64 n)) ((w.setCell ⟨bl, j * 16 + (k + 1), none⟩ (.int .i64 n)).alloc o) := (Below.refl _ _).alloc (Nat.le_refl _) _
    exact ⟨gr_trans e0 (gr_below hb), e1, e2.below hb, e3.up (Up.below hb), e4.trans (Fr.below hb e5), Nat.le_trans e5 hb.size⟩
  have KEP : Hid (∀ (W' : World), Below w.heap.size w W' → (a2 < n ∨ (a4 && (n != a3) && hh) = true) → SetOut w W' (.returned (setE L k n rg tw)) rb B s i av (.slice (some ⟨bl, 0, none⟩) L.length cap) fv L KV j k n rg tw bl) := fun W' hb c1 =>
    ⟨gr_below hb, rfl, HR.out.below hb, by rw [HL.out, if_pos c1]; exact HN.out.up (Up.below hb), Fr.below hb hB, Nat.le_trans hB hb.size⟩
  have er := ER.out
  have et := ET.out
  by_cases c1 : a2 < n
  · have HV : Hid (setE L k n rg tw = .iface 242 (.pointer (some rg))) := by show _ = _; rw [HD.out, if_pos c1]; rfl
    have d1 : decide (a2 < n) = true := decide_eq_true c1
    go_enter Tryz.func101, Tryz.ntmps101
    go_wp2
    go_ret
    have := KEP.out _ BA.out (.inl c1)
    rw [HV.out] at this
    exact this
  · have d1 : decide (a2 < n) = false := decide_eq_false c1
    cases ha4 : a4 with
    | false =>
      subst ha4
      go_enter Tryz.func101, Tryz.ntmps101
      go_wp2_with (first | (go_at_fn g; refine (HQ.out.2 _ _ _).mono ?_; rintro e w2 ⟨rfl, hw⟩; obtain rfl := hw.symm))
      go_ret
      exact FIN2.out _ (by omega) rfl
    | true =>
      subst ha4
      by_cases c2 : n = a3
      · subst c2
        have e2 : (n != n) = false := by simp
        have e2' : (n == n) = true := by simp
        go_enter Tryz.func101, Tryz.ntmps101
        go_wp2_with (first | (go_at_fn g; refine (HQ.out.2 _ _ _).mono ?_; rintro e w2 ⟨rfl, hw⟩; obtain rfl := hw.symm))
        go_ret
        exact FIN2.out _ (by omega) (by rw [e2]; rfl)
      · have e2 : (n != a3) = true := by simpa using c2
        have e2' : (n == a3) = false := by simpa using c2
        have CS : Hid (Calls Tryz.prog 111 #[.pointer (some ⟨rb, 0, none⟩), .agg #[.string a0, .int .u64 (a1 : Int), .int .i64 a2, .int .i64 a3, .bool true, .func (.func g) #[] #[]], .int .i64 n] (w.alloc (.cells #[.string a0, .int .u64 (a1 : Int), .int .i64 a2, .int .i64 a3, .bool true, .func (.func g) #[] #[]] 83)) fun e w' => e = .returned (.bool hh) ∧ Below (w.alloc (.cells #[.string a0, .int .u64 (a1 : Int), .int .i64 a2, .int .i64 a3, .bool true, .func (.func g) #[] #[]] 83)).heap.size (w.alloc (.cells #[.string a0, .int .u64 (a1 : Int), .int .i64 a2, .int .i64 a3, .bool true, .func (.func g) #[] #[]] 83)) w') := HS.out _ (HR.out.below BA.out) (HN.out.up (Up.below BA.out))
        go_enter Tryz.func101, Tryz.ntmps101
        go_wp2_with fail
        refine CS.out.mono ?_
        rintro e w2 ⟨rfl, hb2⟩
        have HB2 : Hid (Below w.heap.size w w2) := BA.out.trans (hb2.mono (by simp))
        have d5 : w2.cell? ⟨w.heap.size, 5, none⟩ = some (.func (.func g) #[] #[]) := (hb2.cell (p := ⟨w.heap.size, 5, none⟩) (by simp)).trans (by rw [World.cell?_alloc_at _ _ _ _ rfl]; rfl)
        have et2 : w2.cell? ⟨3, 0, none⟩ = some (.iface 242 (.pointer (some tw))) := (HB2.out.cell (p := ⟨3, 0, none⟩) hl3).trans et
        have ceb : w2.cell? ⟨bl, j * 16 + (k + 1), none⟩ = some (.int .i64 x0) := (HB2.out.cell (p := ⟨bl, j * 16 + (k + 1), none⟩) hbl).trans ce
        have cfb : w2.frozen? ⟨bl, j * 16 + (k + 1), none⟩ = false := (HB2.out.frozen (p := ⟨bl, j * 16 + (k + 1), none⟩) hbl).trans cf
        clear hb2 CS et er ce ce2 cf cf2
        cases hhh : hh with
        | true =>
          subst hhh
          have HV : Hid (setE L k n rg tw = .iface 242 (.pointer (some tw))) := by show _ = _; rw [HD.out, if_neg (by omega), if_pos (by rw [e2]; rfl)]; rfl
          go_wp2
          go_ret
          have := KEP.out _ HB2.out (.inr (by rw [e2]; rfl))
          rw [HV.out] at this
          exact this
        | false =>
          subst hhh
          go_wp2_with (first | (go_at_fn g; refine (HQ.out.2 _ _ _).mono ?_; rintro e w3 ⟨rfl, hw⟩; obtain rfl := hw.symm))
          go_ret
          exact FIN.out _ HB2.out (by omega) (by rw [e2]; rfl)

end Go.Proofs.YtepeepipgkejiadGreatDoor
