/-
  What a terminal makes of a sequence with numbers: plain mathematics.
-/
import Derived.Test.YtkdajaphbmclkaaGreatDoorX16
import Derived.Lib.ItoaNum
import Derived.Lib.Join
namespace Go.Proofs.YtkdajaphbmclkaaGreatDoor
set_option linter.unusedVariables false

def dgt (n : Int) : List UInt8 := Lib.decDigits n.toNat
/-- A sequence. -/
def seqB (ns : List Int) (c : UInt8) : List UInt8 := 27 :: 91 :: (Lib.join (ns.map dgt) [59] ++ [c])
def fromL (ns : List Int) : Nat → Int := fun j => ns.getD j 0
theorem fromL_zero (ps : List Int) : fromL (ps ++ [0]) = fromL ps := by
  funext j
  unfold fromL
  rw [List.getD_eq_getElem?_getD, List.getD_eq_getElem?_getD]
  by_cases h : j < ps.length
  · rw [List.getElem?_append_left h]
  · rw [List.getElem?_append_right (by omega), List.getElem?_eq_none (l := ps) (by omega)]
    by_cases h2 : j - ps.length = 0
    · rw [h2]; rfl
    · rw [List.getElem?_eq_none (by simp; omega)]
theorem fromL_upd (ps : List Int) (v v' : Int) : updN (fromL (ps ++ [v])) ps.length v' = fromL (ps ++ [v']) := by
  funext j
  unfold updN fromL
  rw [List.getD_eq_getElem?_getD, List.getD_eq_getElem?_getD]
  by_cases h : j = ps.length
  · rw [if_pos h, h, List.getElem?_append_right (Nat.le_refl _)]; simp
  · rw [if_neg h]
    by_cases h2 : j < ps.length
    · rw [List.getElem?_append_left h2, List.getElem?_append_left h2]
    · rw [List.getElem?_eq_none (by simp; omega), List.getElem?_eq_none (by simp; omega)]
theorem fromL_at (ps : List Int) (v : Int) : fromL (ps ++ [v]) ps.length = v := by
  unfold fromL
  rw [List.getD_eq_getElem?_getD, List.getElem?_append_right (Nat.le_refl _)]
  simp
theorem u8_dig (d : Nat) (h : d < 10) : (UInt8.ofNat (48 + d)).toNat = 48 + d := by
  rw [UInt8.toNat_ofNat']
  omega
/-- A digit more. -/
theorem run_dig (s : Tm) (ps : List Int) (v : Int) (d : Nat) (hd : d < 10) : stepT s (UInt8.ofNat (48 + d)) (.wth (fromL (ps ++ [v])) (ps.length : Int)) = (s, .wth (fromL (ps ++ [min (v * 10 + (d : Int)) 999999])) (ps.length : Int)) := by
  show wthT s (fromL (ps ++ [v])) ((ps.length : Int)).toNat ((UInt8.ofNat (48 + d)).toNat : Int) = _
  rw [u8_dig d hd, Int.toNat_natCast]
  unfold wthT
  rw [if_pos (by omega), fromL_at, fromL_upd, show ((48 + d : Nat) : Int) - 48 = (d : Int) by omega]
theorem run_digs (s : Tm) (ps : List Int) : ∀ (n : Nat), n ≤ 999999 → runT (s, .wth (fromL (ps ++ [0])) (ps.length : Int)) (Lib.decDigits n) = (s, .wth (fromL (ps ++ [(n : Int)])) (ps.length : Int)) := by
  intro n
  induction n using Nat.strongRecOn with
  | _ n ih =>
    intro hn
    rw [Lib.decDigits]
    by_cases h : n < 10
    · rw [dif_pos h]
      show stepT s (UInt8.ofNat (48 + n)) (.wth (fromL (ps ++ [0])) (ps.length : Int)) = _
      rw [run_dig s ps 0 n h, show min ((0 : Int) * 10 + (n : Int)) 999999 = (n : Int) by omega]
    · rw [dif_neg h, runT_append, ih (n / 10) (by omega) (by omega)]
      show stepT s (UInt8.ofNat (48 + n % 10)) (.wth (fromL (ps ++ [((n / 10 : Nat) : Int)])) (ps.length : Int)) = _
      rw [run_dig s ps _ (n % 10) (by omega), show min (((n / 10 : Nat) : Int) * 10 + ((n % 10 : Nat) : Int)) 999999 = (n : Int) by omega]
/-- A semicolon. -/
theorem run_semi (s : Tm) (ps : List Int) (v : Int) (h : ps.length < 16) : stepT s 59 (.wth (fromL (ps ++ [v])) (ps.length : Int)) = (s, .wth (fromL (ps ++ [v] ++ [0])) (((ps ++ [v]).length : Nat) : Int)) := by
  show wthT s (fromL (ps ++ [v])) ((ps.length : Int)).toNat ((59 : UInt8).toNat : Int) = _
  rw [Int.toNat_natCast, fromL_zero]
  unfold wthT
  rw [show ((59 : UInt8).toNat : Int) = 59 from rfl, if_neg (by omega), if_neg (by omega), if_pos rfl, show min ((ps.length : Int) + 1) 16 = (((ps ++ [v]).length : Nat) : Int) by rw [List.length_append]; simp; omega]
/-- Numbers behind one another. -/
theorem run_nums (s : Tm) : ∀ (ns : List Int) (n : Int) (ps : List Int), (∀ z ∈ n :: ns, 0 ≤ z ∧ z ≤ 999999) → ps.length + ns.length + 1 ≤ 16 → runT (s, .wth (fromL (ps ++ [0])) (ps.length : Int)) (dgt n ++ Lib.joinTail [59] (ns.map dgt)) = (s, .wth (fromL (ps ++ n :: ns)) ((ps.length + ns.length : Nat) : Int))
  | [], n, ps, h, hl => by
    have hn := h n (List.mem_cons_self ..)
    have e : Lib.joinTail [59] (([] : List Int).map dgt) = [] := rfl
    rw [e, List.append_nil]
    have := run_digs s ps n.toNat (by omega)
    rw [show ((n.toNat : Nat) : Int) = n by omega] at this
    exact this
  | m :: ns, n, ps, h, hl => by
    have hn := h n (List.mem_cons_self ..)
    have e : dgt n ++ Lib.joinTail [59] ((m :: ns).map dgt) = dgt n ++ (59 :: (dgt m ++ Lib.joinTail [59] (ns.map dgt))) := by unfold Lib.joinTail; simp
    rw [e, runT_append]
    have h1 := run_digs s ps n.toNat (by omega)
    rw [show ((n.toNat : Nat) : Int) = n by omega] at h1
    have h2 : runT (s, .wth (fromL (ps ++ [0])) (ps.length : Int)) (dgt n) = (s, .wth (fromL (ps ++ [n])) (ps.length : Int)) := h1
    rw [h2]
    show runT (stepT s 59 (.wth (fromL (ps ++ [n])) (ps.length : Int))) (dgt m ++ Lib.joinTail [59] (ns.map dgt)) = _
    rw [run_semi s ps n (by omega)]
    have h3 := run_nums s ns m (ps ++ [n]) (fun z hz => h z (List.mem_cons_of_mem _ hz)) (by rw [List.length_append]; simp only [List.length_cons, List.length_nil] at hl ⊢; omega)
    rw [h3]
    have e2 : ps ++ [n] ++ m :: ns = ps ++ n :: m :: ns := by simp
    have e3 : (ps ++ [n]).length + ns.length = ps.length + (m :: ns).length := by simp; omega
    rw [e2, e3]
/-- A whole sequence. -/
theorem run_seq (s : Tm) (n : Int) (ns : List Int) (c : UInt8) (hc : 64 ≤ c.toNat ∧ c.toNat ≤ 126) (h : ∀ z ∈ n :: ns, 0 ≤ z ∧ z ≤ 999999) (hl : ns.length + 1 ≤ 16) : runT (s, .out) (seqB (n :: ns) c) = (obeyT { s with r := clr s.r } c.toNat (fromL (n :: ns)) (ns.length : Int), .out) := by
  unfold seqB
  have e : Lib.join ((n :: ns).map dgt) [59] = dgt n ++ Lib.joinTail [59] (ns.map dgt) := Lib.join_cons _ _ _
  rw [e]
  have z : fromL ([] ++ [0]) = fun _ => (0 : Int) := by rw [fromL_zero]; funext j; rfl
  have h2 := run_nums { s with r := clr s.r } ns n [] h (by simp; omega)
  rw [z] at h2
  show runT (stepT (stepT s 27 .out).1 91 (stepT s 27 .out).2) ((dgt n ++ Lib.joinTail [59] (ns.map dgt)) ++ [c]) = _
  have e1 : stepT s 27 .out = ({ s with r := clr s.r }, .esc) := rfl
  have e2 : stepT { s with r := clr s.r } 91 .esc = ({ s with r := clr s.r }, .wth (fun _ => 0) 0) := rfl
  rw [e1, e2, runT_append]
  have h3 : runT ({ s with r := clr s.r }, .wth (fun _ => 0) 0) (dgt n ++ Lib.joinTail [59] (ns.map dgt)) = ({ s with r := clr s.r }, .wth (fromL (n :: ns)) ((0 + ns.length : Nat) : Int)) := h2
  rw [h3]
  show wthT _ _ _ _ = _
  rw [Int.toNat_natCast, Nat.zero_add]
  unfold wthT
  rw [if_neg (by omega), if_neg (by omega), if_neg (by omega), if_pos (by omega)]
theorem fromL_lst (ns : List Int) (n : Int) (h : ns.length + 1 ≤ 16) : lst (fromL (n :: ns)) (cntN (ns.length : Int)) = n :: ns := by
  have e : cntN (ns.length : Int) = ns.length + 1 := by unfold cntN; omega
  rw [e]
  unfold lst fromL
  apply List.ext_getElem?
  intro j
  by_cases hj : j < ns.length + 1
  · rw [List.getElem?_map, List.getElem?_range hj]
    show some ((n :: ns).getD j 0) = _
    rw [List.getD_eq_getElem?_getD, List.getElem?_eq_getElem (by simpa using hj)]
    rfl
  · rw [List.getElem?_eq_none (by simp; omega), List.getElem?_eq_none (by simp; omega)]
/-- A sequence for the style. -/
theorem run_style (s : Tm) (n : Int) (ns : List Int) (h : ∀ z ∈ n :: ns, 0 ≤ z ∧ z ≤ 999999) (hl : ns.length + 1 ≤ 16) : runT (s, .out) (seqB (n :: ns) 109) = ({ s with r := { clr s.r with f := aplF (n :: ns) s.r.f, g := aplG (n :: ns) s.r.g, b := aplB (n :: ns) s.r.b } }, .out) := by
  rw [run_seq s n ns 109 (by decide) h hl]
  have e : ((109 : UInt8).toNat : Int) = 109 := rfl
  rw [e]
  unfold obeyT
  rw [if_neg (by decide), if_neg (by decide), if_pos rfl, fromL_lst ns n hl]
  rfl
/-- A sequence for the cursor. -/
theorem run_move (s : Tm) (i j : Nat) (hi : i < s.H) (hj : j < s.W) (hW : s.W ≤ 400) (hH : s.H ≤ 400) : runT (s, .out) (seqB [(i : Int) + 1, (j : Int) + 1] 72) = ({ s with r := { clr s.r with x := j, y := i } }, .out) := by
  rw [run_seq s _ _ 72 (by decide) (fun z hz => by
    rcases List.mem_cons.1 hz with rfl | hz
    · omega
    · rw [List.mem_singleton] at hz; omega) (by simp)]
  have e : ((72 : UInt8).toNat : Int) = 72 := rfl
  rw [e]
  unfold obeyT
  rw [if_pos rfl]
  have l0 : fromL [(i : Int) + 1, (j : Int) + 1] 0 = (i : Int) + 1 := rfl
  have l1 : fromL [(i : Int) + 1, (j : Int) + 1] 1 = (j : Int) + 1 := rfl
  rw [l0, l1]
  have ex : min (max ((j : Int) + 1) 1) (s.W : Int) - 1 = (j : Int) := by omega
  have ey : min (max ((i : Int) + 1) 1) (s.H : Int) - 1 = (i : Int) := by omega
  show ((_ : Tm), St.out) = _
  rw [ex, ey]

end Go.Proofs.YtkdajaphbmclkaaGreatDoor
