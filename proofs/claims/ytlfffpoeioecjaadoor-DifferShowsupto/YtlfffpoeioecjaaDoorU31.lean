/-
  A list of cells that is handed in, opened at every index; how long it and its texts are.
-/
import Derived.Test.YtlfffpoeioecjaaDoorRows
import Derived.Test.YtlfffpoeioecjaaDoorU27
import Derived.Deep.Slices
import Derived.ChangeSame
import Derived.ProofKit
import Derived.OpenShut
import Derived.ShutString
import Derived.ChangeOld
import Derived.Below
import Derived.SizedLaws
import Derived.Test.YtlfffpoeioecjaaDoorU30
import Derived.Lib.ItoaNum
import Derived.Lib.Join
import Derived.Test.YtlfffpoeioecjaaDoorU17
import Derived.Test.YtlfffpoeioecjaaDoorU25
import Derived.LaidLaws
import Derived.LaidSub
import Derived.Lib.LaidTab
namespace Go.Proofs.YtlfffpoeioecjaaDoor
open Go.ChangeShapes Go.WideShapes Go.ChangeAt Go.RowKit Go.Deep
set_option linter.unusedVariables false

theorem dcellsC : Tryd.prog.cellsOf 57 = 5 := by kernel_rfl
theorem dcellsS : Tryd.prog.cellsOf 50 = 3 := by kernel_rfl
theorem dcells3 : Tryd.prog.cellsOf 3 = 1 := by kernel_rfl
theorem dcells9 : Tryd.prog.cellsOf 9 = 1 := by kernel_rfl

theorem bulk_pos {H : Type} (d : DataW H) : 1 ≤ Rows.uptoBulk d := by
  cases d with
  | lit l => cases l <;> simp [Rows.uptoBulk]
  | _ => simp [Rows.uptoBulk]
theorem bulk_len {H : Type} : ∀ l : List (DataW H), l.length ≤ Rows.uptoBulkAll l
  | [] => Nat.zero_le _
  | d :: r => by
    have h1 := bulk_pos d
    have h2 := bulk_len r
    simp only [Rows.uptoBulkAll, List.length_cons]
    omega
theorem bulk_mem {H : Type} : ∀ {l : List (DataW H)} {d : DataW H}, d ∈ l → Rows.uptoBulk d ≤ Rows.uptoBulkAll l
  | d' :: r, d, h => by
    simp only [Rows.uptoBulkAll]
    rcases List.mem_cons.1 h with rfl | h
    · omega
    · have := bulk_mem h; omega

section
variable {H : Type} {enc : TypeId × Value → H} {w : World} {base : Nat} {spare : Nat → Bool} {held : Bool}

theorem dint_of {v : Value} {n : Nat} {y : DataW H × List MemPlace} (h : DataW.trod enc Tryd.prog w base spare held n 3 [v] = some y) : ∃ x : Int, v = .int .i64 x := by
  obtain ⟨x, e, _⟩ := DataW.trod_int Tryd.underlying3 h
  injection e with e
  exact ⟨x, e⟩
theorem dstr_of {v : Value} {n : Nat} {y : DataW H × List MemPlace} (h : DataW.trod enc Tryd.prog w base spare held n 9 [v] = some y) : ∃ s : ByteArray, v = .string s ∧ y.1 = .lit (.string s.data.toList) := by
  obtain ⟨x, e, e2, _⟩ := DataW.trod_string Tryd.underlying9 h
  injection e with e
  exact ⟨x, e, by rw [e2]⟩
set_option maxRecDepth 100000 in
/-- What is handed in is a cell. -/
theorem cell_of {cs : List Value} {n : Nat} {y : DataW H × List MemPlace} (hlen : cs.length = 5) (h : DataW.trod enc Tryd.prog w base spare held n 57 cs = some y) :
    ∃ r : Ce, cs = c5 r ∧ r.t.size ≤ Rows.uptoBulk y.1 := by
  obtain ⟨xs, k, hk, hxy, _, hxl, hf⟩ := DataW.trod_struct Tryd.underlying57 h
  match xs, hxl, cs, hlen with
  | [y0, y1, y2], _, [v0, v1, v2, v3, v4], _ =>
    have g0 := hf 0 _ rfl
    have g1 := hf 1 _ rfl
    have g2 := hf 2 _ rfl
    simp [dcells3, dcells9, dcellsS] at g0 g1 g2
    obtain ⟨x0, rfl, e0⟩ := dstr_of g0
    obtain ⟨x4, rfl⟩ := dint_of g2
    obtain ⟨zs, k2, hk2, hxy2, _, hxl2, hf2⟩ := DataW.trod_struct Tryd.underlying50 g1
    match zs, hxl2 with
    | [z0, z1, z2], _ =>
      have f0 := hf2 0 _ rfl
      have f1 := hf2 1 _ rfl
      have f2 := hf2 2 _ rfl
      simp [dcells3] at f0 f1 f2
      obtain ⟨x1, rfl⟩ := dint_of f0
      obtain ⟨x2, rfl⟩ := dint_of f1
      obtain ⟨x3, rfl⟩ := dint_of f2
      refine ⟨⟨x0, x1, x2, x3, x4⟩, rfl, ?_⟩
      rw [hxy]
      have e : x0.data.toList.length = x0.size := by rw [Array.length_toList]; rfl
      simp only [List.map_cons, List.map_nil, e0, Rows.uptoBulk, Rows.uptoBulkAll]
      omega

/-- What is handed in is a list of cells. -/
theorem open_cells {fuel : Nat} {p : Option Addr} {len cap : Nat} {x : DataW H × List MemPlace} (h : DataW.trod enc Tryd.prog w base spare held fuel 36 [.slice p len cap] = some x) :
    ∃ C : Nat → Ce, (len = 0 ∨ ∃ g off, p = some ⟨g, off, none⟩ ∧ CL w g off len C) ∧ len ≤ Rows.uptoBulk x.1 ∧ ∀ i, i < len → (C i).t.size ≤ Rows.uptoBulk x.1 := by
  rcases open_slice Tryd.underlying36 h with ⟨h0, hx⟩ | ⟨ad, l, cp, m, n, D, Pl, h0, hb, hl, hm, hmm, rfl, hx⟩
  · injection h0 with h0
    injection h0 with h1 h2 h3
    subst h1 h2 h3
    exact ⟨fun _ => ⟨⟨#[]⟩, 0, 0, 0, 0⟩, .inl rfl, Nat.zero_le _, fun i hi => absurd hi (by omega)⟩
  · injection h0 with h0
    injection h0 with h1 h2 h3
    subst h1 h2 h3
    have hlm : len ≤ m := by rw [hmm]; split <;> omega
    have each : ∀ i, i < m → ∃ r : Ce, (∀ (k : Nat) u, (c5 r)[k]? = some u → w.cell? (ad.add (i * 5 + k)) = some u) ∧ r.t.size ≤ Rows.uptoBulk (D i) := by
      intro i hi
      obtain ⟨cs', h1, h2⟩ := hx i hi
      rw [dcellsC] at h1
      obtain ⟨_, hlen, hcell⟩ := World.cells?_some h1
      obtain ⟨r, hr, hin⟩ := cell_of hlen h2
      subst hr
      refine ⟨r, fun k u hu => ?_, hin⟩
      have hk := (List.getElem?_eq_some_iff.1 hu).1
      rw [c5_len] at hk
      have e0 := hcell k (by omega)
      rw [add_add] at e0
      rw [e0, ← hu]
    have inh : Inhabited Ce := ⟨⟨⟨#[]⟩, 0, 0, 0, 0⟩⟩
    obtain ⟨q, hq⟩ := choose_lt each
    have hbulk : Rows.uptoBulkAll ((List.range len).map D) ≤ Rows.uptoBulk (DataW.slice ((List.range len).map D) ((List.range (m - len)).map fun j => D (len + j))) := by simp only [Rows.uptoBulk]; omega
    refine ⟨q, ?_, ?_, fun i hi => ?_⟩
    · by_cases hz : len = 0
      · exact .inl hz
      · right
        obtain ⟨b, off, spot⟩ := ad
        have hspot : spot = none := by simpa [Addr.add] using World.cell?_spot ((hq 0 (by omega)).1 0 _ rfl)
        subst hspot
        have hc : ∀ i, i < len → ∀ (k : Nat) u, (c5 (q i))[k]? = some u → w.cell? ⟨b, off + i * 5 + k, none⟩ = some u := fun i hi k u hu => by
          have := (hq i (by omega)).1 k u hu
          rw [Go.WideShapes.add_plain, ← Nat.add_assoc] at this
          exact this
        exact ⟨b, off, rfl, World.block_lt_of_cell? w ⟨b, off + 0 * 5 + 0, none⟩ (hc 0 (by omega) 0 _ rfl), hc⟩
    · have := bulk_len ((List.range len).map D)
      simp only [List.length_map, List.length_range] at this
      exact Nat.le_trans this hbulk
    · refine Nat.le_trans (hq i (by omega)).2 (Nat.le_trans (bulk_mem ?_) hbulk)
      exact List.mem_map.2 ⟨i, List.mem_range.2 hi, rfl⟩
end

end Go.Proofs.YtlfffpoeioecjaaDoor

namespace Go.Proofs.YtlfffpoeioecjaaDoor
set_option linter.unusedVariables false

def dgt (n : Int) : List UInt8 := Lib.decDigits n.toNat
/-- A sequence. -/
def seqB (ns : List Int) (c : UInt8) : List UInt8 := 27 :: 91 :: (Lib.join (ns.map dgt) [59] ++ [c])
def fromL (ns : List Int) : Nat → Int := fun j => ns.getD j 0
theorem fromL_zero (ps : List Int) : fromL (ps ++ [0]) = fromL ps := by
  funext j
  unfold fromL
  rw [List.getD_eq_getElem?_getD, List.getD_eq_getElem?_getD]
  by_cases h : j < ps.length
  · rw [List.getElem?_append_left h]
  · rw [List.getElem?_append_right (by omega), List.getElem?_eq_none (l := ps) (by omega)]
    by_cases h2 : j - ps.length = 0
    · rw [h2]; rfl
    · rw [List.getElem?_eq_none (by simp; omega)]
theorem fromL_upd (ps : List Int) (v v' : Int) : updN (fromL (ps ++ [v])) ps.length v' = fromL (ps ++ [v']) := by
  funext j
  unfold updN fromL
  rw [List.getD_eq_getElem?_getD, List.getD_eq_getElem?_getD]
  by_cases h : j = ps.length
  · rw [if_pos h, h, List.getElem?_append_right (Nat.le_refl _)]; simp
  · rw [if_neg h]
    by_cases h2 : j < ps.length
    · rw [List.getElem?_append_left h2, List.getElem?_append_left h2]
    · rw [List.getElem?_eq_none (by simp; omega), List.getElem?_eq_none (by simp; omega)]
theorem fromL_at (ps : List Int) (v : Int) : fromL (ps ++ [v]) ps.length = v := by
  unfold fromL
  rw [List.getD_eq_getElem?_getD, List.getElem?_append_right (Nat.le_refl _)]
  simp
theorem u8_dig (d : Nat) (h : d < 10) : (UInt8.ofNat (48 + d)).toNat = 48 + d := by
  rw [UInt8.toNat_ofNat']
  omega
/-- A digit more. -/
theorem run_dig (s : Tm) (ps : List Int) (v : Int) (d : Nat) (hd : d < 10) : stepT s (UInt8.ofNat (48 + d)) (.wth (fromL (ps ++ [v])) (ps.length : Int)) = (s, .wth (fromL (ps ++ [min (v * 10 + (d : Int)) 999999])) (ps.length : Int)) := by
  show wthT s (fromL (ps ++ [v])) ((ps.length : Int)).toNat ((UInt8.ofNat (48 + d)).toNat : Int) = _
  rw [u8_dig d hd, Int.toNat_natCast]
  unfold wthT
  rw [if_pos (by omega), fromL_at, fromL_upd, show ((48 + d : Nat) : Int) - 48 = (d : Int) by omega]
theorem run_digs (s : Tm) (ps : List Int) : ∀ (n : Nat), n ≤ 999999 → runT (s, .wth (fromL (ps ++ [0])) (ps.length : Int)) (Lib.decDigits n) = (s, .wth (fromL (ps ++ [(n : Int)])) (ps.length : Int)) := by
  intro n
  induction n using Nat.strongRecOn with
  | _ n ih =>
    intro hn
    rw [Lib.decDigits]
    by_cases h : n < 10
    · rw [dif_pos h]
      show stepT s (UInt8.ofNat (48 + n)) (.wth (fromL (ps ++ [0])) (ps.length : Int)) = _
      rw [run_dig s ps 0 n h, show min ((0 : Int) * 10 + (n : Int)) 999999 = (n : Int) by omega]
    · rw [dif_neg h, runT_append, ih (n / 10) (by omega) (by omega)]
      show stepT s (UInt8.ofNat (48 + n % 10)) (.wth (fromL (ps ++ [((n / 10 : Nat) : Int)])) (ps.length : Int)) = _
      rw [run_dig s ps _ (n % 10) (by omega), show min (((n / 10 : Nat) : Int) * 10 + ((n % 10 : Nat) : Int)) 999999 = (n : Int) by omega]
/-- A semicolon. -/
theorem run_semi (s : Tm) (ps : List Int) (v : Int) (h : ps.length < 16) : stepT s 59 (.wth (fromL (ps ++ [v])) (ps.length : Int)) = (s, .wth (fromL (ps ++ [v] ++ [0])) (((ps ++ [v]).length : Nat) : Int)) := by
  show wthT s (fromL (ps ++ [v])) ((ps.length : Int)).toNat ((59 : UInt8).toNat : Int) = _
  rw [Int.toNat_natCast, fromL_zero]
  unfold wthT
  rw [show ((59 : UInt8).toNat : Int) = 59 from rfl, if_neg (by omega), if_neg (by omega), if_pos rfl, show min ((ps.length : Int) + 1) 16 = (((ps ++ [v]).length : Nat) : Int) by rw [List.length_append]; simp; omega]
/-- Numbers behind one another. -/
theorem run_nums (s : Tm) : ∀ (ns : List Int) (n : Int) (ps : List Int), (∀ z ∈ n :: ns, 0 ≤ z ∧ z ≤ 999999) → ps.length + ns.length + 1 ≤ 16 → runT (s, .wth (fromL (ps ++ [0])) (ps.length : Int)) (dgt n ++ Lib.joinTail [59] (ns.map dgt)) = (s, .wth (fromL (ps ++ n :: ns)) ((ps.length + ns.length : Nat) : Int))
  | [], n, ps, h, hl => by
    have hn := h n (List.mem_cons_self ..)
    have e : Lib.joinTail [59] (([] : List Int).map dgt) = [] := rfl
    rw [e, List.append_nil]
    have := run_digs s ps n.toNat (by omega)
    rw [show ((n.toNat : Nat) : Int) = n by omega] at this
    exact this
  | m :: ns, n, ps, h, hl => by
    have hn := h n (List.mem_cons_self ..)
    have e : dgt n ++ Lib.joinTail [59] ((m :: ns).map dgt) = dgt n ++ (59 :: (dgt m ++ Lib.joinTail [59] (ns.map dgt))) := by unfold Lib.joinTail; simp
    rw [e, runT_append]
    have h1 := run_digs s ps n.toNat (by omega)
    rw [show ((n.toNat : Nat) : Int) = n by omega] at h1
    have h2 : runT (s, .wth (fromL (ps ++ [0])) (ps.length : Int)) (dgt n) = (s, .wth (fromL (ps ++ [n])) (ps.length : Int)) := h1
    rw [h2]
    show runT (stepT s 59 (.wth (fromL (ps ++ [n])) (ps.length : Int))) (dgt m ++ Lib.joinTail [59] (ns.map dgt)) = _
    rw [run_semi s ps n (by omega)]
    have h3 := run_nums s ns m (ps ++ [n]) (fun z hz => h z (List.mem_cons_of_mem _ hz)) (by rw [List.length_append]; simp only [List.length_cons, List.length_nil] at hl ⊢; omega)
    rw [h3]
    have e2 : ps ++ [n] ++ m :: ns = ps ++ n :: m :: ns := by simp
    have e3 : (ps ++ [n]).length + ns.length = ps.length + (m :: ns).length := by simp; omega
    rw [e2, e3]
/-- A whole sequence. -/
theorem run_seq (s : Tm) (n : Int) (ns : List Int) (c : UInt8) (hc : 64 ≤ c.toNat ∧ c.toNat ≤ 126) (h : ∀ z ∈ n :: ns, 0 ≤ z ∧ z ≤ 999999) (hl : ns.length + 1 ≤ 16) : runT (s, .out) (seqB (n :: ns) c) = (obeyT { s with r := clr s.r } c.toNat (fromL (n :: ns)) (ns.length : Int), .out) := by
  unfold seqB
  have e : Lib.join ((n :: ns).map dgt) [59] = dgt n ++ Lib.joinTail [59] (ns.map dgt) := Lib.join_cons _ _ _
  rw [e]
  have z : fromL ([] ++ [0]) = fun _ => (0 : Int) := by rw [fromL_zero]; funext j; rfl
  have h2 := run_nums { s with r := clr s.r } ns n [] h (by simp; omega)
  rw [z] at h2
  show runT (stepT (stepT s 27 .out).1 91 (stepT s 27 .out).2) ((dgt n ++ Lib.joinTail [59] (ns.map dgt)) ++ [c]) = _
  have e1 : stepT s 27 .out = ({ s with r := clr s.r }, .esc) := rfl
  have e2 : stepT { s with r := clr s.r } 91 .esc = ({ s with r := clr s.r }, .wth (fun _ => 0) 0) := rfl
  rw [e1, e2, runT_append]
  have h3 : runT ({ s with r := clr s.r }, .wth (fun _ => 0) 0) (dgt n ++ Lib.joinTail [59] (ns.map dgt)) = ({ s with r := clr s.r }, .wth (fromL (n :: ns)) ((0 + ns.length : Nat) : Int)) := h2
  rw [h3]
  show wthT _ _ _ _ = _
  rw [Int.toNat_natCast, Nat.zero_add]
  unfold wthT
  rw [if_neg (by omega), if_neg (by omega), if_neg (by omega), if_pos (by omega)]
theorem fromL_lst (ns : List Int) (n : Int) (h : ns.length + 1 ≤ 16) : lst (fromL (n :: ns)) (cntN (ns.length : Int)) = n :: ns := by
  have e : cntN (ns.length : Int) = ns.length + 1 := by unfold cntN; omega
  rw [e]
  unfold lst fromL
  apply List.ext_getElem?
  intro j
  by_cases hj : j < ns.length + 1
  · rw [List.getElem?_map, List.getElem?_range hj]
    show some ((n :: ns).getD j 0) = _
    rw [List.getD_eq_getElem?_getD, List.getElem?_eq_getElem (by simpa using hj)]
    rfl
  · rw [List.getElem?_eq_none (by simp; omega), List.getElem?_eq_none (by simp; omega)]
/-- A sequence for the style. -/
theorem run_style (s : Tm) (n : Int) (ns : List Int) (h : ∀ z ∈ n :: ns, 0 ≤ z ∧ z ≤ 999999) (hl : ns.length + 1 ≤ 16) : runT (s, .out) (seqB (n :: ns) 109) = ({ s with r := { clr s.r with f := aplF (n :: ns) s.r.f, g := aplG (n :: ns) s.r.g, b := aplB (n :: ns) s.r.b } }, .out) := by
  rw [run_seq s n ns 109 (by decide) h hl]
  have e : ((109 : UInt8).toNat : Int) = 109 := rfl
  rw [e]
  unfold obeyT
  rw [if_neg (by decide), if_neg (by decide), if_pos rfl, fromL_lst ns n hl]
  rfl
/-- A sequence for the cursor. -/
theorem run_move (s : Tm) (i j : Nat) (hi : i < s.H) (hj : j < s.W) (hW : s.W ≤ 400) (hH : s.H ≤ 400) : runT (s, .out) (seqB [(i : Int) + 1, (j : Int) + 1] 72) = ({ s with r := { clr s.r with x := j, y := i } }, .out) := by
  rw [run_seq s _ _ 72 (by decide) (fun z hz => by
    rcases List.mem_cons.1 hz with rfl | hz
    · omega
    · rw [List.mem_singleton] at hz; omega) (by simp)]
  have e : ((72 : UInt8).toNat : Int) = 72 := rfl
  rw [e]
  unfold obeyT
  rw [if_pos rfl]
  have l0 : fromL [(i : Int) + 1, (j : Int) + 1] 0 = (i : Int) + 1 := rfl
  have l1 : fromL [(i : Int) + 1, (j : Int) + 1] 1 = (j : Int) + 1 := rfl
  rw [l0, l1]
  have ex : min (max ((j : Int) + 1) 1) (s.W : Int) - 1 = (j : Int) := by omega
  have ey : min (max ((i : Int) + 1) 1) (s.H : Int) - 1 = (i : Int) := by omega
  show ((_ : Tm), St.out) = _
  rw [ex, ey]

end Go.Proofs.YtlfffpoeioecjaaDoor

namespace Go.Proofs.YtlfffpoeioecjaaDoor
open Go.ChangeShapes Go.WideShapes Go.RowKit
set_option linter.unusedVariables false

theorem dlaid_mem {P : Program} {w : World} : ∀ {l : List (String × DataW Unit)} {ps : List MemPlace}, DataW.LaidVars P w l ps → ∀ x ∈ l, ∃ g t cs fuel p, P.globalNamed x.1 = some g ∧ (P.globals[g]?).map (·.type) = some t ∧ w.var? P x.1 = some cs ∧ DataW.trod (fun _ => ()) P w 0 (fun _ => true) false fuel t cs.toList = some (x.2, p) ∧ ∀ y ∈ MemPlace.row ⟨g, 0, none⟩ cs.size ++ p, y ∈ ps
  | [], ps, _, x, hx => by cases hx
  | (n, d) :: r, ps, h, x, hx => by
    obtain ⟨g, t, cs, fuel, p, q, h1, h2, h3, h4, h5, rfl⟩ := h
    rcases List.mem_cons.1 hx with rfl | hx'
    · exact ⟨g, t, cs, fuel, p, h1, h2, h3, h4, fun y hy => List.mem_append.2 (.inl hy)⟩
    · obtain ⟨g', t', cs', fuel', p', a1, a2, a3, a4, a5⟩ := dlaid_mem h5 x hx'
      exact ⟨g', t', cs', fuel', p', a1, a2, a3, a4, fun y hy => List.mem_append.2 (.inr (a5 y hy))⟩
def dlaids : List (String × DataW Unit) := Rows.differShowsUptoRow.laid
def dlay (i : Nat) : String × DataW Unit := (dlaids[i]?).getD ("", .nil)
theorem dlay_in (i : Nat) (h : dlaids[i]? = some (dlay i)) : dlay i ∈ dlaids := List.mem_of_getElem? h
set_option maxRecDepth 100000 in
theorem tens_of {W : World} (h : laidMet Tryd.prog dlaids W) : TensAt W ∧ 3 < W.heap.size := by
  obtain ⟨ps, hl, hnd, hall⟩ := h
  obtain ⟨g, t, cs, fuel, p, a1, a2, a3, a4, a5⟩ := dlaid_mem hl (dlay 2) (dlay_in 2 (by kernel_rfl))
  have hg : Tryd.prog.globalNamed (dlay 2).1 = some 3 := by kernel_rfl
  have ht : (Tryd.prog.globals[3]?).map (·.type) = some 188 := by kernel_rfl
  obtain rfl := Option.some.inj (hg.symm.trans a1)
  obtain rfl := Option.some.inj (ht.symm.trans a2)
  have hd : (dlay 2).2 = .agg (Lib.pow10Tab.map fun z => .lit (.int .u64 z)) := by kernel_rfl
  rw [hd] at a4
  have key := Lib.cells_of_tab (P := Tryd.prog) Tryd.underlying188 Tryd.underlying126 (by kernel_rfl) (by kernel_rfl) a4
  have hv : W.var? Tryd.prog (dlay 2).1 = some (Lib.pow10Tab.map fun z => Value.int .u64 z).toArray := by
    rw [a3, ← key]
  refine ⟨⟨(dlay 2).1, hg, hv⟩, ?_⟩
  have c := World.var?_cell hg a3 0
  refine World.block_lt_of_cell? W ⟨3, 0, none⟩ (u := .int .u64 1) ?_
  rw [c, ← Array.getElem?_toList, key]
  rfl
set_option maxRecDepth 100000 in
theorem dtab_of {W : World} (h : laidMet Tryd.prog dlaids W) : TabAt W := by
  obtain ⟨ps, hl, hnd, hall⟩ := h
  obtain ⟨g', t', cs, fuel, p, hg', ht', hvar, hd, _⟩ := dlaid_mem hl (dlay 3) (dlay_in 3 (by kernel_rfl))
  have gSpans : Tryd.prog.globalNamed (dlay 3).1 = some 2 := by kernel_rfl
  obtain rfl := Option.some.inj (gSpans.symm.trans hg')
  obtain rfl := Option.some.inj (gSpansType.symm.trans ht')
  have hd' : DataW.trod (fun _ => ()) Tryd.prog W 0 (fun _ => true) false fuel 176 cs.toList = some ((Rows.laid_pane_glyph_spans : DataW Unit), p) := hd
  clear hd
  have hd := hd'
  rw [laid_eq] at hd
  obtain ⟨xs, n, _, hx, _, hl, hf⟩ := DataW.trod_array Tryd.underlying176 hd
  have hx' : xs.map (·.1) = spansL.map fun s => (.agg [.lit (.int .i64 s.1), .lit (.int .i64 s.2.1), .lit (.int .i64 s.2.2)] : DataW Unit) := by
    have := congrArg Prod.fst hx
    simp only [DataW.agg.injEq] at this
    exact this.symm
  intro i hi
  have f := hf i hi
  rw [cellsSpan] at f
  have hs : spansL[i]? = some (spanAt i) := by
    unfold spanAt
    have : i < spansL.length := hi
    rw [List.getD_eq_getElem?_getD, List.getElem?_eq_getElem this]; rfl
  have e : (xs.map (·.1))[i]? = some (.agg [.lit (.int .i64 (spanAt i).1), .lit (.int .i64 (spanAt i).2.1), .lit (.int .i64 (spanAt i).2.2)] : DataW Unit) := by
    rw [hx', List.getElem?_map, hs]; rfl
  rw [List.getElem?_map] at e
  obtain ⟨y, hy, ey⟩ := Option.map_eq_some_iff.1 e
  rw [hy] at f
  obtain ⟨d, pl⟩ := y
  simp only at ey
  subst ey
  obtain ⟨k0, k1, k2⟩ := span_cells f
  have at' : ∀ k v, k < 3 → ((cs.toList.drop (i * 3)).take 3)[k]? = some v → cs[i * 3 + k]? = some v := by
    intro k v hk hv
    rw [List.getElem?_take, if_pos hk, List.getElem?_drop, Array.getElem?_toList] at hv
    exact hv
  have c := fun k => World.var?_cell gSpans hvar k
  exact ⟨(c (i * 3)).trans (at' 0 _ (by omega) k0), (c (i * 3 + 1)).trans (at' 1 _ (by omega) k1), (c (i * 3 + 2)).trans (at' 2 _ (by omega) k2)⟩

end Go.Proofs.YtlfffpoeioecjaaDoor
