/-
  TreeGrown, walked.
-/
import Derived.Test.YtkcddikpjblpaadGreatDoorTGm
import Derived.Test.YtkcddikpjblpaadGreatDoorTPar
import Derived.Test.YtkcddikpjblpaadGreatDoorTRp
import Derived.Test.YtkcddikpjblpaadGreatDoorRows
import Derived.Test.YtkcddikpjblpaadGreatDoorTErn
import Derived.LaidLaws
import Derived.LaidSub
import Derived.LaidHandle
import Derived.Lib.LaidTab
import Derived.Test.YtkcddikpjblpaadGreatDoorCards
import Derived.Test.YtkcddikpjblpaadGreatDoorTie
import Derived.WalkKit
import Derived.ShutString
import Derived.ProofKit
import Derived.OpenShut
import Derived.ChangeOld
import Derived.Below
import Derived.Lay
import Derived.Deep.DeepHandedRow
namespace Go.Proofs.YtkcddikpjblpaadGreatDoor
open Go.RowKit
set_option linter.unusedVariables false

theorem num_any (n : Int) (w : World) : Calls Tryz.prog 10 #[.int .i64 n] w fun e w' => e = .returned (.int .i64 n) ∧ w' = w := by
  go_enter Tryz.func10, Tryz.ntmps10
  go_wp2
  go_ret
  exact ⟨rfl, rfl⟩
theorem pTree_good {s : ByteArray} {L : List Nd} (h : pTree s = .ok L) : L.length ≤ 4000 ∧ ∀ j, (nth L j).kids.length ≤ 4000 := by
  unfold pTree at h
  split at h
  · cases h
  · rename_i hl
    cases hp : pNodeF s (s.size + 1) (-1) 0 ⟨0, [], none⟩ with
    | error b => rw [hp] at h; cases h
    | ok st =>
      rw [hp] at h
      have hf := (node_fwd (s := s) _ _ _ _ _ (by show (-1 : Int) < 0; decide) ⟨Nat.zero_le _, Nat.le_refl _, fun j => Nat.zero_le _⟩ hp).1.good
      have e : st.L = L := by
        unfold pRoot pLast at h
        dsimp only at h
        split at h
        · cases h
        · split at h
          · cases h
          · injection h
      have h1 := hf.il
      have h2 := hf.ll
      rw [e] at h2
      refine ⟨by omega, fun j => ?_⟩
      have h3 := hf.kl j
      rw [e] at h3
      omega
theorem parse_of_ok {s : ByteArray} {L : List Nd} (h : pTree s = .ok L) : parse s = .ok L := by rw [← tree_eq, h]; rfl
theorem parse_of_err {s : ByteArray} {x : Option (Nat × Nat)} (h : pTree s = .error x) : parse s = .error (errC x, errP x) := by
  rw [← tree_eq, h]
  cases x with
  | none => rfl
  | some q => rfl
theorem err_pos {s : ByteArray} {x : Option (Nat × Nat)} (h : pTree s = .error x) : 1 ≤ errC x := by
  cases x with
  | none => exact Nat.le_refl _
  | some q => obtain ⟨c, p⟩ := q; have := (pTree_code h).1; show 1 ≤ c; omega
theorem kS_le {L : List Nd} {a : Nat} : ∀ b, a ≤ b → kS L a ≤ kS L b
  | 0, h => by obtain rfl : a = 0 := by omega
               exact Nat.le_refl _
  | b + 1, h => by
    by_cases e : a = b + 1
    · subst e; exact Nat.le_refl _
    · have := kS_le (L := L) (a := a) b (by omega)
      show kS L a ≤ kS L b + (nth L b).kids.length
      omega

set_option maxRecDepth 100000 in
set_option maxHeartbeats 8000000 in
theorem grown_walk (s : ByteArray) (E : Nat → Addr) (w : World) (hG : Glo w E) (hA : Apart w E) (hT : ErT w) :
    Calls Tryz.prog 6 #[.string s] w fun e w' => e = .returned (.bool true) ∧ Below w.heap.size w w' := by
  have hmix : Tryz.prog.follows .mixedOrders = true := by kernel_rfl
  have TP : Hid (Calls Tryz.prog 7 #[.string s] w fun e w' => TpOut w w' e (pTree s)) := tparse_any s E w hG hA hT
  clear hG hA hT
  cases hp : pTree s with
  | error x =>
    have HQ : Hid (parse s = .error (errC x, errP x)) := parse_of_err hp
    have hc := err_pos hp
    rw [hp] at TP
    obtain ⟨cc, hcc⟩ : ∃ q, errC x = q := ⟨_, rfl⟩
    obtain ⟨pp, hpp⟩ : ∃ q, errP x = q := ⟨_, rfl⟩
    have TP2 : Hid (Calls Tryz.prog 7 #[.string s] w fun e w' => Below w.heap.size w w' ∧ e = .returned (.tuple #[.slice none 0 0, .int .i64 (cc : Int), .int .i64 (pp : Int)])) := TP.out.mono fun e w' h => ⟨h.1, by have := h.2; rw [← hcc, ← hpp]; exact this⟩
    rw [hcc] at hc
    rw [hcc, hpp] at HQ
    have hne : ((cc : Int) != 0) = true := by simp; omega
    clear hp hcc hpp TP
    go_enter Tryz.func6, Tryz.ntmps6
    go_wp2_with fail
    refine TP2.out.mono ?_
    rintro e w1 ⟨b1, rfl⟩
    have RP : Hid (Calls Tryz.prog 8 #[.string s] w1 fun e w' => Below w1.heap.size w1 w' ∧ e = .returned (.tuple #[.slice none 0 0, .int .i64 (cc : Int), .int .i64 (pp : Int)])) := (rparse_any s w1).mono fun e w' h => by rw [HQ.out] at h; exact h
    have HB1 : Hid (Below w.heap.size w w1) := b1
    clear b1 TP2
    go_wp2_with fail
    refine RP.out.mono ?_
    rintro e w2 ⟨b2, rfl⟩
    have HB2 : Hid (Below w.heap.size w w2) := HB1.out.trans (b2.mono HB1.out.size)
    clear b2 RP HB1
    go_wp2_with fail
    refine (num_any _ _).mono ?_
    rintro e w3 ⟨rfl, hw⟩
    obtain rfl := hw.symm
    go_wp2
    go_ret
    exact ⟨rfl, HB2.out⟩
  | ok L =>
    have HQ : Hid (parse s = .ok L) := parse_of_ok hp
    obtain ⟨hgr, hpos⟩ := parse_grown HQ.out
    have hgood := pTree_good hp
    have HGR : Hid (Gr1 L) := hgr
    have HKL : Hid (∀ j, (nth L j).kids.length ≤ 4000) := hgood.2
    have h4 := hgood.1
    rw [hp] at TP
    clear hp hgr hgood
    go_enter Tryz.func6, Tryz.ntmps6
    go_wp2_with fail
    refine TP.out.mono ?_
    rintro e w1 ⟨b1, nv, KV, rfl, hn⟩
    obtain ⟨g, cap, rfl, _⟩ := hn.nr.form hpos
    have RP : Hid (Calls Tryz.prog 8 #[.string s] w1 fun e w' => Below w1.heap.size w1 w' ∧ ∃ v, e = .returned (.tuple #[v, .int .i64 0, .int .i64 0])) := (rparse_any s w1).mono fun e w' h => by
      rw [HQ.out] at h
      obtain ⟨q1, v, _, _, q2, _⟩ := h
      exact ⟨q1, v, q2⟩
    have HB1 : Hid (Below w.heap.size w w1) := b1
    have HN1 : Hid (PN w1 w.heap.size (.slice (some ⟨g, 0, none⟩) L.length cap) L KV) := hn
    clear b1 hn TP
    go_wp2_with fail
    refine RP.out.mono ?_
    rintro e w2 ⟨b2, rv, rfl⟩
    have HB2 : Hid (Below w.heap.size w w2) := HB1.out.trans (b2.mono HB1.out.size)
    have HN : Hid (PN w2 w.heap.size (.slice (some ⟨g, 0, none⟩) L.length cap) L KV) := HN1.out.up (Up.below b2)
    clear b2 RP HB1 HN1 HQ
    go_wp2_with fail
    refine (num_any _ _).mono ?_
    rintro e w3 ⟨rfl, hw⟩
    obtain rfl := hw.symm
    go_wp2
    go_loopw [9, 10] (fun sn i wr => ∃ j : Nat, j ≤ L.length ∧ i = .int .i64 (j : Int) ∧ sn = .int .i64 ((1 + kS L j : Nat) : Int) ∧ wr = w2) (fun _ i _ => L.length - (intOf i).toNat)
    case atStart => exact ⟨0, Nat.zero_le _, rfl, rfl, rfl⟩
    case round =>
      obtain ⟨j, hj, rfl, rfl, rfl⟩ := hrel
      by_cases hlt : j < L.length
      · have hlt' : (j : Int) < (L.length : Int) := by omega
        have cu := HN.out.nr.cell hlt (pn_up (HN.out.len j hlt))
        have ck := HN.out.nr.cell hlt (pn_kids (HN.out.len j hlt))
        obtain ⟨kp, kc, hkv⟩ : ∃ p c, KV j = .slice p (nth L j).kids.length c := own_slice (HN.out.nr.kids j hlt)
        have HKR : Hid (wr.ownsRow w.heap.size 3 1 (.slice kp (nth L j).kids.length kc) (nth L j).kids.length (kInts (nth L j).kids)) := by have := HN.out.nr.kids j hlt; rw [hkv] at this; exact this
        rw [hkv] at ck
        have HU0 : Hid ((nth L j).up < 0 ↔ j = 0) := HGR.out.up0 j hlt
        have hul := HGR.out.upl j hlt
        have hkl := HKL.out j
        obtain ⟨x, hx⟩ : ∃ x, (nth L j).up = x := ⟨_, rfl⟩
        obtain ⟨K, hK⟩ : ∃ K, (nth L j).kids = K := ⟨_, rfl⟩
        rw [hx] at cu HU0 hul
        rw [hK] at ck HKR hkl
        have HK : Hid ((nth L j).kids = K) := hK
        obtain ⟨b, hb⟩ : ∃ b, decide (x < 0) = b := ⟨_, rfl⟩
        have hb2 : ((j : Int) == 0) = b := by
          rw [← hb]
          by_cases e : j = 0
          · rw [decide_eq_true (HU0.out.2 e), e]; rfl
          · rw [decide_eq_false (fun q => e (HU0.out.1 q))]; simp; omega
        have hge : decide ((j : Int) ≤ x) = false := decide_eq_false (by omega)
        have HKS : Hid (kS L (j + 1) = kS L j + K.length) := by show kS L j + (nth L j).kids.length = _; rw [hK]
        have hks : kS L j + K.length + 1 ≤ L.length := by
          have h1 := kS_le (L := L) (a := j + 1) L.length (by omega)
          have h2 := HGR.out.cnt hpos
          rw [HKS.out] at h1
          omega
        clear hx hK hkv HU0
        go_wp2
        go_loopw [9, 11, 12] (fun sn la kk wz => ∃ k lv : Nat, k ≤ K.length ∧ kk = .int .i64 (k : Int) ∧ sn = .int .i64 ((1 + kS L j + k : Nat) : Int) ∧ la = .int .i64 (lv : Int) ∧ Hid ((k = 0 → lv = j) ∧ ∀ k', k = k' + 1 → K[k']? = some lv) ∧ wz = wr) (fun _ _ kk _ => K.length - (intOf kk).toNat)
        case atStart => exact ⟨0, j, Nat.zero_le _, rfl, rfl, rfl, ⟨fun _ => rfl, fun k' e => by omega⟩, rfl⟩
        case round =>
          obtain ⟨k, lv, hk, rfl, rfl, rfl, HLV, rfl⟩ := hrel
          by_cases hkt : k < K.length
          · have hkt' : (k : Int) < (K.length : Int) := by omega
            obtain ⟨c, hc⟩ : ∃ c, K[k]? = some c := ⟨_, List.getElem?_eq_getElem hkt⟩
            obtain ⟨kg, kcap, hkp, _⟩ : ∃ g' cap', Value.slice kp K.length kc = .slice (some ⟨g', 0, none⟩) K.length cap' ∧ True := by
              rcases own_form HKR.out with ⟨_, h0⟩ | ⟨g', cap', e, _⟩
              · omega
              · exact ⟨g', cap', e, trivial⟩
            simp only [Value.slice.injEq, true_and] at hkp
            obtain ⟨rfl, rfl⟩ := hkp
            have cc := HKR.out.cellAt k (by omega)
            have cc2 : (kInts K)[k]? = some (.int .i64 (c : Int)) := by
              unfold kInts
              rw [List.getElem?_map, hc]; rfl
            rw [cc2] at cc
            clear cc2
            have hkid := HGR.out.kid j k c hlt (by rw [HK.out]; exact hc)
            obtain ⟨hjc, hcl, hcu⟩ := hkid
            have cu2 := HN.out.nr.cell hcl (pn_up (HN.out.len c hcl))
            rw [hcu] at cu2
            have hcl' : (c : Int) < (L.length : Int) := by omega
            have hlc : lv < c := by
              by_cases e : k = 0
              · rw [HLV.out.1 e]; exact hjc
              · exact HGR.out.rise j (k - 1) lv c hlt (by rw [HK.out]; exact HLV.out.2 (k - 1) (by omega)) (by rw [HK.out, show k - 1 + 1 = k by omega]; exact hc)
            have hd1 : decide ((c : Int) ≤ (lv : Int)) = false := decide_eq_false (by omega)
            have hd2 : decide ((L.length : Int) ≤ (c : Int)) = false := decide_eq_false (by omega)
            have HF : Hid (k = 0 → c = j + 1) := fun e => HGR.out.first j c hlt (by rw [HK.out]; rw [e] at hc; exact hc)
            have HLV2 : Hid ((k + 1 = 0 → c = j) ∧ ∀ k', k + 1 = k' + 1 → K[k']? = some c) := ⟨fun e => by omega, fun k' e => (show k = k' by omega) ▸ hc⟩
            clear hc hcu HLV
            by_cases hk0 : k = 0
            · have e3 : ((k : Int) == 0) = true := by rw [hk0]; rfl
              have e4 : ((c : Int) != (j : Int) + 1) = false := by rw [HF.out hk0]; simp
              clear hk0
              go_wp2
              go_roundw
              case rel => exact ⟨k + 1, c, by omega, by go_num, by go_num, rfl, HLV2.out, by first | rfl | trivial⟩
              case measure => simp [intOf]; omega
            · have e3 : ((k : Int) == 0) = false := by simp; omega
              go_wp2
              go_roundw
              case rel => exact ⟨k + 1, c, by omega, by go_num, by go_num, rfl, HLV2.out, by first | rfl | trivial⟩
              case measure => simp [intOf]; omega
          · have hkt' : ¬ (k : Int) < (K.length : Int) := by omega
            obtain rfl : k = K.length := by omega
            go_wp2
            go_roundw
            case rel => exact ⟨j + 1, by omega, by go_num, by rw [HKS.out]; go_num, by first | rfl | trivial⟩
            case measure => simp [intOf]; omega
      · have hlt' : ¬ (j : Int) < (L.length : Int) := by omega
        obtain rfl : j = L.length := by omega
        have e5 : ((1 : Int) + (kS L L.length : Int) == (L.length : Int)) = true := by
          have := HGR.out.cnt hpos
          simp; omega
        have e6 : (0 : Int) < (L.length : Int) := by omega
        go_wp2
        go_ret
        refine ⟨?_, HB2.out⟩
        first | rfl | (show Ending.returned (.bool ((1 : Int) + (kS L L.length : Int) == (L.length : Int))) = _; rw [e5])

end Go.Proofs.YtkcddikpjblpaadGreatDoor

namespace Go.Proofs.YtkcddikpjblpaadGreatDoor
open Go.ChangeShapes Go.WideShapes Go.RowKit
set_option linter.unusedVariables false

def laids : List (String × DataW Unit) := Rows.treeGrownRow.laid
def lay (i : Nat) : String × DataW Unit := (laids[i]?).getD ("", .nil)

theorem laid_mem {P : Program} {w : World} : ∀ {l : List (String × DataW Unit)} {ps : List MemPlace}, DataW.LaidVars P w l ps → ∀ x ∈ l, ∃ g t cs fuel p, P.globalNamed x.1 = some g ∧ (P.globals[g]?).map (·.type) = some t ∧ w.var? P x.1 = some cs ∧ DataW.trod (fun _ => ()) P w 0 (fun _ => true) false fuel t cs.toList = some (x.2, p) ∧ ∀ y ∈ MemPlace.row ⟨g, 0, none⟩ cs.size ++ p, y ∈ ps
  | [], ps, _, x, hx => by cases hx
  | (n, d) :: r, ps, h, x, hx => by
    obtain ⟨g, t, cs, fuel, p, q, h1, h2, h3, h4, h5, rfl⟩ := h
    rcases List.mem_cons.1 hx with rfl | hx'
    · exact ⟨g, t, cs, fuel, p, h1, h2, h3, h4, fun y hy => List.mem_append.2 (.inl hy)⟩
    · obtain ⟨g', t', cs', fuel', p', a1, a2, a3, a4, a5⟩ := laid_mem h5 x hx'
      exact ⟨g', t', cs', fuel', p', a1, a2, a3, a4, fun y hy => List.mem_append.2 (.inr (a5 y hy))⟩

/-- The name of the errors' type, as the rows have it. -/
def esName : String := match (lay 7).2 with
  | .iface n _ => n
  | _ => ""
theorem esType (u : TypeId) (h : Tryz.prog.typeName? 3 u = some esName) : u = 242 :=
  typeName_ptr_named (P := Tryz.prog) (nm := "errors.errorString") (by kernel_rfl) (by kernel_rfl) (by decide) u (h.trans (by kernel_rfl))

set_option maxRecDepth 100000 in
/-- One of the errors. -/
theorem err_at {W : World} {l : List (String × DataW Unit)} (h : laidMet Tryz.prog l W) (x : String × DataW Unit) (hx : x ∈ l) (g : Nat) (text : List UInt8) (hg : Tryz.prog.globalNamed x.1 = some g) (ht : (Tryz.prog.globals[g]?).map (·.type) = some 42)
    (hd : x.2 = .iface esName (.ptr (.agg [.lit (.string text)]))) :
    ∃ a s, W.cell? ⟨g, 0, none⟩ = some (errV a) ∧ W.cell? a = some (.string s) ∧ s.data.toList = text ∧ ∃ c t, W.heap[a.block]? = some (.cells c t (0, 0)) := by
  obtain ⟨ps, hl, hnd, hall⟩ := h
  obtain ⟨g', t, cs, fuel, p, a1, a2, a3, a4, a5⟩ := laid_mem hl x hx
  obtain rfl := Option.some.inj (hg.symm.trans a1)
  obtain rfl := Option.some.inj (ht.symm.trans a2)
  rw [hd] at a4
  obtain ⟨a, s, hcs, hc, hs, _, hp⟩ := errorString_of_trod (P := Tryz.prog) (tp := 242) (te := 244) (ts := 9) Tryz.underlying42 esType Tryz.underlying242 Tryz.underlying244 rfl rfl Tryz.underlying9 (by kernel_rfl) (by kernel_rfl) a4
    (fun u v e => by
      have hsz : cs.size = 1 := by have := congrArg List.length e; simpa using this
      have hcell := World.var?_cell hg a3 0
      have e0 : cs[0]? = some (.iface u v) := by rw [← Array.getElem?_toList, e]; rfl
      exact (hall g 0 (a5 _ (List.mem_append.2 (.inl (by rw [hsz]; simp [MemPlace.row]))))).2 u v (by rw [hcell, e0]))
  refine ⟨a, s, ?_, hc, hs, ?_⟩
  · rw [World.var?_cell hg a3 0, ← Array.getElem?_toList, hcs]; rfl
  · exact (hall a.block a.off (a5 _ (List.mem_append.2 (.inr (by rw [hp]; simp [MemPlace.row]))))).1

/-- A row of texts. -/
theorem cells_of_strs {P : Program} {w : World} {fuel : Nat} {t e : TypeId} {n : Nat} {cs : List Value} {zs : List (List UInt8)} {p : List MemPlace}
    (ht : P.underlying t = some (.array n e)) (he : P.underlying e = some .string) (hce : P.cellsOf e = 1) (hct : P.cellsOf t = n)
    (h : DataW.trod (fun _ => ()) P w 0 (fun _ => true) false fuel t cs = some (.agg (zs.map fun z => .lit (.string z)), p)) : ∀ (i : Nat) z, zs[i]? = some z → cs[i]? = some (.string ⟨z.toArray⟩) := by
  cases fuel with
  | zero => simp [DataW.trod] at h
  | succ fuel =>
    simp only [DataW.trod, ht, hce, hct, Nat.mul_one] at h
    split at h
    · rename_i hl
      obtain ⟨xs, hm, hx⟩ := Option.map_eq_some_iff.1 h
      have hxs : xs.map (·.1) = zs.map fun z => (DataW.lit (.string z) : DataW Unit) := by
        have := congrArg Prod.fst hx
        simpa using this
      have hxl : xs.length = n := by simpa using Lib.mapM_length hm
      have hzl : zs.length = n := by
        have := congrArg List.length hxs
        simp at this
        omega
      intro i z hz
      have hi : i < n := by have := (List.getElem?_eq_some_iff.1 hz).1; omega
      obtain ⟨b, hb, hf⟩ := Lib.mapM_at hm i i (by simp [hi])
      obtain ⟨s, hc, rfl, _⟩ := DataW.trod_string he hf
      have h1 : cs[i]? = some (.string s) := by
        have := congrArg (·[0]?) hc
        simpa [List.getElem?_take, List.getElem?_drop] using this
      have h2 : (xs.map (·.1))[i]? = some (DataW.lit (.string s.data.toList) : DataW Unit) := by simp [hb]
      rw [hxs, List.getElem?_map, hz] at h2
      have h3 : z = s.data.toList := by
        simp only [Option.map_some, Option.some.injEq, DataW.lit.injEq, Lit.string.injEq] at h2
        exact h2
      rw [h1, h3]
    · cases h

/-- The texts of the seven. -/
def txOf : DataW Unit → List UInt8
  | .iface _ (.ptr (.agg [.lit (.string z)])) => z
  | _ => []
def tx (c : Nat) : List UInt8 := txOf (lay (c + 6)).2
theorem tx_inj (c d : Nat) (h1 : 1 ≤ c) (h2 : c ≤ 7) (h3 : 1 ≤ d) (h4 : d ≤ 7) (h : c ≠ d) : tx c ≠ tx d := by
  have key : ((List.range 8).all fun c => (List.range 8).all fun d => c == d || c == 0 || d == 0 || tx c != tx d) = true := by kernel_rfl
  have k1 := List.all_eq_true.1 (List.all_eq_true.1 key c (List.mem_range.2 (by omega))) d (List.mem_range.2 (by omega))
  intro he
  rw [he] at k1
  simp at k1
  omega
theorem lt_of_cell {W : World} {g : Nat} (h : W.cell? ⟨g, 0, none⟩ ≠ none) : g < W.heap.size := by
  by_cases e : g < W.heap.size
  · exact e
  · exact absurd (by simp [World.cell?, Array.getElem?_eq_none (Nat.le_of_not_lt e)]) h

theorem lay_in (i : Nat) (h : laids[i]? = some (lay i)) (hn : ((lay i).2.handleName?).isNone = true) : lay i ∈ laids.filter fun x => x.2.handleName?.isNone := List.mem_filter.2 ⟨List.mem_of_getElem? h, hn⟩

theorem kn_of_laid {W : World} (h : laidMet Tryz.prog (laids.filter fun x => x.2.handleName?.isNone) W) : Kn W := by
  obtain ⟨ps, hl, hnd, hall⟩ := h
  obtain ⟨g, t, cs, fuel, p, a1, a2, a3, a4, a5⟩ := laid_mem hl (lay 6) (lay_in 6 (by kernel_rfl) (by kernel_rfl))
  have hg : Tryz.prog.globalNamed (lay 6).1 = some 6 := by kernel_rfl
  have ht : (Tryz.prog.globals[6]?).map (·.type) = some 87 := by kernel_rfl
  obtain rfl := Option.some.inj (hg.symm.trans a1)
  obtain rfl := Option.some.inj (ht.symm.trans a2)
  have hd : (lay 6).2 = .agg ((kindsL.map fun b => b.data.toList).map fun z => .lit (.string z)) := by kernel_rfl
  rw [hd] at a4
  have key := cells_of_strs (P := Tryz.prog) Tryz.underlying87 Tryz.underlying9 (by kernel_rfl) (by kernel_rfl) a4
  have hkl : kindsL.length = 7 := by decide
  intro j hj
  have hk : kindsL[j]? = some (kindsL[j]'(by omega)) := List.getElem?_eq_getElem _
  rw [World.var?_cell hg a3 j, ← Array.getElem?_toList, key j ((kindsL[j]'(by omega)).data.toList) (by rw [List.getElem?_map, hk]; rfl), hk]
  rfl

theorem ert_of_laid {W : World} (h : handlesMet Tryz.prog (laids.filter fun x => x.2.handleName?.isSome) W) : ErT W := by
  have hm : lay 3 ∈ laids.filter fun x => x.2.handleName?.isSome := List.mem_filter.2 ⟨List.mem_of_getElem? (by kernel_rfl : laids[3]? = some (lay 3)), by kernel_rfl⟩
  have h3 := h (lay 3) hm
  have hf : (lay 3).2.funcsIn? = none := by kernel_rfl
  rw [hf] at h3
  obtain ⟨name, u, ty, e1, e2, e3, e4, e5⟩ := h3
  have en : name = [101, 114, 114, 111, 114] := Option.some.inj (e1.symm.trans (by kernel_rfl : (lay 3).2.handleName? = some [101, 114, 114, 111, 114]))
  subst en
  obtain rfl : 127 = u := Option.some.inj (Eq.trans (by kernel_rfl) e2)
  have hone : ((List.range Tryz.prog.types.size).filter fun t => Tryz.prog.rowNamed t [101, 114, 114, 111, 114]) = [42] := by kernel_rfl
  have hmem : ty ∈ (List.range Tryz.prog.types.size).filter fun t => Tryz.prog.rowNamed t [101, 114, 114, 111, 114] := List.mem_filter.2 ⟨List.mem_range.2 e3, e4⟩
  rw [hone] at hmem
  obtain rfl := List.mem_singleton.1 hmem
  have hh : typeHandle Tryz.prog 42 = .pointer (some ⟨15, 42, none⟩) := by kernel_rfl
  rw [hh] at e5
  have hg : Tryz.prog.globalNamed (lay 3).1 = some 7 := by kernel_rfl
  have hc := World.var?_cell hg e5 0
  refine ⟨?_, by rw [hc]; rfl⟩
  have : W.cell? ⟨7, 0, none⟩ ≠ none := by rw [hc]; simp
  exact lt_of_cell this

theorem glo_of_laid {W : World} (h : laidMetH Tryz.prog laids W) : ∃ E, Glo W E ∧ Apart W E ∧ ErT W := by
  obtain ⟨hd, hh⟩ := laidMetH_iff.1 h
  obtain ⟨a1, s1, g1, t1, x1, b1⟩ := err_at hd (lay 7) (lay_in 7 (by kernel_rfl) (by kernel_rfl)) 0 _ (by kernel_rfl) (by kernel_rfl) (by rfl)
  obtain ⟨a2, s2, g2, t2, x2, b2⟩ := err_at hd (lay 8) (lay_in 8 (by kernel_rfl) (by kernel_rfl)) 8 _ (by kernel_rfl) (by kernel_rfl) (by rfl)
  obtain ⟨a3, s3, g3, t3, x3, b3⟩ := err_at hd (lay 9) (lay_in 9 (by kernel_rfl) (by kernel_rfl)) 1 _ (by kernel_rfl) (by kernel_rfl) (by rfl)
  obtain ⟨a4, s4, g4, t4, x4, b4⟩ := err_at hd (lay 10) (lay_in 10 (by kernel_rfl) (by kernel_rfl)) 2 _ (by kernel_rfl) (by kernel_rfl) (by rfl)
  obtain ⟨a5, s5, g5, t5, x5, b5⟩ := err_at hd (lay 11) (lay_in 11 (by kernel_rfl) (by kernel_rfl)) 3 _ (by kernel_rfl) (by kernel_rfl) (by rfl)
  obtain ⟨a6, s6, g6, t6, x6, b6⟩ := err_at hd (lay 12) (lay_in 12 (by kernel_rfl) (by kernel_rfl)) 4 _ (by kernel_rfl) (by kernel_rfl) (by rfl)
  obtain ⟨a7, s7, g7, t7, x7, b7⟩ := err_at hd (lay 13) (lay_in 13 (by kernel_rfl) (by kernel_rfl)) 5 _ (by kernel_rfl) (by kernel_rfl) (by rfl)
  obtain ⟨a8, s8, g8, _⟩ := err_at hd (lay 5) (lay_in 5 (by kernel_rfl) (by kernel_rfl)) 11 _ (by kernel_rfl) (by kernel_rfl) (by rfl)
  have hsz : 11 < W.heap.size := lt_of_cell (by rw [g8]; simp)
  have hne : ∀ (a b : Addr) (s t : ByteArray), W.cell? a = some (.string s) → W.cell? b = some (.string t) → s.data.toList ≠ t.data.toList → a ≠ b := fun a b s t h1 h2 h3 e => by
    subst e
    rw [h1] at h2
    injection h2 with h2
    injection h2 with h2
    exact h3 (by rw [h2])
  let E : Nat → Addr := fun c => match c with
    | 1 => a1
    | 2 => a2
    | 3 => a3
    | 4 => a4
    | 5 => a5
    | 6 => a6
    | _ => a7
  refine ⟨E, ⟨hsz, kn_of_laid hd, g1, g2, g3, g4, g5, g6, g7⟩, ⟨fun c h1 h2 => ?_, fun c d h1 h2 h3 h4 hcd => ?_⟩, ert_of_laid hh⟩
  · have : c = 1 ∨ c = 2 ∨ c = 3 ∨ c = 4 ∨ c = 5 ∨ c = 6 ∨ c = 7 := by omega
    rcases this with rfl | rfl | rfl | rfl | rfl | rfl | rfl
    · exact b1
    · exact b2
    · exact b3
    · exact b4
    · exact b5
    · exact b6
    · exact b7
  · have hS : ∀ c, 1 ≤ c → c ≤ 7 → ∃ s, W.cell? (E c) = some (.string s) ∧ s.data.toList = tx c := fun c h1 h2 => by
      have : c = 1 ∨ c = 2 ∨ c = 3 ∨ c = 4 ∨ c = 5 ∨ c = 6 ∨ c = 7 := by omega
      rcases this with rfl | rfl | rfl | rfl | rfl | rfl | rfl
      · exact ⟨s1, t1, x1⟩
      · exact ⟨s2, t2, x2⟩
      · exact ⟨s3, t3, x3⟩
      · exact ⟨s4, t4, x4⟩
      · exact ⟨s5, t5, x5⟩
      · exact ⟨s6, t6, x6⟩
      · exact ⟨s7, t7, x7⟩
    obtain ⟨s, u1, u2⟩ := hS c h1 h2
    obtain ⟨t, v1, v2⟩ := hS d h3 h4
    exact hne _ _ s t u1 v1 (by rw [u2, v2]; exact tx_inj c d h1 h2 h3 h4 hcd)

end Go.Proofs.YtkcddikpjblpaadGreatDoor

namespace Go.Proofs.YtkcddikpjblpaadGreatDoor.treeGrown
open Go.ChangeShapes Go.WideShapes Go.ChangeAt Go.RowKit
open Go.ChangeMaps (open_string shut_string)
set_option linter.unusedVariables false

theorem own : ownKnob Tryz.prog.godebug = none := by kernel_rfl
theorem laidOut : laidOutB Tryz.prog = true := by kernel_rfl

set_option maxRecDepth 100000 in
theorem contract (H : Type) (enc : TypeId × Value → H) (W : World) (base : Nat) (args : Array Value) (ds gs : List (DataW H)) (before : List MemPlace)
    (hval : ∀ (j : Nat) t v, Tryz.f6.params[j]? = some t → args[j]? = some v → Value.okWide Tryz.prog W .any base t v)
    (hW : DataW.Whole enc Tryz.prog Tryz.f6.params.toList Rows.treeGrownSpec.vars false W args.toList ds gs before) (hL : laidMetH Tryz.prog Rows.treeGrownRow.laid W) :
    Calls Tryz.prog 6 args W fun e W' => ∃ v, e = .returned v ∧ Rows.treeGrownSpec.post enc Tryz.prog Tryz.f6 false true false false W args v W' := by
  have hW' := hW
  obtain ⟨p, q, hA0, hV, rfl, hfz, hnd⟩ := hW
  have hA : DataW.TrodAll enc Tryz.prog W 0 (fun _ => true) true Tryz.f6.params.toList args.toList ds p := hA0
  rw [Tryz.params6] at hA hval
  obtain ⟨v0, vs0, d0, ds0, p0, q0, hargs, rfl, rfl, h0, r0⟩ := trodAll_cons hA
  obtain ⟨rfl, rfl, rfl⟩ := trodAll_nil r0
  obtain rfl : args = #[v0] := by cases args; simp_all
  obtain ⟨rfl, rfl⟩ := trodVars_none hV
  obtain ⟨s0, rfl, rfl, rfl, m0⟩ := open_string Tryz.underlying9 (hval 0 9 v0 rfl rfl) h0
  clear hA0
  simp only [List.append_nil] at hW'
  obtain ⟨E, hG, hAp, hT⟩ := glo_of_laid (W := W) hL
  refine (grown_walk s0 E W hG hAp hT).mono fun e W' ⟨he, bel⟩ => ?_
  subst he
  exact ⟨_, rfl, _, _, _, [], [], [], hW', trodAll_mk1 (shut_bool Tryz.underlying4 _), (trodAll_cons_mk (shut_string Tryz.underlying9 m0) trodAll_mk0), rfl, bel.frame _, fun h => by cases h⟩

/-- For the witness: a world whose variables hold what their initialisers lay. -/
def handled : Obj → Obj
  | .cells _ t frozen => .cells #[.iface 127 (.agg #[.pointer (some ⟨15, 42, none⟩)])] t frozen
  | o => o
def withHandle (w : World) : World := { w with heap := w.heap.modify 7 handled }
theorem laid_met (os : Os) : laidMetH Tryz.prog Rows.treeGrownRow.laid (((withHandle (World.holding Tryz.prog os ⟨#[], #[], []⟩)).layVars Tryz.prog (laids.filter fun x => x.2.handleName?.isNone)).forCall (fun _ _ => 0) ⟨#[], #[.string ⟨#[]⟩], []⟩).memory := by
  refine laidMetH_of_parts ?_ (by kernel_rfl)
  have hd : laidMet Tryz.prog (laids.filter fun x => x.2.handleName?.isNone) ((withHandle (World.holding Tryz.prog os ⟨#[], #[], []⟩)).layVars Tryz.prog (laids.filter fun x => x.2.handleName?.isNone)) := by
    have e1 : ((laids.filter fun x => x.2.handleName?.isNone).filter fun x => ((laids.filter fun x => x.2.handleName?.isNone).map (·.1)).contains x.1) = laids.filter fun x => x.2.handleName?.isNone := List.filter_eq_self.2 fun x hx => List.contains_iff_mem.2 (List.mem_map.2 ⟨x, hx, rfl⟩)
    have e2 : ((laids.filter fun x => x.2.handleName?.isNone).filter fun x => !((laids.filter fun x => x.2.handleName?.isNone).map (·.1)).contains x.1) = [] := List.filter_eq_nil_iff.2 fun x hx => by rw [List.contains_iff_mem.2 (List.mem_map.2 ⟨x, hx, rfl⟩)]; simp
    exact laidMet_layVars (w0 := withHandle (World.holding Tryz.prog os ⟨#[], #[], []⟩)) ((laids.filter fun x => x.2.handleName?.isNone).map (·.1)) [] (by rw [e1]) (by rw [e1]; kernel_rfl) (by rw [e1]; kernel_rfl) (by rw [e2]; exact LaidIn.none)
  exact hd.of_heap (by simp [World.memory, World.forCall, Input.heap])
theorem reads (os : Os) {H : Type} (enc : TypeId × Value → H) : ∃ places, DataW.whole enc Tryz.prog (((withHandle (World.holding Tryz.prog os ⟨#[], #[], []⟩)).layVars Tryz.prog (laids.filter fun x => x.2.handleName?.isNone)).forCall (fun _ _ => 0) ⟨#[], #[.string ⟨#[]⟩], []⟩).memory Tryz.f6.params.toList Rows.treeGrownSpec.vars false #[Value.string ⟨#[]⟩].toList 8 = some ([.lit (.string [])], [], places) :=
  ⟨[], by kernel_rfl⟩

set_option maxRecDepth 100000 in
theorem lifted (os : Os) (started : os.Started) (H : Type) (enc : TypeId × Value → H) (F : Stop.Interp) :
    ReturnsInHanded {} Tryz.checked os 6 .any ((OpenSpec.ofChange Rows.treeGrownSpec).preRow enc Tryz.prog Tryz.f6 Rows.treeGrownRow.domain false Rows.treeGrownRow.laid) (((OpenSpec.ofChange Rows.treeGrownSpec).at F).post enc Tryz.prog Tryz.f6 false true false false) := by
  obtain ⟨places, hx⟩ := reads os enc
  refine returnsInHanded_of_row (C := Tryz.checked) (s := OpenSpec.ofChange Rows.treeGrownSpec) own started (by kernel_rfl) Tryz.func6
    (witness_row_at (enc := enc) (C := Tryz.checked) false ((withHandle (World.holding Tryz.prog os ⟨#[], #[], []⟩)).layVars Tryz.prog (laids.filter fun x => x.2.handleName?.isNone)) #[.string ⟨#[]⟩] (World.layVars_os _ _ _) (by kernel_rfl) (by kernel_rfl) (by kernel_rfl)
      (OpenSpec.preRow_of_cond 8 hx (by kernel_rfl) (fun k hk => by cases hk) (by kernel_rfl) (laid_met os))) ?_
  intro W base args ds gs before hval hW _ _ _ hL _ _
  exact contract H enc W base args ds gs before hval hW hL

theorem said : Rows.TreeGrownSaid :=
  OpenClaim.holds_of_cond 6 Tryz.f6 rfl rfl rfl rfl rfl rfl rfl ⟨rfl, rfl, rfl, rfl, rfl⟩ rfl rfl rfl rfl rfl (by kernel_rfl) Tryz.func6 (by kernel_rfl)
    (of_decide_eq_true (by kernel_rfl)) (by unfold Func.isWrapper; first | (rw [if_pos (by decide +kernel)]; kernel_rfl) | (rw [if_neg (by decide +kernel)]; exact ⟨rfl, rfl⟩))
    (fun os started H enc _ F => by rw [OpenClaim.pre_eq_preRow]; exact lifted os started H enc F)

theorem plain (f : FuncId) (fn : Func) (hf : Tryz.pinned.checked.prog.funcNamed Rows.treeGrownRow.func = some f) (hfn : Tryz.pinned.checked.prog.funcs[f]? = some fn) :
    true = Tryz.pinned.checked.prog.looks [] ∧ ∀ (j : Nat) t, fn.params[j]? = some t → Tryz.pinned.checked.prog.wantsStandIn t = false := by
  obtain rfl : f = 6 := Option.some.inj ((show Tryz.prog.funcNamed Rows.treeGrownRow.func = some 6 by kernel_rfl).symm.trans hf) |>.symm
  obtain rfl : fn = Tryz.f6 := (Option.some.inj (Tryz.func6.symm.trans hfn)).symm
  refine ⟨by kernel_rfl, fun j t ht => ?_⟩
  rw [Tryz.params6] at ht
  obtain rfl : t = 9 := by have := Array.mem_of_getElem? ht; simpa using this
  exact (show Tryz.prog.wantsStandIn 9 = false by kernel_rfl)

theorem proved : Rows.TreeGrownCardSaid :=
  Claim7.holds_tied_plain_at .later [] _ _ _ _ said (fun _ h => by cases h) (by kernel_rfl) (fun _ h => by cases h) treeGrown_row_tie rfl ⟨rfl, rfl⟩ (by kernel_rfl) rfl plain (by kernel_rfl)
#print axioms proved
end Go.Proofs.YtkcddikpjblpaadGreatDoor.treeGrown
