/-
  style.sequence: ESC, the numbers with semicolons between them, m.
-/
import Derived.Test.YtkdajaphbmclkaaGreatDoorYChg
import Derived.Test.YtkdajaphbmclkaaGreatDoorYShelf
namespace Go.Proofs.YtkdajaphbmclkaaGreatDoor
open Go.RowKit Go.Sort
set_option linter.unusedVariables false

theorem str_app (a b : List UInt8) : (⟨a.toArray⟩ : ByteArray) ++ (⟨b.toArray⟩ : ByteArray) = ⟨(a ++ b).toArray⟩ := by
  apply ByteArray.ext
  simp
theorem dc_len {n : Int} (h : 0 ≤ n ∧ n < 100) : 1 ≤ (dc n).length ∧ (dc n).length ≤ 2 := by
  unfold dc
  by_cases h1 : n.toNat < 10
  · rw [Lib.decDigits, dif_pos h1]; simp
  · rw [Lib.decDigits, dif_neg h1, Lib.decDigits, dif_pos (by omega)]; simp
theorem tail_len (ns : List Int) (h : Small ns) : (Lib.joinTail [59] (ns.map dc)).length ≤ 3 * ns.length := by
  induction ns with
  | nil => simp [Lib.joinTail]
  | cons n r ih =>
    have h1 := dc_len (h n (List.mem_cons_self ..))
    have h2 := ih (fun m hm => h m (List.mem_cons_of_mem _ hm))
    unfold Lib.joinTail at *
    simp only [List.map_cons, List.flatten_cons, List.length_append, List.length_cons, List.length_nil] at *
    omega
theorem join_len (ns : List Int) (h : Small ns) : (Lib.join (ns.map dc) [59]).length ≤ 3 * ns.length := by
  cases ns with
  | nil => simp [Lib.join_nil]
  | cons n r =>
    have h1 := dc_len (h n (List.mem_cons_self ..))
    have h2 := tail_len r (fun m hm => h m (List.mem_cons_of_mem _ hm))
    rw [List.map_cons, Lib.join_cons, List.length_append, List.length_cons]
    omega
theorem infoS : (Tryz.prog.info? 9).map (fun i => (i.zero, i.size, i.bytes)) = some (some (.string ⟨#[]⟩), 1, 16) := by kernel_rfl
def wd (n : Int) : Value := .string ⟨(dc n).toArray⟩
theorem wd_cell (n : Int) (u : Value) (h : u ∈ [wd n]) : u.oneCell' = true := by simp at h; subst h; rfl
theorem map_back (ns : List Int) : (ns.map (fun n => (⟨(dc n).toArray⟩ : ByteArray))).map (fun x => x.data.toList) = ns.map dc := by
  rw [List.map_map]; rfl

set_option maxRecDepth 100000 in
set_option maxHeartbeats 4000000 in
theorem ysequence_any (ns : List Int) (B off cap : Nat) (w : World) (hp : 0 < ns.length) (hB : B < w.heap.size) (hc : ∀ j, j < ns.length → w.cell? ⟨B, off + j, none⟩ = some (.int .i64 (ns[j]?.getD 0))) (hs : Small ns) (hl : ns.length ≤ 100) :
    Calls Tryz.prog 73 #[.slice (some ⟨B, off, none⟩) ns.length cap] w fun e w' => e = .returned (.string ⟨(sq ns).toArray⟩) ∧ Below w.heap.size w w' := by
  have HC : Hid (∀ j, j < ns.length → w.cell? ⟨B, off + j, none⟩ = some (.int .i64 (ns[j]?.getD 0))) := hc
  have HS : Hid (Small ns) := hs
  have HB : Hid (B < w.heap.size) := hB
  obtain ⟨i0, hi, hz0, hz1, hz2⟩ := info_parts infoS
  clear hc hs hB
  go_enter Tryz.func73, Tryz.ntmps73
  go_wp2_with fail
  go_loopw [3, 8] (fun u i wr => ∃ k : Nat, k ≤ ns.length ∧ i = .int .i64 k ∧ Hid (wr.ownsRow w.heap.size 9 1 u k ((ns.take k).map wd) ∧ Below w.heap.size w wr)) (fun _ i _ => ns.length - (intOf i).toNat)
  case atStart => exact ⟨0, Nat.zero_le _, rfl, World.ownsRow_nil _ _ _ _, Below.refl _ _⟩
  case round =>
    obtain ⟨k, hk, rfl, HR⟩ := hrel
    by_cases hlt : k < ns.length
    · obtain ⟨n, hn⟩ : ∃ q, ns[k]?.getD 0 = q := ⟨_, rfl⟩
      have hnm : 0 ≤ n ∧ n < 100 := by
        rw [← hn, List.getElem?_eq_getElem hlt]; exact HS.out _ (List.getElem_mem hlt)
      obtain ⟨m, hm⟩ : ∃ m : Nat, (m : Int) = n := ⟨n.toNat, by omega⟩
      have hcx : wr.cell? ⟨B, off + k, none⟩ = some (.int .i64 m) := by rw [hm, ← hn]; exact (HR.out.2.cell (p := ⟨B, off + k, none⟩) HB.out).trans (HC.out k hlt)
      have bb : B < wr.heap.size := Nat.lt_of_lt_of_le HB.out HR.out.2.size
      have IT : Hid (∀ w, Calls Tryz.prog 55 #[.int .i64 m] w fun e w' => e = .returned (.string ⟨(dc n).toArray⟩) ∧ w' = w) := fun w => by have := itoa_lib m (by omega) w; unfold dc; rw [← hm, show ((m : Int).toNat) = m from rfl]; exact this
      have HT : Hid ((ns.take (k + 1)).map wd = (ns.take k).map wd ++ [wd n]) := by
        show _ = _
        rw [List.take_succ_eq_append_getElem hlt, List.map_append, ← hn, List.getElem?_eq_getElem hlt]; rfl
      clear hn hm hnm
      have hlt' : (k : Int) < (ns.length : Int) := by omega
      have hown := HR.out.1
      go_wp2_with (first | (go_at_call 55; refine Calls.mono (IT.out _) ?_; rintro e w' ⟨rfl, rfl⟩) | (at_builtin; refine wpList_append_own _ rfl _ _ 145 rfl w.heap.size 9 i0 (.string ⟨#[]⟩) 1 16 Tryz.underlying145 hi hz0 hz1 hz2 rfl (by decide) _ _ _ rfl (hown.alloc _) _ 1 1 [wd n] rfl rfl (one_new _ _ _) (wd_cell _) (by unfold maxLen; omega) (by omega) (by rw [World.size_alloc]; have := HR.out.2.size; omega) ?_))
      intro v' w1 ho hg _
      have hb1 : Hid (Below w.heap.size w w1) := (HR.out.2.alloc (by have := HR.out.2.size; omega) _).grown hg (by rw [World.size_alloc]; have := HR.out.2.size; omega) (fun q hq => by have := (hown.lt q hq).1; omega)
      have HO : Hid (w1.ownsRow w.heap.size 9 1 v' (k + 1) ((ns.take (k + 1)).map wd)) := by rw [HT.out]; first | exact ho | (rw [List.map_take]; exact ho)
      clear ho hg hown
      go_wp2
      go_roundw
      case rel => exact ⟨k + 1, by omega, by go_num, HO.out, hb1.out⟩
      case measure => simp [intOf]; omega
    · have hlt' : ¬ (k : Int) < (ns.length : Int) := by omega
      have hkk : k = ns.length := by omega
      have HK : Hid (wr.ownsRow w.heap.size 9 1 u3 ns.length (ns.map wd)) := by have := HR.out.1; rw [hkk, List.take_length] at this; exact this
      obtain ⟨g, cp, cur, rfl, hbg, hg, hcp⟩ : ∃ g cp cur, u3 = .slice (some ⟨g, 0, none⟩) ns.length cp ∧ w.heap.size ≤ g ∧ wr.heap[g]? = some (.cells cur 9 (0, 0)) ∧ ns.length ≤ cp := by
        rcases HK.out.2 with ⟨_, h⟩ | ⟨g, cp, cur, h, h1, h2, h3, _⟩
        · omega
        · exact ⟨g, cp, cur, h, h1, h2, h3⟩
      have JJ : Hid (Calls Tryz.prog 87 #[.slice (some ⟨g, 0, none⟩) ns.length cp, .string ⟨#[59]⟩] wr fun e w' => e = .returned (.string ⟨(Lib.join (ns.map dc) [59]).toArray⟩) ∧ Below wr.heap.size wr w') := by
        have := join_lib g 0 cp (ns.map (fun n => (⟨(dc n).toArray⟩ : ByteArray))) ⟨#[59]⟩ wr ?_ (Array.getElem?_eq_some_iff.1 hg).1 (by rw [List.length_map]; omega) (by rw [List.length_map]; exact hcp) ?_
        · rw [List.length_map, map_back] at this; exact this
        · intro j x hx
          have := HK.out.cells (g := g) rfl j (.string x) (by
            rw [List.getElem?_map] at hx ⊢
            cases h : ns[j]? with
            | none => rw [h] at hx; simp at hx
            | some q => rw [h] at hx; simp at hx; subst hx; rfl)
          have e : (⟨g, 0, none⟩ : Addr).add j = ⟨g, 0 + j, none⟩ := by unfold Addr.add; split <;> simp_all
          rwa [e] at this
        · rw [map_back]
          have := join_len ns HS.out
          show (Lib.join (ns.map dc) [59]).length ≤ _
          omega
      clear hbg hg hcp HK
      obtain ⟨J, hJ⟩ : ∃ q, Lib.join (ns.map dc) [59] = q := ⟨_, rfl⟩
      have HJ : Hid (sq ns = [27, 91] ++ (J ++ [109])) := by show _ = _; unfold sq; rw [hJ]
      rw [hJ] at JJ
      have jl := join_len ns HS.out
      rw [hJ] at jl
      have j1 : ¬ 9223372036854775807 < 2 + J.length := by omega
      have j2 : ¬ 9223372036854775807 < 2 + J.length + 1 := by omega
      clear hJ jl
      go_wp2_with (go_at_call 87; refine Calls.mono JJ.out ?_; rintro e w2 ⟨rfl, hb2⟩)
      go_ret
      refine ⟨?_, HR.out.2.trans (hb2.mono HR.out.2.size)⟩
      rw [HJ.out]
      refine congrArg (fun q => Ending.returned (Value.string q)) ?_
      show (⟨[27, 91].toArray⟩ : ByteArray) ++ (⟨J.toArray⟩ : ByteArray) ++ (⟨[109].toArray⟩ : ByteArray) = _
      rw [str_app, str_app, List.append_assoc]

end Go.Proofs.YtkdajaphbmclkaaGreatDoor
