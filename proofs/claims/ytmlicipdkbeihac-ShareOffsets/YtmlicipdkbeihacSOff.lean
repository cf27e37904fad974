/-
  share.Offsets, paneref.Offsets; the walk of ShareOffsets.
-/
import Derived.Test.YtmlicipdkbeihacSLaw
import Derived.Test.YtmlicipdkbeihacSTiles
namespace Go.Proofs.Ytmlicipdkbeihac
open Go.RowKit Go.Sort
set_option linter.unusedVariables false

/-- Where the k-th begins. -/
def offs (g : Nat → Int) (cg : Int) (k : Nat) : Int := sumL (fun j => g j + cg) (List.range k)
theorem offs_next (g : Nat → Int) (cg : Int) (k : Nat) : offs g cg (k + 1) = offs g cg k + (g k + cg) := by unfold offs; rw [List.range_succ, sumL_snoc]
theorem offs_bd {g : Nat → Int} {cg : Int} {n : Nat} (hg : ∀ j, j < n → 0 ≤ g j ∧ g j ≤ 100000) (hc : 0 ≤ cg ∧ cg ≤ 100000) (k : Nat) (hk : k ≤ n) : 0 ≤ offs g cg k ∧ offs g cg k ≤ (k : Int) * 200000 := by
  refine ⟨sumL_nonneg fun j hj => by have := hg j (by have := List.mem_range.1 hj; omega); omega, ?_⟩
  have := sumL_bound (f := fun j => g j + cg) (l := List.range k) (b := 200000) fun j hj => by have := hg j (by have := List.mem_range.1 hj; omega); omega
  rw [List.length_range] at this; exact this

def OffV (w w' : World) (v : Value) (n : Nat) (a b c : Nat → Int) (room gap : Int) : Prop :=
  ((n = 0 ∨ 200 < n) ∧ v = .slice none 0 0 ∧ w' = w) ∨ (0 < n ∧ n ≤ 200 ∧ ∃ lb g, v = .slice (some ⟨lb, 0, none⟩) n n ∧ FRow w' lb 0 n (offs g (cl gap)) ∧ SplitIs n (fun j => cl (a j)) (fun j => hMax (a j) (b j)) (fun j => cl (c j)) (rm room gap n) g ∧ Below w.heap.size w w')
theorem OffV.below {w w' : World} {v : Value} {n : Nat} {a b c : Nat → Int} {room gap : Int} (h : OffV w w' v n a b c room gap) : Below w.heap.size w w' := by
  rcases h with ⟨_, _, rfl⟩ | ⟨_, _, lb, g, _, _, _, h⟩
  · exact Below.refl _ _
  · exact h

theorem off_upd (g : Nat → Int) (cg : Int) (k : Nat) (j : Nat) : upd (fun j => if j < k then offs g cg j else g j) k (offs g cg k) j = if j < k + 1 then offs g cg j else g j := by
  unfold upd
  by_cases e : j = k
  · subst e; rw [if_pos rfl, if_pos (by omega)]
  · rw [if_neg e]; dsimp only
    by_cases e2 : j < k
    · rw [if_pos e2, if_pos (by omega)]
    · rw [if_neg e2, if_neg (by omega)]

set_option maxRecDepth 100000 in
set_option maxHeartbeats 4000000 in
theorem offsets_all (v : Value) (n : Nat) (a b c : Nat → Int) (room gap : Int) (w : World) (h : WIn w v n a b c) (hn : n ≤ 5864062014805) :
    Calls Try.prog 11 #[.int .i64 room, .int .i64 gap, v] w fun e w' => ∃ v, e = .returned v ∧ OffV w w' v n a b c room gap := by
  have C2 : Hid (Calls Try.prog 7 #[.int .i64 room, .int .i64 gap, v] w fun e w' => ∃ v, e = .returned v ∧ SplitV w w' v n a b c room gap) := split_all v n a b c room gap w h hn
  have CC : Hid (∀ w, Calls Try.prog 16 #[.int .i64 gap] w fun e w' => e = .returned (.int .i64 (cl gap)) ∧ w' = w) := fun w => clamped_any gap w
  have hcg := cl_bd gap
  obtain ⟨cg, hcge⟩ : ∃ x, cl gap = x := ⟨_, rfl⟩
  have HCG : Hid (cl gap = cg) := hcge
  rw [hcge] at CC hcg
  have cg0 := hcg.1
  have cg1 := hcg.2
  clear h hcge hcg
  go_enter Try.func11, Try.ntmps11
  go_wp2_with fail
  refine C2.out.mono ?_
  rintro e w2 ⟨v2, rfl, hs⟩
  clear C2
  rcases hs with ⟨h0, rfl, rfl⟩ | ⟨h1, h2, lb, rfl, hlb, ⟨g, hrow, hsp⟩, hbel⟩
  · have HO : Hid (OffV w2 w2 (.slice none 0 0) n a b c room gap) := .inl ⟨h0, rfl, rfl⟩
    clear h0
    go_wp2
    go_loop [8, 17] (fun s i => s = .int .i64 0 ∧ i = .int .i64 0) (fun _ _ => 0)
    case atStart => exact ⟨rfl, rfl⟩
    case round =>
      obtain ⟨rfl, rfl⟩ := hrel
      go_wp2
      go_ret
      exact ⟨_, rfl, HO.out⟩
  · have hgb : ∀ j, j < n → 0 ≤ g j ∧ g j ≤ 100000 := fun j hj => by
      have h1 := (hsp.tiles (held_bds a b c)).1 j hj
      have h2 := held_bds a b c j
      omega
    have HGB : Hid (∀ j, j < n → 0 ≤ g j ∧ g j ≤ 100000) := hgb
    have HOB : Hid (∀ k, k ≤ n → 0 ≤ offs g cg k ∧ offs g cg k ≤ (k : Int) * 200000) := fun k hk => offs_bd hgb ⟨cg0, cg1⟩ k hk
    have HSP : Hid (SplitIs n (fun j => cl (a j)) (fun j => hMax (a j) (b j)) (fun j => cl (c j)) (rm room gap n) g) := hsp
    have R0 : Hid (FRow w2 lb 0 n (fun j => if j < 0 then offs g cg j else g j) ∧ Below w.heap.size w w2) := ⟨hrow.congr fun j _ => by simp, hbel⟩
    clear hgb hsp hrow hbel
    go_wp2
    go_loopw [8, 17] (fun s i wr => ∃ k : Nat, s = .int .i64 (offs g cg k) ∧ i = .int .i64 k ∧ k ≤ n ∧ Hid (FRow wr lb 0 n (fun j => if j < k then offs g cg j else g j) ∧ Below w.heap.size w wr)) (fun _ i _ => n - (intOf i).toNat)
    case atStart => exact ⟨0, rfl, rfl, Nat.zero_le _, R0.out⟩
    case round =>
      obtain ⟨k, rfl, rfl, hk, HR⟩ := hrel
      by_cases hlt : k < n
      · have hlt' : (k : Int) < (n : Int) := by omega
        have hc := HR.out.1.2 k hlt
        dsimp only at hc
        rw [if_neg (by omega), Nat.zero_add] at hc
        have hgk := HGB.out k hlt
        have ho1 := HOB.out k hk
        have ho2 := HOB.out (k + 1) (by omega)
        have hnx := offs_next g cg k
        have hset := HR.out.1.set k (offs g cg k) hlt
        rw [Nat.zero_add] at hset
        have HN : Hid (FRow (wr.setCell ⟨lb, k, none⟩ (.int .i64 (offs g cg k))) lb 0 n (fun j => if j < k + 1 then offs g cg j else g j) ∧ Below w.heap.size w (wr.setCell ⟨lb, k, none⟩ (.int .i64 (offs g cg k)))) := ⟨hset.congr fun j _ => off_upd g cg k j, HR.out.2.setCell hlb _⟩
        obtain ⟨gk, hgke⟩ : ∃ x, g k = x := ⟨_, rfl⟩
        rw [hgke] at hc hgk hnx
        obtain ⟨o1, ho1e⟩ : ∃ x, offs g cg k = x := ⟨_, rfl⟩
        rw [ho1e] at ho1 hnx HN ⊢
        have HNX : Hid (offs g cg (k + 1) = o1 + (gk + cg)) := hnx
        obtain ⟨cl1, fl1⟩ := hc
        obtain ⟨gk0, gk1⟩ := hgk
        obtain ⟨o10, o11⟩ := ho1
        clear hset hgke ho1e ho2 hnx HR
        go_wp2_with (go_at_call 16; refine (CC.out _).mono ?_; rintro e w5 ⟨rfl, rfl⟩)
        go_roundw
        case rel => exact ⟨k + 1, by rw [HNX.out], by go_num, by omega, HN.out⟩
        case measure => simp [intOf]; omega
      · have hge : ¬ (k : Int) < (n : Int) := by omega
        obtain rfl : n = k := by omega
        have HF : Hid (OffV w wr (.slice (some ⟨lb, 0, none⟩) n n) n a b c room gap) := .inr ⟨h1, h2, lb, g, rfl, by rw [HCG.out]; exact HR.out.1.congr fun j hj => by rw [if_pos hj], HSP.out, HR.out.2⟩
        clear HR
        go_wp2
        go_ret
        exact ⟨_, rfl, HF.out⟩

/-- The two wants of the call between. -/
theorem off_two (w : World) : Calls Try.prog 11 #[.int .i64 7, .int .i64 1, .slice (some ⟨w.heap.size, 0, none⟩) 2 2] (w.alloc (.cells #[.int .i64 1, .int .i64 (-1), .int .i64 1, .int .i64 0, .int .i64 3, .int .i64 2] 28)) fun e w' => ∃ v, e = .returned v ∧ Below w.heap.size w w' := by
  have hb : Below w.heap.size w (w.alloc (.cells #[.int .i64 1, .int .i64 (-1), .int .i64 1, .int .i64 0, .int .i64 3, .int .i64 2] 28)) := (Below.refl _ _).alloc (Nat.le_refl _) _
  have hr : WRow (w.alloc (.cells #[.int .i64 1, .int .i64 (-1), .int .i64 1, .int .i64 0, .int .i64 3, .int .i64 2] 28)) w.heap.size 0 2 (fun j => if j = 0 then 1 else 0) (fun j => if j = 0 then -1 else 3) (fun j => if j = 0 then 1 else 2) := by
    refine ⟨by simp, fun j hj => ?_⟩
    rw [World.cell?_alloc_at _ _ _ _ rfl, World.cell?_alloc_at _ _ _ _ rfl, World.cell?_alloc_at _ _ _ _ rfl]
    match j, hj with
    | 0, _ => exact ⟨rfl, rfl, rfl⟩
    | 1, _ => exact ⟨rfl, rfl, rfl⟩
  exact (offsets_all _ 2 _ _ _ 7 1 _ ⟨_, 2, rfl, .inr ⟨_, 0, rfl, hr⟩⟩ (by omega)).mono fun e w' ⟨v, he, hs⟩ => ⟨_, he, hb.trans (hs.below.mono hb.size)⟩

end Go.Proofs.Ytmlicipdkbeihac
