/-
  share.giveBack.
-/
import Derived.Test.YtmlicipdkbeihacSStf
namespace Go.Proofs.Ytmlicipdkbeihac
open Go.RowKit Go.Sort
set_option linter.unusedVariables false

/-- What giveBack leaves of d, from its first c numbers on downwards. -/
def gb (d : List Int) : Nat → Int → List Int → List Int
  | 0, _, Y => Y
  | c + 1, m, Y => gb d c (m - min m (d[c]?.getD 0)) ((d[c]?.getD 0 - min m (d[c]?.getD 0)) :: Y)

theorem irow_set1 {W : World} {blk off : Nat} {d : List Int} (h : IRow W blk off d) (i : Nat) (y : Int) (hi : i < d.length) : IRow (W.setCell ⟨blk, off + i, none⟩ (.int .i64 y)) blk off (d.set i y) := by
  refine ⟨by simpa using h.1, fun k hk => ?_⟩
  rw [List.length_set] at hk
  simp only [World.frozen?_setCell]
  refine ⟨?_, (h.2 k hk).2⟩
  have hc := (h.2 k hk).1
  by_cases h1 : k = i
  · subst h1
    rw [World.cell?_setCell_same' _ _ _ (by rw [hc]; rfl)]
    simp [hk]
  · rw [World.cell?_setCell_other _ _ _ _ (fun e => h1 (by injection e with e1 e2; omega)), hc, List.getElem?_set_ne (fun e => h1 e.symm)]

theorem set_mid (X : List Int) (x y : Int) (Y : List Int) : (X ++ [x] ++ Y).set X.length y = X ++ (y :: Y) := by
  simp [List.append_assoc]

set_option maxRecDepth 100000 in
set_option maxHeartbeats 2000000 in
theorem giveBack_any (d : List Int) (blk off cap : Nat) (much : Int) (w : World) (n : Nat) (h : IRow w blk off d) (hn : d.length = n) (hlen : n ≤ 1099511627776) (hd : ∀ x ∈ d, 0 ≤ x ∧ x ≤ 1099511627776) (hm : 0 ≤ much ∧ much ≤ 1099511627776) :
    Calls Try.prog 17 #[.slice (some ⟨blk, off, none⟩) n cap, .int .i64 much] w fun e w' => e = .returned (.tuple #[]) ∧ IRow w' blk off (gb d n much []) ∧ w.grownBy w' (some blk) := by
  have HR : Hid (IRow w blk off d) := h
  have HN : Hid (d.length = n) := hn
  have HD : Hid (∀ x ∈ d, 0 ≤ x ∧ x ≤ 1099511627776) := hd
  have hm1 := hm.1
  have hm2 := hm.2
  clear h hn hd hm
  go_enter Try.func17, Try.ntmps17
  go_wp2
  go_loopw [1, 4] (fun m i wr => ∃ (c : Nat) (mu iv : Int) (Y : List Int), m = .int .i64 mu ∧ i = .int .i64 iv ∧ iv ≤ (c : Int) - 1 ∧ (c : Int) - 1 ≤ iv ∧ c ≤ n ∧ 0 ≤ mu ∧ mu ≤ 1099511627776 ∧ Hid (gb d c mu Y = gb d n much []) ∧ Hid (c + Y.length = n) ∧ Hid (IRow wr blk off (d.take c ++ Y)) ∧ Hid (w.grownBy wr (some blk))) (fun _ i _ => (intOf i + 1).toNat)
  case atStart => exact ⟨n, much, (n : Int) - 1, [], rfl, by go_num, by omega, by omega, Nat.le_refl _, hm1, hm2, by show _ = _; rfl, by show _ = _; rfl, by show IRow _ _ _ _; rw [List.append_nil, List.take_of_length_le (by rw [HN.out]; omega)]; exact HR.out, grown_refl _ _⟩
  case round =>
    obtain ⟨c, mu, iv, Y, rfl, rfl, h1, h2, hcn, hu1, hu2, HG, HC, hrow, hgr⟩ := hrel
    match c with
    | 0 =>
      have hneg : ¬ (0 : Int) ≤ iv := by omega
      go_wp2
      go_end0
      exact ⟨rfl, by have := hrow.out; have h0 := HG.out; simp only [gb] at h0; rw [← h0]; simpa using this, hgr.out⟩
    | c + 1 =>
      have hpos : (0 : Int) ≤ iv := by omega
      obtain rfl : iv = (c : Int) := by omega
      obtain ⟨x, hx⟩ : ∃ x, d[c]?.getD 0 = x := ⟨_, rfl⟩
      have hcd : c < d.length := by rw [HN.out]; omega
      have hxb := HD.out x (by rw [← hx]; exact mem_at hcd)
      have hx1 := hxb.1
      have hx2 := hxb.2
      have hcn' : (c : Int) < (n : Int) := by omega
      have htn := (take_next d c hcd).1
      rw [hx] at htn
      have hr1 := hrow.out
      rw [htn] at hr1
      have hXl : (d.take c).length = c := by rw [List.length_take]; omega
      have hL : (d.take c ++ [x] ++ Y).length = n := by have := HC.out; simp only [List.length_append, List.length_take, List.length_cons, List.length_nil]; omega
      have hat : (d.take c ++ [x] ++ Y)[c]?.getD 0 = x := by
        have : (d.take c ++ [x] ++ Y)[(d.take c).length]?.getD 0 = x := by simp [List.append_assoc]
        rw [hXl] at this; exact this
      have c0 : wr.cell? ⟨blk, off + c, none⟩ = some (.int .i64 x) := by rw [(hr1.2 c (by omega)).1, hat]
      have f0 : wr.frozen? ⟨blk, off + c, none⟩ = false := (hr1.2 c (by omega)).2
      obtain ⟨bk, hbk⟩ : ∃ bk, min mu x = bk := ⟨_, rfl⟩
      have HNew : Hid (IRow (wr.setCell ⟨blk, off + c, none⟩ (.int .i64 (x - bk))) blk off (d.take c ++ ((x - bk) :: Y))) := by
        have := irow_set1 hr1 c (x - bk) (by omega)
        have e := set_mid (d.take c) x (x - bk) Y
        rw [hXl] at e
        rw [e] at this; exact this
      have HG' : Hid (gb d c (mu - bk) ((x - bk) :: Y) = gb d n much []) := by
        have := HG.out; simp only [gb] at this; rw [hx, hbk] at this; exact this
      have HC' : Hid (c + ((x - bk) :: Y).length = n) := by show _ = _; have := HC.out; simp only [List.length_cons]; omega
      have HGr : Hid (w.grownBy (wr.setCell ⟨blk, off + c, none⟩ (.int .i64 (x - bk))) (some blk)) := grown_trans hgr.out (grown_set _ _ _ _)
      have hb1 : bk ≤ mu := by omega
      have hb2 : bk ≤ x := by omega
      have hb3 : 0 ≤ bk := by omega
      have hmin : bk = mu ∧ mu ≤ x ∨ bk = x ∧ x < mu := by omega
      clear hx hxb htn hr1 hXl hL hat hrow hgr HG HC hbk hcd
      rcases hmin with ⟨rfl, hle⟩ | ⟨rfl, hle⟩
      · rw [Int.sub_self] at HG'
        go_wp2
        go_roundw
        case rel => exact ⟨c, _, (c : Int) - 1, _, rfl, by go_num, by omega, by omega, by omega, by omega, by omega, HG', HC', HNew.out, HGr.out⟩
        case measure => simp [intOf] <;> omega
      · rw [Int.sub_self] at HG' HC' HNew HGr
        go_wp2
        go_roundw
        case rel => exact ⟨c, _, (c : Int) - 1, _, rfl, by go_num, by omega, by omega, by omega, by omega, by omega, HG', HC', HNew.out, HGr.out⟩
        case measure => simp [intOf] <;> omega

end Go.Proofs.Ytmlicipdkbeihac
