/-
  The reference's nodes in memory; number where a fault stands.
-/
import Derived.Test.YtepeepipgkejiadGreatDoorTSpec
namespace Go.Proofs.YtepeepipgkejiadGreatDoor
open Go.RowKit
set_option linter.unusedVariables false

/-- A node's five cells: its attributes and its kids are lists of their own. -/
def ndCells (d : Nd) (av kv : Value) : List Value := [.int .i64 (d.kind : Int), av, .string ⟨d.text.toArray⟩, kv, .int .i64 d.up]
def ndAll : List Nd → List Value → List Value → List Value
  | d :: L, a :: A, k :: K => ndCells d a k ++ ndAll L A K
  | _, _, _ => []
theorem ndAll_len : ∀ (L : List Nd) (A K : List Value), A.length = L.length → K.length = L.length → (ndAll L A K).length = L.length * 5
  | [], A, K, _, _ => by simp [ndAll]
  | d :: L, [], K, h, _ => by simp at h
  | d :: L, a :: A, [], _, h => by simp at h
  | d :: L, a :: A, k :: K, h1, h2 => by
    have := ndAll_len L A K (by simpa using h1) (by simpa using h2)
    simp [ndAll, ndCells, this]; omega
theorem ndAll_at : ∀ (L : List Nd) (A K : List Value) (j : Nat) (d : Nd) (a k : Value), A.length = L.length → K.length = L.length → L[j]? = some d → A[j]? = some a → K[j]? = some k → ∀ t, t < 5 → (ndAll L A K)[j * 5 + t]? = (ndCells d a k)[t]?
  | [], A, K, j, d, a, k, _, _, h, _, _ => by simp at h
  | x :: L, [], K, j, d, a, k, h, _, _, _, _ => by simp at h
  | x :: L, y :: A, [], j, d, a, k, _, h, _, _, _ => by simp at h
  | x :: L, y :: A, z :: K, 0, d, a, k, h1, h2, e1, e2, e3 => by
    intro t ht
    simp at e1 e2 e3
    subst e1 e2 e3
    rw [ndAll, Nat.zero_mul, Nat.zero_add, List.getElem?_append_left (by simp [ndCells]; omega)]
  | x :: L, y :: A, z :: K, j + 1, d, a, k, h1, h2, e1, e2, e3 => by
    intro t ht
    have := ndAll_at L A K j d a k (by simpa using h1) (by simpa using h2) (by simpa using e1) (by simpa using e2) (by simpa using e3) t ht
    rw [ndAll, List.getElem?_append_right (by simp [ndCells]; omega)]
    rw [show (j + 1) * 5 + t - (ndCells x y z).length = j * 5 + t by simp [ndCells]; omega]
    exact this

/-- Twelve numbers that stand at a block's head. -/
def Attr (W : World) (B : Nat) (v : Value) (a : List Int) : Prop := ∃ ab, v = .slice (some ⟨ab, 0, none⟩) 12 12 ∧ B ≤ ab ∧ ab < W.heap.size ∧ a.length = 12 ∧ ∀ j, j < 12 → W.cell? ⟨ab, j, none⟩ = some (.int .i64 (a[j]?.getD 0)) ∧ W.frozen? ⟨ab, j, none⟩ = false
def blockOf : Value → Option Nat
  | .slice (some a) _ _ => some a.block
  | _ => none

/-- The nodes in memory, all behind B. -/
structure NA (W : World) (B : Nat) (lv : Value) (L : List Nd) (AV KV : List Value) : Prop where
  row : W.ownsRow B 53 5 lv L.length (ndAll L AV KV)
  lenA : AV.length = L.length
  lenK : KV.length = L.length
  attr : ∀ (j : Nat) d v, L[j]? = some d → AV[j]? = some v → Attr W B v d.attr
  kids : ∀ (j : Nat) d v, L[j]? = some d → KV[j]? = some v → W.ownsRow B 3 1 v d.kids.length (d.kids.map fun (k : Nat) => .int .i64 (k : Int))
  sepKK : ∀ (i j : Nat) (u v : Value), i ≠ j → KV[i]? = some u → KV[j]? = some v → ∀ b, u.ownBlock = some b → v.ownBlock ≠ some b
  sepKL : ∀ (j : Nat) (v : Value), KV[j]? = some v → ∀ b, v.ownBlock = some b → lv.ownBlock ≠ some b
  sepAL : ∀ (j : Nat) (v : Value), AV[j]? = some v → ∀ b, blockOf v = some b → lv.ownBlock ≠ some b
  sepAK : ∀ (i j : Nat) (u v : Value), AV[i]? = some u → KV[j]? = some v → ∀ b, blockOf u = some b → v.ownBlock ≠ some b

theorem own_grown {W W' : World} {B r n size : Nat} {e : TypeId} {v : Value} {xs : List Value} (h : W.ownsRow B e size v n xs) (hg : W.grownBy W' (some r)) (hn : ∀ b, v.ownBlock = some b → b ≠ r) : W'.ownsRow B e size v n xs := by
  refine ⟨h.1, ?_⟩
  rcases h.2 with h2 | ⟨g, cap, cur, a, b, c, d⟩
  · exact .inl h2
  · have hgr : g ≠ r := hn g (by rw [a]; rfl)
    refine .inr ⟨g, cap, cur, a, b, ?_, d⟩
    rw [hg.block g (Array.getElem?_eq_some_iff.1 c).1 (fun e => hgr (by injection e))]; exact c
theorem own_ge {W : World} {B n size : Nat} {e : TypeId} {v : Value} {xs : List Value} (h : W.ownsRow B e size v n xs) {b : Nat} (hb : v.ownBlock = some b) : B ≤ b ∧ b < W.heap.size := h.lt b hb
theorem gfrozen {A B : World} {r b o : Nat} (hb : A.grownBy B (some r)) (hl : b < A.heap.size) (hn : b ≠ r) : B.frozen? ⟨b, o, none⟩ = A.frozen? ⟨b, o, none⟩ := by
  unfold World.frozen?
  rw [hb.block b hl (fun e => hn (by injection e))]
theorem Attr.grown {W W' : World} {B r : Nat} {v : Value} {a : List Int} (h : Attr W B v a) (hg : W.grownBy W' (some r)) (hn : ∀ b, blockOf v = some b → b ≠ r) : Attr W' B v a := by
  obtain ⟨ab, rfl, h1, h2, h3, h4⟩ := h
  have hne : ab ≠ r := hn ab rfl
  exact ⟨ab, rfl, h1, Nat.lt_of_lt_of_le h2 hg.size, h3, fun j hj => ⟨hg.cell (h4 j hj).1 (by simpa using hne), (gfrozen hg h2 hne).trans (h4 j hj).2⟩⟩

/-- What turns only a block ahead of B leaves the nodes. -/
theorem NA.grown {W W' : World} {B r : Nat} {lv : Value} {L : List Nd} {AV KV : List Value} (h : NA W B lv L AV KV) (hg : W.grownBy W' (some r)) (hr : r < B) : NA W' B lv L AV KV := by
  refine ⟨own_grown h.row hg fun b hb => by have := own_ge h.row hb; omega, h.lenA, h.lenK, fun j d v h1 h2 => ?_, fun j d v h1 h2 => ?_, h.sepKK, h.sepKL, h.sepAL, h.sepAK⟩
  · refine (h.attr j d v h1 h2).grown hg fun b hb => ?_
    obtain ⟨ab, rfl, h3, _⟩ := h.attr j d v h1 h2
    injection hb with hb
    have : ab = b := hb
    omega
  · exact own_grown (h.kids j d v h1 h2) hg fun b hb => by have := own_ge (h.kids j d v h1 h2) hb; omega

set_option maxRecDepth 100000 in
set_option maxHeartbeats 4000000 in
theorem number_bad (rb : Nat) (s : ByteArray) (i : Nat) (lv : Value) (bad er at_ dep : Int) (w : World) (h : RS w rb s i lv bad er at_ dep) (hs : s.size ≤ 1099511627776) (hi : i ≤ s.size) (hb : 0 ≤ bad) :
    Calls Tryz.prog 76 #[.pointer (some ⟨rb, 0, none⟩)] w fun e w' => e = .returned (.tuple #[.int .i64 0, .int .i64 (sk s i : Int)]) ∧ RS w' rb s (sk s i) lv bad er at_ dep ∧ w.grownBy w' (some rb) := by
  have CS : Hid (Calls Tryz.prog 20 #[.pointer (some ⟨rb, 0, none⟩)] w fun e w' => e = .returned (.tuple #[]) ∧ RS w' rb s (sk s i) lv bad er at_ dep ∧ w.grownBy w' (some rb)) := skip_any rb s i lv bad er at_ dep w h hs hi
  obtain ⟨j, hj⟩ : ∃ j, sk s i = j := ⟨_, rfl⟩
  have hjs := sk_le s i hi
  rw [hj] at CS hjs ⊢
  clear h hj
  go_enter Tryz.func76, Tryz.ntmps76
  go_wp2_with fail
  refine CS.out.mono ?_
  rintro e w1 ⟨rfl, h1, g1⟩
  have HR : Hid (RS w1 rb s j lv bad er at_ dep) := h1
  have HG1 : Hid (w.grownBy w1 (some rb)) := g1
  have d1 := h1.c1
  have hb' : ¬ bad < 0 := by omega
  have eb : decide (bad < 0) = false := decide_eq_false hb'
  clear h1 g1 CS
  go_wp2
  clear d1
  go_loopw [5, 13] (fun v _ wr => v = .int .i64 0 ∧ Hid (RS wr rb s j lv bad er at_ dep) ∧ Hid (w.grownBy wr (some rb))) (fun _ _ wr => 0)
  case atStart => exact ⟨rfl, HR.out, HG1.out⟩
  case round =>
    obtain ⟨rfl, HS, HG⟩ := hrel
    have hs1 := HS.out
    have c0 := hs1.c0
    have c1 := hs1.c1
    have c3 := hs1.c3
    have CF : Hid (∀ W, RS W rb s j lv bad er at_ dep → Calls Tryz.prog 21 #[.pointer (some ⟨rb, 0, none⟩), .int .i64 (j : Int)] W fun e w' => e = .returned (.tuple #[]) ∧ RS w' rb s j lv (badI bad j) er at_ dep ∧ W.grownBy w' (some rb)) := fun W h => fail_any rb s j lv bad er at_ dep j W h
    have HE : Hid (badI bad (j : Int) = bad) := by show _ = _; unfold badI; rw [if_neg (by omega)]
    have u0 : (j : Int) - (j : Int) = 0 := by omega
    clear hs1
    go_wp2_with fail
    go_quiet (fail)
    go_wp2_with fail
    refine (CF.out _ (HS.out.drewN _)).mono ?_
    rintro e w2 ⟨rfl, h2, g2⟩
    have H2 : Hid (RS w2 rb s j lv bad er at_ dep) := by have := h2; rw [HE.out] at this; exact this
    have HG2 : Hid (w.grownBy w2 (some rb)) := gr_trans (gr_trans HG.out (gr_drewN _ _ _)) g2
    clear h2 g2 c0 c1 c3
    go_wp2
    go_ret2
    exact ⟨rfl, H2.out, HG2.out⟩

end Go.Proofs.YtepeepipgkejiadGreatDoor
