/-
  Rows of nodes in memory, each with a row of kids of its own: what holds of the program's and of the reference's alike.
-/
import Derived.Below
import Derived.Laws.OwnMore
import Derived.Maps.AppendAt
import Derived.Test.YtepeepipgkejiadGreatDoorTBase
namespace Go.Proofs.YtepeepipgkejiadGreatDoor
open Go.RowKit
set_option linter.unusedVariables false

def kInts (l : List Nat) : List Value := l.map fun (k : Nat) => .int .i64 (k : Int)

/-- Blocks from B on are as they were. -/
structure Up (B : Nat) (W W' : World) : Prop where
  size : W.heap.size ≤ W'.heap.size
  block : ∀ b, B ≤ b → b < W.heap.size → W'.heap[b]? = W.heap[b]?
theorem Up.refl (B : Nat) (W : World) : Up B W W := ⟨Nat.le_refl _, fun _ _ _ => rfl⟩
theorem Up.trans {B : Nat} {W W1 W2 : World} (h : Up B W W1) (k : Up B W1 W2) : Up B W W2 :=
  ⟨Nat.le_trans h.size k.size, fun b h1 h2 => (k.block b h1 (Nat.lt_of_lt_of_le h2 h.size)).trans (h.block b h1 h2)⟩
theorem Up.grown {B r : Nat} {W W' : World} (h : W.grownBy W' (some r)) (hr : r < B) : Up B W W' :=
  ⟨h.size, fun b h1 h2 => h.block b h2 (by simp; omega)⟩
theorem Up.below {B : Nat} {W W' : World} (h : Below W.heap.size W W') : Up B W W' := ⟨h.size, fun b _ h2 => h.block b h2⟩
theorem Up.drewN (B : Nat) (W : World) (q : Nat) : Up B W (W.drewN q) := ⟨Nat.le_refl _, fun _ _ _ => rfl⟩

theorem own_up {W W' : World} {B n size : Nat} {e : TypeId} {v : Value} {xs : List Value} (h : W.ownsRow B e size v n xs) (hu : Up B W W') : W'.ownsRow B e size v n xs := by
  refine ⟨h.1, ?_⟩
  rcases h.2 with h2 | ⟨g, cap, cur, a, b, c, d⟩
  · exact .inl h2
  · refine .inr ⟨g, cap, cur, a, b, ?_, d⟩
    rw [hu.block g b (Array.getElem?_eq_some_iff.1 c).1]; exact c
/-- Rows of different types do not share a block. -/
theorem own_apart {W : World} {B B' n n' size size' : Nat} {e e' : TypeId} {v v' : Value} {xs xs' : List Value} (h : W.ownsRow B e size v n xs) (h' : W.ownsRow B' e' size' v' n' xs') (he : e ≠ e') : v.ownBlock = none ∨ v.ownBlock ≠ v'.ownBlock := by
  rcases h.2 with ⟨rfl, _⟩ | ⟨g, cap, cur, rfl, b, c, d⟩
  · exact .inl rfl
  · right
    rcases h'.2 with ⟨rfl, _⟩ | ⟨g', cap', cur', rfl, b', c', d'⟩
    · simp [Value.ownBlock]
    · intro hh
      simp [Value.ownBlock] at hh
      subst hh
      rw [c] at c'
      injection c' with c'
      injection c' with _ c'
      exact he c'
theorem own_form {W : World} {B n size : Nat} {e : TypeId} {v : Value} {xs : List Value} (h : W.ownsRow B e size v n xs) : (v = .slice none 0 0 ∧ n = 0) ∨ ∃ g cap, v = .slice (some ⟨g, 0, none⟩) n cap ∧ B ≤ g ∧ g < W.heap.size ∧ n ≤ cap ∧ cap ≤ maxLen := by
  rcases h.2 with h2 | ⟨g, cap, cur, a, b, c, d, f, _⟩
  · exact .inl h2
  · exact .inr ⟨g, cap, a, b, (Array.getElem?_eq_some_iff.1 c).1, d, f⟩

/-- n nodes of z cells each; C has the cells, KV the lists of kids, K what they hold. -/
structure NR (W : World) (B : Nat) (T : TypeId) (z : Nat) (nv : Value) (n : Nat) (C : Nat → List Value) (KV : Nat → Value) (K : Nat → List Nat) : Prop where
  row : ∃ xs, W.ownsRow B T z nv n xs
  cells : ∀ g, nv.ownBlock = some g → ∀ j, j < n → ∀ (t : Nat) u, (C j)[t]? = some u → W.cell? ⟨g, j * z + t, none⟩ = some u
  len : ∀ j, j < n → (C j).length = z
  kids : ∀ j, j < n → W.ownsRow B 3 1 (KV j) (K j).length (kInts (K j))
  sep : ∀ i j, i < n → j < n → i ≠ j → ∀ b, (KV i).ownBlock = some b → (KV j).ownBlock ≠ some b

section
variable {W W' : World} {B z n : Nat} {T : TypeId} {nv : Value} {C : Nat → List Value} {KV : Nat → Value} {K : Nat → List Nat}

theorem NR.nothing (W : World) (B : Nat) (T : TypeId) (z : Nat) (C : Nat → List Value) (KV : Nat → Value) (K : Nat → List Nat) : NR W B T z (.slice none 0 0) 0 C KV K :=
  ⟨⟨[], World.ownsRow_nil _ _ _ _⟩, fun _ _ j h => absurd h (by omega), fun j h => absurd h (by omega), fun j h => absurd h (by omega), fun i j h => absurd h (by omega)⟩
theorem NR.up (h : NR W B T z nv n C KV K) (hu : Up B W W') : NR W' B T z nv n C KV K := by
  obtain ⟨xs, hx⟩ := h.row
  refine ⟨⟨xs, own_up hx hu⟩, fun g hg j hj t u htu => ?_, h.len, fun j hj => own_up (h.kids j hj) hu, h.sep⟩
  have := h.cells g hg j hj t u htu
  have hl := hx.lt g hg
  rw [World.cell?_of_block (hu.block g hl.1 hl.2)]; exact this
theorem NR.form (h : NR W B T z nv n C KV K) (hn : 0 < n) : ∃ g cap, nv = .slice (some ⟨g, 0, none⟩) n cap ∧ B ≤ g ∧ g < W.heap.size ∧ n ≤ cap ∧ cap ≤ maxLen := by
  obtain ⟨xs, hx⟩ := h.row
  rcases own_form hx with ⟨_, h0⟩ | h1
  · omega
  · exact h1
theorem NR.cell {g cap : Nat} (h : NR W B T z (.slice (some ⟨g, 0, none⟩) n cap) n C KV K) {j : Nat} (hj : j < n) {t : Nat} {u : Value} (ht : (C j)[t]? = some u) : W.cell? ⟨g, j * z + t, none⟩ = some u := h.cells g rfl j hj t u ht
theorem NR.frozen {g cap : Nat} (h : NR W B T z (.slice (some ⟨g, 0, none⟩) n cap) n C KV K) (j : Nat) : W.frozen? ⟨g, j, none⟩ = false := by
  obtain ⟨xs, hx⟩ := h.row
  exact hx.frozenAt j

theorem NR.frz (h : NR W B T z nv n C KV K) {g : Nat} (hg : nv.ownBlock = some g) (j : Nat) : W.frozen? ⟨g, j, none⟩ = false := by
  obtain ⟨xs, hx⟩ := h.row
  rcases own_form hx with ⟨rfl, _⟩ | ⟨g', cap, rfl, _⟩
  · simp [Value.ownBlock] at hg
  · simp [Value.ownBlock] at hg
    subst hg
    exact hx.frozenAt j

/-- A node more. -/
theorem NR.app {nv' : Value} {xs news : List Value} (h : NR W B T z nv n C KV K) (hT : 3 ≠ T) (hx : W.ownsRow B T z nv n xs) (hx' : W'.ownsRow B T z nv' (n + 1) (xs ++ news)) (hg : W.grownBy W' nv.ownBlock) (hl : news.length = z) :
    NR W' B T z nv' (n + 1) (fun j => if j = n then news else C j) (fun j => if j = n then .slice none 0 0 else KV j) (fun j => if j = n then [] else K j) := by
  have hxl := hx.1
  refine ⟨⟨_, hx'⟩, fun g hg' j hj t u htu => ?_, fun j hj => ?_, fun j hj => ?_, fun i j hi hj hij b hb => ?_⟩
  · have key := hx'.cells hg'
    have hadd : ∀ m, (⟨g, 0, none⟩ : Addr).add m = ⟨g, m, none⟩ := fun m => by unfold Addr.add; split <;> simp_all
    have hz : t < z := by
      have h1 := (List.getElem?_eq_some_iff.1 htu).1
      by_cases hjn : j = n
      · rw [if_pos hjn] at h1; omega
      · rw [if_neg hjn, h.len j (by omega)] at h1; exact h1
    rw [← hadd]
    refine key _ _ ?_
    by_cases hjn : j = n
    · subst hjn
      rw [if_pos rfl] at htu
      rw [List.getElem?_append_right (by rw [hxl]; omega), hxl, show j * z + t - j * z = t by omega]; exact htu
    · rw [if_neg hjn] at htu
      have hlt : j * z + t < n * z := by
        have : (j + 1) * z ≤ n * z := Nat.mul_le_mul_right _ (by omega)
        rw [Nat.add_mul] at this; omega
      rw [List.getElem?_append_left (by rw [hxl]; exact hlt)]
      obtain ⟨g0, cap, rfl, _⟩ := h.form (by omega)
      have h1 := h.cell (by omega) htu
      rw [hx.cellAt _ hlt] at h1; exact h1
  · by_cases hjn : j = n
    · rw [if_pos hjn]; exact hl
    · rw [if_neg hjn]; exact h.len j (by omega)
  · by_cases hjn : j = n
    · rw [if_pos hjn, if_pos hjn]; exact World.ownsRow_nil _ _ _ _
    · rw [if_neg hjn, if_neg hjn]
      exact (h.kids j (by omega)).kept hg (own_apart (h.kids j (by omega)) hx hT)
  · by_cases h1 : i = n
    · rw [if_pos h1] at hb; simp [Value.ownBlock] at hb
    · rw [if_neg h1] at hb
      by_cases h2 : j = n
      · rw [if_pos h2]; simp [Value.ownBlock]
      · rw [if_neg h2]; exact h.sep i j (by omega) (by omega) hij b hb

/-- A cell of a node written, that is not its list of kids. -/
theorem NR.set {g cap : Nat} (h : NR W B T z (.slice (some ⟨g, 0, none⟩) n cap) n C KV K) (hT : 3 ≠ T) {k t : Nat} (hk : k < n) (ht : t < z) (u : Value) :
    NR (W.setCell ⟨g, k * z + t, none⟩ u) B T z (.slice (some ⟨g, 0, none⟩) n cap) n (fun j => if j = k then (C k).set t u else C j) KV K := by
  obtain ⟨xs, hx⟩ := h.row
  have hst := hx.stored (k * z + t) u
  have hkt : k * z + t < n * z := by
    have : (k + 1) * z ≤ n * z := Nat.mul_le_mul_right _ (by omega)
    rw [Nat.add_mul] at this; omega
  refine ⟨⟨_, hst.1⟩, fun g' hg' j hj t' u' htu => ?_, fun j hj => ?_, fun j hj => ?_, h.sep⟩
  · injection hg' with hg'
    have hg' : g = g' := hg'
    subst hg'
    have hz : t' < z := by
      have h1 := (List.getElem?_eq_some_iff.1 htu).1
      by_cases hjn : j = k
      · rw [if_pos hjn] at h1; simp [h.len k hk] at h1; exact h1
      · rw [if_neg hjn, h.len j (by omega)] at h1; exact h1
    have hlt : j * z + t' < n * z := by
      have : (j + 1) * z ≤ n * z := Nat.mul_le_mul_right _ (by omega)
      rw [Nat.add_mul] at this; omega
    rw [hst.1.cellAt _ hlt]
    have hold : xs[j * z + t']? = W.cell? ⟨g, j * z + t', none⟩ := (hx.cellAt _ hlt).symm
    by_cases hjk : j = k
    · subst hjk
      rw [if_pos rfl] at htu
      by_cases htt : t = t'
      · subst htt
        rw [List.getElem?_set_self (by rw [hx.1]; exact hkt)]
        rw [List.getElem?_set_self (by rw [h.len j hk]; exact ht)] at htu
        exact htu
      · rw [List.getElem?_set_ne (by omega)] at htu ⊢
        rw [hold]; exact h.cell hj htu
    · rw [if_neg hjk] at htu
      have hne : k * z + t ≠ j * z + t' := by
        intro e
        rcases Nat.lt_or_gt_of_ne hjk with hh | hh
        · have : (j + 1) * z ≤ k * z := Nat.mul_le_mul_right _ (by omega)
          rw [Nat.add_mul] at this; omega
        · have : (k + 1) * z ≤ j * z := Nat.mul_le_mul_right _ (by omega)
          rw [Nat.add_mul] at this; omega
      rw [List.getElem?_set_ne hne, hold]; exact h.cell hj htu
  · by_cases hjk : j = k
    · rw [if_pos hjk]; simp [h.len k hk]
    · rw [if_neg hjk]; exact h.len j hj
  · exact (h.kids j hj).kept hst.2 (own_apart (h.kids j hj) hx hT)

/-- A kid more, not yet told to its node: what the append leaves; and then the store of the new list. -/
theorem NR.kid {g cap : Nat} {kv' : Value} {k t c : Nat} (h : NR W B T z (.slice (some ⟨g, 0, none⟩) n cap) n C KV K) (hT : 3 ≠ T) (hk : k < n) (ht : t < z)
    (hr : W'.ownsRow B 3 1 kv' ((K k).length + 1) (kInts (K k ++ [c]))) (hg : W.grownBy W' (KV k).ownBlock) (hat : kv'.ownBlock = (KV k).ownBlock ∨ kv'.ownBlock = some W.heap.size) :
    NR (W'.setCell ⟨g, k * z + t, none⟩ kv') B T z (.slice (some ⟨g, 0, none⟩) n cap) n (fun j => if j = k then (C k).set t kv' else C j) (fun j => if j = k then kv' else KV j) (fun j => if j = k then K k ++ [c] else K j) := by
  obtain ⟨xs, hx⟩ := h.row
  have hx' : W'.ownsRow B T z (.slice (some ⟨g, 0, none⟩) n cap) n xs := hx.kept hg (own_apart hx (h.kids k hk) (Ne.symm hT))
  have hgl := hx.lt g rfl
  have hblk : W'.heap[g]? = W.heap[g]? := hg.block g hgl.2 (by
    rcases own_apart (h.kids k hk) hx hT with e | e
    · rw [e]; simp
    · exact fun e2 => e e2.symm)
  have hother : ∀ j, j < n → j ≠ k → W'.ownsRow B 3 1 (KV j) (K j).length (kInts (K j)) := fun j hj hjk => (h.kids j hj).kept hg (by
    cases hb : (KV j).ownBlock with
    | none => exact .inl rfl
    | some b => right; exact fun e => h.sep j k hj hk hjk b hb e.symm)
  -- the state between, as rows whose kids of k are taken from kv'
  have mid : NR W' B T z (.slice (some ⟨g, 0, none⟩) n cap) n C (fun j => if j = k then kv' else KV j) (fun j => if j = k then K k ++ [c] else K j) := by
    refine ⟨⟨xs, hx'⟩, fun g' hg' j hj t' u' htu => ?_, h.len, fun j hj => ?_, fun i j hi hj hij b hb => ?_⟩
    · injection hg' with hg'
      have hg' : g = g' := hg'
      subst hg'
      rw [World.cell?_of_block hblk]; exact h.cell hj htu
    · by_cases hjk : j = k
      · rw [if_pos hjk, if_pos hjk]; simpa using hr
      · rw [if_neg hjk, if_neg hjk]; exact hother j hj hjk
    · have hfar : ∀ i, i < n → (KV i).ownBlock ≠ some W.heap.size := fun i hi e => by have := (h.kids i hi).lt _ e; omega
      by_cases h1 : i = k
      · rw [if_pos h1] at hb
        have h2 : j ≠ k := fun e => hij (h1.trans e.symm)
        rw [if_neg h2]
        rcases hat with e | e
        · rw [e] at hb; exact h.sep k j hk hj (fun e => h2 e.symm) b hb
        · rw [e] at hb; injection hb with hb; rw [← hb]; exact hfar j hj
      · rw [if_neg h1] at hb
        by_cases h2 : j = k
        · rw [if_pos h2]
          rcases hat with e | e
          · rw [e]; exact h.sep i k hi hk h1 b hb
          · rw [e]; intro e2; injection e2 with e2; exact hfar i hi (by rw [hb, e2])
        · rw [if_neg h2]; exact h.sep i j hi hj hij b hb
  exact mid.set hT hk ht kv'
end

end Go.Proofs.YtepeepipgkejiadGreatDoor
