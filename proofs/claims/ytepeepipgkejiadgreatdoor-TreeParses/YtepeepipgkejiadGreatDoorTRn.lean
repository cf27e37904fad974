/-
  The reference's attrs.
-/
import Derived.Test.YtepeepipgkejiadGreatDoorTRm
import Derived.Deep.Cut
import Derived.Deep.CutRange
namespace Go.Proofs.YtepeepipgkejiadGreatDoor
open Go.RowKit
set_option linter.unusedVariables false

/-- A list of twelve cells that lies in a block of its own. -/
def Row12 (W : World) (b : Nat) (v : Nat → Value) : Prop := b < W.heap.size ∧ ∀ k, k < 12 → W.cell? ⟨b, k, none⟩ = some (v k) ∧ W.frozen? ⟨b, k, none⟩ = false
theorem frozen_block {W W' : World} {b : Nat} (h : W'.heap[b]? = W.heap[b]?) (k : Nat) : W'.frozen? ⟨b, k, none⟩ = W.frozen? ⟨b, k, none⟩ := by unfold World.frozen?; rw [h]
theorem Row12.keep {W W' : World} {b : Nat} {v : Nat → Value} (h : Row12 W b v) (hz : W.heap.size ≤ W'.heap.size) (hb : W'.heap[b]? = W.heap[b]?) : Row12 W' b v :=
  ⟨Nat.lt_of_lt_of_le h.1 hz, fun k hk => ⟨(World.cell?_of_block (a := ⟨b, k, none⟩) hb).trans (h.2 k hk).1, (frozen_block hb k).trans (h.2 k hk).2⟩⟩
theorem Row12.grown {W W' : World} {b r : Nat} {v : Nat → Value} (h : Row12 W b v) (g : W.grownBy W' (some r)) (hr : b ≠ r) : Row12 W' b v := h.keep g.size (g.block b h.1 (fun e => hr (by injection e)))
theorem Row12.below {W W' : World} {b : Nat} {v : Nat → Value} (h : Row12 W b v) (g : Below W.heap.size W W') : Row12 W' b v := h.keep g.size (g.block b h.1)
theorem Row12.set {W : World} {b k : Nat} {v : Nat → Value} (h : Row12 W b v) (hk : k < 12) (u : Value) : Row12 (W.setCell ⟨b, k, none⟩ u) b (fun j => if j = k then u else v j) := by
  refine ⟨by simpa [World.setCell] using h.1, fun j hj => ⟨?_, (World.frozen?_setCell _ _ _ _).trans (h.2 j hj).2⟩⟩
  by_cases e : j = k
  · subst e
    show _ = some (if j = j then u else v j)
    rw [if_pos rfl]; exact World.cell?_setCell_same _ _ _ (h.2 j hj).1
  · show _ = some (if j = k then u else v j)
    rw [if_neg e, World.cell?_setCell_other _ _ _ _ (fun q => by injection q with _ q _; exact e q.symm)]; exact (h.2 j hj).1
theorem Row12.other {W : World} {b b' k : Nat} {v : Nat → Value} (h : Row12 W b v) (hb : b ≠ b') (u : Value) : Row12 (W.setCell ⟨b', k, none⟩ u) b v :=
  h.keep (by simp [World.setCell]) (Below.heap_setCell W ⟨b', k, none⟩ u b hb)
theorem RS.other {W : World} {rb b k : Nat} {s : ByteArray} {i : Nat} {lv : Value} {bad er at_ dep : Int} (h : RS W rb s i lv bad er at_ dep) (hb : rb ≠ b) (u : Value) : RS (W.setCell ⟨b, k, none⟩ u) rb s i lv bad er at_ dep := by
  have hh : (W.setCell ⟨b, k, none⟩ u).heap[rb]? = W.heap[rb]? := Below.heap_setCell W ⟨b, k, none⟩ u rb hb
  have c : ∀ j, (W.setCell ⟨b, k, none⟩ u).cell? ⟨rb, j, none⟩ = W.cell? ⟨rb, j, none⟩ := fun j => World.cell?_of_block (a := ⟨rb, j, none⟩) hh
  exact ⟨by simpa [World.setCell] using h.lt, (c 0).trans h.c0, (c 1).trans h.c1, (c 2).trans h.c2, (c 3).trans h.c3, (c 4).trans h.c4, (c 5).trans h.c5, (c 6).trans h.c6, fun j => (frozen_block hh j).trans (h.fz j)⟩

/-- The state within attrs. -/
structure AS (w wi : World) (rb ab sb : Nat) (s : ByteArray) (i : Nat) (lv : Value) (bad dep : Int) (f : Flt) (j : Nat) (a : List Int) (seen : List Nat) : Prop where
  rs : ∃ er at_, RS wi rb s i lv bad er at_ dep ∧ FL er at_ f j
  len : a.length = 12
  ar : Row12 wi ab (fun k => .int .i64 (a[k]?.getD 0))
  sr : Row12 wi sb (fun k => .bool (seen.contains k))
  gr : w.grownBy wi (some rb)
/-- Which blocks they are. -/
structure AB (w : World) (rb ab sb : Nat) : Prop where
  r : rb < w.heap.size
  a : w.heap.size ≤ ab
  s : w.heap.size ≤ sb
  ne : ab ≠ sb
section
variable {w wi wj : World} {rb ab sb : Nat} {s : ByteArray} {i i' j j' : Nat} {lv : Value} {bad bad' dep : Int} {f f' : Flt} {a : List Int} {seen : List Nat}
theorem AS.next (h : AS w wi rb ab sb s i lv bad dep f j a seen) (hB : AB w rb ab sb) {er at_ : Int} (hr : RS wj rb s i' lv bad' er at_ dep) (hf : FL er at_ f' j') (hg : wi.grownBy wj (some rb)) : AS w wj rb ab sb s i' lv bad' dep f' j' a seen :=
  ⟨⟨er, at_, hr, hf⟩, h.len, h.ar.grown hg (by have := hB.r; have := hB.a; omega), h.sr.grown hg (by have := hB.r; have := hB.s; omega), gr_trans h.gr hg⟩
theorem AS.below (h : AS w wi rb ab sb s i lv bad dep f j a seen) (hb : Below wi.heap.size wi wj) : AS w wj rb ab sb s i lv bad dep f j a seen := by
  obtain ⟨er, at_, h1, h2⟩ := h.rs
  exact ⟨⟨er, at_, h1.below hb, h2⟩, h.len, h.ar.below hb, h.sr.below hb, gr_trans h.gr (gr_below hb)⟩
theorem AS.on (h : AS w wi rb ab sb s i lv bad dep f j a seen) (hj : j ≤ j') : AS w wi rb ab sb s i lv bad dep f j' a seen := by
  obtain ⟨er, at_, h1, h2⟩ := h.rs
  exact ⟨⟨er, at_, h1, h2.on hj⟩, h.len, h.ar, h.sr, h.gr⟩
theorem gr_new {W0 W : World} {r b k : Nat} {u : Value} (h : W0.grownBy W (some r)) (hb : W0.heap.size ≤ b) : W0.grownBy (W.setCell ⟨b, k, none⟩ u) (some r) :=
  ⟨h.os, h.tape, h.output, by simpa [World.setCell] using h.size, fun c hc hr => (Below.heap_setCell W ⟨b, k, none⟩ u c (by show c ≠ b; omega)).trans (h.block c hc hr)⟩
theorem AS.setA (h : AS w wi rb ab sb s i lv bad dep f j a seen) (hB : AB w rb ab sb) {k : Nat} (hk : k < 12) (n : Int) : AS w (wi.setCell ⟨ab, k, none⟩ (.int .i64 n)) rb ab sb s i lv bad dep f j (a.set k n) seen := by
  obtain ⟨er, at_, h1, h2⟩ := h.rs
  have hr := hB.r
  have ha := hB.a
  refine ⟨⟨er, at_, h1.other (by omega) _, h2⟩, by rw [List.length_set]; exact h.len, ?_, h.sr.other (fun e => hB.ne e.symm) _, gr_new h.gr ha⟩
  have e : (fun j => if j = k then Value.int .i64 n else .int .i64 (a[j]?.getD 0)) = fun j => .int .i64 ((a.set k n)[j]?.getD 0) := by
    funext j
    by_cases hj : j = k
    · subst hj
      rw [if_pos rfl, List.getElem?_set_self (by rw [h.len]; exact hk)]; rfl
    · rw [if_neg hj, List.getElem?_set_ne (fun e => hj e.symm)]
  have := h.ar.set hk (.int .i64 n)
  rw [e] at this
  exact this
theorem AS.setS (h : AS w wi rb ab sb s i lv bad dep f j a seen) (hB : AB w rb ab sb) {k : Nat} (hk : k < 12) : AS w (wi.setCell ⟨sb, k, none⟩ (.bool true)) rb ab sb s i lv bad dep f j a (k :: seen) := by
  obtain ⟨er, at_, h1, h2⟩ := h.rs
  have hr := hB.r
  have ha := hB.s
  refine ⟨⟨er, at_, h1.other (by omega) _, h2⟩, h.len, h.ar.other hB.ne _, ?_, gr_new h.gr ha⟩
  have e : (fun j => if j = k then Value.bool true else .bool (seen.contains j)) = fun j => .bool ((k :: seen).contains j) := by
    funext j
    by_cases hj : j = k
    · subst hj; simp
    · rw [if_neg hj]; simp [hj]
  have := h.sr.set hk (.bool true)
  rw [e] at this
  exact this
end
/-- The nodes so far, as far as attrs reads them. -/
def IdsAt (w : World) (rb : Nat) (lv : Value) (L : List Nd) : Prop := (L = [] ∧ lv = .slice none 0 0) ∨ ∃ (g cap : Nat) (AV : Nat → Nat), lv = .slice (some ⟨g, 0, none⟩) L.length cap ∧ g < w.heap.size ∧ g ≠ rb ∧ ∀ k, k < L.length → w.cell? ⟨g, k * 5 + 1, none⟩ = some (.slice (some ⟨AV k, 0, none⟩) 12 12) ∧ AV k < w.heap.size ∧ AV k ≠ rb ∧ w.cell? ⟨AV k, 0, none⟩ = some (.int .i64 ((L.map (fun d => d.attr[0]?.getD 0))[k]?.getD 0))
theorem hasId_take (L : List Nd) (n : Int) (k : Nat) (hk : k < L.length) : hasId (L.take (k + 1)) n = (hasId (L.take k) n || ((L.map (fun d => d.attr[0]?.getD 0))[k]?.getD 0 == n)) := by
  unfold hasId
  rw [List.take_succ_eq_append_getElem hk, List.any_append]
  simp [hk]
theorem addIf_or (f : Flt) (b b' : Bool) (c p : Nat) : addIf (b || b') f c p = addIf b' (addIf b f c p) c p := by
  cases b <;> cases b' <;> cases f <;> rfl
/-- How a round of attrs stands. -/
def AI (s : ByteArray) (kind : Nat) (L : List Nd) (R : Except Nat (Nat × Flt × List Int)) (bad0 : Int) (more : Bool) (i : Nat) (bad : Int) (f : Flt) (a : List Int) (seen : List Nat) : Prop :=
  (bad = bad0 ∧ more = true ∧ ∃ fuel, s.size - i < fuel ∧ attrsF s kind L fuel i f a seen = R) ∨ (bad = bad0 ∧ more = false ∧ closeR s i f a = R) ∨ (0 ≤ bad ∧ more = false ∧ R = .error bad.toNat)
theorem AI.round {s : ByteArray} {kind : Nat} {L : List Nd} {R : Except Nat (Nat × Flt × List Int)} {bad0 : Int} (hb : bad0 < 0) {i : Nat} {f : Flt} {a : List Int} {seen : List Nat} (hi : i ≤ s.size) {fuel : Nat} (hf : s.size - i < fuel) (h : attrsF s kind L fuel i f a seen = R) :
    AI s kind L R bad0 (gB s (step1 s i bad0).i 59 (step1 s i bad0).bad) (mI s (step1 s i bad0).i 59 (step1 s i bad0).bad) (step1 s i bad0).bad (fa kind L f a seen (step1 s i bad0)).1 (fa kind L f a seen (step1 s i bad0)).2.1 (fa kind L f a seen (step1 s i bad0)).2.2
    ∧ (gB s (step1 s i bad0).i 59 (step1 s i bad0).bad = true → i < mI s (step1 s i bad0).i 59 (step1 s i bad0).bad) := by
  obtain ⟨g, rfl⟩ : ∃ g, fuel = g + 1 := ⟨fuel - 1, by omega⟩
  have pl := step1_places s i bad0
  have sz := step1_size s i bad0 hi
  have hst := attr1_step s kind L i f a seen bad0 hb
  obtain ⟨q, hq⟩ : ∃ q, fa kind L f a seen (step1 s i bad0) = q := ⟨_, rfl⟩
  rw [hq] at hst ⊢
  clear hq
  obtain ⟨f2, a2, s2⟩ := q
  simp only
  rcases hst with ⟨h1, h2⟩ | ⟨h1, h2⟩
  · rw [h1]
    have hg : gB s (step1 s i bad0).i 59 bad0 = isAt s (step1 s i bad0).i 59 := by unfold gB; rw [if_pos hb]
    have hm : mI s (step1 s i bad0).i 59 bad0 = gotI s (step1 s i bad0).i 59 := by unfold mI; rw [if_pos hb]
    rw [hg, hm]
    by_cases hat : isAt s (step1 s i bad0).i 59 = true
    · have hgot : gotI s (step1 s i bad0).i 59 = sk s (step1 s i bad0).i + 1 := by
        unfold gotI; rw [if_pos (by unfold isAt at hat; simpa using hat)]
      have := sk_ge s (step1 s i bad0).i
      have hle := gotI_le (c := 59) (by omega) sz
      rw [hgot] at hle
      refine ⟨.inl ⟨rfl, hat, g, ?_, ?_⟩, fun _ => by omega⟩
      · rw [hgot]; omega
      · rw [← h, attrsF_more h2 hat]
    · have hgot : gotI s (step1 s i bad0).i 59 = sk s (step1 s i bad0).i := by
        unfold gotI; rw [if_neg (by unfold isAt at hat; simpa using hat)]
      refine ⟨.inr (.inl ⟨rfl, by simpa using hat, ?_⟩), fun e => absurd e hat⟩
      rw [hgot, closeR_sk, ← h, attrsF_last h2 hat]
  · have hn : ¬ (step1 s i bad0).bad < 0 := by omega
    have hg : gB s (step1 s i bad0).i 59 (step1 s i bad0).bad = false := by unfold gB; rw [if_neg hn]
    rw [hg]
    refine ⟨.inr (.inr ⟨h1, rfl, ?_⟩), fun e => by cases e⟩
    rw [← h, attrsF_err h2]
def moreOf : Value → Bool
  | .bool b => b
  | _ => false
end Go.Proofs.YtepeepipgkejiadGreatDoor
