/-
  T1 as a function: what a tree's text means. Both readers are to be held against it.
-/
import Derived.Test.YtnkebfmlaliddaaGreatDoorP02
import Derived.Below
import Derived.Laws.OwnMore
import Derived.Maps.AppendAt
import Derived.Test.YtnkebfmlaliddaaGreatDoorP01
namespace Go.Proofs.YtnkebfmlaliddaaGreatDoor
set_option linter.unusedVariables false

/-- A node: kind, the twelve attributes, text, kids, what is around it. -/
structure Nd where
  kind : Nat
  attr : List Int
  text : List UInt8
  kids : List Nat
  up : Int

/-- The first other fault: its errno and its place. -/
abbrev Flt := Option (Nat × Nat)
def addF (f : Flt) (c p : Nat) : Flt := match f with
  | none => some (c, p)
  | some x => some x
def addIf (b : Bool) (f : Flt) (c p : Nat) : Flt := if b then addF f c p else f

/-- The state behind a part: the place, the nodes, the first other fault. A fault of the grammar is its place alone. -/
structure PS where
  i : Nat
  L : List Nd
  er : Flt

/-- A sign that must stand there: the place behind it. -/
def mustR (s : ByteArray) (i c : Nat) : Except Nat Nat := if isAt s i c then .ok (gotI s i c) else .error (sk s i)
/-- Whether a number is wrong by its digits. -/
def numBad (s : ByteArray) (j k : Nat) : Bool := decide (k = j ∨ j + 6 < k ∨ (j + 1 < k ∧ bat s j = 48))
/-- Does an earlier node have the id? -/
def hasId (L : List Nd) (n : Int) : Bool := L.any fun d => d.attr[0]?.getD 0 == n

/-- One attribute: place, fault, attributes, those seen. -/
def attr1 (s : ByteArray) (kind : Nat) (L : List Nd) (i : Nat) (er : Flt) (a : List Int) (seen : List Nat) : Except Nat (Nat × Flt × List Int × List Nat) :=
  let at_ := sk s i
  let k := run letter s at_
  if k = at_ then .error at_ else
  match mustR s k 61 with
  | .error b => .error b
  | .ok i2 =>
    let j := sk s i2
    let e := run digit s j
    if numBad s j e then .error j else
    let n := dv s j (e - j)
    let ix := findF namesL (s.extract at_ k) 0
    if ix < 0 ∨ ownsB kind ix.toNat = false then .ok (e, addF er 7 at_, a, seen)
    else .ok (e, addIf (decide (ix = 0 ∧ 0 < n) && hasId L n) (addIf (decide (mostL[ix.toNat]?.getD 0 < n)) (addIf (seen.contains ix.toNat) er 5 at_) 6 j) 5 j, a.set ix.toNat n, ix.toNat :: seen)

/-- Attributes, up to the closing brace. -/
def attrsF (s : ByteArray) (kind : Nat) (L : List Nd) : Nat → Nat → Flt → List Int → List Nat → Except Nat (Nat × Flt × List Int)
  | 0, i, _, _, _ => .error i
  | f + 1, i, er, a, seen => match attr1 s kind L i er a seen with
    | .error b => .error b
    | .ok (i2, er2, a2, seen2) =>
      if isAt s i2 59 then attrsF s kind L f (gotI s i2 59) er2 a2 seen2
      else match mustR s i2 125 with
        | .error b => .error b
        | .ok i3 => .ok (i3, er2, a2)
/-- The attributes of a node, if there are braces. -/
def attrsR (s : ByteArray) (kind : Nat) (L : List Nd) (i : Nat) (er : Flt) : Except Nat (Nat × Flt × List Int) :=
  if isAt s i 123 then attrsF s kind L (s.size + 1) (gotI s i 123) er withoutL [] else .ok (sk s i, er, withoutL)

/-- A node more, and a kid more of what is around it. -/
def grown (L : List Nd) (d : Nd) : List Nd :=
  if d.up < 0 then L ++ [d] else (L.modify d.up.toNat fun u => { u with kids := u.kids ++ [L.length] }) ++ [d]
def withText (L : List Nd) (k : Nat) (t : List UInt8) : List Nd := L.modify k fun u => { u with text := t }

/-- Nodes between commas. -/
def kidsF (s : ByteArray) (node : PS → Except Nat PS) : Nat → PS → Except Nat PS
  | 0, st => .error st.i
  | f + 1, st => match node st with
    | .error b => .error b
    | .ok st2 => if isAt s st2.i 44 then kidsF s node f { st2 with i := gotI s st2.i 44 } else match mustR s st2.i 93 with
      | .error b => .error b
      | .ok i3 => .ok { st2 with i := i3 }

/-- The body of node k. -/
def bodyR (s : ByteArray) (kind k : Nat) (node : PS → Except Nat PS) (st : PS) : Except Nat PS :=
  if kind < 3 then match mustR s st.i 91 with
    | .error b => .error b
    | .ok i2 => if isAt s i2 93 then .ok { st with i := gotI s i2 93 } else kidsF s node (s.size + 1) { st with i := sk s i2 }
  else if kind < 5 then match mustR s st.i 91 with
    | .error b => .error b
    | .ok i2 => match node { st with i := i2 } with
      | .error b => .error b
      | .ok st3 => match mustR s st3.i 93 with
        | .error b => .error b
        | .ok i4 => .ok { st3 with i := i4 }
  else if kind = 5 then match quoR s st.i with
    | .error b => .error b
    | .ok (i2, t) => .ok { st with i := i2, L := withText st.L k t }
  else .ok st

/-- One node, and what is within. -/
def nodeF (s : ByteArray) : Nat → Int → Nat → PS → Except Nat PS
  | 0, _, _, st => .error st.i
  | f + 1, up, depth, st =>
    let at_ := sk s st.i
    let k := run letter s at_
    let kind := findF kindsL (s.extract at_ k) 0
    if k = at_ ∨ kind < 0 then .error at_ else
    match attrsR s kind.toNat st.L k (addIf (decide (12 ≤ depth)) (addIf (decide (100 ≤ st.L.length)) st.er 3 at_) 4 at_) with
    | .error b => .error b
    | .ok (i2, er2, a) => bodyR s kind.toNat st.L.length (nodeF s f st.L.length (depth + 1)) { i := i2, L := grown st.L ⟨kind.toNat, a, [], [], up⟩, er := er2 }

/-- T1: the nodes, or an errno and its place. -/
def parse (s : ByteArray) : Except (Nat × Nat) (List Nd) :=
  if 4000 < s.size then .error (1, 0) else
  match nodeF s (s.size + 1) (-1) 0 ⟨0, [], none⟩ with
  | .error b => .error (2, b)
  | .ok st => if sk s st.i < s.size then .error (2, sk s st.i) else match st.er with
    | some f => .error f
    | none => .ok st.L

end Go.Proofs.YtnkebfmlaliddaaGreatDoor

namespace Go.Proofs.YtnkebfmlaliddaaGreatDoor
open Go.RowKit
set_option linter.unusedVariables false

/-- A node's five cells: its attributes and its kids are lists of their own. -/
def ndCells (d : Nd) (av kv : Value) : List Value := [.int .i64 (d.kind : Int), av, .string ⟨d.text.toArray⟩, kv, .int .i64 d.up]
def ndAll : List Nd → List Value → List Value → List Value
  | d :: L, a :: A, k :: K => ndCells d a k ++ ndAll L A K
  | _, _, _ => []
theorem ndAll_len : ∀ (L : List Nd) (A K : List Value), A.length = L.length → K.length = L.length → (ndAll L A K).length = L.length * 5
  | [], A, K, _, _ => by simp [ndAll]
  | d :: L, [], K, h, _ => by simp at h
  | d :: L, a :: A, [], _, h => by simp at h
  | d :: L, a :: A, k :: K, h1, h2 => by
    have := ndAll_len L A K (by simpa using h1) (by simpa using h2)
    simp [ndAll, ndCells, this]; omega
theorem ndAll_at : ∀ (L : List Nd) (A K : List Value) (j : Nat) (d : Nd) (a k : Value), A.length = L.length → K.length = L.length → L[j]? = some d → A[j]? = some a → K[j]? = some k → ∀ t, t < 5 → (ndAll L A K)[j * 5 + t]? = (ndCells d a k)[t]?
  | [], A, K, j, d, a, k, _, _, h, _, _ => by simp at h
  | x :: L, [], K, j, d, a, k, h, _, _, _, _ => by simp at h
  | x :: L, y :: A, [], j, d, a, k, _, h, _, _, _ => by simp at h
  | x :: L, y :: A, z :: K, 0, d, a, k, h1, h2, e1, e2, e3 => by
    intro t ht
    simp at e1 e2 e3
    subst e1 e2 e3
    rw [ndAll, Nat.zero_mul, Nat.zero_add, List.getElem?_append_left (by simp [ndCells]; omega)]
  | x :: L, y :: A, z :: K, j + 1, d, a, k, h1, h2, e1, e2, e3 => by
    intro t ht
    have := ndAll_at L A K j d a k (by simpa using h1) (by simpa using h2) (by simpa using e1) (by simpa using e2) (by simpa using e3) t ht
    rw [ndAll, List.getElem?_append_right (by simp [ndCells]; omega)]
    rw [show (j + 1) * 5 + t - (ndCells x y z).length = j * 5 + t by simp [ndCells]; omega]
    exact this

/-- Twelve numbers that stand at a block's head. -/
def Attr (W : World) (B : Nat) (v : Value) (a : List Int) : Prop := ∃ ab, v = .slice (some ⟨ab, 0, none⟩) 12 12 ∧ B ≤ ab ∧ ab < W.heap.size ∧ a.length = 12 ∧ ∀ j, j < 12 → W.cell? ⟨ab, j, none⟩ = some (.int .i64 (a[j]?.getD 0)) ∧ W.frozen? ⟨ab, j, none⟩ = false
def blockOf : Value → Option Nat
  | .slice (some a) _ _ => some a.block
  | _ => none

/-- The nodes in memory, all behind B. -/
structure NA (W : World) (B : Nat) (lv : Value) (L : List Nd) (AV KV : List Value) : Prop where
  row : W.ownsRow B 74 5 lv L.length (ndAll L AV KV)
  lenA : AV.length = L.length
  lenK : KV.length = L.length
  attr : ∀ (j : Nat) d v, L[j]? = some d → AV[j]? = some v → Attr W B v d.attr
  kids : ∀ (j : Nat) d v, L[j]? = some d → KV[j]? = some v → W.ownsRow B 3 1 v d.kids.length (d.kids.map fun (k : Nat) => .int .i64 (k : Int))
  sepKK : ∀ (i j : Nat) (u v : Value), i ≠ j → KV[i]? = some u → KV[j]? = some v → ∀ b, u.ownBlock = some b → v.ownBlock ≠ some b
  sepKL : ∀ (j : Nat) (v : Value), KV[j]? = some v → ∀ b, v.ownBlock = some b → lv.ownBlock ≠ some b
  sepAL : ∀ (j : Nat) (v : Value), AV[j]? = some v → ∀ b, blockOf v = some b → lv.ownBlock ≠ some b
  sepAK : ∀ (i j : Nat) (u v : Value), AV[i]? = some u → KV[j]? = some v → ∀ b, blockOf u = some b → v.ownBlock ≠ some b

theorem own_grown {W W' : World} {B r n size : Nat} {e : TypeId} {v : Value} {xs : List Value} (h : W.ownsRow B e size v n xs) (hg : W.grownBy W' (some r)) (hn : ∀ b, v.ownBlock = some b → b ≠ r) : W'.ownsRow B e size v n xs := by
  refine ⟨h.1, ?_⟩
  rcases h.2 with h2 | ⟨g, cap, cur, a, b, c, d⟩
  · exact .inl h2
  · have hgr : g ≠ r := hn g (by rw [a]; rfl)
    refine .inr ⟨g, cap, cur, a, b, ?_, d⟩
    rw [hg.block g (Array.getElem?_eq_some_iff.1 c).1 (fun e => hgr (by injection e))]; exact c
theorem own_ge {W : World} {B n size : Nat} {e : TypeId} {v : Value} {xs : List Value} (h : W.ownsRow B e size v n xs) {b : Nat} (hb : v.ownBlock = some b) : B ≤ b ∧ b < W.heap.size := h.lt b hb
theorem gfrozen {A B : World} {r b o : Nat} (hb : A.grownBy B (some r)) (hl : b < A.heap.size) (hn : b ≠ r) : B.frozen? ⟨b, o, none⟩ = A.frozen? ⟨b, o, none⟩ := by
  unfold World.frozen?
  rw [hb.block b hl (fun e => hn (by injection e))]
theorem Attr.grown {W W' : World} {B r : Nat} {v : Value} {a : List Int} (h : Attr W B v a) (hg : W.grownBy W' (some r)) (hn : ∀ b, blockOf v = some b → b ≠ r) : Attr W' B v a := by
  obtain ⟨ab, rfl, h1, h2, h3, h4⟩ := h
  have hne : ab ≠ r := hn ab rfl
  exact ⟨ab, rfl, h1, Nat.lt_of_lt_of_le h2 hg.size, h3, fun j hj => ⟨hg.cell (h4 j hj).1 (by simpa using hne), (gfrozen hg h2 hne).trans (h4 j hj).2⟩⟩

/-- What turns only a block ahead of B leaves the nodes. -/
theorem NA.grown {W W' : World} {B r : Nat} {lv : Value} {L : List Nd} {AV KV : List Value} (h : NA W B lv L AV KV) (hg : W.grownBy W' (some r)) (hr : r < B) : NA W' B lv L AV KV := by
  refine ⟨own_grown h.row hg fun b hb => by have := own_ge h.row hb; omega, h.lenA, h.lenK, fun j d v h1 h2 => ?_, fun j d v h1 h2 => ?_, h.sepKK, h.sepKL, h.sepAL, h.sepAK⟩
  · refine (h.attr j d v h1 h2).grown hg fun b hb => ?_
    obtain ⟨ab, rfl, h3, _⟩ := h.attr j d v h1 h2
    injection hb with hb
    have : ab = b := hb
    omega
  · exact own_grown (h.kids j d v h1 h2) hg fun b hb => by have := own_ge (h.kids j d v h1 h2) hb; omega

set_option maxRecDepth 100000 in
set_option maxHeartbeats 4000000 in
theorem number_bad (rb : Nat) (s : ByteArray) (i : Nat) (lv : Value) (bad er at_ dep : Int) (w : World) (h : RS w rb s i lv bad er at_ dep) (hs : s.size ≤ 1099511627776) (hi : i ≤ s.size) (hb : 0 ≤ bad) :
    Calls Tryz.prog 79 #[.pointer (some ⟨rb, 0, none⟩)] w fun e w' => e = .returned (.tuple #[.int .i64 0, .int .i64 (sk s i : Int)]) ∧ RS w' rb s (sk s i) lv bad er at_ dep ∧ w.grownBy w' (some rb) := by
  have CS : Hid (Calls Tryz.prog 20 #[.pointer (some ⟨rb, 0, none⟩)] w fun e w' => e = .returned (.tuple #[]) ∧ RS w' rb s (sk s i) lv bad er at_ dep ∧ w.grownBy w' (some rb)) := skip_any rb s i lv bad er at_ dep w h hs hi
  obtain ⟨j, hj⟩ : ∃ j, sk s i = j := ⟨_, rfl⟩
  have hjs := sk_le s i hi
  rw [hj] at CS hjs ⊢
  clear h hj
  go_enter Tryz.func79, Tryz.ntmps79
  go_wp2_with fail
  refine CS.out.mono ?_
  rintro e w1 ⟨rfl, h1, g1⟩
  have HR : Hid (RS w1 rb s j lv bad er at_ dep) := h1
  have HG1 : Hid (w.grownBy w1 (some rb)) := g1
  have d1 := h1.c1
  have hb' : ¬ bad < 0 := by omega
  have eb : decide (bad < 0) = false := decide_eq_false hb'
  clear h1 g1 CS
  go_wp2
  clear d1
  go_loopw [5, 13] (fun v _ wr => v = .int .i64 0 ∧ Hid (RS wr rb s j lv bad er at_ dep) ∧ Hid (w.grownBy wr (some rb))) (fun _ _ wr => 0)
  case atStart => exact ⟨rfl, HR.out, HG1.out⟩
  case round =>
    obtain ⟨rfl, HS, HG⟩ := hrel
    have hs1 := HS.out
    have c0 := hs1.c0
    have c1 := hs1.c1
    have c3 := hs1.c3
    have CF : Hid (∀ W, RS W rb s j lv bad er at_ dep → Calls Tryz.prog 21 #[.pointer (some ⟨rb, 0, none⟩), .int .i64 (j : Int)] W fun e w' => e = .returned (.tuple #[]) ∧ RS w' rb s j lv (badI bad j) er at_ dep ∧ W.grownBy w' (some rb)) := fun W h => fail_any rb s j lv bad er at_ dep j W h
    have HE : Hid (badI bad (j : Int) = bad) := by show _ = _; unfold badI; rw [if_neg (by omega)]
    have u0 : (j : Int) - (j : Int) = 0 := by omega
    clear hs1
    go_wp2_with fail
    go_quiet (fail)
    go_wp2_with fail
    refine (CF.out _ (HS.out.drewN _)).mono ?_
    rintro e w2 ⟨rfl, h2, g2⟩
    have H2 : Hid (RS w2 rb s j lv bad er at_ dep) := by have := h2; rw [HE.out] at this; exact this
    have HG2 : Hid (w.grownBy w2 (some rb)) := gr_trans (gr_trans HG.out (gr_drewN _ _ _)) g2
    clear h2 g2 c0 c1 c3
    go_wp2
    go_ret2
    exact ⟨rfl, H2.out, HG2.out⟩

end Go.Proofs.YtnkebfmlaliddaaGreatDoor

namespace Go.Proofs.YtnkebfmlaliddaaGreatDoor
open Go.RowKit
set_option linter.unusedVariables false

def kInts (l : List Nat) : List Value := l.map fun (k : Nat) => .int .i64 (k : Int)

/-- Blocks from B on are as they were. -/
structure Up (B : Nat) (W W' : World) : Prop where
  size : W.heap.size ≤ W'.heap.size
  block : ∀ b, B ≤ b → b < W.heap.size → W'.heap[b]? = W.heap[b]?
theorem Up.refl (B : Nat) (W : World) : Up B W W := ⟨Nat.le_refl _, fun _ _ _ => rfl⟩
theorem Up.trans {B : Nat} {W W1 W2 : World} (h : Up B W W1) (k : Up B W1 W2) : Up B W W2 :=
  ⟨Nat.le_trans h.size k.size, fun b h1 h2 => (k.block b h1 (Nat.lt_of_lt_of_le h2 h.size)).trans (h.block b h1 h2)⟩
theorem Up.grown {B r : Nat} {W W' : World} (h : W.grownBy W' (some r)) (hr : r < B) : Up B W W' :=
  ⟨h.size, fun b h1 h2 => h.block b h2 (by simp; omega)⟩
theorem Up.below {B : Nat} {W W' : World} (h : Below W.heap.size W W') : Up B W W' := ⟨h.size, fun b _ h2 => h.block b h2⟩
theorem Up.drewN (B : Nat) (W : World) (q : Nat) : Up B W (W.drewN q) := ⟨Nat.le_refl _, fun _ _ _ => rfl⟩

theorem own_up {W W' : World} {B n size : Nat} {e : TypeId} {v : Value} {xs : List Value} (h : W.ownsRow B e size v n xs) (hu : Up B W W') : W'.ownsRow B e size v n xs := by
  refine ⟨h.1, ?_⟩
  rcases h.2 with h2 | ⟨g, cap, cur, a, b, c, d⟩
  · exact .inl h2
  · refine .inr ⟨g, cap, cur, a, b, ?_, d⟩
    rw [hu.block g b (Array.getElem?_eq_some_iff.1 c).1]; exact c
/-- Rows of different types do not share a block. -/
theorem own_apart {W : World} {B B' n n' size size' : Nat} {e e' : TypeId} {v v' : Value} {xs xs' : List Value} (h : W.ownsRow B e size v n xs) (h' : W.ownsRow B' e' size' v' n' xs') (he : e ≠ e') : v.ownBlock = none ∨ v.ownBlock ≠ v'.ownBlock := by
  rcases h.2 with ⟨rfl, _⟩ | ⟨g, cap, cur, rfl, b, c, d⟩
  · exact .inl rfl
  · right
    rcases h'.2 with ⟨rfl, _⟩ | ⟨g', cap', cur', rfl, b', c', d'⟩
    · simp [Value.ownBlock]
    · intro hh
      simp [Value.ownBlock] at hh
      subst hh
      rw [c] at c'
      injection c' with c'
      injection c' with _ c'
      exact he c'
theorem own_form {W : World} {B n size : Nat} {e : TypeId} {v : Value} {xs : List Value} (h : W.ownsRow B e size v n xs) : (v = .slice none 0 0 ∧ n = 0) ∨ ∃ g cap, v = .slice (some ⟨g, 0, none⟩) n cap ∧ B ≤ g ∧ g < W.heap.size ∧ n ≤ cap ∧ cap ≤ maxLen := by
  rcases h.2 with h2 | ⟨g, cap, cur, a, b, c, d, f, _⟩
  · exact .inl h2
  · exact .inr ⟨g, cap, a, b, (Array.getElem?_eq_some_iff.1 c).1, d, f⟩

/-- n nodes of z cells each; C has the cells, KV the lists of kids, K what they hold. -/
structure NR (W : World) (B : Nat) (T : TypeId) (z : Nat) (nv : Value) (n : Nat) (C : Nat → List Value) (KV : Nat → Value) (K : Nat → List Nat) : Prop where
  row : ∃ xs, W.ownsRow B T z nv n xs
  cells : ∀ g, nv.ownBlock = some g → ∀ j, j < n → ∀ (t : Nat) u, (C j)[t]? = some u → W.cell? ⟨g, j * z + t, none⟩ = some u
  len : ∀ j, j < n → (C j).length = z
  kids : ∀ j, j < n → W.ownsRow B 3 1 (KV j) (K j).length (kInts (K j))
  sep : ∀ i j, i < n → j < n → i ≠ j → ∀ b, (KV i).ownBlock = some b → (KV j).ownBlock ≠ some b

section
variable {W W' : World} {B z n : Nat} {T : TypeId} {nv : Value} {C : Nat → List Value} {KV : Nat → Value} {K : Nat → List Nat}

theorem NR.nothing (W : World) (B : Nat) (T : TypeId) (z : Nat) (C : Nat → List Value) (KV : Nat → Value) (K : Nat → List Nat) : NR W B T z (.slice none 0 0) 0 C KV K :=
  ⟨⟨[], World.ownsRow_nil _ _ _ _⟩, fun _ _ j h => absurd h (by omega), fun j h => absurd h (by omega), fun j h => absurd h (by omega), fun i j h => absurd h (by omega)⟩
theorem NR.up (h : NR W B T z nv n C KV K) (hu : Up B W W') : NR W' B T z nv n C KV K := by
  obtain ⟨xs, hx⟩ := h.row
  refine ⟨⟨xs, own_up hx hu⟩, fun g hg j hj t u htu => ?_, h.len, fun j hj => own_up (h.kids j hj) hu, h.sep⟩
  have := h.cells g hg j hj t u htu
  have hl := hx.lt g hg
  rw [World.cell?_of_block (hu.block g hl.1 hl.2)]; exact this
theorem NR.form (h : NR W B T z nv n C KV K) (hn : 0 < n) : ∃ g cap, nv = .slice (some ⟨g, 0, none⟩) n cap ∧ B ≤ g ∧ g < W.heap.size ∧ n ≤ cap ∧ cap ≤ maxLen := by
  obtain ⟨xs, hx⟩ := h.row
  rcases own_form hx with ⟨_, h0⟩ | h1
  · omega
  · exact h1
theorem NR.cell {g cap : Nat} (h : NR W B T z (.slice (some ⟨g, 0, none⟩) n cap) n C KV K) {j : Nat} (hj : j < n) {t : Nat} {u : Value} (ht : (C j)[t]? = some u) : W.cell? ⟨g, j * z + t, none⟩ = some u := h.cells g rfl j hj t u ht
theorem NR.frozen {g cap : Nat} (h : NR W B T z (.slice (some ⟨g, 0, none⟩) n cap) n C KV K) (j : Nat) : W.frozen? ⟨g, j, none⟩ = false := by
  obtain ⟨xs, hx⟩ := h.row
  exact hx.frozenAt j

theorem NR.frz (h : NR W B T z nv n C KV K) {g : Nat} (hg : nv.ownBlock = some g) (j : Nat) : W.frozen? ⟨g, j, none⟩ = false := by
  obtain ⟨xs, hx⟩ := h.row
  rcases own_form hx with ⟨rfl, _⟩ | ⟨g', cap, rfl, _⟩
  · simp [Value.ownBlock] at hg
  · simp [Value.ownBlock] at hg
    subst hg
    exact hx.frozenAt j

/-- A node more. -/
theorem NR.app {nv' : Value} {xs news : List Value} (h : NR W B T z nv n C KV K) (hT : 3 ≠ T) (hx : W.ownsRow B T z nv n xs) (hx' : W'.ownsRow B T z nv' (n + 1) (xs ++ news)) (hg : W.grownBy W' nv.ownBlock) (hl : news.length = z) :
    NR W' B T z nv' (n + 1) (fun j => if j = n then news else C j) (fun j => if j = n then .slice none 0 0 else KV j) (fun j => if j = n then [] else K j) := by
  have hxl := hx.1
  refine ⟨⟨_, hx'⟩, fun g hg' j hj t u htu => ?_, fun j hj => ?_, fun j hj => ?_, fun i j hi hj hij b hb => ?_⟩
  · have key := hx'.cells hg'
    have hadd : ∀ m, (⟨g, 0, none⟩ : Addr).add m = ⟨g, m, none⟩ := fun m => by unfold Addr.add; split <;> simp_all
    have hz : t < z := by
      have h1 := (List.getElem?_eq_some_iff.1 htu).1
      by_cases hjn : j = n
      · rw [if_pos hjn] at h1; omega
      · rw [if_neg hjn, h.len j (by omega)] at h1; exact h1
    rw [← hadd]
    refine key _ _ ?_
    by_cases hjn : j = n
    · subst hjn
      rw [if_pos rfl] at htu
      rw [List.getElem?_append_right (by rw [hxl]; omega), hxl, show j * z + t - j * z = t by omega]; exact htu
    · rw [if_neg hjn] at htu
      have hlt : j * z + t < n * z := by
        have : (j + 1) * z ≤ n * z := Nat.mul_le_mul_right _ (by omega)
        rw [Nat.add_mul] at this; omega
      rw [List.getElem?_append_left (by rw [hxl]; exact hlt)]
      obtain ⟨g0, cap, rfl, _⟩ := h.form (by omega)
      have h1 := h.cell (by omega) htu
      rw [hx.cellAt _ hlt] at h1; exact h1
  · by_cases hjn : j = n
    · rw [if_pos hjn]; exact hl
    · rw [if_neg hjn]; exact h.len j (by omega)
  · by_cases hjn : j = n
    · rw [if_pos hjn, if_pos hjn]; exact World.ownsRow_nil _ _ _ _
    · rw [if_neg hjn, if_neg hjn]
      exact (h.kids j (by omega)).kept hg (own_apart (h.kids j (by omega)) hx hT)
  · by_cases h1 : i = n
    · rw [if_pos h1] at hb; simp [Value.ownBlock] at hb
    · rw [if_neg h1] at hb
      by_cases h2 : j = n
      · rw [if_pos h2]; simp [Value.ownBlock]
      · rw [if_neg h2]; exact h.sep i j (by omega) (by omega) hij b hb

/-- A cell of a node written, that is not its list of kids. -/
theorem NR.set {g cap : Nat} (h : NR W B T z (.slice (some ⟨g, 0, none⟩) n cap) n C KV K) (hT : 3 ≠ T) {k t : Nat} (hk : k < n) (ht : t < z) (u : Value) :
    NR (W.setCell ⟨g, k * z + t, none⟩ u) B T z (.slice (some ⟨g, 0, none⟩) n cap) n (fun j => if j = k then (C k).set t u else C j) KV K := by
  obtain ⟨xs, hx⟩ := h.row
  have hst := hx.stored (k * z + t) u
  have hkt : k * z + t < n * z := by
    have : (k + 1) * z ≤ n * z := Nat.mul_le_mul_right _ (by omega)
    rw [Nat.add_mul] at this; omega
  refine ⟨⟨_, hst.1⟩, fun g' hg' j hj t' u' htu => ?_, fun j hj => ?_, fun j hj => ?_, h.sep⟩
  · injection hg' with hg'
    have hg' : g = g' := hg'
    subst hg'
    have hz : t' < z := by
      have h1 := (List.getElem?_eq_some_iff.1 htu).1
      by_cases hjn : j = k
      · rw [if_pos hjn] at h1; simp [h.len k hk] at h1; exact h1
      · rw [if_neg hjn, h.len j (by omega)] at h1; exact h1
    have hlt : j * z + t' < n * z := by
      have : (j + 1) * z ≤ n * z := Nat.mul_le_mul_right _ (by omega)
      rw [Nat.add_mul] at this; omega
    rw [hst.1.cellAt _ hlt]
    have hold : xs[j * z + t']? = W.cell? ⟨g, j * z + t', none⟩ := (hx.cellAt _ hlt).symm
    by_cases hjk : j = k
    · subst hjk
      rw [if_pos rfl] at htu
      by_cases htt : t = t'
      · subst htt
        rw [List.getElem?_set_self (by rw [hx.1]; exact hkt)]
        rw [List.getElem?_set_self (by rw [h.len j hk]; exact ht)] at htu
        exact htu
      · rw [List.getElem?_set_ne (by omega)] at htu ⊢
        rw [hold]; exact h.cell hj htu
    · rw [if_neg hjk] at htu
      have hne : k * z + t ≠ j * z + t' := by
        intro e
        rcases Nat.lt_or_gt_of_ne hjk with hh | hh
        · have : (j + 1) * z ≤ k * z := Nat.mul_le_mul_right _ (by omega)
          rw [Nat.add_mul] at this; omega
        · have : (k + 1) * z ≤ j * z := Nat.mul_le_mul_right _ (by omega)
          rw [Nat.add_mul] at this; omega
      rw [List.getElem?_set_ne hne, hold]; exact h.cell hj htu
  · by_cases hjk : j = k
    · rw [if_pos hjk]; simp [h.len k hk]
    · rw [if_neg hjk]; exact h.len j hj
  · exact (h.kids j hj).kept hst.2 (own_apart (h.kids j hj) hx hT)

/-- A kid more, not yet told to its node: what the append leaves; and then the store of the new list. -/
theorem NR.kid {g cap : Nat} {kv' : Value} {k t c : Nat} (h : NR W B T z (.slice (some ⟨g, 0, none⟩) n cap) n C KV K) (hT : 3 ≠ T) (hk : k < n) (ht : t < z)
    (hr : W'.ownsRow B 3 1 kv' ((K k).length + 1) (kInts (K k ++ [c]))) (hg : W.grownBy W' (KV k).ownBlock) (hat : kv'.ownBlock = (KV k).ownBlock ∨ kv'.ownBlock = some W.heap.size) :
    NR (W'.setCell ⟨g, k * z + t, none⟩ kv') B T z (.slice (some ⟨g, 0, none⟩) n cap) n (fun j => if j = k then (C k).set t kv' else C j) (fun j => if j = k then kv' else KV j) (fun j => if j = k then K k ++ [c] else K j) := by
  obtain ⟨xs, hx⟩ := h.row
  have hx' : W'.ownsRow B T z (.slice (some ⟨g, 0, none⟩) n cap) n xs := hx.kept hg (own_apart hx (h.kids k hk) (Ne.symm hT))
  have hgl := hx.lt g rfl
  have hblk : W'.heap[g]? = W.heap[g]? := hg.block g hgl.2 (by
    rcases own_apart (h.kids k hk) hx hT with e | e
    · rw [e]; simp
    · exact fun e2 => e e2.symm)
  have hother : ∀ j, j < n → j ≠ k → W'.ownsRow B 3 1 (KV j) (K j).length (kInts (K j)) := fun j hj hjk => (h.kids j hj).kept hg (by
    cases hb : (KV j).ownBlock with
    | none => exact .inl rfl
    | some b => right; exact fun e => h.sep j k hj hk hjk b hb e.symm)
  -- the state between, as rows whose kids of k are taken from kv'
  have mid : NR W' B T z (.slice (some ⟨g, 0, none⟩) n cap) n C (fun j => if j = k then kv' else KV j) (fun j => if j = k then K k ++ [c] else K j) := by
    refine ⟨⟨xs, hx'⟩, fun g' hg' j hj t' u' htu => ?_, h.len, fun j hj => ?_, fun i j hi hj hij b hb => ?_⟩
    · injection hg' with hg'
      have hg' : g = g' := hg'
      subst hg'
      rw [World.cell?_of_block hblk]; exact h.cell hj htu
    · by_cases hjk : j = k
      · rw [if_pos hjk, if_pos hjk]; simpa using hr
      · rw [if_neg hjk, if_neg hjk]; exact hother j hj hjk
    · have hfar : ∀ i, i < n → (KV i).ownBlock ≠ some W.heap.size := fun i hi e => by have := (h.kids i hi).lt _ e; omega
      by_cases h1 : i = k
      · rw [if_pos h1] at hb
        have h2 : j ≠ k := fun e => hij (h1.trans e.symm)
        rw [if_neg h2]
        rcases hat with e | e
        · rw [e] at hb; exact h.sep k j hk hj (fun e => h2 e.symm) b hb
        · rw [e] at hb; injection hb with hb; rw [← hb]; exact hfar j hj
      · rw [if_neg h1] at hb
        by_cases h2 : j = k
        · rw [if_pos h2]
          rcases hat with e | e
          · rw [e]; exact h.sep i k hi hk h1 b hb
          · rw [e]; intro e2; injection e2 with e2; exact hfar i hi (by rw [hb, e2])
        · rw [if_neg h2]; exact h.sep i j hi hj hij b hb
  exact mid.set hT hk ht kv'
end

end Go.Proofs.YtnkebfmlaliddaaGreatDoor

namespace Go.Proofs.YtnkebfmlaliddaaGreatDoor
open Go.RowKit
set_option linter.unusedVariables false

def wS (s : ByteArray) (i : Nat) (bad : Int) : ByteArray := if bad < 0 then s.extract (sk s i) (run letter s (sk s i)) else ByteArray.empty
def wI (s : ByteArray) (i : Nat) (bad : Int) : Nat := if bad < 0 then run letter s (sk s i) else sk s i
def wB (s : ByteArray) (i : Nat) (bad : Int) : Int := if bad < 0 then wordB s i bad else bad
def mI (s : ByteArray) (i c : Nat) (bad : Int) : Nat := if bad < 0 then gotI s i c else sk s i
def mB (s : ByteArray) (i c : Nat) (bad : Int) : Int := if bad < 0 then mustB s i c bad else bad
def gB (s : ByteArray) (i c : Nat) (bad : Int) : Bool := if bad < 0 then isAt s i c else false
def nV (s : ByteArray) (i : Nat) (bad : Int) : Int := if bad < 0 then dv s (sk s i) (run digit s (sk s i) - sk s i) else 0
def nI (s : ByteArray) (i : Nat) (bad : Int) : Nat := if bad < 0 then run digit s (sk s i) else sk s i
def nB (s : ByteArray) (i : Nat) (bad : Int) : Int := if bad < 0 then numB s (sk s i) (run digit s (sk s i)) bad else bad

theorem wI_le {s : ByteArray} {i : Nat} (bad : Int) (hi : i ≤ s.size) : wI s i bad ≤ s.size := by
  unfold wI; split
  · exact run_le _ _ _ (sk_le s i hi)
  · exact sk_le s i hi
theorem gotI_le {s : ByteArray} {i c : Nat} (hc : c < 256) (hi : i ≤ s.size) : gotI s i c ≤ s.size := by
  unfold gotI; split
  · rename_i h
    by_cases e : sk s i < s.size
    · omega
    · rw [bat_out e] at h; omega
  · exact sk_le s i hi
theorem mI_le {s : ByteArray} {i c : Nat} (bad : Int) (hc : c < 256) (hi : i ≤ s.size) : mI s i c bad ≤ s.size := by
  unfold mI; split
  · exact gotI_le hc hi
  · exact sk_le s i hi
theorem nI_le {s : ByteArray} {i : Nat} (bad : Int) (hi : i ≤ s.size) : nI s i bad ≤ s.size := by
  unfold nI; split
  · exact run_le _ _ _ (sk_le s i hi)
  · exact sk_le s i hi
theorem nV_bd (s : ByteArray) (i : Nat) (bad : Int) : 0 ≤ nV s i bad ∧ nV s i bad ≤ 999999 := by
  unfold nV; split
  · have h := dv_bd s (sk s i) (run digit s (sk s i) - sk s i) (fun t ht => by
      have := run_all (p := digit) s (s.size - sk s i) (sk s i) t (by have h2 : runF digit s (s.size - sk s i) (sk s i) = run digit s (sk s i) := rfl; omega)
      unfold digit at this
      simpa using this)
    exact ⟨h.1, h.2.1⟩
  · omega

theorem word_all (rb : Nat) (s : ByteArray) (i : Nat) (lv : Value) (bad er at_ dep : Int) (w : World) (h : RS w rb s i lv bad er at_ dep) (hs : s.size ≤ 1099511627776) (hi : i ≤ s.size) :
    Calls Tryz.prog 46 #[.pointer (some ⟨rb, 0, none⟩)] w fun e w' => e = .returned (.string (wS s i bad)) ∧ RS w' rb s (wI s i bad) lv (wB s i bad) er at_ dep ∧ w.grownBy w' (some rb) := by
  unfold wS wI wB
  by_cases hb : bad < 0
  · rw [if_pos hb, if_pos hb, if_pos hb]; exact word_any rb s i lv bad er at_ dep w h hs hi hb
  · rw [if_neg hb, if_neg hb, if_neg hb]; exact word_bad rb s i lv bad er at_ dep w h hs hi (by omega)
theorem must_all (rb : Nat) (s : ByteArray) (i : Nat) (lv : Value) (bad er at_ dep : Int) (c : Nat) (w : World) (h : RS w rb s i lv bad er at_ dep) (hs : s.size ≤ 1099511627776) (hi : i ≤ s.size) (hc : c < 256) :
    Calls Tryz.prog 51 #[.pointer (some ⟨rb, 0, none⟩), .int .u8 (c : Int)] w fun e w' => e = .returned (.tuple #[]) ∧ RS w' rb s (mI s i c bad) lv (mB s i c bad) er at_ dep ∧ w.grownBy w' (some rb) := by
  unfold mI mB
  by_cases hb : bad < 0
  · rw [if_pos hb, if_pos hb]; exact must_any rb s i lv bad er at_ dep c w h hs hi hc hb
  · rw [if_neg hb, if_neg hb]; exact must_bad rb s i lv bad er at_ dep c w h hs hi (by omega)
theorem got_all (rb : Nat) (s : ByteArray) (i : Nat) (lv : Value) (bad er at_ dep : Int) (c : Nat) (w : World) (h : RS w rb s i lv bad er at_ dep) (hs : s.size ≤ 1099511627776) (hi : i ≤ s.size) (hc : c < 256) :
    Calls Tryz.prog 78 #[.pointer (some ⟨rb, 0, none⟩), .int .u8 (c : Int)] w fun e w' => e = .returned (.bool (gB s i c bad)) ∧ RS w' rb s (mI s i c bad) lv bad er at_ dep ∧ w.grownBy w' (some rb) := by
  unfold mI gB
  by_cases hb : bad < 0
  · rw [if_pos hb, if_pos hb]; exact got_any rb s i lv bad er at_ dep c w h hs hi hc hb
  · rw [if_neg hb, if_neg hb]; exact got_bad rb s i lv bad er at_ dep c w h hs hi (by omega)
theorem number_all (rb : Nat) (s : ByteArray) (i : Nat) (lv : Value) (bad er at_ dep : Int) (w : World) (h : RS w rb s i lv bad er at_ dep) (hs : s.size ≤ 1099511627776) (hi : i ≤ s.size) :
    Calls Tryz.prog 79 #[.pointer (some ⟨rb, 0, none⟩)] w fun e w' => e = .returned (.tuple #[.int .i64 (nV s i bad), .int .i64 (sk s i : Int)]) ∧ RS w' rb s (nI s i bad) lv (nB s i bad) er at_ dep ∧ w.grownBy w' (some rb) := by
  unfold nV nI nB
  by_cases hb : bad < 0
  · rw [if_pos hb, if_pos hb, if_pos hb]; exact number_any rb s i lv bad er at_ dep w h hs hi hb
  · rw [if_neg hb, if_neg hb, if_neg hb]; exact number_bad rb s i lv bad er at_ dep w h hs hi (by omega)

/-- What one attribute leaves, whatever stands: the place, the fault, the number, and its place, the name's place, its number in the list of names. -/
structure Step where
  i : Nat
  bad : Int
  n : Int
  p : Nat
  at_ : Nat
  ix : Int
def step1 (s : ByteArray) (i : Nat) (bad : Int) : Step :=
  let j := sk s i
  let i1 := wI s j bad
  let b1 := wB s j bad
  let i2 := mI s i1 61 b1
  let b2 := mB s i1 61 b1
  { i := nI s i2 b2, bad := nB s i2 b2, n := nV s i2 b2, p := sk s i2, at_ := j, ix := findF namesL (wS s j bad) 0 }

end Go.Proofs.YtnkebfmlaliddaaGreatDoor

namespace Go.Proofs.YtnkebfmlaliddaaGreatDoor
open Go.RowKit
set_option linter.unusedVariables false

/-- The program's reader at rb: the text, the place, the table of attributes, the nodes, the first other fault. -/
structure PR (W : World) (rb : Nat) (s : ByteArray) (i : Nat) (av nv fv : Value) : Prop where
  lt : rb < W.heap.size
  c0 : W.cell? ⟨rb, 0, none⟩ = some (.string s)
  c1 : W.cell? ⟨rb, 1, none⟩ = some (.int .i64 (i : Int))
  c2 : W.cell? ⟨rb, 2, none⟩ = some av
  c3 : W.cell? ⟨rb, 3, none⟩ = some nv
  c4 : W.cell? ⟨rb, 4, none⟩ = some fv
  fz : ∀ j, W.frozen? ⟨rb, j, none⟩ = false
theorem PR.below {W W' : World} {rb : Nat} {s : ByteArray} {i : Nat} {av nv fv : Value} (h : PR W rb s i av nv fv) (hb : Below W.heap.size W W') : PR W' rb s i av nv fv :=
  have k : ∀ j v, W.cell? ⟨rb, j, none⟩ = some v → W'.cell? ⟨rb, j, none⟩ = some v := fun j v e => (hb.cell (p := ⟨rb, j, none⟩) h.lt).trans e
  ⟨Nat.lt_of_lt_of_le h.lt hb.size, k _ _ h.c0, k _ _ h.c1, k _ _ h.c2, k _ _ h.c3, k _ _ h.c4, fun j => (hb.frozen (p := ⟨rb, j, none⟩) h.lt).trans (h.fz j)⟩
theorem PR.drewN {W : World} {rb : Nat} {s : ByteArray} {i : Nat} {av nv fv : Value} (h : PR W rb s i av nv fv) (n : Nat) : PR (W.drewN n) rb s i av nv fv :=
  ⟨h.lt, h.c0, h.c1, h.c2, h.c3, h.c4, h.fz⟩
theorem PR.setI {W : World} {rb : Nat} {s : ByteArray} {i : Nat} {av nv fv : Value} (h : PR W rb s i av nv fv) (i' : Nat) : PR (W.setCell ⟨rb, 1, none⟩ (.int .i64 (i' : Int))) rb s i' av nv fv :=
  ⟨by simpa using h.lt, rs_other (by omega) h.c0, rs_same h.c1, rs_other (by omega) h.c2, rs_other (by omega) h.c3, rs_other (by omega) h.c4, fun j => by rw [World.frozen?_setCell]; exact h.fz j⟩

/-- The place that the reader is at. -/
def prI (W : World) (rb : Nat) : Nat := match W.cell? ⟨rb, 1, none⟩ with
  | some (.int _ x) => x.toNat
  | _ => 0
theorem PR.prI {W : World} {rb : Nat} {s : ByteArray} {i : Nat} {av nv fv : Value} (h : PR W rb s i av nv fv) : prI W rb = i := by
  unfold Go.Proofs.YtnkebfmlaliddaaGreatDoor.prI; rw [h.c1]; simp

set_option maxRecDepth 100000 in
set_option maxHeartbeats 2000000 in
theorem skipBlanks_any (rb : Nat) (s : ByteArray) (i : Nat) (av nv fv : Value) (w : World) (h : PR w rb s i av nv fv) (hs : s.size ≤ 1099511627776) (hi : i ≤ s.size) :
    Calls Tryz.prog 44 #[.pointer (some ⟨rb, 0, none⟩)] w fun e w' => e = .returned (.tuple #[]) ∧ PR w' rb s (sk s i) av nv fv ∧ w.grownBy w' (some rb) := by
  have HR : Hid (PR w rb s i av nv fv) := h
  clear h
  go_enter Tryz.func44, Tryz.ntmps44
  go_wp2
  go_loopw [2] (fun _ wr => ∃ k : Nat, k ≤ s.size ∧ Hid (sk s k = sk s i) ∧ Hid (PR wr rb s k av nv fv) ∧ Hid (w.grownBy wr (some rb))) (fun _ wr => s.size - prI wr rb)
  case atStart => exact ⟨i, hi, rfl, HR.out, gr_refl _ _⟩
  case round =>
    obtain ⟨k, hk, HK, HS, HG⟩ := hrel
    have hs1 := HS.out
    have c0 := hs1.c0
    have c1 := hs1.c1
    have f1 := hs1.fz 1
    by_cases hlt : k < s.size
    · have hlt' : (k : Int) < (s.size : Int) := by omega
      obtain ⟨x, hx⟩ : ∃ x, s[k].toNat = x := ⟨_, rfl⟩
      have hbx : bat s k = x := by rw [bat_in hlt, hx]
      by_cases hb : x = 32
      · skip
        have HN : Hid (∀ q, PR ((wr.drewN q).setCell ⟨rb, 1, none⟩ (.int .i64 ((k : Int) + 1))) rb s (k + 1) av nv fv) := fun q => by
          have := (HS.out.drewN q).setI (k + 1)
          rw [show ((k + 1 : Nat) : Int) = (k : Int) + 1 by omega] at this; exact this
        have HK2 : Hid (sk s (k + 1) = sk s i) := by rw [← HK.out]; exact (run_step hlt (by rw [hbx]; simp [blank, hb])).symm
        have hrd : prI wr rb = k := HS.out.prI
        have HRD : Hid (prI wr rb = k) := hrd
        subst hb
        clear hs1 HK HS hbx hrd
        go_wp2_with fail
        go_quiet (fail)
        go_wp2
        go_roundw
        case rel => exact ⟨k + 1, by omega, HK2.out, HN.out _, gr_trans (gr_trans HG.out (gr_drewN _ _ _)) (gr_set _ _ _ _)⟩
        case measure => rw [(HN.out _).prI, HRD.out]; omega
      · by_cases hb2 : x = 10
        · skip
          have HN : Hid (∀ q, PR ((wr.drewN q).setCell ⟨rb, 1, none⟩ (.int .i64 ((k : Int) + 1))) rb s (k + 1) av nv fv) := fun q => by
            have := (HS.out.drewN q).setI (k + 1)
            rw [show ((k + 1 : Nat) : Int) = (k : Int) + 1 by omega] at this; exact this
          have HK2 : Hid (sk s (k + 1) = sk s i) := by rw [← HK.out]; exact (run_step hlt (by rw [hbx]; simp [blank, hb2])).symm
          have hrd : prI wr rb = k := HS.out.prI
          have HRD : Hid (prI wr rb = k) := hrd
          subst hb2
          clear hs1 HK HS hbx hrd
          go_wp2_with fail
          go_quiet (fail)
          go_wp2
          go_roundw
          case rel => exact ⟨k + 1, by omega, HK2.out, HN.out _, gr_trans (gr_trans HG.out (gr_drewN _ _ _)) (gr_set _ _ _ _)⟩
          case measure => rw [(HN.out _).prI, HRD.out]; omega
        · have HE : Hid (PR wr rb s (sk s i) av nv fv) := by
            have : sk s k = k := run_stop (by rw [hbx]; simp [blank, hb, hb2])
            rw [← HK.out, this]; exact HS.out
          have e1 : ((x : Int) == 32) = false := by simp; omega
          have e2 : ((x : Int) == 10) = false := by simp; omega
          clear hs1 HK HS hbx
          go_wp2_with fail
          go_quiet (fail)
          go_wp2
          go_end0
          exact ⟨rfl, HE.out.drewN _, gr_trans HG.out (gr_drewN _ _ _)⟩
    · have hlt' : ¬ (k : Int) < (s.size : Int) := by omega
      have hd : decide ((k : Int) < (s.size : Int)) = false := decide_eq_false hlt'
      have HE : Hid (PR wr rb s (sk s i) av nv fv) := by
        have : sk s k = k := run_out hlt
        rw [← HK.out, this]; exact HS.out
      clear hs1 HK HS
      go_wp2_with fail
      go_quiet (fail)
      go_wp2
      go_end0
      exact ⟨rfl, HE.out.drewN _, gr_trans HG.out (gr_drewN _ _ _)⟩

set_option maxRecDepth 100000 in
set_option maxHeartbeats 2000000 in
theorem takes_any (rb : Nat) (s : ByteArray) (i : Nat) (av nv fv : Value) (c : Nat) (w : World) (h : PR w rb s i av nv fv) (hs : s.size ≤ 1099511627776) (hi : i ≤ s.size) (hc : c < 256) :
    Calls Tryz.prog 73 #[.pointer (some ⟨rb, 0, none⟩), .int .u8 (c : Int)] w fun e w' => e = .returned (.bool (isAt s i c)) ∧ PR w' rb s (gotI s i c) av nv fv ∧ w.grownBy w' (some rb) := by
  have CS : Hid (Calls Tryz.prog 44 #[.pointer (some ⟨rb, 0, none⟩)] w fun e w' => e = .returned (.tuple #[]) ∧ PR w' rb s (sk s i) av nv fv ∧ w.grownBy w' (some rb)) := skipBlanks_any rb s i av nv fv w h hs hi
  obtain ⟨j, hj⟩ : ∃ j, sk s i = j := ⟨_, rfl⟩
  have hjs := sk_le s i hi
  have HGI : Hid (gotI s i c = if bat s j = c then j + 1 else j) := by show _ = _; unfold gotI; rw [hj]
  have HIA : Hid (isAt s i c = (bat s j == c)) := by show _ = _; unfold isAt; rw [hj]
  rw [hj] at CS hjs
  clear h hj
  go_enter Tryz.func73, Tryz.ntmps73
  go_wp2_with fail
  refine CS.out.mono ?_
  rintro e w1 ⟨rfl, h1, g1⟩
  have HR : Hid (PR w1 rb s j av nv fv) := h1
  have HG : Hid (w.grownBy w1 (some rb)) := g1
  have c0 := h1.c0
  have c1 := h1.c1
  have f1 := h1.fz 1
  clear h1 g1 CS
  by_cases hlt : j < s.size
  · have hlt' : (j : Int) < (s.size : Int) := by omega
    have el : ((j : Int) == (s.size : Int)) = false := by simp; omega
    obtain ⟨x, hx⟩ : ∃ x, s[j].toNat = x := ⟨_, rfl⟩
    have hbx : bat s j = x := by rw [bat_in hlt, hx]
    by_cases hxc : x = c
    · have HN : Hid (∀ q, PR ((w1.drewN q).setCell ⟨rb, 1, none⟩ (.int .i64 ((j : Int) + 1))) rb s (gotI s i c) av nv fv) := fun q => by
        rw [HGI.out, hbx, if_pos hxc]
        have := (HR.out.drewN q).setI (j + 1)
        rw [show ((j + 1 : Nat) : Int) = (j : Int) + 1 by omega] at this; exact this
      have HE : Hid (isAt s i c = true) := by show _ = _; rw [HIA.out, hbx]; simpa using hxc
      subst hxc
      clear hbx HR
      go_wp2_with fail
      go_quiet (fail)
      go_wp2
      go_ret
      exact ⟨by rw [HE.out]; rfl, HN.out _, gr_trans (gr_trans HG.out (gr_drewN _ _ _)) (gr_set _ _ _ _)⟩
    · have HN : Hid (PR w1 rb s (gotI s i c) av nv fv) := by rw [HGI.out, hbx, if_neg hxc]; exact HR.out
      have HE : Hid (isAt s i c = false) := by show _ = _; rw [HIA.out, hbx]; simpa using hxc
      have ex : ((x : Int) != (c : Int)) = true := by simp; omega
      clear hbx HR
      go_wp2_with fail
      go_quiet (fail)
      go_wp2
      go_ret
      exact ⟨by rw [HE.out]; rfl, HN.out.drewN _, gr_trans HG.out (gr_drewN _ _ _)⟩
  · have hlt' : ¬ (j : Int) < (s.size : Int) := by omega
    have el : ((j : Int) == (s.size : Int)) = true := by simp; omega
    have hbo : bat s j = 256 := bat_out hlt
    have HN : Hid (PR w1 rb s (gotI s i c) av nv fv) := by rw [HGI.out, hbo, if_neg (by omega)]; exact HR.out
    have HE : Hid (isAt s i c = false) := by show _ = _; rw [HIA.out, hbo]; simp; omega
    clear hbo HR
    go_wp2_with fail
    go_quiet (fail)
    go_wp2
    go_ret
    exact ⟨by rw [HE.out]; rfl, HN.out.drewN _, gr_trans HG.out (gr_drewN _ _ _)⟩

end Go.Proofs.YtnkebfmlaliddaaGreatDoor

namespace Go.Proofs.YtnkebfmlaliddaaGreatDoor
open Go.RowKit
set_option linter.unusedVariables false

set_option maxRecDepth 100000 in
theorem in1 (nb o : Nat) (w : World) : Calls Tryz.prog 22 #[.pointer (some ⟨nb, o, none⟩)] w fun e w' => e = .returned (.pointer (some ⟨nb, o + 1, none⟩)) ∧ w' = w := by
  go_enter Tryz.func22, Tryz.ntmps22
  go_wp2
  go_ret
  exact ⟨rfl, rfl⟩
set_option maxRecDepth 100000 in
theorem in2 (nb o : Nat) (w : World) : Calls Tryz.prog 23 #[.pointer (some ⟨nb, o, none⟩)] w fun e w' => e = .returned (.pointer (some ⟨nb, o + 2, none⟩)) ∧ w' = w := by
  go_enter Tryz.func23, Tryz.ntmps23
  go_wp2
  go_ret
  exact ⟨rfl, rfl⟩
set_option maxRecDepth 100000 in
theorem in3 (nb o : Nat) (w : World) : Calls Tryz.prog 24 #[.pointer (some ⟨nb, o, none⟩)] w fun e w' => e = .returned (.pointer (some ⟨nb, o + 3, none⟩)) ∧ w' = w := by
  go_enter Tryz.func24, Tryz.ntmps24
  go_wp2
  go_ret
  exact ⟨rfl, rfl⟩
set_option maxRecDepth 100000 in
theorem in4 (nb o : Nat) (w : World) : Calls Tryz.prog 25 #[.pointer (some ⟨nb, o, none⟩)] w fun e w' => e = .returned (.pointer (some ⟨nb, o + 4, none⟩)) ∧ w' = w := by
  go_enter Tryz.func25, Tryz.ntmps25
  go_wp2
  go_ret
  exact ⟨rfl, rfl⟩
set_option maxRecDepth 100000 in
theorem in5 (nb o : Nat) (w : World) : Calls Tryz.prog 26 #[.pointer (some ⟨nb, o, none⟩)] w fun e w' => e = .returned (.pointer (some ⟨nb, o + 5, none⟩)) ∧ w' = w := by
  go_enter Tryz.func26, Tryz.ntmps26
  go_wp2
  go_ret
  exact ⟨rfl, rfl⟩
set_option maxRecDepth 100000 in
theorem in6 (nb o : Nat) (w : World) : Calls Tryz.prog 27 #[.pointer (some ⟨nb, o, none⟩)] w fun e w' => e = .returned (.pointer (some ⟨nb, o + 6, none⟩)) ∧ w' = w := by
  go_enter Tryz.func27, Tryz.ntmps27
  go_wp2
  go_ret
  exact ⟨rfl, rfl⟩
set_option maxRecDepth 100000 in
theorem in7 (nb o : Nat) (w : World) : Calls Tryz.prog 28 #[.pointer (some ⟨nb, o, none⟩)] w fun e w' => e = .returned (.pointer (some ⟨nb, o + 7, none⟩)) ∧ w' = w := by
  go_enter Tryz.func28, Tryz.ntmps28
  go_wp2
  go_ret
  exact ⟨rfl, rfl⟩
set_option maxRecDepth 100000 in
theorem in8 (nb o : Nat) (w : World) : Calls Tryz.prog 29 #[.pointer (some ⟨nb, o, none⟩)] w fun e w' => e = .returned (.pointer (some ⟨nb, o + 8, none⟩)) ∧ w' = w := by
  go_enter Tryz.func29, Tryz.ntmps29
  go_wp2
  go_ret
  exact ⟨rfl, rfl⟩
set_option maxRecDepth 100000 in
theorem in9 (nb o : Nat) (w : World) : Calls Tryz.prog 30 #[.pointer (some ⟨nb, o, none⟩)] w fun e w' => e = .returned (.pointer (some ⟨nb, o + 9, none⟩)) ∧ w' = w := by
  go_enter Tryz.func30, Tryz.ntmps30
  go_wp2
  go_ret
  exact ⟨rfl, rfl⟩
set_option maxRecDepth 100000 in
theorem in10 (nb o : Nat) (w : World) : Calls Tryz.prog 31 #[.pointer (some ⟨nb, o, none⟩)] w fun e w' => e = .returned (.pointer (some ⟨nb, o + 10, none⟩)) ∧ w' = w := by
  go_enter Tryz.func31, Tryz.ntmps31
  go_wp2
  go_ret
  exact ⟨rfl, rfl⟩
set_option maxRecDepth 100000 in
theorem in11 (nb o : Nat) (w : World) : Calls Tryz.prog 32 #[.pointer (some ⟨nb, o, none⟩)] w fun e w' => e = .returned (.pointer (some ⟨nb, o + 11, none⟩)) ∧ w' = w := by
  go_enter Tryz.func32, Tryz.ntmps32
  go_wp2
  go_ret
  exact ⟨rfl, rfl⟩
set_option maxRecDepth 100000 in
theorem in12 (nb o : Nat) (w : World) : Calls Tryz.prog 33 #[.pointer (some ⟨nb, o, none⟩)] w fun e w' => e = .returned (.pointer (some ⟨nb, o + 12, none⟩)) ∧ w' = w := by
  go_enter Tryz.func33, Tryz.ntmps33
  go_wp2
  go_ret
  exact ⟨rfl, rfl⟩

end Go.Proofs.YtnkebfmlaliddaaGreatDoor

namespace Go.Proofs.YtnkebfmlaliddaaGreatDoor
open Go.RowKit
set_option linter.unusedVariables false

/-- The table's cells: six a row. -/
def attCells : Array Value := #[
    .string ⟨#[105, 100]⟩, .int .u64 127, .int .i64 999999, .int .i64 0, .bool true, .func (.func 22) #[] #[],
    .string ⟨#[109, 105, 110]⟩, .int .u64 127, .int .i64 100000, .int .i64 0, .bool false, .func (.func 23) #[] #[],
    .string ⟨#[109, 97, 120]⟩, .int .u64 127, .int .i64 100000, .int .i64 (-1), .bool false, .func (.func 24) #[] #[],
    .string ⟨#[119, 101, 105, 103, 104, 116]⟩, .int .u64 127, .int .i64 100000, .int .i64 1, .bool false, .func (.func 25) #[] #[],
    .string ⟨#[103, 97, 112]⟩, .int .u64 3, .int .i64 100, .int .i64 0, .bool false, .func (.func 26) #[] #[],
    .string ⟨#[112, 97, 100]⟩, .int .u64 8, .int .i64 20, .int .i64 0, .bool false, .func (.func 27) #[] #[],
    .string ⟨#[98, 111, 114, 100, 101, 114]⟩, .int .u64 8, .int .i64 1, .int .i64 1, .bool false, .func (.func 28) #[] #[],
    .string ⟨#[97, 108, 105, 103, 110]⟩, .int .u64 32, .int .i64 2, .int .i64 0, .bool false, .func (.func 29) #[] #[],
    .string ⟨#[119, 114, 97, 112]⟩, .int .u64 32, .int .i64 1, .int .i64 1, .bool false, .func (.func 30) #[] #[],
    .string ⟨#[102, 103]⟩, .int .u64 127, .int .i64 8, .int .i64 0, .bool false, .func (.func 31) #[] #[],
    .string ⟨#[98, 103]⟩, .int .u64 127, .int .i64 8, .int .i64 0, .bool false, .func (.func 32) #[] #[],
    .string ⟨#[98, 111, 108, 100]⟩, .int .u64 127, .int .i64 1, .int .i64 0, .bool false, .func (.func 33) #[] #[]]

set_option maxRecDepth 100000 in
set_option maxHeartbeats 4000000 in
theorem attributes_any (w : World) : Calls Tryz.prog 11 #[] w fun e w' => e = .returned (.slice (some ⟨w.heap.size, 0, none⟩) 12 12) ∧ w' = w.alloc (.cells attCells 64) := by
  go_enter Tryz.func11, Tryz.ntmps11
  go_wp2
  go_ret
  exact ⟨rfl, rfl⟩

end Go.Proofs.YtnkebfmlaliddaaGreatDoor

namespace Go.Proofs.YtnkebfmlaliddaaGreatDoor
open Go.RowKit
set_option linter.unusedVariables false

/-- Whether an attribute whose kinds are m is of the kind k. -/
def ofK (m k : Nat) : Bool := (m / 2 ^ k) % 2 == 1

set_option maxRecDepth 100000 in
set_option maxHeartbeats 4000000 in
theorem isOf_any (n : ByteArray) (m k : Nat) (mo wi : Int) (sg : Bool) (fv : Value) (w : World) (hm : m = 127 ∨ m = 3 ∨ m = 8 ∨ m = 32) (hk : k < 7) :
    Calls Tryz.prog 113 #[.agg #[.string n, .int .u64 (m : Int), .int .i64 mo, .int .i64 wi, .bool sg, fv], .int .i64 (k : Int)] w fun e w' => e = .returned (.bool (ofK m k)) ∧ Below w.heap.size w w' := by
  have hc : k = 0 ∨ k = 1 ∨ k = 2 ∨ k = 3 ∨ k = 4 ∨ k = 5 ∨ k = 6 := by omega
  have hb : ∀ o, Below w.heap.size w (w.alloc o) := fun o => (Below.refl _ w).alloc (Nat.le_refl _) o
  have HB : Hid (∀ o, Below w.heap.size w (w.alloc o)) := hb
  clear hk hb
  rcases hm with rfl | rfl | rfl | rfl <;> rcases hc with rfl | rfl | rfl | rfl | rfl | rfl | rfl
  all_goals
    go_enter Tryz.func113, Tryz.ntmps113
    go_wp2
    go_ret
    exact ⟨by rfl, HB.out _⟩

end Go.Proofs.YtnkebfmlaliddaaGreatDoor
