/-
  The one form is read as the same tree: signs, words, numbers, strings, attributes. Plain mathematics.
-/
import Derived.Test.YtnkebfmlaliddaaGreatDoorP32
import Derived.Test.YtnkebfmlaliddaaGreatDoorP21
namespace Go.Proofs.YtnkebfmlaliddaaGreatDoor
set_option linter.unusedVariables false

/-- The first byte, or none. -/
def hd (r : List UInt8) : Nat := match r with
  | [] => 256
  | b :: _ => b.toNat
/-- What stands from a place on. -/
structure Sf (s : ByteArray) (i : Nat) (r : List UInt8) : Prop where
  dr : s.data.toList.drop i = r
  le : i ≤ s.size
section
variable {s : ByteArray} {i : Nat} {r x : List UInt8} {b : UInt8}
theorem Sf.len (h : Sf s i r) : i + r.length = s.size := by
  have h1 : s.data.toList.length = s.size := rfl
  have h2 := h.le
  rw [← h.dr, List.length_drop, h1]
  omega
theorem Sf.app (h : Sf s i (x ++ r)) : Sf s (i + x.length) r := by
  have := h.len
  rw [List.length_append] at this
  refine ⟨?_, by omega⟩
  rw [← List.drop_drop, h.dr, List.drop_left]
theorem Sf.tail (h : Sf s i (b :: r)) : Sf s (i + 1) r := Sf.app (x := [b]) h
theorem Sf.bat (h : Sf s i r) : bat s i = hd r := by
  have hl := h.len
  cases r with
  | nil => exact bat_out (by simp at hl; omega)
  | cons b r =>
    have hi : i < s.size := by simp at hl; omega
    rw [bat_in hi]
    have h1 : s.data.toList[i]? = some b := by
      have := congrArg List.head? h.dr
      rw [List.head?_drop] at this
      exact this
    have h2 : s.data.toList[i]? = some s[i] := by
      rw [Array.getElem?_toList]
      exact Array.getElem?_eq_getElem (xs := s.data) hi
    rw [h1] at h2
    rw [← Option.some.inj h2]
    rfl
theorem Sf.extract (h : Sf s i (x ++ r)) : s.extract i (i + x.length) = ⟨x.toArray⟩ := by
  apply ByteArray.ext
  apply Array.toList_inj.1
  rw [ByteArray.data_extract, Array.toList_extract]
  simp only [List.extract]
  rw [h.dr, show i + x.length - i = x.length by omega, List.take_left]
theorem Sf.runs {p : Nat → Bool} (hp : ∀ b ∈ x, p b.toNat = true) (hr : p (hd r) = false) : ∀ i, Sf s i (x ++ r) → run p s i = i + x.length := by
  induction x with
  | nil => intro i h; rw [run_stop (by rw [h.bat]; exact hr)]; rfl
  | cons b x ih =>
    intro i h
    have hl := h.len
    rw [run_step (by simp at hl; omega) (by rw [h.bat]; exact hp b (List.mem_cons_self ..)), ih (fun c hc => hp c (List.mem_cons_of_mem _ hc)) (i + 1) (Sf.tail h)]
    rw [List.length_cons]; omega
theorem Sf.sk (h : Sf s i r) (hb : blank (hd r) = false) : sk s i = i := run_stop (by rw [h.bat]; exact hb)
theorem Sf.isAt (h : Sf s i r) (hb : blank (hd r) = false) (c : Nat) : isAt s i c = (hd r == c) := by unfold Proofs.YtnkebfmlaliddaaGreatDoor.isAt; rw [h.sk hb, h.bat]
theorem Sf.gotI (h : Sf s i (b :: r)) (hb : blank b.toNat = false) : gotI s i b.toNat = i + 1 := by
  unfold Proofs.YtnkebfmlaliddaaGreatDoor.gotI
  rw [h.sk hb, h.bat, if_pos (show hd (b :: r) = b.toNat from rfl)]
theorem Sf.must (h : Sf s i (b :: r)) (hb : blank b.toNat = false) : mustR s i b.toNat = .ok (i + 1) := by
  unfold mustR
  rw [h.isAt hb, h.gotI hb]
  simp [hd]
end

/-- Digits. -/
def valL (l : List UInt8) : Int := l.foldl (fun n b => 10 * n + ((b.toNat : Int) - 48)) 0
theorem valL_snoc (l : List UInt8) (b : UInt8) : valL (l ++ [b]) = 10 * valL l + ((b.toNat : Int) - 48) := by unfold valL; rw [List.foldl_append]; rfl
theorem dg_val (m : Nat) (h : m < 10) : ((48 + (m : Int)).toNat.toUInt8).toNat = 48 + m := by
  have : (48 + (m : Int)).toNat = 48 + m := by omega
  rw [this]
  show (UInt8.ofNat (48 + m)).toNat = _
  exact UInt8.toNat_ofNat_of_lt' (by show 48 + m < 256; omega)
theorem dcn_facts (n : Nat) : (∀ b ∈ dcn n, digit b.toNat = true) ∧ valL (dcn n) = (n : Int) ∧ dcn n ≠ [] ∧ (0 < n → hd (dcn n) ≠ 48) ∧ (10 ≤ n ∨ (dcn n).length = 1) := by
  induction n using Nat.strongRecOn with
  | _ n ih =>
    by_cases h : n < 10
    · have hv := dg_val n h
      rw [dcn_small h]
      refine ⟨fun b hb => ?_, ?_, by simp, fun h0 => ?_, .inr rfl⟩
      · rw [List.mem_singleton.1 hb, hv]; unfold digit; simp; omega
      · show 10 * 0 + ((((48 + (n : Int)).toNat.toUInt8).toNat : Int) - 48) = _
        rw [hv]; omega
      · show ((48 + (n : Int)).toNat.toUInt8).toNat ≠ 48
        rw [hv]; omega
    · obtain ⟨i1, i2, i3, i4, _⟩ := ih (n / 10) (by omega)
      have hv := dg_val (n % 10) (by omega)
      rw [dcn_great h]
      refine ⟨fun b hb => ?_, ?_, by simp, fun h0 => ?_, .inl (by omega)⟩
      · rcases List.mem_append.1 hb with hb | hb
        · exact i1 b hb
        · rw [List.mem_singleton.1 hb, hv]; unfold digit; simp; omega
      · rw [valL_snoc, i2, hv]; omega
      · cases hq : dcn (n / 10) with
        | nil => exact absurd hq i3
        | cons b r => rw [hq] at i4; exact i4 (by omega)
theorem dcn_short : ∀ (k n : Nat), n < 10 ^ (k + 1) → (dcn n).length ≤ k + 1
  | 0, n, h => by rw [dcn_small (by simpa using h)]; simp
  | k + 1, n, h => by
    by_cases h1 : n < 10
    · rw [dcn_small h1]; simp
    · rw [dcn_great h1, List.length_append]
      have h2 : n / 10 < 10 ^ (k + 1) := by
        rw [Nat.div_lt_iff_lt_mul (by omega)]
        rw [Nat.pow_succ] at h
        exact h
      have := dcn_short k (n / 10) h2
      simp only [List.length_cons, List.length_nil]
      omega
theorem dv_read {s : ByteArray} {j : Nat} : ∀ (x r : List UInt8), Sf s j (x ++ r) → x.length ≤ 6 → dv s j x.length = valL x := by
  intro x
  induction hx : x.length generalizing x with
  | zero =>
    intro r h hl
    rw [List.eq_nil_of_length_eq_zero hx]; rfl
  | succ c ih =>
    intro r h hl
    obtain ⟨y, b, rfl⟩ : ∃ y b, x = y ++ [b] := by
      refine ⟨x.dropLast, x.getLast (by intro e; rw [e] at hx; simp at hx), ?_⟩
      rw [List.dropLast_concat_getLast]
    have hy : y.length = c := by rw [List.length_append] at hx; simp at hx; omega
    have h1 : Sf s j (y ++ (b :: r)) := by rw [List.append_assoc] at h; exact h
    have hb : bat s (j + c) = b.toNat := by rw [← hy]; exact (Sf.app h1).bat
    rw [valL_snoc, dv, if_pos (by omega), hb, ih y hy (b :: r) h1 (by omega)]

theorem nm_letters (k : Nat) (h : k < 12) : (∀ b ∈ (nmAt k).data.toList, letter b.toNat = true) ∧ (nmAt k).data.toList ≠ [] ∧ findF namesL (nmAt k) 0 = (k : Int) ∧ blank (hd (nmAt k).data.toList) = false := by
  have : k = 0 ∨ k = 1 ∨ k = 2 ∨ k = 3 ∨ k = 4 ∨ k = 5 ∨ k = 6 ∨ k = 7 ∨ k = 8 ∨ k = 9 ∨ k = 10 ∨ k = 11 := by omega
  rcases this with rfl | rfl | rfl | rfl | rfl | rfl | rfl | rfl | rfl | rfl | rfl | rfl <;> exact ⟨by decide, by decide, by decide, by decide⟩
theorem kd_letters (k : Nat) (h : k < 7) : (∀ b ∈ (kindsL[k]?.getD ByteArray.empty).data.toList, letter b.toNat = true) ∧ (kindsL[k]?.getD ByteArray.empty).data.toList ≠ [] ∧ findF kindsL (kindsL[k]?.getD ByteArray.empty) 0 = (k : Int) ∧ blank (hd (kindsL[k]?.getD ByteArray.empty).data.toList) = false := by
  have : k = 0 ∨ k = 1 ∨ k = 2 ∨ k = 3 ∨ k = 4 ∨ k = 5 ∨ k = 6 := by omega
  rcases this with rfl | rfl | rfl | rfl | rfl | rfl | rfl <;> exact ⟨by decide, by decide, by decide, by decide⟩
theorem hd_app {x r : List UInt8} (h : x ≠ []) : hd (x ++ r) = hd x := by
  cases x with
  | nil => exact absurd rfl h
  | cons b x => rfl
theorem back_arr (l : ByteArray) : (⟨l.data.toList.toArray⟩ : ByteArray) = l := rfl

/-- One attribute, read. -/
theorem attr1_read {s : ByteArray} {kind : Nat} {L : List Nd} {i k : Nat} {A a : List Int} {seen : List Nat} {r : List UInt8} (h : Sf s i (tb1 A k ++ r)) (hr : digit (hd r) = false) (hk : k < 12) (ho : ownsB kind k = true) (h0 : 0 ≤ A[k]?.getD 0) (hm : A[k]?.getD 0 ≤ mostL[k]?.getD 0)
    (hs : seen.contains k = false) (hid : k = 0 → (0 : Int) < A[k]?.getD 0 → hasId L (A[k]?.getD 0) = false) :
    attr1 s kind L i none a seen = .ok (i + (tb1 A k).length, none, a.set k (A[k]?.getD 0), k :: seen) := by
  obtain ⟨n1, n2, n3, n4⟩ := nm_letters k hk
  obtain ⟨n, hn⟩ : ∃ n : Nat, A[k]?.getD 0 = (n : Int) := ⟨(A[k]?.getD 0).toNat, by omega⟩
  obtain ⟨nm, hnm⟩ : ∃ z, (nmAt k).data.toList = z := ⟨_, rfl⟩
  have hT : tb1 A k = nm ++ (61 :: dcn n) := by unfold tb1; rw [hnm, hn, Int.toNat_natCast]
  obtain ⟨d1, d2, d3, d4, d5⟩ := dcn_facts n
  have hn6 : n ≤ 999999 := by
    have hml : mostL[k]?.getD 0 ≤ 999999 := by
      have : k = 0 ∨ k = 1 ∨ k = 2 ∨ k = 3 ∨ k = 4 ∨ k = 5 ∨ k = 6 ∨ k = 7 ∨ k = 8 ∨ k = 9 ∨ k = 10 ∨ k = 11 := by omega
      rcases this with rfl | rfl | rfl | rfl | rfl | rfl | rfl | rfl | rfl | rfl | rfl | rfl <;> decide
    omega
  have hl6 : (dcn n).length ≤ 6 := dcn_short 5 n (by omega)
  rw [hnm] at n1 n2 n4
  rw [hT] at h
  have h1 : Sf s i (nm ++ ((61 :: dcn n) ++ r)) := by rw [List.append_assoc] at h; exact h
  have k1 : sk s i = i := h1.sk (by rw [hd_app n2]; exact n4)
  have k2 : run letter s i = i + nm.length := Sf.runs n1 (by rfl) i h1
  have h2 : Sf s (i + nm.length) (61 :: (dcn n ++ r)) := h1.app
  have h3 : Sf s (i + nm.length + 1) (dcn n ++ r) := h2.tail
  have k3 : mustR s (i + nm.length) 61 = .ok (i + nm.length + 1) := h2.must (b := 61) (by rfl)
  have hnb : blank (hd (dcn n ++ r)) = false := by
    rw [hd_app d3]
    cases hq : dcn n with
    | nil => exact absurd hq d3
    | cons b t =>
      have := d1 b (by rw [hq]; exact List.mem_cons_self ..)
      unfold digit at this
      simp at this
      show (b.toNat == 32 || b.toNat == 10) = false
      have q1 : (b.toNat == 32) = false := by simpa using (by omega : b.toNat ≠ 32)
      have q2 : (b.toNat == 10) = false := by simpa using (by omega : b.toNat ≠ 10)
      rw [q1, q2]; rfl
  have k4 : sk s (i + nm.length + 1) = i + nm.length + 1 := h3.sk hnb
  have k5 : run digit s (i + nm.length + 1) = i + nm.length + 1 + (dcn n).length := Sf.runs d1 hr _ h3
  have hex : s.extract i (i + nm.length) = nmAt k := by rw [h1.extract, ← hnm]
  have kdv : dv s (i + nm.length + 1) (i + nm.length + 1 + (dcn n).length - (i + nm.length + 1)) = (n : Int) := by
    rw [show i + nm.length + 1 + (dcn n).length - (i + nm.length + 1) = (dcn n).length by omega, dv_read (dcn n) r h3 hl6, d2]
  have hpos : 0 < (dcn n).length := List.length_pos_iff.2 d3
  have hnb2 : numBad s (i + nm.length + 1) (i + nm.length + 1 + (dcn n).length) = false := by
    unfold numBad
    rw [decide_eq_false_iff_not]
    rintro (q | q | ⟨q1, q2⟩)
    · omega
    · omega
    · rw [h3.bat, hd_app d3] at q2
      rcases d5 with d5 | d5
      · exact d4 (by omega) q2
      · omega
  have hlen : 0 < nm.length := List.length_pos_iff.2 n2
  unfold attr1
  dsimp only
  rw [k1, k2, if_neg (by omega)]
  rw [k3]
  dsimp only
  rw [k4, k5, hnb2]
  rw [if_neg (by decide)]
  rw [kdv, hex, n3]
  have hno : ¬ ((k : Int) < 0 ∨ ownsB kind (k : Int).toNat = false) := by
    rintro (q | q)
    · omega
    · rw [Int.toNat_natCast, ho] at q; cases q
  rw [if_neg hno]
  rw [Int.toNat_natCast, hs]
  have e1 : decide (mostL[k]?.getD 0 < (n : Int)) = false := decide_eq_false (by omega)
  have e2 : (decide ((k : Int) = 0 ∧ (0 : Int) < (n : Int)) && hasId L (n : Int)) = false := by
    by_cases q : (k : Int) = 0 ∧ (0 : Int) < (n : Int)
    · rw [hn] at hid
      rw [hid (by omega) q.2, Bool.and_false]
    · rw [decide_eq_false q, Bool.false_and]
  rw [e1, e2]
  unfold addIf
  have hTl : i + (tb1 A k).length = i + nm.length + 1 + (dcn n).length := by rw [hT, List.length_append, List.length_cons]; omega
  rw [hTl, hn]
  rfl

/-- Several attributes with semicolons between. -/
def jtA (A : List Int) : List Nat → List UInt8
  | [] => []
  | [k] => tb1 A k
  | k :: m :: ks => tb1 A k ++ 59 :: jtA A (m :: ks)
def setsA (A : List Int) : List Nat → List Int → List Int
  | [], a => a
  | k :: ks, a => setsA A ks (a.set k (A[k]?.getD 0))
structure AtOk (kind : Nat) (L : List Nd) (A : List Int) (k : Nat) : Prop where
  lt : k < 12
  own : ownsB kind k = true
  lo : 0 ≤ A[k]?.getD 0
  hi : A[k]?.getD 0 ≤ mostL[k]?.getD 0
  id : k = 0 → (0 : Int) < A[k]?.getD 0 → hasId L (A[k]?.getD 0) = false
theorem attrs_read {s : ByteArray} {kind : Nat} {L : List Nd} {A : List Int} : ∀ (ks : List Nat) (f i : Nat) (a : List Int) (seen : List Nat) (r : List UInt8), ks ≠ [] → ks.length ≤ f → Sf s i (jtA A ks ++ 125 :: r) → (∀ k ∈ ks, AtOk kind L A k) → ks.Nodup → (∀ k ∈ ks, seen.contains k = false) →
    attrsF s kind L f i none a seen = .ok (i + (jtA A ks).length + 1, none, setsA A ks a)
  | [], f, i, a, seen, r, hne, _, _, _, _, _ => absurd rfl hne
  | k :: ks, 0, i, a, seen, r, _, hf, _, _, _, _ => by simp at hf
  | [k], f + 1, i, a, seen, r, _, hf, h, hok, hnd, hsn => by
    have q := hok k (List.mem_cons_self ..)
    have h1 : Sf s i (tb1 A k ++ 125 :: r) := h
    unfold attrsF
    rw [attr1_read h1 (by rfl) q.lt q.own q.lo q.hi (hsn k (List.mem_cons_self ..)) q.id]
    dsimp only
    have h2 : Sf s (i + (tb1 A k).length) (125 :: r) := h1.app
    have hm : mustR s (i + (tb1 A k).length) 125 = .ok (i + (tb1 A k).length + 1) := h2.must (b := 125) (by rfl)
    rw [h2.isAt (by rfl), if_neg (by simp [hd]), hm]
    rfl
  | k :: m :: ks, f + 1, i, a, seen, r, _, hf, h, hok, hnd, hsn => by
    have q := hok k (List.mem_cons_self ..)
    have h1 : Sf s i (tb1 A k ++ (59 :: (jtA A (m :: ks) ++ 125 :: r))) := by
      have : jtA A (k :: m :: ks) = tb1 A k ++ 59 :: jtA A (m :: ks) := rfl
      rw [this, List.append_assoc] at h
      exact h
    unfold attrsF
    rw [attr1_read h1 (by rfl) q.lt q.own q.lo q.hi (hsn k (List.mem_cons_self ..)) q.id]
    dsimp only
    have h2 : Sf s (i + (tb1 A k).length) (59 :: (jtA A (m :: ks) ++ 125 :: r)) := h1.app
    have hnd2 := List.nodup_cons.1 hnd
    have hgt : gotI s (i + (tb1 A k).length) 59 = i + (tb1 A k).length + 1 := h2.gotI (b := 59) (by rfl)
    rw [h2.isAt (by rfl), if_pos (by rfl), hgt, attrs_read (m :: ks) f _ _ _ r (by simp) (by simpa using hf) h2.tail (fun c hc => hok c (List.mem_cons_of_mem _ hc)) hnd2.2 (fun c hc => by
      have hc0 := hsn c (List.mem_cons_of_mem _ hc)
      have hck : c ≠ k := fun e => hnd2.1 (e ▸ hc)
      simp at hc0 ⊢
      exact ⟨hck, hc0⟩)]
    have hl : (jtA A (k :: m :: ks)).length = (tb1 A k).length + 1 + (jtA A (m :: ks)).length := by
      have : jtA A (k :: m :: ks) = tb1 A k ++ 59 :: jtA A (m :: ks) := rfl
      rw [this, List.length_append, List.length_cons]; omega
    rw [hl, show i + (tb1 A k).length + 1 + (jtA A (m :: ks)).length + 1 = i + ((tb1 A k).length + 1 + (jtA A (m :: ks)).length) + 1 by omega]
    rfl
theorem jtA_snoc (A : List Int) (k : Nat) : ∀ ks : List Nat, jtA A (ks ++ [k]) = if ks = [] then tb1 A k else jtA A ks ++ 59 :: tb1 A k
  | [] => rfl
  | [c] => rfl
  | c :: m :: ks => by
    have ih := jtA_snoc A k (m :: ks)
    rw [if_neg (by simp)] at ih ⊢
    show tb1 A c ++ 59 :: jtA A (m :: ks ++ [k]) = tb1 A c ++ 59 :: jtA A (m :: ks) ++ 59 :: tb1 A k
    rw [ih]
    simp
/-- Those that are told, up to k. -/
def toldI (A : List Int) : Nat → List Nat
  | 0 => []
  | k + 1 => if A[k]?.getD 0 ≠ withoutL[k]?.getD 0 then toldI A k ++ [k] else toldI A k
theorem told_bra (A : List Int) : ∀ k, (toldI A k = [] ↔ braF A k = []) ∧ jtA A (toldI A k) = braF A k
  | 0 => ⟨⟨fun _ => rfl, fun _ => rfl⟩, rfl⟩
  | k + 1 => by
    obtain ⟨h1, h2⟩ := told_bra A k
    have hne : tb1 A k ≠ [] := by unfold tb1; simp
    unfold toldI braF
    by_cases c : A[k]?.getD 0 ≠ withoutL[k]?.getD 0
    · rw [if_pos c, if_pos c]
      have e3 : (namesL[k]?.getD ByteArray.empty).data.toList ++ 61 :: dcn (A[k]?.getD 0).toNat = tb1 A k := rfl
      rw [e3]
      refine ⟨⟨fun e => by simp at e, fun e => by
        have := (List.append_eq_nil_iff.1 e).2
        exact absurd this hne⟩, ?_⟩
      rw [jtA_snoc]
      by_cases e : toldI A k = []
      · rw [if_pos e, if_pos (h1.1 e)]; rfl
      · rw [if_neg e, if_neg (fun q => e (h1.2 q)), h2, List.append_assoc]; rfl
    · rw [if_neg c, if_neg c]
      exact ⟨h1, h2⟩
theorem told_mem (A : List Int) : ∀ k c, c ∈ toldI A k ↔ c < k ∧ A[c]?.getD 0 ≠ withoutL[c]?.getD 0
  | 0, c => by simp [toldI]
  | k + 1, c => by
    have ih := told_mem A k c
    unfold toldI
    by_cases q : A[k]?.getD 0 ≠ withoutL[k]?.getD 0
    · rw [if_pos q, List.mem_append, ih, List.mem_singleton]
      constructor
      · rintro (⟨h1, h2⟩ | rfl)
        · exact ⟨by omega, h2⟩
        · exact ⟨by omega, q⟩
      · rintro ⟨h1, h2⟩
        by_cases e : c = k
        · exact .inr e
        · exact .inl ⟨by omega, h2⟩
    · rw [if_neg q, ih]
      constructor
      · rintro ⟨h1, h2⟩; exact ⟨by omega, h2⟩
      · rintro ⟨h1, h2⟩
        by_cases e : c = k
        · subst e; exact absurd h2 q
        · exact ⟨by omega, h2⟩
theorem told_nodup (A : List Int) : ∀ k, (toldI A k).Nodup
  | 0 => List.nodup_nil
  | k + 1 => by
    have ih := told_nodup A k
    unfold toldI
    split
    · rw [List.nodup_append]
      refine ⟨ih, by simp, fun a ha b hb => ?_⟩
      rw [List.mem_singleton.1 hb]
      have := ((told_mem A k a).1 ha).1
      omega
    · exact ih
theorem sets_len (A : List Int) : ∀ ks a, (setsA A ks a).length = a.length
  | [], a => rfl
  | k :: ks, a => by
    show (setsA A ks (a.set k (A[k]?.getD 0))).length = _
    rw [sets_len A ks, List.length_set]
theorem sets_get (A : List Int) : ∀ (ks : List Nat) (a : List Int) (c : Nat), c < a.length → (setsA A ks a)[c]?.getD 0 = if c ∈ ks then A[c]?.getD 0 else a[c]?.getD 0
  | [], a, c, hc => by simp [setsA]
  | k :: ks, a, c, hc => by
    show (setsA A ks (a.set k (A[k]?.getD 0)))[c]?.getD 0 = _
    rw [sets_get A ks _ c (by rw [List.length_set]; exact hc)]
    by_cases e : c ∈ ks
    · rw [if_pos e, if_pos (List.mem_cons_of_mem _ e)]
    · rw [if_neg e]
      by_cases e2 : c = k
      · subst e2
        rw [if_pos (List.mem_cons_self ..), List.getElem?_set_self hc]
        rfl
      · rw [if_neg (fun q => by rcases List.mem_cons.1 q with q | q; exact e2 q; exact e q), List.getElem?_set_ne (fun q => e2 q.symm)]
theorem sets_all {A : List Int} (hA : A.length = 12) : setsA A (toldI A 12) withoutL = A := by
  apply List.ext_getElem?
  intro c
  have hl : (setsA A (toldI A 12) withoutL).length = 12 := by rw [sets_len]; rfl
  by_cases hc : c < 12
  · have h1 := sets_get A (toldI A 12) withoutL c hc
    have h2 : A[c]?.getD 0 = if c ∈ toldI A 12 then A[c]?.getD 0 else withoutL[c]?.getD 0 := by
      by_cases e : c ∈ toldI A 12
      · rw [if_pos e]
      · rw [if_neg e]
        by_cases q : A[c]?.getD 0 = withoutL[c]?.getD 0
        · exact q
        · exact absurd ((told_mem A 12 c).2 ⟨hc, q⟩) e
    rw [← h2] at h1
    rw [List.getElem?_eq_getElem (by omega), List.getElem?_eq_getElem (by omega)] at h1 ⊢
    exact congrArg some h1
  · rw [List.getElem?_eq_none (by omega), List.getElem?_eq_none (by omega)]
/-- A node's attributes, read. -/
theorem attrsR_read {s : ByteArray} {kind : Nat} {L : List Nd} {i : Nat} {A : List Int} {r : List UInt8} (h : Sf s i (braR A ++ r)) (hr : hd r ≠ 123 ∧ blank (hd r) = false) (hA : A.length = 12)
    (hok : ∀ k, k < 12 → A[k]?.getD 0 ≠ withoutL[k]?.getD 0 → AtOk kind L A k) : attrsR s kind L i none = .ok (i + (braR A).length, none, A) := by
  obtain ⟨t1, t2⟩ := told_bra A 12
  unfold attrsR
  by_cases e : braF A 12 = []
  · have hb : braR A = [] := by unfold braR; rw [if_pos e]
    rw [hb, List.nil_append] at h
    rw [h.isAt hr.2]
    have : (hd r == 123) = false := by simpa using hr.1
    rw [this, if_neg (by decide), h.sk hr.2, hb]
    have hAw : A = withoutL := by
      have := sets_all hA
      rw [t1.2 e] at this
      exact this.symm
    rw [hAw]
    rfl
  · have hb : braR A = 123 :: (braF A 12 ++ [125]) := by unfold braR; rw [if_neg e]
    have hne : toldI A 12 ≠ [] := fun q => e (t1.1 q)
    have h1 : Sf s i (123 :: (jtA A (toldI A 12) ++ 125 :: r)) := by
      rw [hb] at h
      rw [t2]
      have : 123 :: (braF A 12 ++ [125]) ++ r = 123 :: (braF A 12 ++ 125 :: r) := by simp
      rw [this] at h
      exact h
    have h2 := h1.tail
    have hlen : (toldI A 12).length ≤ s.size + 1 := by
      have h12 : ∀ k, (toldI A k).length ≤ k := by
        intro k
        induction k with
        | zero => exact Nat.le_refl _
        | succ k ih =>
          unfold toldI
          split
          · rw [List.length_append]; simp; omega
          · omega
      -- each that is told takes a byte at least
      have hj : ∀ ks : List Nat, ks.length ≤ (jtA A ks).length := by
        intro ks
        induction ks with
        | nil => exact Nat.le_refl _
        | cons k ks ih =>
          have hp : 1 ≤ (tb1 A k).length := by unfold tb1; rw [List.length_append, List.length_cons]; omega
          cases ks with
          | nil => exact hp
          | cons m ks =>
            have : jtA A (k :: m :: ks) = tb1 A k ++ 59 :: jtA A (m :: ks) := rfl
            rw [this, List.length_append]
            simp only [List.length_cons] at ih ⊢
            omega
      have := hj (toldI A 12)
      have hs := h2.len
      rw [List.length_append] at hs
      omega
    have hgt : gotI s i 123 = i + 1 := h1.gotI (b := 123) (by rfl)
    rw [h1.isAt (by rfl), if_pos (by rfl), hgt, attrs_read (toldI A 12) (s.size + 1) (i + 1) withoutL [] r hne hlen h2 (fun k hk => by
      obtain ⟨q1, q2⟩ := (told_mem A 12 k).1 hk
      exact hok k q1 q2) (told_nodup A 12) (fun k hk => rfl), sets_all hA, hb, t2]
    rw [List.length_cons, List.length_append, List.length_cons, List.length_nil, show i + 1 + (braF A 12).length + 1 = i + ((braF A 12).length + (0 + 1) + 1) by omega]

/-- A string, read. -/
theorem qF_read {s : ByteArray} : ∀ (t : List UInt8) (f p : Nat) (acc r : List UInt8), t.length < f → Sf s p (escF t ++ 34 :: r) → qF s f p acc = .ok (p + (escF t).length + 1, acc ++ t)
  | t, 0, p, acc, r, hf, h => by omega
  | [], f + 1, p, acc, r, hf, h => by
    have h1 : Sf s p (34 :: r) := h
    unfold qF
    rw [h1.bat]
    show (if (34 : Nat) = 256 then _ else if (34 : Nat) = 34 then _ else _) = _
    rw [if_neg (by decide), if_pos rfl, List.append_nil]
    rfl
  | b :: t, f + 1, p, acc, r, hf, h => by
    rw [escF_cons, List.append_assoc] at h
    have hlen : (escF (b :: t)).length = (escQ b).length + (escF t).length := by rw [escF_cons, List.length_append]
    have hf' : t.length < f := by simpa using hf
    unfold qF
    by_cases c1 : b = 34
    · subst c1
      have e : escQ 34 = [92, 34] := rfl
      rw [e] at h hlen
      have h1 : Sf s p (92 :: 34 :: (escF t ++ 34 :: r)) := h
      have h2 : Sf s (p + 1) (34 :: (escF t ++ 34 :: r)) := h1.tail
      rw [h1.bat, h2.bat]
      show (if (92 : Nat) = 256 then _ else if (92 : Nat) = 34 then _ else if (92 : Nat) = 92 then (if (34 : Nat) = 34 ∨ (34 : Nat) = 92 then _ else _) else _) = _
      rw [if_neg (by decide), if_neg (by decide), if_pos rfl, if_pos (.inl rfl), qF_read t f (p + 2) _ r hf' h2.tail, hlen, List.append_assoc, show p + 2 + (escF t).length + 1 = p + (2 + (escF t).length) + 1 by omega]
      rfl
    · by_cases c2 : b = 92
      · subst c2
        have e : escQ 92 = [92, 92] := rfl
        rw [e] at h hlen
        have h1 : Sf s p (92 :: 92 :: (escF t ++ 34 :: r)) := h
        have h2 : Sf s (p + 1) (92 :: (escF t ++ 34 :: r)) := h1.tail
        rw [h1.bat, h2.bat]
        show (if (92 : Nat) = 256 then _ else if (92 : Nat) = 34 then _ else if (92 : Nat) = 92 then (if (92 : Nat) = 34 ∨ (92 : Nat) = 92 then _ else _) else _) = _
        rw [if_neg (by decide), if_neg (by decide), if_pos rfl, if_pos (.inr rfl), qF_read t f (p + 2) _ r hf' h2.tail, hlen, List.append_assoc, show p + 2 + (escF t).length + 1 = p + (2 + (escF t).length) + 1 by omega]
        rfl
      · by_cases c3 : b = 10
        · subst c3
          have e : escQ 10 = [92, 110] := rfl
          rw [e] at h hlen
          have h1 : Sf s p (92 :: 110 :: (escF t ++ 34 :: r)) := h
          have h2 : Sf s (p + 1) (110 :: (escF t ++ 34 :: r)) := h1.tail
          rw [h1.bat, h2.bat]
          show (if (92 : Nat) = 256 then _ else if (92 : Nat) = 34 then _ else if (92 : Nat) = 92 then (if (110 : Nat) = 34 ∨ (110 : Nat) = 92 then _ else if (110 : Nat) = 110 then _ else _) else _) = _
          rw [if_neg (by decide), if_neg (by decide), if_pos rfl, if_neg (by decide), if_pos rfl, qF_read t f (p + 2) _ r hf' h2.tail, hlen, List.append_assoc, show p + 2 + (escF t).length + 1 = p + (2 + (escF t).length) + 1 by omega]
          rfl
        · have e : escQ b = [b] := by unfold escQ; rw [if_neg c1, if_neg c2, if_neg c3]
          rw [e] at h hlen
          have h1 : Sf s p (b :: (escF t ++ 34 :: r)) := h
          have hb : b.toNat < 256 := b.toNat_lt
          have n1 : b.toNat ≠ 34 := fun q => c1 (UInt8.toNat.inj q)
          have n2 : b.toNat ≠ 92 := fun q => c2 (UInt8.toNat.inj q)
          rw [h1.bat]
          show (if b.toNat = 256 then _ else if b.toNat = 34 then _ else if b.toNat = 92 then _ else _) = _
          rw [if_neg (by omega), if_neg n1, if_neg n2, qF_read t f (p + 1) _ r hf' h1.tail, hlen]
          have hbb : b.toNat.toUInt8 = b := by simp
          have hb2 : (hd (b :: (escF t ++ 34 :: r))).toUInt8 = b := hbb
          rw [hb2, List.append_assoc, show p + 1 + (escF t).length + 1 = p + (1 + (escF t).length) + 1 by omega]
          rfl
theorem quo_read {s : ByteArray} {i : Nat} {t r : List UInt8} (h : Sf s i (escR t ++ r)) : quoR s i = .ok (i + (escR t).length, t) := by
  have h1 : Sf s i (34 :: (escF t ++ 34 :: r)) := by
    unfold escR at h
    have : 34 :: (escF t ++ [34]) ++ r = 34 :: (escF t ++ 34 :: r) := by simp
    rw [this] at h
    exact h
  have hl := h1.len
  have hle : t.length ≤ (escF t).length := by rw [escF_cnt]; omega
  unfold quoR
  have hgt : gotI s i 34 = i + 1 := h1.gotI (b := 34) (by rfl)
  rw [h1.isAt (by rfl), if_pos (by rfl), hgt, qF_read t _ _ [] r (by rw [List.length_cons, List.length_append] at hl; omega) h1.tail]
  unfold escR
  rw [List.length_cons, List.length_append, List.length_cons, List.length_nil, List.nil_append, show i + 1 + (escF t).length + 1 = i + ((escF t).length + (0 + 1) + 1) by omega]

end Go.Proofs.YtnkebfmlaliddaaGreatDoor
