/-
  stableCmpFunc: blocks of twenty, then merges.
-/
import Derived.Test.YtmlicipdkbeihacSIns
namespace Go.Proofs.Ytmlicipdkbeihac
open Go.RowKit Go.Sort
set_option linter.unusedVariables false

/-- d is L in runs of s numbers, each in order. -/
inductive Runs (R : Int → Int → Prop) (s : Nat) : List Int → List Int → Prop
  | nil : Runs R s [] []
  | cons (T M L d : List Int) : M.Perm T → M.Pairwise R → T.length ≤ s → (T.length = s ∨ L = []) → Runs R s L d → Runs R s (T ++ L) (M ++ d)
/-- What stands ahead is in runs, whatever runs follow. -/
def Done (R : Int → Int → Prop) (s : Nat) (L1 Y : List Int) : Prop := ∀ L' d', Runs R s L' d' → Runs R s (L1 ++ L') (Y ++ d')

theorem Runs.len {R : Int → Int → Prop} {s : Nat} {L d : List Int} (h : Runs R s L d) : d.length = L.length := by
  induction h with
  | nil => rfl
  | cons T M L d hp _ _ _ _ ih => rw [List.length_append, List.length_append, hp.length_eq, ih]
theorem Runs.mem {R : Int → Int → Prop} {s : Nat} {L d : List Int} (h : Runs R s L d) : d.Perm L := by
  induction h with
  | nil => exact List.Perm.refl _
  | cons T M L d hp _ _ _ _ ih => exact hp.append ih
/-- A run that is followed by more. -/
theorem Runs.split {R : Int → Int → Prop} {s : Nat} {L d : List Int} (h : Runs R s L d) (hs : s < d.length) : ∃ T M L' d', L = T ++ L' ∧ d = M ++ d' ∧ M.Perm T ∧ M.Pairwise R ∧ T.length = s ∧ Runs R s L' d' := by
  cases h with
  | nil => simp at hs
  | cons T M L d hp hw hl hf hr =>
    rcases hf with hf | rfl
    · exact ⟨T, M, L, d, rfl, rfl, hp, hw, hf, hr⟩
    · have := hr.len
      have := hp.length_eq
      simp only [List.length_append, List.length_nil] at *
      omega
/-- One run alone. -/
theorem Runs.one {R : Int → Int → Prop} {s : Nat} {L d : List Int} (h : Runs R s L d) (hs0 : 0 < s) (hs : d.length ≤ s) : d.Perm L ∧ d.Pairwise R := by
  cases h with
  | nil => exact ⟨List.Perm.refl _, List.Pairwise.nil⟩
  | cons T M L d hp hw hl hf hr =>
    have h1 := hr.len
    have h2 := hp.length_eq
    have : d = [] := by
      rcases hf with hf | rfl
      · simp only [List.length_append] at hs
        exact List.eq_nil_of_length_eq_zero (by omega)
      · exact List.eq_nil_of_length_eq_zero (by simpa using h1)
    subst this
    have : L = [] := List.eq_nil_of_length_eq_zero (by simpa using h1.symm)
    subst this
    simpa using ⟨hp, hw⟩
theorem Runs.single {R : Int → Int → Prop} {s : Nat} {L d : List Int} (hp : d.Perm L) (hw : d.Pairwise R) (hs : L.length ≤ s) : Runs R s L d := by
  have := Runs.cons (R := R) (s := s) L d [] [] hp hw hs (Or.inr rfl) .nil
  simpa using this
theorem Done.nil {R : Int → Int → Prop} {s : Nat} : Done R s [] [] := fun _ _ h => h
theorem Done.snoc {R : Int → Int → Prop} {s : Nat} {L1 Y T M : List Int} (h : Done R s L1 Y) (hp : M.Perm T) (hw : M.Pairwise R) (hs : T.length = s) : Done R s (L1 ++ T) (Y ++ M) := fun L' d' hr => by
  rw [List.append_assoc, List.append_assoc]
  exact h _ _ (Runs.cons T M L' d' hp hw (by omega) (Or.inl hs) hr)

set_option maxRecDepth 100000 in
set_option maxHeartbeats 8000000 in
theorem stable_any (g : Nat) (lb : Array Value) (eg : ∀ args w, (callFunc g args).run Try.prog w = .ok (.enter g args) w) (cf : Int → Int → Int) (D : List Int) (R : Int → Int → Prop) (hO : Ord cf D R) (w0 : World) (blk off cap : Nat) (hcmp : CmpG g lb cf D w0 blk) (L : List Int) (w : World) (n : Nat) (hw0 : w0.grownBy w (some blk)) (h : IRow w blk off L) (hD : ∀ x ∈ L, x ∈ D) (hasc : L.Pairwise (· < ·)) (hn : L.length = n) (hlen : n ≤ 1099511627776) :
    Calls Try.prog 32 #[.slice (some ⟨blk, off, none⟩) n cap, .int .i64 n, .func (.func g) #[] lb] w fun e w' => e = .returned (.tuple #[]) ∧ Sorted w w' blk off R [] L [] := by
  have HR : Hid (IRow w blk off L) := h
  have HW0 : Hid (w0.grownBy w (some blk)) := hw0
  have HD : Hid (∀ x ∈ L, x ∈ D) := hD
  have HAS : Hid (L.Pairwise (· < ·)) := hasc
  have HN : Hid (L.length = n) := hn
  have CI : Hid (∀ (P A S : List Int) (W : World) (a b : Nat), w.grownBy W (some blk) → IRow W blk off (P ++ A ++ S) → (∀ x ∈ A, x ∈ D) → A.Pairwise (· < ·) → (P ++ A ++ S).length = n → P.length = a → P.length + A.length = b → Calls Try.prog 36 #[.slice (some ⟨blk, off, none⟩) n cap, .int .i64 a, .int .i64 b, .func (.func g) #[] lb] W fun e w' => e = .returned (.tuple #[]) ∧ Sorted W w' blk off R P A S) :=
    fun P A S W a b h1 h2 h3 h4 h5 h6 h7 => ins_any g lb eg cf D R hO w0 blk off cap hcmp P A S W n a b (grown_trans HW0.out h1) h2 h3 h4 h5 hlen h6 h7
  have CS : Hid (∀ (P A B S : List Int) (W : World) (a m b : Nat), w.grownBy W (some blk) → IRow W blk off (P ++ A ++ B ++ S) → (∀ x ∈ A, x ∈ D) → (∀ x ∈ B, x ∈ D) → A.Pairwise R → B.Pairwise R → (∀ x ∈ A, ∀ y ∈ B, x < y) → 0 < A.length → 0 < B.length → (P ++ A ++ B ++ S).length = n → P.length = a → P.length + A.length = m → P.length + A.length + B.length = b → Calls Try.prog 37 #[.slice (some ⟨blk, off, none⟩) n cap, .int .i64 a, .int .i64 m, .int .i64 b, .func (.func g) #[] lb] W fun e w' => e = .returned (.tuple #[]) ∧ Merged W w' blk off R P A B S) :=
    fun P A B S W a m b h1 h2 h3 h4 h5 h6 h7 h8 h9 h10 h11 h12 h13 => sym_any g lb eg cf D R hO w0 blk off cap hcmp.ok (A.length + B.length) P A B S W n a m b (Nat.le_refl _) (grown_trans HW0.out h1) h2 h3 h4 h5 h6 h7 h8 h9 h10 hlen h11 h12 h13
  clear h hO hw0 hcmp hD hasc hn HW0
  go_enter Try.func32, Try.ntmps32
  go_wp2
  go_loopw [7, 8] (fun i j wr => ∃ (a b : Nat) (L1 T Y : List Int), i = .int .i64 a ∧ j = .int .i64 b ∧ b ≤ a + 20 ∧ a + 20 ≤ b ∧ a ≤ n ∧ Hid (a + T.length = n) ∧ Hid (Y.length = a) ∧ Hid (L = L1 ++ T) ∧ Hid (Done R 20 L1 Y) ∧ Hid (IRow wr blk off (Y ++ T)) ∧ Hid (w.grownBy wr (some blk))) (fun i _ _ => n - (intOf i).toNat)
  case atStart => exact ⟨0, 20, [], L, [], by go_num, by go_num, by omega, by omega, by omega, by show _ = _; have := HN.out; omega, by show _ = _; rfl, by show _ = _; rfl, Done.nil, HR.out, grown_refl _ _⟩
  case round =>
    obtain ⟨a, b, L1, T, Y, rfl, rfl, hb1, hb2, han, HT, HY, HL, HDn, hrow, hgr⟩ := hrel
    by_cases hbn : b ≤ n
    · have hbn' : (b : Int) ≤ (n : Int) := by omega
      have C : Hid (Calls Try.prog 36 #[.slice (some ⟨blk, off, none⟩) n cap, .int .i64 a, .int .i64 b, .func (.func g) #[] lb] wr fun e w' => e = .returned (.tuple #[]) ∧ Sorted wr w' blk off R Y (T.take 20) (T.drop 20)) := by
        have := HT.out; have := HY.out
        refine CI.out Y (T.take 20) (T.drop 20) wr a b hgr.out ?_ ?_ ?_ ?_ HY.out ?_
        · rw [List.append_assoc, List.take_append_drop]; exact hrow.out
        · intro x hx; exact HD.out x (by rw [HL.out]; exact List.mem_append.2 (Or.inr (List.mem_of_mem_take hx)))
        · have h1 := HAS.out; rw [HL.out] at h1
          exact (List.pairwise_append.1 h1).2.1.sublist (List.take_sublist _ _)
        · simp only [List.length_append, List.length_take, List.length_drop]; omega
        · rw [List.length_take]; omega
      go_wp2_with fail
      refine C.out.mono ?_
      rintro e w2 ⟨rfl, ⟨M, m1, m2, r2⟩, g2⟩
      have HT' : Hid (b + (T.drop 20).length = n) := by show _ = _; have := HT.out; rw [List.length_drop]; omega
      have ht20 : (T.take 20).length = 20 := by have := HT.out; rw [List.length_take]; omega
      have HY' : Hid ((Y ++ M).length = b) := by show _ = _; have := HY.out; rw [List.length_append, m1.length_eq]; omega
      have HL' : Hid (L = (L1 ++ T.take 20) ++ T.drop 20) := by show _ = _; rw [List.append_assoc, List.take_append_drop]; exact HL.out
      have HDn' : Hid (Done R 20 (L1 ++ T.take 20) (Y ++ M)) := HDn.out.snoc m1 m2 ht20
      have hrow' : Hid (IRow w2 blk off ((Y ++ M) ++ T.drop 20)) := r2
      have hgr' : Hid (w.grownBy w2 (some blk)) := grown_trans hgr.out g2
      clear m1 m2 r2 g2 C hrow hgr ht20
      go_wp2
      go_roundw
      case rel => exact ⟨b, b + 20, L1 ++ T.take 20, T.drop 20, Y ++ M, rfl, by go_num, by omega, by omega, hbn, HT', HY', HL', HDn', hrow', hgr'⟩
      case measure => simp [intOf]; omega
    · have hbn' : ¬ (b : Int) ≤ (n : Int) := by omega
      have C : Hid (Calls Try.prog 36 #[.slice (some ⟨blk, off, none⟩) n cap, .int .i64 a, .int .i64 n, .func (.func g) #[] lb] wr fun e w' => e = .returned (.tuple #[]) ∧ Sorted wr w' blk off R Y T []) := by
        have := HT.out; have := HY.out
        refine CI.out Y T [] wr a n hgr.out (by simpa using hrow.out) ?_ ?_ ?_ HY.out (by omega)
        · intro x hx; exact HD.out x (by rw [HL.out]; exact List.mem_append.2 (Or.inr hx))
        · have h1 := HAS.out; rw [HL.out] at h1
          exact (List.pairwise_append.1 h1).2.1
        · simp only [List.length_append, List.length_nil]; omega
      go_wp2_with fail
      refine C.out.mono ?_
      rintro e w2 ⟨rfl, ⟨M, m1, m2, r2⟩, g2⟩
      have HRn : Hid (Runs R 20 L (Y ++ M)) := by
        show Runs R 20 L (Y ++ M)
        rw [HL.out]
        exact HDn.out T M (Runs.single m1 m2 (by have := HT.out; omega))
      have hrow' : Hid (IRow w2 blk off (Y ++ M)) := by have := r2; show IRow _ _ _ _; simpa using this
      have hgr' : Hid (w.grownBy w2 (some blk)) := grown_trans hgr.out g2
      clear m1 m2 r2 g2 C hrow hgr HT HY HL HDn
      go_wp2
      go_loopw [6] (fun i wr => ∃ (s : Nat) (d : List Int), i = .int .i64 s ∧ 20 ≤ s ∧ s ≤ 2 * n + 20 ∧ Hid (Runs R s L d) ∧ Hid (IRow wr blk off d) ∧ Hid (w.grownBy wr (some blk))) (fun i _ => n - (intOf i).toNat)
      case atStart => exact ⟨20, Y ++ M, by go_num, by omega, by omega, HRn.out, hrow'.out, hgr'.out⟩
      case round =>
        obtain ⟨s, d, rfl, hs20, hsn, HRn2, hrow2, hgr2⟩ := hrel
        by_cases hsl : s < n
        · have hsl' : (s : Int) < (n : Int) := by omega
          obtain ⟨t, ht⟩ : ∃ t : Nat, 2 * s = t := ⟨_, rfl⟩
          have hti : (2 : Int) * (s : Int) = (t : Int) := by omega
          have htj : (s : Int) * (2 : Int) = (t : Int) := by omega
          have ht1 : t ≤ 2 * s := by omega
          have ht2 : 2 * s ≤ t := by omega
          have HTS : Hid (t = 2 * s) := ht.symm
          clear ht
          go_wp2
          go_loopw [7, 8] (fun i j wr => ∃ (a b : Nat) (L1 L' Y d' : List Int), i = .int .i64 a ∧ j = .int .i64 b ∧ b ≤ a + t ∧ a + t ≤ b ∧ a ≤ n ∧ Hid (a + d'.length = n) ∧ Hid (Y.length = a) ∧ Hid (L = L1 ++ L') ∧ Hid (Done R t L1 Y) ∧ Hid (Runs R s L' d') ∧ Hid (IRow wr blk off (Y ++ d')) ∧ Hid (w.grownBy wr (some blk))) (fun i _ _ => n - (intOf i).toNat)
          case atStart => exact ⟨0, t, [], L, [], d, by go_num, rfl, by omega, by omega, by omega, by show _ = _; have := HN.out; have := HRn2.out.len; omega, by show _ = _; rfl, by show _ = _; rfl, Done.nil, HRn2.out, hrow2.out, hgr2.out⟩
          case round =>
            obtain ⟨a, b, L1, L', Y, d', rfl, rfl, hb1, hb2, han, HT, HY, HL, HDn, HRn3, hrow3, hgr3⟩ := hrel
            by_cases hbn : b ≤ n
            · have hbn' : (b : Int) ≤ (n : Int) := by omega
              obtain ⟨T1, M1, L2, d2, e1, e2, p1, w1, l1, r1⟩ := HRn3.out.split (by have := HT.out; omega)
              have hd2 : s ≤ d2.length := by have h1 := HT.out; rw [e2, List.length_append, p1.length_eq] at h1; omega
              obtain ⟨T2, M2, L3, d3, f1, f2, p2, w2', l2, r2⟩ : ∃ T M L' d', L2 = T ++ L' ∧ d2 = M ++ d' ∧ M.Perm T ∧ M.Pairwise R ∧ T.length = s ∧ Runs R s L' d' := by
                by_cases hq : s < d2.length
                · exact r1.split hq
                · have ho := r1.one (by omega) (by omega)
                  exact ⟨L2, d2, [], [], by simp, by simp, ho.1, ho.2, by have := r1.len; omega, .nil⟩
              subst e1; subst e2; subst f1; subst f2
              obtain ⟨m, hm⟩ : ∃ m : Nat, a + s = m := ⟨_, rfl⟩
              have hmi : (a : Int) + (s : Int) = (m : Int) := by omega
              have hL := HL.out
              have hAS := HAS.out
              rw [hL] at hAS
              have hA1 := (List.pairwise_append.1 hAS).2.1
              have C : Hid (Calls Try.prog 37 #[.slice (some ⟨blk, off, none⟩) n cap, .int .i64 a, .int .i64 m, .int .i64 b, .func (.func g) #[] lb] wr fun e w' => e = .returned (.tuple #[]) ∧ Merged wr w' blk off R Y M1 M2 d3) := by
                have h1 := HT.out; have h2 := HY.out
                have q1 := p1.length_eq; have q2 := p2.length_eq
                simp only [List.length_append] at h1
                refine CS.out Y M1 M2 d3 wr a m b hgr3.out (by simpa [List.append_assoc] using hrow3.out) ?_ ?_ w1 w2' ?_ (by omega) (by omega) (by simp only [List.length_append]; omega) HY.out (by omega) (by omega)
                · intro x hx; exact HD.out x (by rw [hL]; simp [p1.mem_iff.1 hx])
                · intro x hx; exact HD.out x (by rw [hL]; simp [p2.mem_iff.1 hx])
                · intro x hx y hy
                  exact (List.pairwise_append.1 hA1).2.2 x (p1.mem_iff.1 hx) y (List.mem_append.2 (Or.inl (p2.mem_iff.1 hy)))
              have KP : Hid (M1.Perm T1 ∧ M2.Perm T2 ∧ T1.length = s ∧ T2.length = s) := ⟨p1, p2, l1, l2⟩
              have KR : Hid (Runs R s L3 d3) := r2
              clear p1 p2 l1 l2 r1 r2 w1 w2' hm hL hAS hA1 hd2
              go_wp2_with fail
              refine C.out.mono ?_
              rintro e w2 ⟨rfl, ⟨M, m1, m2, r2⟩, g2⟩
              have HT' : Hid (b + d3.length = n) := by
                show _ = _
                have h1 := HT.out; have q1 := KP.out.1.length_eq; have q2 := KP.out.2.1.length_eq; have q3 := KP.out.2.2
                simp only [List.length_append] at h1
                omega
              have HY' : Hid ((Y ++ M).length = b) := by
                show _ = _
                have h1 := HY.out; have q1 := KP.out.1.length_eq; have q2 := KP.out.2.1.length_eq; have q3 := KP.out.2.2
                rw [List.length_append, m1.length_eq, List.length_append]; omega
              have HL' : Hid (L = (L1 ++ (T1 ++ T2)) ++ L3) := by show _ = _; rw [HL.out]; simp [List.append_assoc]
              have HDn' : Hid (Done R t (L1 ++ (T1 ++ T2)) (Y ++ M)) := HDn.out.snoc (m1.trans (KP.out.1.append KP.out.2.1)) m2 (by have := KP.out.2.2; rw [List.length_append]; omega)
              have hrow' : Hid (IRow w2 blk off ((Y ++ M) ++ d3)) := r2
              have hgr' : Hid (w.grownBy w2 (some blk)) := grown_trans hgr3.out g2
              clear m1 m2 r2 g2 C hrow3 hgr3 HT HY HL HDn HRn3 KP
              go_wp2
              go_roundw
              case rel => exact ⟨b, b + t, L1 ++ (T1 ++ T2), L3, Y ++ M, d3, rfl, by go_num, by omega, by omega, hbn, HT', HY', HL', HDn', KR, hrow', hgr'⟩
              case measure => simp [intOf]; omega
            · have hbn' : ¬ (b : Int) ≤ (n : Int) := by omega
              obtain ⟨m, hm⟩ : ∃ m : Nat, a + s = m := ⟨_, rfl⟩
              have hmi : (a : Int) + (s : Int) = (m : Int) := by omega
              by_cases hmn : m < n
              · have hmn' : (m : Int) < (n : Int) := by omega
                obtain ⟨T1, M1, L2, d2, e1, e2, p1, w1, l1, r1⟩ := HRn3.out.split (by have := HT.out; omega)
                subst e1; subst e2
                have hd2 : d2.length ≤ s := by have h1 := HT.out; rw [List.length_append, p1.length_eq] at h1; omega
                obtain ⟨p2, w2'⟩ := r1.one (by omega) hd2
                have hL := HL.out
                have hAS := HAS.out
                rw [hL] at hAS
                have hA1 := (List.pairwise_append.1 hAS).2.1
                have C : Hid (Calls Try.prog 37 #[.slice (some ⟨blk, off, none⟩) n cap, .int .i64 a, .int .i64 m, .int .i64 n, .func (.func g) #[] lb] wr fun e w' => e = .returned (.tuple #[]) ∧ Merged wr w' blk off R Y M1 d2 []) := by
                  have h1 := HT.out; have h2 := HY.out
                  have q1 := p1.length_eq
                  simp only [List.length_append] at h1
                  refine CS.out Y M1 d2 [] wr a m n hgr3.out (by simpa [List.append_assoc] using hrow3.out) ?_ ?_ w1 w2' ?_ (by omega) (by omega) (by simp only [List.length_append, List.length_nil]; omega) HY.out (by omega) (by omega)
                  · intro x hx; exact HD.out x (by rw [hL]; simp [p1.mem_iff.1 hx])
                  · intro x hx; exact HD.out x (by rw [hL]; simp [p2.mem_iff.1 hx])
                  · intro x hx y hy
                    exact (List.pairwise_append.1 hA1).2.2 x (p1.mem_iff.1 hx) y (p2.mem_iff.1 hy)
                have KE : Hid (∀ M : List Int, M.Perm (M1 ++ d2) → M.Pairwise R → Runs R t L (Y ++ M)) := by
                  intro M m1 m2
                  have h1 := HT.out
                  rw [hL]
                  refine HDn.out _ _ (Runs.single (m1.trans (p1.append p2)) m2 ?_)
                  have q1 := p1.length_eq; have q2 := p2.length_eq
                  simp only [List.length_append] at *
                  omega
                clear p1 p2 l1 r1 w1 w2' hm hL hAS hA1 hd2
                go_wp2_with fail
                refine C.out.mono ?_
                rintro e w2 ⟨rfl, ⟨M, m1, m2, r2⟩, g2⟩
                have KR : Hid (Runs R t L (Y ++ M)) := KE.out M m1 m2
                have hrow' : Hid (IRow w2 blk off (Y ++ M)) := by have := r2; show IRow _ _ _ _; simpa using this
                have hgr' : Hid (w.grownBy w2 (some blk)) := grown_trans hgr3.out g2
                clear m1 m2 r2 g2 C hrow3 hgr3 HT HY HL HDn HRn3 KE
                go_wp2
                go_roundw
                case rel => exact ⟨t, Y ++ M, rfl, by omega, by omega, KR, hrow', hgr'⟩
                case measure => simp [intOf]; omega
              · have hmn' : ¬ (m : Int) < (n : Int) := by omega
                have KR : Hid (Runs R t L (Y ++ d')) := by
                  show Runs R t L (Y ++ d')
                  have h1 := HT.out
                  obtain ⟨p2, w2'⟩ := HRn3.out.one (by omega) (by omega)
                  rw [HL.out]
                  exact HDn.out _ _ (Runs.single p2 w2' (by have := p2.length_eq; omega))
                clear HT HY HL HDn HRn3 hm
                go_wp2
                go_roundw
                case rel => exact ⟨t, Y ++ d', rfl, by omega, by omega, KR, hrow3, hgr3⟩
                case measure => simp [intOf]; omega
        · have hsl' : ¬ (s : Int) < (n : Int) := by omega
          have HF : Hid (d.Perm L ∧ d.Pairwise R) := HRn2.out.one (by omega) (by have := HRn2.out.len; have := HN.out; omega)
          go_wp2
          go_end0
          exact ⟨rfl, ⟨d, HF.out.1, HF.out.2, by simpa using hrow2.out⟩, hgr2.out⟩

end Go.Proofs.Ytmlicipdkbeihac
