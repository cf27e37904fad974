/-
  unicode/utf8.FullRuneInString.
-/
import Derived.Test.YtkdajaphbmclkaaGreatDoorX01
import Derived.Test.YtkdajaphbmclkaaGreatDoorYGr
namespace Go.Proofs.YtkdajaphbmclkaaGreatDoor
open Go.RowKit Go.Sort
set_option linter.unusedVariables false

def fir (c : Nat) : Nat := if c < 0x80 then 0xF0 else if c < 0xC2 ∨ 0xF4 < c then 0xF1 else if c = 0xE0 then 0x13 else if c = 0xED then 0x23 else if c = 0xF0 then 0x34 else if c = 0xF4 then 0x44 else if c < 0xE0 then 2 else if c < 0xF0 then 3 else 4
def accL (i : Nat) : Nat := if i = 1 then 0xA0 else if i = 3 then 0x90 else 0x80
def accH (i : Nat) : Nat := if i = 2 then 0x9F else if i = 4 then 0x8F else 0xBF
/-- The two tables. -/
structure Utf (w : World) : Prop where
  sz : 0 < w.heap.size ∧ 1 < w.heap.size
  fi : ∀ c, c < 256 → w.cell? ⟨0, c, none⟩ = some (.int .u8 (fir c))
  lo : ∀ i, i < 5 → w.cell? ⟨1, i * 2, none⟩ = some (.int .u8 (accL i))
  hi : ∀ i, i < 5 → w.cell? ⟨1, i * 2 + 1, none⟩ = some (.int .u8 (accH i))
theorem Utf.below {w w' : World} (h : Utf w) (hb : Below w.heap.size w w') : Utf w' :=
  ⟨⟨Nat.lt_of_lt_of_le h.sz.1 hb.size, Nat.lt_of_lt_of_le h.sz.2 hb.size⟩, fun c hc => (hb.cell (p := ⟨0, c, none⟩) h.sz.1).trans (h.fi c hc), fun i hi => (hb.cell (p := ⟨1, i * 2, none⟩) h.sz.2).trans (h.lo i hi), fun i hi => (hb.cell (p := ⟨1, i * 2 + 1, none⟩) h.sz.2).trans (h.hi i hi)⟩

/-- Is a rune come whole, or none? -/
def full (l : List UInt8) : Prop := l ≠ [] ∧ (byt l 0 < 0xC2 ∨ 0xF4 < byt l 0 ∨ seqN (byt l 0) ≤ l.length ∨ (1 < l.length ∧ (byt l 1 < seqLo (byt l 0) ∨ seqHi (byt l 0) < byt l 1)) ∨ (2 < l.length ∧ (byt l 2 < 0x80 ∨ 0xBF < byt l 2)))

theorem fir_cases (c : Nat) : (c < 0x80 ∧ fir c = 0xF0) ∨ ((0x80 ≤ c ∧ c < 0xC2 ∨ 0xF4 < c) ∧ fir c = 0xF1) ∨ (0xC2 ≤ c ∧ c ≤ 0xF4 ∧ ∃ n a : Nat, fir c = a * 16 + n ∧ n = seqN c ∧ (n = 2 ∨ n = 3 ∨ n = 4) ∧ a < 5 ∧ accL a = seqLo c ∧ accH a = seqHi c ∧ (n = 2 → a = 0)) := by
  by_cases h1 : c < 0x80
  · exact .inl ⟨h1, by unfold fir; rw [if_pos h1]⟩
  · by_cases h2 : c < 0xC2 ∨ 0xF4 < c
    · exact .inr (.inl ⟨by omega, by unfold fir; rw [if_neg h1, if_pos h2]⟩)
    · refine .inr (.inr ⟨by omega, by omega, ?_⟩)
      have hc : c < 256 := by omega
      have key : ∀ c : Fin 256, ¬ (c.val < 0x80) → ¬ (c.val < 0xC2 ∨ 0xF4 < c.val) → (fir c.val = (fir c.val / 16) * 16 + fir c.val % 16 ∧ fir c.val % 16 = seqN c.val ∧ (fir c.val % 16 = 2 ∨ fir c.val % 16 = 3 ∨ fir c.val % 16 = 4) ∧ fir c.val / 16 < 5 ∧ accL (fir c.val / 16) = seqLo c.val ∧ accH (fir c.val / 16) = seqHi c.val ∧ (fir c.val % 16 = 2 → fir c.val / 16 = 0)) := by decide +kernel
      have := key ⟨c, hc⟩ h1 h2
      exact ⟨fir c % 16, fir c / 16, this⟩

set_option maxRecDepth 100000 in
set_option maxHeartbeats 8000000 in
theorem full_any (s : ByteArray) (w : World) (hU : Utf w) (hs : s.size ≤ 1000000) : Calls Tryz.prog 47 #[.string s] w fun e w' => ∃ b : Bool, e = .returned (.bool b) ∧ (b = true ↔ full s.data.toList) ∧ Gr w w' := by
  by_cases h0 : s.size = 0
  · have hf : ¬ full s.data.toList := fun h => h.1 (List.length_eq_zero_iff.1 (by rw [len_data]; exact h0))
    have h0' : ((s.size : Int) == 0) = true := by rw [h0]; rfl
    clear hU
    go_enter Tryz.func47, Tryz.ntmps47
    go_wp2
    go_ret
    exact ⟨false, rfl, ⟨fun h => (nomatch h), fun h => absurd h hf⟩, Gr.refl w⟩
  · have h0' : ((s.size : Int) == 0) = false := beq_eq_false_iff_ne.2 (by omega)
    have hp : 0 < s.size := by omega
    have hp' : (0 : Int) < (s.size : Int) := by omega
    obtain ⟨c, hc⟩ : ∃ c, (s[0]'hp).toNat = c := ⟨_, rfl⟩
    have hcl : c < 256 := by rw [← hc]; exact UInt8.toNat_lt _
    have hb0 : byt s.data.toList 0 = c := by rw [byt_at s 0 hp, hc]
    have ci := hU.fi c hcl
    have hne : s.data.toList ≠ [] := fun h => by
      have h2 := len_data s
      rw [h] at h2
      have h3 : (0 : Nat) = s.size := h2
      omega
    have HF : Hid (full s.data.toList ↔ (c < 0xC2 ∨ 0xF4 < c ∨ seqN c ≤ s.size ∨ (1 < s.size ∧ (byt s.data.toList 1 < seqLo c ∨ seqHi c < byt s.data.toList 1)) ∨ (2 < s.size ∧ (byt s.data.toList 2 < 0x80 ∨ 0xBF < byt s.data.toList 2)))) := by
      show _ ↔ _
      unfold full
      rw [hb0, len_data]
      exact ⟨fun h => h.2, fun h => ⟨hne, h⟩⟩
    rcases fir_cases c with ⟨h1, h2⟩ | ⟨h1, h2⟩ | ⟨h1, h2, n, a, h3, h4, h5, h6, h7, h8, h9⟩
    · rw [h2] at ci
      clear hU
      go_enter Tryz.func47, Tryz.ntmps47
      go_wp2
      go_ret
      exact ⟨true, rfl, ⟨fun _ => HF.out.2 (.inl (by omega)), fun _ => rfl⟩, Gr.refl w⟩
    · rw [h2] at ci
      have hs1 : (1 : Int) ≤ (s.size : Int) := by omega
      clear hU
      go_enter Tryz.func47, Tryz.ntmps47
      go_wp2
      go_ret
      exact ⟨true, rfl, ⟨fun _ => HF.out.2 (by omega), fun _ => rfl⟩, Gr.refl w⟩
    · obtain ⟨x, hx⟩ : ∃ x, fir c = x := ⟨_, rfl⟩
      rw [hx] at ci h3
      have hx8 : (x : Int) % 8 = (n : Int) := by omega
      have hx16 : (x : Int) / 16 = (a : Int) := by omega
      have cl := hU.lo a h6
      have ch := hU.hi a h6
      rw [h7] at cl
      rw [h8] at ch
      rw [← h4] at HF
      obtain ⟨lo, hlo⟩ : ∃ z, seqLo c = z := ⟨_, rfl⟩
      obtain ⟨hi, hhi⟩ : ∃ z, seqHi c = z := ⟨_, rfl⟩
      rw [hlo] at cl
      rw [hhi] at ch
      rw [hlo, hhi] at HF
      clear hx h3 h7 h8 hlo hhi h4 hU hb0 hne
      by_cases hn : n ≤ s.size
      · have hn' : (n : Int) ≤ (s.size : Int) := by omega
        go_enter Tryz.func47, Tryz.ntmps47
        go_wp2
        go_ret
        exact ⟨true, rfl, ⟨fun _ => HF.out.2 (.inr (.inr (.inl hn))), fun _ => rfl⟩, Gr.refl w⟩
      · have hn' : ¬ (n : Int) ≤ (s.size : Int) := by omega
        go_enter Tryz.func47, Tryz.ntmps47
        go_wp2_with fail
        obtain ⟨S, hS⟩ : ∃ z, w.heap.size = z := ⟨_, rfl⟩
        obtain ⟨W0, hW0⟩ : ∃ z, w.alloc (.cells #[.int .u8 (lo : Int), .int .u8 (hi : Int)] 118) = z := ⟨_, rfl⟩
        have G0 : Hid (Gr w W0) := by rw [← hW0]; exact (Gr.refl w).alloc _
        have z0 : W0.cell? ⟨S, 0, none⟩ = some (.int .u8 (lo : Int)) := by rw [← hW0, ← hS, World.cell?_alloc_at _ _ _ _ rfl]; rfl
        have z1 : W0.cell? ⟨S, 1, none⟩ = some (.int .u8 (hi : Int)) := by rw [← hW0, ← hS, World.cell?_alloc_at _ _ _ _ rfl]; rfl
        rw [hW0, hS]
        clear hW0 hS ci cl ch hx8 hx16
        by_cases hs2 : 1 < s.size
        · have hs2' : decide ((1 : Int) < (s.size : Int)) = true := decide_eq_true (by omega)
          have hs2p : (1 : Int) < (s.size : Int) := by omega
          obtain ⟨b1, hb1⟩ : ∃ c, (s[1]'hs2).toNat = c := ⟨_, rfl⟩
          have HB1 : Hid (byt s.data.toList 1 = b1) := by show _ = _; rw [byt_at s 1 hs2, hb1]
          rw [HB1.out] at HF
          by_cases k1 : b1 < lo
          · have k1' : decide ((b1 : Int) < (lo : Int)) = true := decide_eq_true (by omega)
            go_quiet (fail)
            go_wp2
            go_ret
            exact ⟨true, rfl, ⟨fun _ => HF.out.2 (by omega), fun _ => rfl⟩, G0.out.trans ((Gr.refl _).drewN _)⟩
          · have k1' : decide ((b1 : Int) < (lo : Int)) = false := decide_eq_false (by omega)
            by_cases k2 : hi < b1
            · have k2' : decide ((hi : Int) < (b1 : Int)) = true := decide_eq_true (by omega)
              go_quiet (fail)
              go_wp2
              go_ret
              exact ⟨true, rfl, ⟨fun _ => HF.out.2 (by omega), fun _ => rfl⟩, G0.out.trans ((Gr.refl _).drewN _)⟩
            · have k2' : decide ((hi : Int) < (b1 : Int)) = false := decide_eq_false (by omega)
              by_cases hs3 : 2 < s.size
              · have hs3p : (2 : Int) < (s.size : Int) := by omega
                have hs3' : decide ((2 : Int) < (s.size : Int)) = true := decide_eq_true hs3p
                obtain ⟨b2, hb2⟩ : ∃ c, (s[2]'hs3).toNat = c := ⟨_, rfl⟩
                have HB2 : Hid (byt s.data.toList 2 = b2) := by show _ = _; rw [byt_at s 2 hs3, hb2]
                rw [HB2.out] at HF
                by_cases k3 : b2 < 128
                · have k3' : decide ((b2 : Int) < 128) = true := decide_eq_true (by omega)
                  go_quiet (fail)
                  go_wp2
                  go_ret
                  exact ⟨true, rfl, ⟨fun _ => HF.out.2 (by omega), fun _ => rfl⟩, G0.out.trans ((Gr.refl _).drewN _)⟩
                · have k3' : decide ((b2 : Int) < 128) = false := decide_eq_false (by omega)
                  by_cases k4 : 191 < b2
                  · have k4' : decide ((191 : Int) < (b2 : Int)) = true := decide_eq_true (by omega)
                    go_quiet (fail)
                    go_wp2
                    go_ret
                    exact ⟨true, rfl, ⟨fun _ => HF.out.2 (by omega), fun _ => rfl⟩, G0.out.trans ((Gr.refl _).drewN _)⟩
                  · have k4' : decide ((191 : Int) < (b2 : Int)) = false := decide_eq_false (by omega)
                    go_quiet (fail)
                    go_wp2
                    go_ret
                    exact ⟨false, rfl, ⟨fun h => (nomatch h), fun h => by exfalso; have := HF.out.1 h; omega⟩, G0.out.trans ((Gr.refl _).drewN _)⟩
              · have hs3' : decide ((2 : Int) < (s.size : Int)) = false := decide_eq_false (by omega)
                go_quiet (fail)
                go_wp2
                go_ret
                exact ⟨false, rfl, ⟨fun h => (nomatch h), fun h => by exfalso; have := HF.out.1 h; omega⟩, G0.out.trans ((Gr.refl _).drewN _)⟩
        · have hs2' : decide ((1 : Int) < (s.size : Int)) = false := decide_eq_false (by omega)
          have hs3' : decide ((2 : Int) < (s.size : Int)) = false := decide_eq_false (by omega)
          go_quiet (fail)
          go_wp2
          go_ret
          exact ⟨false, rfl, ⟨fun h => (nomatch h), fun h => by exfalso; have := HF.out.1 h; omega⟩, G0.out.trans ((Gr.refl _).drewN _)⟩

end Go.Proofs.YtkdajaphbmclkaaGreatDoor

namespace Go.Proofs.YtkdajaphbmclkaaGreatDoor
set_option linter.unusedVariables false

/-- Right, and whole. -/
def Vd (l : List UInt8) : Prop := (0xC2 ≤ byt l 0 ∧ byt l 0 ≤ 0xF4) ∧ (1 < l.length ∧ seqLo (byt l 0) ≤ byt l 1 ∧ byt l 1 ≤ seqHi (byt l 0)) ∧ (2 < seqN (byt l 0) → 2 < l.length ∧ 0x80 ≤ byt l 2 ∧ byt l 2 ≤ 0xBF) ∧ (3 < seqN (byt l 0) → 3 < l.length ∧ 0x80 ≤ byt l 3 ∧ byt l 3 ≤ 0xBF)
theorem seq_vd {l : List UInt8} (h80 : 0x80 ≤ byt l 0) : (Vd l ∧ seq l = seqN (byt l 0)) ∨ (¬ Vd l ∧ seq l = 0) := by
  unfold seq Vd
  rw [if_neg (by omega)]
  by_cases b : byt l 0 < 0xC2 ∨ 0xF4 < byt l 0
  · rw [if_pos b]; right; exact ⟨fun q => by omega, rfl⟩
  · rw [if_neg b]
    by_cases m1 : mor l 1 (seqLo (byt l 0)) (seqHi (byt l 0)) = true
    · rw [if_neg (by rw [m1]; decide)]
      have g1 := (mor_iff _ _ _ _).1 m1
      by_cases m2 : mor l 2 0x80 0xBF = true
      · have g2 := (mor_iff _ _ _ _).1 m2
        rw [if_neg (fun q => by rw [m2] at q; exact absurd q.2 (by decide))]
        by_cases m3 : mor l 3 0x80 0xBF = true
        · have g3 := (mor_iff _ _ _ _).1 m3
          rw [if_neg (fun q => by rw [m3] at q; exact absurd q.2 (by decide))]
          left
          exact ⟨⟨by omega, g1, fun _ => g2, fun _ => g3⟩, rfl⟩
        · have g3 := (mor_false _ _ _ _).1 (by simpa using m3)
          by_cases n3 : 3 < seqN (byt l 0)
          · rw [if_pos ⟨n3, by simpa using m3⟩]; right; exact ⟨fun q => g3 (q.2.2.2 n3), rfl⟩
          · rw [if_neg (fun q => n3 q.1)]; left; exact ⟨⟨by omega, g1, fun _ => g2, fun q => absurd q n3⟩, rfl⟩
      · have g2 := (mor_false _ _ _ _).1 (by simpa using m2)
        by_cases n2 : 2 < seqN (byt l 0)
        · rw [if_pos ⟨n2, by simpa using m2⟩]; right; exact ⟨fun q => g2 (q.2.2.1 n2), rfl⟩
        · rw [if_neg (fun q => n2 q.1), if_neg (fun q => by omega)]; left; exact ⟨⟨by omega, g1, fun q => absurd q n2, fun q => by omega⟩, rfl⟩
    · have g1 := (mor_false _ _ _ _).1 (by simpa using m1)
      rw [if_pos (by simpa using m1)]
      right; exact ⟨fun q => g1 q.2.1, rfl⟩
theorem seq_low {l : List UInt8} (h80 : 0x80 ≤ byt l 0) (hc : byt l 0 < 0xC2) : seq l = 0 := by
  rcases seq_vd h80 with ⟨v, _⟩ | ⟨_, e⟩
  · exact absurd v.1.1 (by omega)
  · exact e
theorem seq_high {l : List UInt8} (hc : 0xF4 < byt l 0) : seq l = 0 := by
  rcases seq_vd (l := l) (by omega) with ⟨v, _⟩ | ⟨_, e⟩
  · exact absurd v.1.2 (by omega)
  · exact e
/-- What has come, and is not whole. -/
theorem not_full {l : List UInt8} (hl : l ≠ []) (h : ¬ full l) : (0xC2 ≤ byt l 0 ∧ byt l 0 ≤ 0xF4) ∧ l.length < seqN (byt l 0) ∧ (1 < l.length → seqLo (byt l 0) ≤ byt l 1 ∧ byt l 1 ≤ seqHi (byt l 0)) ∧ (2 < l.length → 0x80 ≤ byt l 2 ∧ byt l 2 ≤ 0xBF) := by
  have h' : ¬ (byt l 0 < 0xC2 ∨ 0xF4 < byt l 0 ∨ seqN (byt l 0) ≤ l.length ∨ (1 < l.length ∧ (byt l 1 < seqLo (byt l 0) ∨ seqHi (byt l 0) < byt l 1)) ∨ (2 < l.length ∧ (byt l 2 < 0x80 ∨ 0xBF < byt l 2))) := fun q => h ⟨hl, q⟩
  refine ⟨by omega, by omega, fun q => by omega, fun q => by omega⟩
theorem full_of {l : List UInt8} (hl : l ≠ []) (h : ¬ ((0xC2 ≤ byt l 0 ∧ byt l 0 ≤ 0xF4) ∧ l.length < seqN (byt l 0) ∧ (1 < l.length → seqLo (byt l 0) ≤ byt l 1 ∧ byt l 1 ≤ seqHi (byt l 0)) ∧ (2 < l.length → 0x80 ≤ byt l 2 ∧ byt l 2 ≤ 0xBF))) : full l := by
  refine ⟨hl, ?_⟩
  by_cases q1 : byt l 0 < 0xC2
  · exact .inl q1
  by_cases q2 : 0xF4 < byt l 0
  · exact .inr (.inl q2)
  by_cases q3 : seqN (byt l 0) ≤ l.length
  · exact .inr (.inr (.inl q3))
  by_cases q4 : 1 < l.length ∧ (byt l 1 < seqLo (byt l 0) ∨ seqHi (byt l 0) < byt l 1)
  · exact .inr (.inr (.inr (.inl q4)))
  by_cases q5 : 2 < l.length ∧ (byt l 2 < 0x80 ∨ 0xBF < byt l 2)
  · exact .inr (.inr (.inr (.inr q5)))
  exact absurd ⟨by omega, by omega, fun z => by omega, fun z => by omega⟩ h
theorem runes_bad {l : List UInt8} (hl : l ≠ []) (h : seq l = 0) : runes l = 65533 :: runes (l.drop 1) := by
  rw [runes_step hl, dec_seq, if_pos h]
  rfl
theorem runes_cont (u : List UInt8) (h : ∀ b ∈ u, 0x80 ≤ b.toNat ∧ b.toNat ≤ 0xBF) : runes u = List.replicate u.length 65533 := by
  induction u with
  | nil => rfl
  | cons b u ih =>
    have hb := h b (List.mem_cons_self ..)
    have e : byt (b :: u) 0 = b.toNat := rfl
    rw [runes_bad (by simp) (seq_low (by rw [e]; omega) (by rw [e]; omega))]
    show 65533 :: runes u = _
    rw [ih (fun c hc => h c (List.mem_cons_of_mem _ hc))]
    rfl
/-- The bytes behind the first one of what is not whole. -/
theorem tail_cont {a : UInt8} {u : List UInt8} (h : ¬ full (a :: u)) : ∀ b ∈ u, 0x80 ≤ b.toNat ∧ b.toNat ≤ 0xBF := by
  obtain ⟨q0, q1, q2, q3⟩ := not_full (by simp) h
  have hN := n_bd (byt (a :: u) 0)
  have h1 := lo_bd (byt (a :: u) 0)
  have h2 := hi_bd (byt (a :: u) 0)
  match u, q1, q2, q3 with
  | [], _, _, _ => intro b hb; cases hb
  | [b], q1, q2, q3 =>
    intro c hc
    rw [List.mem_singleton] at hc
    subst hc
    have e : byt [a, c] 1 = c.toNat := rfl
    have := q2 (by simp)
    rw [e] at this
    omega
  | [b, d], q1, q2, q3 =>
    have e1 : byt [a, b, d] 1 = b.toNat := rfl
    have e2 : byt [a, b, d] 2 = d.toNat := rfl
    have w1 := q2 (by simp)
    have w2 := q3 (by simp)
    rw [e1] at w1
    rw [e2] at w2
    intro c hc
    rcases List.mem_cons.1 hc with rfl | hc
    · omega
    · rw [List.mem_singleton] at hc; subst hc; omega
  | b :: d :: e :: v, q1, _, _ =>
    simp only [List.length_cons] at q1
    omega
theorem runes_amid {l : List UInt8} (hl : l ≠ []) (h : ¬ full l) : runes l = List.replicate l.length 65533 := by
  obtain ⟨a, u, rfl⟩ := List.exists_cons_of_ne_nil hl
  obtain ⟨q0, q1, q2, q3⟩ := not_full hl h
  have hs : seq (a :: u) = 0 := by
    rcases seq_vd (l := a :: u) (by omega) with ⟨v, e⟩ | ⟨_, e⟩
    · have hN := n_bd (byt (a :: u) 0)
      obtain ⟨v1, v2, v3, v4⟩ := v
      rcases hN with ⟨_, hn⟩ | ⟨_, _, hn⟩ | ⟨_, hn⟩
      · omega
      · have := v3 (by omega); omega
      · have := v4 (by omega); omega
    · exact e
  rw [runes_bad hl hs]
  show 65533 :: runes u = _
  rw [runes_cont u (tail_cont h)]
  rfl
theorem runes_sole {l : List UInt8} (hl : l ≠ []) (h : seq l = l.length) : ∃ r, runes l = [r] := by
  have hp : 0 < l.length := List.length_pos_iff.2 hl
  rw [runes_step hl, dec_seq, if_neg (by omega)]
  refine ⟨shownI (val l (seq l)), ?_⟩
  show shownI (val l (seq l)) :: runes (l.drop (seq l)) = [_]
  rw [h, List.drop_length, runes_nil]
/-- One byte more. -/
theorem more_one {h : List UInt8} (hh : h ≠ []) (hf : ¬ full h) (b : UInt8) (hs : seq (h ++ [b]) ≠ 0) : seq (h ++ [b]) = (h ++ [b]).length := by
  obtain ⟨q0, q1, q2, q3⟩ := not_full hh hf
  have hp : 0 < h.length := List.length_pos_iff.2 hh
  have e0 : byt (h ++ [b]) 0 = byt h 0 := by unfold byt; rw [List.getD_eq_getElem?_getD, List.getElem?_append_left hp, List.getD_eq_getElem?_getD]
  rcases seq_vd (l := h ++ [b]) (by rw [e0]; omega) with ⟨v, e⟩ | ⟨_, e⟩
  · have hN := n_bd (byt (h ++ [b]) 0)
    obtain ⟨v1, v2, v3, v4⟩ := v
    rw [e0] at hN v1 v2 v3 v4 e
    rw [e]
    have hl : (h ++ [b]).length = h.length + 1 := by simp
    rcases hN with ⟨_, hn⟩ | ⟨_, _, hn⟩ | ⟨_, hn⟩
    · omega
    · have := v3 (by omega); omega
    · have := v4 (by omega); omega
  · exact absurd e hs
theorem full_seq {l : List UInt8} (hl : l ≠ []) (h : seq l = l.length) : full l := by
  have hp : 0 < l.length := List.length_pos_iff.2 hl
  by_cases h80 : byt l 0 < 0x80
  · exact ⟨hl, .inl (by omega)⟩
  · rcases seq_vd (l := l) (by omega) with ⟨v, e⟩ | ⟨_, e⟩
    · exact ⟨hl, .inr (.inr (.inl (by omega)))⟩
    · omega

end Go.Proofs.YtkdajaphbmclkaaGreatDoor
