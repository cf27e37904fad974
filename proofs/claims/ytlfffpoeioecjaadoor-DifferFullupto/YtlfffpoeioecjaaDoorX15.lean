/-
  unicode/utf8.FullRuneInString.
-/
import Derived.Test.YtlfffpoeioecjaaDoorX05
import Derived.Test.YtlfffpoeioecjaaDoorX08
import Derived.Test.YtlfffpoeioecjaaDoorX04
import Derived.Test.YtlfffpoeioecjaaDoorX06
import Derived.Test.YtlfffpoeioecjaaDoorX11
namespace Go.Proofs.YtlfffpoeioecjaaDoor
open Go.RowKit Go.Sort
set_option linter.unusedVariables false

def fir (c : Nat) : Nat := if c < 0x80 then 0xF0 else if c < 0xC2 ∨ 0xF4 < c then 0xF1 else if c = 0xE0 then 0x13 else if c = 0xED then 0x23 else if c = 0xF0 then 0x34 else if c = 0xF4 then 0x44 else if c < 0xE0 then 2 else if c < 0xF0 then 3 else 4
def accL (i : Nat) : Nat := if i = 1 then 0xA0 else if i = 3 then 0x90 else 0x80
def accH (i : Nat) : Nat := if i = 2 then 0x9F else if i = 4 then 0x8F else 0xBF
/-- The two tables. -/
structure Utf (w : World) : Prop where
  sz : 0 < w.heap.size ∧ 1 < w.heap.size
  fi : ∀ c, c < 256 → w.cell? ⟨0, c, none⟩ = some (.int .u8 (fir c))
  lo : ∀ i, i < 5 → w.cell? ⟨1, i * 2, none⟩ = some (.int .u8 (accL i))
  hi : ∀ i, i < 5 → w.cell? ⟨1, i * 2 + 1, none⟩ = some (.int .u8 (accH i))
theorem Utf.below {w w' : World} (h : Utf w) (hb : Below w.heap.size w w') : Utf w' :=
  ⟨⟨Nat.lt_of_lt_of_le h.sz.1 hb.size, Nat.lt_of_lt_of_le h.sz.2 hb.size⟩, fun c hc => (hb.cell (p := ⟨0, c, none⟩) h.sz.1).trans (h.fi c hc), fun i hi => (hb.cell (p := ⟨1, i * 2, none⟩) h.sz.2).trans (h.lo i hi), fun i hi => (hb.cell (p := ⟨1, i * 2 + 1, none⟩) h.sz.2).trans (h.hi i hi)⟩

/-- Is a rune come whole, or none? -/
def full (l : List UInt8) : Prop := l ≠ [] ∧ (byt l 0 < 0xC2 ∨ 0xF4 < byt l 0 ∨ seqN (byt l 0) ≤ l.length ∨ (1 < l.length ∧ (byt l 1 < seqLo (byt l 0) ∨ seqHi (byt l 0) < byt l 1)) ∨ (2 < l.length ∧ (byt l 2 < 0x80 ∨ 0xBF < byt l 2)))

theorem fir_cases (c : Nat) : (c < 0x80 ∧ fir c = 0xF0) ∨ ((0x80 ≤ c ∧ c < 0xC2 ∨ 0xF4 < c) ∧ fir c = 0xF1) ∨ (0xC2 ≤ c ∧ c ≤ 0xF4 ∧ ∃ n a : Nat, fir c = a * 16 + n ∧ n = seqN c ∧ (n = 2 ∨ n = 3 ∨ n = 4) ∧ a < 5 ∧ accL a = seqLo c ∧ accH a = seqHi c ∧ (n = 2 → a = 0)) := by
  by_cases h1 : c < 0x80
  · exact .inl ⟨h1, by unfold fir; rw [if_pos h1]⟩
  · by_cases h2 : c < 0xC2 ∨ 0xF4 < c
    · exact .inr (.inl ⟨by omega, by unfold fir; rw [if_neg h1, if_pos h2]⟩)
    · refine .inr (.inr ⟨by omega, by omega, ?_⟩)
      have hc : c < 256 := by omega
      have key : ∀ c : Fin 256, ¬ (c.val < 0x80) → ¬ (c.val < 0xC2 ∨ 0xF4 < c.val) → (fir c.val = (fir c.val / 16) * 16 + fir c.val % 16 ∧ fir c.val % 16 = seqN c.val ∧ (fir c.val % 16 = 2 ∨ fir c.val % 16 = 3 ∨ fir c.val % 16 = 4) ∧ fir c.val / 16 < 5 ∧ accL (fir c.val / 16) = seqLo c.val ∧ accH (fir c.val / 16) = seqHi c.val ∧ (fir c.val % 16 = 2 → fir c.val / 16 = 0)) := by decide +kernel
      have := key ⟨c, hc⟩ h1 h2
      exact ⟨fir c % 16, fir c / 16, this⟩

set_option maxRecDepth 100000 in
set_option maxHeartbeats 8000000 in
theorem full_any (s : ByteArray) (w : World) (hU : Utf w) (hs : s.size ≤ 1000000) : Calls Tryd.prog 77 #[.string s] w fun e w' => ∃ b : Bool, e = .returned (.bool b) ∧ (b = true ↔ full s.data.toList) ∧ Gr w w' := by
  by_cases h0 : s.size = 0
  · have hf : ¬ full s.data.toList := fun h => h.1 (List.length_eq_zero_iff.1 (by rw [len_data]; exact h0))
    have h0' : ((s.size : Int) == 0) = true := by rw [h0]; rfl
    clear hU
    go_enter Tryd.func77, Tryd.ntmps77
    go_wp2
    go_ret
    exact ⟨false, rfl, ⟨fun h => (nomatch h), fun h => absurd h hf⟩, Gr.refl w⟩
  · have h0' : ((s.size : Int) == 0) = false := beq_eq_false_iff_ne.2 (by omega)
    have hp : 0 < s.size := by omega
    have hp' : (0 : Int) < (s.size : Int) := by omega
    obtain ⟨c, hc⟩ : ∃ c, (s[0]'hp).toNat = c := ⟨_, rfl⟩
    have hcl : c < 256 := by rw [← hc]; exact UInt8.toNat_lt _
    have hb0 : byt s.data.toList 0 = c := by rw [byt_at s 0 hp, hc]
    have ci := hU.fi c hcl
    have hne : s.data.toList ≠ [] := fun h => by
      have h2 := len_data s
      rw [h] at h2
      have h3 : (0 : Nat) = s.size := h2
      omega
    have HF : Hid (full s.data.toList ↔ (c < 0xC2 ∨ 0xF4 < c ∨ seqN c ≤ s.size ∨ (1 < s.size ∧ (byt s.data.toList 1 < seqLo c ∨ seqHi c < byt s.data.toList 1)) ∨ (2 < s.size ∧ (byt s.data.toList 2 < 0x80 ∨ 0xBF < byt s.data.toList 2)))) := by
      show _ ↔ _
      unfold full
      rw [hb0, len_data]
      exact ⟨fun h => h.2, fun h => ⟨hne, h⟩⟩
    rcases fir_cases c with ⟨h1, h2⟩ | ⟨h1, h2⟩ | ⟨h1, h2, n, a, h3, h4, h5, h6, h7, h8, h9⟩
    · rw [h2] at ci
      clear hU
      go_enter Tryd.func77, Tryd.ntmps77
      go_wp2
      go_ret
      exact ⟨true, rfl, ⟨fun _ => HF.out.2 (.inl (by omega)), fun _ => rfl⟩, Gr.refl w⟩
    · rw [h2] at ci
      have hs1 : (1 : Int) ≤ (s.size : Int) := by omega
      clear hU
      go_enter Tryd.func77, Tryd.ntmps77
      go_wp2
      go_ret
      exact ⟨true, rfl, ⟨fun _ => HF.out.2 (by omega), fun _ => rfl⟩, Gr.refl w⟩
    · obtain ⟨x, hx⟩ : ∃ x, fir c = x := ⟨_, rfl⟩
      rw [hx] at ci h3
      have hx8 : (x : Int) % 8 = (n : Int) := by omega
      have hx16 : (x : Int) / 16 = (a : Int) := by omega
      have cl := hU.lo a h6
      have ch := hU.hi a h6
      rw [h7] at cl
      rw [h8] at ch
      rw [← h4] at HF
      obtain ⟨lo, hlo⟩ : ∃ z, seqLo c = z := ⟨_, rfl⟩
      obtain ⟨hi, hhi⟩ : ∃ z, seqHi c = z := ⟨_, rfl⟩
      rw [hlo] at cl
      rw [hhi] at ch
      rw [hlo, hhi] at HF
      clear hx h3 h7 h8 hlo hhi h4 hU hb0 hne
      by_cases hn : n ≤ s.size
      · have hn' : (n : Int) ≤ (s.size : Int) := by omega
        go_enter Tryd.func77, Tryd.ntmps77
        go_wp2
        go_ret
        exact ⟨true, rfl, ⟨fun _ => HF.out.2 (.inr (.inr (.inl hn))), fun _ => rfl⟩, Gr.refl w⟩
      · have hn' : ¬ (n : Int) ≤ (s.size : Int) := by omega
        go_enter Tryd.func77, Tryd.ntmps77
        go_wp2_with fail
        obtain ⟨S, hS⟩ : ∃ z, w.heap.size = z := ⟨_, rfl⟩
        obtain ⟨W0, hW0⟩ : ∃ z, w.alloc (.cells #[.int .u8 (lo : Int), .int .u8 (hi : Int)] 157) = z := ⟨_, rfl⟩
        have G0 : Hid (Gr w W0) := by rw [← hW0]; exact (Gr.refl w).alloc _
        have z0 : W0.cell? ⟨S, 0, none⟩ = some (.int .u8 (lo : Int)) := by rw [← hW0, ← hS, World.cell?_alloc_at _ _ _ _ rfl]; rfl
        have z1 : W0.cell? ⟨S, 1, none⟩ = some (.int .u8 (hi : Int)) := by rw [← hW0, ← hS, World.cell?_alloc_at _ _ _ _ rfl]; rfl
        rw [hW0, hS]
        clear hW0 hS ci cl ch hx8 hx16
        by_cases hs2 : 1 < s.size
        · have hs2' : decide ((1 : Int) < (s.size : Int)) = true := decide_eq_true (by omega)
          have hs2p : (1 : Int) < (s.size : Int) := by omega
          obtain ⟨b1, hb1⟩ : ∃ c, (s[1]'hs2).toNat = c := ⟨_, rfl⟩
          have HB1 : Hid (byt s.data.toList 1 = b1) := by show _ = _; rw [byt_at s 1 hs2, hb1]
          rw [HB1.out] at HF
          by_cases k1 : b1 < lo
          · have k1' : decide ((b1 : Int) < (lo : Int)) = true := decide_eq_true (by omega)
            go_quiet (fail)
            go_wp2
            go_ret
            exact ⟨true, rfl, ⟨fun _ => HF.out.2 (by omega), fun _ => rfl⟩, G0.out.trans ((Gr.refl _).drewN _)⟩
          · have k1' : decide ((b1 : Int) < (lo : Int)) = false := decide_eq_false (by omega)
            by_cases k2 : hi < b1
            · have k2' : decide ((hi : Int) < (b1 : Int)) = true := decide_eq_true (by omega)
              go_quiet (fail)
              go_wp2
              go_ret
              exact ⟨true, rfl, ⟨fun _ => HF.out.2 (by omega), fun _ => rfl⟩, G0.out.trans ((Gr.refl _).drewN _)⟩
            · have k2' : decide ((hi : Int) < (b1 : Int)) = false := decide_eq_false (by omega)
              by_cases hs3 : 2 < s.size
              · have hs3p : (2 : Int) < (s.size : Int) := by omega
                have hs3' : decide ((2 : Int) < (s.size : Int)) = true := decide_eq_true hs3p
                obtain ⟨b2, hb2⟩ : ∃ c, (s[2]'hs3).toNat = c := ⟨_, rfl⟩
                have HB2 : Hid (byt s.data.toList 2 = b2) := by show _ = _; rw [byt_at s 2 hs3, hb2]
                rw [HB2.out] at HF
                by_cases k3 : b2 < 128
                · have k3' : decide ((b2 : Int) < 128) = true := decide_eq_true (by omega)
                  go_quiet (fail)
                  go_wp2
                  go_ret
                  exact ⟨true, rfl, ⟨fun _ => HF.out.2 (by omega), fun _ => rfl⟩, G0.out.trans ((Gr.refl _).drewN _)⟩
                · have k3' : decide ((b2 : Int) < 128) = false := decide_eq_false (by omega)
                  by_cases k4 : 191 < b2
                  · have k4' : decide ((191 : Int) < (b2 : Int)) = true := decide_eq_true (by omega)
                    go_quiet (fail)
                    go_wp2
                    go_ret
                    exact ⟨true, rfl, ⟨fun _ => HF.out.2 (by omega), fun _ => rfl⟩, G0.out.trans ((Gr.refl _).drewN _)⟩
                  · have k4' : decide ((191 : Int) < (b2 : Int)) = false := decide_eq_false (by omega)
                    go_quiet (fail)
                    go_wp2
                    go_ret
                    exact ⟨false, rfl, ⟨fun h => (nomatch h), fun h => by exfalso; have := HF.out.1 h; omega⟩, G0.out.trans ((Gr.refl _).drewN _)⟩
              · have hs3' : decide ((2 : Int) < (s.size : Int)) = false := decide_eq_false (by omega)
                go_quiet (fail)
                go_wp2
                go_ret
                exact ⟨false, rfl, ⟨fun h => (nomatch h), fun h => by exfalso; have := HF.out.1 h; omega⟩, G0.out.trans ((Gr.refl _).drewN _)⟩
        · have hs2' : decide ((1 : Int) < (s.size : Int)) = false := decide_eq_false (by omega)
          have hs3' : decide ((2 : Int) < (s.size : Int)) = false := decide_eq_false (by omega)
          go_quiet (fail)
          go_wp2
          go_ret
          exact ⟨false, rfl, ⟨fun h => (nomatch h), fun h => by exfalso; have := HF.out.1 h; omega⟩, G0.out.trans ((Gr.refl _).drewN _)⟩

end Go.Proofs.YtlfffpoeioecjaaDoor

namespace Go.Proofs.YtlfffpoeioecjaaDoor
set_option linter.unusedVariables false

/-- Right, and whole. -/
def Vd (l : List UInt8) : Prop := (0xC2 ≤ byt l 0 ∧ byt l 0 ≤ 0xF4) ∧ (1 < l.length ∧ seqLo (byt l 0) ≤ byt l 1 ∧ byt l 1 ≤ seqHi (byt l 0)) ∧ (2 < seqN (byt l 0) → 2 < l.length ∧ 0x80 ≤ byt l 2 ∧ byt l 2 ≤ 0xBF) ∧ (3 < seqN (byt l 0) → 3 < l.length ∧ 0x80 ≤ byt l 3 ∧ byt l 3 ≤ 0xBF)
theorem seq_vd {l : List UInt8} (h80 : 0x80 ≤ byt l 0) : (Vd l ∧ seq l = seqN (byt l 0)) ∨ (¬ Vd l ∧ seq l = 0) := by
  unfold seq Vd
  rw [if_neg (by omega)]
  by_cases b : byt l 0 < 0xC2 ∨ 0xF4 < byt l 0
  · rw [if_pos b]; right; exact ⟨fun q => by omega, rfl⟩
  · rw [if_neg b]
    by_cases m1 : mor l 1 (seqLo (byt l 0)) (seqHi (byt l 0)) = true
    · rw [if_neg (by rw [m1]; decide)]
      have g1 := (mor_iff _ _ _ _).1 m1
      by_cases m2 : mor l 2 0x80 0xBF = true
      · have g2 := (mor_iff _ _ _ _).1 m2
        rw [if_neg (fun q => by rw [m2] at q; exact absurd q.2 (by decide))]
        by_cases m3 : mor l 3 0x80 0xBF = true
        · have g3 := (mor_iff _ _ _ _).1 m3
          rw [if_neg (fun q => by rw [m3] at q; exact absurd q.2 (by decide))]
          left
          exact ⟨⟨by omega, g1, fun _ => g2, fun _ => g3⟩, rfl⟩
        · have g3 := (mor_false _ _ _ _).1 (by simpa using m3)
          by_cases n3 : 3 < seqN (byt l 0)
          · rw [if_pos ⟨n3, by simpa using m3⟩]; right; exact ⟨fun q => g3 (q.2.2.2 n3), rfl⟩
          · rw [if_neg (fun q => n3 q.1)]; left; exact ⟨⟨by omega, g1, fun _ => g2, fun q => absurd q n3⟩, rfl⟩
      · have g2 := (mor_false _ _ _ _).1 (by simpa using m2)
        by_cases n2 : 2 < seqN (byt l 0)
        · rw [if_pos ⟨n2, by simpa using m2⟩]; right; exact ⟨fun q => g2 (q.2.2.1 n2), rfl⟩
        · rw [if_neg (fun q => n2 q.1), if_neg (fun q => by omega)]; left; exact ⟨⟨by omega, g1, fun q => absurd q n2, fun q => by omega⟩, rfl⟩
    · have g1 := (mor_false _ _ _ _).1 (by simpa using m1)
      rw [if_pos (by simpa using m1)]
      right; exact ⟨fun q => g1 q.2.1, rfl⟩
theorem seq_low {l : List UInt8} (h80 : 0x80 ≤ byt l 0) (hc : byt l 0 < 0xC2) : seq l = 0 := by
  rcases seq_vd h80 with ⟨v, _⟩ | ⟨_, e⟩
  · exact absurd v.1.1 (by omega)
  · exact e
theorem seq_high {l : List UInt8} (hc : 0xF4 < byt l 0) : seq l = 0 := by
  rcases seq_vd (l := l) (by omega) with ⟨v, _⟩ | ⟨_, e⟩
  · exact absurd v.1.2 (by omega)
  · exact e
/-- What has come, and is not whole. -/
theorem not_full {l : List UInt8} (hl : l ≠ []) (h : ¬ full l) : (0xC2 ≤ byt l 0 ∧ byt l 0 ≤ 0xF4) ∧ l.length < seqN (byt l 0) ∧ (1 < l.length → seqLo (byt l 0) ≤ byt l 1 ∧ byt l 1 ≤ seqHi (byt l 0)) ∧ (2 < l.length → 0x80 ≤ byt l 2 ∧ byt l 2 ≤ 0xBF) := by
  have h' : ¬ (byt l 0 < 0xC2 ∨ 0xF4 < byt l 0 ∨ seqN (byt l 0) ≤ l.length ∨ (1 < l.length ∧ (byt l 1 < seqLo (byt l 0) ∨ seqHi (byt l 0) < byt l 1)) ∨ (2 < l.length ∧ (byt l 2 < 0x80 ∨ 0xBF < byt l 2))) := fun q => h ⟨hl, q⟩
  refine ⟨by omega, by omega, fun q => by omega, fun q => by omega⟩
theorem full_of {l : List UInt8} (hl : l ≠ []) (h : ¬ ((0xC2 ≤ byt l 0 ∧ byt l 0 ≤ 0xF4) ∧ l.length < seqN (byt l 0) ∧ (1 < l.length → seqLo (byt l 0) ≤ byt l 1 ∧ byt l 1 ≤ seqHi (byt l 0)) ∧ (2 < l.length → 0x80 ≤ byt l 2 ∧ byt l 2 ≤ 0xBF))) : full l := by
  refine ⟨hl, ?_⟩
  by_cases q1 : byt l 0 < 0xC2
  · exact .inl q1
  by_cases q2 : 0xF4 < byt l 0
  · exact .inr (.inl q2)
  by_cases q3 : seqN (byt l 0) ≤ l.length
  · exact .inr (.inr (.inl q3))
  by_cases q4 : 1 < l.length ∧ (byt l 1 < seqLo (byt l 0) ∨ seqHi (byt l 0) < byt l 1)
  · exact .inr (.inr (.inr (.inl q4)))
  by_cases q5 : 2 < l.length ∧ (byt l 2 < 0x80 ∨ 0xBF < byt l 2)
  · exact .inr (.inr (.inr (.inr q5)))
  exact absurd ⟨by omega, by omega, fun z => by omega, fun z => by omega⟩ h
theorem runes_bad {l : List UInt8} (hl : l ≠ []) (h : seq l = 0) : runes l = 65533 :: runes (l.drop 1) := by
  rw [runes_step hl, dec_seq, if_pos h]
  rfl
theorem runes_cont (u : List UInt8) (h : ∀ b ∈ u, 0x80 ≤ b.toNat ∧ b.toNat ≤ 0xBF) : runes u = List.replicate u.length 65533 := by
  induction u with
  | nil => rfl
  | cons b u ih =>
    have hb := h b (List.mem_cons_self ..)
    have e : byt (b :: u) 0 = b.toNat := rfl
    rw [runes_bad (by simp) (seq_low (by rw [e]; omega) (by rw [e]; omega))]
    show 65533 :: runes u = _
    rw [ih (fun c hc => h c (List.mem_cons_of_mem _ hc))]
    rfl
/-- The bytes behind the first one of what is not whole. -/
theorem tail_cont {a : UInt8} {u : List UInt8} (h : ¬ full (a :: u)) : ∀ b ∈ u, 0x80 ≤ b.toNat ∧ b.toNat ≤ 0xBF := by
  obtain ⟨q0, q1, q2, q3⟩ := not_full (by simp) h
  have hN := n_bd (byt (a :: u) 0)
  have h1 := lo_bd (byt (a :: u) 0)
  have h2 := hi_bd (byt (a :: u) 0)
  match u, q1, q2, q3 with
  | [], _, _, _ => intro b hb; cases hb
  | [b], q1, q2, q3 =>
    intro c hc
    rw [List.mem_singleton] at hc
    subst hc
    have e : byt [a, c] 1 = c.toNat := rfl
    have := q2 (by simp)
    rw [e] at this
    omega
  | [b, d], q1, q2, q3 =>
    have e1 : byt [a, b, d] 1 = b.toNat := rfl
    have e2 : byt [a, b, d] 2 = d.toNat := rfl
    have w1 := q2 (by simp)
    have w2 := q3 (by simp)
    rw [e1] at w1
    rw [e2] at w2
    intro c hc
    rcases List.mem_cons.1 hc with rfl | hc
    · omega
    · rw [List.mem_singleton] at hc; subst hc; omega
  | b :: d :: e :: v, q1, _, _ =>
    simp only [List.length_cons] at q1
    omega
theorem runes_amid {l : List UInt8} (hl : l ≠ []) (h : ¬ full l) : runes l = List.replicate l.length 65533 := by
  obtain ⟨a, u, rfl⟩ := List.exists_cons_of_ne_nil hl
  obtain ⟨q0, q1, q2, q3⟩ := not_full hl h
  have hs : seq (a :: u) = 0 := by
    rcases seq_vd (l := a :: u) (by omega) with ⟨v, e⟩ | ⟨_, e⟩
    · have hN := n_bd (byt (a :: u) 0)
      obtain ⟨v1, v2, v3, v4⟩ := v
      rcases hN with ⟨_, hn⟩ | ⟨_, _, hn⟩ | ⟨_, hn⟩
      · omega
      · have := v3 (by omega); omega
      · have := v4 (by omega); omega
    · exact e
  rw [runes_bad hl hs]
  show 65533 :: runes u = _
  rw [runes_cont u (tail_cont h)]
  rfl
theorem runes_sole {l : List UInt8} (hl : l ≠ []) (h : seq l = l.length) : ∃ r, runes l = [r] := by
  have hp : 0 < l.length := List.length_pos_iff.2 hl
  rw [runes_step hl, dec_seq, if_neg (by omega)]
  refine ⟨shownI (val l (seq l)), ?_⟩
  show shownI (val l (seq l)) :: runes (l.drop (seq l)) = [_]
  rw [h, List.drop_length, runes_nil]
/-- One byte more. -/
theorem more_one {h : List UInt8} (hh : h ≠ []) (hf : ¬ full h) (b : UInt8) (hs : seq (h ++ [b]) ≠ 0) : seq (h ++ [b]) = (h ++ [b]).length := by
  obtain ⟨q0, q1, q2, q3⟩ := not_full hh hf
  have hp : 0 < h.length := List.length_pos_iff.2 hh
  have e0 : byt (h ++ [b]) 0 = byt h 0 := by unfold byt; rw [List.getD_eq_getElem?_getD, List.getElem?_append_left hp, List.getD_eq_getElem?_getD]
  rcases seq_vd (l := h ++ [b]) (by rw [e0]; omega) with ⟨v, e⟩ | ⟨_, e⟩
  · have hN := n_bd (byt (h ++ [b]) 0)
    obtain ⟨v1, v2, v3, v4⟩ := v
    rw [e0] at hN v1 v2 v3 v4 e
    rw [e]
    have hl : (h ++ [b]).length = h.length + 1 := by simp
    rcases hN with ⟨_, hn⟩ | ⟨_, _, hn⟩ | ⟨_, hn⟩
    · omega
    · have := v3 (by omega); omega
    · have := v4 (by omega); omega
  · exact absurd e hs
theorem full_seq {l : List UInt8} (hl : l ≠ []) (h : seq l = l.length) : full l := by
  have hp : 0 < l.length := List.length_pos_iff.2 hl
  by_cases h80 : byt l 0 < 0x80
  · exact ⟨hl, .inl (by omega)⟩
  · rcases seq_vd (l := l) (by omega) with ⟨v, e⟩ | ⟨_, e⟩
    · exact ⟨hl, .inr (.inr (.inl (by omega)))⟩
    · omega

end Go.Proofs.YtlfffpoeioecjaaDoor

namespace Go.Proofs.YtlfffpoeioecjaaDoor
open Go.RowKit Go.Sort
set_option linter.unusedVariables false

/-- What is read so far: the numbers that are whole, and the one that is not. -/
def parS : List Int × Int → List UInt8 → List Int × Int
  | p, [] => p
  | p, b :: l => parS (if b.toNat = 59 then (if p.1.length < 16 then p.1 ++ [p.2] else p.1, 0) else if b.toNat = 58 then p else (p.1, min 999999 (10 * p.2 + (b.toNat : Int) - 48))) l
def parE (p : List Int × Int) : List Int := if p.1.length < 16 then p.1 ++ [p.2] else p.1
def parL (l : List UInt8) : List Int := parE (parS ([], 0) l)
def par1 (p : List Int × Int) (b : UInt8) : List Int × Int := if b.toNat = 59 then (if p.1.length < 16 then p.1 ++ [p.2] else p.1, 0) else if b.toNat = 58 then p else (p.1, min 999999 (10 * p.2 + (b.toNat : Int) - 48))
theorem parS_app (p : List Int × Int) (l : List UInt8) (b : UInt8) : parS p (l ++ [b]) = par1 (parS p l) b := by
  induction l generalizing p with
  | nil => rfl
  | cons a l ih => exact ih _
theorem parL_pos (l : List UInt8) : 0 < (parL l).length := by
  unfold parL parE
  split
  · simp
  · omega
theorem parL_le (l : List UInt8) (p : List Int × Int) (hp : p.1.length ≤ 16) : (parS p l).1.length ≤ 16 := by
  induction l generalizing p with
  | nil => exact hp
  | cons b l ih =>
    refine ih _ ?_
    by_cases h1 : b.toNat = 59
    · rw [if_pos h1]
      by_cases h2 : p.1.length < 16
      · rw [if_pos h2]; simp; omega
      · rw [if_neg h2]; exact hp
    · rw [if_neg h1]
      by_cases h3 : b.toNat = 58
      · rw [if_pos h3]; exact hp
      · rw [if_neg h3]; exact hp

theorem par_slice {W : World} {B n size : Nat} {e : TypeId} {v : Value} {xs : List Value} (h : W.ownsRow B e size v n xs) : ∃ p c, v = .slice p n c := by
  rcases h.2 with ⟨rfl, rfl⟩ | ⟨g, cap, cur, rfl, _⟩
  · exact ⟨none, 0, rfl⟩
  · exact ⟨_, _, rfl⟩

set_option maxRecDepth 100000 in
set_option maxHeartbeats 8000000 in
theorem params_any (x : ByteArray) (hx : x.size ≤ 4611686018427387904) (hb : ∀ b ∈ x.data.toList, 48 ≤ b.toNat ∧ b.toNat ≤ 59) (w : World) :
    Calls Tryd.prog 71 #[.string x] w fun e w' => ∃ v, e = .returned v ∧ Ints w' v (parL x.data.toList) ∧ Below w.heap.size w w' := by
  obtain ⟨i0, hi, hz0, hz1, hz2⟩ := info_parts info3
  have LE : Hid (∀ a b w, Calls Tryd.prog 87 #[.int .i64 a, .int .i64 b] w fun e w' => e = .returned (.int .i64 (min a b)) ∧ w' = w) := least_any
  have HX : Hid (∀ b ∈ x.data.toList, 48 ≤ b.toNat ∧ b.toNat ≤ 59) := hb
  clear hb
  go_enter Tryd.func71, Tryd.ntmps71
  go_wp2
  go_loopw [3, 4, 5] (fun v nv iv wr => ∃ (i : Nat) (acc : List Int) (n : Int), iv = .int .i64 i ∧ i ≤ x.size + 1 ∧ nv = .int .i64 n ∧ 0 ≤ n ∧ n ≤ 999999 ∧ wr.ownsRow w.heap.size 3 1 v acc.length (acc.map (Value.int .i64)) ∧ Below w.heap.size w wr ∧ acc.length ≤ 16 ∧ Hid (i ≤ x.size → (acc, n) = parS ([], 0) (x.data.toList.take i)) ∧ Hid (i = x.size + 1 → acc = parL x.data.toList)) (fun _ _ i _ => x.size + 1 - (intOf i).toNat)
  case atStart => exact ⟨0, [], 0, rfl, Nat.zero_le _, rfl, by omega, by omega, World.ownsRow_nil _ _ _ _, Below.refl _ _, by simp, fun _ => rfl, fun h => by omega⟩
  case round =>
    obtain ⟨i, acc, n, rfl, hil, rfl, hn0, hn1, hown, hbw, hal, HS, HE⟩ := hrel
    obtain ⟨p0, c0, rfl⟩ := par_slice hown
    have hsz := hbw.size
    by_cases hle : i ≤ x.size
    · have hle' : (i : Int) ≤ (x.size : Int) := by omega
      have HS2 : Hid ((acc, n) = parS ([], 0) (x.data.toList.take i)) := HS.out hle
      by_cases hend : i = x.size
      · have he1 : ((i : Int) == (x.size : Int)) = true := by simpa using (by omega : (i : Int) = (x.size : Int))
        have HPL : Hid (parE (acc, n) = parL x.data.toList) := by
          show _ = _
          unfold parL
          rw [HS2.out, hend, List.take_of_length_le (by rw [len_data]; exact Nat.le_refl _)]
        clear HS HE HS2
        by_cases h16 : acc.length < 16
        · have h16' : (acc.length : Int) < 16 := by omega
          go_wp2_with (first | (at_builtin; refine wpList_append_own _ rfl _ _ 113 rfl w.heap.size 3 i0 (.int .i64 0) 1 8 Tryd.underlying113 hi hz0 hz1 hz2 rfl (by decide) _ _ _ rfl (hown.alloc _) _ 1 1 [.int .i64 n] rfl rfl ?c1k1 ?c2k1 ?c3k1 ?c4k1 ?c5k1 ?_))
          try case c1k1 => exact cell_one_new _ _ _
          case c2k1 => first | (intro u hu; simp at hu; subst hu; rfl) | rfl | (simp; done)
          case c3k1 => first | (unfold maxLen; omega) | omega
          case c4k1 => omega
          case c5k1 => first | omega | (rw [World.size_alloc]; omega)
          intro v' w1 hown' hg _
          have hrow : ∀ q, Value.ownBlock (.slice p0 acc.length c0) = some q → w.heap.size ≤ q := fun q hq => (hown.lt q hq).1
          have hb1 : Below w.heap.size w w1 := (hbw.alloc hsz _).grown hg (by rw [World.size_alloc]; omega) hrow
          clear hg hrow hown hbw
          go_wp2
          go_roundw
          case rel =>
            refine ⟨i + 1, acc ++ [n], 0, by go_num, by omega, rfl, by omega, by omega, ?_, hb1, by simp; omega, ?_, ?_⟩
            · rw [List.length_append, List.map_append]; exact hown'
            · exact fun q => absurd q (by omega)
            · exact fun _ => by rw [← HPL.out]; unfold parE; rw [if_pos h16]
          case measure => simp [intOf]; omega
        · have h16' : ¬ (acc.length : Int) < 16 := by omega
          go_wp2
          go_roundw
          case rel => exact ⟨i + 1, acc, 0, by go_num, by omega, rfl, by omega, by omega, hown, hbw, hal, fun q => absurd q (by omega), fun _ => by rw [← HPL.out]; unfold parE; rw [if_neg h16]⟩
          case measure => simp [intOf]; omega
      · have hlt : i < x.size := by omega
        have he1 : ((i : Int) == (x.size : Int)) = false := by simpa using (by omega : ¬ (i : Int) = (x.size : Int))
        obtain ⟨bt, hbt⟩ : ∃ b, x[i]'hlt = b := ⟨_, rfl⟩
        have HP : Hid (parS ([], 0) (x.data.toList.take (i + 1)) = par1 (acc, n) bt) := by
          show _ = _
          have e : x.data.toList[i]? = some bt := by rw [Array.getElem?_toList, ← hbt]; exact Array.getElem?_eq_getElem hlt
          rw [List.take_add_one, e, HS2.out, ← parS_app]
          rfl
        have hbd : 48 ≤ bt.toNat ∧ bt.toNat ≤ 59 := HX.out bt (by rw [← hbt]; exact List.mem_of_getElem? (i := i) (by rw [Array.getElem?_toList]; exact Array.getElem?_eq_getElem hlt))
        clear HS HE HS2
        by_cases h59 : bt.toNat = 59
        · have e59 : ((bt.toNat : Int) == 59) = true := by simpa using (by omega : (bt.toNat : Int) = 59)
          by_cases h16 : acc.length < 16
          · have h16' : (acc.length : Int) < 16 := by omega
            go_wp2_with (first | (at_builtin; refine wpList_append_own _ rfl _ _ 113 rfl w.heap.size 3 i0 (.int .i64 0) 1 8 Tryd.underlying113 hi hz0 hz1 hz2 rfl (by decide) _ _ _ rfl (hown.alloc _) _ 1 1 [.int .i64 n] rfl rfl ?c1k1 ?c2k1 ?c3k1 ?c4k1 ?c5k1 ?_))
            try case c1k1 => exact cell_one_new _ _ _
            case c2k1 => first | (intro u hu; simp at hu; subst hu; rfl) | rfl | (simp; done)
            case c3k1 => first | (unfold maxLen; omega) | omega
            case c4k1 => omega
            case c5k1 => first | omega | (rw [World.size_alloc]; omega)
            intro v' w1 hown' hg _
            have hrow : ∀ q, Value.ownBlock (.slice p0 acc.length c0) = some q → w.heap.size ≤ q := fun q hq => (hown.lt q hq).1
            have hb1 : Below w.heap.size w w1 := (hbw.alloc hsz _).grown hg (by rw [World.size_alloc]; omega) hrow
            clear hg hrow hown hbw
            go_wp2
            go_roundw
            case rel =>
              refine ⟨i + 1, acc ++ [n], 0, by go_num, by omega, rfl, by omega, by omega, ?_, hb1, by simp; omega, ?_, ?_⟩
              · rw [List.length_append, List.map_append]; exact hown'
              · exact fun _ => by rw [HP.out]; unfold par1; rw [if_pos h59, if_pos h16]
              · exact fun q => absurd q (by omega)
            case measure => simp [intOf]; omega
          · have h16' : ¬ (acc.length : Int) < 16 := by omega
            go_wp2
            go_roundw
            case rel => exact ⟨i + 1, acc, 0, by go_num, by omega, rfl, by omega, by omega, hown, hbw, hal, fun _ => by rw [HP.out]; unfold par1; rw [if_pos h59, if_neg h16], fun q => absurd q (by omega)⟩
            case measure => simp [intOf]; omega
        · have e59 : ((bt.toNat : Int) == 59) = false := by simpa using (by omega : ¬ (bt.toNat : Int) = 59)
          by_cases h58 : bt.toNat = 58
          · have e58 : ((bt.toNat : Int) != 58) = false := by simpa using (by omega : (bt.toNat : Int) = 58)
            go_wp2
            go_roundw
            case rel => exact ⟨i + 1, acc, n, by go_num, by omega, rfl, hn0, hn1, hown, hbw, hal, fun _ => by rw [HP.out]; unfold par1; rw [if_neg h59, if_pos h58], fun q => absurd q (by omega)⟩
            case measure => simp [intOf]; omega
          · have e58 : ((bt.toNat : Int) != 58) = true := by simpa using (by omega : ¬ (bt.toNat : Int) = 58)
            go_wp2_with fail
            refine (LE.out _ _ _).mono ?_
            rintro e w1 ⟨rfl, hw⟩
            obtain rfl := hw.symm
            go_wp2
            go_roundw
            case rel => exact ⟨i + 1, acc, min 999999 (10 * n + (bt.toNat : Int) - 48), by go_num, by omega, by go_num, by omega, by omega, hown, hbw, hal, fun _ => by rw [HP.out]; unfold par1; rw [if_neg h59, if_neg h58], fun q => absurd q (by omega)⟩
            case measure => simp [intOf]; omega
    · have hle' : ¬ (i : Int) ≤ (x.size : Int) := by omega
      have HEE : Hid (acc = parL x.data.toList) := HE.out (by omega)
      go_wp2
      go_ret
      exact ⟨_, rfl, by rw [← HEE.out]; exact ints_own hown, hbw⟩

end Go.Proofs.YtlfffpoeioecjaaDoor

namespace Go.Proofs.YtlfffpoeioecjaaDoor
open Go.RowKit Go.Sort
set_option linter.unusedVariables false

/-- A byte that may go on. -/
def fillB (l : List UInt8) : UInt8 := if l.length = 1 ∧ (byt l 0 = 0xE0 ∨ byt l 0 = 0xF0) then 0xA0 else 0x80
/-- n bytes more. -/
def fillN (l : List UInt8) : Nat → List UInt8
  | 0 => l
  | n + 1 => fillN l n ++ [fillB (fillN l n)]
theorem fillN_len (l : List UInt8) (n : Nat) : (fillN l n).length = l.length + n := by
  induction n with
  | zero => rfl
  | succ n ih => show (fillN l n ++ [_]).length = _; rw [List.length_append, ih]; simp; omega
def begN (l : List UInt8) (n : Nat) : Prop := seq (fillN l n) = (fillN l n).length ∧ l.length < seq (fillN l n)

set_option maxRecDepth 100000 in
set_option maxHeartbeats 2000000 in
theorem filler_any (x : ByteArray) (hx : x.size ≤ 70368744177664) (w : World) : Calls Tryd.prog 74 #[.string x] w fun e w' => e = .returned (.string ⟨#[fillB x.data.toList]⟩) ∧ Below w.heap.size w w' := by
  have c1 := conv1 160 (by omega)
  have c2 := conv1 128 (by omega)
  by_cases h1 : x.size = 1
  · have hs : 0 < x.size := by omega
    obtain ⟨bt, hbt⟩ : ∃ b, x[0]'hs = b := ⟨_, rfl⟩
    have HB : Hid (byt x.data.toList 0 = bt.toNat) := by show _ = _; rw [byt_at x 0 hs, hbt]
    have HL : Hid (x.data.toList.length = 1) := (len_data x).trans h1
    have e1 : ((x.size : Int) == 1) = true := by simpa using (by omega : (x.size : Int) = 1)
    by_cases h2 : bt.toNat = 224
    · have e2 : ((bt.toNat : Int) == 224) = true := by simpa using (by omega : (bt.toNat : Int) = 224)
      go_enter Tryd.func74, Tryd.ntmps74
      go_wp2
      go_ret
      exact ⟨by unfold fillB; rw [if_pos ⟨HL.out, .inl (by rw [HB.out]; exact h2)⟩]; rfl, (Below.refl _ _).alloc (Nat.le_refl _) _⟩
    · have e2 : ((bt.toNat : Int) == 224) = false := by simpa using (by omega : ¬ (bt.toNat : Int) = 224)
      by_cases h3 : bt.toNat = 240
      · have e3 : ((bt.toNat : Int) == 240) = true := by simpa using (by omega : (bt.toNat : Int) = 240)
        go_enter Tryd.func74, Tryd.ntmps74
        go_wp2
        go_ret
        exact ⟨by unfold fillB; rw [if_pos ⟨HL.out, .inr (by rw [HB.out]; exact h3)⟩]; rfl, (Below.refl _ _).alloc (Nat.le_refl _) _⟩
      · have e3 : ((bt.toNat : Int) == 240) = false := by simpa using (by omega : ¬ (bt.toNat : Int) = 240)
        go_enter Tryd.func74, Tryd.ntmps74
        go_wp2
        go_ret
        exact ⟨by unfold fillB; rw [if_neg (fun q => by have := HB.out; omega)]; rfl, (Below.refl _ _).alloc (Nat.le_refl _) _⟩
  · have e1 : ((x.size : Int) == 1) = false := by simpa using (by omega : ¬ (x.size : Int) = 1)
    have HL : Hid (x.data.toList.length = x.size) := len_data x
    go_enter Tryd.func74, Tryd.ntmps74
    go_wp2
    go_ret
    exact ⟨by unfold fillB; rw [if_neg (fun q => by have := HL.out; omega)]; rfl, (Below.refl _ _).alloc (Nat.le_refl _) _⟩

def BgOut (w w' : World) (e : Ending) (l : List UInt8) : Prop := ∃ bb : Bool, e = .returned (.bool bb) ∧ Hid (bb = true ↔ ∃ n, 1 ≤ n ∧ n < 4 ∧ begN l n) ∧ Below w.heap.size w w'
set_option maxRecDepth 100000 in
set_option maxHeartbeats 8000000 in
theorem begins_any (x : ByteArray) (h0 : 0 < x.size) (hx : x.size ≤ 1000) (w : World) : Calls Tryd.prog 54 #[.string x] w fun e w' => BgOut w w' e x.data.toList := by
  have FI : Hid (∀ (y : ByteArray) w, y.size ≤ 70368744177664 → Calls Tryd.prog 74 #[.string y] w fun e w' => e = .returned (.string ⟨#[fillB y.data.toList]⟩) ∧ Below w.heap.size w w') := fun y w h => filler_any y h w
  have SQ : Hid (∀ (y : ByteArray) w, 0 < y.size → y.size ≤ 70368744177664 → Calls Tryd.prog 52 #[.string y, .int .i64 (0 : Nat)] w fun e w' => e = .returned (.int .i64 (seq y.data.toList)) ∧ w' = w) := fun y w h1 h2 => by
    have := sequence_any y 0 h1 h2 w
    rw [List.drop_zero] at this
    exact this
  have HL : Hid (x.data.toList.length = x.size) := len_data x
  go_enter Tryd.func54, Tryd.ntmps54
  go_wp2
  go_loopw [3] (fun nv wr => ∃ n : Nat, 1 ≤ n ∧ n ≤ 4 ∧ nv = .int .i64 n ∧ Hid (∀ k, 1 ≤ k → k < n → ¬ begN x.data.toList k) ∧ Hid (Below w.heap.size w wr)) (fun nv _ => 4 - (intOf nv).toNat)
  case atStart => exact ⟨1, by omega, by omega, rfl, fun k h1 h2 => by omega, Below.refl _ _⟩
  case round =>
    obtain ⟨n, hn1, hn4, rfl, HB, HW⟩ := hrel
    by_cases hlt : n < 4
    · have hlt' : (n : Int) < 4 := by omega
      go_wp2
      go_loopw [4, 5] (fun fv iv wk => ∃ (i : Nat) (y : ByteArray), i ≤ n ∧ iv = .int .i64 i ∧ fv = .string y ∧ y.size = x.size + i ∧ Hid (y.data.toList = fillN x.data.toList i) ∧ Hid (Below w.heap.size w wk)) (fun _ iv _ => n - (intOf iv).toNat)
      case atStart => exact ⟨0, x, by omega, rfl, rfl, rfl, rfl, HW.out⟩
      case round =>
        obtain ⟨i, y, hi, rfl, rfl, hy, HY, HK⟩ := hrel
        by_cases hil : i < n
        · have hil' : (i : Int) < (n : Int) := by omega
          go_wp2_with fail
          refine (FI.out y _ (by omega)).mono ?_
          rintro e w1 ⟨rfl, b1⟩
          have HK1 : Hid (Below w.heap.size w w1) := HK.out.trans (b1.mono HK.out.size)
          have HY1 : Hid ((y ++ (⟨#[fillB y.data.toList]⟩ : ByteArray)).data.toList = fillN x.data.toList (i + 1)) := by
            show _ = fillN x.data.toList i ++ [fillB (fillN x.data.toList i)]
            rw [← HY.out]
            simp
          obtain ⟨fb, hfb⟩ : ∃ z : ByteArray, (⟨#[fillB y.data.toList]⟩ : ByteArray) = z := ⟨_, rfl⟩
          have hfs : fb.size = 1 := by rw [← hfb]; rfl
          rw [hfb] at HY1 ⊢
          have hcc : ¬ 9223372036854775807 < y.size + fb.size := by omega
          have hya : (y ++ fb).size = x.size + (i + 1) := by rw [ByteArray.size_append]; omega
          clear b1 hfb
          go_wp2
          go_roundw
          case rel => exact ⟨i + 1, y ++ fb, by omega, by go_num, rfl, hya, HY1.out, HK1.out⟩
          case measure => simp [intOf]; omega
        · have hil' : ¬ (i : Int) < (n : Int) := by omega
          obtain rfl : i = n := by omega
          have HSQ : Hid (∀ w, Calls Tryd.prog 52 #[.string y, .int .i64 0] w fun e w' => e = .returned (.int .i64 (seq y.data.toList)) ∧ w' = w) := fun w => SQ.out y w (by omega) (by omega)
          obtain ⟨q, hq⟩ : ∃ z, seq y.data.toList = z := ⟨_, rfl⟩
          rw [hq] at HSQ
          have HQ : Hid (begN x.data.toList i ↔ q = y.size ∧ x.size < q) := by
            show _ ↔ _
            unfold begN
            rw [← HY.out, hq, len_data, HL.out]
          clear hq
          go_wp2_with fail
          refine (HSQ.out _).mono ?_
          rintro e w1 ⟨rfl, hw⟩
          obtain rfl := hw.symm
          by_cases h1 : q = y.size
          · have e1 : ((q : Int) == (y.size : Int)) = true := by simpa using (by omega : (q : Int) = (y.size : Int))
            by_cases h2 : x.size < q
            · have h2' : (x.size : Int) < (q : Int) := by omega
              go_wp2
              go_ret
              exact ⟨true, rfl, ⟨fun _ => ⟨i, hn1, hlt, HQ.out.2 ⟨h1, h2⟩⟩, fun _ => rfl⟩, HK.out⟩
            · exact absurd (by omega) h2
          · have e1 : ((q : Int) == (y.size : Int)) = false := by simpa using (by omega : ¬ (q : Int) = (y.size : Int))
            go_wp2
            go_roundw
            case rel => exact ⟨i + 1, by omega, by omega, by go_num, fun k k1 k2 => by
              by_cases e : k = i
              · subst e; exact fun z => h1 (HQ.out.1 z).1
              · exact HB.out k k1 (by omega), HK.out⟩
            case measure => simp [intOf]; omega
    · have hlt' : ¬ (n : Int) < 4 := by omega
      go_wp2
      go_ret
      exact ⟨false, rfl, ⟨fun h => (by cases h), fun ⟨k, k1, k2, k3⟩ => absurd k3 (HB.out k k1 (by omega))⟩, HW.out⟩

end Go.Proofs.YtlfffpoeioecjaaDoor

namespace Go.Proofs.YtlfffpoeioecjaaDoor
set_option linter.unusedVariables false

theorem byt_fill (l : List UInt8) (n k : Nat) (hk : k < l.length) : byt (fillN l n) k = byt l k := by
  induction n with
  | zero => rfl
  | succ n ih =>
    show byt (fillN l n ++ [_]) k = _
    rw [← ih]
    unfold byt
    rw [List.getD_eq_getElem?_getD, List.getElem?_append_left (by rw [fillN_len]; omega), List.getD_eq_getElem?_getD]
theorem byt_at_fill (l : List UInt8) (n k : Nat) (hk : k < n) : byt (fillN l n) (l.length + k) = (fillB (fillN l k)).toNat := by
  induction n with
  | zero => omega
  | succ n ih =>
    show byt (fillN l n ++ [fillB (fillN l n)]) _ = _
    by_cases e : k = n
    · subst e
      unfold byt
      rw [List.getD_eq_getElem?_getD, List.getElem?_append_right (by rw [fillN_len]; omega), fillN_len]
      simp
    · have := ih (by omega)
      rw [← this]
      unfold byt
      rw [List.getD_eq_getElem?_getD, List.getElem?_append_left (by rw [fillN_len]; omega), List.getD_eq_getElem?_getD]
theorem fillB_more {l : List UInt8} (h : l.length ≠ 1) : (fillB l).toNat = 0x80 := by unfold fillB; rw [if_neg (fun q => h q.1)]; rfl
theorem fillB_one {l : List UInt8} (h : l.length = 1) (hb : 0xC2 ≤ byt l 0 ∧ byt l 0 ≤ 0xF4) : seqLo (byt l 0) ≤ (fillB l).toNat ∧ (fillB l).toNat ≤ seqHi (byt l 0) := by
  have h1 := lo_bd (byt l 0)
  have h2 := hi_bd (byt l 0)
  unfold fillB
  by_cases q : byt l 0 = 0xE0 ∨ byt l 0 = 0xF0
  · rw [if_pos ⟨h, q⟩]
    have e : (0xA0 : UInt8).toNat = 160 := rfl
    rw [e]; omega
  · rw [if_neg (fun z => q z.2)]
    have e : (0x80 : UInt8).toNat = 128 := rfl
    rw [e]; omega
/-- A beginning: what is not full. -/
theorem beg_iff {l : List UInt8} (hl : l ≠ []) (h80 : 0x80 ≤ byt l 0) : (∃ n, 1 ≤ n ∧ n < 4 ∧ begN l n) ↔ ¬ full l := by
  have hp : 0 < l.length := List.length_pos_iff.2 hl
  have hN := n_bd (byt l 0)
  constructor
  · rintro ⟨n, hn1, hn4, hb1, hb2⟩ hf
    have e0 : byt (fillN l n) 0 = byt l 0 := byt_fill l n 0 hp
    rcases seq_vd (l := fillN l n) (by rw [e0]; exact h80) with ⟨v, e⟩ | ⟨_, e⟩
    · rw [e, e0] at hb1 hb2
      obtain ⟨v1, v2, v3, v4⟩ := v
      rw [e0] at v1 v2 v3 v4
      rw [fillN_len] at hb1
      have hf2 := hf.2
      have b1 : 1 < l.length → byt (fillN l n) 1 = byt l 1 := fun q => byt_fill l n 1 q
      have b2 : 2 < l.length → byt (fillN l n) 2 = byt l 2 := fun q => byt_fill l n 2 q
      rcases hf2 with q | q | q | ⟨q, z⟩ | ⟨q, z⟩
      · omega
      · omega
      · omega
      · have := b1 q; omega
      · have := b2 q; have := v3 (by omega); omega
    · rw [e] at hb2; omega
  · intro hf
    obtain ⟨q0, q1, q2, q3⟩ := not_full hl hf
    refine ⟨seqN (byt l 0) - l.length, by omega, by omega, ?_⟩
    obtain ⟨n, hn⟩ : ∃ n, seqN (byt l 0) - l.length = n := ⟨_, rfl⟩
    rw [hn]
    have e0 : byt (fillN l n) 0 = byt l 0 := byt_fill l n 0 hp
    have hlen := fillN_len l n
    have at1 : seqLo (byt l 0) ≤ byt (fillN l n) 1 ∧ byt (fillN l n) 1 ≤ seqHi (byt l 0) := by
      by_cases c : 1 < l.length
      · rw [byt_fill l n 1 c]; exact q2 c
      · have h1 : l.length = 1 := by omega
        have := byt_at_fill l n 0 (by omega)
        rw [Nat.add_zero, h1] at this
        rw [this]
        exact fillB_one h1 q0
    have at2 : 2 < seqN (byt l 0) → 0x80 ≤ byt (fillN l n) 2 ∧ byt (fillN l n) 2 ≤ 0xBF := fun z => by
      by_cases c : 2 < l.length
      · rw [byt_fill l n 2 c]; exact q3 c
      · have := byt_at_fill l n (2 - l.length) (by omega)
        rw [show l.length + (2 - l.length) = 2 by omega] at this
        rw [this, fillB_more (by rw [fillN_len]; omega)]
        omega
    have at3 : 3 < seqN (byt l 0) → 0x80 ≤ byt (fillN l n) 3 ∧ byt (fillN l n) 3 ≤ 0xBF := fun z => by
      have := byt_at_fill l n (3 - l.length) (by omega)
      rw [show l.length + (3 - l.length) = 3 by omega] at this
      rw [this, fillB_more (by rw [fillN_len]; omega)]
      omega
    have vd : Vd (fillN l n) := by
      unfold Vd
      rw [e0, hlen]
      exact ⟨q0, ⟨by omega, at1⟩, fun z => ⟨by omega, at2 z⟩, fun z => ⟨by omega, at3 z⟩⟩
    rcases seq_vd (l := fillN l n) (by rw [e0]; exact h80) with ⟨_, e⟩ | ⟨nv, _⟩
    · unfold begN
      rw [e, e0, hlen]
      omega
    · exact absurd vd nv


end Go.Proofs.YtlfffpoeioecjaaDoor
