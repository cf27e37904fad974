/-
  The walks of glyph.Encode and paneref.Encode: both write the runes' right sequences one behind the other.
-/
import Derived.Test.YtlfffpoeioecjaaDoorX01
import Derived.Test.YtlfffpoeioecjaaDoorX04
import Derived.Laws.IdiomStrings
import Derived.Test.YtlfffpoeioecjaaDoorX03
import Derived.Lib.BufferRead
import Derived.Test.YtlfffpoeioecjaaDoorX00
namespace Go.Proofs.YtlfffpoeioecjaaDoor
open Go.RowKit
set_option linter.unusedVariables false


/-- G2 on lists. -/
def enc (zs : List Int) : List UInt8 := zs.flatMap Lib.encodeRune

theorem enc_snoc (zs : List Int) (k : Nat) (h : k < zs.length) : enc (zs.take (k + 1)) = enc (zs.take k) ++ Lib.encodeRune (zs[k]?.getD 0) := by
  unfold enc
  rw [List.take_succ_eq_append_getElem h, List.flatMap_append]
  simp [h]
theorem encodeRune_le (r : Int) : (Lib.encodeRune r).length ≤ 4 := by
  have := (Lib.runeCells_le r).2
  rwa [Lib.runeCells_length] at this
theorem enc_le (zs : List Int) : (enc zs).length ≤ 4 * zs.length := by
  induction zs with
  | nil => simp [enc]
  | cons z zs ih =>
    have := encodeRune_le z
    unfold enc at *
    simp only [List.flatMap_cons, List.length_append, List.length_cons]; omega
theorem take_le (zs : List Int) (k : Nat) (h : k ≤ zs.length) : (enc (zs.take k)).length ≤ 4 * k := by
  have := enc_le (zs.take k)
  rw [List.length_take, Nat.min_eq_left h] at this
  exact this

theorem encodeRune_runeI (n : Int) : Lib.encodeRune (runeI n) = Lib.encodeRune n := by unfold Lib.encodeRune; rw [encode_runeI]

/-- A row of bytes of the call's own, made a string. -/
theorem conv_own {w : World} {B n : Nat} {v : Value} {l : List UInt8} (h : w.ownsRow B 5 1 v n (Lib.byteCells l)) :
    (convert 76 9 v).run Tryd.prog w = .ok (.string ⟨l.toArray⟩) w := by
  obtain ⟨hl, h2⟩ := h
  rw [Lib.byteCells_length] at hl
  rcases h2 with ⟨rfl, rfl⟩ | ⟨g, cap, cur, rfl, _, hg, _, _, _, htake⟩
  · have : l = [] := List.length_eq_zero_iff.1 (by omega)
    subst this
    exact Lib.run_convert_nil_bytes w 76 9 5 0 Tryd.underlying76 Tryd.underlying5 Tryd.underlying9
  · have e : n = l.length := by omega
    subst e
    exact run_convert_bytes_back w 76 9 5 ⟨g, 0, none⟩ cap l Tryd.underlying76 Tryd.underlying5 Tryd.underlying9 (Lib.bytes_of_row hg (by rw [Nat.mul_one] at htake; exact htake))

theorem own_snoc {w : World} {B : Nat} {v : Value} {l : List UInt8} {r : Int} (h : w.ownsRow B 5 1 v (l.length + (Lib.runeCells r).length) (Lib.byteCells l ++ Lib.runeCells r)) :
    w.ownsRow B 5 1 v (l ++ Lib.encodeRune r).length (Lib.byteCells (l ++ Lib.encodeRune r)) := by
  rw [Lib.byteCells_append, Lib.byteCells_encodeRune, List.length_append, ← Lib.runeCells_length]; exact h

set_option maxRecDepth 100000 in
set_option maxHeartbeats 1000000 in
theorem gEncode_some (zs : List Int) (b off cap : Nat) (w : World) (hb : b < w.heap.size) (hc : ∀ j, j < zs.length → w.cell? ⟨b, off + j, none⟩ = some (.int .i64 (zs[j]?.getD 0))) (hlen : zs.length ≤ 17592186044416) :
    Calls Tryd.prog 97 #[.slice (some ⟨b, off, none⟩) zs.length cap] w fun e w' => e = .returned (.string ⟨(enc zs).toArray⟩) ∧ Below w.heap.size w w' := by
  have HC : Hid (∀ j, j < zs.length → w.cell? ⟨b, off + j, none⟩ = some (.int .i64 (zs[j]?.getD 0))) := hc
  clear hc
  go_enter Tryd.func97, Tryd.ntmps97
  go_wp2
  go_loopw [3, 8] (fun v i wr => ∃ k : Nat, k ≤ zs.length ∧ i = .int .i64 k ∧ wr.ownsRow w.heap.size 5 1 v (enc (zs.take k)).length (Lib.byteCells (enc (zs.take k))) ∧ Below w.heap.size w wr) (fun _ i _ => zs.length - (intOf i).toNat)
  case atStart => exact ⟨0, Nat.zero_le _, rfl, by simpa [enc, Lib.byteCells] using World.ownsRow_nil _ _ _ _, Below.refl _ _⟩
  case round =>
    obtain ⟨k, hk, rfl, hown, hnx⟩ := hrel
    have hte := take_le zs k hk
    by_cases hlt : k < zs.length
    · obtain ⟨x, hx⟩ : ∃ x, zs[k]?.getD 0 = x := ⟨_, rfl⟩
      have hcx : wr.cell? ⟨b, off + k, none⟩ = some (.int .i64 x) := by rw [← hx]; exact (hnx.cell (p := ⟨b, off + k, none⟩) hb).trans (HC.out k hlt)
      have hr := runeI_bd x
      have hsz := hnx.size
      have HX : Hid (enc (zs.take (k + 1)) = enc (zs.take k) ++ Lib.encodeRune (runeI x)) := by show _ = _; rw [enc_snoc zs k hlt, hx, encodeRune_runeI]
      clear hx
      have hlt' : (k : Int) < (zs.length : Int) := by omega
      go_wp2_with (first | (go_at_call 116; refine (runeOf_any _ _).mono ?_; rintro e w' ⟨rfl, rfl⟩) | (go_at_call 115; refine (appendRune_any w.heap.size _ _ _ _ (by omega) (by omega) _ hown (by omega) hsz).mono ?_))
      rintro e W1 ⟨v', rfl, hown', o, hg⟩
      have hrow : ∀ q, Value.ownBlock u3 = some q → w.heap.size ≤ q := fun q hq => (hown.lt q hq).1
      have hb1 : Below w.heap.size w W1 := (hnx.alloc hsz o).grown hg (by simp; omega) hrow
      clear hcx hown hg hrow hnx
      go_wp2
      go_roundw
      case rel =>
        refine ⟨k + 1, by omega, by go_num, ?_, hb1⟩
        rw [HX.out]
        exact own_snoc hown'
      case measure => simp [intOf]; omega
    · have ek : k = zs.length := by omega
      have hlt' : ¬ (k : Int) < (zs.length : Int) := by omega
      rw [ek, List.take_length] at hown
      have hcv := conv_own hown
      clear ek
      go_wp2
      go_ret
      exact ⟨rfl, hnx⟩

end Go.Proofs.YtlfffpoeioecjaaDoor

namespace Go.Proofs.YtlfffpoeioecjaaDoor
set_option linter.unusedVariables false

/-- A rune: no surrogate, not beyond U+10FFFF. -/
def Sc (r : Int) : Prop := (0 ≤ r ∧ r < 55296) ∨ (57343 < r ∧ r ≤ 1114111)
/-- A rune that Decode answers. -/
def Good (r : Int) : Prop := Sc r ∧ shownI r = r

theorem byt_app (l t : List UInt8) (k : Nat) (h : k < l.length) : byt (l ++ t) k = (l.getD k 0).toNat := by
  unfold byt; rw [List.getD_eq_getElem?_getD, List.getD_eq_getElem?_getD, List.getElem?_append_left h]
theorem u8n (x : Int) (h0 : 0 ≤ x) (h1 : x < 256) : (x.toNat.toUInt8).toNat = x.toNat := by
  simp; omega

theorem dec_enc (r : Int) (h : Sc r) (t : List UInt8) : dec (Lib.encodeRune r ++ t) = (r.toNat, (Lib.encodeRune r).length) := by
  unfold Sc at h
  by_cases a : 0 ≤ r ∧ r ≤ 127
  · have e : Lib.encodeRune r = [r.toNat.toUInt8] := by unfold Lib.encodeRune; rw [Lib.encodeRuneZ_one a.1 a.2]; rfl
    rw [e]
    have b0 : byt ([r.toNat.toUInt8] ++ t) 0 = r.toNat := by rw [byt_app _ _ _ (by simp)]; exact u8n r (by omega) (by omega)
    rw [dec_one _ (by rw [b0]; omega), b0]; rfl
  by_cases b : 128 ≤ r ∧ r ≤ 2047
  · have e : Lib.encodeRune r = [(192 + r / 64).toNat.toUInt8, (128 + r % 64).toNat.toUInt8] := by unfold Lib.encodeRune; rw [Lib.encodeRuneZ_two b.1 b.2]; rfl
    rw [e]
    generalize hl : [(192 + r / 64).toNat.toUInt8, (128 + r % 64).toNat.toUInt8] ++ t = l
    have b0 : byt l 0 = (192 + r / 64).toNat := by rw [← hl, byt_app _ _ _ (by simp)]; exact u8n _ (by omega) (by omega)
    have b1 : byt l 1 = (128 + r % 64).toNat := by rw [← hl, byt_app _ _ _ (by simp)]; exact u8n _ (by omega) (by omega)
    have c1 : cnt l 1 = true := (cnt_iff l 1).2 ⟨by rw [← hl]; simp, by omega, by omega⟩
    unfold dec
    rw [if_neg (by omega), if_pos (by rw [c1, b0]; simp; omega), if_pos (by omega), b0, b1]
    simp; omega
  by_cases c : (2048 ≤ r ∧ r < 55296) ∨ (57343 < r ∧ r ≤ 65535)
  · have e : Lib.encodeRune r = [(224 + r / 4096).toNat.toUInt8, (128 + r / 64 % 64).toNat.toUInt8, (128 + r % 64).toNat.toUInt8] := by unfold Lib.encodeRune; rw [Lib.encodeRuneZ_three c]; rfl
    rw [e]
    generalize hl : [(224 + r / 4096).toNat.toUInt8, (128 + r / 64 % 64).toNat.toUInt8, (128 + r % 64).toNat.toUInt8] ++ t = l
    have b0 : byt l 0 = (224 + r / 4096).toNat := by rw [← hl, byt_app _ _ _ (by simp)]; exact u8n _ (by omega) (by omega)
    have b1 : byt l 1 = (128 + r / 64 % 64).toNat := by rw [← hl, byt_app _ _ _ (by simp)]; exact u8n _ (by omega) (by omega)
    have b2 : byt l 2 = (128 + r % 64).toNat := by rw [← hl, byt_app _ _ _ (by simp)]; exact u8n _ (by omega) (by omega)
    have c1 : cnt l 1 = true := (cnt_iff l 1).2 ⟨by rw [← hl]; simp, by omega, by omega⟩
    have c2 : cnt l 2 = true := (cnt_iff l 2).2 ⟨by rw [← hl]; simp, by omega, by omega⟩
    have hv : byt l 0 % 16 * 4096 + byt l 1 % 64 * 64 + byt l 2 % 64 = r.toNat := by omega
    have g2 : ¬ (byt l 0 / 32 == 6 && cnt l 1) = true := by simp; omega
    have g3 : (byt l 0 / 16 == 14 && cnt l 1 && cnt l 2) = true := by simp [c1, c2]; omega
    unfold dec
    rw [if_neg (by omega), if_neg g2, if_pos g3, hv, if_pos]
    · rfl
    · simp only [Bool.and_eq_true, decide_eq_true_eq, valid_nat]; omega
  · have d : 65536 ≤ r ∧ r ≤ 1114111 := by omega
    have e : Lib.encodeRune r = [(240 + r / 262144).toNat.toUInt8, (128 + r / 4096 % 64).toNat.toUInt8, (128 + r / 64 % 64).toNat.toUInt8, (128 + r % 64).toNat.toUInt8] := by unfold Lib.encodeRune; rw [Lib.encodeRuneZ_four d.1 d.2]; rfl
    rw [e]
    generalize hl : [(240 + r / 262144).toNat.toUInt8, (128 + r / 4096 % 64).toNat.toUInt8, (128 + r / 64 % 64).toNat.toUInt8, (128 + r % 64).toNat.toUInt8] ++ t = l
    have b0 : byt l 0 = (240 + r / 262144).toNat := by rw [← hl, byt_app _ _ _ (by simp)]; exact u8n _ (by omega) (by omega)
    have b1 : byt l 1 = (128 + r / 4096 % 64).toNat := by rw [← hl, byt_app _ _ _ (by simp)]; exact u8n _ (by omega) (by omega)
    have b2 : byt l 2 = (128 + r / 64 % 64).toNat := by rw [← hl, byt_app _ _ _ (by simp)]; exact u8n _ (by omega) (by omega)
    have b3 : byt l 3 = (128 + r % 64).toNat := by rw [← hl, byt_app _ _ _ (by simp)]; exact u8n _ (by omega) (by omega)
    have c1 : cnt l 1 = true := (cnt_iff l 1).2 ⟨by rw [← hl]; simp, by omega, by omega⟩
    have c2 : cnt l 2 = true := (cnt_iff l 2).2 ⟨by rw [← hl]; simp, by omega, by omega⟩
    have c3 : cnt l 3 = true := (cnt_iff l 3).2 ⟨by rw [← hl]; simp, by omega, by omega⟩
    have hv : byt l 0 % 8 * 262144 + byt l 1 % 64 * 4096 + byt l 2 % 64 * 64 + byt l 3 % 64 = r.toNat := by omega
    have g2 : ¬ (byt l 0 / 32 == 6 && cnt l 1) = true := by simp; omega
    have g3 : ¬ (byt l 0 / 16 == 14 && cnt l 1 && cnt l 2) = true := by simp; omega
    have g4 : (byt l 0 / 8 == 30 && cnt l 1 && cnt l 2 && cnt l 3) = true := by simp [c1, c2, c3]; omega
    unfold dec
    rw [if_neg (by omega), if_neg g2, if_neg g3, if_pos g4, hv, if_pos]
    · rfl
    · simp only [Bool.and_eq_true, decide_eq_true_eq, valid_nat]; omega

theorem enc_cons (r : Int) (R : List Int) : enc (r :: R) = Lib.encodeRune r ++ enc R := by simp [enc]
theorem encodeRune_ne (r : Int) (t : List UInt8) : Lib.encodeRune r ++ t ≠ [] := by
  intro e
  have := (Lib.runeCells_le r).1
  rw [Lib.runeCells_length] at this
  have h := congrArg List.length e
  simp only [List.length_append, List.length_nil] at h
  omega

theorem runes_enc (R : List Int) (h : ∀ r ∈ R, Good r) : runes (enc R) = R := by
  induction R with
  | nil => simp [enc, runes_nil]
  | cons r R ih =>
    have hr := h r (by simp)
    have hd := dec_enc r hr.1 (enc R)
    have h0 : 0 ≤ r := by rcases hr.1 with a | a <;> omega
    rw [enc_cons, runes_step (encodeRune_ne r _), hd, List.drop_left, ih (fun x hx => h x (by simp [hx]))]
    have e : shownI ((r.toNat : Nat) : Int) = r := by rw [Int.toNat_of_nonneg h0]; exact hr.2
    rw [e]

/-- What the decoder answers is a rune. -/
theorem dec_sc (l : List UInt8) : Sc ((dec l).1 : Int) := by
  have hb := byt_lt l 0
  have hb1 := byt_lt l 1
  have hb2 := byt_lt l 2
  have hb3 := byt_lt l 3
  unfold Sc dec
  by_cases a : byt l 0 < 0x80
  · rw [if_pos a]; simp only; omega
  rw [if_neg a]
  by_cases g2 : (byt l 0 / 32 == 6 && cnt l 1) = true
  · rw [if_pos g2]
    by_cases k : byt l 0 % 32 * 64 + byt l 1 % 64 ≥ 0x80
    · rw [if_pos k]; simp only; omega
    · rw [if_neg k]; simp only; omega
  rw [if_neg g2]
  by_cases g3 : (byt l 0 / 16 == 14 && cnt l 1 && cnt l 2) = true
  · rw [if_pos g3]
    split
    · rename_i k
      simp only [Bool.and_eq_true, decide_eq_true_eq, valid_nat] at k
      simp only; omega
    · simp only; omega
  rw [if_neg g3]
  by_cases g4 : (byt l 0 / 8 == 30 && cnt l 1 && cnt l 2 && cnt l 3) = true
  · rw [if_pos g4]
    split
    · rename_i k
      simp only [Bool.and_eq_true, decide_eq_true_eq, valid_nat] at k
      simp only; omega
    · simp only; omega
  rw [if_neg g4]; simp only; omega

theorem shown_good (r : Int) (h : Sc r) : Good (shownI r) := by
  unfold Good Sc at *
  by_cases a : (r < 32 ∧ r ≠ 10) ∨ (127 ≤ r ∧ r ≤ 159)
  · have e : shownI r = 65533 := by unfold shownI; rw [if_pos a]
    rw [e]; exact ⟨by omega, rfl⟩
  · have e : shownI r = r := by unfold shownI; rw [if_neg a]
    rw [e]; exact ⟨h, e⟩

theorem runes_good (l : List UInt8) : ∀ r ∈ runes l, Good r := by
  generalize hn : l.length = n
  induction n using Nat.strongRecOn generalizing l with
  | _ n ih =>
    by_cases h : l = []
    · subst h; rw [runes_nil]; simp
    · rw [runes_step h]
      have hp := dec_pos l
      have hl : 0 < l.length := List.length_pos_iff.2 h
      intro r hr
      rcases List.mem_cons.1 hr with rfl | hr
      · exact shown_good _ (dec_sc l)
      · exact ih (l.drop (dec l).2).length (by rw [List.length_drop]; omega) _ rfl r hr

theorem runes_again (l : List UInt8) : runes (enc (runes l)) = runes l := runes_enc _ (runes_good l)
theorem runes_pos {l : List UInt8} (h : l ≠ []) : 0 < (runes l).length := by rw [runes_step h]; simp

end Go.Proofs.YtlfffpoeioecjaaDoor

namespace Go.Proofs.YtlfffpoeioecjaaDoor
set_option linter.unusedVariables false

/-- A mark: width 0, no newline. -/
def isMk (r : Int) : Bool := decide (r ≠ 10 ∧ wid r = 0)
theorem isMk_iff (r : Int) : isMk r = true ↔ r ≠ 10 ∧ wid r = 0 := by simp [isMk]
theorem isMk_false (r : Int) : isMk r = false ↔ ¬ (r ≠ 10 ∧ wid r = 0) := by rw [← isMk_iff]; cases isMk r <;> simp

theorem takeWhile_stop {α : Type} (p : α → Bool) (l : List α) (k : Nat) (hk : k ≤ l.length) (h : ∀ j (hj : j < l.length), j < k → p l[j] = true) (he : ∀ hj : k < l.length, p l[k] = false) : l.takeWhile p = l.take k := by
  induction l generalizing k with
  | nil => simp
  | cons a l ih =>
    cases k with
    | zero =>
      have := he (by simp)
      simp at this
      simp [this]
    | succ k =>
      have h0 := h 0 (by simp) (by omega)
      simp at h0
      simp only [List.takeWhile_cons, h0, if_true, List.take_succ_cons]
      rw [ih k (by simpa using hk) (fun j hj hjk => by have := h (j + 1) (by simpa using hj) (by omega); simpa using this) (fun hj => by have := he (by simpa using hj); simpa using this)]

/-- The marks at a list's head. -/
def mks (R : List Int) : List Int := R.takeWhile isMk
theorem mks_le (R : List Int) : (mks R).length ≤ R.length := (List.takeWhile_sublist _).length_le

/-- The first cluster of a list of runes: its base, whether the base is one of them, how many runes it takes. -/
def cBase (R : List Int) : Int := match R with | [] => 32 | r :: _ => if isMk r = true then 32 else r
def cOwn (R : List Int) : Nat := match R with | [] => 0 | r :: _ => if isMk r = true then 0 else 1
def cMarks (R : List Int) : List Int := mks (R.drop (cOwn R))
def cNum (R : List Int) : Nat := match R with | [] => 0 | r :: _ => if r = 10 then 1 else cOwn R + (cMarks R).length
def cText (R : List Int) : List UInt8 := match R with | [] => [] | r :: _ => if r = 10 then [10] else enc (cBase R :: (cMarks R).take 4)
def cWide (R : List Int) : Int := match R with | [] => 0 | r :: _ => if r = 10 then 0 else wid (cBase R)

theorem cNum_pos {R : List Int} (h : R ≠ []) : 1 ≤ cNum R := by
  match R, h with
  | r :: t, _ =>
    simp only [cNum]
    split
    · omega
    · by_cases hm : isMk r = true
      · have e : cOwn (r :: t) = 0 := by simp [cOwn, hm]
        have : cMarks (r :: t) = r :: mks t := by simp [cMarks, e, mks, hm]
        rw [this]; simp; omega
      · have e : cOwn (r :: t) = 1 := by simp [cOwn, hm]
        omega
theorem cNum_le (R : List Int) : cNum R ≤ R.length := by
  match R with
  | [] => simp [cNum]
  | r :: t =>
    simp only [cNum]
    split
    · simp
    · have h1 := mks_le ((r :: t).drop (cOwn (r :: t)))
      rw [List.length_drop] at h1
      have h2 : cOwn (r :: t) ≤ 1 := by simp only [cOwn]; split <;> omega
      simp only [cMarks, List.length_cons] at *
      omega

/-- G4, by at most so many. -/
def clusF : Nat → List Int → List (List UInt8 × Int)
  | 0, _ => []
  | _ + 1, [] => []
  | f + 1, r :: t => (cText (r :: t), cWide (r :: t)) :: clusF f ((r :: t).drop (cNum (r :: t)))
theorem clusF_enough : ∀ (f g : Nat) (l : List Int), l.length ≤ f → l.length ≤ g → clusF f l = clusF g l
  | 0, 0, _, _, _ => rfl
  | 0, g + 1, l, h, _ => by
    have : l = [] := List.length_eq_zero_iff.1 (by omega)
    subst this; rfl
  | f + 1, 0, l, _, h => by
    have : l = [] := List.length_eq_zero_iff.1 (by omega)
    subst this; rfl
  | f + 1, g + 1, [], _, _ => rfl
  | f + 1, g + 1, r :: t, hf, hg => by
    have hp := cNum_pos (R := r :: t) (by simp)
    simp only [List.length_cons] at hf hg
    simp only [clusF]
    rw [clusF_enough f g _ (by rw [List.length_drop, List.length_cons]; omega) (by rw [List.length_drop, List.length_cons]; omega)]
/-- G4. -/
def clus (R : List Int) : List (List UInt8 × Int) := clusF R.length R

theorem clus_nil : clus [] = [] := rfl
theorem clus_step {R : List Int} (h : R ≠ []) : clus R = (cText R, cWide R) :: clus (R.drop (cNum R)) := by
  cases R with
  | nil => exact absurd rfl h
  | cons r t =>
    have hp := cNum_pos (R := r :: t) (by simp)
    show clusF (t.length + 1) (r :: t) = _
    simp only [clusF, clus]
    rw [clusF_enough t.length _ _ (by rw [List.length_drop, List.length_cons]; omega) (Nat.le_refl _)]
theorem clus_length (R : List Int) : (clus R).length ≤ R.length := by
  generalize hn : R.length = n
  induction n using Nat.strongRecOn generalizing R with
  | _ n ih =>
    by_cases h : R = []
    · subst h; rw [clus_nil]; simp
    · rw [clus_step h]
      have hp := cNum_pos h
      have hl : 0 < R.length := List.length_pos_iff.2 h
      have := ih (R.drop (cNum R)).length (by rw [List.length_drop]; omega) _ rfl
      rw [List.length_drop] at this
      simp only [List.length_cons]; omega

theorem wid_blank : wid 32 = 1 := by decide +kernel
theorem cWide_bd (R : List Int) : 0 ≤ cWide R ∧ cWide R ≤ 2 := by
  match R with
  | [] => simp [cWide]
  | r :: t =>
    simp only [cWide]
    split
    · omega
    · exact wid_bd _
theorem clus_wide (R : List Int) : ∀ c ∈ clus R, 0 ≤ c.2 ∧ c.2 ≤ 2 := by
  generalize hn : R.length = n
  induction n using Nat.strongRecOn generalizing R with
  | _ n ih =>
    by_cases h : R = []
    · subst h; rw [clus_nil]; simp
    · rw [clus_step h]
      have hp := cNum_pos h
      have hl : 0 < R.length := List.length_pos_iff.2 h
      intro c hc
      rcases List.mem_cons.1 hc with rfl | hc
      · exact cWide_bd R
      · exact ih (R.drop (cNum R)).length (by rw [List.length_drop]; omega) _ rfl c hc

/-- Columns: the sum of the widths. -/
def wideSum (l : List (List UInt8 × Int)) : Int := (l.map (·.2)).sum
theorem wideSum_snoc (l : List (List UInt8 × Int)) (k : Nat) (h : k < l.length) : wideSum (l.take (k + 1)) = wideSum (l.take k) + (l[k]'h).2 := by
  unfold wideSum
  rw [List.take_succ_eq_append_getElem h, List.map_append, List.sum_append]
  simp only [List.map_cons, List.map_nil, List.sum_cons, List.sum_nil]; omega
theorem wideSum_bd (l : List (List UInt8 × Int)) (h : ∀ c ∈ l, 0 ≤ c.2 ∧ c.2 ≤ 2) (k : Nat) : 0 ≤ wideSum (l.take k) ∧ wideSum (l.take k) ≤ 2 * k := by
  induction k with
  | zero => simp [wideSum]
  | succ k ih =>
    by_cases hk : k < l.length
    · rw [wideSum_snoc l k hk]
      have := h l[k] (List.getElem_mem hk)
      omega
    · rw [List.take_of_length_le (by omega)] at *
      omega

end Go.Proofs.YtlfffpoeioecjaaDoor

namespace Go.Proofs.YtlfffpoeioecjaaDoor
open Go.RowKit
set_option linter.unusedVariables false

/-- The table as it lies in memory. -/
def TabAt (w : World) : Prop := ∀ i, i < 26 → w.cell? ⟨2, i * 3, none⟩ = some (.int .i64 (spanAt i).1) ∧ w.cell? ⟨2, i * 3 + 1, none⟩ = some (.int .i64 (spanAt i).2.1) ∧ w.cell? ⟨2, i * 3 + 2, none⟩ = some (.int .i64 (spanAt i).2.2)

set_option maxRecDepth 100000 in
set_option maxHeartbeats 1000000 in
theorem gWidth_any (r : Int) (w : World) (ht : TabAt w) :
    Calls Tryd.prog 98 #[.int .i64 r] w fun e w' => e = .returned (.int .i64 (wid r)) ∧ w' = w := by
  have HT : Hid (TabAt w) := ht
  clear ht
  by_cases h10 : r = 10
  · subst h10
    rw [wid_ten]
    go_enter Tryd.func98, Tryd.ntmps98
    go_wp2
    go_ret
    exact ⟨rfl, rfl⟩
  · have h10' : (r == 10) = false := by simp [h10]
    have H10 : Hid (r ≠ 10) := h10
    clear h10
    go_enter Tryd.func98, Tryd.ntmps98
    go_wp2
    go_loop [3, 4] (fun a b => ∃ lo hi : Nat, lo ≤ hi ∧ hi ≤ 26 ∧ a = .int .i64 lo ∧ b = .int .i64 hi ∧ Hid (Half r lo hi)) (fun a b => (intOf b - intOf a).toNat)
    case atStart => exact ⟨0, 26, by omega, by omega, rfl, rfl, half_start r⟩
    case round =>
      obtain ⟨lo, hi, hle, h26, rfl, rfl, hh⟩ := hrel
      by_cases hlt : lo < hi
      · have hlt' : (lo : Int) < (hi : Int) := by omega
        obtain ⟨mid, hm⟩ : ∃ mid : Nat, mid = (lo + hi) / 2 := ⟨_, rfl⟩
        have hmid : ((lo : Int) + (hi : Int)) / 2 = (mid : Int) := by omega
        have hm26 : mid < 26 := by omega
        have hmlo : lo ≤ mid := by omega
        have hmhi : mid < hi := by omega
        clear hm
        obtain ⟨c0, c1, c2⟩ := HT.out mid hm26
        obtain ⟨a, b, c, hs⟩ : ∃ a b c, spanAt mid = (a, b, c) := ⟨_, _, _, rfl⟩
        rw [hs] at c0 c1 c2
        have HS : Hid (spanAt mid = (a, b, c)) := hs
        clear hs
        have fin1 : r < a → Hid (Half r lo mid) := fun h => half_high hh.out hm26 (by rw [HS.out]; exact h)
        have fin2 : b < r → Hid (Half r (mid + 1) hi) := fun h => half_low hh.out hm26 (by rw [HS.out]; exact h)
        have fin3 : Hid (a ≤ r → r ≤ b → wid r = c) := fun h k => by
          have := wid_span r _ (spanAt_mem hm26) (by rw [HS.out]; exact h) (by rw [HS.out]; exact k)
          rw [HS.out] at this; exact this
        by_cases ha : r < a
        · have h1 := fin1 ha
          clear fin1 fin2 fin3 hh
          go_wp2
          go_round
          case rel => exact ⟨lo, mid, by omega, by omega, rfl, by first | rfl | rw [hmid], h1⟩
          case measure => simp [intOf]; omega
        · by_cases hb : b < r
          · have h2 := fin2 hb
            clear fin1 fin2 fin3 hh
            go_wp2
            go_round
            case rel => exact ⟨mid + 1, hi, by omega, by omega, by first | rfl | go_num | (rw [hmid]; go_num), rfl, h2⟩
            case measure => simp [intOf]; omega
          · have h3 : Hid (wid r = c) := fin3.out (by omega) (by omega)
            clear fin1 fin2 fin3 hh
            go_wp2
            go_ret
            rw [h3.out]
            exact ⟨rfl, rfl⟩
      · have hlt' : ¬ (lo : Int) < (hi : Int) := by omega
        have h3 : Hid (wid r = 1) := half_end hh.out (by omega) H10.out
        clear hh
        go_wp2
        go_ret
        rw [h3.out]
        exact ⟨rfl, rfl⟩

end Go.Proofs.YtlfffpoeioecjaaDoor

namespace Go.Proofs.YtlfffpoeioecjaaDoor
open Go.RowKit
set_option linter.unusedVariables false

set_option maxRecDepth 100000 in
set_option maxHeartbeats 1000000 in
theorem gEncode_none' (a : Option Addr) (cap : Nat) (w : World) :
    Calls Tryd.prog 97 #[.slice a 0 cap] w fun e w' => e = .returned (.string ⟨#[]⟩) ∧ Below w.heap.size w w' := by
  have hcv := conv_own (l := []) (show w.ownsRow w.heap.size 5 1 (.slice none 0 0) 0 (Lib.byteCells []) from World.ownsRow_nil w w.heap.size 5 1)
  go_enter Tryd.func97, Tryd.ntmps97
  go_wp2
  go_loop [3, 8] (fun v i => v = .slice none 0 0 ∧ i = .int .i64 0) (fun _ _ => 0)
  case atStart => exact ⟨rfl, rfl⟩
  case round =>
    obtain ⟨rfl, rfl⟩ := hrel
    go_wp2
    go_ret
    exact ⟨rfl, Below.refl _ _⟩

theorem gEncode_all (zs : List Int) (v : Value) (w : World) (h : Ints w v zs) (hlen : zs.length ≤ 17592186044416) :
    Calls Tryd.prog 97 #[v] w fun e w' => e = .returned (.string ⟨(enc zs).toArray⟩) ∧ Below w.heap.size w w' := by
  obtain ⟨a, cap, rfl, rfl | ⟨b, off, rfl, hb, hc⟩⟩ := h
  · exact gEncode_none' a cap w
  · exact gEncode_some zs b off cap w hb hc hlen

theorem Ints.below' {w w' : World} {v : Value} {zs : List Int} (h : Ints w v zs) (hb : Below w.heap.size w w') : Ints w' v zs := by
  obtain ⟨a, cap, rfl, hh⟩ := h
  refine ⟨a, cap, rfl, ?_⟩
  rcases hh with rfl | ⟨b, off, rfl, hl, hc⟩
  · exact .inl rfl
  · exact .inr ⟨b, off, rfl, Nat.lt_of_lt_of_le hl hb.size, fun j hj => (hb.cell (p := ⟨b, off + j, none⟩) hl).trans (hc j hj)⟩

theorem ints_own' {w : World} {B n : Nat} {v : Value} {zs : List Int} (h : w.ownsRow B 3 1 v n (zs.map (Value.int .i64))) : Ints w v zs := by
  have hl : zs.length = n := by have := h.1; simpa using this
  rcases h.2 with ⟨rfl, rfl⟩ | ⟨g, cap, cur, rfl, _, hg, _⟩
  · have hz : zs = [] := List.length_eq_zero_iff.1 hl
    subst hz
    exact ⟨none, 0, rfl, .inl rfl⟩
  · refine ⟨some ⟨g, 0, none⟩, cap, by rw [hl], .inr ⟨g, 0, rfl, (Array.getElem?_eq_some_iff.1 hg).1, fun j hj => ?_⟩⟩
    have := h.cells (g := g) rfl j (.int .i64 (zs[j]?.getD 0)) (by simp [hj])
    have e : (⟨g, 0, none⟩ : Addr).add j = ⟨g, 0 + j, none⟩ := by unfold Addr.add; split <;> simp_all
    rwa [e] at this

end Go.Proofs.YtlfffpoeioecjaaDoor

namespace Go.Proofs.YtlfffpoeioecjaaDoor
open Go.RowKit
set_option linter.unusedVariables false

/-- A new row of numbers. -/
theorem ints_lit (w : World) (zs : List Int) (cs : Array Value) (cap : Nat) (h : cs = (zs.map (Value.int .i64)).toArray) : Ints (w.alloc (.cells cs 3)) (.slice (some ⟨w.heap.size, 0, none⟩) zs.length cap) zs := by
  subst h
  refine ⟨_, cap, rfl, .inr ⟨w.heap.size, 0, rfl, by simp, fun j hj => ?_⟩⟩
  rw [World.cell?_alloc_mark]
  simp [hj]

set_option maxRecDepth 100000 in
set_option maxHeartbeats 1000000 in
theorem zeros_any (w : World) :
    Calls Tryd.prog 68 #[] w fun e w' => ∃ v, e = .returned v ∧ Ints w' v (flat zerosL) ∧ Below w.heap.size w w' := by
  go_enter Tryd.func68, Tryd.ntmps68
  go_wp2
  go_ret
  exact ⟨_, rfl, ints_lit w (flat zerosL) _ 26 rfl, (Below.refl _ _).alloc (Nat.le_refl _) _⟩
set_option maxRecDepth 100000 in
set_option maxHeartbeats 1000000 in
theorem wides_any (w : World) :
    Calls Tryd.prog 69 #[] w fun e w' => ∃ v, e = .returned v ∧ Ints w' v (flat widesL) ∧ Below w.heap.size w w' := by
  go_enter Tryd.func69, Tryd.ntmps69
  go_wp2
  go_ret
  exact ⟨_, rfl, ints_lit w (flat widesL) _ 28 rfl, (Below.refl _ _).alloc (Nat.le_refl _) _⟩

set_option maxRecDepth 100000 in
set_option maxHeartbeats 1000000 in
theorem inside_some (r : Int) (l : List (Int × Int)) (hl : l.length ≤ 1000) (b off cap : Nat) (w : World) (hc : ∀ j, j < (flat l).length → w.cell? ⟨b, off + j, none⟩ = some (.int .i64 ((flat l)[j]?.getD 0))) :
    Calls Tryd.prog 67 #[.int .i64 r, .slice (some ⟨b, off, none⟩) (flat l).length cap] w fun e w' => e = .returned (.bool (inL r l)) ∧ w' = w := by
  have HC : Hid (∀ j, j < (flat l).length → w.cell? ⟨b, off + j, none⟩ = some (.int .i64 ((flat l)[j]?.getD 0))) := hc
  clear hc
  have hfl := flat_length l
  have HFL : Hid ((flat l).length = 2 * l.length) := hfl
  rw [hfl]
  clear hfl
  go_enter Tryd.func67, Tryd.ntmps67
  go_wp2
  go_loop [5] (fun i => ∃ k : Nat, k ≤ l.length ∧ i = .int .i64 (2 * k : Nat) ∧ Hid (∀ j, j < k → ¬ ((l.getD j (0, 0)).1 ≤ r ∧ r ≤ (l.getD j (0, 0)).2))) (fun i => 2 * l.length - (intOf i).toNat)
  case atStart => exact ⟨0, Nat.zero_le _, rfl, fun j h => by omega⟩
  case round =>
    obtain ⟨k, hk, rfl, hno⟩ := hrel
    by_cases hlt : k < l.length
    · have hlt' : (2 * (k : Int)) + 1 < 2 * (l.length : Int) := by omega
      obtain ⟨p, q, hp⟩ : ∃ p q, l.getD k (0, 0) = (p, q) := ⟨_, _, rfl⟩
      have f := flat_at l k
      rw [hp] at f
      have c0 : w.cell? ⟨b, off + 2 * k, none⟩ = some (.int .i64 p) := by rw [HC.out (2 * k) (by rw [HFL.out]; omega), f.1]
      have c1 : w.cell? ⟨b, off + (2 * k + 1), none⟩ = some (.int .i64 q) := by rw [HC.out (2 * k + 1) (by rw [HFL.out]; omega), f.2]
      have HP : Hid (l.getD k (0, 0) = (p, q)) := hp
      have hmem : (p, q) ∈ l := by
        rw [← hp, List.getD_eq_getElem?_getD, List.getElem?_eq_getElem hlt]; exact List.getElem_mem hlt
      have HM : Hid ((p, q) ∈ l) := hmem
      clear f hp hmem
      by_cases h1 : p ≤ r
      · by_cases h2 : r ≤ q
        · have e : Hid (inL r l = true) := (inL_iff r l).2 ⟨_, HM.out, h1, h2⟩
          go_wp2
          go_ret
          rw [e.out]
          exact ⟨rfl, rfl⟩
        · go_wp2
          go_round
          case rel =>
            refine ⟨k + 1, by omega, by go_num, fun j hj => ?_⟩
            by_cases ej : j = k
            · subst ej; rw [HP.out]; omega
            · exact hno.out j (by omega)
          case measure => simp [intOf]; omega
      · go_wp2
        go_round
        case rel =>
          refine ⟨k + 1, by omega, by go_num, fun j hj => ?_⟩
          by_cases ej : j = k
          · subst ej; rw [HP.out]; omega
          · exact hno.out j (by omega)
        case measure => simp [intOf]; omega
    · have hlt' : ¬ (2 * (k : Int)) + 1 < 2 * (l.length : Int) := by omega
      have e : Hid (inL r l = false) := by
        show _ = _
        rw [Bool.eq_false_iff]
        intro h
        obtain ⟨p, hp, a⟩ := (inL_iff r l).1 h
        obtain ⟨j, hj, rfl⟩ := List.mem_iff_getElem.1 hp
        have := hno.out j (by omega)
        rw [List.getD_eq_getElem?_getD, List.getElem?_eq_getElem hj] at this
        exact this a
      go_wp2
      go_ret
      rw [e.out]
      exact ⟨rfl, rfl⟩

theorem inside_any (r : Int) (l : List (Int × Int)) (hl : l.length ≤ 1000) (hl0 : 0 < l.length) (v : Value) (w : World) (h : Ints w v (flat l)) :
    Calls Tryd.prog 67 #[.int .i64 r, v] w fun e w' => e = .returned (.bool (inL r l)) ∧ w' = w := by
  obtain ⟨a, cap, rfl, hh⟩ := h
  have hne : flat l ≠ [] := fun e => by have := flat_length l; rw [e] at this; simp at this; omega
  obtain ⟨b, off, rfl, hb, hc⟩ := hh.resolve_left hne
  exact inside_some r l hl b off cap w hc

set_option maxRecDepth 100000 in
set_option maxHeartbeats 1000000 in
theorem rWidth_any (r : Int) (w : World) :
    Calls Tryd.prog 49 #[.int .i64 r] w fun e w' => e = .returned (.int .i64 (wid r)) ∧ Below w.heap.size w w' := by
  unfold wid
  by_cases hz : inL r zerosL = true
  · rw [if_pos hz]
    have HZ : Hid (inL r zerosL = true) := hz
    clear hz
    go_enter Tryd.func49, Tryd.ntmps49
    go_wp2_with fail
    refine (zeros_any _).mono ?_
    rintro e w1 ⟨v1, rfl, I1, b1⟩
    go_wp2_with fail
    refine (inside_any r zerosL (by decide) (by decide) _ _ I1).mono ?_
    rintro e w2 ⟨rfl, rfl⟩
    rw [HZ.out]
    go_wp2
    go_ret
    exact ⟨rfl, b1⟩
  · have HZ : Hid (inL r zerosL = false) := by show _ = _; simpa using hz
    rw [if_neg hz]
    clear hz
    by_cases hw : inL r widesL = true
    · rw [if_pos hw]
      have HW : Hid (inL r widesL = true) := hw
      clear hw
      go_enter Tryd.func49, Tryd.ntmps49
      go_wp2_with fail
      refine (zeros_any _).mono ?_
      rintro e w1 ⟨v1, rfl, I1, b1⟩
      go_wp2_with fail
      refine (inside_any r zerosL (by decide) (by decide) _ _ I1).mono ?_
      rintro e w2 ⟨rfl, rfl⟩
      rw [HZ.out]
      clear I1
      go_wp2_with fail
      refine (wides_any _).mono ?_
      rintro e w3 ⟨v3, rfl, I3, b3⟩
      go_wp2_with fail
      refine (inside_any r widesL (by decide) (by decide) _ _ I3).mono ?_
      rintro e w4 ⟨rfl, rfl⟩
      rw [HW.out]
      go_wp2
      go_ret
      exact ⟨rfl, b1.trans (b3.mono b1.size)⟩
    · rw [if_neg hw]
      have HW : Hid (inL r widesL = false) := by show _ = _; simpa using hw
      clear hw
      go_enter Tryd.func49, Tryd.ntmps49
      go_wp2_with fail
      refine (zeros_any _).mono ?_
      rintro e w1 ⟨v1, rfl, I1, b1⟩
      go_wp2_with fail
      refine (inside_any r zerosL (by decide) (by decide) _ _ I1).mono ?_
      rintro e w2 ⟨rfl, rfl⟩
      rw [HZ.out]
      clear I1
      go_wp2_with fail
      refine (wides_any _).mono ?_
      rintro e w3 ⟨v3, rfl, I3, b3⟩
      go_wp2_with fail
      refine (inside_any r widesL (by decide) (by decide) _ _ I3).mono ?_
      rintro e w4 ⟨rfl, rfl⟩
      rw [HW.out]
      go_wp2
      go_ret
      exact ⟨rfl, b1.trans (b3.mono b1.size)⟩

end Go.Proofs.YtlfffpoeioecjaaDoor
