/-
  Which cells the bytes of an update write: plain mathematics.
-/
import Derived.Test.YtlfffpoeioecjaaDoorX40
import Derived.Test.YtlfffpoeioecjaaDoorX35
namespace Go.Proofs.YtlfffpoeioecjaaDoor
set_option linter.unusedVariables false

theorem runW_cat (a b : List UInt8) : ∀ (p : Tm × St) (wv : Nat → Bool), runW p wv (a ++ b) = runW (runT p a) (runW p wv a) b := by
  induction a with
  | nil => exact fun _ _ => rfl
  | cons x a ih => exact fun p wv => ih _ _
theorem amid_at (t : Tm) {l : List UInt8} (hl : l ≠ []) (h80 : 0x80 ≤ byt l 0) (hs : seq l = l.length) (wv : Nat → Bool) : ∀ k, 1 ≤ k → k < l.length → runT (t, .out) (l.take k) = (t, .amid ⟨(l.take k).toArray⟩) ∧ runW (t, .out) wv (l.take k) = wv := by
  have hp : 0 < l.length := List.length_pos_iff.2 hl
  intro k
  induction k with
  | zero => intro h; omega
  | succ k ih =>
    intro _ hk
    have hnf := take_amid h80 hs hl (k + 1) (by omega) hk
    have e : l.take (k + 1) = l.take k ++ [l[k]] := by rw [List.take_add_one, List.getElem?_eq_getElem (by omega)]; rfl
    by_cases h0 : k = 0
    · subst h0
      have e1 : l.take (0 + 1) = [l[0]] := by rw [e]; rfl
      rw [e1] at hnf ⊢
      have eb : byt l 0 = (l[0]'hp).toNat := by unfold byt; rw [List.getD_eq_getElem?_getD, List.getElem?_eq_getElem hp]; rfl
      constructor
      · show outT t (l[0]'hp) = _
        unfold outT
        rw [if_neg (by rw [← eb]; omega), if_neg (by rw [← eb]; omega)]
        unfold amT
        show (if full [l[0]'hp] then _ else _) = _
        rw [if_neg hnf]
      · show wvO t (l[0]'hp) wv = _
        unfold wvO
        rw [if_neg (by rw [← eb]; omega), if_neg (by rw [← eb]; omega)]
        unfold wvA
        rw [if_neg hnf]
    · obtain ⟨hi, hj⟩ := ih (by omega) (by omega)
      have hnf2 := hnf
      rw [e] at hnf2
      constructor
      · rw [e, runT_app, hi]
        show amA t ⟨(l.take k).toArray⟩ (l[k]'(by omega)) = _
        have ea : ((⟨(l.take k).toArray⟩ : ByteArray) ++ (⟨#[l[k]'(by omega)]⟩ : ByteArray)) = ⟨(l.take k ++ [l[k]'(by omega)]).toArray⟩ := by
          apply ByteArray.ext
          simp
        unfold amA
        rw [ea]
        show (if full (l.take k ++ [l[k]'(by omega)]) ∧ _ then _ else _) = _
        rw [if_neg (fun q => hnf2 q.1)]
        unfold amT
        show (if full (l.take k ++ [l[k]'(by omega)]) then _ else _) = _
        rw [if_neg hnf2]
      · rw [e, runW_app, hi, hj]
        show (if full (l.take k ++ [l[k]'(by omega)]) ∧ _ then _ else wvA t (l.take k ++ [l[k]'(by omega)]) wv) = wv
        rw [if_neg (fun q => hnf2 q.1)]
        unfold wvA
        rw [if_neg hnf2]
theorem runW_whole (t : Tm) (wv : Nat → Bool) {l : List UInt8} (hl : l ≠ []) (hc : ¬ (byt l 0 < 32 ∨ byt l 0 = 127)) (hs : seq l = l.length) {r : Int} (hr : runes l = [r]) : runW (t, .out) wv l = wvP t r wv := by
  have hp : 0 < l.length := List.length_pos_iff.2 hl
  have hfl := full_seq hl hs
  by_cases h1 : l.length = 1
  · obtain ⟨b, rfl⟩ : ∃ b, l = [b] := List.length_eq_one_iff.1 h1
    have eb : byt [b] 0 = b.toNat := rfl
    show wvO t b wv = _
    unfold wvO
    rw [if_neg (by rw [eb] at hc; omega), if_neg (by rw [eb] at hc; exact hc)]
    unfold wvA
    rw [if_pos hfl, hr]
    rfl
  · have h80 : 0x80 ≤ byt l 0 := by
      by_cases q : byt l 0 < 0x80
      · have : seq l = 1 := by unfold seq; rw [if_pos q]
        omega
      · omega
    obtain ⟨m, hm⟩ : ∃ m, l.length = m + 1 := ⟨l.length - 1, by omega⟩
    have e : l.take m ++ [l[m]'(by omega)] = l := by
      have : l.take (m + 1) = l.take m ++ [l[m]'(by omega)] := by rw [List.take_add_one, List.getElem?_eq_getElem (by omega)]; rfl
      rw [← this, List.take_of_length_le (by omega)]
    obtain ⟨k1, k2⟩ := amid_at t hl h80 hs wv m (by omega) (by omega)
    conv => lhs; rw [← e]
    rw [runW_app, k1, k2]
    show (if full (l.take m ++ [l[m]'(by omega)]) ∧ (runes (l.take m ++ [l[m]'(by omega)])).length ≠ 1 then _ else wvA t (l.take m ++ [l[m]'(by omega)]) wv) = _
    rw [e, if_neg (fun q => q.2 (by rw [hr]; rfl))]
    unfold wvA
    rw [if_pos hfl, hr]
    rfl
theorem runW_rune (t : Tm) (wv : Nat → Bool) {r : Int} (hg : Good r) (h10 : r ≠ 10) : runW (t, .out) wv (Lib.encodeRune r) = wvP t r wv := by
  have hr : runes (enc [r]) = [r] := runes_enc [r] (fun z hz => by rw [List.mem_singleton] at hz; rw [hz]; exact hg)
  have ee : enc [r] = Lib.encodeRune r := by unfold enc; simp
  rw [ee] at hr
  have hd := dec_enc r hg.1 []
  rw [List.append_nil] at hd
  obtain ⟨l, hl⟩ : ∃ l, Lib.encodeRune r = l := ⟨_, rfl⟩
  rw [hl] at hr hd ⊢
  have hne : l ≠ [] := by rw [← hl]; have := encodeRune_ne r []; rw [List.append_nil] at this; exact this
  have hp : 0 < l.length := List.length_pos_iff.2 hne
  have hsh := hg.2
  have hr0 : 0 ≤ r := by rcases hg.1 with h | h <;> omega
  have hs : seq l = l.length := by
    rw [dec_seq] at hd
    by_cases q : seq l = 0
    · rw [if_pos q] at hd
      have h1 := congrArg Prod.fst hd
      have h2 := congrArg Prod.snd hd
      simp only at h1 h2
      have : r = 65533 := by omega
      rw [this] at hl
      have h3 : (Lib.encodeRune 65533).length = 3 := by decide +kernel
      rw [hl] at h3
      omega
    · rw [if_neg q] at hd
      exact congrArg Prod.snd hd
  refine runW_whole t wv hne (fun q => ?_) hs hr
  have h80 : byt l 0 < 0x80 := by omega
  rw [dec_one l h80] at hd
  have h1 := congrArg Prod.fst hd
  simp only at h1
  unfold shownI at hsh
  by_cases z : (r < 32 ∧ r ≠ 10) ∨ (127 ≤ r ∧ r ≤ 159)
  · rw [if_pos z] at hsh; omega
  · omega
theorem runW_runes : ∀ (R : List Int) (t : Tm) (wv : Nat → Bool), (∀ r ∈ R, Good r ∧ r ≠ 10) → runW (t, .out) wv (enc R) = wvPs t R wv
  | [], t, wv, _ => rfl
  | r :: R, t, wv, h => by
    have hr := h r (List.mem_cons_self ..)
    rw [enc_cons, runW_cat, run_rune t hr.1 hr.2, runW_rune t wv hr.1 hr.2]
    exact runW_runes R (prT t r) _ (fun z hz => h z (List.mem_cons_of_mem _ hz))
theorem wvPs_marks : ∀ (ms : List Int) (t : Tm) (wv : Nat → Bool), (∀ m ∈ ms, wid m = 0) → wvPs t ms wv = wv
  | [], t, wv, _ => rfl
  | m :: ms, t, wv, h => by
    show wvPs (prT t m) ms (wvP t m wv) = wv
    have e : wvP t m wv = wv := by unfold wvP; rw [if_pos (h m (List.mem_cons_self ..))]
    rw [e]
    exact wvPs_marks ms _ wv (fun z hz => h z (List.mem_cons_of_mem _ hz))
theorem dec_digits : ∀ (n : Nat) (b : UInt8), b ∈ Lib.decDigits n → 48 ≤ b.toNat ∧ b.toNat ≤ 59 := by
  intro n
  induction n using Nat.strongRecOn with
  | _ n ih =>
    intro b hb
    rw [Lib.decDigits] at hb
    by_cases h : n < 10
    · rw [dif_pos h, List.mem_singleton] at hb
      rw [hb, u8_dig n h]
      omega
    · rw [dif_neg h] at hb
      rcases List.mem_append.1 hb with hb | hb
      · exact ih (n / 10) (by omega) b hb
      · rw [List.mem_singleton] at hb
        rw [hb, u8_dig (n % 10) (by omega)]
        omega
theorem seq_bytes (ns : List Int) : ∀ b ∈ Lib.join (ns.map dgt) [59], 48 ≤ b.toNat ∧ b.toNat ≤ 59 := by
  intro b hb
  cases ns with
  | nil => simp [Lib.join_nil] at hb
  | cons n r =>
    rw [List.map_cons, Lib.join_cons] at hb
    rcases List.mem_append.1 hb with hb | hb
    · exact dec_digits _ b hb
    · unfold Lib.joinTail at hb
      obtain ⟨l, hl, hbl⟩ := List.mem_flatten.1 hb
      obtain ⟨q, hq, rfl⟩ := List.mem_map.1 hl
      obtain ⟨z, _, rfl⟩ := List.mem_map.1 hq
      rcases List.mem_append.1 hbl with h | h
      · rw [List.mem_singleton] at h; rw [h]; decide
      · exact dec_digits _ b h
theorem wth_keep (c : UInt8) (hc : c = 72 ∨ c = 109) (t : Tm) (wv : Nat → Bool) : ∀ (m : List UInt8), (∀ b ∈ m, 48 ≤ b.toNat ∧ b.toNat ≤ 59) → ∀ l a, runW (t, .wth l a) wv (m ++ [c]) = wv
  | [], _, l, a => by
    show wvW l c wv = wv
    unfold wvW wvD
    rcases hc with rfl | rfl
    · rw [if_pos (by decide), if_neg (fun q => absurd q.1 (by decide))]
    · rw [if_pos (by decide), if_neg (fun q => absurd q.1 (by decide))]
  | b :: m, h, l, a => by
    have hb := h b (List.mem_cons_self ..)
    have e1 : wvW l b wv = wv := by unfold wvW; rw [if_neg (by omega)]
    have e2 : ∃ l' a', stepT t b (.wth l a) = (t, .wth l' a') := by
      show ∃ l' a', wthT t l a.toNat b.toNat = (t, .wth l' a')
      unfold wthT
      by_cases h1 : (48 : Int) ≤ (b.toNat : Int) ∧ (b.toNat : Int) ≤ 57
      · rw [if_pos h1]; exact ⟨_, _, rfl⟩
      · rw [if_neg h1]
        by_cases h2 : (b.toNat : Int) = 58
        · rw [if_pos h2]; exact ⟨_, _, rfl⟩
        · rw [if_neg h2, if_pos (by omega)]; exact ⟨_, _, rfl⟩
    obtain ⟨l', a', e2⟩ := e2
    show runW (stepT t b (.wth l a)) (wvW l b wv) (m ++ [c]) = wv
    rw [e1, e2]
    exact wth_keep c hc t wv m (fun z hz => h z (List.mem_cons_of_mem _ hz)) l' a'
theorem runW_seq (t : Tm) (wv : Nat → Bool) (ns : List Int) (c : UInt8) (hc : c = 72 ∨ c = 109) : runW (t, .out) wv (seqB ns c) = wv := by
  show runW ({ t with r := clr t.r }, .wth (fun _ => 0) 0) wv (Lib.join (ns.map dgt) [59] ++ [c]) = wv
  exact wth_keep c hc _ wv _ (seq_bytes ns) _ _
theorem runW_dip (t : Tm) (wv : Nat → Bool) (ns : List Int) : runW (t, .out) wv (dipB ns) = wv := by
  unfold dipB
  split
  · rfl
  · exact runW_seq t wv ns 109 (.inr rfl)
theorem runW_mov (t : Tm) (wv : Nat → Bool) (W : Nat) (a : Int) (i : Nat) : runW (t, .out) wv (movB W a i) = wv := by
  unfold movB
  split
  · exact runW_seq t wv _ 72 (.inl rfl)
  · rfl
/-- The other half. -/
def oth (C : Nat → Ce) (i : Nat) : Int := if (C i).p = 1 then (i : Int) + 1 else if (C i).p = 2 then (i : Int) - 1 else -1
/-- What may be written. -/
def Tch (old new : Nat → Ce) (n j : Nat) : Prop := ∃ i, i < n ∧ new i ≠ old i ∧ (j = i ∨ oth old i = (j : Int) ∨ oth new i = (j : Int))
section
variable {old new : Nat → Ce} {W H : Nat} {t : Tm} {p : Pe0} {wv : Nat → Bool}
/-- A cell's bytes: what they write. -/
theorem cel_W (hW : t.W = W) (hH : t.H = H) (hW4 : 1 ≤ W ∧ W ≤ 400) (hH4 : 1 ≤ H ∧ H ≤ 400) {Y X : Nat} (hY : Y < H) (hX : X < W) (hp : PenAt W t p) (ho : Rws old W H) (hn : Rws new W H) (h2 : (new (Y * W + X)).p ≠ 2) (hd : new (Y * W + X) ≠ old (Y * W + X)) (hc : Shows t.c W H (Mid old new (kf new (H * W) (Y * W + X)))) :
    runW (t, .out) wv (celB nms W p (Y * W + X) (new (Y * W + X))) (Y * W + X) = true ∧ (∀ j, wv j = true → runW (t, .out) wv (celB nms W p (Y * W + X) (new (Y * W + X))) j = true) ∧ ∀ j, j < H * W → runW (t, .out) wv (celB nms W p (Y * W + X) (new (Y * W + X))) j = true → wv j = true ∨ Tch old new (H * W) j := by
  have hok := hn.ok hY hX
  have hi0 : Y * W + X < H * W := row_lt hY hX
  obtain ⟨i, hi⟩ : ∃ i, Y * W + X = i := ⟨_, rfl⟩
  obtain ⟨t1, r1, w1, q1, c1, x1, y1, f1, g1, b1⟩ := mov_run hW hH hW4.2 hH4.2 hY hX hp
  have hs : StyOk (new i).f (new i).g (new i).b := by rw [← hi]; exact hok.sty
  obtain ⟨t2, r2, w2, q2, c2, x2, y2, f2, g2, b2⟩ := dip_run (t := t1) (p := p) turns_nms hp.ok hs (f1.trans hp.f) (g1.trans hp.g) (b1.trans hp.b)
  have htxt := hok.text h2
  rw [hi] at htxt h2 r1 hd hc hi0 ⊢
  have hn12 : (new i).p + 1 = 1 ∨ (new i).p + 1 = 2 := by
    rcases hok.part with h | h | h <;> rw [hi] at h
    · exact .inl (by omega)
    · exact .inr (by omega)
    · exact absurd h h2
  obtain ⟨bb, ms, el, hwb, hwm, hlen, hgood⟩ := cell_text hn12 htxt
  have hXW : (X : Int) + ((new i).p + 1) ≤ (W : Int) := by
    rcases hok.part with h | h | h <;> rw [hi] at h
    · rw [h]; omega
    · have := (hok.head (by rw [hi]; exact h)).1
      rw [h]; omega
    · exact absurd h h2
  have eW : t2.W = W := w2.trans (w1.trans hW)
  have eH : t2.H = H := q2.trans (q1.trans hH)
  have ec : t2.c = t.c := c2.trans c1
  have ex : t2.r.x = X := x2.trans x1
  have ey : t2.r.y = Y := y2.trans y1
  have key : runW (t, .out) wv (celB nms W p i (new i)) = wrN (mkR t2 ⟨#[]⟩ 0 0 wv) bb := by
    unfold celB
    rw [runW_cat, r1, runW_mov, runW_cat, r2, runW_dip, el, runW_runes _ _ _ hgood]
    show wvPs (prT t2 bb) ms (wvP t2 bb wv) = _
    rw [wvPs_marks ms _ _ hwm]
    unfold wvP
    rw [if_neg (by rw [hwb]; omega), if_neg (by rw [hwb, ex, eW]; omega)]
  rw [key]
  have eat : (mkR t2 ⟨#[]⟩ 0 0 wv).y * ((mkR t2 ⟨#[]⟩ 0 0 wv).W : Int) + (mkR t2 ⟨#[]⟩ 0 0 wv).x = (i : Int) := by
    show t2.r.y * (t2.W : Int) + t2.r.x = _
    rw [ey, eW, ex, ← hi]
    simp
  have ebig : bigC (mkR t2 ⟨#[]⟩ 0 0 wv) bb = fill t.c X (X + ((new i).p + 1).toNat) Y (Y + 1) (gly X ((new i).p + 1) (encB bb) (kn t2.r.f) (kn t2.r.g) (bo t2.r.b)) := by
    show putC t2.W t2.H t2.c t2.r.x t2.r.y (encB bb) (wid bb) t2.r.f t2.r.g t2.r.b 0 0 t2.W t2.H = _
    rw [hwb, eW, eH, ec, ex, ey]
    exact put_whole hW4 hH4 t.c (encB bb) _ _ _ hn12 hXW hY
  obtain ⟨n, hnn⟩ : ∃ n : Nat, (new i).p + 1 = (n : Int) := ⟨((new i).p + 1).toNat, by omega⟩
  have hn2 : n = 1 ∨ n = 2 := by omega
  have hXn : X + n ≤ W := by omega
  unfold wrN
  rw [ebig, eat, hwb, hnn, show ((n : Int)).toNat = n from rfl]
  refine ⟨?_, fun j h => ?_, ?_⟩
  · simp only [Bool.or_eq_true, decide_eq_true_eq]
    exact .inr (.inl ⟨by omega, by omega⟩)
  · simp only [Bool.or_eq_true]
    exact .inl h
  · intro j hj h
    simp only [Bool.or_eq_true, decide_eq_true_eq] at h
    rcases h with h | ⟨h3, h4⟩ | h
    · exact .inl h
    · refine .inr ⟨i, hi0, hd, ?_⟩
      by_cases e : j = i
      · exact .inl e
      · right; right
        unfold oth
        rw [if_pos (by omega)]
        omega
    · right
      -- a part has changed
      have hxj : j % W < W := Nat.mod_lt _ (by omega)
      have hyj : j / W < H := Nat.div_lt_of_lt_mul (by rw [Nat.mul_comm]; exact hj)
      have ej : j / W * W + j % W = j := by rw [Nat.mul_comm]; exact Nat.div_add_mod j W
      change (t2.c (j / t2.W) (j % t2.W)).p ≠ (fill t.c X (X + n) Y (Y + 1) _ (j / t2.W) (j % t2.W)).p at h
      rw [eW, ec] at h
      obtain ⟨y, hy⟩ : ∃ y, j / W = y := ⟨_, rfl⟩
      obtain ⟨x, hx⟩ : ∃ x, j % W = x := ⟨_, rfl⟩
      rw [hy, hx] at h ej
      rw [hy] at hyj
      rw [hx] at hxj
      by_cases hin : i ≤ j ∧ j < i + n
      · refine ⟨i, hi0, hd, ?_⟩
        by_cases e : j = i
        · exact .inl e
        · right; right
          unfold oth
          rw [if_pos (by omega)]
          omega
      · unfold fill at h
        by_cases hyY : y = Y
        · subst hyY
          rw [if_pos ⟨Nat.le_refl _, by omega⟩] at h
          unfold span at h
          rw [if_neg (by omega)] at h
          have cX : t.c y X = Mid old new i i := by
            have := hc y X hyj hX
            rw [hi, kf_at h2] at this
            exact this
          have hcX : (t.c y X).p ≠ 2 := by
            rw [cX]
            by_cases q : (old i).p = 2
            · rw [mid_bl q, bl_p]; decide
            · rw [mid_eq q]; exact q
          rw [if_neg (fun q => hcX q.2.2)] at h
          by_cases hb : X < X + n ∧ x = X + n ∧ (t.c y (X + n - 1)).p = 1
          · have hjn : j = i + n := by omega
            have hq : (t.c y (X + n - 1)).p = 1 := hb.2.2
            rw [hc y (X + n - 1) hyj (by omega), kf_at h2] at hq
            have e1 : y * W + (X + n - 1) = i + n - 1 := by omega
            rw [e1] at hq
            -- the old cell there is a head
            have ho1 : (old (i + n - 1)).p = 1 := by
              by_cases q : i + n - 1 = i
              · rw [q] at hq ⊢
                by_cases z : (old i).p = 2
                · rw [mid_bl z, bl_p] at hq; exact absurd hq (by decide)
                · rwa [mid_eq z] at hq
              · rwa [mid_gt (by omega)] at hq
            refine ⟨i + n - 1, by omega, ?_, ?_⟩
            · by_cases q : n = 1
              · subst q; exact hd
              · obtain rfl : n = 2 := by omega
                intro e
                have hh := (hn.head hi0 (by omega)).2
                rw [show i + 2 - 1 = i + 1 by omega] at e ho1
                rw [← e, hh] at ho1
                have ho1 : (2 : Int) = 1 := ho1
                exact absurd ho1 (by decide)
            · right; left
              unfold oth
              rw [if_pos ho1]
              omega
          · rw [if_neg hb] at h
            exact absurd rfl h
        · rw [if_neg (by omega)] at h
          exact absurd rfl h
/-- What the bytes up to a cell write. -/
theorem upd_W (hW4 : 1 ≤ W ∧ W ≤ 400) (hH4 : 1 ≤ H ∧ H ≤ 400) (ho : Rws old W H) (hn : Rws new W H) (hW : t.W = W) (hH : t.H = H) (hp : PenAt W t p) (hc : Shows t.c W H old) :
    ∀ i, i ≤ H * W → (∀ j, j < i → new j ≠ old j → (new j).p ≠ 2 → runW (t, .out) wv (updB nms W old new p i).2 j = true) ∧ ∀ j, j < H * W → runW (t, .out) wv (updB nms W old new p i).2 j = true → wv j = true ∨ Tch old new (H * W) j := by
  intro i
  induction i with
  | zero => exact fun _ => ⟨fun j hj => absurd hj (by omega), fun j hj h => .inl h⟩
  | succ i ih =>
    intro hi
    obtain ⟨a1, a2⟩ := ih (by omega)
    obtain ⟨t1, r1, w1, q1, s1, p1⟩ := upd_run turns_nms hW4 hH4 ho hn hW hH hp hc i (by omega)
    unfold updB
    by_cases h : new i ≠ old i ∧ (new i).p ≠ 2
    · rw [if_pos h]
      show (∀ j, _ → _ → _ → runW (t, .out) wv ((updB nms W old new p i).2 ++ celB nms W (updB nms W old new p i).1 i (new i)) j = true) ∧ ∀ j, _ → runW (t, .out) wv ((updB nms W old new p i).2 ++ celB nms W (updB nms W old new p i).1 i (new i)) j = true → _
      rw [runW_cat, r1]
      obtain ⟨Y, X, hY, hX, rfl⟩ := row_of (W := W) (H := H) (j := i) (by omega)
      obtain ⟨k1, k3, k2⟩ := cel_W (wv := runW (t, .out) wv (updB nms W old new p (Y * W + X)).2) w1 q1 hW4 hH4 hY hX p1 ho hn h.2 h.1 s1
      refine ⟨fun j hj n1 n2 => ?_, fun j hj hr => ?_⟩
      · by_cases e : j = Y * W + X
        · rw [e]; exact k1
        · exact k3 j (a1 j (by omega) n1 n2)
      · rcases k2 j hj hr with z | z
        · exact a2 j hj z
        · exact .inr z
    · rw [if_neg h]
      refine ⟨fun j hj n1 n2 => ?_, a2⟩
      by_cases e : j = i
      · subst e; exact absurd ⟨n1, n2⟩ h
      · exact a1 j (by omega) n1 n2
end

end Go.Proofs.YtlfffpoeioecjaaDoor
