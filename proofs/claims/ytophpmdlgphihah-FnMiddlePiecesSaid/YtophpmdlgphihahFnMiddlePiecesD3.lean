import Derived.Test.YtophpmdlgphihahFnMiddlePiecesD2
namespace Go.Rx.Try
open Go.Proofs
set_option maxRecDepth 100000
set_option maxHeartbeats 8000000
set_option linter.unusedSimpArgs false
set_option linter.unusedVariables false

theorem div_leR {a c d : Rat} (hd : 0 < d) : a / d ≤ c ↔ a ≤ c * d := by
  have hn : d ≠ 0 := by grind
  have h1 : a / d * d = a := Rat.div_mul_cancel hn
  constructor
  · intro h
    have := Rat.mul_le_mul_of_nonneg_right h (Rat.le_of_lt hd)
    rw [h1] at this; exact this
  · intro h
    rcases leTot (a / d) c with h2 | h2
    · exact h2
    · have := Rat.mul_le_mul_of_nonneg_right h2 (Rat.le_of_lt hd)
      rw [h1] at this
      have h3 : c * d = a := Rat.le_antisymm this h
      have : c = a / d := by rw [← h3, Rat.div_def, Rat.mul_assoc, Rat.mul_inv_cancel _ hn, Rat.mul_one]
      rw [this]; exact Rat.le_refl

def mnA (S W : Nat → Rat) (i e : Nat) : Rat := (S e - S i) / (W e - W i)

def AscW (W : Nat → Rat) (n : Nat) : Prop := ∀ i, i < n → W i < W (i + 1)

theorem AscW.lt {W : Nat → Rat} {n : Nat} (h : AscW W n) {i : Nat} : ∀ {j}, i < j → j ≤ n → W i < W j
  | 0, h1, _ => absurd h1 (Nat.not_lt_zero _)
  | j + 1, h1, h2 => by
    have := h j h2
    rcases Nat.lt_or_ge i j with h3 | h3
    · have := h.lt (j := j) h3 (by omega); grind
    · rw [show i = j by omega]; exact this

theorem AscW.le {W : Nat → Rat} {n : Nat} (h : AscW W n) {i j : Nat} (h1 : i ≤ j) (h2 : j ≤ n) : W i ≤ W j := by
  rcases Nat.lt_or_ge i j with h3 | h3
  · exact Rat.le_of_lt (h.lt h3 h2)
  · rw [show i = j by omega]; exact Rat.le_refl

theorem AscW.sub {W : Nat → Rat} {n m : Nat} (h : AscW W n) (hm : m ≤ n) : AscW W m := fun i hi => h i (by omega)

theorem mnA_mul {S W : Nat → Rat} {i e : Nat} (h : W i < W e) : mnA S W i e * (W e - W i) = S e - S i := Rat.div_mul_cancel (by grind)

theorem le_mnA {S W : Nat → Rat} {i e : Nat} {c : Rat} (h : W i < W e) : c ≤ mnA S W i e ↔ c * (W e - W i) ≤ S e - S i := le_divR (by grind)

theorem mnA_le {S W : Nat → Rat} {i e : Nat} {c : Rat} (h : W i < W e) : mnA S W i e ≤ c ↔ S e - S i ≤ c * (W e - W i) := div_leR (by grind)

theorem mulR_le {a b d : Rat} (hd : 0 ≤ d) (h : a ≤ b) : a * d ≤ b * d := Rat.mul_le_mul_of_nonneg_right h hd

theorem mulR_ge {a b d : Rat} (hd : d ≤ 0) (h : a ≤ b) : b * d ≤ a * d := by
  have := mulR_le (a := a) (b := b) (d := -d) (by grind) h
  grind

/-- the line with slope c through s and e lies below all sums up to n; j is between s and e -/
def Sup (S W : Nat → Rat) (n j : Nat) (c : Rat) : Prop := ∃ s e, s ≤ j ∧ j < e ∧ e ≤ n ∧ S e - S s = c * (W e - W s) ∧ ∀ t, t ≤ n → c * (W t - W s) ≤ S t - S s

theorem Sup.uniq {S W : Nat → Rat} {n j : Nat} {c d : Rat} (hW : AscW W n) (h : Sup S W n j c) (h' : Sup S W n j d) : c = d := by
  have one : ∀ {c d : Rat}, Sup S W n j c → Sup S W n j d → ¬ c < d := by
    rintro c d ⟨s, e, h1, h2, h3, h4, h5⟩ ⟨s', e', g1, g2, g3, g4, g5⟩ hlt
    -- on e: S e is on the line of slope c through s; from s' on the line of slope d
    have a1 := h5 s' (by omega)
    have a2 := g5 e h3
    have a3 := hW.lt (i := s') (j := e) (by omega) h3
    have a4 := mulR_le (d := W e - W s') (by grind) (Rat.le_of_lt hlt)
    have a5 : c * (W e - W s') ≠ d * (W e - W s') := fun h => by
      have : (d - c) * (W e - W s') = 0 := by grind
      have h6 : 0 < (d - c) * (W e - W s') := Rat.mul_pos (by grind) (by grind)
      grind
    grind
  exact Rat.le_antisymm (Rat.not_lt.1 (one h' h)) (Rat.not_lt.1 (one h h'))

/- stacks of blocks: the last one's start ahead, e the end -/

def Bks (S W : Nat → Rat) : List Nat → Nat → Prop
  | [], e => e = 0
  | a :: r, e => a < e ∧ (∀ t, a ≤ t → t ≤ e → mnA S W a e * (W t - W a) ≤ S t - S a) ∧ Bks S W r a

def Inc (S W : Nat → Rat) : List Nat → Nat → Prop
  | [], _ => True
  | [_], _ => True
  | a :: b :: r, e => mnA S W b a < mnA S W a e ∧ Inc S W (b :: r) a

/-- two blocks joined -/
theorem Bks.join {S W : Nat → Rat} {n : Nat} (hW : AscW W n) {a b e : Nat} {r : List Nat} (he : e ≤ n) (h : Bks S W (a :: b :: r) e) (hm : mnA S W a e ≤ mnA S W b a) : Bks S W (b :: r) e := by
  obtain ⟨h1, h2, h3, h4, h5⟩ := h
  refine ⟨by omega, ?_, h5⟩
  have wba := hW.lt h3 (by omega)
  have wae := hW.lt h1 he
  have wbe : W b < W e := by grind
  have p := mnA_mul (S := S) wba
  have q := mnA_mul (S := S) wae
  have m := mnA_mul (S := S) wbe
  have m1 : mnA S W b e ≤ mnA S W b a := (mnA_le wbe).2 (by
    have := mulR_le (d := W e - W a) (by grind) hm
    grind)
  have m2 : mnA S W a e ≤ mnA S W b e := (le_mnA wbe).2 (by
    have := mulR_le (d := W a - W b) (by grind) hm
    grind)
  intro t ht ht2
  rcases Nat.le_total t a with h6 | h6
  · have := h4 t ht h6
    have wt := hW.le ht (by omega)
    have := mulR_le (d := W t - W b) (by grind) m1
    grind
  · have := h2 t h6 ht2
    have wt := hW.le ht2 he
    have := mulR_le (d := W e - W t) (by grind) m2
    grind

/-- the last block's line lies below all that is behind -/
theorem Bks.back {S W : Nat → Rat} {n : Nat} (hW : AscW W n) : ∀ {r : List Nat} {a e : Nat}, e ≤ n → Bks S W (a :: r) e → Inc S W (a :: r) e → ∀ t, t ≤ e → mnA S W a e * (W t - W a) ≤ S t - S a
  | [], a, e, he, h, _, t, ht => by
    obtain ⟨h1, h2, h3⟩ := h
    obtain rfl : a = 0 := h3
    exact h2 t (by omega) ht
  | b :: r, a, e, he, h, hi, t, ht => by
    have ⟨h1, h2, h3⟩ := h
    rcases Nat.le_total a t with h4 | h4
    · exact h2 t h4 ht
    · have := Bks.back hW (by omega) h3 hi.2 t h4
      have wba := hW.lt h3.1 (by omega)
      have p := mnA_mul (S := S) wba
      have wt := hW.le h4 (by omega)
      have := mulR_ge (d := W t - W a) (by grind) (Rat.le_of_lt hi.1)
      grind

/-- the block's mean at each place -/
def fitB (S W : Nat → Rat) : List Nat → Nat → Nat → Rat
  | [], _, _ => 0
  | a :: r, e, j => if a ≤ j then mnA S W a e else fitB S W r a j

theorem Bks.sup {S W : Nat → Rat} {n : Nat} (hW : AscW W n) : ∀ {r : List Nat} {a e : Nat}, e ≤ n → Bks S W (a :: r) e → Inc S W (a :: r) e → ∀ j, j < e → Sup S W e j (fitB S W (a :: r) e j) ∧ fitB S W (a :: r) e j ≤ mnA S W a e
  | r, a, e, he, h, hi, j, hj => by
    have wae := hW.lt h.1 he
    have q := mnA_mul (S := S) wae
    rcases Nat.lt_or_ge j a with h1 | h1
    · match r, h, hi with
      | [], h, hi => obtain rfl : a = 0 := h.2.2; omega
      | b :: r, h, hi =>
        have hs := Bks.sup hW (by have := h.1; omega) h.2.2 hi.2 j h1
        rw [show fitB S W (a :: b :: r) e j = fitB S W (b :: r) a j by
          show (if a ≤ j then _ else _) = _
          rw [if_neg (by omega)]]
        generalize fitB S W (b :: r) a j = c at hs ⊢
        obtain ⟨⟨s, u, g1, g2, g3, g4, g5⟩, g6⟩ := hs
        have g7 : c ≤ mnA S W a e := Rat.le_trans g6 (Rat.le_of_lt hi.1)
        refine ⟨⟨s, u, g1, g2, by have := h.1; omega, g4, fun t ht => ?_⟩, g7⟩
        rcases Nat.le_total t a with h3 | h3
        · exact g5 t h3
        · have k1 := h.2.1 t h3 ht
          have k2 := g5 a (Nat.le_refl _)
          have wt := hW.le h3 (by omega)
          have k3 := mulR_le (d := W t - W a) (by grind) g7
          grind
    · rw [show fitB S W (a :: r) e j = mnA S W a e by
        show (if a ≤ j then _ else _) = _
        rw [if_pos h1]]
      exact ⟨⟨a, e, h1, hj, Nat.le_refl _, q.symm, Bks.back hW he h hi⟩, Rat.le_refl⟩
/- the stack when blocks are joined -/

def popS (S W : Nat → Rat) (e : Nat) : List Nat → List Nat
  | a :: b :: r => if mnA S W b a < mnA S W a e then a :: b :: r else popS S W e (b :: r)
  | l => l

def poS (S W : Nat → Rat) : Nat → List Nat
  | 0 => []
  | k + 1 => popS S W (k + 1) (k :: poS S W k)

theorem popS_ok {S W : Nat → Rat} {n : Nat} (hW : AscW W n) {e : Nat} (he : e ≤ n) : ∀ {r : List Nat} {a : Nat}, Bks S W (a :: r) e → (∀ b r', r = b :: r' → Inc S W (b :: r') a) → ∃ a' r', popS S W e (a :: r) = a' :: r' ∧ Bks S W (a' :: r') e ∧ Inc S W (a' :: r') e
  | [], a, h, _ => ⟨a, [], rfl, h, trivial⟩
  | b :: r, a, h, hi => by
    rw [show popS S W e (a :: b :: r) = if mnA S W b a < mnA S W a e then a :: b :: r else popS S W e (b :: r) from rfl]
    by_cases hc : mnA S W b a < mnA S W a e
    · rw [if_pos hc]; exact ⟨a, b :: r, rfl, h, hc, hi b r rfl⟩
    · rw [if_neg hc]
      have hj := h.join hW he (Rat.not_lt.1 hc)
      refine popS_ok hW he hj fun b' r' hr => ?_
      subst hr
      exact (hi b _ rfl).2

theorem poS_ok {S W : Nat → Rat} {n : Nat} (hW : AscW W n) : ∀ {k}, k ≤ n → Bks S W (poS S W k) k ∧ Inc S W (poS S W k) k
  | 0, _ => ⟨rfl, trivial⟩
  | k + 1, hk => by
    have ih := poS_ok (S := S) hW (k := k) (by omega)
    have hB : Bks S W (k :: poS S W k) (k + 1) := by
      refine ⟨by omega, fun t h1 h2 => ?_, ih.1⟩
      have w := hW k hk
      have q := mnA_mul (S := S) w
      rcases Nat.lt_or_ge k t with h3 | h3
      · obtain rfl : t = k + 1 := by omega
        grind
      · obtain rfl : t = k := by omega
        grind
    obtain ⟨a', r', e1, e2, e3⟩ := popS_ok hW hk hB fun b r' hr => by rw [← hr]; exact ih.2
    show Bks S W (popS S W (k + 1) (k :: poS S W k)) _ ∧ Inc S W (popS S W (k + 1) (k :: poS S W k)) _
    rw [e1]; exact ⟨e2, e3⟩

noncomputable def fitN (S W : Nat → Rat) (n j : Nat) : Rat := fitB S W (poS S W n) n j

theorem fitB_ge {S W : Nat → Rat} {a : Nat} {r : List Nat} {e j : Nat} (h : a ≤ j) : fitB S W (a :: r) e j = mnA S W a e := by
  rw [show fitB S W (a :: r) e j = if a ≤ j then mnA S W a e else fitB S W r a j from rfl, if_pos h]

theorem fitB_lt {S W : Nat → Rat} {a : Nat} {r : List Nat} {e j : Nat} (h : j < a) : fitB S W (a :: r) e j = fitB S W r a j := by
  rw [show fitB S W (a :: r) e j = if a ≤ j then mnA S W a e else fitB S W r a j from rfl, if_neg (by omega)]

noncomputable def fitS (S W : Nat → Rat) (r : List Nat) (e t : Nat) : Rat := sumR (fun i => fitB S W r e i * (W (i + 1) - W i)) t

theorem fitS_lt {S W : Nat → Rat} {a : Nat} {r : List Nat} {e t : Nat} (h : t ≤ a) : fitS S W (a :: r) e t = fitS S W r a t :=
  sumR_congr fun i hi => by rw [fitB_lt (by omega)]

theorem fitS_ge {S W : Nat → Rat} {a : Nat} {r : List Nat} {e : Nat} : ∀ {t}, a ≤ t → fitS S W (a :: r) e t = fitS S W r a a + mnA S W a e * (W t - W a) := by
  intro t ht
  obtain ⟨d, rfl⟩ := Nat.exists_eq_add_of_le ht
  clear ht
  induction d with
  | zero => rw [Nat.add_zero, fitS_lt (Nat.le_refl a)]; grind
  | succ d ih =>
    have ht : a ≤ a + d := by omega
    rw [← Nat.add_assoc]
    revert ih ht
    generalize a + d = t
    intro ih ht
    rw [show fitS S W (a :: r) e (t + 1) = fitS S W (a :: r) e t + fitB S W (a :: r) e t * (W (t + 1) - W t) from rfl, ih, fitB_ge ht]; grind

theorem Bks.sums {S W : Nat → Rat} {n : Nat} (hW : AscW W n) : ∀ {r : List Nat} {e : Nat}, e ≤ n → Bks S W r e → (∀ t, t ≤ e → fitS S W r e t ≤ S t - S 0) ∧ fitS S W r e e = S e - S 0
  | [], e, _, h => by
    obtain rfl : e = 0 := h
    have : fitS S W [] 0 0 = 0 := rfl
    refine ⟨fun t ht => ?_, by rw [this]; grind⟩
    obtain rfl : t = 0 := by omega
    rw [this]; grind
  | a :: r, e, he, h => by
    obtain ⟨h1, h2, h3⟩ := h
    obtain ⟨i1, i2⟩ := Bks.sums hW (by omega) h3
    refine ⟨fun t ht => ?_, ?_⟩
    · rcases Nat.le_total t a with h4 | h4
      · rw [fitS_lt h4]; exact i1 t h4
      · rw [fitS_ge h4, i2]
        have := h2 t h4 ht; grind
    · rw [fitS_ge (by omega), i2]
      have := mnA_mul (S := S) (hW.lt h1 he); grind

theorem Bks.rises {S W : Nat → Rat} {n : Nat} (hW : AscW W n) : ∀ {r : List Nat} {e : Nat}, e ≤ n → Bks S W r e → Inc S W r e → ∀ j, j + 1 < e → fitB S W r e j ≤ fitB S W r e (j + 1) ∧ (fitB S W r e j = fitB S W r e (j + 1) ∨ fitS S W r e (j + 1) = S (j + 1) - S 0)
  | [], e, _, h, _, j, hj => by have : e = 0 := h; omega
  | a :: r, e, he, h, hi, j, hj => by
    have h0 := h.1
    rcases Nat.lt_or_ge j a with h1 | h1
    · rcases Nat.lt_or_ge (j + 1) a with h2 | h2
      · rw [fitB_lt h1, fitB_lt h2, fitS_lt (by omega)]
        refine Bks.rises hW (by omega) h.2.2 ?_ j h2
        match r, hi with
        | [], _ => trivial
        | b :: r, hi => exact hi.2
      · obtain rfl : a = j + 1 := by omega
        rw [fitB_lt h1, fitB_ge h2]
        refine ⟨?_, Or.inr ?_⟩
        · match r, h, hi with
          | [], h, hi => have : j + 1 = 0 := h.2.2; omega
          | b :: r, h, hi =>
            have := (Bks.sup hW (by omega) h.2.2 hi.2 j h1).2
            exact Rat.le_trans this (Rat.le_of_lt hi.1)
        · rw [fitS_lt (Nat.le_refl _)]
          exact (Bks.sums hW (by omega) h.2.2).2
    · rw [fitB_ge h1, fitB_ge (by omega)]
      exact ⟨Rat.le_refl, Or.inl rfl⟩

/-- what the best row misses is at most what any row that rises misses -/
theorem fit_best {S W x r : Nat → Rat} {n : Nat} (hW : AscW W n) (hS : ∀ i, i < n → S (i + 1) - S i = x i * (W (i + 1) - W i)) (hr : ∀ i, i + 1 < n → r i ≤ r (i + 1)) :
    sumR (fun i => (W (i + 1) - W i) * ((x i - fitN S W n i) * (x i - fitN S W n i))) n ≤ sumR (fun i => (W (i + 1) - W i) * ((x i - r i) * (x i - r i))) n := by
  obtain ⟨b1, b2⟩ := poS_ok (S := S) hW (Nat.le_refl n)
  obtain ⟨s1, s2⟩ := Bks.sums hW (Nat.le_refl n) b1
  have s3 := Bks.rises hW (Nat.le_refl n) b1 b2
  have abel : ∀ m, m + 1 ≤ n → (S (m + 1) - S 0 - fitS S W (poS S W n) n (m + 1)) * (fitN S W n m - r m) ≤ sumR (fun i => (W (i + 1) - W i) * ((x i - fitN S W n i) * (fitN S W n i - r i))) (m + 1) := by
    intro m
    induction m with
    | zero =>
      intro h
      have e1 := hS 0 (by omega)
      show _ ≤ 0 + (W (0 + 1) - W 0) * ((x 0 - fitN S W n 0) * (fitN S W n 0 - r 0))
      have e2 : fitS S W (poS S W n) n (0 + 1) = fitN S W n 0 * (W (0 + 1) - W 0) := by
        show 0 + fitN S W n 0 * (W (0 + 1) - W 0) = _
        grind
      rw [e2]
      have : (S (0 + 1) - S 0 - fitN S W n 0 * (W (0 + 1) - W 0)) * (fitN S W n 0 - r 0) = 0 + (W (0 + 1) - W 0) * ((x 0 - fitN S W n 0) * (fitN S W n 0 - r 0)) := by
        rw [e1]; grind
      rw [this]; exact Rat.le_refl
    | succ m ih =>
      intro h
      have e1 := hS (m + 1) (by omega)
      have i1 := ih (by omega)
      obtain ⟨g1, g2⟩ := s3 m (by omega)
      have g3 := s1 (m + 1) (by omega)
      have g4 := hr m (by omega)
      have e2 : fitS S W (poS S W n) n (m + 1 + 1) = fitS S W (poS S W n) n (m + 1) + fitN S W n (m + 1) * (W (m + 1 + 1) - W (m + 1)) := rfl
      rw [show sumR (fun i => (W (i + 1) - W i) * ((x i - fitN S W n i) * (fitN S W n i - r i))) (m + 1 + 1) = sumR (fun i => (W (i + 1) - W i) * ((x i - fitN S W n i) * (fitN S W n i - r i))) (m + 1) + (W (m + 1 + 1) - W (m + 1)) * ((x (m + 1) - fitN S W n (m + 1)) * (fitN S W n (m + 1) - r (m + 1))) from rfl, e2]
      generalize sumR (fun i => (W (i + 1) - W i) * ((x i - fitN S W n i) * (fitN S W n i - r i))) (m + 1) = A at *
      generalize hF : fitS S W (poS S W n) n (m + 1) = F at *
      have g5 : fitN S W n m = fitN S W n (m + 1) ∨ F = S (m + 1) - S 0 := g2
      have g6 : fitN S W n m ≤ fitN S W n (m + 1) := g1
      generalize fitN S W n (m + 1) = f1 at *
      generalize fitN S W n m = f0 at *
      have g7 : (S (m + 1) - S 0 - F) * (f1 - r (m + 1)) ≤ (S (m + 1) - S 0 - F) * (f0 - r m) := by
        rcases g5 with h | h
        · exact Rat.mul_le_mul_of_nonneg_left (by grind) (by grind)
        · rw [h]; grind
      have e3 : (S (m + 1 + 1) - S 0 - (F + f1 * (W (m + 1 + 1) - W (m + 1)))) * (f1 - r (m + 1)) = (S (m + 1) - S 0 - F) * (f1 - r (m + 1)) + (W (m + 1 + 1) - W (m + 1)) * ((x (m + 1) - f1) * (f1 - r (m + 1))) := by
        have : S (m + 1 + 1) = S (m + 1) + x (m + 1) * (W (m + 1 + 1) - W (m + 1)) := by grind
        rw [this]; grind
      rw [e3]; grind
  have cross : 0 ≤ sumR (fun i => (W (i + 1) - W i) * ((x i - fitN S W n i) * (fitN S W n i - r i))) n := by
    rcases Nat.eq_zero_or_pos n with rfl | h0
    · exact Rat.le_refl
    · have := abel (n - 1) (by omega)
      rw [show n - 1 + 1 = n by omega, s2] at this
      grind
  have sq : ∀ k, k ≤ n → 0 ≤ sumR (fun i => (W (i + 1) - W i) * ((fitN S W n i - r i) * (fitN S W n i - r i))) k := by
    intro k
    induction k with
    | zero => intro _; exact Rat.le_refl
    | succ k ih =>
      intro hk
      have a1 := ih (by omega)
      have a2 := hW k hk
      have a3 : 0 ≤ (fitN S W n k - r k) * (fitN S W n k - r k) := by
        rcases leTot 0 (fitN S W n k - r k) with h | h
        · exact Rat.mul_nonneg h h
        · have := Rat.mul_nonneg (a := -(fitN S W n k - r k)) (b := -(fitN S W n k - r k)) (by grind) (by grind); grind
      have a4 := Rat.mul_nonneg (a := W (k + 1) - W k) (by grind) a3
      show 0 ≤ sumR _ k + _
      grind
  have key : sumR (fun i => (W (i + 1) - W i) * ((x i - r i) * (x i - r i))) n = sumR (fun i => (W (i + 1) - W i) * ((x i - fitN S W n i) * (x i - fitN S W n i))) n + (sumR (fun i => (W (i + 1) - W i) * ((fitN S W n i - r i) * (fitN S W n i - r i))) n + 2 * sumR (fun i => (W (i + 1) - W i) * ((x i - fitN S W n i) * (fitN S W n i - r i))) n) := by
    rw [← sumR_mul, ← sumR_add, ← sumR_add]
    exact sumR_congr fun i _ => by grind
  rw [key]
  have := sq n (Nat.le_refl n)
  grind

def Loads (xs ws : List Int) : Prop := (∀ w ∈ ws, 1 ≤ w ∧ w ≤ 5) ∧ Bd 30 xs ∧ xs.length = ws.length ∧ 1 ≤ xs.length ∧ xs.length ≤ 8

noncomputable instance (xs ws : List Int) : Decidable (Loads xs ws) := Classical.propDecidable _

def rS (xs ws : List Int) (t : Nat) : Rat := ((dotT xs ws t : Int) : Rat)

def rW (ws : List Int) (t : Nat) : Rat := ((sumI ws t : Int) : Rat)

theorem Loads.w {xs ws : List Int} (h : Loads xs ws) {i : Nat} (hi : i < xs.length) : 1 ≤ nth ws i ∧ nth ws i ≤ 5 := by
  have h1 : i < ws.length := by have := h.2.2.1; omega
  rw [nth_of h1]; exact h.1 _ (List.getElem_mem h1)

theorem Loads.x {xs ws : List Int} (h : Loads xs ws) (i : Nat) : -30 ≤ nth xs i ∧ nth xs i ≤ 30 := h.2.1.nth (by omega) i

theorem Loads.sums {xs ws : List Int} (h : Loads xs ws) {i : Nat} : ∀ {e}, i ≤ e → e ≤ xs.length →
    (((e - i : Nat) : Int) ≤ sumI ws e - sumI ws i ∧ sumI ws e - sumI ws i ≤ 5 * ((e - i : Nat) : Int)) ∧ (-(30 * (sumI ws e - sumI ws i)) ≤ dotT xs ws e - dotT xs ws i ∧ dotT xs ws e - dotT xs ws i ≤ 30 * (sumI ws e - sumI ws i))
  | 0, h1, _ => by obtain rfl : i = 0 := by omega
                   simp
  | e + 1, h1, h2 => by
    rcases Nat.lt_or_ge e i with h3 | h3
    · obtain rfl : i = e + 1 := by omega
      simp
    · have ih := h.sums (i := i) (e := e) h3 (by omega)
      have hw := h.w (i := e) (by omega)
      have hx := h.x e
      have m1 : nth xs e * nth ws e ≤ 30 * nth ws e := Int.mul_le_mul_of_nonneg_right hx.2 (by omega)
      have m2 : -30 * nth ws e ≤ nth xs e * nth ws e := Int.mul_le_mul_of_nonneg_right hx.1 (by omega)
      rw [show sumI ws (e + 1) = sumI ws e + nth ws e from rfl, show dotT xs ws (e + 1) = dotT xs ws e + nth xs e * nth ws e from rfl]
      generalize nth xs e * nth ws e = p at *
      omega

theorem Loads.pos {xs ws : List Int} (h : Loads xs ws) {i e : Nat} (h1 : i < e) (h2 : e ≤ xs.length) : 1 ≤ sumI ws e - sumI ws i ∧ sumI ws e - sumI ws i ≤ 40 := by
  have := (h.sums (i := i) (e := e) (by omega) h2).1
  have := h.2.2.2.2
  omega

theorem Loads.asc {xs ws : List Int} (h : Loads xs ws) : AscW (rW ws) xs.length := fun i hi => by
  have := h.pos (i := i) (e := i + 1) (by omega) hi
  exact Rat.intCast_lt_intCast.2 (by omega)

theorem rW_succ (ws : List Int) (i : Nat) : rW ws (i + 1) - rW ws i = ((nth ws i : Int) : Rat) := by
  unfold rW
  rw [show sumI ws (i + 1) = sumI ws i + nth ws i from rfl, Rat.intCast_add]; grind

theorem rS_succ (xs ws : List Int) (i : Nat) : rS xs ws (i + 1) - rS xs ws i = ((nth xs i : Int) : Rat) * (rW ws (i + 1) - rW ws i) := by
  rw [rW_succ]
  unfold rS
  rw [show dotT xs ws (i + 1) = dotT xs ws i + nth xs i * nth ws i from rfl, Rat.intCast_add, Rat.intCast_mul]; grind

noncomputable def fiR (xs ws : List Int) (j : Nat) : Rat := fitN (rS xs ws) (rW ws) xs.length j

def Dv (q : Rat) (D : Int) : Prop := 0 < D ∧ ∃ k : Int, q * (D : Rat) = (k : Rat)

theorem Dv.lift {q : Rat} {D m : Int} (h : Dv q D) (hm : 0 < m) : Dv q (D * m) := by
  obtain ⟨h1, k, h2⟩ := h
  exact ⟨Int.mul_pos h1 hm, k * m, by rw [Rat.intCast_mul, Rat.intCast_mul, ← Rat.mul_assoc, h2]⟩

theorem Dv.add {p q : Rat} {D : Int} (h : Dv p D) (h' : Dv q D) : Dv (p + q) D := by
  obtain ⟨h1, k, h2⟩ := h
  obtain ⟨_, l, h3⟩ := h'
  exact ⟨h1, k + l, by rw [Rat.intCast_add, ← h2, ← h3]; grind⟩

theorem Dv.mul {p q : Rat} {D E : Int} (h : Dv p D) (h' : Dv q E) : Dv (p * q) (D * E) := by
  obtain ⟨h1, k, h2⟩ := h
  obtain ⟨h4, l, h3⟩ := h'
  exact ⟨Int.mul_pos h1 h4, k * l, by rw [Rat.intCast_mul, Rat.intCast_mul, ← h2, ← h3]; grind⟩

theorem Dv.int (n : Int) : Dv (n : Rat) 1 := ⟨by omega, n, by simp⟩

theorem Dv.to {q : Rat} {D E : Int} (h : Dv q D) (e : D = E) : Dv q E := e ▸ h

def sqM (xs ws : List Int) (f : Nat → Rat) (i : Nat) : Rat := ((nth ws i : Int) : Rat) * ((((nth xs i : Int) : Rat) - f i) * (((nth xs i : Int) : Rat) - f i))

def miF (xs ws : List Int) (f : Nat → Rat) (t : Nat) : Rat := sumR (sqM xs ws f) t

noncomputable def miR (xs ws : List Int) (t : Nat) : Rat := miF xs ws (fiR xs ws) t

theorem Loads.blk {xs ws : List Int} (h : Loads xs ws) : Bks (rS xs ws) (rW ws) (poS (rS xs ws) (rW ws) xs.length) xs.length ∧ Inc (rS xs ws) (rW ws) (poS (rS xs ws) (rW ws) xs.length) xs.length := poS_ok h.asc (Nat.le_refl _)

/-- what a row misses -/
def miT (xs ws rs : List Int) : Nat → Int
  | 0 => 0
  | t + 1 => miT xs ws rs t + nth ws t * (nth xs t - nth rs t) * (nth xs t - nth rs t)

theorem Loads.best {xs ws : List Int} (h : Loads xs ws) {rs : List Int} (hr : ∀ i, i + 1 < xs.length → nth rs i ≤ nth rs (i + 1)) : miR xs ws xs.length ≤ ((miT xs ws rs xs.length : Int) : Rat) := by
  have h1 := fit_best (x := fun i => ((nth xs i : Int) : Rat)) (r := fun i => ((nth rs i : Int) : Rat)) h.asc (fun i _ => rS_succ xs ws i) fun i hi => Rat.intCast_le_intCast.2 (hr i hi)
  have e1 : sumR (fun i => (rW ws (i + 1) - rW ws i) * ((((nth xs i : Int) : Rat) - fitN (rS xs ws) (rW ws) xs.length i) * (((nth xs i : Int) : Rat) - fitN (rS xs ws) (rW ws) xs.length i))) xs.length = miR xs ws xs.length :=
    sumR_congr fun i _ => by rw [rW_succ]; rfl
  have e2 : ∀ t, sumR (fun i => (rW ws (i + 1) - rW ws i) * ((((nth xs i : Int) : Rat) - ((nth rs i : Int) : Rat)) * (((nth xs i : Int) : Rat) - ((nth rs i : Int) : Rat)))) t = ((miT xs ws rs t : Int) : Rat) := by
    intro t
    induction t with
    | zero => rfl
    | succ t ih =>
      rw [show sumR (fun i => (rW ws (i + 1) - rW ws i) * ((((nth xs i : Int) : Rat) - ((nth rs i : Int) : Rat)) * (((nth xs i : Int) : Rat) - ((nth rs i : Int) : Rat)))) (t + 1) = _ + _ from rfl, ih, miT]
      dsimp only
      rw [rW_succ]
      simp only [Rat.intCast_add, Rat.intCast_mul, Rat.intCast_sub]
      grind
  rw [← e1, ← e2]; exact h1

theorem Loads.turn {xs ws : List Int} (h : Loads xs ws) : Loads (xs.reverse.map (- ·)) ws.reverse := by
  obtain ⟨h1, h2, h3, h4, h5⟩ := h
  refine ⟨fun w hw => h1 w (List.mem_reverse.1 hw), fun x hx => ?_, by simp [h3], by simpa using h4, by simpa using h5⟩
  obtain ⟨y, hy, rfl⟩ := List.mem_map.1 hx
  have := h2 y (List.mem_reverse.1 hy)
  omega

theorem Loads.back {xs ws : List Int} (h : Loads xs ws) : Loads xs.reverse ws.reverse := by
  obtain ⟨h1, h2, h3, h4, h5⟩ := h
  exact ⟨fun w hw => h1 w (List.mem_reverse.1 hw), fun x hx => h2 x (List.mem_reverse.1 hx), by simp [h3], by simpa using h4, by simpa using h5⟩

theorem Loads.take {xs ws : List Int} (h : Loads xs ws) {k : Nat} (h1 : 1 ≤ k) (h2 : k ≤ xs.length) : Loads (xs.take k) (ws.take k) := by
  obtain ⟨g1, g2, g3, g4, g5⟩ := h
  exact ⟨fun w hw => g1 w (List.mem_of_mem_take hw), fun x hx => g2 x (List.mem_of_mem_take hx), by rw [List.length_take, List.length_take]; omega, by rw [List.length_take]; omega, by rw [List.length_take]; omega⟩

theorem Loads.rest {xs ws : List Int} (h : Loads xs ws) {k : Nat} (h2 : k < xs.length) : Loads (xs.drop k).reverse (ws.drop k).reverse := by
  obtain ⟨g1, g2, g3, g4, g5⟩ := h
  exact ⟨fun w hw => g1 w (List.mem_of_mem_drop (List.mem_reverse.1 hw)), fun x hx => g2 x (List.mem_of_mem_drop (List.mem_reverse.1 hx)), by simp only [List.length_reverse, List.length_drop]; omega, by simp only [List.length_reverse, List.length_drop]; omega, by simp only [List.length_reverse, List.length_drop]; omega⟩

def Steps (xs : List Int) : Prop := Bd 30 xs ∧ 1 ≤ xs.length ∧ xs.length ≤ 8

noncomputable instance (xs : List Int) : Decidable (Steps xs) := Classical.propDecidable _

theorem Steps.x {xs : List Int} (h : Steps xs) (j : Nat) : -30 ≤ nth xs j ∧ nth xs j ≤ 30 := h.1.nth (by omega) j

theorem validHeights_ok {H : Heap} {a : AV} {xs : List Int} (ha : Ints H a xs) (hl : xs.length ≤ 1000000000) :
    ACalls Try.prog fn_impl_validHeights [a] H fun r H' => r = .bool (decide (Steps xs)) ∧ H' = H := by
  refine ACalls.val ?_ rfl
  refine code_impl_validHeights.go [.roI a xs.length xs] ⟨⟨rfl, ha⟩, trivial⟩ (by simp) ?_
  unfold mc_impl_validHeights
  have no : (Steps xs → False) → decide (Steps xs) = false := fun h => decide_eq_false h
  (repeat (first | refine gst (hk := ?_) | (show GO _ _ _ _ _ (⟨some _, none, _⟩ :: _) _; first | refine go_op (hk := ?_) | (refine go_nw (hk := ?_); intro u; try simp only [llc, lln, lna, lza]) | (refine go_np (hk := ?_); intro id)) | (show GO _ _ _ _ _ (⟨none, none, _⟩ :: _) _; refine go_st (hk := ?_)) | (show GO _ _ _ _ _ (⟨_, some _, _⟩ :: _) _; first | refine go_in (hk := ?_) | refine go_out (hk := ?_) | refine go_void (hk := ?_)) | (show GK _ _ _ _ (blockK _ _ _); refine gk_past rfl ?_) | (show GC _ _ _ _ _ (.cond _ _ _) _; first | refine gc_yes (h1 := ?_) | refine gc_no (h1 := ?_))))
  refine go_split 8 rfl (fun h1 => ?_) (fun h1 => ?_)
  · (repeat (first | refine gst (hk := ?_) | (show GO _ _ _ _ _ (⟨some _, none, _⟩ :: _) _; first | refine go_op (hk := ?_) | (refine go_nw (hk := ?_); intro u; try simp only [llc, lln, lna, lza]) | (refine go_np (hk := ?_); intro id)) | (show GO _ _ _ _ _ (⟨none, none, _⟩ :: _) _; refine go_st (hk := ?_)) | (show GO _ _ _ _ _ (⟨_, some _, _⟩ :: _) _; first | refine go_in (hk := ?_) | refine go_out (hk := ?_) | refine go_void (hk := ?_)) | (show GK _ _ _ _ (blockK _ _ _); refine gk_past rfl ?_) | (show GC _ _ _ _ _ (.cond _ _ _) _; first | refine gc_yes (h1 := ?_) | refine gc_no (h1 := ?_))))
    exact gk_ret rfl fun H' hH => ⟨by rw [no fun h => by have := h.2.1; omega]; rfl, hH.leE⟩
  (repeat (first | refine gst (hk := ?_) | (show GO _ _ _ _ _ (⟨some _, none, _⟩ :: _) _; first | refine go_op (hk := ?_) | (refine go_nw (hk := ?_); intro u; try simp only [llc, lln, lna, lza]) | (refine go_np (hk := ?_); intro id)) | (show GO _ _ _ _ _ (⟨none, none, _⟩ :: _) _; refine go_st (hk := ?_)) | (show GO _ _ _ _ _ (⟨_, some _, _⟩ :: _) _; first | refine go_in (hk := ?_) | refine go_out (hk := ?_) | refine go_void (hk := ?_)) | (show GK _ _ _ _ (blockK _ _ _); refine gk_past rfl ?_) | (show GC _ _ _ _ _ (.cond _ _ _) _; first | refine gc_yes (h1 := ?_) | refine gc_no (h1 := ?_))))
  refine gc_cond rfl (fun h2 => ?_) (fun h2 => ?_)
  · (repeat (first | refine gst (hk := ?_) | (show GO _ _ _ _ _ (⟨some _, none, _⟩ :: _) _; first | refine go_op (hk := ?_) | (refine go_nw (hk := ?_); intro u; try simp only [llc, lln, lna, lza]) | (refine go_np (hk := ?_); intro id)) | (show GO _ _ _ _ _ (⟨none, none, _⟩ :: _) _; refine go_st (hk := ?_)) | (show GO _ _ _ _ _ (⟨_, some _, _⟩ :: _) _; first | refine go_in (hk := ?_) | refine go_out (hk := ?_) | refine go_void (hk := ?_)) | (show GK _ _ _ _ (blockK _ _ _); refine gk_past rfl ?_) | (show GC _ _ _ _ _ (.cond _ _ _) _; first | refine gc_yes (h1 := ?_) | refine gc_no (h1 := ?_))))
    exact gk_ret rfl fun H' hH => ⟨by rw [no fun h => by have := h.2.2; omega]; rfl, hH.leE⟩
  (repeat (first | refine gst (hk := ?_) | (show GO _ _ _ _ _ (⟨some _, none, _⟩ :: _) _; first | refine go_op (hk := ?_) | (refine go_nw (hk := ?_); intro u; try simp only [llc, lln, lna, lza]) | (refine go_np (hk := ?_); intro id)) | (show GO _ _ _ _ _ (⟨none, none, _⟩ :: _) _; refine go_st (hk := ?_)) | (show GO _ _ _ _ _ (⟨_, some _, _⟩ :: _) _; first | refine go_in (hk := ?_) | refine go_out (hk := ?_) | refine go_void (hk := ?_)) | (show GK _ _ _ _ (blockK _ _ _); refine gk_past rfl ?_) | (show GC _ _ _ _ _ (.cond _ _ _) _; first | refine gc_yes (h1 := ?_) | refine gc_no (h1 := ?_))))
  refine gc_loop (γ := Nat) (fun i => [(13, a), (14, .int .i64 (xs.length : Int)), (15, .int .i64 (i : Int))]) (fun _ => [.roI a xs.length xs]) (fun i => i ≤ xs.length ∧ ∀ j, j < i → -30 ≤ nth xs j ∧ nth xs j ≤ 30) (fun i => xs.length - i) 0 ⟨Nat.zero_le _, fun k hk => by omega⟩ (hb := ?_)
  rintro i ⟨hi, hp⟩ I ν m hk
  (repeat (first | refine gst (hk := ?_) | (show GO _ _ _ _ _ (⟨some _, none, _⟩ :: _) _; first | refine go_op (hk := ?_) | (refine go_nw (hk := ?_); intro u; try simp only [llc, lln, lna, lza]) | (refine go_np (hk := ?_); intro id)) | (show GO _ _ _ _ _ (⟨none, none, _⟩ :: _) _; refine go_st (hk := ?_)) | (show GO _ _ _ _ _ (⟨_, some _, _⟩ :: _) _; first | refine go_in (hk := ?_) | refine go_out (hk := ?_) | refine go_void (hk := ?_)) | (show GK _ _ _ _ (blockK _ _ _); refine gk_past rfl ?_) | (show GC _ _ _ _ _ (.cond _ _ _) _; first | refine gc_yes (h1 := ?_) | refine gc_no (h1 := ?_))))
  refine gc_cond rfl (fun h => ?_) (fun h => ?_)
  · (repeat (first | refine gst (hk := ?_) | (show GO _ _ _ _ _ (⟨some _, none, _⟩ :: _) _; first | refine go_op (hk := ?_) | (refine go_nw (hk := ?_); intro u; try simp only [llc, lln, lna, lza]) | (refine go_np (hk := ?_); intro id)) | (show GO _ _ _ _ _ (⟨none, none, _⟩ :: _) _; refine go_st (hk := ?_)) | (show GO _ _ _ _ _ (⟨_, some _, _⟩ :: _) _; first | refine go_in (hk := ?_) | refine go_out (hk := ?_) | refine go_void (hk := ?_)) | (show GK _ _ _ _ (blockK _ _ _); refine gk_past rfl ?_) | (show GC _ _ _ _ _ (.cond _ _ _) _; first | refine gc_yes (h1 := ?_) | refine gc_no (h1 := ?_))))
    refine go_split 21 rfl (fun h3 => ?_) (fun h3 => ?_)
    · (repeat (first | refine gst (hk := ?_) | (show GO _ _ _ _ _ (⟨some _, none, _⟩ :: _) _; first | refine go_op (hk := ?_) | (refine go_nw (hk := ?_); intro u; try simp only [llc, lln, lna, lza]) | (refine go_np (hk := ?_); intro id)) | (show GO _ _ _ _ _ (⟨none, none, _⟩ :: _) _; refine go_st (hk := ?_)) | (show GO _ _ _ _ _ (⟨_, some _, _⟩ :: _) _; first | refine go_in (hk := ?_) | refine go_out (hk := ?_) | refine go_void (hk := ?_)) | (show GK _ _ _ _ (blockK _ _ _); refine gk_past rfl ?_) | (show GC _ _ _ _ _ (.cond _ _ _) _; first | refine gc_yes (h1 := ?_) | refine gc_no (h1 := ?_))))
      exact gk_ret rfl fun H' hH => ⟨by rw [no fun hL => by have := hL.x i; omega]; rfl, hH.leE⟩
    (repeat (first | refine gst (hk := ?_) | (show GO _ _ _ _ _ (⟨some _, none, _⟩ :: _) _; first | refine go_op (hk := ?_) | (refine go_nw (hk := ?_); intro u; try simp only [llc, lln, lna, lza]) | (refine go_np (hk := ?_); intro id)) | (show GO _ _ _ _ _ (⟨none, none, _⟩ :: _) _; refine go_st (hk := ?_)) | (show GO _ _ _ _ _ (⟨_, some _, _⟩ :: _) _; first | refine go_in (hk := ?_) | refine go_out (hk := ?_) | refine go_void (hk := ?_)) | (show GK _ _ _ _ (blockK _ _ _); refine gk_past rfl ?_) | (show GC _ _ _ _ _ (.cond _ _ _) _; first | refine gc_yes (h1 := ?_) | refine gc_no (h1 := ?_))))
    refine gc_cond rfl (fun h4 => ?_) (fun h4 => ?_)
    · (repeat (first | refine gst (hk := ?_) | (show GO _ _ _ _ _ (⟨some _, none, _⟩ :: _) _; first | refine go_op (hk := ?_) | (refine go_nw (hk := ?_); intro u; try simp only [llc, lln, lna, lza]) | (refine go_np (hk := ?_); intro id)) | (show GO _ _ _ _ _ (⟨none, none, _⟩ :: _) _; refine go_st (hk := ?_)) | (show GO _ _ _ _ _ (⟨_, some _, _⟩ :: _) _; first | refine go_in (hk := ?_) | refine go_out (hk := ?_) | refine go_void (hk := ?_)) | (show GK _ _ _ _ (blockK _ _ _); refine gk_past rfl ?_) | (show GC _ _ _ _ _ (.cond _ _ _) _; first | refine gc_yes (h1 := ?_) | refine gc_no (h1 := ?_))))
      exact gk_ret rfl fun H' hH => ⟨by rw [no fun hL => by have := hL.x i; omega]; rfl, hH.leE⟩
    · (repeat (first | refine gst (hk := ?_) | (show GO _ _ _ _ _ (⟨some _, none, _⟩ :: _) _; first | refine go_op (hk := ?_) | (refine go_nw (hk := ?_); intro u; try simp only [llc, lln, lna, lza]) | (refine go_np (hk := ?_); intro id)) | (show GO _ _ _ _ _ (⟨none, none, _⟩ :: _) _; refine go_st (hk := ?_)) | (show GO _ _ _ _ _ (⟨_, some _, _⟩ :: _) _; first | refine go_in (hk := ?_) | refine go_out (hk := ?_) | refine go_void (hk := ?_)) | (show GK _ _ _ _ (blockK _ _ _); refine gk_past rfl ?_) | (show GC _ _ _ _ _ (.cond _ _ _) _; first | refine gc_yes (h1 := ?_) | refine gc_no (h1 := ?_))))
      refine gk_next (hk (i + 1) ⟨by omega, fun j hj => ?_⟩ (by omega))
      rcases Nat.lt_or_ge j i with h5 | h5
      · exact hp j h5
      · rw [show j = i by omega]; omega
  · obtain rfl : i = xs.length := by omega
    have h6 : Bd 30 xs := fun x hx => by
      obtain ⟨m, hm, rfl⟩ := nth_ex hx
      exact hp m hm
    (repeat (first | refine gst (hk := ?_) | (show GO _ _ _ _ _ (⟨some _, none, _⟩ :: _) _; first | refine go_op (hk := ?_) | (refine go_nw (hk := ?_); intro u; try simp only [llc, lln, lna, lza]) | (refine go_np (hk := ?_); intro id)) | (show GO _ _ _ _ _ (⟨none, none, _⟩ :: _) _; refine go_st (hk := ?_)) | (show GO _ _ _ _ _ (⟨_, some _, _⟩ :: _) _; first | refine go_in (hk := ?_) | refine go_out (hk := ?_) | refine go_void (hk := ?_)) | (show GK _ _ _ _ (blockK _ _ _); refine gk_past rfl ?_) | (show GC _ _ _ _ _ (.cond _ _ _) _; first | refine gc_yes (h1 := ?_) | refine gc_no (h1 := ?_))))
    exact gk_ret rfl fun H' hH => ⟨by
      have : Steps xs := ⟨h6, by omega, by omega⟩
      simp [tupleOf, this], hH.leE⟩

abbrev nthV (vs : List AV) (i : Nat) : AV := nthA .any vs i

theorem stp_ldV {A : Heap} {X : List Nat} {E : List (Nat × AV)} {S : Sig} {p : MX} {v : AV} {n i : Nat} {vs : List AV} (hp : evE E p = some (v.elem i)) (hh : Has S v 1 n vs) (hn : n = vs.length) (hi : i < vs.length) : Stp A X E S (.ld p 1 false) (Is (nthV vs i) S) :=
  stp_ldn (ds := [nthV vs i]) hp hh (by omega) (by
    rw [Nat.mul_one, show nthV vs i = vs[i] from nthA_of hi, List.drop_eq_getElem_cons hi]; rfl) rfl

structure BK where
  id : Nat
  k : Kd
  v : AV
  s : Nat
  e : Nat

def BKok (b : BK) : Prop := b.k = .rw ∨ (b.k = .ro ∧ ∃ id off, b.v = .slice id off (b.e - b.s) (some (b.e - b.s)) 2)

theorem BKok.kd {b : BK} (h : BKok b) : b.k = .rw ∨ b.k = .ro := h.imp (fun h => h) fun h => h.1

theorem tabS_snoc {α : Type} (n : Nat) (g : Nat → α) : tabS n g ++ [g n] = tabS (n + 1) g := by
  unfold tabS
  rw [List.range_succ, List.map_append]; rfl

structure Cst {α : Type} (op : α → α → α) (le : α → α → Prop) : Prop where
  assoc : ∀ a b c, op (op a b) c = op a (op b c)
  comm : ∀ a b, op a b = op b a
  mono : ∀ {a b} c, le a b → le (op a c) (op b c)
  refl : ∀ a, le a a
  trans : ∀ {a b c}, le a b → le b c → le a c
  anti : ∀ {a b}, le a b → le b a → a = b

inductive Cuts {α : Type} (op : α → α → α) (c : Nat → Nat → α) : Nat → Nat → Nat → α → Prop
  | one {i k : Nat} (h : i < k) : Cuts op c 1 i k (c i k)
  | snoc {p i m k : Nat} {v : α} (h : Cuts op c p i m v) (hk : m < k) : Cuts op c (p + 1) i k (op v (c m k))

theorem Cuts.lt {α : Type} {op : α → α → α} {c : Nat → Nat → α} {p i k : Nat} {v : α} (h : Cuts op c p i k v) : i < k ∧ 1 ≤ p ∧ i + p ≤ k := by
  induction h with
  | one h => omega
  | snoc h hk ih => omega

theorem Cuts.cons {α : Type} {op : α → α → α} {le : α → α → Prop} (hc : Cst op le) {c : Nat → Nat → α} {p i m k : Nat} {v : α} (hi : i < m) (h : Cuts op c p m k v) : Cuts op c (p + 1) i k (op (c i m) v) := by
  induction h with
  | one h => exact .snoc (.one hi) h
  | snoc h hk ih => rw [← hc.assoc]; exact .snoc (ih hi) hk

def LeastC {α : Type} (op : α → α → α) (le : α → α → Prop) (c : Nat → Nat → α) (P i k : Nat) (v : α) : Prop := (∃ q, q ≤ P ∧ Cuts op c q i k v) ∧ ∀ q w, q ≤ P → Cuts op c q i k w → le v w

theorem LeastC.uniq {α : Type} {op : α → α → α} {le : α → α → Prop} (hc : Cst op le) {c : Nat → Nat → α} {P i k : Nat} {v w : α} (h : LeastC op le c P i k v) (h' : LeastC op le c P i k w) : v = w := by
  obtain ⟨⟨q, h1, h2⟩, h3⟩ := h
  obtain ⟨⟨q', h1', h2'⟩, h3'⟩ := h'
  exact hc.anti (h3 _ _ h1' h2') (h3' _ _ h1 h2)

theorem LeastC.more {α : Type} {op : α → α → α} {le : α → α → Prop} {c : Nat → Nat → α} {P P' i k : Nat} {v w : α} (h : LeastC op le c P i k v) (h' : LeastC op le c P' i k w) (hp : P ≤ P') : le w v := by
  obtain ⟨⟨q, h1, h2⟩, _⟩ := h
  exact h'.2 _ _ (by omega) h2

theorem LeastC.pos {α : Type} {op : α → α → α} {le : α → α → Prop} {c : Nat → Nat → α} {P i k : Nat} {v : α} (h : LeastC op le c P i k v) : 1 ≤ P ∧ i < k := by
  obtain ⟨⟨q, h1, h2⟩, _⟩ := h
  have := h2.lt
  omega

theorem leastC_one {α : Type} {op : α → α → α} {le : α → α → Prop} (hc : Cst op le) {c : Nat → Nat → α} {i k : Nat} (h : i < k) : LeastC op le c 1 i k (c i k) := by
  refine ⟨⟨1, Nat.le_refl _, .one h⟩, fun q w hq hw => ?_⟩
  cases hw with
  | one h => exact hc.refl _
  | snoc h hk => have := h.lt; omega

/-- one piece more, at the end -/
theorem leastC_snoc {α : Type} {op : α → α → α} {le : α → α → Prop} (hc : Cst op le) {c : Nat → Nat → α} {P i k : Nat} {v v0 : α} {f : Nat → α} (h0 : LeastC op le c P i k v0) (hf : ∀ m, i < m → m < k → LeastC op le c P i m (f m)) (hv : v = v0 ∨ ∃ m, i < m ∧ m < k ∧ v = op (f m) (c m k)) (h1 : le v v0) (h2 : ∀ m, i < m → m < k → le v (op (f m) (c m k))) : LeastC op le c (P + 1) i k v := by
  refine ⟨?_, fun q w hq hw => ?_⟩
  · rcases hv with rfl | ⟨m, m1, m2, rfl⟩
    · obtain ⟨⟨q, g1, g2⟩, _⟩ := h0
      exact ⟨q, by omega, g2⟩
    · obtain ⟨⟨q, g1, g2⟩, _⟩ := hf m m1 m2
      exact ⟨q + 1, by omega, .snoc g2 m2⟩
  · cases hw with
    | one h => exact hc.trans h1 (h0.2 1 _ h0.pos.1 (.one h))
    | @snoc p _ m _ w' h hk =>
      have hl := h.lt
      exact hc.trans (h2 m hl.1 hk) (hc.mono _ ((hf m hl.1 hk).2 p w' (by omega) h))

/-- the other way round -/
theorem Cuts.turn {α : Type} {op : α → α → α} {le : α → α → Prop} (hc : Cst op le) {c d : Nat → Nat → α} {n : Nat} (hd : ∀ i k, i < k → k ≤ n → d i k = c (n - k) (n - i)) {p i k : Nat} {v : α} (h : Cuts op d p i k v) (hk : k ≤ n) : Cuts op c p (n - k) (n - i) v := by
  induction h with
  | one h => rw [hd _ _ h hk]; exact .one (by omega)
  | @snoc p i m k v h hmk ih =>
    have := ih (by omega)
    rw [hd _ _ hmk hk, hc.comm]
    exact .cons hc (by omega) this

theorem LeastC.turn {α : Type} {op : α → α → α} {le : α → α → Prop} (hc : Cst op le) {c d : Nat → Nat → α} {n P : Nat} (hd : ∀ i k, i < k → k ≤ n → d i k = c (n - k) (n - i)) {v : α} (h : LeastC op le d P 0 n v) : LeastC op le c P 0 n v := by
  obtain ⟨⟨q, h1, h2⟩, h3⟩ := h
  refine ⟨⟨q, h1, by simpa using h2.turn hc hd (Nat.le_refl _)⟩, fun q w hq hw => h3 q w hq ?_⟩
  have hd' : ∀ i k, i < k → k ≤ n → c i k = d (n - k) (n - i) := fun i k hik hk => by
    rw [hd (n - k) (n - i) (by omega) (by omega)]
    congr 1 <;> omega
  simpa using hw.turn hc hd' (Nat.le_refl _)

theorem LeastC.congr {α : Type} {op : α → α → α} {le : α → α → Prop} {c d : Nat → Nat → α} {n P : Nat} (hd : ∀ i k, i < k → k ≤ n → d i k = c i k) {v : α} (h : LeastC op le d P 0 n v) : LeastC op le c P 0 n v := by
  have key : ∀ {c d : Nat → Nat → α}, (∀ i k, i < k → k ≤ n → d i k = c i k) → ∀ {p i k : Nat} {v : α}, Cuts op d p i k v → k ≤ n → Cuts op c p i k v := by
    intro c d hd p i k v h
    induction h with
    | one h => intro hk; rw [hd _ _ h hk]; exact .one h
    | snoc h hmk ih => intro hk; rw [hd _ _ hmk hk]; exact .snoc (ih (by omega)) hmk
  obtain ⟨⟨q, h1, h2⟩, h3⟩ := h
  exact ⟨⟨q, h1, key hd h2 (Nat.le_refl _)⟩, fun q w hq hw => h3 q w hq (key (fun i k h1 h2 => (hd i k h1 h2).symm) hw (Nat.le_refl _))⟩

/-- as many pieces as numbers -/
theorem LeastC.singles {α : Type} {op : α → α → α} {le : α → α → Prop} (hc : Cst op le) {c : Nat → Nat → α} {z : α} {n P : Nat} (hz : op z z = z) (h1 : ∀ i, i < n → c i (i + 1) = z) (h0 : ∀ q w, Cuts op c q 0 n w → le z w) {v : α} (h : LeastC op le c P 0 n v) (hP : n ≤ P) : v = z := by
  have key : ∀ k, 1 ≤ k → k ≤ n → Cuts op c k 0 k z := by
    intro k
    induction k with
    | zero => intro h; omega
    | succ k ih =>
      intro _ hk
      rcases Nat.eq_zero_or_pos k with rfl | g
      · have := Cuts.one (op := op) (c := c) (i := 0) (k := 1) (by omega)
        rwa [h1 0 (by omega)] at this
      · have := Cuts.snoc (ih g (by omega)) (k := k + 1) (by omega)
        rwa [h1 k (by omega), hz] at this
  obtain ⟨⟨q, g1, g2⟩, g3⟩ := h
  exact hc.anti (g3 n z hP (key n (by have := g2.lt; omega) (Nat.le_refl _))) (h0 q v g2)

theorem cstR : Cst (α := Rat) (· + ·) (· ≤ ·) where
  assoc a b c := Rat.add_assoc a b c
  comm a b := Rat.add_comm a b
  mono c h := by
    grind
  refl a := Rat.le_refl
  trans h1 h2 := Rat.le_trans h1 h2
  anti h1 h2 := Rat.le_antisymm h1 h2

theorem cstI : Cst (α := Int) (· + ·) (· ≤ ·) where
  assoc a b c := Int.add_assoc a b c
  comm a b := Int.add_comm a b
  mono c h := Int.add_le_add_right h c
  refl a := Int.le_refl a
  trans h1 h2 := Int.le_trans h1 h2
  anti h1 h2 := Int.le_antisymm h1 h2

def winL (xs : List Int) (i k : Nat) : List Int := (xs.drop i).take (k - i)

theorem win_turn {xs : List Int} {i k : Nat} (h : i < k) (hk : k ≤ xs.length) : winL xs.reverse i k = (winL xs (xs.length - k) (xs.length - i)).reverse := by
  unfold winL
  apply List.ext_getElem
  · simp; omega
  · intro j h1 h2
    simp only [List.length_take, List.length_drop, List.length_reverse] at h1
    rw [List.getElem_take, List.getElem_drop, List.getElem_reverse, List.getElem_reverse, List.getElem_take, List.getElem_drop]
    congr 1
    simp only [List.length_take, List.length_drop]
    omega

theorem sortL_eq {xs ys : List Int} (h : xs.Perm ys) : sortL xs = sortL ys :=
  List.Perm.eq_of_pairwise (le := (· ≤ ·)) (fun a b _ _ h1 h2 => Int.le_antisymm h1 h2) (sortL_up _) (sortL_up _) (((sortL_perm xs).trans h).trans (sortL_perm ys).symm)

def apT (s : List Int) (m : Int) : Nat → Int
  | 0 => 0
  | j + 1 => apT s m j + max (nth s j - m) (m - nth s j)

def apL (w : List Int) : Int := apT (sortL w) (nth (sortL w) ((sortL w).length / 2)) (sortL w).length

def apI (xs : List Int) (i k : Nat) : Int := apL (winL xs i k)

theorem ap_turn {xs : List Int} {i k : Nat} (h : i < k) (hk : k ≤ xs.length) : apI xs.reverse i k = apI xs (xs.length - k) (xs.length - i) := by
  unfold apI
  rw [win_turn h hk]
  unfold apL
  rw [sortL_eq (List.reverse_perm _)]

theorem apT_nonneg (s : List Int) (m : Int) : ∀ j, 0 ≤ apT s m j
  | 0 => Int.le_refl _
  | j + 1 => by have := apT_nonneg s m j; rw [apT]; omega

theorem apT_le {s : List Int} {m : Int} (hs : ∀ j, -30 ≤ nth s j ∧ nth s j ≤ 30) (hm : -30 ≤ m ∧ m ≤ 30) : ∀ j, apT s m j ≤ 60 * (j : Int)
  | 0 => Int.le_refl _
  | j + 1 => by
    have := apT_le hs hm j
    have := hs j
    rw [apT]; omega

theorem win_len {xs : List Int} {i k : Nat} (h : i ≤ k) (hk : k ≤ xs.length) : (winL xs i k).length = k - i := by
  unfold winL; rw [List.length_take, List.length_drop]; omega

theorem ap_one {xs : List Int} {i : Nat} (h : i < xs.length) : apI xs i (i + 1) = 0 := by
  have hl := win_len (xs := xs) (i := i) (k := i + 1) (by omega) (by omega)
  have hs := sortL_length (winL xs i (i + 1))
  unfold apI apL
  rw [hs, hl, show (i + 1 - i) / 2 = 0 by omega, show i + 1 - i = 1 by omega]
  simp only [apT]; omega

theorem sort_bd {xs : List Int} (hb : ∀ x ∈ xs, -30 ≤ x ∧ x ≤ 30) (j : Nat) : -30 ≤ nth (sortL xs) j ∧ nth (sortL xs) j ≤ 30 := by
  by_cases h : j < (sortL xs).length
  · exact hb _ ((sortL_perm xs).mem_iff.1 (nth_mem h))
  · rw [show nth (sortL xs) j = 0 by unfold nth; rw [List.getD_eq_getElem?_getD, List.getElem?_eq_none (by omega)]; rfl]; omega

theorem ap_bd {xs : List Int} (hb : ∀ x ∈ xs, -30 ≤ x ∧ x ≤ 30) (i k : Nat) : 0 ≤ apI xs i k ∧ apI xs i k ≤ 60 * (((winL xs i k).length : Nat) : Int) := by
  have hw : ∀ x ∈ winL xs i k, -30 ≤ x ∧ x ≤ 30 := fun x hx => hb x (List.mem_of_mem_drop (List.mem_of_mem_take hx))
  refine ⟨apT_nonneg _ _ _, ?_⟩
  have h := apT_le (sort_bd hw) (sort_bd hw ((sortL (winL xs i k)).length / 2)) (sortL (winL xs i k)).length
  rw [sortL_length] at h
  unfold apI apL
  rw [sortL_length] at *
  exact h

structure SelOk {α : Type} (le : α → α → Prop) (sel : α → α → α) : Prop where
  or : ∀ a b, sel a b = a ∨ sel a b = b
  l : ∀ a b, le (sel a b) a
  r : ∀ a b, le (sel a b) b

theorem selI_ok : SelOk (α := Int) (· ≤ ·) min where
  or a b := by omega
  l a b := by omega
  r a b := by omega

def seqm {α : Type} (sel : α → α → α) (v0 : α) (g : Nat → α) : Nat → α
  | 0 => v0
  | m + 1 => sel (seqm sel v0 g m) (g (m + 1))

theorem seqm_is {α : Type} {op : α → α → α} {le : α → α → Prop} (hc : Cst op le) {sel : α → α → α} (hs : SelOk le sel) (v0 : α) (g : Nat → α) : ∀ m, (seqm sel v0 g m = v0 ∨ ∃ j, 1 ≤ j ∧ j ≤ m ∧ seqm sel v0 g m = g j) ∧ le (seqm sel v0 g m) v0 ∧ ∀ j, 1 ≤ j → j ≤ m → le (seqm sel v0 g m) (g j)
  | 0 => ⟨.inl rfl, hc.refl _, fun j h1 h2 => by omega⟩
  | m + 1 => by
    obtain ⟨h1, h2, h3⟩ := seqm_is hc hs v0 g m
    rw [seqm]
    refine ⟨?_, hc.trans (hs.l _ _) h2, fun j j1 j2 => ?_⟩
    · rcases hs.or (seqm sel v0 g m) (g (m + 1)) with e | e
      · rw [e]
        rcases h1 with h1 | ⟨j, j1, j2, j3⟩
        · exact .inl h1
        · exact .inr ⟨j, j1, by omega, j3⟩
      · exact .inr ⟨m + 1, by omega, Nat.le_refl _, e⟩
    · rcases Nat.lt_or_ge m j with g1 | g1
      · obtain rfl : j = m + 1 := by omega
        exact hs.r _ _
      · exact hc.trans (hs.l _ _) (h3 j j1 g1)

/-- by steps: p + 1 pieces of the first k numbers -/
def dpF {α : Type} (op : α → α → α) (sel : α → α → α) (c : Nat → Nat → α) : Nat → Nat → α
  | 0, k => c 0 k
  | p + 1, k => seqm sel (dpF op sel c p k) (fun i => op (dpF op sel c p i) (c i k)) (k - 1)

theorem dp_least {α : Type} {op : α → α → α} {le : α → α → Prop} (hc : Cst op le) {sel : α → α → α} (hs : SelOk le sel) (c : Nat → Nat → α) : ∀ p k, 1 ≤ k → LeastC op le c (p + 1) 0 k (dpF op sel c p k)
  | 0, k, hk => leastC_one hc hk
  | p + 1, k, hk => by
    obtain ⟨h1, h2, h3⟩ := seqm_is hc hs (dpF op sel c p k) (fun i => op (dpF op sel c p i) (c i k)) (k - 1)
    refine leastC_snoc hc (f := dpF op sel c p) (dp_least hc hs c p k hk) (fun m m1 m2 => dp_least hc hs c p m m1) ?_ h2 fun m m1 m2 => h3 m m1 (by omega)
    rcases h1 with h1 | ⟨j, j1, j2, j3⟩
    · exact .inl h1
    · exact .inr ⟨j, j1, by omega, j3⟩

theorem Steps.back {xs : List Int} (h : Steps xs) : Steps xs.reverse := ⟨fun x hx => h.1 x (List.mem_reverse.1 hx), by simpa using h.2.1, by simpa using h.2.2⟩

theorem Steps.neg {xs : List Int} (h : Steps xs) : Steps (negL xs) := ⟨fun x hx => by
  unfold negL at hx
  obtain ⟨y, hy, rfl⟩ := List.mem_map.1 hx
  have := h.1 y hy
  omega, by rw [negL_length]; exact h.2.1, by rw [negL_length]; exact h.2.2⟩

def PsOk (xs : List Int) (p : Int) : Prop := Steps xs ∧ (1 ≤ p ∧ p ≤ 8)

noncomputable instance (xs : List Int) (p : Int) : Decidable (PsOk xs p) := Classical.propDecidable _

def mpV (xs : List Int) (p : Nat) : Int := dpF (· + ·) min (apI xs) (p - 1) xs.length

theorem mp_least {xs : List Int} (h : Steps xs) {p : Nat} (hp : 1 ≤ p) : LeastC (· + ·) (· ≤ ·) (apI xs) p 0 xs.length (mpV xs p) := by
  have := dp_least cstI selI_ok (apI xs) (p - 1) xs.length h.2.1
  rwa [show p - 1 + 1 = p by omega] at this

theorem mp_more {xs : List Int} (h : Steps xs) {p q : Nat} (hp : 1 ≤ p) (hq : p ≤ q) : mpV xs q ≤ mpV xs p := (mp_least h hp).more (mp_least h (by omega)) hq

theorem mp_turn {xs : List Int} (h : Steps xs) {p : Nat} (hp : 1 ≤ p) : mpV xs.reverse p = mpV xs p := by
  have h1 := mp_least h.back hp
  rw [List.length_reverse] at h1
  exact (h1.turn cstI fun i k h2 h3 => ap_turn h2 h3).uniq cstI (mp_least h hp)

theorem ap_cuts {xs : List Int} (h : Steps xs) {q i k : Nat} {v : Int} (hc : Cuts (· + ·) (apI xs) q i k v) : k ≤ xs.length → 0 ≤ v ∧ v ≤ 60 * ((k - i : Nat) : Int) := by
  induction hc with
  | @one i k hik =>
    intro hk
    have := ap_bd h.1 i k
    rw [win_len (by omega) hk] at this
    exact this
  | @snoc p i m k v hc hmk ih =>
    intro hk
    have h1 := ih (by omega)
    have h2 := ap_bd h.1 m k
    rw [win_len (by omega) hk] at h2
    have := hc.lt
    omega

theorem mp_bd {xs : List Int} (h : Steps xs) {p : Nat} (hp : 1 ≤ p) : 0 ≤ mpV xs p ∧ mpV xs p ≤ 480 := by
  obtain ⟨⟨q, h1, h2⟩, _⟩ := mp_least h hp
  have := ap_cuts h h2 (Nat.le_refl _)
  have := h.2.2
  omega

theorem mp_all {xs : List Int} (h : Steps xs) {p : Nat} (hp : xs.length ≤ p) : mpV xs p = 0 := by
  have h1 := h.2.1
  exact (mp_least h (by omega)).singles cstI (z := 0) (by omega) (fun i hi => ap_one hi) (fun q w hw => (ap_cuts h hw (Nat.le_refl _)).1) hp
/- rooms -/

theorem specValidSteps_ok {H : Heap} {a : AV} {xs : List Int} (ha : Ints H a xs) (hl : xs.length ≤ 1000000000) :
    ACalls Try.prog fn_spec_validSteps [a] H fun r H' => r = .bool (decide (Steps xs)) ∧ H' = H := by
  refine ACalls.val ?_ rfl
  refine code_spec_validSteps.go [.roI a xs.length xs] ⟨⟨rfl, ha⟩, trivial⟩ (by simp) ?_
  unfold mc_spec_validSteps
  have no : (Steps xs → False) → decide (Steps xs) = false := fun h => decide_eq_false h
  (repeat (first | refine gst (hk := ?_) | (show GO _ _ _ _ _ (⟨some _, none, .call _ _⟩ :: _) _; first | (show GO _ _ _ _ _ (⟨some _, none, .call fn_spec_inRange _⟩ :: _) _; refine go_inRange (hk := ?_); try intro u)) | (show GO _ _ _ _ _ (⟨some _, none, _⟩ :: _) _; first | refine go_op (hk := ?_) | (refine go_nw (hk := ?_); intro u; try simp only [llc, lln, lna, lza]) | (refine go_np (hk := ?_); intro id)) | (show GO _ _ _ _ _ (⟨none, none, _⟩ :: _) _; refine go_st (hk := ?_)) | (show GO _ _ _ _ _ (⟨_, some _, _⟩ :: _) _; first | refine go_in (hk := ?_) | refine go_out (hk := ?_) | refine go_void (hk := ?_)) | (show GK _ _ _ _ (blockK _ _ _); refine gk_past rfl ?_) | (show GC _ _ _ _ _ (.cond _ _ _) _; first | refine gc_yes (h1 := ?_) | refine gc_no (h1 := ?_))))
  refine gc_loop (γ := Nat) (fun i => [(0, a), (3, .int .i64 (i : Int))]) (fun _ => [.roI a xs.length xs]) (fun i => i ≤ xs.length ∧ ∀ j, j < i → -30 ≤ nth xs j ∧ nth xs j ≤ 30) (fun i => xs.length - i) 0 ⟨Nat.zero_le _, fun k hk => by omega⟩ (hb := ?_)
  rintro i ⟨hi, hp⟩ I ν m hk
  (repeat (first | refine gst (hk := ?_) | (show GO _ _ _ _ _ (⟨some _, none, .call _ _⟩ :: _) _; first | (show GO _ _ _ _ _ (⟨some _, none, .call fn_spec_inRange _⟩ :: _) _; refine go_inRange (hk := ?_); try intro u)) | (show GO _ _ _ _ _ (⟨some _, none, _⟩ :: _) _; first | refine go_op (hk := ?_) | (refine go_nw (hk := ?_); intro u; try simp only [llc, lln, lna, lza]) | (refine go_np (hk := ?_); intro id)) | (show GO _ _ _ _ _ (⟨none, none, _⟩ :: _) _; refine go_st (hk := ?_)) | (show GO _ _ _ _ _ (⟨_, some _, _⟩ :: _) _; first | refine go_in (hk := ?_) | refine go_out (hk := ?_) | refine go_void (hk := ?_)) | (show GK _ _ _ _ (blockK _ _ _); refine gk_past rfl ?_) | (show GC _ _ _ _ _ (.cond _ _ _) _; first | refine gc_yes (h1 := ?_) | refine gc_no (h1 := ?_))))
  refine gc_cond rfl (fun h => ?_) (fun h => ?_)
  · (repeat (first | refine gst (hk := ?_) | (show GO _ _ _ _ _ (⟨some _, none, .call _ _⟩ :: _) _; first | (show GO _ _ _ _ _ (⟨some _, none, .call fn_spec_inRange _⟩ :: _) _; refine go_inRange (hk := ?_); try intro u)) | (show GO _ _ _ _ _ (⟨some _, none, _⟩ :: _) _; first | refine go_op (hk := ?_) | (refine go_nw (hk := ?_); intro u; try simp only [llc, lln, lna, lza]) | (refine go_np (hk := ?_); intro id)) | (show GO _ _ _ _ _ (⟨none, none, _⟩ :: _) _; refine go_st (hk := ?_)) | (show GO _ _ _ _ _ (⟨_, some _, _⟩ :: _) _; first | refine go_in (hk := ?_) | refine go_out (hk := ?_) | refine go_void (hk := ?_)) | (show GK _ _ _ _ (blockK _ _ _); refine gk_past rfl ?_) | (show GC _ _ _ _ _ (.cond _ _ _) _; first | refine gc_yes (h1 := ?_) | refine gc_no (h1 := ?_))))
    refine gc_cond rfl (fun h2 => ?_) (fun h2 => ?_)
    · (repeat (first | refine gst (hk := ?_) | (show GO _ _ _ _ _ (⟨some _, none, .call _ _⟩ :: _) _; first | (show GO _ _ _ _ _ (⟨some _, none, .call fn_spec_inRange _⟩ :: _) _; refine go_inRange (hk := ?_); try intro u)) | (show GO _ _ _ _ _ (⟨some _, none, _⟩ :: _) _; first | refine go_op (hk := ?_) | (refine go_nw (hk := ?_); intro u; try simp only [llc, lln, lna, lza]) | (refine go_np (hk := ?_); intro id)) | (show GO _ _ _ _ _ (⟨none, none, _⟩ :: _) _; refine go_st (hk := ?_)) | (show GO _ _ _ _ _ (⟨_, some _, _⟩ :: _) _; first | refine go_in (hk := ?_) | refine go_out (hk := ?_) | refine go_void (hk := ?_)) | (show GK _ _ _ _ (blockK _ _ _); refine gk_past rfl ?_) | (show GC _ _ _ _ _ (.cond _ _ _) _; first | refine gc_yes (h1 := ?_) | refine gc_no (h1 := ?_))))
      exact gk_ret rfl fun H' hH => ⟨by rw [no fun hL => h2 (hL.x i)]; rfl, hH.leE⟩
    · (repeat (first | refine gst (hk := ?_) | (show GO _ _ _ _ _ (⟨some _, none, .call _ _⟩ :: _) _; first | (show GO _ _ _ _ _ (⟨some _, none, .call fn_spec_inRange _⟩ :: _) _; refine go_inRange (hk := ?_); try intro u)) | (show GO _ _ _ _ _ (⟨some _, none, _⟩ :: _) _; first | refine go_op (hk := ?_) | (refine go_nw (hk := ?_); intro u; try simp only [llc, lln, lna, lza]) | (refine go_np (hk := ?_); intro id)) | (show GO _ _ _ _ _ (⟨none, none, _⟩ :: _) _; refine go_st (hk := ?_)) | (show GO _ _ _ _ _ (⟨_, some _, _⟩ :: _) _; first | refine go_in (hk := ?_) | refine go_out (hk := ?_) | refine go_void (hk := ?_)) | (show GK _ _ _ _ (blockK _ _ _); refine gk_past rfl ?_) | (show GC _ _ _ _ _ (.cond _ _ _) _; first | refine gc_yes (h1 := ?_) | refine gc_no (h1 := ?_))))
      refine gk_next (hk (i + 1) ⟨by omega, fun j hj => ?_⟩ (by omega))
      rcases Nat.lt_or_ge j i with h4 | h4
      · exact hp j h4
      · rw [show j = i by omega]; exact Decidable.not_not.1 h2
  · obtain rfl : i = xs.length := by omega
    have h6 : Bd 30 xs := fun x hx => by
      obtain ⟨m, hm, rfl⟩ := nth_ex hx
      exact hp m hm
    (repeat (first | refine gst (hk := ?_) | (show GO _ _ _ _ _ (⟨some _, none, .call _ _⟩ :: _) _; first | (show GO _ _ _ _ _ (⟨some _, none, .call fn_spec_inRange _⟩ :: _) _; refine go_inRange (hk := ?_); try intro u)) | (show GO _ _ _ _ _ (⟨some _, none, _⟩ :: _) _; first | refine go_op (hk := ?_) | (refine go_nw (hk := ?_); intro u; try simp only [llc, lln, lna, lza]) | (refine go_np (hk := ?_); intro id)) | (show GO _ _ _ _ _ (⟨none, none, _⟩ :: _) _; refine go_st (hk := ?_)) | (show GO _ _ _ _ _ (⟨_, some _, _⟩ :: _) _; first | refine go_in (hk := ?_) | refine go_out (hk := ?_) | refine go_void (hk := ?_)) | (show GK _ _ _ _ (blockK _ _ _); refine gk_past rfl ?_) | (show GC _ _ _ _ _ (.cond _ _ _) _; first | refine gc_yes (h1 := ?_) | refine gc_no (h1 := ?_))))
    exact gk_ret rfl fun H' hH => ⟨by
      simp only [tupleOf]; congr 1
      exact decide_eq_decide.2 ⟨fun h7 => ⟨h6, by omega, by omega⟩, fun h7 => ⟨by have := h7.2.1; omega, by have := h7.2.2; omega⟩⟩, hH.leE⟩

theorem fit9 {p q : Rat} (hp : FD p 840 2000000000) (hq : FD q 840 2000000000) : FitA p q := fitA_of hp hq (by omega) (by omega) (by omega)

theorem win_len2 {xs : List Int} {i k : Nat} (h : k ≤ xs.length) : (winL xs i k).length = k - i := by
  unfold winL; rw [List.length_take, List.length_drop]; omega

theorem specApart_ok {H : Heap} {a : AV} {xs : List Int} {i k : Nat} (ha : Ints H a xs) (hS : Steps xs) (h1 : i < k) (h2 : k ≤ xs.length) :
    ACalls Try.prog fn_spec_apartOf [a, .int .i64 (i : Int), .int .i64 (k : Int)] H fun r H' => r = .int .i64 (apI xs i k) ∧ H' = H := by
  refine ACalls.val ?_ rfl
  have hn := hS.2.2
  refine code_spec_apartOf.go [.roI a xs.length xs] ⟨⟨rfl, ha⟩, trivial⟩ (by simp) ?_
  unfold mc_spec_apartOf
  have hwl := win_len2 (xs := xs) (i := i) h2
  have hsl : (sortL (winL xs i k)).length = k - i := by rw [sortL_length, hwl]
  have hb := sort_bd (xs := winL xs i k) fun x hx => hS.1 x (by unfold winL at hx; exact List.mem_of_mem_drop (List.mem_of_mem_take hx))
  (repeat (first | refine gst (hk := ?_) | (with_reducible refine gc_drq ?_; intro _) | (show GO _ _ _ _ _ (⟨some _, none, .call _ _⟩ :: _) _; first | (refine go_calln rfl code_spec_sorted.callable (fun H hH => specSorted_ok (hH.ints (by exact Has.auto)) (by omega)) ?_; intro u)) | (show GO _ _ _ _ _ (⟨some _, none, _⟩ :: _) _; first | refine go_op (hk := ?_) | (refine go_nw (hk := ?_); intro u; try simp only [llc, lln, lna, lza]) | (refine go_np (hk := ?_); intro id)) | (show GQ _ _ _ _ _ _ _ (⟨some _, none, _⟩ :: _) _; first | refine gq_op (hk := ?_) | (refine gq_nw (hk := ?_); intro u; try simp only [llc, lln, lna, lza])) | (show GO _ _ _ _ _ (⟨none, none, _⟩ :: _) _; refine go_st (hk := ?_)) | (show GO _ _ _ _ _ (⟨_, some _, _⟩ :: _) _; first | refine go_in (hk := ?_) | refine go_out (hk := ?_) | refine go_void (hk := ?_)) | (show GQ _ _ _ _ _ _ _ (⟨_, some _, _⟩ :: _) _; first | refine gq_in (hk := ?_) | refine gq_out (hk := ?_) | refine gq_void (hk := ?_)) | (show GK _ _ _ _ (blockK _ _ _); refine gk_past rfl ?_) | (show GC _ _ _ _ _ (.cond _ _ _) _; first | refine gc_yes (h1 := ?_) | refine gc_no (h1 := ?_))))
  refine go_new rfl (stp_slI (l := i) (h := k) rfl (by exact Sel.auto) (.inr ⟨_, rfl, rfl⟩) (.inr ⟨_, rfl, rfl⟩) (by omega)) ?_
  intro w
  rw [show (xs.drop i).take (k - i) = winL xs i k from rfl, ← hwl]
  refine go_calln rfl code_spec_sorted.callable (fun H hH => specSorted_ok (hH.ints (by exact Has.auto)) (by omega)) ?_
  intro s
  (repeat (first | refine gst (hk := ?_) | (with_reducible refine gc_drq ?_; intro _) | (show GO _ _ _ _ _ (⟨some _, none, .call _ _⟩ :: _) _; first | (refine go_calln rfl code_spec_sorted.callable (fun H hH => specSorted_ok (hH.ints (by exact Has.auto)) (by omega)) ?_; intro u)) | (show GO _ _ _ _ _ (⟨some _, none, _⟩ :: _) _; first | refine go_op (hk := ?_) | (refine go_nw (hk := ?_); intro u; try simp only [llc, lln, lna, lza]) | (refine go_np (hk := ?_); intro id)) | (show GQ _ _ _ _ _ _ _ (⟨some _, none, _⟩ :: _) _; first | refine gq_op (hk := ?_) | (refine gq_nw (hk := ?_); intro u; try simp only [llc, lln, lna, lza])) | (show GO _ _ _ _ _ (⟨none, none, _⟩ :: _) _; refine go_st (hk := ?_)) | (show GO _ _ _ _ _ (⟨_, some _, _⟩ :: _) _; first | refine go_in (hk := ?_) | refine go_out (hk := ?_) | refine go_void (hk := ?_)) | (show GQ _ _ _ _ _ _ _ (⟨_, some _, _⟩ :: _) _; first | refine gq_in (hk := ?_) | refine gq_out (hk := ?_) | refine gq_void (hk := ?_)) | (show GK _ _ _ _ (blockK _ _ _); refine gk_past rfl ?_) | (show GC _ _ _ _ _ (.cond _ _ _) _; first | refine gc_yes (h1 := ?_) | refine gc_no (h1 := ?_))))
  rw [show ((((sortL (winL xs i k)).length : Nat) : Int) / 2).toNat = (sortL (winL xs i k)).length / 2 by omega, show apI xs i k = apT (sortL (winL xs i k)) (nth (sortL (winL xs i k)) ((sortL (winL xs i k)).length / 2)) (sortL (winL xs i k)).length from rfl]
  have hm := hb ((sortL (winL xs i k)).length / 2)
  generalize nth (sortL (winL xs i k)) ((sortL (winL xs i k)).length / 2) = m at *
  generalize sortL (winL xs i k) = q at *
  refine gc_up q.length (fun j => [(7, s), (8, .int .i64 m), (9, .int .i64 (apT q m j)), (10, .int .i64 (j : Int))]) (fun _ => [.rwI s q.length q]) (hb := ?_)
  intro j hj I ν mm hk
  have g1 := apT_le hb hm j
  have g0 : 0 ≤ apT q m j := by
    clear g1 hk hj
    induction j with
    | zero => exact Int.le_refl 0
    | succ j ih => show 0 ≤ apT q m j + max (nth q j - m) (m - nth q j); omega
  (repeat (first | refine gst (hk := ?_) | (with_reducible refine gc_drq ?_; intro _) | (show GO _ _ _ _ _ (⟨some _, none, .call _ _⟩ :: _) _; first | (refine go_calln rfl code_spec_sorted.callable (fun H hH => specSorted_ok (hH.ints (by exact Has.auto)) (by omega)) ?_; intro u)) | (show GO _ _ _ _ _ (⟨some _, none, _⟩ :: _) _; first | refine go_op (hk := ?_) | (refine go_nw (hk := ?_); intro u; try simp only [llc, lln, lna, lza]) | (refine go_np (hk := ?_); intro id)) | (show GQ _ _ _ _ _ _ _ (⟨some _, none, _⟩ :: _) _; first | refine gq_op (hk := ?_) | (refine gq_nw (hk := ?_); intro u; try simp only [llc, lln, lna, lza])) | (show GO _ _ _ _ _ (⟨none, none, _⟩ :: _) _; refine go_st (hk := ?_)) | (show GO _ _ _ _ _ (⟨_, some _, _⟩ :: _) _; first | refine go_in (hk := ?_) | refine go_out (hk := ?_) | refine go_void (hk := ?_)) | (show GQ _ _ _ _ _ _ _ (⟨_, some _, _⟩ :: _) _; first | refine gq_in (hk := ?_) | refine gq_out (hk := ?_) | refine gq_void (hk := ?_)) | (show GK _ _ _ _ (blockK _ _ _); refine gk_past rfl ?_) | (show GC _ _ _ _ _ (.cond _ _ _) _; first | refine gc_yes (h1 := ?_) | refine gc_no (h1 := ?_))))
  refine gc_cond rfl (fun h => ?_) (fun h => ?_)
  · have hk := hk (by omega)
    have hx := hb j
    rw [show apT q m (j + 1) = apT q m j + max (nth q j - m) (m - nth q j) from rfl] at hk
    (repeat (first | refine gst (hk := ?_) | (with_reducible refine gc_drq ?_; intro _) | (show GO _ _ _ _ _ (⟨some _, none, .call _ _⟩ :: _) _; first | (refine go_calln rfl code_spec_sorted.callable (fun H hH => specSorted_ok (hH.ints (by exact Has.auto)) (by omega)) ?_; intro u)) | (show GO _ _ _ _ _ (⟨some _, none, _⟩ :: _) _; first | refine go_op (hk := ?_) | (refine go_nw (hk := ?_); intro u; try simp only [llc, lln, lna, lza]) | (refine go_np (hk := ?_); intro id)) | (show GQ _ _ _ _ _ _ _ (⟨some _, none, _⟩ :: _) _; first | refine gq_op (hk := ?_) | (refine gq_nw (hk := ?_); intro u; try simp only [llc, lln, lna, lza])) | (show GO _ _ _ _ _ (⟨none, none, _⟩ :: _) _; refine go_st (hk := ?_)) | (show GO _ _ _ _ _ (⟨_, some _, _⟩ :: _) _; first | refine go_in (hk := ?_) | refine go_out (hk := ?_) | refine go_void (hk := ?_)) | (show GQ _ _ _ _ _ _ _ (⟨_, some _, _⟩ :: _) _; first | refine gq_in (hk := ?_) | refine gq_out (hk := ?_) | refine gq_void (hk := ?_)) | (show GK _ _ _ _ (blockK _ _ _); refine gk_past rfl ?_) | (show GC _ _ _ _ _ (.cond _ _ _) _; first | refine gc_yes (h1 := ?_) | refine gc_no (h1 := ?_))))
    exact gk_next hk
  · obtain rfl : j = q.length := by omega
    (repeat (first | refine gst (hk := ?_) | (with_reducible refine gc_drq ?_; intro _) | (show GO _ _ _ _ _ (⟨some _, none, .call _ _⟩ :: _) _; first | (refine go_calln rfl code_spec_sorted.callable (fun H hH => specSorted_ok (hH.ints (by exact Has.auto)) (by omega)) ?_; intro u)) | (show GO _ _ _ _ _ (⟨some _, none, _⟩ :: _) _; first | refine go_op (hk := ?_) | (refine go_nw (hk := ?_); intro u; try simp only [llc, lln, lna, lza]) | (refine go_np (hk := ?_); intro id)) | (show GQ _ _ _ _ _ _ _ (⟨some _, none, _⟩ :: _) _; first | refine gq_op (hk := ?_) | (refine gq_nw (hk := ?_); intro u; try simp only [llc, lln, lna, lza])) | (show GO _ _ _ _ _ (⟨none, none, _⟩ :: _) _; refine go_st (hk := ?_)) | (show GO _ _ _ _ _ (⟨_, some _, _⟩ :: _) _; first | refine go_in (hk := ?_) | refine go_out (hk := ?_) | refine go_void (hk := ?_)) | (show GQ _ _ _ _ _ _ _ (⟨_, some _, _⟩ :: _) _; first | refine gq_in (hk := ?_) | refine gq_out (hk := ?_) | refine gq_void (hk := ?_)) | (show GK _ _ _ _ (blockK _ _ _); refine gk_past rfl ?_) | (show GC _ _ _ _ _ (.cond _ _ _) _; first | refine gc_yes (h1 := ?_) | refine gc_no (h1 := ?_))))
    exact gk_ret rfl fun H' hH => ⟨rfl, hH.leE⟩

theorem tabS_nthI {n : Nat} {f : Nat → Int} {i : Nat} (h : i < n) : nth (tabS n f) i = f i := tabS_nth (d := 0) h

def mmK (xs : List Int) (m k : Nat) : Int := if k = 0 then 0 else dpF (· + ·) min (apI xs) m k

theorem Steps.mm_bd {xs : List Int} (h : Steps xs) {m k : Nat} (h1 : 1 ≤ k) (h2 : k ≤ xs.length) : 0 ≤ dpF (· + ·) min (apI xs) m k ∧ dpF (· + ·) min (apI xs) m k ≤ 480 := by
  obtain ⟨⟨q, g1, g2⟩, _⟩ := dp_least cstI selI_ok (apI xs) m k h1
  have := ap_cuts h g2 h2
  have hn := h.2.2
  omega

/-- the least up to d, the row before behind it, and the one at d + 1 in the making -/
def mmT (xs : List Int) (m d t k : Nat) : Int := if k = d + 1 then seqm min (dpF (· + ·) min (apI xs) m (d + 1)) (fun i => dpF (· + ·) min (apI xs) m i + apI xs i (d + 1)) t else if k ≤ d then mmK xs (m + 1) k else mmK xs m k

end Go.Rx.Try
