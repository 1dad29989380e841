import Derived.Test.YtophpmdlgphihaoFnPeakOfD2
namespace Go.Rx.Try
open Go.Proofs
set_option maxRecDepth 100000
set_option maxHeartbeats 8000000
set_option linter.unusedSimpArgs false
set_option linter.unusedVariables false

theorem poS_sup {S W : Nat → Rat} {n : Nat} (hW : AscW W n) {j : Nat} (hj : j < n) : Sup S W n j (fitB S W (poS S W n) n j) := by
  obtain ⟨h1, h2⟩ := poS_ok (S := S) hW (Nat.le_refl n)
  obtain ⟨a, r, e⟩ := poS_pos (S := S) hW (Nat.le_refl n) (by omega)
  rw [e] at h1 h2 ⊢
  exact (Bks.sup hW (Nat.le_refl _) h1 h2 j hj).1

noncomputable def fitN (S W : Nat → Rat) (n j : Nat) : Rat := fitB S W (poS S W n) n j

theorem Sup.fit {S W : Nat → Rat} {n j : Nat} {c : Rat} (hW : AscW W n) (h : Sup S W n j c) : fitN S W n j = c := by
  have hj : j < n := by obtain ⟨s, e, h1, h2, h3, _⟩ := h; omega
  exact (poS_sup hW hj).uniq hW h

theorem fitB_ge {S W : Nat → Rat} {a : Nat} {r : List Nat} {e j : Nat} (h : a ≤ j) : fitB S W (a :: r) e j = mnA S W a e := by
  rw [show fitB S W (a :: r) e j = if a ≤ j then mnA S W a e else fitB S W r a j from rfl, if_pos h]

theorem fitB_lt {S W : Nat → Rat} {a : Nat} {r : List Nat} {e j : Nat} (h : j < a) : fitB S W (a :: r) e j = fitB S W r a j := by
  rw [show fitB S W (a :: r) e j = if a ≤ j then mnA S W a e else fitB S W r a j from rfl, if_neg (by omega)]

noncomputable def fitS (S W : Nat → Rat) (r : List Nat) (e t : Nat) : Rat := sumR (fun i => fitB S W r e i * (W (i + 1) - W i)) t

theorem fitS_lt {S W : Nat → Rat} {a : Nat} {r : List Nat} {e t : Nat} (h : t ≤ a) : fitS S W (a :: r) e t = fitS S W r a t :=
  sumR_congr fun i hi => by rw [fitB_lt (by omega)]

theorem fitS_ge {S W : Nat → Rat} {a : Nat} {r : List Nat} {e : Nat} : ∀ {t}, a ≤ t → fitS S W (a :: r) e t = fitS S W r a a + mnA S W a e * (W t - W a) := by
  intro t ht
  obtain ⟨d, rfl⟩ := Nat.exists_eq_add_of_le ht
  clear ht
  induction d with
  | zero => rw [Nat.add_zero, fitS_lt (Nat.le_refl a)]; grind
  | succ d ih =>
    have ht : a ≤ a + d := by omega
    rw [← Nat.add_assoc]
    revert ih ht
    generalize a + d = t
    intro ih ht
    rw [show fitS S W (a :: r) e (t + 1) = fitS S W (a :: r) e t + fitB S W (a :: r) e t * (W (t + 1) - W t) from rfl, ih, fitB_ge ht]; grind

theorem Bks.sums {S W : Nat → Rat} {n : Nat} (hW : AscW W n) : ∀ {r : List Nat} {e : Nat}, e ≤ n → Bks S W r e → (∀ t, t ≤ e → fitS S W r e t ≤ S t - S 0) ∧ fitS S W r e e = S e - S 0
  | [], e, _, h => by
    obtain rfl : e = 0 := h
    have : fitS S W [] 0 0 = 0 := rfl
    refine ⟨fun t ht => ?_, by rw [this]; grind⟩
    obtain rfl : t = 0 := by omega
    rw [this]; grind
  | a :: r, e, he, h => by
    obtain ⟨h1, h2, h3⟩ := h
    obtain ⟨i1, i2⟩ := Bks.sums hW (by omega) h3
    refine ⟨fun t ht => ?_, ?_⟩
    · rcases Nat.le_total t a with h4 | h4
      · rw [fitS_lt h4]; exact i1 t h4
      · rw [fitS_ge h4, i2]
        have := h2 t h4 ht; grind
    · rw [fitS_ge (by omega), i2]
      have := mnA_mul (S := S) (hW.lt h1 he); grind

def Loads (xs ws : List Int) : Prop := (∀ w ∈ ws, 1 ≤ w ∧ w ≤ 5) ∧ Bd 30 xs ∧ xs.length = ws.length ∧ 1 ≤ xs.length ∧ xs.length ≤ 8

noncomputable instance (xs ws : List Int) : Decidable (Loads xs ws) := Classical.propDecidable _

def rS (xs ws : List Int) (t : Nat) : Rat := ((dotT xs ws t : Int) : Rat)

def rW (ws : List Int) (t : Nat) : Rat := ((sumI ws t : Int) : Rat)

theorem Loads.w {xs ws : List Int} (h : Loads xs ws) {i : Nat} (hi : i < xs.length) : 1 ≤ nth ws i ∧ nth ws i ≤ 5 := by
  have h1 : i < ws.length := by have := h.2.2.1; omega
  rw [nth_of h1]; exact h.1 _ (List.getElem_mem h1)

theorem Loads.x {xs ws : List Int} (h : Loads xs ws) (i : Nat) : -30 ≤ nth xs i ∧ nth xs i ≤ 30 := h.2.1.nth (by omega) i

theorem Loads.sums {xs ws : List Int} (h : Loads xs ws) {i : Nat} : ∀ {e}, i ≤ e → e ≤ xs.length →
    (((e - i : Nat) : Int) ≤ sumI ws e - sumI ws i ∧ sumI ws e - sumI ws i ≤ 5 * ((e - i : Nat) : Int)) ∧ (-(30 * (sumI ws e - sumI ws i)) ≤ dotT xs ws e - dotT xs ws i ∧ dotT xs ws e - dotT xs ws i ≤ 30 * (sumI ws e - sumI ws i))
  | 0, h1, _ => by obtain rfl : i = 0 := by omega
                   simp
  | e + 1, h1, h2 => by
    rcases Nat.lt_or_ge e i with h3 | h3
    · obtain rfl : i = e + 1 := by omega
      simp
    · have ih := h.sums (i := i) (e := e) h3 (by omega)
      have hw := h.w (i := e) (by omega)
      have hx := h.x e
      have m1 : nth xs e * nth ws e ≤ 30 * nth ws e := Int.mul_le_mul_of_nonneg_right hx.2 (by omega)
      have m2 : -30 * nth ws e ≤ nth xs e * nth ws e := Int.mul_le_mul_of_nonneg_right hx.1 (by omega)
      rw [show sumI ws (e + 1) = sumI ws e + nth ws e from rfl, show dotT xs ws (e + 1) = dotT xs ws e + nth xs e * nth ws e from rfl]
      generalize nth xs e * nth ws e = p at *
      omega

theorem Loads.pos {xs ws : List Int} (h : Loads xs ws) {i e : Nat} (h1 : i < e) (h2 : e ≤ xs.length) : 1 ≤ sumI ws e - sumI ws i ∧ sumI ws e - sumI ws i ≤ 40 := by
  have := (h.sums (i := i) (e := e) (by omega) h2).1
  have := h.2.2.2.2
  omega

theorem Loads.asc {xs ws : List Int} (h : Loads xs ws) : AscW (rW ws) xs.length := fun i hi => by
  have := h.pos (i := i) (e := i + 1) (by omega) hi
  exact Rat.intCast_lt_intCast.2 (by omega)

def mnR (xs ws : List Int) (i e : Nat) : Rat := ((dotT xs ws e - dotT xs ws i : Int) : Rat) / ((sumI ws e - sumI ws i : Int) : Rat)

theorem mnR_mnA (xs ws : List Int) (i e : Nat) : mnA (rS xs ws) (rW ws) i e = mnR xs ws i e := by
  unfold mnA mnR rS rW
  rw [Rat.intCast_sub, Rat.intCast_sub]

theorem Loads.fd {xs ws : List Int} (h : Loads xs ws) {i e : Nat} (h1 : i < e) (h2 : e ≤ xs.length) : FD (mnR xs ws i e) (sumI ws e - sumI ws i) (30 * (sumI ws e - sumI ws i)) :=
  FD.div (by have := (h.pos h1 h2).1; omega) (h.sums (by omega) h2).2

noncomputable def fiR (xs ws : List Int) (j : Nat) : Rat := fitN (rS xs ws) (rW ws) xs.length j

theorem fitB_is {S W : Nat → Rat} : ∀ {r : List Nat} {e j : Nat}, j < e → Bks S W r e → ∃ i u, i ≤ j ∧ j < u ∧ u ≤ e ∧ fitB S W r e j = mnA S W i u
  | [], e, j, h1, h2 => by have : e = 0 := h2; omega
  | a :: r, e, j, h1, h2 => by
    rcases Nat.lt_or_ge j a with h3 | h3
    · rw [fitB_lt h3]
      obtain ⟨i, u, g1, g2, g3, g4⟩ := fitB_is h3 h2.2.2
      exact ⟨i, u, g1, g2, by have := h2.1; omega, g4⟩
    · rw [fitB_ge h3]
      exact ⟨a, e, h3, h1, Nat.le_refl _, rfl⟩

theorem Loads.fit_is {xs ws : List Int} (h : Loads xs ws) {j : Nat} (hj : j < xs.length) : ∃ i u, i ≤ j ∧ j < u ∧ u ≤ xs.length ∧ fiR xs ws j = mnR xs ws i u := by
  obtain ⟨i, u, h1, h2, h3, h4⟩ := fitB_is hj (poS_ok (S := rS xs ws) h.asc (Nat.le_refl _)).1
  exact ⟨i, u, h1, h2, h3, by rw [← mnR_mnA]; exact h4⟩
/- whole multiples -/

def Dv (q : Rat) (D : Int) : Prop := 0 < D ∧ ∃ k : Int, q * (D : Rat) = (k : Rat)

theorem Dv.lift {q : Rat} {D m : Int} (h : Dv q D) (hm : 0 < m) : Dv q (D * m) := by
  obtain ⟨h1, k, h2⟩ := h
  exact ⟨Int.mul_pos h1 hm, k * m, by rw [Rat.intCast_mul, Rat.intCast_mul, ← Rat.mul_assoc, h2]⟩

theorem Dv.add {p q : Rat} {D : Int} (h : Dv p D) (h' : Dv q D) : Dv (p + q) D := by
  obtain ⟨h1, k, h2⟩ := h
  obtain ⟨_, l, h3⟩ := h'
  exact ⟨h1, k + l, by rw [Rat.intCast_add, ← h2, ← h3]; grind⟩

theorem Dv.mul {p q : Rat} {D E : Int} (h : Dv p D) (h' : Dv q E) : Dv (p * q) (D * E) := by
  obtain ⟨h1, k, h2⟩ := h
  obtain ⟨h4, l, h3⟩ := h'
  exact ⟨Int.mul_pos h1 h4, k * l, by rw [Rat.intCast_mul, Rat.intCast_mul, ← h2, ← h3]; grind⟩

theorem Dv.int (n : Int) : Dv (n : Rat) 1 := ⟨by omega, n, by simp⟩

theorem Dv.to {q : Rat} {D E : Int} (h : Dv q D) (e : D = E) : Dv q E := e ▸ h

theorem FD.dv {q : Rat} {D B : Int} (h : FD q D B) : Dv q D := ⟨h.1, let ⟨k, h2, _⟩ := h.2; ⟨k, h2⟩⟩

theorem Dv.fd {q : Rat} {D M : Int} (h : Dv q D) (h1 : -(M : Rat) ≤ q) (h2 : q ≤ (M : Rat)) : FD q D (M * D) := by
  obtain ⟨h3, k, h4⟩ := h
  have hd : ((0 : Int) : Rat) ≤ ((D : Int) : Rat) := Rat.intCast_le_intCast.2 (Int.le_of_lt h3)
  refine ⟨h3, k, h4, ?_, ?_⟩
  · have := mulR_le hd h1
    rw [h4] at this
    refine Rat.intCast_le_intCast.1 ?_
    rw [Rat.intCast_neg, Rat.intCast_mul]; grind
  · have := mulR_le hd h2
    rw [h4] at this
    refine Rat.intCast_le_intCast.1 ?_
    rw [Rat.intCast_mul]; exact this
/- what is missed: squares, with weights -/

def sqM (xs ws : List Int) (f : Nat → Rat) (i : Nat) : Rat := ((nth ws i : Int) : Rat) * ((((nth xs i : Int) : Rat) - f i) * (((nth xs i : Int) : Rat) - f i))

def miF (xs ws : List Int) (f : Nat → Rat) (t : Nat) : Rat := sumR (sqM xs ws f) t

noncomputable def miR (xs ws : List Int) (t : Nat) : Rat := miF xs ws (fiR xs ws) t

theorem cube3 : ∀ v : Nat, v < 41 → v ^ 3 ≤ 3 ^ v := by decide

theorem intc0 : ((0 : Int) : Rat) = 0 := rfl

/-- within a block -/
theorem mi_block {xs ws : List Int} (h : Loads xs ws) {a e : Nat} (h1 : a < e) (h2 : e ≤ xs.length) {f : Nat → Rat} (hf : ∀ i, a ≤ i → i < e → f i = mnR xs ws a e) {P : Int} (hP : Dv (miF xs ws f a) P) :
    (∀ t, a ≤ t → t ≤ e → Dv (miF xs ws f t) (P * ((sumI ws e - sumI ws a) * (sumI ws e - sumI ws a)))) ∧ Dv (miF xs ws f e) (P * (sumI ws e - sumI ws a)) := by
  have hV := (h.pos h1 h2).1
  have hc := (h.fd h1 h2).dv
  have hm : mnR xs ws a e * ((sumI ws e - sumI ws a : Int) : Rat) = ((dotT xs ws e - dotT xs ws a : Int) : Rat) := Rat.div_mul_cancel (rat_ne (by omega))
  generalize hVe : sumI ws e - sumI ws a = V at *
  generalize mnR xs ws a e = c at *
  constructor
  · intro t ht
    obtain ⟨d, rfl⟩ := Nat.exists_eq_add_of_le ht
    clear ht
    induction d with
    | zero => intro _; exact hP.lift (Int.mul_pos (by omega) (by omega))
    | succ d ih =>
      intro h3
      have i1 := ih (by omega)
      rw [show miF xs ws f (a + (d + 1)) = miF xs ws f (a + d) + sqM xs ws f (a + d) from rfl]
      refine i1.add ?_
      unfold sqM
      rw [hf (a + d) (by omega) (by omega)]
      have d1 : Dv (((nth xs (a + d) : Int) : Rat) - c) V := by
        obtain ⟨_, k, hk⟩ := hc
        exact ⟨by omega, nth xs (a + d) * V - k, by rw [Rat.intCast_sub, Rat.intCast_mul, ← hk]; grind⟩
      have d2 := (Dv.int (nth ws (a + d))).mul (d1.mul d1)
      have hP0 := hP.1
      exact (d2.lift hP0).to (by grind)
  · -- the sum of a block's squares
    have key : ∀ d, a + d ≤ e → miF xs ws f (a + d) = miF xs ws f a + ((sumR (fun i => ((nth ws i * (nth xs i * nth xs i) : Int) : Rat)) (a + d) - sumR (fun i => ((nth ws i * (nth xs i * nth xs i) : Int) : Rat)) a) - 2 * c * (((dotT xs ws (a + d) - dotT xs ws a : Int) : Rat)) + c * c * ((sumI ws (a + d) - sumI ws a : Int) : Rat)) := by
      intro d
      induction d with
      | zero =>
        intro _
        rw [Nat.add_zero, Int.sub_self, Int.sub_self, intc0]; grind
      | succ d ih =>
        intro h3
        rw [show miF xs ws f (a + (d + 1)) = miF xs ws f (a + d) + sqM xs ws f (a + d) from rfl, ih (by omega)]
        unfold sqM
        rw [hf (a + d) (by omega) (by omega)]
        rw [show sumR (fun i => ((nth ws i * (nth xs i * nth xs i) : Int) : Rat)) (a + (d + 1)) = sumR (fun i => ((nth ws i * (nth xs i * nth xs i) : Int) : Rat)) (a + d) + ((nth ws (a + d) * (nth xs (a + d) * nth xs (a + d)) : Int) : Rat) from rfl,
          show dotT xs ws (a + (d + 1)) = dotT xs ws (a + d) + nth xs (a + d) * nth ws (a + d) from rfl, show sumI ws (a + (d + 1)) = sumI ws (a + d) + nth ws (a + d) from rfl]
        simp only [Rat.intCast_sub, Rat.intCast_add, Rat.intCast_mul]
        grind
    have hint : ∀ t, ∃ k : Int, sumR (fun i => ((nth ws i * (nth xs i * nth xs i) : Int) : Rat)) t = (k : Rat) := by
      intro t
      induction t with
      | zero => exact ⟨0, rfl⟩
      | succ t ih =>
        obtain ⟨k, hk⟩ := ih
        exact ⟨k + nth ws t * (nth xs t * nth xs t), by rw [Rat.intCast_add, ← hk]; rfl⟩
    obtain ⟨d, rfl⟩ := Nat.exists_eq_add_of_le (Nat.le_of_lt h1)
    rw [key d (Nat.le_refl _)]
    obtain ⟨k1, e1⟩ := hint (a + d)
    obtain ⟨k2, e2⟩ := hint a
    rw [e1, e2, hVe, ← hm]
    refine (hP.lift (by omega)).add ?_
    have hP0 := hP.1
    refine ⟨Int.mul_pos hP0 (by omega), P * ((k1 - k2) * V - (dotT xs ws (a + d) - dotT xs ws a) * (dotT xs ws (a + d) - dotT xs ws a)), ?_⟩
    simp only [Rat.intCast_mul, Rat.intCast_sub] at hm ⊢
    grind

/-- of all blocks -/
theorem mi_blocks {xs ws : List Int} (h : Loads xs ws) : ∀ {r : List Nat} {e : Nat} {f : Nat → Rat}, e ≤ xs.length → Bks (rS xs ws) (rW ws) r e → (∀ j, j < e → f j = fitB (rS xs ws) (rW ws) r e j) →
    (∃ P : Nat, Dv (miF xs ws f e) (P : Int) ∧ P ^ 3 ≤ 3 ^ (sumI ws e).toNat) ∧ ∀ t, t ≤ e → ∃ Q : Int, Dv (miF xs ws f t) Q ∧ Q ≤ 92000000
  | [], e, f, he, hb, hf => by
    obtain rfl : e = 0 := hb
    have : Dv (miF xs ws f 0) 1 := Dv.int 0
    refine ⟨⟨1, this, Nat.le_refl 1⟩, fun t ht => ?_⟩
    obtain rfl : t = 0 := by omega
    exact ⟨1, this, by omega⟩
  | a :: r, e, f, he, hb, hf => by
    obtain ⟨h1, _, h3⟩ := hb
    obtain ⟨⟨P, p1, p2⟩, p3⟩ := mi_blocks h (f := f) (by omega) h3 fun j hj => by rw [hf j (by omega), fitB_lt hj]
    obtain ⟨b1, b2⟩ := mi_block h h1 he (f := f) (fun i g1 g2 => by rw [hf i g2, fitB_ge g1, mnR_mnA]) p1
    have hV := h.pos h1 he
    have hA : 0 ≤ sumI ws a ∧ sumI ws e ≤ 40 := by
      have := (h.sums (i := 0) (e := a) (by omega) (by omega)).1
      have := (h.sums (i := 0) (e := e) (by omega) (by omega)).1
      have := h.2.2.2.2
      have : sumI ws 0 = 0 := rfl
      omega
    generalize hVe : sumI ws e - sumI ws a = V at *
    obtain ⟨v, rfl⟩ : ∃ v : Nat, V = (v : Int) := ⟨V.toNat, by omega⟩
    have hPv : (P * v) ^ 3 ≤ 3 ^ (sumI ws e).toNat := by
      rw [Nat.mul_pow, show (sumI ws e).toNat = (sumI ws a).toNat + v by omega, Nat.pow_add]
      exact Nat.mul_le_mul p2 (cube3 v (by omega))
    have hlim : P * v ≤ 2299999 := by
      rcases Nat.lt_or_ge (P * v) 2300000 with g | g
      · omega
      · exfalso
        have g1 := Nat.pow_le_pow_left g 3
        have g2 : 3 ^ (sumI ws e).toNat ≤ 3 ^ 40 := Nat.pow_le_pow_right (by omega) (by omega)
        have g3 : (2300000 : Nat) ^ 3 > 3 ^ 40 := by decide
        omega
    refine ⟨⟨P * v, b2.to (by rw [Int.natCast_mul]), hPv⟩, fun t ht => ?_⟩
    rcases Nat.lt_or_ge t a with g | g
    · exact p3 t (by omega)
    · refine ⟨_, b1 t g ht, ?_⟩
      have e1 : (P : Int) * ((v : Int) * (v : Int)) = ((P * v * v : Nat) : Int) := by simp only [Int.natCast_mul]; grind
      rw [e1]
      have := Nat.mul_le_mul hlim (show v ≤ 40 by omega)
      omega

theorem Loads.fit_le {xs ws : List Int} (h : Loads xs ws) {j : Nat} (hj : j < xs.length) : (-30 : Rat) ≤ fiR xs ws j ∧ fiR xs ws j ≤ 30 := by
  obtain ⟨i, u, h1, h2, h3, h4⟩ := h.fit_is hj
  rw [h4, ← mnR_mnA]
  have w := h.asc.lt (i := i) (j := u) (by omega) h3
  have := (h.sums (i := i) (e := u) (by omega) h3).2
  have e1 : rS xs ws u - rS xs ws i = ((dotT xs ws u - dotT xs ws i : Int) : Rat) := by rw [Rat.intCast_sub]; rfl
  have e2 : rW ws u - rW ws i = ((sumI ws u - sumI ws i : Int) : Rat) := by rw [Rat.intCast_sub]; rfl
  have e3 : (-30 : Rat) * ((sumI ws u - sumI ws i : Int) : Rat) = ((-(30 * (sumI ws u - sumI ws i)) : Int) : Rat) := by
    rw [Rat.intCast_neg, Rat.intCast_mul, show ((30 : Int) : Rat) = 30 from rfl]; grind
  have e4 : (30 : Rat) * ((sumI ws u - sumI ws i : Int) : Rat) = ((30 * (sumI ws u - sumI ws i) : Int) : Rat) := by
    rw [Rat.intCast_mul, show ((30 : Int) : Rat) = 30 from rfl]
  exact ⟨(le_mnA w).2 (by rw [e1, e2, e3]; exact Rat.intCast_le_intCast.2 this.1), (mnA_le w).2 (by rw [e1, e2, e4]; exact Rat.intCast_le_intCast.2 this.2)⟩

theorem sqR_le {d : Rat} (h1 : -60 ≤ d) (h2 : d ≤ 60) : 0 ≤ d * d ∧ d * d ≤ 3600 := by
  constructor
  · rcases leTot 0 d with h | h
    · exact Rat.mul_nonneg h h
    · have := Rat.mul_nonneg (a := -d) (b := -d) (by grind) (by grind); grind
  · have := Rat.mul_nonneg (a := 60 - d) (b := 60 + d) (by grind) (by grind)
    grind

theorem Loads.sq_le {xs ws : List Int} (h : Loads xs ws) {f : Nat → Rat} {i : Nat} (hi : i < xs.length) (hf : -30 ≤ f i ∧ f i ≤ 30) : 0 ≤ sqM xs ws f i ∧ sqM xs ws f i ≤ 3600 * ((nth ws i : Int) : Rat) := by
  have hw := h.w hi
  have hx := h.x i
  have w1 : ((0 : Int) : Rat) ≤ ((nth ws i : Int) : Rat) := Rat.intCast_le_intCast.2 (by omega)
  have x1 : ((-30 : Int) : Rat) ≤ ((nth xs i : Int) : Rat) := Rat.intCast_le_intCast.2 hx.1
  have x2 : ((nth xs i : Int) : Rat) ≤ ((30 : Int) : Rat) := Rat.intCast_le_intCast.2 hx.2
  have c1 : ((-30 : Int) : Rat) = -30 := rfl
  have c2 : ((30 : Int) : Rat) = 30 := rfl
  obtain ⟨s1, s2⟩ := sqR_le (d := ((nth xs i : Int) : Rat) - f i) (by grind) (by grind)
  unfold sqM
  constructor
  · exact Rat.mul_nonneg w1 s1
  · have := mulR_le w1 s2
    grind

theorem Loads.mi_le {xs ws : List Int} (h : Loads xs ws) {f : Nat → Rat} : ∀ {t}, t ≤ xs.length → (∀ i, i < t → -30 ≤ f i ∧ f i ≤ 30) → 0 ≤ miF xs ws f t ∧ miF xs ws f t ≤ 3600 * ((sumI ws t : Int) : Rat)
  | 0, _, _ => by
    show (0 : Rat) ≤ 0 ∧ (0 : Rat) ≤ 3600 * ((0 : Int) : Rat)
    rw [intc0]; exact ⟨Rat.le_refl, by grind⟩
  | t + 1, ht, hf => by
    have i1 := h.mi_le (f := f) (t := t) (by omega) fun i hi => hf i (by omega)
    have i2 := h.sq_le (f := f) (i := t) (by omega) (hf t (by omega))
    rw [show miF xs ws f (t + 1) = miF xs ws f t + sqM xs ws f t from rfl, show sumI ws (t + 1) = sumI ws t + nth ws t from rfl, Rat.intCast_add]
    grind

/-- as the sums are run: small enough -/
theorem Loads.mi_fd {xs ws : List Int} (h : Loads xs ws) {t : Nat} (ht : t ≤ xs.length) : ∃ Q : Int, FD (miR xs ws t) Q (144000 * Q) ∧ Q ≤ 92000000 := by
  obtain ⟨_, h2⟩ := mi_blocks h (f := fiR xs ws) (Nat.le_refl _) (poS_ok (S := rS xs ws) h.asc (Nat.le_refl _)).1 fun j hj => rfl
  obtain ⟨Q, h3, h4⟩ := h2 t ht
  have hm := h.mi_le (f := fiR xs ws) ht fun i hi => h.fit_le (by omega)
  have hs : ((sumI ws t : Int) : Rat) ≤ ((40 : Int) : Rat) := by
    refine Rat.intCast_le_intCast.2 ?_
    have := (h.sums (i := 0) (e := t) (by omega) ht).1
    have := h.2.2.2.2
    have : sumI ws 0 = 0 := rfl
    omega
  have c1 : ((40 : Int) : Rat) = 40 := rfl
  have c2 : ((144000 : Int) : Rat) = 144000 := rfl
  exact ⟨Q, h3.fd (M := 144000) (by grind) (by grind), h4⟩

theorem Loads.mi_end {xs ws : List Int} (h : Loads xs ws) : ∃ P : Nat, FD (miR xs ws xs.length) (P : Int) (144000 * (P : Int)) ∧ P ^ 3 ≤ 3 ^ (sumL ws).toNat := by
  obtain ⟨⟨P, h3, h4⟩, _⟩ := mi_blocks h (f := fiR xs ws) (Nat.le_refl _) (poS_ok (S := rS xs ws) h.asc (Nat.le_refl _)).1 fun j hj => rfl
  have hm := h.mi_le (f := fiR xs ws) (Nat.le_refl _) fun i hi => h.fit_le (by omega)
  have hs : ((sumI ws xs.length : Int) : Rat) ≤ ((40 : Int) : Rat) := by
    refine Rat.intCast_le_intCast.2 ?_
    have := (h.sums (i := 0) (e := xs.length) (by omega) (Nat.le_refl _)).1
    have := h.2.2.2.2
    have : sumI ws 0 = 0 := rfl
    omega
  have c1 : ((40 : Int) : Rat) = 40 := rfl
  have c2 : ((144000 : Int) : Rat) = 144000 := rfl
  refine ⟨P, h3.fd (M := 144000) (by grind) (by grind), ?_⟩
  rw [h.2.2.1, sumI_all] at h4
  exact h4

def stI : List Nat → List Int
  | [] => []
  | a :: r => stI r ++ [(a : Int)]

theorem stI_len : ∀ r : List Nat, (stI r).length = r.length
  | [] => rfl
  | a :: r => by rw [stI, List.length_append, stI_len r]; rfl

def blL (xs ws : List Int) : List Int := stI (poS (rS xs ws) (rW ws) xs.length)

theorem blk_at {S W : Nat → Rat} : ∀ {r : List Nat} {e : Nat}, Bks S W r e → ∀ i, i < r.length → ∃ s u : Nat, nth (stI r) i = (s : Int) ∧ (if i + 1 < r.length then nth (stI r) (i + 1) else (e : Int)) = (u : Int) ∧ s < u ∧ u ≤ e ∧ (∀ j, s ≤ j → j < u → fitB S W r e j = mnA S W s u) ∧ (i = 0 → s = 0) ∧ (i + 1 = r.length → u = e) ∧ (∀ t, s ≤ t → t ≤ u → mnA S W s u * (W t - W s) ≤ S t - S s)
  | [], e, _, i, hi => absurd hi (Nat.not_lt_zero _)
  | a :: r, e, h, i, hi => by
    have hl := stI_len r
    rcases Nat.lt_or_ge i r.length with h1 | h1
    · obtain ⟨s, u, g1, g2, g3, g4, g5, g6, g7, g8⟩ := blk_at h.2.2 i h1
      have h0 := h.1
      refine ⟨s, u, by rw [stI, nth_app_lt (by omega), g1], ?_, g3, by omega, fun j j1 j2 => by rw [fitB_lt (by omega), g5 j j1 j2], g6, fun hh => ?_, g8⟩
      · rw [if_pos (by simp only [List.length_cons]; omega), ← g2]
        rcases Nat.lt_or_ge (i + 1) r.length with h2 | h2
        · rw [if_pos h2, stI, nth_app_lt (by omega)]
        · rw [if_neg (by omega), stI, show i + 1 = (stI r).length by omega, nth_app_eq]
      · simp only [List.length_cons] at hh; omega
    · have : i = r.length := by simp only [List.length_cons] at hi; omega
      subst this
      refine ⟨a, e, by rw [stI, ← hl, nth_app_eq], by rw [if_neg (by simp only [List.length_cons]; omega)], h.1, Nat.le_refl _, fun j j1 j2 => fitB_ge j1, fun hh => ?_, fun _ => rfl, h.2.1⟩
      have : r = [] := List.length_eq_zero_iff.1 hh
      subst this
      exact h.2.2

theorem Loads.blk {xs ws : List Int} (h : Loads xs ws) : Bks (rS xs ws) (rW ws) (poS (rS xs ws) (rW ws) xs.length) xs.length ∧ Inc (rS xs ws) (rW ws) (poS (rS xs ws) (rW ws) xs.length) xs.length := poS_ok h.asc (Nat.le_refl _)

theorem Loads.bl_len {xs ws : List Int} (h : Loads xs ws) : 1 ≤ (blL xs ws).length ∧ (blL xs ws).length ≤ xs.length := by
  have h1 := h.blk.1
  have h2 := h1.len
  obtain ⟨a, r, e⟩ := poS_pos (S := rS xs ws) h.asc (Nat.le_refl _) (by have := h.2.2.2.1; omega)
  rw [blL, stI_len]
  rw [e] at h2 ⊢
  exact ⟨by simp, h2⟩

theorem Loads.back {xs ws : List Int} (h : Loads xs ws) : Loads xs.reverse ws.reverse := by
  obtain ⟨h1, h2, h3, h4, h5⟩ := h
  exact ⟨fun w hw => h1 w (List.mem_reverse.1 hw), fun x hx => h2 x (List.mem_reverse.1 hx), by simp [h3], by simpa using h4, by simpa using h5⟩

theorem specValidLoads_ok {H : Heap} {a b : AV} {xs ws : List Int} (ha : Ints H a xs) (hb : Ints H b ws) (hl : xs.length ≤ 1000000000) (hl' : ws.length ≤ 1000000000) :
    ACalls Try.prog fn_spec_validLoads [a, b] H fun r H' => r = .bool (decide (Loads xs ws)) ∧ H' = H := by
  refine ACalls.val ?_ rfl
  refine code_spec_validLoads.go [.roI a xs.length xs, .roI b ws.length ws] ⟨⟨rfl, ha⟩, ⟨rfl, hb⟩, trivial⟩ (by simp) ?_
  unfold mc_spec_validLoads
  have no : (Loads xs ws → False) → decide (Loads xs ws) = false := fun h => decide_eq_false h
  (repeat (first | refine gst (hk := ?_) | (show GO _ _ _ _ _ (⟨some _, none, .call _ _⟩ :: _) _; first | (show GO _ _ _ _ _ (⟨some _, none, .call fn_spec_inRange _⟩ :: _) _; refine go_inRange (hk := ?_); try intro u)) | (show GO _ _ _ _ _ (⟨some _, none, _⟩ :: _) _; first | refine go_op (hk := ?_) | (refine go_nw (hk := ?_); intro u; try simp only [llc, lln, lna, lza]) | (refine go_np (hk := ?_); intro id)) | (show GO _ _ _ _ _ (⟨none, none, _⟩ :: _) _; refine go_st (hk := ?_)) | (show GO _ _ _ _ _ (⟨_, some _, _⟩ :: _) _; first | refine go_in (hk := ?_) | refine go_out (hk := ?_) | refine go_void (hk := ?_)) | (show GK _ _ _ _ (blockK _ _ _); refine gk_past rfl ?_) | (show GC _ _ _ _ _ (.cond _ _ _) _; first | refine gc_yes (h1 := ?_) | refine gc_no (h1 := ?_))))
  refine gc_loop (γ := Nat) (fun i => [(0, a), (1, b), (5, .int .i64 (i : Int))]) (fun _ => [.roI a xs.length xs, .roI b ws.length ws]) (fun i => i ≤ ws.length ∧ ∀ j, j < i → 1 ≤ nth ws j ∧ nth ws j ≤ 5) (fun i => ws.length - i) 0 ⟨Nat.zero_le _, fun k hk => by omega⟩ (hb := ?_)
  rintro i ⟨hi, hp⟩ I ν m hk
  (repeat (first | refine gst (hk := ?_) | (show GO _ _ _ _ _ (⟨some _, none, .call _ _⟩ :: _) _; first | (show GO _ _ _ _ _ (⟨some _, none, .call fn_spec_inRange _⟩ :: _) _; refine go_inRange (hk := ?_); try intro u)) | (show GO _ _ _ _ _ (⟨some _, none, _⟩ :: _) _; first | refine go_op (hk := ?_) | (refine go_nw (hk := ?_); intro u; try simp only [llc, lln, lna, lza]) | (refine go_np (hk := ?_); intro id)) | (show GO _ _ _ _ _ (⟨none, none, _⟩ :: _) _; refine go_st (hk := ?_)) | (show GO _ _ _ _ _ (⟨_, some _, _⟩ :: _) _; first | refine go_in (hk := ?_) | refine go_out (hk := ?_) | refine go_void (hk := ?_)) | (show GK _ _ _ _ (blockK _ _ _); refine gk_past rfl ?_) | (show GC _ _ _ _ _ (.cond _ _ _) _; first | refine gc_yes (h1 := ?_) | refine gc_no (h1 := ?_))))
  refine gc_cond rfl (fun h => ?_) (fun h => ?_)
  · (repeat (first | refine gst (hk := ?_) | (show GO _ _ _ _ _ (⟨some _, none, .call _ _⟩ :: _) _; first | (show GO _ _ _ _ _ (⟨some _, none, .call fn_spec_inRange _⟩ :: _) _; refine go_inRange (hk := ?_); try intro u)) | (show GO _ _ _ _ _ (⟨some _, none, _⟩ :: _) _; first | refine go_op (hk := ?_) | (refine go_nw (hk := ?_); intro u; try simp only [llc, lln, lna, lza]) | (refine go_np (hk := ?_); intro id)) | (show GO _ _ _ _ _ (⟨none, none, _⟩ :: _) _; refine go_st (hk := ?_)) | (show GO _ _ _ _ _ (⟨_, some _, _⟩ :: _) _; first | refine go_in (hk := ?_) | refine go_out (hk := ?_) | refine go_void (hk := ?_)) | (show GK _ _ _ _ (blockK _ _ _); refine gk_past rfl ?_) | (show GC _ _ _ _ _ (.cond _ _ _) _; first | refine gc_yes (h1 := ?_) | refine gc_no (h1 := ?_))))
    refine gc_cond rfl (fun h2 => ?_) (fun h2 => ?_)
    · (repeat (first | refine gst (hk := ?_) | (show GO _ _ _ _ _ (⟨some _, none, .call _ _⟩ :: _) _; first | (show GO _ _ _ _ _ (⟨some _, none, .call fn_spec_inRange _⟩ :: _) _; refine go_inRange (hk := ?_); try intro u)) | (show GO _ _ _ _ _ (⟨some _, none, _⟩ :: _) _; first | refine go_op (hk := ?_) | (refine go_nw (hk := ?_); intro u; try simp only [llc, lln, lna, lza]) | (refine go_np (hk := ?_); intro id)) | (show GO _ _ _ _ _ (⟨none, none, _⟩ :: _) _; refine go_st (hk := ?_)) | (show GO _ _ _ _ _ (⟨_, some _, _⟩ :: _) _; first | refine go_in (hk := ?_) | refine go_out (hk := ?_) | refine go_void (hk := ?_)) | (show GK _ _ _ _ (blockK _ _ _); refine gk_past rfl ?_) | (show GC _ _ _ _ _ (.cond _ _ _) _; first | refine gc_yes (h1 := ?_) | refine gc_no (h1 := ?_))))
      exact gk_ret rfl fun H' hH => ⟨by rw [no fun hL => h2 (hL.1 _ (nth_mem (by omega)))]; rfl, hH.leE⟩
    · (repeat (first | refine gst (hk := ?_) | (show GO _ _ _ _ _ (⟨some _, none, .call _ _⟩ :: _) _; first | (show GO _ _ _ _ _ (⟨some _, none, .call fn_spec_inRange _⟩ :: _) _; refine go_inRange (hk := ?_); try intro u)) | (show GO _ _ _ _ _ (⟨some _, none, _⟩ :: _) _; first | refine go_op (hk := ?_) | (refine go_nw (hk := ?_); intro u; try simp only [llc, lln, lna, lza]) | (refine go_np (hk := ?_); intro id)) | (show GO _ _ _ _ _ (⟨none, none, _⟩ :: _) _; refine go_st (hk := ?_)) | (show GO _ _ _ _ _ (⟨_, some _, _⟩ :: _) _; first | refine go_in (hk := ?_) | refine go_out (hk := ?_) | refine go_void (hk := ?_)) | (show GK _ _ _ _ (blockK _ _ _); refine gk_past rfl ?_) | (show GC _ _ _ _ _ (.cond _ _ _) _; first | refine gc_yes (h1 := ?_) | refine gc_no (h1 := ?_))))
      refine gk_next (hk (i + 1) ⟨by omega, fun j hj => ?_⟩ (by omega))
      rcases Nat.lt_or_ge j i with h4 | h4
      · exact hp j h4
      · rw [show j = i by omega]; exact Decidable.not_not.1 h2
  · have : i = ws.length := by omega
    subst this
    (repeat (first | refine gst (hk := ?_) | (show GO _ _ _ _ _ (⟨some _, none, .call _ _⟩ :: _) _; first | (show GO _ _ _ _ _ (⟨some _, none, .call fn_spec_inRange _⟩ :: _) _; refine go_inRange (hk := ?_); try intro u)) | (show GO _ _ _ _ _ (⟨some _, none, _⟩ :: _) _; first | refine go_op (hk := ?_) | (refine go_nw (hk := ?_); intro u; try simp only [llc, lln, lna, lza]) | (refine go_np (hk := ?_); intro id)) | (show GO _ _ _ _ _ (⟨none, none, _⟩ :: _) _; refine go_st (hk := ?_)) | (show GO _ _ _ _ _ (⟨_, some _, _⟩ :: _) _; first | refine go_in (hk := ?_) | refine go_out (hk := ?_) | refine go_void (hk := ?_)) | (show GK _ _ _ _ (blockK _ _ _); refine gk_past rfl ?_) | (show GC _ _ _ _ _ (.cond _ _ _) _; first | refine gc_yes (h1 := ?_) | refine gc_no (h1 := ?_))))
    refine gc_loop (γ := Nat) (fun i => [(0, a), (1, b), (6, .int .i64 (i : Int))]) (fun _ => [.roI a xs.length xs, .roI b ws.length ws]) (fun i => i ≤ xs.length ∧ ∀ j, j < i → -30 ≤ nth xs j ∧ nth xs j ≤ 30) (fun i => xs.length - i) 0 ⟨Nat.zero_le _, fun k hk => by omega⟩ (hb := ?_)
    rintro i ⟨hi2, hp2⟩ I2 ν2 m2 hk2
    (repeat (first | refine gst (hk := ?_) | (show GO _ _ _ _ _ (⟨some _, none, .call _ _⟩ :: _) _; first | (show GO _ _ _ _ _ (⟨some _, none, .call fn_spec_inRange _⟩ :: _) _; refine go_inRange (hk := ?_); try intro u)) | (show GO _ _ _ _ _ (⟨some _, none, _⟩ :: _) _; first | refine go_op (hk := ?_) | (refine go_nw (hk := ?_); intro u; try simp only [llc, lln, lna, lza]) | (refine go_np (hk := ?_); intro id)) | (show GO _ _ _ _ _ (⟨none, none, _⟩ :: _) _; refine go_st (hk := ?_)) | (show GO _ _ _ _ _ (⟨_, some _, _⟩ :: _) _; first | refine go_in (hk := ?_) | refine go_out (hk := ?_) | refine go_void (hk := ?_)) | (show GK _ _ _ _ (blockK _ _ _); refine gk_past rfl ?_) | (show GC _ _ _ _ _ (.cond _ _ _) _; first | refine gc_yes (h1 := ?_) | refine gc_no (h1 := ?_))))
    refine gc_cond rfl (fun h2 => ?_) (fun h2 => ?_)
    · (repeat (first | refine gst (hk := ?_) | (show GO _ _ _ _ _ (⟨some _, none, .call _ _⟩ :: _) _; first | (show GO _ _ _ _ _ (⟨some _, none, .call fn_spec_inRange _⟩ :: _) _; refine go_inRange (hk := ?_); try intro u)) | (show GO _ _ _ _ _ (⟨some _, none, _⟩ :: _) _; first | refine go_op (hk := ?_) | (refine go_nw (hk := ?_); intro u; try simp only [llc, lln, lna, lza]) | (refine go_np (hk := ?_); intro id)) | (show GO _ _ _ _ _ (⟨none, none, _⟩ :: _) _; refine go_st (hk := ?_)) | (show GO _ _ _ _ _ (⟨_, some _, _⟩ :: _) _; first | refine go_in (hk := ?_) | refine go_out (hk := ?_) | refine go_void (hk := ?_)) | (show GK _ _ _ _ (blockK _ _ _); refine gk_past rfl ?_) | (show GC _ _ _ _ _ (.cond _ _ _) _; first | refine gc_yes (h1 := ?_) | refine gc_no (h1 := ?_))))
      refine gc_cond rfl (fun h3 => ?_) (fun h3 => ?_)
      · (repeat (first | refine gst (hk := ?_) | (show GO _ _ _ _ _ (⟨some _, none, .call _ _⟩ :: _) _; first | (show GO _ _ _ _ _ (⟨some _, none, .call fn_spec_inRange _⟩ :: _) _; refine go_inRange (hk := ?_); try intro u)) | (show GO _ _ _ _ _ (⟨some _, none, _⟩ :: _) _; first | refine go_op (hk := ?_) | (refine go_nw (hk := ?_); intro u; try simp only [llc, lln, lna, lza]) | (refine go_np (hk := ?_); intro id)) | (show GO _ _ _ _ _ (⟨none, none, _⟩ :: _) _; refine go_st (hk := ?_)) | (show GO _ _ _ _ _ (⟨_, some _, _⟩ :: _) _; first | refine go_in (hk := ?_) | refine go_out (hk := ?_) | refine go_void (hk := ?_)) | (show GK _ _ _ _ (blockK _ _ _); refine gk_past rfl ?_) | (show GC _ _ _ _ _ (.cond _ _ _) _; first | refine gc_yes (h1 := ?_) | refine gc_no (h1 := ?_))))
        exact gk_ret rfl fun H' hH => ⟨by rw [no fun hL => h3 (hL.2.1 _ (nth_mem (by omega)))]; rfl, hH.leE⟩
      · (repeat (first | refine gst (hk := ?_) | (show GO _ _ _ _ _ (⟨some _, none, .call _ _⟩ :: _) _; first | (show GO _ _ _ _ _ (⟨some _, none, .call fn_spec_inRange _⟩ :: _) _; refine go_inRange (hk := ?_); try intro u)) | (show GO _ _ _ _ _ (⟨some _, none, _⟩ :: _) _; first | refine go_op (hk := ?_) | (refine go_nw (hk := ?_); intro u; try simp only [llc, lln, lna, lza]) | (refine go_np (hk := ?_); intro id)) | (show GO _ _ _ _ _ (⟨none, none, _⟩ :: _) _; refine go_st (hk := ?_)) | (show GO _ _ _ _ _ (⟨_, some _, _⟩ :: _) _; first | refine go_in (hk := ?_) | refine go_out (hk := ?_) | refine go_void (hk := ?_)) | (show GK _ _ _ _ (blockK _ _ _); refine gk_past rfl ?_) | (show GC _ _ _ _ _ (.cond _ _ _) _; first | refine gc_yes (h1 := ?_) | refine gc_no (h1 := ?_))))
        refine gk_next (hk2 (i + 1) ⟨by omega, fun j hj => ?_⟩ (by omega))
        rcases Nat.lt_or_ge j i with h4 | h4
        · exact hp2 j h4
        · rw [show j = i by omega]; exact Decidable.not_not.1 h3
    · have : i = xs.length := by omega
      subst this
      have h5 : ∀ w ∈ ws, 1 ≤ w ∧ w ≤ 5 := fun w hw => by
        obtain ⟨m, hm, rfl⟩ := nth_ex hw
        exact hp m hm
      have h6 : Bd 30 xs := fun x hx => by
        obtain ⟨m, hm, rfl⟩ := nth_ex hx
        exact hp2 m hm
      (repeat (first | refine gst (hk := ?_) | (show GO _ _ _ _ _ (⟨some _, none, .call _ _⟩ :: _) _; first | (show GO _ _ _ _ _ (⟨some _, none, .call fn_spec_inRange _⟩ :: _) _; refine go_inRange (hk := ?_); try intro u)) | (show GO _ _ _ _ _ (⟨some _, none, _⟩ :: _) _; first | refine go_op (hk := ?_) | (refine go_nw (hk := ?_); intro u; try simp only [llc, lln, lna, lza]) | (refine go_np (hk := ?_); intro id)) | (show GO _ _ _ _ _ (⟨none, none, _⟩ :: _) _; refine go_st (hk := ?_)) | (show GO _ _ _ _ _ (⟨_, some _, _⟩ :: _) _; first | refine go_in (hk := ?_) | refine go_out (hk := ?_) | refine go_void (hk := ?_)) | (show GK _ _ _ _ (blockK _ _ _); refine gk_past rfl ?_) | (show GC _ _ _ _ _ (.cond _ _ _) _; first | refine gc_yes (h1 := ?_) | refine gc_no (h1 := ?_))))
      refine go_split 36 rfl (fun h3 => ?_) (fun h3 => ?_)
      · (repeat (first | refine gst (hk := ?_) | (show GO _ _ _ _ _ (⟨some _, none, .call _ _⟩ :: _) _; first | (show GO _ _ _ _ _ (⟨some _, none, .call fn_spec_inRange _⟩ :: _) _; refine go_inRange (hk := ?_); try intro u)) | (show GO _ _ _ _ _ (⟨some _, none, _⟩ :: _) _; first | refine go_op (hk := ?_) | (refine go_nw (hk := ?_); intro u; try simp only [llc, lln, lna, lza]) | (refine go_np (hk := ?_); intro id)) | (show GO _ _ _ _ _ (⟨none, none, _⟩ :: _) _; refine go_st (hk := ?_)) | (show GO _ _ _ _ _ (⟨_, some _, _⟩ :: _) _; first | refine go_in (hk := ?_) | refine go_out (hk := ?_) | refine go_void (hk := ?_)) | (show GK _ _ _ _ (blockK _ _ _); refine gk_past rfl ?_) | (show GC _ _ _ _ _ (.cond _ _ _) _; first | refine gc_yes (h1 := ?_) | refine gc_no (h1 := ?_))))
        exact gk_ret rfl fun H' hH => ⟨by
          simp only [tupleOf]; congr 1
          exact decide_eq_decide.2 ⟨fun h7 => ⟨h5, h6, by omega, by omega, by omega⟩, fun h7 => ⟨by have := h7.2.2.2; omega, by have := h7.2.2.2; omega⟩⟩, hH.leE⟩
      · (repeat (first | refine gst (hk := ?_) | (show GO _ _ _ _ _ (⟨some _, none, .call _ _⟩ :: _) _; first | (show GO _ _ _ _ _ (⟨some _, none, .call fn_spec_inRange _⟩ :: _) _; refine go_inRange (hk := ?_); try intro u)) | (show GO _ _ _ _ _ (⟨some _, none, _⟩ :: _) _; first | refine go_op (hk := ?_) | (refine go_nw (hk := ?_); intro u; try simp only [llc, lln, lna, lza]) | (refine go_np (hk := ?_); intro id)) | (show GO _ _ _ _ _ (⟨none, none, _⟩ :: _) _; refine go_st (hk := ?_)) | (show GO _ _ _ _ _ (⟨_, some _, _⟩ :: _) _; first | refine go_in (hk := ?_) | refine go_out (hk := ?_) | refine go_void (hk := ?_)) | (show GK _ _ _ _ (blockK _ _ _); refine gk_past rfl ?_) | (show GC _ _ _ _ _ (.cond _ _ _) _; first | refine gc_yes (h1 := ?_) | refine gc_no (h1 := ?_))))
        exact gk_ret rfl fun H' hH => ⟨by
          simp only [tupleOf]; congr 1
          exact (no fun h7 => h3 (by have := h7.2.2.1; omega)).symm, hH.leE⟩

theorem Loads.fits {xs ws : List Int} (h : Loads xs ws) {i e i' e' : Nat} (h1 : i < e) (h2 : e ≤ xs.length) (h1' : i' < e') (h2' : e' ≤ xs.length) : FitA (mnR xs ws i e) (mnR xs ws i' e') := by
  have p := h.pos h1 h2
  have p' := h.pos h1' h2'
  have f := h.fd h1 h2
  have f' := h.fd h1' h2'
  generalize sumI ws e - sumI ws i = D at *
  generalize sumI ws e' - sumI ws i' = D' at *
  have m : D * D' ≤ 40 * 40 := Int.mul_le_mul p.2 p'.2 (by omega) (by omega)
  refine fitA_of f f' ?_ ?_ (by omega)
  · rw [Int.mul_assoc]; omega
  · rw [Int.mul_assoc, Int.mul_comm D' D]; omega

theorem specMean_ok {H : Heap} {a b : AV} {xs ws : List Int} {kI : Int} {i e : Nat} (ha : Ints H a xs) (hb : Ints H b ws) (hL : Loads xs ws) (h1 : i < e) (h2 : e ≤ xs.length) (hk : kI = (e : Int) - 1) :
    ACalls Try.prog fn_spec_mean [a, b, .int .i64 (i : Int), .int .i64 kI] H fun r H' => r = frV (mnR xs ws i e) ∧ H' = H := by
  refine ACalls.val ?_ rfl
  have hl := hL.2.2.1
  have hn := hL.2.2.2.2
  refine code_spec_mean.go [.roI a xs.length xs, .roI b ws.length ws] ⟨⟨rfl, ha⟩, ⟨rfl, hb⟩, trivial⟩ (by simp) ?_
  unfold mc_spec_mean
  (repeat (first | refine gst (hk := ?_) | (with_reducible refine gc_drq ?_; intro _) | (show GO _ _ _ _ _ (⟨some _, none, _⟩ :: _) _; first | refine go_op (hk := ?_) | (refine go_nw (hk := ?_); intro u; try simp only [llc, lln, lna, lza]) | (refine go_np (hk := ?_); intro id)) | (show GQ _ _ _ _ _ _ _ (⟨some _, none, _⟩ :: _) _; first | refine gq_op (hk := ?_) | (refine gq_nw (hk := ?_); intro u; try simp only [llc, lln, lna, lza])) | (show GO _ _ _ _ _ (⟨none, none, _⟩ :: _) _; refine go_st (hk := ?_)) | (show GO _ _ _ _ _ (⟨_, some _, _⟩ :: _) _; first | refine go_in (hk := ?_) | refine go_out (hk := ?_) | refine go_void (hk := ?_)) | (show GQ _ _ _ _ _ _ _ (⟨_, some _, _⟩ :: _) _; first | refine gq_in (hk := ?_) | refine gq_out (hk := ?_) | refine gq_void (hk := ?_)) | (show GK _ _ _ _ (blockK _ _ _); refine gk_past rfl ?_) | (show GC _ _ _ _ _ (.cond _ _ _) _; first | refine gc_yes (h1 := ?_) | refine gc_no (h1 := ?_))))
  revert id; intro i8
  refine gc_loop (γ := Nat) (fun d => [(0, a), (1, b), (3, .int .i64 kI), (8, .ptr i8 0), (9, .int .i64 (dotT xs ws (i + d) - dotT xs ws i)), (10, .int .i64 (sumI ws (i + d) - sumI ws i)), (11, .int .i64 ((i + d : Nat) : Int))]) (fun _ => [cel0 i8, .roI a xs.length xs, .roI b ws.length ws]) (fun d => i + d ≤ e) (fun d => e - (i + d)) 0 (by omega) (hE := by rw [Nat.add_zero, Int.sub_self, Int.sub_self]; (repeat (refine Cov.cons (by exact rfl) ?_)); exact Cov.nil) (hb := ?_)
  intro d hd I ν m hk2
  have hs := hL.sums (i := i) (e := i + d) (by omega) (by omega)
  (repeat (first | refine gst (hk := ?_) | (with_reducible refine gc_drq ?_; intro _) | (show GO _ _ _ _ _ (⟨some _, none, _⟩ :: _) _; first | refine go_op (hk := ?_) | (refine go_nw (hk := ?_); intro u; try simp only [llc, lln, lna, lza]) | (refine go_np (hk := ?_); intro id)) | (show GQ _ _ _ _ _ _ _ (⟨some _, none, _⟩ :: _) _; first | refine gq_op (hk := ?_) | (refine gq_nw (hk := ?_); intro u; try simp only [llc, lln, lna, lza])) | (show GO _ _ _ _ _ (⟨none, none, _⟩ :: _) _; refine go_st (hk := ?_)) | (show GO _ _ _ _ _ (⟨_, some _, _⟩ :: _) _; first | refine go_in (hk := ?_) | refine go_out (hk := ?_) | refine go_void (hk := ?_)) | (show GQ _ _ _ _ _ _ _ (⟨_, some _, _⟩ :: _) _; first | refine gq_in (hk := ?_) | refine gq_out (hk := ?_) | refine gq_void (hk := ?_)) | (show GK _ _ _ _ (blockK _ _ _); refine gk_past rfl ?_) | (show GC _ _ _ _ _ (.cond _ _ _) _; first | refine gc_yes (h1 := ?_) | refine gc_no (h1 := ?_))))
  refine gc_cond rfl (fun h => ?_) (fun h => ?_)
  · have hw := hL.w (i := i + d) (by omega)
    have hx := hL.x (i + d)
    have m1 : nth xs (i + d) * nth ws (i + d) ≤ 30 * nth ws (i + d) := Int.mul_le_mul_of_nonneg_right hx.2 (by omega)
    have m2 : -30 * nth ws (i + d) ≤ nth xs (i + d) * nth ws (i + d) := Int.mul_le_mul_of_nonneg_right hx.1 (by omega)
    have hk3 := hk2 (d + 1) (by omega) (by omega)
    rw [show dotT xs ws (i + (d + 1)) = dotT xs ws (i + d) + nth xs (i + d) * nth ws (i + d) from rfl, show sumI ws (i + (d + 1)) = sumI ws (i + d) + nth ws (i + d) from rfl] at hk3
    generalize hP : nth xs (i + d) * nth ws (i + d) = P at *
    (repeat (first | refine gst (hk := ?_) | (with_reducible refine gc_drq ?_; intro _) | (show GO _ _ _ _ _ (⟨some _, none, _⟩ :: _) _; first | refine go_op (hk := ?_) | (refine go_nw (hk := ?_); intro u; try simp only [llc, lln, lna, lza]) | (refine go_np (hk := ?_); intro id)) | (show GQ _ _ _ _ _ _ _ (⟨some _, none, _⟩ :: _) _; first | refine gq_op (hk := ?_) | (refine gq_nw (hk := ?_); intro u; try simp only [llc, lln, lna, lza])) | (show GO _ _ _ _ _ (⟨none, none, _⟩ :: _) _; refine go_st (hk := ?_)) | (show GO _ _ _ _ _ (⟨_, some _, _⟩ :: _) _; first | refine go_in (hk := ?_) | refine go_out (hk := ?_) | refine go_void (hk := ?_)) | (show GQ _ _ _ _ _ _ _ (⟨_, some _, _⟩ :: _) _; first | refine gq_in (hk := ?_) | refine gq_out (hk := ?_) | refine gq_void (hk := ?_)) | (show GK _ _ _ _ (blockK _ _ _); refine gk_past rfl ?_) | (show GC _ _ _ _ _ (.cond _ _ _) _; first | refine gc_yes (h1 := ?_) | refine gc_no (h1 := ?_))))
    rw [hP]
    (repeat (first | refine gst (hk := ?_) | (with_reducible refine gc_drq ?_; intro _) | (show GO _ _ _ _ _ (⟨some _, none, _⟩ :: _) _; first | refine go_op (hk := ?_) | (refine go_nw (hk := ?_); intro u; try simp only [llc, lln, lna, lza]) | (refine go_np (hk := ?_); intro id)) | (show GQ _ _ _ _ _ _ _ (⟨some _, none, _⟩ :: _) _; first | refine gq_op (hk := ?_) | (refine gq_nw (hk := ?_); intro u; try simp only [llc, lln, lna, lza])) | (show GO _ _ _ _ _ (⟨none, none, _⟩ :: _) _; refine go_st (hk := ?_)) | (show GO _ _ _ _ _ (⟨_, some _, _⟩ :: _) _; first | refine go_in (hk := ?_) | refine go_out (hk := ?_) | refine go_void (hk := ?_)) | (show GQ _ _ _ _ _ _ _ (⟨_, some _, _⟩ :: _) _; first | refine gq_in (hk := ?_) | refine gq_out (hk := ?_) | refine gq_void (hk := ?_)) | (show GK _ _ _ _ (blockK _ _ _); refine gk_past rfl ?_) | (show GC _ _ _ _ _ (.cond _ _ _) _; first | refine gc_yes (h1 := ?_) | refine gc_no (h1 := ?_))))
    exact gk_next hk3
  · obtain rfl : i + d = e := by omega
    (repeat (first | refine gst (hk := ?_) | (with_reducible refine gc_drq ?_; intro _) | (show GO _ _ _ _ _ (⟨some _, none, _⟩ :: _) _; first | refine go_op (hk := ?_) | (refine go_nw (hk := ?_); intro u; try simp only [llc, lln, lna, lza]) | (refine go_np (hk := ?_); intro id)) | (show GQ _ _ _ _ _ _ _ (⟨some _, none, _⟩ :: _) _; first | refine gq_op (hk := ?_) | (refine gq_nw (hk := ?_); intro u; try simp only [llc, lln, lna, lza])) | (show GO _ _ _ _ _ (⟨none, none, _⟩ :: _) _; refine go_st (hk := ?_)) | (show GO _ _ _ _ _ (⟨_, some _, _⟩ :: _) _; first | refine go_in (hk := ?_) | refine go_out (hk := ?_) | refine go_void (hk := ?_)) | (show GQ _ _ _ _ _ _ _ (⟨_, some _, _⟩ :: _) _; first | refine gq_in (hk := ?_) | refine gq_out (hk := ?_) | refine gq_void (hk := ?_)) | (show GK _ _ _ _ (blockK _ _ _); refine gk_past rfl ?_) | (show GC _ _ _ _ _ (.cond _ _ _) _; first | refine gc_yes (h1 := ?_) | refine gc_no (h1 := ?_))))
    refine go_callp rfl code_spec_frac.callable (fun H hH => frac_ok (by omega) (by omega) (by omega)) ?_
    (repeat (first | refine gst (hk := ?_) | (with_reducible refine gc_drq ?_; intro _) | (show GO _ _ _ _ _ (⟨some _, none, _⟩ :: _) _; first | refine go_op (hk := ?_) | (refine go_nw (hk := ?_); intro u; try simp only [llc, lln, lna, lza]) | (refine go_np (hk := ?_); intro id)) | (show GQ _ _ _ _ _ _ _ (⟨some _, none, _⟩ :: _) _; first | refine gq_op (hk := ?_) | (refine gq_nw (hk := ?_); intro u; try simp only [llc, lln, lna, lza])) | (show GO _ _ _ _ _ (⟨none, none, _⟩ :: _) _; refine go_st (hk := ?_)) | (show GO _ _ _ _ _ (⟨_, some _, _⟩ :: _) _; first | refine go_in (hk := ?_) | refine go_out (hk := ?_) | refine go_void (hk := ?_)) | (show GQ _ _ _ _ _ _ _ (⟨_, some _, _⟩ :: _) _; first | refine gq_in (hk := ?_) | refine gq_out (hk := ?_) | refine gq_void (hk := ?_)) | (show GK _ _ _ _ (blockK _ _ _); refine gk_past rfl ?_) | (show GC _ _ _ _ _ (.cond _ _ _) _; first | refine gc_yes (h1 := ?_) | refine gc_no (h1 := ?_))))
    exact gk_rets (rvs_c rfl (by exact Sel.auto) rfl rfl rvs_nil) fun H' hH => ⟨rfl, hH.leE⟩

theorem dopsC_mono {P : Program} {Qt : FuncId → List AV → Option AV} {base : Nat} {C C' : List (List Nat × List Nat) → Prop} {K : St → Prop} {prs : List (Nat × Nat)} (hC : ∀ acc, C acc → C' acc) : ∀ {l : List MI} {k : Nat} {s : St} {acc : List (List Nat × List Nat)}, dopsC P Qt base k l s acc prs C K → dopsC P Qt base k l s acc prs C' K
  | [], k, s, acc, h => ⟨⟨h.1.1, hC acc h.1.2⟩, h.2⟩
  | m :: r, k, s, acc, h => by
    simp only [dopsC] at h ⊢
    split at h
    · exact dopsC_mono hC h
    · exact h.elim

theorem gc_drw4n {P : Program} {A : Heap} {X : List Nat} {E : List (Nat × AV)} {S : Sig} {Q : Exit → St → Prop} {prs : List (Nat × Nat)} {l : List MI} (Qt : FuncId → List AV → Option AV) (hQ : ∀ H0 H, SOk A X S H0.size H0 → (∀ id, id < H0.size → H.get id = H0.get id) → QtOk P Qt H)
    (h : ∀ H0, SOk A X S H0.size H0 → GD4 P Qt H0.size 0 A X E S [] prs l (fun acc => ∀ f ∈ acc, ∀ id ∈ f.2, H0.size ≤ id) (Q .normal)) : GC P A X E S (.drw l prs) Q :=
  gc_drw4 Qt fun H0 hH0 => ⟨fun s m h1 h2 h3 => dopsC_mono (fun acc ha H hH => hQ H0 H hH0 fun id hid => hH id fun f hf h4 => absurd (ha f hf id h4) (by omega)) ((h H0 hH0).g s m h1 h2 h3)⟩

theorem pairs_on {fs : List (List Nat × List Nat)} {i j k base : Nat} {fi : List Nat} {r : List (Nat × Nat)} (hi : fs[i]? = some (fi, [])) (hj : fs[j]? = some ([], [base + k])) (h : ∀ id ∈ fi, id < base) (hr : pairsOk fs r) : pairsOk fs ((i, j) :: r) :=
  pairs_one hi hj (by simp) (fun id h1 h2 => by simp only [List.mem_singleton] at h1; have := h id h2; omega) hr

theorem vid_old {A : Heap} {X : List Nat} {S : Sig} {H0 : Heap} {v : AV} {es n : Nat} {cs : List AV} {i : Nat} (h : SOk A X S H0.size H0) (hh : Has S v es n cs) : ∀ j ∈ vid (v.elem i), j < H0.size := by
  intro j hj
  refine (h.valsA hh).bid j ?_
  cases v <;> simp [AV.elem, vid] at hj <;> simp [AV.bid, hj]

/-- the means, in whatever memory that holds the numbers -/
theorem dMean_ok {A : Heap} {X : List Nat} {S : Sig} {H0 H : Heap} {a b : AV} {xs ws : List Int} {i e : Nat} {kI : Int} (hH0 : SOk A X S H0.size H0) (hg : ∀ id, id < H0.size → H.get id = H0.get id) (ha : Has S a 1 xs.length (ints xs)) (hb : Has S b 1 ws.length (ints ws)) (hL : Loads xs ws) (h1 : i < e) (h2 : e ≤ xs.length) (hk : kI = (e : Int) - 1) :
    ACalls Try.prog fn_spec_mean [a, b, .int .i64 (i : Int), .int .i64 kI] H fun r H' => r = frV (mnR xs ws i e) ∧ H' = H :=
  acalls_vals (hH0.ints ha) hg (by omega) fun ha' => acalls_vals (hH0.ints hb) hg (by have := hL.2.2.1; omega) fun hb' => specMean_ok ha' hb' hL h1 h2 hk

/-- two families in one -/
noncomputable def dTwo (args : List AV) (r : AV) (args' : List AV) (r' : AV) : List AV → Option AV := fun a => (dOne args r a).or (dOne args' r' a)

theorem dTwo_fst {args args' : List AV} {r r' : AV} : dTwo args r args' r' args = some r := by unfold dTwo; rw [dOne_is]; rfl

theorem dTwo_snd {args args' : List AV} {r r' : AV} (h : args' ≠ args ∨ r' = r) : dTwo args r args' r' args' = some r' := by
  classical
  unfold dTwo
  by_cases he : args' = args
  · rcases h with h | rfl
    · exact absurd he h
    · subst he; rw [dOne_is]; rfl
  · rw [show dOne args r args' = none from if_neg he, dOne_is]; rfl

theorem dTwo_ok {P : Program} {H : Heap} {f : FuncId} {args args' : List AV} {r r' : AV} (hc : Callable P f) (h : ACalls P f args H fun q H' => q = r ∧ H' = H) (h' : ACalls P f args' H fun q H' => q = r' ∧ H' = H) : FamOk P H f (dTwo args r args' r') := by
  intro vs v hv
  unfold dTwo at hv
  cases h1 : dOne args r vs with
  | some u =>
    rw [h1] at hv
    have hv2 : some u = some v := hv
    injection hv2 with hv2; subst hv2
    exact dOne_ok hc h vs u h1
  | none =>
    rw [h1] at hv
    exact dOne_ok hc h' vs v hv

theorem gd4_op {P : Program} {Qt : FuncId → List AV → Option AV} {base k : Nat} {A : Heap} {X : List Nat} {E : List (Nat × AV)} {S S' : Sig} {acc : List (List Nat × List Nat)} {prs : List (Nat × Nat)} {C : List (List Nat × List Nat) → Prop} {K : St → Prop} {r : List MI} {d : Nat} {v : AV} {op : MOp} (hs : Stp A X E S op (Is v S') := by exact stp_auto) (hq : (!op.isCall && !writes op && !reads op) = true := by exact rfl) (hk : GD4 P Qt base (k + 1) A X ((d, v) :: E) S' (acc ++ [([], [])]) prs r C K) : GD4 P Qt base k A X E S acc prs (⟨some d, none, op⟩ :: r) C K := gd4_is hq hs hk

theorem nth_stI2 {a b : Nat} {r : List Nat} : nth (stI (a :: b :: r)) r.length = (b : Int) ∧ nth (stI (a :: b :: r)) (r.length + 1) = (a : Int) := by
  have h1 := stI_len r
  have h2 := stI_len (b :: r)
  constructor
  · rw [stI, nth_app_lt (by rw [h2]; simp), stI, ← h1, nth_app_eq]
  · rw [stI, show r.length + 1 = (stI (b :: r)).length by rw [h2]; rfl, nth_app_eq]
/- the front of a slice of one's own: what is behind it stays where it is until the next append -/

def preW : AV → Nat → AV
  | .slice id off _ cap es, h => .slice id off h cap es
  | v, _ => v

theorem stp_lenp {A : Heap} {X : List Nat} {E : List (Nat × AV)} {S S0 : Sig} {x : MX} {v : AV} {k n h : Nat} {cs : List AV} (hx : evE E x = some (preW v h)) (hs : Sel S ⟨.rw, v, k, n, cs⟩ S0) (hh : h ≤ n) : Stp A X E S (.len x) (Is (.int .i64 (h : Int)) S) :=
  stp_pure fun τ H m nid hE hS => by
    obtain ⟨h1, h2, h3⟩ := (hS.sel hs).ch ⟨.rw, v, k, n, cs⟩ (by simp)
    simp only at h1 h2 h3
    rcases h3 with ⟨rfl, h3⟩ | ⟨id, rfl, h4, h5⟩
    · obtain rfl : h = 0 := by omega
      simp only [mstep, ev_of hE hx, preW]; rfl
    · simp only [mstep, ev_of hE hx, preW, AV.isSlice, if_true, AV.len]

theorem stp_ixap {A : Heap} {X : List Nat} {E : List (Nat × AV)} {S S0 : Sig} {x y : MX} {v : AV} {k : IntKind} {es n h i : Nat} {a : Int} {cs : List AV} (hx : evE E x = some (preW v h)) (hy : evE E y = some (.int k a)) (ha : a = (i : Int)) (hs : Sel S ⟨.rw, v, es, n, cs⟩ S0) (hh : h ≤ n) (hi : i < h) : Stp A X E S (.ixa x y es) (Is (v.elem i) S) :=
  stp_pure fun τ H m nid hE hS => by
    obtain ⟨h1, h2, h3⟩ := (hS.sel hs).ch ⟨.rw, v, es, n, cs⟩ (by simp)
    simp only at h1 h2 h3
    rcases h3 with ⟨rfl, h3⟩ | ⟨id, rfl, h4, h5⟩
    · omega
    · subst ha
      simp only [mstep, ev_of hE hx, ev_of hE hy, preW, AV.len, AV.es]
      rw [if_pos ⟨by omega, by omega, trivial⟩]; simp [AV.elem]

theorem stp_slp {A : Heap} {X : List Nat} {E : List (Nat × AV)} {S S0 : Sig} {x z : MX} {v : AV} {k n h l : Nat} {cs : List AV} (hx : evE E x = some (preW v h)) (hz : evE E z = some (.int .i64 (l : Int))) (hs : Sel S ⟨.rw, v, k, n, cs⟩ S0) (hh : h ≤ n) (hl : l ≤ h) : Stp A X E S (.sl x none (some z) none k) (Is (preW v l) S) :=
  stp_pure fun τ H m nid hE hS => by
    obtain ⟨h1, h2, h3⟩ := (hS.sel hs).ch ⟨.rw, v, k, n, cs⟩ (by simp)
    simp only at h1 h2 h3
    have e1 : ∀ d, bnd h (some (AV.int .i64 (l : Int))) d = some l := by
      intro d; simp only [bnd]; rw [if_pos (by omega)]; simp
    have e0 : bnd h (none : Option AV) h = some h := rfl
    have e2 : bnd l (none : Option AV) 0 = some 0 := rfl
    rcases h3 with ⟨rfl, h3⟩ | ⟨id, rfl, h4, h5⟩
    · obtain rfl : h = 0 := by omega
      simp only [mstep, ev_of hE hx, Option.map_some, Option.map_none, ev_of hE hz, msl, preW, AV.len, e0, e1, e2]
    · simp only [mstep, ev_of hE hx, Option.map_some, Option.map_none, ev_of hE hz, msl, preW, AV.len, e0, e1, e2]
      simp

theorem stp_appp {A : Heap} {X : List Nat} {E : List (Nat × AV)} {S S0 : Sig} {x y : MX} {v w : AV} {n h m' : Nat} {xs ys : List Int} (hx : evE E x = some (preW v h)) (hy : evE E y = some w) (hs : Sel S ⟨.rw, v, 1, n, ints xs⟩ S0) (hh : Has S w 1 m' (ints ys)) (hn : h ≤ n) (h0 : 0 < m') (hm2 : h + m' ≤ 1000000000000) :
    Stp A X E S (.app x y 1 8) (New fun u => ⟨.rw, u, 1, h + m', ints (xs.take h ++ ys)⟩ :: S0) := by
  refine ⟨?_⟩
  intro τ H m nid hE hS hm
  have hS' := hS.sel hs
  have hc := hS'.ch ⟨.rw, v, 1, n, ints xs⟩ (by simp)
  have hy' := hS.valsA hh
  obtain ⟨h1, h2, h3⟩ := hc
  simp only at h1 h2 h3
  have hml : h + m' ≤ maxLen := by simp only [maxLen]; omega
  have hxl : xs.length = n := by simpa [ints] using h2
  have hyl : ys.length = m' := by simpa [ints] using hy'.cells
  have hcm : (ints (xs.take h ++ ys)).length = (h + m') * 1 := by simp [ints]; omega
  have ham := hS.am
  simp only [mstep, ev_of hE hx, ev_of hE hy]
  unfold mapp
  rw [if_pos hy'.sl, hy'.row]
  simp only
  rw [if_pos ⟨by rw [hy'.cells, hy'.len], ints_one ys, by omega⟩, hy'.len]
  rcases h3 with ⟨rfl, h3⟩ | ⟨id, rfl, h4, h5⟩
  · obtain rfl : h = 0 := by omega
    have hs2 := Heap.lt_new H nid (some ⟨true, ints ys⟩)
    simp only [preW]
    rw [if_neg (by omega), if_pos ⟨by omega, by omega⟩]
    refine ⟨_, _, _, nid + 1, rfl, rfl, ?_, by omega, Nat.le_refl _, Heap.size_le_new _ _ _⟩
    rw [Nat.zero_add, List.take_zero, List.nil_append]
    refine hS'.tail.add ?_ (by omega) hs2 ⟨?_, by simpa using hy'.cells, .inr ⟨nid, rfl, .inl (by omega), by simp [Heap.get_new]⟩⟩ ?_
    · intro id hid; rw [Heap.get_new, if_neg (by omega)]
    · intro k hk; simp only [AV.bid, Option.some.injEq] at hk; omega
    · intro k hk; simp only [AV.bid, Option.some.injEq] at hk; omega
  · simp only [preW]
    rw [if_neg (by omega), if_pos ⟨by omega, hml, trivial⟩, h5]
    simp only
    rw [if_pos (by simp [ints]; omega)]
    simp only [if_true]
    have e : ((ints xs).drop 0).take (h * 1) = ints (xs.take h) := by simp [ints, List.map_take]
    rw [e, ← ints_append]
    have hs2 := Heap.lt_new (H.put id none) nid (some ⟨true, ints (xs.take h ++ ys)⟩)
    refine ⟨_, _, _, nid + 1, rfl, rfl, ?_, by omega, Nat.le_refl _, Heap.size_le_new (H.put id none) nid _⟩
    refine hS'.mod rfl ?_ (by omega) hs2 ⟨?_, hcm, .inr ⟨nid, rfl, .inl (by omega), by simp [Heap.get_new]⟩⟩ (.inr ?_)
    · intro id' hid' hne
      rw [Heap.get_new, if_neg (by omega), Heap.get_put, if_neg]
      intro e; subst e; exact hne rfl
    · intro k hk; simp only [AV.bid, Option.some.injEq] at hk; omega
    · intro k hk; simp only [AV.bid, Option.some.injEq] at hk; omega

theorem gc_preW {P : Program} {A : Heap} {X : List Nat} {E : List (Nat × AV)} {S S0 : Sig} {c : MC} {Q : Exit → St → Prop} {v : AV} {es n : Nat} {cs : List AV} (hs : Sel S ⟨.rw, v, es, n, cs⟩ S0) (h : preW v n = v → GC P A X E S c Q) : GC P A X E S c Q := by
  refine ⟨fun s hf => ?_⟩
  obtain ⟨_, _, h3⟩ := (hf.ok.sel hs).ch ⟨.rw, v, es, n, cs⟩ (by simp)
  simp only at h3
  refine (h ?_).g s hf
  rcases h3 with ⟨rfl, h3⟩ | ⟨id, rfl, h4, h5⟩ <;> rfl

/-- what a function hands back may be said to hold less than it does -/
theorem acalls_weak {P : Program} {f : FuncId} {args : List AV} {H : Heap} {R R' : AV → Heap → Prop} (h : ACalls P f args H R)
    (hw : ∀ r H', R r H' → ∃ H'', R' r H'' ∧ (∀ ι w, HRel ι H' w → HRel ι H'' w) ∧ H'.size ≤ H''.size ∧ H''.ob = H'.ob ∧ (∀ id b, H''.get id = some b → ∃ b', H'.get id = some b' ∧ b'.rw = b.rw)) : ACalls P f args H R' :=
  fun ι w us h1 h2 => (h ι w us h1 h2).mono fun e w' ⟨r, u, H', ι', a1, a2, a3, a4, a5⟩ => by
    obtain ⟨H'', b1, b2, b3, b4, b5⟩ := hw r H' a2
    refine ⟨r, u, H'', ι', a1, b1, a3, b2 _ _ a4, ⟨a5.le, Nat.le_trans a5.size b3, a5.wsize, a5.os, a5.tape, a5.output, a5.rows, fun id b q g1 g2 g3 => ?_, fun id o q g1 g2 => ?_⟩⟩
    · obtain ⟨b', g4, g5⟩ := b5 id b g1
      exact a5.news id b' q g4 (by rw [g5, g2]) g3
    · rw [b4] at g1; exact a5.newo id o q g1 g2

theorem hrel_front {ι : Nat → Option Ref} {H : Heap} {w : World} (h : HRel ι H w) {id : Nat} {cs : List AV} (hg : H.get id = some ⟨true, cs⟩) (m : Nat) : HRel ι (H.put id (some ⟨true, cs.take m⟩)) w where
  fresh := h.fresh
  blk := fun i b hb => by
    rw [Heap.get_put] at hb
    by_cases hi : i = id
    · subst hi
      rw [if_pos rfl] at hb; injection hb with hb; subst hb
      obtain ⟨r, h1, c, e, h2, h3, h4, h5⟩ := h.blk i _ hg
      refine ⟨r, h1, c, e, h2, h3, ?_, ?_⟩
      · simp only [List.length_take] at h4 ⊢; omega
      · simp only at h5 ⊢
        have h6 := (VRelL.iff _ _).1 h5
        refine (VRelL.iff _ _).2 ⟨?_, fun k a v k1 k2 => ?_⟩
        · have := h6.1
          simp only [List.length_take, List.length_drop] at this ⊢; omega
        · rw [List.getElem?_take] at k1
          split at k1
          · rename_i hk
            refine h6.2 k a v k1 ?_
            rw [List.getElem?_take] at k2 ⊢
            split at k2
            · rename_i hk2
              rw [if_pos (by simp only [List.length_take] at hk2; omega)]; exact k2
            · cases k2
          · cases k1
    · rw [if_neg hi] at hb
      exact h.blk i b hb
  apart := fun i b r i' b' r' h1 h2 h3 h4 h5 h6 h7 => by
    rw [Heap.get_put] at h1 h2
    have g : ∀ {j : Nat} {c : Blk}, (if j = id then some ⟨true, cs.take m⟩ else H.get j) = some c → ∃ c', H.get j = some c' ∧ c'.rw = c.rw ∧ (c.cells ≠ [] → c'.cells ≠ []) := by
      intro j c hj
      by_cases hi : j = id
      · subst hi
        rw [if_pos rfl] at hj; injection hj with hj; subst hj
        exact ⟨_, hg, rfl, fun hne hh => hne (by simp only at hh ⊢; rw [hh]; simp)⟩
      · rw [if_neg hi] at hj; exact ⟨c, hj, rfl, fun h => h⟩
    obtain ⟨c, c1, c2, _⟩ := g h1
    obtain ⟨c', c1', c2', c3'⟩ := g h2
    exact h.apart i c r i' c' r' c1 c1' (by rw [c2, h3]) (h4.imp (fun h => by rw [c2', h]) c3') h5 h6 h7
  obs := h.obs
  oapart := h.oapart
  gl := h.gl

/-- the front of an own slice is handed back -/
theorem own_front {P : Program} {f : FuncId} {args : List AV} {H : Heap} {xs : List Int} (h : ACalls P f args H fun r H' => ∃ v zs, ∃ m : Nat, r = preW v m ∧ m ≤ zs.length ∧ zs.take m = xs ∧ Own H H' v 1 zs.length (ints zs) ∧ Le H H') :
    ACalls P f args H fun r H' => OwnI H H' r xs ∧ Le H H' := by
  refine acalls_weak h ?_
  rintro r H' ⟨v, zs, m, rfl, h1, h2, h3, h4⟩
  have hxl : xs.length = m := by rw [← h2, List.length_take]; omega
  obtain ⟨c1, c2⟩ := h3
  rcases c2 with ⟨rfl, c2⟩ | ⟨id, rfl, c3, c4, c5⟩
  · have hm : m = 0 := by omega
    have hx : xs = [] := List.eq_nil_of_length_eq_zero (by omega)
    subst hx
    exact ⟨H', ⟨⟨by simp [ints], .inl ⟨rfl, rfl⟩⟩, h4⟩, fun _ _ h => h, Nat.le_refl _, rfl, fun id b hb => ⟨b, hb, rfl⟩⟩
  · refine ⟨H'.put id (some ⟨true, (ints zs).take m⟩), ⟨⟨by simp [ints], .inr ⟨id, ?_, c3, c4, ?_⟩⟩, ⟨h4.size, fun i hi => ?_, h4.ob⟩⟩, fun ι w hH => hrel_front hH c5 m, Nat.le_refl _, rfl, fun i b hb => ?_⟩
    · rw [hxl]; rfl
    · rw [Heap.get_put, if_pos rfl, ← h2]; simp [ints, List.map_take]
    · rw [Heap.get_put, if_neg (by omega)]; exact h4.get i hi
    · rw [Heap.get_put] at hb
      by_cases hi : i = id
      · subst hi
        rw [if_pos rfl] at hb; injection hb with hb; subst hb
        exact ⟨_, c5, rfl⟩
      · rw [if_neg hi] at hb; exact ⟨b, hb, rfl⟩

end Go.Rx.Try
