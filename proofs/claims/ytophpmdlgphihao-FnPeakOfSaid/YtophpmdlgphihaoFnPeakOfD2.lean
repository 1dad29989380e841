import Derived.Test.YtophpmdlgphihaoFnPeakOfD1
namespace Go.Rx.Try
open Go.Proofs
set_option maxRecDepth 100000
set_option maxHeartbeats 8000000
set_option linter.unusedSimpArgs false
set_option linter.unusedVariables false

theorem fitA_of {p q : Rat} {D E A B : Int} (hp : FD p D A) (hq : FD q E B) (h1 : A * E ≤ 2000000000000000000) (h2 : B * D ≤ 2000000000000000000) (h3 : D * E ≤ 4000000000000000000) : FitA p q := by
  obtain ⟨a1, a2, a3⟩ := hp.nd
  obtain ⟨b1, b2, b3⟩ := hq.nd
  have m1 := absmul (k := p.num) (l := (q.den : Int)) (A := A) (B := E) (by omega) (by omega) (by omega) (by omega)
  have m2 := absmul (k := q.num) (l := (p.den : Int)) (A := B) (B := D) (by omega) (by omega) (by omega) (by omega)
  have m3 := absmul (k := (p.den : Int)) (l := (q.den : Int)) (A := D) (B := E) (by omega) (by omega) (by omega) (by omega)
  exact ⟨by omega, by omega, by omega⟩

theorem fitM_of {p q : Rat} {D E A B : Int} (hp : FD p D A) (hq : FD q E B) (h1 : A * B ≤ 4000000000000000000) (h3 : D * E ≤ 4000000000000000000) : FitM p q := by
  obtain ⟨a1, a2, a3⟩ := hp.nd
  obtain ⟨b1, b2, b3⟩ := hq.nd
  have m1 := absmul (k := p.num) (l := q.num) (A := A) (B := B) (by omega) (by omega) (by omega) (by omega)
  have m3 := absmul (k := (p.den : Int)) (l := (q.den : Int)) (A := D) (B := E) (by omega) (by omega) (by omega) (by omega)
  exact ⟨by omega, by omega⟩

theorem mulbd {a b A B : Int} (ha : 0 ≤ a) (hb : 0 ≤ b) (h1 : a ≤ A) (h2 : b ≤ B) : a * b ≤ A * B :=
  Int.le_trans (Int.mul_le_mul_of_nonneg_right h1 hb) (Int.mul_le_mul_of_nonneg_left h2 (by omega))

theorem FD.pos {q : Rat} {D B : Int} (h : FD q D B) : 0 < D ∧ 0 ≤ B := by
  obtain ⟨hD, k, h1, h2, h3⟩ := h
  exact ⟨hD, by omega⟩

theorem rat_one (n : Int) : (n : Rat) / ((1 : Int) : Rat) = (n : Rat) := by
  rw [show ((1 : Int) : Rat) = 1 from rfl, Rat.div_def]
  have : (1 : Rat)⁻¹ = 1 := by grind
  rw [this, Rat.mul_one]

/-- the slope, the height: of a common D -/
structure LineOk (s h : Rat) (D A B : Int) : Prop where
  s : FD s D A
  h : FD h D B
  d : D ≤ 1000000
  a : A ≤ 1000000000
  b : B ≤ 10000000000

theorem LineOk.mid {s h : Rat} {D A B : Int} (hl : LineOk s h D A B) {x : Int} (hx : -24 ≤ x ∧ x ≤ 24) : FD (s * (x : Rat)) D (A * 24) := (hl.s.mul (FD.int hx)).to (by omega)

theorem LineOk.over {s h : Rat} {D A B : Int} (hl : LineOk s h D A B) {x y : Int} (hx : -24 ≤ x ∧ x ≤ 24) (hy : -24 ≤ y ∧ y ≤ 24) : FD ((y : Rat) - (s * (x : Rat) + h)) D (24 * D + (A * 24 + B)) := by
  have h1 := ((FD.int hy).lift (m := D) hl.s.pos.1).to (D' := D) (by omega)
  exact h1.sub ((hl.mid hx).add hl.h)

theorem LineOk.fits {s h : Rat} {D A B : Int} (hl : LineOk s h D A B) {x y : Int} (hx : -24 ≤ x ∧ x ≤ 24) (hy : -24 ≤ y ∧ y ≤ 24) : FitM s (x : Rat) ∧ FitA (s * (x : Rat)) h ∧ FitA (y : Rat) (s * (x : Rat) + h) := by
  obtain ⟨p1, p2⟩ := hl.s.pos
  obtain ⟨p3, p4⟩ := hl.h.pos
  have hd := hl.d
  have ha := hl.a
  have hb := hl.b
  have m1 := mulbd (a := A * 24) (b := D) (A := 24000000000) (B := 1000000) (by omega) (by omega) (by omega) hd
  have m2 := mulbd (a := B) (b := D) (A := 10000000000) (B := 1000000) (by omega) (by omega) hb hd
  have m3 := mulbd (a := D) (b := D) (A := 1000000) (B := 1000000) (by omega) (by omega) hd hd
  refine ⟨fitM_of hl.s (FD.int hx) (by omega) (by omega), fitA_of (hl.mid hx) hl.h (by omega) (by omega) (by omega), fitA_of (FD.int hy) ((hl.mid hx).add hl.h) (by omega) (by omega) (by omega)⟩

def PtsT (xs ys : List Int) (n : Nat) : Prop := ∀ i, i < n → i < ys.length ∧ (-12 ≤ nth xs i ∧ nth xs i ≤ 12) ∧ (-12 ≤ nth ys i ∧ nth ys i ≤ 12)

def Pts (xs ys : List Int) : Prop := PtsT xs ys xs.length ∧ xs.length = ys.length ∧ xs.length ≤ 7

def Wide (xs : List Int) : Prop := ∃ i, 1 ≤ i ∧ i < xs.length ∧ nth xs i ≠ nth xs 0

def Cloud (xs ys : List Int) : Prop := Pts xs ys ∧ Wide xs

noncomputable instance (xs ys : List Int) : Decidable (Pts xs ys) := Classical.propDecidable _

noncomputable instance (xs : List Int) : Decidable (Wide xs) := Classical.propDecidable _

noncomputable instance (xs ys : List Int) : Decidable (Cloud xs ys) := Classical.propDecidable _

theorem PtsT.succ {xs ys : List Int} {i : Nat} (h : PtsT xs ys i) (h1 : i < ys.length) (h2 : -12 ≤ nth xs i ∧ nth xs i ≤ 12) (h3 : -12 ≤ nth ys i ∧ nth ys i ≤ 12) : PtsT xs ys (i + 1) := by
  intro k hk
  rcases Nat.lt_or_ge k i with h4 | h4
  · exact h k h4
  · rw [show k = i by omega]; exact ⟨h1, h2, h3⟩

def dotT (xs ys : List Int) : Nat → Int
  | 0 => 0
  | i + 1 => dotT xs ys i + nth xs i * nth ys i

def devT (xs : List Int) (c : Int) : Nat → Int
  | 0 => 0
  | i + 1 => devT xs c i + (nth xs i - c) * (nth xs i - c)

theorem devT_eq (xs : List Int) (c : Int) : ∀ k, devT xs c k = dotT xs xs k - 2 * c * sumI xs k + k * (c * c)
  | 0 => by simp [devT, dotT, sumI]
  | k + 1 => by
    have := devT_eq xs c k
    simp only [devT, dotT, sumI, Int.natCast_add, Int.natCast_one]
    grind

theorem sq_nonneg (a : Int) : 0 ≤ a * a := by
  rcases Int.le_total 0 a with h | h
  · exact Int.mul_nonneg h h
  · have := Int.mul_nonneg (a := -a) (b := -a) (by omega) (by omega)
    rw [Int.neg_mul_neg] at this; exact this

theorem sq_pos {a : Int} (h : a ≠ 0) : 1 ≤ a * a := by
  rcases Int.lt_or_le 0 a with h1 | h1
  · have := Int.mul_pos h1 h1; omega
  · have := Int.mul_pos (a := -a) (b := -a) (by omega) (by omega)
    rw [Int.neg_mul_neg] at this; omega

theorem devT_nonneg (xs : List Int) (c : Int) : ∀ k, 0 ≤ devT xs c k
  | 0 => Int.le_refl _
  | k + 1 => by
    have h1 := devT_nonneg xs c k
    have h2 := sq_nonneg (nth xs k - c)
    rw [devT]; omega

theorem devT_ge {xs : List Int} {c : Int} {i : Nat} : ∀ {k}, i < k → (nth xs i - c) * (nth xs i - c) ≤ devT xs c k
  | 0, h => by omega
  | k + 1, h => by
    have h1 := devT_nonneg xs c k
    have h2 := sq_nonneg (nth xs k - c)
    rw [devT]
    rcases Nat.lt_or_ge i k with h3 | h3
    · have := devT_ge (xs := xs) (c := c) h3; omega
    · rw [show i = k by omega]; omega

def delT (xs : List Int) (k : Nat) : Int := k * dotT xs xs k - sumI xs k * sumI xs k

theorem delT_succ (xs : List Int) (k : Nat) : delT xs (k + 1) = delT xs k + devT xs (nth xs k) k := by
  rw [devT_eq]
  simp only [delT, dotT, sumI, Int.natCast_add, Int.natCast_one]
  grind

theorem delT_nonneg (xs : List Int) : ∀ k, 0 ≤ delT xs k
  | 0 => by simp [delT, sumI]
  | k + 1 => by
    have h1 := delT_nonneg xs k
    have h2 := devT_nonneg xs (nth xs k) k
    rw [delT_succ]; omega

theorem delT_pos {xs : List Int} : ∀ {k i}, i < k → nth xs i ≠ nth xs 0 → 1 ≤ delT xs k
  | 0, i, h, _ => by omega
  | k + 1, i, h, hn => by
    have h1 := delT_nonneg xs k
    have h2 := devT_nonneg xs (nth xs k) k
    rw [delT_succ]
    rcases Nat.lt_or_ge i k with h3 | h3
    · have := delT_pos h3 hn; omega
    · have hi : i = k := by omega
      subst hi
      have h0 : 0 < i := by
        rcases Nat.eq_zero_or_pos i with h4 | h4
        · subst h4; exact absurd rfl hn
        · exact h4
      have h4 := devT_ge (xs := xs) (c := nth xs i) h0
      have h5 := sq_pos (a := nth xs 0 - nth xs i) (by omega)
      omega

theorem dotT_le {xs ys : List Int} {n : Nat} (h : PtsT xs ys n) : ∀ {k}, k ≤ n → -(144 * (k : Int)) ≤ dotT xs ys k ∧ dotT xs ys k ≤ 144 * (k : Int)
  | 0, _ => by simp [dotT]
  | k + 1, hk => by
    have h1 := dotT_le h (k := k) (by omega)
    obtain ⟨_, h2, h3⟩ := h k (by omega)
    have h4 := absmul h2.1 h2.2 h3.1 h3.2
    rw [dotT]; omega

theorem PtsT.xx {xs ys : List Int} {n : Nat} (h : PtsT xs ys n) (hx : n ≤ xs.length) : PtsT xs xs n := fun i hi => ⟨by omega, (h i hi).2.1, (h i hi).2.1⟩

/-- the line of least squares -/
def sqA (xs ys : List Int) : Rat := (((xs.length : Int) * dotT xs ys xs.length - sumL xs * sumL ys : Int) : Rat) / ((delT xs xs.length : Int) : Rat)

def sqB (xs ys : List Int) : Rat := ((sumL ys : Int) : Rat) / (((xs.length : Int)) : Rat) - sqA xs ys * (((sumL xs : Int) : Rat) / (((xs.length : Int)) : Rat))

structure SqF (xs ys : List Int) : Prop where
  n : 2 ≤ xs.length ∧ xs.length ≤ 7
  sx : -84 ≤ sumL xs ∧ sumL xs ≤ 84
  sy : -84 ≤ sumL ys ∧ sumL ys ≤ 84
  del : 1 ≤ delT xs xs.length ∧ delT xs xs.length ≤ 14112
  up : -14112 ≤ (xs.length : Int) * dotT xs ys xs.length - sumL xs * sumL ys ∧ (xs.length : Int) * dotT xs ys xs.length - sumL xs * sumL ys ≤ 14112
  p1 : -7056 ≤ (xs.length : Int) * dotT xs ys xs.length ∧ (xs.length : Int) * dotT xs ys xs.length ≤ 7056
  p2 : -7056 ≤ (xs.length : Int) * dotT xs xs xs.length ∧ (xs.length : Int) * dotT xs xs xs.length ≤ 7056
  p3 : -7056 ≤ sumL xs * sumL ys ∧ sumL xs * sumL ys ≤ 7056
  p4 : -7056 ≤ sumL xs * sumL xs ∧ sumL xs * sumL xs ≤ 7056
  e : delT xs xs.length = (xs.length : Int) * dotT xs xs xs.length - sumL xs * sumL xs
  line : LineOk (sqA xs ys) (sqB xs ys) (delT xs xs.length * (xs.length : Int)) 98784 2376108

theorem Pts.bd {xs ys : List Int} (h : Pts xs ys) : Bd 12 xs ∧ Bd 12 ys := by
  refine ⟨fun x hx => ?_, fun y hy => ?_⟩
  · obtain ⟨i, hi, rfl⟩ := List.mem_iff_getElem.1 hx
    have := (h.1 i hi).2.1
    rwa [nth_of hi] at this
  · obtain ⟨i, hi, rfl⟩ := List.mem_iff_getElem.1 hy
    have := (h.1 i (by have := h.2.1; omega)).2.2
    rwa [nth_of hi] at this

theorem Cloud.sq {xs ys : List Int} (h : Cloud xs ys) : SqF xs ys := by
  obtain ⟨hp, i, hi1, hi2, hi3⟩ := h
  obtain ⟨b1, b2⟩ := hp.bd
  have hlen := hp.2.1
  have h7 := hp.2.2
  have sx := sumL_le b1 (by omega)
  have sy := sumL_le b2 (by omega)
  have hd := delT_pos hi2 hi3
  have d1 := dotT_le hp.1 (Nat.le_refl _)
  have d2 := dotT_le (hp.1.xx (Nat.le_refl _)) (Nat.le_refl _)
  have m1 := absmul (k := (xs.length : Int)) (l := dotT xs ys xs.length) (A := 7) (B := 1008) (by omega) (by omega) (by omega) (by omega)
  have m2 := absmul (k := (xs.length : Int)) (l := dotT xs xs xs.length) (A := 7) (B := 1008) (by omega) (by omega) (by omega) (by omega)
  have m3 := absmul (k := sumL xs) (l := sumL ys) (A := 84) (B := 84) (by omega) (by omega) (by omega) (by omega)
  have m4 := absmul (k := sumL xs) (l := sumL xs) (A := 84) (B := 84) (by omega) (by omega) (by omega) (by omega)
  have e : delT xs xs.length = (xs.length : Int) * dotT xs xs xs.length - sumL xs * sumL xs := by rw [delT, sumI_all]
  have hup : -14112 ≤ (xs.length : Int) * dotT xs ys xs.length - sumL xs * sumL ys ∧ (xs.length : Int) * dotT xs ys xs.length - sumL xs * sumL ys ≤ 14112 := by omega
  have hdel : 1 ≤ delT xs xs.length ∧ delT xs xs.length ≤ 14112 := by omega
  have m5 := mulbd (a := delT xs xs.length) (b := (xs.length : Int)) (A := 14112) (B := 7) (by omega) (by omega) (by omega) (by omega)
  have f1 : FD (sqA xs ys) (delT xs xs.length) 14112 := FD.div (by omega) hup
  have f2 : FD (((sumL ys : Int) : Rat) / (((xs.length : Int)) : Rat)) (xs.length : Int) 84 := FD.div (by omega) (by omega)
  have f3 : FD (((sumL xs : Int) : Rat) / (((xs.length : Int)) : Rat)) (xs.length : Int) 84 := FD.div (by omega) (by omega)
  refine ⟨by omega, by omega, by omega, hdel, hup, by omega, by omega, by omega, by omega, e, ⟨(f1.lift (m := (xs.length : Int)) (by omega)).mono (by omega), ?_, by omega, by omega, by omega⟩⟩
  have f4 := ((f2.lift (m := delT xs xs.length) (by omega)).to (Int.mul_comm _ _)).sub (f1.mul f3)
  exact f4.mono (by omega)

abbrev fr0 : AV := .agg [.int .i64 0, .int .i64 0]

theorem SqF.fits {xs ys : List Int} (h : SqF xs ys) : FitM (sqA xs ys) (((sumL xs : Int) : Rat) / (((xs.length : Int)) : Rat)) ∧ FitA (((sumL ys : Int) : Rat) / (((xs.length : Int)) : Rat)) (sqA xs ys * (((sumL xs : Int) : Rat) / (((xs.length : Int)) : Rat))) := by
  obtain ⟨hn, hsx, hsy, hdel, hup, _, _, _, _, _, _⟩ := h
  have f1 : FD (sqA xs ys) (delT xs xs.length) 14112 := FD.div (by omega) hup
  have f2 : FD (((sumL ys : Int) : Rat) / (((xs.length : Int)) : Rat)) (xs.length : Int) 84 := FD.div (by omega) (by omega)
  have f3 : FD (((sumL xs : Int) : Rat) / (((xs.length : Int)) : Rat)) (xs.length : Int) 84 := FD.div (by omega) (by omega)
  have m5 := mulbd (a := delT xs xs.length) (b := (xs.length : Int)) (A := 14112) (B := 7) (by omega) (by omega) (by omega) (by omega)
  have m8 := Int.mul_nonneg (a := delT xs xs.length) (b := (xs.length : Int)) (by omega) (by omega)
  have m6 := mulbd (a := (xs.length : Int)) (b := delT xs xs.length * (xs.length : Int)) (A := 7) (B := 98784) (by omega) (by omega) (by omega) (by omega)
  have m7 := mulbd (a := (xs.length : Int)) (b := delT xs xs.length) (A := 7) (B := 14112) (by omega) (by omega) (by omega) (by omega)
  exact ⟨fitM_of f1 f3 (by omega) (by omega), fitA_of f2 (f1.mul f3) (by omega) (by omega) (by omega)⟩

abbrev cel0 (i : Nat) : Ch := ⟨.cell, .ptr i 0, 2, 1, [.int .i64 0, .int .i64 0]⟩

abbrev celF (i : Nat) (q : Rat) : Ch := ⟨.cell, .ptr i 0, 2, 1, [.int .i64 q.num, .int .i64 (q.den : Int)]⟩

theorem lawLess_ok {H : Heap} {p q : Rat} (hf : FitA p q) :
    ACalls Try.prog fn_laws_lessOf [frV p, frV q] H fun r H' => r = .bool (decide (p < q)) ∧ H' = H := by
  refine ACalls.val ?_ rfl
  obtain ⟨h1, h2, h3⟩ := hf
  unfold frV
  refine code_laws_lessOf.go [] trivial (by simp) ?_
  unfold mc_laws_lessOf
  (repeat (first | refine gst (hk := ?_) | (show GO _ _ _ _ _ (⟨some _, none, _⟩ :: _) _; first | refine go_op (hk := ?_) | (refine go_nw (hk := ?_); intro u; try simp only [llc, lln, lna, lza]) | (refine go_np (hk := ?_); intro id)) | (show GO _ _ _ _ _ (⟨none, none, _⟩ :: _) _; refine go_st (hk := ?_)) | (show GO _ _ _ _ _ (⟨_, some _, _⟩ :: _) _; first | refine go_in (hk := ?_) | refine go_out (hk := ?_) | refine go_void (hk := ?_)) | (show GK _ _ _ _ (blockK _ _ _); refine gk_past rfl ?_) | (show GC _ _ _ _ _ (.cond _ _ _) _; first | refine gc_yes (h1 := ?_) | refine gc_no (h1 := ?_))))
  exact gk_ret rfl fun H' hH => ⟨by simp only [tupleOf, Rat.lt_iff], hH.leE⟩

def frC (q : Rat) : List AV := [.int .i64 q.num, .int .i64 (q.den : Int)]

def frs : List Rat → List AV
  | [] => []
  | q :: L => frC q ++ frs L

theorem frs_app : ∀ L M : List Rat, frs (L ++ M) = frs L ++ frs M
  | [], M => rfl
  | q :: L, M => by rw [List.cons_append, frs, frs, frs_app L M, List.append_assoc]

theorem frs_one : ∀ L : List Rat, (frs L).all AV.one = true
  | [] => rfl
  | q :: L => by rw [frs, List.all_append, frs_one L]; rfl

theorem frs_take : ∀ (L : List Rat) (k : Nat), (frs L).take (k * 2) = frs (L.take k)
  | [], k => by simp [frs]
  | q :: L, 0 => by simp [frs]
  | q :: L, k + 1 => by
    rw [List.take_succ_cons, frs, frs, show (k + 1) * 2 = (frC q).length + k * 2 by simp [frC]; omega, List.take_length_add_append, frs_take L k]

theorem frs_drop : ∀ (L : List Rat) (k : Nat), (frs L).drop (k * 2) = frs (L.drop k)
  | [], k => by simp [frs]
  | q :: L, 0 => by simp
  | q :: L, k + 1 => by
    rw [List.drop_succ_cons, frs, show (k + 1) * 2 = (frC q).length + k * 2 by simp [frC]; omega, List.drop_length_add_append, frs_drop L k]

def nthR (L : List Rat) (i : Nat) : Rat := L.getD i 0

theorem nthR_of {L : List Rat} {i : Nat} (h : i < L.length) : nthR L i = L[i] := by
  unfold nthR
  rw [List.getD_eq_getElem?_getD, List.getElem?_eq_getElem h]; rfl

theorem frs_at {L : List Rat} {i : Nat} (h : i < L.length) : ((frs L).drop (i * 2)).take 2 = frC (nthR L i) := by
  have h1 := frs_take (L.drop i) 1
  rw [Nat.one_mul] at h1
  rw [frs_drop, h1, nthR_of h, List.drop_eq_getElem_cons h, List.take_succ_cons]
  simp [frs]

theorem stp_ldF {A : Heap} {X : List Nat} {E : List (Nat × AV)} {S : Sig} {p : MX} {v : AV} {n i : Nat} {L : List Rat} (hp : evE E p = some (v.elem i)) (hh : Has S v 2 n (frs L)) (hn : n = L.length) (hi : i < L.length) : Stp A X E S (.ld p 2 true) (Is (frV (nthR L i)) S) :=
  stp_ldn hp hh (by omega) (frs_at hi) rfl

theorem stp_bslF {A : Heap} {X : List Nat} {E : List (Nat × AV)} {S : Sig} {x : MX} {q : Rat} (hx : evE E x = some (frV q)) : Stp A X E S (.bsl 1 2 [.int .i64 0, .int .i64 0] [(0, x)]) (New fun v => ⟨.rw, v, 2, 1, frs [q]⟩ :: S) := by
  have h := stp_bsl1 (A := A) (X := X) (S := S) (es := 2) (z := [.int .i64 0, .int .i64 0]) (ds := frC q) hx rfl rfl rfl rfl
  rw [show frs [q] = frC q by simp [frs]]
  exact h

theorem stp_appF {A : Heap} {X : List Nat} {E : List (Nat × AV)} {S S0 : Sig} {v w : AV} {x y : MX} {n m' : Nat} {L M : List Rat} (hx : evE E x = some v) (hy : evE E y = some w) (hs : Sel S ⟨.rw, v, 2, n, frs L⟩ S0) (hh : Has S w 2 m' (frs M)) (hm2 : n + m' ≤ 1000000000000) :
    Stp A X E S (.app x y 2 16) (New fun u => ⟨.rw, u, 2, n + m', frs (L ++ M)⟩ :: S0) := by
  simp only [frs_app]
  exact stp_app hx hy hs hh (frs_one M) (by omega) (by omega) hm2

abbrev rwF (u : AV) (n : Nat) (L : List Rat) : Ch := ⟨.rw, u, 2, n, frs L⟩

abbrev roF (u : AV) (n : Nat) (L : List Rat) : Ch := ⟨.ro, u, 2, n, frs L⟩

theorem fd_sum {p q : Rat} {D E A B : Int} (hp : FD p D A) (hq : FD q E B) : FD (p + q) (D * E) (A * E + B * D) := by
  have h1 := hp.lift hq.pos.1
  have h2 := (hq.lift hp.pos.1).to (Int.mul_comm E D)
  exact h1.add h2

/-- a slope alone -/
theorem LineOk.flat {s : Rat} {D : Int} (hs : FD s D 24) (hd : D ≤ 24) : LineOk s ((0 : Int) : Rat) D 24 0 :=
  ⟨hs, ((FD.int (n := 0) (B := 0) (by omega)).lift hs.pos.1).to (by omega) |>.mono (by omega), by omega, by omega, by omega⟩

theorem fit_48 {p q : Rat} {D E : Int} (hp : FD p D 2304) (hq : FD q E 2304) (hd : D ≤ 48) (he : E ≤ 48) : FitA p q := by
  have := hp.pos.1
  have := hq.pos.1
  have m := mulbd (a := D) (b := E) (A := 48) (B := 48) (by omega) (by omega) hd he
  exact fitA_of hp hq (by omega) (by omega) (by omega)

abbrev F48 (q : Rat) : Prop := ∃ D, D ≤ 48 ∧ FD q D 2304

theorem F48.fit {p q : Rat} (h : F48 p) (h' : F48 q) : FitA p q := by
  obtain ⟨D, d, f⟩ := h
  obtain ⟨E, e, g⟩ := h'
  exact fit_48 f g d e

theorem qops_up {P : Program} {Qt : FuncId → List AV → Option AV} {K K' : St → Prop} (h : ∀ s, K s → K' s) : ∀ (l : List MI) (s : St), qops P Qt l s K → qops P Qt l s K'
  | [], s, g => h s g
  | m :: r, s, g => by
    simp only [qops] at g ⊢
    cases hd : dstep P Qt s.H.size m s with
    | none => rw [hd] at g; exact g.elim
    | some p =>
      obtain ⟨v, H'⟩ := p
      rw [hd] at g
      exact qops_up h r _ g

theorem dopsC_up {P : Program} {Qt : FuncId → List AV → Option AV} {base : Nat} {prs : List (Nat × Nat)} {C : List (List Nat × List Nat) → Prop} {K K' : St → Prop} (h : ∀ s, K s → K' s) : ∀ (l : List MI) (k : Nat) (s : St) (acc : List (List Nat × List Nat)), dopsC P Qt base k l s acc prs C K → dopsC P Qt base k l s acc prs C K'
  | [], k, s, acc, g => ⟨g.1, h s g.2⟩
  | m :: r, k, s, acc, g => by
    simp only [dopsC] at g ⊢
    cases hd : dstep P Qt (base + k) m s with
    | none => rw [hd] at g; exact g.elim
    | some p =>
      obtain ⟨v, H'⟩ := p
      rw [hd] at g
      exact dopsC_up h r _ _ _ g

theorem cops_up {P : Program} {Qt : FuncId → List AV → Option AV} {prs : List (Nat × Nat)} {K K' : St → Prop} (h : ∀ s, K s → K' s) : ∀ (l : List MI) (s : St) (acc : List (List Nat × List Nat)), cops P Qt l s acc prs K → cops P Qt l s acc prs K'
  | [], s, acc, g => ⟨g.1, h s g.2⟩
  | m :: r, s, acc, g => by
    simp only [cops] at g ⊢
    cases hd : dstep P Qt s.H.size m s with
    | none => rw [hd] at g; exact g.elim
    | some p =>
      obtain ⟨v, H'⟩ := p
      rw [hd] at g
      exact cops_up h r _ _ g

theorem mwp_up {P : Program} : ∀ (c : MC), c.flat = true → ∀ {Q Q' : Exit → St → Prop}, (∀ e s, Q e s → Q' e s) → ∀ s, mwp P c Q s → mwp P c Q' s
  | .skip, _, Q, Q', h, s, g => h _ _ g
  | .reg l, _, Q, Q', h, s, g => mops_up (h .normal) l s g
  | .drq l, _, Q, Q', h, s, g => by
    obtain ⟨Qt, h1, h2⟩ := g
    exact ⟨Qt, h1, qops_up (h .normal) l s h2⟩
  | .drw l prs, _, Q, Q', h, s, g => by
    obtain ⟨Qt, h2⟩ := g
    exact ⟨Qt, dopsC_up (h .normal) l _ _ _ h2⟩
  | .drc l prs, _, Q, Q', h, s, g => by
    obtain ⟨Qt, h1, h2⟩ := g
    exact ⟨Qt, h1, cops_up (h .normal) l _ _ h2⟩
  | .dra ls, _, Q, Q', h, s, g => fun l hl => mops_up (h .normal) l s (g l hl)
  | .seq a b, hf, Q, Q', h, s, g => by
    simp only [MC.flat, Bool.and_eq_true] at hf
    refine mwp_up a hf.1 (fun e t ht => ?_) s g
    cases e with
    | normal => exact mwp_up b hf.2 h t ht
    | _ => exact h _ _ ht
  | .cond c a b, hf, Q, Q', h, s, g => by
    simp only [MC.flat, Bool.and_eq_true] at hf
    simp only [mwp, mcond] at g ⊢
    split at g
    · exact ⟨fun hb => mwp_up a hf.1 h s (g.1 hb), fun hb => mwp_up b hf.2 h s (g.2 hb)⟩
    · exact g.elim
  | .block id a, hf, Q, Q', h, s, g => by
    refine mwp_up a hf (fun e t ht => ?_) s g
    cases e <;> simp only [blockK] at ht ⊢ <;> first | exact h _ _ ht | (split at ht <;> rename_i hi <;> simp only [hi] <;> exact h _ _ ht)
  | .loop a, hf, Q, Q', h, s, g => by
    obtain ⟨I, μ, h1, h2⟩ := g
    refine ⟨I, μ, h1, fun t ht => ?_⟩
    refine mwp_up a hf (fun e u hu => ?_) t (h2 t ht)
    cases e <;> simp only [loopK] at hu ⊢ <;> first | exact hu | exact h _ _ hu
  | .scope a, hf, Q, Q', h, s, g => by
    refine mwp_up a hf (fun e t ht => ?_) s g
    cases e <;> simp only [scopeK] at ht ⊢ <;> first | exact ht | exact h _ _ ht
  | .exit id, _, Q, Q', h, s, g => h _ _ g
  | .ret, _, Q, Q', h, s, g => h _ _ g

def cutQ {γ : Type} (A : Heap) (X : List Nat) (F : γ → List (Nat × AV)) (T : γ → Sig) (Φ : γ → Prop) (Q : Exit → St → Prop) : Exit → St → Prop
  | .normal, s => ∃ g, Φ g ∧ Fit A X (F g) (T g) s
  | e, s => Q e s

/-- all ways through a piece of code lead to the same -/
theorem gc_cut {P : Program} {A : Heap} {X : List Nat} {E : List (Nat × AV)} {S : Sig} {Q : Exit → St → Prop} {c : MC} {γ : Type} (F : γ → List (Nat × AV)) (T : γ → Sig) (Φ : γ → Prop) (hf : c.flat = true) (h : GC P A X E S c (cutQ A X F T Φ Q)) (hk : ∀ g, Φ g → GK A X (F g) (T g) (Q .normal)) : GC P A X E S c Q := by
  refine ⟨fun s hs => mwp_up c hf (fun e t ht => ?_) s (h.g s hs)⟩
  cases e with
  | normal => obtain ⟨g, h1, h2⟩ := ht; exact (hk g h1).g t h2
  | _ => exact ht

theorem gk_cutq {A : Heap} {X : List Nat} {E : List (Nat × AV)} {S : Sig} {Q : Exit → St → Prop} {γ : Type} {F : γ → List (Nat × AV)} {T : γ → Sig} {Φ : γ → Prop} (g : γ) (hp : Φ g) (hE : Cov E (F g)) (hS : Sub S (T g)) : GK A X E S (cutQ A X F T Φ Q .normal) :=
  ⟨fun s hs => ⟨g, hp, hs.cov hE hS⟩⟩

def DifT (xs : List Int) (n : Nat) : Prop := ∀ i, i < n → ∀ k, k < i → nth xs i ≠ nth xs k

def Dif (xs : List Int) : Prop := DifT xs xs.length

noncomputable instance (xs : List Int) : Decidable (Dif xs) := Classical.propDecidable _

theorem nthR_app {L M : List Rat} {i : Nat} (h : i < L.length) : nthR (L ++ M) i = nthR L i := by
  unfold nthR
  rw [List.getD_eq_getElem?_getD, List.getD_eq_getElem?_getD, List.getElem?_append_left h]

theorem nthR_last {L : List Rat} {q : Rat} : nthR (L ++ [q]) L.length = q := by
  unfold nthR
  rw [List.getD_eq_getElem?_getD, List.getElem?_append_right (Nat.le_refl _)]; simp

def CvOk (xs ys : List Int) : Prop := (Pts xs ys ∧ (1 ≤ (xs.length : Int) ∧ (xs.length : Int) ≤ 5)) ∧ Dif xs

noncomputable instance (xs ys : List Int) : Decidable (CvOk xs ys) := Classical.propDecidable _

theorem implApart0_ok {H : Heap} {x : Int} (hx : -4611686018427387904 ≤ x ∧ x ≤ 4611686018427387904) : ACalls Try.prog fn_impl_apart [.int .i64 x, .int .i64 0] H fun r H' => r = .int .i64 (max x (-x)) ∧ H' = H := by
  refine ACalls.val ?_ rfl
  refine code_impl_apart.go [] trivial (by simp) ?_
  unfold mc_impl_apart
  (repeat (first | refine gst (hk := ?_) | (show GO _ _ _ _ _ (⟨some _, none, _⟩ :: _) _; first | refine go_op (hk := ?_) | (refine go_nw (hk := ?_); intro u; try simp only [llc, lln, lna, lza]) | (refine go_np (hk := ?_); intro id)) | (show GO _ _ _ _ _ (⟨none, none, _⟩ :: _) _; refine go_st (hk := ?_)) | (show GO _ _ _ _ _ (⟨_, some _, _⟩ :: _) _; first | refine go_in (hk := ?_) | refine go_out (hk := ?_) | refine go_void (hk := ?_)) | (show GK _ _ _ _ (blockK _ _ _); refine gk_past rfl ?_) | (show GC _ _ _ _ _ (.cond _ _ _) _; first | refine gc_yes (h1 := ?_) | refine gc_no (h1 := ?_))))
  exact gk_ret rfl fun H' hH => ⟨by show AV.int _ (max (x - 0) (0 - x)) = _; congr 1; omega, hH.leE⟩

theorem commonFactor_ok {H : Heap} {a b : Int} (ha : -4611686018427387904 ≤ a ∧ a ≤ 4611686018427387904) (hb : -4611686018427387904 ≤ b ∧ b ≤ 4611686018427387904) :
    ACalls Try.prog fn_impl_commonFactor [.int .i64 a, .int .i64 b] H fun r H' => r = .int .i64 (Int.gcd a b : Nat) ∧ H' = H := by
  refine ACalls.val ?_ rfl
  refine code_impl_commonFactor.go [] trivial (by simp) ?_
  unfold mc_impl_commonFactor
  (repeat (first | refine gst (hk := ?_) | (with_reducible refine gc_drq ?_; intro _) | (show GO _ _ _ _ _ (⟨some _, none, _⟩ :: _) _; first | refine go_op (hk := ?_) | (refine go_nw (hk := ?_); intro u; try simp only [llc, lln, lna, lza]) | (refine go_np (hk := ?_); intro id)) | (show GQ _ _ _ _ _ _ _ (⟨some _, none, _⟩ :: _) _; first | refine gq_op (hk := ?_) | (refine gq_nw (hk := ?_); intro u; try simp only [llc, lln, lna, lza])) | (show GO _ _ _ _ _ (⟨none, none, _⟩ :: _) _; refine go_st (hk := ?_)) | (show GO _ _ _ _ _ (⟨_, some _, _⟩ :: _) _; first | refine go_in (hk := ?_) | refine go_out (hk := ?_) | refine go_void (hk := ?_)) | (show GQ _ _ _ _ _ _ _ (⟨_, some _, _⟩ :: _) _; first | refine gq_in (hk := ?_) | refine gq_out (hk := ?_) | refine gq_void (hk := ?_)) | (show GK _ _ _ _ (blockK _ _ _); refine gk_past rfl ?_) | (show GC _ _ _ _ _ (.cond _ _ _) _; first | refine gc_yes (h1 := ?_) | refine gc_no (h1 := ?_))))
  refine gc_loop (γ := Int × Int) (fun t => [(0, .int .i64 t.1), (1, .int .i64 t.2)]) (fun _ => []) (fun t => Int.gcd t.1 t.2 = Int.gcd a b ∧ (-4611686018427387904 ≤ t.1 ∧ t.1 ≤ 4611686018427387904) ∧ (-4611686018427387904 ≤ t.2 ∧ t.2 ≤ 4611686018427387904)) (fun t => t.2.natAbs) (a, b) ⟨rfl, ha, hb⟩ (hb := ?_)
  rintro ⟨x, y⟩ ⟨h1, h2, h3⟩ I ν m hk
  simp only at h1 h2 h3 hk ⊢
  (repeat (first | refine gst (hk := ?_) | (with_reducible refine gc_drq ?_; intro _) | (show GO _ _ _ _ _ (⟨some _, none, _⟩ :: _) _; first | refine go_op (hk := ?_) | (refine go_nw (hk := ?_); intro u; try simp only [llc, lln, lna, lza]) | (refine go_np (hk := ?_); intro id)) | (show GQ _ _ _ _ _ _ _ (⟨some _, none, _⟩ :: _) _; first | refine gq_op (hk := ?_) | (refine gq_nw (hk := ?_); intro u; try simp only [llc, lln, lna, lza])) | (show GO _ _ _ _ _ (⟨none, none, _⟩ :: _) _; refine go_st (hk := ?_)) | (show GO _ _ _ _ _ (⟨_, some _, _⟩ :: _) _; first | refine go_in (hk := ?_) | refine go_out (hk := ?_) | refine go_void (hk := ?_)) | (show GQ _ _ _ _ _ _ _ (⟨_, some _, _⟩ :: _) _; first | refine gq_in (hk := ?_) | refine gq_out (hk := ?_) | refine gq_void (hk := ?_)) | (show GK _ _ _ _ (blockK _ _ _); refine gk_past rfl ?_) | (show GC _ _ _ _ _ (.cond _ _ _) _; first | refine gc_yes (h1 := ?_) | refine gc_no (h1 := ?_))))
  refine gc_cond rfl (fun h => ?_) (fun h => ?_)
  · have h4 : (x.tmod y).natAbs < y.natAbs := by
      rw [Int.natAbs_tmod]; exact Nat.mod_lt _ (by omega)
    (repeat (first | refine gst (hk := ?_) | (with_reducible refine gc_drq ?_; intro _) | (show GO _ _ _ _ _ (⟨some _, none, _⟩ :: _) _; first | refine go_op (hk := ?_) | (refine go_nw (hk := ?_); intro u; try simp only [llc, lln, lna, lza]) | (refine go_np (hk := ?_); intro id)) | (show GQ _ _ _ _ _ _ _ (⟨some _, none, _⟩ :: _) _; first | refine gq_op (hk := ?_) | (refine gq_nw (hk := ?_); intro u; try simp only [llc, lln, lna, lza])) | (show GO _ _ _ _ _ (⟨none, none, _⟩ :: _) _; refine go_st (hk := ?_)) | (show GO _ _ _ _ _ (⟨_, some _, _⟩ :: _) _; first | refine go_in (hk := ?_) | refine go_out (hk := ?_) | refine go_void (hk := ?_)) | (show GQ _ _ _ _ _ _ _ (⟨_, some _, _⟩ :: _) _; first | refine gq_in (hk := ?_) | refine gq_out (hk := ?_) | refine gq_void (hk := ?_)) | (show GK _ _ _ _ (blockK _ _ _); refine gk_past rfl ?_) | (show GC _ _ _ _ _ (.cond _ _ _) _; first | refine gc_yes (h1 := ?_) | refine gc_no (h1 := ?_))))
    refine gq_is rfl (stp_rem rfl rfl h) ?_
    (repeat (first | refine gst (hk := ?_) | (with_reducible refine gc_drq ?_; intro _) | (show GO _ _ _ _ _ (⟨some _, none, _⟩ :: _) _; first | refine go_op (hk := ?_) | (refine go_nw (hk := ?_); intro u; try simp only [llc, lln, lna, lza]) | (refine go_np (hk := ?_); intro id)) | (show GQ _ _ _ _ _ _ _ (⟨some _, none, _⟩ :: _) _; first | refine gq_op (hk := ?_) | (refine gq_nw (hk := ?_); intro u; try simp only [llc, lln, lna, lza])) | (show GO _ _ _ _ _ (⟨none, none, _⟩ :: _) _; refine go_st (hk := ?_)) | (show GO _ _ _ _ _ (⟨_, some _, _⟩ :: _) _; first | refine go_in (hk := ?_) | refine go_out (hk := ?_) | refine go_void (hk := ?_)) | (show GQ _ _ _ _ _ _ _ (⟨_, some _, _⟩ :: _) _; first | refine gq_in (hk := ?_) | refine gq_out (hk := ?_) | refine gq_void (hk := ?_)) | (show GK _ _ _ _ (blockK _ _ _); refine gk_past rfl ?_) | (show GC _ _ _ _ _ (.cond _ _ _) _; first | refine gc_yes (h1 := ?_) | refine gc_no (h1 := ?_))))
    exact gk_next (hk (y, x.tmod y) ⟨by rw [tmod_gcd]; exact h1, h3, by simp only; omega⟩ h4)
  · have hy : y = 0 := by omega
    subst hy
    have e : (Int.gcd a b : Nat) = x.natAbs := by rw [← h1]; simp [Int.gcd]
    (repeat (first | refine gst (hk := ?_) | (with_reducible refine gc_drq ?_; intro _) | (show GO _ _ _ _ _ (⟨some _, none, _⟩ :: _) _; first | refine go_op (hk := ?_) | (refine go_nw (hk := ?_); intro u; try simp only [llc, lln, lna, lza]) | (refine go_np (hk := ?_); intro id)) | (show GQ _ _ _ _ _ _ _ (⟨some _, none, _⟩ :: _) _; first | refine gq_op (hk := ?_) | (refine gq_nw (hk := ?_); intro u; try simp only [llc, lln, lna, lza])) | (show GO _ _ _ _ _ (⟨none, none, _⟩ :: _) _; refine go_st (hk := ?_)) | (show GO _ _ _ _ _ (⟨_, some _, _⟩ :: _) _; first | refine go_in (hk := ?_) | refine go_out (hk := ?_) | refine go_void (hk := ?_)) | (show GQ _ _ _ _ _ _ _ (⟨_, some _, _⟩ :: _) _; first | refine gq_in (hk := ?_) | refine gq_out (hk := ?_) | refine gq_void (hk := ?_)) | (show GK _ _ _ _ (blockK _ _ _); refine gk_past rfl ?_) | (show GC _ _ _ _ _ (.cond _ _ _) _; first | refine gc_yes (h1 := ?_) | refine gc_no (h1 := ?_))))
    refine go_callp rfl code_impl_apart.callable (fun H hH => implApart0_ok h2) ?_
    (repeat (first | refine gst (hk := ?_) | (with_reducible refine gc_drq ?_; intro _) | (show GO _ _ _ _ _ (⟨some _, none, _⟩ :: _) _; first | refine go_op (hk := ?_) | (refine go_nw (hk := ?_); intro u; try simp only [llc, lln, lna, lza]) | (refine go_np (hk := ?_); intro id)) | (show GQ _ _ _ _ _ _ _ (⟨some _, none, _⟩ :: _) _; first | refine gq_op (hk := ?_) | (refine gq_nw (hk := ?_); intro u; try simp only [llc, lln, lna, lza])) | (show GO _ _ _ _ _ (⟨none, none, _⟩ :: _) _; refine go_st (hk := ?_)) | (show GO _ _ _ _ _ (⟨_, some _, _⟩ :: _) _; first | refine go_in (hk := ?_) | refine go_out (hk := ?_) | refine go_void (hk := ?_)) | (show GQ _ _ _ _ _ _ _ (⟨_, some _, _⟩ :: _) _; first | refine gq_in (hk := ?_) | refine gq_out (hk := ?_) | refine gq_void (hk := ?_)) | (show GK _ _ _ _ (blockK _ _ _); refine gk_past rfl ?_) | (show GC _ _ _ _ _ (.cond _ _ _) _; first | refine gc_yes (h1 := ?_) | refine gc_no (h1 := ?_))))
    exact gk_ret rfl fun H' hH => ⟨by rw [e]; show AV.int _ (max x (-x)) = _; congr 1; omega, hH.leE⟩

theorem tdiv_negneg {a g : Int} (h : 0 < g) : a.tdiv (-g) = (-a).tdiv g := by
  rw [Int.tdiv_neg, Int.neg_tdiv]

theorem lowest_ok {H : Heap} {a b : Int} (ha : -4611686018427387904 ≤ a ∧ a ≤ 4611686018427387904) (hb : -4611686018427387904 ≤ b ∧ b ≤ 4611686018427387904) (h0 : b ≠ 0) :
    ACalls Try.prog fn_impl_lowest [.int .i64 a, .int .i64 b] H fun r H' => r = frV ((a : Rat) / (b : Rat)) ∧ H' = H := by
  refine ACalls.val ?_ rfl
  have hg : (0 : Int) < (Int.gcd a b : Nat) := by
    have := Int.gcd_pos_of_ne_zero_right a h0
    omega
  have hg2 : (Int.gcd a b : Nat) ≤ b.natAbs := Nat.le_of_dvd (by omega) (Int.gcd_dvd_natAbs_right a b)
  obtain ⟨e1, e2⟩ := div_num (a := a) h0
  refine code_impl_lowest.go [] trivial (by simp) ?_
  unfold mc_impl_lowest
  (repeat (first | refine gst (hk := ?_) | (with_reducible first | (refine gc_drw (h := ?_); intro _) | (refine gc_drw2 (h := ?_); intro _)) | (show GO _ _ _ _ _ (⟨some _, none, _⟩ :: _) _; first | refine go_op (hk := ?_) | (refine go_nw (hk := ?_); intro u; try simp only [llc, lln, lna, lza]) | (refine go_np (hk := ?_); intro id)) | (show GD _ _ _ _ _ _ _ (⟨some _, none, _⟩ :: _) _; first | refine gd_op (hk := ?_) | (refine gd_nw (hk := ?_); intro u; try simp only [llc, lln, lna, lza])) | (show GD2 _ _ _ _ _ _ _ _ _ _ _ _ _ _; first | refine gd2_nil rfl ?_ | refine gd2_op (hk := ?_) | (refine gd2_nw (hk := ?_); intro u; try simp only [llc, lln, lna, lza]) | refine gd2_l (hk := ?_) | refine gd2_lp (hk := ?_) | (refine gd2_newp (hk := ?_); intro id) | refine gd2_st (hk := ?_) | (refine gd2_bsl rfl rfl ?_; intro u; try simp only [llc, lln, lna, lza]) | (refine gd2_a (hk := ?_); intro u; try simp only [llc, lln, lna, lza])) | (show GO _ _ _ _ _ (⟨none, none, _⟩ :: _) _; refine go_st (hk := ?_)) | (show GD _ _ _ _ _ _ _ (⟨none, none, _⟩ :: _) _; refine gd_st (hk := ?_)) | (show GO _ _ _ _ _ (⟨_, some _, _⟩ :: _) _; first | refine go_in (hk := ?_) | refine go_out (hk := ?_) | refine go_void (hk := ?_)) | (show GK _ _ _ _ (blockK _ _ _); refine gk_past rfl ?_) | (show GC _ _ _ _ _ (.cond _ _ _) _; first | refine gc_yes (h1 := ?_) | refine gc_no (h1 := ?_))))
  refine go_callp rfl code_impl_commonFactor.callable (fun H hH => commonFactor_ok (by omega) (by omega)) ?_
  (repeat (first | refine gst (hk := ?_) | (with_reducible first | (refine gc_drw (h := ?_); intro _) | (refine gc_drw2 (h := ?_); intro _)) | (show GO _ _ _ _ _ (⟨some _, none, _⟩ :: _) _; first | refine go_op (hk := ?_) | (refine go_nw (hk := ?_); intro u; try simp only [llc, lln, lna, lza]) | (refine go_np (hk := ?_); intro id)) | (show GD _ _ _ _ _ _ _ (⟨some _, none, _⟩ :: _) _; first | refine gd_op (hk := ?_) | (refine gd_nw (hk := ?_); intro u; try simp only [llc, lln, lna, lza])) | (show GD2 _ _ _ _ _ _ _ _ _ _ _ _ _ _; first | refine gd2_nil rfl ?_ | refine gd2_op (hk := ?_) | (refine gd2_nw (hk := ?_); intro u; try simp only [llc, lln, lna, lza]) | refine gd2_l (hk := ?_) | refine gd2_lp (hk := ?_) | (refine gd2_newp (hk := ?_); intro id) | refine gd2_st (hk := ?_) | (refine gd2_bsl rfl rfl ?_; intro u; try simp only [llc, lln, lna, lza]) | (refine gd2_a (hk := ?_); intro u; try simp only [llc, lln, lna, lza])) | (show GO _ _ _ _ _ (⟨none, none, _⟩ :: _) _; refine go_st (hk := ?_)) | (show GD _ _ _ _ _ _ _ (⟨none, none, _⟩ :: _) _; refine gd_st (hk := ?_)) | (show GO _ _ _ _ _ (⟨_, some _, _⟩ :: _) _; first | refine go_in (hk := ?_) | refine go_out (hk := ?_) | refine go_void (hk := ?_)) | (show GK _ _ _ _ (blockK _ _ _); refine gk_past rfl ?_) | (show GC _ _ _ _ _ (.cond _ _ _) _; first | refine gc_yes (h1 := ?_) | refine gc_no (h1 := ?_))))
  refine gc_cond rfl (fun h => ?_) (fun h => ?_)
  · have d1 := tdiv_in (a := -a) (g := (Int.gcd a b : Nat)) (B := 4611686018427387904) (by omega)
    have d2 := tdiv_in (a := -b) (g := (Int.gcd a b : Nat)) (B := 4611686018427387904) (by omega)
    rw [show b.sign = -1 from Int.sign_eq_neg_one_of_neg h] at e1
    rw [show max b (-b) = -b by omega] at e2
    rw [show (-1 : Int) * a = -a by omega] at e1
    rw [← tdiv_negneg hg] at d1 d2
    (repeat (first | refine gst (hk := ?_) | (with_reducible first | (refine gc_drw (h := ?_); intro _) | (refine gc_drw2 (h := ?_); intro _)) | (show GO _ _ _ _ _ (⟨some _, none, _⟩ :: _) _; first | refine go_op (hk := ?_) | (refine go_nw (hk := ?_); intro u; try simp only [llc, lln, lna, lza]) | (refine go_np (hk := ?_); intro id)) | (show GD _ _ _ _ _ _ _ (⟨some _, none, _⟩ :: _) _; first | refine gd_op (hk := ?_) | (refine gd_nw (hk := ?_); intro u; try simp only [llc, lln, lna, lza])) | (show GD2 _ _ _ _ _ _ _ _ _ _ _ _ _ _; first | refine gd2_nil rfl ?_ | refine gd2_op (hk := ?_) | (refine gd2_nw (hk := ?_); intro u; try simp only [llc, lln, lna, lza]) | refine gd2_l (hk := ?_) | refine gd2_lp (hk := ?_) | (refine gd2_newp (hk := ?_); intro id) | refine gd2_st (hk := ?_) | (refine gd2_bsl rfl rfl ?_; intro u; try simp only [llc, lln, lna, lza]) | (refine gd2_a (hk := ?_); intro u; try simp only [llc, lln, lna, lza])) | (show GO _ _ _ _ _ (⟨none, none, _⟩ :: _) _; refine go_st (hk := ?_)) | (show GD _ _ _ _ _ _ _ (⟨none, none, _⟩ :: _) _; refine gd_st (hk := ?_)) | (show GO _ _ _ _ _ (⟨_, some _, _⟩ :: _) _; first | refine go_in (hk := ?_) | refine go_out (hk := ?_) | refine go_void (hk := ?_)) | (show GK _ _ _ _ (blockK _ _ _); refine gk_past rfl ?_) | (show GC _ _ _ _ _ (.cond _ _ _) _; first | refine gc_yes (h1 := ?_) | refine gc_no (h1 := ?_))))
    refine gd_is rfl (stp_quo (a := a) (b := -((Int.gcd a b : Nat) : Int)) (by exact rfl) (by exact rfl) (by omega) (by omega)) ?_
    (repeat (first | refine gst (hk := ?_) | (with_reducible first | (refine gc_drw (h := ?_); intro _) | (refine gc_drw2 (h := ?_); intro _)) | (show GO _ _ _ _ _ (⟨some _, none, _⟩ :: _) _; first | refine go_op (hk := ?_) | (refine go_nw (hk := ?_); intro u; try simp only [llc, lln, lna, lza]) | (refine go_np (hk := ?_); intro id)) | (show GD _ _ _ _ _ _ _ (⟨some _, none, _⟩ :: _) _; first | refine gd_op (hk := ?_) | (refine gd_nw (hk := ?_); intro u; try simp only [llc, lln, lna, lza])) | (show GD2 _ _ _ _ _ _ _ _ _ _ _ _ _ _; first | refine gd2_nil rfl ?_ | refine gd2_op (hk := ?_) | (refine gd2_nw (hk := ?_); intro u; try simp only [llc, lln, lna, lza]) | refine gd2_l (hk := ?_) | refine gd2_lp (hk := ?_) | (refine gd2_newp (hk := ?_); intro id) | refine gd2_st (hk := ?_) | (refine gd2_bsl rfl rfl ?_; intro u; try simp only [llc, lln, lna, lza]) | (refine gd2_a (hk := ?_); intro u; try simp only [llc, lln, lna, lza])) | (show GO _ _ _ _ _ (⟨none, none, _⟩ :: _) _; refine go_st (hk := ?_)) | (show GD _ _ _ _ _ _ _ (⟨none, none, _⟩ :: _) _; refine gd_st (hk := ?_)) | (show GO _ _ _ _ _ (⟨_, some _, _⟩ :: _) _; first | refine go_in (hk := ?_) | refine go_out (hk := ?_) | refine go_void (hk := ?_)) | (show GK _ _ _ _ (blockK _ _ _); refine gk_past rfl ?_) | (show GC _ _ _ _ _ (.cond _ _ _) _; first | refine gc_yes (h1 := ?_) | refine gc_no (h1 := ?_))))
    refine gd_is rfl (stp_quo (a := b) (b := -((Int.gcd a b : Nat) : Int)) (by exact rfl) (by exact rfl) (by omega) (by omega)) ?_
    (repeat (first | refine gst (hk := ?_) | (with_reducible first | (refine gc_drw (h := ?_); intro _) | (refine gc_drw2 (h := ?_); intro _)) | (show GO _ _ _ _ _ (⟨some _, none, _⟩ :: _) _; first | refine go_op (hk := ?_) | (refine go_nw (hk := ?_); intro u; try simp only [llc, lln, lna, lza]) | (refine go_np (hk := ?_); intro id)) | (show GD _ _ _ _ _ _ _ (⟨some _, none, _⟩ :: _) _; first | refine gd_op (hk := ?_) | (refine gd_nw (hk := ?_); intro u; try simp only [llc, lln, lna, lza])) | (show GD2 _ _ _ _ _ _ _ _ _ _ _ _ _ _; first | refine gd2_nil rfl ?_ | refine gd2_op (hk := ?_) | (refine gd2_nw (hk := ?_); intro u; try simp only [llc, lln, lna, lza]) | refine gd2_l (hk := ?_) | refine gd2_lp (hk := ?_) | (refine gd2_newp (hk := ?_); intro id) | refine gd2_st (hk := ?_) | (refine gd2_bsl rfl rfl ?_; intro u; try simp only [llc, lln, lna, lza]) | (refine gd2_a (hk := ?_); intro u; try simp only [llc, lln, lna, lza])) | (show GO _ _ _ _ _ (⟨none, none, _⟩ :: _) _; refine go_st (hk := ?_)) | (show GD _ _ _ _ _ _ _ (⟨none, none, _⟩ :: _) _; refine gd_st (hk := ?_)) | (show GO _ _ _ _ _ (⟨_, some _, _⟩ :: _) _; first | refine go_in (hk := ?_) | refine go_out (hk := ?_) | refine go_void (hk := ?_)) | (show GK _ _ _ _ (blockK _ _ _); refine gk_past rfl ?_) | (show GC _ _ _ _ _ (.cond _ _ _) _; first | refine gc_yes (h1 := ?_) | refine gc_no (h1 := ?_))))
    exact gk_retc rfl (by exact Sel.auto) rfl rfl fun H' hH => ⟨by rw [tdiv_negneg hg, tdiv_negneg hg, frV, e1, e2, Int.tdiv_eq_ediv_of_nonneg (show 0 ≤ -b by omega)]; rfl, hH.leE⟩
  · have d1 := tdiv_in (a := a) (g := (Int.gcd a b : Nat)) (B := 4611686018427387904) (by omega)
    have d2 := tdiv_in (a := b) (g := (Int.gcd a b : Nat)) (B := 4611686018427387904) (by omega)
    rw [show b.sign = 1 from Int.sign_eq_one_of_pos (by omega)] at e1
    rw [show max b (-b) = b by omega] at e2
    rw [show (1 : Int) * a = a by omega] at e1
    (repeat (first | refine gst (hk := ?_) | (with_reducible first | (refine gc_drw (h := ?_); intro _) | (refine gc_drw2 (h := ?_); intro _)) | (show GO _ _ _ _ _ (⟨some _, none, _⟩ :: _) _; first | refine go_op (hk := ?_) | (refine go_nw (hk := ?_); intro u; try simp only [llc, lln, lna, lza]) | (refine go_np (hk := ?_); intro id)) | (show GD _ _ _ _ _ _ _ (⟨some _, none, _⟩ :: _) _; first | refine gd_op (hk := ?_) | (refine gd_nw (hk := ?_); intro u; try simp only [llc, lln, lna, lza])) | (show GD2 _ _ _ _ _ _ _ _ _ _ _ _ _ _; first | refine gd2_nil rfl ?_ | refine gd2_op (hk := ?_) | (refine gd2_nw (hk := ?_); intro u; try simp only [llc, lln, lna, lza]) | refine gd2_l (hk := ?_) | refine gd2_lp (hk := ?_) | (refine gd2_newp (hk := ?_); intro id) | refine gd2_st (hk := ?_) | (refine gd2_bsl rfl rfl ?_; intro u; try simp only [llc, lln, lna, lza]) | (refine gd2_a (hk := ?_); intro u; try simp only [llc, lln, lna, lza])) | (show GO _ _ _ _ _ (⟨none, none, _⟩ :: _) _; refine go_st (hk := ?_)) | (show GD _ _ _ _ _ _ _ (⟨none, none, _⟩ :: _) _; refine gd_st (hk := ?_)) | (show GO _ _ _ _ _ (⟨_, some _, _⟩ :: _) _; first | refine go_in (hk := ?_) | refine go_out (hk := ?_) | refine go_void (hk := ?_)) | (show GK _ _ _ _ (blockK _ _ _); refine gk_past rfl ?_) | (show GC _ _ _ _ _ (.cond _ _ _) _; first | refine gc_yes (h1 := ?_) | refine gc_no (h1 := ?_))))
    refine gd_is rfl (stp_quo (a := a) (b := ((Int.gcd a b : Nat) : Int)) (by exact rfl) (by exact rfl) (by omega) (by omega)) ?_
    (repeat (first | refine gst (hk := ?_) | (with_reducible first | (refine gc_drw (h := ?_); intro _) | (refine gc_drw2 (h := ?_); intro _)) | (show GO _ _ _ _ _ (⟨some _, none, _⟩ :: _) _; first | refine go_op (hk := ?_) | (refine go_nw (hk := ?_); intro u; try simp only [llc, lln, lna, lza]) | (refine go_np (hk := ?_); intro id)) | (show GD _ _ _ _ _ _ _ (⟨some _, none, _⟩ :: _) _; first | refine gd_op (hk := ?_) | (refine gd_nw (hk := ?_); intro u; try simp only [llc, lln, lna, lza])) | (show GD2 _ _ _ _ _ _ _ _ _ _ _ _ _ _; first | refine gd2_nil rfl ?_ | refine gd2_op (hk := ?_) | (refine gd2_nw (hk := ?_); intro u; try simp only [llc, lln, lna, lza]) | refine gd2_l (hk := ?_) | refine gd2_lp (hk := ?_) | (refine gd2_newp (hk := ?_); intro id) | refine gd2_st (hk := ?_) | (refine gd2_bsl rfl rfl ?_; intro u; try simp only [llc, lln, lna, lza]) | (refine gd2_a (hk := ?_); intro u; try simp only [llc, lln, lna, lza])) | (show GO _ _ _ _ _ (⟨none, none, _⟩ :: _) _; refine go_st (hk := ?_)) | (show GD _ _ _ _ _ _ _ (⟨none, none, _⟩ :: _) _; refine gd_st (hk := ?_)) | (show GO _ _ _ _ _ (⟨_, some _, _⟩ :: _) _; first | refine go_in (hk := ?_) | refine go_out (hk := ?_) | refine go_void (hk := ?_)) | (show GK _ _ _ _ (blockK _ _ _); refine gk_past rfl ?_) | (show GC _ _ _ _ _ (.cond _ _ _) _; first | refine gc_yes (h1 := ?_) | refine gc_no (h1 := ?_))))
    exact gk_retc rfl (by exact Sel.auto) rfl rfl fun H' hH => ⟨by rw [frV, e1, e2]; rfl, hH.leE⟩

theorem implPlus_ok {H : Heap} {p q : Rat} (hf : FitA p q) :
    ACalls Try.prog fn_impl_Frac_plus [frV p, frV q] H fun r H' => r = frV (p + q) ∧ H' = H := by
  refine ACalls.val ?_ rfl
  obtain ⟨h1, h2, h3⟩ := hf
  have h4 := dd_pos p q
  unfold frV
  refine code_impl_Frac_plus.go [] trivial (by simp) ?_
  unfold mc_impl_Frac_plus
  (repeat (first | refine gst (hk := ?_) | (show GO _ _ _ _ _ (⟨some _, none, _⟩ :: _) _; first | refine go_op (hk := ?_) | (refine go_nw (hk := ?_); intro u; try simp only [llc, lln, lna, lza]) | (refine go_np (hk := ?_); intro id)) | (show GO _ _ _ _ _ (⟨none, none, _⟩ :: _) _; refine go_st (hk := ?_)) | (show GO _ _ _ _ _ (⟨_, some _, _⟩ :: _) _; first | refine go_in (hk := ?_) | refine go_out (hk := ?_) | refine go_void (hk := ?_)) | (show GK _ _ _ _ (blockK _ _ _); refine gk_past rfl ?_) | (show GC _ _ _ _ _ (.cond _ _ _) _; first | refine gc_yes (h1 := ?_) | refine gc_no (h1 := ?_))))
  refine go_callp rfl code_impl_lowest.callable (fun H hH => lowest_ok (by omega) (by omega) (by omega)) ?_
  rw [add_nd]
  (repeat (first | refine gst (hk := ?_) | (show GO _ _ _ _ _ (⟨some _, none, _⟩ :: _) _; first | refine go_op (hk := ?_) | (refine go_nw (hk := ?_); intro u; try simp only [llc, lln, lna, lza]) | (refine go_np (hk := ?_); intro id)) | (show GO _ _ _ _ _ (⟨none, none, _⟩ :: _) _; refine go_st (hk := ?_)) | (show GO _ _ _ _ _ (⟨_, some _, _⟩ :: _) _; first | refine go_in (hk := ?_) | refine go_out (hk := ?_) | refine go_void (hk := ?_)) | (show GK _ _ _ _ (blockK _ _ _); refine gk_past rfl ?_) | (show GC _ _ _ _ _ (.cond _ _ _) _; first | refine gc_yes (h1 := ?_) | refine gc_no (h1 := ?_))))
  exact gk_retc rfl (by exact Sel.auto) rfl rfl fun H' hH => ⟨rfl, hH.leE⟩

theorem fitA_neg {p q : Rat} (hf : FitA p q) : FitA p (-q) := by
  obtain ⟨h1, h2, h3⟩ := hf
  unfold FitA
  rw [Rat.neg_num, Rat.neg_den, Int.neg_mul]
  exact ⟨h1, by omega, h3⟩

theorem implMinus_ok {H : Heap} {p q : Rat} (hf : FitA p q) (hq : -4611686018427387904 ≤ q.num ∧ q.num ≤ 4611686018427387904) :
    ACalls Try.prog fn_impl_Frac_minus [frV p, frV q] H fun r H' => r = frV (p - q) ∧ H' = H := by
  refine ACalls.val ?_ rfl
  have hn := fitA_neg hf
  have e : frV (-q) = .agg [.int .i64 (-q.num), .int .i64 (q.den : Int)] := by rw [frV, Rat.neg_num, Rat.neg_den]
  have e3 : p + -q = p - q := by grind
  unfold frV
  refine code_impl_Frac_minus.go [] trivial (by simp) ?_
  unfold mc_impl_Frac_minus
  (repeat (first | refine gst (hk := ?_) | (show GO _ _ _ _ _ (⟨some _, none, _⟩ :: _) _; first | refine go_op (hk := ?_) | (refine go_nw (hk := ?_); intro u; try simp only [llc, lln, lna, lza]) | (refine go_np (hk := ?_); intro id)) | (show GO _ _ _ _ _ (⟨none, none, _⟩ :: _) _; refine go_st (hk := ?_)) | (show GO _ _ _ _ _ (⟨_, some _, _⟩ :: _) _; first | refine go_in (hk := ?_) | refine go_out (hk := ?_) | refine go_void (hk := ?_)) | (show GK _ _ _ _ (blockK _ _ _); refine gk_past rfl ?_) | (show GC _ _ _ _ _ (.cond _ _ _) _; first | refine gc_yes (h1 := ?_) | refine gc_no (h1 := ?_))))
  refine go_callp rfl code_impl_Frac_plus.callable (fun H hH => by
    have h := implPlus_ok (H := H) hn
    rw [e, e3] at h
    exact h) ?_
  (repeat (first | refine gst (hk := ?_) | (show GO _ _ _ _ _ (⟨some _, none, _⟩ :: _) _; first | refine go_op (hk := ?_) | (refine go_nw (hk := ?_); intro u; try simp only [llc, lln, lna, lza]) | (refine go_np (hk := ?_); intro id)) | (show GO _ _ _ _ _ (⟨none, none, _⟩ :: _) _; refine go_st (hk := ?_)) | (show GO _ _ _ _ _ (⟨_, some _, _⟩ :: _) _; first | refine go_in (hk := ?_) | refine go_out (hk := ?_) | refine go_void (hk := ?_)) | (show GK _ _ _ _ (blockK _ _ _); refine gk_past rfl ?_) | (show GC _ _ _ _ _ (.cond _ _ _) _; first | refine gc_yes (h1 := ?_) | refine gc_no (h1 := ?_))))
  exact gk_retc rfl (by exact Sel.auto) rfl rfl fun H' hH => ⟨rfl, hH.leE⟩

/-- times a whole number -/
theorem implTimes_ok {H : Heap} {p : Rat} {n : Int} (hf : FitM p (n : Rat)) :
    ACalls Try.prog fn_impl_Frac_times [frV p, .int .i64 n] H fun r H' => r = frV (p * (n : Rat)) ∧ H' = H := by
  refine ACalls.val ?_ rfl
  obtain ⟨h1, h3⟩ := hf
  have h4 := dd_pos p (n : Rat)
  have e := mul_nd p (n : Rat)
  simp only [Rat.num_intCast, Rat.den_intCast, Int.natCast_one, Int.mul_one] at h1 h3 h4 e
  unfold frV
  refine code_impl_Frac_times.go [] trivial (by simp) ?_
  unfold mc_impl_Frac_times
  (repeat (first | refine gst (hk := ?_) | (show GO _ _ _ _ _ (⟨some _, none, _⟩ :: _) _; first | refine go_op (hk := ?_) | (refine go_nw (hk := ?_); intro u; try simp only [llc, lln, lna, lza]) | (refine go_np (hk := ?_); intro id)) | (show GO _ _ _ _ _ (⟨none, none, _⟩ :: _) _; refine go_st (hk := ?_)) | (show GO _ _ _ _ _ (⟨_, some _, _⟩ :: _) _; first | refine go_in (hk := ?_) | refine go_out (hk := ?_) | refine go_void (hk := ?_)) | (show GK _ _ _ _ (blockK _ _ _); refine gk_past rfl ?_) | (show GC _ _ _ _ _ (.cond _ _ _) _; first | refine gc_yes (h1 := ?_) | refine gc_no (h1 := ?_))))
  refine go_callp rfl code_impl_lowest.callable (fun H hH => lowest_ok (by omega) (by omega) (by omega)) ?_
  rw [e]
  (repeat (first | refine gst (hk := ?_) | (show GO _ _ _ _ _ (⟨some _, none, _⟩ :: _) _; first | refine go_op (hk := ?_) | (refine go_nw (hk := ?_); intro u; try simp only [llc, lln, lna, lza]) | (refine go_np (hk := ?_); intro id)) | (show GO _ _ _ _ _ (⟨none, none, _⟩ :: _) _; refine go_st (hk := ?_)) | (show GO _ _ _ _ _ (⟨_, some _, _⟩ :: _) _; first | refine go_in (hk := ?_) | refine go_out (hk := ?_) | refine go_void (hk := ?_)) | (show GK _ _ _ _ (blockK _ _ _); refine gk_past rfl ?_) | (show GC _ _ _ _ _ (.cond _ _ _) _; first | refine gc_yes (h1 := ?_) | refine gc_no (h1 := ?_))))
  exact gk_retc rfl (by exact Sel.auto) rfl rfl fun H' hH => ⟨rfl, hH.leE⟩

/-- which fraction is less: -1, 0, 1 -/
def cmR (p q : Rat) : Int := sgn (p.num * (q.den : Int) - q.num * (p.den : Int))

theorem cmR_neg {p q : Rat} : cmR p q < 0 ↔ p < q := by
  rw [Rat.lt_iff]; unfold cmR sgn
  split
  · omega
  · split <;> omega

theorem implCompare_ok {H : Heap} {p q : Rat} (hf : FitA p q) :
    ACalls Try.prog fn_impl_Frac_compare [frV p, frV q] H fun r H' => r = .int .i64 (cmR p q) ∧ H' = H := by
  refine ACalls.val ?_ rfl
  obtain ⟨h1, h2, h3⟩ := hf
  unfold frV
  refine code_impl_Frac_compare.go [] trivial (by simp) ?_
  unfold mc_impl_Frac_compare
  (repeat (first | refine gst (hk := ?_) | (refine gq_call rfl (fun _ => qtCmp_is) ?_) | (show GO _ _ _ _ _ (⟨some _, none, _⟩ :: _) _; first | refine go_op (hk := ?_) | (refine go_nw (hk := ?_); intro u; try simp only [llc, lln, lna, lza]) | (refine go_np (hk := ?_); intro id)) | (show GO _ _ _ _ _ (⟨none, none, _⟩ :: _) _; refine go_st (hk := ?_)) | (show GO _ _ _ _ _ (⟨_, some _, _⟩ :: _) _; first | refine go_in (hk := ?_) | refine go_out (hk := ?_) | refine go_void (hk := ?_)) | (show GK _ _ _ _ (blockK _ _ _); refine gk_past rfl ?_) | (show GC _ _ _ _ _ (.cond _ _ _) _; first | refine gc_yes (h1 := ?_) | refine gc_no (h1 := ?_))))
  refine go_callp rfl code_cmp_Compare_int.callable (fun H hH => compare_ok) ?_
  (repeat (first | refine gst (hk := ?_) | (refine gq_call rfl (fun _ => qtCmp_is) ?_) | (show GO _ _ _ _ _ (⟨some _, none, _⟩ :: _) _; first | refine go_op (hk := ?_) | (refine go_nw (hk := ?_); intro u; try simp only [llc, lln, lna, lza]) | (refine go_np (hk := ?_); intro id)) | (show GO _ _ _ _ _ (⟨none, none, _⟩ :: _) _; refine go_st (hk := ?_)) | (show GO _ _ _ _ _ (⟨_, some _, _⟩ :: _) _; first | refine go_in (hk := ?_) | refine go_out (hk := ?_) | refine go_void (hk := ?_)) | (show GK _ _ _ _ (blockK _ _ _); refine gk_past rfl ?_) | (show GC _ _ _ _ _ (.cond _ _ _) _; first | refine gc_yes (h1 := ?_) | refine gc_no (h1 := ?_))))
  exact gk_ret rfl fun H' hH => ⟨rfl, hH.leE⟩

def cellsK {α : Type} (c : α → List AV) : List α → List AV
  | [] => []
  | q :: L => c q ++ cellsK c L

structure Cels {α : Type} (c : α → List AV) (k : Nat) : Prop where
  len : ∀ a, (c a).length = k
  one : ∀ a, (c a).all AV.one = true

theorem ck_len {α : Type} {c : α → List AV} {k : Nat} (h : Cels c k) : ∀ L : List α, (cellsK c L).length = L.length * k
  | [] => by simp [cellsK]
  | q :: L => by rw [cellsK, List.length_append, ck_len h L, h.len, List.length_cons, Nat.add_mul]; omega

theorem ck_app {α : Type} {c : α → List AV} : ∀ L M : List α, cellsK c (L ++ M) = cellsK c L ++ cellsK c M
  | [], M => rfl
  | q :: L, M => by rw [List.cons_append, cellsK, cellsK, ck_app L M, List.append_assoc]

theorem ck_one {α : Type} {c : α → List AV} {k : Nat} (h : Cels c k) : ∀ L : List α, (cellsK c L).all AV.one = true
  | [] => rfl
  | q :: L => by rw [cellsK, List.all_append, ck_one h L, h.one]; rfl

theorem ck_take {α : Type} {c : α → List AV} {k : Nat} (h : Cels c k) : ∀ (L : List α) (i : Nat), (cellsK c L).take (i * k) = cellsK c (L.take i)
  | [], i => by simp [cellsK]
  | q :: L, 0 => by simp [cellsK]
  | q :: L, i + 1 => by
    rw [List.take_succ_cons, cellsK, cellsK, show (i + 1) * k = (c q).length + i * k by rw [h.len, Nat.add_mul]; omega, List.take_length_add_append, ck_take h L i]

theorem ck_drop {α : Type} {c : α → List AV} {k : Nat} (h : Cels c k) : ∀ (L : List α) (i : Nat), (cellsK c L).drop (i * k) = cellsK c (L.drop i)
  | [], i => by simp [cellsK]
  | q :: L, 0 => by simp
  | q :: L, i + 1 => by
    rw [List.drop_succ_cons, cellsK, show (i + 1) * k = (c q).length + i * k by rw [h.len, Nat.add_mul]; omega, List.drop_length_add_append, ck_drop h L i]

def nthA {α : Type} (d : α) (L : List α) (i : Nat) : α := L.getD i d

theorem nthA_of {α : Type} {d : α} {L : List α} {i : Nat} (h : i < L.length) : nthA d L i = L[i] := by
  unfold nthA
  rw [List.getD_eq_getElem?_getD, List.getElem?_eq_getElem h]; rfl

theorem ck_at {α : Type} {c : α → List AV} {k : Nat} (hc : Cels c k) {d : α} {L : List α} {i : Nat} (h : i < L.length) : ((cellsK c L).drop (i * k)).take k = c (nthA d L i) := by
  have h1 := ck_take hc (L.drop i) 1
  rw [Nat.one_mul] at h1
  rw [ck_drop hc, h1, nthA_of h, List.drop_eq_getElem_cons h, List.take_succ_cons]
  simp [cellsK]

theorem packC_agg (ds : List AV) : packC true ds = some (.agg ds) := by unfold packC; split <;> rfl

theorem stp_ldK {α : Type} {c : α → List AV} {k : Nat} (hc : Cels c k) (d : α) {A : Heap} {X : List Nat} {E : List (Nat × AV)} {S : Sig} {p : MX} {v : AV} {n i : Nat} {L : List α} (hp : evE E p = some (v.elem i)) (hh : Has S v k n (cellsK c L)) (hn : n = L.length) (hi : i < L.length) : Stp A X E S (.ld p k true) (Is (.agg (c (nthA d L i))) S) :=
  stp_ldn hp hh (by omega) (ck_at hc hi) (packC_agg _)

theorem stp_appK {α : Type} {c : α → List AV} {k bytes : Nat} (hc : Cels c k) (hk : 0 < k) {A : Heap} {X : List Nat} {E : List (Nat × AV)} {S S0 : Sig} {v w : AV} {x y : MX} {n m' : Nat} {L M : List α} (hx : evE E x = some v) (hy : evE E y = some w) (hs : Sel S ⟨.rw, v, k, n, cellsK c L⟩ S0) (hh : Has S w k m' (cellsK c M)) (hb : (n + m') * bytes ≤ 140737488355328) (hm2 : n + m' ≤ 1000000000000) :
    Stp A X E S (.app x y k bytes) (New fun u => ⟨.rw, u, k, n + m', cellsK c (L ++ M)⟩ :: S0) := by
  simp only [ck_app]
  exact stp_app hx hy hs hh (ck_one hc M) (by omega) (by omega) hm2

theorem ck_set {α : Type} {c : α → List AV} {k : Nat} (hc : Cels c k) {L : List α} {i : Nat} (hi : i < L.length) (a : α) : (cellsK c L).take (i * k) ++ c a ++ (cellsK c L).drop (i * k + k) = cellsK c (L.set i a) := by
  rw [ck_take hc, show i * k + k = (i + 1) * k by rw [Nat.add_mul]; omega, ck_drop hc, List.set_eq_take_append_cons_drop, if_pos hi, ck_app, List.append_assoc]
  rfl

theorem stp_stK {α : Type} {c : α → List AV} {k : Nat} (hc : Cels c k) {A : Heap} {X : List Nat} {E : List (Nat × AV)} {S S0 : Sig} {p x : MX} {v : AV} {n i : Nat} {L : List α} {a : α} (hp : evE E p = some (v.elem i)) (hx : evE E x = some (.agg (c a))) (hs : Sel S ⟨.rw, v, k, n, cellsK c L⟩ S0) (hn : n = L.length) (hi : i < n) : Stp A X E S (.st p x k) (Is .any (⟨.rw, v, k, n, cellsK c (L.set i a)⟩ :: S0)) := by
  refine ⟨?_⟩
  intro τ H m nid hE hS hm
  have hS' := hS.sel hs
  have hcc := hS'.ch ⟨.rw, v, k, n, cellsK c L⟩ (by simp)
  obtain ⟨h1, h2, h3⟩ := hcc
  simp only at h1 h2 h3
  rcases h3 with ⟨_, h3⟩ | ⟨id, rfl, h4, h5⟩
  · omega
  · have hle : i * k + k ≤ n * k := by
      have := Nat.mul_le_mul_right k (show i + 1 ≤ n by omega)
      rw [Nat.add_mul] at this; omega
    have hH : H.write (AV.elem (.slice id 0 n none k) i) (c a) = some (H.put id (some ⟨true, cellsK c (L.set i a)⟩)) := by
      simp only [AV.elem, Heap.write, h5]
      rw [if_pos ⟨trivial, by rw [hc.len, h2]; omega, hc.one a⟩, Nat.zero_add, hc.len, ck_set hc (by omega)]
    refine ⟨.any, _, H.put id (some ⟨true, cellsK c (L.set i a)⟩), m, ⟨rfl, rfl⟩, ?_, ?_, Nat.le_refl _, by omega, Nat.le_refl _⟩
    · simp only [mstep, ev_of hE hp, ev_of hE hx, AV.cells, hc.len, if_true, hH, Option.map_some]
    · refine hS'.mod rfl ?_ (Nat.le_refl _) hS.mh ?_ (.inl rfl)
      · intro id' _ hne
        rw [Heap.get_put, if_neg]
        intro e; subst e; exact hne rfl
      · refine ⟨h1, by simp [ck_len hc, hn], .inr ⟨id, rfl, h4, by simp [Heap.get_put]⟩⟩

theorem zrep_K {α : Type} {c : α → List AV} {k : Nat} (hc : Cels c k) (a : α) : ∀ n, zrep (c a) (n * k) = cellsK c (List.replicate n a)
  | 0 => by simp [zrep, cellsK]
  | n + 1 => by
    rw [List.replicate_succ', ck_app, ← zrep_K hc a n]
    unfold zrep
    rw [Nat.add_mul, Nat.one_mul, List.range_add, List.map_append, List.map_map]
    congr 1
    have e : cellsK c [a] = c a := by simp [cellsK]
    rw [e, hc.len]
    apply List.ext_getElem
    · simp [hc.len]
    · intro i h1 h2
      rw [hc.len] at h2
      simp only [List.getElem_map, List.getElem_range, Function.comp]
      rw [show n * k + i = i + k * n by rw [Nat.mul_comm]; omega, Nat.add_mul_mod_self_left, Nat.mod_eq_of_lt h2, List.getD_eq_getElem?_getD, List.getElem?_eq_getElem (by rw [hc.len]; exact h2)]
      rfl

theorem stp_mkK {α : Type} {c : α → List AV} {k bytes : Nat} (hc : Cels c k) (a : α) {A : Heap} {X : List Nat} {E : List (Nat × AV)} {S : Sig} {x y : MX} {z : List AV} {l : Int} (n : Nat) (hx : evE E x = some (.int .i64 l)) (hy : evE E y = some (.int .i64 l)) (hl : l = (n : Int)) (hz : z = c a) (hn : bytes * n ≤ 281474976710656) (hn2 : n ≤ 1000000000000) : Stp A X E S (.mks x y z k bytes) (New fun v => ⟨.rw, v, k, n, cellsK c (List.replicate n a)⟩ :: S) := by
  subst hz; subst hl
  refine ⟨?_⟩
  intro τ H m nid hE hS hm
  have hs := Heap.lt_new H nid (some ⟨true, cellsK c (List.replicate n a)⟩)
  refine ⟨.slice nid 0 n none k, _, H.new nid (some ⟨true, cellsK c (List.replicate n a)⟩), nid + 1, rfl, ?_, ?_, by omega, Nat.le_refl _, Heap.size_le_new _ _ _⟩
  · simp only [mstep, ev_of hE hx, ev_of hE hy]
    rw [if_pos ⟨by omega, by omega, by omega, by rw [← Int.natCast_mul]; omega⟩]
    simp only [Int.toNat_natCast, zrep_K hc]
  · refine hS.add ?_ (by omega) hs ⟨?_, ?_, .inr ⟨nid, rfl, .inl (by have := hS.am; omega), by simp [Heap.get_new]⟩⟩ ?_
    · intro id hid; rw [Heap.get_new, if_neg (by omega)]
    · intro k hk; simp only [AV.bid, Option.some.injEq] at hk; omega
    · simp [ck_len hc]
    · intro k hk; simp only [AV.bid, Option.some.injEq] at hk; omega

/-- a part of a slice of one's own -/
def subW : AV → Nat → Nat → AV
  | .slice id off _ cap es, l, h => .slice id (off + l * es) (h - l) (cap.map (· - l)) es
  | v, _, _ => v

theorem stp_slw {A : Heap} {X : List Nat} {E : List (Nat × AV)} {S S0 : Sig} {x z : MX} {v : AV} {k n l : Nat} {cs : List AV} (hx : evE E x = some v) (hz : evE E z = some (.int .i64 (l : Int))) (hs : Sel S ⟨.rw, v, k, n, cs⟩ S0) (hl : l ≤ n) : Stp A X E S (.sl x (some z) none none k) (Is (subW v l n) S) :=
  stp_pure fun τ H m nid hE hS => by
    have hcc := (hS.sel hs).ch ⟨.rw, v, k, n, cs⟩ (by simp)
    obtain ⟨h1, h2, h3⟩ := hcc
    simp only at h1 h2 h3
    have e1 : bnd n (some (AV.int .i64 (l : Int))) 0 = some l := by
      simp only [bnd]; rw [if_pos (by omega)]; simp
    rcases h3 with ⟨rfl, h3⟩ | ⟨id, rfl, h4, h5⟩
    · subst h3
      simp only [mstep, ev_of hE hx, Option.map_some, Option.map_none, ev_of hE hz, msl, AV.len]
      have e0 : bnd 0 (none : Option AV) 0 = some 0 := rfl
      simp only [e0, e1, subW]; rfl
    · have e0 : bnd n (none : Option AV) n = some n := rfl
      simp only [mstep, ev_of hE hx, Option.map_some, Option.map_none, ev_of hE hz, msl, AV.len, e0, e1, subW]
      simp

def pnC (p : Int × Int) : List AV := [.int .i64 p.1, .int .i64 p.2]

theorem cels_pn : Cels pnC 2 := ⟨fun _ => rfl, fun _ => rfl⟩

abbrev pns (L : List (Int × Int)) : List AV := cellsK pnC L

abbrev pnV (p : Int × Int) : AV := .agg [.int .i64 p.1, .int .i64 p.2]

abbrev nthP (L : List (Int × Int)) (i : Nat) : Int × Int := nthA (0, 0) L i

abbrev roP (u : AV) (n : Nat) (L : List (Int × Int)) : Ch := ⟨.ro, u, 2, n, pns L⟩

abbrev rwP (u : AV) (n : Nat) (L : List (Int × Int)) : Ch := ⟨.rw, u, 2, n, pns L⟩
/- fits: a line and what it misses -/

def tabS {α : Type} (n : Nat) (f : Nat → α) : List α := (List.range n).map f

theorem tabS_len {α : Type} (n : Nat) (f : Nat → α) : (tabS n f).length = n := by simp [tabS]

theorem tabS_nth {α : Type} {d : α} {n : Nat} {f : Nat → α} {i : Nat} (h : i < n) : nthA d (tabS n f) i = f i := by
  rw [nthA_of (by rw [tabS_len]; exact h)]
  simp [tabS]

theorem tabS_set {α : Type} {n i : Nat} {f : Nat → α} {x : α} : (tabS n f).set i x = tabS n fun k => if k = i then x else f k := by
  apply List.ext_getElem
  · simp [tabS]
  · intro k h1 h2
    rw [List.getElem_set]
    simp only [tabS, List.getElem_map, List.getElem_range]
    by_cases h : i = k
    · subst h; simp
    · rw [if_neg h, if_neg (fun e => h e.symm)]

theorem tabS_congr {α : Type} {n : Nat} {f g : Nat → α} (h : ∀ i, i < n → f i = g i) : tabS n f = tabS n g := by
  unfold tabS
  exact List.map_congr_left fun i hi => h i (List.mem_range.1 hi)

theorem tabS_rep {α : Type} (n : Nat) (a : α) : List.replicate n a = tabS n fun _ => a := by
  apply List.ext_getElem
  · simp [tabS]
  · intro k h1 h2
    simp [tabS]

def ptL (xs ys : List Int) : List (Int × Int) := tabS xs.length fun k => (nth xs k, nth ys k)

theorem ptL_len (xs ys : List Int) : (ptL xs ys).length = xs.length := tabS_len _ _

theorem ptL_nth {xs ys : List Int} {i : Nat} (h : i < xs.length) : nthP (ptL xs ys) i = (nth xs i, nth ys i) := tabS_nth h

def PtsM (xs ys : List Int) (m : Nat) : Prop := (xs.length = ys.length ∧ 1 ≤ xs.length ∧ xs.length ≤ m) ∧ PtsT xs ys xs.length

noncomputable instance (xs ys : List Int) (m : Nat) : Decidable (PtsM xs ys m) := Classical.propDecidable _

theorem Cloud.m {xs ys : List Int} (h : Cloud xs ys) : PtsM xs ys 7 := by
  obtain ⟨⟨h1, h2, h3⟩, i, h4, h5, _⟩ := h
  exact ⟨⟨h2, by omega, h3⟩, h1⟩

theorem implWhole_ok' {H : Heap} {n : Int} : ACalls Try.prog fn_impl_whole [.int .i64 n] H fun r H' => r = frV (n : Rat) ∧ H' = H := by
  refine ACalls.val ?_ rfl
  refine code_impl_whole.go [] trivial (by simp) ?_
  unfold mc_impl_whole
  (repeat (first | refine gst (hk := ?_) | (show GO _ _ _ _ _ (⟨some _, none, _⟩ :: _) _; first | refine go_op (hk := ?_) | (refine go_nw (hk := ?_); intro u; try simp only [llc, lln, lna, lza]) | (refine go_np (hk := ?_); intro id)) | (show GO _ _ _ _ _ (⟨none, none, _⟩ :: _) _; refine go_st (hk := ?_)) | (show GO _ _ _ _ _ (⟨_, some _, _⟩ :: _) _; first | refine go_in (hk := ?_) | refine go_out (hk := ?_) | refine go_void (hk := ?_)) | (show GK _ _ _ _ (blockK _ _ _); refine gk_past rfl ?_) | (show GC _ _ _ _ _ (.cond _ _ _) _; first | refine gc_yes (h1 := ?_) | refine gc_no (h1 := ?_))))
  exact gk_retc rfl (by exact Sel.auto) rfl rfl fun H' hH => ⟨rfl, hH.leE⟩

theorem implMinusA_ok {H : Heap} {p q : Rat} (hf : FitA p q) :
    ACalls Try.prog fn_impl_Frac_minus [frV p, frV q] H fun r H' => r = frV (p - q) ∧ H' = H := by
  have h := mul_le_self (a := q.num) (m := (p.den : Int)) (B := 2000000000000000000) (by have := den_pos p; omega) ⟨hf.2.1.1, hf.2.1.2⟩
  exact implMinus_ok hf (by omega)

noncomputable def dPlusI := fam2 FitA fun p q => frV (p + q)

noncomputable def dMinusI := fam2 FitA fun p q => frV (p - q)

theorem dPlusI_ok (H : Heap) : FamOk Try.prog H fn_impl_Frac_plus dPlusI := fam2_ok code_impl_Frac_plus.callable (fun h => implPlus_ok h) H

theorem dMinusI_ok (H : Heap) : FamOk Try.prog H fn_impl_Frac_minus dMinusI := fam2_ok code_impl_Frac_minus.callable (fun h => implMinusA_ok h) H

def dWhole : List AV → Option AV
  | [.int .i64 n] => some (frV (n : Rat))
  | _ => none

theorem dWhole_ok (H : Heap) : FamOk Try.prog H fn_impl_whole dWhole := by
  intro args v hv
  unfold dWhole at hv
  split at hv
  · simp only [Option.some.injEq] at hv; subst hv
    exact ⟨code_impl_whole.callable, implWhole_ok'⟩
  · cases hv

noncomputable def dTimesI : List AV → Option AV
  | [v, .int .i64 n] => match frOf v with
    | some p => by
      classical
      exact if FitM p (n : Rat) then some (frV (p * (n : Rat))) else none
    | none => none
  | _ => none

theorem dTimesI_is {p : Rat} {n : Int} (h : FitM p (n : Rat)) : dTimesI [frV p, .int .i64 n] = some (frV (p * (n : Rat))) := by
  simp only [dTimesI, frOf_frV]
  exact if_pos h

theorem dTimesI_ok (H : Heap) : FamOk Try.prog H fn_impl_Frac_times dTimesI := by
  intro args v hv
  unfold dTimesI at hv
  split at hv
  · split at hv
    · rename_i p h1
      split at hv
      · rename_i hF
        simp only [Option.some.injEq] at hv; subst hv
        rw [frOf_some h1]
        exact ⟨code_impl_Frac_times.callable, implTimes_ok hF⟩
      · cases hv
    · cases hv
  · cases hv

/-- what a slice holds stays, in a heap with the same blocks -/
theorem acalls_vals {P : Program} {f : FuncId} {args : List AV} {H H0 : Heap} {R : AV → Heap → Prop} {v : AV} {es n : Nat} {cs : List AV} (hv : Vals H0 v es n cs) (hs : ∀ id, id < H0.size → H.get id = H0.get id) (hn : 0 < n) (h : Vals H v es n cs → ACalls P f args H R) : ACalls P f args H R := by
  cases v with
  | slice id off n' cap es' =>
    have hid := hv.bid id rfl
    have hlen : n' = n := hv.len
    have hrow : H.row (.slice id off n' cap es') = some cs := by
      rw [← hv.row]
      simp only [Heap.row]
      split
      · rfl
      · simp only [Heap.read, hs id hid]
    by_cases hb : id < H.size
    · exact h ⟨hv.sl, hv.len, hv.esn, hv.cells, hrow, fun k hk => by simp only [AV.bid, Option.some.injEq] at hk; omega⟩
    · intro ι w us hh hu
      exfalso
      cases hgg : H.get id with
      | none =>
        simp only [Heap.row, Heap.read, hgg] at hrow
        rw [if_neg (by omega)] at hrow
        cases hrow
      | some b =>
        obtain ⟨r, hr, _⟩ := hh.blk _ b hgg
        rw [hh.fresh _ (by omega)] at hr; cases hr
  | nilSlice =>
    have hlen : 0 = n := hv.len
    omega
  | _ =>
    have := hv.sl
    simp [AV.isSlice] at this

theorem sel_of_mem {c : Ch} : ∀ {S : Sig}, c ∈ S → ∃ S0, Sel S c S0 ∧ (c :: S0).Perm S
  | [], h => by cases h
  | d :: S, h => by
    rcases List.mem_cons.1 h with rfl | h
    · exact ⟨S, .head, List.Perm.refl _⟩
    · obtain ⟨S0, h1, h2⟩ := sel_of_mem h
      exact ⟨d :: S0, .tail h1, (List.Perm.swap d c S0).trans (h2.cons d)⟩

theorem sub_perm : ∀ {S' S : Sig}, S'.Perm S → Sub S S'
  | [], _, _ => .nil
  | c :: R, S, h => by
    obtain ⟨S0, h1, h2⟩ := sel_of_mem (h.mem_iff.1 (List.mem_cons_self ..))
    exact .cons h1 (sub_perm (h.trans h2.symm).cons_inv)

theorem sub_pre : ∀ {S' R S : Sig}, Sub S (S' ++ R) → Sub S S'
  | [], _, _, _ => .nil
  | _ :: _, _, _, .cons h h' => .cons h (sub_pre h')

theorem go_freeze {P : Program} {A : Heap} {X : List Nat} {E : List (Nat × AV)} {S S0 : Sig} {K : St → Prop} {l : List MI} {v : AV} {es n : Nat} {cs : List AV} (hs : Sel S ⟨.rw, v, es, n, cs⟩ S0) (h : GO P A X E (⟨.ro, v, es, n, cs⟩ :: S0) l K) : GO P A X E S l K := ⟨fun s hf => h.g s ⟨hf.env, (hf.ok.sel hs).freeze⟩⟩

theorem gc_nilK {P : Program} {A : Heap} {X : List Nat} {E : List (Nat × AV)} {S : Sig} {c : MC} {Q : Exit → St → Prop} (es : Nat) (h : GC P A X E (⟨.rw, .nilSlice, es, 0, []⟩ :: S) c Q) : GC P A X E S c Q := ⟨fun s hf => h.g s ⟨hf.env, hf.ok.nil es⟩⟩

noncomputable def dOne (args : List AV) (r : AV) : List AV → Option AV := fun a => by
  classical
  exact if a = args then some r else none

theorem dOne_is {args : List AV} {r : AV} : dOne args r args = some r := if_pos rfl

theorem dOne_ok {P : Program} {H : Heap} {f : FuncId} {args : List AV} {r : AV} (hc : Callable P f) (h : ACalls P f args H fun r' H' => r' = r ∧ H' = H) : FamOk P H f (dOne args r) := by
  intro a v hv
  unfold dOne at hv
  split at hv
  · rename_i e
    simp only [Option.some.injEq] at hv; subst hv; subst e
    exact ⟨hc, h⟩
  · cases hv

structure GD4 (P : Program) (Qt : FuncId → List AV → Option AV) (base k : Nat) (A : Heap) (X : List Nat) (E : List (Nat × AV)) (S : Sig) (acc : List (List Nat × List Nat)) (prs : List (Nat × Nat)) (l : List MI) (C : List (List Nat × List Nat) → Prop) (K : St → Prop) : Prop where
  g : ∀ s m, EnvOk E s.τ → SOk A X S m s.H → m ≤ base + k → dopsC P Qt base k l s acc prs C K

theorem gc_drw4 {P : Program} {A : Heap} {X : List Nat} {E : List (Nat × AV)} {S : Sig} {Q : Exit → St → Prop} {prs : List (Nat × Nat)} {l : List MI} (Qt : FuncId → List AV → Option AV) (h : ∀ H0, SOk A X S H0.size H0 → GD4 P Qt H0.size 0 A X E S [] prs l (fun acc => ∀ H, (∀ id, (∀ f ∈ acc, id ∉ f.2) → H.get id = H0.get id) → QtOk P Qt H) (Q .normal)) : GC P A X E S (.drw l prs) Q := by
  refine ⟨fun s hf => ?_⟩
  rw [mwp_drw]
  exact ⟨Qt, (h s.H hf.ok).g _ s.H.size hf.env (hf.ok.same (fun _ _ => rfl) (Nat.le_refl _) (by simp [Heap.ext])) (Nat.le_refl _)⟩

theorem gd4_nil {P : Program} {Qt : FuncId → List AV → Option AV} {base k : Nat} {A : Heap} {X : List Nat} {E : List (Nat × AV)} {S : Sig} {acc : List (List Nat × List Nat)} {prs : List (Nat × Nat)} {C : List (List Nat × List Nat) → Prop} {K : St → Prop} (hp : pairsOk acc prs) (hC : C acc) (h : GK A X E S K) : GD4 P Qt base k A X E S acc prs [] C K :=
  ⟨fun s m hE hS hm => ⟨⟨hp, hC⟩, h.g s ⟨hE, hS.bump hS.mh (Nat.le_refl _)⟩⟩⟩

theorem gd4_is {P : Program} {Qt : FuncId → List AV → Option AV} {base k : Nat} {A : Heap} {X : List Nat} {E : List (Nat × AV)} {S S' : Sig} {acc : List (List Nat × List Nat)} {prs : List (Nat × Nat)} {C : List (List Nat × List Nat) → Prop} {K : St → Prop} {r : List MI} {d : Nat} {v : AV} {op : MOp} (hq : (!op.isCall && !writes op && !reads op) = true) (hs : Stp A X E S op (Is v S')) (hk : GD4 P Qt base (k + 1) A X ((d, v) :: E) S' (acc ++ [([], [])]) prs r C K) : GD4 P Qt base k A X E S acc prs (⟨some d, none, op⟩ :: r) C K := by
  have hp : op.isCall = false := by simp at hq; exact hq.1.1
  refine ⟨fun s m hE hS hm => ?_⟩
  obtain ⟨v', S'', H', m', ⟨rfl, rfl⟩, h2, h3, h4, h5, h6⟩ := hs.stp s.τ s.H m (base + k) hE hS hm
  simp only [dopsC, dstep_plain2 hp, h2, (quiet_foot hq s.τ (base + k)).1, (quiet_foot hq s.τ (base + k)).2]
  exact hk.g _ m' (look_cons hE d _) h3 (by omega)

theorem gd4_ld {P : Program} {Qt : FuncId → List AV → Option AV} {base k : Nat} {A : Heap} {X : List Nat} {E : List (Nat × AV)} {S : Sig} {acc : List (List Nat × List Nat)} {prs : List (Nat × Nat)} {C : List (List Nat × List Nat) → Prop} {K : St → Prop} {r : List MI} {d n : Nat} {v u : AV} {p : MX} {b : Bool} (hp : evE E p = some u) (hs : Stp A X E S (.ld p n b) (Is v S)) (hk : GD4 P Qt base (k + 1) A X ((d, v) :: E) S (acc ++ [(vid u, [])]) prs r C K) : GD4 P Qt base k A X E S acc prs (⟨some d, none, .ld p n b⟩ :: r) C K := by
  refine ⟨fun s m hE hS hm => ?_⟩
  obtain ⟨v', S'', H', m', ⟨rfl, rfl⟩, h2, h3, h4, h5, h6⟩ := hs.stp s.τ s.H m (base + k) hE hS hm
  have hd0 : dstep P Qt (base + k) ⟨some d, none, (.ld p n b)⟩ s = mstep (base + k) s.τ s.H (.ld p n b) := dstep_plain2 rfl
  have hf : foot s.τ (.ld p n b) = vid u := by simp only [foot, ev_of hE hp]
  have ht : touch (base + k) s.τ (.ld p n b) = [] := rfl
  simp only [dopsC, hd0, h2, hf, ht]
  exact hk.g _ m' (look_cons hE d _) h3 (by omega)

theorem gd4_call {P : Program} {Qt : FuncId → List AV → Option AV} {base k : Nat} {A : Heap} {X : List Nat} {E : List (Nat × AV)} {S : Sig} {acc : List (List Nat × List Nat)} {prs : List (Nat × Nat)} {C : List (List Nat × List Nat) → Prop} {K : St → Prop} {r : List MI} {d : Nat} {v : AV} {f : FuncId} {args : List MX} {vs : List AV} (ha : evsE E args = some vs) (hq : Qt f vs = some v) (hk : GD4 P Qt base (k + 1) A X ((d, v) :: E) S (acc ++ [([], [])]) prs r C K) : GD4 P Qt base k A X E S acc prs (⟨some d, none, .call f args⟩ :: r) C K := by
  refine ⟨fun s m hE hS hm => ?_⟩
  have e : dstep P Qt (base + k) ⟨some d, none, .call f args⟩ s = some (v, s.H) := by
    simp only [dstep, gcheck, mcallee, evs_of hE ha, hq]
  simp only [dopsC, e]
  exact hk.g _ m (look_cons hE d _) hS (by omega)

theorem gd4_new {P : Program} {Qt : FuncId → List AV → Option AV} {base k : Nat} {A : Heap} {X : List Nat} {E : List (Nat × AV)} {S : Sig} {acc : List (List Nat × List Nat)} {prs : List (Nat × Nat)} {C : List (List Nat × List Nat) → Prop} {K : St → Prop} {r : List MI} {d : Nat} {z : List AV} (hk : GD4 P Qt base (k + 1) A X ((d, .ptr (base + k) 0) :: E) (⟨.cell, .ptr (base + k) 0, z.length, 1, z⟩ :: S) (acc ++ [([], [base + k])]) prs r C K) : GD4 P Qt base k A X E S acc prs (⟨some d, none, .new z⟩ :: r) C K := by
  refine ⟨fun s m hE hS hm => ?_⟩
  obtain ⟨v', S'', H', m', hN, h2, h3, h4, h5, h6⟩ := (stp_new (A := A) (X := X) (E := E) (S := S) (z := z)).stp s.τ s.H m (base + k) hE hS hm
  have hd0 : dstep P Qt (base + k) ⟨some d, none, (.new z)⟩ s = mstep (base + k) s.τ s.H (.new z) := dstep_plain2 rfl
  have hv : v' = .ptr (base + k) 0 := by
    simp only [mstep, Option.some.injEq, Prod.mk.injEq] at h2
    exact h2.1.symm
  obtain ⟨id, hid, rfl⟩ := hN
  rw [hv] at hid h2
  simp only [AV.ptr.injEq, and_true] at hid
  subst hid
  simp only [dopsC, hd0, h2]
  exact hk.g _ m' (look_cons hE d _) h3 (by omega)

theorem gd4_st {P : Program} {Qt : FuncId → List AV → Option AV} {base k : Nat} {A : Heap} {X : List Nat} {E : List (Nat × AV)} {S S' : Sig} {acc : List (List Nat × List Nat)} {prs : List (Nat × Nat)} {C : List (List Nat × List Nat) → Prop} {K : St → Prop} {r : List MI} {n : Nat} {v u : AV} {p x : MX} (hp : evE E p = some u) (hs : Stp A X E S (.st p x n) (Is v S')) (hk : GD4 P Qt base (k + 1) A X E S' (acc ++ [(vid u, vid u)]) prs r C K) : GD4 P Qt base k A X E S acc prs (⟨none, none, .st p x n⟩ :: r) C K := by
  refine ⟨fun s m hE hS hm => ?_⟩
  obtain ⟨v', S'', H', m', ⟨rfl, rfl⟩, h2, h3, h4, h5, h6⟩ := hs.stp s.τ s.H m (base + k) hE hS hm
  have hd0 : dstep P Qt (base + k) ⟨none, none, (.st p x n)⟩ s = mstep (base + k) s.τ s.H (.st p x n) := dstep_plain2 rfl
  have hf : foot s.τ (.st p x n) = vid u := by simp only [foot, ev_of hE hp]
  have ht : touch (base + k) s.τ (.st p x n) = vid u := by simp only [touch, ev_of hE hp]
  simp only [dopsC, hd0, h2, hf, ht]
  exact hk.g _ m' hE h3 (by omega)
/- a part of what a slice holds -/

theorem vals_sub {α : Type} {c : α → List AV} {k : Nat} (hc : Cels c k) {H : Heap} {v : AV} {n l : Nat} {L : List α} (hv : Vals H v k n (cellsK c L)) (hn : n = L.length) (hl : l ≤ n) : Vals H (subW v l n) k (n - l) (cellsK c (L.drop l)) := by
  have hbid : ∀ j, (subW v l n).bid = some j → v.bid = some j := by
    intro j hj
    cases v <;> first | exact hj | (simp [subW, AV.bid] at hj; done)
  have hcl : (cellsK c (L.drop l)).length = (n - l) * k := by rw [ck_len hc, List.length_drop, hn]
  cases v with
  | slice id off n' cap es =>
    have e1 : n' = n := hv.len
    have e2 : es = k := by
      rcases hv.esn with h | h
      · cases h
      · simpa [AV.es] using h
    subst e1; subst e2
    refine ⟨rfl, rfl, .inr rfl, hcl, ?_, fun j hj => hv.bid j (hbid j hj)⟩
    have hr := hv.row
    simp only [subW, Heap.row] at hr ⊢
    by_cases h0 : n' - l = 0
    · rw [if_pos h0]
      have : L.drop l = [] := List.drop_eq_nil_of_le (by omega)
      rw [this]; rfl
    · rw [if_neg (by omega)] at hr
      rw [if_neg h0]
      simp only [Heap.read] at hr ⊢
      split at hr
      · rename_i b hb
        split at hr
        · rename_i h1
          simp only [Option.some.injEq] at hr
          have hm : l * es + (n' - l) * es = n' * es := by rw [← Nat.add_mul]; congr 1; omega
          rw [if_pos (by omega), ← ck_drop hc, ← hr, List.drop_take, List.drop_drop, show n' * es - l * es = (n' - l) * es by omega]
        · cases hr
      · cases hr
  | nilSlice =>
    have e1 : 0 = n := hv.len
    subst e1
    have : L = [] := List.eq_nil_of_length_eq_zero hn.symm
    subst this
    have h0 : l = 0 := by omega
    subst h0
    exact hv
  | _ => exact absurd hv.sl (by simp [AV.isSlice])
/- the pairs of points, in their order -/

noncomputable def opN (p : Prop) (q : Rat) : Int := by
  classical
  exact if p then q.num else 0

noncomputable def opD (p : Prop) (q : Rat) : Int := by
  classical
  exact if p then (q.den : Int) else 0

noncomputable abbrev opV (p : Prop) (q : Rat) : AV := .agg [.int .i64 (opN p q), .int .i64 (opD p q)]

theorem opV_yes {p : Prop} {q : Rat} (h : p) : opV p q = frV q := by
  unfold opV opN opD; rw [if_pos h, if_pos h]; rfl

theorem opV_no {p : Prop} {q : Rat} (h : ¬ p) : opV p q = fr0 := by
  unfold opV opN opD; rw [if_neg h, if_neg h]

theorem go_sub {P : Program} {A : Heap} {X : List Nat} {E : List (Nat × AV)} {S S' : Sig} {l : List MI} {K : St → Prop} (hs : Sub S S') (h : GO P A X E S' l K) : GO P A X E S l K := ⟨fun s hf => h.g s ⟨hf.env, hf.ok.sub hs⟩⟩
/- an element's fields -/

theorem Pts.neg {xs ys : List Int} (h : Pts xs ys) : Pts xs (ys.map (- ·)) := by
  obtain ⟨h1, h2, h3⟩ := h
  refine ⟨fun i hi => ?_, by simp [h2], h3⟩
  have h4 := h1 i hi
  rw [getD_map _ (by omega)]
  exact ⟨by simp; omega, h4.2.1, by omega⟩

theorem Cloud.neg {xs ys : List Int} (h : Cloud xs ys) : Cloud xs (ys.map (- ·)) := ⟨h.1.neg, h.2⟩
/- slopes of what is turned, of what is negated -/

theorem nth_take {xs : List Int} {m i : Nat} (h : i < m) : nth (xs.take m) i = nth xs i := by
  unfold nth
  simp [List.getD, List.getElem?_take_of_lt h]

theorem Pts.take {xs ys : List Int} (h : Pts xs ys) (m : Nat) : Pts (xs.take m) (ys.take m) := by
  obtain ⟨h1, h2, h3⟩ := h
  refine ⟨fun i hi => ?_, by simp [h2], by simp; omega⟩
  rw [List.length_take] at hi
  have h4 := h1 i (by omega)
  rw [nth_take (by omega), nth_take (by omega), List.length_take]
  exact ⟨by omega, h4.2⟩

theorem CvOk.take {xs ys : List Int} (h : CvOk xs ys) {m : Nat} (h1 : 1 ≤ m) (hm : m ≤ xs.length) : CvOk (xs.take m) (ys.take m) := by
  have h5 := h.1.2
  have hl : (xs.take m).length = m := by rw [List.length_take]; omega
  refine ⟨⟨h.1.1.take m, by rw [hl]; omega⟩, fun i hi k hk => ?_⟩
  rw [hl] at hi
  rw [nth_take (by omega), nth_take (by omega)]
  exact h.2 i (by omega) k hk

theorem stp_ageqS {A : Heap} {X : List Nat} {E : List (Nat × AV)} {S : Sig} {k : IntKind} {x y : MX} {a b : Int} (hx : evE E x = some (.agg [.int k a, .int k b])) (hy : evE E y = some (.agg [.int k a, .int k b])) : Stp A X E S (.ageq false 2 x y) (Is (.bool true) S) := by
  have h := stp_ageq2 (A := A) (X := X) (S := S) hx hy
  simpa using h

theorem stp_agneS {A : Heap} {X : List Nat} {E : List (Nat × AV)} {S : Sig} {k : IntKind} {x y : MX} {a b : Int} (hx : evE E x = some (.agg [.int k a, .int k b])) (hy : evE E y = some (.agg [.int k a, .int k b])) : Stp A X E S (.ageq true 2 x y) (Is (.bool false) S) := by
  have h := stp_ageq (A := A) (X := X) (S := S) (neg := true) (n := 2) (b := (a == a && (b == b && true))) hx hy rfl (by simp [flatEq])
  simpa using h

theorem leTot (a b : Rat) : a ≤ b ∨ b ≤ a := Rat.le_total

theorem le_divR {a c d : Rat} (hd : 0 < d) : c ≤ a / d ↔ c * d ≤ a := by
  have hn : d ≠ 0 := by grind
  have h1 : a / d * d = a := Rat.div_mul_cancel hn
  constructor
  · intro h
    have := Rat.mul_le_mul_of_nonneg_right h (Rat.le_of_lt hd)
    rw [h1] at this; exact this
  · intro h
    rcases leTot c (a / d) with h2 | h2
    · exact h2
    · have := Rat.mul_le_mul_of_nonneg_right h2 (Rat.le_of_lt hd)
      rw [h1] at this
      have h3 : c * d = a := Rat.le_antisymm h this
      have : c = a / d := by rw [← h3, Rat.div_def, Rat.mul_assoc, Rat.mul_inv_cancel _ hn, Rat.mul_one]
      rw [this]; exact Rat.le_refl

theorem div_leR {a c d : Rat} (hd : 0 < d) : a / d ≤ c ↔ a ≤ c * d := by
  have hn : d ≠ 0 := by grind
  have h1 : a / d * d = a := Rat.div_mul_cancel hn
  constructor
  · intro h
    have := Rat.mul_le_mul_of_nonneg_right h (Rat.le_of_lt hd)
    rw [h1] at this; exact this
  · intro h
    rcases leTot (a / d) c with h2 | h2
    · exact h2
    · have := Rat.mul_le_mul_of_nonneg_right h2 (Rat.le_of_lt hd)
      rw [h1] at this
      have h3 : c * d = a := Rat.le_antisymm this h
      have : c = a / d := by rw [← h3, Rat.div_def, Rat.mul_assoc, Rat.mul_inv_cancel _ hn, Rat.mul_one]
      rw [this]; exact Rat.le_refl

def mnA (S W : Nat → Rat) (i e : Nat) : Rat := (S e - S i) / (W e - W i)

def AscW (W : Nat → Rat) (n : Nat) : Prop := ∀ i, i < n → W i < W (i + 1)

theorem AscW.lt {W : Nat → Rat} {n : Nat} (h : AscW W n) {i : Nat} : ∀ {j}, i < j → j ≤ n → W i < W j
  | 0, h1, _ => absurd h1 (Nat.not_lt_zero _)
  | j + 1, h1, h2 => by
    have := h j h2
    rcases Nat.lt_or_ge i j with h3 | h3
    · have := h.lt (j := j) h3 (by omega); grind
    · rw [show i = j by omega]; exact this

theorem AscW.le {W : Nat → Rat} {n : Nat} (h : AscW W n) {i j : Nat} (h1 : i ≤ j) (h2 : j ≤ n) : W i ≤ W j := by
  rcases Nat.lt_or_ge i j with h3 | h3
  · exact Rat.le_of_lt (h.lt h3 h2)
  · rw [show i = j by omega]; exact Rat.le_refl

theorem AscW.sub {W : Nat → Rat} {n m : Nat} (h : AscW W n) (hm : m ≤ n) : AscW W m := fun i hi => h i (by omega)

theorem mnA_mul {S W : Nat → Rat} {i e : Nat} (h : W i < W e) : mnA S W i e * (W e - W i) = S e - S i := Rat.div_mul_cancel (by grind)

theorem le_mnA {S W : Nat → Rat} {i e : Nat} {c : Rat} (h : W i < W e) : c ≤ mnA S W i e ↔ c * (W e - W i) ≤ S e - S i := le_divR (by grind)

theorem mnA_le {S W : Nat → Rat} {i e : Nat} {c : Rat} (h : W i < W e) : mnA S W i e ≤ c ↔ S e - S i ≤ c * (W e - W i) := div_leR (by grind)

theorem mulR_le {a b d : Rat} (hd : 0 ≤ d) (h : a ≤ b) : a * d ≤ b * d := Rat.mul_le_mul_of_nonneg_right h hd

theorem mulR_ge {a b d : Rat} (hd : d ≤ 0) (h : a ≤ b) : b * d ≤ a * d := by
  have := mulR_le (a := a) (b := b) (d := -d) (by grind) h
  grind

/-- the line with slope c through s and e lies below all sums up to n; j is between s and e -/
def Sup (S W : Nat → Rat) (n j : Nat) (c : Rat) : Prop := ∃ s e, s ≤ j ∧ j < e ∧ e ≤ n ∧ S e - S s = c * (W e - W s) ∧ ∀ t, t ≤ n → c * (W t - W s) ≤ S t - S s

theorem Sup.uniq {S W : Nat → Rat} {n j : Nat} {c d : Rat} (hW : AscW W n) (h : Sup S W n j c) (h' : Sup S W n j d) : c = d := by
  have one : ∀ {c d : Rat}, Sup S W n j c → Sup S W n j d → ¬ c < d := by
    rintro c d ⟨s, e, h1, h2, h3, h4, h5⟩ ⟨s', e', g1, g2, g3, g4, g5⟩ hlt
    -- on e: S e is on the line of slope c through s; from s' on the line of slope d
    have a1 := h5 s' (by omega)
    have a2 := g5 e h3
    have a3 := hW.lt (i := s') (j := e) (by omega) h3
    have a4 := mulR_le (d := W e - W s') (by grind) (Rat.le_of_lt hlt)
    have a5 : c * (W e - W s') ≠ d * (W e - W s') := fun h => by
      have : (d - c) * (W e - W s') = 0 := by grind
      have h6 : 0 < (d - c) * (W e - W s') := Rat.mul_pos (by grind) (by grind)
      grind
    grind
  exact Rat.le_antisymm (Rat.not_lt.1 (one h' h)) (Rat.not_lt.1 (one h h'))

/- stacks of blocks: the last one's start ahead, e the end -/

def Bks (S W : Nat → Rat) : List Nat → Nat → Prop
  | [], e => e = 0
  | a :: r, e => a < e ∧ (∀ t, a ≤ t → t ≤ e → mnA S W a e * (W t - W a) ≤ S t - S a) ∧ Bks S W r a

def Inc (S W : Nat → Rat) : List Nat → Nat → Prop
  | [], _ => True
  | [_], _ => True
  | a :: b :: r, e => mnA S W b a < mnA S W a e ∧ Inc S W (b :: r) a

theorem Bks.len {S W : Nat → Rat} : ∀ {r : List Nat} {e}, Bks S W r e → r.length ≤ e
  | [], _, h => by simp
  | a :: r, e, h => by
    have := Bks.len h.2.2
    have := h.1
    simp only [List.length_cons]; omega

/-- two blocks joined -/
theorem Bks.join {S W : Nat → Rat} {n : Nat} (hW : AscW W n) {a b e : Nat} {r : List Nat} (he : e ≤ n) (h : Bks S W (a :: b :: r) e) (hm : mnA S W a e ≤ mnA S W b a) : Bks S W (b :: r) e := by
  obtain ⟨h1, h2, h3, h4, h5⟩ := h
  refine ⟨by omega, ?_, h5⟩
  have wba := hW.lt h3 (by omega)
  have wae := hW.lt h1 he
  have wbe : W b < W e := by grind
  have p := mnA_mul (S := S) wba
  have q := mnA_mul (S := S) wae
  have m := mnA_mul (S := S) wbe
  have m1 : mnA S W b e ≤ mnA S W b a := (mnA_le wbe).2 (by
    have := mulR_le (d := W e - W a) (by grind) hm
    grind)
  have m2 : mnA S W a e ≤ mnA S W b e := (le_mnA wbe).2 (by
    have := mulR_le (d := W a - W b) (by grind) hm
    grind)
  intro t ht ht2
  rcases Nat.le_total t a with h6 | h6
  · have := h4 t ht h6
    have wt := hW.le ht (by omega)
    have := mulR_le (d := W t - W b) (by grind) m1
    grind
  · have := h2 t h6 ht2
    have wt := hW.le ht2 he
    have := mulR_le (d := W e - W t) (by grind) m2
    grind

/-- the last block's line lies below all that is behind -/
theorem Bks.back {S W : Nat → Rat} {n : Nat} (hW : AscW W n) : ∀ {r : List Nat} {a e : Nat}, e ≤ n → Bks S W (a :: r) e → Inc S W (a :: r) e → ∀ t, t ≤ e → mnA S W a e * (W t - W a) ≤ S t - S a
  | [], a, e, he, h, _, t, ht => by
    obtain ⟨h1, h2, h3⟩ := h
    obtain rfl : a = 0 := h3
    exact h2 t (by omega) ht
  | b :: r, a, e, he, h, hi, t, ht => by
    have ⟨h1, h2, h3⟩ := h
    rcases Nat.le_total a t with h4 | h4
    · exact h2 t h4 ht
    · have := Bks.back hW (by omega) h3 hi.2 t h4
      have wba := hW.lt h3.1 (by omega)
      have p := mnA_mul (S := S) wba
      have wt := hW.le h4 (by omega)
      have := mulR_ge (d := W t - W a) (by grind) (Rat.le_of_lt hi.1)
      grind

/-- the block's mean at each place -/
def fitB (S W : Nat → Rat) : List Nat → Nat → Nat → Rat
  | [], _, _ => 0
  | a :: r, e, j => if a ≤ j then mnA S W a e else fitB S W r a j

theorem Bks.sup {S W : Nat → Rat} {n : Nat} (hW : AscW W n) : ∀ {r : List Nat} {a e : Nat}, e ≤ n → Bks S W (a :: r) e → Inc S W (a :: r) e → ∀ j, j < e → Sup S W e j (fitB S W (a :: r) e j) ∧ fitB S W (a :: r) e j ≤ mnA S W a e
  | r, a, e, he, h, hi, j, hj => by
    have wae := hW.lt h.1 he
    have q := mnA_mul (S := S) wae
    rcases Nat.lt_or_ge j a with h1 | h1
    · match r, h, hi with
      | [], h, hi => obtain rfl : a = 0 := h.2.2; omega
      | b :: r, h, hi =>
        have hs := Bks.sup hW (by have := h.1; omega) h.2.2 hi.2 j h1
        rw [show fitB S W (a :: b :: r) e j = fitB S W (b :: r) a j by
          show (if a ≤ j then _ else _) = _
          rw [if_neg (by omega)]]
        generalize fitB S W (b :: r) a j = c at hs ⊢
        obtain ⟨⟨s, u, g1, g2, g3, g4, g5⟩, g6⟩ := hs
        have g7 : c ≤ mnA S W a e := Rat.le_trans g6 (Rat.le_of_lt hi.1)
        refine ⟨⟨s, u, g1, g2, by have := h.1; omega, g4, fun t ht => ?_⟩, g7⟩
        rcases Nat.le_total t a with h3 | h3
        · exact g5 t h3
        · have k1 := h.2.1 t h3 ht
          have k2 := g5 a (Nat.le_refl _)
          have wt := hW.le h3 (by omega)
          have k3 := mulR_le (d := W t - W a) (by grind) g7
          grind
    · rw [show fitB S W (a :: r) e j = mnA S W a e by
        show (if a ≤ j then _ else _) = _
        rw [if_pos h1]]
      exact ⟨⟨a, e, h1, hj, Nat.le_refl _, q.symm, Bks.back hW he h hi⟩, Rat.le_refl⟩
/- the stack when blocks are joined -/

def popS (S W : Nat → Rat) (e : Nat) : List Nat → List Nat
  | a :: b :: r => if mnA S W b a < mnA S W a e then a :: b :: r else popS S W e (b :: r)
  | l => l

def poS (S W : Nat → Rat) : Nat → List Nat
  | 0 => []
  | k + 1 => popS S W (k + 1) (k :: poS S W k)

theorem popS_ok {S W : Nat → Rat} {n : Nat} (hW : AscW W n) {e : Nat} (he : e ≤ n) : ∀ {r : List Nat} {a : Nat}, Bks S W (a :: r) e → (∀ b r', r = b :: r' → Inc S W (b :: r') a) → ∃ a' r', popS S W e (a :: r) = a' :: r' ∧ Bks S W (a' :: r') e ∧ Inc S W (a' :: r') e
  | [], a, h, _ => ⟨a, [], rfl, h, trivial⟩
  | b :: r, a, h, hi => by
    rw [show popS S W e (a :: b :: r) = if mnA S W b a < mnA S W a e then a :: b :: r else popS S W e (b :: r) from rfl]
    by_cases hc : mnA S W b a < mnA S W a e
    · rw [if_pos hc]; exact ⟨a, b :: r, rfl, h, hc, hi b r rfl⟩
    · rw [if_neg hc]
      have hj := h.join hW he (Rat.not_lt.1 hc)
      refine popS_ok hW he hj fun b' r' hr => ?_
      subst hr
      exact (hi b _ rfl).2

theorem poS_ok {S W : Nat → Rat} {n : Nat} (hW : AscW W n) : ∀ {k}, k ≤ n → Bks S W (poS S W k) k ∧ Inc S W (poS S W k) k
  | 0, _ => ⟨rfl, trivial⟩
  | k + 1, hk => by
    have ih := poS_ok (S := S) hW (k := k) (by omega)
    have hB : Bks S W (k :: poS S W k) (k + 1) := by
      refine ⟨by omega, fun t h1 h2 => ?_, ih.1⟩
      have w := hW k hk
      have q := mnA_mul (S := S) w
      rcases Nat.lt_or_ge k t with h3 | h3
      · obtain rfl : t = k + 1 := by omega
        grind
      · obtain rfl : t = k := by omega
        grind
    obtain ⟨a', r', e1, e2, e3⟩ := popS_ok hW hk hB fun b r' hr => by rw [← hr]; exact ih.2
    show Bks S W (popS S W (k + 1) (k :: poS S W k)) _ ∧ Inc S W (popS S W (k + 1) (k :: poS S W k)) _
    rw [e1]; exact ⟨e2, e3⟩

theorem poS_pos {S W : Nat → Rat} {n : Nat} (hW : AscW W n) {k : Nat} (hk : k ≤ n) (h0 : 0 < k) : ∃ a r, poS S W k = a :: r := by
  have := (poS_ok (S := S) hW hk).1
  cases h : poS S W k with
  | nil => rw [h] at this; have h3 : k = 0 := this; omega
  | cons a r => exact ⟨a, r, rfl⟩

end Go.Rx.Try
