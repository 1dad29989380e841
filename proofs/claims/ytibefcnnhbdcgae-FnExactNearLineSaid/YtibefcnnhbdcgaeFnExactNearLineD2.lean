import Derived.Test.YtibefcnnhbdcgaeFnExactNearLineD1
namespace Go.Rx.Try
open Go.Proofs
set_option maxRecDepth 100000
set_option maxHeartbeats 8000000
set_option linter.unusedSimpArgs false
set_option linter.unusedVariables false

theorem frOf_frV (q : Rat) : frOf (frV q) = some q := by
  unfold frOf
  have h : ∃ p, frV q = frV p := ⟨q, rfl⟩
  rw [dif_pos h, ← frV_inj (Classical.choose_spec h)]

theorem frOf_some {v : AV} {q : Rat} (h : frOf v = some q) : v = frV q := by
  unfold frOf at h
  split at h
  · rename_i h1
    simp only [Option.some.injEq] at h
    rw [← h]; exact Classical.choose_spec h1
  · cases h

/-- two fractions -/
noncomputable def fam2 (F : Rat → Rat → Prop) (g : Rat → Rat → AV) : List AV → Option AV
  | [v, w] => match frOf v, frOf w with
    | some p, some q => by
      classical
      exact if F p q then some (g p q) else none
    | _, _ => none
  | _ => none

theorem fam2_is {F : Rat → Rat → Prop} {g : Rat → Rat → AV} {p q : Rat} (h : F p q) : fam2 F g [frV p, frV q] = some (g p q) := by
  simp only [fam2, frOf_frV, if_pos h]

theorem fam2_ok {F : Rat → Rat → Prop} {g : Rat → Rat → AV} {f : FuncId} {P : Program} (hc : Callable P f) (h : ∀ {H : Heap} {p q : Rat}, F p q → ACalls P f [frV p, frV q] H fun r H' => r = g p q ∧ H' = H) (H : Heap) : FamOk P H f (fam2 F g) := by
  intro args v hv
  unfold fam2 at hv
  split at hv
  · split at hv
    · rename_i p q h1 h2
      split at hv
      · rename_i hF
        simp only [Option.some.injEq] at hv; subst hv
        rw [frOf_some h1, frOf_some h2]
        exact ⟨hc, h hF⟩
      · cases hv
    · cases hv
  · cases hv

def fracF (a b : Int) : Prop := (-4611686018427387904 ≤ a ∧ a ≤ 4611686018427387904) ∧ (-4611686018427387904 ≤ b ∧ b ≤ 4611686018427387904) ∧ b ≠ 0

instance (a b : Int) : Decidable (fracF a b) := by unfold fracF; exact inferInstance

def dFrac : List AV → Option AV
  | [.int .i64 a, .int .i64 b] => if fracF a b then some (frV ((a : Rat) / (b : Rat))) else none
  | _ => none

theorem dFrac_is {a b : Int} (ha : -4611686018427387904 ≤ a ∧ a ≤ 4611686018427387904) (hb : -4611686018427387904 ≤ b ∧ b ≤ 4611686018427387904) (h0 : b ≠ 0) : dFrac [.int .i64 a, .int .i64 b] = some (frV ((a : Rat) / (b : Rat))) := if_pos ⟨ha, hb, h0⟩

theorem dFrac_fam {f : FuncId} {P : Program} (hc : Callable P f) (h : ∀ {H : Heap} {a b : Int}, fracF a b → ACalls P f [.int .i64 a, .int .i64 b] H fun r H' => r = frV ((a : Rat) / (b : Rat)) ∧ H' = H) (H : Heap) : FamOk P H f dFrac := by
  intro args v hv
  unfold dFrac at hv
  split at hv
  · split at hv
    · rename_i h1
      simp only [Option.some.injEq] at hv; subst hv
      exact ⟨hc, h h1⟩
    · cases hv
  · cases hv

noncomputable def dPlus := fam2 FitA fun p q => frV (p + q)

noncomputable def dMinus := fam2 FitA fun p q => frV (p - q)

noncomputable def dTimes := fam2 FitM fun p q => frV (p * q)

theorem dFrac_ok (H : Heap) : FamOk Try.prog H fn_spec_frac dFrac := dFrac_fam code_spec_frac.callable (fun h => frac_ok h.1 h.2.1 h.2.2) H

theorem dPlus_ok (H : Heap) : FamOk Try.prog H fn_spec_plus dPlus := fam2_ok code_spec_plus.callable (fun h => specPlus_ok h) H

theorem dMinus_ok (H : Heap) : FamOk Try.prog H fn_spec_minus dMinus := fam2_ok code_spec_minus.callable (fun h => specMinus_ok h) H

theorem dTimes_ok (H : Heap) : FamOk Try.prog H fn_spec_times dTimes := fam2_ok code_spec_times.callable (fun h => specTimes_ok h) H

/- what fits -/

theorem fitA_of {p q : Rat} {D E A B : Int} (hp : FD p D A) (hq : FD q E B) (h1 : A * E ≤ 2000000000000000000) (h2 : B * D ≤ 2000000000000000000) (h3 : D * E ≤ 4000000000000000000) : FitA p q := by
  obtain ⟨a1, a2, a3⟩ := hp.nd
  obtain ⟨b1, b2, b3⟩ := hq.nd
  have m1 := absmul (k := p.num) (l := (q.den : Int)) (A := A) (B := E) (by omega) (by omega) (by omega) (by omega)
  have m2 := absmul (k := q.num) (l := (p.den : Int)) (A := B) (B := D) (by omega) (by omega) (by omega) (by omega)
  have m3 := absmul (k := (p.den : Int)) (l := (q.den : Int)) (A := D) (B := E) (by omega) (by omega) (by omega) (by omega)
  exact ⟨by omega, by omega, by omega⟩

theorem fitM_of {p q : Rat} {D E A B : Int} (hp : FD p D A) (hq : FD q E B) (h1 : A * B ≤ 4000000000000000000) (h3 : D * E ≤ 4000000000000000000) : FitM p q := by
  obtain ⟨a1, a2, a3⟩ := hp.nd
  obtain ⟨b1, b2, b3⟩ := hq.nd
  have m1 := absmul (k := p.num) (l := q.num) (A := A) (B := B) (by omega) (by omega) (by omega) (by omega)
  have m3 := absmul (k := (p.den : Int)) (l := (q.den : Int)) (A := D) (B := E) (by omega) (by omega) (by omega) (by omega)
  exact ⟨by omega, by omega⟩

theorem mulbd {a b A B : Int} (ha : 0 ≤ a) (hb : 0 ≤ b) (h1 : a ≤ A) (h2 : b ≤ B) : a * b ≤ A * B :=
  Int.le_trans (Int.mul_le_mul_of_nonneg_right h1 hb) (Int.mul_le_mul_of_nonneg_left h2 (by omega))

theorem FD.pos {q : Rat} {D B : Int} (h : FD q D B) : 0 < D ∧ 0 ≤ B := by
  obtain ⟨hD, k, h1, h2, h3⟩ := h
  exact ⟨hD, by omega⟩

theorem rat_one (n : Int) : (n : Rat) / ((1 : Int) : Rat) = (n : Rat) := by
  rw [show ((1 : Int) : Rat) = 1 from rfl, Rat.div_def]
  have : (1 : Rat)⁻¹ = 1 := by grind
  rw [this, Rat.mul_one]

/-- the slope, the height: of a common D -/
structure LineOk (s h : Rat) (D A B : Int) : Prop where
  s : FD s D A
  h : FD h D B
  d : D ≤ 1000000
  a : A ≤ 1000000000
  b : B ≤ 10000000000

theorem LineOk.mid {s h : Rat} {D A B : Int} (hl : LineOk s h D A B) {x : Int} (hx : -24 ≤ x ∧ x ≤ 24) : FD (s * (x : Rat)) D (A * 24) := (hl.s.mul (FD.int hx)).to (by omega)

theorem LineOk.over {s h : Rat} {D A B : Int} (hl : LineOk s h D A B) {x y : Int} (hx : -24 ≤ x ∧ x ≤ 24) (hy : -24 ≤ y ∧ y ≤ 24) : FD ((y : Rat) - (s * (x : Rat) + h)) D (24 * D + (A * 24 + B)) := by
  have h1 := ((FD.int hy).lift (m := D) hl.s.pos.1).to (D' := D) (by omega)
  exact h1.sub ((hl.mid hx).add hl.h)

theorem LineOk.fits {s h : Rat} {D A B : Int} (hl : LineOk s h D A B) {x y : Int} (hx : -24 ≤ x ∧ x ≤ 24) (hy : -24 ≤ y ∧ y ≤ 24) : FitM s (x : Rat) ∧ FitA (s * (x : Rat)) h ∧ FitA (y : Rat) (s * (x : Rat) + h) := by
  obtain ⟨p1, p2⟩ := hl.s.pos
  obtain ⟨p3, p4⟩ := hl.h.pos
  have hd := hl.d
  have ha := hl.a
  have hb := hl.b
  have m1 := mulbd (a := A * 24) (b := D) (A := 24000000000) (B := 1000000) (by omega) (by omega) (by omega) hd
  have m2 := mulbd (a := B) (b := D) (A := 10000000000) (B := 1000000) (by omega) (by omega) hb hd
  have m3 := mulbd (a := D) (b := D) (A := 1000000) (B := 1000000) (by omega) (by omega) hd hd
  refine ⟨fitM_of hl.s (FD.int hx) (by omega) (by omega), fitA_of (hl.mid hx) hl.h (by omega) (by omega) (by omega), fitA_of (FD.int hy) ((hl.mid hx).add hl.h) (by omega) (by omega) (by omega)⟩

theorem specOver_ok {H : Heap} {x y : Int} {s h : Rat} {D A B : Int} (hx : -24 ≤ x ∧ x ≤ 24) (hy : -24 ≤ y ∧ y ≤ 24) (hl : LineOk s h D A B) :
    ACalls Try.prog fn_spec_over [.int .i64 x, .int .i64 y, frV s, frV h] H fun r H' => r = frV ((y : Rat) - (s * (x : Rat) + h)) ∧ H' = H := by
  refine ACalls.val ?_ rfl
  obtain ⟨f1, f2, f3⟩ := hl.fits hx hy
  refine code_spec_over.go [] trivial (by simp) ?_
  unfold mc_spec_over
  (repeat (first | with_reducible (first | refine go_nil ?_ | refine gk_seq ?_ | refine gc_seq ?_ | refine gc_reg ?_ | refine gc_skip ?_ | refine gk_block ?_ | refine gc_block ?_ | refine gc_exit ?_ | refine gc_ret ?_ | refine gk_seqret ?_ | refine gk_seqexit ?_ | refine gk_blockret ?_ | refine gk_out ?_ | refine gk_loopret ?_ | refine gk_loopexit ?_ | refine gr_nil ?_) | (show GO _ _ _ _ _ (⟨some _, none, _⟩ :: _) _; first | refine go_op (hk := ?_) | (refine go_nw (hk := ?_); intro u; try simp only [List.length_cons, List.length_nil, List.nil_append, Nat.zero_add]) | (refine go_np (hk := ?_); intro id)) | (show GR _ _ _ _ _ _ (⟨some _, none, _⟩ :: _) _; refine gr_op (hk := ?_)) | (show GO _ _ _ _ _ (⟨none, none, _⟩ :: _) _; refine go_st (hk := ?_)) | (show GR _ _ _ _ _ _ (⟨none, none, _⟩ :: _) _; refine gr_st (hk := ?_)) | (show GO _ _ _ _ _ (⟨_, some _, _⟩ :: _) _; first | refine go_in (hk := ?_) | refine go_out (hk := ?_) | refine go_void (hk := ?_)) | (show GK _ _ _ _ (blockK _ _ _); refine gk_past rfl ?_) | (show GC _ _ _ _ _ (.cond _ _ _) _; first | refine gc_yes (h1 := ?_) | refine gc_no (h1 := ?_))))
  refine gc_drc (fun _ => qtTab [(fn_spec_frac, dFrac), (fn_spec_times, dTimes), (fn_spec_plus, dPlus), (fn_spec_minus, dMinus)]) (fun H _ => qtTab_cons (dFrac_ok H) (qtTab_cons (dTimes_ok H) (qtTab_cons (dPlus_ok H) (qtTab_cons (dMinus_ok H) qtTab_nil)))) (fun H0 => ?_)
  (repeat (first | with_reducible (first | refine go_nil ?_ | refine gk_seq ?_ | refine gc_seq ?_ | refine gc_reg ?_ | refine gc_skip ?_ | refine gk_block ?_ | refine gc_block ?_ | refine gc_exit ?_ | refine gc_ret ?_ | refine gk_seqret ?_ | refine gk_seqexit ?_ | refine gk_blockret ?_ | refine gk_out ?_ | refine gk_loopret ?_ | refine gk_loopexit ?_ | refine gr_nil ?_) | (show GO _ _ _ _ _ (⟨some _, none, _⟩ :: _) _; first | refine go_op (hk := ?_) | (refine go_nw (hk := ?_); intro u; try simp only [List.length_cons, List.length_nil, List.nil_append, Nat.zero_add]) | (refine go_np (hk := ?_); intro id)) | (show GR _ _ _ _ _ _ (⟨some _, none, _⟩ :: _) _; refine gr_op (hk := ?_)) | (show GO _ _ _ _ _ (⟨none, none, _⟩ :: _) _; refine go_st (hk := ?_)) | (show GR _ _ _ _ _ _ (⟨none, none, _⟩ :: _) _; refine gr_st (hk := ?_)) | (show GO _ _ _ _ _ (⟨_, some _, _⟩ :: _) _; first | refine go_in (hk := ?_) | refine go_out (hk := ?_) | refine go_void (hk := ?_)) | (show GK _ _ _ _ (blockK _ _ _); refine gk_past rfl ?_) | (show GC _ _ _ _ _ (.cond _ _ _) _; first | refine gc_yes (h1 := ?_) | refine gc_no (h1 := ?_))))
  refine gr_call rfl (dFrac_is (by omega) (by omega) (by omega)) ?_
  rw [rat_one]
  (repeat (first | with_reducible (first | refine go_nil ?_ | refine gk_seq ?_ | refine gc_seq ?_ | refine gc_reg ?_ | refine gc_skip ?_ | refine gk_block ?_ | refine gc_block ?_ | refine gc_exit ?_ | refine gc_ret ?_ | refine gk_seqret ?_ | refine gk_seqexit ?_ | refine gk_blockret ?_ | refine gk_out ?_ | refine gk_loopret ?_ | refine gk_loopexit ?_ | refine gr_nil ?_) | (show GO _ _ _ _ _ (⟨some _, none, _⟩ :: _) _; first | refine go_op (hk := ?_) | (refine go_nw (hk := ?_); intro u; try simp only [List.length_cons, List.length_nil, List.nil_append, Nat.zero_add]) | (refine go_np (hk := ?_); intro id)) | (show GR _ _ _ _ _ _ (⟨some _, none, _⟩ :: _) _; refine gr_op (hk := ?_)) | (show GO _ _ _ _ _ (⟨none, none, _⟩ :: _) _; refine go_st (hk := ?_)) | (show GR _ _ _ _ _ _ (⟨none, none, _⟩ :: _) _; refine gr_st (hk := ?_)) | (show GO _ _ _ _ _ (⟨_, some _, _⟩ :: _) _; first | refine go_in (hk := ?_) | refine go_out (hk := ?_) | refine go_void (hk := ?_)) | (show GK _ _ _ _ (blockK _ _ _); refine gk_past rfl ?_) | (show GC _ _ _ _ _ (.cond _ _ _) _; first | refine gc_yes (h1 := ?_) | refine gc_no (h1 := ?_))))
  refine gr_call rfl (dFrac_is (by omega) (by omega) (by omega)) ?_
  rw [rat_one]
  refine gr_call rfl (fam2_is (F := FitM) (p := s) (q := (x : Rat)) f1) ?_
  (repeat (first | with_reducible (first | refine go_nil ?_ | refine gk_seq ?_ | refine gc_seq ?_ | refine gc_reg ?_ | refine gc_skip ?_ | refine gk_block ?_ | refine gc_block ?_ | refine gc_exit ?_ | refine gc_ret ?_ | refine gk_seqret ?_ | refine gk_seqexit ?_ | refine gk_blockret ?_ | refine gk_out ?_ | refine gk_loopret ?_ | refine gk_loopexit ?_ | refine gr_nil ?_) | (show GO _ _ _ _ _ (⟨some _, none, _⟩ :: _) _; first | refine go_op (hk := ?_) | (refine go_nw (hk := ?_); intro u; try simp only [List.length_cons, List.length_nil, List.nil_append, Nat.zero_add]) | (refine go_np (hk := ?_); intro id)) | (show GR _ _ _ _ _ _ (⟨some _, none, _⟩ :: _) _; refine gr_op (hk := ?_)) | (show GO _ _ _ _ _ (⟨none, none, _⟩ :: _) _; refine go_st (hk := ?_)) | (show GR _ _ _ _ _ _ (⟨none, none, _⟩ :: _) _; refine gr_st (hk := ?_)) | (show GO _ _ _ _ _ (⟨_, some _, _⟩ :: _) _; first | refine go_in (hk := ?_) | refine go_out (hk := ?_) | refine go_void (hk := ?_)) | (show GK _ _ _ _ (blockK _ _ _); refine gk_past rfl ?_) | (show GC _ _ _ _ _ (.cond _ _ _) _; first | refine gc_yes (h1 := ?_) | refine gc_no (h1 := ?_))))
  refine gr_call rfl (fam2_is (F := FitA) (p := s * (x : Rat)) (q := h) f2) ?_
  refine gr_call rfl (fam2_is (F := FitA) (p := (y : Rat)) (q := s * (x : Rat) + h) f3) ?_
  (repeat (first | with_reducible (first | refine go_nil ?_ | refine gk_seq ?_ | refine gc_seq ?_ | refine gc_reg ?_ | refine gc_skip ?_ | refine gk_block ?_ | refine gc_block ?_ | refine gc_exit ?_ | refine gc_ret ?_ | refine gk_seqret ?_ | refine gk_seqexit ?_ | refine gk_blockret ?_ | refine gk_out ?_ | refine gk_loopret ?_ | refine gk_loopexit ?_ | refine gr_nil ?_) | (show GO _ _ _ _ _ (⟨some _, none, _⟩ :: _) _; first | refine go_op (hk := ?_) | (refine go_nw (hk := ?_); intro u; try simp only [List.length_cons, List.length_nil, List.nil_append, Nat.zero_add]) | (refine go_np (hk := ?_); intro id)) | (show GR _ _ _ _ _ _ (⟨some _, none, _⟩ :: _) _; refine gr_op (hk := ?_)) | (show GO _ _ _ _ _ (⟨none, none, _⟩ :: _) _; refine go_st (hk := ?_)) | (show GR _ _ _ _ _ _ (⟨none, none, _⟩ :: _) _; refine gr_st (hk := ?_)) | (show GO _ _ _ _ _ (⟨_, some _, _⟩ :: _) _; first | refine go_in (hk := ?_) | refine go_out (hk := ?_) | refine go_void (hk := ?_)) | (show GK _ _ _ _ (blockK _ _ _); refine gk_past rfl ?_) | (show GC _ _ _ _ _ (.cond _ _ _) _; first | refine gc_yes (h1 := ?_) | refine gc_no (h1 := ?_))))
  exact gk_retc rfl (by exact Sel.auto) rfl rfl fun H' hH => ⟨rfl, hH.leE⟩

def PtsT (xs ys : List Int) (n : Nat) : Prop := ∀ i, i < n → i < ys.length ∧ (-12 ≤ nth xs i ∧ nth xs i ≤ 12) ∧ (-12 ≤ nth ys i ∧ nth ys i ≤ 12)

def Pts (xs ys : List Int) : Prop := PtsT xs ys xs.length ∧ xs.length = ys.length ∧ xs.length ≤ 7

def Wide (xs : List Int) : Prop := ∃ i, 1 ≤ i ∧ i < xs.length ∧ nth xs i ≠ nth xs 0

def Cloud (xs ys : List Int) : Prop := Pts xs ys ∧ Wide xs

noncomputable instance (xs ys : List Int) : Decidable (Pts xs ys) := Classical.propDecidable _

noncomputable instance (xs : List Int) : Decidable (Wide xs) := Classical.propDecidable _

noncomputable instance (xs ys : List Int) : Decidable (Cloud xs ys) := Classical.propDecidable _

theorem PtsT.succ {xs ys : List Int} {i : Nat} (h : PtsT xs ys i) (h1 : i < ys.length) (h2 : -12 ≤ nth xs i ∧ nth xs i ≤ 12) (h3 : -12 ≤ nth ys i ∧ nth ys i ≤ 12) : PtsT xs ys (i + 1) := by
  intro k hk
  rcases Nat.lt_or_ge k i with h4 | h4
  · exact h k h4
  · rw [show k = i by omega]; exact ⟨h1, h2, h3⟩

theorem specValidPoints_ok {H : Heap} {a b : AV} {xs ys : List Int} (ha : Ints H a xs) (hb : Ints H b ys) (hl : xs.length ≤ 1000000000) (hl' : ys.length ≤ 1000000000) :
    ACalls Try.prog fn_spec_validPoints [a, b] H fun r H' => r = .bool (decide (Pts xs ys)) ∧ H' = H := by
  refine ACalls.val ?_ rfl
  refine code_spec_validPoints.go [.roI a xs.length xs, .roI b ys.length ys] ⟨⟨rfl, ha⟩, ⟨rfl, hb⟩, trivial⟩ (by simp) ?_
  unfold mc_spec_validPoints
  (repeat (first | with_reducible (first | refine go_nil ?_ | refine gk_seq ?_ | refine gc_seq ?_ | refine gc_reg ?_ | refine gc_skip ?_ | refine gk_block ?_ | refine gc_block ?_ | refine gc_exit ?_ | refine gc_ret ?_ | refine gk_seqret ?_ | refine gk_seqexit ?_ | refine gk_blockret ?_ | refine gk_out ?_ | refine gk_loopret ?_ | refine gk_loopexit ?_) | (show GO _ _ _ _ _ (⟨some _, none, .call _ _⟩ :: _) _; first | (show GO _ _ _ _ _ (⟨some _, none, .call fn_spec_inRange _⟩ :: _) _; refine go_inRange (hk := ?_); try intro u)) | (show GO _ _ _ _ _ (⟨some _, none, _⟩ :: _) _; first | refine go_op (hk := ?_) | (refine go_nw (hk := ?_); intro u; try simp only [List.length_cons, List.length_nil, List.nil_append, Nat.zero_add]) | (refine go_np (hk := ?_); intro id)) | (show GO _ _ _ _ _ (⟨none, none, _⟩ :: _) _; refine go_st (hk := ?_)) | (show GO _ _ _ _ _ (⟨_, some _, _⟩ :: _) _; first | refine go_in (hk := ?_) | refine go_out (hk := ?_) | refine go_void (hk := ?_)) | (show GK _ _ _ _ (blockK _ _ _); refine gk_past rfl ?_) | (show GC _ _ _ _ _ (.cond _ _ _) _; first | refine gc_yes (h1 := ?_) | refine gc_no (h1 := ?_))))
  refine gc_loop (γ := Nat) (fun i => [(0, a), (1, b), (5, .int .i64 (i : Int))]) (fun _ => [.roI a xs.length xs, .roI b ys.length ys]) (fun i => i ≤ xs.length ∧ PtsT xs ys i) (fun i => xs.length - i) 0 ⟨Nat.zero_le _, fun k hk => by omega⟩ (hb := ?_)
  rintro i ⟨hi, hp⟩ I ν m hk
  (repeat (first | with_reducible (first | refine go_nil ?_ | refine gk_seq ?_ | refine gc_seq ?_ | refine gc_reg ?_ | refine gc_skip ?_ | refine gk_block ?_ | refine gc_block ?_ | refine gc_exit ?_ | refine gc_ret ?_ | refine gk_seqret ?_ | refine gk_seqexit ?_ | refine gk_blockret ?_ | refine gk_out ?_ | refine gk_loopret ?_ | refine gk_loopexit ?_) | (show GO _ _ _ _ _ (⟨some _, none, .call _ _⟩ :: _) _; first | (show GO _ _ _ _ _ (⟨some _, none, .call fn_spec_inRange _⟩ :: _) _; refine go_inRange (hk := ?_); try intro u)) | (show GO _ _ _ _ _ (⟨some _, none, _⟩ :: _) _; first | refine go_op (hk := ?_) | (refine go_nw (hk := ?_); intro u; try simp only [List.length_cons, List.length_nil, List.nil_append, Nat.zero_add]) | (refine go_np (hk := ?_); intro id)) | (show GO _ _ _ _ _ (⟨none, none, _⟩ :: _) _; refine go_st (hk := ?_)) | (show GO _ _ _ _ _ (⟨_, some _, _⟩ :: _) _; first | refine go_in (hk := ?_) | refine go_out (hk := ?_) | refine go_void (hk := ?_)) | (show GK _ _ _ _ (blockK _ _ _); refine gk_past rfl ?_) | (show GC _ _ _ _ _ (.cond _ _ _) _; first | refine gc_yes (h1 := ?_) | refine gc_no (h1 := ?_))))
  refine gc_cond rfl (fun h => ?_) (fun h => ?_)
  · have no : ∀ {p : Prop}, (Pts xs ys → p) → ¬ p → decide (Pts xs ys) = false := fun h1 h2 => decide_eq_false fun h3 => h2 (h1 h3)
    (repeat (first | with_reducible (first | refine go_nil ?_ | refine gk_seq ?_ | refine gc_seq ?_ | refine gc_reg ?_ | refine gc_skip ?_ | refine gk_block ?_ | refine gc_block ?_ | refine gc_exit ?_ | refine gc_ret ?_ | refine gk_seqret ?_ | refine gk_seqexit ?_ | refine gk_blockret ?_ | refine gk_out ?_ | refine gk_loopret ?_ | refine gk_loopexit ?_) | (show GO _ _ _ _ _ (⟨some _, none, .call _ _⟩ :: _) _; first | (show GO _ _ _ _ _ (⟨some _, none, .call fn_spec_inRange _⟩ :: _) _; refine go_inRange (hk := ?_); try intro u)) | (show GO _ _ _ _ _ (⟨some _, none, _⟩ :: _) _; first | refine go_op (hk := ?_) | (refine go_nw (hk := ?_); intro u; try simp only [List.length_cons, List.length_nil, List.nil_append, Nat.zero_add]) | (refine go_np (hk := ?_); intro id)) | (show GO _ _ _ _ _ (⟨none, none, _⟩ :: _) _; refine go_st (hk := ?_)) | (show GO _ _ _ _ _ (⟨_, some _, _⟩ :: _) _; first | refine go_in (hk := ?_) | refine go_out (hk := ?_) | refine go_void (hk := ?_)) | (show GK _ _ _ _ (blockK _ _ _); refine gk_past rfl ?_) | (show GC _ _ _ _ _ (.cond _ _ _) _; first | refine gc_yes (h1 := ?_) | refine gc_no (h1 := ?_))))
    refine go_split 16 rfl (fun h1 => ?_) (fun h1 => ?_)
    · (repeat (first | with_reducible (first | refine go_nil ?_ | refine gk_seq ?_ | refine gc_seq ?_ | refine gc_reg ?_ | refine gc_skip ?_ | refine gk_block ?_ | refine gc_block ?_ | refine gc_exit ?_ | refine gc_ret ?_ | refine gk_seqret ?_ | refine gk_seqexit ?_ | refine gk_blockret ?_ | refine gk_out ?_ | refine gk_loopret ?_ | refine gk_loopexit ?_) | (show GO _ _ _ _ _ (⟨some _, none, .call _ _⟩ :: _) _; first | (show GO _ _ _ _ _ (⟨some _, none, .call fn_spec_inRange _⟩ :: _) _; refine go_inRange (hk := ?_); try intro u)) | (show GO _ _ _ _ _ (⟨some _, none, _⟩ :: _) _; first | refine go_op (hk := ?_) | (refine go_nw (hk := ?_); intro u; try simp only [List.length_cons, List.length_nil, List.nil_append, Nat.zero_add]) | (refine go_np (hk := ?_); intro id)) | (show GO _ _ _ _ _ (⟨none, none, _⟩ :: _) _; refine go_st (hk := ?_)) | (show GO _ _ _ _ _ (⟨_, some _, _⟩ :: _) _; first | refine go_in (hk := ?_) | refine go_out (hk := ?_) | refine go_void (hk := ?_)) | (show GK _ _ _ _ (blockK _ _ _); refine gk_past rfl ?_) | (show GC _ _ _ _ _ (.cond _ _ _) _; first | refine gc_yes (h1 := ?_) | refine gc_no (h1 := ?_))))
      exact gk_ret rfl fun H' hH => ⟨by rw [no (fun h => (h.1 i (by omega)).1) (by omega)]; rfl, hH.leE⟩
    (repeat (first | with_reducible (first | refine go_nil ?_ | refine gk_seq ?_ | refine gc_seq ?_ | refine gc_reg ?_ | refine gc_skip ?_ | refine gk_block ?_ | refine gc_block ?_ | refine gc_exit ?_ | refine gc_ret ?_ | refine gk_seqret ?_ | refine gk_seqexit ?_ | refine gk_blockret ?_ | refine gk_out ?_ | refine gk_loopret ?_ | refine gk_loopexit ?_) | (show GO _ _ _ _ _ (⟨some _, none, .call _ _⟩ :: _) _; first | (show GO _ _ _ _ _ (⟨some _, none, .call fn_spec_inRange _⟩ :: _) _; refine go_inRange (hk := ?_); try intro u)) | (show GO _ _ _ _ _ (⟨some _, none, _⟩ :: _) _; first | refine go_op (hk := ?_) | (refine go_nw (hk := ?_); intro u; try simp only [List.length_cons, List.length_nil, List.nil_append, Nat.zero_add]) | (refine go_np (hk := ?_); intro id)) | (show GO _ _ _ _ _ (⟨none, none, _⟩ :: _) _; refine go_st (hk := ?_)) | (show GO _ _ _ _ _ (⟨_, some _, _⟩ :: _) _; first | refine go_in (hk := ?_) | refine go_out (hk := ?_) | refine go_void (hk := ?_)) | (show GK _ _ _ _ (blockK _ _ _); refine gk_past rfl ?_) | (show GC _ _ _ _ _ (.cond _ _ _) _; first | refine gc_yes (h1 := ?_) | refine gc_no (h1 := ?_))))
    refine go_split 24 rfl (fun h2 => ?_) (fun h2 => ?_)
    · (repeat (first | with_reducible (first | refine go_nil ?_ | refine gk_seq ?_ | refine gc_seq ?_ | refine gc_reg ?_ | refine gc_skip ?_ | refine gk_block ?_ | refine gc_block ?_ | refine gc_exit ?_ | refine gc_ret ?_ | refine gk_seqret ?_ | refine gk_seqexit ?_ | refine gk_blockret ?_ | refine gk_out ?_ | refine gk_loopret ?_ | refine gk_loopexit ?_) | (show GO _ _ _ _ _ (⟨some _, none, .call _ _⟩ :: _) _; first | (show GO _ _ _ _ _ (⟨some _, none, .call fn_spec_inRange _⟩ :: _) _; refine go_inRange (hk := ?_); try intro u)) | (show GO _ _ _ _ _ (⟨some _, none, _⟩ :: _) _; first | refine go_op (hk := ?_) | (refine go_nw (hk := ?_); intro u; try simp only [List.length_cons, List.length_nil, List.nil_append, Nat.zero_add]) | (refine go_np (hk := ?_); intro id)) | (show GO _ _ _ _ _ (⟨none, none, _⟩ :: _) _; refine go_st (hk := ?_)) | (show GO _ _ _ _ _ (⟨_, some _, _⟩ :: _) _; first | refine go_in (hk := ?_) | refine go_out (hk := ?_) | refine go_void (hk := ?_)) | (show GK _ _ _ _ (blockK _ _ _); refine gk_past rfl ?_) | (show GC _ _ _ _ _ (.cond _ _ _) _; first | refine gc_yes (h1 := ?_) | refine gc_no (h1 := ?_))))
      exact gk_ret rfl fun H' hH => ⟨by rw [no (fun h => (h.1 i (by omega)).2.1) h2]; rfl, hH.leE⟩
    (repeat (first | with_reducible (first | refine go_nil ?_ | refine gk_seq ?_ | refine gc_seq ?_ | refine gc_reg ?_ | refine gc_skip ?_ | refine gk_block ?_ | refine gc_block ?_ | refine gc_exit ?_ | refine gc_ret ?_ | refine gk_seqret ?_ | refine gk_seqexit ?_ | refine gk_blockret ?_ | refine gk_out ?_ | refine gk_loopret ?_ | refine gk_loopexit ?_) | (show GO _ _ _ _ _ (⟨some _, none, .call _ _⟩ :: _) _; first | (show GO _ _ _ _ _ (⟨some _, none, .call fn_spec_inRange _⟩ :: _) _; refine go_inRange (hk := ?_); try intro u)) | (show GO _ _ _ _ _ (⟨some _, none, _⟩ :: _) _; first | refine go_op (hk := ?_) | (refine go_nw (hk := ?_); intro u; try simp only [List.length_cons, List.length_nil, List.nil_append, Nat.zero_add]) | (refine go_np (hk := ?_); intro id)) | (show GO _ _ _ _ _ (⟨none, none, _⟩ :: _) _; refine go_st (hk := ?_)) | (show GO _ _ _ _ _ (⟨_, some _, _⟩ :: _) _; first | refine go_in (hk := ?_) | refine go_out (hk := ?_) | refine go_void (hk := ?_)) | (show GK _ _ _ _ (blockK _ _ _); refine gk_past rfl ?_) | (show GC _ _ _ _ _ (.cond _ _ _) _; first | refine gc_yes (h1 := ?_) | refine gc_no (h1 := ?_))))
    refine gc_cond rfl (fun h3 => ?_) (fun h3 => ?_)
    · (repeat (first | with_reducible (first | refine go_nil ?_ | refine gk_seq ?_ | refine gc_seq ?_ | refine gc_reg ?_ | refine gc_skip ?_ | refine gk_block ?_ | refine gc_block ?_ | refine gc_exit ?_ | refine gc_ret ?_ | refine gk_seqret ?_ | refine gk_seqexit ?_ | refine gk_blockret ?_ | refine gk_out ?_ | refine gk_loopret ?_ | refine gk_loopexit ?_) | (show GO _ _ _ _ _ (⟨some _, none, .call _ _⟩ :: _) _; first | (show GO _ _ _ _ _ (⟨some _, none, .call fn_spec_inRange _⟩ :: _) _; refine go_inRange (hk := ?_); try intro u)) | (show GO _ _ _ _ _ (⟨some _, none, _⟩ :: _) _; first | refine go_op (hk := ?_) | (refine go_nw (hk := ?_); intro u; try simp only [List.length_cons, List.length_nil, List.nil_append, Nat.zero_add]) | (refine go_np (hk := ?_); intro id)) | (show GO _ _ _ _ _ (⟨none, none, _⟩ :: _) _; refine go_st (hk := ?_)) | (show GO _ _ _ _ _ (⟨_, some _, _⟩ :: _) _; first | refine go_in (hk := ?_) | refine go_out (hk := ?_) | refine go_void (hk := ?_)) | (show GK _ _ _ _ (blockK _ _ _); refine gk_past rfl ?_) | (show GC _ _ _ _ _ (.cond _ _ _) _; first | refine gc_yes (h1 := ?_) | refine gc_no (h1 := ?_))))
      exact gk_ret rfl fun H' hH => ⟨by rw [no (fun h => (h.1 i (by omega)).2.2) h3]; rfl, hH.leE⟩
    (repeat (first | with_reducible (first | refine go_nil ?_ | refine gk_seq ?_ | refine gc_seq ?_ | refine gc_reg ?_ | refine gc_skip ?_ | refine gk_block ?_ | refine gc_block ?_ | refine gc_exit ?_ | refine gc_ret ?_ | refine gk_seqret ?_ | refine gk_seqexit ?_ | refine gk_blockret ?_ | refine gk_out ?_ | refine gk_loopret ?_ | refine gk_loopexit ?_) | (show GO _ _ _ _ _ (⟨some _, none, .call _ _⟩ :: _) _; first | (show GO _ _ _ _ _ (⟨some _, none, .call fn_spec_inRange _⟩ :: _) _; refine go_inRange (hk := ?_); try intro u)) | (show GO _ _ _ _ _ (⟨some _, none, _⟩ :: _) _; first | refine go_op (hk := ?_) | (refine go_nw (hk := ?_); intro u; try simp only [List.length_cons, List.length_nil, List.nil_append, Nat.zero_add]) | (refine go_np (hk := ?_); intro id)) | (show GO _ _ _ _ _ (⟨none, none, _⟩ :: _) _; refine go_st (hk := ?_)) | (show GO _ _ _ _ _ (⟨_, some _, _⟩ :: _) _; first | refine go_in (hk := ?_) | refine go_out (hk := ?_) | refine go_void (hk := ?_)) | (show GK _ _ _ _ (blockK _ _ _); refine gk_past rfl ?_) | (show GC _ _ _ _ _ (.cond _ _ _) _; first | refine gc_yes (h1 := ?_) | refine gc_no (h1 := ?_))))
    exact gk_next (hk (i + 1) ⟨by omega, hp.succ (by omega) (Decidable.not_not.1 h2) (Decidable.not_not.1 h3)⟩ (by omega))
  · have : i = xs.length := by omega
    subst this
    (repeat (first | with_reducible (first | refine go_nil ?_ | refine gk_seq ?_ | refine gc_seq ?_ | refine gc_reg ?_ | refine gc_skip ?_ | refine gk_block ?_ | refine gc_block ?_ | refine gc_exit ?_ | refine gc_ret ?_ | refine gk_seqret ?_ | refine gk_seqexit ?_ | refine gk_blockret ?_ | refine gk_out ?_ | refine gk_loopret ?_ | refine gk_loopexit ?_) | (show GO _ _ _ _ _ (⟨some _, none, .call _ _⟩ :: _) _; first | (show GO _ _ _ _ _ (⟨some _, none, .call fn_spec_inRange _⟩ :: _) _; refine go_inRange (hk := ?_); try intro u)) | (show GO _ _ _ _ _ (⟨some _, none, _⟩ :: _) _; first | refine go_op (hk := ?_) | (refine go_nw (hk := ?_); intro u; try simp only [List.length_cons, List.length_nil, List.nil_append, Nat.zero_add]) | (refine go_np (hk := ?_); intro id)) | (show GO _ _ _ _ _ (⟨none, none, _⟩ :: _) _; refine go_st (hk := ?_)) | (show GO _ _ _ _ _ (⟨_, some _, _⟩ :: _) _; first | refine go_in (hk := ?_) | refine go_out (hk := ?_) | refine go_void (hk := ?_)) | (show GK _ _ _ _ (blockK _ _ _); refine gk_past rfl ?_) | (show GC _ _ _ _ _ (.cond _ _ _) _; first | refine gc_yes (h1 := ?_) | refine gc_no (h1 := ?_))))
    refine go_split 37 rfl (fun h1 => ?_) (fun h1 => ?_)
    · (repeat (first | with_reducible (first | refine go_nil ?_ | refine gk_seq ?_ | refine gc_seq ?_ | refine gc_reg ?_ | refine gc_skip ?_ | refine gk_block ?_ | refine gc_block ?_ | refine gc_exit ?_ | refine gc_ret ?_ | refine gk_seqret ?_ | refine gk_seqexit ?_ | refine gk_blockret ?_ | refine gk_out ?_ | refine gk_loopret ?_ | refine gk_loopexit ?_) | (show GO _ _ _ _ _ (⟨some _, none, .call _ _⟩ :: _) _; first | (show GO _ _ _ _ _ (⟨some _, none, .call fn_spec_inRange _⟩ :: _) _; refine go_inRange (hk := ?_); try intro u)) | (show GO _ _ _ _ _ (⟨some _, none, _⟩ :: _) _; first | refine go_op (hk := ?_) | (refine go_nw (hk := ?_); intro u; try simp only [List.length_cons, List.length_nil, List.nil_append, Nat.zero_add]) | (refine go_np (hk := ?_); intro id)) | (show GO _ _ _ _ _ (⟨none, none, _⟩ :: _) _; refine go_st (hk := ?_)) | (show GO _ _ _ _ _ (⟨_, some _, _⟩ :: _) _; first | refine go_in (hk := ?_) | refine go_out (hk := ?_) | refine go_void (hk := ?_)) | (show GK _ _ _ _ (blockK _ _ _); refine gk_past rfl ?_) | (show GC _ _ _ _ _ (.cond _ _ _) _; first | refine gc_yes (h1 := ?_) | refine gc_no (h1 := ?_))))
      exact gk_ret rfl fun H' hH => ⟨by
        simp only [tupleOf]; congr 1
        refine decide_eq_decide.2 ⟨fun h2 => ⟨hp, by omega, by omega⟩, fun h2 => by have := h2.2.2; omega⟩, hH.leE⟩
    · (repeat (first | with_reducible (first | refine go_nil ?_ | refine gk_seq ?_ | refine gc_seq ?_ | refine gc_reg ?_ | refine gc_skip ?_ | refine gk_block ?_ | refine gc_block ?_ | refine gc_exit ?_ | refine gc_ret ?_ | refine gk_seqret ?_ | refine gk_seqexit ?_ | refine gk_blockret ?_ | refine gk_out ?_ | refine gk_loopret ?_ | refine gk_loopexit ?_) | (show GO _ _ _ _ _ (⟨some _, none, .call _ _⟩ :: _) _; first | (show GO _ _ _ _ _ (⟨some _, none, .call fn_spec_inRange _⟩ :: _) _; refine go_inRange (hk := ?_); try intro u)) | (show GO _ _ _ _ _ (⟨some _, none, _⟩ :: _) _; first | refine go_op (hk := ?_) | (refine go_nw (hk := ?_); intro u; try simp only [List.length_cons, List.length_nil, List.nil_append, Nat.zero_add]) | (refine go_np (hk := ?_); intro id)) | (show GO _ _ _ _ _ (⟨none, none, _⟩ :: _) _; refine go_st (hk := ?_)) | (show GO _ _ _ _ _ (⟨_, some _, _⟩ :: _) _; first | refine go_in (hk := ?_) | refine go_out (hk := ?_) | refine go_void (hk := ?_)) | (show GK _ _ _ _ (blockK _ _ _); refine gk_past rfl ?_) | (show GC _ _ _ _ _ (.cond _ _ _) _; first | refine gc_yes (h1 := ?_) | refine gc_no (h1 := ?_))))
      exact gk_ret rfl fun H' hH => ⟨by
        simp only [tupleOf]; congr 1
        exact (decide_eq_false fun h2 => h1 (by have := h2.2.1; omega)).symm, hH.leE⟩

theorem specWide_ok {H : Heap} {a : AV} {xs : List Int} (ha : Ints H a xs) (hl : xs.length ≤ 1000000000) :
    ACalls Try.prog fn_spec_wide [a] H fun r H' => r = .bool (decide (Wide xs)) ∧ H' = H := by
  refine ACalls.val ?_ rfl
  refine code_spec_wide.go [.roI a xs.length xs] ⟨⟨rfl, ha⟩, trivial⟩ (by simp) ?_
  unfold mc_spec_wide
  (repeat (first | with_reducible (first | refine go_nil ?_ | refine gk_seq ?_ | refine gc_seq ?_ | refine gc_reg ?_ | refine gc_skip ?_ | refine gk_block ?_ | refine gc_block ?_ | refine gc_exit ?_ | refine gc_ret ?_ | refine gk_seqret ?_ | refine gk_seqexit ?_ | refine gk_blockret ?_ | refine gk_out ?_ | refine gk_loopret ?_ | refine gk_loopexit ?_ | refine gq_nil ?_) | (with_reducible refine gc_drq ?_; intro _) | (show GO _ _ _ _ _ (⟨some _, none, _⟩ :: _) _; first | refine go_op (hk := ?_) | (refine go_nw (hk := ?_); intro u; try simp only [List.length_cons, List.length_nil, List.nil_append, Nat.zero_add]) | (refine go_np (hk := ?_); intro id)) | (show GQ _ _ _ _ _ _ _ (⟨some _, none, _⟩ :: _) _; first | refine gq_op (hk := ?_) | (refine gq_nw (hk := ?_); intro u; try simp only [List.length_cons, List.length_nil, List.nil_append, Nat.zero_add])) | (show GO _ _ _ _ _ (⟨none, none, _⟩ :: _) _; refine go_st (hk := ?_)) | (show GO _ _ _ _ _ (⟨_, some _, _⟩ :: _) _; first | refine go_in (hk := ?_) | refine go_out (hk := ?_) | refine go_void (hk := ?_)) | (show GQ _ _ _ _ _ _ _ (⟨_, some _, _⟩ :: _) _; first | refine gq_in (hk := ?_) | refine gq_out (hk := ?_) | refine gq_void (hk := ?_)) | (show GK _ _ _ _ (blockK _ _ _); refine gk_past rfl ?_) | (show GC _ _ _ _ _ (.cond _ _ _) _; first | refine gc_yes (h1 := ?_) | refine gc_no (h1 := ?_))))
  refine gc_loop (γ := Nat) (fun i => [(0, a), (3, .int .i64 ((i + 1 : Nat) : Int))]) (fun _ => [.roI a xs.length xs]) (fun i => i ≤ xs.length ∧ ∀ k, 1 ≤ k → k < i + 1 → nth xs k = nth xs 0) (fun i => xs.length - i) 0 ⟨Nat.zero_le _, fun k _ hk => by omega⟩ (hb := ?_)
  rintro i ⟨hi, hp⟩ I ν m hk
  (repeat (first | with_reducible (first | refine go_nil ?_ | refine gk_seq ?_ | refine gc_seq ?_ | refine gc_reg ?_ | refine gc_skip ?_ | refine gk_block ?_ | refine gc_block ?_ | refine gc_exit ?_ | refine gc_ret ?_ | refine gk_seqret ?_ | refine gk_seqexit ?_ | refine gk_blockret ?_ | refine gk_out ?_ | refine gk_loopret ?_ | refine gk_loopexit ?_ | refine gq_nil ?_) | (with_reducible refine gc_drq ?_; intro _) | (show GO _ _ _ _ _ (⟨some _, none, _⟩ :: _) _; first | refine go_op (hk := ?_) | (refine go_nw (hk := ?_); intro u; try simp only [List.length_cons, List.length_nil, List.nil_append, Nat.zero_add]) | (refine go_np (hk := ?_); intro id)) | (show GQ _ _ _ _ _ _ _ (⟨some _, none, _⟩ :: _) _; first | refine gq_op (hk := ?_) | (refine gq_nw (hk := ?_); intro u; try simp only [List.length_cons, List.length_nil, List.nil_append, Nat.zero_add])) | (show GO _ _ _ _ _ (⟨none, none, _⟩ :: _) _; refine go_st (hk := ?_)) | (show GO _ _ _ _ _ (⟨_, some _, _⟩ :: _) _; first | refine go_in (hk := ?_) | refine go_out (hk := ?_) | refine go_void (hk := ?_)) | (show GQ _ _ _ _ _ _ _ (⟨_, some _, _⟩ :: _) _; first | refine gq_in (hk := ?_) | refine gq_out (hk := ?_) | refine gq_void (hk := ?_)) | (show GK _ _ _ _ (blockK _ _ _); refine gk_past rfl ?_) | (show GC _ _ _ _ _ (.cond _ _ _) _; first | refine gc_yes (h1 := ?_) | refine gc_no (h1 := ?_))))
  refine gc_cond rfl (fun h => ?_) (fun h => ?_)
  · (repeat (first | with_reducible (first | refine go_nil ?_ | refine gk_seq ?_ | refine gc_seq ?_ | refine gc_reg ?_ | refine gc_skip ?_ | refine gk_block ?_ | refine gc_block ?_ | refine gc_exit ?_ | refine gc_ret ?_ | refine gk_seqret ?_ | refine gk_seqexit ?_ | refine gk_blockret ?_ | refine gk_out ?_ | refine gk_loopret ?_ | refine gk_loopexit ?_ | refine gq_nil ?_) | (with_reducible refine gc_drq ?_; intro _) | (show GO _ _ _ _ _ (⟨some _, none, _⟩ :: _) _; first | refine go_op (hk := ?_) | (refine go_nw (hk := ?_); intro u; try simp only [List.length_cons, List.length_nil, List.nil_append, Nat.zero_add]) | (refine go_np (hk := ?_); intro id)) | (show GQ _ _ _ _ _ _ _ (⟨some _, none, _⟩ :: _) _; first | refine gq_op (hk := ?_) | (refine gq_nw (hk := ?_); intro u; try simp only [List.length_cons, List.length_nil, List.nil_append, Nat.zero_add])) | (show GO _ _ _ _ _ (⟨none, none, _⟩ :: _) _; refine go_st (hk := ?_)) | (show GO _ _ _ _ _ (⟨_, some _, _⟩ :: _) _; first | refine go_in (hk := ?_) | refine go_out (hk := ?_) | refine go_void (hk := ?_)) | (show GQ _ _ _ _ _ _ _ (⟨_, some _, _⟩ :: _) _; first | refine gq_in (hk := ?_) | refine gq_out (hk := ?_) | refine gq_void (hk := ?_)) | (show GK _ _ _ _ (blockK _ _ _); refine gk_past rfl ?_) | (show GC _ _ _ _ _ (.cond _ _ _) _; first | refine gc_yes (h1 := ?_) | refine gc_no (h1 := ?_))))
    refine gc_cond rfl (fun h1 => ?_) (fun h1 => ?_)
    · (repeat (first | with_reducible (first | refine go_nil ?_ | refine gk_seq ?_ | refine gc_seq ?_ | refine gc_reg ?_ | refine gc_skip ?_ | refine gk_block ?_ | refine gc_block ?_ | refine gc_exit ?_ | refine gc_ret ?_ | refine gk_seqret ?_ | refine gk_seqexit ?_ | refine gk_blockret ?_ | refine gk_out ?_ | refine gk_loopret ?_ | refine gk_loopexit ?_ | refine gq_nil ?_) | (with_reducible refine gc_drq ?_; intro _) | (show GO _ _ _ _ _ (⟨some _, none, _⟩ :: _) _; first | refine go_op (hk := ?_) | (refine go_nw (hk := ?_); intro u; try simp only [List.length_cons, List.length_nil, List.nil_append, Nat.zero_add]) | (refine go_np (hk := ?_); intro id)) | (show GQ _ _ _ _ _ _ _ (⟨some _, none, _⟩ :: _) _; first | refine gq_op (hk := ?_) | (refine gq_nw (hk := ?_); intro u; try simp only [List.length_cons, List.length_nil, List.nil_append, Nat.zero_add])) | (show GO _ _ _ _ _ (⟨none, none, _⟩ :: _) _; refine go_st (hk := ?_)) | (show GO _ _ _ _ _ (⟨_, some _, _⟩ :: _) _; first | refine go_in (hk := ?_) | refine go_out (hk := ?_) | refine go_void (hk := ?_)) | (show GQ _ _ _ _ _ _ _ (⟨_, some _, _⟩ :: _) _; first | refine gq_in (hk := ?_) | refine gq_out (hk := ?_) | refine gq_void (hk := ?_)) | (show GK _ _ _ _ (blockK _ _ _); refine gk_past rfl ?_) | (show GC _ _ _ _ _ (.cond _ _ _) _; first | refine gc_yes (h1 := ?_) | refine gc_no (h1 := ?_))))
      exact gk_ret rfl fun H' hH => ⟨by
        have : Wide xs := ⟨i + 1, by omega, by omega, h1⟩
        simp [tupleOf, this], hH.leE⟩
    (repeat (first | with_reducible (first | refine go_nil ?_ | refine gk_seq ?_ | refine gc_seq ?_ | refine gc_reg ?_ | refine gc_skip ?_ | refine gk_block ?_ | refine gc_block ?_ | refine gc_exit ?_ | refine gc_ret ?_ | refine gk_seqret ?_ | refine gk_seqexit ?_ | refine gk_blockret ?_ | refine gk_out ?_ | refine gk_loopret ?_ | refine gk_loopexit ?_ | refine gq_nil ?_) | (with_reducible refine gc_drq ?_; intro _) | (show GO _ _ _ _ _ (⟨some _, none, _⟩ :: _) _; first | refine go_op (hk := ?_) | (refine go_nw (hk := ?_); intro u; try simp only [List.length_cons, List.length_nil, List.nil_append, Nat.zero_add]) | (refine go_np (hk := ?_); intro id)) | (show GQ _ _ _ _ _ _ _ (⟨some _, none, _⟩ :: _) _; first | refine gq_op (hk := ?_) | (refine gq_nw (hk := ?_); intro u; try simp only [List.length_cons, List.length_nil, List.nil_append, Nat.zero_add])) | (show GO _ _ _ _ _ (⟨none, none, _⟩ :: _) _; refine go_st (hk := ?_)) | (show GO _ _ _ _ _ (⟨_, some _, _⟩ :: _) _; first | refine go_in (hk := ?_) | refine go_out (hk := ?_) | refine go_void (hk := ?_)) | (show GQ _ _ _ _ _ _ _ (⟨_, some _, _⟩ :: _) _; first | refine gq_in (hk := ?_) | refine gq_out (hk := ?_) | refine gq_void (hk := ?_)) | (show GK _ _ _ _ (blockK _ _ _); refine gk_past rfl ?_) | (show GC _ _ _ _ _ (.cond _ _ _) _; first | refine gc_yes (h1 := ?_) | refine gc_no (h1 := ?_))))
    refine gk_next (hk (i + 1) ⟨by omega, fun k h2 h3 => ?_⟩ (by omega))
    rcases Nat.lt_or_ge k (i + 1) with h4 | h4
    · exact hp k h2 h4
    · rw [show k = i + 1 by omega]; exact Decidable.not_not.1 h1
  · (repeat (first | with_reducible (first | refine go_nil ?_ | refine gk_seq ?_ | refine gc_seq ?_ | refine gc_reg ?_ | refine gc_skip ?_ | refine gk_block ?_ | refine gc_block ?_ | refine gc_exit ?_ | refine gc_ret ?_ | refine gk_seqret ?_ | refine gk_seqexit ?_ | refine gk_blockret ?_ | refine gk_out ?_ | refine gk_loopret ?_ | refine gk_loopexit ?_ | refine gq_nil ?_) | (with_reducible refine gc_drq ?_; intro _) | (show GO _ _ _ _ _ (⟨some _, none, _⟩ :: _) _; first | refine go_op (hk := ?_) | (refine go_nw (hk := ?_); intro u; try simp only [List.length_cons, List.length_nil, List.nil_append, Nat.zero_add]) | (refine go_np (hk := ?_); intro id)) | (show GQ _ _ _ _ _ _ _ (⟨some _, none, _⟩ :: _) _; first | refine gq_op (hk := ?_) | (refine gq_nw (hk := ?_); intro u; try simp only [List.length_cons, List.length_nil, List.nil_append, Nat.zero_add])) | (show GO _ _ _ _ _ (⟨none, none, _⟩ :: _) _; refine go_st (hk := ?_)) | (show GO _ _ _ _ _ (⟨_, some _, _⟩ :: _) _; first | refine go_in (hk := ?_) | refine go_out (hk := ?_) | refine go_void (hk := ?_)) | (show GQ _ _ _ _ _ _ _ (⟨_, some _, _⟩ :: _) _; first | refine gq_in (hk := ?_) | refine gq_out (hk := ?_) | refine gq_void (hk := ?_)) | (show GK _ _ _ _ (blockK _ _ _); refine gk_past rfl ?_) | (show GC _ _ _ _ _ (.cond _ _ _) _; first | refine gc_yes (h1 := ?_) | refine gc_no (h1 := ?_))))
    exact gk_ret rfl fun H' hH => ⟨by
      have : ¬ Wide xs := fun ⟨k, h1, h2, h3⟩ => h3 (hp k h1 (by omega))
      simp [tupleOf, this], hH.leE⟩

theorem specCloud_ok {H : Heap} {a b : AV} {xs ys : List Int} (ha : Ints H a xs) (hb : Ints H b ys) (hl : xs.length ≤ 1000000000) (hl' : ys.length ≤ 1000000000) :
    ACalls Try.prog fn_spec_validCloud [a, b] H fun r H' => r = .bool (decide (Cloud xs ys)) ∧ H' = H := by
  refine ACalls.val ?_ rfl
  refine code_spec_validCloud.go [.roI a xs.length xs, .roI b ys.length ys] ⟨⟨rfl, ha⟩, ⟨rfl, hb⟩, trivial⟩ (by simp) ?_
  unfold mc_spec_validCloud
  (repeat (first | with_reducible (first | refine go_nil ?_ | refine gk_seq ?_ | refine gc_seq ?_ | refine gc_reg ?_ | refine gc_skip ?_ | refine gk_block ?_ | refine gc_block ?_ | refine gc_exit ?_ | refine gc_ret ?_ | refine gk_seqret ?_ | refine gk_seqexit ?_ | refine gk_blockret ?_ | refine gk_out ?_ | refine gk_loopret ?_ | refine gk_loopexit ?_) | (show GO _ _ _ _ _ (⟨some _, none, _⟩ :: _) _; first | refine go_op (hk := ?_) | (refine go_nw (hk := ?_); intro u; try simp only [List.length_cons, List.length_nil, List.nil_append, Nat.zero_add]) | (refine go_np (hk := ?_); intro id)) | (show GO _ _ _ _ _ (⟨none, none, _⟩ :: _) _; refine go_st (hk := ?_)) | (show GO _ _ _ _ _ (⟨_, some _, _⟩ :: _) _; first | refine go_in (hk := ?_) | refine go_out (hk := ?_) | refine go_void (hk := ?_)) | (show GK _ _ _ _ (blockK _ _ _); refine gk_past rfl ?_) | (show GC _ _ _ _ _ (.cond _ _ _) _; first | refine gc_yes (h1 := ?_) | refine gc_no (h1 := ?_))))
  refine go_callp rfl code_spec_validPoints.callable (fun H hH => specValidPoints_ok (hH.ints (by exact Has.auto)) (hH.ints (by exact Has.auto)) hl hl') ?_
  (repeat (first | with_reducible (first | refine go_nil ?_ | refine gk_seq ?_ | refine gc_seq ?_ | refine gc_reg ?_ | refine gc_skip ?_ | refine gk_block ?_ | refine gc_block ?_ | refine gc_exit ?_ | refine gc_ret ?_ | refine gk_seqret ?_ | refine gk_seqexit ?_ | refine gk_blockret ?_ | refine gk_out ?_ | refine gk_loopret ?_ | refine gk_loopexit ?_) | (show GO _ _ _ _ _ (⟨some _, none, _⟩ :: _) _; first | refine go_op (hk := ?_) | (refine go_nw (hk := ?_); intro u; try simp only [List.length_cons, List.length_nil, List.nil_append, Nat.zero_add]) | (refine go_np (hk := ?_); intro id)) | (show GO _ _ _ _ _ (⟨none, none, _⟩ :: _) _; refine go_st (hk := ?_)) | (show GO _ _ _ _ _ (⟨_, some _, _⟩ :: _) _; first | refine go_in (hk := ?_) | refine go_out (hk := ?_) | refine go_void (hk := ?_)) | (show GK _ _ _ _ (blockK _ _ _); refine gk_past rfl ?_) | (show GC _ _ _ _ _ (.cond _ _ _) _; first | refine gc_yes (h1 := ?_) | refine gc_no (h1 := ?_))))
  refine go_split 8 rfl (fun h1 => ?_) (fun h1 => ?_)
  · (repeat (first | with_reducible (first | refine go_nil ?_ | refine gk_seq ?_ | refine gc_seq ?_ | refine gc_reg ?_ | refine gc_skip ?_ | refine gk_block ?_ | refine gc_block ?_ | refine gc_exit ?_ | refine gc_ret ?_ | refine gk_seqret ?_ | refine gk_seqexit ?_ | refine gk_blockret ?_ | refine gk_out ?_ | refine gk_loopret ?_ | refine gk_loopexit ?_) | (show GO _ _ _ _ _ (⟨some _, none, _⟩ :: _) _; first | refine go_op (hk := ?_) | (refine go_nw (hk := ?_); intro u; try simp only [List.length_cons, List.length_nil, List.nil_append, Nat.zero_add]) | (refine go_np (hk := ?_); intro id)) | (show GO _ _ _ _ _ (⟨none, none, _⟩ :: _) _; refine go_st (hk := ?_)) | (show GO _ _ _ _ _ (⟨_, some _, _⟩ :: _) _; first | refine go_in (hk := ?_) | refine go_out (hk := ?_) | refine go_void (hk := ?_)) | (show GK _ _ _ _ (blockK _ _ _); refine gk_past rfl ?_) | (show GC _ _ _ _ _ (.cond _ _ _) _; first | refine gc_yes (h1 := ?_) | refine gc_no (h1 := ?_))))
    refine go_callp rfl code_spec_wide.callable (fun H hH => specWide_ok (hH.ints (by exact Has.auto)) hl) ?_
    (repeat (first | with_reducible (first | refine go_nil ?_ | refine gk_seq ?_ | refine gc_seq ?_ | refine gc_reg ?_ | refine gc_skip ?_ | refine gk_block ?_ | refine gc_block ?_ | refine gc_exit ?_ | refine gc_ret ?_ | refine gk_seqret ?_ | refine gk_seqexit ?_ | refine gk_blockret ?_ | refine gk_out ?_ | refine gk_loopret ?_ | refine gk_loopexit ?_) | (show GO _ _ _ _ _ (⟨some _, none, _⟩ :: _) _; first | refine go_op (hk := ?_) | (refine go_nw (hk := ?_); intro u; try simp only [List.length_cons, List.length_nil, List.nil_append, Nat.zero_add]) | (refine go_np (hk := ?_); intro id)) | (show GO _ _ _ _ _ (⟨none, none, _⟩ :: _) _; refine go_st (hk := ?_)) | (show GO _ _ _ _ _ (⟨_, some _, _⟩ :: _) _; first | refine go_in (hk := ?_) | refine go_out (hk := ?_) | refine go_void (hk := ?_)) | (show GK _ _ _ _ (blockK _ _ _); refine gk_past rfl ?_) | (show GC _ _ _ _ _ (.cond _ _ _) _; first | refine gc_yes (h1 := ?_) | refine gc_no (h1 := ?_))))
    exact gk_ret rfl fun H' hH => ⟨by
      simp only [tupleOf]; congr 1
      exact decide_eq_decide.2 ⟨fun h2 => ⟨h1, h2⟩, fun h2 => h2.2⟩, hH.leE⟩
  · (repeat (first | with_reducible (first | refine go_nil ?_ | refine gk_seq ?_ | refine gc_seq ?_ | refine gc_reg ?_ | refine gc_skip ?_ | refine gk_block ?_ | refine gc_block ?_ | refine gc_exit ?_ | refine gc_ret ?_ | refine gk_seqret ?_ | refine gk_seqexit ?_ | refine gk_blockret ?_ | refine gk_out ?_ | refine gk_loopret ?_ | refine gk_loopexit ?_) | (show GO _ _ _ _ _ (⟨some _, none, _⟩ :: _) _; first | refine go_op (hk := ?_) | (refine go_nw (hk := ?_); intro u; try simp only [List.length_cons, List.length_nil, List.nil_append, Nat.zero_add]) | (refine go_np (hk := ?_); intro id)) | (show GO _ _ _ _ _ (⟨none, none, _⟩ :: _) _; refine go_st (hk := ?_)) | (show GO _ _ _ _ _ (⟨_, some _, _⟩ :: _) _; first | refine go_in (hk := ?_) | refine go_out (hk := ?_) | refine go_void (hk := ?_)) | (show GK _ _ _ _ (blockK _ _ _); refine gk_past rfl ?_) | (show GC _ _ _ _ _ (.cond _ _ _) _; first | refine gc_yes (h1 := ?_) | refine gc_no (h1 := ?_))))
    exact gk_ret rfl fun H' hH => ⟨by
      simp only [tupleOf]; congr 1
      exact (decide_eq_false fun h2 => h1 h2.1).symm, hH.leE⟩

def dotT (xs ys : List Int) : Nat → Int
  | 0 => 0
  | i + 1 => dotT xs ys i + nth xs i * nth ys i

def delT (xs : List Int) (k : Nat) : Int := k * dotT xs xs k - sumI xs k * sumI xs k

/-- the line of least squares -/
def sqA (xs ys : List Int) : Rat := (((xs.length : Int) * dotT xs ys xs.length - sumL xs * sumL ys : Int) : Rat) / ((delT xs xs.length : Int) : Rat)

def sqB (xs ys : List Int) : Rat := ((sumL ys : Int) : Rat) / (((xs.length : Int)) : Rat) - sqA xs ys * (((sumL xs : Int) : Rat) / (((xs.length : Int)) : Rat))

structure SqF (xs ys : List Int) : Prop where
  n : 2 ≤ xs.length ∧ xs.length ≤ 7
  sx : -84 ≤ sumL xs ∧ sumL xs ≤ 84
  sy : -84 ≤ sumL ys ∧ sumL ys ≤ 84
  del : 1 ≤ delT xs xs.length ∧ delT xs xs.length ≤ 14112
  up : -14112 ≤ (xs.length : Int) * dotT xs ys xs.length - sumL xs * sumL ys ∧ (xs.length : Int) * dotT xs ys xs.length - sumL xs * sumL ys ≤ 14112
  p1 : -7056 ≤ (xs.length : Int) * dotT xs ys xs.length ∧ (xs.length : Int) * dotT xs ys xs.length ≤ 7056
  p2 : -7056 ≤ (xs.length : Int) * dotT xs xs xs.length ∧ (xs.length : Int) * dotT xs xs xs.length ≤ 7056
  p3 : -7056 ≤ sumL xs * sumL ys ∧ sumL xs * sumL ys ≤ 7056
  p4 : -7056 ≤ sumL xs * sumL xs ∧ sumL xs * sumL xs ≤ 7056
  e : delT xs xs.length = (xs.length : Int) * dotT xs xs xs.length - sumL xs * sumL xs
  line : LineOk (sqA xs ys) (sqB xs ys) (delT xs xs.length * (xs.length : Int)) 98784 2376108

theorem Pts.bd {xs ys : List Int} (h : Pts xs ys) : Bd 12 xs ∧ Bd 12 ys := by
  refine ⟨fun x hx => ?_, fun y hy => ?_⟩
  · obtain ⟨i, hi, rfl⟩ := List.mem_iff_getElem.1 hx
    have := (h.1 i hi).2.1
    rwa [nth_of hi] at this
  · obtain ⟨i, hi, rfl⟩ := List.mem_iff_getElem.1 hy
    have := (h.1 i (by have := h.2.1; omega)).2.2
    rwa [nth_of hi] at this

abbrev fr0 : AV := .agg [.int .i64 0, .int .i64 0]

theorem SqF.fits {xs ys : List Int} (h : SqF xs ys) : FitM (sqA xs ys) (((sumL xs : Int) : Rat) / (((xs.length : Int)) : Rat)) ∧ FitA (((sumL ys : Int) : Rat) / (((xs.length : Int)) : Rat)) (sqA xs ys * (((sumL xs : Int) : Rat) / (((xs.length : Int)) : Rat))) := by
  obtain ⟨hn, hsx, hsy, hdel, hup, _, _, _, _, _, _⟩ := h
  have f1 : FD (sqA xs ys) (delT xs xs.length) 14112 := FD.div (by omega) hup
  have f2 : FD (((sumL ys : Int) : Rat) / (((xs.length : Int)) : Rat)) (xs.length : Int) 84 := FD.div (by omega) (by omega)
  have f3 : FD (((sumL xs : Int) : Rat) / (((xs.length : Int)) : Rat)) (xs.length : Int) 84 := FD.div (by omega) (by omega)
  have m5 := mulbd (a := delT xs xs.length) (b := (xs.length : Int)) (A := 14112) (B := 7) (by omega) (by omega) (by omega) (by omega)
  have m8 := Int.mul_nonneg (a := delT xs xs.length) (b := (xs.length : Int)) (by omega) (by omega)
  have m6 := mulbd (a := (xs.length : Int)) (b := delT xs xs.length * (xs.length : Int)) (A := 7) (B := 98784) (by omega) (by omega) (by omega) (by omega)
  have m7 := mulbd (a := (xs.length : Int)) (b := delT xs xs.length) (A := 7) (B := 14112) (by omega) (by omega) (by omega) (by omega)
  exact ⟨fitM_of f1 f3 (by omega) (by omega), fitA_of f2 (f1.mul f3) (by omega) (by omega) (by omega)⟩

abbrev cel0 (i : Nat) : Ch := ⟨.cell, .ptr i 0, 2, 1, [.int .i64 0, .int .i64 0]⟩

abbrev celF (i : Nat) (q : Rat) : Ch := ⟨.cell, .ptr i 0, 2, 1, [.int .i64 q.num, .int .i64 (q.den : Int)]⟩

def frC (q : Rat) : List AV := [.int .i64 q.num, .int .i64 (q.den : Int)]

theorem gd2_bslg {P : Program} {Qt : FuncId → List AV → Option AV} {base k : Nat} {A : Heap} {X : List Nat} {E : List (Nat × AV)} {S : Sig} {L O : List AV} {acc : List Fp} {prs : List (Nat × Nat)} {K : St → Prop} {r : List MI} {d n es : Nat} {z : List AV} {parts : List (Nat × MX)} {N : AV → Sig} (hs : Stp A X E S (.bsl n es z parts) (New N))
    (hk : ∀ u, GD2 P Qt base (k + 1) A X ((d, u) :: E) (N u) (u :: L) O (acc ++ [(true, some (k, k + 1))]) prs r K) : GD2 P Qt base k A X E S L O acc prs (⟨some d, none, .bsl n es z parts⟩ :: r) K := by
  refine ⟨fun s m c hE hS hm hL hO hc hkl => ?_⟩
  obtain ⟨v', S'', H', m', rfl, h2, h3, h4, h5, h6⟩ := hs.stp s.τ s.H m (base + k) hE hS hm
  have hd0 : dstep P Qt (base + k) ⟨some d, none, (.bsl n es z parts)⟩ s = mstep (base + k) s.τ s.H (.bsl n es z parts) := dstep_plain2 rfl
  simp only [dops, hd0, h2]
  refine (hk v').g _ m' _ (look_cons hE d _) h3 (by omega) ?_ hO (hc.snoc ?_) (by simp [hkl])
  · intro u hu id hid
    rcases List.mem_cons.1 hu with rfl | hu
    · simp only [mstep] at h2
      split at h2
      · simp only [Option.some.injEq, Prod.mk.injEq] at h2
        rw [← h2.1] at hid
        simp only [AV.bid, Option.some.injEq] at hid; omega
      · cases h2
    · exact hL u hu id hid
  · refine ⟨by simp [foot], by simp [foot], by simp, ?_⟩
    intro lo hi h7 id hid
    simp only [Option.some.injEq, Prod.mk.injEq] at h7
    simp only [touch, List.mem_singleton] at hid
    omega

def slR (xs ys : List Int) (i k : Nat) : Rat := ((nth ys i - nth ys k : Int) : Rat) / ((nth xs i - nth xs k : Int) : Rat)

/-- a slope: of a denominator of at most 24 -/
theorem slR_fd {xs ys : List Int} (hp : Pts xs ys) {i k : Nat} (h : nth xs i ≠ nth xs k) : ∃ D, D ≤ 24 ∧ FD (slR xs ys i k) D 24 := by
  obtain ⟨b1, b2⟩ := hp.bd
  have x1 := b1.nth (by omega) i
  have x2 := b1.nth (by omega) k
  have y1 := b2.nth (by omega) i
  have y2 := b2.nth (by omega) k
  exact ⟨_, by omega, FD.divn (by omega) (by omega)⟩

def OvF (x y : Int) (s h : Rat) : Prop := (-24 ≤ x ∧ x ≤ 24) ∧ (-24 ≤ y ∧ y ≤ 24) ∧ ∃ D A B, LineOk s h D A B

noncomputable def dOver : List AV → Option AV
  | [.int .i64 x, .int .i64 y, v, w] => match frOf v, frOf w with
    | some s, some h => by
      classical
      exact if OvF x y s h then some (frV ((y : Rat) - (s * (x : Rat) + h))) else none
    | _, _ => none
  | _ => none

theorem dOver_is {x y : Int} {s h : Rat} {D A B : Int} (hx : -24 ≤ x ∧ x ≤ 24) (hy : -24 ≤ y ∧ y ≤ 24) (hl : LineOk s h D A B) : dOver [.int .i64 x, .int .i64 y, frV s, frV h] = some (frV ((y : Rat) - (s * (x : Rat) + h))) := by
  simp only [dOver, frOf_frV]
  exact if_pos ⟨hx, hy, D, A, B, hl⟩

theorem dOver_fam {f : FuncId} {P : Program} (hc : Callable P f) (h : ∀ {H : Heap} {x y : Int} {s h : Rat} {D A B : Int}, (-24 ≤ x ∧ x ≤ 24) → (-24 ≤ y ∧ y ≤ 24) → LineOk s h D A B → ACalls P f [.int .i64 x, .int .i64 y, frV s, frV h] H fun r H' => r = frV ((y : Rat) - (s * (x : Rat) + h)) ∧ H' = H) (H : Heap) : FamOk P H f dOver := by
  intro args v hv
  unfold dOver at hv
  split at hv
  · split at hv
    · rename_i s' h' h1 h2
      split at hv
      · rename_i hF
        simp only [Option.some.injEq] at hv; subst hv
        rw [frOf_some h1, frOf_some h2]
        obtain ⟨a1, a2, D, A, B, hl⟩ := hF
        exact ⟨hc, h a1 a2 hl⟩
      · cases hv
    · cases hv
  · cases hv

theorem dOver_ok (H : Heap) : FamOk Try.prog H fn_spec_over dOver := dOver_fam code_spec_over.callable (fun a b c => specOver_ok a b c) H

/-- a slope alone -/
theorem LineOk.flat {s : Rat} {D : Int} (hs : FD s D 24) (hd : D ≤ 24) : LineOk s ((0 : Int) : Rat) D 24 0 :=
  ⟨hs, ((FD.int (n := 0) (B := 0) (by omega)).lift hs.pos.1).to (by omega) |>.mono (by omega), by omega, by omega, by omega⟩

def bRes (xs ys : List Int) (s : Rat) (j : Nat) : Rat := ((nth ys j : Int) : Rat) - (s * ((nth xs j : Int) : Rat) + ((0 : Int) : Rat))

theorem bRes_fd {xs ys : List Int} (hp : Pts xs ys) {s : Rat} {D : Int} (hs : FD s D 24) (hd : D ≤ 24) (j : Nat) : FD (bRes xs ys s j) D 1152 := by
  obtain ⟨b1, b2⟩ := hp.bd
  have x1 := b1.nth (by omega) j
  have y1 := b2.nth (by omega) j
  exact ((LineOk.flat hs hd).over (x := nth xs j) (y := nth ys j) (by omega) (by omega)).mono (by omega)

def nrA (xs ys : List Int) (p : Nat × Nat) : Rat := slR xs ys p.2 p.1

def nrB (xs ys : List Int) (p : Nat × Nat) : Rat := bRes xs ys (nrA xs ys p) p.1

def nrD (xs ys : List Int) (s h : Rat) (j : Nat) : Rat := ((nth ys j : Int) : Rat) - (s * ((nth xs j : Int) : Rat) + h)

def nrC (xs ys : List Int) (s h : Rat) : Nat → Rat
  | 0 => ((0 : Int) : Rat)
  | j + 1 => nrC xs ys s h j + absR (nrD xs ys s h j)

def nrR (xs ys : List Int) (p : Nat × Nat) : Rat := nrC xs ys (nrA xs ys p) (nrB xs ys p) xs.length

def nrS (xs ys : List Int) (st : Option (Nat × Nat)) (p : Nat × Nat) : Option (Nat × Nat) :=
  if nth xs p.1 = nth xs p.2 then st else match st with
    | none => some p
    | some q => if nrR xs ys p < nrR xs ys q then some p else some q

theorem nrS_same {xs ys : List Int} {st : Option (Nat × Nat)} {p : Nat × Nat} (h : nth xs p.1 = nth xs p.2) : nrS xs ys st p = st := if_pos h

theorem nrS_none {xs ys : List Int} {p : Nat × Nat} (h : ¬ nth xs p.1 = nth xs p.2) : nrS xs ys none p = some p := if_neg h

theorem nrS_some {xs ys : List Int} {p q : Nat × Nat} (h : ¬ nth xs p.1 = nth xs p.2) : nrS xs ys (some q) p = if nrR xs ys p < nrR xs ys q then some p else some q := if_neg h

def nrI (xs ys : List Int) (i : Nat) (st : Option (Nat × Nat)) : Nat → Option (Nat × Nat)
  | 0 => st
  | m + 1 => nrS xs ys (nrI xs ys i st m) (i, i + 1 + m)

def nrT (xs ys : List Int) : Nat → Option (Nat × Nat)
  | 0 => none
  | i + 1 => nrI xs ys i (nrT xs ys i) (xs.length - (i + 1))

def celO (i : Nat) (st : Option (Nat × Nat)) (f : Nat × Nat → Rat) : Ch := ⟨.cell, .ptr i 0, 2, 1, match st with
  | none => [.int .i64 0, .int .i64 0]
  | some p => frC (f p)⟩

theorem celO_none (i : Nat) (f : Nat × Nat → Rat) : celO i none f = cel0 i := rfl

theorem celO_some (i : Nat) (p : Nat × Nat) (f : Nat × Nat → Rat) : celO i (some p) f = celF i (f p) := rfl

def valO (st : Option (Nat × Nat)) (f : Nat × Nat → Rat) : AV := match st with
  | none => fr0
  | some p => frV (f p)

noncomputable def nrX (xs ys : List Int) : AV := if Cloud xs ys then .tuple [valO (nrT xs ys xs.length) (nrA xs ys), valO (nrT xs ys xs.length) (nrB xs ys), valO (nrT xs ys xs.length) (nrR xs ys), .bool true] else .tuple [fr0, fr0, fr0, .bool false]

/-- two points with different xs -/
def nrP (xs : List Int) (p : Nat × Nat) : Prop := nth xs p.1 ≠ nth xs p.2

def nrO (xs : List Int) (st : Option (Nat × Nat)) : Prop := ∀ p, st = some p → nrP xs p

theorem nrS_ok {xs ys : List Int} {st : Option (Nat × Nat)} {p : Nat × Nat} (h : nrO xs st) : nrO xs (nrS xs ys st p) := by
  unfold nrS
  split
  · exact h
  · rename_i hne
    split
    · intro q hq; cases hq; exact hne
    · rename_i q
      split
      · intro q' hq; cases hq; exact hne
      · exact h

theorem nrI_ok {xs ys : List Int} {i : Nat} {st : Option (Nat × Nat)} (h : nrO xs st) : ∀ m, nrO xs (nrI xs ys i st m)
  | 0 => h
  | m + 1 => nrS_ok (nrI_ok h m)

theorem nrT_ok {xs ys : List Int} : ∀ i, nrO xs (nrT xs ys i)
  | 0 => by intro p hp; cases hp
  | i + 1 => nrI_ok (nrT_ok i) _

theorem nr_line {xs ys : List Int} (hp : Pts xs ys) {p : Nat × Nat} (h : nrP xs p) : ∃ D, D ≤ 24 ∧ FD (nrA xs ys p) D 24 ∧ LineOk (nrA xs ys p) (nrB xs ys p) D 24 1152 := by
  obtain ⟨D, d, f⟩ := slR_fd (ys := ys) hp (Ne.symm h)
  exact ⟨D, d, f, f, bRes_fd hp f d _, by omega, by omega, by omega⟩

theorem nrD_fd {xs ys : List Int} (hp : Pts xs ys) {s h : Rat} {D : Int} (hl : LineOk s h D 24 1152) (hd : D ≤ 24) (j : Nat) : FD (nrD xs ys s h j) D 2304 := by
  obtain ⟨b1, b2⟩ := hp.bd
  have x1 := b1.nth (by omega) j
  have y1 := b2.nth (by omega) j
  exact (hl.over (x := nth xs j) (y := nth ys j) (by omega) (by omega)).mono (by omega)

theorem nrC_fd {xs ys : List Int} (hp : Pts xs ys) {s h : Rat} {D : Int} (hl : LineOk s h D 24 1152) (hd : D ≤ 24) : ∀ j, FD (nrC xs ys s h j) D (2304 * (j : Int))
  | 0 => ((FD.int (n := 0) (B := 0) (by omega)).lift hl.s.pos.1).to (by omega) |>.mono (by omega)
  | j + 1 => ((nrC_fd hp hl hd j).add (nrD_fd hp hl hd j).abs).mono (by omega)

theorem nrR_fd {xs ys : List Int} (hp : Pts xs ys) {p : Nat × Nat} (h : nrP xs p) : ∃ D, D ≤ 24 ∧ FD (nrR xs ys p) D 16128 := by
  obtain ⟨D, d, f, hl⟩ := nr_line hp h
  have h7 := hp.2.2
  exact ⟨D, d, (nrC_fd hp hl d xs.length).mono (by omega)⟩

theorem nrR_fit {xs ys : List Int} (hp : Pts xs ys) {p q : Nat × Nat} (h : nrP xs p) (h' : nrP xs q) : FitA (nrR xs ys p) (nrR xs ys q) := by
  obtain ⟨D, d, f⟩ := nrR_fd hp h
  obtain ⟨E, e, g⟩ := nrR_fd hp h'
  have := f.pos.1
  have := g.pos.1
  have m := mulbd (a := D) (b := E) (A := 24) (B := 24) (by omega) (by omega) d e
  exact fitA_of f g (by omega) (by omega) (by omega)

noncomputable def dSize : List AV → Option AV
  | [v] => match frOf v with
    | some q => if -4000000000000000000 ≤ q.num ∧ q.num ≤ 4000000000000000000 then some (frV (absR q)) else none
    | none => none
  | _ => none

theorem dSize_is {q : Rat} (h : -4000000000000000000 ≤ q.num ∧ q.num ≤ 4000000000000000000) : dSize [frV q] = some (frV (absR q)) := by
  simp only [dSize, frOf_frV, if_pos h]

theorem dSize_fam {f : FuncId} {P : Program} (hc : Callable P f) (h : ∀ {H : Heap} {q : Rat}, -4000000000000000000 ≤ q.num ∧ q.num ≤ 4000000000000000000 → ACalls P f [frV q] H fun r H' => r = frV (absR q) ∧ H' = H) (H : Heap) : FamOk P H f dSize := by
  intro args v hv
  unfold dSize at hv
  split at hv
  · split at hv
    · rename_i q h1
      split at hv
      · rename_i hF
        simp only [Option.some.injEq] at hv; subst hv
        rw [frOf_some h1]
        exact ⟨hc, h hF⟩
      · cases hv
    · cases hv
  · cases hv

theorem dSize_ok (H : Heap) : FamOk Try.prog H fn_spec_size dSize := dSize_fam code_spec_size.callable (fun h => specSize_ok h) H

end Go.Rx.Try
