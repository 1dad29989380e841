import Derived.Test.YtophpmdlgphihapFnRiseSumD2
namespace Go.Rx.Try
open Go.Proofs
set_option maxRecDepth 100000
set_option maxHeartbeats 8000000
set_option linter.unusedSimpArgs false
set_option linter.unusedVariables false

def htS (xs ws : List Int) : Nat → Nat → Int
  | 0, _ => 0
  | i + 1, t => min (htS xs ws i t + htG xs ws i t) 0

theorem htC_step (xs ws : List Int) (i t : Nat) : htC xs ws i (t + 1) = htC xs ws i t + htG xs ws i t := by
  unfold htC htG
  by_cases h : nth xs i ≤ (t : Int) - 30
  · rw [if_pos h, show max (nth xs i - (((t + 1 : Nat) : Int) - 30)) (((t + 1 : Nat) : Int) - 30 - nth xs i) = max (nth xs i - ((t : Int) - 30)) ((t : Int) - 30 - nth xs i) + 1 by omega, Int.add_mul, Int.one_mul]
  · rw [if_neg h, show max (nth xs i - (((t + 1 : Nat) : Int) - 30)) (((t + 1 : Nat) : Int) - 30 - nth xs i) = max (nth xs i - ((t : Int) - 30)) ((t : Int) - 30 - nth xs i) - 1 by omega, Int.sub_mul, Int.one_mul]
    rfl

theorem htG_up {xs ws : List Int} {i t : Nat} (h : 0 ≤ nth ws i) : htG xs ws i t ≤ htG xs ws i (t + 1) := by
  unfold htG; split <;> split <;> omega

theorem htS_up {xs ws : List Int} : ∀ {i t : Nat}, (∀ j, j < i → 0 ≤ nth ws j) → htS xs ws i t ≤ htS xs ws i (t + 1)
  | 0, _, _ => Int.le_refl _
  | i + 1, t, h => by
    have h1 := htS_up (xs := xs) (ws := ws) (i := i) (t := t) fun j hj => h j (by omega)
    have h2 := htG_up (xs := xs) (t := t) (h i (by omega))
    rw [htS, htS]; omega

theorem mp_slope {h s : Nat → Int} (hs : ∀ t, h (t + 1) = h t + s t) (hm : ∀ t, s t ≤ s (t + 1)) (t : Nat) : mpI h (t + 1) = mpI h t + min (s t) 0 := by
  have key : ∀ t, mpI h t = h t ∨ (0 ≤ s t ∧ mpI h t ≤ h t) := by
    intro t
    induction t with
    | zero => exact .inl rfl
    | succ t ih =>
      have h1 := hs t
      have h2 := hm t
      rw [mpI]
      omega
  have h1 := hs t
  have h2 := key t
  rw [mpI]
  omega

theorem htD_step {xs ws : List Int} : ∀ {i : Nat}, (∀ j, j < i → 0 ≤ nth ws j) → ∀ t, htD xs ws i (t + 1) = htD xs ws i t + htS xs ws i t
  | 0, _, _ => rfl
  | i + 1, h, t => by
    have ih := htD_step (xs := xs) (i := i) fun j hj => h j (by omega)
    have m := mp_slope (h := fun t => htD xs ws i t + htC xs ws i t) (s := fun t => htS xs ws i t + htG xs ws i t) (fun t => by
      have := ih t
      have := htC_step xs ws i t
      omega) (fun t => by
      have := htS_up (xs := xs) (ws := ws) (i := i) (t := t) fun j hj => h j (by omega)
      have := htG_up (xs := xs) (t := t) (h i (by omega))
      omega) t
    exact m

theorem htS_flat {xs ws : List Int} {t : Nat} : ∀ {i : Nat}, (∀ j, j < i → nth xs j ≠ ((t + 1 : Nat) : Int) - 30) → htS xs ws i (t + 1) = htS xs ws i t
  | 0, _ => rfl
  | i + 1, h => by
    have h1 := htS_flat (xs := xs) (ws := ws) (t := t) (i := i) fun j hj => h j (by omega)
    have h2 := h i (by omega)
    have h3 : htG xs ws i (t + 1) = htG xs ws i t := by unfold htG; split <;> split <;> omega
    rw [htS, htS, h1, h3]

theorem htS_neg (xs ws : List Int) (i t : Nat) : htS xs ws i t ≤ 0 := by
  cases i with
  | zero => exact Int.le_refl _
  | succ i => rw [htS]; omega

theorem htS_top {xs ws : List Int} {t : Nat} : ∀ {i : Nat}, (∀ j, j < i → 0 ≤ nth ws j) → (∀ j, j < i → nth xs j ≤ (t : Int) - 30) → htS xs ws i t = 0
  | 0, _, _ => rfl
  | i + 1, h, h' => by
    have h1 := htS_top (xs := xs) (ws := ws) (i := i) (t := t) (fun j hj => h j (by omega)) fun j hj => h' j (by omega)
    have h2 := h i (by omega)
    rw [htS, h1, htG, if_pos (h' i (by omega))]; omega

theorem pts_low {h s : Nat → Int} {B : Nat → Prop} (hs : ∀ t, h (t + 1) = h t + s t) (hf : ∀ t, ¬ B (t + 1) → s (t + 1) = s t) (h0 : ¬ B 0 → s 0 < 0) {e : Nat} (he : B e) {t : Nat} (ht : t ≤ e) : ∃ b, b ≤ e ∧ B b ∧ h b ≤ h t := by
  have left : ∀ t, 0 ≤ s t → ∃ b, b ≤ t ∧ B b ∧ h b ≤ h t := by
    intro t
    induction t with
    | zero =>
      intro hz
      by_cases hb : B 0
      · exact ⟨0, Nat.le_refl _, hb, Int.le_refl _⟩
      · have := h0 hb; omega
    | succ t ih =>
      intro hz
      by_cases hb : B (t + 1)
      · exact ⟨t + 1, Nat.le_refl _, hb, Int.le_refl _⟩
      · have e1 := hf t hb
        have e2 := hs t
        obtain ⟨b, b1, b2, b3⟩ := ih (by omega)
        exact ⟨b, by omega, b2, by omega⟩
  have right : ∀ d t, t + d = e → s t ≤ 0 → ∃ b, b ≤ e ∧ B b ∧ h b ≤ h t := by
    intro d
    induction d with
    | zero => intro t h1 _; obtain rfl : t = e := h1; exact ⟨t, Nat.le_refl _, he, Int.le_refl _⟩
    | succ d ih =>
      intro t h1 h2
      have e2 := hs t
      by_cases hb : B (t + 1)
      · exact ⟨t + 1, by omega, hb, by omega⟩
      · have e1 := hf t hb
        obtain ⟨b, b1, b2, b3⟩ := ih (t + 1) (by omega) (by omega)
        exact ⟨b, b1, b2, by omega⟩
  rcases Int.le_total 0 (s t) with h1 | h1
  · obtain ⟨b, b1, b2, b3⟩ := left t h1
    exact ⟨b, by omega, b2, b3⟩
  · exact right (e - t) t (by omega) h1

theorem htD_at {xs ws : List Int} (hx : ∀ j, -30 ≤ nth xs j ∧ nth xs j ≤ 30) (hw : ∀ j, j < xs.length → 1 ≤ nth ws j) : ∀ {i : Nat}, i ≤ xs.length → ∀ {k p : Nat}, k < xs.length → nth (sortL xs) k = (p : Int) - 30 → htD xs ws i p = mpI (rsD xs ws (sortL xs) i) k
  | 0, _, k, p, _, _ => by
    obtain ⟨_, j, _, h⟩ := mpI_is (rsD xs ws (sortL xs) 0) k
    rw [h]; rfl
  | i + 1, hi, k, p, hk, hp => by
    have ih := fun {k p : Nat} => htD_at hx hw (i := i) (by omega) (k := k) (p := p)
    have hsl := sortL_length xs
    have hup := sortL_up xs
    have hsb : ∀ j, j < xs.length → -30 ≤ nth (sortL xs) j ∧ nth (sortL xs) j ≤ 30 := fun j hj => by
      obtain ⟨m, _, e⟩ := nth_ex ((sortL_perm xs).mem_iff.1 (nth_mem (by omega : j < (sortL xs).length)))
      rw [← e]; exact hx m
    have hC : ∀ {k p : Nat}, nth (sortL xs) k = (p : Int) - 30 → htC xs ws i p = rsC xs ws (sortL xs) i k := fun {k p} e => by
      unfold htC rsC
      rw [e, Int.mul_comm]
    have hw0 : ∀ j, j < i + 1 → 0 ≤ nth ws j := fun j hj => by have := hw j (by omega); omega
    have hD : ∀ j, rsD xs ws (sortL xs) (i + 1) j = mpI (rsD xs ws (sortL xs) i) j + rsC xs ws (sortL xs) i j := fun _ => rfl
    obtain ⟨a1, j1, a2, a3⟩ := mpI_is (rsD xs ws (sortL xs) (i + 1)) k
    obtain ⟨b1, t1, b2, b3⟩ := mpI_is (fun t => htD xs ws i t + htC xs ws i t) p
    show mpI (fun t => htD xs ws i t + htC xs ws i t) p = _
    apply Int.le_antisymm
    · obtain ⟨q, hq⟩ : ∃ q : Nat, nth (sortL xs) j1 = (q : Int) - 30 := ⟨(nth (sortL xs) j1 + 30).toNat, by have := hsb j1 (by omega); omega⟩
      have h1 := b1 q (by have := hup.nth_le (i := j1) (j := k) a2 (by omega); omega)
      rw [ih (by omega) hq, hC hq] at h1
      rw [a3, hD]; exact h1
    · obtain ⟨b, c1, ⟨m, c2, c3⟩, c4⟩ := pts_low (h := fun t => htD xs ws i t + htC xs ws i t) (s := fun t => htS xs ws i t + htG xs ws i t) (B := fun t => ∃ m, m < xs.length ∧ nth xs m = (t : Int) - 30) (fun t => by
        have := htD_step (xs := xs) (i := i) (fun j hj => hw0 j (by omega)) t
        have := htC_step xs ws i t
        omega) (fun t hb => by
        have h1 := htS_flat (xs := xs) (ws := ws) (t := t) (i := i) fun j hj e => hb ⟨j, by omega, e⟩
        have h2 : nth xs i ≠ ((t + 1 : Nat) : Int) - 30 := fun e => hb ⟨i, by omega, e⟩
        have h3 : htG xs ws i (t + 1) = htG xs ws i t := by unfold htG; split <;> split <;> omega
        omega) (fun hb => by
        have h1 := htS_neg xs ws i 0
        have h2 : nth xs i ≠ ((0 : Nat) : Int) - 30 := fun e => hb ⟨i, by omega, e⟩
        have h3 := hx i
        have h4 := hw i (by omega)
        unfold htG
        rw [if_neg (by omega)]; omega) (e := p) (by
        obtain ⟨m, m1, m2⟩ := nth_ex ((sortL_perm xs).mem_iff.1 (nth_mem (by omega : k < (sortL xs).length)))
        exact ⟨m, m1, by omega⟩) b2
      have hex : ∃ j, j ≤ k ∧ nth (sortL xs) j = (b : Int) - 30 := by
        obtain ⟨j, j1, j2⟩ := nth_ex ((sortL_perm xs).mem_iff.2 (nth_mem c2))
        rcases Nat.lt_or_ge k j with g | g
        · have := hup.nth_le (i := k) (j := j) (by omega) j1
          exact ⟨k, Nat.le_refl _, by omega⟩
        · exact ⟨j, g, by omega⟩
      obtain ⟨j, j1, j2⟩ := hex
      have h1 := a1 j j1
      rw [hD, ← hC j2, ← ih (by omega) j2] at h1
      rw [b3]
      omega

theorem htD_end {xs ws : List Int} (h : Loads xs ws) : htD xs ws xs.length 60 = riX xs ws := by
  have hn := h.2.2.2.1
  have hsl := sortL_length xs
  have hup := sortL_up xs
  have hw0 : ∀ j, j < xs.length → 0 ≤ nth ws j := fun j hj => by have := (h.w hj).1; omega
  have hsb : ∀ j, j < xs.length → -30 ≤ nth (sortL xs) j ∧ nth (sortL xs) j ≤ 30 := fun j hj => by
    obtain ⟨m, _, e⟩ := nth_ex ((sortL_perm xs).mem_iff.1 (nth_mem (by omega : j < (sortL xs).length)))
    rw [← e]; exact h.x m
  have hl := hsb (xs.length - 1) (by omega)
  obtain ⟨p, hp⟩ : ∃ p : Nat, nth (sortL xs) (xs.length - 1) = (p : Int) - 30 := ⟨(nth (sortL xs) (xs.length - 1) + 30).toNat, by omega⟩
  have all : ∀ j, j < xs.length → nth xs j ≤ (p : Int) - 30 := fun j hj => by
    obtain ⟨m, m1, m2⟩ := nth_ex ((sortL_perm xs).mem_iff.2 (nth_mem hj))
    have := hup.nth_le (i := m) (j := xs.length - 1) (by omega) (by omega)
    omega
  have up : ∀ d, htD xs ws xs.length (p + d) = htD xs ws xs.length p := by
    intro d
    induction d with
    | zero => rfl
    | succ d ih =>
      rw [← Nat.add_assoc, htD_step hw0, ih, htS_top hw0 fun j hj => by have := all j hj; omega]
      omega
  have e := up (60 - p)
  rw [show p + (60 - p) = 60 by omega] at e
  rw [e, htD_at (fun j => h.x j) (fun j hj => (h.w hj).1) (Nat.le_refl _) (by omega) hp]
  rfl

def Steps (xs : List Int) : Prop := Bd 30 xs ∧ 1 ≤ xs.length ∧ xs.length ≤ 8

noncomputable instance (xs : List Int) : Decidable (Steps xs) := Classical.propDecidable _

theorem Steps.x {xs : List Int} (h : Steps xs) (j : Nat) : -30 ≤ nth xs j ∧ nth xs j ≤ 30 := h.1.nth (by omega) j

theorem validHeights_ok {H : Heap} {a : AV} {xs : List Int} (ha : Ints H a xs) (hl : xs.length ≤ 1000000000) :
    ACalls Try.prog fn_impl_validHeights [a] H fun r H' => r = .bool (decide (Steps xs)) ∧ H' = H := by
  refine ACalls.val ?_ rfl
  refine code_impl_validHeights.go [.roI a xs.length xs] ⟨⟨rfl, ha⟩, trivial⟩ (by simp) ?_
  unfold mc_impl_validHeights
  have no : (Steps xs → False) → decide (Steps xs) = false := fun h => decide_eq_false h
  (repeat (first | refine gst (hk := ?_) | (show GO _ _ _ _ _ (⟨some _, none, _⟩ :: _) _; first | refine go_op (hk := ?_) | (refine go_nw (hk := ?_); intro u; try simp only [llc, lln, lna, lza]) | (refine go_np (hk := ?_); intro id)) | (show GO _ _ _ _ _ (⟨none, none, _⟩ :: _) _; refine go_st (hk := ?_)) | (show GO _ _ _ _ _ (⟨_, some _, _⟩ :: _) _; first | refine go_in (hk := ?_) | refine go_out (hk := ?_) | refine go_void (hk := ?_)) | (show GK _ _ _ _ (blockK _ _ _); refine gk_past rfl ?_) | (show GC _ _ _ _ _ (.cond _ _ _) _; first | refine gc_yes (h1 := ?_) | refine gc_no (h1 := ?_))))
  refine go_split 8 rfl (fun h1 => ?_) (fun h1 => ?_)
  · (repeat (first | refine gst (hk := ?_) | (show GO _ _ _ _ _ (⟨some _, none, _⟩ :: _) _; first | refine go_op (hk := ?_) | (refine go_nw (hk := ?_); intro u; try simp only [llc, lln, lna, lza]) | (refine go_np (hk := ?_); intro id)) | (show GO _ _ _ _ _ (⟨none, none, _⟩ :: _) _; refine go_st (hk := ?_)) | (show GO _ _ _ _ _ (⟨_, some _, _⟩ :: _) _; first | refine go_in (hk := ?_) | refine go_out (hk := ?_) | refine go_void (hk := ?_)) | (show GK _ _ _ _ (blockK _ _ _); refine gk_past rfl ?_) | (show GC _ _ _ _ _ (.cond _ _ _) _; first | refine gc_yes (h1 := ?_) | refine gc_no (h1 := ?_))))
    exact gk_ret rfl fun H' hH => ⟨by rw [no fun h => by have := h.2.1; omega]; rfl, hH.leE⟩
  (repeat (first | refine gst (hk := ?_) | (show GO _ _ _ _ _ (⟨some _, none, _⟩ :: _) _; first | refine go_op (hk := ?_) | (refine go_nw (hk := ?_); intro u; try simp only [llc, lln, lna, lza]) | (refine go_np (hk := ?_); intro id)) | (show GO _ _ _ _ _ (⟨none, none, _⟩ :: _) _; refine go_st (hk := ?_)) | (show GO _ _ _ _ _ (⟨_, some _, _⟩ :: _) _; first | refine go_in (hk := ?_) | refine go_out (hk := ?_) | refine go_void (hk := ?_)) | (show GK _ _ _ _ (blockK _ _ _); refine gk_past rfl ?_) | (show GC _ _ _ _ _ (.cond _ _ _) _; first | refine gc_yes (h1 := ?_) | refine gc_no (h1 := ?_))))
  refine gc_cond rfl (fun h2 => ?_) (fun h2 => ?_)
  · (repeat (first | refine gst (hk := ?_) | (show GO _ _ _ _ _ (⟨some _, none, _⟩ :: _) _; first | refine go_op (hk := ?_) | (refine go_nw (hk := ?_); intro u; try simp only [llc, lln, lna, lza]) | (refine go_np (hk := ?_); intro id)) | (show GO _ _ _ _ _ (⟨none, none, _⟩ :: _) _; refine go_st (hk := ?_)) | (show GO _ _ _ _ _ (⟨_, some _, _⟩ :: _) _; first | refine go_in (hk := ?_) | refine go_out (hk := ?_) | refine go_void (hk := ?_)) | (show GK _ _ _ _ (blockK _ _ _); refine gk_past rfl ?_) | (show GC _ _ _ _ _ (.cond _ _ _) _; first | refine gc_yes (h1 := ?_) | refine gc_no (h1 := ?_))))
    exact gk_ret rfl fun H' hH => ⟨by rw [no fun h => by have := h.2.2; omega]; rfl, hH.leE⟩
  (repeat (first | refine gst (hk := ?_) | (show GO _ _ _ _ _ (⟨some _, none, _⟩ :: _) _; first | refine go_op (hk := ?_) | (refine go_nw (hk := ?_); intro u; try simp only [llc, lln, lna, lza]) | (refine go_np (hk := ?_); intro id)) | (show GO _ _ _ _ _ (⟨none, none, _⟩ :: _) _; refine go_st (hk := ?_)) | (show GO _ _ _ _ _ (⟨_, some _, _⟩ :: _) _; first | refine go_in (hk := ?_) | refine go_out (hk := ?_) | refine go_void (hk := ?_)) | (show GK _ _ _ _ (blockK _ _ _); refine gk_past rfl ?_) | (show GC _ _ _ _ _ (.cond _ _ _) _; first | refine gc_yes (h1 := ?_) | refine gc_no (h1 := ?_))))
  refine gc_loop (γ := Nat) (fun i => [(13, a), (14, .int .i64 (xs.length : Int)), (15, .int .i64 (i : Int))]) (fun _ => [.roI a xs.length xs]) (fun i => i ≤ xs.length ∧ ∀ j, j < i → -30 ≤ nth xs j ∧ nth xs j ≤ 30) (fun i => xs.length - i) 0 ⟨Nat.zero_le _, fun k hk => by omega⟩ (hb := ?_)
  rintro i ⟨hi, hp⟩ I ν m hk
  (repeat (first | refine gst (hk := ?_) | (show GO _ _ _ _ _ (⟨some _, none, _⟩ :: _) _; first | refine go_op (hk := ?_) | (refine go_nw (hk := ?_); intro u; try simp only [llc, lln, lna, lza]) | (refine go_np (hk := ?_); intro id)) | (show GO _ _ _ _ _ (⟨none, none, _⟩ :: _) _; refine go_st (hk := ?_)) | (show GO _ _ _ _ _ (⟨_, some _, _⟩ :: _) _; first | refine go_in (hk := ?_) | refine go_out (hk := ?_) | refine go_void (hk := ?_)) | (show GK _ _ _ _ (blockK _ _ _); refine gk_past rfl ?_) | (show GC _ _ _ _ _ (.cond _ _ _) _; first | refine gc_yes (h1 := ?_) | refine gc_no (h1 := ?_))))
  refine gc_cond rfl (fun h => ?_) (fun h => ?_)
  · (repeat (first | refine gst (hk := ?_) | (show GO _ _ _ _ _ (⟨some _, none, _⟩ :: _) _; first | refine go_op (hk := ?_) | (refine go_nw (hk := ?_); intro u; try simp only [llc, lln, lna, lza]) | (refine go_np (hk := ?_); intro id)) | (show GO _ _ _ _ _ (⟨none, none, _⟩ :: _) _; refine go_st (hk := ?_)) | (show GO _ _ _ _ _ (⟨_, some _, _⟩ :: _) _; first | refine go_in (hk := ?_) | refine go_out (hk := ?_) | refine go_void (hk := ?_)) | (show GK _ _ _ _ (blockK _ _ _); refine gk_past rfl ?_) | (show GC _ _ _ _ _ (.cond _ _ _) _; first | refine gc_yes (h1 := ?_) | refine gc_no (h1 := ?_))))
    refine go_split 21 rfl (fun h3 => ?_) (fun h3 => ?_)
    · (repeat (first | refine gst (hk := ?_) | (show GO _ _ _ _ _ (⟨some _, none, _⟩ :: _) _; first | refine go_op (hk := ?_) | (refine go_nw (hk := ?_); intro u; try simp only [llc, lln, lna, lza]) | (refine go_np (hk := ?_); intro id)) | (show GO _ _ _ _ _ (⟨none, none, _⟩ :: _) _; refine go_st (hk := ?_)) | (show GO _ _ _ _ _ (⟨_, some _, _⟩ :: _) _; first | refine go_in (hk := ?_) | refine go_out (hk := ?_) | refine go_void (hk := ?_)) | (show GK _ _ _ _ (blockK _ _ _); refine gk_past rfl ?_) | (show GC _ _ _ _ _ (.cond _ _ _) _; first | refine gc_yes (h1 := ?_) | refine gc_no (h1 := ?_))))
      exact gk_ret rfl fun H' hH => ⟨by rw [no fun hL => by have := hL.x i; omega]; rfl, hH.leE⟩
    (repeat (first | refine gst (hk := ?_) | (show GO _ _ _ _ _ (⟨some _, none, _⟩ :: _) _; first | refine go_op (hk := ?_) | (refine go_nw (hk := ?_); intro u; try simp only [llc, lln, lna, lza]) | (refine go_np (hk := ?_); intro id)) | (show GO _ _ _ _ _ (⟨none, none, _⟩ :: _) _; refine go_st (hk := ?_)) | (show GO _ _ _ _ _ (⟨_, some _, _⟩ :: _) _; first | refine go_in (hk := ?_) | refine go_out (hk := ?_) | refine go_void (hk := ?_)) | (show GK _ _ _ _ (blockK _ _ _); refine gk_past rfl ?_) | (show GC _ _ _ _ _ (.cond _ _ _) _; first | refine gc_yes (h1 := ?_) | refine gc_no (h1 := ?_))))
    refine gc_cond rfl (fun h4 => ?_) (fun h4 => ?_)
    · (repeat (first | refine gst (hk := ?_) | (show GO _ _ _ _ _ (⟨some _, none, _⟩ :: _) _; first | refine go_op (hk := ?_) | (refine go_nw (hk := ?_); intro u; try simp only [llc, lln, lna, lza]) | (refine go_np (hk := ?_); intro id)) | (show GO _ _ _ _ _ (⟨none, none, _⟩ :: _) _; refine go_st (hk := ?_)) | (show GO _ _ _ _ _ (⟨_, some _, _⟩ :: _) _; first | refine go_in (hk := ?_) | refine go_out (hk := ?_) | refine go_void (hk := ?_)) | (show GK _ _ _ _ (blockK _ _ _); refine gk_past rfl ?_) | (show GC _ _ _ _ _ (.cond _ _ _) _; first | refine gc_yes (h1 := ?_) | refine gc_no (h1 := ?_))))
      exact gk_ret rfl fun H' hH => ⟨by rw [no fun hL => by have := hL.x i; omega]; rfl, hH.leE⟩
    · (repeat (first | refine gst (hk := ?_) | (show GO _ _ _ _ _ (⟨some _, none, _⟩ :: _) _; first | refine go_op (hk := ?_) | (refine go_nw (hk := ?_); intro u; try simp only [llc, lln, lna, lza]) | (refine go_np (hk := ?_); intro id)) | (show GO _ _ _ _ _ (⟨none, none, _⟩ :: _) _; refine go_st (hk := ?_)) | (show GO _ _ _ _ _ (⟨_, some _, _⟩ :: _) _; first | refine go_in (hk := ?_) | refine go_out (hk := ?_) | refine go_void (hk := ?_)) | (show GK _ _ _ _ (blockK _ _ _); refine gk_past rfl ?_) | (show GC _ _ _ _ _ (.cond _ _ _) _; first | refine gc_yes (h1 := ?_) | refine gc_no (h1 := ?_))))
      refine gk_next (hk (i + 1) ⟨by omega, fun j hj => ?_⟩ (by omega))
      rcases Nat.lt_or_ge j i with h5 | h5
      · exact hp j h5
      · rw [show j = i by omega]; omega
  · obtain rfl : i = xs.length := by omega
    have h6 : Bd 30 xs := fun x hx => by
      obtain ⟨m, hm, rfl⟩ := nth_ex hx
      exact hp m hm
    (repeat (first | refine gst (hk := ?_) | (show GO _ _ _ _ _ (⟨some _, none, _⟩ :: _) _; first | refine go_op (hk := ?_) | (refine go_nw (hk := ?_); intro u; try simp only [llc, lln, lna, lza]) | (refine go_np (hk := ?_); intro id)) | (show GO _ _ _ _ _ (⟨none, none, _⟩ :: _) _; refine go_st (hk := ?_)) | (show GO _ _ _ _ _ (⟨_, some _, _⟩ :: _) _; first | refine go_in (hk := ?_) | refine go_out (hk := ?_) | refine go_void (hk := ?_)) | (show GK _ _ _ _ (blockK _ _ _); refine gk_past rfl ?_) | (show GC _ _ _ _ _ (.cond _ _ _) _; first | refine gc_yes (h1 := ?_) | refine gc_no (h1 := ?_))))
    exact gk_ret rfl fun H' hH => ⟨by
      have : Steps xs := ⟨h6, by omega, by omega⟩
      simp [tupleOf, this], hH.leE⟩

theorem implValidLoads_ok {H : Heap} {a b : AV} {xs ws : List Int} (ha : Ints H a xs) (hb : Ints H b ws) (hl : xs.length ≤ 1000000000) (hl' : ws.length ≤ 1000000000) :
    ACalls Try.prog fn_impl_ValidLoads [a, b] H fun r H' => r = .bool (decide (Loads xs ws)) ∧ H' = H := by
  refine ACalls.val ?_ rfl
  refine code_impl_ValidLoads.go [.roI a xs.length xs, .roI b ws.length ws] ⟨⟨rfl, ha⟩, ⟨rfl, hb⟩, trivial⟩ (by simp) ?_
  unfold mc_impl_ValidLoads
  have no : ∀ {p : Prop}, (Loads xs ws → p) → ¬ p → decide (Loads xs ws) = false := fun h1 h2 => decide_eq_false fun h3 => h2 (h1 h3)
  (repeat (first | refine gst (hk := ?_) | (show GO _ _ _ _ _ (⟨some _, none, _⟩ :: _) _; first | refine go_op (hk := ?_) | (refine go_nw (hk := ?_); intro u; try simp only [llc, lln, lna, lza]) | (refine go_np (hk := ?_); intro id)) | (show GO _ _ _ _ _ (⟨none, none, _⟩ :: _) _; refine go_st (hk := ?_)) | (show GO _ _ _ _ _ (⟨_, some _, _⟩ :: _) _; first | refine go_in (hk := ?_) | refine go_out (hk := ?_) | refine go_void (hk := ?_)) | (show GK _ _ _ _ (blockK _ _ _); refine gk_past rfl ?_) | (show GC _ _ _ _ _ (.cond _ _ _) _; first | refine gc_yes (h1 := ?_) | refine gc_no (h1 := ?_))))
  refine go_callp rfl code_impl_validHeights.callable (fun H hH => validHeights_ok (hH.ints (by exact Has.auto)) hl) ?_
  (repeat (first | refine gst (hk := ?_) | (show GO _ _ _ _ _ (⟨some _, none, _⟩ :: _) _; first | refine go_op (hk := ?_) | (refine go_nw (hk := ?_); intro u; try simp only [llc, lln, lna, lza]) | (refine go_np (hk := ?_); intro id)) | (show GO _ _ _ _ _ (⟨none, none, _⟩ :: _) _; refine go_st (hk := ?_)) | (show GO _ _ _ _ _ (⟨_, some _, _⟩ :: _) _; first | refine go_in (hk := ?_) | refine go_out (hk := ?_) | refine go_void (hk := ?_)) | (show GK _ _ _ _ (blockK _ _ _); refine gk_past rfl ?_) | (show GC _ _ _ _ _ (.cond _ _ _) _; first | refine gc_yes (h1 := ?_) | refine gc_no (h1 := ?_))))
  refine go_split 10 rfl (fun h1 => ?_) (fun h1 => ?_)
  · (repeat (first | refine gst (hk := ?_) | (show GO _ _ _ _ _ (⟨some _, none, _⟩ :: _) _; first | refine go_op (hk := ?_) | (refine go_nw (hk := ?_); intro u; try simp only [llc, lln, lna, lza]) | (refine go_np (hk := ?_); intro id)) | (show GO _ _ _ _ _ (⟨none, none, _⟩ :: _) _; refine go_st (hk := ?_)) | (show GO _ _ _ _ _ (⟨_, some _, _⟩ :: _) _; first | refine go_in (hk := ?_) | refine go_out (hk := ?_) | refine go_void (hk := ?_)) | (show GK _ _ _ _ (blockK _ _ _); refine gk_past rfl ?_) | (show GC _ _ _ _ _ (.cond _ _ _) _; first | refine gc_yes (h1 := ?_) | refine gc_no (h1 := ?_))))
    exact gk_ret rfl fun H' hH => ⟨by rw [no (p := Steps xs) (fun h => ⟨h.2.1, h.2.2.2.1, h.2.2.2.2⟩) h1]; rfl, hH.leE⟩
  have hS := Decidable.not_not.1 h1
  (repeat (first | refine gst (hk := ?_) | (show GO _ _ _ _ _ (⟨some _, none, _⟩ :: _) _; first | refine go_op (hk := ?_) | (refine go_nw (hk := ?_); intro u; try simp only [llc, lln, lna, lza]) | (refine go_np (hk := ?_); intro id)) | (show GO _ _ _ _ _ (⟨none, none, _⟩ :: _) _; refine go_st (hk := ?_)) | (show GO _ _ _ _ _ (⟨_, some _, _⟩ :: _) _; first | refine go_in (hk := ?_) | refine go_out (hk := ?_) | refine go_void (hk := ?_)) | (show GK _ _ _ _ (blockK _ _ _); refine gk_past rfl ?_) | (show GC _ _ _ _ _ (.cond _ _ _) _; first | refine gc_yes (h1 := ?_) | refine gc_no (h1 := ?_))))
  refine gc_cond rfl (fun h3 => ?_) (fun h3 => ?_)
  · (repeat (first | refine gst (hk := ?_) | (show GO _ _ _ _ _ (⟨some _, none, _⟩ :: _) _; first | refine go_op (hk := ?_) | (refine go_nw (hk := ?_); intro u; try simp only [llc, lln, lna, lza]) | (refine go_np (hk := ?_); intro id)) | (show GO _ _ _ _ _ (⟨none, none, _⟩ :: _) _; refine go_st (hk := ?_)) | (show GO _ _ _ _ _ (⟨_, some _, _⟩ :: _) _; first | refine go_in (hk := ?_) | refine go_out (hk := ?_) | refine go_void (hk := ?_)) | (show GK _ _ _ _ (blockK _ _ _); refine gk_past rfl ?_) | (show GC _ _ _ _ _ (.cond _ _ _) _; first | refine gc_yes (h1 := ?_) | refine gc_no (h1 := ?_))))
    exact gk_ret rfl fun H' hH => ⟨by rw [no (fun h => h.2.2.1) (by omega)]; rfl, hH.leE⟩
  (repeat (first | refine gst (hk := ?_) | (show GO _ _ _ _ _ (⟨some _, none, _⟩ :: _) _; first | refine go_op (hk := ?_) | (refine go_nw (hk := ?_); intro u; try simp only [llc, lln, lna, lza]) | (refine go_np (hk := ?_); intro id)) | (show GO _ _ _ _ _ (⟨none, none, _⟩ :: _) _; refine go_st (hk := ?_)) | (show GO _ _ _ _ _ (⟨_, some _, _⟩ :: _) _; first | refine go_in (hk := ?_) | refine go_out (hk := ?_) | refine go_void (hk := ?_)) | (show GK _ _ _ _ (blockK _ _ _); refine gk_past rfl ?_) | (show GC _ _ _ _ _ (.cond _ _ _) _; first | refine gc_yes (h1 := ?_) | refine gc_no (h1 := ?_))))
  refine gc_loop (γ := Nat) (fun i => [(17, b), (18, .int .i64 (ws.length : Int)), (19, .int .i64 (i : Int))]) (fun _ => [.roI b ws.length ws]) (fun i => i ≤ ws.length ∧ ∀ j, j < i → 1 ≤ nth ws j ∧ nth ws j ≤ 5) (fun i => ws.length - i) 0 ⟨Nat.zero_le _, fun k hk => by omega⟩ (hb := ?_)
  rintro i ⟨hi, hp⟩ I ν μ hk
  (repeat (first | refine gst (hk := ?_) | (show GO _ _ _ _ _ (⟨some _, none, _⟩ :: _) _; first | refine go_op (hk := ?_) | (refine go_nw (hk := ?_); intro u; try simp only [llc, lln, lna, lza]) | (refine go_np (hk := ?_); intro id)) | (show GO _ _ _ _ _ (⟨none, none, _⟩ :: _) _; refine go_st (hk := ?_)) | (show GO _ _ _ _ _ (⟨_, some _, _⟩ :: _) _; first | refine go_in (hk := ?_) | refine go_out (hk := ?_) | refine go_void (hk := ?_)) | (show GK _ _ _ _ (blockK _ _ _); refine gk_past rfl ?_) | (show GC _ _ _ _ _ (.cond _ _ _) _; first | refine gc_yes (h1 := ?_) | refine gc_no (h1 := ?_))))
  refine gc_cond rfl (fun h => ?_) (fun h => ?_)
  · (repeat (first | refine gst (hk := ?_) | (show GO _ _ _ _ _ (⟨some _, none, _⟩ :: _) _; first | refine go_op (hk := ?_) | (refine go_nw (hk := ?_); intro u; try simp only [llc, lln, lna, lza]) | (refine go_np (hk := ?_); intro id)) | (show GO _ _ _ _ _ (⟨none, none, _⟩ :: _) _; refine go_st (hk := ?_)) | (show GO _ _ _ _ _ (⟨_, some _, _⟩ :: _) _; first | refine go_in (hk := ?_) | refine go_out (hk := ?_) | refine go_void (hk := ?_)) | (show GK _ _ _ _ (blockK _ _ _); refine gk_past rfl ?_) | (show GC _ _ _ _ _ (.cond _ _ _) _; first | refine gc_yes (h1 := ?_) | refine gc_no (h1 := ?_))))
    refine go_split 25 rfl (fun h4 => ?_) (fun h4 => ?_)
    · (repeat (first | refine gst (hk := ?_) | (show GO _ _ _ _ _ (⟨some _, none, _⟩ :: _) _; first | refine go_op (hk := ?_) | (refine go_nw (hk := ?_); intro u; try simp only [llc, lln, lna, lza]) | (refine go_np (hk := ?_); intro id)) | (show GO _ _ _ _ _ (⟨none, none, _⟩ :: _) _; refine go_st (hk := ?_)) | (show GO _ _ _ _ _ (⟨_, some _, _⟩ :: _) _; first | refine go_in (hk := ?_) | refine go_out (hk := ?_) | refine go_void (hk := ?_)) | (show GK _ _ _ _ (blockK _ _ _); refine gk_past rfl ?_) | (show GC _ _ _ _ _ (.cond _ _ _) _; first | refine gc_yes (h1 := ?_) | refine gc_no (h1 := ?_))))
      exact gk_ret rfl fun H' hH => ⟨by rw [no (fun h => (h.w (i := i) (by omega)).1) (by omega)]; rfl, hH.leE⟩
    (repeat (first | refine gst (hk := ?_) | (show GO _ _ _ _ _ (⟨some _, none, _⟩ :: _) _; first | refine go_op (hk := ?_) | (refine go_nw (hk := ?_); intro u; try simp only [llc, lln, lna, lza]) | (refine go_np (hk := ?_); intro id)) | (show GO _ _ _ _ _ (⟨none, none, _⟩ :: _) _; refine go_st (hk := ?_)) | (show GO _ _ _ _ _ (⟨_, some _, _⟩ :: _) _; first | refine go_in (hk := ?_) | refine go_out (hk := ?_) | refine go_void (hk := ?_)) | (show GK _ _ _ _ (blockK _ _ _); refine gk_past rfl ?_) | (show GC _ _ _ _ _ (.cond _ _ _) _; first | refine gc_yes (h1 := ?_) | refine gc_no (h1 := ?_))))
    refine gc_cond rfl (fun h7 => ?_) (fun h7 => ?_)
    · (repeat (first | refine gst (hk := ?_) | (show GO _ _ _ _ _ (⟨some _, none, _⟩ :: _) _; first | refine go_op (hk := ?_) | (refine go_nw (hk := ?_); intro u; try simp only [llc, lln, lna, lza]) | (refine go_np (hk := ?_); intro id)) | (show GO _ _ _ _ _ (⟨none, none, _⟩ :: _) _; refine go_st (hk := ?_)) | (show GO _ _ _ _ _ (⟨_, some _, _⟩ :: _) _; first | refine go_in (hk := ?_) | refine go_out (hk := ?_) | refine go_void (hk := ?_)) | (show GK _ _ _ _ (blockK _ _ _); refine gk_past rfl ?_) | (show GC _ _ _ _ _ (.cond _ _ _) _; first | refine gc_yes (h1 := ?_) | refine gc_no (h1 := ?_))))
      exact gk_ret rfl fun H' hH => ⟨by rw [no (fun h => (h.w (i := i) (by omega)).2) (by omega)]; rfl, hH.leE⟩
    (repeat (first | refine gst (hk := ?_) | (show GO _ _ _ _ _ (⟨some _, none, _⟩ :: _) _; first | refine go_op (hk := ?_) | (refine go_nw (hk := ?_); intro u; try simp only [llc, lln, lna, lza]) | (refine go_np (hk := ?_); intro id)) | (show GO _ _ _ _ _ (⟨none, none, _⟩ :: _) _; refine go_st (hk := ?_)) | (show GO _ _ _ _ _ (⟨_, some _, _⟩ :: _) _; first | refine go_in (hk := ?_) | refine go_out (hk := ?_) | refine go_void (hk := ?_)) | (show GK _ _ _ _ (blockK _ _ _); refine gk_past rfl ?_) | (show GC _ _ _ _ _ (.cond _ _ _) _; first | refine gc_yes (h1 := ?_) | refine gc_no (h1 := ?_))))
    refine gk_next (hk (i + 1) ⟨by omega, fun j hj => ?_⟩ (by omega))
    rcases Nat.lt_or_ge j i with g | g
    · exact hp j g
    · rw [show j = i by omega]; omega
  · have : i = ws.length := by omega
    subst this
    (repeat (first | refine gst (hk := ?_) | (show GO _ _ _ _ _ (⟨some _, none, _⟩ :: _) _; first | refine go_op (hk := ?_) | (refine go_nw (hk := ?_); intro u; try simp only [llc, lln, lna, lza]) | (refine go_np (hk := ?_); intro id)) | (show GO _ _ _ _ _ (⟨none, none, _⟩ :: _) _; refine go_st (hk := ?_)) | (show GO _ _ _ _ _ (⟨_, some _, _⟩ :: _) _; first | refine go_in (hk := ?_) | refine go_out (hk := ?_) | refine go_void (hk := ?_)) | (show GK _ _ _ _ (blockK _ _ _); refine gk_past rfl ?_) | (show GC _ _ _ _ _ (.cond _ _ _) _; first | refine gc_yes (h1 := ?_) | refine gc_no (h1 := ?_))))
    exact gk_ret rfl fun H' hH => ⟨by
      have : Loads xs ws := ⟨fun w hw => by
        obtain ⟨m, hm, rfl⟩ := nth_ex hw
        exact hp m hm, hS.1, by omega, hS.2.1, hS.2.2⟩
      simp [tupleOf, this], hH.leE⟩

structure BK where
  id : Nat
  k : Kd
  v : AV
  s : Nat
  e : Nat

def BKok (b : BK) : Prop := b.k = .rw ∨ (b.k = .ro ∧ ∃ id off, b.v = .slice id off (b.e - b.s) (some (b.e - b.s)) 2)

theorem BKok.kd {b : BK} (h : BKok b) : b.k = .rw ∨ b.k = .ro := h.imp (fun h => h) fun h => h.1

theorem ints_get {zs : List Int} {i : Nat} (h : i < zs.length) : (ints zs)[i]? = some (.int .i64 (nth zs i)) := by
  unfold ints
  rw [List.getElem?_map, List.getElem?_eq_getElem h, nth_of h]; rfl

theorem ints_set {zs : List Int} {i : Nat} {v : Int} (h : i < zs.length) : (ints zs).take i ++ [.int .i64 v] ++ (ints zs).drop (i + 1) = ints (zs.set i v) := by
  unfold ints
  rw [List.map_set, List.set_eq_take_append_cons_drop, if_pos (by simpa using h)]
  simp

theorem stp_ldi {A : Heap} {X : List Nat} {E : List (Nat × AV)} {S S0 : Sig} {p : MX} {id o es n : Nat} {zs : List Int} (hp : evE E p = some (.ptr id o)) (hs : Sel S ⟨.cell, .ptr id 0, es, n, ints zs⟩ S0) (ho : o < zs.length) : Stp A X E S (.ld p 1 false) (Is (.int .i64 (nth zs o)) S) :=
  stp_ldc1 hp hs (ints_get ho)

theorem stp_sti {A : Heap} {X : List Nat} {E : List (Nat × AV)} {S S0 : Sig} {p x : MX} {id o es n : Nat} {v : Int} {zs : List Int} (hp : evE E p = some (.ptr id o)) (hx : evE E x = some (.int .i64 v)) (hs : Sel S ⟨.cell, .ptr id 0, es, n, ints zs⟩ S0) (ho : o < zs.length) : Stp A X E S (.st p x 1) (Is .any (⟨.cell, .ptr id 0, es, n, ints (zs.set o v)⟩ :: S0)) := by
  have h := stp_stc (A := A) (X := X) (E := E) (S := S) hp hx hs (j := 1) rfl rfl (by rw [ints, List.length_map]; omega)
  rw [← ints_set ho]
  exact h

theorem nth_tabS {n i : Nat} {f : Nat → Int} (h : i < n) : nth (tabS n f) i = f i := tabS_nth (d := 0) h

theorem Loads.ht_bd {xs ws : List Int} (h : Loads xs ws) {i t : Nat} (hi : i < xs.length) (ht : t < 61) : 0 ≤ htC xs ws i t ∧ htC xs ws i t ≤ 300 := by
  have hx := h.x i
  have hw := h.w hi
  unfold htC
  generalize hm : max (nth xs i - ((t : Int) - 30)) ((t : Int) - 30 - nth xs i) = M
  have m2 : M * nth ws i ≤ 60 * 5 := Int.mul_le_mul (by omega) (by omega) (by omega) (by omega)
  exact ⟨Int.mul_nonneg (by omega) (by omega), by omega⟩

theorem Loads.hd_bd {xs ws : List Int} (h : Loads xs ws) : ∀ {i t : Nat}, i ≤ xs.length → t < 61 → 0 ≤ htD xs ws i t ∧ htD xs ws i t ≤ 300 * (i : Int)
  | 0, _, _, _ => by simp [htD]
  | i + 1, t, hi, ht => by
    obtain ⟨h1, j, h2, h3⟩ := mpI_is (fun t => htD xs ws i t + htC xs ws i t) t
    have a1 := h.hd_bd (i := i) (t := j) (by omega) (by omega)
    have a2 := h.ht_bd (i := i) (t := j) (by omega) (by omega)
    have b1 := h.hd_bd (i := i) (t := t) (by omega) ht
    have b2 := h.ht_bd (i := i) (t := t) (by omega) ht
    have b3 := h1 t (Nat.le_refl _)
    show 0 ≤ mpI (fun t => htD xs ws i t + htC xs ws i t) t ∧ mpI (fun t => htD xs ws i t + htC xs ws i t) t ≤ _
    omega

theorem implRiseSum_ok {H : Heap} {a b : AV} {xs ws : List Int} (ha : Ints H a xs) (hb : Ints H b ws) (hl : xs.length ≤ 1000000000) (hl' : ws.length ≤ 1000000000) :
    ACalls Try.prog fn_impl_RiseSum [a, b] H fun r H' => r = .int .i64 (rsO xs ws) ∧ H' = H := by
  refine ACalls.val ?_ rfl
  refine code_impl_RiseSum.go [.roI a xs.length xs, .roI b ws.length ws] ⟨⟨rfl, ha⟩, ⟨rfl, hb⟩, trivial⟩ (by simp) ?_
  unfold mc_impl_RiseSum
  (repeat (first | refine gst (hk := ?_) | (with_reducible first | (refine gc_drw (h := ?_); intro _) | (refine gc_drw2 (h := ?_); intro _)) | (show GO _ _ _ _ _ (⟨some _, none, .call _ _⟩ :: _) _; first | (refine go_callp rfl code_impl_ValidLoads.callable (fun H hH => implValidLoads_ok (hH.ints (by exact Has.auto)) (hH.ints (by exact Has.auto)) (by omega) (by omega)) ?_)) | (show GO _ _ _ _ _ (⟨some _, none, _⟩ :: _) _; first | refine go_op (hk := ?_) | (refine go_nw (hk := ?_); intro u; try simp only [llc, lln, lna, lza]) | (refine go_np (hk := ?_); intro id)) | (show GD _ _ _ _ _ _ _ (⟨some _, none, _⟩ :: _) _; first | refine gd_op (hk := ?_) | (refine gd_nw (hk := ?_); intro u; try simp only [llc, lln, lna, lza])) | (show GR _ _ _ _ _ _ (⟨some _, none, _⟩ :: _) _; refine gr_op (hk := ?_)) | (show GD2 _ _ _ _ _ _ _ _ _ _ _ _ _ _; first | refine gd2_nil rfl ?_ | refine gd2_op (hk := ?_) | (refine gd2_nw (hk := ?_); intro u; try simp only [llc, lln, lna, lza]) | refine gd2_l (hk := ?_) | refine gd2_lp (hk := ?_) | (refine gd2_newp (hk := ?_); intro id) | refine gd2_st (hk := ?_) | (refine gd2_bsl rfl rfl ?_; intro u; try simp only [llc, lln, lna, lza]) | (refine gd2_a (hk := ?_); intro u; try simp only [llc, lln, lna, lza])) | (show GO _ _ _ _ _ (⟨none, none, _⟩ :: _) _; refine go_st (hk := ?_)) | (show GD _ _ _ _ _ _ _ (⟨none, none, _⟩ :: _) _; refine gd_st (hk := ?_)) | (show GR _ _ _ _ _ _ (⟨none, none, _⟩ :: _) _; refine gr_st (hk := ?_)) | (show GO _ _ _ _ _ (⟨_, some _, _⟩ :: _) _; first | refine go_in (hk := ?_) | refine go_out (hk := ?_) | refine go_void (hk := ?_)) | (show GK _ _ _ _ (blockK _ _ _); refine gk_past rfl ?_) | (show GC _ _ _ _ _ (.cond _ _ _) _; first | refine gc_yes (h1 := ?_) | refine gc_no (h1 := ?_))))
  refine gc_cond rfl (fun h => ?_) (fun h => ?_)
  · (repeat (first | refine gst (hk := ?_) | (with_reducible first | (refine gc_drw (h := ?_); intro _) | (refine gc_drw2 (h := ?_); intro _)) | (show GO _ _ _ _ _ (⟨some _, none, .call _ _⟩ :: _) _; first | (refine go_callp rfl code_impl_ValidLoads.callable (fun H hH => implValidLoads_ok (hH.ints (by exact Has.auto)) (hH.ints (by exact Has.auto)) (by omega) (by omega)) ?_)) | (show GO _ _ _ _ _ (⟨some _, none, _⟩ :: _) _; first | refine go_op (hk := ?_) | (refine go_nw (hk := ?_); intro u; try simp only [llc, lln, lna, lza]) | (refine go_np (hk := ?_); intro id)) | (show GD _ _ _ _ _ _ _ (⟨some _, none, _⟩ :: _) _; first | refine gd_op (hk := ?_) | (refine gd_nw (hk := ?_); intro u; try simp only [llc, lln, lna, lza])) | (show GR _ _ _ _ _ _ (⟨some _, none, _⟩ :: _) _; refine gr_op (hk := ?_)) | (show GD2 _ _ _ _ _ _ _ _ _ _ _ _ _ _; first | refine gd2_nil rfl ?_ | refine gd2_op (hk := ?_) | (refine gd2_nw (hk := ?_); intro u; try simp only [llc, lln, lna, lza]) | refine gd2_l (hk := ?_) | refine gd2_lp (hk := ?_) | (refine gd2_newp (hk := ?_); intro id) | refine gd2_st (hk := ?_) | (refine gd2_bsl rfl rfl ?_; intro u; try simp only [llc, lln, lna, lza]) | (refine gd2_a (hk := ?_); intro u; try simp only [llc, lln, lna, lza])) | (show GO _ _ _ _ _ (⟨none, none, _⟩ :: _) _; refine go_st (hk := ?_)) | (show GD _ _ _ _ _ _ _ (⟨none, none, _⟩ :: _) _; refine gd_st (hk := ?_)) | (show GR _ _ _ _ _ _ (⟨none, none, _⟩ :: _) _; refine gr_st (hk := ?_)) | (show GO _ _ _ _ _ (⟨_, some _, _⟩ :: _) _; first | refine go_in (hk := ?_) | refine go_out (hk := ?_) | refine go_void (hk := ?_)) | (show GK _ _ _ _ (blockK _ _ _); refine gk_past rfl ?_) | (show GC _ _ _ _ _ (.cond _ _ _) _; first | refine gc_yes (h1 := ?_) | refine gc_no (h1 := ?_))))
    exact gk_ret rfl fun H' hH => ⟨by unfold rsO; rw [if_neg h]; rfl, hH.leE⟩
  have hL := Decidable.not_not.1 h
  have hn := hL.2.2.2.2
  have hlw := hL.2.2.1
  (repeat (first | refine gst (hk := ?_) | (with_reducible first | (refine gc_drw (h := ?_); intro _) | (refine gc_drw2 (h := ?_); intro _)) | (show GO _ _ _ _ _ (⟨some _, none, .call _ _⟩ :: _) _; first | (refine go_callp rfl code_impl_ValidLoads.callable (fun H hH => implValidLoads_ok (hH.ints (by exact Has.auto)) (hH.ints (by exact Has.auto)) (by omega) (by omega)) ?_)) | (show GO _ _ _ _ _ (⟨some _, none, _⟩ :: _) _; first | refine go_op (hk := ?_) | (refine go_nw (hk := ?_); intro u; try simp only [llc, lln, lna, lza]) | (refine go_np (hk := ?_); intro id)) | (show GD _ _ _ _ _ _ _ (⟨some _, none, _⟩ :: _) _; first | refine gd_op (hk := ?_) | (refine gd_nw (hk := ?_); intro u; try simp only [llc, lln, lna, lza])) | (show GR _ _ _ _ _ _ (⟨some _, none, _⟩ :: _) _; refine gr_op (hk := ?_)) | (show GD2 _ _ _ _ _ _ _ _ _ _ _ _ _ _; first | refine gd2_nil rfl ?_ | refine gd2_op (hk := ?_) | (refine gd2_nw (hk := ?_); intro u; try simp only [llc, lln, lna, lza]) | refine gd2_l (hk := ?_) | refine gd2_lp (hk := ?_) | (refine gd2_newp (hk := ?_); intro id) | refine gd2_st (hk := ?_) | (refine gd2_bsl rfl rfl ?_; intro u; try simp only [llc, lln, lna, lza]) | (refine gd2_a (hk := ?_); intro u; try simp only [llc, lln, lna, lza])) | (show GO _ _ _ _ _ (⟨none, none, _⟩ :: _) _; refine go_st (hk := ?_)) | (show GD _ _ _ _ _ _ _ (⟨none, none, _⟩ :: _) _; refine gd_st (hk := ?_)) | (show GR _ _ _ _ _ _ (⟨none, none, _⟩ :: _) _; refine gr_st (hk := ?_)) | (show GO _ _ _ _ _ (⟨_, some _, _⟩ :: _) _; first | refine go_in (hk := ?_) | refine go_out (hk := ?_) | refine go_void (hk := ?_)) | (show GK _ _ _ _ (blockK _ _ _); refine gk_past rfl ?_) | (show GC _ _ _ _ _ (.cond _ _ _) _; first | refine gc_yes (h1 := ?_) | refine gc_no (h1 := ?_))))
  revert id; intro i5
  refine gc_up xs.length (fun i => [(1, b), (5, .ptr i5 0), (13, a), (14, .int .i64 (xs.length : Int)), (15, .int .i64 (i : Int))]) (fun i => [⟨.cell, .ptr i5 0, 61, 1, ints (tabS 61 (htD xs ws i))⟩, .roI a xs.length xs, .roI b ws.length ws]) (hS := .cons .head (sub_refl _)) (hb := ?_)
  intro i hi I ν m hk
  (repeat (first | refine gst (hk := ?_) | (with_reducible first | (refine gc_drw (h := ?_); intro _) | (refine gc_drw2 (h := ?_); intro _)) | (show GO _ _ _ _ _ (⟨some _, none, .call _ _⟩ :: _) _; first | (refine go_callp rfl code_impl_ValidLoads.callable (fun H hH => implValidLoads_ok (hH.ints (by exact Has.auto)) (hH.ints (by exact Has.auto)) (by omega) (by omega)) ?_)) | (show GO _ _ _ _ _ (⟨some _, none, _⟩ :: _) _; first | refine go_op (hk := ?_) | (refine go_nw (hk := ?_); intro u; try simp only [llc, lln, lna, lza]) | (refine go_np (hk := ?_); intro id)) | (show GD _ _ _ _ _ _ _ (⟨some _, none, _⟩ :: _) _; first | refine gd_op (hk := ?_) | (refine gd_nw (hk := ?_); intro u; try simp only [llc, lln, lna, lza])) | (show GR _ _ _ _ _ _ (⟨some _, none, _⟩ :: _) _; refine gr_op (hk := ?_)) | (show GD2 _ _ _ _ _ _ _ _ _ _ _ _ _ _; first | refine gd2_nil rfl ?_ | refine gd2_op (hk := ?_) | (refine gd2_nw (hk := ?_); intro u; try simp only [llc, lln, lna, lza]) | refine gd2_l (hk := ?_) | refine gd2_lp (hk := ?_) | (refine gd2_newp (hk := ?_); intro id) | refine gd2_st (hk := ?_) | (refine gd2_bsl rfl rfl ?_; intro u; try simp only [llc, lln, lna, lza]) | (refine gd2_a (hk := ?_); intro u; try simp only [llc, lln, lna, lza])) | (show GO _ _ _ _ _ (⟨none, none, _⟩ :: _) _; refine go_st (hk := ?_)) | (show GD _ _ _ _ _ _ _ (⟨none, none, _⟩ :: _) _; refine gd_st (hk := ?_)) | (show GR _ _ _ _ _ _ (⟨none, none, _⟩ :: _) _; refine gr_st (hk := ?_)) | (show GO _ _ _ _ _ (⟨_, some _, _⟩ :: _) _; first | refine go_in (hk := ?_) | refine go_out (hk := ?_) | refine go_void (hk := ?_)) | (show GK _ _ _ _ (blockK _ _ _); refine gk_past rfl ?_) | (show GC _ _ _ _ _ (.cond _ _ _) _; first | refine gc_yes (h1 := ?_) | refine gc_no (h1 := ?_))))
  refine gc_cond rfl (fun h1 => ?_) (fun h1 => ?_)
  · have hk := hk (by omega)
    (repeat (first | refine gst (hk := ?_) | (with_reducible first | (refine gc_drw (h := ?_); intro _) | (refine gc_drw2 (h := ?_); intro _)) | (show GO _ _ _ _ _ (⟨some _, none, .call _ _⟩ :: _) _; first | (refine go_callp rfl code_impl_ValidLoads.callable (fun H hH => implValidLoads_ok (hH.ints (by exact Has.auto)) (hH.ints (by exact Has.auto)) (by omega) (by omega)) ?_)) | (show GO _ _ _ _ _ (⟨some _, none, _⟩ :: _) _; first | refine go_op (hk := ?_) | (refine go_nw (hk := ?_); intro u; try simp only [llc, lln, lna, lza]) | (refine go_np (hk := ?_); intro id)) | (show GD _ _ _ _ _ _ _ (⟨some _, none, _⟩ :: _) _; first | refine gd_op (hk := ?_) | (refine gd_nw (hk := ?_); intro u; try simp only [llc, lln, lna, lza])) | (show GR _ _ _ _ _ _ (⟨some _, none, _⟩ :: _) _; refine gr_op (hk := ?_)) | (show GD2 _ _ _ _ _ _ _ _ _ _ _ _ _ _; first | refine gd2_nil rfl ?_ | refine gd2_op (hk := ?_) | (refine gd2_nw (hk := ?_); intro u; try simp only [llc, lln, lna, lza]) | refine gd2_l (hk := ?_) | refine gd2_lp (hk := ?_) | (refine gd2_newp (hk := ?_); intro id) | refine gd2_st (hk := ?_) | (refine gd2_bsl rfl rfl ?_; intro u; try simp only [llc, lln, lna, lza]) | (refine gd2_a (hk := ?_); intro u; try simp only [llc, lln, lna, lza])) | (show GO _ _ _ _ _ (⟨none, none, _⟩ :: _) _; refine go_st (hk := ?_)) | (show GD _ _ _ _ _ _ _ (⟨none, none, _⟩ :: _) _; refine gd_st (hk := ?_)) | (show GR _ _ _ _ _ _ (⟨none, none, _⟩ :: _) _; refine gr_st (hk := ?_)) | (show GO _ _ _ _ _ (⟨_, some _, _⟩ :: _) _; first | refine go_in (hk := ?_) | refine go_out (hk := ?_) | refine go_void (hk := ?_)) | (show GK _ _ _ _ (blockK _ _ _); refine gk_past rfl ?_) | (show GC _ _ _ _ _ (.cond _ _ _) _; first | refine gc_yes (h1 := ?_) | refine gc_no (h1 := ?_))))
    rw [tabS_congr (f := htD xs ws i) (g := fun k => if k < 0 then htD xs ws (i + 1) k else htD xs ws i k) (fun k _ => by rw [if_neg (by omega)])]
    refine gc_up 61 (fun t => [(1, b), (5, .ptr i5 0), (6, .int .i64 (i : Int)), (7, .int .i64 (nth xs i)), (13, a), (14, .int .i64 (xs.length : Int)), (15, .int .i64 (i : Int)), (20, .int .i64 (t : Int))]) (fun t => [⟨.cell, .ptr i5 0, 61, 1, ints (tabS 61 fun k => if k < t then htD xs ws (i + 1) k else htD xs ws i k)⟩, .roI a xs.length xs, .roI b ws.length ws]) (hb := ?_)
    intro t ht I2 ν2 m2 hk2
    (repeat (first | refine gst (hk := ?_) | (with_reducible first | (refine gc_drw (h := ?_); intro _) | (refine gc_drw2 (h := ?_); intro _)) | (show GO _ _ _ _ _ (⟨some _, none, .call _ _⟩ :: _) _; first | (refine go_callp rfl code_impl_ValidLoads.callable (fun H hH => implValidLoads_ok (hH.ints (by exact Has.auto)) (hH.ints (by exact Has.auto)) (by omega) (by omega)) ?_)) | (show GO _ _ _ _ _ (⟨some _, none, _⟩ :: _) _; first | refine go_op (hk := ?_) | (refine go_nw (hk := ?_); intro u; try simp only [llc, lln, lna, lza]) | (refine go_np (hk := ?_); intro id)) | (show GD _ _ _ _ _ _ _ (⟨some _, none, _⟩ :: _) _; first | refine gd_op (hk := ?_) | (refine gd_nw (hk := ?_); intro u; try simp only [llc, lln, lna, lza])) | (show GR _ _ _ _ _ _ (⟨some _, none, _⟩ :: _) _; refine gr_op (hk := ?_)) | (show GD2 _ _ _ _ _ _ _ _ _ _ _ _ _ _; first | refine gd2_nil rfl ?_ | refine gd2_op (hk := ?_) | (refine gd2_nw (hk := ?_); intro u; try simp only [llc, lln, lna, lza]) | refine gd2_l (hk := ?_) | refine gd2_lp (hk := ?_) | (refine gd2_newp (hk := ?_); intro id) | refine gd2_st (hk := ?_) | (refine gd2_bsl rfl rfl ?_; intro u; try simp only [llc, lln, lna, lza]) | (refine gd2_a (hk := ?_); intro u; try simp only [llc, lln, lna, lza])) | (show GO _ _ _ _ _ (⟨none, none, _⟩ :: _) _; refine go_st (hk := ?_)) | (show GD _ _ _ _ _ _ _ (⟨none, none, _⟩ :: _) _; refine gd_st (hk := ?_)) | (show GR _ _ _ _ _ _ (⟨none, none, _⟩ :: _) _; refine gr_st (hk := ?_)) | (show GO _ _ _ _ _ (⟨_, some _, _⟩ :: _) _; first | refine go_in (hk := ?_) | refine go_out (hk := ?_) | refine go_void (hk := ?_)) | (show GK _ _ _ _ (blockK _ _ _); refine gk_past rfl ?_) | (show GC _ _ _ _ _ (.cond _ _ _) _; first | refine gc_yes (h1 := ?_) | refine gc_no (h1 := ?_))))
    refine gc_cond rfl (fun h2 => ?_) (fun h2 => ?_)
    · have hk2 := hk2 (by omega)
      have hx := hL.x i
      have d1 := hL.hd_bd (i := i) (t := t) (by omega) (by omega)
      have d2 := hL.ht_bd (i := i) (t := t) (by omega) (by omega)
      have d3 := hL.hd_bd (i := i + 1) (t := t) (by omega) (by omega)
      have v1 : nth (tabS 61 fun k => if k < t then htD xs ws (i + 1) k else htD xs ws i k) t = htD xs ws i t := by rw [nth_tabS (by omega), if_neg (by omega)]
      (repeat (first | refine gst (hk := ?_) | (with_reducible first | (refine gc_drw (h := ?_); intro _) | (refine gc_drw2 (h := ?_); intro _)) | (show GO _ _ _ _ _ (⟨some _, none, .call _ _⟩ :: _) _; first | (refine go_callp rfl code_impl_ValidLoads.callable (fun H hH => implValidLoads_ok (hH.ints (by exact Has.auto)) (hH.ints (by exact Has.auto)) (by omega) (by omega)) ?_)) | (show GO _ _ _ _ _ (⟨some _, none, _⟩ :: _) _; first | refine go_op (hk := ?_) | (refine go_nw (hk := ?_); intro u; try simp only [llc, lln, lna, lza]) | (refine go_np (hk := ?_); intro id)) | (show GD _ _ _ _ _ _ _ (⟨some _, none, _⟩ :: _) _; first | refine gd_op (hk := ?_) | (refine gd_nw (hk := ?_); intro u; try simp only [llc, lln, lna, lza])) | (show GR _ _ _ _ _ _ (⟨some _, none, _⟩ :: _) _; refine gr_op (hk := ?_)) | (show GD2 _ _ _ _ _ _ _ _ _ _ _ _ _ _; first | refine gd2_nil rfl ?_ | refine gd2_op (hk := ?_) | (refine gd2_nw (hk := ?_); intro u; try simp only [llc, lln, lna, lza]) | refine gd2_l (hk := ?_) | refine gd2_lp (hk := ?_) | (refine gd2_newp (hk := ?_); intro id) | refine gd2_st (hk := ?_) | (refine gd2_bsl rfl rfl ?_; intro u; try simp only [llc, lln, lna, lza]) | (refine gd2_a (hk := ?_); intro u; try simp only [llc, lln, lna, lza])) | (show GO _ _ _ _ _ (⟨none, none, _⟩ :: _) _; refine go_st (hk := ?_)) | (show GD _ _ _ _ _ _ _ (⟨none, none, _⟩ :: _) _; refine gd_st (hk := ?_)) | (show GR _ _ _ _ _ _ (⟨none, none, _⟩ :: _) _; refine gr_st (hk := ?_)) | (show GO _ _ _ _ _ (⟨_, some _, _⟩ :: _) _; first | refine go_in (hk := ?_) | refine go_out (hk := ?_) | refine go_void (hk := ?_)) | (show GK _ _ _ _ (blockK _ _ _); refine gk_past rfl ?_) | (show GC _ _ _ _ _ (.cond _ _ _) _; first | refine gc_yes (h1 := ?_) | refine gc_no (h1 := ?_))))
      refine gc_drcs (fun H => qtTab [(fn_impl_apart, dOne [.int .i64 (nth xs i), .int .i64 ((t : Int) - 30)] (.int .i64 (max (nth xs i - ((t : Int) - 30)) ((t : Int) - 30 - nth xs i))))]) (fun H hH => qtTab_cons (dOne_ok code_impl_apart.callable (implApart_ok (by omega) (by omega))) qtTab_nil) (fun H0 h0 => ?_)
      (repeat (first | refine gst (hk := ?_) | (with_reducible first | (refine gc_drw (h := ?_); intro _) | (refine gc_drw2 (h := ?_); intro _)) | (show GO _ _ _ _ _ (⟨some _, none, .call _ _⟩ :: _) _; first | (refine go_callp rfl code_impl_ValidLoads.callable (fun H hH => implValidLoads_ok (hH.ints (by exact Has.auto)) (hH.ints (by exact Has.auto)) (by omega) (by omega)) ?_)) | (show GO _ _ _ _ _ (⟨some _, none, _⟩ :: _) _; first | refine go_op (hk := ?_) | (refine go_nw (hk := ?_); intro u; try simp only [llc, lln, lna, lza]) | (refine go_np (hk := ?_); intro id)) | (show GD _ _ _ _ _ _ _ (⟨some _, none, _⟩ :: _) _; first | refine gd_op (hk := ?_) | (refine gd_nw (hk := ?_); intro u; try simp only [llc, lln, lna, lza])) | (show GR _ _ _ _ _ _ (⟨some _, none, _⟩ :: _) _; refine gr_op (hk := ?_)) | (show GD2 _ _ _ _ _ _ _ _ _ _ _ _ _ _; first | refine gd2_nil rfl ?_ | refine gd2_op (hk := ?_) | (refine gd2_nw (hk := ?_); intro u; try simp only [llc, lln, lna, lza]) | refine gd2_l (hk := ?_) | refine gd2_lp (hk := ?_) | (refine gd2_newp (hk := ?_); intro id) | refine gd2_st (hk := ?_) | (refine gd2_bsl rfl rfl ?_; intro u; try simp only [llc, lln, lna, lza]) | (refine gd2_a (hk := ?_); intro u; try simp only [llc, lln, lna, lza])) | (show GO _ _ _ _ _ (⟨none, none, _⟩ :: _) _; refine go_st (hk := ?_)) | (show GD _ _ _ _ _ _ _ (⟨none, none, _⟩ :: _) _; refine gd_st (hk := ?_)) | (show GR _ _ _ _ _ _ (⟨none, none, _⟩ :: _) _; refine gr_st (hk := ?_)) | (show GO _ _ _ _ _ (⟨_, some _, _⟩ :: _) _; first | refine go_in (hk := ?_) | refine go_out (hk := ?_) | refine go_void (hk := ?_)) | (show GK _ _ _ _ (blockK _ _ _); refine gk_past rfl ?_) | (show GC _ _ _ _ _ (.cond _ _ _) _; first | refine gc_yes (h1 := ?_) | refine gc_no (h1 := ?_))))
      refine gr_is rfl (stp_arrn (j := t) (o := t) rfl rfl (by omega) (by omega)) ?_
      refine gr_is rfl (stp_ldi rfl (by exact Sel.auto) (by rw [tabS_len]; omega)) ?_
      rw [v1]
      (repeat (first | refine gst (hk := ?_) | (with_reducible first | (refine gc_drw (h := ?_); intro _) | (refine gc_drw2 (h := ?_); intro _)) | (show GO _ _ _ _ _ (⟨some _, none, .call _ _⟩ :: _) _; first | (refine go_callp rfl code_impl_ValidLoads.callable (fun H hH => implValidLoads_ok (hH.ints (by exact Has.auto)) (hH.ints (by exact Has.auto)) (by omega) (by omega)) ?_)) | (show GO _ _ _ _ _ (⟨some _, none, _⟩ :: _) _; first | refine go_op (hk := ?_) | (refine go_nw (hk := ?_); intro u; try simp only [llc, lln, lna, lza]) | (refine go_np (hk := ?_); intro id)) | (show GD _ _ _ _ _ _ _ (⟨some _, none, _⟩ :: _) _; first | refine gd_op (hk := ?_) | (refine gd_nw (hk := ?_); intro u; try simp only [llc, lln, lna, lza])) | (show GR _ _ _ _ _ _ (⟨some _, none, _⟩ :: _) _; refine gr_op (hk := ?_)) | (show GD2 _ _ _ _ _ _ _ _ _ _ _ _ _ _; first | refine gd2_nil rfl ?_ | refine gd2_op (hk := ?_) | (refine gd2_nw (hk := ?_); intro u; try simp only [llc, lln, lna, lza]) | refine gd2_l (hk := ?_) | refine gd2_lp (hk := ?_) | (refine gd2_newp (hk := ?_); intro id) | refine gd2_st (hk := ?_) | (refine gd2_bsl rfl rfl ?_; intro u; try simp only [llc, lln, lna, lza]) | (refine gd2_a (hk := ?_); intro u; try simp only [llc, lln, lna, lza])) | (show GO _ _ _ _ _ (⟨none, none, _⟩ :: _) _; refine go_st (hk := ?_)) | (show GD _ _ _ _ _ _ _ (⟨none, none, _⟩ :: _) _; refine gd_st (hk := ?_)) | (show GR _ _ _ _ _ _ (⟨none, none, _⟩ :: _) _; refine gr_st (hk := ?_)) | (show GO _ _ _ _ _ (⟨_, some _, _⟩ :: _) _; first | refine go_in (hk := ?_) | refine go_out (hk := ?_) | refine go_void (hk := ?_)) | (show GK _ _ _ _ (blockK _ _ _); refine gk_past rfl ?_) | (show GC _ _ _ _ _ (.cond _ _ _) _; first | refine gc_yes (h1 := ?_) | refine gc_no (h1 := ?_))))
      refine gr_call rfl dOne_is ?_
      unfold htC at d2
      (repeat (first | refine gst (hk := ?_) | (with_reducible first | (refine gc_drw (h := ?_); intro _) | (refine gc_drw2 (h := ?_); intro _)) | (show GO _ _ _ _ _ (⟨some _, none, .call _ _⟩ :: _) _; first | (refine go_callp rfl code_impl_ValidLoads.callable (fun H hH => implValidLoads_ok (hH.ints (by exact Has.auto)) (hH.ints (by exact Has.auto)) (by omega) (by omega)) ?_)) | (show GO _ _ _ _ _ (⟨some _, none, _⟩ :: _) _; first | refine go_op (hk := ?_) | (refine go_nw (hk := ?_); intro u; try simp only [llc, lln, lna, lza]) | (refine go_np (hk := ?_); intro id)) | (show GD _ _ _ _ _ _ _ (⟨some _, none, _⟩ :: _) _; first | refine gd_op (hk := ?_) | (refine gd_nw (hk := ?_); intro u; try simp only [llc, lln, lna, lza])) | (show GR _ _ _ _ _ _ (⟨some _, none, _⟩ :: _) _; refine gr_op (hk := ?_)) | (show GD2 _ _ _ _ _ _ _ _ _ _ _ _ _ _; first | refine gd2_nil rfl ?_ | refine gd2_op (hk := ?_) | (refine gd2_nw (hk := ?_); intro u; try simp only [llc, lln, lna, lza]) | refine gd2_l (hk := ?_) | refine gd2_lp (hk := ?_) | (refine gd2_newp (hk := ?_); intro id) | refine gd2_st (hk := ?_) | (refine gd2_bsl rfl rfl ?_; intro u; try simp only [llc, lln, lna, lza]) | (refine gd2_a (hk := ?_); intro u; try simp only [llc, lln, lna, lza])) | (show GO _ _ _ _ _ (⟨none, none, _⟩ :: _) _; refine go_st (hk := ?_)) | (show GD _ _ _ _ _ _ _ (⟨none, none, _⟩ :: _) _; refine gd_st (hk := ?_)) | (show GR _ _ _ _ _ _ (⟨none, none, _⟩ :: _) _; refine gr_st (hk := ?_)) | (show GO _ _ _ _ _ (⟨_, some _, _⟩ :: _) _; first | refine go_in (hk := ?_) | refine go_out (hk := ?_) | refine go_void (hk := ?_)) | (show GK _ _ _ _ (blockK _ _ _); refine gk_past rfl ?_) | (show GC _ _ _ _ _ (.cond _ _ _) _; first | refine gc_yes (h1 := ?_) | refine gc_no (h1 := ?_))))
      refine gr_is rfl (stp_arrn (j := t) (o := t) rfl rfl (by omega) (by omega)) ?_
      refine gr_is0 rfl (stp_sti rfl rfl (by exact Sel.auto) (by rw [tabS_len]; omega)) ?_
      rw [tabS_set]
      (repeat (first | refine gst (hk := ?_) | (with_reducible first | (refine gc_drw (h := ?_); intro _) | (refine gc_drw2 (h := ?_); intro _)) | (show GO _ _ _ _ _ (⟨some _, none, .call _ _⟩ :: _) _; first | (refine go_callp rfl code_impl_ValidLoads.callable (fun H hH => implValidLoads_ok (hH.ints (by exact Has.auto)) (hH.ints (by exact Has.auto)) (by omega) (by omega)) ?_)) | (show GO _ _ _ _ _ (⟨some _, none, _⟩ :: _) _; first | refine go_op (hk := ?_) | (refine go_nw (hk := ?_); intro u; try simp only [llc, lln, lna, lza]) | (refine go_np (hk := ?_); intro id)) | (show GD _ _ _ _ _ _ _ (⟨some _, none, _⟩ :: _) _; first | refine gd_op (hk := ?_) | (refine gd_nw (hk := ?_); intro u; try simp only [llc, lln, lna, lza])) | (show GR _ _ _ _ _ _ (⟨some _, none, _⟩ :: _) _; refine gr_op (hk := ?_)) | (show GD2 _ _ _ _ _ _ _ _ _ _ _ _ _ _; first | refine gd2_nil rfl ?_ | refine gd2_op (hk := ?_) | (refine gd2_nw (hk := ?_); intro u; try simp only [llc, lln, lna, lza]) | refine gd2_l (hk := ?_) | refine gd2_lp (hk := ?_) | (refine gd2_newp (hk := ?_); intro id) | refine gd2_st (hk := ?_) | (refine gd2_bsl rfl rfl ?_; intro u; try simp only [llc, lln, lna, lza]) | (refine gd2_a (hk := ?_); intro u; try simp only [llc, lln, lna, lza])) | (show GO _ _ _ _ _ (⟨none, none, _⟩ :: _) _; refine go_st (hk := ?_)) | (show GD _ _ _ _ _ _ _ (⟨none, none, _⟩ :: _) _; refine gd_st (hk := ?_)) | (show GR _ _ _ _ _ _ (⟨none, none, _⟩ :: _) _; refine gr_st (hk := ?_)) | (show GO _ _ _ _ _ (⟨_, some _, _⟩ :: _) _; first | refine go_in (hk := ?_) | refine go_out (hk := ?_) | refine go_void (hk := ?_)) | (show GK _ _ _ _ (blockK _ _ _); refine gk_past rfl ?_) | (show GC _ _ _ _ _ (.cond _ _ _) _; first | refine gc_yes (h1 := ?_) | refine gc_no (h1 := ?_))))
      refine gc_cond rfl (fun h3 => ?_) (fun h3 => ?_)
      · obtain ⟨t', rfl⟩ : ∃ t', t = t' + 1 := ⟨t - 1, by omega⟩
        have d4 := hL.hd_bd (i := i + 1) (t := t') (by omega) (by omega)
        have e1 : htD xs ws (i + 1) (t' + 1) = min (htD xs ws (i + 1) t') (htD xs ws i (t' + 1) + max (nth xs i - (((t' + 1 : Nat) : Int) - 30)) (((t' + 1 : Nat) : Int) - 30 - nth xs i) * nth ws i) := rfl
        (repeat (first | refine gst (hk := ?_) | (with_reducible first | (refine gc_drw (h := ?_); intro _) | (refine gc_drw2 (h := ?_); intro _)) | (show GO _ _ _ _ _ (⟨some _, none, .call _ _⟩ :: _) _; first | (refine go_callp rfl code_impl_ValidLoads.callable (fun H hH => implValidLoads_ok (hH.ints (by exact Has.auto)) (hH.ints (by exact Has.auto)) (by omega) (by omega)) ?_)) | (show GO _ _ _ _ _ (⟨some _, none, _⟩ :: _) _; first | refine go_op (hk := ?_) | (refine go_nw (hk := ?_); intro u; try simp only [llc, lln, lna, lza]) | (refine go_np (hk := ?_); intro id)) | (show GD _ _ _ _ _ _ _ (⟨some _, none, _⟩ :: _) _; first | refine gd_op (hk := ?_) | (refine gd_nw (hk := ?_); intro u; try simp only [llc, lln, lna, lza])) | (show GR _ _ _ _ _ _ (⟨some _, none, _⟩ :: _) _; refine gr_op (hk := ?_)) | (show GD2 _ _ _ _ _ _ _ _ _ _ _ _ _ _; first | refine gd2_nil rfl ?_ | refine gd2_op (hk := ?_) | (refine gd2_nw (hk := ?_); intro u; try simp only [llc, lln, lna, lza]) | refine gd2_l (hk := ?_) | refine gd2_lp (hk := ?_) | (refine gd2_newp (hk := ?_); intro id) | refine gd2_st (hk := ?_) | (refine gd2_bsl rfl rfl ?_; intro u; try simp only [llc, lln, lna, lza]) | (refine gd2_a (hk := ?_); intro u; try simp only [llc, lln, lna, lza])) | (show GO _ _ _ _ _ (⟨none, none, _⟩ :: _) _; refine go_st (hk := ?_)) | (show GD _ _ _ _ _ _ _ (⟨none, none, _⟩ :: _) _; refine gd_st (hk := ?_)) | (show GR _ _ _ _ _ _ (⟨none, none, _⟩ :: _) _; refine gr_st (hk := ?_)) | (show GO _ _ _ _ _ (⟨_, some _, _⟩ :: _) _; first | refine go_in (hk := ?_) | refine go_out (hk := ?_) | refine go_void (hk := ?_)) | (show GK _ _ _ _ (blockK _ _ _); refine gk_past rfl ?_) | (show GC _ _ _ _ _ (.cond _ _ _) _; first | refine gc_yes (h1 := ?_) | refine gc_no (h1 := ?_))))
        refine gd_is rfl (stp_arrn (j := t' + 1) (o := t' + 1) rfl rfl (by omega) (by omega)) ?_
        refine gd_is rfl (stp_ldi rfl (by exact Sel.auto) (by rw [tabS_len]; omega)) ?_
        rw [nth_tabS (i := t' + 1) (by omega), if_pos rfl]
        (repeat (first | refine gst (hk := ?_) | (with_reducible first | (refine gc_drw (h := ?_); intro _) | (refine gc_drw2 (h := ?_); intro _)) | (show GO _ _ _ _ _ (⟨some _, none, .call _ _⟩ :: _) _; first | (refine go_callp rfl code_impl_ValidLoads.callable (fun H hH => implValidLoads_ok (hH.ints (by exact Has.auto)) (hH.ints (by exact Has.auto)) (by omega) (by omega)) ?_)) | (show GO _ _ _ _ _ (⟨some _, none, _⟩ :: _) _; first | refine go_op (hk := ?_) | (refine go_nw (hk := ?_); intro u; try simp only [llc, lln, lna, lza]) | (refine go_np (hk := ?_); intro id)) | (show GD _ _ _ _ _ _ _ (⟨some _, none, _⟩ :: _) _; first | refine gd_op (hk := ?_) | (refine gd_nw (hk := ?_); intro u; try simp only [llc, lln, lna, lza])) | (show GR _ _ _ _ _ _ (⟨some _, none, _⟩ :: _) _; refine gr_op (hk := ?_)) | (show GD2 _ _ _ _ _ _ _ _ _ _ _ _ _ _; first | refine gd2_nil rfl ?_ | refine gd2_op (hk := ?_) | (refine gd2_nw (hk := ?_); intro u; try simp only [llc, lln, lna, lza]) | refine gd2_l (hk := ?_) | refine gd2_lp (hk := ?_) | (refine gd2_newp (hk := ?_); intro id) | refine gd2_st (hk := ?_) | (refine gd2_bsl rfl rfl ?_; intro u; try simp only [llc, lln, lna, lza]) | (refine gd2_a (hk := ?_); intro u; try simp only [llc, lln, lna, lza])) | (show GO _ _ _ _ _ (⟨none, none, _⟩ :: _) _; refine go_st (hk := ?_)) | (show GD _ _ _ _ _ _ _ (⟨none, none, _⟩ :: _) _; refine gd_st (hk := ?_)) | (show GR _ _ _ _ _ _ (⟨none, none, _⟩ :: _) _; refine gr_st (hk := ?_)) | (show GO _ _ _ _ _ (⟨_, some _, _⟩ :: _) _; first | refine go_in (hk := ?_) | refine go_out (hk := ?_) | refine go_void (hk := ?_)) | (show GK _ _ _ _ (blockK _ _ _); refine gk_past rfl ?_) | (show GC _ _ _ _ _ (.cond _ _ _) _; first | refine gc_yes (h1 := ?_) | refine gc_no (h1 := ?_))))
        refine gd_is rfl (stp_arrn (j := t') (o := t') rfl rfl (by omega) (by omega)) ?_
        refine gd_is rfl (stp_ldi rfl (by exact Sel.auto) (by rw [tabS_len]; omega)) ?_
        rw [nth_tabS (i := t') (by omega), if_neg (by omega), if_pos (by omega)]
        (repeat (first | refine gst (hk := ?_) | (with_reducible first | (refine gc_drw (h := ?_); intro _) | (refine gc_drw2 (h := ?_); intro _)) | (show GO _ _ _ _ _ (⟨some _, none, .call _ _⟩ :: _) _; first | (refine go_callp rfl code_impl_ValidLoads.callable (fun H hH => implValidLoads_ok (hH.ints (by exact Has.auto)) (hH.ints (by exact Has.auto)) (by omega) (by omega)) ?_)) | (show GO _ _ _ _ _ (⟨some _, none, _⟩ :: _) _; first | refine go_op (hk := ?_) | (refine go_nw (hk := ?_); intro u; try simp only [llc, lln, lna, lza]) | (refine go_np (hk := ?_); intro id)) | (show GD _ _ _ _ _ _ _ (⟨some _, none, _⟩ :: _) _; first | refine gd_op (hk := ?_) | (refine gd_nw (hk := ?_); intro u; try simp only [llc, lln, lna, lza])) | (show GR _ _ _ _ _ _ (⟨some _, none, _⟩ :: _) _; refine gr_op (hk := ?_)) | (show GD2 _ _ _ _ _ _ _ _ _ _ _ _ _ _; first | refine gd2_nil rfl ?_ | refine gd2_op (hk := ?_) | (refine gd2_nw (hk := ?_); intro u; try simp only [llc, lln, lna, lza]) | refine gd2_l (hk := ?_) | refine gd2_lp (hk := ?_) | (refine gd2_newp (hk := ?_); intro id) | refine gd2_st (hk := ?_) | (refine gd2_bsl rfl rfl ?_; intro u; try simp only [llc, lln, lna, lza]) | (refine gd2_a (hk := ?_); intro u; try simp only [llc, lln, lna, lza])) | (show GO _ _ _ _ _ (⟨none, none, _⟩ :: _) _; refine go_st (hk := ?_)) | (show GD _ _ _ _ _ _ _ (⟨none, none, _⟩ :: _) _; refine gd_st (hk := ?_)) | (show GR _ _ _ _ _ _ (⟨none, none, _⟩ :: _) _; refine gr_st (hk := ?_)) | (show GO _ _ _ _ _ (⟨_, some _, _⟩ :: _) _; first | refine go_in (hk := ?_) | refine go_out (hk := ?_) | refine go_void (hk := ?_)) | (show GK _ _ _ _ (blockK _ _ _); refine gk_past rfl ?_) | (show GC _ _ _ _ _ (.cond _ _ _) _; first | refine gc_yes (h1 := ?_) | refine gc_no (h1 := ?_))))
        refine gd_is rfl (stp_arrn (j := t' + 1) (o := t' + 1) rfl rfl (by omega) (by omega)) ?_
        refine gd_is0 rfl (stp_sti rfl rfl (by exact Sel.auto) (by rw [tabS_len]; omega)) ?_
        rw [tabS_set, tabS_congr (g := fun k => if k < t' + 1 + 1 then htD xs ws (i + 1) k else htD xs ws i k) (fun k hk => by
          by_cases e : k = t' + 1
          · subst e
            rw [if_pos rfl, if_pos (by omega), e1, Int.min_comm]
          · rw [if_neg e, if_neg e]
            by_cases e2 : k < t' + 1
            · rw [if_pos e2, if_pos (by omega)]
            · rw [if_neg e2, if_neg (by omega)])]
        (repeat (first | refine gst (hk := ?_) | (with_reducible first | (refine gc_drw (h := ?_); intro _) | (refine gc_drw2 (h := ?_); intro _)) | (show GO _ _ _ _ _ (⟨some _, none, .call _ _⟩ :: _) _; first | (refine go_callp rfl code_impl_ValidLoads.callable (fun H hH => implValidLoads_ok (hH.ints (by exact Has.auto)) (hH.ints (by exact Has.auto)) (by omega) (by omega)) ?_)) | (show GO _ _ _ _ _ (⟨some _, none, _⟩ :: _) _; first | refine go_op (hk := ?_) | (refine go_nw (hk := ?_); intro u; try simp only [llc, lln, lna, lza]) | (refine go_np (hk := ?_); intro id)) | (show GD _ _ _ _ _ _ _ (⟨some _, none, _⟩ :: _) _; first | refine gd_op (hk := ?_) | (refine gd_nw (hk := ?_); intro u; try simp only [llc, lln, lna, lza])) | (show GR _ _ _ _ _ _ (⟨some _, none, _⟩ :: _) _; refine gr_op (hk := ?_)) | (show GD2 _ _ _ _ _ _ _ _ _ _ _ _ _ _; first | refine gd2_nil rfl ?_ | refine gd2_op (hk := ?_) | (refine gd2_nw (hk := ?_); intro u; try simp only [llc, lln, lna, lza]) | refine gd2_l (hk := ?_) | refine gd2_lp (hk := ?_) | (refine gd2_newp (hk := ?_); intro id) | refine gd2_st (hk := ?_) | (refine gd2_bsl rfl rfl ?_; intro u; try simp only [llc, lln, lna, lza]) | (refine gd2_a (hk := ?_); intro u; try simp only [llc, lln, lna, lza])) | (show GO _ _ _ _ _ (⟨none, none, _⟩ :: _) _; refine go_st (hk := ?_)) | (show GD _ _ _ _ _ _ _ (⟨none, none, _⟩ :: _) _; refine gd_st (hk := ?_)) | (show GR _ _ _ _ _ _ (⟨none, none, _⟩ :: _) _; refine gr_st (hk := ?_)) | (show GO _ _ _ _ _ (⟨_, some _, _⟩ :: _) _; first | refine go_in (hk := ?_) | refine go_out (hk := ?_) | refine go_void (hk := ?_)) | (show GK _ _ _ _ (blockK _ _ _); refine gk_past rfl ?_) | (show GC _ _ _ _ _ (.cond _ _ _) _; first | refine gc_yes (h1 := ?_) | refine gc_no (h1 := ?_))))
        exact gk_next hk2
      · obtain rfl : t = 0 := by omega
        (repeat (first | refine gst (hk := ?_) | (with_reducible first | (refine gc_drw (h := ?_); intro _) | (refine gc_drw2 (h := ?_); intro _)) | (show GO _ _ _ _ _ (⟨some _, none, .call _ _⟩ :: _) _; first | (refine go_callp rfl code_impl_ValidLoads.callable (fun H hH => implValidLoads_ok (hH.ints (by exact Has.auto)) (hH.ints (by exact Has.auto)) (by omega) (by omega)) ?_)) | (show GO _ _ _ _ _ (⟨some _, none, _⟩ :: _) _; first | refine go_op (hk := ?_) | (refine go_nw (hk := ?_); intro u; try simp only [llc, lln, lna, lza]) | (refine go_np (hk := ?_); intro id)) | (show GD _ _ _ _ _ _ _ (⟨some _, none, _⟩ :: _) _; first | refine gd_op (hk := ?_) | (refine gd_nw (hk := ?_); intro u; try simp only [llc, lln, lna, lza])) | (show GR _ _ _ _ _ _ (⟨some _, none, _⟩ :: _) _; refine gr_op (hk := ?_)) | (show GD2 _ _ _ _ _ _ _ _ _ _ _ _ _ _; first | refine gd2_nil rfl ?_ | refine gd2_op (hk := ?_) | (refine gd2_nw (hk := ?_); intro u; try simp only [llc, lln, lna, lza]) | refine gd2_l (hk := ?_) | refine gd2_lp (hk := ?_) | (refine gd2_newp (hk := ?_); intro id) | refine gd2_st (hk := ?_) | (refine gd2_bsl rfl rfl ?_; intro u; try simp only [llc, lln, lna, lza]) | (refine gd2_a (hk := ?_); intro u; try simp only [llc, lln, lna, lza])) | (show GO _ _ _ _ _ (⟨none, none, _⟩ :: _) _; refine go_st (hk := ?_)) | (show GD _ _ _ _ _ _ _ (⟨none, none, _⟩ :: _) _; refine gd_st (hk := ?_)) | (show GR _ _ _ _ _ _ (⟨none, none, _⟩ :: _) _; refine gr_st (hk := ?_)) | (show GO _ _ _ _ _ (⟨_, some _, _⟩ :: _) _; first | refine go_in (hk := ?_) | refine go_out (hk := ?_) | refine go_void (hk := ?_)) | (show GK _ _ _ _ (blockK _ _ _); refine gk_past rfl ?_) | (show GC _ _ _ _ _ (.cond _ _ _) _; first | refine gc_yes (h1 := ?_) | refine gc_no (h1 := ?_))))
        rw [tabS_congr (g := fun k => if k < 0 + 1 then htD xs ws (i + 1) k else htD xs ws i k) (fun k hk => by
          by_cases e : k = 0
          · subst e; rw [if_pos rfl, if_pos (by omega)]; rfl
          · rw [if_neg e, if_neg (by omega), if_neg (by omega)])]
        exact gk_next hk2
    · obtain rfl : t = 61 := by omega
      rw [tabS_congr (g := htD xs ws (i + 1)) (fun k hk => if_pos hk)]
      (repeat (first | refine gst (hk := ?_) | (with_reducible first | (refine gc_drw (h := ?_); intro _) | (refine gc_drw2 (h := ?_); intro _)) | (show GO _ _ _ _ _ (⟨some _, none, .call _ _⟩ :: _) _; first | (refine go_callp rfl code_impl_ValidLoads.callable (fun H hH => implValidLoads_ok (hH.ints (by exact Has.auto)) (hH.ints (by exact Has.auto)) (by omega) (by omega)) ?_)) | (show GO _ _ _ _ _ (⟨some _, none, _⟩ :: _) _; first | refine go_op (hk := ?_) | (refine go_nw (hk := ?_); intro u; try simp only [llc, lln, lna, lza]) | (refine go_np (hk := ?_); intro id)) | (show GD _ _ _ _ _ _ _ (⟨some _, none, _⟩ :: _) _; first | refine gd_op (hk := ?_) | (refine gd_nw (hk := ?_); intro u; try simp only [llc, lln, lna, lza])) | (show GR _ _ _ _ _ _ (⟨some _, none, _⟩ :: _) _; refine gr_op (hk := ?_)) | (show GD2 _ _ _ _ _ _ _ _ _ _ _ _ _ _; first | refine gd2_nil rfl ?_ | refine gd2_op (hk := ?_) | (refine gd2_nw (hk := ?_); intro u; try simp only [llc, lln, lna, lza]) | refine gd2_l (hk := ?_) | refine gd2_lp (hk := ?_) | (refine gd2_newp (hk := ?_); intro id) | refine gd2_st (hk := ?_) | (refine gd2_bsl rfl rfl ?_; intro u; try simp only [llc, lln, lna, lza]) | (refine gd2_a (hk := ?_); intro u; try simp only [llc, lln, lna, lza])) | (show GO _ _ _ _ _ (⟨none, none, _⟩ :: _) _; refine go_st (hk := ?_)) | (show GD _ _ _ _ _ _ _ (⟨none, none, _⟩ :: _) _; refine gd_st (hk := ?_)) | (show GR _ _ _ _ _ _ (⟨none, none, _⟩ :: _) _; refine gr_st (hk := ?_)) | (show GO _ _ _ _ _ (⟨_, some _, _⟩ :: _) _; first | refine go_in (hk := ?_) | refine go_out (hk := ?_) | refine go_void (hk := ?_)) | (show GK _ _ _ _ (blockK _ _ _); refine gk_past rfl ?_) | (show GC _ _ _ _ _ (.cond _ _ _) _; first | refine gc_yes (h1 := ?_) | refine gc_no (h1 := ?_))))
      exact gk_next hk
  · obtain rfl : i = xs.length := by omega
    (repeat (first | refine gst (hk := ?_) | (with_reducible first | (refine gc_drw (h := ?_); intro _) | (refine gc_drw2 (h := ?_); intro _)) | (show GO _ _ _ _ _ (⟨some _, none, .call _ _⟩ :: _) _; first | (refine go_callp rfl code_impl_ValidLoads.callable (fun H hH => implValidLoads_ok (hH.ints (by exact Has.auto)) (hH.ints (by exact Has.auto)) (by omega) (by omega)) ?_)) | (show GO _ _ _ _ _ (⟨some _, none, _⟩ :: _) _; first | refine go_op (hk := ?_) | (refine go_nw (hk := ?_); intro u; try simp only [llc, lln, lna, lza]) | (refine go_np (hk := ?_); intro id)) | (show GD _ _ _ _ _ _ _ (⟨some _, none, _⟩ :: _) _; first | refine gd_op (hk := ?_) | (refine gd_nw (hk := ?_); intro u; try simp only [llc, lln, lna, lza])) | (show GR _ _ _ _ _ _ (⟨some _, none, _⟩ :: _) _; refine gr_op (hk := ?_)) | (show GD2 _ _ _ _ _ _ _ _ _ _ _ _ _ _; first | refine gd2_nil rfl ?_ | refine gd2_op (hk := ?_) | (refine gd2_nw (hk := ?_); intro u; try simp only [llc, lln, lna, lza]) | refine gd2_l (hk := ?_) | refine gd2_lp (hk := ?_) | (refine gd2_newp (hk := ?_); intro id) | refine gd2_st (hk := ?_) | (refine gd2_bsl rfl rfl ?_; intro u; try simp only [llc, lln, lna, lza]) | (refine gd2_a (hk := ?_); intro u; try simp only [llc, lln, lna, lza])) | (show GO _ _ _ _ _ (⟨none, none, _⟩ :: _) _; refine go_st (hk := ?_)) | (show GD _ _ _ _ _ _ _ (⟨none, none, _⟩ :: _) _; refine gd_st (hk := ?_)) | (show GR _ _ _ _ _ _ (⟨none, none, _⟩ :: _) _; refine gr_st (hk := ?_)) | (show GO _ _ _ _ _ (⟨_, some _, _⟩ :: _) _; first | refine go_in (hk := ?_) | refine go_out (hk := ?_) | refine go_void (hk := ?_)) | (show GK _ _ _ _ (blockK _ _ _); refine gk_past rfl ?_) | (show GC _ _ _ _ _ (.cond _ _ _) _; first | refine gc_yes (h1 := ?_) | refine gc_no (h1 := ?_))))
    refine go_is rfl (stp_arrn (j := 60) (o := 60) rfl rfl (by omega) (by omega)) ?_
    refine go_is rfl (stp_ldi rfl (by exact Sel.auto) (by rw [tabS_len]; omega)) ?_
    rw [nth_tabS (by omega), htD_end hL]
    (repeat (first | refine gst (hk := ?_) | (with_reducible first | (refine gc_drw (h := ?_); intro _) | (refine gc_drw2 (h := ?_); intro _)) | (show GO _ _ _ _ _ (⟨some _, none, .call _ _⟩ :: _) _; first | (refine go_callp rfl code_impl_ValidLoads.callable (fun H hH => implValidLoads_ok (hH.ints (by exact Has.auto)) (hH.ints (by exact Has.auto)) (by omega) (by omega)) ?_)) | (show GO _ _ _ _ _ (⟨some _, none, _⟩ :: _) _; first | refine go_op (hk := ?_) | (refine go_nw (hk := ?_); intro u; try simp only [llc, lln, lna, lza]) | (refine go_np (hk := ?_); intro id)) | (show GD _ _ _ _ _ _ _ (⟨some _, none, _⟩ :: _) _; first | refine gd_op (hk := ?_) | (refine gd_nw (hk := ?_); intro u; try simp only [llc, lln, lna, lza])) | (show GR _ _ _ _ _ _ (⟨some _, none, _⟩ :: _) _; refine gr_op (hk := ?_)) | (show GD2 _ _ _ _ _ _ _ _ _ _ _ _ _ _; first | refine gd2_nil rfl ?_ | refine gd2_op (hk := ?_) | (refine gd2_nw (hk := ?_); intro u; try simp only [llc, lln, lna, lza]) | refine gd2_l (hk := ?_) | refine gd2_lp (hk := ?_) | (refine gd2_newp (hk := ?_); intro id) | refine gd2_st (hk := ?_) | (refine gd2_bsl rfl rfl ?_; intro u; try simp only [llc, lln, lna, lza]) | (refine gd2_a (hk := ?_); intro u; try simp only [llc, lln, lna, lza])) | (show GO _ _ _ _ _ (⟨none, none, _⟩ :: _) _; refine go_st (hk := ?_)) | (show GD _ _ _ _ _ _ _ (⟨none, none, _⟩ :: _) _; refine gd_st (hk := ?_)) | (show GR _ _ _ _ _ _ (⟨none, none, _⟩ :: _) _; refine gr_st (hk := ?_)) | (show GO _ _ _ _ _ (⟨_, some _, _⟩ :: _) _; first | refine go_in (hk := ?_) | refine go_out (hk := ?_) | refine go_void (hk := ?_)) | (show GK _ _ _ _ (blockK _ _ _); refine gk_past rfl ?_) | (show GC _ _ _ _ _ (.cond _ _ _) _; first | refine gc_yes (h1 := ?_) | refine gc_no (h1 := ?_))))
    exact gk_ret rfl fun H' hH => ⟨by unfold rsO; rw [if_pos hL]; rfl, hH.leE⟩

theorem rsO_neg {xs ws : List Int} (h : ¬ rsO xs ws < 0) : Loads xs ws ∧ rsO xs ws = riX xs ws := by
  unfold rsO at h ⊢
  by_cases hL : Loads xs ws
  · rw [if_pos hL]; exact ⟨hL, rfl⟩
  · rw [if_neg hL] at h; omega

def farT (xs ws : List Int) : Nat → Int
  | 0 => 0
  | i + 1 => farT xs ws i + nth ws i * (tpT xs i - nth xs i)

theorem farT_row {xs ws : List Int} : ∀ {i}, i ≤ xs.length → rowC xs ws (topL xs xs.length) i = farT xs ws i
  | 0, _ => rfl
  | i + 1, h => by
    have := (tpT_is xs i).1
    rw [rowC, farT, farT_row (i := i) (by omega), nth_topL (by omega), show max (nth xs i - tpT xs i) (tpT xs i - nth xs i) = tpT xs i - nth xs i by omega]

theorem Loads.tp_in {xs ws : List Int} (h : Loads xs ws) (i : Nat) : -30 ≤ tpT xs i ∧ tpT xs i ≤ 30 := by
  obtain ⟨_, j, _, e⟩ := tpT_is xs i
  rw [e]; exact h.x j

theorem Loads.far_in {xs ws : List Int} (h : Loads xs ws) : ∀ {i}, i ≤ xs.length → 0 ≤ farT xs ws i ∧ farT xs ws i ≤ 300 * (i : Int)
  | 0, _ => ⟨Int.le_refl _, by show (0 : Int) ≤ _; omega⟩
  | i + 1, hi => by
    have ih := h.far_in (i := i) (by omega)
    have hw := h.w (i := i) (by omega)
    have hx := h.x i
    have ht := h.tp_in i
    have h1 := (tpT_is xs i).1
    have m1 : 0 ≤ nth ws i * (tpT xs i - nth xs i) := Int.mul_nonneg (by omega) (by omega)
    have m2 : nth ws i * (tpT xs i - nth xs i) ≤ 5 * 60 := Int.mul_le_mul hw.2 (by omega) (by omega) (by omega)
    rw [farT]; omega

theorem Loads.ri_far {xs ws : List Int} (h : Loads xs ws) : riX xs ws ≤ farT xs ws xs.length := by
  rw [← farT_row (Nat.le_refl _)]
  refine ri_row (by have := h.2.2.2.1; omega) (fun i hi => ?_) fun i hi => ?_
  · rw [nth_topL hi]
    obtain ⟨_, j, h1, e⟩ := tpT_is xs i
    rw [e]; exact nth_mem (by omega)
  · rw [nth_topL (by omega), nth_topL hi, tpT]; omega

theorem Loads.rs_turn {xs ws : List Int} (h : Loads xs ws) : rsO (xs.reverse.map (- ·)) ws.reverse = riX xs ws := by
  unfold rsO; rw [if_pos h.turn, h.ri_turn]

end Go.Rx.Try
