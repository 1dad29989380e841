import Derived.Test.YtehelgiigghieaaFnStripByPairsD4
namespace Go.Rx.Try
open Go.Proofs
set_option maxRecDepth 100000
set_option maxHeartbeats 8000000
set_option linter.unusedSimpArgs false
set_option linter.unusedVariables false

theorem implValidPoints_ok {H : Heap} {a b : AV} {xs ys : List Int} {m : Nat} (ha : Ints H a xs) (hb : Ints H b ys) (hl : xs.length ≤ 1000000000) (hl' : ys.length ≤ 1000000000) :
    ACalls Try.prog fn_impl_validPoints [a, b, .int .i64 (m : Int)] H fun r H' => r = .bool (decide (PtsM xs ys m)) ∧ H' = H := by
  refine ACalls.val ?_ rfl
  refine code_impl_validPoints.go [.roI a xs.length xs, .roI b ys.length ys] ⟨⟨rfl, ha⟩, ⟨rfl, hb⟩, trivial⟩ (by simp) ?_
  unfold mc_impl_validPoints
  have no : ∀ {p : Prop}, (PtsM xs ys m → p) → ¬ p → decide (PtsM xs ys m) = false := fun h1 h2 => decide_eq_false fun h3 => h2 (h1 h3)
  (repeat (first | refine gst (hk := ?_) | (show GO _ _ _ _ _ (⟨some _, none, .call _ _⟩ :: _) _; first | (refine go_callp rfl code_impl_validPlace.callable (fun H hH => validPlace_ok) ?_)) | (show GO _ _ _ _ _ (⟨some _, none, _⟩ :: _) _; first | refine go_op (hk := ?_) | (refine go_nw (hk := ?_); intro u; try simp only [llc, lln, lna, lza]) | (refine go_np (hk := ?_); intro id)) | (show GO _ _ _ _ _ (⟨none, none, _⟩ :: _) _; refine go_st (hk := ?_)) | (show GO _ _ _ _ _ (⟨_, some _, _⟩ :: _) _; first | refine go_in (hk := ?_) | refine go_out (hk := ?_) | refine go_void (hk := ?_)) | (show GK _ _ _ _ (blockK _ _ _); refine gk_past rfl ?_) | (show GC _ _ _ _ _ (.cond _ _ _) _; first | refine gc_yes (h1 := ?_) | refine gc_no (h1 := ?_))))
  refine go_split 13 rfl (fun h1 => ?_) (fun h1 => ?_)
  · (repeat (first | refine gst (hk := ?_) | (show GO _ _ _ _ _ (⟨some _, none, .call _ _⟩ :: _) _; first | (refine go_callp rfl code_impl_validPlace.callable (fun H hH => validPlace_ok) ?_)) | (show GO _ _ _ _ _ (⟨some _, none, _⟩ :: _) _; first | refine go_op (hk := ?_) | (refine go_nw (hk := ?_); intro u; try simp only [llc, lln, lna, lza]) | (refine go_np (hk := ?_); intro id)) | (show GO _ _ _ _ _ (⟨none, none, _⟩ :: _) _; refine go_st (hk := ?_)) | (show GO _ _ _ _ _ (⟨_, some _, _⟩ :: _) _; first | refine go_in (hk := ?_) | refine go_out (hk := ?_) | refine go_void (hk := ?_)) | (show GK _ _ _ _ (blockK _ _ _); refine gk_past rfl ?_) | (show GC _ _ _ _ _ (.cond _ _ _) _; first | refine gc_yes (h1 := ?_) | refine gc_no (h1 := ?_))))
    exact gk_ret rfl fun H' hH => ⟨by rw [no (fun h => h.1.1) (by omega)]; rfl, hH.leE⟩
  (repeat (first | refine gst (hk := ?_) | (show GO _ _ _ _ _ (⟨some _, none, .call _ _⟩ :: _) _; first | (refine go_callp rfl code_impl_validPlace.callable (fun H hH => validPlace_ok) ?_)) | (show GO _ _ _ _ _ (⟨some _, none, _⟩ :: _) _; first | refine go_op (hk := ?_) | (refine go_nw (hk := ?_); intro u; try simp only [llc, lln, lna, lza]) | (refine go_np (hk := ?_); intro id)) | (show GO _ _ _ _ _ (⟨none, none, _⟩ :: _) _; refine go_st (hk := ?_)) | (show GO _ _ _ _ _ (⟨_, some _, _⟩ :: _) _; first | refine go_in (hk := ?_) | refine go_out (hk := ?_) | refine go_void (hk := ?_)) | (show GK _ _ _ _ (blockK _ _ _); refine gk_past rfl ?_) | (show GC _ _ _ _ _ (.cond _ _ _) _; first | refine gc_yes (h1 := ?_) | refine gc_no (h1 := ?_))))
  refine go_split 18 rfl (fun h2 => ?_) (fun h2 => ?_)
  · (repeat (first | refine gst (hk := ?_) | (show GO _ _ _ _ _ (⟨some _, none, .call _ _⟩ :: _) _; first | (refine go_callp rfl code_impl_validPlace.callable (fun H hH => validPlace_ok) ?_)) | (show GO _ _ _ _ _ (⟨some _, none, _⟩ :: _) _; first | refine go_op (hk := ?_) | (refine go_nw (hk := ?_); intro u; try simp only [llc, lln, lna, lza]) | (refine go_np (hk := ?_); intro id)) | (show GO _ _ _ _ _ (⟨none, none, _⟩ :: _) _; refine go_st (hk := ?_)) | (show GO _ _ _ _ _ (⟨_, some _, _⟩ :: _) _; first | refine go_in (hk := ?_) | refine go_out (hk := ?_) | refine go_void (hk := ?_)) | (show GK _ _ _ _ (blockK _ _ _); refine gk_past rfl ?_) | (show GC _ _ _ _ _ (.cond _ _ _) _; first | refine gc_yes (h1 := ?_) | refine gc_no (h1 := ?_))))
    exact gk_ret rfl fun H' hH => ⟨by rw [no (fun h => h.1.2.1) (by omega)]; rfl, hH.leE⟩
  (repeat (first | refine gst (hk := ?_) | (show GO _ _ _ _ _ (⟨some _, none, .call _ _⟩ :: _) _; first | (refine go_callp rfl code_impl_validPlace.callable (fun H hH => validPlace_ok) ?_)) | (show GO _ _ _ _ _ (⟨some _, none, _⟩ :: _) _; first | refine go_op (hk := ?_) | (refine go_nw (hk := ?_); intro u; try simp only [llc, lln, lna, lza]) | (refine go_np (hk := ?_); intro id)) | (show GO _ _ _ _ _ (⟨none, none, _⟩ :: _) _; refine go_st (hk := ?_)) | (show GO _ _ _ _ _ (⟨_, some _, _⟩ :: _) _; first | refine go_in (hk := ?_) | refine go_out (hk := ?_) | refine go_void (hk := ?_)) | (show GK _ _ _ _ (blockK _ _ _); refine gk_past rfl ?_) | (show GC _ _ _ _ _ (.cond _ _ _) _; first | refine gc_yes (h1 := ?_) | refine gc_no (h1 := ?_))))
  refine gc_cond rfl (fun h3 => ?_) (fun h3 => ?_)
  · (repeat (first | refine gst (hk := ?_) | (show GO _ _ _ _ _ (⟨some _, none, .call _ _⟩ :: _) _; first | (refine go_callp rfl code_impl_validPlace.callable (fun H hH => validPlace_ok) ?_)) | (show GO _ _ _ _ _ (⟨some _, none, _⟩ :: _) _; first | refine go_op (hk := ?_) | (refine go_nw (hk := ?_); intro u; try simp only [llc, lln, lna, lza]) | (refine go_np (hk := ?_); intro id)) | (show GO _ _ _ _ _ (⟨none, none, _⟩ :: _) _; refine go_st (hk := ?_)) | (show GO _ _ _ _ _ (⟨_, some _, _⟩ :: _) _; first | refine go_in (hk := ?_) | refine go_out (hk := ?_) | refine go_void (hk := ?_)) | (show GK _ _ _ _ (blockK _ _ _); refine gk_past rfl ?_) | (show GC _ _ _ _ _ (.cond _ _ _) _; first | refine gc_yes (h1 := ?_) | refine gc_no (h1 := ?_))))
    exact gk_ret rfl fun H' hH => ⟨by rw [no (fun h => h.1.2.2) (by omega)]; rfl, hH.leE⟩
  (repeat (first | refine gst (hk := ?_) | (show GO _ _ _ _ _ (⟨some _, none, .call _ _⟩ :: _) _; first | (refine go_callp rfl code_impl_validPlace.callable (fun H hH => validPlace_ok) ?_)) | (show GO _ _ _ _ _ (⟨some _, none, _⟩ :: _) _; first | refine go_op (hk := ?_) | (refine go_nw (hk := ?_); intro u; try simp only [llc, lln, lna, lza]) | (refine go_np (hk := ?_); intro id)) | (show GO _ _ _ _ _ (⟨none, none, _⟩ :: _) _; refine go_st (hk := ?_)) | (show GO _ _ _ _ _ (⟨_, some _, _⟩ :: _) _; first | refine go_in (hk := ?_) | refine go_out (hk := ?_) | refine go_void (hk := ?_)) | (show GK _ _ _ _ (blockK _ _ _); refine gk_past rfl ?_) | (show GC _ _ _ _ _ (.cond _ _ _) _; first | refine gc_yes (h1 := ?_) | refine gc_no (h1 := ?_))))
  refine gc_loop (γ := Nat) (fun i => [(0, a), (1, b), (25, .int .i64 (xs.length : Int)), (26, .int .i64 (i : Int))]) (fun _ => [.roI a xs.length xs, .roI b ys.length ys]) (fun i => i ≤ xs.length ∧ PtsT xs ys i) (fun i => xs.length - i) 0 ⟨Nat.zero_le _, fun k hk => by omega⟩ (hb := ?_)
  rintro i ⟨hi, hp⟩ I ν μ hk
  (repeat (first | refine gst (hk := ?_) | (show GO _ _ _ _ _ (⟨some _, none, .call _ _⟩ :: _) _; first | (refine go_callp rfl code_impl_validPlace.callable (fun H hH => validPlace_ok) ?_)) | (show GO _ _ _ _ _ (⟨some _, none, _⟩ :: _) _; first | refine go_op (hk := ?_) | (refine go_nw (hk := ?_); intro u; try simp only [llc, lln, lna, lza]) | (refine go_np (hk := ?_); intro id)) | (show GO _ _ _ _ _ (⟨none, none, _⟩ :: _) _; refine go_st (hk := ?_)) | (show GO _ _ _ _ _ (⟨_, some _, _⟩ :: _) _; first | refine go_in (hk := ?_) | refine go_out (hk := ?_) | refine go_void (hk := ?_)) | (show GK _ _ _ _ (blockK _ _ _); refine gk_past rfl ?_) | (show GC _ _ _ _ _ (.cond _ _ _) _; first | refine gc_yes (h1 := ?_) | refine gc_no (h1 := ?_))))
  refine gc_cond rfl (fun h => ?_) (fun h => ?_)
  · (repeat (first | refine gst (hk := ?_) | (show GO _ _ _ _ _ (⟨some _, none, .call _ _⟩ :: _) _; first | (refine go_callp rfl code_impl_validPlace.callable (fun H hH => validPlace_ok) ?_)) | (show GO _ _ _ _ _ (⟨some _, none, _⟩ :: _) _; first | refine go_op (hk := ?_) | (refine go_nw (hk := ?_); intro u; try simp only [llc, lln, lna, lza]) | (refine go_np (hk := ?_); intro id)) | (show GO _ _ _ _ _ (⟨none, none, _⟩ :: _) _; refine go_st (hk := ?_)) | (show GO _ _ _ _ _ (⟨_, some _, _⟩ :: _) _; first | refine go_in (hk := ?_) | refine go_out (hk := ?_) | refine go_void (hk := ?_)) | (show GK _ _ _ _ (blockK _ _ _); refine gk_past rfl ?_) | (show GC _ _ _ _ _ (.cond _ _ _) _; first | refine gc_yes (h1 := ?_) | refine gc_no (h1 := ?_))))
    refine go_split 35 rfl (fun h4 => ?_) (fun h4 => ?_)
    · (repeat (first | refine gst (hk := ?_) | (show GO _ _ _ _ _ (⟨some _, none, .call _ _⟩ :: _) _; first | (refine go_callp rfl code_impl_validPlace.callable (fun H hH => validPlace_ok) ?_)) | (show GO _ _ _ _ _ (⟨some _, none, _⟩ :: _) _; first | refine go_op (hk := ?_) | (refine go_nw (hk := ?_); intro u; try simp only [llc, lln, lna, lza]) | (refine go_np (hk := ?_); intro id)) | (show GO _ _ _ _ _ (⟨none, none, _⟩ :: _) _; refine go_st (hk := ?_)) | (show GO _ _ _ _ _ (⟨_, some _, _⟩ :: _) _; first | refine go_in (hk := ?_) | refine go_out (hk := ?_) | refine go_void (hk := ?_)) | (show GK _ _ _ _ (blockK _ _ _); refine gk_past rfl ?_) | (show GC _ _ _ _ _ (.cond _ _ _) _; first | refine gc_yes (h1 := ?_) | refine gc_no (h1 := ?_))))
      exact gk_ret rfl fun H' hH => ⟨by rw [no (fun h => (h.2 i (by omega)).2.1) h4]; rfl, hH.leE⟩
    (repeat (first | refine gst (hk := ?_) | (show GO _ _ _ _ _ (⟨some _, none, .call _ _⟩ :: _) _; first | (refine go_callp rfl code_impl_validPlace.callable (fun H hH => validPlace_ok) ?_)) | (show GO _ _ _ _ _ (⟨some _, none, _⟩ :: _) _; first | refine go_op (hk := ?_) | (refine go_nw (hk := ?_); intro u; try simp only [llc, lln, lna, lza]) | (refine go_np (hk := ?_); intro id)) | (show GO _ _ _ _ _ (⟨none, none, _⟩ :: _) _; refine go_st (hk := ?_)) | (show GO _ _ _ _ _ (⟨_, some _, _⟩ :: _) _; first | refine go_in (hk := ?_) | refine go_out (hk := ?_) | refine go_void (hk := ?_)) | (show GK _ _ _ _ (blockK _ _ _); refine gk_past rfl ?_) | (show GC _ _ _ _ _ (.cond _ _ _) _; first | refine gc_yes (h1 := ?_) | refine gc_no (h1 := ?_))))
    refine gc_cond rfl (fun h5 => ?_) (fun h5 => ?_)
    · (repeat (first | refine gst (hk := ?_) | (show GO _ _ _ _ _ (⟨some _, none, .call _ _⟩ :: _) _; first | (refine go_callp rfl code_impl_validPlace.callable (fun H hH => validPlace_ok) ?_)) | (show GO _ _ _ _ _ (⟨some _, none, _⟩ :: _) _; first | refine go_op (hk := ?_) | (refine go_nw (hk := ?_); intro u; try simp only [llc, lln, lna, lza]) | (refine go_np (hk := ?_); intro id)) | (show GO _ _ _ _ _ (⟨none, none, _⟩ :: _) _; refine go_st (hk := ?_)) | (show GO _ _ _ _ _ (⟨_, some _, _⟩ :: _) _; first | refine go_in (hk := ?_) | refine go_out (hk := ?_) | refine go_void (hk := ?_)) | (show GK _ _ _ _ (blockK _ _ _); refine gk_past rfl ?_) | (show GC _ _ _ _ _ (.cond _ _ _) _; first | refine gc_yes (h1 := ?_) | refine gc_no (h1 := ?_))))
      exact gk_ret rfl fun H' hH => ⟨by rw [no (fun h => (h.2 i (by omega)).2.2) h5]; rfl, hH.leE⟩
    (repeat (first | refine gst (hk := ?_) | (show GO _ _ _ _ _ (⟨some _, none, .call _ _⟩ :: _) _; first | (refine go_callp rfl code_impl_validPlace.callable (fun H hH => validPlace_ok) ?_)) | (show GO _ _ _ _ _ (⟨some _, none, _⟩ :: _) _; first | refine go_op (hk := ?_) | (refine go_nw (hk := ?_); intro u; try simp only [llc, lln, lna, lza]) | (refine go_np (hk := ?_); intro id)) | (show GO _ _ _ _ _ (⟨none, none, _⟩ :: _) _; refine go_st (hk := ?_)) | (show GO _ _ _ _ _ (⟨_, some _, _⟩ :: _) _; first | refine go_in (hk := ?_) | refine go_out (hk := ?_) | refine go_void (hk := ?_)) | (show GK _ _ _ _ (blockK _ _ _); refine gk_past rfl ?_) | (show GC _ _ _ _ _ (.cond _ _ _) _; first | refine gc_yes (h1 := ?_) | refine gc_no (h1 := ?_))))
    exact gk_next (hk (i + 1) ⟨by omega, hp.succ (by omega) (Decidable.not_not.1 h4) (Decidable.not_not.1 h5)⟩ (by omega))
  · have : i = xs.length := by omega
    subst this
    (repeat (first | refine gst (hk := ?_) | (show GO _ _ _ _ _ (⟨some _, none, .call _ _⟩ :: _) _; first | (refine go_callp rfl code_impl_validPlace.callable (fun H hH => validPlace_ok) ?_)) | (show GO _ _ _ _ _ (⟨some _, none, _⟩ :: _) _; first | refine go_op (hk := ?_) | (refine go_nw (hk := ?_); intro u; try simp only [llc, lln, lna, lza]) | (refine go_np (hk := ?_); intro id)) | (show GO _ _ _ _ _ (⟨none, none, _⟩ :: _) _; refine go_st (hk := ?_)) | (show GO _ _ _ _ _ (⟨_, some _, _⟩ :: _) _; first | refine go_in (hk := ?_) | refine go_out (hk := ?_) | refine go_void (hk := ?_)) | (show GK _ _ _ _ (blockK _ _ _); refine gk_past rfl ?_) | (show GC _ _ _ _ _ (.cond _ _ _) _; first | refine gc_yes (h1 := ?_) | refine gc_no (h1 := ?_))))
    exact gk_ret rfl fun H' hH => ⟨by
      have : PtsM xs ys m := ⟨⟨by omega, by omega, by omega⟩, hp⟩
      simp [tupleOf, this], hH.leE⟩

def mnT (xs : List Int) : Nat → Int
  | 0 => nth xs 0
  | i + 1 => min (mnT xs i) (nth xs (i + 1))

def mxT (xs : List Int) : Nat → Int
  | 0 => nth xs 0
  | i + 1 => max (mxT xs i) (nth xs (i + 1))

theorem mnT_is (xs : List Int) : ∀ k, (∀ j, j ≤ k → mnT xs k ≤ nth xs j) ∧ ∃ j, j ≤ k ∧ mnT xs k = nth xs j
  | 0 => ⟨fun j hj => by rw [show j = 0 by omega]; exact Int.le_refl _, 0, Nat.le_refl _, rfl⟩
  | k + 1 => by
    obtain ⟨h1, j, h2, h3⟩ := mnT_is xs k
    refine ⟨fun i hi => ?_, ?_⟩
    · rw [mnT]
      rcases Nat.lt_or_ge k i with h | h
      · rw [show i = k + 1 by omega]; omega
      · have := h1 i h; omega
    · rw [mnT]
      by_cases h : mnT xs k ≤ nth xs (k + 1)
      · exact ⟨j, by omega, by omega⟩
      · exact ⟨k + 1, Nat.le_refl _, by omega⟩

theorem mxT_is (xs : List Int) : ∀ k, (∀ j, j ≤ k → nth xs j ≤ mxT xs k) ∧ ∃ j, j ≤ k ∧ mxT xs k = nth xs j
  | 0 => ⟨fun j hj => by rw [show j = 0 by omega]; exact Int.le_refl _, 0, Nat.le_refl _, rfl⟩
  | k + 1 => by
    obtain ⟨h1, j, h2, h3⟩ := mxT_is xs k
    refine ⟨fun i hi => ?_, ?_⟩
    · rw [mxT]
      rcases Nat.lt_or_ge k i with h | h
      · rw [show i = k + 1 by omega]; omega
      · have := h1 i h; omega
    · rw [mxT]
      by_cases h : nth xs (k + 1) ≤ mxT xs k
      · exact ⟨j, by omega, by omega⟩
      · exact ⟨k + 1, Nat.le_refl _, by omega⟩

theorem slicesMin_ok {H : Heap} {a : AV} {xs : List Int} (ha : Ints H a xs) (h0 : 1 ≤ xs.length) (hl : xs.length ≤ 1000000000) :
    ACalls Try.prog fn_slices_Min_ints [a] H fun r H' => r = .int .i64 (mnT xs (xs.length - 1)) ∧ H' = H := by
  refine ACalls.val ?_ rfl
  refine code_slices_Min_ints.go [.roI a xs.length xs] ⟨⟨rfl, ha⟩, trivial⟩ (by simp) ?_
  unfold mc_slices_Min_ints
  (repeat (first | refine gst (hk := ?_) | (show GO _ _ _ _ _ (⟨some _, none, _⟩ :: _) _; first | refine go_op (hk := ?_) | (refine go_nw (hk := ?_); intro u; try simp only [llc, lln, lna, lza]) | (refine go_np (hk := ?_); intro id)) | (show GO _ _ _ _ _ (⟨none, none, _⟩ :: _) _; refine go_st (hk := ?_)) | (show GO _ _ _ _ _ (⟨_, some _, _⟩ :: _) _; first | refine go_in (hk := ?_) | refine go_out (hk := ?_) | refine go_void (hk := ?_)) | (show GK _ _ _ _ (blockK _ _ _); refine gk_past rfl ?_) | (show GC _ _ _ _ _ (.cond _ _ _) _; first | refine gc_yes (h1 := ?_) | refine gc_no (h1 := ?_))))
  refine gc_cond rfl (fun h => by omega) (fun h => ?_)
  (repeat (first | refine gst (hk := ?_) | (show GO _ _ _ _ _ (⟨some _, none, _⟩ :: _) _; first | refine go_op (hk := ?_) | (refine go_nw (hk := ?_); intro u; try simp only [llc, lln, lna, lza]) | (refine go_np (hk := ?_); intro id)) | (show GO _ _ _ _ _ (⟨none, none, _⟩ :: _) _; refine go_st (hk := ?_)) | (show GO _ _ _ _ _ (⟨_, some _, _⟩ :: _) _; first | refine go_in (hk := ?_) | refine go_out (hk := ?_) | refine go_void (hk := ?_)) | (show GK _ _ _ _ (blockK _ _ _); refine gk_past rfl ?_) | (show GC _ _ _ _ _ (.cond _ _ _) _; first | refine gc_yes (h1 := ?_) | refine gc_no (h1 := ?_))))
  refine gc_up (xs.length - 1) (fun i => [(0, a), (3, .int .i64 (mnT xs i)), (4, .int .i64 ((i + 1 : Nat) : Int))]) (fun _ => [.roI a xs.length xs]) (hb := ?_)
  intro i hi I ν μ hk
  (repeat (first | refine gst (hk := ?_) | (show GO _ _ _ _ _ (⟨some _, none, _⟩ :: _) _; first | refine go_op (hk := ?_) | (refine go_nw (hk := ?_); intro u; try simp only [llc, lln, lna, lza]) | (refine go_np (hk := ?_); intro id)) | (show GO _ _ _ _ _ (⟨none, none, _⟩ :: _) _; refine go_st (hk := ?_)) | (show GO _ _ _ _ _ (⟨_, some _, _⟩ :: _) _; first | refine go_in (hk := ?_) | refine go_out (hk := ?_) | refine go_void (hk := ?_)) | (show GK _ _ _ _ (blockK _ _ _); refine gk_past rfl ?_) | (show GC _ _ _ _ _ (.cond _ _ _) _; first | refine gc_yes (h1 := ?_) | refine gc_no (h1 := ?_))))
  refine gc_cond rfl (fun h => ?_) (fun h => ?_)
  · (repeat (first | refine gst (hk := ?_) | (show GO _ _ _ _ _ (⟨some _, none, _⟩ :: _) _; first | refine go_op (hk := ?_) | (refine go_nw (hk := ?_); intro u; try simp only [llc, lln, lna, lza]) | (refine go_np (hk := ?_); intro id)) | (show GO _ _ _ _ _ (⟨none, none, _⟩ :: _) _; refine go_st (hk := ?_)) | (show GO _ _ _ _ _ (⟨_, some _, _⟩ :: _) _; first | refine go_in (hk := ?_) | refine go_out (hk := ?_) | refine go_void (hk := ?_)) | (show GK _ _ _ _ (blockK _ _ _); refine gk_past rfl ?_) | (show GC _ _ _ _ _ (.cond _ _ _) _; first | refine gc_yes (h1 := ?_) | refine gc_no (h1 := ?_))))
    exact gk_next (hk (by omega))
  · have : i = xs.length - 1 := by omega
    subst this
    (repeat (first | refine gst (hk := ?_) | (show GO _ _ _ _ _ (⟨some _, none, _⟩ :: _) _; first | refine go_op (hk := ?_) | (refine go_nw (hk := ?_); intro u; try simp only [llc, lln, lna, lza]) | (refine go_np (hk := ?_); intro id)) | (show GO _ _ _ _ _ (⟨none, none, _⟩ :: _) _; refine go_st (hk := ?_)) | (show GO _ _ _ _ _ (⟨_, some _, _⟩ :: _) _; first | refine go_in (hk := ?_) | refine go_out (hk := ?_) | refine go_void (hk := ?_)) | (show GK _ _ _ _ (blockK _ _ _); refine gk_past rfl ?_) | (show GC _ _ _ _ _ (.cond _ _ _) _; first | refine gc_yes (h1 := ?_) | refine gc_no (h1 := ?_))))
    exact gk_ret rfl fun H' hH => ⟨rfl, hH.leE⟩

theorem slicesMax_ok {H : Heap} {a : AV} {xs : List Int} (ha : Ints H a xs) (h0 : 1 ≤ xs.length) (hl : xs.length ≤ 1000000000) :
    ACalls Try.prog fn_slices_Max_ints [a] H fun r H' => r = .int .i64 (mxT xs (xs.length - 1)) ∧ H' = H := by
  refine ACalls.val ?_ rfl
  refine code_slices_Max_ints.go [.roI a xs.length xs] ⟨⟨rfl, ha⟩, trivial⟩ (by simp) ?_
  unfold mc_slices_Max_ints
  (repeat (first | refine gst (hk := ?_) | (show GO _ _ _ _ _ (⟨some _, none, _⟩ :: _) _; first | refine go_op (hk := ?_) | (refine go_nw (hk := ?_); intro u; try simp only [llc, lln, lna, lza]) | (refine go_np (hk := ?_); intro id)) | (show GO _ _ _ _ _ (⟨none, none, _⟩ :: _) _; refine go_st (hk := ?_)) | (show GO _ _ _ _ _ (⟨_, some _, _⟩ :: _) _; first | refine go_in (hk := ?_) | refine go_out (hk := ?_) | refine go_void (hk := ?_)) | (show GK _ _ _ _ (blockK _ _ _); refine gk_past rfl ?_) | (show GC _ _ _ _ _ (.cond _ _ _) _; first | refine gc_yes (h1 := ?_) | refine gc_no (h1 := ?_))))
  refine gc_cond rfl (fun h => by omega) (fun h => ?_)
  (repeat (first | refine gst (hk := ?_) | (show GO _ _ _ _ _ (⟨some _, none, _⟩ :: _) _; first | refine go_op (hk := ?_) | (refine go_nw (hk := ?_); intro u; try simp only [llc, lln, lna, lza]) | (refine go_np (hk := ?_); intro id)) | (show GO _ _ _ _ _ (⟨none, none, _⟩ :: _) _; refine go_st (hk := ?_)) | (show GO _ _ _ _ _ (⟨_, some _, _⟩ :: _) _; first | refine go_in (hk := ?_) | refine go_out (hk := ?_) | refine go_void (hk := ?_)) | (show GK _ _ _ _ (blockK _ _ _); refine gk_past rfl ?_) | (show GC _ _ _ _ _ (.cond _ _ _) _; first | refine gc_yes (h1 := ?_) | refine gc_no (h1 := ?_))))
  refine gc_up (xs.length - 1) (fun i => [(0, a), (3, .int .i64 (mxT xs i)), (4, .int .i64 ((i + 1 : Nat) : Int))]) (fun _ => [.roI a xs.length xs]) (hb := ?_)
  intro i hi I ν μ hk
  (repeat (first | refine gst (hk := ?_) | (show GO _ _ _ _ _ (⟨some _, none, _⟩ :: _) _; first | refine go_op (hk := ?_) | (refine go_nw (hk := ?_); intro u; try simp only [llc, lln, lna, lza]) | (refine go_np (hk := ?_); intro id)) | (show GO _ _ _ _ _ (⟨none, none, _⟩ :: _) _; refine go_st (hk := ?_)) | (show GO _ _ _ _ _ (⟨_, some _, _⟩ :: _) _; first | refine go_in (hk := ?_) | refine go_out (hk := ?_) | refine go_void (hk := ?_)) | (show GK _ _ _ _ (blockK _ _ _); refine gk_past rfl ?_) | (show GC _ _ _ _ _ (.cond _ _ _) _; first | refine gc_yes (h1 := ?_) | refine gc_no (h1 := ?_))))
  refine gc_cond rfl (fun h => ?_) (fun h => ?_)
  · (repeat (first | refine gst (hk := ?_) | (show GO _ _ _ _ _ (⟨some _, none, _⟩ :: _) _; first | refine go_op (hk := ?_) | (refine go_nw (hk := ?_); intro u; try simp only [llc, lln, lna, lza]) | (refine go_np (hk := ?_); intro id)) | (show GO _ _ _ _ _ (⟨none, none, _⟩ :: _) _; refine go_st (hk := ?_)) | (show GO _ _ _ _ _ (⟨_, some _, _⟩ :: _) _; first | refine go_in (hk := ?_) | refine go_out (hk := ?_) | refine go_void (hk := ?_)) | (show GK _ _ _ _ (blockK _ _ _); refine gk_past rfl ?_) | (show GC _ _ _ _ _ (.cond _ _ _) _; first | refine gc_yes (h1 := ?_) | refine gc_no (h1 := ?_))))
    exact gk_next (hk (by omega))
  · have : i = xs.length - 1 := by omega
    subst this
    (repeat (first | refine gst (hk := ?_) | (show GO _ _ _ _ _ (⟨some _, none, _⟩ :: _) _; first | refine go_op (hk := ?_) | (refine go_nw (hk := ?_); intro u; try simp only [llc, lln, lna, lza]) | (refine go_np (hk := ?_); intro id)) | (show GO _ _ _ _ _ (⟨none, none, _⟩ :: _) _; refine go_st (hk := ?_)) | (show GO _ _ _ _ _ (⟨_, some _, _⟩ :: _) _; first | refine go_in (hk := ?_) | refine go_out (hk := ?_) | refine go_void (hk := ?_)) | (show GK _ _ _ _ (blockK _ _ _); refine gk_past rfl ?_) | (show GC _ _ _ _ _ (.cond _ _ _) _; first | refine gc_yes (h1 := ?_) | refine gc_no (h1 := ?_))))
    exact gk_ret rfl fun H' hH => ⟨rfl, hH.leE⟩

theorem cloud_of {xs ys : List Int} (h : PtsM xs ys 7) : mnT xs (xs.length - 1) < mxT xs (xs.length - 1) ↔ Cloud xs ys := by
  obtain ⟨⟨h1, h2, h3⟩, h4⟩ := h
  obtain ⟨a1, i, a2, a3⟩ := mnT_is xs (xs.length - 1)
  obtain ⟨b1, j, b2, b3⟩ := mxT_is xs (xs.length - 1)
  constructor
  · intro h
    refine ⟨⟨h4, h1, h3⟩, ?_⟩
    by_cases e : nth xs i = nth xs 0
    · have : nth xs j ≠ nth xs 0 := by omega
      refine ⟨j, ?_, by omega, this⟩
      rcases Nat.eq_zero_or_pos j with h0 | h0
      · subst h0; exact absurd rfl this
      · exact h0
    · refine ⟨i, ?_, by omega, e⟩
      rcases Nat.eq_zero_or_pos i with h0 | h0
      · subst h0; exact absurd rfl e
      · exact h0
  · rintro ⟨_, k, k1, k2, k3⟩
    have c1 := a1 k (by omega)
    have c2 := a1 0 (by omega)
    have c3 := b1 k (by omega)
    have c4 := b1 0 (by omega)
    omega

theorem Cloud.m {xs ys : List Int} (h : Cloud xs ys) : PtsM xs ys 7 := by
  obtain ⟨⟨h1, h2, h3⟩, i, h4, h5, _⟩ := h
  exact ⟨⟨h2, by omega, h3⟩, h1⟩

theorem implValidCloud_ok {H : Heap} {a b : AV} {xs ys : List Int} (ha : Ints H a xs) (hb : Ints H b ys) (hl : xs.length ≤ 1000000000) (hl' : ys.length ≤ 1000000000) :
    ACalls Try.prog fn_impl_ValidCloud [a, b] H fun r H' => r = .bool (decide (Cloud xs ys)) ∧ H' = H := by
  refine ACalls.val ?_ rfl
  refine code_impl_ValidCloud.go [.roI a xs.length xs, .roI b ys.length ys] ⟨⟨rfl, ha⟩, ⟨rfl, hb⟩, trivial⟩ (by simp) ?_
  unfold mc_impl_ValidCloud
  (repeat (first | refine gst (hk := ?_) | (show GO _ _ _ _ _ (⟨some _, none, _⟩ :: _) _; first | refine go_op (hk := ?_) | (refine go_nw (hk := ?_); intro u; try simp only [llc, lln, lna, lza]) | (refine go_np (hk := ?_); intro id)) | (show GO _ _ _ _ _ (⟨none, none, _⟩ :: _) _; refine go_st (hk := ?_)) | (show GO _ _ _ _ _ (⟨_, some _, _⟩ :: _) _; first | refine go_in (hk := ?_) | refine go_out (hk := ?_) | refine go_void (hk := ?_)) | (show GK _ _ _ _ (blockK _ _ _); refine gk_past rfl ?_) | (show GC _ _ _ _ _ (.cond _ _ _) _; first | refine gc_yes (h1 := ?_) | refine gc_no (h1 := ?_))))
  refine go_callp rfl code_impl_validPoints.callable (fun H hH => implValidPoints_ok (m := 7) (hH.ints (by exact Has.auto)) (hH.ints (by exact Has.auto)) hl hl') ?_
  (repeat (first | refine gst (hk := ?_) | (show GO _ _ _ _ _ (⟨some _, none, _⟩ :: _) _; first | refine go_op (hk := ?_) | (refine go_nw (hk := ?_); intro u; try simp only [llc, lln, lna, lza]) | (refine go_np (hk := ?_); intro id)) | (show GO _ _ _ _ _ (⟨none, none, _⟩ :: _) _; refine go_st (hk := ?_)) | (show GO _ _ _ _ _ (⟨_, some _, _⟩ :: _) _; first | refine go_in (hk := ?_) | refine go_out (hk := ?_) | refine go_void (hk := ?_)) | (show GK _ _ _ _ (blockK _ _ _); refine gk_past rfl ?_) | (show GC _ _ _ _ _ (.cond _ _ _) _; first | refine gc_yes (h1 := ?_) | refine gc_no (h1 := ?_))))
  refine go_split 8 rfl (fun h1 => ?_) (fun h1 => ?_)
  · have h2 := h1.1.2.1
    (repeat (first | refine gst (hk := ?_) | (show GO _ _ _ _ _ (⟨some _, none, _⟩ :: _) _; first | refine go_op (hk := ?_) | (refine go_nw (hk := ?_); intro u; try simp only [llc, lln, lna, lza]) | (refine go_np (hk := ?_); intro id)) | (show GO _ _ _ _ _ (⟨none, none, _⟩ :: _) _; refine go_st (hk := ?_)) | (show GO _ _ _ _ _ (⟨_, some _, _⟩ :: _) _; first | refine go_in (hk := ?_) | refine go_out (hk := ?_) | refine go_void (hk := ?_)) | (show GK _ _ _ _ (blockK _ _ _); refine gk_past rfl ?_) | (show GC _ _ _ _ _ (.cond _ _ _) _; first | refine gc_yes (h1 := ?_) | refine gc_no (h1 := ?_))))
    refine go_callp rfl code_slices_Min_ints.callable (fun H hH => slicesMin_ok (hH.ints (by exact Has.auto)) h2 hl) ?_
    (repeat (first | refine gst (hk := ?_) | (show GO _ _ _ _ _ (⟨some _, none, _⟩ :: _) _; first | refine go_op (hk := ?_) | (refine go_nw (hk := ?_); intro u; try simp only [llc, lln, lna, lza]) | (refine go_np (hk := ?_); intro id)) | (show GO _ _ _ _ _ (⟨none, none, _⟩ :: _) _; refine go_st (hk := ?_)) | (show GO _ _ _ _ _ (⟨_, some _, _⟩ :: _) _; first | refine go_in (hk := ?_) | refine go_out (hk := ?_) | refine go_void (hk := ?_)) | (show GK _ _ _ _ (blockK _ _ _); refine gk_past rfl ?_) | (show GC _ _ _ _ _ (.cond _ _ _) _; first | refine gc_yes (h1 := ?_) | refine gc_no (h1 := ?_))))
    refine go_callp rfl code_slices_Max_ints.callable (fun H hH => slicesMax_ok (hH.ints (by exact Has.auto)) h2 hl) ?_
    (repeat (first | refine gst (hk := ?_) | (show GO _ _ _ _ _ (⟨some _, none, _⟩ :: _) _; first | refine go_op (hk := ?_) | (refine go_nw (hk := ?_); intro u; try simp only [llc, lln, lna, lza]) | (refine go_np (hk := ?_); intro id)) | (show GO _ _ _ _ _ (⟨none, none, _⟩ :: _) _; refine go_st (hk := ?_)) | (show GO _ _ _ _ _ (⟨_, some _, _⟩ :: _) _; first | refine go_in (hk := ?_) | refine go_out (hk := ?_) | refine go_void (hk := ?_)) | (show GK _ _ _ _ (blockK _ _ _); refine gk_past rfl ?_) | (show GC _ _ _ _ _ (.cond _ _ _) _; first | refine gc_yes (h1 := ?_) | refine gc_no (h1 := ?_))))
    exact gk_ret rfl fun H' hH => ⟨by
      simp only [tupleOf]; congr 1
      exact decide_eq_decide.2 (cloud_of h1), hH.leE⟩
  · (repeat (first | refine gst (hk := ?_) | (show GO _ _ _ _ _ (⟨some _, none, _⟩ :: _) _; first | refine go_op (hk := ?_) | (refine go_nw (hk := ?_); intro u; try simp only [llc, lln, lna, lza]) | (refine go_np (hk := ?_); intro id)) | (show GO _ _ _ _ _ (⟨none, none, _⟩ :: _) _; refine go_st (hk := ?_)) | (show GO _ _ _ _ _ (⟨_, some _, _⟩ :: _) _; first | refine go_in (hk := ?_) | refine go_out (hk := ?_) | refine go_void (hk := ?_)) | (show GK _ _ _ _ (blockK _ _ _); refine gk_past rfl ?_) | (show GC _ _ _ _ _ (.cond _ _ _) _; first | refine gc_yes (h1 := ?_) | refine gc_no (h1 := ?_))))
    exact gk_ret rfl fun H' hH => ⟨by
      simp only [tupleOf]; congr 1
      exact (decide_eq_false fun h2 => h1 h2.m).symm, hH.leE⟩

theorem pointsOf_ok {H : Heap} {a b : AV} {xs ys : List Int} (ha : Ints H a xs) (hb : Ints H b ys) (hlen : xs.length = ys.length) (hl : xs.length ≤ 1000000) :
    ACalls Try.prog fn_impl_pointsOf [a, b] H fun r H' => Own H H' r 2 xs.length (pns (ptL xs ys)) ∧ Le H H' := by
  refine code_impl_pointsOf.go [.roI a xs.length xs, .roI b ys.length ys] ⟨⟨rfl, ha⟩, ⟨rfl, hb⟩, trivial⟩ (by simp) ?_
  unfold mc_impl_pointsOf
  (repeat (first | refine gst (hk := ?_) | (with_reducible first | (refine gc_drw (h := ?_); intro _) | (refine gc_drw2 (h := ?_); intro _)) | (show GO _ _ _ _ _ (⟨some _, none, _⟩ :: _) _; first | refine go_op (hk := ?_) | (refine go_nw (hk := ?_); intro u; try simp only [llc, lln, lna, lza]) | (refine go_np (hk := ?_); intro id)) | (show GD _ _ _ _ _ _ _ (⟨some _, none, _⟩ :: _) _; first | refine gd_op (hk := ?_) | (refine gd_nw (hk := ?_); intro u; try simp only [llc, lln, lna, lza])) | (show GD2 _ _ _ _ _ _ _ _ _ _ _ _ _ _; first | refine gd2_nil rfl ?_ | refine gd2_op (hk := ?_) | (refine gd2_nw (hk := ?_); intro u; try simp only [llc, lln, lna, lza]) | refine gd2_l (hk := ?_) | refine gd2_lp (hk := ?_) | (refine gd2_newp (hk := ?_); intro id) | refine gd2_st (hk := ?_) | (refine gd2_bsl rfl rfl ?_; intro u; try simp only [llc, lln, lna, lza]) | (refine gd2_a (hk := ?_); intro u; try simp only [llc, lln, lna, lza])) | (show GO _ _ _ _ _ (⟨none, none, _⟩ :: _) _; refine go_st (hk := ?_)) | (show GD _ _ _ _ _ _ _ (⟨none, none, _⟩ :: _) _; refine gd_st (hk := ?_)) | (show GO _ _ _ _ _ (⟨_, some _, _⟩ :: _) _; first | refine go_in (hk := ?_) | refine go_out (hk := ?_) | refine go_void (hk := ?_)) | (show GK _ _ _ _ (blockK _ _ _); refine gk_past rfl ?_) | (show GC _ _ _ _ _ (.cond _ _ _) _; first | refine gc_yes (h1 := ?_) | refine gc_no (h1 := ?_))))
  refine go_new rfl (stp_mkK cels_pn (0, 0) xs.length rfl rfl rfl rfl (by omega) (by omega)) ?_
  intro u
  (repeat (first | refine gst (hk := ?_) | (with_reducible first | (refine gc_drw (h := ?_); intro _) | (refine gc_drw2 (h := ?_); intro _)) | (show GO _ _ _ _ _ (⟨some _, none, _⟩ :: _) _; first | refine go_op (hk := ?_) | (refine go_nw (hk := ?_); intro u; try simp only [llc, lln, lna, lza]) | (refine go_np (hk := ?_); intro id)) | (show GD _ _ _ _ _ _ _ (⟨some _, none, _⟩ :: _) _; first | refine gd_op (hk := ?_) | (refine gd_nw (hk := ?_); intro u; try simp only [llc, lln, lna, lza])) | (show GD2 _ _ _ _ _ _ _ _ _ _ _ _ _ _; first | refine gd2_nil rfl ?_ | refine gd2_op (hk := ?_) | (refine gd2_nw (hk := ?_); intro u; try simp only [llc, lln, lna, lza]) | refine gd2_l (hk := ?_) | refine gd2_lp (hk := ?_) | (refine gd2_newp (hk := ?_); intro id) | refine gd2_st (hk := ?_) | (refine gd2_bsl rfl rfl ?_; intro u; try simp only [llc, lln, lna, lza]) | (refine gd2_a (hk := ?_); intro u; try simp only [llc, lln, lna, lza])) | (show GO _ _ _ _ _ (⟨none, none, _⟩ :: _) _; refine go_st (hk := ?_)) | (show GD _ _ _ _ _ _ _ (⟨none, none, _⟩ :: _) _; refine gd_st (hk := ?_)) | (show GO _ _ _ _ _ (⟨_, some _, _⟩ :: _) _; first | refine go_in (hk := ?_) | refine go_out (hk := ?_) | refine go_void (hk := ?_)) | (show GK _ _ _ _ (blockK _ _ _); refine gk_past rfl ?_) | (show GC _ _ _ _ _ (.cond _ _ _) _; first | refine gc_yes (h1 := ?_) | refine gc_no (h1 := ?_))))
  rw [tabS_rep]
  rw [tabS_congr (g := fun k => if k < 0 then (nth xs k, nth ys k) else (0, 0)) (fun k _ => by rw [if_neg (by omega)])]
  refine gc_up xs.length (fun i => [(0, a), (1, b), (5, u), (11, .int .i64 (xs.length : Int)), (12, .int .i64 (i : Int))]) (fun i => [rwP u xs.length (tabS xs.length fun k => if k < i then (nth xs k, nth ys k) else (0, 0)), .roI a xs.length xs, .roI b ys.length ys]) (hb := ?_)
  intro i hi I ν μ hk
  (repeat (first | refine gst (hk := ?_) | (with_reducible first | (refine gc_drw (h := ?_); intro _) | (refine gc_drw2 (h := ?_); intro _)) | (show GO _ _ _ _ _ (⟨some _, none, _⟩ :: _) _; first | refine go_op (hk := ?_) | (refine go_nw (hk := ?_); intro u; try simp only [llc, lln, lna, lza]) | (refine go_np (hk := ?_); intro id)) | (show GD _ _ _ _ _ _ _ (⟨some _, none, _⟩ :: _) _; first | refine gd_op (hk := ?_) | (refine gd_nw (hk := ?_); intro u; try simp only [llc, lln, lna, lza])) | (show GD2 _ _ _ _ _ _ _ _ _ _ _ _ _ _; first | refine gd2_nil rfl ?_ | refine gd2_op (hk := ?_) | (refine gd2_nw (hk := ?_); intro u; try simp only [llc, lln, lna, lza]) | refine gd2_l (hk := ?_) | refine gd2_lp (hk := ?_) | (refine gd2_newp (hk := ?_); intro id) | refine gd2_st (hk := ?_) | (refine gd2_bsl rfl rfl ?_; intro u; try simp only [llc, lln, lna, lza]) | (refine gd2_a (hk := ?_); intro u; try simp only [llc, lln, lna, lza])) | (show GO _ _ _ _ _ (⟨none, none, _⟩ :: _) _; refine go_st (hk := ?_)) | (show GD _ _ _ _ _ _ _ (⟨none, none, _⟩ :: _) _; refine gd_st (hk := ?_)) | (show GO _ _ _ _ _ (⟨_, some _, _⟩ :: _) _; first | refine go_in (hk := ?_) | refine go_out (hk := ?_) | refine go_void (hk := ?_)) | (show GK _ _ _ _ (blockK _ _ _); refine gk_past rfl ?_) | (show GC _ _ _ _ _ (.cond _ _ _) _; first | refine gc_yes (h1 := ?_) | refine gc_no (h1 := ?_))))
  refine gc_cond rfl (fun h => ?_) (fun h => ?_)
  · have hk := hk (by omega)
    (repeat (first | refine gst (hk := ?_) | (with_reducible first | (refine gc_drw (h := ?_); intro _) | (refine gc_drw2 (h := ?_); intro _)) | (show GO _ _ _ _ _ (⟨some _, none, _⟩ :: _) _; first | refine go_op (hk := ?_) | (refine go_nw (hk := ?_); intro u; try simp only [llc, lln, lna, lza]) | (refine go_np (hk := ?_); intro id)) | (show GD _ _ _ _ _ _ _ (⟨some _, none, _⟩ :: _) _; first | refine gd_op (hk := ?_) | (refine gd_nw (hk := ?_); intro u; try simp only [llc, lln, lna, lza])) | (show GD2 _ _ _ _ _ _ _ _ _ _ _ _ _ _; first | refine gd2_nil rfl ?_ | refine gd2_op (hk := ?_) | (refine gd2_nw (hk := ?_); intro u; try simp only [llc, lln, lna, lza]) | refine gd2_l (hk := ?_) | refine gd2_lp (hk := ?_) | (refine gd2_newp (hk := ?_); intro id) | refine gd2_st (hk := ?_) | (refine gd2_bsl rfl rfl ?_; intro u; try simp only [llc, lln, lna, lza]) | (refine gd2_a (hk := ?_); intro u; try simp only [llc, lln, lna, lza])) | (show GO _ _ _ _ _ (⟨none, none, _⟩ :: _) _; refine go_st (hk := ?_)) | (show GD _ _ _ _ _ _ _ (⟨none, none, _⟩ :: _) _; refine gd_st (hk := ?_)) | (show GO _ _ _ _ _ (⟨_, some _, _⟩ :: _) _; first | refine go_in (hk := ?_) | refine go_out (hk := ?_) | refine go_void (hk := ?_)) | (show GK _ _ _ _ (blockK _ _ _); refine gk_past rfl ?_) | (show GC _ _ _ _ _ (.cond _ _ _) _; first | refine gc_yes (h1 := ?_) | refine gc_no (h1 := ?_))))
    refine gd_is0 rfl (stp_stK cels_pn (i := i) (a := (nth xs i, nth ys i)) rfl rfl (by exact Sel.auto) (tabS_len _ _).symm (by omega)) ?_
    (repeat (first | refine gst (hk := ?_) | (with_reducible first | (refine gc_drw (h := ?_); intro _) | (refine gc_drw2 (h := ?_); intro _)) | (show GO _ _ _ _ _ (⟨some _, none, _⟩ :: _) _; first | refine go_op (hk := ?_) | (refine go_nw (hk := ?_); intro u; try simp only [llc, lln, lna, lza]) | (refine go_np (hk := ?_); intro id)) | (show GD _ _ _ _ _ _ _ (⟨some _, none, _⟩ :: _) _; first | refine gd_op (hk := ?_) | (refine gd_nw (hk := ?_); intro u; try simp only [llc, lln, lna, lza])) | (show GD2 _ _ _ _ _ _ _ _ _ _ _ _ _ _; first | refine gd2_nil rfl ?_ | refine gd2_op (hk := ?_) | (refine gd2_nw (hk := ?_); intro u; try simp only [llc, lln, lna, lza]) | refine gd2_l (hk := ?_) | refine gd2_lp (hk := ?_) | (refine gd2_newp (hk := ?_); intro id) | refine gd2_st (hk := ?_) | (refine gd2_bsl rfl rfl ?_; intro u; try simp only [llc, lln, lna, lza]) | (refine gd2_a (hk := ?_); intro u; try simp only [llc, lln, lna, lza])) | (show GO _ _ _ _ _ (⟨none, none, _⟩ :: _) _; refine go_st (hk := ?_)) | (show GD _ _ _ _ _ _ _ (⟨none, none, _⟩ :: _) _; refine gd_st (hk := ?_)) | (show GO _ _ _ _ _ (⟨_, some _, _⟩ :: _) _; first | refine go_in (hk := ?_) | refine go_out (hk := ?_) | refine go_void (hk := ?_)) | (show GK _ _ _ _ (blockK _ _ _); refine gk_past rfl ?_) | (show GC _ _ _ _ _ (.cond _ _ _) _; first | refine gc_yes (h1 := ?_) | refine gc_no (h1 := ?_))))
    rw [tabS_set, tabS_congr (g := fun k => if k < i + 1 then (nth xs k, nth ys k) else (0, 0)) (fun k hk => by
      by_cases e : k = i
      · subst e; rw [if_pos rfl, if_pos (by omega)]
      · rw [if_neg e]
        by_cases e2 : k < i
        · rw [if_pos e2, if_pos (by omega)]
        · rw [if_neg e2, if_neg (by omega)])]
    exact gk_next hk
  · have : i = xs.length := by omega
    subst this
    rw [tabS_congr (g := fun k => (nth xs k, nth ys k)) (fun k hk => if_pos hk)]
    (repeat (first | refine gst (hk := ?_) | (with_reducible first | (refine gc_drw (h := ?_); intro _) | (refine gc_drw2 (h := ?_); intro _)) | (show GO _ _ _ _ _ (⟨some _, none, _⟩ :: _) _; first | refine go_op (hk := ?_) | (refine go_nw (hk := ?_); intro u; try simp only [llc, lln, lna, lza]) | (refine go_np (hk := ?_); intro id)) | (show GD _ _ _ _ _ _ _ (⟨some _, none, _⟩ :: _) _; first | refine gd_op (hk := ?_) | (refine gd_nw (hk := ?_); intro u; try simp only [llc, lln, lna, lza])) | (show GD2 _ _ _ _ _ _ _ _ _ _ _ _ _ _; first | refine gd2_nil rfl ?_ | refine gd2_op (hk := ?_) | (refine gd2_nw (hk := ?_); intro u; try simp only [llc, lln, lna, lza]) | refine gd2_l (hk := ?_) | refine gd2_lp (hk := ?_) | (refine gd2_newp (hk := ?_); intro id) | refine gd2_st (hk := ?_) | (refine gd2_bsl rfl rfl ?_; intro u; try simp only [llc, lln, lna, lza]) | (refine gd2_a (hk := ?_); intro u; try simp only [llc, lln, lna, lza])) | (show GO _ _ _ _ _ (⟨none, none, _⟩ :: _) _; refine go_st (hk := ?_)) | (show GD _ _ _ _ _ _ _ (⟨none, none, _⟩ :: _) _; refine gd_st (hk := ?_)) | (show GO _ _ _ _ _ (⟨_, some _, _⟩ :: _) _; first | refine go_in (hk := ?_) | refine go_out (hk := ?_) | refine go_void (hk := ?_)) | (show GK _ _ _ _ (blockK _ _ _); refine gk_past rfl ?_) | (show GC _ _ _ _ _ (.cond _ _ _) _; first | refine gc_yes (h1 := ?_) | refine gc_no (h1 := ?_))))
    exact gk_ret rfl fun H' hH => hH.give .head

theorem implWhole_ok' {H : Heap} {n : Int} : ACalls Try.prog fn_impl_whole [.int .i64 n] H fun r H' => r = frV (n : Rat) ∧ H' = H := by
  refine ACalls.val ?_ rfl
  refine code_impl_whole.go [] trivial (by simp) ?_
  unfold mc_impl_whole
  (repeat (first | refine gst (hk := ?_) | (show GO _ _ _ _ _ (⟨some _, none, _⟩ :: _) _; first | refine go_op (hk := ?_) | (refine go_nw (hk := ?_); intro u; try simp only [llc, lln, lna, lza]) | (refine go_np (hk := ?_); intro id)) | (show GO _ _ _ _ _ (⟨none, none, _⟩ :: _) _; refine go_st (hk := ?_)) | (show GO _ _ _ _ _ (⟨_, some _, _⟩ :: _) _; first | refine go_in (hk := ?_) | refine go_out (hk := ?_) | refine go_void (hk := ?_)) | (show GK _ _ _ _ (blockK _ _ _); refine gk_past rfl ?_) | (show GC _ _ _ _ _ (.cond _ _ _) _; first | refine gc_yes (h1 := ?_) | refine gc_no (h1 := ?_))))
  exact gk_retc rfl (by exact Sel.auto) rfl rfl fun H' hH => ⟨rfl, hH.leE⟩

theorem implMinusA_ok {H : Heap} {p q : Rat} (hf : FitA p q) :
    ACalls Try.prog fn_impl_Frac_minus [frV p, frV q] H fun r H' => r = frV (p - q) ∧ H' = H := by
  have h := mul_le_self (a := q.num) (m := (p.den : Int)) (B := 2000000000000000000) (by have := den_pos p; omega) ⟨hf.2.1.1, hf.2.1.2⟩
  exact implMinus_ok hf (by omega)

noncomputable def dMinusI := fam2 FitA fun p q => frV (p - q)

noncomputable def dSizeI := dSize

theorem dMinusI_ok (H : Heap) : FamOk Try.prog H fn_impl_Frac_minus dMinusI := fam2_ok code_impl_Frac_minus.callable (fun h => implMinusA_ok h) H

theorem dSizeI_ok (H : Heap) : FamOk Try.prog H fn_impl_Frac_size dSizeI := dSize_fam code_impl_Frac_size.callable (fun h => implSize_ok h) H

def dWhole : List AV → Option AV
  | [.int .i64 n] => some (frV (n : Rat))
  | _ => none

theorem dWhole_ok (H : Heap) : FamOk Try.prog H fn_impl_whole dWhole := by
  intro args v hv
  unfold dWhole at hv
  split at hv
  · simp only [Option.some.injEq] at hv; subst hv
    exact ⟨code_impl_whole.callable, implWhole_ok'⟩
  · cases hv

noncomputable def dTimesI : List AV → Option AV
  | [v, .int .i64 n] => match frOf v with
    | some p => by
      classical
      exact if FitM p (n : Rat) then some (frV (p * (n : Rat))) else none
    | none => none
  | _ => none

theorem dTimesI_is {p : Rat} {n : Int} (h : FitM p (n : Rat)) : dTimesI [frV p, .int .i64 n] = some (frV (p * (n : Rat))) := by
  simp only [dTimesI, frOf_frV]
  exact if_pos h

theorem dTimesI_ok (H : Heap) : FamOk Try.prog H fn_impl_Frac_times dTimesI := by
  intro args v hv
  unfold dTimesI at hv
  split at hv
  · split at hv
    · rename_i p h1
      split at hv
      · rename_i hF
        simp only [Option.some.injEq] at hv; subst hv
        rw [frOf_some h1]
        exact ⟨code_impl_Frac_times.callable, implTimes_ok hF⟩
      · cases hv
    · cases hv
  · cases hv

/-- divided by a whole number, as a family -/
def FitO (p : Rat) (n : Int) : Prop := n ≠ 0 ∧ (-4611686018427387904 ≤ p.num ∧ p.num ≤ 4611686018427387904) ∧ -4611686018427387904 ≤ (p.den : Int) * n ∧ (p.den : Int) * n ≤ 4611686018427387904

noncomputable def dOverI : List AV → Option AV
  | [v, .int .i64 n] => match frOf v with
    | some p => by
      classical
      exact if FitO p n then some (frV (p * (((1 : Int) : Rat) / (n : Rat)))) else none
    | none => none
  | _ => none

theorem dOverI_is {p : Rat} {n : Int} (h : FitO p n) : dOverI [frV p, .int .i64 n] = some (frV (p * (((1 : Int) : Rat) / (n : Rat)))) := by
  simp only [dOverI, frOf_frV]
  exact if_pos h

theorem dOverI_ok (H : Heap) : FamOk Try.prog H fn_impl_Frac_over dOverI := by
  intro args v hv
  unfold dOverI at hv
  split at hv
  · split at hv
    · rename_i p h1
      split at hv
      · rename_i hF
        simp only [Option.some.injEq] at hv; subst hv
        rw [frOf_some h1]
        exact ⟨code_impl_Frac_over.callable, implOver_ok hF.1 hF.2.1 hF.2.2⟩
      · cases hv
    · cases hv
  · cases hv

theorem fitO_of {p : Rat} {D A n : Int} (hp : FD p D A) (hn : n ≠ 0) (hn2 : -24 ≤ n ∧ n ≤ 24) (hA : A ≤ 4000000000000000000) (hD : D ≤ 100000000000000000) : FitO p n := by
  obtain ⟨a1, a2, a3⟩ := hp.nd
  have := absmul (k := (p.den : Int)) (l := n) (A := D) (B := 24) (by omega) (by omega) hn2.1 hn2.2
  exact ⟨hn, by omega, by omega⟩
/- lines -/

abbrev lnV (s h : Rat) : AV := .agg [.int .i64 s.num, .int .i64 (s.den : Int), .int .i64 h.num, .int .i64 (h.den : Int)]

theorem LineOk.fitsB {s h : Rat} {D A B : Int} (hl : LineOk s h D A B) {x y : Int} (hx : -24 ≤ x ∧ x ≤ 24) (hy : -24 ≤ y ∧ y ≤ 24) : FitA (y : Rat) (s * (x : Rat)) ∧ FitA ((y : Rat) - s * (x : Rat)) h := by
  obtain ⟨p1, p2⟩ := hl.s.pos
  obtain ⟨p3, p4⟩ := hl.h.pos
  have hd := hl.d
  have ha := hl.a
  have hb := hl.b
  have h1 := ((FD.int hy).lift (m := D) hl.s.pos.1).to (D' := D) (by omega)
  have m2 := mulbd (a := B) (b := D) (A := 10000000000) (B := 1000000) (by omega) (by omega) hb hd
  have m3 := mulbd (a := D) (b := D) (A := 1000000) (B := 1000000) (by omega) (by omega) hd hd
  have m4 := mulbd (a := 24 * D + A * 24) (b := D) (A := 24024000000) (B := 1000000) (by omega) (by omega) (by omega) hd
  exact ⟨fitA_of (FD.int hy) (hl.mid hx) (by omega) (by omega) (by omega), fitA_of (h1.sub (hl.mid hx)) hl.h (by omega) (by omega) (by omega)⟩

theorem lineAbove_ok {H : Heap} {x y : Int} {s h : Rat} {D A B : Int} (hx : -24 ≤ x ∧ x ≤ 24) (hy : -24 ≤ y ∧ y ≤ 24) (hl : LineOk s h D A B) :
    ACalls Try.prog fn_impl_line_above [lnV s h, pnV (x, y)] H fun r H' => r = frV ((y : Rat) - (s * (x : Rat) + h)) ∧ H' = H := by
  refine ACalls.val ?_ rfl
  obtain ⟨f1, _, _⟩ := hl.fits hx hy
  obtain ⟨f2, f3⟩ := hl.fitsB hx hy
  have e : (y : Rat) - s * (x : Rat) - h = (y : Rat) - (s * (x : Rat) + h) := by grind
  refine code_impl_line_above.go [] trivial (by simp) ?_
  unfold mc_impl_line_above
  (repeat (first | refine gst (hk := ?_) | (show GO _ _ _ _ _ (⟨some _, none, _⟩ :: _) _; first | refine go_op (hk := ?_) | (refine go_nw (hk := ?_); intro u; try simp only [llc, lln, lna, lza]) | (refine go_np (hk := ?_); intro id)) | (show GR _ _ _ _ _ _ (⟨some _, none, _⟩ :: _) _; refine gr_op (hk := ?_)) | (show GO _ _ _ _ _ (⟨none, none, _⟩ :: _) _; refine go_st (hk := ?_)) | (show GR _ _ _ _ _ _ (⟨none, none, _⟩ :: _) _; refine gr_st (hk := ?_)) | (show GO _ _ _ _ _ (⟨_, some _, _⟩ :: _) _; first | refine go_in (hk := ?_) | refine go_out (hk := ?_) | refine go_void (hk := ?_)) | (show GK _ _ _ _ (blockK _ _ _); refine gk_past rfl ?_) | (show GC _ _ _ _ _ (.cond _ _ _) _; first | refine gc_yes (h1 := ?_) | refine gc_no (h1 := ?_))))
  refine gc_drc (fun _ => qtTab [(fn_impl_whole, dWhole), (fn_impl_Frac_times, dTimesI), (fn_impl_Frac_minus, dMinusI)]) (fun H _ => qtTab_cons (dWhole_ok H) (qtTab_cons (dTimesI_ok H) (qtTab_cons (dMinusI_ok H) qtTab_nil))) (fun H0 => ?_)
  (repeat (first | refine gst (hk := ?_) | (show GO _ _ _ _ _ (⟨some _, none, _⟩ :: _) _; first | refine go_op (hk := ?_) | (refine go_nw (hk := ?_); intro u; try simp only [llc, lln, lna, lza]) | (refine go_np (hk := ?_); intro id)) | (show GR _ _ _ _ _ _ (⟨some _, none, _⟩ :: _) _; refine gr_op (hk := ?_)) | (show GO _ _ _ _ _ (⟨none, none, _⟩ :: _) _; refine go_st (hk := ?_)) | (show GR _ _ _ _ _ _ (⟨none, none, _⟩ :: _) _; refine gr_st (hk := ?_)) | (show GO _ _ _ _ _ (⟨_, some _, _⟩ :: _) _; first | refine go_in (hk := ?_) | refine go_out (hk := ?_) | refine go_void (hk := ?_)) | (show GK _ _ _ _ (blockK _ _ _); refine gk_past rfl ?_) | (show GC _ _ _ _ _ (.cond _ _ _) _; first | refine gc_yes (h1 := ?_) | refine gc_no (h1 := ?_))))
  refine gr_call (v := frV (y : Rat)) rfl rfl ?_
  (repeat (first | refine gst (hk := ?_) | (show GO _ _ _ _ _ (⟨some _, none, _⟩ :: _) _; first | refine go_op (hk := ?_) | (refine go_nw (hk := ?_); intro u; try simp only [llc, lln, lna, lza]) | (refine go_np (hk := ?_); intro id)) | (show GR _ _ _ _ _ _ (⟨some _, none, _⟩ :: _) _; refine gr_op (hk := ?_)) | (show GO _ _ _ _ _ (⟨none, none, _⟩ :: _) _; refine go_st (hk := ?_)) | (show GR _ _ _ _ _ _ (⟨none, none, _⟩ :: _) _; refine gr_st (hk := ?_)) | (show GO _ _ _ _ _ (⟨_, some _, _⟩ :: _) _; first | refine go_in (hk := ?_) | refine go_out (hk := ?_) | refine go_void (hk := ?_)) | (show GK _ _ _ _ (blockK _ _ _); refine gk_past rfl ?_) | (show GC _ _ _ _ _ (.cond _ _ _) _; first | refine gc_yes (h1 := ?_) | refine gc_no (h1 := ?_))))
  refine gr_call rfl (dTimesI_is (p := s) f1) ?_
  refine gr_call rfl (fam2_is (F := FitA) (p := (y : Rat)) (q := s * (x : Rat)) f2) ?_
  (repeat (first | refine gst (hk := ?_) | (show GO _ _ _ _ _ (⟨some _, none, _⟩ :: _) _; first | refine go_op (hk := ?_) | (refine go_nw (hk := ?_); intro u; try simp only [llc, lln, lna, lza]) | (refine go_np (hk := ?_); intro id)) | (show GR _ _ _ _ _ _ (⟨some _, none, _⟩ :: _) _; refine gr_op (hk := ?_)) | (show GO _ _ _ _ _ (⟨none, none, _⟩ :: _) _; refine go_st (hk := ?_)) | (show GR _ _ _ _ _ _ (⟨none, none, _⟩ :: _) _; refine gr_st (hk := ?_)) | (show GO _ _ _ _ _ (⟨_, some _, _⟩ :: _) _; first | refine go_in (hk := ?_) | refine go_out (hk := ?_) | refine go_void (hk := ?_)) | (show GK _ _ _ _ (blockK _ _ _); refine gk_past rfl ?_) | (show GC _ _ _ _ _ (.cond _ _ _) _; first | refine gc_yes (h1 := ?_) | refine gc_no (h1 := ?_))))
  refine gr_call rfl (fam2_is (F := FitA) (p := (y : Rat) - s * (x : Rat)) (q := h) f3) ?_
  rw [e]
  (repeat (first | refine gst (hk := ?_) | (show GO _ _ _ _ _ (⟨some _, none, _⟩ :: _) _; first | refine go_op (hk := ?_) | (refine go_nw (hk := ?_); intro u; try simp only [llc, lln, lna, lza]) | (refine go_np (hk := ?_); intro id)) | (show GR _ _ _ _ _ _ (⟨some _, none, _⟩ :: _) _; refine gr_op (hk := ?_)) | (show GO _ _ _ _ _ (⟨none, none, _⟩ :: _) _; refine go_st (hk := ?_)) | (show GR _ _ _ _ _ _ (⟨none, none, _⟩ :: _) _; refine gr_st (hk := ?_)) | (show GO _ _ _ _ _ (⟨_, some _, _⟩ :: _) _; first | refine go_in (hk := ?_) | refine go_out (hk := ?_) | refine go_void (hk := ?_)) | (show GK _ _ _ _ (blockK _ _ _); refine gk_past rfl ?_) | (show GC _ _ _ _ _ (.cond _ _ _) _; first | refine gc_yes (h1 := ?_) | refine gc_no (h1 := ?_))))
  exact gk_retc rfl (by exact Sel.auto) rfl rfl fun H' hH => ⟨rfl, hH.leE⟩
/- lines through two points -/

def P12 (p : Int × Int) : Prop := (-12 ≤ p.1 ∧ p.1 ≤ 12) ∧ (-12 ≤ p.2 ∧ p.2 ≤ 12)

def thS (p q : Int × Int) : Rat := ((q.2 - p.2 : Int) : Rat) / ((q.1 - p.1 : Int) : Rat)

def thH (p q : Int × Int) : Rat := ((p.2 : Int) : Rat) - (thS p q * ((p.1 : Int) : Rat) + ((0 : Int) : Rat))

theorem th_fd {p q : Int × Int} (hp : P12 p) (hq : P12 q) (h : p.1 ≠ q.1) : ∃ D, D ≤ 24 ∧ FD (thS p q) D 24 ∧ LineOk (thS p q) (thH p q) D 24 1152 := by
  obtain ⟨a1, a2⟩ := hp
  obtain ⟨b1, b2⟩ := hq
  have f : FD (thS p q) (max (q.1 - p.1) (-(q.1 - p.1))) 24 := FD.divn (by omega) (by omega)
  have d : max (q.1 - p.1) (-(q.1 - p.1)) ≤ 24 := by omega
  refine ⟨_, d, f, f, ?_, by omega, by omega, by omega⟩
  exact ((LineOk.flat f d).over (x := p.1) (y := p.2) (by omega) (by omega)).mono (by omega)

theorem through_ok {H : Heap} {p q : Int × Int} (hp : P12 p) (hq : P12 q) (h : p.1 ≠ q.1) :
    ACalls Try.prog fn_impl_through [pnV p, pnV q] H fun r H' => r = lnV (thS p q) (thH p q) ∧ H' = H := by
  refine ACalls.val ?_ rfl
  obtain ⟨D, d, f, _⟩ := th_fd hp hq h
  obtain ⟨a1, a2⟩ := hp
  obtain ⟨b1, b2⟩ := hq
  have fl := LineOk.flat f d
  obtain ⟨f1, _, _⟩ := fl.fits (x := p.1) (y := p.2) (by omega) (by omega)
  obtain ⟨f2, _⟩ := fl.fitsB (x := p.1) (y := p.2) (by omega) (by omega)
  have e : ((p.2 : Int) : Rat) - thS p q * ((p.1 : Int) : Rat) = thH p q := by
    unfold thH
    rw [show ((0 : Int) : Rat) = 0 from rfl]; grind
  refine code_impl_through.go [] trivial (by simp) ?_
  unfold mc_impl_through
  (repeat (first | refine gst (hk := ?_) | (show GO _ _ _ _ _ (⟨some _, none, _⟩ :: _) _; first | refine go_op (hk := ?_) | (refine go_nw (hk := ?_); intro u; try simp only [llc, lln, lna, lza]) | (refine go_np (hk := ?_); intro id)) | (show GR _ _ _ _ _ _ (⟨some _, none, _⟩ :: _) _; refine gr_op (hk := ?_)) | (show GO _ _ _ _ _ (⟨none, none, _⟩ :: _) _; refine go_st (hk := ?_)) | (show GR _ _ _ _ _ _ (⟨none, none, _⟩ :: _) _; refine gr_st (hk := ?_)) | (show GO _ _ _ _ _ (⟨_, some _, _⟩ :: _) _; first | refine go_in (hk := ?_) | refine go_out (hk := ?_) | refine go_void (hk := ?_)) | (show GK _ _ _ _ (blockK _ _ _); refine gk_past rfl ?_) | (show GC _ _ _ _ _ (.cond _ _ _) _; first | refine gc_yes (h1 := ?_) | refine gc_no (h1 := ?_))))
  refine go_callp rfl code_impl_lowest.callable (fun H hH => lowest_ok (a := q.2 - p.2) (b := q.1 - p.1) (by omega) (by omega) (by omega)) ?_
  rw [show ((q.2 - p.2 : Int) : Rat) / ((q.1 - p.1 : Int) : Rat) = thS p q from rfl]
  (repeat (first | refine gst (hk := ?_) | (show GO _ _ _ _ _ (⟨some _, none, _⟩ :: _) _; first | refine go_op (hk := ?_) | (refine go_nw (hk := ?_); intro u; try simp only [llc, lln, lna, lza]) | (refine go_np (hk := ?_); intro id)) | (show GR _ _ _ _ _ _ (⟨some _, none, _⟩ :: _) _; refine gr_op (hk := ?_)) | (show GO _ _ _ _ _ (⟨none, none, _⟩ :: _) _; refine go_st (hk := ?_)) | (show GR _ _ _ _ _ _ (⟨none, none, _⟩ :: _) _; refine gr_st (hk := ?_)) | (show GO _ _ _ _ _ (⟨_, some _, _⟩ :: _) _; first | refine go_in (hk := ?_) | refine go_out (hk := ?_) | refine go_void (hk := ?_)) | (show GK _ _ _ _ (blockK _ _ _); refine gk_past rfl ?_) | (show GC _ _ _ _ _ (.cond _ _ _) _; first | refine gc_yes (h1 := ?_) | refine gc_no (h1 := ?_))))
  refine gc_drc (fun _ => qtTab [(fn_impl_whole, dWhole), (fn_impl_Frac_times, dTimesI), (fn_impl_Frac_minus, dMinusI)]) (fun H _ => qtTab_cons (dWhole_ok H) (qtTab_cons (dTimesI_ok H) (qtTab_cons (dMinusI_ok H) qtTab_nil))) (fun H0 => ?_)
  (repeat (first | refine gst (hk := ?_) | (show GO _ _ _ _ _ (⟨some _, none, _⟩ :: _) _; first | refine go_op (hk := ?_) | (refine go_nw (hk := ?_); intro u; try simp only [llc, lln, lna, lza]) | (refine go_np (hk := ?_); intro id)) | (show GR _ _ _ _ _ _ (⟨some _, none, _⟩ :: _) _; refine gr_op (hk := ?_)) | (show GO _ _ _ _ _ (⟨none, none, _⟩ :: _) _; refine go_st (hk := ?_)) | (show GR _ _ _ _ _ _ (⟨none, none, _⟩ :: _) _; refine gr_st (hk := ?_)) | (show GO _ _ _ _ _ (⟨_, some _, _⟩ :: _) _; first | refine go_in (hk := ?_) | refine go_out (hk := ?_) | refine go_void (hk := ?_)) | (show GK _ _ _ _ (blockK _ _ _); refine gk_past rfl ?_) | (show GC _ _ _ _ _ (.cond _ _ _) _; first | refine gc_yes (h1 := ?_) | refine gc_no (h1 := ?_))))
  refine gr_call (v := frV ((p.2 : Int) : Rat)) rfl rfl ?_
  (repeat (first | refine gst (hk := ?_) | (show GO _ _ _ _ _ (⟨some _, none, _⟩ :: _) _; first | refine go_op (hk := ?_) | (refine go_nw (hk := ?_); intro u; try simp only [llc, lln, lna, lza]) | (refine go_np (hk := ?_); intro id)) | (show GR _ _ _ _ _ _ (⟨some _, none, _⟩ :: _) _; refine gr_op (hk := ?_)) | (show GO _ _ _ _ _ (⟨none, none, _⟩ :: _) _; refine go_st (hk := ?_)) | (show GR _ _ _ _ _ _ (⟨none, none, _⟩ :: _) _; refine gr_st (hk := ?_)) | (show GO _ _ _ _ _ (⟨_, some _, _⟩ :: _) _; first | refine go_in (hk := ?_) | refine go_out (hk := ?_) | refine go_void (hk := ?_)) | (show GK _ _ _ _ (blockK _ _ _); refine gk_past rfl ?_) | (show GC _ _ _ _ _ (.cond _ _ _) _; first | refine gc_yes (h1 := ?_) | refine gc_no (h1 := ?_))))
  refine gr_call rfl (dTimesI_is (p := thS p q) f1) ?_
  refine gr_call rfl (fam2_is (F := FitA) (p := ((p.2 : Int) : Rat)) (q := thS p q * ((p.1 : Int) : Rat)) f2) ?_
  rw [e]
  (repeat (first | refine gst (hk := ?_) | (show GO _ _ _ _ _ (⟨some _, none, _⟩ :: _) _; first | refine go_op (hk := ?_) | (refine go_nw (hk := ?_); intro u; try simp only [llc, lln, lna, lza]) | (refine go_np (hk := ?_); intro id)) | (show GR _ _ _ _ _ _ (⟨some _, none, _⟩ :: _) _; refine gr_op (hk := ?_)) | (show GO _ _ _ _ _ (⟨none, none, _⟩ :: _) _; refine go_st (hk := ?_)) | (show GR _ _ _ _ _ _ (⟨none, none, _⟩ :: _) _; refine gr_st (hk := ?_)) | (show GO _ _ _ _ _ (⟨_, some _, _⟩ :: _) _; first | refine go_in (hk := ?_) | refine go_out (hk := ?_) | refine go_void (hk := ?_)) | (show GK _ _ _ _ (blockK _ _ _); refine gk_past rfl ?_) | (show GC _ _ _ _ _ (.cond _ _ _) _; first | refine gc_yes (h1 := ?_) | refine gc_no (h1 := ?_))))
  exact gk_retc rfl (by exact Sel.auto) rfl rfl fun H' hH => ⟨rfl, hH.leE⟩

theorem leastF_ok {H : Heap} {w : AV} {f : Nat → Rat} {L : List Rat} (hw : Vals H w 2 L.length (frs L)) (hL : ∀ i, i < L.length → nthR L i = f (i + 1)) (hl : L.length ≤ 1000000) (hf : ∀ i j, i ≤ L.length → j ≤ L.length → FitA (f i) (f j)) :
    ACalls Try.prog fn_impl_least_impl_Frac [frV (f 0), w] H fun r H' => r = frV (loR f L.length) ∧ H' = H := by
  refine ACalls.val ?_ rfl
  refine code_impl_least_impl_Frac.go [roF w L.length L] ⟨⟨rfl, hw⟩, trivial⟩ (by simp) ?_
  unfold mc_impl_least_impl_Frac
  (repeat (first | refine gst (hk := ?_) | (show GO _ _ _ _ _ (⟨some _, none, .inv _ _ _⟩ :: _) _; refine go_inv rfl rfl ?_) | (show GQ _ _ _ _ _ _ _ (⟨some _, none, .inv _ _ _⟩ :: _) _; refine gq_inv rfl rfl ?_) | (show GR _ _ _ _ _ _ (⟨some _, none, .inv _ _ _⟩ :: _) _; refine gr_inv rfl rfl ?_) | (show GO _ _ _ _ _ (⟨some _, none, _⟩ :: _) _; first | refine go_op (hk := ?_) | (refine go_nw (hk := ?_); intro u; try simp only [llc, lln, lna, lza]) | (refine go_np (hk := ?_); intro id)) | (show GO _ _ _ _ _ (⟨none, none, _⟩ :: _) _; refine go_st (hk := ?_)) | (show GO _ _ _ _ _ (⟨_, some _, _⟩ :: _) _; first | refine go_in (hk := ?_) | refine go_out (hk := ?_) | refine go_void (hk := ?_)) | (show GK _ _ _ _ (blockK _ _ _); refine gk_past rfl ?_) | (show GC _ _ _ _ _ (.cond _ _ _) _; first | refine gc_yes (h1 := ?_) | refine gc_no (h1 := ?_))))
  rename_i i2
  revert id; intro i4
  refine gc_up L.length (fun i => [(2, .ptr i2 0), (4, .ptr i4 0), (7, w), (8, .int .i64 (L.length : Int)), (9, .int .i64 (i : Int))]) (fun i => [celF i2 (loR f i), cel0 i4, roF w L.length L]) (hb := ?_)
  intro i hi I ν m hk
  (repeat (first | refine gst (hk := ?_) | (show GO _ _ _ _ _ (⟨some _, none, .inv _ _ _⟩ :: _) _; refine go_inv rfl rfl ?_) | (show GQ _ _ _ _ _ _ _ (⟨some _, none, .inv _ _ _⟩ :: _) _; refine gq_inv rfl rfl ?_) | (show GR _ _ _ _ _ _ (⟨some _, none, .inv _ _ _⟩ :: _) _; refine gr_inv rfl rfl ?_) | (show GO _ _ _ _ _ (⟨some _, none, _⟩ :: _) _; first | refine go_op (hk := ?_) | (refine go_nw (hk := ?_); intro u; try simp only [llc, lln, lna, lza]) | (refine go_np (hk := ?_); intro id)) | (show GO _ _ _ _ _ (⟨none, none, _⟩ :: _) _; refine go_st (hk := ?_)) | (show GO _ _ _ _ _ (⟨_, some _, _⟩ :: _) _; first | refine go_in (hk := ?_) | refine go_out (hk := ?_) | refine go_void (hk := ?_)) | (show GK _ _ _ _ (blockK _ _ _); refine gk_past rfl ?_) | (show GC _ _ _ _ _ (.cond _ _ _) _; first | refine gc_yes (h1 := ?_) | refine gc_no (h1 := ?_))))
  refine gc_cond rfl (fun h => ?_) (fun h => ?_)
  · have hk := hk (by omega)
    rw [loR] at hk
    have hfit : FitA (f (i + 1)) (loR f i) := by
      obtain ⟨_, j, hj, e⟩ := loR_is f i
      rw [e]; exact hf _ _ (by omega) (by omega)
    (repeat (first | refine gst (hk := ?_) | (show GO _ _ _ _ _ (⟨some _, none, .inv _ _ _⟩ :: _) _; refine go_inv rfl rfl ?_) | (show GQ _ _ _ _ _ _ _ (⟨some _, none, .inv _ _ _⟩ :: _) _; refine gq_inv rfl rfl ?_) | (show GR _ _ _ _ _ _ (⟨some _, none, .inv _ _ _⟩ :: _) _; refine gr_inv rfl rfl ?_) | (show GO _ _ _ _ _ (⟨some _, none, _⟩ :: _) _; first | refine go_op (hk := ?_) | (refine go_nw (hk := ?_); intro u; try simp only [llc, lln, lna, lza]) | (refine go_np (hk := ?_); intro id)) | (show GO _ _ _ _ _ (⟨none, none, _⟩ :: _) _; refine go_st (hk := ?_)) | (show GO _ _ _ _ _ (⟨_, some _, _⟩ :: _) _; first | refine go_in (hk := ?_) | refine go_out (hk := ?_) | refine go_void (hk := ?_)) | (show GK _ _ _ _ (blockK _ _ _); refine gk_past rfl ?_) | (show GC _ _ _ _ _ (.cond _ _ _) _; first | refine gc_yes (h1 := ?_) | refine gc_no (h1 := ?_))))
    refine go_is rfl (stp_ldF (i := i) rfl (by exact Has.auto) rfl (by omega)) ?_
    rw [hL i (by omega)]
    (repeat (first | refine gst (hk := ?_) | (show GO _ _ _ _ _ (⟨some _, none, .inv _ _ _⟩ :: _) _; refine go_inv rfl rfl ?_) | (show GQ _ _ _ _ _ _ _ (⟨some _, none, .inv _ _ _⟩ :: _) _; refine gq_inv rfl rfl ?_) | (show GR _ _ _ _ _ _ (⟨some _, none, .inv _ _ _⟩ :: _) _; refine gr_inv rfl rfl ?_) | (show GO _ _ _ _ _ (⟨some _, none, _⟩ :: _) _; first | refine go_op (hk := ?_) | (refine go_nw (hk := ?_); intro u; try simp only [llc, lln, lna, lza]) | (refine go_np (hk := ?_); intro id)) | (show GO _ _ _ _ _ (⟨none, none, _⟩ :: _) _; refine go_st (hk := ?_)) | (show GO _ _ _ _ _ (⟨_, some _, _⟩ :: _) _; first | refine go_in (hk := ?_) | refine go_out (hk := ?_) | refine go_void (hk := ?_)) | (show GK _ _ _ _ (blockK _ _ _); refine gk_past rfl ?_) | (show GC _ _ _ _ _ (.cond _ _ _) _; first | refine gc_yes (h1 := ?_) | refine gc_no (h1 := ?_))))
    refine go_callp rfl code_impl_Frac_compare.callable (fun H hH => implCompare_ok (p := f (i + 1)) (q := loR f i) hfit) ?_
    (repeat (first | refine gst (hk := ?_) | (show GO _ _ _ _ _ (⟨some _, none, .inv _ _ _⟩ :: _) _; refine go_inv rfl rfl ?_) | (show GQ _ _ _ _ _ _ _ (⟨some _, none, .inv _ _ _⟩ :: _) _; refine gq_inv rfl rfl ?_) | (show GR _ _ _ _ _ _ (⟨some _, none, .inv _ _ _⟩ :: _) _; refine gr_inv rfl rfl ?_) | (show GO _ _ _ _ _ (⟨some _, none, _⟩ :: _) _; first | refine go_op (hk := ?_) | (refine go_nw (hk := ?_); intro u; try simp only [llc, lln, lna, lza]) | (refine go_np (hk := ?_); intro id)) | (show GO _ _ _ _ _ (⟨none, none, _⟩ :: _) _; refine go_st (hk := ?_)) | (show GO _ _ _ _ _ (⟨_, some _, _⟩ :: _) _; first | refine go_in (hk := ?_) | refine go_out (hk := ?_) | refine go_void (hk := ?_)) | (show GK _ _ _ _ (blockK _ _ _); refine gk_past rfl ?_) | (show GC _ _ _ _ _ (.cond _ _ _) _; first | refine gc_yes (h1 := ?_) | refine gc_no (h1 := ?_))))
    refine gc_cond rfl (fun h1 => ?_) (fun h1 => ?_)
    · rw [if_pos (cmR_neg.1 h1)] at hk
      (repeat (first | refine gst (hk := ?_) | (show GO _ _ _ _ _ (⟨some _, none, .inv _ _ _⟩ :: _) _; refine go_inv rfl rfl ?_) | (show GQ _ _ _ _ _ _ _ (⟨some _, none, .inv _ _ _⟩ :: _) _; refine gq_inv rfl rfl ?_) | (show GR _ _ _ _ _ _ (⟨some _, none, .inv _ _ _⟩ :: _) _; refine gr_inv rfl rfl ?_) | (show GO _ _ _ _ _ (⟨some _, none, _⟩ :: _) _; first | refine go_op (hk := ?_) | (refine go_nw (hk := ?_); intro u; try simp only [llc, lln, lna, lza]) | (refine go_np (hk := ?_); intro id)) | (show GO _ _ _ _ _ (⟨none, none, _⟩ :: _) _; refine go_st (hk := ?_)) | (show GO _ _ _ _ _ (⟨_, some _, _⟩ :: _) _; first | refine go_in (hk := ?_) | refine go_out (hk := ?_) | refine go_void (hk := ?_)) | (show GK _ _ _ _ (blockK _ _ _); refine gk_past rfl ?_) | (show GC _ _ _ _ _ (.cond _ _ _) _; first | refine gc_yes (h1 := ?_) | refine gc_no (h1 := ?_))))
      exact gk_next hk
    · rw [if_neg (fun h2 => h1 (cmR_neg.2 h2))] at hk
      (repeat (first | refine gst (hk := ?_) | (show GO _ _ _ _ _ (⟨some _, none, .inv _ _ _⟩ :: _) _; refine go_inv rfl rfl ?_) | (show GQ _ _ _ _ _ _ _ (⟨some _, none, .inv _ _ _⟩ :: _) _; refine gq_inv rfl rfl ?_) | (show GR _ _ _ _ _ _ (⟨some _, none, .inv _ _ _⟩ :: _) _; refine gr_inv rfl rfl ?_) | (show GO _ _ _ _ _ (⟨some _, none, _⟩ :: _) _; first | refine go_op (hk := ?_) | (refine go_nw (hk := ?_); intro u; try simp only [llc, lln, lna, lza]) | (refine go_np (hk := ?_); intro id)) | (show GO _ _ _ _ _ (⟨none, none, _⟩ :: _) _; refine go_st (hk := ?_)) | (show GO _ _ _ _ _ (⟨_, some _, _⟩ :: _) _; first | refine go_in (hk := ?_) | refine go_out (hk := ?_) | refine go_void (hk := ?_)) | (show GK _ _ _ _ (blockK _ _ _); refine gk_past rfl ?_) | (show GC _ _ _ _ _ (.cond _ _ _) _; first | refine gc_yes (h1 := ?_) | refine gc_no (h1 := ?_))))
      exact gk_next hk
  · have : i = L.length := by omega
    subst this
    (repeat (first | refine gst (hk := ?_) | (show GO _ _ _ _ _ (⟨some _, none, .inv _ _ _⟩ :: _) _; refine go_inv rfl rfl ?_) | (show GQ _ _ _ _ _ _ _ (⟨some _, none, .inv _ _ _⟩ :: _) _; refine gq_inv rfl rfl ?_) | (show GR _ _ _ _ _ _ (⟨some _, none, .inv _ _ _⟩ :: _) _; refine gr_inv rfl rfl ?_) | (show GO _ _ _ _ _ (⟨some _, none, _⟩ :: _) _; first | refine go_op (hk := ?_) | (refine go_nw (hk := ?_); intro u; try simp only [llc, lln, lna, lza]) | (refine go_np (hk := ?_); intro id)) | (show GO _ _ _ _ _ (⟨none, none, _⟩ :: _) _; refine go_st (hk := ?_)) | (show GO _ _ _ _ _ (⟨_, some _, _⟩ :: _) _; first | refine go_in (hk := ?_) | refine go_out (hk := ?_) | refine go_void (hk := ?_)) | (show GK _ _ _ _ (blockK _ _ _); refine gk_past rfl ?_) | (show GC _ _ _ _ _ (.cond _ _ _) _; first | refine gc_yes (h1 := ?_) | refine gc_no (h1 := ?_))))
    exact gk_retc rfl (by exact Sel.auto) rfl rfl fun H' hH => ⟨rfl, hH.leE⟩

theorem greatestF_ok {H : Heap} {w : AV} {f : Nat → Rat} {L : List Rat} (hw : Vals H w 2 L.length (frs L)) (hL : ∀ i, i < L.length → nthR L i = f (i + 1)) (hl : L.length ≤ 1000000) (hf : ∀ i j, i ≤ L.length → j ≤ L.length → FitA (f i) (f j)) :
    ACalls Try.prog fn_impl_greatest_impl_Frac [frV (f 0), w] H fun r H' => r = frV (hiR f L.length) ∧ H' = H := by
  refine ACalls.val ?_ rfl
  refine code_impl_greatest_impl_Frac.go [roF w L.length L] ⟨⟨rfl, hw⟩, trivial⟩ (by simp) ?_
  unfold mc_impl_greatest_impl_Frac
  (repeat (first | refine gst (hk := ?_) | (show GO _ _ _ _ _ (⟨some _, none, .inv _ _ _⟩ :: _) _; refine go_inv rfl rfl ?_) | (show GQ _ _ _ _ _ _ _ (⟨some _, none, .inv _ _ _⟩ :: _) _; refine gq_inv rfl rfl ?_) | (show GR _ _ _ _ _ _ (⟨some _, none, .inv _ _ _⟩ :: _) _; refine gr_inv rfl rfl ?_) | (show GO _ _ _ _ _ (⟨some _, none, _⟩ :: _) _; first | refine go_op (hk := ?_) | (refine go_nw (hk := ?_); intro u; try simp only [llc, lln, lna, lza]) | (refine go_np (hk := ?_); intro id)) | (show GO _ _ _ _ _ (⟨none, none, _⟩ :: _) _; refine go_st (hk := ?_)) | (show GO _ _ _ _ _ (⟨_, some _, _⟩ :: _) _; first | refine go_in (hk := ?_) | refine go_out (hk := ?_) | refine go_void (hk := ?_)) | (show GK _ _ _ _ (blockK _ _ _); refine gk_past rfl ?_) | (show GC _ _ _ _ _ (.cond _ _ _) _; first | refine gc_yes (h1 := ?_) | refine gc_no (h1 := ?_))))
  rename_i i2
  revert id; intro i4
  refine gc_up L.length (fun i => [(2, .ptr i2 0), (4, .ptr i4 0), (7, w), (8, .int .i64 (L.length : Int)), (9, .int .i64 (i : Int))]) (fun i => [celF i2 (hiR f i), cel0 i4, roF w L.length L]) (hb := ?_)
  intro i hi I ν m hk
  (repeat (first | refine gst (hk := ?_) | (show GO _ _ _ _ _ (⟨some _, none, .inv _ _ _⟩ :: _) _; refine go_inv rfl rfl ?_) | (show GQ _ _ _ _ _ _ _ (⟨some _, none, .inv _ _ _⟩ :: _) _; refine gq_inv rfl rfl ?_) | (show GR _ _ _ _ _ _ (⟨some _, none, .inv _ _ _⟩ :: _) _; refine gr_inv rfl rfl ?_) | (show GO _ _ _ _ _ (⟨some _, none, _⟩ :: _) _; first | refine go_op (hk := ?_) | (refine go_nw (hk := ?_); intro u; try simp only [llc, lln, lna, lza]) | (refine go_np (hk := ?_); intro id)) | (show GO _ _ _ _ _ (⟨none, none, _⟩ :: _) _; refine go_st (hk := ?_)) | (show GO _ _ _ _ _ (⟨_, some _, _⟩ :: _) _; first | refine go_in (hk := ?_) | refine go_out (hk := ?_) | refine go_void (hk := ?_)) | (show GK _ _ _ _ (blockK _ _ _); refine gk_past rfl ?_) | (show GC _ _ _ _ _ (.cond _ _ _) _; first | refine gc_yes (h1 := ?_) | refine gc_no (h1 := ?_))))
  refine gc_cond rfl (fun h => ?_) (fun h => ?_)
  · have hk := hk (by omega)
    rw [hiR] at hk
    have hfit : FitA (f (i + 1)) (hiR f i) := by
      obtain ⟨_, j, hj, e⟩ := hiR_is f i
      rw [e]; exact hf _ _ (by omega) (by omega)
    (repeat (first | refine gst (hk := ?_) | (show GO _ _ _ _ _ (⟨some _, none, .inv _ _ _⟩ :: _) _; refine go_inv rfl rfl ?_) | (show GQ _ _ _ _ _ _ _ (⟨some _, none, .inv _ _ _⟩ :: _) _; refine gq_inv rfl rfl ?_) | (show GR _ _ _ _ _ _ (⟨some _, none, .inv _ _ _⟩ :: _) _; refine gr_inv rfl rfl ?_) | (show GO _ _ _ _ _ (⟨some _, none, _⟩ :: _) _; first | refine go_op (hk := ?_) | (refine go_nw (hk := ?_); intro u; try simp only [llc, lln, lna, lza]) | (refine go_np (hk := ?_); intro id)) | (show GO _ _ _ _ _ (⟨none, none, _⟩ :: _) _; refine go_st (hk := ?_)) | (show GO _ _ _ _ _ (⟨_, some _, _⟩ :: _) _; first | refine go_in (hk := ?_) | refine go_out (hk := ?_) | refine go_void (hk := ?_)) | (show GK _ _ _ _ (blockK _ _ _); refine gk_past rfl ?_) | (show GC _ _ _ _ _ (.cond _ _ _) _; first | refine gc_yes (h1 := ?_) | refine gc_no (h1 := ?_))))
    refine go_is rfl (stp_ldF (i := i) rfl (by exact Has.auto) rfl (by omega)) ?_
    rw [hL i (by omega)]
    (repeat (first | refine gst (hk := ?_) | (show GO _ _ _ _ _ (⟨some _, none, .inv _ _ _⟩ :: _) _; refine go_inv rfl rfl ?_) | (show GQ _ _ _ _ _ _ _ (⟨some _, none, .inv _ _ _⟩ :: _) _; refine gq_inv rfl rfl ?_) | (show GR _ _ _ _ _ _ (⟨some _, none, .inv _ _ _⟩ :: _) _; refine gr_inv rfl rfl ?_) | (show GO _ _ _ _ _ (⟨some _, none, _⟩ :: _) _; first | refine go_op (hk := ?_) | (refine go_nw (hk := ?_); intro u; try simp only [llc, lln, lna, lza]) | (refine go_np (hk := ?_); intro id)) | (show GO _ _ _ _ _ (⟨none, none, _⟩ :: _) _; refine go_st (hk := ?_)) | (show GO _ _ _ _ _ (⟨_, some _, _⟩ :: _) _; first | refine go_in (hk := ?_) | refine go_out (hk := ?_) | refine go_void (hk := ?_)) | (show GK _ _ _ _ (blockK _ _ _); refine gk_past rfl ?_) | (show GC _ _ _ _ _ (.cond _ _ _) _; first | refine gc_yes (h1 := ?_) | refine gc_no (h1 := ?_))))
    refine go_callp rfl code_impl_Frac_compare.callable (fun H hH => implCompare_ok (p := f (i + 1)) (q := hiR f i) hfit) ?_
    (repeat (first | refine gst (hk := ?_) | (show GO _ _ _ _ _ (⟨some _, none, .inv _ _ _⟩ :: _) _; refine go_inv rfl rfl ?_) | (show GQ _ _ _ _ _ _ _ (⟨some _, none, .inv _ _ _⟩ :: _) _; refine gq_inv rfl rfl ?_) | (show GR _ _ _ _ _ _ (⟨some _, none, .inv _ _ _⟩ :: _) _; refine gr_inv rfl rfl ?_) | (show GO _ _ _ _ _ (⟨some _, none, _⟩ :: _) _; first | refine go_op (hk := ?_) | (refine go_nw (hk := ?_); intro u; try simp only [llc, lln, lna, lza]) | (refine go_np (hk := ?_); intro id)) | (show GO _ _ _ _ _ (⟨none, none, _⟩ :: _) _; refine go_st (hk := ?_)) | (show GO _ _ _ _ _ (⟨_, some _, _⟩ :: _) _; first | refine go_in (hk := ?_) | refine go_out (hk := ?_) | refine go_void (hk := ?_)) | (show GK _ _ _ _ (blockK _ _ _); refine gk_past rfl ?_) | (show GC _ _ _ _ _ (.cond _ _ _) _; first | refine gc_yes (h1 := ?_) | refine gc_no (h1 := ?_))))
    refine gc_cond rfl (fun h1 => ?_) (fun h1 => ?_)
    · rw [if_pos (cmR_pos.1 h1)] at hk
      (repeat (first | refine gst (hk := ?_) | (show GO _ _ _ _ _ (⟨some _, none, .inv _ _ _⟩ :: _) _; refine go_inv rfl rfl ?_) | (show GQ _ _ _ _ _ _ _ (⟨some _, none, .inv _ _ _⟩ :: _) _; refine gq_inv rfl rfl ?_) | (show GR _ _ _ _ _ _ (⟨some _, none, .inv _ _ _⟩ :: _) _; refine gr_inv rfl rfl ?_) | (show GO _ _ _ _ _ (⟨some _, none, _⟩ :: _) _; first | refine go_op (hk := ?_) | (refine go_nw (hk := ?_); intro u; try simp only [llc, lln, lna, lza]) | (refine go_np (hk := ?_); intro id)) | (show GO _ _ _ _ _ (⟨none, none, _⟩ :: _) _; refine go_st (hk := ?_)) | (show GO _ _ _ _ _ (⟨_, some _, _⟩ :: _) _; first | refine go_in (hk := ?_) | refine go_out (hk := ?_) | refine go_void (hk := ?_)) | (show GK _ _ _ _ (blockK _ _ _); refine gk_past rfl ?_) | (show GC _ _ _ _ _ (.cond _ _ _) _; first | refine gc_yes (h1 := ?_) | refine gc_no (h1 := ?_))))
      exact gk_next hk
    · rw [if_neg (fun h2 => h1 (cmR_pos.2 h2))] at hk
      (repeat (first | refine gst (hk := ?_) | (show GO _ _ _ _ _ (⟨some _, none, .inv _ _ _⟩ :: _) _; refine go_inv rfl rfl ?_) | (show GQ _ _ _ _ _ _ _ (⟨some _, none, .inv _ _ _⟩ :: _) _; refine gq_inv rfl rfl ?_) | (show GR _ _ _ _ _ _ (⟨some _, none, .inv _ _ _⟩ :: _) _; refine gr_inv rfl rfl ?_) | (show GO _ _ _ _ _ (⟨some _, none, _⟩ :: _) _; first | refine go_op (hk := ?_) | (refine go_nw (hk := ?_); intro u; try simp only [llc, lln, lna, lza]) | (refine go_np (hk := ?_); intro id)) | (show GO _ _ _ _ _ (⟨none, none, _⟩ :: _) _; refine go_st (hk := ?_)) | (show GO _ _ _ _ _ (⟨_, some _, _⟩ :: _) _; first | refine go_in (hk := ?_) | refine go_out (hk := ?_) | refine go_void (hk := ?_)) | (show GK _ _ _ _ (blockK _ _ _); refine gk_past rfl ?_) | (show GC _ _ _ _ _ (.cond _ _ _) _; first | refine gc_yes (h1 := ?_) | refine gc_no (h1 := ?_))))
      exact gk_next hk
  · have : i = L.length := by omega
    subst this
    (repeat (first | refine gst (hk := ?_) | (show GO _ _ _ _ _ (⟨some _, none, .inv _ _ _⟩ :: _) _; refine go_inv rfl rfl ?_) | (show GQ _ _ _ _ _ _ _ (⟨some _, none, .inv _ _ _⟩ :: _) _; refine gq_inv rfl rfl ?_) | (show GR _ _ _ _ _ _ (⟨some _, none, .inv _ _ _⟩ :: _) _; refine gr_inv rfl rfl ?_) | (show GO _ _ _ _ _ (⟨some _, none, _⟩ :: _) _; first | refine go_op (hk := ?_) | (refine go_nw (hk := ?_); intro u; try simp only [llc, lln, lna, lza]) | (refine go_np (hk := ?_); intro id)) | (show GO _ _ _ _ _ (⟨none, none, _⟩ :: _) _; refine go_st (hk := ?_)) | (show GO _ _ _ _ _ (⟨_, some _, _⟩ :: _) _; first | refine go_in (hk := ?_) | refine go_out (hk := ?_) | refine go_void (hk := ?_)) | (show GK _ _ _ _ (blockK _ _ _); refine gk_past rfl ?_) | (show GC _ _ _ _ _ (.cond _ _ _) _; first | refine gc_yes (h1 := ?_) | refine gc_no (h1 := ?_))))
    exact gk_retc rfl (by exact Sel.auto) rfl rfl fun H' hH => ⟨rfl, hH.leE⟩
/- fits -/

noncomputable def lnOf (v : AV) : Option (Rat × Rat) := by
  classical
  exact if h : ∃ t : Rat × Rat, v = lnV t.1 t.2 then some (Classical.choose h) else none

theorem lnV_inj {s h s' h' : Rat} (e : lnV s h = lnV s' h') : s = s' ∧ h = h' := by
  simp only [AV.agg.injEq, List.cons.injEq, AV.int.injEq, true_and, and_true] at e
  exact ⟨Rat.ext e.1 (by omega), Rat.ext e.2.2.1 (by omega)⟩

theorem lnOf_lnV (s h : Rat) : lnOf (lnV s h) = some (s, h) := by
  unfold lnOf
  have h1 : ∃ t : Rat × Rat, lnV s h = lnV t.1 t.2 := ⟨(s, h), rfl⟩
  rw [dif_pos h1]
  have := lnV_inj (Classical.choose_spec h1)
  exact congrArg some (Prod.ext this.1.symm this.2.symm)

theorem lnOf_some {v : AV} {t : Rat × Rat} (h : lnOf v = some t) : v = lnV t.1 t.2 := by
  unfold lnOf at h
  split at h
  · rename_i h1
    simp only [Option.some.injEq] at h
    rw [← h]; exact Classical.choose_spec h1
  · cases h

def pnOf : AV → Option (Int × Int)
  | .agg [.int .i64 a, .int .i64 b] => some (a, b)
  | _ => none

theorem pnOf_some {v : AV} {p : Int × Int} (h : pnOf v = some p) : v = pnV p := by
  unfold pnOf at h
  split at h
  · simp only [Option.some.injEq] at h; subst h; rfl
  · cases h

def AbF (t : Rat × Rat) (p : Int × Int) : Prop := (-24 ≤ p.1 ∧ p.1 ≤ 24) ∧ (-24 ≤ p.2 ∧ p.2 ≤ 24) ∧ ∃ D A B, LineOk t.1 t.2 D A B

noncomputable def dAbove : List AV → Option AV
  | [v, w] => match lnOf v, pnOf w with
    | some t, some p => by
      classical
      exact if AbF t p then some (frV (((p.2 : Int) : Rat) - (t.1 * ((p.1 : Int) : Rat) + t.2))) else none
    | _, _ => none
  | _ => none

theorem dAbove_is {s h : Rat} {p : Int × Int} {D A B : Int} (hx : -24 ≤ p.1 ∧ p.1 ≤ 24) (hy : -24 ≤ p.2 ∧ p.2 ≤ 24) (hl : LineOk s h D A B) : dAbove [lnV s h, pnV p] = some (frV (((p.2 : Int) : Rat) - (s * ((p.1 : Int) : Rat) + h))) := by
  simp only [dAbove, lnOf_lnV, pnOf]
  exact if_pos ⟨hx, hy, D, A, B, hl⟩

theorem dAbove_ok (H : Heap) : FamOk Try.prog H fn_impl_line_above dAbove := by
  intro args v hv
  unfold dAbove at hv
  split at hv
  · split at hv
    · rename_i t p h1 h2
      split at hv
      · rename_i hF
        simp only [Option.some.injEq] at hv; subst hv
        rw [lnOf_some h1, pnOf_some h2]
        obtain ⟨a1, a2, D, A, B, hl⟩ := hF
        exact ⟨code_impl_line_above.callable, lineAbove_ok a1 a2 hl⟩
      · cases hv
    · cases hv
  · cases hv

noncomputable def dThrough : List AV → Option AV
  | [v, w] => match pnOf v, pnOf w with
    | some p, some q => by
      classical
      exact if P12 p ∧ P12 q ∧ p.1 ≠ q.1 then some (lnV (thS p q) (thH p q)) else none
    | _, _ => none
  | _ => none

theorem dThrough_is {p q : Int × Int} (hp : P12 p) (hq : P12 q) (h : p.1 ≠ q.1) : dThrough [pnV p, pnV q] = some (lnV (thS p q) (thH p q)) := by
  simp only [dThrough, pnOf]
  exact if_pos ⟨hp, hq, h⟩

theorem dThrough_ok (H : Heap) : FamOk Try.prog H fn_impl_through dThrough := by
  intro args v hv
  unfold dThrough at hv
  split at hv
  · split at hv
    · rename_i p q h1 h2
      split at hv
      · rename_i hF
        simp only [Option.some.injEq] at hv; subst hv
        rw [pnOf_some h1, pnOf_some h2]
        exact ⟨code_impl_through.callable, through_ok hF.1 hF.2.1 hF.2.2⟩
      · cases hv
    · cases hv
  · cases hv

theorem pts12 {xs ys : List Int} (hp : Pts xs ys) {i : Nat} (hi : i < xs.length) : P12 (nth xs i, nth ys i) := by
  have := hp.1 i hi
  exact ⟨this.2.1, this.2.2⟩

theorem sel_of_mem {c : Ch} : ∀ {S : Sig}, c ∈ S → ∃ S0, Sel S c S0 ∧ (c :: S0).Perm S
  | [], h => by cases h
  | d :: S, h => by
    rcases List.mem_cons.1 h with rfl | h
    · exact ⟨S, .head, List.Perm.refl _⟩
    · obtain ⟨S0, h1, h2⟩ := sel_of_mem h
      exact ⟨d :: S0, .tail h1, (List.Perm.swap d c S0).trans (h2.cons d)⟩

theorem sub_perm : ∀ {S' S : Sig}, S'.Perm S → Sub S S'
  | [], _, _ => .nil
  | c :: R, S, h => by
    obtain ⟨S0, h1, h2⟩ := sel_of_mem (h.mem_iff.1 (List.mem_cons_self ..))
    exact .cons h1 (sub_perm (h.trans h2.symm).cons_inv)

theorem sub_swap (L M : Sig) : Sub (L ++ M) (M ++ L) := sub_perm List.perm_append_comm

theorem sub_pre : ∀ {S' R S : Sig}, Sub S (S' ++ R) → Sub S S'
  | [], _, _, _ => .nil
  | _ :: _, _, _, .cons h h' => .cons h (sub_pre h')

theorem sub_back (c : Ch) (M F : Sig) : Sub (M ++ c :: F) (F ++ M) :=
  sub_pre (R := [c]) (sub_perm ((List.perm_append_singleton c (F ++ M)).trans ((List.perm_append_comm.cons c).trans List.perm_middle.symm)))

theorem go_freeze {P : Program} {A : Heap} {X : List Nat} {E : List (Nat × AV)} {S S0 : Sig} {K : St → Prop} {l : List MI} {v : AV} {es n : Nat} {cs : List AV} (hs : Sel S ⟨.rw, v, es, n, cs⟩ S0) (h : GO P A X E (⟨.ro, v, es, n, cs⟩ :: S0) l K) : GO P A X E S l K := ⟨fun s hf => h.g s ⟨hf.env, (hf.ok.sel hs).freeze⟩⟩

theorem go_yieldE {P : Program} {A : Heap} {X : List Nat} {E : List (Nat × AV)} {S : Sig} {K : St → Prop} {r : List MI} {d : Nat} {γ : Type} {id : Nat} {fv : MX} {args : List MX} {xs : List AV} {S2 : γ → Sig} (hv : evE E fv = some (.yld id)) (ha : evsE E args = some xs)
    (h : ∀ H, SOk A X S H.size H → AYield P id xs H fun t H' => t = true ∧ ∃ g, SOk A X (S2 g) H'.size H') (hk : ∀ g, GO P A X ((d, .bool true) :: E) (S2 g) r K) : GO P A X E S (⟨some d, none, .callv fv args⟩ :: r) K := by
  refine ⟨fun s hf => ?_⟩
  rw [mops_cons]
  simp only [mone, mexec, ev_of hf.env hv]
  have := h s.H hf.ok
  rw [← evs_of hf.env ha] at this
  refine ⟨_, this, ?_⟩
  rintro b H' ⟨rfl, g, hS⟩
  exact (hk g).g _ ⟨look_cons hf.env d _, hS⟩

theorem gc_rfuncE {P : Program} {A : Heap} {X : List Nat} {E : List (Nat × AV)} {S : Sig} {Q : Exit → St → Prop} {ι γ : Type} {g : MX} {ps : List Nat} {a b : MC} {f : FuncId} {caps : List AV} (T : ι → γ → Sig) (Rd : ι → ι → List AV → Prop) (i0 iN : ι) (g0 : γ)
    (hg : evE E g = some (.func f caps)) (hc : Callable P f) (hS : Sub S (T i0 g0))
    (hit : ∀ (A' : Heap) (id : Nat) (H : Heap), (∀ i j xs, Rd i j xs → ∀ (F : Sig) (z : γ) H', SOk A' X (T i z ++ F) H'.size H' → AYield P id xs H' fun t H'' => t = true ∧ ∃ z', SOk A' X (T j z' ++ F) H''.size H'') → SOk A' X (T i0 g0) H.size H → ACalls P f (.yld id :: caps) H fun _ H' => ∃ z, SOk A' X (T iN z) H'.size H')
    (hb : ∀ i j xs, Rd i j xs → xs.length = ps.length ∧ ∀ (F : Sig) (z : γ) (ob1 ob2 : Nat → Option OB) (Q1 Q2 : Exit → St → Prop), (∀ E' S', GC P (A.obs ob2) X E' S' b Q2 → GK (A.obs ob1) X E' S' (Q1 .normal)) → (∀ E' z', GK (A.obs ob2) X E' (T j z' ++ F) (Q2 .normal)) → GC P (A.obs ob1) X (setE E ps xs) (T i z ++ F) a Q1)
    (hk : ∀ z, GK A X E (T iN z) (Q .normal)) : GC P A X E S (.rfunc g ps a b) Q := by
  refine ⟨fun s hf => ?_⟩
  simp only [mwp, mrfunc, ev_of hf.env hg]
  refine ⟨hc, fun o ho hnone hround => ?_⟩
  obtain ⟨id, hid⟩ : ∃ id, id = s.H.size := ⟨_, rfl⟩
  rw [← hid] at hround hnone ⊢
  obtain ⟨ob1, hob1⟩ : ∃ ob1 : Nat → Option OB, ob1 = fun i => if i = id then some (lst o .ready none) else A.ob i := ⟨_, rfl⟩
  obtain ⟨ob2, hob2⟩ : ∃ ob2 : Nat → Option OB, ob2 = fun i => if i = id then some (lst o .busy none) else A.ob i := ⟨_, rfl⟩
  have e1 : ob1 id = some (lst o .ready none) := by rw [hob1]; simp
  have e2 : ob2 id = some (lst o .busy none) := by rw [hob2]; simp
  have e12 : (fun i => if i = id then some (lst o .busy none) else ob1 i) = ob2 := by
    rw [hob1, hob2]; funext i; by_cases h : i = id <;> simp [h]
  have e21 : (fun i => if i = id then some (lst o .ready none) else ob2 i) = ob1 := by
    rw [hob1, hob2]; funext i; by_cases h : i = id <;> simp [h]
  refine ⟨fun _ H' => ∃ z, SOk (A.obs ob1) X (T iN z) H'.size H', hit (A.obs ob1) id _ ?_ ?_, ?_⟩
  · intro i j xs hY F z H' hH'
    obtain ⟨hlen, hbody⟩ := hb i j xs hY
    have hHob : H'.ob = ob1 := hH'.le.ob
    refine hround xs H' _ hlen (by rw [hHob]; exact e1) ?_
    refine (hbody F z ob1 ob2 _ (roundK id o fun t H'' => t = true ∧ ∃ z', SOk (A.obs ob1) X (T j z' ++ F) H''.size H'') ?_ ?_).g ⟨setp s.τ ps xs, H'⟩ ⟨setE_ok ps xs E s.τ hf.env, hH'⟩
    · intro E' S' hgc
      refine ⟨fun s' hf' => ?_⟩
      have h1 : s'.H.ob = ob1 := hf'.ok.le.ob
      refine ⟨by rw [h1]; exact e1, hgc.g _ ⟨hf'.env, ?_⟩⟩
      have h2 := hf'.ok.obs ob2 (Nat.le_refl _) hf'.ok.mh
      have h3 : s'.H.seto id (some (lst o .busy none)) = ⟨s'.H.size, s'.H.get, ob2⟩ := by simp only [Heap.seto, h1, e12]
      rw [h3]; exact h2
    · intro E' z'
      refine ⟨fun s' hf' => ?_⟩
      have h1 : s'.H.ob = ob2 := hf'.ok.le.ob
      refine ⟨by rw [h1]; exact e2, rfl, z', ?_⟩
      have h2 := hf'.ok.obs ob1 (Nat.le_refl _) hf'.ok.mh
      have h3 : s'.H.seto id (some (lst o .ready none)) = ⟨s'.H.size, s'.H.get, ob1⟩ := by simp only [Heap.seto, h1, e21]
      rw [h3]; exact h2
  · have h0 := (hf.ok.sub hS).obs ob1 (Nat.le_succ _) (Nat.le_refl _)
    have h3 : s.H.newo (lst o .ready none) = ⟨s.H.size + 1, s.H.get, ob1⟩ := by
      simp only [Heap.newo, hob1, hf.ok.le.ob, hid]
    rw [h3]; exact h0
  · rintro r' H' ⟨z, hH'⟩
    have h1 : H'.ob = ob1 := hH'.le.ob
    refine ⟨.ready, none, by rw [h1]; exact e1, by simp, ?_⟩
    refine (hk z).g _ ⟨hf.env, ?_⟩
    have h2 := hH'.obs A.ob (Nat.le_refl _) hH'.mh
    have h3 : H'.seto id none = ⟨H'.size, H'.get, A.ob⟩ := by
      have hAob : A.ob id = none := by rw [← hf.ok.le.ob]; exact hnone
      simp only [Heap.seto, h1, hob1]
      congr 1
      funext i; by_cases h : i = id
      · subst h; simp [hAob]
      · simp [h]
    rw [h3]; exact h2
/- side by side: all two of the points with different xs -/

theorem sideBySide_ok {A : Heap} {X : List Nat} {S : Sig} {H : Heap} {w : AV} {n : Nat} {cs : List AV} (hS : SOk A X S H.size H) (hh : Has S w 2 n cs) :
    ACalls Try.prog fn_impl_sideBySide [w] H fun r H' => ∃ g : Nat, r = .func fn_impl_sideBySide_1 [.ptr g 0] ∧ SOk A X (⟨.cell, .ptr g 0, 1, 1, [w]⟩ :: S) H'.size H' ∧ True := by
  refine code_impl_sideBySide.gon (R := [⟨.ro, w, 2, n, cs⟩]) (V := fun g : Nat => .func fn_impl_sideBySide_1 [.ptr g 0]) (T := fun g => [⟨.cell, .ptr g 0, 1, 1, [w]⟩]) (Φ := fun _ => True) hS ⟨⟨rfl, hS.valsA hh⟩, trivial⟩ (fun _ => rfl) (by simp) ?_
  unfold mc_impl_sideBySide
  (repeat (first | refine gst (hk := ?_) | (show GO _ _ _ _ _ (⟨some _, none, _⟩ :: _) _; first | refine go_op (hk := ?_) | (refine go_nw (hk := ?_); intro u; try simp only [llc, lln, lna, lza]) | (refine go_np (hk := ?_); intro id)) | (show GO _ _ _ _ _ (⟨none, none, _⟩ :: _) _; refine go_st (hk := ?_)) | (show GO _ _ _ _ _ (⟨_, some _, _⟩ :: _) _; first | refine go_in (hk := ?_) | refine go_out (hk := ?_) | refine go_void (hk := ?_)) | (show GK _ _ _ _ (blockK _ _ _); refine gk_past rfl ?_) | (show GC _ _ _ _ _ (.cond _ _ _) _; first | refine gc_yes (h1 := ?_) | refine gc_no (h1 := ?_))))
  refine go_newp rfl (stp_boxv rfl (by exact Has.auto)) (fun pc => ?_)
  (repeat (first | refine gst (hk := ?_) | (show GO _ _ _ _ _ (⟨some _, none, _⟩ :: _) _; first | refine go_op (hk := ?_) | (refine go_nw (hk := ?_); intro u; try simp only [llc, lln, lna, lza]) | (refine go_np (hk := ?_); intro id)) | (show GO _ _ _ _ _ (⟨none, none, _⟩ :: _) _; refine go_st (hk := ?_)) | (show GO _ _ _ _ _ (⟨_, some _, _⟩ :: _) _; first | refine go_in (hk := ?_) | refine go_out (hk := ?_) | refine go_void (hk := ?_)) | (show GK _ _ _ _ (blockK _ _ _); refine gk_past rfl ?_) | (show GC _ _ _ _ _ (.cond _ _ _) _; first | refine gc_yes (h1 := ?_) | refine gc_no (h1 := ?_))))
  exact gk_ret rfl fun H' hH => ⟨pc, rfl, trivial, hH.sub (by exact Sub.auto)⟩

abbrev bx1 (i : Nat) (w : AV) : Ch := ⟨.cell, .ptr i 0, 1, 1, [w]⟩

end Go.Rx.Try
