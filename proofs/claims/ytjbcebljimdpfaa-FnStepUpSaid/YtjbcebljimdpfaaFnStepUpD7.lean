import Derived.Test.YtjbcebljimdpfaaFnStepUpD6
namespace Go.Rx.Try
open Go.Proofs
set_option maxRecDepth 100000
set_option maxHeartbeats 8000000
set_option linter.unusedSimpArgs false
set_option linter.unusedVariables false

theorem oddsAt_ok {H : Heap} {a : AV} {xs : List Int} {p : Nat} (ha : Ints H a xs) (hn : xs.length ≤ 6) : ACalls Try.prog fn_impl_oddsAt [a, .int .u64 (p : Int)] H fun r H' => OwnI H H' r (selS xs p) ∧ Le H H' := by
  refine code_impl_oddsAt.go [.roI a xs.length xs] ⟨⟨rfl, ha⟩, trivial⟩ (by simp) ?_
  unfold mc_impl_oddsAt
  (repeat (first | with_reducible (first | refine go_nil ?_ | refine gk_seq ?_ | refine gc_seq ?_ | refine gc_reg ?_ | refine gc_skip ?_ | refine gk_block ?_ | refine gc_block ?_ | refine gc_exit ?_ | refine gc_ret ?_ | refine gk_seqret ?_ | refine gk_seqexit ?_ | refine gk_blockret ?_ | refine gk_out ?_ | refine gk_loopret ?_ | refine gk_loopexit ?_) | (show GO _ _ _ _ _ (⟨some _, none, .call _ _⟩ :: _) _; first | (show GO _ _ _ _ _ (⟨some _, none, .call fn_impl_places_has _⟩ :: _) _; refine go_callp rfl code_impl_places_has.callable (fun H hH => has_ok (by omega)) ?_) | (show GO _ _ _ _ _ (⟨some _, none, .call fn_slices_Sort_ints _⟩ :: _) _; refine go_callg rfl code_slices_Sort_ints.callable (fun H hH => slicesSort_ok hH (by exact Sel.auto) (by omega)) ?_; intro g hg)) | (show GO _ _ _ _ _ (⟨some _, none, _⟩ :: _) _; first | refine go_op (hk := ?_) | (refine go_nw (hk := ?_); intro u; try simp only [List.length_cons, List.length_nil, List.nil_append, Nat.zero_add]) | (refine go_np (hk := ?_); intro id)) | (show GO _ _ _ _ _ (⟨none, none, _⟩ :: _) _; refine go_st (hk := ?_)) | (show GO _ _ _ _ _ (⟨_, some _, _⟩ :: _) _; first | refine go_in (hk := ?_) | refine go_out (hk := ?_) | refine go_void (hk := ?_)) | (show GK _ _ _ _ (blockK _ _ _); refine gk_past rfl ?_) | (show GC _ _ _ _ _ (.cond _ _ _) _; first | refine gc_yes (h1 := ?_) | refine gc_no (h1 := ?_))))
  refine gc_nil ?_
  refine gc_upv xs.length (fun i u => [(1, .int .u64 (p : Int)), (5, u), (8, a), (9, .int .i64 (xs.length : Int)), (10, .int .i64 (i : Int))]) (fun i u => [.rwI u (selT xs p i).length (selT xs p i), .roI a xs.length xs]) _ (hb := ?_)
  intro i u hi I ν m hk
  have hsl := selT_len xs p i
  (repeat (first | with_reducible (first | refine go_nil ?_ | refine gk_seq ?_ | refine gc_seq ?_ | refine gc_reg ?_ | refine gc_skip ?_ | refine gk_block ?_ | refine gc_block ?_ | refine gc_exit ?_ | refine gc_ret ?_ | refine gk_seqret ?_ | refine gk_seqexit ?_ | refine gk_blockret ?_ | refine gk_out ?_ | refine gk_loopret ?_ | refine gk_loopexit ?_) | (show GO _ _ _ _ _ (⟨some _, none, .call _ _⟩ :: _) _; first | (show GO _ _ _ _ _ (⟨some _, none, .call fn_impl_places_has _⟩ :: _) _; refine go_callp rfl code_impl_places_has.callable (fun H hH => has_ok (by omega)) ?_) | (show GO _ _ _ _ _ (⟨some _, none, .call fn_slices_Sort_ints _⟩ :: _) _; refine go_callg rfl code_slices_Sort_ints.callable (fun H hH => slicesSort_ok hH (by exact Sel.auto) (by omega)) ?_; intro g hg)) | (show GO _ _ _ _ _ (⟨some _, none, _⟩ :: _) _; first | refine go_op (hk := ?_) | (refine go_nw (hk := ?_); intro u; try simp only [List.length_cons, List.length_nil, List.nil_append, Nat.zero_add]) | (refine go_np (hk := ?_); intro id)) | (show GO _ _ _ _ _ (⟨none, none, _⟩ :: _) _; refine go_st (hk := ?_)) | (show GO _ _ _ _ _ (⟨_, some _, _⟩ :: _) _; first | refine go_in (hk := ?_) | refine go_out (hk := ?_) | refine go_void (hk := ?_)) | (show GK _ _ _ _ (blockK _ _ _); refine gk_past rfl ?_) | (show GC _ _ _ _ _ (.cond _ _ _) _; first | refine gc_yes (h1 := ?_) | refine gc_no (h1 := ?_))))
  refine gc_cond rfl (fun h => ?_) (fun h => ?_)
  · have hk := hk (by omega)
    rw [selT] at hk
    (repeat (first | with_reducible (first | refine go_nil ?_ | refine gk_seq ?_ | refine gc_seq ?_ | refine gc_reg ?_ | refine gc_skip ?_ | refine gk_block ?_ | refine gc_block ?_ | refine gc_exit ?_ | refine gc_ret ?_ | refine gk_seqret ?_ | refine gk_seqexit ?_ | refine gk_blockret ?_ | refine gk_out ?_ | refine gk_loopret ?_ | refine gk_loopexit ?_) | (show GO _ _ _ _ _ (⟨some _, none, .call _ _⟩ :: _) _; first | (show GO _ _ _ _ _ (⟨some _, none, .call fn_impl_places_has _⟩ :: _) _; refine go_callp rfl code_impl_places_has.callable (fun H hH => has_ok (by omega)) ?_) | (show GO _ _ _ _ _ (⟨some _, none, .call fn_slices_Sort_ints _⟩ :: _) _; refine go_callg rfl code_slices_Sort_ints.callable (fun H hH => slicesSort_ok hH (by exact Sel.auto) (by omega)) ?_; intro g hg)) | (show GO _ _ _ _ _ (⟨some _, none, _⟩ :: _) _; first | refine go_op (hk := ?_) | (refine go_nw (hk := ?_); intro u; try simp only [List.length_cons, List.length_nil, List.nil_append, Nat.zero_add]) | (refine go_np (hk := ?_); intro id)) | (show GO _ _ _ _ _ (⟨none, none, _⟩ :: _) _; refine go_st (hk := ?_)) | (show GO _ _ _ _ _ (⟨_, some _, _⟩ :: _) _; first | refine go_in (hk := ?_) | refine go_out (hk := ?_) | refine go_void (hk := ?_)) | (show GK _ _ _ _ (blockK _ _ _); refine gk_past rfl ?_) | (show GC _ _ _ _ _ (.cond _ _ _) _; first | refine gc_yes (h1 := ?_) | refine gc_no (h1 := ?_))))
    refine gc_cond rfl (fun h2 => ?_) (fun h2 => ?_)
    · rw [if_pos (show bitN p i = 1 from h2), List.length_append] at hk
      (repeat (first | with_reducible (first | refine go_nil ?_ | refine gk_seq ?_ | refine gc_seq ?_ | refine gc_reg ?_ | refine gc_skip ?_ | refine gk_block ?_ | refine gc_block ?_ | refine gc_exit ?_ | refine gc_ret ?_ | refine gk_seqret ?_ | refine gk_seqexit ?_ | refine gk_blockret ?_ | refine gk_out ?_ | refine gk_loopret ?_ | refine gk_loopexit ?_) | (show GO _ _ _ _ _ (⟨some _, none, .call _ _⟩ :: _) _; first | (show GO _ _ _ _ _ (⟨some _, none, .call fn_impl_places_has _⟩ :: _) _; refine go_callp rfl code_impl_places_has.callable (fun H hH => has_ok (by omega)) ?_) | (show GO _ _ _ _ _ (⟨some _, none, .call fn_slices_Sort_ints _⟩ :: _) _; refine go_callg rfl code_slices_Sort_ints.callable (fun H hH => slicesSort_ok hH (by exact Sel.auto) (by omega)) ?_; intro g hg)) | (show GO _ _ _ _ _ (⟨some _, none, _⟩ :: _) _; first | refine go_op (hk := ?_) | (refine go_nw (hk := ?_); intro u; try simp only [List.length_cons, List.length_nil, List.nil_append, Nat.zero_add]) | (refine go_np (hk := ?_); intro id)) | (show GO _ _ _ _ _ (⟨none, none, _⟩ :: _) _; refine go_st (hk := ?_)) | (show GO _ _ _ _ _ (⟨_, some _, _⟩ :: _) _; first | refine go_in (hk := ?_) | refine go_out (hk := ?_) | refine go_void (hk := ?_)) | (show GK _ _ _ _ (blockK _ _ _); refine gk_past rfl ?_) | (show GC _ _ _ _ _ (.cond _ _ _) _; first | refine gc_yes (h1 := ?_) | refine gc_no (h1 := ?_))))
      exact gk_next (hk _)
    · rw [if_neg (show ¬ bitN p i = 1 from h2)] at hk
      (repeat (first | with_reducible (first | refine go_nil ?_ | refine gk_seq ?_ | refine gc_seq ?_ | refine gc_reg ?_ | refine gc_skip ?_ | refine gk_block ?_ | refine gc_block ?_ | refine gc_exit ?_ | refine gc_ret ?_ | refine gk_seqret ?_ | refine gk_seqexit ?_ | refine gk_blockret ?_ | refine gk_out ?_ | refine gk_loopret ?_ | refine gk_loopexit ?_) | (show GO _ _ _ _ _ (⟨some _, none, .call _ _⟩ :: _) _; first | (show GO _ _ _ _ _ (⟨some _, none, .call fn_impl_places_has _⟩ :: _) _; refine go_callp rfl code_impl_places_has.callable (fun H hH => has_ok (by omega)) ?_) | (show GO _ _ _ _ _ (⟨some _, none, .call fn_slices_Sort_ints _⟩ :: _) _; refine go_callg rfl code_slices_Sort_ints.callable (fun H hH => slicesSort_ok hH (by exact Sel.auto) (by omega)) ?_; intro g hg)) | (show GO _ _ _ _ _ (⟨some _, none, _⟩ :: _) _; first | refine go_op (hk := ?_) | (refine go_nw (hk := ?_); intro u; try simp only [List.length_cons, List.length_nil, List.nil_append, Nat.zero_add]) | (refine go_np (hk := ?_); intro id)) | (show GO _ _ _ _ _ (⟨none, none, _⟩ :: _) _; refine go_st (hk := ?_)) | (show GO _ _ _ _ _ (⟨_, some _, _⟩ :: _) _; first | refine go_in (hk := ?_) | refine go_out (hk := ?_) | refine go_void (hk := ?_)) | (show GK _ _ _ _ (blockK _ _ _); refine gk_past rfl ?_) | (show GC _ _ _ _ _ (.cond _ _ _) _; first | refine gc_yes (h1 := ?_) | refine gc_no (h1 := ?_))))
      exact gk_next (hk _)
  · have : i = xs.length := by omega
    subst this
    (repeat (first | with_reducible (first | refine go_nil ?_ | refine gk_seq ?_ | refine gc_seq ?_ | refine gc_reg ?_ | refine gc_skip ?_ | refine gk_block ?_ | refine gc_block ?_ | refine gc_exit ?_ | refine gc_ret ?_ | refine gk_seqret ?_ | refine gk_seqexit ?_ | refine gk_blockret ?_ | refine gk_out ?_ | refine gk_loopret ?_ | refine gk_loopexit ?_) | (show GO _ _ _ _ _ (⟨some _, none, .call _ _⟩ :: _) _; first | (show GO _ _ _ _ _ (⟨some _, none, .call fn_impl_places_has _⟩ :: _) _; refine go_callp rfl code_impl_places_has.callable (fun H hH => has_ok (by omega)) ?_) | (show GO _ _ _ _ _ (⟨some _, none, .call fn_slices_Sort_ints _⟩ :: _) _; refine go_callg rfl code_slices_Sort_ints.callable (fun H hH => slicesSort_ok hH (by exact Sel.auto) (by omega)) ?_; intro g hg)) | (show GO _ _ _ _ _ (⟨some _, none, _⟩ :: _) _; first | refine go_op (hk := ?_) | (refine go_nw (hk := ?_); intro u; try simp only [List.length_cons, List.length_nil, List.nil_append, Nat.zero_add]) | (refine go_np (hk := ?_); intro id)) | (show GO _ _ _ _ _ (⟨none, none, _⟩ :: _) _; refine go_st (hk := ?_)) | (show GO _ _ _ _ _ (⟨_, some _, _⟩ :: _) _; first | refine go_in (hk := ?_) | refine go_out (hk := ?_) | refine go_void (hk := ?_)) | (show GK _ _ _ _ (blockK _ _ _); refine gk_past rfl ?_) | (show GC _ _ _ _ _ (.cond _ _ _) _; first | refine gc_yes (h1 := ?_) | refine gc_no (h1 := ?_))))
    refine gk_ret rfl fun H' hH => ?_
    rw [OwnI, selS, sortL_length]
    exact hH.give .head

/-- a set is found by a kind -/
def FndS (S : List Int) (lev : Int) (kd : List UInt8) : Prop := (kd = eachB ∧ hdP S lev true S.length) ∨ (kd = leastB ∧ hdP S lev false S.length)

instance (S : List Int) (lev : Int) (kd : List UInt8) : Decidable (FndS S lev kd) := by unfold FndS; exact inferInstance

theorem foundTogether_ok {H : Heap} {a : AV} {S : List Int} {lev : Int} {kd : List UInt8} (ha : Ints H a S) (hu : Up S) (h1 : 1 ≤ S.length) (h6 : S.length ≤ 6) (hS : ∀ i, i < S.length → 0 ≤ nth S i ∧ nth S i ≤ 1000) (hl : 0 ≤ lev ∧ lev ≤ 1000) :
    ACalls Try.prog fn_impl_foundTogether [a, .int .i64 lev, .str kd] H fun r H' => r = .bool (decide (FndS S lev kd)) ∧ H' = H := by
  refine ACalls.val ?_ rfl
  refine code_impl_foundTogether.go [.roI a S.length S] ⟨⟨rfl, ha⟩, trivial⟩ (by simp) ?_
  have hle : leastB ≠ eachB := by decide
  have hle' : eachB ≠ leastB := by decide
  have least : hdP S lev false S.length ↔ nth S 0 * (S.length : Int) ≤ lev := by
    rw [hdP_iff]
    refine ⟨fun ⟨k, hk, h⟩ => ?_, fun h => ⟨0, by omega, .inr h⟩⟩
    rcases h with h | h
    · cases h.1
    · have := hu.le (Nat.zero_le k) hk
      have := Int.mul_le_mul_of_nonneg_right this (show (0 : Int) ≤ S.length by omega)
      omega
  have each : hdP S lev true S.length ↔ ∃ k, k < S.length ∧ nth S k * (S.length : Int) ≤ ((k + 1 : Nat) : Int) * lev := by
    rw [hdP_iff]
    refine ⟨fun ⟨k, hk, h⟩ => ⟨k, hk, ?_⟩, fun ⟨k, hk, h⟩ => ⟨k, hk, .inl ⟨rfl, by rw [Int.mul_comm lev]; exact h⟩⟩⟩
    rcases h with h | h
    · rw [Int.mul_comm _ lev]; exact h.2
    · have := Int.mul_le_mul_of_nonneg_right (show (1 : Int) ≤ ((k + 1 : Nat) : Int) by omega) hl.1
      omega
  have b0 := hS 0 (by omega)
  have m0 := mul12 (a := nth S 0) (b := (S.length : Int)) (A := 1000) (B := 6) b0 (by omega)
  unfold mc_impl_foundTogether
  (repeat (first | with_reducible (first | refine go_nil ?_ | refine gk_seq ?_ | refine gc_seq ?_ | refine gc_reg ?_ | refine gc_skip ?_ | refine gk_block ?_ | refine gc_block ?_ | refine gc_exit ?_ | refine gc_ret ?_ | refine gk_seqret ?_ | refine gk_seqexit ?_ | refine gk_blockret ?_ | refine gk_out ?_ | refine gk_loopret ?_ | refine gk_loopexit ?_) | (show GO _ _ _ _ _ (⟨some _, none, _⟩ :: _) _; first | refine go_op (hk := ?_) | (refine go_nw (hk := ?_); intro u; try simp only [List.length_cons, List.length_nil, List.nil_append, Nat.zero_add]) | (refine go_np (hk := ?_); intro id)) | (show GO _ _ _ _ _ (⟨none, none, _⟩ :: _) _; refine go_st (hk := ?_)) | (show GO _ _ _ _ _ (⟨_, some _, _⟩ :: _) _; first | refine go_in (hk := ?_) | refine go_out (hk := ?_) | refine go_void (hk := ?_)) | (show GK _ _ _ _ (blockK _ _ _); refine gk_past rfl ?_) | (show GC _ _ _ _ _ (.cond _ _ _) _; first | refine gc_yes (h1 := ?_) | refine gc_no (h1 := ?_))))
  refine gc_cond rfl (fun hk => ?_) (fun hk => ?_)
  · (repeat (first | with_reducible (first | refine go_nil ?_ | refine gk_seq ?_ | refine gc_seq ?_ | refine gc_reg ?_ | refine gc_skip ?_ | refine gk_block ?_ | refine gc_block ?_ | refine gc_exit ?_ | refine gc_ret ?_ | refine gk_seqret ?_ | refine gk_seqexit ?_ | refine gk_blockret ?_ | refine gk_out ?_ | refine gk_loopret ?_ | refine gk_loopexit ?_) | (show GO _ _ _ _ _ (⟨some _, none, _⟩ :: _) _; first | refine go_op (hk := ?_) | (refine go_nw (hk := ?_); intro u; try simp only [List.length_cons, List.length_nil, List.nil_append, Nat.zero_add]) | (refine go_np (hk := ?_); intro id)) | (show GO _ _ _ _ _ (⟨none, none, _⟩ :: _) _; refine go_st (hk := ?_)) | (show GO _ _ _ _ _ (⟨_, some _, _⟩ :: _) _; first | refine go_in (hk := ?_) | refine go_out (hk := ?_) | refine go_void (hk := ?_)) | (show GK _ _ _ _ (blockK _ _ _); refine gk_past rfl ?_) | (show GC _ _ _ _ _ (.cond _ _ _) _; first | refine gc_yes (h1 := ?_) | refine gc_no (h1 := ?_))))
    refine gc_loop (γ := Nat) (fun i => [(0, a), (1, .int .i64 lev), (7, .int .i64 ((i + 1 : Nat) : Int))]) (fun _ => [.roI a S.length S]) (fun i => i + 1 ≤ S.length ∧ ∀ k, 1 ≤ k → k ≤ i → ¬ nth S k * (S.length : Int) ≤ ((k + 1 : Nat) : Int) * lev) (fun i => S.length - i) 0 ⟨h1, fun k _ _ => by omega⟩ (hb := ?_)
    rintro i ⟨hi, hno⟩ I ν m hnx
    (repeat (first | with_reducible (first | refine go_nil ?_ | refine gk_seq ?_ | refine gc_seq ?_ | refine gc_reg ?_ | refine gc_skip ?_ | refine gk_block ?_ | refine gc_block ?_ | refine gc_exit ?_ | refine gc_ret ?_ | refine gk_seqret ?_ | refine gk_seqexit ?_ | refine gk_blockret ?_ | refine gk_out ?_ | refine gk_loopret ?_ | refine gk_loopexit ?_) | (show GO _ _ _ _ _ (⟨some _, none, _⟩ :: _) _; first | refine go_op (hk := ?_) | (refine go_nw (hk := ?_); intro u; try simp only [List.length_cons, List.length_nil, List.nil_append, Nat.zero_add]) | (refine go_np (hk := ?_); intro id)) | (show GO _ _ _ _ _ (⟨none, none, _⟩ :: _) _; refine go_st (hk := ?_)) | (show GO _ _ _ _ _ (⟨_, some _, _⟩ :: _) _; first | refine go_in (hk := ?_) | refine go_out (hk := ?_) | refine go_void (hk := ?_)) | (show GK _ _ _ _ (blockK _ _ _); refine gk_past rfl ?_) | (show GC _ _ _ _ _ (.cond _ _ _) _; first | refine gc_yes (h1 := ?_) | refine gc_no (h1 := ?_))))
    refine gc_cond rfl (fun h2 => ?_) (fun h2 => ?_)
    · have b1 := hS (i + 1) (by omega)
      have m1 := mul12 (a := nth S (i + 1)) (b := (S.length : Int)) (A := 1000) (B := 6) b1 (by omega)
      have m2 := mul12 (a := ((i + 1 + 1 : Nat) : Int)) (b := lev) (A := 7) (B := 1000) (by omega) hl
      (repeat (first | with_reducible (first | refine go_nil ?_ | refine gk_seq ?_ | refine gc_seq ?_ | refine gc_reg ?_ | refine gc_skip ?_ | refine gk_block ?_ | refine gc_block ?_ | refine gc_exit ?_ | refine gc_ret ?_ | refine gk_seqret ?_ | refine gk_seqexit ?_ | refine gk_blockret ?_ | refine gk_out ?_ | refine gk_loopret ?_ | refine gk_loopexit ?_) | (show GO _ _ _ _ _ (⟨some _, none, _⟩ :: _) _; first | refine go_op (hk := ?_) | (refine go_nw (hk := ?_); intro u; try simp only [List.length_cons, List.length_nil, List.nil_append, Nat.zero_add]) | (refine go_np (hk := ?_); intro id)) | (show GO _ _ _ _ _ (⟨none, none, _⟩ :: _) _; refine go_st (hk := ?_)) | (show GO _ _ _ _ _ (⟨_, some _, _⟩ :: _) _; first | refine go_in (hk := ?_) | refine go_out (hk := ?_) | refine go_void (hk := ?_)) | (show GK _ _ _ _ (blockK _ _ _); refine gk_past rfl ?_) | (show GC _ _ _ _ _ (.cond _ _ _) _; first | refine gc_yes (h1 := ?_) | refine gc_no (h1 := ?_))))
      refine gc_cond rfl (fun h3 => ?_) (fun h3 => ?_)
      · (repeat (first | with_reducible (first | refine go_nil ?_ | refine gk_seq ?_ | refine gc_seq ?_ | refine gc_reg ?_ | refine gc_skip ?_ | refine gk_block ?_ | refine gc_block ?_ | refine gc_exit ?_ | refine gc_ret ?_ | refine gk_seqret ?_ | refine gk_seqexit ?_ | refine gk_blockret ?_ | refine gk_out ?_ | refine gk_loopret ?_ | refine gk_loopexit ?_) | (show GO _ _ _ _ _ (⟨some _, none, _⟩ :: _) _; first | refine go_op (hk := ?_) | (refine go_nw (hk := ?_); intro u; try simp only [List.length_cons, List.length_nil, List.nil_append, Nat.zero_add]) | (refine go_np (hk := ?_); intro id)) | (show GO _ _ _ _ _ (⟨none, none, _⟩ :: _) _; refine go_st (hk := ?_)) | (show GO _ _ _ _ _ (⟨_, some _, _⟩ :: _) _; first | refine go_in (hk := ?_) | refine go_out (hk := ?_) | refine go_void (hk := ?_)) | (show GK _ _ _ _ (blockK _ _ _); refine gk_past rfl ?_) | (show GC _ _ _ _ _ (.cond _ _ _) _; first | refine gc_yes (h1 := ?_) | refine gc_no (h1 := ?_))))
        exact gk_ret rfl fun H' hH => ⟨bool_yes (.inl ⟨hk, each.2 ⟨i + 1, by omega, h3⟩⟩), hH.leE⟩
      · (repeat (first | with_reducible (first | refine go_nil ?_ | refine gk_seq ?_ | refine gc_seq ?_ | refine gc_reg ?_ | refine gc_skip ?_ | refine gk_block ?_ | refine gc_block ?_ | refine gc_exit ?_ | refine gc_ret ?_ | refine gk_seqret ?_ | refine gk_seqexit ?_ | refine gk_blockret ?_ | refine gk_out ?_ | refine gk_loopret ?_ | refine gk_loopexit ?_) | (show GO _ _ _ _ _ (⟨some _, none, _⟩ :: _) _; first | refine go_op (hk := ?_) | (refine go_nw (hk := ?_); intro u; try simp only [List.length_cons, List.length_nil, List.nil_append, Nat.zero_add]) | (refine go_np (hk := ?_); intro id)) | (show GO _ _ _ _ _ (⟨none, none, _⟩ :: _) _; refine go_st (hk := ?_)) | (show GO _ _ _ _ _ (⟨_, some _, _⟩ :: _) _; first | refine go_in (hk := ?_) | refine go_out (hk := ?_) | refine go_void (hk := ?_)) | (show GK _ _ _ _ (blockK _ _ _); refine gk_past rfl ?_) | (show GC _ _ _ _ _ (.cond _ _ _) _; first | refine gc_yes (h1 := ?_) | refine gc_no (h1 := ?_))))
        refine gk_next (hnx (i + 1) ⟨by omega, fun k k1 k2 => ?_⟩ (by omega))
        by_cases e : k = i + 1
        · subst e; exact h3
        · exact hno k k1 (by omega)
    · (repeat (first | with_reducible (first | refine go_nil ?_ | refine gk_seq ?_ | refine gc_seq ?_ | refine gc_reg ?_ | refine gc_skip ?_ | refine gk_block ?_ | refine gc_block ?_ | refine gc_exit ?_ | refine gc_ret ?_ | refine gk_seqret ?_ | refine gk_seqexit ?_ | refine gk_blockret ?_ | refine gk_out ?_ | refine gk_loopret ?_ | refine gk_loopexit ?_) | (show GO _ _ _ _ _ (⟨some _, none, _⟩ :: _) _; first | refine go_op (hk := ?_) | (refine go_nw (hk := ?_); intro u; try simp only [List.length_cons, List.length_nil, List.nil_append, Nat.zero_add]) | (refine go_np (hk := ?_); intro id)) | (show GO _ _ _ _ _ (⟨none, none, _⟩ :: _) _; refine go_st (hk := ?_)) | (show GO _ _ _ _ _ (⟨_, some _, _⟩ :: _) _; first | refine go_in (hk := ?_) | refine go_out (hk := ?_) | refine go_void (hk := ?_)) | (show GK _ _ _ _ (blockK _ _ _); refine gk_past rfl ?_) | (show GC _ _ _ _ _ (.cond _ _ _) _; first | refine gc_yes (h1 := ?_) | refine gc_no (h1 := ?_))))
      refine gk_ret rfl fun H' hH => ⟨bool_iff ⟨fun h => .inl ⟨hk, each.2 ⟨0, by omega, by simpa using h⟩⟩, fun h => ?_⟩, hH.leE⟩
      rcases h with h | h
      · obtain ⟨k, k1, k2⟩ := each.1 h.2
        by_cases e : k = 0
        · subst e; simpa using k2
        · exact absurd k2 (hno k (by omega) (by omega))
      · exact absurd (hk.symm.trans h.1) hle'
  · (repeat (first | with_reducible (first | refine go_nil ?_ | refine gk_seq ?_ | refine gc_seq ?_ | refine gc_reg ?_ | refine gc_skip ?_ | refine gk_block ?_ | refine gc_block ?_ | refine gc_exit ?_ | refine gc_ret ?_ | refine gk_seqret ?_ | refine gk_seqexit ?_ | refine gk_blockret ?_ | refine gk_out ?_ | refine gk_loopret ?_ | refine gk_loopexit ?_) | (show GO _ _ _ _ _ (⟨some _, none, _⟩ :: _) _; first | refine go_op (hk := ?_) | (refine go_nw (hk := ?_); intro u; try simp only [List.length_cons, List.length_nil, List.nil_append, Nat.zero_add]) | (refine go_np (hk := ?_); intro id)) | (show GO _ _ _ _ _ (⟨none, none, _⟩ :: _) _; refine go_st (hk := ?_)) | (show GO _ _ _ _ _ (⟨_, some _, _⟩ :: _) _; first | refine go_in (hk := ?_) | refine go_out (hk := ?_) | refine go_void (hk := ?_)) | (show GK _ _ _ _ (blockK _ _ _); refine gk_past rfl ?_) | (show GC _ _ _ _ _ (.cond _ _ _) _; first | refine gc_yes (h1 := ?_) | refine gc_no (h1 := ?_))))
    refine gc_cond rfl (fun hk2 => ?_) (fun hk2 => ?_)
    · (repeat (first | with_reducible (first | refine go_nil ?_ | refine gk_seq ?_ | refine gc_seq ?_ | refine gc_reg ?_ | refine gc_skip ?_ | refine gk_block ?_ | refine gc_block ?_ | refine gc_exit ?_ | refine gc_ret ?_ | refine gk_seqret ?_ | refine gk_seqexit ?_ | refine gk_blockret ?_ | refine gk_out ?_ | refine gk_loopret ?_ | refine gk_loopexit ?_) | (show GO _ _ _ _ _ (⟨some _, none, _⟩ :: _) _; first | refine go_op (hk := ?_) | (refine go_nw (hk := ?_); intro u; try simp only [List.length_cons, List.length_nil, List.nil_append, Nat.zero_add]) | (refine go_np (hk := ?_); intro id)) | (show GO _ _ _ _ _ (⟨none, none, _⟩ :: _) _; refine go_st (hk := ?_)) | (show GO _ _ _ _ _ (⟨_, some _, _⟩ :: _) _; first | refine go_in (hk := ?_) | refine go_out (hk := ?_) | refine go_void (hk := ?_)) | (show GK _ _ _ _ (blockK _ _ _); refine gk_past rfl ?_) | (show GC _ _ _ _ _ (.cond _ _ _) _; first | refine gc_yes (h1 := ?_) | refine gc_no (h1 := ?_))))
      exact gk_ret rfl fun H' hH => ⟨bool_iff ⟨fun h => .inr ⟨hk2, least.2 h⟩, fun h => h.elim (fun h => absurd h.1 hk) (fun h => least.1 h.2)⟩, hH.leE⟩
    · (repeat (first | with_reducible (first | refine go_nil ?_ | refine gk_seq ?_ | refine gc_seq ?_ | refine gc_reg ?_ | refine gc_skip ?_ | refine gk_block ?_ | refine gc_block ?_ | refine gc_exit ?_ | refine gc_ret ?_ | refine gk_seqret ?_ | refine gk_seqexit ?_ | refine gk_blockret ?_ | refine gk_out ?_ | refine gk_loopret ?_ | refine gk_loopexit ?_) | (show GO _ _ _ _ _ (⟨some _, none, _⟩ :: _) _; first | refine go_op (hk := ?_) | (refine go_nw (hk := ?_); intro u; try simp only [List.length_cons, List.length_nil, List.nil_append, Nat.zero_add]) | (refine go_np (hk := ?_); intro id)) | (show GO _ _ _ _ _ (⟨none, none, _⟩ :: _) _; refine go_st (hk := ?_)) | (show GO _ _ _ _ _ (⟨_, some _, _⟩ :: _) _; first | refine go_in (hk := ?_) | refine go_out (hk := ?_) | refine go_void (hk := ?_)) | (show GK _ _ _ _ (blockK _ _ _); refine gk_past rfl ?_) | (show GC _ _ _ _ _ (.cond _ _ _) _; first | refine gc_yes (h1 := ?_) | refine gc_no (h1 := ?_))))
      exact gk_ret rfl fun H' hH => ⟨bool_no (fun h => h.elim (fun h => hk h.1) (fun h => hk2 h.1)), hH.leE⟩

def FndK (xs : List Int) (lev : Int) (kd : List UInt8) (p : Nat) : Prop := FndS (selS xs p) lev kd

instance (xs : List Int) (lev : Int) (kd : List UInt8) (p : Nat) : Decidable (FndK xs lev kd p) := by unfold FndK; exact inferInstance

/-- the places of a set -/
def cbT (c : Nat) : Nat → List Int
  | 0 => []
  | i + 1 => if bitN c i = 1 then cbT c i ++ [(i : Int)] else cbT c i

theorem cbT_len (c : Nat) : ∀ i, (cbT c i).length ≤ i
  | 0 => Nat.le_refl _
  | i + 1 => by
    have := cbT_len c i
    rw [cbT]
    split
    · rw [List.length_append]; simp; omega
    · omega

theorem bit_some {p n : Nat} (h1 : 1 ≤ p) (h2 : p < 2 ^ n) : ∃ j, j < n ∧ bitN p j = 1 := by
  obtain ⟨j, hj⟩ := Nat.exists_testBit_of_ne_zero (x := p) (by omega)
  refine ⟨j, ?_, by rw [bitN_tb, if_pos hj]⟩
  rcases Nat.lt_or_ge j n with h | h
  · exact h
  · have h3 : 2 ^ n ≤ 2 ^ j := Nat.pow_le_pow_right (by decide) h
    rw [Nat.testBit_lt_two_pow (by omega)] at hj
    cases hj

theorem bitN_one {i : Nat} : bitN (2 ^ i) i = 1 := by rw [bitN_tb, if_pos Nat.testBit_two_pow_self]

theorem bitN_andn {c p i : Nat} (hi : i < 64) (hp : p < 18446744073709551616) : bitN (c &&& (18446744073709551615 - p)) i = 1 ↔ bitN c i = 1 ∧ bitN p i = 0 := by
  have e : 18446744073709551615 - p = 2 ^ 64 - (p + 1) := by omega
  rw [bitN_tb, bitN_tb, bitN_tb, Nat.testBit_and, e, Nat.testBit_two_pow_sub_succ (by omega)]
  simp only [hi, decide_true, Bool.true_and]
  cases c.testBit i <;> cases p.testBit i <;> simp

theorem all_bits {n i : Nat} (hi : i < n) : bitN (2 ^ n - 1) i = 1 := by
  rw [bitN_tb, Nat.testBit_two_pow_sub_one, if_pos (by simpa using hi)]

def ClInv (xs : List Int) (lev : Int) (kd : List UInt8) (c q : Nat) : Prop := ∀ i, i < xs.length → (bitN c i = 1 ↔ ∀ p, 1 ≤ p → p ≤ q → bitN p i = 0 ∨ FndK xs lev kd p)

theorem clInv_no {xs : List Int} {lev : Int} {kd : List UInt8} {c q : Nat} (hn : xs.length ≤ 6) (hq : q + 1 ≤ 2 ^ xs.length - 1) (h : ClInv xs lev kd c q) (hf : ¬ FndK xs lev kd (q + 1)) : ClInv xs lev kd (c &&& (18446744073709551615 - (q + 1))) (q + 1) := by
  have h2p := two_pow6 hn
  intro i hi
  rw [bitN_andn (by omega) (by omega), h i hi]
  refine ⟨fun ⟨h1, h2⟩ p k1 k2 => ?_, fun h1 => ⟨fun p k1 k2 => h1 p k1 (by omega), ?_⟩⟩
  · by_cases e : p = q + 1
    · subst e; exact .inl h2
    · exact h1 p k1 (by omega)
  · exact (h1 (q + 1) (by omega) (Nat.le_refl _)).resolve_right hf

theorem clInv_yes {xs : List Int} {lev : Int} {kd : List UInt8} {c q : Nat} (h : ClInv xs lev kd c q) (hf : FndK xs lev kd (q + 1)) : ClInv xs lev kd c (q + 1) := by
  intro i hi
  rw [h i hi]
  refine ⟨fun h1 p k1 k2 => ?_, fun h1 p k1 k2 => h1 p k1 (by omega)⟩
  by_cases e : p = q + 1
  · subst e; exact .inr hf
  · exact h1 p k1 (by omega)

theorem cl_out {xs : List Int} {lev : Int} {kd : List UInt8} {c : Nat} (hx : OddsOk xs) (hl : 0 ≤ lev ∧ lev ≤ 1000) (h : ClInv xs lev kd c (2 ^ xs.length - 1)) : cbT c xs.length = clX xs lev kd := by
  have hn : xs.length ≤ 6 := hx.2.2
  by_cases hk : kd = leastB ∨ kd = eachB
  · rw [clX, if_pos ⟨hx, hl, hk⟩]
    have hle : leastB ≠ eachB := by decide
    have e : ∀ p, FndK xs lev kd p ↔ heldP xs p lev (decide (kd = eachB)) := by
      intro p
      unfold FndK FndS heldP
      rcases hk with rfl | rfl
      · simp only [hle, decide_false, false_and, false_or, true_and]
      · simp only [decide_true, true_and, hle.symm, false_and, or_false]
    have : ∀ i, i ≤ xs.length → cbT c i = clT xs lev (decide (kd = eachB)) i := by
      intro i
      induction i with
      | zero => intro _; rfl
      | succ i ih =>
        intro hi
        have h1 : bitN c i = 1 ↔ okP xs lev (decide (kd = eachB)) i (2 ^ xs.length - 1) := by
          rw [h i (by omega), okP_iff]
          simp only [e]
        rw [cbT, clT, ih (by omega)]
        by_cases h2 : bitN c i = 1
        · rw [if_pos h2, if_pos (h1.1 h2)]
        · rw [if_neg h2, if_neg (fun h3 => h2 (h1.2 h3))]
    exact this _ (Nat.le_refl _)
  · rw [clX, if_neg (fun h => hk h.2.2)]
    have nf : ∀ p, ¬ FndK xs lev kd p := fun p hf => hk (hf.elim (fun h => .inr h.1) (fun h => .inl h.1))
    have : ∀ i, i ≤ xs.length → cbT c i = [] := by
      intro i
      induction i with
      | zero => intro _; rfl
      | succ i ih =>
        intro hi
        rw [cbT, ih (by omega), if_neg]
        intro h1
        have h2 : 2 ^ i < 2 ^ xs.length := Nat.pow_lt_pow_right (by decide) (by omega)
        rcases (h i (by omega)).1 h1 (2 ^ i) Nat.one_le_two_pow (by omega) with h3 | h3
        · rw [bitN_one] at h3; cases h3
        · exact nf _ h3
    exact this _ (Nat.le_refl _)

theorem implClosedBy_ok {H : Heap} {a : AV} {xs : List Int} {lev : Int} {kd : List UInt8} (ha : Ints H a xs) (hl : xs.length ≤ 1048576) : ACalls Try.prog fn_impl_ClosedBy [a, .int .i64 lev, .str kd] H fun r H' => OwnI H H' r (clX xs lev kd) ∧ Le H H' := by
  refine code_impl_ClosedBy.go [.roI a xs.length xs] ⟨⟨rfl, ha⟩, trivial⟩ (by simp) ?_
  unfold mc_impl_ClosedBy
  (repeat (first | with_reducible (first | refine go_nil ?_ | refine gk_seq ?_ | refine gc_seq ?_ | refine gc_reg ?_ | refine gc_skip ?_ | refine gk_block ?_ | refine gc_block ?_ | refine gc_exit ?_ | refine gc_ret ?_ | refine gk_seqret ?_ | refine gk_seqexit ?_ | refine gk_blockret ?_ | refine gk_out ?_ | refine gk_loopret ?_ | refine gk_loopexit ?_) | (show GO _ _ _ _ _ (⟨some _, none, .call _ _⟩ :: _) _; first | (show GO _ _ _ _ _ (⟨some _, none, .call fn_impl_ValidOdds _⟩ :: _) _; refine go_callp rfl code_impl_ValidOdds.callable (fun H hH => implValidOdds_ok (hH.ints (by exact Has.auto)) (by omega)) ?_) | (show GO _ _ _ _ _ (⟨some _, none, .call fn_impl_validOdd _⟩ :: _) _; refine go_callp rfl code_impl_validOdd.callable (fun H hH => implValidOdd_ok) ?_) | (show GO _ _ _ _ _ (⟨some _, none, .call fn_impl_firstPlaces _⟩ :: _) _; refine go_callp rfl code_impl_firstPlaces.callable (fun H hH => firstPlaces_ok (by omega)) ?_) | (show GO _ _ _ _ _ (⟨some _, none, .call fn_impl_oddsAt _⟩ :: _) _; refine go_calln rfl code_impl_oddsAt.callable (fun H hH => oddsAt_ok (hH.ints (by exact Has.auto)) (by omega)) ?_; intro u) | (show GO _ _ _ _ _ (⟨some _, none, .call fn_impl_places_has _⟩ :: _) _; refine go_callp rfl code_impl_places_has.callable (fun H hH => has_ok (by omega)) ?_)) | (show GO _ _ _ _ _ (⟨some _, none, _⟩ :: _) _; first | refine go_op (hk := ?_) | (refine go_nw (hk := ?_); intro u; try simp only [List.length_cons, List.length_nil, List.nil_append, Nat.zero_add]) | (refine go_np (hk := ?_); intro id)) | (show GO _ _ _ _ _ (⟨none, none, _⟩ :: _) _; refine go_st (hk := ?_)) | (show GO _ _ _ _ _ (⟨_, some _, _⟩ :: _) _; first | refine go_in (hk := ?_) | refine go_out (hk := ?_) | refine go_void (hk := ?_)) | (show GK _ _ _ _ (blockK _ _ _); refine gk_past rfl ?_) | (show GC _ _ _ _ _ (.cond _ _ _) _; first | refine gc_yes (h1 := ?_) | refine gc_no (h1 := ?_))))
  refine go_split 15 rfl (fun h1 => ?_) (fun h1 => ?_)
  · (repeat (first | with_reducible (first | refine go_nil ?_ | refine gk_seq ?_ | refine gc_seq ?_ | refine gc_reg ?_ | refine gc_skip ?_ | refine gk_block ?_ | refine gc_block ?_ | refine gc_exit ?_ | refine gc_ret ?_ | refine gk_seqret ?_ | refine gk_seqexit ?_ | refine gk_blockret ?_ | refine gk_out ?_ | refine gk_loopret ?_ | refine gk_loopexit ?_) | (show GO _ _ _ _ _ (⟨some _, none, .call _ _⟩ :: _) _; first | (show GO _ _ _ _ _ (⟨some _, none, .call fn_impl_ValidOdds _⟩ :: _) _; refine go_callp rfl code_impl_ValidOdds.callable (fun H hH => implValidOdds_ok (hH.ints (by exact Has.auto)) (by omega)) ?_) | (show GO _ _ _ _ _ (⟨some _, none, .call fn_impl_validOdd _⟩ :: _) _; refine go_callp rfl code_impl_validOdd.callable (fun H hH => implValidOdd_ok) ?_) | (show GO _ _ _ _ _ (⟨some _, none, .call fn_impl_firstPlaces _⟩ :: _) _; refine go_callp rfl code_impl_firstPlaces.callable (fun H hH => firstPlaces_ok (by omega)) ?_) | (show GO _ _ _ _ _ (⟨some _, none, .call fn_impl_oddsAt _⟩ :: _) _; refine go_calln rfl code_impl_oddsAt.callable (fun H hH => oddsAt_ok (hH.ints (by exact Has.auto)) (by omega)) ?_; intro u) | (show GO _ _ _ _ _ (⟨some _, none, .call fn_impl_places_has _⟩ :: _) _; refine go_callp rfl code_impl_places_has.callable (fun H hH => has_ok (by omega)) ?_)) | (show GO _ _ _ _ _ (⟨some _, none, _⟩ :: _) _; first | refine go_op (hk := ?_) | (refine go_nw (hk := ?_); intro u; try simp only [List.length_cons, List.length_nil, List.nil_append, Nat.zero_add]) | (refine go_np (hk := ?_); intro id)) | (show GO _ _ _ _ _ (⟨none, none, _⟩ :: _) _; refine go_st (hk := ?_)) | (show GO _ _ _ _ _ (⟨_, some _, _⟩ :: _) _; first | refine go_in (hk := ?_) | refine go_out (hk := ?_) | refine go_void (hk := ?_)) | (show GK _ _ _ _ (blockK _ _ _); refine gk_past rfl ?_) | (show GC _ _ _ _ _ (.cond _ _ _) _; first | refine gc_yes (h1 := ?_) | refine gc_no (h1 := ?_))))
    exact gk_ret rfl fun H' hH => ⟨by rw [clX, if_neg (fun hc => h1 hc.1)]; exact Own.nil _ _ _, hH.leE⟩
  (repeat (first | with_reducible (first | refine go_nil ?_ | refine gk_seq ?_ | refine gc_seq ?_ | refine gc_reg ?_ | refine gc_skip ?_ | refine gk_block ?_ | refine gc_block ?_ | refine gc_exit ?_ | refine gc_ret ?_ | refine gk_seqret ?_ | refine gk_seqexit ?_ | refine gk_blockret ?_ | refine gk_out ?_ | refine gk_loopret ?_ | refine gk_loopexit ?_) | (show GO _ _ _ _ _ (⟨some _, none, .call _ _⟩ :: _) _; first | (show GO _ _ _ _ _ (⟨some _, none, .call fn_impl_ValidOdds _⟩ :: _) _; refine go_callp rfl code_impl_ValidOdds.callable (fun H hH => implValidOdds_ok (hH.ints (by exact Has.auto)) (by omega)) ?_) | (show GO _ _ _ _ _ (⟨some _, none, .call fn_impl_validOdd _⟩ :: _) _; refine go_callp rfl code_impl_validOdd.callable (fun H hH => implValidOdd_ok) ?_) | (show GO _ _ _ _ _ (⟨some _, none, .call fn_impl_firstPlaces _⟩ :: _) _; refine go_callp rfl code_impl_firstPlaces.callable (fun H hH => firstPlaces_ok (by omega)) ?_) | (show GO _ _ _ _ _ (⟨some _, none, .call fn_impl_oddsAt _⟩ :: _) _; refine go_calln rfl code_impl_oddsAt.callable (fun H hH => oddsAt_ok (hH.ints (by exact Has.auto)) (by omega)) ?_; intro u) | (show GO _ _ _ _ _ (⟨some _, none, .call fn_impl_places_has _⟩ :: _) _; refine go_callp rfl code_impl_places_has.callable (fun H hH => has_ok (by omega)) ?_)) | (show GO _ _ _ _ _ (⟨some _, none, _⟩ :: _) _; first | refine go_op (hk := ?_) | (refine go_nw (hk := ?_); intro u; try simp only [List.length_cons, List.length_nil, List.nil_append, Nat.zero_add]) | (refine go_np (hk := ?_); intro id)) | (show GO _ _ _ _ _ (⟨none, none, _⟩ :: _) _; refine go_st (hk := ?_)) | (show GO _ _ _ _ _ (⟨_, some _, _⟩ :: _) _; first | refine go_in (hk := ?_) | refine go_out (hk := ?_) | refine go_void (hk := ?_)) | (show GK _ _ _ _ (blockK _ _ _); refine gk_past rfl ?_) | (show GC _ _ _ _ _ (.cond _ _ _) _; first | refine gc_yes (h1 := ?_) | refine gc_no (h1 := ?_))))
  refine gc_cond rfl (fun h2 => ?_) (fun h2 => ?_)
  · (repeat (first | with_reducible (first | refine go_nil ?_ | refine gk_seq ?_ | refine gc_seq ?_ | refine gc_reg ?_ | refine gc_skip ?_ | refine gk_block ?_ | refine gc_block ?_ | refine gc_exit ?_ | refine gc_ret ?_ | refine gk_seqret ?_ | refine gk_seqexit ?_ | refine gk_blockret ?_ | refine gk_out ?_ | refine gk_loopret ?_ | refine gk_loopexit ?_) | (show GO _ _ _ _ _ (⟨some _, none, .call _ _⟩ :: _) _; first | (show GO _ _ _ _ _ (⟨some _, none, .call fn_impl_ValidOdds _⟩ :: _) _; refine go_callp rfl code_impl_ValidOdds.callable (fun H hH => implValidOdds_ok (hH.ints (by exact Has.auto)) (by omega)) ?_) | (show GO _ _ _ _ _ (⟨some _, none, .call fn_impl_validOdd _⟩ :: _) _; refine go_callp rfl code_impl_validOdd.callable (fun H hH => implValidOdd_ok) ?_) | (show GO _ _ _ _ _ (⟨some _, none, .call fn_impl_firstPlaces _⟩ :: _) _; refine go_callp rfl code_impl_firstPlaces.callable (fun H hH => firstPlaces_ok (by omega)) ?_) | (show GO _ _ _ _ _ (⟨some _, none, .call fn_impl_oddsAt _⟩ :: _) _; refine go_calln rfl code_impl_oddsAt.callable (fun H hH => oddsAt_ok (hH.ints (by exact Has.auto)) (by omega)) ?_; intro u) | (show GO _ _ _ _ _ (⟨some _, none, .call fn_impl_places_has _⟩ :: _) _; refine go_callp rfl code_impl_places_has.callable (fun H hH => has_ok (by omega)) ?_)) | (show GO _ _ _ _ _ (⟨some _, none, _⟩ :: _) _; first | refine go_op (hk := ?_) | (refine go_nw (hk := ?_); intro u; try simp only [List.length_cons, List.length_nil, List.nil_append, Nat.zero_add]) | (refine go_np (hk := ?_); intro id)) | (show GO _ _ _ _ _ (⟨none, none, _⟩ :: _) _; refine go_st (hk := ?_)) | (show GO _ _ _ _ _ (⟨_, some _, _⟩ :: _) _; first | refine go_in (hk := ?_) | refine go_out (hk := ?_) | refine go_void (hk := ?_)) | (show GK _ _ _ _ (blockK _ _ _); refine gk_past rfl ?_) | (show GC _ _ _ _ _ (.cond _ _ _) _; first | refine gc_yes (h1 := ?_) | refine gc_no (h1 := ?_))))
    exact gk_ret rfl fun H' hH => ⟨by rw [clX, if_neg (fun hc => h2 hc.2.1)]; exact Own.nil _ _ _, hH.leE⟩
  have hx := Decidable.not_not.1 h1
  have hlv := Decidable.not_not.1 h2
  have hn : xs.length ≤ 6 := hx.2.2
  have h2p := two_pow6 hn
  (repeat (first | with_reducible (first | refine go_nil ?_ | refine gk_seq ?_ | refine gc_seq ?_ | refine gc_reg ?_ | refine gc_skip ?_ | refine gk_block ?_ | refine gc_block ?_ | refine gc_exit ?_ | refine gc_ret ?_ | refine gk_seqret ?_ | refine gk_seqexit ?_ | refine gk_blockret ?_ | refine gk_out ?_ | refine gk_loopret ?_ | refine gk_loopexit ?_) | (show GO _ _ _ _ _ (⟨some _, none, .call _ _⟩ :: _) _; first | (show GO _ _ _ _ _ (⟨some _, none, .call fn_impl_ValidOdds _⟩ :: _) _; refine go_callp rfl code_impl_ValidOdds.callable (fun H hH => implValidOdds_ok (hH.ints (by exact Has.auto)) (by omega)) ?_) | (show GO _ _ _ _ _ (⟨some _, none, .call fn_impl_validOdd _⟩ :: _) _; refine go_callp rfl code_impl_validOdd.callable (fun H hH => implValidOdd_ok) ?_) | (show GO _ _ _ _ _ (⟨some _, none, .call fn_impl_firstPlaces _⟩ :: _) _; refine go_callp rfl code_impl_firstPlaces.callable (fun H hH => firstPlaces_ok (by omega)) ?_) | (show GO _ _ _ _ _ (⟨some _, none, .call fn_impl_oddsAt _⟩ :: _) _; refine go_calln rfl code_impl_oddsAt.callable (fun H hH => oddsAt_ok (hH.ints (by exact Has.auto)) (by omega)) ?_; intro u) | (show GO _ _ _ _ _ (⟨some _, none, .call fn_impl_places_has _⟩ :: _) _; refine go_callp rfl code_impl_places_has.callable (fun H hH => has_ok (by omega)) ?_)) | (show GO _ _ _ _ _ (⟨some _, none, _⟩ :: _) _; first | refine go_op (hk := ?_) | (refine go_nw (hk := ?_); intro u; try simp only [List.length_cons, List.length_nil, List.nil_append, Nat.zero_add]) | (refine go_np (hk := ?_); intro id)) | (show GO _ _ _ _ _ (⟨none, none, _⟩ :: _) _; refine go_st (hk := ?_)) | (show GO _ _ _ _ _ (⟨_, some _, _⟩ :: _) _; first | refine go_in (hk := ?_) | refine go_out (hk := ?_) | refine go_void (hk := ?_)) | (show GK _ _ _ _ (blockK _ _ _); refine gk_past rfl ?_) | (show GC _ _ _ _ _ (.cond _ _ _) _; first | refine gc_yes (h1 := ?_) | refine gc_no (h1 := ?_))))
  refine gc_loop (γ := Nat × Nat) (fun g => [(0, a), (1, .int .i64 lev), (2, .str kd), (7, .int .u64 ((2 ^ xs.length - 1 : Nat) : Int)), (8, .int .u64 (g.1 : Int)), (9, .int .u64 ((g.2 + 1 : Nat) : Int))]) (fun _ => [.roI a xs.length xs]) (fun g => g.1 ≤ 2 ^ xs.length - 1 ∧ g.2 ≤ 2 ^ xs.length - 1 ∧ ClInv xs lev kd g.1 g.2) (fun g => 2 ^ xs.length - 1 - g.2) (2 ^ xs.length - 1, 0) ⟨Nat.le_refl _, Nat.zero_le _, fun i hi => ⟨fun _ p k1 k2 => by omega, fun _ => all_bits hi⟩⟩ (hb := ?_)
  rintro ⟨c, q⟩ ⟨hc, hq, hinv⟩ I ν m hnx
  have hc : c ≤ 2 ^ xs.length - 1 := hc
  have hq : q ≤ 2 ^ xs.length - 1 := hq
  have hinv : ClInv xs lev kd c q := hinv
  (repeat (first | with_reducible (first | refine go_nil ?_ | refine gk_seq ?_ | refine gc_seq ?_ | refine gc_reg ?_ | refine gc_skip ?_ | refine gk_block ?_ | refine gc_block ?_ | refine gc_exit ?_ | refine gc_ret ?_ | refine gk_seqret ?_ | refine gk_seqexit ?_ | refine gk_blockret ?_ | refine gk_out ?_ | refine gk_loopret ?_ | refine gk_loopexit ?_) | (show GO _ _ _ _ _ (⟨some _, none, .call _ _⟩ :: _) _; first | (show GO _ _ _ _ _ (⟨some _, none, .call fn_impl_ValidOdds _⟩ :: _) _; refine go_callp rfl code_impl_ValidOdds.callable (fun H hH => implValidOdds_ok (hH.ints (by exact Has.auto)) (by omega)) ?_) | (show GO _ _ _ _ _ (⟨some _, none, .call fn_impl_validOdd _⟩ :: _) _; refine go_callp rfl code_impl_validOdd.callable (fun H hH => implValidOdd_ok) ?_) | (show GO _ _ _ _ _ (⟨some _, none, .call fn_impl_firstPlaces _⟩ :: _) _; refine go_callp rfl code_impl_firstPlaces.callable (fun H hH => firstPlaces_ok (by omega)) ?_) | (show GO _ _ _ _ _ (⟨some _, none, .call fn_impl_oddsAt _⟩ :: _) _; refine go_calln rfl code_impl_oddsAt.callable (fun H hH => oddsAt_ok (hH.ints (by exact Has.auto)) (by omega)) ?_; intro u) | (show GO _ _ _ _ _ (⟨some _, none, .call fn_impl_places_has _⟩ :: _) _; refine go_callp rfl code_impl_places_has.callable (fun H hH => has_ok (by omega)) ?_)) | (show GO _ _ _ _ _ (⟨some _, none, _⟩ :: _) _; first | refine go_op (hk := ?_) | (refine go_nw (hk := ?_); intro u; try simp only [List.length_cons, List.length_nil, List.nil_append, Nat.zero_add]) | (refine go_np (hk := ?_); intro id)) | (show GO _ _ _ _ _ (⟨none, none, _⟩ :: _) _; refine go_st (hk := ?_)) | (show GO _ _ _ _ _ (⟨_, some _, _⟩ :: _) _; first | refine go_in (hk := ?_) | refine go_out (hk := ?_) | refine go_void (hk := ?_)) | (show GK _ _ _ _ (blockK _ _ _); refine gk_past rfl ?_) | (show GC _ _ _ _ _ (.cond _ _ _) _; first | refine gc_yes (h1 := ?_) | refine gc_no (h1 := ?_))))
  refine gc_cond rfl (fun h => ?_) (fun h => ?_)
  · (repeat (first | with_reducible (first | refine go_nil ?_ | refine gk_seq ?_ | refine gc_seq ?_ | refine gc_reg ?_ | refine gc_skip ?_ | refine gk_block ?_ | refine gc_block ?_ | refine gc_exit ?_ | refine gc_ret ?_ | refine gk_seqret ?_ | refine gk_seqexit ?_ | refine gk_blockret ?_ | refine gk_out ?_ | refine gk_loopret ?_ | refine gk_loopexit ?_) | (show GO _ _ _ _ _ (⟨some _, none, .call _ _⟩ :: _) _; first | (show GO _ _ _ _ _ (⟨some _, none, .call fn_impl_ValidOdds _⟩ :: _) _; refine go_callp rfl code_impl_ValidOdds.callable (fun H hH => implValidOdds_ok (hH.ints (by exact Has.auto)) (by omega)) ?_) | (show GO _ _ _ _ _ (⟨some _, none, .call fn_impl_validOdd _⟩ :: _) _; refine go_callp rfl code_impl_validOdd.callable (fun H hH => implValidOdd_ok) ?_) | (show GO _ _ _ _ _ (⟨some _, none, .call fn_impl_firstPlaces _⟩ :: _) _; refine go_callp rfl code_impl_firstPlaces.callable (fun H hH => firstPlaces_ok (by omega)) ?_) | (show GO _ _ _ _ _ (⟨some _, none, .call fn_impl_oddsAt _⟩ :: _) _; refine go_calln rfl code_impl_oddsAt.callable (fun H hH => oddsAt_ok (hH.ints (by exact Has.auto)) (by omega)) ?_; intro u) | (show GO _ _ _ _ _ (⟨some _, none, .call fn_impl_places_has _⟩ :: _) _; refine go_callp rfl code_impl_places_has.callable (fun H hH => has_ok (by omega)) ?_)) | (show GO _ _ _ _ _ (⟨some _, none, _⟩ :: _) _; first | refine go_op (hk := ?_) | (refine go_nw (hk := ?_); intro u; try simp only [List.length_cons, List.length_nil, List.nil_append, Nat.zero_add]) | (refine go_np (hk := ?_); intro id)) | (show GO _ _ _ _ _ (⟨none, none, _⟩ :: _) _; refine go_st (hk := ?_)) | (show GO _ _ _ _ _ (⟨_, some _, _⟩ :: _) _; first | refine go_in (hk := ?_) | refine go_out (hk := ?_) | refine go_void (hk := ?_)) | (show GK _ _ _ _ (blockK _ _ _); refine gk_past rfl ?_) | (show GC _ _ _ _ _ (.cond _ _ _) _; first | refine gc_yes (h1 := ?_) | refine gc_no (h1 := ?_))))
    have hS := selS_len xs (q + 1)
    obtain ⟨j, hj, hb⟩ := bit_some (p := q + 1) (n := xs.length) (by omega) (by omega)
    obtain ⟨m1, hm1, _⟩ := selS_has hj hb
    refine go_callp rfl code_impl_foundTogether.callable (fun H hH => foundTogether_ok (S := selS xs (q + 1)) (hH.ints (by exact Has.auto)) (sortL_up _) (by omega) (by omega) (fun i hi => selS_in hx hi) hlv) ?_
    (repeat (first | with_reducible (first | refine go_nil ?_ | refine gk_seq ?_ | refine gc_seq ?_ | refine gc_reg ?_ | refine gc_skip ?_ | refine gk_block ?_ | refine gc_block ?_ | refine gc_exit ?_ | refine gc_ret ?_ | refine gk_seqret ?_ | refine gk_seqexit ?_ | refine gk_blockret ?_ | refine gk_out ?_ | refine gk_loopret ?_ | refine gk_loopexit ?_) | (show GO _ _ _ _ _ (⟨some _, none, .call _ _⟩ :: _) _; first | (show GO _ _ _ _ _ (⟨some _, none, .call fn_impl_ValidOdds _⟩ :: _) _; refine go_callp rfl code_impl_ValidOdds.callable (fun H hH => implValidOdds_ok (hH.ints (by exact Has.auto)) (by omega)) ?_) | (show GO _ _ _ _ _ (⟨some _, none, .call fn_impl_validOdd _⟩ :: _) _; refine go_callp rfl code_impl_validOdd.callable (fun H hH => implValidOdd_ok) ?_) | (show GO _ _ _ _ _ (⟨some _, none, .call fn_impl_firstPlaces _⟩ :: _) _; refine go_callp rfl code_impl_firstPlaces.callable (fun H hH => firstPlaces_ok (by omega)) ?_) | (show GO _ _ _ _ _ (⟨some _, none, .call fn_impl_oddsAt _⟩ :: _) _; refine go_calln rfl code_impl_oddsAt.callable (fun H hH => oddsAt_ok (hH.ints (by exact Has.auto)) (by omega)) ?_; intro u) | (show GO _ _ _ _ _ (⟨some _, none, .call fn_impl_places_has _⟩ :: _) _; refine go_callp rfl code_impl_places_has.callable (fun H hH => has_ok (by omega)) ?_)) | (show GO _ _ _ _ _ (⟨some _, none, _⟩ :: _) _; first | refine go_op (hk := ?_) | (refine go_nw (hk := ?_); intro u; try simp only [List.length_cons, List.length_nil, List.nil_append, Nat.zero_add]) | (refine go_np (hk := ?_); intro id)) | (show GO _ _ _ _ _ (⟨none, none, _⟩ :: _) _; refine go_st (hk := ?_)) | (show GO _ _ _ _ _ (⟨_, some _, _⟩ :: _) _; first | refine go_in (hk := ?_) | refine go_out (hk := ?_) | refine go_void (hk := ?_)) | (show GK _ _ _ _ (blockK _ _ _); refine gk_past rfl ?_) | (show GC _ _ _ _ _ (.cond _ _ _) _; first | refine gc_yes (h1 := ?_) | refine gc_no (h1 := ?_))))
    refine gc_cond rfl (fun h3 => ?_) (fun h3 => ?_)
    · (repeat (first | with_reducible (first | refine go_nil ?_ | refine gk_seq ?_ | refine gc_seq ?_ | refine gc_reg ?_ | refine gc_skip ?_ | refine gk_block ?_ | refine gc_block ?_ | refine gc_exit ?_ | refine gc_ret ?_ | refine gk_seqret ?_ | refine gk_seqexit ?_ | refine gk_blockret ?_ | refine gk_out ?_ | refine gk_loopret ?_ | refine gk_loopexit ?_) | (show GO _ _ _ _ _ (⟨some _, none, .call _ _⟩ :: _) _; first | (show GO _ _ _ _ _ (⟨some _, none, .call fn_impl_ValidOdds _⟩ :: _) _; refine go_callp rfl code_impl_ValidOdds.callable (fun H hH => implValidOdds_ok (hH.ints (by exact Has.auto)) (by omega)) ?_) | (show GO _ _ _ _ _ (⟨some _, none, .call fn_impl_validOdd _⟩ :: _) _; refine go_callp rfl code_impl_validOdd.callable (fun H hH => implValidOdd_ok) ?_) | (show GO _ _ _ _ _ (⟨some _, none, .call fn_impl_firstPlaces _⟩ :: _) _; refine go_callp rfl code_impl_firstPlaces.callable (fun H hH => firstPlaces_ok (by omega)) ?_) | (show GO _ _ _ _ _ (⟨some _, none, .call fn_impl_oddsAt _⟩ :: _) _; refine go_calln rfl code_impl_oddsAt.callable (fun H hH => oddsAt_ok (hH.ints (by exact Has.auto)) (by omega)) ?_; intro u) | (show GO _ _ _ _ _ (⟨some _, none, .call fn_impl_places_has _⟩ :: _) _; refine go_callp rfl code_impl_places_has.callable (fun H hH => has_ok (by omega)) ?_)) | (show GO _ _ _ _ _ (⟨some _, none, _⟩ :: _) _; first | refine go_op (hk := ?_) | (refine go_nw (hk := ?_); intro u; try simp only [List.length_cons, List.length_nil, List.nil_append, Nat.zero_add]) | (refine go_np (hk := ?_); intro id)) | (show GO _ _ _ _ _ (⟨none, none, _⟩ :: _) _; refine go_st (hk := ?_)) | (show GO _ _ _ _ _ (⟨_, some _, _⟩ :: _) _; first | refine go_in (hk := ?_) | refine go_out (hk := ?_) | refine go_void (hk := ?_)) | (show GK _ _ _ _ (blockK _ _ _); refine gk_past rfl ?_) | (show GC _ _ _ _ _ (.cond _ _ _) _; first | refine gc_yes (h1 := ?_) | refine gc_no (h1 := ?_))))
      have : c &&& (18446744073709551615 - (q + 1)) ≤ c := Nat.and_le_left
      exact gk_next (hnx (c &&& (18446744073709551615 - (q + 1)), q + 1) ⟨by simp only; omega, by simp only; omega, clInv_no hn (by omega) hinv h3⟩ (by simp only; omega))
    · (repeat (first | with_reducible (first | refine go_nil ?_ | refine gk_seq ?_ | refine gc_seq ?_ | refine gc_reg ?_ | refine gc_skip ?_ | refine gk_block ?_ | refine gc_block ?_ | refine gc_exit ?_ | refine gc_ret ?_ | refine gk_seqret ?_ | refine gk_seqexit ?_ | refine gk_blockret ?_ | refine gk_out ?_ | refine gk_loopret ?_ | refine gk_loopexit ?_) | (show GO _ _ _ _ _ (⟨some _, none, .call _ _⟩ :: _) _; first | (show GO _ _ _ _ _ (⟨some _, none, .call fn_impl_ValidOdds _⟩ :: _) _; refine go_callp rfl code_impl_ValidOdds.callable (fun H hH => implValidOdds_ok (hH.ints (by exact Has.auto)) (by omega)) ?_) | (show GO _ _ _ _ _ (⟨some _, none, .call fn_impl_validOdd _⟩ :: _) _; refine go_callp rfl code_impl_validOdd.callable (fun H hH => implValidOdd_ok) ?_) | (show GO _ _ _ _ _ (⟨some _, none, .call fn_impl_firstPlaces _⟩ :: _) _; refine go_callp rfl code_impl_firstPlaces.callable (fun H hH => firstPlaces_ok (by omega)) ?_) | (show GO _ _ _ _ _ (⟨some _, none, .call fn_impl_oddsAt _⟩ :: _) _; refine go_calln rfl code_impl_oddsAt.callable (fun H hH => oddsAt_ok (hH.ints (by exact Has.auto)) (by omega)) ?_; intro u) | (show GO _ _ _ _ _ (⟨some _, none, .call fn_impl_places_has _⟩ :: _) _; refine go_callp rfl code_impl_places_has.callable (fun H hH => has_ok (by omega)) ?_)) | (show GO _ _ _ _ _ (⟨some _, none, _⟩ :: _) _; first | refine go_op (hk := ?_) | (refine go_nw (hk := ?_); intro u; try simp only [List.length_cons, List.length_nil, List.nil_append, Nat.zero_add]) | (refine go_np (hk := ?_); intro id)) | (show GO _ _ _ _ _ (⟨none, none, _⟩ :: _) _; refine go_st (hk := ?_)) | (show GO _ _ _ _ _ (⟨_, some _, _⟩ :: _) _; first | refine go_in (hk := ?_) | refine go_out (hk := ?_) | refine go_void (hk := ?_)) | (show GK _ _ _ _ (blockK _ _ _); refine gk_past rfl ?_) | (show GC _ _ _ _ _ (.cond _ _ _) _; first | refine gc_yes (h1 := ?_) | refine gc_no (h1 := ?_))))
      exact gk_next (hnx (c, q + 1) ⟨hc, by simp only; omega, clInv_yes hinv (Decidable.not_not.1 h3)⟩ (by simp only; omega))
  · have : q = 2 ^ xs.length - 1 := by omega
    subst this
    (repeat (first | with_reducible (first | refine go_nil ?_ | refine gk_seq ?_ | refine gc_seq ?_ | refine gc_reg ?_ | refine gc_skip ?_ | refine gk_block ?_ | refine gc_block ?_ | refine gc_exit ?_ | refine gc_ret ?_ | refine gk_seqret ?_ | refine gk_seqexit ?_ | refine gk_blockret ?_ | refine gk_out ?_ | refine gk_loopret ?_ | refine gk_loopexit ?_) | (show GO _ _ _ _ _ (⟨some _, none, .call _ _⟩ :: _) _; first | (show GO _ _ _ _ _ (⟨some _, none, .call fn_impl_ValidOdds _⟩ :: _) _; refine go_callp rfl code_impl_ValidOdds.callable (fun H hH => implValidOdds_ok (hH.ints (by exact Has.auto)) (by omega)) ?_) | (show GO _ _ _ _ _ (⟨some _, none, .call fn_impl_validOdd _⟩ :: _) _; refine go_callp rfl code_impl_validOdd.callable (fun H hH => implValidOdd_ok) ?_) | (show GO _ _ _ _ _ (⟨some _, none, .call fn_impl_firstPlaces _⟩ :: _) _; refine go_callp rfl code_impl_firstPlaces.callable (fun H hH => firstPlaces_ok (by omega)) ?_) | (show GO _ _ _ _ _ (⟨some _, none, .call fn_impl_oddsAt _⟩ :: _) _; refine go_calln rfl code_impl_oddsAt.callable (fun H hH => oddsAt_ok (hH.ints (by exact Has.auto)) (by omega)) ?_; intro u) | (show GO _ _ _ _ _ (⟨some _, none, .call fn_impl_places_has _⟩ :: _) _; refine go_callp rfl code_impl_places_has.callable (fun H hH => has_ok (by omega)) ?_)) | (show GO _ _ _ _ _ (⟨some _, none, _⟩ :: _) _; first | refine go_op (hk := ?_) | (refine go_nw (hk := ?_); intro u; try simp only [List.length_cons, List.length_nil, List.nil_append, Nat.zero_add]) | (refine go_np (hk := ?_); intro id)) | (show GO _ _ _ _ _ (⟨none, none, _⟩ :: _) _; refine go_st (hk := ?_)) | (show GO _ _ _ _ _ (⟨_, some _, _⟩ :: _) _; first | refine go_in (hk := ?_) | refine go_out (hk := ?_) | refine go_void (hk := ?_)) | (show GK _ _ _ _ (blockK _ _ _); refine gk_past rfl ?_) | (show GC _ _ _ _ _ (.cond _ _ _) _; first | refine gc_yes (h1 := ?_) | refine gc_no (h1 := ?_))))
    refine gc_nil ?_
    refine gc_upv xs.length (fun i u => [(8, .int .u64 (c : Int)), (10, u), (40, .int .i64 (xs.length : Int)), (41, .int .i64 (i : Int))]) (fun i u => [.rwI u (cbT c i).length (cbT c i)]) _ (hb := ?_)
    intro i u hi I ν m hk
    have hcl := cbT_len c i
    (repeat (first | with_reducible (first | refine go_nil ?_ | refine gk_seq ?_ | refine gc_seq ?_ | refine gc_reg ?_ | refine gc_skip ?_ | refine gk_block ?_ | refine gc_block ?_ | refine gc_exit ?_ | refine gc_ret ?_ | refine gk_seqret ?_ | refine gk_seqexit ?_ | refine gk_blockret ?_ | refine gk_out ?_ | refine gk_loopret ?_ | refine gk_loopexit ?_) | (show GO _ _ _ _ _ (⟨some _, none, .call _ _⟩ :: _) _; first | (show GO _ _ _ _ _ (⟨some _, none, .call fn_impl_ValidOdds _⟩ :: _) _; refine go_callp rfl code_impl_ValidOdds.callable (fun H hH => implValidOdds_ok (hH.ints (by exact Has.auto)) (by omega)) ?_) | (show GO _ _ _ _ _ (⟨some _, none, .call fn_impl_validOdd _⟩ :: _) _; refine go_callp rfl code_impl_validOdd.callable (fun H hH => implValidOdd_ok) ?_) | (show GO _ _ _ _ _ (⟨some _, none, .call fn_impl_firstPlaces _⟩ :: _) _; refine go_callp rfl code_impl_firstPlaces.callable (fun H hH => firstPlaces_ok (by omega)) ?_) | (show GO _ _ _ _ _ (⟨some _, none, .call fn_impl_oddsAt _⟩ :: _) _; refine go_calln rfl code_impl_oddsAt.callable (fun H hH => oddsAt_ok (hH.ints (by exact Has.auto)) (by omega)) ?_; intro u) | (show GO _ _ _ _ _ (⟨some _, none, .call fn_impl_places_has _⟩ :: _) _; refine go_callp rfl code_impl_places_has.callable (fun H hH => has_ok (by omega)) ?_)) | (show GO _ _ _ _ _ (⟨some _, none, _⟩ :: _) _; first | refine go_op (hk := ?_) | (refine go_nw (hk := ?_); intro u; try simp only [List.length_cons, List.length_nil, List.nil_append, Nat.zero_add]) | (refine go_np (hk := ?_); intro id)) | (show GO _ _ _ _ _ (⟨none, none, _⟩ :: _) _; refine go_st (hk := ?_)) | (show GO _ _ _ _ _ (⟨_, some _, _⟩ :: _) _; first | refine go_in (hk := ?_) | refine go_out (hk := ?_) | refine go_void (hk := ?_)) | (show GK _ _ _ _ (blockK _ _ _); refine gk_past rfl ?_) | (show GC _ _ _ _ _ (.cond _ _ _) _; first | refine gc_yes (h1 := ?_) | refine gc_no (h1 := ?_))))
    refine gc_cond rfl (fun h => ?_) (fun h => ?_)
    · have hk := hk (by omega)
      rw [cbT] at hk
      (repeat (first | with_reducible (first | refine go_nil ?_ | refine gk_seq ?_ | refine gc_seq ?_ | refine gc_reg ?_ | refine gc_skip ?_ | refine gk_block ?_ | refine gc_block ?_ | refine gc_exit ?_ | refine gc_ret ?_ | refine gk_seqret ?_ | refine gk_seqexit ?_ | refine gk_blockret ?_ | refine gk_out ?_ | refine gk_loopret ?_ | refine gk_loopexit ?_) | (show GO _ _ _ _ _ (⟨some _, none, .call _ _⟩ :: _) _; first | (show GO _ _ _ _ _ (⟨some _, none, .call fn_impl_ValidOdds _⟩ :: _) _; refine go_callp rfl code_impl_ValidOdds.callable (fun H hH => implValidOdds_ok (hH.ints (by exact Has.auto)) (by omega)) ?_) | (show GO _ _ _ _ _ (⟨some _, none, .call fn_impl_validOdd _⟩ :: _) _; refine go_callp rfl code_impl_validOdd.callable (fun H hH => implValidOdd_ok) ?_) | (show GO _ _ _ _ _ (⟨some _, none, .call fn_impl_firstPlaces _⟩ :: _) _; refine go_callp rfl code_impl_firstPlaces.callable (fun H hH => firstPlaces_ok (by omega)) ?_) | (show GO _ _ _ _ _ (⟨some _, none, .call fn_impl_oddsAt _⟩ :: _) _; refine go_calln rfl code_impl_oddsAt.callable (fun H hH => oddsAt_ok (hH.ints (by exact Has.auto)) (by omega)) ?_; intro u) | (show GO _ _ _ _ _ (⟨some _, none, .call fn_impl_places_has _⟩ :: _) _; refine go_callp rfl code_impl_places_has.callable (fun H hH => has_ok (by omega)) ?_)) | (show GO _ _ _ _ _ (⟨some _, none, _⟩ :: _) _; first | refine go_op (hk := ?_) | (refine go_nw (hk := ?_); intro u; try simp only [List.length_cons, List.length_nil, List.nil_append, Nat.zero_add]) | (refine go_np (hk := ?_); intro id)) | (show GO _ _ _ _ _ (⟨none, none, _⟩ :: _) _; refine go_st (hk := ?_)) | (show GO _ _ _ _ _ (⟨_, some _, _⟩ :: _) _; first | refine go_in (hk := ?_) | refine go_out (hk := ?_) | refine go_void (hk := ?_)) | (show GK _ _ _ _ (blockK _ _ _); refine gk_past rfl ?_) | (show GC _ _ _ _ _ (.cond _ _ _) _; first | refine gc_yes (h1 := ?_) | refine gc_no (h1 := ?_))))
      refine gc_cond rfl (fun h3 => ?_) (fun h3 => ?_)
      · rw [if_pos (show bitN c i = 1 from h3), List.length_append] at hk
        (repeat (first | with_reducible (first | refine go_nil ?_ | refine gk_seq ?_ | refine gc_seq ?_ | refine gc_reg ?_ | refine gc_skip ?_ | refine gk_block ?_ | refine gc_block ?_ | refine gc_exit ?_ | refine gc_ret ?_ | refine gk_seqret ?_ | refine gk_seqexit ?_ | refine gk_blockret ?_ | refine gk_out ?_ | refine gk_loopret ?_ | refine gk_loopexit ?_) | (show GO _ _ _ _ _ (⟨some _, none, .call _ _⟩ :: _) _; first | (show GO _ _ _ _ _ (⟨some _, none, .call fn_impl_ValidOdds _⟩ :: _) _; refine go_callp rfl code_impl_ValidOdds.callable (fun H hH => implValidOdds_ok (hH.ints (by exact Has.auto)) (by omega)) ?_) | (show GO _ _ _ _ _ (⟨some _, none, .call fn_impl_validOdd _⟩ :: _) _; refine go_callp rfl code_impl_validOdd.callable (fun H hH => implValidOdd_ok) ?_) | (show GO _ _ _ _ _ (⟨some _, none, .call fn_impl_firstPlaces _⟩ :: _) _; refine go_callp rfl code_impl_firstPlaces.callable (fun H hH => firstPlaces_ok (by omega)) ?_) | (show GO _ _ _ _ _ (⟨some _, none, .call fn_impl_oddsAt _⟩ :: _) _; refine go_calln rfl code_impl_oddsAt.callable (fun H hH => oddsAt_ok (hH.ints (by exact Has.auto)) (by omega)) ?_; intro u) | (show GO _ _ _ _ _ (⟨some _, none, .call fn_impl_places_has _⟩ :: _) _; refine go_callp rfl code_impl_places_has.callable (fun H hH => has_ok (by omega)) ?_)) | (show GO _ _ _ _ _ (⟨some _, none, _⟩ :: _) _; first | refine go_op (hk := ?_) | (refine go_nw (hk := ?_); intro u; try simp only [List.length_cons, List.length_nil, List.nil_append, Nat.zero_add]) | (refine go_np (hk := ?_); intro id)) | (show GO _ _ _ _ _ (⟨none, none, _⟩ :: _) _; refine go_st (hk := ?_)) | (show GO _ _ _ _ _ (⟨_, some _, _⟩ :: _) _; first | refine go_in (hk := ?_) | refine go_out (hk := ?_) | refine go_void (hk := ?_)) | (show GK _ _ _ _ (blockK _ _ _); refine gk_past rfl ?_) | (show GC _ _ _ _ _ (.cond _ _ _) _; first | refine gc_yes (h1 := ?_) | refine gc_no (h1 := ?_))))
        exact gk_next (hk _)
      · rw [if_neg (show ¬ bitN c i = 1 from h3)] at hk
        (repeat (first | with_reducible (first | refine go_nil ?_ | refine gk_seq ?_ | refine gc_seq ?_ | refine gc_reg ?_ | refine gc_skip ?_ | refine gk_block ?_ | refine gc_block ?_ | refine gc_exit ?_ | refine gc_ret ?_ | refine gk_seqret ?_ | refine gk_seqexit ?_ | refine gk_blockret ?_ | refine gk_out ?_ | refine gk_loopret ?_ | refine gk_loopexit ?_) | (show GO _ _ _ _ _ (⟨some _, none, .call _ _⟩ :: _) _; first | (show GO _ _ _ _ _ (⟨some _, none, .call fn_impl_ValidOdds _⟩ :: _) _; refine go_callp rfl code_impl_ValidOdds.callable (fun H hH => implValidOdds_ok (hH.ints (by exact Has.auto)) (by omega)) ?_) | (show GO _ _ _ _ _ (⟨some _, none, .call fn_impl_validOdd _⟩ :: _) _; refine go_callp rfl code_impl_validOdd.callable (fun H hH => implValidOdd_ok) ?_) | (show GO _ _ _ _ _ (⟨some _, none, .call fn_impl_firstPlaces _⟩ :: _) _; refine go_callp rfl code_impl_firstPlaces.callable (fun H hH => firstPlaces_ok (by omega)) ?_) | (show GO _ _ _ _ _ (⟨some _, none, .call fn_impl_oddsAt _⟩ :: _) _; refine go_calln rfl code_impl_oddsAt.callable (fun H hH => oddsAt_ok (hH.ints (by exact Has.auto)) (by omega)) ?_; intro u) | (show GO _ _ _ _ _ (⟨some _, none, .call fn_impl_places_has _⟩ :: _) _; refine go_callp rfl code_impl_places_has.callable (fun H hH => has_ok (by omega)) ?_)) | (show GO _ _ _ _ _ (⟨some _, none, _⟩ :: _) _; first | refine go_op (hk := ?_) | (refine go_nw (hk := ?_); intro u; try simp only [List.length_cons, List.length_nil, List.nil_append, Nat.zero_add]) | (refine go_np (hk := ?_); intro id)) | (show GO _ _ _ _ _ (⟨none, none, _⟩ :: _) _; refine go_st (hk := ?_)) | (show GO _ _ _ _ _ (⟨_, some _, _⟩ :: _) _; first | refine go_in (hk := ?_) | refine go_out (hk := ?_) | refine go_void (hk := ?_)) | (show GK _ _ _ _ (blockK _ _ _); refine gk_past rfl ?_) | (show GC _ _ _ _ _ (.cond _ _ _) _; first | refine gc_yes (h1 := ?_) | refine gc_no (h1 := ?_))))
        exact gk_next (hk _)
    · have : i = xs.length := by omega
      subst this
      (repeat (first | with_reducible (first | refine go_nil ?_ | refine gk_seq ?_ | refine gc_seq ?_ | refine gc_reg ?_ | refine gc_skip ?_ | refine gk_block ?_ | refine gc_block ?_ | refine gc_exit ?_ | refine gc_ret ?_ | refine gk_seqret ?_ | refine gk_seqexit ?_ | refine gk_blockret ?_ | refine gk_out ?_ | refine gk_loopret ?_ | refine gk_loopexit ?_) | (show GO _ _ _ _ _ (⟨some _, none, .call _ _⟩ :: _) _; first | (show GO _ _ _ _ _ (⟨some _, none, .call fn_impl_ValidOdds _⟩ :: _) _; refine go_callp rfl code_impl_ValidOdds.callable (fun H hH => implValidOdds_ok (hH.ints (by exact Has.auto)) (by omega)) ?_) | (show GO _ _ _ _ _ (⟨some _, none, .call fn_impl_validOdd _⟩ :: _) _; refine go_callp rfl code_impl_validOdd.callable (fun H hH => implValidOdd_ok) ?_) | (show GO _ _ _ _ _ (⟨some _, none, .call fn_impl_firstPlaces _⟩ :: _) _; refine go_callp rfl code_impl_firstPlaces.callable (fun H hH => firstPlaces_ok (by omega)) ?_) | (show GO _ _ _ _ _ (⟨some _, none, .call fn_impl_oddsAt _⟩ :: _) _; refine go_calln rfl code_impl_oddsAt.callable (fun H hH => oddsAt_ok (hH.ints (by exact Has.auto)) (by omega)) ?_; intro u) | (show GO _ _ _ _ _ (⟨some _, none, .call fn_impl_places_has _⟩ :: _) _; refine go_callp rfl code_impl_places_has.callable (fun H hH => has_ok (by omega)) ?_)) | (show GO _ _ _ _ _ (⟨some _, none, _⟩ :: _) _; first | refine go_op (hk := ?_) | (refine go_nw (hk := ?_); intro u; try simp only [List.length_cons, List.length_nil, List.nil_append, Nat.zero_add]) | (refine go_np (hk := ?_); intro id)) | (show GO _ _ _ _ _ (⟨none, none, _⟩ :: _) _; refine go_st (hk := ?_)) | (show GO _ _ _ _ _ (⟨_, some _, _⟩ :: _) _; first | refine go_in (hk := ?_) | refine go_out (hk := ?_) | refine go_void (hk := ?_)) | (show GK _ _ _ _ (blockK _ _ _); refine gk_past rfl ?_) | (show GC _ _ _ _ _ (.cond _ _ _) _; first | refine gc_yes (h1 := ?_) | refine gc_no (h1 := ?_))))
      refine gk_ret rfl fun H' hH => ?_
      rw [← cl_out hx hlv hinv]
      exact hH.give .head

theorem upX_len (xs : List Int) : (upX xs).length ≤ 6 := by
  unfold upX
  split
  · rename_i h; rw [upL, tabZ_len]; exact h.2.2
  · exact Nat.zero_le _

theorem clX_len (xs : List Int) (lev : Int) (kd : List UInt8) : (clX xs lev kd).length ≤ 6 := by
  unfold clX
  split
  · rename_i h; exact Nat.le_trans (clT_len _ _ _ _) h.1.2.2
  · exact Nat.zero_le _

theorem fdX_len (xs : List Int) (lev : Int) : (fdX xs lev).length ≤ 6 := by
  unfold fdX
  split
  · rename_i h; exact Nat.le_trans (fdT_len _ _ _) h.1.2.2
  · exact Nat.zero_le _

theorem up_count {S : List Int} (h : Up S) {v : Int} {c : Nat} (hc : 1 ≤ c) (hn : c ≤ S.countP fun x => decide (x ≤ v)) : c ≤ S.length ∧ nth S (c - 1) ≤ v := by
  have hlen : c ≤ S.length := Nat.le_trans hn List.countP_le_length
  refine ⟨hlen, ?_⟩
  by_cases e : nth S (c - 1) ≤ v
  · exact e
  · exfalso
    have h1 : (S.drop (c - 1)).countP (fun x => decide (x ≤ v)) = 0 := by
      rw [List.countP_eq_zero]
      intro x hx
      obtain ⟨m, h2, h3⟩ := List.getElem_of_mem hx
      rw [List.length_drop] at h2
      rw [List.getElem_drop] at h3
      have h4 := Up.le h (i := c - 1) (j := c - 1 + m) (by omega) (by omega)
      rw [nth_of (i := c - 1 + m) (by omega), h3] at h4
      simp only [decide_eq_true_eq]
      omega
    have h2 : (S.take (c - 1)).countP (fun x => decide (x ≤ v)) ≤ c - 1 := Nat.le_trans List.countP_le_length (by rw [List.length_take]; omega)
    have h3 : S.countP (fun x => decide (x ≤ v)) = (S.take (c - 1)).countP (fun x => decide (x ≤ v)) + (S.drop (c - 1)).countP (fun x => decide (x ≤ v)) := by
      rw [← List.countP_append, List.take_append_drop]
    omega

theorem selT_count {xs : List Int} {p k : Nat} (hk : k < xs.length) : ∀ {i}, i ≤ xs.length → sumN (fun j => if bitN p j = 1 ∧ plN xs j ≤ plN xs k then 1 else 0) i ≤ (selT xs p i).countP fun x => decide (x ≤ nth xs k)
  | 0, _ => Nat.zero_le _
  | i + 1, hi => by
    have ih := selT_count (xs := xs) (p := p) hk (i := i) (by omega)
    simp only [sumN, selT]
    by_cases hb : bitN p i = 1
    · rw [if_pos hb, List.countP_append]
      by_cases hp : plN xs i ≤ plN xs k
      · rw [if_pos ⟨hb, hp⟩]
        have : ([nth xs i].countP fun x => decide (x ≤ nth xs k)) = 1 := by
          have := pl_le_val hk (show i < xs.length by omega) hp
          simp [this]
        omega
      · rw [if_neg (fun h => hp h.2)]
        omega
    · rw [if_neg hb, if_neg (fun h => hb h.1)]
      omega

theorem each_closed {xs : List Int} (hx : OddsOk xs) {lev : Int} (hl : 0 ≤ lev) {i k : Nat} (hi : i < xs.length) (hk : k < xs.length) (hp : plN xs i ≤ plN xs k) (hs : stV xs k ≤ lev) : okP xs lev true i (2 ^ xs.length - 1) := by
  rw [okP_iff]
  intro p hp1 hp2
  by_cases hb : bitN p i = 1
  rotate_left
  · left
    have := bitN_lt p i
    omega
  right
  have c0 := selT_count (xs := xs) (p := p) hk (Nat.le_refl _)
  have c1 : 1 ≤ sumN (fun j => if bitN p j = 1 ∧ plN xs j ≤ plN xs k then 1 else 0) xs.length := by
    have := sumN_part (f := fun j => if bitN p j = 1 ∧ plN xs j ≤ plN xs k then 1 else 0) xs.length hi
    rwa [if_pos ⟨hb, hp⟩] at this
  have c2 : (selS xs p).length + plN xs k + 1 ≤ sumN (fun j => if bitN p j = 1 ∧ plN xs j ≤ plN xs k then 1 else 0) xs.length + xs.length := by
    have e1 := sumN_part (f := fun j => if j = k then 1 else 0) xs.length hk
    simp only [if_true] at e1
    have e2 : sumN (fun j => bitN p j + (if ahd xs k j then 1 else 0) + (if j = k then 1 else 0)) xs.length ≤ sumN (fun j => (if bitN p j = 1 ∧ plN xs j ≤ plN xs k then 1 else 0) + 1) xs.length := by
      refine sumN_mono fun j hj => ?_
      have b1 := bitN_lt p j
      have b2 := pl_iff (xs := xs) hk hj
      by_cases e : j = k
      · subst e
        rw [if_neg ahd_irr, if_pos rfl]
        by_cases b3 : bitN p j = 1
        · rw [if_pos ⟨b3, Nat.le_refl _⟩]; omega
        · rw [if_neg (fun h => b3 h.1)]; omega
      · rw [if_neg e]
        by_cases b4 : ahd xs k j
        · have b5 := b2.2 b4
          rw [if_pos b4]
          by_cases b3 : bitN p j = 1
          · rw [if_pos ⟨b3, by omega⟩]; omega
          · rw [if_neg (fun h => b3 h.1)]; omega
        · rw [if_neg b4]; omega
    rw [sumN_addf, sumN_addf, sumN_addf, sumN_ones] at e2
    have e3 : sumN (bitN p) xs.length = sumN (fun j => bitN p j) xs.length := rfl
    have e4 : plN xs k = sumN (fun j => if ahd xs k j then 1 else 0) xs.length := rfl
    rw [selS_size]
    omega
  generalize sumN (fun j => if bitN p j = 1 ∧ plN xs j ≤ plN xs k then 1 else 0) xs.length = c at c0 c1 c2
  have hperm := (sortL_perm (selT xs p xs.length)).countP_eq fun x => decide (x ≤ nth xs k)
  obtain ⟨c3, c4⟩ := up_count (sortL_up (selT xs p xs.length)) c1 (by rw [hperm]; exact c0)
  refine held_iff.2 ⟨c - 1, by show c - 1 < (sortL (selT xs p xs.length)).length; omega, .inl ⟨rfl, ?_⟩⟩
  have hk0 := hx.1 k hk
  have hpk := pl_lt_n hk
  have n1 : nth (selS xs p) (c - 1) * ((selS xs p).length : Int) ≤ nth xs k * ((selS xs p).length : Int) := Int.mul_le_mul_of_nonneg_right c4 (by omega)
  obtain ⟨d, hd⟩ : ∃ d, xs.length = plN xs k + (d + 1) := ⟨xs.length - plN xs k - 1, by omega⟩
  obtain ⟨e, he⟩ : ∃ e, c = e + 1 := ⟨c - 1, by omega⟩
  have n2 : (selS xs p).length ≤ (d + 1) * c := by
    rw [he, Nat.add_mul, Nat.one_mul, Nat.mul_succ]
    omega
  have n3 : nth xs k * ((selS xs p).length : Int) ≤ nth xs k * (((d + 1) * c : Nat) : Int) := Int.mul_le_mul_of_nonneg_left (by omega) hk0.1
  have n4 : nth xs k * (((d + 1) * c : Nat) : Int) = stV xs k * (c : Int) := by
    unfold stV
    rw [Int.natCast_mul, ← Int.mul_assoc]
    congr 2
    omega
  have n5 : stV xs k * (c : Int) ≤ lev * (c : Int) := Int.mul_le_mul_of_nonneg_right hs (by omega)
  rw [show c - 1 + 1 = c by omega]
  omega

def selI (f : Nat → Prop) [DecidablePred f] : Nat → List Int
  | 0 => []
  | i + 1 => if f i then selI f i ++ [(i : Int)] else selI f i

theorem selI_mem {f : Nat → Prop} [DecidablePred f] {v : Int} : ∀ {n}, v ∈ selI f n ↔ ∃ j : Nat, j < n ∧ f j ∧ v = (j : Int)
  | 0 => by simp [selI]
  | n + 1 => by
    rw [selI]
    constructor
    · intro h
      split at h
      · rename_i hf
        rcases List.mem_append.1 h with h | h
        · obtain ⟨j, h1, h2⟩ := selI_mem.1 h; exact ⟨j, by omega, h2⟩
        · exact ⟨n, by omega, hf, by simpa using h⟩
      · obtain ⟨j, h1, h2⟩ := selI_mem.1 h; exact ⟨j, by omega, h2⟩
    · rintro ⟨j, h1, h2, h3⟩
      by_cases e : j = n
      · subst e; rw [if_pos h2, h3]; simp
      · have h4 := (selI_mem (f := f) (v := v) (n := n)).2 ⟨j, by omega, h2, h3⟩
        split
        · exact List.mem_append_left _ h4
        · exact h4

theorem clT_sel (xs : List Int) (lev : Int) (s : Bool) : ∀ n, clT xs lev s n = selI (fun i => okP xs lev s i (2 ^ xs.length - 1)) n
  | 0 => rfl
  | n + 1 => by rw [clT, selI, clT_sel xs lev s n]

theorem fdT_sel (xs : List Int) (lev : Int) : ∀ n, fdT xs lev n = selI (fun i => nth xs i ≤ lev) n
  | 0 => rfl
  | n + 1 => by rw [fdT, selI, fdT_sel xs lev n]

theorem upL_ok {xs : List Int} (hx : OddsOk xs) : OddsOk (upL xs) := by
  refine ⟨fun i hi => ?_, ?_⟩
  · rw [upL, tabZ_len] at hi
    rw [upL, tabZ_nth hi]
    exact upT_in hx i (Nat.le_refl _)
  · rw [upL, tabZ_len]; exact hx.2

/-- steps up are within what is closed -/
theorem up_closed {xs : List Int} (hx : OddsOk xs) {lev : Int} (hl : 0 ≤ lev ∧ lev < 1000) {v : Int} (hv : v ∈ fdX (upL xs) lev) : v ∈ clX xs lev eachB := by
  rw [fdX, if_pos ⟨upL_ok hx, by omega⟩, fdT_sel, show (upL xs).length = xs.length from tabZ_len _ _] at hv
  rw [clX, if_pos ⟨hx, by omega, .inr rfl⟩, clT_sel]
  obtain ⟨i, hi, h1, rfl⟩ := selI_mem.1 hv
  refine selI_mem.2 ⟨i, hi, ?_, rfl⟩
  rw [upL, tabZ_nth hi] at h1
  rcases upT_hits (xs := xs) (i := i) xs.length with h2 | ⟨k, h2, h3, h4⟩
  · omega
  · have e : decide (eachB = eachB) = true := by decide
    rw [e]
    exact each_closed hx hl.1 hi h2 h3 (by omega)

theorem isInD_ok {H : Heap} {a : AV} {xs : List Int} {v : Int} (ha : Ints H a xs) (hl : xs.length ≤ 1000000000) : ACalls Try.prog fn_laws_isIn [a, .int .i64 v] H fun r H' => r = .bool (decide (v ∈ xs)) ∧ H' = H := by
  refine ACalls.val ?_ rfl
  refine code_laws_isIn.go [.roI a xs.length xs] ⟨⟨rfl, ha⟩, trivial⟩ (by simp) ?_
  unfold mc_laws_isIn
  (repeat (first | with_reducible (first | refine go_nil ?_ | refine gk_seq ?_ | refine gc_seq ?_ | refine gc_reg ?_ | refine gc_skip ?_ | refine gk_block ?_ | refine gc_block ?_ | refine gc_exit ?_ | refine gc_ret ?_ | refine gk_seqret ?_ | refine gk_seqexit ?_ | refine gk_blockret ?_ | refine gk_out ?_ | refine gk_loopret ?_ | refine gk_loopexit ?_) | (show GO _ _ _ _ _ (⟨some _, none, _⟩ :: _) _; first | refine go_op (hk := ?_) | (refine go_nw (hk := ?_); intro u; try simp only [List.length_cons, List.length_nil, List.nil_append, Nat.zero_add]) | (refine go_np (hk := ?_); intro id)) | (show GO _ _ _ _ _ (⟨none, none, _⟩ :: _) _; refine go_st (hk := ?_)) | (show GO _ _ _ _ _ (⟨_, some _, _⟩ :: _) _; first | refine go_in (hk := ?_) | refine go_out (hk := ?_) | refine go_void (hk := ?_)) | (show GK _ _ _ _ (blockK _ _ _); refine gk_past rfl ?_) | (show GC _ _ _ _ _ (.cond _ _ _) _; first | refine gc_yes (h1 := ?_) | refine gc_no (h1 := ?_))))
  refine gc_loop (γ := Nat) (fun i => [(0, a), (1, .int .i64 v), (5, .int .i64 (i : Int))]) (fun _ => [.roI a xs.length xs]) (fun i => i ≤ xs.length ∧ ∀ j, j < i → nth xs j ≠ v) (fun i => xs.length - i) 0 ⟨Nat.zero_le _, fun j hj => by omega⟩ (hb := ?_)
  rintro i ⟨hi, hall⟩ I ν m hk
  (repeat (first | with_reducible (first | refine go_nil ?_ | refine gk_seq ?_ | refine gc_seq ?_ | refine gc_reg ?_ | refine gc_skip ?_ | refine gk_block ?_ | refine gc_block ?_ | refine gc_exit ?_ | refine gc_ret ?_ | refine gk_seqret ?_ | refine gk_seqexit ?_ | refine gk_blockret ?_ | refine gk_out ?_ | refine gk_loopret ?_ | refine gk_loopexit ?_) | (show GO _ _ _ _ _ (⟨some _, none, _⟩ :: _) _; first | refine go_op (hk := ?_) | (refine go_nw (hk := ?_); intro u; try simp only [List.length_cons, List.length_nil, List.nil_append, Nat.zero_add]) | (refine go_np (hk := ?_); intro id)) | (show GO _ _ _ _ _ (⟨none, none, _⟩ :: _) _; refine go_st (hk := ?_)) | (show GO _ _ _ _ _ (⟨_, some _, _⟩ :: _) _; first | refine go_in (hk := ?_) | refine go_out (hk := ?_) | refine go_void (hk := ?_)) | (show GK _ _ _ _ (blockK _ _ _); refine gk_past rfl ?_) | (show GC _ _ _ _ _ (.cond _ _ _) _; first | refine gc_yes (h1 := ?_) | refine gc_no (h1 := ?_))))
  refine gc_cond rfl (fun h => ?_) (fun h => ?_)
  · (repeat (first | with_reducible (first | refine go_nil ?_ | refine gk_seq ?_ | refine gc_seq ?_ | refine gc_reg ?_ | refine gc_skip ?_ | refine gk_block ?_ | refine gc_block ?_ | refine gc_exit ?_ | refine gc_ret ?_ | refine gk_seqret ?_ | refine gk_seqexit ?_ | refine gk_blockret ?_ | refine gk_out ?_ | refine gk_loopret ?_ | refine gk_loopexit ?_) | (show GO _ _ _ _ _ (⟨some _, none, _⟩ :: _) _; first | refine go_op (hk := ?_) | (refine go_nw (hk := ?_); intro u; try simp only [List.length_cons, List.length_nil, List.nil_append, Nat.zero_add]) | (refine go_np (hk := ?_); intro id)) | (show GO _ _ _ _ _ (⟨none, none, _⟩ :: _) _; refine go_st (hk := ?_)) | (show GO _ _ _ _ _ (⟨_, some _, _⟩ :: _) _; first | refine go_in (hk := ?_) | refine go_out (hk := ?_) | refine go_void (hk := ?_)) | (show GK _ _ _ _ (blockK _ _ _); refine gk_past rfl ?_) | (show GC _ _ _ _ _ (.cond _ _ _) _; first | refine gc_yes (h1 := ?_) | refine gc_no (h1 := ?_))))
    refine gc_cond rfl (fun h2 => ?_) (fun h2 => ?_)
    · (repeat (first | with_reducible (first | refine go_nil ?_ | refine gk_seq ?_ | refine gc_seq ?_ | refine gc_reg ?_ | refine gc_skip ?_ | refine gk_block ?_ | refine gc_block ?_ | refine gc_exit ?_ | refine gc_ret ?_ | refine gk_seqret ?_ | refine gk_seqexit ?_ | refine gk_blockret ?_ | refine gk_out ?_ | refine gk_loopret ?_ | refine gk_loopexit ?_) | (show GO _ _ _ _ _ (⟨some _, none, _⟩ :: _) _; first | refine go_op (hk := ?_) | (refine go_nw (hk := ?_); intro u; try simp only [List.length_cons, List.length_nil, List.nil_append, Nat.zero_add]) | (refine go_np (hk := ?_); intro id)) | (show GO _ _ _ _ _ (⟨none, none, _⟩ :: _) _; refine go_st (hk := ?_)) | (show GO _ _ _ _ _ (⟨_, some _, _⟩ :: _) _; first | refine go_in (hk := ?_) | refine go_out (hk := ?_) | refine go_void (hk := ?_)) | (show GK _ _ _ _ (blockK _ _ _); refine gk_past rfl ?_) | (show GC _ _ _ _ _ (.cond _ _ _) _; first | refine gc_yes (h1 := ?_) | refine gc_no (h1 := ?_))))
      exact gk_ret rfl fun H' hH => ⟨bool_yes (by rw [← h2]; exact nth_mem (by omega)), hH.leE⟩
    · (repeat (first | with_reducible (first | refine go_nil ?_ | refine gk_seq ?_ | refine gc_seq ?_ | refine gc_reg ?_ | refine gc_skip ?_ | refine gk_block ?_ | refine gc_block ?_ | refine gc_exit ?_ | refine gc_ret ?_ | refine gk_seqret ?_ | refine gk_seqexit ?_ | refine gk_blockret ?_ | refine gk_out ?_ | refine gk_loopret ?_ | refine gk_loopexit ?_) | (show GO _ _ _ _ _ (⟨some _, none, _⟩ :: _) _; first | refine go_op (hk := ?_) | (refine go_nw (hk := ?_); intro u; try simp only [List.length_cons, List.length_nil, List.nil_append, Nat.zero_add]) | (refine go_np (hk := ?_); intro id)) | (show GO _ _ _ _ _ (⟨none, none, _⟩ :: _) _; refine go_st (hk := ?_)) | (show GO _ _ _ _ _ (⟨_, some _, _⟩ :: _) _; first | refine go_in (hk := ?_) | refine go_out (hk := ?_) | refine go_void (hk := ?_)) | (show GK _ _ _ _ (blockK _ _ _); refine gk_past rfl ?_) | (show GC _ _ _ _ _ (.cond _ _ _) _; first | refine gc_yes (h1 := ?_) | refine gc_no (h1 := ?_))))
      exact gk_next (hk (i + 1) ⟨by omega, fun j hj => by
        by_cases e : j = i
        · subst e; exact h2
        · exact hall j (by omega)⟩ (by omega))
  · have : i = xs.length := by omega
    subst this
    (repeat (first | with_reducible (first | refine go_nil ?_ | refine gk_seq ?_ | refine gc_seq ?_ | refine gc_reg ?_ | refine gc_skip ?_ | refine gk_block ?_ | refine gc_block ?_ | refine gc_exit ?_ | refine gc_ret ?_ | refine gk_seqret ?_ | refine gk_seqexit ?_ | refine gk_blockret ?_ | refine gk_out ?_ | refine gk_loopret ?_ | refine gk_loopexit ?_) | (show GO _ _ _ _ _ (⟨some _, none, _⟩ :: _) _; first | refine go_op (hk := ?_) | (refine go_nw (hk := ?_); intro u; try simp only [List.length_cons, List.length_nil, List.nil_append, Nat.zero_add]) | (refine go_np (hk := ?_); intro id)) | (show GO _ _ _ _ _ (⟨none, none, _⟩ :: _) _; refine go_st (hk := ?_)) | (show GO _ _ _ _ _ (⟨_, some _, _⟩ :: _) _; first | refine go_in (hk := ?_) | refine go_out (hk := ?_) | refine go_void (hk := ?_)) | (show GK _ _ _ _ (blockK _ _ _); refine gk_past rfl ?_) | (show GC _ _ _ _ _ (.cond _ _ _) _; first | refine gc_yes (h1 := ?_) | refine gc_no (h1 := ?_))))
    refine gk_ret rfl fun H' hH => ⟨bool_no (fun hm => ?_), hH.leE⟩
    obtain ⟨j, h1, h2⟩ := nth_ex hm
    exact hall j h1 h2

end Go.Rx.Try
