import Derived.Test.YtoalaphmikhgfaaFnClosedByD3
namespace Go.Rx.Try
open Go.Proofs
set_option maxRecDepth 100000
set_option maxHeartbeats 8000000
set_option linter.unusedSimpArgs false
set_option linter.unusedVariables false

theorem implValidOdd_ok {H : Heap} {x : Int} : ACalls Try.prog fn_impl_validOdd [.int .i64 x] H fun r H' => r = .bool (decide (0 ≤ x ∧ x ≤ 1000)) ∧ H' = H := by
  refine ACalls.val ?_ rfl
  refine code_impl_validOdd.go [] trivial (by simp) ?_
  unfold mc_impl_validOdd
  (repeat (first | with_reducible (first | refine go_nil ?_ | refine gk_seq ?_ | refine gc_seq ?_ | refine gc_reg ?_ | refine gc_skip ?_ | refine gk_block ?_ | refine gc_block ?_ | refine gc_exit ?_ | refine gc_ret ?_ | refine gk_seqret ?_ | refine gk_seqexit ?_ | refine gk_blockret ?_ | refine gk_out ?_ | refine gk_loopret ?_ | refine gk_loopexit ?_) | (show GO _ _ _ _ _ (⟨some _, none, _⟩ :: _) _; first | refine go_op (hk := ?_) | (refine go_nw (hk := ?_); intro u; try simp only [List.length_cons, List.length_nil, List.nil_append, Nat.zero_add]) | (refine go_np (hk := ?_); intro id)) | (show GO _ _ _ _ _ (⟨none, none, _⟩ :: _) _; refine go_st (hk := ?_)) | (show GO _ _ _ _ _ (⟨_, some _, _⟩ :: _) _; first | refine go_in (hk := ?_) | refine go_out (hk := ?_) | refine go_void (hk := ?_)) | (show GK _ _ _ _ (blockK _ _ _); refine gk_past rfl ?_) | (show GC _ _ _ _ _ (.cond _ _ _) _; first | refine gc_yes (h1 := ?_) | refine gc_no (h1 := ?_))))
  refine go_split 5 rfl (fun h => ?_) (fun h => ?_)
  · (repeat (first | with_reducible (first | refine go_nil ?_ | refine gk_seq ?_ | refine gc_seq ?_ | refine gc_reg ?_ | refine gc_skip ?_ | refine gk_block ?_ | refine gc_block ?_ | refine gc_exit ?_ | refine gc_ret ?_ | refine gk_seqret ?_ | refine gk_seqexit ?_ | refine gk_blockret ?_ | refine gk_out ?_ | refine gk_loopret ?_ | refine gk_loopexit ?_) | (show GO _ _ _ _ _ (⟨some _, none, _⟩ :: _) _; first | refine go_op (hk := ?_) | (refine go_nw (hk := ?_); intro u; try simp only [List.length_cons, List.length_nil, List.nil_append, Nat.zero_add]) | (refine go_np (hk := ?_); intro id)) | (show GO _ _ _ _ _ (⟨none, none, _⟩ :: _) _; refine go_st (hk := ?_)) | (show GO _ _ _ _ _ (⟨_, some _, _⟩ :: _) _; first | refine go_in (hk := ?_) | refine go_out (hk := ?_) | refine go_void (hk := ?_)) | (show GK _ _ _ _ (blockK _ _ _); refine gk_past rfl ?_) | (show GC _ _ _ _ _ (.cond _ _ _) _; first | refine gc_yes (h1 := ?_) | refine gc_no (h1 := ?_))))
    exact gk_ret rfl fun H' hH => ⟨bool_iff ⟨fun h2 => ⟨by omega, h2⟩, fun h2 => h2.2⟩, hH.leE⟩
  · (repeat (first | with_reducible (first | refine go_nil ?_ | refine gk_seq ?_ | refine gc_seq ?_ | refine gc_reg ?_ | refine gc_skip ?_ | refine gk_block ?_ | refine gc_block ?_ | refine gc_exit ?_ | refine gc_ret ?_ | refine gk_seqret ?_ | refine gk_seqexit ?_ | refine gk_blockret ?_ | refine gk_out ?_ | refine gk_loopret ?_ | refine gk_loopexit ?_) | (show GO _ _ _ _ _ (⟨some _, none, _⟩ :: _) _; first | refine go_op (hk := ?_) | (refine go_nw (hk := ?_); intro u; try simp only [List.length_cons, List.length_nil, List.nil_append, Nat.zero_add]) | (refine go_np (hk := ?_); intro id)) | (show GO _ _ _ _ _ (⟨none, none, _⟩ :: _) _; refine go_st (hk := ?_)) | (show GO _ _ _ _ _ (⟨_, some _, _⟩ :: _) _; first | refine go_in (hk := ?_) | refine go_out (hk := ?_) | refine go_void (hk := ?_)) | (show GK _ _ _ _ (blockK _ _ _); refine gk_past rfl ?_) | (show GC _ _ _ _ _ (.cond _ _ _) _; first | refine gc_yes (h1 := ?_) | refine gc_no (h1 := ?_))))
    exact gk_ret rfl fun H' hH => ⟨bool_no (fun h2 => h (by omega)), hH.leE⟩

theorem implValidOdds_ok {H : Heap} {a : AV} {xs : List Int} (ha : Ints H a xs) (hl : xs.length ≤ 2000000) : ACalls Try.prog fn_impl_ValidOdds [a] H fun r H' => r = .bool (decide (OddsOk xs)) ∧ H' = H := by
  refine ACalls.val ?_ rfl
  refine code_impl_ValidOdds.go [.roI a xs.length xs] ⟨⟨rfl, ha⟩, trivial⟩ (by simp) ?_
  unfold mc_impl_ValidOdds
  (repeat (first | with_reducible (first | refine go_nil ?_ | refine gk_seq ?_ | refine gc_seq ?_ | refine gc_reg ?_ | refine gc_skip ?_ | refine gk_block ?_ | refine gc_block ?_ | refine gc_exit ?_ | refine gc_ret ?_ | refine gk_seqret ?_ | refine gk_seqexit ?_ | refine gk_blockret ?_ | refine gk_out ?_ | refine gk_loopret ?_ | refine gk_loopexit ?_) | (show GO _ _ _ _ _ (⟨some _, none, .call _ _⟩ :: _) _; first | (show GO _ _ _ _ _ (⟨some _, none, .call fn_impl_validOdd _⟩ :: _) _; refine go_callp rfl code_impl_validOdd.callable (fun H hH => implValidOdd_ok) ?_)) | (show GO _ _ _ _ _ (⟨some _, none, _⟩ :: _) _; first | refine go_op (hk := ?_) | (refine go_nw (hk := ?_); intro u; try simp only [List.length_cons, List.length_nil, List.nil_append, Nat.zero_add]) | (refine go_np (hk := ?_); intro id)) | (show GO _ _ _ _ _ (⟨none, none, _⟩ :: _) _; refine go_st (hk := ?_)) | (show GO _ _ _ _ _ (⟨_, some _, _⟩ :: _) _; first | refine go_in (hk := ?_) | refine go_out (hk := ?_) | refine go_void (hk := ?_)) | (show GK _ _ _ _ (blockK _ _ _); refine gk_past rfl ?_) | (show GC _ _ _ _ _ (.cond _ _ _) _; first | refine gc_yes (h1 := ?_) | refine gc_no (h1 := ?_))))
  refine go_split 8 rfl (fun h1 => ?_) (fun h1 => ?_)
  · (repeat (first | with_reducible (first | refine go_nil ?_ | refine gk_seq ?_ | refine gc_seq ?_ | refine gc_reg ?_ | refine gc_skip ?_ | refine gk_block ?_ | refine gc_block ?_ | refine gc_exit ?_ | refine gc_ret ?_ | refine gk_seqret ?_ | refine gk_seqexit ?_ | refine gk_blockret ?_ | refine gk_out ?_ | refine gk_loopret ?_ | refine gk_loopexit ?_) | (show GO _ _ _ _ _ (⟨some _, none, .call _ _⟩ :: _) _; first | (show GO _ _ _ _ _ (⟨some _, none, .call fn_impl_validOdd _⟩ :: _) _; refine go_callp rfl code_impl_validOdd.callable (fun H hH => implValidOdd_ok) ?_)) | (show GO _ _ _ _ _ (⟨some _, none, _⟩ :: _) _; first | refine go_op (hk := ?_) | (refine go_nw (hk := ?_); intro u; try simp only [List.length_cons, List.length_nil, List.nil_append, Nat.zero_add]) | (refine go_np (hk := ?_); intro id)) | (show GO _ _ _ _ _ (⟨none, none, _⟩ :: _) _; refine go_st (hk := ?_)) | (show GO _ _ _ _ _ (⟨_, some _, _⟩ :: _) _; first | refine go_in (hk := ?_) | refine go_out (hk := ?_) | refine go_void (hk := ?_)) | (show GK _ _ _ _ (blockK _ _ _); refine gk_past rfl ?_) | (show GC _ _ _ _ _ (.cond _ _ _) _; first | refine gc_yes (h1 := ?_) | refine gc_no (h1 := ?_))))
    exact gk_ret rfl fun H' hH => ⟨bool_no (fun h => by have := h.2; omega), hH.leE⟩
  (repeat (first | with_reducible (first | refine go_nil ?_ | refine gk_seq ?_ | refine gc_seq ?_ | refine gc_reg ?_ | refine gc_skip ?_ | refine gk_block ?_ | refine gc_block ?_ | refine gc_exit ?_ | refine gc_ret ?_ | refine gk_seqret ?_ | refine gk_seqexit ?_ | refine gk_blockret ?_ | refine gk_out ?_ | refine gk_loopret ?_ | refine gk_loopexit ?_) | (show GO _ _ _ _ _ (⟨some _, none, .call _ _⟩ :: _) _; first | (show GO _ _ _ _ _ (⟨some _, none, .call fn_impl_validOdd _⟩ :: _) _; refine go_callp rfl code_impl_validOdd.callable (fun H hH => implValidOdd_ok) ?_)) | (show GO _ _ _ _ _ (⟨some _, none, _⟩ :: _) _; first | refine go_op (hk := ?_) | (refine go_nw (hk := ?_); intro u; try simp only [List.length_cons, List.length_nil, List.nil_append, Nat.zero_add]) | (refine go_np (hk := ?_); intro id)) | (show GO _ _ _ _ _ (⟨none, none, _⟩ :: _) _; refine go_st (hk := ?_)) | (show GO _ _ _ _ _ (⟨_, some _, _⟩ :: _) _; first | refine go_in (hk := ?_) | refine go_out (hk := ?_) | refine go_void (hk := ?_)) | (show GK _ _ _ _ (blockK _ _ _); refine gk_past rfl ?_) | (show GC _ _ _ _ _ (.cond _ _ _) _; first | refine gc_yes (h1 := ?_) | refine gc_no (h1 := ?_))))
  refine gc_cond rfl (fun h2 => ?_) (fun h2 => ?_)
  · (repeat (first | with_reducible (first | refine go_nil ?_ | refine gk_seq ?_ | refine gc_seq ?_ | refine gc_reg ?_ | refine gc_skip ?_ | refine gk_block ?_ | refine gc_block ?_ | refine gc_exit ?_ | refine gc_ret ?_ | refine gk_seqret ?_ | refine gk_seqexit ?_ | refine gk_blockret ?_ | refine gk_out ?_ | refine gk_loopret ?_ | refine gk_loopexit ?_) | (show GO _ _ _ _ _ (⟨some _, none, .call _ _⟩ :: _) _; first | (show GO _ _ _ _ _ (⟨some _, none, .call fn_impl_validOdd _⟩ :: _) _; refine go_callp rfl code_impl_validOdd.callable (fun H hH => implValidOdd_ok) ?_)) | (show GO _ _ _ _ _ (⟨some _, none, _⟩ :: _) _; first | refine go_op (hk := ?_) | (refine go_nw (hk := ?_); intro u; try simp only [List.length_cons, List.length_nil, List.nil_append, Nat.zero_add]) | (refine go_np (hk := ?_); intro id)) | (show GO _ _ _ _ _ (⟨none, none, _⟩ :: _) _; refine go_st (hk := ?_)) | (show GO _ _ _ _ _ (⟨_, some _, _⟩ :: _) _; first | refine go_in (hk := ?_) | refine go_out (hk := ?_) | refine go_void (hk := ?_)) | (show GK _ _ _ _ (blockK _ _ _); refine gk_past rfl ?_) | (show GC _ _ _ _ _ (.cond _ _ _) _; first | refine gc_yes (h1 := ?_) | refine gc_no (h1 := ?_))))
    exact gk_ret rfl fun H' hH => ⟨bool_no (fun h => by have := h.2; omega), hH.leE⟩
  (repeat (first | with_reducible (first | refine go_nil ?_ | refine gk_seq ?_ | refine gc_seq ?_ | refine gc_reg ?_ | refine gc_skip ?_ | refine gk_block ?_ | refine gc_block ?_ | refine gc_exit ?_ | refine gc_ret ?_ | refine gk_seqret ?_ | refine gk_seqexit ?_ | refine gk_blockret ?_ | refine gk_out ?_ | refine gk_loopret ?_ | refine gk_loopexit ?_) | (show GO _ _ _ _ _ (⟨some _, none, .call _ _⟩ :: _) _; first | (show GO _ _ _ _ _ (⟨some _, none, .call fn_impl_validOdd _⟩ :: _) _; refine go_callp rfl code_impl_validOdd.callable (fun H hH => implValidOdd_ok) ?_)) | (show GO _ _ _ _ _ (⟨some _, none, _⟩ :: _) _; first | refine go_op (hk := ?_) | (refine go_nw (hk := ?_); intro u; try simp only [List.length_cons, List.length_nil, List.nil_append, Nat.zero_add]) | (refine go_np (hk := ?_); intro id)) | (show GO _ _ _ _ _ (⟨none, none, _⟩ :: _) _; refine go_st (hk := ?_)) | (show GO _ _ _ _ _ (⟨_, some _, _⟩ :: _) _; first | refine go_in (hk := ?_) | refine go_out (hk := ?_) | refine go_void (hk := ?_)) | (show GK _ _ _ _ (blockK _ _ _); refine gk_past rfl ?_) | (show GC _ _ _ _ _ (.cond _ _ _) _; first | refine gc_yes (h1 := ?_) | refine gc_no (h1 := ?_))))
  refine gc_loop (γ := Nat) (fun i => [(13, a), (14, .int .i64 (xs.length : Int)), (15, .int .i64 (i : Int))]) (fun _ => [.roI a xs.length xs]) (fun i => i ≤ xs.length ∧ ∀ j, j < i → 0 ≤ nth xs j ∧ nth xs j ≤ 1000) (fun i => xs.length - i) 0 ⟨Nat.zero_le _, fun j hj => by omega⟩ (hb := ?_)
  rintro i ⟨hi, hall⟩ I ν m hk
  (repeat (first | with_reducible (first | refine go_nil ?_ | refine gk_seq ?_ | refine gc_seq ?_ | refine gc_reg ?_ | refine gc_skip ?_ | refine gk_block ?_ | refine gc_block ?_ | refine gc_exit ?_ | refine gc_ret ?_ | refine gk_seqret ?_ | refine gk_seqexit ?_ | refine gk_blockret ?_ | refine gk_out ?_ | refine gk_loopret ?_ | refine gk_loopexit ?_) | (show GO _ _ _ _ _ (⟨some _, none, .call _ _⟩ :: _) _; first | (show GO _ _ _ _ _ (⟨some _, none, .call fn_impl_validOdd _⟩ :: _) _; refine go_callp rfl code_impl_validOdd.callable (fun H hH => implValidOdd_ok) ?_)) | (show GO _ _ _ _ _ (⟨some _, none, _⟩ :: _) _; first | refine go_op (hk := ?_) | (refine go_nw (hk := ?_); intro u; try simp only [List.length_cons, List.length_nil, List.nil_append, Nat.zero_add]) | (refine go_np (hk := ?_); intro id)) | (show GO _ _ _ _ _ (⟨none, none, _⟩ :: _) _; refine go_st (hk := ?_)) | (show GO _ _ _ _ _ (⟨_, some _, _⟩ :: _) _; first | refine go_in (hk := ?_) | refine go_out (hk := ?_) | refine go_void (hk := ?_)) | (show GK _ _ _ _ (blockK _ _ _); refine gk_past rfl ?_) | (show GC _ _ _ _ _ (.cond _ _ _) _; first | refine gc_yes (h1 := ?_) | refine gc_no (h1 := ?_))))
  refine gc_cond rfl (fun h => ?_) (fun h => ?_)
  · (repeat (first | with_reducible (first | refine go_nil ?_ | refine gk_seq ?_ | refine gc_seq ?_ | refine gc_reg ?_ | refine gc_skip ?_ | refine gk_block ?_ | refine gc_block ?_ | refine gc_exit ?_ | refine gc_ret ?_ | refine gk_seqret ?_ | refine gk_seqexit ?_ | refine gk_blockret ?_ | refine gk_out ?_ | refine gk_loopret ?_ | refine gk_loopexit ?_) | (show GO _ _ _ _ _ (⟨some _, none, .call _ _⟩ :: _) _; first | (show GO _ _ _ _ _ (⟨some _, none, .call fn_impl_validOdd _⟩ :: _) _; refine go_callp rfl code_impl_validOdd.callable (fun H hH => implValidOdd_ok) ?_)) | (show GO _ _ _ _ _ (⟨some _, none, _⟩ :: _) _; first | refine go_op (hk := ?_) | (refine go_nw (hk := ?_); intro u; try simp only [List.length_cons, List.length_nil, List.nil_append, Nat.zero_add]) | (refine go_np (hk := ?_); intro id)) | (show GO _ _ _ _ _ (⟨none, none, _⟩ :: _) _; refine go_st (hk := ?_)) | (show GO _ _ _ _ _ (⟨_, some _, _⟩ :: _) _; first | refine go_in (hk := ?_) | refine go_out (hk := ?_) | refine go_void (hk := ?_)) | (show GK _ _ _ _ (blockK _ _ _); refine gk_past rfl ?_) | (show GC _ _ _ _ _ (.cond _ _ _) _; first | refine gc_yes (h1 := ?_) | refine gc_no (h1 := ?_))))
    refine gc_cond rfl (fun h3 => ?_) (fun h3 => ?_)
    · (repeat (first | with_reducible (first | refine go_nil ?_ | refine gk_seq ?_ | refine gc_seq ?_ | refine gc_reg ?_ | refine gc_skip ?_ | refine gk_block ?_ | refine gc_block ?_ | refine gc_exit ?_ | refine gc_ret ?_ | refine gk_seqret ?_ | refine gk_seqexit ?_ | refine gk_blockret ?_ | refine gk_out ?_ | refine gk_loopret ?_ | refine gk_loopexit ?_) | (show GO _ _ _ _ _ (⟨some _, none, .call _ _⟩ :: _) _; first | (show GO _ _ _ _ _ (⟨some _, none, .call fn_impl_validOdd _⟩ :: _) _; refine go_callp rfl code_impl_validOdd.callable (fun H hH => implValidOdd_ok) ?_)) | (show GO _ _ _ _ _ (⟨some _, none, _⟩ :: _) _; first | refine go_op (hk := ?_) | (refine go_nw (hk := ?_); intro u; try simp only [List.length_cons, List.length_nil, List.nil_append, Nat.zero_add]) | (refine go_np (hk := ?_); intro id)) | (show GO _ _ _ _ _ (⟨none, none, _⟩ :: _) _; refine go_st (hk := ?_)) | (show GO _ _ _ _ _ (⟨_, some _, _⟩ :: _) _; first | refine go_in (hk := ?_) | refine go_out (hk := ?_) | refine go_void (hk := ?_)) | (show GK _ _ _ _ (blockK _ _ _); refine gk_past rfl ?_) | (show GC _ _ _ _ _ (.cond _ _ _) _; first | refine gc_yes (h1 := ?_) | refine gc_no (h1 := ?_))))
      exact gk_ret rfl fun H' hH => ⟨bool_no (fun hc => h3 (hc.1 i (by omega))), hH.leE⟩
    · (repeat (first | with_reducible (first | refine go_nil ?_ | refine gk_seq ?_ | refine gc_seq ?_ | refine gc_reg ?_ | refine gc_skip ?_ | refine gk_block ?_ | refine gc_block ?_ | refine gc_exit ?_ | refine gc_ret ?_ | refine gk_seqret ?_ | refine gk_seqexit ?_ | refine gk_blockret ?_ | refine gk_out ?_ | refine gk_loopret ?_ | refine gk_loopexit ?_) | (show GO _ _ _ _ _ (⟨some _, none, .call _ _⟩ :: _) _; first | (show GO _ _ _ _ _ (⟨some _, none, .call fn_impl_validOdd _⟩ :: _) _; refine go_callp rfl code_impl_validOdd.callable (fun H hH => implValidOdd_ok) ?_)) | (show GO _ _ _ _ _ (⟨some _, none, _⟩ :: _) _; first | refine go_op (hk := ?_) | (refine go_nw (hk := ?_); intro u; try simp only [List.length_cons, List.length_nil, List.nil_append, Nat.zero_add]) | (refine go_np (hk := ?_); intro id)) | (show GO _ _ _ _ _ (⟨none, none, _⟩ :: _) _; refine go_st (hk := ?_)) | (show GO _ _ _ _ _ (⟨_, some _, _⟩ :: _) _; first | refine go_in (hk := ?_) | refine go_out (hk := ?_) | refine go_void (hk := ?_)) | (show GK _ _ _ _ (blockK _ _ _); refine gk_past rfl ?_) | (show GC _ _ _ _ _ (.cond _ _ _) _; first | refine gc_yes (h1 := ?_) | refine gc_no (h1 := ?_))))
      have h3 := Decidable.not_not.1 h3
      exact gk_next (hk (i + 1) ⟨by omega, fun j hj => by
        by_cases e : j = i
        · subst e; exact h3
        · exact hall j (by omega)⟩ (by omega))
  · have : i = xs.length := by omega
    subst this
    (repeat (first | with_reducible (first | refine go_nil ?_ | refine gk_seq ?_ | refine gc_seq ?_ | refine gc_reg ?_ | refine gc_skip ?_ | refine gk_block ?_ | refine gc_block ?_ | refine gc_exit ?_ | refine gc_ret ?_ | refine gk_seqret ?_ | refine gk_seqexit ?_ | refine gk_blockret ?_ | refine gk_out ?_ | refine gk_loopret ?_ | refine gk_loopexit ?_) | (show GO _ _ _ _ _ (⟨some _, none, .call _ _⟩ :: _) _; first | (show GO _ _ _ _ _ (⟨some _, none, .call fn_impl_validOdd _⟩ :: _) _; refine go_callp rfl code_impl_validOdd.callable (fun H hH => implValidOdd_ok) ?_)) | (show GO _ _ _ _ _ (⟨some _, none, _⟩ :: _) _; first | refine go_op (hk := ?_) | (refine go_nw (hk := ?_); intro u; try simp only [List.length_cons, List.length_nil, List.nil_append, Nat.zero_add]) | (refine go_np (hk := ?_); intro id)) | (show GO _ _ _ _ _ (⟨none, none, _⟩ :: _) _; refine go_st (hk := ?_)) | (show GO _ _ _ _ _ (⟨_, some _, _⟩ :: _) _; first | refine go_in (hk := ?_) | refine go_out (hk := ?_) | refine go_void (hk := ?_)) | (show GK _ _ _ _ (blockK _ _ _); refine gk_past rfl ?_) | (show GC _ _ _ _ _ (.cond _ _ _) _; first | refine gc_yes (h1 := ?_) | refine gc_no (h1 := ?_))))
    exact gk_ret rfl fun H' hH => ⟨bool_yes ⟨hall, by omega, by omega⟩, hH.leE⟩

inductive Way | all | down | up | share

def Way.val : Way → Int → Int → Int → Int
  | .all, x, n, _ => x * n
  | .down, x, n, p => x * (n - p)
  | .up, x, n, p => x * (n - p)
  | .share, x, n, p => (x * n + p) / (p + 1)

theorem bitN_tb (x j : Nat) : bitN x j = if x.testBit j = true then 1 else 0 := by
  rw [Nat.testBit_eq_decide_div_mod_eq]
  have := bitN_lt x j
  unfold bitN at *
  simp only [decide_eq_true_eq]
  split <;> omega

def mkS (f : Nat → Prop) [DecidablePred f] : Nat → Nat
  | 0 => 0
  | n + 1 => if f n then 2 ^ n + mkS f n else mkS f n

theorem mkS_lt (f : Nat → Prop) [DecidablePred f] : ∀ n, mkS f n < 2 ^ n
  | 0 => by simp [mkS]
  | n + 1 => by
    have := mkS_lt f n
    rw [mkS, Nat.pow_succ]
    split <;> omega

theorem mkS_bit (f : Nat → Prop) [DecidablePred f] : ∀ {n j}, j < n → bitN (mkS f n) j = if f j then 1 else 0
  | 0, _, h => by omega
  | n + 1, j, h => by
    have hlt := mkS_lt f n
    rw [mkS]
    by_cases e : j = n
    · subst e
      have h0 := Nat.testBit_lt_two_pow hlt
      by_cases hf : f j
      · rw [if_pos hf, if_pos hf, bitN_tb, Nat.testBit_two_pow_add_eq, h0]; rfl
      · rw [if_neg hf, if_neg hf, bitN_tb, h0]; rfl
    · have ih := mkS_bit f (n := n) (j := j) (by omega)
      by_cases hf : f n
      · rw [if_pos hf, ← ih, bitN_tb, bitN_tb, Nat.testBit_two_pow_add_gt (by omega)]
      · rw [if_neg hf, ih]

theorem mkS_pos {f : Nat → Prop} [DecidablePred f] {n j : Nat} (hj : j < n) (h : f j) : 1 ≤ mkS f n := by
  have h1 := mkS_bit f hj
  rw [if_pos h] at h1
  rcases Nat.eq_zero_or_pos (mkS f n) with h2 | h2
  · rw [h2] at h1; simp [bitN] at h1
  · exact h2

theorem selT_size (xs : List Int) (p : Nat) : ∀ i, (selT xs p i).length = sumN (fun j => bitN p j) i
  | 0 => rfl
  | i + 1 => by
    have h := bitN_lt p i
    simp only [selT, sumN]
    split
    · rw [List.length_append, selT_size xs p i]; simp; omega
    · rw [selT_size xs p i]; omega

theorem selT_has {xs : List Int} {p j : Nat} : ∀ {i}, j < i → bitN p j = 1 → nth xs j ∈ selT xs p i
  | 0, h, _ => by omega
  | i + 1, h, hb => by
    rw [selT]
    by_cases e : j = i
    · subst e; rw [if_pos hb]; simp
    · have := selT_has (xs := xs) (p := p) (i := i) (show j < i by omega) hb
      split
      · exact List.mem_append_left _ this
      · exact this

theorem selS_size (xs : List Int) (p : Nat) : (selS xs p).length = sumN (fun j => bitN p j) xs.length := by rw [selS, sortL_length, selT_size]

theorem nth_ex {l : List Int} {v : Int} (h : v ∈ l) : ∃ m, m < l.length ∧ nth l m = v := by
  obtain ⟨m, h1, h2⟩ := List.getElem_of_mem h
  exact ⟨m, h1, by rw [nth_of h1]; exact h2⟩

theorem selS_has {xs : List Int} {p j : Nat} (hj : j < xs.length) (hb : bitN p j = 1) : ∃ m, m < (selS xs p).length ∧ nth (selS xs p) m = nth xs j :=
  nth_ex ((sortL_perm _).mem_iff.2 (selT_has hj hb))

theorem selS_mem {xs : List Int} {p m : Nat} (hm : m < (selS xs p).length) : ∃ j, j < xs.length ∧ bitN p j = 1 ∧ nth (selS xs p) m = nth xs j :=
  selT_mem ((sortL_perm _).mem_iff.1 (nth_mem hm))

theorem hdP_iff {S : List Int} {lev : Int} {s : Bool} : ∀ m, hdP S lev s m ↔ ∃ k, k < m ∧ hdM S lev s k
  | 0 => by simp [hdP]
  | m + 1 => by
    rw [hdP, hdP_iff m]
    constructor
    · rintro (⟨k, h1, h2⟩ | h)
      · exact ⟨k, by omega, h2⟩
      · exact ⟨m, by omega, h⟩
    · rintro ⟨k, h1, h2⟩
      by_cases e : k = m
      · subst e; exact .inr h2
      · exact .inl ⟨k, by omega, h2⟩

theorem held_iff {xs : List Int} {p : Nat} {lev : Int} {s : Bool} : heldP xs p lev s ↔ ∃ k, k < (selS xs p).length ∧ hdM (selS xs p) lev s k := hdP_iff _

theorem okP_iff {xs : List Int} {lev : Int} {s : Bool} {i : Nat} : ∀ q, okP xs lev s i q ↔ ∀ p, 1 ≤ p → p ≤ q → bitN p i = 0 ∨ heldP xs p lev s
  | 0 => by
    rw [okP]
    exact ⟨fun _ p h1 h2 => by omega, fun _ => trivial⟩
  | q + 1 => by
    rw [okP, okP_iff q]
    constructor
    · rintro ⟨h1, h2⟩ p h3 h4
      by_cases e : p = q + 1
      · subst e; exact h2
      · exact h1 p h3 (by omega)
    · intro h
      exact ⟨fun p h1 h2 => h p h1 (by omega), h (q + 1) (by omega) (Nat.le_refl _)⟩

theorem oddsAt_ok {H : Heap} {a : AV} {xs : List Int} {p : Nat} (ha : Ints H a xs) (hn : xs.length ≤ 6) : ACalls Try.prog fn_impl_oddsAt [a, .int .u64 (p : Int)] H fun r H' => OwnI H H' r (selS xs p) ∧ Le H H' := by
  refine code_impl_oddsAt.go [.roI a xs.length xs] ⟨⟨rfl, ha⟩, trivial⟩ (by simp) ?_
  unfold mc_impl_oddsAt
  (repeat (first | with_reducible (first | refine go_nil ?_ | refine gk_seq ?_ | refine gc_seq ?_ | refine gc_reg ?_ | refine gc_skip ?_ | refine gk_block ?_ | refine gc_block ?_ | refine gc_exit ?_ | refine gc_ret ?_ | refine gk_seqret ?_ | refine gk_seqexit ?_ | refine gk_blockret ?_ | refine gk_out ?_ | refine gk_loopret ?_ | refine gk_loopexit ?_) | (show GO _ _ _ _ _ (⟨some _, none, .call _ _⟩ :: _) _; first | (show GO _ _ _ _ _ (⟨some _, none, .call fn_impl_places_has _⟩ :: _) _; refine go_callp rfl code_impl_places_has.callable (fun H hH => has_ok (by omega)) ?_) | (show GO _ _ _ _ _ (⟨some _, none, .call fn_slices_Sort_ints _⟩ :: _) _; refine go_callg rfl code_slices_Sort_ints.callable (fun H hH => slicesSort_ok hH (by exact Sel.auto) (by omega)) ?_; intro g hg)) | (show GO _ _ _ _ _ (⟨some _, none, _⟩ :: _) _; first | refine go_op (hk := ?_) | (refine go_nw (hk := ?_); intro u; try simp only [List.length_cons, List.length_nil, List.nil_append, Nat.zero_add]) | (refine go_np (hk := ?_); intro id)) | (show GO _ _ _ _ _ (⟨none, none, _⟩ :: _) _; refine go_st (hk := ?_)) | (show GO _ _ _ _ _ (⟨_, some _, _⟩ :: _) _; first | refine go_in (hk := ?_) | refine go_out (hk := ?_) | refine go_void (hk := ?_)) | (show GK _ _ _ _ (blockK _ _ _); refine gk_past rfl ?_) | (show GC _ _ _ _ _ (.cond _ _ _) _; first | refine gc_yes (h1 := ?_) | refine gc_no (h1 := ?_))))
  refine gc_nil ?_
  refine gc_upv xs.length (fun i u => [(1, .int .u64 (p : Int)), (5, u), (8, a), (9, .int .i64 (xs.length : Int)), (10, .int .i64 (i : Int))]) (fun i u => [.rwI u (selT xs p i).length (selT xs p i), .roI a xs.length xs]) _ (hb := ?_)
  intro i u hi I ν m hk
  have hsl := selT_len xs p i
  (repeat (first | with_reducible (first | refine go_nil ?_ | refine gk_seq ?_ | refine gc_seq ?_ | refine gc_reg ?_ | refine gc_skip ?_ | refine gk_block ?_ | refine gc_block ?_ | refine gc_exit ?_ | refine gc_ret ?_ | refine gk_seqret ?_ | refine gk_seqexit ?_ | refine gk_blockret ?_ | refine gk_out ?_ | refine gk_loopret ?_ | refine gk_loopexit ?_) | (show GO _ _ _ _ _ (⟨some _, none, .call _ _⟩ :: _) _; first | (show GO _ _ _ _ _ (⟨some _, none, .call fn_impl_places_has _⟩ :: _) _; refine go_callp rfl code_impl_places_has.callable (fun H hH => has_ok (by omega)) ?_) | (show GO _ _ _ _ _ (⟨some _, none, .call fn_slices_Sort_ints _⟩ :: _) _; refine go_callg rfl code_slices_Sort_ints.callable (fun H hH => slicesSort_ok hH (by exact Sel.auto) (by omega)) ?_; intro g hg)) | (show GO _ _ _ _ _ (⟨some _, none, _⟩ :: _) _; first | refine go_op (hk := ?_) | (refine go_nw (hk := ?_); intro u; try simp only [List.length_cons, List.length_nil, List.nil_append, Nat.zero_add]) | (refine go_np (hk := ?_); intro id)) | (show GO _ _ _ _ _ (⟨none, none, _⟩ :: _) _; refine go_st (hk := ?_)) | (show GO _ _ _ _ _ (⟨_, some _, _⟩ :: _) _; first | refine go_in (hk := ?_) | refine go_out (hk := ?_) | refine go_void (hk := ?_)) | (show GK _ _ _ _ (blockK _ _ _); refine gk_past rfl ?_) | (show GC _ _ _ _ _ (.cond _ _ _) _; first | refine gc_yes (h1 := ?_) | refine gc_no (h1 := ?_))))
  refine gc_cond rfl (fun h => ?_) (fun h => ?_)
  · have hk := hk (by omega)
    rw [selT] at hk
    (repeat (first | with_reducible (first | refine go_nil ?_ | refine gk_seq ?_ | refine gc_seq ?_ | refine gc_reg ?_ | refine gc_skip ?_ | refine gk_block ?_ | refine gc_block ?_ | refine gc_exit ?_ | refine gc_ret ?_ | refine gk_seqret ?_ | refine gk_seqexit ?_ | refine gk_blockret ?_ | refine gk_out ?_ | refine gk_loopret ?_ | refine gk_loopexit ?_) | (show GO _ _ _ _ _ (⟨some _, none, .call _ _⟩ :: _) _; first | (show GO _ _ _ _ _ (⟨some _, none, .call fn_impl_places_has _⟩ :: _) _; refine go_callp rfl code_impl_places_has.callable (fun H hH => has_ok (by omega)) ?_) | (show GO _ _ _ _ _ (⟨some _, none, .call fn_slices_Sort_ints _⟩ :: _) _; refine go_callg rfl code_slices_Sort_ints.callable (fun H hH => slicesSort_ok hH (by exact Sel.auto) (by omega)) ?_; intro g hg)) | (show GO _ _ _ _ _ (⟨some _, none, _⟩ :: _) _; first | refine go_op (hk := ?_) | (refine go_nw (hk := ?_); intro u; try simp only [List.length_cons, List.length_nil, List.nil_append, Nat.zero_add]) | (refine go_np (hk := ?_); intro id)) | (show GO _ _ _ _ _ (⟨none, none, _⟩ :: _) _; refine go_st (hk := ?_)) | (show GO _ _ _ _ _ (⟨_, some _, _⟩ :: _) _; first | refine go_in (hk := ?_) | refine go_out (hk := ?_) | refine go_void (hk := ?_)) | (show GK _ _ _ _ (blockK _ _ _); refine gk_past rfl ?_) | (show GC _ _ _ _ _ (.cond _ _ _) _; first | refine gc_yes (h1 := ?_) | refine gc_no (h1 := ?_))))
    refine gc_cond rfl (fun h2 => ?_) (fun h2 => ?_)
    · rw [if_pos (show bitN p i = 1 from h2), List.length_append] at hk
      (repeat (first | with_reducible (first | refine go_nil ?_ | refine gk_seq ?_ | refine gc_seq ?_ | refine gc_reg ?_ | refine gc_skip ?_ | refine gk_block ?_ | refine gc_block ?_ | refine gc_exit ?_ | refine gc_ret ?_ | refine gk_seqret ?_ | refine gk_seqexit ?_ | refine gk_blockret ?_ | refine gk_out ?_ | refine gk_loopret ?_ | refine gk_loopexit ?_) | (show GO _ _ _ _ _ (⟨some _, none, .call _ _⟩ :: _) _; first | (show GO _ _ _ _ _ (⟨some _, none, .call fn_impl_places_has _⟩ :: _) _; refine go_callp rfl code_impl_places_has.callable (fun H hH => has_ok (by omega)) ?_) | (show GO _ _ _ _ _ (⟨some _, none, .call fn_slices_Sort_ints _⟩ :: _) _; refine go_callg rfl code_slices_Sort_ints.callable (fun H hH => slicesSort_ok hH (by exact Sel.auto) (by omega)) ?_; intro g hg)) | (show GO _ _ _ _ _ (⟨some _, none, _⟩ :: _) _; first | refine go_op (hk := ?_) | (refine go_nw (hk := ?_); intro u; try simp only [List.length_cons, List.length_nil, List.nil_append, Nat.zero_add]) | (refine go_np (hk := ?_); intro id)) | (show GO _ _ _ _ _ (⟨none, none, _⟩ :: _) _; refine go_st (hk := ?_)) | (show GO _ _ _ _ _ (⟨_, some _, _⟩ :: _) _; first | refine go_in (hk := ?_) | refine go_out (hk := ?_) | refine go_void (hk := ?_)) | (show GK _ _ _ _ (blockK _ _ _); refine gk_past rfl ?_) | (show GC _ _ _ _ _ (.cond _ _ _) _; first | refine gc_yes (h1 := ?_) | refine gc_no (h1 := ?_))))
      exact gk_next (hk _)
    · rw [if_neg (show ¬ bitN p i = 1 from h2)] at hk
      (repeat (first | with_reducible (first | refine go_nil ?_ | refine gk_seq ?_ | refine gc_seq ?_ | refine gc_reg ?_ | refine gc_skip ?_ | refine gk_block ?_ | refine gc_block ?_ | refine gc_exit ?_ | refine gc_ret ?_ | refine gk_seqret ?_ | refine gk_seqexit ?_ | refine gk_blockret ?_ | refine gk_out ?_ | refine gk_loopret ?_ | refine gk_loopexit ?_) | (show GO _ _ _ _ _ (⟨some _, none, .call _ _⟩ :: _) _; first | (show GO _ _ _ _ _ (⟨some _, none, .call fn_impl_places_has _⟩ :: _) _; refine go_callp rfl code_impl_places_has.callable (fun H hH => has_ok (by omega)) ?_) | (show GO _ _ _ _ _ (⟨some _, none, .call fn_slices_Sort_ints _⟩ :: _) _; refine go_callg rfl code_slices_Sort_ints.callable (fun H hH => slicesSort_ok hH (by exact Sel.auto) (by omega)) ?_; intro g hg)) | (show GO _ _ _ _ _ (⟨some _, none, _⟩ :: _) _; first | refine go_op (hk := ?_) | (refine go_nw (hk := ?_); intro u; try simp only [List.length_cons, List.length_nil, List.nil_append, Nat.zero_add]) | (refine go_np (hk := ?_); intro id)) | (show GO _ _ _ _ _ (⟨none, none, _⟩ :: _) _; refine go_st (hk := ?_)) | (show GO _ _ _ _ _ (⟨_, some _, _⟩ :: _) _; first | refine go_in (hk := ?_) | refine go_out (hk := ?_) | refine go_void (hk := ?_)) | (show GK _ _ _ _ (blockK _ _ _); refine gk_past rfl ?_) | (show GC _ _ _ _ _ (.cond _ _ _) _; first | refine gc_yes (h1 := ?_) | refine gc_no (h1 := ?_))))
      exact gk_next (hk _)
  · have : i = xs.length := by omega
    subst this
    (repeat (first | with_reducible (first | refine go_nil ?_ | refine gk_seq ?_ | refine gc_seq ?_ | refine gc_reg ?_ | refine gc_skip ?_ | refine gk_block ?_ | refine gc_block ?_ | refine gc_exit ?_ | refine gc_ret ?_ | refine gk_seqret ?_ | refine gk_seqexit ?_ | refine gk_blockret ?_ | refine gk_out ?_ | refine gk_loopret ?_ | refine gk_loopexit ?_) | (show GO _ _ _ _ _ (⟨some _, none, .call _ _⟩ :: _) _; first | (show GO _ _ _ _ _ (⟨some _, none, .call fn_impl_places_has _⟩ :: _) _; refine go_callp rfl code_impl_places_has.callable (fun H hH => has_ok (by omega)) ?_) | (show GO _ _ _ _ _ (⟨some _, none, .call fn_slices_Sort_ints _⟩ :: _) _; refine go_callg rfl code_slices_Sort_ints.callable (fun H hH => slicesSort_ok hH (by exact Sel.auto) (by omega)) ?_; intro g hg)) | (show GO _ _ _ _ _ (⟨some _, none, _⟩ :: _) _; first | refine go_op (hk := ?_) | (refine go_nw (hk := ?_); intro u; try simp only [List.length_cons, List.length_nil, List.nil_append, Nat.zero_add]) | (refine go_np (hk := ?_); intro id)) | (show GO _ _ _ _ _ (⟨none, none, _⟩ :: _) _; refine go_st (hk := ?_)) | (show GO _ _ _ _ _ (⟨_, some _, _⟩ :: _) _; first | refine go_in (hk := ?_) | refine go_out (hk := ?_) | refine go_void (hk := ?_)) | (show GK _ _ _ _ (blockK _ _ _); refine gk_past rfl ?_) | (show GC _ _ _ _ _ (.cond _ _ _) _; first | refine gc_yes (h1 := ?_) | refine gc_no (h1 := ?_))))
    refine gk_ret rfl fun H' hH => ?_
    rw [OwnI, selS, sortL_length]
    exact hH.give .head

/-- a set is found by a kind -/
def FndS (S : List Int) (lev : Int) (kd : List UInt8) : Prop := (kd = eachB ∧ hdP S lev true S.length) ∨ (kd = leastB ∧ hdP S lev false S.length)

instance (S : List Int) (lev : Int) (kd : List UInt8) : Decidable (FndS S lev kd) := by unfold FndS; exact inferInstance

theorem foundTogether_ok {H : Heap} {a : AV} {S : List Int} {lev : Int} {kd : List UInt8} (ha : Ints H a S) (hu : Up S) (h1 : 1 ≤ S.length) (h6 : S.length ≤ 6) (hS : ∀ i, i < S.length → 0 ≤ nth S i ∧ nth S i ≤ 1000) (hl : 0 ≤ lev ∧ lev ≤ 1000) :
    ACalls Try.prog fn_impl_foundTogether [a, .int .i64 lev, .str kd] H fun r H' => r = .bool (decide (FndS S lev kd)) ∧ H' = H := by
  refine ACalls.val ?_ rfl
  refine code_impl_foundTogether.go [.roI a S.length S] ⟨⟨rfl, ha⟩, trivial⟩ (by simp) ?_
  have hle : leastB ≠ eachB := by decide
  have hle' : eachB ≠ leastB := by decide
  have least : hdP S lev false S.length ↔ nth S 0 * (S.length : Int) ≤ lev := by
    rw [hdP_iff]
    refine ⟨fun ⟨k, hk, h⟩ => ?_, fun h => ⟨0, by omega, .inr h⟩⟩
    rcases h with h | h
    · cases h.1
    · have := hu.le (Nat.zero_le k) hk
      have := Int.mul_le_mul_of_nonneg_right this (show (0 : Int) ≤ S.length by omega)
      omega
  have each : hdP S lev true S.length ↔ ∃ k, k < S.length ∧ nth S k * (S.length : Int) ≤ ((k + 1 : Nat) : Int) * lev := by
    rw [hdP_iff]
    refine ⟨fun ⟨k, hk, h⟩ => ⟨k, hk, ?_⟩, fun ⟨k, hk, h⟩ => ⟨k, hk, .inl ⟨rfl, by rw [Int.mul_comm lev]; exact h⟩⟩⟩
    rcases h with h | h
    · rw [Int.mul_comm _ lev]; exact h.2
    · have := Int.mul_le_mul_of_nonneg_right (show (1 : Int) ≤ ((k + 1 : Nat) : Int) by omega) hl.1
      omega
  have b0 := hS 0 (by omega)
  have m0 := mul12 (a := nth S 0) (b := (S.length : Int)) (A := 1000) (B := 6) b0 (by omega)
  unfold mc_impl_foundTogether
  (repeat (first | with_reducible (first | refine go_nil ?_ | refine gk_seq ?_ | refine gc_seq ?_ | refine gc_reg ?_ | refine gc_skip ?_ | refine gk_block ?_ | refine gc_block ?_ | refine gc_exit ?_ | refine gc_ret ?_ | refine gk_seqret ?_ | refine gk_seqexit ?_ | refine gk_blockret ?_ | refine gk_out ?_ | refine gk_loopret ?_ | refine gk_loopexit ?_) | (show GO _ _ _ _ _ (⟨some _, none, _⟩ :: _) _; first | refine go_op (hk := ?_) | (refine go_nw (hk := ?_); intro u; try simp only [List.length_cons, List.length_nil, List.nil_append, Nat.zero_add]) | (refine go_np (hk := ?_); intro id)) | (show GO _ _ _ _ _ (⟨none, none, _⟩ :: _) _; refine go_st (hk := ?_)) | (show GO _ _ _ _ _ (⟨_, some _, _⟩ :: _) _; first | refine go_in (hk := ?_) | refine go_out (hk := ?_) | refine go_void (hk := ?_)) | (show GK _ _ _ _ (blockK _ _ _); refine gk_past rfl ?_) | (show GC _ _ _ _ _ (.cond _ _ _) _; first | refine gc_yes (h1 := ?_) | refine gc_no (h1 := ?_))))
  refine gc_cond rfl (fun hk => ?_) (fun hk => ?_)
  · (repeat (first | with_reducible (first | refine go_nil ?_ | refine gk_seq ?_ | refine gc_seq ?_ | refine gc_reg ?_ | refine gc_skip ?_ | refine gk_block ?_ | refine gc_block ?_ | refine gc_exit ?_ | refine gc_ret ?_ | refine gk_seqret ?_ | refine gk_seqexit ?_ | refine gk_blockret ?_ | refine gk_out ?_ | refine gk_loopret ?_ | refine gk_loopexit ?_) | (show GO _ _ _ _ _ (⟨some _, none, _⟩ :: _) _; first | refine go_op (hk := ?_) | (refine go_nw (hk := ?_); intro u; try simp only [List.length_cons, List.length_nil, List.nil_append, Nat.zero_add]) | (refine go_np (hk := ?_); intro id)) | (show GO _ _ _ _ _ (⟨none, none, _⟩ :: _) _; refine go_st (hk := ?_)) | (show GO _ _ _ _ _ (⟨_, some _, _⟩ :: _) _; first | refine go_in (hk := ?_) | refine go_out (hk := ?_) | refine go_void (hk := ?_)) | (show GK _ _ _ _ (blockK _ _ _); refine gk_past rfl ?_) | (show GC _ _ _ _ _ (.cond _ _ _) _; first | refine gc_yes (h1 := ?_) | refine gc_no (h1 := ?_))))
    refine gc_loop (γ := Nat) (fun i => [(0, a), (1, .int .i64 lev), (7, .int .i64 ((i + 1 : Nat) : Int))]) (fun _ => [.roI a S.length S]) (fun i => i + 1 ≤ S.length ∧ ∀ k, 1 ≤ k → k ≤ i → ¬ nth S k * (S.length : Int) ≤ ((k + 1 : Nat) : Int) * lev) (fun i => S.length - i) 0 ⟨h1, fun k _ _ => by omega⟩ (hb := ?_)
    rintro i ⟨hi, hno⟩ I ν m hnx
    (repeat (first | with_reducible (first | refine go_nil ?_ | refine gk_seq ?_ | refine gc_seq ?_ | refine gc_reg ?_ | refine gc_skip ?_ | refine gk_block ?_ | refine gc_block ?_ | refine gc_exit ?_ | refine gc_ret ?_ | refine gk_seqret ?_ | refine gk_seqexit ?_ | refine gk_blockret ?_ | refine gk_out ?_ | refine gk_loopret ?_ | refine gk_loopexit ?_) | (show GO _ _ _ _ _ (⟨some _, none, _⟩ :: _) _; first | refine go_op (hk := ?_) | (refine go_nw (hk := ?_); intro u; try simp only [List.length_cons, List.length_nil, List.nil_append, Nat.zero_add]) | (refine go_np (hk := ?_); intro id)) | (show GO _ _ _ _ _ (⟨none, none, _⟩ :: _) _; refine go_st (hk := ?_)) | (show GO _ _ _ _ _ (⟨_, some _, _⟩ :: _) _; first | refine go_in (hk := ?_) | refine go_out (hk := ?_) | refine go_void (hk := ?_)) | (show GK _ _ _ _ (blockK _ _ _); refine gk_past rfl ?_) | (show GC _ _ _ _ _ (.cond _ _ _) _; first | refine gc_yes (h1 := ?_) | refine gc_no (h1 := ?_))))
    refine gc_cond rfl (fun h2 => ?_) (fun h2 => ?_)
    · have b1 := hS (i + 1) (by omega)
      have m1 := mul12 (a := nth S (i + 1)) (b := (S.length : Int)) (A := 1000) (B := 6) b1 (by omega)
      have m2 := mul12 (a := ((i + 1 + 1 : Nat) : Int)) (b := lev) (A := 7) (B := 1000) (by omega) hl
      (repeat (first | with_reducible (first | refine go_nil ?_ | refine gk_seq ?_ | refine gc_seq ?_ | refine gc_reg ?_ | refine gc_skip ?_ | refine gk_block ?_ | refine gc_block ?_ | refine gc_exit ?_ | refine gc_ret ?_ | refine gk_seqret ?_ | refine gk_seqexit ?_ | refine gk_blockret ?_ | refine gk_out ?_ | refine gk_loopret ?_ | refine gk_loopexit ?_) | (show GO _ _ _ _ _ (⟨some _, none, _⟩ :: _) _; first | refine go_op (hk := ?_) | (refine go_nw (hk := ?_); intro u; try simp only [List.length_cons, List.length_nil, List.nil_append, Nat.zero_add]) | (refine go_np (hk := ?_); intro id)) | (show GO _ _ _ _ _ (⟨none, none, _⟩ :: _) _; refine go_st (hk := ?_)) | (show GO _ _ _ _ _ (⟨_, some _, _⟩ :: _) _; first | refine go_in (hk := ?_) | refine go_out (hk := ?_) | refine go_void (hk := ?_)) | (show GK _ _ _ _ (blockK _ _ _); refine gk_past rfl ?_) | (show GC _ _ _ _ _ (.cond _ _ _) _; first | refine gc_yes (h1 := ?_) | refine gc_no (h1 := ?_))))
      refine gc_cond rfl (fun h3 => ?_) (fun h3 => ?_)
      · (repeat (first | with_reducible (first | refine go_nil ?_ | refine gk_seq ?_ | refine gc_seq ?_ | refine gc_reg ?_ | refine gc_skip ?_ | refine gk_block ?_ | refine gc_block ?_ | refine gc_exit ?_ | refine gc_ret ?_ | refine gk_seqret ?_ | refine gk_seqexit ?_ | refine gk_blockret ?_ | refine gk_out ?_ | refine gk_loopret ?_ | refine gk_loopexit ?_) | (show GO _ _ _ _ _ (⟨some _, none, _⟩ :: _) _; first | refine go_op (hk := ?_) | (refine go_nw (hk := ?_); intro u; try simp only [List.length_cons, List.length_nil, List.nil_append, Nat.zero_add]) | (refine go_np (hk := ?_); intro id)) | (show GO _ _ _ _ _ (⟨none, none, _⟩ :: _) _; refine go_st (hk := ?_)) | (show GO _ _ _ _ _ (⟨_, some _, _⟩ :: _) _; first | refine go_in (hk := ?_) | refine go_out (hk := ?_) | refine go_void (hk := ?_)) | (show GK _ _ _ _ (blockK _ _ _); refine gk_past rfl ?_) | (show GC _ _ _ _ _ (.cond _ _ _) _; first | refine gc_yes (h1 := ?_) | refine gc_no (h1 := ?_))))
        exact gk_ret rfl fun H' hH => ⟨bool_yes (.inl ⟨hk, each.2 ⟨i + 1, by omega, h3⟩⟩), hH.leE⟩
      · (repeat (first | with_reducible (first | refine go_nil ?_ | refine gk_seq ?_ | refine gc_seq ?_ | refine gc_reg ?_ | refine gc_skip ?_ | refine gk_block ?_ | refine gc_block ?_ | refine gc_exit ?_ | refine gc_ret ?_ | refine gk_seqret ?_ | refine gk_seqexit ?_ | refine gk_blockret ?_ | refine gk_out ?_ | refine gk_loopret ?_ | refine gk_loopexit ?_) | (show GO _ _ _ _ _ (⟨some _, none, _⟩ :: _) _; first | refine go_op (hk := ?_) | (refine go_nw (hk := ?_); intro u; try simp only [List.length_cons, List.length_nil, List.nil_append, Nat.zero_add]) | (refine go_np (hk := ?_); intro id)) | (show GO _ _ _ _ _ (⟨none, none, _⟩ :: _) _; refine go_st (hk := ?_)) | (show GO _ _ _ _ _ (⟨_, some _, _⟩ :: _) _; first | refine go_in (hk := ?_) | refine go_out (hk := ?_) | refine go_void (hk := ?_)) | (show GK _ _ _ _ (blockK _ _ _); refine gk_past rfl ?_) | (show GC _ _ _ _ _ (.cond _ _ _) _; first | refine gc_yes (h1 := ?_) | refine gc_no (h1 := ?_))))
        refine gk_next (hnx (i + 1) ⟨by omega, fun k k1 k2 => ?_⟩ (by omega))
        by_cases e : k = i + 1
        · subst e; exact h3
        · exact hno k k1 (by omega)
    · (repeat (first | with_reducible (first | refine go_nil ?_ | refine gk_seq ?_ | refine gc_seq ?_ | refine gc_reg ?_ | refine gc_skip ?_ | refine gk_block ?_ | refine gc_block ?_ | refine gc_exit ?_ | refine gc_ret ?_ | refine gk_seqret ?_ | refine gk_seqexit ?_ | refine gk_blockret ?_ | refine gk_out ?_ | refine gk_loopret ?_ | refine gk_loopexit ?_) | (show GO _ _ _ _ _ (⟨some _, none, _⟩ :: _) _; first | refine go_op (hk := ?_) | (refine go_nw (hk := ?_); intro u; try simp only [List.length_cons, List.length_nil, List.nil_append, Nat.zero_add]) | (refine go_np (hk := ?_); intro id)) | (show GO _ _ _ _ _ (⟨none, none, _⟩ :: _) _; refine go_st (hk := ?_)) | (show GO _ _ _ _ _ (⟨_, some _, _⟩ :: _) _; first | refine go_in (hk := ?_) | refine go_out (hk := ?_) | refine go_void (hk := ?_)) | (show GK _ _ _ _ (blockK _ _ _); refine gk_past rfl ?_) | (show GC _ _ _ _ _ (.cond _ _ _) _; first | refine gc_yes (h1 := ?_) | refine gc_no (h1 := ?_))))
      refine gk_ret rfl fun H' hH => ⟨bool_iff ⟨fun h => .inl ⟨hk, each.2 ⟨0, by omega, by simpa using h⟩⟩, fun h => ?_⟩, hH.leE⟩
      rcases h with h | h
      · obtain ⟨k, k1, k2⟩ := each.1 h.2
        by_cases e : k = 0
        · subst e; simpa using k2
        · exact absurd k2 (hno k (by omega) (by omega))
      · exact absurd (hk.symm.trans h.1) hle'
  · (repeat (first | with_reducible (first | refine go_nil ?_ | refine gk_seq ?_ | refine gc_seq ?_ | refine gc_reg ?_ | refine gc_skip ?_ | refine gk_block ?_ | refine gc_block ?_ | refine gc_exit ?_ | refine gc_ret ?_ | refine gk_seqret ?_ | refine gk_seqexit ?_ | refine gk_blockret ?_ | refine gk_out ?_ | refine gk_loopret ?_ | refine gk_loopexit ?_) | (show GO _ _ _ _ _ (⟨some _, none, _⟩ :: _) _; first | refine go_op (hk := ?_) | (refine go_nw (hk := ?_); intro u; try simp only [List.length_cons, List.length_nil, List.nil_append, Nat.zero_add]) | (refine go_np (hk := ?_); intro id)) | (show GO _ _ _ _ _ (⟨none, none, _⟩ :: _) _; refine go_st (hk := ?_)) | (show GO _ _ _ _ _ (⟨_, some _, _⟩ :: _) _; first | refine go_in (hk := ?_) | refine go_out (hk := ?_) | refine go_void (hk := ?_)) | (show GK _ _ _ _ (blockK _ _ _); refine gk_past rfl ?_) | (show GC _ _ _ _ _ (.cond _ _ _) _; first | refine gc_yes (h1 := ?_) | refine gc_no (h1 := ?_))))
    refine gc_cond rfl (fun hk2 => ?_) (fun hk2 => ?_)
    · (repeat (first | with_reducible (first | refine go_nil ?_ | refine gk_seq ?_ | refine gc_seq ?_ | refine gc_reg ?_ | refine gc_skip ?_ | refine gk_block ?_ | refine gc_block ?_ | refine gc_exit ?_ | refine gc_ret ?_ | refine gk_seqret ?_ | refine gk_seqexit ?_ | refine gk_blockret ?_ | refine gk_out ?_ | refine gk_loopret ?_ | refine gk_loopexit ?_) | (show GO _ _ _ _ _ (⟨some _, none, _⟩ :: _) _; first | refine go_op (hk := ?_) | (refine go_nw (hk := ?_); intro u; try simp only [List.length_cons, List.length_nil, List.nil_append, Nat.zero_add]) | (refine go_np (hk := ?_); intro id)) | (show GO _ _ _ _ _ (⟨none, none, _⟩ :: _) _; refine go_st (hk := ?_)) | (show GO _ _ _ _ _ (⟨_, some _, _⟩ :: _) _; first | refine go_in (hk := ?_) | refine go_out (hk := ?_) | refine go_void (hk := ?_)) | (show GK _ _ _ _ (blockK _ _ _); refine gk_past rfl ?_) | (show GC _ _ _ _ _ (.cond _ _ _) _; first | refine gc_yes (h1 := ?_) | refine gc_no (h1 := ?_))))
      exact gk_ret rfl fun H' hH => ⟨bool_iff ⟨fun h => .inr ⟨hk2, least.2 h⟩, fun h => h.elim (fun h => absurd h.1 hk) (fun h => least.1 h.2)⟩, hH.leE⟩
    · (repeat (first | with_reducible (first | refine go_nil ?_ | refine gk_seq ?_ | refine gc_seq ?_ | refine gc_reg ?_ | refine gc_skip ?_ | refine gk_block ?_ | refine gc_block ?_ | refine gc_exit ?_ | refine gc_ret ?_ | refine gk_seqret ?_ | refine gk_seqexit ?_ | refine gk_blockret ?_ | refine gk_out ?_ | refine gk_loopret ?_ | refine gk_loopexit ?_) | (show GO _ _ _ _ _ (⟨some _, none, _⟩ :: _) _; first | refine go_op (hk := ?_) | (refine go_nw (hk := ?_); intro u; try simp only [List.length_cons, List.length_nil, List.nil_append, Nat.zero_add]) | (refine go_np (hk := ?_); intro id)) | (show GO _ _ _ _ _ (⟨none, none, _⟩ :: _) _; refine go_st (hk := ?_)) | (show GO _ _ _ _ _ (⟨_, some _, _⟩ :: _) _; first | refine go_in (hk := ?_) | refine go_out (hk := ?_) | refine go_void (hk := ?_)) | (show GK _ _ _ _ (blockK _ _ _); refine gk_past rfl ?_) | (show GC _ _ _ _ _ (.cond _ _ _) _; first | refine gc_yes (h1 := ?_) | refine gc_no (h1 := ?_))))
      exact gk_ret rfl fun H' hH => ⟨bool_no (fun h => h.elim (fun h => hk h.1) (fun h => hk2 h.1)), hH.leE⟩

def FndK (xs : List Int) (lev : Int) (kd : List UInt8) (p : Nat) : Prop := FndS (selS xs p) lev kd

instance (xs : List Int) (lev : Int) (kd : List UInt8) (p : Nat) : Decidable (FndK xs lev kd p) := by unfold FndK; exact inferInstance

/-- the places of a set -/
def cbT (c : Nat) : Nat → List Int
  | 0 => []
  | i + 1 => if bitN c i = 1 then cbT c i ++ [(i : Int)] else cbT c i

theorem cbT_len (c : Nat) : ∀ i, (cbT c i).length ≤ i
  | 0 => Nat.le_refl _
  | i + 1 => by
    have := cbT_len c i
    rw [cbT]
    split
    · rw [List.length_append]; simp; omega
    · omega

theorem bit_some {p n : Nat} (h1 : 1 ≤ p) (h2 : p < 2 ^ n) : ∃ j, j < n ∧ bitN p j = 1 := by
  obtain ⟨j, hj⟩ := Nat.exists_testBit_of_ne_zero (x := p) (by omega)
  refine ⟨j, ?_, by rw [bitN_tb, if_pos hj]⟩
  rcases Nat.lt_or_ge j n with h | h
  · exact h
  · have h3 : 2 ^ n ≤ 2 ^ j := Nat.pow_le_pow_right (by decide) h
    rw [Nat.testBit_lt_two_pow (by omega)] at hj
    cases hj

theorem bitN_one {i : Nat} : bitN (2 ^ i) i = 1 := by rw [bitN_tb, if_pos Nat.testBit_two_pow_self]

theorem bitN_andn {c p i : Nat} (hi : i < 64) (hp : p < 18446744073709551616) : bitN (c &&& (18446744073709551615 - p)) i = 1 ↔ bitN c i = 1 ∧ bitN p i = 0 := by
  have e : 18446744073709551615 - p = 2 ^ 64 - (p + 1) := by omega
  rw [bitN_tb, bitN_tb, bitN_tb, Nat.testBit_and, e, Nat.testBit_two_pow_sub_succ (by omega)]
  simp only [hi, decide_true, Bool.true_and]
  cases c.testBit i <;> cases p.testBit i <;> simp

theorem all_bits {n i : Nat} (hi : i < n) : bitN (2 ^ n - 1) i = 1 := by
  rw [bitN_tb, Nat.testBit_two_pow_sub_one, if_pos (by simpa using hi)]

def ClInv (xs : List Int) (lev : Int) (kd : List UInt8) (c q : Nat) : Prop := ∀ i, i < xs.length → (bitN c i = 1 ↔ ∀ p, 1 ≤ p → p ≤ q → bitN p i = 0 ∨ FndK xs lev kd p)

theorem clInv_no {xs : List Int} {lev : Int} {kd : List UInt8} {c q : Nat} (hn : xs.length ≤ 6) (hq : q + 1 ≤ 2 ^ xs.length - 1) (h : ClInv xs lev kd c q) (hf : ¬ FndK xs lev kd (q + 1)) : ClInv xs lev kd (c &&& (18446744073709551615 - (q + 1))) (q + 1) := by
  have h2p := two_pow6 hn
  intro i hi
  rw [bitN_andn (by omega) (by omega), h i hi]
  refine ⟨fun ⟨h1, h2⟩ p k1 k2 => ?_, fun h1 => ⟨fun p k1 k2 => h1 p k1 (by omega), ?_⟩⟩
  · by_cases e : p = q + 1
    · subst e; exact .inl h2
    · exact h1 p k1 (by omega)
  · exact (h1 (q + 1) (by omega) (Nat.le_refl _)).resolve_right hf

theorem clInv_yes {xs : List Int} {lev : Int} {kd : List UInt8} {c q : Nat} (h : ClInv xs lev kd c q) (hf : FndK xs lev kd (q + 1)) : ClInv xs lev kd c (q + 1) := by
  intro i hi
  rw [h i hi]
  refine ⟨fun h1 p k1 k2 => ?_, fun h1 p k1 k2 => h1 p k1 (by omega)⟩
  by_cases e : p = q + 1
  · subst e; exact .inr hf
  · exact h1 p k1 (by omega)

theorem cl_out {xs : List Int} {lev : Int} {kd : List UInt8} {c : Nat} (hx : OddsOk xs) (hl : 0 ≤ lev ∧ lev ≤ 1000) (h : ClInv xs lev kd c (2 ^ xs.length - 1)) : cbT c xs.length = clX xs lev kd := by
  have hn : xs.length ≤ 6 := hx.2.2
  by_cases hk : kd = leastB ∨ kd = eachB
  · rw [clX, if_pos ⟨hx, hl, hk⟩]
    have hle : leastB ≠ eachB := by decide
    have e : ∀ p, FndK xs lev kd p ↔ heldP xs p lev (decide (kd = eachB)) := by
      intro p
      unfold FndK FndS heldP
      rcases hk with rfl | rfl
      · simp only [hle, decide_false, false_and, false_or, true_and]
      · simp only [decide_true, true_and, hle.symm, false_and, or_false]
    have : ∀ i, i ≤ xs.length → cbT c i = clT xs lev (decide (kd = eachB)) i := by
      intro i
      induction i with
      | zero => intro _; rfl
      | succ i ih =>
        intro hi
        have h1 : bitN c i = 1 ↔ okP xs lev (decide (kd = eachB)) i (2 ^ xs.length - 1) := by
          rw [h i (by omega), okP_iff]
          simp only [e]
        rw [cbT, clT, ih (by omega)]
        by_cases h2 : bitN c i = 1
        · rw [if_pos h2, if_pos (h1.1 h2)]
        · rw [if_neg h2, if_neg (fun h3 => h2 (h1.2 h3))]
    exact this _ (Nat.le_refl _)
  · rw [clX, if_neg (fun h => hk h.2.2)]
    have nf : ∀ p, ¬ FndK xs lev kd p := fun p hf => hk (hf.elim (fun h => .inr h.1) (fun h => .inl h.1))
    have : ∀ i, i ≤ xs.length → cbT c i = [] := by
      intro i
      induction i with
      | zero => intro _; rfl
      | succ i ih =>
        intro hi
        rw [cbT, ih (by omega), if_neg]
        intro h1
        have h2 : 2 ^ i < 2 ^ xs.length := Nat.pow_lt_pow_right (by decide) (by omega)
        rcases (h i (by omega)).1 h1 (2 ^ i) Nat.one_le_two_pow (by omega) with h3 | h3
        · rw [bitN_one] at h3; cases h3
        · exact nf _ h3
    exact this _ (Nat.le_refl _)

theorem implClosedBy_ok {H : Heap} {a : AV} {xs : List Int} {lev : Int} {kd : List UInt8} (ha : Ints H a xs) (hl : xs.length ≤ 1048576) : ACalls Try.prog fn_impl_ClosedBy [a, .int .i64 lev, .str kd] H fun r H' => OwnI H H' r (clX xs lev kd) ∧ Le H H' := by
  refine code_impl_ClosedBy.go [.roI a xs.length xs] ⟨⟨rfl, ha⟩, trivial⟩ (by simp) ?_
  unfold mc_impl_ClosedBy
  (repeat (first | with_reducible (first | refine go_nil ?_ | refine gk_seq ?_ | refine gc_seq ?_ | refine gc_reg ?_ | refine gc_skip ?_ | refine gk_block ?_ | refine gc_block ?_ | refine gc_exit ?_ | refine gc_ret ?_ | refine gk_seqret ?_ | refine gk_seqexit ?_ | refine gk_blockret ?_ | refine gk_out ?_ | refine gk_loopret ?_ | refine gk_loopexit ?_) | (show GO _ _ _ _ _ (⟨some _, none, .call _ _⟩ :: _) _; first | (show GO _ _ _ _ _ (⟨some _, none, .call fn_impl_ValidOdds _⟩ :: _) _; refine go_callp rfl code_impl_ValidOdds.callable (fun H hH => implValidOdds_ok (hH.ints (by exact Has.auto)) (by omega)) ?_) | (show GO _ _ _ _ _ (⟨some _, none, .call fn_impl_validOdd _⟩ :: _) _; refine go_callp rfl code_impl_validOdd.callable (fun H hH => implValidOdd_ok) ?_) | (show GO _ _ _ _ _ (⟨some _, none, .call fn_impl_firstPlaces _⟩ :: _) _; refine go_callp rfl code_impl_firstPlaces.callable (fun H hH => firstPlaces_ok (by omega)) ?_) | (show GO _ _ _ _ _ (⟨some _, none, .call fn_impl_oddsAt _⟩ :: _) _; refine go_calln rfl code_impl_oddsAt.callable (fun H hH => oddsAt_ok (hH.ints (by exact Has.auto)) (by omega)) ?_; intro u) | (show GO _ _ _ _ _ (⟨some _, none, .call fn_impl_places_has _⟩ :: _) _; refine go_callp rfl code_impl_places_has.callable (fun H hH => has_ok (by omega)) ?_)) | (show GO _ _ _ _ _ (⟨some _, none, _⟩ :: _) _; first | refine go_op (hk := ?_) | (refine go_nw (hk := ?_); intro u; try simp only [List.length_cons, List.length_nil, List.nil_append, Nat.zero_add]) | (refine go_np (hk := ?_); intro id)) | (show GO _ _ _ _ _ (⟨none, none, _⟩ :: _) _; refine go_st (hk := ?_)) | (show GO _ _ _ _ _ (⟨_, some _, _⟩ :: _) _; first | refine go_in (hk := ?_) | refine go_out (hk := ?_) | refine go_void (hk := ?_)) | (show GK _ _ _ _ (blockK _ _ _); refine gk_past rfl ?_) | (show GC _ _ _ _ _ (.cond _ _ _) _; first | refine gc_yes (h1 := ?_) | refine gc_no (h1 := ?_))))
  refine go_split 15 rfl (fun h1 => ?_) (fun h1 => ?_)
  · (repeat (first | with_reducible (first | refine go_nil ?_ | refine gk_seq ?_ | refine gc_seq ?_ | refine gc_reg ?_ | refine gc_skip ?_ | refine gk_block ?_ | refine gc_block ?_ | refine gc_exit ?_ | refine gc_ret ?_ | refine gk_seqret ?_ | refine gk_seqexit ?_ | refine gk_blockret ?_ | refine gk_out ?_ | refine gk_loopret ?_ | refine gk_loopexit ?_) | (show GO _ _ _ _ _ (⟨some _, none, .call _ _⟩ :: _) _; first | (show GO _ _ _ _ _ (⟨some _, none, .call fn_impl_ValidOdds _⟩ :: _) _; refine go_callp rfl code_impl_ValidOdds.callable (fun H hH => implValidOdds_ok (hH.ints (by exact Has.auto)) (by omega)) ?_) | (show GO _ _ _ _ _ (⟨some _, none, .call fn_impl_validOdd _⟩ :: _) _; refine go_callp rfl code_impl_validOdd.callable (fun H hH => implValidOdd_ok) ?_) | (show GO _ _ _ _ _ (⟨some _, none, .call fn_impl_firstPlaces _⟩ :: _) _; refine go_callp rfl code_impl_firstPlaces.callable (fun H hH => firstPlaces_ok (by omega)) ?_) | (show GO _ _ _ _ _ (⟨some _, none, .call fn_impl_oddsAt _⟩ :: _) _; refine go_calln rfl code_impl_oddsAt.callable (fun H hH => oddsAt_ok (hH.ints (by exact Has.auto)) (by omega)) ?_; intro u) | (show GO _ _ _ _ _ (⟨some _, none, .call fn_impl_places_has _⟩ :: _) _; refine go_callp rfl code_impl_places_has.callable (fun H hH => has_ok (by omega)) ?_)) | (show GO _ _ _ _ _ (⟨some _, none, _⟩ :: _) _; first | refine go_op (hk := ?_) | (refine go_nw (hk := ?_); intro u; try simp only [List.length_cons, List.length_nil, List.nil_append, Nat.zero_add]) | (refine go_np (hk := ?_); intro id)) | (show GO _ _ _ _ _ (⟨none, none, _⟩ :: _) _; refine go_st (hk := ?_)) | (show GO _ _ _ _ _ (⟨_, some _, _⟩ :: _) _; first | refine go_in (hk := ?_) | refine go_out (hk := ?_) | refine go_void (hk := ?_)) | (show GK _ _ _ _ (blockK _ _ _); refine gk_past rfl ?_) | (show GC _ _ _ _ _ (.cond _ _ _) _; first | refine gc_yes (h1 := ?_) | refine gc_no (h1 := ?_))))
    exact gk_ret rfl fun H' hH => ⟨by rw [clX, if_neg (fun hc => h1 hc.1)]; exact Own.nil _ _ _, hH.leE⟩
  (repeat (first | with_reducible (first | refine go_nil ?_ | refine gk_seq ?_ | refine gc_seq ?_ | refine gc_reg ?_ | refine gc_skip ?_ | refine gk_block ?_ | refine gc_block ?_ | refine gc_exit ?_ | refine gc_ret ?_ | refine gk_seqret ?_ | refine gk_seqexit ?_ | refine gk_blockret ?_ | refine gk_out ?_ | refine gk_loopret ?_ | refine gk_loopexit ?_) | (show GO _ _ _ _ _ (⟨some _, none, .call _ _⟩ :: _) _; first | (show GO _ _ _ _ _ (⟨some _, none, .call fn_impl_ValidOdds _⟩ :: _) _; refine go_callp rfl code_impl_ValidOdds.callable (fun H hH => implValidOdds_ok (hH.ints (by exact Has.auto)) (by omega)) ?_) | (show GO _ _ _ _ _ (⟨some _, none, .call fn_impl_validOdd _⟩ :: _) _; refine go_callp rfl code_impl_validOdd.callable (fun H hH => implValidOdd_ok) ?_) | (show GO _ _ _ _ _ (⟨some _, none, .call fn_impl_firstPlaces _⟩ :: _) _; refine go_callp rfl code_impl_firstPlaces.callable (fun H hH => firstPlaces_ok (by omega)) ?_) | (show GO _ _ _ _ _ (⟨some _, none, .call fn_impl_oddsAt _⟩ :: _) _; refine go_calln rfl code_impl_oddsAt.callable (fun H hH => oddsAt_ok (hH.ints (by exact Has.auto)) (by omega)) ?_; intro u) | (show GO _ _ _ _ _ (⟨some _, none, .call fn_impl_places_has _⟩ :: _) _; refine go_callp rfl code_impl_places_has.callable (fun H hH => has_ok (by omega)) ?_)) | (show GO _ _ _ _ _ (⟨some _, none, _⟩ :: _) _; first | refine go_op (hk := ?_) | (refine go_nw (hk := ?_); intro u; try simp only [List.length_cons, List.length_nil, List.nil_append, Nat.zero_add]) | (refine go_np (hk := ?_); intro id)) | (show GO _ _ _ _ _ (⟨none, none, _⟩ :: _) _; refine go_st (hk := ?_)) | (show GO _ _ _ _ _ (⟨_, some _, _⟩ :: _) _; first | refine go_in (hk := ?_) | refine go_out (hk := ?_) | refine go_void (hk := ?_)) | (show GK _ _ _ _ (blockK _ _ _); refine gk_past rfl ?_) | (show GC _ _ _ _ _ (.cond _ _ _) _; first | refine gc_yes (h1 := ?_) | refine gc_no (h1 := ?_))))
  refine gc_cond rfl (fun h2 => ?_) (fun h2 => ?_)
  · (repeat (first | with_reducible (first | refine go_nil ?_ | refine gk_seq ?_ | refine gc_seq ?_ | refine gc_reg ?_ | refine gc_skip ?_ | refine gk_block ?_ | refine gc_block ?_ | refine gc_exit ?_ | refine gc_ret ?_ | refine gk_seqret ?_ | refine gk_seqexit ?_ | refine gk_blockret ?_ | refine gk_out ?_ | refine gk_loopret ?_ | refine gk_loopexit ?_) | (show GO _ _ _ _ _ (⟨some _, none, .call _ _⟩ :: _) _; first | (show GO _ _ _ _ _ (⟨some _, none, .call fn_impl_ValidOdds _⟩ :: _) _; refine go_callp rfl code_impl_ValidOdds.callable (fun H hH => implValidOdds_ok (hH.ints (by exact Has.auto)) (by omega)) ?_) | (show GO _ _ _ _ _ (⟨some _, none, .call fn_impl_validOdd _⟩ :: _) _; refine go_callp rfl code_impl_validOdd.callable (fun H hH => implValidOdd_ok) ?_) | (show GO _ _ _ _ _ (⟨some _, none, .call fn_impl_firstPlaces _⟩ :: _) _; refine go_callp rfl code_impl_firstPlaces.callable (fun H hH => firstPlaces_ok (by omega)) ?_) | (show GO _ _ _ _ _ (⟨some _, none, .call fn_impl_oddsAt _⟩ :: _) _; refine go_calln rfl code_impl_oddsAt.callable (fun H hH => oddsAt_ok (hH.ints (by exact Has.auto)) (by omega)) ?_; intro u) | (show GO _ _ _ _ _ (⟨some _, none, .call fn_impl_places_has _⟩ :: _) _; refine go_callp rfl code_impl_places_has.callable (fun H hH => has_ok (by omega)) ?_)) | (show GO _ _ _ _ _ (⟨some _, none, _⟩ :: _) _; first | refine go_op (hk := ?_) | (refine go_nw (hk := ?_); intro u; try simp only [List.length_cons, List.length_nil, List.nil_append, Nat.zero_add]) | (refine go_np (hk := ?_); intro id)) | (show GO _ _ _ _ _ (⟨none, none, _⟩ :: _) _; refine go_st (hk := ?_)) | (show GO _ _ _ _ _ (⟨_, some _, _⟩ :: _) _; first | refine go_in (hk := ?_) | refine go_out (hk := ?_) | refine go_void (hk := ?_)) | (show GK _ _ _ _ (blockK _ _ _); refine gk_past rfl ?_) | (show GC _ _ _ _ _ (.cond _ _ _) _; first | refine gc_yes (h1 := ?_) | refine gc_no (h1 := ?_))))
    exact gk_ret rfl fun H' hH => ⟨by rw [clX, if_neg (fun hc => h2 hc.2.1)]; exact Own.nil _ _ _, hH.leE⟩
  have hx := Decidable.not_not.1 h1
  have hlv := Decidable.not_not.1 h2
  have hn : xs.length ≤ 6 := hx.2.2
  have h2p := two_pow6 hn
  (repeat (first | with_reducible (first | refine go_nil ?_ | refine gk_seq ?_ | refine gc_seq ?_ | refine gc_reg ?_ | refine gc_skip ?_ | refine gk_block ?_ | refine gc_block ?_ | refine gc_exit ?_ | refine gc_ret ?_ | refine gk_seqret ?_ | refine gk_seqexit ?_ | refine gk_blockret ?_ | refine gk_out ?_ | refine gk_loopret ?_ | refine gk_loopexit ?_) | (show GO _ _ _ _ _ (⟨some _, none, .call _ _⟩ :: _) _; first | (show GO _ _ _ _ _ (⟨some _, none, .call fn_impl_ValidOdds _⟩ :: _) _; refine go_callp rfl code_impl_ValidOdds.callable (fun H hH => implValidOdds_ok (hH.ints (by exact Has.auto)) (by omega)) ?_) | (show GO _ _ _ _ _ (⟨some _, none, .call fn_impl_validOdd _⟩ :: _) _; refine go_callp rfl code_impl_validOdd.callable (fun H hH => implValidOdd_ok) ?_) | (show GO _ _ _ _ _ (⟨some _, none, .call fn_impl_firstPlaces _⟩ :: _) _; refine go_callp rfl code_impl_firstPlaces.callable (fun H hH => firstPlaces_ok (by omega)) ?_) | (show GO _ _ _ _ _ (⟨some _, none, .call fn_impl_oddsAt _⟩ :: _) _; refine go_calln rfl code_impl_oddsAt.callable (fun H hH => oddsAt_ok (hH.ints (by exact Has.auto)) (by omega)) ?_; intro u) | (show GO _ _ _ _ _ (⟨some _, none, .call fn_impl_places_has _⟩ :: _) _; refine go_callp rfl code_impl_places_has.callable (fun H hH => has_ok (by omega)) ?_)) | (show GO _ _ _ _ _ (⟨some _, none, _⟩ :: _) _; first | refine go_op (hk := ?_) | (refine go_nw (hk := ?_); intro u; try simp only [List.length_cons, List.length_nil, List.nil_append, Nat.zero_add]) | (refine go_np (hk := ?_); intro id)) | (show GO _ _ _ _ _ (⟨none, none, _⟩ :: _) _; refine go_st (hk := ?_)) | (show GO _ _ _ _ _ (⟨_, some _, _⟩ :: _) _; first | refine go_in (hk := ?_) | refine go_out (hk := ?_) | refine go_void (hk := ?_)) | (show GK _ _ _ _ (blockK _ _ _); refine gk_past rfl ?_) | (show GC _ _ _ _ _ (.cond _ _ _) _; first | refine gc_yes (h1 := ?_) | refine gc_no (h1 := ?_))))
  refine gc_loop (γ := Nat × Nat) (fun g => [(0, a), (1, .int .i64 lev), (2, .str kd), (7, .int .u64 ((2 ^ xs.length - 1 : Nat) : Int)), (8, .int .u64 (g.1 : Int)), (9, .int .u64 ((g.2 + 1 : Nat) : Int))]) (fun _ => [.roI a xs.length xs]) (fun g => g.1 ≤ 2 ^ xs.length - 1 ∧ g.2 ≤ 2 ^ xs.length - 1 ∧ ClInv xs lev kd g.1 g.2) (fun g => 2 ^ xs.length - 1 - g.2) (2 ^ xs.length - 1, 0) ⟨Nat.le_refl _, Nat.zero_le _, fun i hi => ⟨fun _ p k1 k2 => by omega, fun _ => all_bits hi⟩⟩ (hb := ?_)
  rintro ⟨c, q⟩ ⟨hc, hq, hinv⟩ I ν m hnx
  have hc : c ≤ 2 ^ xs.length - 1 := hc
  have hq : q ≤ 2 ^ xs.length - 1 := hq
  have hinv : ClInv xs lev kd c q := hinv
  (repeat (first | with_reducible (first | refine go_nil ?_ | refine gk_seq ?_ | refine gc_seq ?_ | refine gc_reg ?_ | refine gc_skip ?_ | refine gk_block ?_ | refine gc_block ?_ | refine gc_exit ?_ | refine gc_ret ?_ | refine gk_seqret ?_ | refine gk_seqexit ?_ | refine gk_blockret ?_ | refine gk_out ?_ | refine gk_loopret ?_ | refine gk_loopexit ?_) | (show GO _ _ _ _ _ (⟨some _, none, .call _ _⟩ :: _) _; first | (show GO _ _ _ _ _ (⟨some _, none, .call fn_impl_ValidOdds _⟩ :: _) _; refine go_callp rfl code_impl_ValidOdds.callable (fun H hH => implValidOdds_ok (hH.ints (by exact Has.auto)) (by omega)) ?_) | (show GO _ _ _ _ _ (⟨some _, none, .call fn_impl_validOdd _⟩ :: _) _; refine go_callp rfl code_impl_validOdd.callable (fun H hH => implValidOdd_ok) ?_) | (show GO _ _ _ _ _ (⟨some _, none, .call fn_impl_firstPlaces _⟩ :: _) _; refine go_callp rfl code_impl_firstPlaces.callable (fun H hH => firstPlaces_ok (by omega)) ?_) | (show GO _ _ _ _ _ (⟨some _, none, .call fn_impl_oddsAt _⟩ :: _) _; refine go_calln rfl code_impl_oddsAt.callable (fun H hH => oddsAt_ok (hH.ints (by exact Has.auto)) (by omega)) ?_; intro u) | (show GO _ _ _ _ _ (⟨some _, none, .call fn_impl_places_has _⟩ :: _) _; refine go_callp rfl code_impl_places_has.callable (fun H hH => has_ok (by omega)) ?_)) | (show GO _ _ _ _ _ (⟨some _, none, _⟩ :: _) _; first | refine go_op (hk := ?_) | (refine go_nw (hk := ?_); intro u; try simp only [List.length_cons, List.length_nil, List.nil_append, Nat.zero_add]) | (refine go_np (hk := ?_); intro id)) | (show GO _ _ _ _ _ (⟨none, none, _⟩ :: _) _; refine go_st (hk := ?_)) | (show GO _ _ _ _ _ (⟨_, some _, _⟩ :: _) _; first | refine go_in (hk := ?_) | refine go_out (hk := ?_) | refine go_void (hk := ?_)) | (show GK _ _ _ _ (blockK _ _ _); refine gk_past rfl ?_) | (show GC _ _ _ _ _ (.cond _ _ _) _; first | refine gc_yes (h1 := ?_) | refine gc_no (h1 := ?_))))
  refine gc_cond rfl (fun h => ?_) (fun h => ?_)
  · (repeat (first | with_reducible (first | refine go_nil ?_ | refine gk_seq ?_ | refine gc_seq ?_ | refine gc_reg ?_ | refine gc_skip ?_ | refine gk_block ?_ | refine gc_block ?_ | refine gc_exit ?_ | refine gc_ret ?_ | refine gk_seqret ?_ | refine gk_seqexit ?_ | refine gk_blockret ?_ | refine gk_out ?_ | refine gk_loopret ?_ | refine gk_loopexit ?_) | (show GO _ _ _ _ _ (⟨some _, none, .call _ _⟩ :: _) _; first | (show GO _ _ _ _ _ (⟨some _, none, .call fn_impl_ValidOdds _⟩ :: _) _; refine go_callp rfl code_impl_ValidOdds.callable (fun H hH => implValidOdds_ok (hH.ints (by exact Has.auto)) (by omega)) ?_) | (show GO _ _ _ _ _ (⟨some _, none, .call fn_impl_validOdd _⟩ :: _) _; refine go_callp rfl code_impl_validOdd.callable (fun H hH => implValidOdd_ok) ?_) | (show GO _ _ _ _ _ (⟨some _, none, .call fn_impl_firstPlaces _⟩ :: _) _; refine go_callp rfl code_impl_firstPlaces.callable (fun H hH => firstPlaces_ok (by omega)) ?_) | (show GO _ _ _ _ _ (⟨some _, none, .call fn_impl_oddsAt _⟩ :: _) _; refine go_calln rfl code_impl_oddsAt.callable (fun H hH => oddsAt_ok (hH.ints (by exact Has.auto)) (by omega)) ?_; intro u) | (show GO _ _ _ _ _ (⟨some _, none, .call fn_impl_places_has _⟩ :: _) _; refine go_callp rfl code_impl_places_has.callable (fun H hH => has_ok (by omega)) ?_)) | (show GO _ _ _ _ _ (⟨some _, none, _⟩ :: _) _; first | refine go_op (hk := ?_) | (refine go_nw (hk := ?_); intro u; try simp only [List.length_cons, List.length_nil, List.nil_append, Nat.zero_add]) | (refine go_np (hk := ?_); intro id)) | (show GO _ _ _ _ _ (⟨none, none, _⟩ :: _) _; refine go_st (hk := ?_)) | (show GO _ _ _ _ _ (⟨_, some _, _⟩ :: _) _; first | refine go_in (hk := ?_) | refine go_out (hk := ?_) | refine go_void (hk := ?_)) | (show GK _ _ _ _ (blockK _ _ _); refine gk_past rfl ?_) | (show GC _ _ _ _ _ (.cond _ _ _) _; first | refine gc_yes (h1 := ?_) | refine gc_no (h1 := ?_))))
    have hS := selS_len xs (q + 1)
    obtain ⟨j, hj, hb⟩ := bit_some (p := q + 1) (n := xs.length) (by omega) (by omega)
    obtain ⟨m1, hm1, _⟩ := selS_has hj hb
    refine go_callp rfl code_impl_foundTogether.callable (fun H hH => foundTogether_ok (S := selS xs (q + 1)) (hH.ints (by exact Has.auto)) (sortL_up _) (by omega) (by omega) (fun i hi => selS_in hx hi) hlv) ?_
    (repeat (first | with_reducible (first | refine go_nil ?_ | refine gk_seq ?_ | refine gc_seq ?_ | refine gc_reg ?_ | refine gc_skip ?_ | refine gk_block ?_ | refine gc_block ?_ | refine gc_exit ?_ | refine gc_ret ?_ | refine gk_seqret ?_ | refine gk_seqexit ?_ | refine gk_blockret ?_ | refine gk_out ?_ | refine gk_loopret ?_ | refine gk_loopexit ?_) | (show GO _ _ _ _ _ (⟨some _, none, .call _ _⟩ :: _) _; first | (show GO _ _ _ _ _ (⟨some _, none, .call fn_impl_ValidOdds _⟩ :: _) _; refine go_callp rfl code_impl_ValidOdds.callable (fun H hH => implValidOdds_ok (hH.ints (by exact Has.auto)) (by omega)) ?_) | (show GO _ _ _ _ _ (⟨some _, none, .call fn_impl_validOdd _⟩ :: _) _; refine go_callp rfl code_impl_validOdd.callable (fun H hH => implValidOdd_ok) ?_) | (show GO _ _ _ _ _ (⟨some _, none, .call fn_impl_firstPlaces _⟩ :: _) _; refine go_callp rfl code_impl_firstPlaces.callable (fun H hH => firstPlaces_ok (by omega)) ?_) | (show GO _ _ _ _ _ (⟨some _, none, .call fn_impl_oddsAt _⟩ :: _) _; refine go_calln rfl code_impl_oddsAt.callable (fun H hH => oddsAt_ok (hH.ints (by exact Has.auto)) (by omega)) ?_; intro u) | (show GO _ _ _ _ _ (⟨some _, none, .call fn_impl_places_has _⟩ :: _) _; refine go_callp rfl code_impl_places_has.callable (fun H hH => has_ok (by omega)) ?_)) | (show GO _ _ _ _ _ (⟨some _, none, _⟩ :: _) _; first | refine go_op (hk := ?_) | (refine go_nw (hk := ?_); intro u; try simp only [List.length_cons, List.length_nil, List.nil_append, Nat.zero_add]) | (refine go_np (hk := ?_); intro id)) | (show GO _ _ _ _ _ (⟨none, none, _⟩ :: _) _; refine go_st (hk := ?_)) | (show GO _ _ _ _ _ (⟨_, some _, _⟩ :: _) _; first | refine go_in (hk := ?_) | refine go_out (hk := ?_) | refine go_void (hk := ?_)) | (show GK _ _ _ _ (blockK _ _ _); refine gk_past rfl ?_) | (show GC _ _ _ _ _ (.cond _ _ _) _; first | refine gc_yes (h1 := ?_) | refine gc_no (h1 := ?_))))
    refine gc_cond rfl (fun h3 => ?_) (fun h3 => ?_)
    · (repeat (first | with_reducible (first | refine go_nil ?_ | refine gk_seq ?_ | refine gc_seq ?_ | refine gc_reg ?_ | refine gc_skip ?_ | refine gk_block ?_ | refine gc_block ?_ | refine gc_exit ?_ | refine gc_ret ?_ | refine gk_seqret ?_ | refine gk_seqexit ?_ | refine gk_blockret ?_ | refine gk_out ?_ | refine gk_loopret ?_ | refine gk_loopexit ?_) | (show GO _ _ _ _ _ (⟨some _, none, .call _ _⟩ :: _) _; first | (show GO _ _ _ _ _ (⟨some _, none, .call fn_impl_ValidOdds _⟩ :: _) _; refine go_callp rfl code_impl_ValidOdds.callable (fun H hH => implValidOdds_ok (hH.ints (by exact Has.auto)) (by omega)) ?_) | (show GO _ _ _ _ _ (⟨some _, none, .call fn_impl_validOdd _⟩ :: _) _; refine go_callp rfl code_impl_validOdd.callable (fun H hH => implValidOdd_ok) ?_) | (show GO _ _ _ _ _ (⟨some _, none, .call fn_impl_firstPlaces _⟩ :: _) _; refine go_callp rfl code_impl_firstPlaces.callable (fun H hH => firstPlaces_ok (by omega)) ?_) | (show GO _ _ _ _ _ (⟨some _, none, .call fn_impl_oddsAt _⟩ :: _) _; refine go_calln rfl code_impl_oddsAt.callable (fun H hH => oddsAt_ok (hH.ints (by exact Has.auto)) (by omega)) ?_; intro u) | (show GO _ _ _ _ _ (⟨some _, none, .call fn_impl_places_has _⟩ :: _) _; refine go_callp rfl code_impl_places_has.callable (fun H hH => has_ok (by omega)) ?_)) | (show GO _ _ _ _ _ (⟨some _, none, _⟩ :: _) _; first | refine go_op (hk := ?_) | (refine go_nw (hk := ?_); intro u; try simp only [List.length_cons, List.length_nil, List.nil_append, Nat.zero_add]) | (refine go_np (hk := ?_); intro id)) | (show GO _ _ _ _ _ (⟨none, none, _⟩ :: _) _; refine go_st (hk := ?_)) | (show GO _ _ _ _ _ (⟨_, some _, _⟩ :: _) _; first | refine go_in (hk := ?_) | refine go_out (hk := ?_) | refine go_void (hk := ?_)) | (show GK _ _ _ _ (blockK _ _ _); refine gk_past rfl ?_) | (show GC _ _ _ _ _ (.cond _ _ _) _; first | refine gc_yes (h1 := ?_) | refine gc_no (h1 := ?_))))
      have : c &&& (18446744073709551615 - (q + 1)) ≤ c := Nat.and_le_left
      exact gk_next (hnx (c &&& (18446744073709551615 - (q + 1)), q + 1) ⟨by simp only; omega, by simp only; omega, clInv_no hn (by omega) hinv h3⟩ (by simp only; omega))
    · (repeat (first | with_reducible (first | refine go_nil ?_ | refine gk_seq ?_ | refine gc_seq ?_ | refine gc_reg ?_ | refine gc_skip ?_ | refine gk_block ?_ | refine gc_block ?_ | refine gc_exit ?_ | refine gc_ret ?_ | refine gk_seqret ?_ | refine gk_seqexit ?_ | refine gk_blockret ?_ | refine gk_out ?_ | refine gk_loopret ?_ | refine gk_loopexit ?_) | (show GO _ _ _ _ _ (⟨some _, none, .call _ _⟩ :: _) _; first | (show GO _ _ _ _ _ (⟨some _, none, .call fn_impl_ValidOdds _⟩ :: _) _; refine go_callp rfl code_impl_ValidOdds.callable (fun H hH => implValidOdds_ok (hH.ints (by exact Has.auto)) (by omega)) ?_) | (show GO _ _ _ _ _ (⟨some _, none, .call fn_impl_validOdd _⟩ :: _) _; refine go_callp rfl code_impl_validOdd.callable (fun H hH => implValidOdd_ok) ?_) | (show GO _ _ _ _ _ (⟨some _, none, .call fn_impl_firstPlaces _⟩ :: _) _; refine go_callp rfl code_impl_firstPlaces.callable (fun H hH => firstPlaces_ok (by omega)) ?_) | (show GO _ _ _ _ _ (⟨some _, none, .call fn_impl_oddsAt _⟩ :: _) _; refine go_calln rfl code_impl_oddsAt.callable (fun H hH => oddsAt_ok (hH.ints (by exact Has.auto)) (by omega)) ?_; intro u) | (show GO _ _ _ _ _ (⟨some _, none, .call fn_impl_places_has _⟩ :: _) _; refine go_callp rfl code_impl_places_has.callable (fun H hH => has_ok (by omega)) ?_)) | (show GO _ _ _ _ _ (⟨some _, none, _⟩ :: _) _; first | refine go_op (hk := ?_) | (refine go_nw (hk := ?_); intro u; try simp only [List.length_cons, List.length_nil, List.nil_append, Nat.zero_add]) | (refine go_np (hk := ?_); intro id)) | (show GO _ _ _ _ _ (⟨none, none, _⟩ :: _) _; refine go_st (hk := ?_)) | (show GO _ _ _ _ _ (⟨_, some _, _⟩ :: _) _; first | refine go_in (hk := ?_) | refine go_out (hk := ?_) | refine go_void (hk := ?_)) | (show GK _ _ _ _ (blockK _ _ _); refine gk_past rfl ?_) | (show GC _ _ _ _ _ (.cond _ _ _) _; first | refine gc_yes (h1 := ?_) | refine gc_no (h1 := ?_))))
      exact gk_next (hnx (c, q + 1) ⟨hc, by simp only; omega, clInv_yes hinv (Decidable.not_not.1 h3)⟩ (by simp only; omega))
  · have : q = 2 ^ xs.length - 1 := by omega
    subst this
    (repeat (first | with_reducible (first | refine go_nil ?_ | refine gk_seq ?_ | refine gc_seq ?_ | refine gc_reg ?_ | refine gc_skip ?_ | refine gk_block ?_ | refine gc_block ?_ | refine gc_exit ?_ | refine gc_ret ?_ | refine gk_seqret ?_ | refine gk_seqexit ?_ | refine gk_blockret ?_ | refine gk_out ?_ | refine gk_loopret ?_ | refine gk_loopexit ?_) | (show GO _ _ _ _ _ (⟨some _, none, .call _ _⟩ :: _) _; first | (show GO _ _ _ _ _ (⟨some _, none, .call fn_impl_ValidOdds _⟩ :: _) _; refine go_callp rfl code_impl_ValidOdds.callable (fun H hH => implValidOdds_ok (hH.ints (by exact Has.auto)) (by omega)) ?_) | (show GO _ _ _ _ _ (⟨some _, none, .call fn_impl_validOdd _⟩ :: _) _; refine go_callp rfl code_impl_validOdd.callable (fun H hH => implValidOdd_ok) ?_) | (show GO _ _ _ _ _ (⟨some _, none, .call fn_impl_firstPlaces _⟩ :: _) _; refine go_callp rfl code_impl_firstPlaces.callable (fun H hH => firstPlaces_ok (by omega)) ?_) | (show GO _ _ _ _ _ (⟨some _, none, .call fn_impl_oddsAt _⟩ :: _) _; refine go_calln rfl code_impl_oddsAt.callable (fun H hH => oddsAt_ok (hH.ints (by exact Has.auto)) (by omega)) ?_; intro u) | (show GO _ _ _ _ _ (⟨some _, none, .call fn_impl_places_has _⟩ :: _) _; refine go_callp rfl code_impl_places_has.callable (fun H hH => has_ok (by omega)) ?_)) | (show GO _ _ _ _ _ (⟨some _, none, _⟩ :: _) _; first | refine go_op (hk := ?_) | (refine go_nw (hk := ?_); intro u; try simp only [List.length_cons, List.length_nil, List.nil_append, Nat.zero_add]) | (refine go_np (hk := ?_); intro id)) | (show GO _ _ _ _ _ (⟨none, none, _⟩ :: _) _; refine go_st (hk := ?_)) | (show GO _ _ _ _ _ (⟨_, some _, _⟩ :: _) _; first | refine go_in (hk := ?_) | refine go_out (hk := ?_) | refine go_void (hk := ?_)) | (show GK _ _ _ _ (blockK _ _ _); refine gk_past rfl ?_) | (show GC _ _ _ _ _ (.cond _ _ _) _; first | refine gc_yes (h1 := ?_) | refine gc_no (h1 := ?_))))
    refine gc_nil ?_
    refine gc_upv xs.length (fun i u => [(8, .int .u64 (c : Int)), (10, u), (40, .int .i64 (xs.length : Int)), (41, .int .i64 (i : Int))]) (fun i u => [.rwI u (cbT c i).length (cbT c i)]) _ (hb := ?_)
    intro i u hi I ν m hk
    have hcl := cbT_len c i
    (repeat (first | with_reducible (first | refine go_nil ?_ | refine gk_seq ?_ | refine gc_seq ?_ | refine gc_reg ?_ | refine gc_skip ?_ | refine gk_block ?_ | refine gc_block ?_ | refine gc_exit ?_ | refine gc_ret ?_ | refine gk_seqret ?_ | refine gk_seqexit ?_ | refine gk_blockret ?_ | refine gk_out ?_ | refine gk_loopret ?_ | refine gk_loopexit ?_) | (show GO _ _ _ _ _ (⟨some _, none, .call _ _⟩ :: _) _; first | (show GO _ _ _ _ _ (⟨some _, none, .call fn_impl_ValidOdds _⟩ :: _) _; refine go_callp rfl code_impl_ValidOdds.callable (fun H hH => implValidOdds_ok (hH.ints (by exact Has.auto)) (by omega)) ?_) | (show GO _ _ _ _ _ (⟨some _, none, .call fn_impl_validOdd _⟩ :: _) _; refine go_callp rfl code_impl_validOdd.callable (fun H hH => implValidOdd_ok) ?_) | (show GO _ _ _ _ _ (⟨some _, none, .call fn_impl_firstPlaces _⟩ :: _) _; refine go_callp rfl code_impl_firstPlaces.callable (fun H hH => firstPlaces_ok (by omega)) ?_) | (show GO _ _ _ _ _ (⟨some _, none, .call fn_impl_oddsAt _⟩ :: _) _; refine go_calln rfl code_impl_oddsAt.callable (fun H hH => oddsAt_ok (hH.ints (by exact Has.auto)) (by omega)) ?_; intro u) | (show GO _ _ _ _ _ (⟨some _, none, .call fn_impl_places_has _⟩ :: _) _; refine go_callp rfl code_impl_places_has.callable (fun H hH => has_ok (by omega)) ?_)) | (show GO _ _ _ _ _ (⟨some _, none, _⟩ :: _) _; first | refine go_op (hk := ?_) | (refine go_nw (hk := ?_); intro u; try simp only [List.length_cons, List.length_nil, List.nil_append, Nat.zero_add]) | (refine go_np (hk := ?_); intro id)) | (show GO _ _ _ _ _ (⟨none, none, _⟩ :: _) _; refine go_st (hk := ?_)) | (show GO _ _ _ _ _ (⟨_, some _, _⟩ :: _) _; first | refine go_in (hk := ?_) | refine go_out (hk := ?_) | refine go_void (hk := ?_)) | (show GK _ _ _ _ (blockK _ _ _); refine gk_past rfl ?_) | (show GC _ _ _ _ _ (.cond _ _ _) _; first | refine gc_yes (h1 := ?_) | refine gc_no (h1 := ?_))))
    refine gc_cond rfl (fun h => ?_) (fun h => ?_)
    · have hk := hk (by omega)
      rw [cbT] at hk
      (repeat (first | with_reducible (first | refine go_nil ?_ | refine gk_seq ?_ | refine gc_seq ?_ | refine gc_reg ?_ | refine gc_skip ?_ | refine gk_block ?_ | refine gc_block ?_ | refine gc_exit ?_ | refine gc_ret ?_ | refine gk_seqret ?_ | refine gk_seqexit ?_ | refine gk_blockret ?_ | refine gk_out ?_ | refine gk_loopret ?_ | refine gk_loopexit ?_) | (show GO _ _ _ _ _ (⟨some _, none, .call _ _⟩ :: _) _; first | (show GO _ _ _ _ _ (⟨some _, none, .call fn_impl_ValidOdds _⟩ :: _) _; refine go_callp rfl code_impl_ValidOdds.callable (fun H hH => implValidOdds_ok (hH.ints (by exact Has.auto)) (by omega)) ?_) | (show GO _ _ _ _ _ (⟨some _, none, .call fn_impl_validOdd _⟩ :: _) _; refine go_callp rfl code_impl_validOdd.callable (fun H hH => implValidOdd_ok) ?_) | (show GO _ _ _ _ _ (⟨some _, none, .call fn_impl_firstPlaces _⟩ :: _) _; refine go_callp rfl code_impl_firstPlaces.callable (fun H hH => firstPlaces_ok (by omega)) ?_) | (show GO _ _ _ _ _ (⟨some _, none, .call fn_impl_oddsAt _⟩ :: _) _; refine go_calln rfl code_impl_oddsAt.callable (fun H hH => oddsAt_ok (hH.ints (by exact Has.auto)) (by omega)) ?_; intro u) | (show GO _ _ _ _ _ (⟨some _, none, .call fn_impl_places_has _⟩ :: _) _; refine go_callp rfl code_impl_places_has.callable (fun H hH => has_ok (by omega)) ?_)) | (show GO _ _ _ _ _ (⟨some _, none, _⟩ :: _) _; first | refine go_op (hk := ?_) | (refine go_nw (hk := ?_); intro u; try simp only [List.length_cons, List.length_nil, List.nil_append, Nat.zero_add]) | (refine go_np (hk := ?_); intro id)) | (show GO _ _ _ _ _ (⟨none, none, _⟩ :: _) _; refine go_st (hk := ?_)) | (show GO _ _ _ _ _ (⟨_, some _, _⟩ :: _) _; first | refine go_in (hk := ?_) | refine go_out (hk := ?_) | refine go_void (hk := ?_)) | (show GK _ _ _ _ (blockK _ _ _); refine gk_past rfl ?_) | (show GC _ _ _ _ _ (.cond _ _ _) _; first | refine gc_yes (h1 := ?_) | refine gc_no (h1 := ?_))))
      refine gc_cond rfl (fun h3 => ?_) (fun h3 => ?_)
      · rw [if_pos (show bitN c i = 1 from h3), List.length_append] at hk
        (repeat (first | with_reducible (first | refine go_nil ?_ | refine gk_seq ?_ | refine gc_seq ?_ | refine gc_reg ?_ | refine gc_skip ?_ | refine gk_block ?_ | refine gc_block ?_ | refine gc_exit ?_ | refine gc_ret ?_ | refine gk_seqret ?_ | refine gk_seqexit ?_ | refine gk_blockret ?_ | refine gk_out ?_ | refine gk_loopret ?_ | refine gk_loopexit ?_) | (show GO _ _ _ _ _ (⟨some _, none, .call _ _⟩ :: _) _; first | (show GO _ _ _ _ _ (⟨some _, none, .call fn_impl_ValidOdds _⟩ :: _) _; refine go_callp rfl code_impl_ValidOdds.callable (fun H hH => implValidOdds_ok (hH.ints (by exact Has.auto)) (by omega)) ?_) | (show GO _ _ _ _ _ (⟨some _, none, .call fn_impl_validOdd _⟩ :: _) _; refine go_callp rfl code_impl_validOdd.callable (fun H hH => implValidOdd_ok) ?_) | (show GO _ _ _ _ _ (⟨some _, none, .call fn_impl_firstPlaces _⟩ :: _) _; refine go_callp rfl code_impl_firstPlaces.callable (fun H hH => firstPlaces_ok (by omega)) ?_) | (show GO _ _ _ _ _ (⟨some _, none, .call fn_impl_oddsAt _⟩ :: _) _; refine go_calln rfl code_impl_oddsAt.callable (fun H hH => oddsAt_ok (hH.ints (by exact Has.auto)) (by omega)) ?_; intro u) | (show GO _ _ _ _ _ (⟨some _, none, .call fn_impl_places_has _⟩ :: _) _; refine go_callp rfl code_impl_places_has.callable (fun H hH => has_ok (by omega)) ?_)) | (show GO _ _ _ _ _ (⟨some _, none, _⟩ :: _) _; first | refine go_op (hk := ?_) | (refine go_nw (hk := ?_); intro u; try simp only [List.length_cons, List.length_nil, List.nil_append, Nat.zero_add]) | (refine go_np (hk := ?_); intro id)) | (show GO _ _ _ _ _ (⟨none, none, _⟩ :: _) _; refine go_st (hk := ?_)) | (show GO _ _ _ _ _ (⟨_, some _, _⟩ :: _) _; first | refine go_in (hk := ?_) | refine go_out (hk := ?_) | refine go_void (hk := ?_)) | (show GK _ _ _ _ (blockK _ _ _); refine gk_past rfl ?_) | (show GC _ _ _ _ _ (.cond _ _ _) _; first | refine gc_yes (h1 := ?_) | refine gc_no (h1 := ?_))))
        exact gk_next (hk _)
      · rw [if_neg (show ¬ bitN c i = 1 from h3)] at hk
        (repeat (first | with_reducible (first | refine go_nil ?_ | refine gk_seq ?_ | refine gc_seq ?_ | refine gc_reg ?_ | refine gc_skip ?_ | refine gk_block ?_ | refine gc_block ?_ | refine gc_exit ?_ | refine gc_ret ?_ | refine gk_seqret ?_ | refine gk_seqexit ?_ | refine gk_blockret ?_ | refine gk_out ?_ | refine gk_loopret ?_ | refine gk_loopexit ?_) | (show GO _ _ _ _ _ (⟨some _, none, .call _ _⟩ :: _) _; first | (show GO _ _ _ _ _ (⟨some _, none, .call fn_impl_ValidOdds _⟩ :: _) _; refine go_callp rfl code_impl_ValidOdds.callable (fun H hH => implValidOdds_ok (hH.ints (by exact Has.auto)) (by omega)) ?_) | (show GO _ _ _ _ _ (⟨some _, none, .call fn_impl_validOdd _⟩ :: _) _; refine go_callp rfl code_impl_validOdd.callable (fun H hH => implValidOdd_ok) ?_) | (show GO _ _ _ _ _ (⟨some _, none, .call fn_impl_firstPlaces _⟩ :: _) _; refine go_callp rfl code_impl_firstPlaces.callable (fun H hH => firstPlaces_ok (by omega)) ?_) | (show GO _ _ _ _ _ (⟨some _, none, .call fn_impl_oddsAt _⟩ :: _) _; refine go_calln rfl code_impl_oddsAt.callable (fun H hH => oddsAt_ok (hH.ints (by exact Has.auto)) (by omega)) ?_; intro u) | (show GO _ _ _ _ _ (⟨some _, none, .call fn_impl_places_has _⟩ :: _) _; refine go_callp rfl code_impl_places_has.callable (fun H hH => has_ok (by omega)) ?_)) | (show GO _ _ _ _ _ (⟨some _, none, _⟩ :: _) _; first | refine go_op (hk := ?_) | (refine go_nw (hk := ?_); intro u; try simp only [List.length_cons, List.length_nil, List.nil_append, Nat.zero_add]) | (refine go_np (hk := ?_); intro id)) | (show GO _ _ _ _ _ (⟨none, none, _⟩ :: _) _; refine go_st (hk := ?_)) | (show GO _ _ _ _ _ (⟨_, some _, _⟩ :: _) _; first | refine go_in (hk := ?_) | refine go_out (hk := ?_) | refine go_void (hk := ?_)) | (show GK _ _ _ _ (blockK _ _ _); refine gk_past rfl ?_) | (show GC _ _ _ _ _ (.cond _ _ _) _; first | refine gc_yes (h1 := ?_) | refine gc_no (h1 := ?_))))
        exact gk_next (hk _)
    · have : i = xs.length := by omega
      subst this
      (repeat (first | with_reducible (first | refine go_nil ?_ | refine gk_seq ?_ | refine gc_seq ?_ | refine gc_reg ?_ | refine gc_skip ?_ | refine gk_block ?_ | refine gc_block ?_ | refine gc_exit ?_ | refine gc_ret ?_ | refine gk_seqret ?_ | refine gk_seqexit ?_ | refine gk_blockret ?_ | refine gk_out ?_ | refine gk_loopret ?_ | refine gk_loopexit ?_) | (show GO _ _ _ _ _ (⟨some _, none, .call _ _⟩ :: _) _; first | (show GO _ _ _ _ _ (⟨some _, none, .call fn_impl_ValidOdds _⟩ :: _) _; refine go_callp rfl code_impl_ValidOdds.callable (fun H hH => implValidOdds_ok (hH.ints (by exact Has.auto)) (by omega)) ?_) | (show GO _ _ _ _ _ (⟨some _, none, .call fn_impl_validOdd _⟩ :: _) _; refine go_callp rfl code_impl_validOdd.callable (fun H hH => implValidOdd_ok) ?_) | (show GO _ _ _ _ _ (⟨some _, none, .call fn_impl_firstPlaces _⟩ :: _) _; refine go_callp rfl code_impl_firstPlaces.callable (fun H hH => firstPlaces_ok (by omega)) ?_) | (show GO _ _ _ _ _ (⟨some _, none, .call fn_impl_oddsAt _⟩ :: _) _; refine go_calln rfl code_impl_oddsAt.callable (fun H hH => oddsAt_ok (hH.ints (by exact Has.auto)) (by omega)) ?_; intro u) | (show GO _ _ _ _ _ (⟨some _, none, .call fn_impl_places_has _⟩ :: _) _; refine go_callp rfl code_impl_places_has.callable (fun H hH => has_ok (by omega)) ?_)) | (show GO _ _ _ _ _ (⟨some _, none, _⟩ :: _) _; first | refine go_op (hk := ?_) | (refine go_nw (hk := ?_); intro u; try simp only [List.length_cons, List.length_nil, List.nil_append, Nat.zero_add]) | (refine go_np (hk := ?_); intro id)) | (show GO _ _ _ _ _ (⟨none, none, _⟩ :: _) _; refine go_st (hk := ?_)) | (show GO _ _ _ _ _ (⟨_, some _, _⟩ :: _) _; first | refine go_in (hk := ?_) | refine go_out (hk := ?_) | refine go_void (hk := ?_)) | (show GK _ _ _ _ (blockK _ _ _); refine gk_past rfl ?_) | (show GC _ _ _ _ _ (.cond _ _ _) _; first | refine gc_yes (h1 := ?_) | refine gc_no (h1 := ?_))))
      refine gk_ret rfl fun H' hH => ?_
      rw [← cl_out hx hlv hinv]
      exact hH.give .head

theorem clX_len (xs : List Int) (lev : Int) (kd : List UInt8) : (clX xs lev kd).length ≤ 6 := by
  unfold clX
  split
  · rename_i h; exact Nat.le_trans (clT_len _ _ _ _) h.1.2.2
  · exact Nat.zero_le _

/-- what is found stays found -/
theorem hdM_mono {S : List Int} {lev lev' : Int} {s s' : Bool} {m : Nat} (hl : lev ≤ lev') (hs : s = true → s' = true) (h : hdM S lev s m) : hdM S lev' s' m := by
  rcases h with h | h
  · refine .inl ⟨hs h.1, Int.le_trans h.2 (Int.mul_le_mul_of_nonneg_right hl (by omega))⟩
  · exact .inr (by omega)

theorem okP_mono {xs : List Int} {lev lev' : Int} {s s' : Bool} {i q : Nat} (hl : lev ≤ lev') (hs : s = true → s' = true) (h : okP xs lev s i q) : okP xs lev' s' i q := by
  rw [okP_iff] at *
  intro p h1 h2
  rcases h p h1 h2 with h | h
  · exact .inl h
  · obtain ⟨k, h3, h4⟩ := held_iff.1 h
    exact .inr (held_iff.2 ⟨k, h3, hdM_mono hl hs h4⟩)

/-- what is closed is at most the level -/
theorem okP_val {xs : List Int} {lev : Int} {s : Bool} {i : Nat} (hi : i < xs.length) (h : okP xs lev s i (2 ^ xs.length - 1)) : nth xs i ≤ lev := by
  rw [okP_iff] at h
  have h1 := mkS_lt (fun j => j = i) xs.length
  have h2 := mkS_bit (fun j => j = i) hi
  rw [if_pos rfl] at h2
  rcases h (mkS (fun j => j = i) xs.length) (mkS_pos hi rfl) (by omega) with h3 | h3
  · omega
  · obtain ⟨k, k1, k2⟩ := held_iff.1 h3
    obtain ⟨j, j1, j2, j3⟩ := selS_mem k1
    rw [mkS_bit _ j1] at j2
    have e : j = i := by
      by_cases e : j = i
      · exact e
      · rw [if_neg e] at j2; omega
    subst e
    have hlen : (selS xs (mkS (fun i => i = j) xs.length)).length = 1 := by
      have hc := sumN_congr (f := fun i' => bitN (mkS (fun i => i = j) xs.length) i') (g := fun i' => if i' = j then 1 else 0) (n := xs.length) (fun i' hi' => mkS_bit _ hi')
      rw [selS_size, hc, sumN_one j xs.length (fun x _ h => by simp [h]), if_pos hi, if_pos rfl]
    rw [hlen] at k1
    have : k = 0 := by omega
    subst this
    rcases k2 with k2 | k2
    · have := k2.2
      rw [j3, hlen] at this
      simpa using this
    · rw [j3, hlen] at k2
      simpa using k2

def selI (f : Nat → Prop) [DecidablePred f] : Nat → List Int
  | 0 => []
  | i + 1 => if f i then selI f i ++ [(i : Int)] else selI f i

theorem selI_mem {f : Nat → Prop} [DecidablePred f] {v : Int} : ∀ {n}, v ∈ selI f n ↔ ∃ j : Nat, j < n ∧ f j ∧ v = (j : Int)
  | 0 => by simp [selI]
  | n + 1 => by
    rw [selI]
    constructor
    · intro h
      split at h
      · rename_i hf
        rcases List.mem_append.1 h with h | h
        · obtain ⟨j, h1, h2⟩ := selI_mem.1 h; exact ⟨j, by omega, h2⟩
        · exact ⟨n, by omega, hf, by simpa using h⟩
      · obtain ⟨j, h1, h2⟩ := selI_mem.1 h; exact ⟨j, by omega, h2⟩
    · rintro ⟨j, h1, h2, h3⟩
      by_cases e : j = n
      · subst e; rw [if_pos h2, h3]; simp
      · have h4 := (selI_mem (f := f) (v := v) (n := n)).2 ⟨j, by omega, h2, h3⟩
        split
        · exact List.mem_append_left _ h4
        · exact h4

theorem selI_pw (f : Nat → Prop) [DecidablePred f] : ∀ n, (selI f n).Pairwise (· < ·)
  | 0 => List.Pairwise.nil
  | n + 1 => by
    rw [selI]
    split
    · rw [List.pairwise_append]
      refine ⟨selI_pw f n, by simp, fun x hx y hy => ?_⟩
      obtain ⟨j, h1, _, h3⟩ := selI_mem.1 hx
      simp only [List.mem_cons, List.not_mem_nil, or_false] at hy
      omega
    · exact selI_pw f n

theorem pw_next {l : List Int} (h : l.Pairwise (· < ·)) {i : Nat} (hi : i + 1 < l.length) : nth l i < nth l (i + 1) := by
  rw [nth_of (by omega), nth_of hi]
  exact List.pairwise_iff_getElem.1 h i (i + 1) (by omega) hi (by omega)

theorem clT_sel (xs : List Int) (lev : Int) (s : Bool) : ∀ n, clT xs lev s n = selI (fun i => okP xs lev s i (2 ^ xs.length - 1)) n
  | 0 => rfl
  | n + 1 => by rw [clT, selI, clT_sel xs lev s n]

end Go.Rx.Try
