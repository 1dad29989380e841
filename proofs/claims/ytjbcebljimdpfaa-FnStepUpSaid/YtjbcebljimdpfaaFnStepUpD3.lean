import Derived.Test.YtjbcebljimdpfaaFnStepUpD2
namespace Go.Rx.Try
open Go.Proofs
set_option maxRecDepth 100000
set_option maxHeartbeats 8000000
set_option linter.unusedSimpArgs false
set_option linter.unusedVariables false

theorem specPlaces_ok {H : Heap} {a : AV} {xs : List Int} (ha : Ints H a xs) (hl : xs.length ≤ 2000000) : ACalls Try.prog fn_spec_places [a] H fun r H' => OwnI H H' r (plL xs) ∧ Le H H' := by
  refine code_spec_places.go [.roI a xs.length xs] ⟨⟨rfl, ha⟩, trivial⟩ (by simp) ?_
  unfold mc_spec_places
  (repeat (first | with_reducible (first | refine go_nil ?_ | refine gk_seq ?_ | refine gc_seq ?_ | refine gc_reg ?_ | refine gc_skip ?_ | refine gk_block ?_ | refine gc_block ?_ | refine gc_exit ?_ | refine gc_ret ?_ | refine gk_seqret ?_ | refine gk_seqexit ?_ | refine gk_blockret ?_ | refine gk_out ?_ | refine gk_loopret ?_ | refine gk_loopexit ?_ | refine gq_nil ?_) | (with_reducible refine gc_drq ?_; intro _) | (show GO _ _ _ _ _ (⟨some _, none, _⟩ :: _) _; first | refine go_op (hk := ?_) | (refine go_nw (hk := ?_); intro u; try simp only [List.length_cons, List.length_nil, List.nil_append, Nat.zero_add]) | (refine go_np (hk := ?_); intro id)) | (show GQ _ _ _ _ _ _ _ (⟨some _, none, _⟩ :: _) _; first | refine gq_op (hk := ?_) | (refine gq_nw (hk := ?_); intro u; try simp only [List.length_cons, List.length_nil, List.nil_append, Nat.zero_add])) | (show GO _ _ _ _ _ (⟨none, none, _⟩ :: _) _; refine go_st (hk := ?_)) | (show GO _ _ _ _ _ (⟨_, some _, _⟩ :: _) _; first | refine go_in (hk := ?_) | refine go_out (hk := ?_) | refine go_void (hk := ?_)) | (show GQ _ _ _ _ _ _ _ (⟨_, some _, _⟩ :: _) _; first | refine gq_in (hk := ?_) | refine gq_out (hk := ?_) | refine gq_void (hk := ?_)) | (show GK _ _ _ _ (blockK _ _ _); refine gk_past rfl ?_) | (show GC _ _ _ _ _ (.cond _ _ _) _; first | refine gc_yes (h1 := ?_) | refine gc_no (h1 := ?_))))
  refine gc_upv xs.length (fun i u => [(0, a), (3, u), (4, .int .i64 (i : Int))]) (fun i u => [⟨.rw, u, 1, i, ints (tabZ i fun i => (plN xs i : Nat))⟩, .roI a xs.length xs]) _ (hb := ?_)
  intro i u hi I ν m hk
  (repeat (first | with_reducible (first | refine go_nil ?_ | refine gk_seq ?_ | refine gc_seq ?_ | refine gc_reg ?_ | refine gc_skip ?_ | refine gk_block ?_ | refine gc_block ?_ | refine gc_exit ?_ | refine gc_ret ?_ | refine gk_seqret ?_ | refine gk_seqexit ?_ | refine gk_blockret ?_ | refine gk_out ?_ | refine gk_loopret ?_ | refine gk_loopexit ?_ | refine gq_nil ?_) | (with_reducible refine gc_drq ?_; intro _) | (show GO _ _ _ _ _ (⟨some _, none, _⟩ :: _) _; first | refine go_op (hk := ?_) | (refine go_nw (hk := ?_); intro u; try simp only [List.length_cons, List.length_nil, List.nil_append, Nat.zero_add]) | (refine go_np (hk := ?_); intro id)) | (show GQ _ _ _ _ _ _ _ (⟨some _, none, _⟩ :: _) _; first | refine gq_op (hk := ?_) | (refine gq_nw (hk := ?_); intro u; try simp only [List.length_cons, List.length_nil, List.nil_append, Nat.zero_add])) | (show GO _ _ _ _ _ (⟨none, none, _⟩ :: _) _; refine go_st (hk := ?_)) | (show GO _ _ _ _ _ (⟨_, some _, _⟩ :: _) _; first | refine go_in (hk := ?_) | refine go_out (hk := ?_) | refine go_void (hk := ?_)) | (show GQ _ _ _ _ _ _ _ (⟨_, some _, _⟩ :: _) _; first | refine gq_in (hk := ?_) | refine gq_out (hk := ?_) | refine gq_void (hk := ?_)) | (show GK _ _ _ _ (blockK _ _ _); refine gk_past rfl ?_) | (show GC _ _ _ _ _ (.cond _ _ _) _; first | refine gc_yes (h1 := ?_) | refine gc_no (h1 := ?_))))
  refine gc_cond rfl (fun h => ?_) (fun h => ?_)
  · (repeat (first | with_reducible (first | refine go_nil ?_ | refine gk_seq ?_ | refine gc_seq ?_ | refine gc_reg ?_ | refine gc_skip ?_ | refine gk_block ?_ | refine gc_block ?_ | refine gc_exit ?_ | refine gc_ret ?_ | refine gk_seqret ?_ | refine gk_seqexit ?_ | refine gk_blockret ?_ | refine gk_out ?_ | refine gk_loopret ?_ | refine gk_loopexit ?_ | refine gq_nil ?_) | (with_reducible refine gc_drq ?_; intro _) | (show GO _ _ _ _ _ (⟨some _, none, _⟩ :: _) _; first | refine go_op (hk := ?_) | (refine go_nw (hk := ?_); intro u; try simp only [List.length_cons, List.length_nil, List.nil_append, Nat.zero_add]) | (refine go_np (hk := ?_); intro id)) | (show GQ _ _ _ _ _ _ _ (⟨some _, none, _⟩ :: _) _; first | refine gq_op (hk := ?_) | (refine gq_nw (hk := ?_); intro u; try simp only [List.length_cons, List.length_nil, List.nil_append, Nat.zero_add])) | (show GO _ _ _ _ _ (⟨none, none, _⟩ :: _) _; refine go_st (hk := ?_)) | (show GO _ _ _ _ _ (⟨_, some _, _⟩ :: _) _; first | refine go_in (hk := ?_) | refine go_out (hk := ?_) | refine go_void (hk := ?_)) | (show GQ _ _ _ _ _ _ _ (⟨_, some _, _⟩ :: _) _; first | refine gq_in (hk := ?_) | refine gq_out (hk := ?_) | refine gq_void (hk := ?_)) | (show GK _ _ _ _ (blockK _ _ _); refine gk_past rfl ?_) | (show GC _ _ _ _ _ (.cond _ _ _) _; first | refine gc_yes (h1 := ?_) | refine gc_no (h1 := ?_))))
    refine gc_up xs.length (fun j => [(0, a), (3, u), (4, .int .i64 (i : Int)), (5, .int .i64 (plT xs i j : Nat)), (6, .int .i64 (j : Int))]) (fun _ => [⟨.rw, u, 1, i, ints (tabZ i fun i => (plN xs i : Nat))⟩, .roI a xs.length xs]) (hb := ?_)
    intro j hj I2 ν2 m2 hk2
    have hp := plT_le xs i j
    (repeat (first | with_reducible (first | refine go_nil ?_ | refine gk_seq ?_ | refine gc_seq ?_ | refine gc_reg ?_ | refine gc_skip ?_ | refine gk_block ?_ | refine gc_block ?_ | refine gc_exit ?_ | refine gc_ret ?_ | refine gk_seqret ?_ | refine gk_seqexit ?_ | refine gk_blockret ?_ | refine gk_out ?_ | refine gk_loopret ?_ | refine gk_loopexit ?_ | refine gq_nil ?_) | (with_reducible refine gc_drq ?_; intro _) | (show GO _ _ _ _ _ (⟨some _, none, _⟩ :: _) _; first | refine go_op (hk := ?_) | (refine go_nw (hk := ?_); intro u; try simp only [List.length_cons, List.length_nil, List.nil_append, Nat.zero_add]) | (refine go_np (hk := ?_); intro id)) | (show GQ _ _ _ _ _ _ _ (⟨some _, none, _⟩ :: _) _; first | refine gq_op (hk := ?_) | (refine gq_nw (hk := ?_); intro u; try simp only [List.length_cons, List.length_nil, List.nil_append, Nat.zero_add])) | (show GO _ _ _ _ _ (⟨none, none, _⟩ :: _) _; refine go_st (hk := ?_)) | (show GO _ _ _ _ _ (⟨_, some _, _⟩ :: _) _; first | refine go_in (hk := ?_) | refine go_out (hk := ?_) | refine go_void (hk := ?_)) | (show GQ _ _ _ _ _ _ _ (⟨_, some _, _⟩ :: _) _; first | refine gq_in (hk := ?_) | refine gq_out (hk := ?_) | refine gq_void (hk := ?_)) | (show GK _ _ _ _ (blockK _ _ _); refine gk_past rfl ?_) | (show GC _ _ _ _ _ (.cond _ _ _) _; first | refine gc_yes (h1 := ?_) | refine gc_no (h1 := ?_))))
    refine gc_cond rfl (fun h2 => ?_) (fun h2 => ?_)
    · have hk2 := hk2 (by omega)
      (repeat (first | with_reducible (first | refine go_nil ?_ | refine gk_seq ?_ | refine gc_seq ?_ | refine gc_reg ?_ | refine gc_skip ?_ | refine gk_block ?_ | refine gc_block ?_ | refine gc_exit ?_ | refine gc_ret ?_ | refine gk_seqret ?_ | refine gk_seqexit ?_ | refine gk_blockret ?_ | refine gk_out ?_ | refine gk_loopret ?_ | refine gk_loopexit ?_ | refine gq_nil ?_) | (with_reducible refine gc_drq ?_; intro _) | (show GO _ _ _ _ _ (⟨some _, none, _⟩ :: _) _; first | refine go_op (hk := ?_) | (refine go_nw (hk := ?_); intro u; try simp only [List.length_cons, List.length_nil, List.nil_append, Nat.zero_add]) | (refine go_np (hk := ?_); intro id)) | (show GQ _ _ _ _ _ _ _ (⟨some _, none, _⟩ :: _) _; first | refine gq_op (hk := ?_) | (refine gq_nw (hk := ?_); intro u; try simp only [List.length_cons, List.length_nil, List.nil_append, Nat.zero_add])) | (show GO _ _ _ _ _ (⟨none, none, _⟩ :: _) _; refine go_st (hk := ?_)) | (show GO _ _ _ _ _ (⟨_, some _, _⟩ :: _) _; first | refine go_in (hk := ?_) | refine go_out (hk := ?_) | refine go_void (hk := ?_)) | (show GQ _ _ _ _ _ _ _ (⟨_, some _, _⟩ :: _) _; first | refine gq_in (hk := ?_) | refine gq_out (hk := ?_) | refine gq_void (hk := ?_)) | (show GK _ _ _ _ (blockK _ _ _); refine gk_past rfl ?_) | (show GC _ _ _ _ _ (.cond _ _ _) _; first | refine gc_yes (h1 := ?_) | refine gc_no (h1 := ?_))))
      refine gq_split 29 rfl (fun h3 => ?_) (fun h3 => ?_)
      · rw [plT_yes (.inl h3)] at hk2
        (repeat (first | with_reducible (first | refine go_nil ?_ | refine gk_seq ?_ | refine gc_seq ?_ | refine gc_reg ?_ | refine gc_skip ?_ | refine gk_block ?_ | refine gc_block ?_ | refine gc_exit ?_ | refine gc_ret ?_ | refine gk_seqret ?_ | refine gk_seqexit ?_ | refine gk_blockret ?_ | refine gk_out ?_ | refine gk_loopret ?_ | refine gk_loopexit ?_ | refine gq_nil ?_) | (with_reducible refine gc_drq ?_; intro _) | (show GO _ _ _ _ _ (⟨some _, none, _⟩ :: _) _; first | refine go_op (hk := ?_) | (refine go_nw (hk := ?_); intro u; try simp only [List.length_cons, List.length_nil, List.nil_append, Nat.zero_add]) | (refine go_np (hk := ?_); intro id)) | (show GQ _ _ _ _ _ _ _ (⟨some _, none, _⟩ :: _) _; first | refine gq_op (hk := ?_) | (refine gq_nw (hk := ?_); intro u; try simp only [List.length_cons, List.length_nil, List.nil_append, Nat.zero_add])) | (show GO _ _ _ _ _ (⟨none, none, _⟩ :: _) _; refine go_st (hk := ?_)) | (show GO _ _ _ _ _ (⟨_, some _, _⟩ :: _) _; first | refine go_in (hk := ?_) | refine go_out (hk := ?_) | refine go_void (hk := ?_)) | (show GQ _ _ _ _ _ _ _ (⟨_, some _, _⟩ :: _) _; first | refine gq_in (hk := ?_) | refine gq_out (hk := ?_) | refine gq_void (hk := ?_)) | (show GK _ _ _ _ (blockK _ _ _); refine gk_past rfl ?_) | (show GC _ _ _ _ _ (.cond _ _ _) _; first | refine gc_yes (h1 := ?_) | refine gc_no (h1 := ?_))))
        refine gk_next hk2 (hc := .cons rfl (.cons rfl (.cons rfl (.consv rfl (by congr 1) (.consv rfl (by congr 1) .nil)))))
      · (repeat (first | with_reducible (first | refine go_nil ?_ | refine gk_seq ?_ | refine gc_seq ?_ | refine gc_reg ?_ | refine gc_skip ?_ | refine gk_block ?_ | refine gc_block ?_ | refine gc_exit ?_ | refine gc_ret ?_ | refine gk_seqret ?_ | refine gk_seqexit ?_ | refine gk_blockret ?_ | refine gk_out ?_ | refine gk_loopret ?_ | refine gk_loopexit ?_ | refine gq_nil ?_) | (with_reducible refine gc_drq ?_; intro _) | (show GO _ _ _ _ _ (⟨some _, none, _⟩ :: _) _; first | refine go_op (hk := ?_) | (refine go_nw (hk := ?_); intro u; try simp only [List.length_cons, List.length_nil, List.nil_append, Nat.zero_add]) | (refine go_np (hk := ?_); intro id)) | (show GQ _ _ _ _ _ _ _ (⟨some _, none, _⟩ :: _) _; first | refine gq_op (hk := ?_) | (refine gq_nw (hk := ?_); intro u; try simp only [List.length_cons, List.length_nil, List.nil_append, Nat.zero_add])) | (show GO _ _ _ _ _ (⟨none, none, _⟩ :: _) _; refine go_st (hk := ?_)) | (show GO _ _ _ _ _ (⟨_, some _, _⟩ :: _) _; first | refine go_in (hk := ?_) | refine go_out (hk := ?_) | refine go_void (hk := ?_)) | (show GQ _ _ _ _ _ _ _ (⟨_, some _, _⟩ :: _) _; first | refine gq_in (hk := ?_) | refine gq_out (hk := ?_) | refine gq_void (hk := ?_)) | (show GK _ _ _ _ (blockK _ _ _); refine gk_past rfl ?_) | (show GC _ _ _ _ _ (.cond _ _ _) _; first | refine gc_yes (h1 := ?_) | refine gc_no (h1 := ?_))))
        refine gq_split 39 rfl (fun h4 => ?_) (fun h4 => ?_)
        · (repeat (first | with_reducible (first | refine go_nil ?_ | refine gk_seq ?_ | refine gc_seq ?_ | refine gc_reg ?_ | refine gc_skip ?_ | refine gk_block ?_ | refine gc_block ?_ | refine gc_exit ?_ | refine gc_ret ?_ | refine gk_seqret ?_ | refine gk_seqexit ?_ | refine gk_blockret ?_ | refine gk_out ?_ | refine gk_loopret ?_ | refine gk_loopexit ?_ | refine gq_nil ?_) | (with_reducible refine gc_drq ?_; intro _) | (show GO _ _ _ _ _ (⟨some _, none, _⟩ :: _) _; first | refine go_op (hk := ?_) | (refine go_nw (hk := ?_); intro u; try simp only [List.length_cons, List.length_nil, List.nil_append, Nat.zero_add]) | (refine go_np (hk := ?_); intro id)) | (show GQ _ _ _ _ _ _ _ (⟨some _, none, _⟩ :: _) _; first | refine gq_op (hk := ?_) | (refine gq_nw (hk := ?_); intro u; try simp only [List.length_cons, List.length_nil, List.nil_append, Nat.zero_add])) | (show GO _ _ _ _ _ (⟨none, none, _⟩ :: _) _; refine go_st (hk := ?_)) | (show GO _ _ _ _ _ (⟨_, some _, _⟩ :: _) _; first | refine go_in (hk := ?_) | refine go_out (hk := ?_) | refine go_void (hk := ?_)) | (show GQ _ _ _ _ _ _ _ (⟨_, some _, _⟩ :: _) _; first | refine gq_in (hk := ?_) | refine gq_out (hk := ?_) | refine gq_void (hk := ?_)) | (show GK _ _ _ _ (blockK _ _ _); refine gk_past rfl ?_) | (show GC _ _ _ _ _ (.cond _ _ _) _; first | refine gc_yes (h1 := ?_) | refine gc_no (h1 := ?_))))
          refine gc_cond rfl (fun h5 => ?_) (fun h5 => ?_)
          · rw [plT_yes (.inr ⟨h4, by omega⟩)] at hk2
            (repeat (first | with_reducible (first | refine go_nil ?_ | refine gk_seq ?_ | refine gc_seq ?_ | refine gc_reg ?_ | refine gc_skip ?_ | refine gk_block ?_ | refine gc_block ?_ | refine gc_exit ?_ | refine gc_ret ?_ | refine gk_seqret ?_ | refine gk_seqexit ?_ | refine gk_blockret ?_ | refine gk_out ?_ | refine gk_loopret ?_ | refine gk_loopexit ?_ | refine gq_nil ?_) | (with_reducible refine gc_drq ?_; intro _) | (show GO _ _ _ _ _ (⟨some _, none, _⟩ :: _) _; first | refine go_op (hk := ?_) | (refine go_nw (hk := ?_); intro u; try simp only [List.length_cons, List.length_nil, List.nil_append, Nat.zero_add]) | (refine go_np (hk := ?_); intro id)) | (show GQ _ _ _ _ _ _ _ (⟨some _, none, _⟩ :: _) _; first | refine gq_op (hk := ?_) | (refine gq_nw (hk := ?_); intro u; try simp only [List.length_cons, List.length_nil, List.nil_append, Nat.zero_add])) | (show GO _ _ _ _ _ (⟨none, none, _⟩ :: _) _; refine go_st (hk := ?_)) | (show GO _ _ _ _ _ (⟨_, some _, _⟩ :: _) _; first | refine go_in (hk := ?_) | refine go_out (hk := ?_) | refine go_void (hk := ?_)) | (show GQ _ _ _ _ _ _ _ (⟨_, some _, _⟩ :: _) _; first | refine gq_in (hk := ?_) | refine gq_out (hk := ?_) | refine gq_void (hk := ?_)) | (show GK _ _ _ _ (blockK _ _ _); refine gk_past rfl ?_) | (show GC _ _ _ _ _ (.cond _ _ _) _; first | refine gc_yes (h1 := ?_) | refine gc_no (h1 := ?_))))
            refine gk_next hk2 (hc := .cons rfl (.cons rfl (.cons rfl (.consv rfl (by congr 1) (.consv rfl (by congr 1) .nil)))))
          · rw [plT_no (fun h6 => by rcases h6 with h6 | h6 <;> omega)] at hk2
            (repeat (first | with_reducible (first | refine go_nil ?_ | refine gk_seq ?_ | refine gc_seq ?_ | refine gc_reg ?_ | refine gc_skip ?_ | refine gk_block ?_ | refine gc_block ?_ | refine gc_exit ?_ | refine gc_ret ?_ | refine gk_seqret ?_ | refine gk_seqexit ?_ | refine gk_blockret ?_ | refine gk_out ?_ | refine gk_loopret ?_ | refine gk_loopexit ?_ | refine gq_nil ?_) | (with_reducible refine gc_drq ?_; intro _) | (show GO _ _ _ _ _ (⟨some _, none, _⟩ :: _) _; first | refine go_op (hk := ?_) | (refine go_nw (hk := ?_); intro u; try simp only [List.length_cons, List.length_nil, List.nil_append, Nat.zero_add]) | (refine go_np (hk := ?_); intro id)) | (show GQ _ _ _ _ _ _ _ (⟨some _, none, _⟩ :: _) _; first | refine gq_op (hk := ?_) | (refine gq_nw (hk := ?_); intro u; try simp only [List.length_cons, List.length_nil, List.nil_append, Nat.zero_add])) | (show GO _ _ _ _ _ (⟨none, none, _⟩ :: _) _; refine go_st (hk := ?_)) | (show GO _ _ _ _ _ (⟨_, some _, _⟩ :: _) _; first | refine go_in (hk := ?_) | refine go_out (hk := ?_) | refine go_void (hk := ?_)) | (show GQ _ _ _ _ _ _ _ (⟨_, some _, _⟩ :: _) _; first | refine gq_in (hk := ?_) | refine gq_out (hk := ?_) | refine gq_void (hk := ?_)) | (show GK _ _ _ _ (blockK _ _ _); refine gk_past rfl ?_) | (show GC _ _ _ _ _ (.cond _ _ _) _; first | refine gc_yes (h1 := ?_) | refine gc_no (h1 := ?_))))
            exact gk_next hk2
        · rw [plT_no (fun h6 => by rcases h6 with h6 | h6 <;> omega)] at hk2
          (repeat (first | with_reducible (first | refine go_nil ?_ | refine gk_seq ?_ | refine gc_seq ?_ | refine gc_reg ?_ | refine gc_skip ?_ | refine gk_block ?_ | refine gc_block ?_ | refine gc_exit ?_ | refine gc_ret ?_ | refine gk_seqret ?_ | refine gk_seqexit ?_ | refine gk_blockret ?_ | refine gk_out ?_ | refine gk_loopret ?_ | refine gk_loopexit ?_ | refine gq_nil ?_) | (with_reducible refine gc_drq ?_; intro _) | (show GO _ _ _ _ _ (⟨some _, none, _⟩ :: _) _; first | refine go_op (hk := ?_) | (refine go_nw (hk := ?_); intro u; try simp only [List.length_cons, List.length_nil, List.nil_append, Nat.zero_add]) | (refine go_np (hk := ?_); intro id)) | (show GQ _ _ _ _ _ _ _ (⟨some _, none, _⟩ :: _) _; first | refine gq_op (hk := ?_) | (refine gq_nw (hk := ?_); intro u; try simp only [List.length_cons, List.length_nil, List.nil_append, Nat.zero_add])) | (show GO _ _ _ _ _ (⟨none, none, _⟩ :: _) _; refine go_st (hk := ?_)) | (show GO _ _ _ _ _ (⟨_, some _, _⟩ :: _) _; first | refine go_in (hk := ?_) | refine go_out (hk := ?_) | refine go_void (hk := ?_)) | (show GQ _ _ _ _ _ _ _ (⟨_, some _, _⟩ :: _) _; first | refine gq_in (hk := ?_) | refine gq_out (hk := ?_) | refine gq_void (hk := ?_)) | (show GK _ _ _ _ (blockK _ _ _); refine gk_past rfl ?_) | (show GC _ _ _ _ _ (.cond _ _ _) _; first | refine gc_yes (h1 := ?_) | refine gc_no (h1 := ?_))))
          exact gk_next hk2
    · have : j = xs.length := by omega
      subst this
      have hk := hk (by omega)
      rw [tabZ_succ] at hk
      (repeat (first | with_reducible (first | refine go_nil ?_ | refine gk_seq ?_ | refine gc_seq ?_ | refine gc_reg ?_ | refine gc_skip ?_ | refine gk_block ?_ | refine gc_block ?_ | refine gc_exit ?_ | refine gc_ret ?_ | refine gk_seqret ?_ | refine gk_seqexit ?_ | refine gk_blockret ?_ | refine gk_out ?_ | refine gk_loopret ?_ | refine gk_loopexit ?_ | refine gq_nil ?_) | (with_reducible refine gc_drq ?_; intro _) | (show GO _ _ _ _ _ (⟨some _, none, _⟩ :: _) _; first | refine go_op (hk := ?_) | (refine go_nw (hk := ?_); intro u; try simp only [List.length_cons, List.length_nil, List.nil_append, Nat.zero_add]) | (refine go_np (hk := ?_); intro id)) | (show GQ _ _ _ _ _ _ _ (⟨some _, none, _⟩ :: _) _; first | refine gq_op (hk := ?_) | (refine gq_nw (hk := ?_); intro u; try simp only [List.length_cons, List.length_nil, List.nil_append, Nat.zero_add])) | (show GO _ _ _ _ _ (⟨none, none, _⟩ :: _) _; refine go_st (hk := ?_)) | (show GO _ _ _ _ _ (⟨_, some _, _⟩ :: _) _; first | refine go_in (hk := ?_) | refine go_out (hk := ?_) | refine go_void (hk := ?_)) | (show GQ _ _ _ _ _ _ _ (⟨_, some _, _⟩ :: _) _; first | refine gq_in (hk := ?_) | refine gq_out (hk := ?_) | refine gq_void (hk := ?_)) | (show GK _ _ _ _ (blockK _ _ _); refine gk_past rfl ?_) | (show GC _ _ _ _ _ (.cond _ _ _) _; first | refine gc_yes (h1 := ?_) | refine gc_no (h1 := ?_))))
      exact gk_next (hk _)
  · have : i = xs.length := by omega
    subst this
    (repeat (first | with_reducible (first | refine go_nil ?_ | refine gk_seq ?_ | refine gc_seq ?_ | refine gc_reg ?_ | refine gc_skip ?_ | refine gk_block ?_ | refine gc_block ?_ | refine gc_exit ?_ | refine gc_ret ?_ | refine gk_seqret ?_ | refine gk_seqexit ?_ | refine gk_blockret ?_ | refine gk_out ?_ | refine gk_loopret ?_ | refine gk_loopexit ?_ | refine gq_nil ?_) | (with_reducible refine gc_drq ?_; intro _) | (show GO _ _ _ _ _ (⟨some _, none, _⟩ :: _) _; first | refine go_op (hk := ?_) | (refine go_nw (hk := ?_); intro u; try simp only [List.length_cons, List.length_nil, List.nil_append, Nat.zero_add]) | (refine go_np (hk := ?_); intro id)) | (show GQ _ _ _ _ _ _ _ (⟨some _, none, _⟩ :: _) _; first | refine gq_op (hk := ?_) | (refine gq_nw (hk := ?_); intro u; try simp only [List.length_cons, List.length_nil, List.nil_append, Nat.zero_add])) | (show GO _ _ _ _ _ (⟨none, none, _⟩ :: _) _; refine go_st (hk := ?_)) | (show GO _ _ _ _ _ (⟨_, some _, _⟩ :: _) _; first | refine go_in (hk := ?_) | refine go_out (hk := ?_) | refine go_void (hk := ?_)) | (show GQ _ _ _ _ _ _ _ (⟨_, some _, _⟩ :: _) _; first | refine gq_in (hk := ?_) | refine gq_out (hk := ?_) | refine gq_void (hk := ?_)) | (show GK _ _ _ _ (blockK _ _ _); refine gk_past rfl ?_) | (show GC _ _ _ _ _ (.cond _ _ _) _; first | refine gc_yes (h1 := ?_) | refine gc_no (h1 := ?_))))
    refine gk_ret rfl fun H' hH => ?_
    rw [OwnI, plL, tabZ_len]
    exact hH.give .head

theorem plN_le (xs : List Int) (i : Nat) : plN xs i ≤ xs.length := plT_le xs i _

theorem plL_len (xs : List Int) : (plL xs).length = xs.length := tabZ_len _ _

theorem plL_nth {xs : List Int} {i : Nat} (h : i < xs.length) : nth (plL xs) i = ((plN xs i : Nat) : Int) := tabZ_nth h

theorem plL_in {xs : List Int} {i : Nat} (h : i < xs.length) : 0 ≤ nth (plL xs) i ∧ nth (plL xs) i ≤ xs.length := by
  rw [plL_nth h]
  have := plN_le xs i
  omega

/-- all at once -/
def taL (xs : List Int) : List Int := tabZ xs.length fun i => min (nth xs i * (xs.length : Int)) 1000

def taX (xs : List Int) : List Int := if OddsOk xs then taL xs else []

/-- times how many there are less those ahead -/
def stV (xs : List Int) (k : Nat) : Int := nth xs k * ((xs.length : Int) - (plN xs k : Nat))

def dnT (xs : List Int) (i : Nat) : Nat → Int
  | 0 => 0
  | k + 1 => if plN xs k ≤ plN xs i then max (dnT xs i k) (stV xs k) else dnT xs i k

def dnL (xs : List Int) : List Int := tabZ xs.length fun i => min (dnT xs i xs.length) 1000

def dnX (xs : List Int) : List Int := if OddsOk xs then dnL xs else []

def upT (xs : List Int) (i : Nat) : Nat → Int
  | 0 => 1000
  | k + 1 => if plN xs i ≤ plN xs k then min (upT xs i k) (stV xs k) else upT xs i k

def upL (xs : List Int) : List Int := tabZ xs.length fun i => upT xs i xs.length

def upX (xs : List Int) : List Int := if OddsOk xs then upL xs else []

def shV (xs : List Int) (k : Nat) : Int := (nth xs k * (xs.length : Int) + (plN xs k : Nat)) / ((plN xs k : Nat) + 1)

def fsT (xs : List Int) (i : Nat) : Nat → Int
  | 0 => 1000
  | k + 1 => if plN xs i ≤ plN xs k then min (fsT xs i k) (shV xs k) else fsT xs i k

def fsL (xs : List Int) : List Int := tabZ xs.length fun i => fsT xs i xs.length

def fsX (xs : List Int) : List Int := if OddsOk xs then fsL xs else []

theorem stV_in {xs : List Int} (h : OddsOk xs) {k : Nat} (hk : k < xs.length) : 0 ≤ stV xs k ∧ stV xs k ≤ 6000 := by
  have h1 := h.1 k hk
  have h2 := plN_le xs k
  have := mul12 (a := nth xs k) (b := (xs.length : Int) - (plN xs k : Nat)) (A := 1000) (B := 6) h1 (by omega)
  exact ⟨this.1, by unfold stV; omega⟩

theorem dnT_in {xs : List Int} (h : OddsOk xs) (i : Nat) : ∀ {j}, j ≤ xs.length → 0 ≤ dnT xs i j ∧ dnT xs i j ≤ 6000
  | 0, _ => by simp [dnT]
  | j + 1, hj => by
    have h1 := dnT_in h i (j := j) (by omega)
    have h2 := stV_in h (k := j) (by omega)
    rw [dnT]
    split <;> omega

theorem upT_in {xs : List Int} (h : OddsOk xs) (i : Nat) : ∀ {j}, j ≤ xs.length → 0 ≤ upT xs i j ∧ upT xs i j ≤ 1000
  | 0, _ => by simp [upT]
  | j + 1, hj => by
    have h1 := upT_in h i (j := j) (by omega)
    have h2 := stV_in h (k := j) (by omega)
    rw [upT]
    split <;> omega

theorem shV_in {xs : List Int} (h : OddsOk xs) {k : Nat} (hk : k < xs.length) : (0 ≤ nth xs k * (xs.length : Int) ∧ nth xs k * (xs.length : Int) ≤ 6000) ∧ 0 ≤ shV xs k := by
  have h1 := h.1 k hk
  have h2 := plN_le xs k
  have := mul12 (a := nth xs k) (b := (xs.length : Int)) (A := 1000) (B := 6) h1 (by omega)
  refine ⟨⟨this.1, by omega⟩, ?_⟩
  unfold shV
  exact Int.ediv_nonneg (by omega) (by omega)

theorem fsT_in {xs : List Int} (h : OddsOk xs) (i : Nat) : ∀ {j}, j ≤ xs.length → 0 ≤ fsT xs i j ∧ fsT xs i j ≤ 1000
  | 0, _ => by simp [fsT]
  | j + 1, hj => by
    have h1 := fsT_in h i (j := j) (by omega)
    have h2 := shV_in h (k := j) (by omega)
    rw [fsT]
    split <;> omega

theorem specStepUp0_ok {H : Heap} {a : AV} {xs : List Int} (ha : Ints H a xs) (hx : OddsOk xs) : ACalls Try.prog fn_spec_stepUp [a] H fun r H' => OwnI H H' r (upL xs) ∧ Le H H' := by
  have hl : xs.length ≤ 6 := hx.2.2
  have hpl := plL_len xs
  refine code_spec_stepUp.go [.roI a xs.length xs] ⟨⟨rfl, ha⟩, trivial⟩ (by simp) ?_
  unfold mc_spec_stepUp
  (repeat (first | with_reducible (first | refine go_nil ?_ | refine gk_seq ?_ | refine gc_seq ?_ | refine gc_reg ?_ | refine gc_skip ?_ | refine gk_block ?_ | refine gc_block ?_ | refine gc_exit ?_ | refine gc_ret ?_ | refine gk_seqret ?_ | refine gk_seqexit ?_ | refine gk_blockret ?_ | refine gk_out ?_ | refine gk_loopret ?_ | refine gk_loopexit ?_ | refine gq_nil ?_) | (with_reducible refine gc_drq ?_; intro _) | (show GO _ _ _ _ _ (⟨some _, none, .call _ _⟩ :: _) _; first | (show GO _ _ _ _ _ (⟨some _, none, .call fn_spec_places _⟩ :: _) _; refine go_calln rfl code_spec_places.callable (fun H hH => specPlaces_ok (hH.ints (by exact Has.auto)) (by omega)) ?_; intro u)) | (show GO _ _ _ _ _ (⟨some _, none, _⟩ :: _) _; first | refine go_op (hk := ?_) | (refine go_nw (hk := ?_); intro u; try simp only [List.length_cons, List.length_nil, List.nil_append, Nat.zero_add]) | (refine go_np (hk := ?_); intro id)) | (show GQ _ _ _ _ _ _ _ (⟨some _, none, _⟩ :: _) _; first | refine gq_op (hk := ?_) | (refine gq_nw (hk := ?_); intro u; try simp only [List.length_cons, List.length_nil, List.nil_append, Nat.zero_add])) | (show GO _ _ _ _ _ (⟨none, none, _⟩ :: _) _; refine go_st (hk := ?_)) | (show GO _ _ _ _ _ (⟨_, some _, _⟩ :: _) _; first | refine go_in (hk := ?_) | refine go_out (hk := ?_) | refine go_void (hk := ?_)) | (show GQ _ _ _ _ _ _ _ (⟨_, some _, _⟩ :: _) _; first | refine gq_in (hk := ?_) | refine gq_out (hk := ?_) | refine gq_void (hk := ?_)) | (show GK _ _ _ _ (blockK _ _ _); refine gk_past rfl ?_) | (show GC _ _ _ _ _ (.cond _ _ _) _; first | refine gc_yes (h1 := ?_) | refine gc_no (h1 := ?_))))
  rename_i u0
  refine gc_upv xs.length (fun i u => [(0, a), (3, u0), (4, u), (5, .int .i64 (i : Int))]) (fun i u => [⟨.rw, u, 1, i, ints (tabZ i fun i => upT xs i xs.length)⟩, .rwI u0 (plL xs).length (plL xs), .roI a xs.length xs]) _ (hb := ?_)
  intro i u hi I ν m hk
  (repeat (first | with_reducible (first | refine go_nil ?_ | refine gk_seq ?_ | refine gc_seq ?_ | refine gc_reg ?_ | refine gc_skip ?_ | refine gk_block ?_ | refine gc_block ?_ | refine gc_exit ?_ | refine gc_ret ?_ | refine gk_seqret ?_ | refine gk_seqexit ?_ | refine gk_blockret ?_ | refine gk_out ?_ | refine gk_loopret ?_ | refine gk_loopexit ?_ | refine gq_nil ?_) | (with_reducible refine gc_drq ?_; intro _) | (show GO _ _ _ _ _ (⟨some _, none, .call _ _⟩ :: _) _; first | (show GO _ _ _ _ _ (⟨some _, none, .call fn_spec_places _⟩ :: _) _; refine go_calln rfl code_spec_places.callable (fun H hH => specPlaces_ok (hH.ints (by exact Has.auto)) (by omega)) ?_; intro u)) | (show GO _ _ _ _ _ (⟨some _, none, _⟩ :: _) _; first | refine go_op (hk := ?_) | (refine go_nw (hk := ?_); intro u; try simp only [List.length_cons, List.length_nil, List.nil_append, Nat.zero_add]) | (refine go_np (hk := ?_); intro id)) | (show GQ _ _ _ _ _ _ _ (⟨some _, none, _⟩ :: _) _; first | refine gq_op (hk := ?_) | (refine gq_nw (hk := ?_); intro u; try simp only [List.length_cons, List.length_nil, List.nil_append, Nat.zero_add])) | (show GO _ _ _ _ _ (⟨none, none, _⟩ :: _) _; refine go_st (hk := ?_)) | (show GO _ _ _ _ _ (⟨_, some _, _⟩ :: _) _; first | refine go_in (hk := ?_) | refine go_out (hk := ?_) | refine go_void (hk := ?_)) | (show GQ _ _ _ _ _ _ _ (⟨_, some _, _⟩ :: _) _; first | refine gq_in (hk := ?_) | refine gq_out (hk := ?_) | refine gq_void (hk := ?_)) | (show GK _ _ _ _ (blockK _ _ _); refine gk_past rfl ?_) | (show GC _ _ _ _ _ (.cond _ _ _) _; first | refine gc_yes (h1 := ?_) | refine gc_no (h1 := ?_))))
  refine gc_cond rfl (fun h => ?_) (fun h => ?_)
  · (repeat (first | with_reducible (first | refine go_nil ?_ | refine gk_seq ?_ | refine gc_seq ?_ | refine gc_reg ?_ | refine gc_skip ?_ | refine gk_block ?_ | refine gc_block ?_ | refine gc_exit ?_ | refine gc_ret ?_ | refine gk_seqret ?_ | refine gk_seqexit ?_ | refine gk_blockret ?_ | refine gk_out ?_ | refine gk_loopret ?_ | refine gk_loopexit ?_ | refine gq_nil ?_) | (with_reducible refine gc_drq ?_; intro _) | (show GO _ _ _ _ _ (⟨some _, none, .call _ _⟩ :: _) _; first | (show GO _ _ _ _ _ (⟨some _, none, .call fn_spec_places _⟩ :: _) _; refine go_calln rfl code_spec_places.callable (fun H hH => specPlaces_ok (hH.ints (by exact Has.auto)) (by omega)) ?_; intro u)) | (show GO _ _ _ _ _ (⟨some _, none, _⟩ :: _) _; first | refine go_op (hk := ?_) | (refine go_nw (hk := ?_); intro u; try simp only [List.length_cons, List.length_nil, List.nil_append, Nat.zero_add]) | (refine go_np (hk := ?_); intro id)) | (show GQ _ _ _ _ _ _ _ (⟨some _, none, _⟩ :: _) _; first | refine gq_op (hk := ?_) | (refine gq_nw (hk := ?_); intro u; try simp only [List.length_cons, List.length_nil, List.nil_append, Nat.zero_add])) | (show GO _ _ _ _ _ (⟨none, none, _⟩ :: _) _; refine go_st (hk := ?_)) | (show GO _ _ _ _ _ (⟨_, some _, _⟩ :: _) _; first | refine go_in (hk := ?_) | refine go_out (hk := ?_) | refine go_void (hk := ?_)) | (show GQ _ _ _ _ _ _ _ (⟨_, some _, _⟩ :: _) _; first | refine gq_in (hk := ?_) | refine gq_out (hk := ?_) | refine gq_void (hk := ?_)) | (show GK _ _ _ _ (blockK _ _ _); refine gk_past rfl ?_) | (show GC _ _ _ _ _ (.cond _ _ _) _; first | refine gc_yes (h1 := ?_) | refine gc_no (h1 := ?_))))
    refine gc_up xs.length (fun j => [(0, a), (3, u0), (4, u), (5, .int .i64 (i : Int)), (6, .int .i64 (upT xs i j)), (7, .int .i64 (j : Int))]) (fun _ => [⟨.rw, u, 1, i, ints (tabZ i fun i => upT xs i xs.length)⟩, .rwI u0 (plL xs).length (plL xs), .roI a xs.length xs]) (hb := ?_)
    intro j hj I2 ν2 m2 hk2
    (repeat (first | with_reducible (first | refine go_nil ?_ | refine gk_seq ?_ | refine gc_seq ?_ | refine gc_reg ?_ | refine gc_skip ?_ | refine gk_block ?_ | refine gc_block ?_ | refine gc_exit ?_ | refine gc_ret ?_ | refine gk_seqret ?_ | refine gk_seqexit ?_ | refine gk_blockret ?_ | refine gk_out ?_ | refine gk_loopret ?_ | refine gk_loopexit ?_ | refine gq_nil ?_) | (with_reducible refine gc_drq ?_; intro _) | (show GO _ _ _ _ _ (⟨some _, none, .call _ _⟩ :: _) _; first | (show GO _ _ _ _ _ (⟨some _, none, .call fn_spec_places _⟩ :: _) _; refine go_calln rfl code_spec_places.callable (fun H hH => specPlaces_ok (hH.ints (by exact Has.auto)) (by omega)) ?_; intro u)) | (show GO _ _ _ _ _ (⟨some _, none, _⟩ :: _) _; first | refine go_op (hk := ?_) | (refine go_nw (hk := ?_); intro u; try simp only [List.length_cons, List.length_nil, List.nil_append, Nat.zero_add]) | (refine go_np (hk := ?_); intro id)) | (show GQ _ _ _ _ _ _ _ (⟨some _, none, _⟩ :: _) _; first | refine gq_op (hk := ?_) | (refine gq_nw (hk := ?_); intro u; try simp only [List.length_cons, List.length_nil, List.nil_append, Nat.zero_add])) | (show GO _ _ _ _ _ (⟨none, none, _⟩ :: _) _; refine go_st (hk := ?_)) | (show GO _ _ _ _ _ (⟨_, some _, _⟩ :: _) _; first | refine go_in (hk := ?_) | refine go_out (hk := ?_) | refine go_void (hk := ?_)) | (show GQ _ _ _ _ _ _ _ (⟨_, some _, _⟩ :: _) _; first | refine gq_in (hk := ?_) | refine gq_out (hk := ?_) | refine gq_void (hk := ?_)) | (show GK _ _ _ _ (blockK _ _ _); refine gk_past rfl ?_) | (show GC _ _ _ _ _ (.cond _ _ _) _; first | refine gc_yes (h1 := ?_) | refine gc_no (h1 := ?_))))
    refine gc_cond rfl (fun h2 => ?_) (fun h2 => ?_)
    · have hk2 := hk2 (by omega)
      have b1 := stV_in hx (k := j) (by omega)
      have b2 := upT_in hx i (j := j) (by omega)
      have e1 : nth xs j * ((xs.length : Int) - nth (plL xs) j) = stV xs j := by rw [plL_nth (by omega)]; rfl
      rw [← e1] at b1
      have pj := plL_in (xs := xs) (i := j) (by omega)
      rw [upT] at hk2
      (repeat (first | with_reducible (first | refine go_nil ?_ | refine gk_seq ?_ | refine gc_seq ?_ | refine gc_reg ?_ | refine gc_skip ?_ | refine gk_block ?_ | refine gc_block ?_ | refine gc_exit ?_ | refine gc_ret ?_ | refine gk_seqret ?_ | refine gk_seqexit ?_ | refine gk_blockret ?_ | refine gk_out ?_ | refine gk_loopret ?_ | refine gk_loopexit ?_ | refine gq_nil ?_) | (with_reducible refine gc_drq ?_; intro _) | (show GO _ _ _ _ _ (⟨some _, none, .call _ _⟩ :: _) _; first | (show GO _ _ _ _ _ (⟨some _, none, .call fn_spec_places _⟩ :: _) _; refine go_calln rfl code_spec_places.callable (fun H hH => specPlaces_ok (hH.ints (by exact Has.auto)) (by omega)) ?_; intro u)) | (show GO _ _ _ _ _ (⟨some _, none, _⟩ :: _) _; first | refine go_op (hk := ?_) | (refine go_nw (hk := ?_); intro u; try simp only [List.length_cons, List.length_nil, List.nil_append, Nat.zero_add]) | (refine go_np (hk := ?_); intro id)) | (show GQ _ _ _ _ _ _ _ (⟨some _, none, _⟩ :: _) _; first | refine gq_op (hk := ?_) | (refine gq_nw (hk := ?_); intro u; try simp only [List.length_cons, List.length_nil, List.nil_append, Nat.zero_add])) | (show GO _ _ _ _ _ (⟨none, none, _⟩ :: _) _; refine go_st (hk := ?_)) | (show GO _ _ _ _ _ (⟨_, some _, _⟩ :: _) _; first | refine go_in (hk := ?_) | refine go_out (hk := ?_) | refine go_void (hk := ?_)) | (show GQ _ _ _ _ _ _ _ (⟨_, some _, _⟩ :: _) _; first | refine gq_in (hk := ?_) | refine gq_out (hk := ?_) | refine gq_void (hk := ?_)) | (show GK _ _ _ _ (blockK _ _ _); refine gk_past rfl ?_) | (show GC _ _ _ _ _ (.cond _ _ _) _; first | refine gc_yes (h1 := ?_) | refine gc_no (h1 := ?_))))
      refine gc_cond rfl (fun h3 => ?_) (fun h3 => ?_)
      · rw [plL_nth (by omega), plL_nth (by omega)] at h3
        rw [if_pos (by omega), ← e1] at hk2
        (repeat (first | with_reducible (first | refine go_nil ?_ | refine gk_seq ?_ | refine gc_seq ?_ | refine gc_reg ?_ | refine gc_skip ?_ | refine gk_block ?_ | refine gc_block ?_ | refine gc_exit ?_ | refine gc_ret ?_ | refine gk_seqret ?_ | refine gk_seqexit ?_ | refine gk_blockret ?_ | refine gk_out ?_ | refine gk_loopret ?_ | refine gk_loopexit ?_ | refine gq_nil ?_) | (with_reducible refine gc_drq ?_; intro _) | (show GO _ _ _ _ _ (⟨some _, none, .call _ _⟩ :: _) _; first | (show GO _ _ _ _ _ (⟨some _, none, .call fn_spec_places _⟩ :: _) _; refine go_calln rfl code_spec_places.callable (fun H hH => specPlaces_ok (hH.ints (by exact Has.auto)) (by omega)) ?_; intro u)) | (show GO _ _ _ _ _ (⟨some _, none, _⟩ :: _) _; first | refine go_op (hk := ?_) | (refine go_nw (hk := ?_); intro u; try simp only [List.length_cons, List.length_nil, List.nil_append, Nat.zero_add]) | (refine go_np (hk := ?_); intro id)) | (show GQ _ _ _ _ _ _ _ (⟨some _, none, _⟩ :: _) _; first | refine gq_op (hk := ?_) | (refine gq_nw (hk := ?_); intro u; try simp only [List.length_cons, List.length_nil, List.nil_append, Nat.zero_add])) | (show GO _ _ _ _ _ (⟨none, none, _⟩ :: _) _; refine go_st (hk := ?_)) | (show GO _ _ _ _ _ (⟨_, some _, _⟩ :: _) _; first | refine go_in (hk := ?_) | refine go_out (hk := ?_) | refine go_void (hk := ?_)) | (show GQ _ _ _ _ _ _ _ (⟨_, some _, _⟩ :: _) _; first | refine gq_in (hk := ?_) | refine gq_out (hk := ?_) | refine gq_void (hk := ?_)) | (show GK _ _ _ _ (blockK _ _ _); refine gk_past rfl ?_) | (show GC _ _ _ _ _ (.cond _ _ _) _; first | refine gc_yes (h1 := ?_) | refine gc_no (h1 := ?_))))
        exact gk_next hk2
      · rw [plL_nth (by omega), plL_nth (by omega)] at h3
        rw [if_neg (by omega)] at hk2
        (repeat (first | with_reducible (first | refine go_nil ?_ | refine gk_seq ?_ | refine gc_seq ?_ | refine gc_reg ?_ | refine gc_skip ?_ | refine gk_block ?_ | refine gc_block ?_ | refine gc_exit ?_ | refine gc_ret ?_ | refine gk_seqret ?_ | refine gk_seqexit ?_ | refine gk_blockret ?_ | refine gk_out ?_ | refine gk_loopret ?_ | refine gk_loopexit ?_ | refine gq_nil ?_) | (with_reducible refine gc_drq ?_; intro _) | (show GO _ _ _ _ _ (⟨some _, none, .call _ _⟩ :: _) _; first | (show GO _ _ _ _ _ (⟨some _, none, .call fn_spec_places _⟩ :: _) _; refine go_calln rfl code_spec_places.callable (fun H hH => specPlaces_ok (hH.ints (by exact Has.auto)) (by omega)) ?_; intro u)) | (show GO _ _ _ _ _ (⟨some _, none, _⟩ :: _) _; first | refine go_op (hk := ?_) | (refine go_nw (hk := ?_); intro u; try simp only [List.length_cons, List.length_nil, List.nil_append, Nat.zero_add]) | (refine go_np (hk := ?_); intro id)) | (show GQ _ _ _ _ _ _ _ (⟨some _, none, _⟩ :: _) _; first | refine gq_op (hk := ?_) | (refine gq_nw (hk := ?_); intro u; try simp only [List.length_cons, List.length_nil, List.nil_append, Nat.zero_add])) | (show GO _ _ _ _ _ (⟨none, none, _⟩ :: _) _; refine go_st (hk := ?_)) | (show GO _ _ _ _ _ (⟨_, some _, _⟩ :: _) _; first | refine go_in (hk := ?_) | refine go_out (hk := ?_) | refine go_void (hk := ?_)) | (show GQ _ _ _ _ _ _ _ (⟨_, some _, _⟩ :: _) _; first | refine gq_in (hk := ?_) | refine gq_out (hk := ?_) | refine gq_void (hk := ?_)) | (show GK _ _ _ _ (blockK _ _ _); refine gk_past rfl ?_) | (show GC _ _ _ _ _ (.cond _ _ _) _; first | refine gc_yes (h1 := ?_) | refine gc_no (h1 := ?_))))
        exact gk_next hk2
    · have : j = xs.length := by omega
      subst this
      have hk := hk (by omega)
      rw [tabZ_succ] at hk
      (repeat (first | with_reducible (first | refine go_nil ?_ | refine gk_seq ?_ | refine gc_seq ?_ | refine gc_reg ?_ | refine gc_skip ?_ | refine gk_block ?_ | refine gc_block ?_ | refine gc_exit ?_ | refine gc_ret ?_ | refine gk_seqret ?_ | refine gk_seqexit ?_ | refine gk_blockret ?_ | refine gk_out ?_ | refine gk_loopret ?_ | refine gk_loopexit ?_ | refine gq_nil ?_) | (with_reducible refine gc_drq ?_; intro _) | (show GO _ _ _ _ _ (⟨some _, none, .call _ _⟩ :: _) _; first | (show GO _ _ _ _ _ (⟨some _, none, .call fn_spec_places _⟩ :: _) _; refine go_calln rfl code_spec_places.callable (fun H hH => specPlaces_ok (hH.ints (by exact Has.auto)) (by omega)) ?_; intro u)) | (show GO _ _ _ _ _ (⟨some _, none, _⟩ :: _) _; first | refine go_op (hk := ?_) | (refine go_nw (hk := ?_); intro u; try simp only [List.length_cons, List.length_nil, List.nil_append, Nat.zero_add]) | (refine go_np (hk := ?_); intro id)) | (show GQ _ _ _ _ _ _ _ (⟨some _, none, _⟩ :: _) _; first | refine gq_op (hk := ?_) | (refine gq_nw (hk := ?_); intro u; try simp only [List.length_cons, List.length_nil, List.nil_append, Nat.zero_add])) | (show GO _ _ _ _ _ (⟨none, none, _⟩ :: _) _; refine go_st (hk := ?_)) | (show GO _ _ _ _ _ (⟨_, some _, _⟩ :: _) _; first | refine go_in (hk := ?_) | refine go_out (hk := ?_) | refine go_void (hk := ?_)) | (show GQ _ _ _ _ _ _ _ (⟨_, some _, _⟩ :: _) _; first | refine gq_in (hk := ?_) | refine gq_out (hk := ?_) | refine gq_void (hk := ?_)) | (show GK _ _ _ _ (blockK _ _ _); refine gk_past rfl ?_) | (show GC _ _ _ _ _ (.cond _ _ _) _; first | refine gc_yes (h1 := ?_) | refine gc_no (h1 := ?_))))
      exact gk_next (hk _)
  · have : i = xs.length := by omega
    subst this
    (repeat (first | with_reducible (first | refine go_nil ?_ | refine gk_seq ?_ | refine gc_seq ?_ | refine gc_reg ?_ | refine gc_skip ?_ | refine gk_block ?_ | refine gc_block ?_ | refine gc_exit ?_ | refine gc_ret ?_ | refine gk_seqret ?_ | refine gk_seqexit ?_ | refine gk_blockret ?_ | refine gk_out ?_ | refine gk_loopret ?_ | refine gk_loopexit ?_ | refine gq_nil ?_) | (with_reducible refine gc_drq ?_; intro _) | (show GO _ _ _ _ _ (⟨some _, none, .call _ _⟩ :: _) _; first | (show GO _ _ _ _ _ (⟨some _, none, .call fn_spec_places _⟩ :: _) _; refine go_calln rfl code_spec_places.callable (fun H hH => specPlaces_ok (hH.ints (by exact Has.auto)) (by omega)) ?_; intro u)) | (show GO _ _ _ _ _ (⟨some _, none, _⟩ :: _) _; first | refine go_op (hk := ?_) | (refine go_nw (hk := ?_); intro u; try simp only [List.length_cons, List.length_nil, List.nil_append, Nat.zero_add]) | (refine go_np (hk := ?_); intro id)) | (show GQ _ _ _ _ _ _ _ (⟨some _, none, _⟩ :: _) _; first | refine gq_op (hk := ?_) | (refine gq_nw (hk := ?_); intro u; try simp only [List.length_cons, List.length_nil, List.nil_append, Nat.zero_add])) | (show GO _ _ _ _ _ (⟨none, none, _⟩ :: _) _; refine go_st (hk := ?_)) | (show GO _ _ _ _ _ (⟨_, some _, _⟩ :: _) _; first | refine go_in (hk := ?_) | refine go_out (hk := ?_) | refine go_void (hk := ?_)) | (show GQ _ _ _ _ _ _ _ (⟨_, some _, _⟩ :: _) _; first | refine gq_in (hk := ?_) | refine gq_out (hk := ?_) | refine gq_void (hk := ?_)) | (show GK _ _ _ _ (blockK _ _ _); refine gk_past rfl ?_) | (show GC _ _ _ _ _ (.cond _ _ _) _; first | refine gc_yes (h1 := ?_) | refine gc_no (h1 := ?_))))
    refine gk_ret rfl fun H' hH => ?_
    rw [OwnI, upL, tabZ_len]
    exact hH.give .head

theorem specStepUp_ok {H : Heap} {a : AV} {xs : List Int} (ha : Ints H a xs) (hl : xs.length ≤ 2000000) : ACalls Try.prog fn_spec_StepUp [a] H fun r H' => OwnI H H' r (upX xs) ∧ Le H H' := by
  refine code_spec_StepUp.go [.roI a xs.length xs] ⟨⟨rfl, ha⟩, trivial⟩ (by simp) ?_
  unfold mc_spec_StepUp
  (repeat (first | with_reducible (first | refine go_nil ?_ | refine gk_seq ?_ | refine gc_seq ?_ | refine gc_reg ?_ | refine gc_skip ?_ | refine gk_block ?_ | refine gc_block ?_ | refine gc_exit ?_ | refine gc_ret ?_ | refine gk_seqret ?_ | refine gk_seqexit ?_ | refine gk_blockret ?_ | refine gk_out ?_ | refine gk_loopret ?_ | refine gk_loopexit ?_) | (show GO _ _ _ _ _ (⟨some _, none, .call _ _⟩ :: _) _; first | (show GO _ _ _ _ _ (⟨some _, none, .call fn_spec_validOdds _⟩ :: _) _; refine go_callp rfl code_spec_validOdds.callable (fun H hH => specValidOdds0_ok (hH.ints (by exact Has.auto)) (by omega)) ?_) | (show GO _ _ _ _ _ (⟨some _, none, .call fn_spec_stepUp _⟩ :: _) _; refine go_calln rfl code_spec_stepUp.callable (fun H hH => specStepUp0_ok (hH.ints (by exact Has.auto)) (by assumption)) ?_; intro u)) | (show GO _ _ _ _ _ (⟨some _, none, _⟩ :: _) _; first | refine go_op (hk := ?_) | (refine go_nw (hk := ?_); intro u; try simp only [List.length_cons, List.length_nil, List.nil_append, Nat.zero_add]) | (refine go_np (hk := ?_); intro id)) | (show GO _ _ _ _ _ (⟨none, none, _⟩ :: _) _; refine go_st (hk := ?_)) | (show GO _ _ _ _ _ (⟨_, some _, _⟩ :: _) _; first | refine go_in (hk := ?_) | refine go_out (hk := ?_) | refine go_void (hk := ?_)) | (show GK _ _ _ _ (blockK _ _ _); refine gk_past rfl ?_) | (show GC _ _ _ _ _ (.cond _ _ _) _; first | refine gc_yes (h1 := ?_) | refine gc_no (h1 := ?_))))
  refine gc_cond rfl (fun h => ?_) (fun h => ?_)
  · (repeat (first | with_reducible (first | refine go_nil ?_ | refine gk_seq ?_ | refine gc_seq ?_ | refine gc_reg ?_ | refine gc_skip ?_ | refine gk_block ?_ | refine gc_block ?_ | refine gc_exit ?_ | refine gc_ret ?_ | refine gk_seqret ?_ | refine gk_seqexit ?_ | refine gk_blockret ?_ | refine gk_out ?_ | refine gk_loopret ?_ | refine gk_loopexit ?_) | (show GO _ _ _ _ _ (⟨some _, none, .call _ _⟩ :: _) _; first | (show GO _ _ _ _ _ (⟨some _, none, .call fn_spec_validOdds _⟩ :: _) _; refine go_callp rfl code_spec_validOdds.callable (fun H hH => specValidOdds0_ok (hH.ints (by exact Has.auto)) (by omega)) ?_) | (show GO _ _ _ _ _ (⟨some _, none, .call fn_spec_stepUp _⟩ :: _) _; refine go_calln rfl code_spec_stepUp.callable (fun H hH => specStepUp0_ok (hH.ints (by exact Has.auto)) (by assumption)) ?_; intro u)) | (show GO _ _ _ _ _ (⟨some _, none, _⟩ :: _) _; first | refine go_op (hk := ?_) | (refine go_nw (hk := ?_); intro u; try simp only [List.length_cons, List.length_nil, List.nil_append, Nat.zero_add]) | (refine go_np (hk := ?_); intro id)) | (show GO _ _ _ _ _ (⟨none, none, _⟩ :: _) _; refine go_st (hk := ?_)) | (show GO _ _ _ _ _ (⟨_, some _, _⟩ :: _) _; first | refine go_in (hk := ?_) | refine go_out (hk := ?_) | refine go_void (hk := ?_)) | (show GK _ _ _ _ (blockK _ _ _); refine gk_past rfl ?_) | (show GC _ _ _ _ _ (.cond _ _ _) _; first | refine gc_yes (h1 := ?_) | refine gc_no (h1 := ?_))))
    exact gk_ret rfl fun H' hH => ⟨by rw [upX, if_neg h]; exact Own.nil _ _ _, hH.leE⟩
  have h := Decidable.not_not.1 h
  rw [upX, if_pos h]
  (repeat (first | with_reducible (first | refine go_nil ?_ | refine gk_seq ?_ | refine gc_seq ?_ | refine gc_reg ?_ | refine gc_skip ?_ | refine gk_block ?_ | refine gc_block ?_ | refine gc_exit ?_ | refine gc_ret ?_ | refine gk_seqret ?_ | refine gk_seqexit ?_ | refine gk_blockret ?_ | refine gk_out ?_ | refine gk_loopret ?_ | refine gk_loopexit ?_) | (show GO _ _ _ _ _ (⟨some _, none, .call _ _⟩ :: _) _; first | (show GO _ _ _ _ _ (⟨some _, none, .call fn_spec_validOdds _⟩ :: _) _; refine go_callp rfl code_spec_validOdds.callable (fun H hH => specValidOdds0_ok (hH.ints (by exact Has.auto)) (by omega)) ?_) | (show GO _ _ _ _ _ (⟨some _, none, .call fn_spec_stepUp _⟩ :: _) _; refine go_calln rfl code_spec_stepUp.callable (fun H hH => specStepUp0_ok (hH.ints (by exact Has.auto)) (by assumption)) ?_; intro u)) | (show GO _ _ _ _ _ (⟨some _, none, _⟩ :: _) _; first | refine go_op (hk := ?_) | (refine go_nw (hk := ?_); intro u; try simp only [List.length_cons, List.length_nil, List.nil_append, Nat.zero_add]) | (refine go_np (hk := ?_); intro id)) | (show GO _ _ _ _ _ (⟨none, none, _⟩ :: _) _; refine go_st (hk := ?_)) | (show GO _ _ _ _ _ (⟨_, some _, _⟩ :: _) _; first | refine go_in (hk := ?_) | refine go_out (hk := ?_) | refine go_void (hk := ?_)) | (show GK _ _ _ _ (blockK _ _ _); refine gk_past rfl ?_) | (show GC _ _ _ _ _ (.cond _ _ _) _; first | refine gc_yes (h1 := ?_) | refine gc_no (h1 := ?_))))
  refine gk_ret rfl fun H' hH => ?_
  exact hH.give .head

def bitN (x j : Nat) : Nat := x / 2 ^ j % 2

theorem bitN_lt (x j : Nat) : bitN x j < 2 := Nat.mod_lt _ (by decide)

/-- the numbers of a set -/
def selT (xs : List Int) (p : Nat) : Nat → List Int
  | 0 => []
  | i + 1 => if bitN p i = 1 then selT xs p i ++ [nth xs i] else selT xs p i

def selS (xs : List Int) (p : Nat) : List Int := sortL (selT xs p xs.length)

theorem selT_len (xs : List Int) (p : Nat) : ∀ i, (selT xs p i).length ≤ i
  | 0 => Nat.le_refl _
  | i + 1 => by
    have := selT_len xs p i
    rw [selT]
    split
    · rw [List.length_append]; simp; omega
    · omega

theorem selT_mem {xs : List Int} {p : Nat} {x : Int} : ∀ {i}, x ∈ selT xs p i → ∃ j, j < i ∧ bitN p j = 1 ∧ x = nth xs j
  | 0, h => by simp [selT] at h
  | i + 1, h => by
    rw [selT] at h
    split at h
    · rename_i hb
      rcases List.mem_append.1 h with h | h
      · obtain ⟨j, h1, h2⟩ := selT_mem h; exact ⟨j, by omega, h2⟩
      · exact ⟨i, by omega, hb, by simpa using h⟩
    · obtain ⟨j, h1, h2⟩ := selT_mem h; exact ⟨j, by omega, h2⟩

theorem selS_len (xs : List Int) (p : Nat) : (selS xs p).length ≤ xs.length := by rw [selS, sortL_length]; exact selT_len _ _ _

theorem selS_in {xs : List Int} (hx : OddsOk xs) {p i : Nat} (h : i < (selS xs p).length) : 0 ≤ nth (selS xs p) i ∧ nth (selS xs p) i ≤ 1000 := by
  have h1 := nth_mem h
  obtain ⟨j, h2, _, h3⟩ := selT_mem ((sortL_perm _).mem_iff.1 h1)
  rw [h3]
  exact hx.1 j h2

/-- found by its m-th number -/
def hdM (S : List Int) (lev : Int) (s : Bool) (m : Nat) : Prop := (s = true ∧ nth S m * (S.length : Int) ≤ lev * ((m + 1 : Nat) : Int)) ∨ nth S m * (S.length : Int) ≤ lev

instance (S : List Int) (lev : Int) (s : Bool) (m : Nat) : Decidable (hdM S lev s m) := by unfold hdM; exact inferInstance

def hdP (S : List Int) (lev : Int) (s : Bool) : Nat → Prop
  | 0 => False
  | m + 1 => hdP S lev s m ∨ hdM S lev s m

instance hdP_dec (S : List Int) (lev : Int) (s : Bool) : ∀ m, Decidable (hdP S lev s m)
  | 0 => .isFalse id
  | m + 1 => by
    have := hdP_dec S lev s m
    unfold hdP; exact inferInstance

/-- the set is found -/
def heldP (xs : List Int) (p : Nat) (lev : Int) (s : Bool) : Prop := hdP (selS xs p) lev s (selS xs p).length

instance (xs : List Int) (p : Nat) (lev : Int) (s : Bool) : Decidable (heldP xs p lev s) := by unfold heldP; exact inferInstance

/-- the i-th is found with all sets up to q that have it -/
def okP (xs : List Int) (lev : Int) (s : Bool) (i : Nat) : Nat → Prop
  | 0 => True
  | q + 1 => okP xs lev s i q ∧ (bitN (q + 1) i = 0 ∨ heldP xs (q + 1) lev s)

instance okP_dec (xs : List Int) (lev : Int) (s : Bool) (i : Nat) : ∀ q, Decidable (okP xs lev s i q)
  | 0 => .isTrue trivial
  | q + 1 => by
    have := okP_dec xs lev s i q
    unfold okP; exact inferInstance

def clT (xs : List Int) (lev : Int) (s : Bool) : Nat → List Int
  | 0 => []
  | i + 1 => if okP xs lev s i (2 ^ xs.length - 1) then clT xs lev s i ++ [(i : Int)] else clT xs lev s i

theorem clT_len (xs : List Int) (lev : Int) (s : Bool) : ∀ i, (clT xs lev s i).length ≤ i
  | 0 => Nat.le_refl _
  | i + 1 => by
    have := clT_len xs lev s i
    rw [clT]
    split
    · rw [List.length_append]; simp; omega
    · omega

theorem two_pow6 {n : Nat} (hn : n ≤ 6) : 1 ≤ 2 ^ n ∧ 2 ^ n ≤ 64 := ⟨Nat.two_pow_pos n, Nat.le_trans (Nat.pow_le_pow_right (by decide) hn) (by decide)⟩

/-- at most the level -/
def fdT (xs : List Int) (lev : Int) : Nat → List Int
  | 0 => []
  | i + 1 => if nth xs i ≤ lev then fdT xs lev i ++ [(i : Int)] else fdT xs lev i

abbrev FdOk (xs : List Int) (lev : Int) : Prop := OddsOk xs ∧ 0 ≤ lev ∧ lev ≤ 1000

def fdX (xs : List Int) (lev : Int) : List Int := if FdOk xs lev then fdT xs lev xs.length else []

theorem fdT_len (xs : List Int) (lev : Int) : ∀ i, (fdT xs lev i).length ≤ i
  | 0 => Nat.le_refl _
  | i + 1 => by
    have := fdT_len xs lev i
    rw [fdT]
    split
    · rw [List.length_append]; simp; omega
    · omega

def leastB : List UInt8 := [108, 101, 97, 115, 116]

def eachB : List UInt8 := [101, 97, 99, 104]

abbrev ClOk (xs : List Int) (lev : Int) (kd : List UInt8) : Prop := OddsOk xs ∧ (0 ≤ lev ∧ lev ≤ 1000) ∧ (kd = leastB ∨ kd = eachB)

def clX (xs : List Int) (lev : Int) (kd : List UInt8) : List Int := if ClOk xs lev kd then clT xs lev (decide (kd = eachB)) xs.length else []

theorem someOdds_ok {A : Heap} {X : List Nat} {S S0 : Sig} {H : Heap} {id p : Nat} {bv : AV} {bs : List Int} (hS : SOk A X S H.size H) (hs : Sel S (rdr id bv p) S0) (hR : SubF S0 [byt bv bs]) (hb : ByteOk bs) (hp : p ≤ 100000000) :
    ACalls Try.prog fn_spec_someOdds [.ptr id 0] H fun r H' => ∃ g : DG, r = g.u ∧ SOk A X (.rwI g.u g.xs.length g.xs :: rdr id bv g.q :: S0) H'.size H' ∧ g.xs.length ≤ 7 ∧ Bd 1001 g.xs ∧ g.q ≤ p + 40 := by
  refine code_spec_someOdds.gowg (V := DG.u) (T := fun g => [.rwI g.u g.xs.length g.xs]) (C := fun g => rdr id bv g.q) (Φ := fun g => g.xs.length ≤ 7 ∧ Bd 1001 g.xs ∧ g.q ≤ p + 40) hS hs rfl hR rfl (fun _ => rfl) (fun _ => rfl) (fun _ => rfl) (by simp) ?_
  intro X'
  unfold mc_spec_someOdds
  (repeat (first | with_reducible (first | refine go_nil ?_ | refine gk_seq ?_ | refine gc_seq ?_ | refine gc_reg ?_ | refine gc_skip ?_ | refine gk_block ?_ | refine gc_block ?_ | refine gc_exit ?_ | refine gc_ret ?_ | refine gk_seqret ?_ | refine gk_seqexit ?_ | refine gk_blockret ?_ | refine gk_out ?_ | refine gk_loopret ?_ | refine gk_loopexit ?_) | (show GO _ _ _ _ _ (⟨some _, none, .call _ _⟩ :: _) _; first | (show GO _ _ _ _ _ (⟨some _, none, .call fn_spec_reader_one _⟩ :: _) _; refine go_callg rfl code_spec_reader_one.callable (fun H hH => one_ok hH (by exact Sel.auto) (by exact SubF.auto) (by rfl) (by assumption) (by omega) (by first | omega | decide) (by first | omega | decide)) ?_; intro g hg) | (show GO _ _ _ _ _ (⟨some _, none, .call fn_spec_reader_pick _⟩ :: _) _; refine go_callg rfl code_spec_reader_pick.callable (fun H hH => pick_ok hH (by exact Sel.auto) (by exact SubF.auto) (by assumption) (by omega)) ?_; intro g hg)) | (show GO _ _ _ _ _ (⟨some _, none, _⟩ :: _) _; first | refine go_op (hk := ?_) | (refine go_nw (hk := ?_); intro u; try simp only [List.length_cons, List.length_nil, List.nil_append, Nat.zero_add]) | (refine go_np (hk := ?_); intro id)) | (show GO _ _ _ _ _ (⟨none, none, _⟩ :: _) _; refine go_st (hk := ?_)) | (show GO _ _ _ _ _ (⟨_, some _, _⟩ :: _) _; first | refine go_in (hk := ?_) | refine go_out (hk := ?_) | refine go_void (hk := ?_)) | (show GK _ _ _ _ (blockK _ _ _); refine gk_past rfl ?_) | (show GC _ _ _ _ _ (.cond _ _ _) _; first | refine gc_yes (h1 := ?_) | refine gc_no (h1 := ?_))))
  obtain ⟨most, rfl⟩ : ∃ z, z = g := ⟨g, rfl⟩
  have hmost : 0 ≤ most ∧ most ≤ 6 := by simp only [List.mem_cons, List.not_mem_nil, or_false] at hg; omega
  clear hg
  refine gc_loop (γ := DG) (fun g => [(0, .ptr id 0), (3, g.u), (4, .int .i64 most)]) (fun g => [.rwI g.u g.xs.length g.xs, rdr id bv g.q, byt bv bs]) (fun g => g.xs.length ≤ 6 ∧ Bd 1001 g.xs ∧ g.q ≤ p + 1 + 4 * g.xs.length) (fun g => 6 - g.xs.length) ⟨_, [], p + 1⟩ ⟨by simp, by simp [Bd], by simp⟩ (hb := ?_)
  intro g hg I ν m hn'
  obtain ⟨u, xs, q⟩ := g
  obtain ⟨h1, h2, h3⟩ := hg
  simp only at h1 h2 h3 hn' ⊢
  (repeat (first | with_reducible (first | refine go_nil ?_ | refine gk_seq ?_ | refine gc_seq ?_ | refine gc_reg ?_ | refine gc_skip ?_ | refine gk_block ?_ | refine gc_block ?_ | refine gc_exit ?_ | refine gc_ret ?_ | refine gk_seqret ?_ | refine gk_seqexit ?_ | refine gk_blockret ?_ | refine gk_out ?_ | refine gk_loopret ?_ | refine gk_loopexit ?_) | (show GO _ _ _ _ _ (⟨some _, none, .call _ _⟩ :: _) _; first | (show GO _ _ _ _ _ (⟨some _, none, .call fn_spec_reader_one _⟩ :: _) _; refine go_callg rfl code_spec_reader_one.callable (fun H hH => one_ok hH (by exact Sel.auto) (by exact SubF.auto) (by rfl) (by assumption) (by omega) (by first | omega | decide) (by first | omega | decide)) ?_; intro g hg) | (show GO _ _ _ _ _ (⟨some _, none, .call fn_spec_reader_pick _⟩ :: _) _; refine go_callg rfl code_spec_reader_pick.callable (fun H hH => pick_ok hH (by exact Sel.auto) (by exact SubF.auto) (by assumption) (by omega)) ?_; intro g hg)) | (show GO _ _ _ _ _ (⟨some _, none, _⟩ :: _) _; first | refine go_op (hk := ?_) | (refine go_nw (hk := ?_); intro u; try simp only [List.length_cons, List.length_nil, List.nil_append, Nat.zero_add]) | (refine go_np (hk := ?_); intro id)) | (show GO _ _ _ _ _ (⟨none, none, _⟩ :: _) _; refine go_st (hk := ?_)) | (show GO _ _ _ _ _ (⟨_, some _, _⟩ :: _) _; first | refine go_in (hk := ?_) | refine go_out (hk := ?_) | refine go_void (hk := ?_)) | (show GK _ _ _ _ (blockK _ _ _); refine gk_past rfl ?_) | (show GC _ _ _ _ _ (.cond _ _ _) _; first | refine gc_yes (h1 := ?_) | refine gc_no (h1 := ?_))))
  refine gc_cond rfl (fun h => ?_) (fun h => ?_)
  · (repeat (first | with_reducible (first | refine go_nil ?_ | refine gk_seq ?_ | refine gc_seq ?_ | refine gc_reg ?_ | refine gc_skip ?_ | refine gk_block ?_ | refine gc_block ?_ | refine gc_exit ?_ | refine gc_ret ?_ | refine gk_seqret ?_ | refine gk_seqexit ?_ | refine gk_blockret ?_ | refine gk_out ?_ | refine gk_loopret ?_ | refine gk_loopexit ?_) | (show GO _ _ _ _ _ (⟨some _, none, .call _ _⟩ :: _) _; first | (show GO _ _ _ _ _ (⟨some _, none, .call fn_spec_reader_one _⟩ :: _) _; refine go_callg rfl code_spec_reader_one.callable (fun H hH => one_ok hH (by exact Sel.auto) (by exact SubF.auto) (by rfl) (by assumption) (by omega) (by first | omega | decide) (by first | omega | decide)) ?_; intro g hg) | (show GO _ _ _ _ _ (⟨some _, none, .call fn_spec_reader_pick _⟩ :: _) _; refine go_callg rfl code_spec_reader_pick.callable (fun H hH => pick_ok hH (by exact Sel.auto) (by exact SubF.auto) (by assumption) (by omega)) ?_; intro g hg)) | (show GO _ _ _ _ _ (⟨some _, none, _⟩ :: _) _; first | refine go_op (hk := ?_) | (refine go_nw (hk := ?_); intro u; try simp only [List.length_cons, List.length_nil, List.nil_append, Nat.zero_add]) | (refine go_np (hk := ?_); intro id)) | (show GO _ _ _ _ _ (⟨none, none, _⟩ :: _) _; refine go_st (hk := ?_)) | (show GO _ _ _ _ _ (⟨_, some _, _⟩ :: _) _; first | refine go_in (hk := ?_) | refine go_out (hk := ?_) | refine go_void (hk := ?_)) | (show GK _ _ _ _ (blockK _ _ _); refine gk_past rfl ?_) | (show GC _ _ _ _ _ (.cond _ _ _) _; first | refine gc_yes (h1 := ?_) | refine gc_no (h1 := ?_))))
    have hx : -1001 ≤ g ∧ g ≤ 1001 := by
      simp only [List.mem_cons, List.not_mem_nil, or_false] at hg
      omega
    have hk := hn' ⟨u, xs ++ [g], q + 1 + 1 + 1 + 1⟩ ⟨by simp; omega, h2.app (Bd.one hx), by simp; omega⟩ (by simp; omega)
    simp only [List.length_append, List.length_cons, List.length_nil, Nat.zero_add] at hk
    exact gk_next hk
  · (repeat (first | with_reducible (first | refine go_nil ?_ | refine gk_seq ?_ | refine gc_seq ?_ | refine gc_reg ?_ | refine gc_skip ?_ | refine gk_block ?_ | refine gc_block ?_ | refine gc_exit ?_ | refine gc_ret ?_ | refine gk_seqret ?_ | refine gk_seqexit ?_ | refine gk_blockret ?_ | refine gk_out ?_ | refine gk_loopret ?_ | refine gk_loopexit ?_) | (show GO _ _ _ _ _ (⟨some _, none, .call _ _⟩ :: _) _; first | (show GO _ _ _ _ _ (⟨some _, none, .call fn_spec_reader_one _⟩ :: _) _; refine go_callg rfl code_spec_reader_one.callable (fun H hH => one_ok hH (by exact Sel.auto) (by exact SubF.auto) (by rfl) (by assumption) (by omega) (by first | omega | decide) (by first | omega | decide)) ?_; intro g hg) | (show GO _ _ _ _ _ (⟨some _, none, .call fn_spec_reader_pick _⟩ :: _) _; refine go_callg rfl code_spec_reader_pick.callable (fun H hH => pick_ok hH (by exact Sel.auto) (by exact SubF.auto) (by assumption) (by omega)) ?_; intro g hg)) | (show GO _ _ _ _ _ (⟨some _, none, _⟩ :: _) _; first | refine go_op (hk := ?_) | (refine go_nw (hk := ?_); intro u; try simp only [List.length_cons, List.length_nil, List.nil_append, Nat.zero_add]) | (refine go_np (hk := ?_); intro id)) | (show GO _ _ _ _ _ (⟨none, none, _⟩ :: _) _; refine go_st (hk := ?_)) | (show GO _ _ _ _ _ (⟨_, some _, _⟩ :: _) _; first | refine go_in (hk := ?_) | refine go_out (hk := ?_) | refine go_void (hk := ?_)) | (show GK _ _ _ _ (blockK _ _ _); refine gk_past rfl ?_) | (show GC _ _ _ _ _ (.cond _ _ _) _; first | refine gc_yes (h1 := ?_) | refine gc_no (h1 := ?_))))
    refine gc_cond rfl (fun h4 => ?_) (fun h4 => ?_)
    · (repeat (first | with_reducible (first | refine go_nil ?_ | refine gk_seq ?_ | refine gc_seq ?_ | refine gc_reg ?_ | refine gc_skip ?_ | refine gk_block ?_ | refine gc_block ?_ | refine gc_exit ?_ | refine gc_ret ?_ | refine gk_seqret ?_ | refine gk_seqexit ?_ | refine gk_blockret ?_ | refine gk_out ?_ | refine gk_loopret ?_ | refine gk_loopexit ?_) | (show GO _ _ _ _ _ (⟨some _, none, .call _ _⟩ :: _) _; first | (show GO _ _ _ _ _ (⟨some _, none, .call fn_spec_reader_one _⟩ :: _) _; refine go_callg rfl code_spec_reader_one.callable (fun H hH => one_ok hH (by exact Sel.auto) (by exact SubF.auto) (by rfl) (by assumption) (by omega) (by first | omega | decide) (by first | omega | decide)) ?_; intro g hg) | (show GO _ _ _ _ _ (⟨some _, none, .call fn_spec_reader_pick _⟩ :: _) _; refine go_callg rfl code_spec_reader_pick.callable (fun H hH => pick_ok hH (by exact Sel.auto) (by exact SubF.auto) (by assumption) (by omega)) ?_; intro g hg)) | (show GO _ _ _ _ _ (⟨some _, none, _⟩ :: _) _; first | refine go_op (hk := ?_) | (refine go_nw (hk := ?_); intro u; try simp only [List.length_cons, List.length_nil, List.nil_append, Nat.zero_add]) | (refine go_np (hk := ?_); intro id)) | (show GO _ _ _ _ _ (⟨none, none, _⟩ :: _) _; refine go_st (hk := ?_)) | (show GO _ _ _ _ _ (⟨_, some _, _⟩ :: _) _; first | refine go_in (hk := ?_) | refine go_out (hk := ?_) | refine go_void (hk := ?_)) | (show GK _ _ _ _ (blockK _ _ _); refine gk_past rfl ?_) | (show GC _ _ _ _ _ (.cond _ _ _) _; first | refine gc_yes (h1 := ?_) | refine gc_no (h1 := ?_))))
      have hx : -1001 ≤ g ∧ g ≤ 1001 := by simp only [List.mem_cons, List.not_mem_nil, or_false] at hg; omega
      refine gk_ret rfl fun H' hH => ⟨⟨_, xs ++ [g], q + 2⟩, rfl, ⟨by simp; omega, h2.app (Bd.one hx), by simp only; omega⟩, ?_⟩
      rw [show (xs ++ [g]).length = xs.length + 1 by simp]
      exact hH.sub (by exact Sub.auto)
    · (repeat (first | with_reducible (first | refine go_nil ?_ | refine gk_seq ?_ | refine gc_seq ?_ | refine gc_reg ?_ | refine gc_skip ?_ | refine gk_block ?_ | refine gc_block ?_ | refine gc_exit ?_ | refine gc_ret ?_ | refine gk_seqret ?_ | refine gk_seqexit ?_ | refine gk_blockret ?_ | refine gk_out ?_ | refine gk_loopret ?_ | refine gk_loopexit ?_) | (show GO _ _ _ _ _ (⟨some _, none, .call _ _⟩ :: _) _; first | (show GO _ _ _ _ _ (⟨some _, none, .call fn_spec_reader_one _⟩ :: _) _; refine go_callg rfl code_spec_reader_one.callable (fun H hH => one_ok hH (by exact Sel.auto) (by exact SubF.auto) (by rfl) (by assumption) (by omega) (by first | omega | decide) (by first | omega | decide)) ?_; intro g hg) | (show GO _ _ _ _ _ (⟨some _, none, .call fn_spec_reader_pick _⟩ :: _) _; refine go_callg rfl code_spec_reader_pick.callable (fun H hH => pick_ok hH (by exact Sel.auto) (by exact SubF.auto) (by assumption) (by omega)) ?_; intro g hg)) | (show GO _ _ _ _ _ (⟨some _, none, _⟩ :: _) _; first | refine go_op (hk := ?_) | (refine go_nw (hk := ?_); intro u; try simp only [List.length_cons, List.length_nil, List.nil_append, Nat.zero_add]) | (refine go_np (hk := ?_); intro id)) | (show GO _ _ _ _ _ (⟨none, none, _⟩ :: _) _; refine go_st (hk := ?_)) | (show GO _ _ _ _ _ (⟨_, some _, _⟩ :: _) _; first | refine go_in (hk := ?_) | refine go_out (hk := ?_) | refine go_void (hk := ?_)) | (show GK _ _ _ _ (blockK _ _ _); refine gk_past rfl ?_) | (show GC _ _ _ _ _ (.cond _ _ _) _; first | refine gc_yes (h1 := ?_) | refine gc_no (h1 := ?_))))
      exact gk_ret rfl fun H' hH => ⟨⟨_, xs, q + 1⟩, rfl, ⟨by simp only; omega, h2, by simp only; omega⟩, hH.sub (by exact Sub.auto)⟩

theorem drawStepUp_ok {A : Heap} {X : List Nat} {S : Sig} {H : Heap} {cv : AV} {bs : List Int} (hS : SOk A X S H.size H) (hh : Has S cv 1 bs.length (bytesL bs)) (hb : ∀ i, 0 ≤ nth bs i ∧ nth bs i ≤ 255) (hl : bs.length ≤ 1048576) :
    ACalls Try.prog fn_spec_DrawStepUp [cv] H fun r H' => ∃ g : DG, r = g.u ∧ SOk A X (.rwI g.u g.xs.length g.xs :: S) H'.size H' ∧ g.xs.length ≤ 7 ∧ Bd 1001 g.xs := by
  refine code_spec_DrawStepUp.gon (R := [byt cv bs]) (V := DG.u) (T := fun g => [.rwI g.u g.xs.length g.xs]) (Φ := fun g => g.xs.length ≤ 7 ∧ Bd 1001 g.xs) hS ⟨⟨rfl, hS.valsA hh⟩, trivial⟩ (fun _ => rfl) (by simp) ?_
  unfold mc_spec_DrawStepUp
  (repeat (first | with_reducible (first | refine go_nil ?_ | refine gk_seq ?_ | refine gc_seq ?_ | refine gc_reg ?_ | refine gc_skip ?_ | refine gk_block ?_ | refine gc_block ?_ | refine gc_exit ?_ | refine gc_ret ?_ | refine gk_seqret ?_ | refine gk_seqexit ?_ | refine gk_blockret ?_ | refine gk_out ?_ | refine gk_loopret ?_ | refine gk_loopexit ?_) | (show GO _ _ _ _ _ (⟨some _, none, .call _ _⟩ :: _) _; first | (show GO _ _ _ _ _ (⟨some _, none, .call fn_spec_newReader _⟩ :: _) _; refine go_callg rfl code_spec_newReader.callable (fun H hH => newReaderC_ok hH (c := ⟨.cell, .ptr _ 0, 4, 1, [_, _, _, _]⟩) Sel.head rfl (by exact Has.auto) (by assumption) (by omega)) ?_; intro g hg) | (show GO _ _ _ _ _ (⟨some _, none, .call fn_spec_newReader _⟩ :: _) _; refine go_callg rfl code_spec_newReader.callable (fun H hH => newReader_ok hH (by exact Has.auto) (by assumption) (by omega)) ?_; intro g hg) | (show GO _ _ _ _ _ (⟨some _, none, .call fn_spec_someOdds _⟩ :: _) _; refine go_callg rfl code_spec_someOdds.callable (fun H hH => someOdds_ok hH (by exact Sel.auto) (by exact SubF.auto) (by assumption) (by omega)) ?_; intro g hg)) | (show GO _ _ _ _ _ (⟨some _, none, _⟩ :: _) _; first | refine go_op (hk := ?_) | (refine go_nw (hk := ?_); intro u; try simp only [List.length_cons, List.length_nil, List.nil_append, Nat.zero_add]) | (refine go_np (hk := ?_); intro id)) | (show GO _ _ _ _ _ (⟨none, none, _⟩ :: _) _; refine go_st (hk := ?_)) | (show GO _ _ _ _ _ (⟨_, some _, _⟩ :: _) _; first | refine go_in (hk := ?_) | refine go_out (hk := ?_) | refine go_void (hk := ?_)) | (show GK _ _ _ _ (blockK _ _ _); refine gk_past rfl ?_) | (show GC _ _ _ _ _ (.cond _ _ _) _; first | refine gc_yes (h1 := ?_) | refine gc_no (h1 := ?_))))
  exact gk_ret rfl fun H' hH => ⟨g, rfl, ⟨hg.1, hg.2.1⟩, hH.sub (by exact Sub.auto)⟩

structure GK5 where
  u : AV
  xs : List Int
  lev : Int
  kd : List UInt8

abbrev GK5.v (g : GK5) : AV := .tuple [g.u, .int .i64 g.lev, .str g.kd]

theorem ahd_trans {xs : List Int} {i k j : Nat} (h1 : ahd xs i k) (h2 : ahd xs k j) : ahd xs i j := by
  unfold ahd at *
  omega

theorem ahd_irr {xs : List Int} {i : Nat} : ¬ ahd xs i i := by unfold ahd; omega

theorem ahd_tot {xs : List Int} {i k : Nat} (h : i ≠ k) : ahd xs i k ∨ ahd xs k i := by unfold ahd; omega

theorem sumN_lt {f g : Nat → Nat} {k : Nat} : ∀ n, k < n → (∀ j, j < n → f j ≤ g j) → f k < g k → sumN f n < sumN g n
  | 0, h, _, _ => by omega
  | n + 1, hk, h, hl => by
    simp only [sumN]
    by_cases e : k = n
    · subst e
      have := sumN_mono (f := f) (g := g) (n := k) fun j hj => h j (by omega)
      omega
    · have := sumN_lt n (by omega) (fun j hj => h j (by omega)) hl
      have := h n (by omega)
      omega

theorem sumN_ones : ∀ n, sumN (fun _ => 1) n = n
  | 0 => rfl
  | n + 1 => by simp only [sumN, sumN_ones n]

theorem pl_lt {xs : List Int} {i k : Nat} (hk : k < xs.length) (h : ahd xs i k) : plN xs k < plN xs i := by
  unfold plN plT
  refine sumN_lt _ hk (fun j _ => ?_) ?_
  · by_cases h1 : ahd xs k j
    · rw [if_pos h1, if_pos (ahd_trans h h1)]
      exact Nat.le_refl _
    · rw [if_neg h1]
      exact Nat.zero_le _
  · rw [if_neg ahd_irr, if_pos h]
    decide

theorem pl_iff {xs : List Int} {i k : Nat} (hi : i < xs.length) (hk : k < xs.length) : plN xs k < plN xs i ↔ ahd xs i k := by
  refine ⟨fun h => ?_, pl_lt hk⟩
  by_cases e : i = k
  · subst e; omega
  · rcases ahd_tot (xs := xs) e with h1 | h1
    · exact h1
    · have := pl_lt hi h1; omega

theorem pl_lt_n {xs : List Int} {i : Nat} (hi : i < xs.length) : plN xs i < xs.length := by
  have h := sumN_lt (f := fun k => if ahd xs i k then 1 else 0) (g := fun _ => 1) xs.length hi (fun j _ => by split <;> omega) (by rw [if_neg ahd_irr]; decide)
  rwa [sumN_ones] at h

theorem pl_le_val {xs : List Int} {i k : Nat} (hi : i < xs.length) (hk : k < xs.length) (h : plN xs k ≤ plN xs i) : nth xs k ≤ nth xs i := by
  have h1 : ¬ ahd xs k i := fun h2 => by have := pl_lt hi h2; omega
  unfold ahd at h1
  omega

theorem dnT_ge {xs : List Int} {i k : Nat} : ∀ {j}, k < j → plN xs k ≤ plN xs i → stV xs k ≤ dnT xs i j
  | 0, h, _ => by omega
  | j + 1, h, hp => by
    rw [dnT]
    by_cases e : k = j
    · subst e; rw [if_pos hp]; omega
    · have := dnT_ge (xs := xs) (i := i) (k := k) (j := j) (by omega) hp
      split <;> omega

theorem dnT_le {xs : List Int} {i : Nat} {B : Int} (hB : 0 ≤ B) : ∀ {j}, (∀ k, k < j → plN xs k ≤ plN xs i → stV xs k ≤ B) → dnT xs i j ≤ B
  | 0, _ => hB
  | j + 1, h => by
    have := dnT_le hB (j := j) fun k hk => h k (by omega)
    rw [dnT]
    split
    · rename_i hp; have := h j (by omega) hp; omega
    · exact this

theorem upT_le {xs : List Int} {i k : Nat} : ∀ {j}, k < j → plN xs i ≤ plN xs k → upT xs i j ≤ stV xs k
  | 0, h, _ => by omega
  | j + 1, h, hp => by
    rw [upT]
    by_cases e : k = j
    · subst e; rw [if_pos hp]; omega
    · have := upT_le (xs := xs) (i := i) (k := k) (j := j) (by omega) hp
      split <;> omega

theorem upT_hits {xs : List Int} {i : Nat} : ∀ j, upT xs i j = 1000 ∨ ∃ k, k < j ∧ plN xs i ≤ plN xs k ∧ upT xs i j = stV xs k
  | 0 => .inl rfl
  | j + 1 => by
    rw [upT]
    split
    · rename_i hp
      rcases upT_hits (xs := xs) (i := i) j with h | ⟨k, h1, h2, h3⟩
      · by_cases e : upT xs i j ≤ stV xs j
        · exact .inl (by omega)
        · exact .inr ⟨j, by omega, hp, by omega⟩
      · by_cases e : upT xs i j ≤ stV xs j
        · exact .inr ⟨k, by omega, h2, by omega⟩
        · exact .inr ⟨j, by omega, hp, by omega⟩
    · rcases upT_hits (xs := xs) (i := i) j with h | ⟨k, h1, h2, h3⟩
      · exact .inl h
      · exact .inr ⟨k, by omega, h2, h3⟩

theorem implValidOdd_ok {H : Heap} {x : Int} : ACalls Try.prog fn_impl_validOdd [.int .i64 x] H fun r H' => r = .bool (decide (0 ≤ x ∧ x ≤ 1000)) ∧ H' = H := by
  refine ACalls.val ?_ rfl
  refine code_impl_validOdd.go [] trivial (by simp) ?_
  unfold mc_impl_validOdd
  (repeat (first | with_reducible (first | refine go_nil ?_ | refine gk_seq ?_ | refine gc_seq ?_ | refine gc_reg ?_ | refine gc_skip ?_ | refine gk_block ?_ | refine gc_block ?_ | refine gc_exit ?_ | refine gc_ret ?_ | refine gk_seqret ?_ | refine gk_seqexit ?_ | refine gk_blockret ?_ | refine gk_out ?_ | refine gk_loopret ?_ | refine gk_loopexit ?_) | (show GO _ _ _ _ _ (⟨some _, none, _⟩ :: _) _; first | refine go_op (hk := ?_) | (refine go_nw (hk := ?_); intro u; try simp only [List.length_cons, List.length_nil, List.nil_append, Nat.zero_add]) | (refine go_np (hk := ?_); intro id)) | (show GO _ _ _ _ _ (⟨none, none, _⟩ :: _) _; refine go_st (hk := ?_)) | (show GO _ _ _ _ _ (⟨_, some _, _⟩ :: _) _; first | refine go_in (hk := ?_) | refine go_out (hk := ?_) | refine go_void (hk := ?_)) | (show GK _ _ _ _ (blockK _ _ _); refine gk_past rfl ?_) | (show GC _ _ _ _ _ (.cond _ _ _) _; first | refine gc_yes (h1 := ?_) | refine gc_no (h1 := ?_))))
  refine go_split 5 rfl (fun h => ?_) (fun h => ?_)
  · (repeat (first | with_reducible (first | refine go_nil ?_ | refine gk_seq ?_ | refine gc_seq ?_ | refine gc_reg ?_ | refine gc_skip ?_ | refine gk_block ?_ | refine gc_block ?_ | refine gc_exit ?_ | refine gc_ret ?_ | refine gk_seqret ?_ | refine gk_seqexit ?_ | refine gk_blockret ?_ | refine gk_out ?_ | refine gk_loopret ?_ | refine gk_loopexit ?_) | (show GO _ _ _ _ _ (⟨some _, none, _⟩ :: _) _; first | refine go_op (hk := ?_) | (refine go_nw (hk := ?_); intro u; try simp only [List.length_cons, List.length_nil, List.nil_append, Nat.zero_add]) | (refine go_np (hk := ?_); intro id)) | (show GO _ _ _ _ _ (⟨none, none, _⟩ :: _) _; refine go_st (hk := ?_)) | (show GO _ _ _ _ _ (⟨_, some _, _⟩ :: _) _; first | refine go_in (hk := ?_) | refine go_out (hk := ?_) | refine go_void (hk := ?_)) | (show GK _ _ _ _ (blockK _ _ _); refine gk_past rfl ?_) | (show GC _ _ _ _ _ (.cond _ _ _) _; first | refine gc_yes (h1 := ?_) | refine gc_no (h1 := ?_))))
    exact gk_ret rfl fun H' hH => ⟨bool_iff ⟨fun h2 => ⟨by omega, h2⟩, fun h2 => h2.2⟩, hH.leE⟩
  · (repeat (first | with_reducible (first | refine go_nil ?_ | refine gk_seq ?_ | refine gc_seq ?_ | refine gc_reg ?_ | refine gc_skip ?_ | refine gk_block ?_ | refine gc_block ?_ | refine gc_exit ?_ | refine gc_ret ?_ | refine gk_seqret ?_ | refine gk_seqexit ?_ | refine gk_blockret ?_ | refine gk_out ?_ | refine gk_loopret ?_ | refine gk_loopexit ?_) | (show GO _ _ _ _ _ (⟨some _, none, _⟩ :: _) _; first | refine go_op (hk := ?_) | (refine go_nw (hk := ?_); intro u; try simp only [List.length_cons, List.length_nil, List.nil_append, Nat.zero_add]) | (refine go_np (hk := ?_); intro id)) | (show GO _ _ _ _ _ (⟨none, none, _⟩ :: _) _; refine go_st (hk := ?_)) | (show GO _ _ _ _ _ (⟨_, some _, _⟩ :: _) _; first | refine go_in (hk := ?_) | refine go_out (hk := ?_) | refine go_void (hk := ?_)) | (show GK _ _ _ _ (blockK _ _ _); refine gk_past rfl ?_) | (show GC _ _ _ _ _ (.cond _ _ _) _; first | refine gc_yes (h1 := ?_) | refine gc_no (h1 := ?_))))
    exact gk_ret rfl fun H' hH => ⟨bool_no (fun h2 => h (by omega)), hH.leE⟩

theorem implValidOdds_ok {H : Heap} {a : AV} {xs : List Int} (ha : Ints H a xs) (hl : xs.length ≤ 2000000) : ACalls Try.prog fn_impl_ValidOdds [a] H fun r H' => r = .bool (decide (OddsOk xs)) ∧ H' = H := by
  refine ACalls.val ?_ rfl
  refine code_impl_ValidOdds.go [.roI a xs.length xs] ⟨⟨rfl, ha⟩, trivial⟩ (by simp) ?_
  unfold mc_impl_ValidOdds
  (repeat (first | with_reducible (first | refine go_nil ?_ | refine gk_seq ?_ | refine gc_seq ?_ | refine gc_reg ?_ | refine gc_skip ?_ | refine gk_block ?_ | refine gc_block ?_ | refine gc_exit ?_ | refine gc_ret ?_ | refine gk_seqret ?_ | refine gk_seqexit ?_ | refine gk_blockret ?_ | refine gk_out ?_ | refine gk_loopret ?_ | refine gk_loopexit ?_) | (show GO _ _ _ _ _ (⟨some _, none, .call _ _⟩ :: _) _; first | (show GO _ _ _ _ _ (⟨some _, none, .call fn_impl_validOdd _⟩ :: _) _; refine go_callp rfl code_impl_validOdd.callable (fun H hH => implValidOdd_ok) ?_)) | (show GO _ _ _ _ _ (⟨some _, none, _⟩ :: _) _; first | refine go_op (hk := ?_) | (refine go_nw (hk := ?_); intro u; try simp only [List.length_cons, List.length_nil, List.nil_append, Nat.zero_add]) | (refine go_np (hk := ?_); intro id)) | (show GO _ _ _ _ _ (⟨none, none, _⟩ :: _) _; refine go_st (hk := ?_)) | (show GO _ _ _ _ _ (⟨_, some _, _⟩ :: _) _; first | refine go_in (hk := ?_) | refine go_out (hk := ?_) | refine go_void (hk := ?_)) | (show GK _ _ _ _ (blockK _ _ _); refine gk_past rfl ?_) | (show GC _ _ _ _ _ (.cond _ _ _) _; first | refine gc_yes (h1 := ?_) | refine gc_no (h1 := ?_))))
  refine go_split 8 rfl (fun h1 => ?_) (fun h1 => ?_)
  · (repeat (first | with_reducible (first | refine go_nil ?_ | refine gk_seq ?_ | refine gc_seq ?_ | refine gc_reg ?_ | refine gc_skip ?_ | refine gk_block ?_ | refine gc_block ?_ | refine gc_exit ?_ | refine gc_ret ?_ | refine gk_seqret ?_ | refine gk_seqexit ?_ | refine gk_blockret ?_ | refine gk_out ?_ | refine gk_loopret ?_ | refine gk_loopexit ?_) | (show GO _ _ _ _ _ (⟨some _, none, .call _ _⟩ :: _) _; first | (show GO _ _ _ _ _ (⟨some _, none, .call fn_impl_validOdd _⟩ :: _) _; refine go_callp rfl code_impl_validOdd.callable (fun H hH => implValidOdd_ok) ?_)) | (show GO _ _ _ _ _ (⟨some _, none, _⟩ :: _) _; first | refine go_op (hk := ?_) | (refine go_nw (hk := ?_); intro u; try simp only [List.length_cons, List.length_nil, List.nil_append, Nat.zero_add]) | (refine go_np (hk := ?_); intro id)) | (show GO _ _ _ _ _ (⟨none, none, _⟩ :: _) _; refine go_st (hk := ?_)) | (show GO _ _ _ _ _ (⟨_, some _, _⟩ :: _) _; first | refine go_in (hk := ?_) | refine go_out (hk := ?_) | refine go_void (hk := ?_)) | (show GK _ _ _ _ (blockK _ _ _); refine gk_past rfl ?_) | (show GC _ _ _ _ _ (.cond _ _ _) _; first | refine gc_yes (h1 := ?_) | refine gc_no (h1 := ?_))))
    exact gk_ret rfl fun H' hH => ⟨bool_no (fun h => by have := h.2; omega), hH.leE⟩
  (repeat (first | with_reducible (first | refine go_nil ?_ | refine gk_seq ?_ | refine gc_seq ?_ | refine gc_reg ?_ | refine gc_skip ?_ | refine gk_block ?_ | refine gc_block ?_ | refine gc_exit ?_ | refine gc_ret ?_ | refine gk_seqret ?_ | refine gk_seqexit ?_ | refine gk_blockret ?_ | refine gk_out ?_ | refine gk_loopret ?_ | refine gk_loopexit ?_) | (show GO _ _ _ _ _ (⟨some _, none, .call _ _⟩ :: _) _; first | (show GO _ _ _ _ _ (⟨some _, none, .call fn_impl_validOdd _⟩ :: _) _; refine go_callp rfl code_impl_validOdd.callable (fun H hH => implValidOdd_ok) ?_)) | (show GO _ _ _ _ _ (⟨some _, none, _⟩ :: _) _; first | refine go_op (hk := ?_) | (refine go_nw (hk := ?_); intro u; try simp only [List.length_cons, List.length_nil, List.nil_append, Nat.zero_add]) | (refine go_np (hk := ?_); intro id)) | (show GO _ _ _ _ _ (⟨none, none, _⟩ :: _) _; refine go_st (hk := ?_)) | (show GO _ _ _ _ _ (⟨_, some _, _⟩ :: _) _; first | refine go_in (hk := ?_) | refine go_out (hk := ?_) | refine go_void (hk := ?_)) | (show GK _ _ _ _ (blockK _ _ _); refine gk_past rfl ?_) | (show GC _ _ _ _ _ (.cond _ _ _) _; first | refine gc_yes (h1 := ?_) | refine gc_no (h1 := ?_))))
  refine gc_cond rfl (fun h2 => ?_) (fun h2 => ?_)
  · (repeat (first | with_reducible (first | refine go_nil ?_ | refine gk_seq ?_ | refine gc_seq ?_ | refine gc_reg ?_ | refine gc_skip ?_ | refine gk_block ?_ | refine gc_block ?_ | refine gc_exit ?_ | refine gc_ret ?_ | refine gk_seqret ?_ | refine gk_seqexit ?_ | refine gk_blockret ?_ | refine gk_out ?_ | refine gk_loopret ?_ | refine gk_loopexit ?_) | (show GO _ _ _ _ _ (⟨some _, none, .call _ _⟩ :: _) _; first | (show GO _ _ _ _ _ (⟨some _, none, .call fn_impl_validOdd _⟩ :: _) _; refine go_callp rfl code_impl_validOdd.callable (fun H hH => implValidOdd_ok) ?_)) | (show GO _ _ _ _ _ (⟨some _, none, _⟩ :: _) _; first | refine go_op (hk := ?_) | (refine go_nw (hk := ?_); intro u; try simp only [List.length_cons, List.length_nil, List.nil_append, Nat.zero_add]) | (refine go_np (hk := ?_); intro id)) | (show GO _ _ _ _ _ (⟨none, none, _⟩ :: _) _; refine go_st (hk := ?_)) | (show GO _ _ _ _ _ (⟨_, some _, _⟩ :: _) _; first | refine go_in (hk := ?_) | refine go_out (hk := ?_) | refine go_void (hk := ?_)) | (show GK _ _ _ _ (blockK _ _ _); refine gk_past rfl ?_) | (show GC _ _ _ _ _ (.cond _ _ _) _; first | refine gc_yes (h1 := ?_) | refine gc_no (h1 := ?_))))
    exact gk_ret rfl fun H' hH => ⟨bool_no (fun h => by have := h.2; omega), hH.leE⟩
  (repeat (first | with_reducible (first | refine go_nil ?_ | refine gk_seq ?_ | refine gc_seq ?_ | refine gc_reg ?_ | refine gc_skip ?_ | refine gk_block ?_ | refine gc_block ?_ | refine gc_exit ?_ | refine gc_ret ?_ | refine gk_seqret ?_ | refine gk_seqexit ?_ | refine gk_blockret ?_ | refine gk_out ?_ | refine gk_loopret ?_ | refine gk_loopexit ?_) | (show GO _ _ _ _ _ (⟨some _, none, .call _ _⟩ :: _) _; first | (show GO _ _ _ _ _ (⟨some _, none, .call fn_impl_validOdd _⟩ :: _) _; refine go_callp rfl code_impl_validOdd.callable (fun H hH => implValidOdd_ok) ?_)) | (show GO _ _ _ _ _ (⟨some _, none, _⟩ :: _) _; first | refine go_op (hk := ?_) | (refine go_nw (hk := ?_); intro u; try simp only [List.length_cons, List.length_nil, List.nil_append, Nat.zero_add]) | (refine go_np (hk := ?_); intro id)) | (show GO _ _ _ _ _ (⟨none, none, _⟩ :: _) _; refine go_st (hk := ?_)) | (show GO _ _ _ _ _ (⟨_, some _, _⟩ :: _) _; first | refine go_in (hk := ?_) | refine go_out (hk := ?_) | refine go_void (hk := ?_)) | (show GK _ _ _ _ (blockK _ _ _); refine gk_past rfl ?_) | (show GC _ _ _ _ _ (.cond _ _ _) _; first | refine gc_yes (h1 := ?_) | refine gc_no (h1 := ?_))))
  refine gc_loop (γ := Nat) (fun i => [(13, a), (14, .int .i64 (xs.length : Int)), (15, .int .i64 (i : Int))]) (fun _ => [.roI a xs.length xs]) (fun i => i ≤ xs.length ∧ ∀ j, j < i → 0 ≤ nth xs j ∧ nth xs j ≤ 1000) (fun i => xs.length - i) 0 ⟨Nat.zero_le _, fun j hj => by omega⟩ (hb := ?_)
  rintro i ⟨hi, hall⟩ I ν m hk
  (repeat (first | with_reducible (first | refine go_nil ?_ | refine gk_seq ?_ | refine gc_seq ?_ | refine gc_reg ?_ | refine gc_skip ?_ | refine gk_block ?_ | refine gc_block ?_ | refine gc_exit ?_ | refine gc_ret ?_ | refine gk_seqret ?_ | refine gk_seqexit ?_ | refine gk_blockret ?_ | refine gk_out ?_ | refine gk_loopret ?_ | refine gk_loopexit ?_) | (show GO _ _ _ _ _ (⟨some _, none, .call _ _⟩ :: _) _; first | (show GO _ _ _ _ _ (⟨some _, none, .call fn_impl_validOdd _⟩ :: _) _; refine go_callp rfl code_impl_validOdd.callable (fun H hH => implValidOdd_ok) ?_)) | (show GO _ _ _ _ _ (⟨some _, none, _⟩ :: _) _; first | refine go_op (hk := ?_) | (refine go_nw (hk := ?_); intro u; try simp only [List.length_cons, List.length_nil, List.nil_append, Nat.zero_add]) | (refine go_np (hk := ?_); intro id)) | (show GO _ _ _ _ _ (⟨none, none, _⟩ :: _) _; refine go_st (hk := ?_)) | (show GO _ _ _ _ _ (⟨_, some _, _⟩ :: _) _; first | refine go_in (hk := ?_) | refine go_out (hk := ?_) | refine go_void (hk := ?_)) | (show GK _ _ _ _ (blockK _ _ _); refine gk_past rfl ?_) | (show GC _ _ _ _ _ (.cond _ _ _) _; first | refine gc_yes (h1 := ?_) | refine gc_no (h1 := ?_))))
  refine gc_cond rfl (fun h => ?_) (fun h => ?_)
  · (repeat (first | with_reducible (first | refine go_nil ?_ | refine gk_seq ?_ | refine gc_seq ?_ | refine gc_reg ?_ | refine gc_skip ?_ | refine gk_block ?_ | refine gc_block ?_ | refine gc_exit ?_ | refine gc_ret ?_ | refine gk_seqret ?_ | refine gk_seqexit ?_ | refine gk_blockret ?_ | refine gk_out ?_ | refine gk_loopret ?_ | refine gk_loopexit ?_) | (show GO _ _ _ _ _ (⟨some _, none, .call _ _⟩ :: _) _; first | (show GO _ _ _ _ _ (⟨some _, none, .call fn_impl_validOdd _⟩ :: _) _; refine go_callp rfl code_impl_validOdd.callable (fun H hH => implValidOdd_ok) ?_)) | (show GO _ _ _ _ _ (⟨some _, none, _⟩ :: _) _; first | refine go_op (hk := ?_) | (refine go_nw (hk := ?_); intro u; try simp only [List.length_cons, List.length_nil, List.nil_append, Nat.zero_add]) | (refine go_np (hk := ?_); intro id)) | (show GO _ _ _ _ _ (⟨none, none, _⟩ :: _) _; refine go_st (hk := ?_)) | (show GO _ _ _ _ _ (⟨_, some _, _⟩ :: _) _; first | refine go_in (hk := ?_) | refine go_out (hk := ?_) | refine go_void (hk := ?_)) | (show GK _ _ _ _ (blockK _ _ _); refine gk_past rfl ?_) | (show GC _ _ _ _ _ (.cond _ _ _) _; first | refine gc_yes (h1 := ?_) | refine gc_no (h1 := ?_))))
    refine gc_cond rfl (fun h3 => ?_) (fun h3 => ?_)
    · (repeat (first | with_reducible (first | refine go_nil ?_ | refine gk_seq ?_ | refine gc_seq ?_ | refine gc_reg ?_ | refine gc_skip ?_ | refine gk_block ?_ | refine gc_block ?_ | refine gc_exit ?_ | refine gc_ret ?_ | refine gk_seqret ?_ | refine gk_seqexit ?_ | refine gk_blockret ?_ | refine gk_out ?_ | refine gk_loopret ?_ | refine gk_loopexit ?_) | (show GO _ _ _ _ _ (⟨some _, none, .call _ _⟩ :: _) _; first | (show GO _ _ _ _ _ (⟨some _, none, .call fn_impl_validOdd _⟩ :: _) _; refine go_callp rfl code_impl_validOdd.callable (fun H hH => implValidOdd_ok) ?_)) | (show GO _ _ _ _ _ (⟨some _, none, _⟩ :: _) _; first | refine go_op (hk := ?_) | (refine go_nw (hk := ?_); intro u; try simp only [List.length_cons, List.length_nil, List.nil_append, Nat.zero_add]) | (refine go_np (hk := ?_); intro id)) | (show GO _ _ _ _ _ (⟨none, none, _⟩ :: _) _; refine go_st (hk := ?_)) | (show GO _ _ _ _ _ (⟨_, some _, _⟩ :: _) _; first | refine go_in (hk := ?_) | refine go_out (hk := ?_) | refine go_void (hk := ?_)) | (show GK _ _ _ _ (blockK _ _ _); refine gk_past rfl ?_) | (show GC _ _ _ _ _ (.cond _ _ _) _; first | refine gc_yes (h1 := ?_) | refine gc_no (h1 := ?_))))
      exact gk_ret rfl fun H' hH => ⟨bool_no (fun hc => h3 (hc.1 i (by omega))), hH.leE⟩
    · (repeat (first | with_reducible (first | refine go_nil ?_ | refine gk_seq ?_ | refine gc_seq ?_ | refine gc_reg ?_ | refine gc_skip ?_ | refine gk_block ?_ | refine gc_block ?_ | refine gc_exit ?_ | refine gc_ret ?_ | refine gk_seqret ?_ | refine gk_seqexit ?_ | refine gk_blockret ?_ | refine gk_out ?_ | refine gk_loopret ?_ | refine gk_loopexit ?_) | (show GO _ _ _ _ _ (⟨some _, none, .call _ _⟩ :: _) _; first | (show GO _ _ _ _ _ (⟨some _, none, .call fn_impl_validOdd _⟩ :: _) _; refine go_callp rfl code_impl_validOdd.callable (fun H hH => implValidOdd_ok) ?_)) | (show GO _ _ _ _ _ (⟨some _, none, _⟩ :: _) _; first | refine go_op (hk := ?_) | (refine go_nw (hk := ?_); intro u; try simp only [List.length_cons, List.length_nil, List.nil_append, Nat.zero_add]) | (refine go_np (hk := ?_); intro id)) | (show GO _ _ _ _ _ (⟨none, none, _⟩ :: _) _; refine go_st (hk := ?_)) | (show GO _ _ _ _ _ (⟨_, some _, _⟩ :: _) _; first | refine go_in (hk := ?_) | refine go_out (hk := ?_) | refine go_void (hk := ?_)) | (show GK _ _ _ _ (blockK _ _ _); refine gk_past rfl ?_) | (show GC _ _ _ _ _ (.cond _ _ _) _; first | refine gc_yes (h1 := ?_) | refine gc_no (h1 := ?_))))
      have h3 := Decidable.not_not.1 h3
      exact gk_next (hk (i + 1) ⟨by omega, fun j hj => by
        by_cases e : j = i
        · subst e; exact h3
        · exact hall j (by omega)⟩ (by omega))
  · have : i = xs.length := by omega
    subst this
    (repeat (first | with_reducible (first | refine go_nil ?_ | refine gk_seq ?_ | refine gc_seq ?_ | refine gc_reg ?_ | refine gc_skip ?_ | refine gk_block ?_ | refine gc_block ?_ | refine gc_exit ?_ | refine gc_ret ?_ | refine gk_seqret ?_ | refine gk_seqexit ?_ | refine gk_blockret ?_ | refine gk_out ?_ | refine gk_loopret ?_ | refine gk_loopexit ?_) | (show GO _ _ _ _ _ (⟨some _, none, .call _ _⟩ :: _) _; first | (show GO _ _ _ _ _ (⟨some _, none, .call fn_impl_validOdd _⟩ :: _) _; refine go_callp rfl code_impl_validOdd.callable (fun H hH => implValidOdd_ok) ?_)) | (show GO _ _ _ _ _ (⟨some _, none, _⟩ :: _) _; first | refine go_op (hk := ?_) | (refine go_nw (hk := ?_); intro u; try simp only [List.length_cons, List.length_nil, List.nil_append, Nat.zero_add]) | (refine go_np (hk := ?_); intro id)) | (show GO _ _ _ _ _ (⟨none, none, _⟩ :: _) _; refine go_st (hk := ?_)) | (show GO _ _ _ _ _ (⟨_, some _, _⟩ :: _) _; first | refine go_in (hk := ?_) | refine go_out (hk := ?_) | refine go_void (hk := ?_)) | (show GK _ _ _ _ (blockK _ _ _); refine gk_past rfl ?_) | (show GC _ _ _ _ _ (.cond _ _ _) _; first | refine gc_yes (h1 := ?_) | refine gc_no (h1 := ?_))))
    exact gk_ret rfl fun H' hH => ⟨bool_yes ⟨hall, by omega, by omega⟩, hH.leE⟩

end Go.Rx.Try
