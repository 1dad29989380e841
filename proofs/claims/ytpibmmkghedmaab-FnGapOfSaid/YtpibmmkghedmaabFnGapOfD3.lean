import Derived.Test.YtpibmmkghedmaabFnGapOfD2
namespace Go.Rx.Try
open Go.Proofs
set_option maxRecDepth 100000
set_option maxHeartbeats 8000000
set_option linter.unusedSimpArgs false
set_option linter.unusedVariables false

theorem specGap_ok {H : Heap} {a b : AV} {xs ys : List Int} (ha : Ints H a xs) (hb : Ints H b ys) (hl : xs.length + ys.length ≤ 10) :
    ACalls Try.prog fn_spec_gap [a, b] H fun r H' => r = .int .i64 (gapL xs ys) ∧ H' = H := by
  refine ACalls.val ?_ rfl
  refine code_spec_gap.go [.roI a xs.length xs, .roI b ys.length ys] ⟨⟨rfl, ha⟩, ⟨rfl, hb⟩, trivial⟩ (by simp) ?_
  unfold mc_spec_gap
  (repeat (first | with_reducible (first | refine go_nil ?_ | refine gk_seq ?_ | refine gc_seq ?_ | refine gc_reg ?_ | refine gc_skip ?_ | refine gk_block ?_ | refine gc_block ?_ | refine gc_exit ?_ | refine gc_ret ?_ | refine gk_seqret ?_ | refine gk_seqexit ?_ | refine gk_blockret ?_ | refine gk_out ?_ | refine gk_loopret ?_ | refine gk_loopexit ?_ | refine gq_nil ?_) | (with_reducible refine gc_drq ?_; intro _) | (show GO _ _ _ _ _ (⟨some _, none, _⟩ :: _) _; first | refine go_op (hk := ?_) | (refine go_nw (hk := ?_); intro u; try simp only [List.length_cons, List.length_nil, List.nil_append, Nat.zero_add]) | (refine go_np (hk := ?_); intro id)) | (show GQ _ _ _ _ _ _ _ (⟨some _, none, _⟩ :: _) _; first | refine gq_op (hk := ?_) | (refine gq_nw (hk := ?_); intro u; try simp only [List.length_cons, List.length_nil, List.nil_append, Nat.zero_add])) | (show GO _ _ _ _ _ (⟨none, none, _⟩ :: _) _; refine go_st (hk := ?_)) | (show GO _ _ _ _ _ (⟨_, some _, _⟩ :: _) _; first | refine go_in (hk := ?_) | refine go_out (hk := ?_) | refine go_void (hk := ?_)) | (show GQ _ _ _ _ _ _ _ (⟨_, some _, _⟩ :: _) _; first | refine gq_in (hk := ?_) | refine gq_out (hk := ?_) | refine gq_void (hk := ?_)) | (show GK _ _ _ _ (blockK _ _ _); refine gk_past rfl ?_) | (show GC _ _ _ _ _ (.cond _ _ _) _; first | refine gc_yes (h1 := ?_) | refine gc_no (h1 := ?_))))
  refine gc_up (xs.length + ys.length) (fun i => [(0, a), (1, b), (5, .int .i64 (gapT xs ys i)), (6, u), (7, .int .i64 (i : Int))]) (fun _ => [.rwI u (xs.length + ys.length) (xs ++ ys), .roI a xs.length xs, .roI b ys.length ys]) (hb := ?_)
  intro i hi I ν m hk
  have g1 := gapT_in xs ys (by omega) (by omega) i
  have g2 := gapV_in xs ys (nth (xs ++ ys) i) (by omega) (by omega)
  (repeat (first | with_reducible (first | refine go_nil ?_ | refine gk_seq ?_ | refine gc_seq ?_ | refine gc_reg ?_ | refine gc_skip ?_ | refine gk_block ?_ | refine gc_block ?_ | refine gc_exit ?_ | refine gc_ret ?_ | refine gk_seqret ?_ | refine gk_seqexit ?_ | refine gk_blockret ?_ | refine gk_out ?_ | refine gk_loopret ?_ | refine gk_loopexit ?_ | refine gq_nil ?_) | (with_reducible refine gc_drq ?_; intro _) | (show GO _ _ _ _ _ (⟨some _, none, _⟩ :: _) _; first | refine go_op (hk := ?_) | (refine go_nw (hk := ?_); intro u; try simp only [List.length_cons, List.length_nil, List.nil_append, Nat.zero_add]) | (refine go_np (hk := ?_); intro id)) | (show GQ _ _ _ _ _ _ _ (⟨some _, none, _⟩ :: _) _; first | refine gq_op (hk := ?_) | (refine gq_nw (hk := ?_); intro u; try simp only [List.length_cons, List.length_nil, List.nil_append, Nat.zero_add])) | (show GO _ _ _ _ _ (⟨none, none, _⟩ :: _) _; refine go_st (hk := ?_)) | (show GO _ _ _ _ _ (⟨_, some _, _⟩ :: _) _; first | refine go_in (hk := ?_) | refine go_out (hk := ?_) | refine go_void (hk := ?_)) | (show GQ _ _ _ _ _ _ _ (⟨_, some _, _⟩ :: _) _; first | refine gq_in (hk := ?_) | refine gq_out (hk := ?_) | refine gq_void (hk := ?_)) | (show GK _ _ _ _ (blockK _ _ _); refine gk_past rfl ?_) | (show GC _ _ _ _ _ (.cond _ _ _) _; first | refine gc_yes (h1 := ?_) | refine gc_no (h1 := ?_))))
  refine gc_cond rfl (fun h => ?_) (fun h => ?_)
  · have hk := hk (by omega)
    (repeat (first | with_reducible (first | refine go_nil ?_ | refine gk_seq ?_ | refine gc_seq ?_ | refine gc_reg ?_ | refine gc_skip ?_ | refine gk_block ?_ | refine gc_block ?_ | refine gc_exit ?_ | refine gc_ret ?_ | refine gk_seqret ?_ | refine gk_seqexit ?_ | refine gk_blockret ?_ | refine gk_out ?_ | refine gk_loopret ?_ | refine gk_loopexit ?_ | refine gq_nil ?_) | (show GO _ _ _ _ _ (⟨some _, none, _⟩ :: _) _; first | refine go_op (hk := ?_) | (refine go_nw (hk := ?_); intro u; try simp only [List.length_cons, List.length_nil, List.nil_append, Nat.zero_add]) | (refine go_np (hk := ?_); intro id)) | (show GQ _ _ _ _ _ _ _ (⟨some _, none, _⟩ :: _) _; first | refine gq_op (hk := ?_) | (refine gq_nw (hk := ?_); intro u; try simp only [List.length_cons, List.length_nil, List.nil_append, Nat.zero_add])) | (show GO _ _ _ _ _ (⟨none, none, _⟩ :: _) _; refine go_st (hk := ?_)) | (show GO _ _ _ _ _ (⟨_, some _, _⟩ :: _) _; first | refine go_in (hk := ?_) | refine go_out (hk := ?_) | refine go_void (hk := ?_)) | (show GQ _ _ _ _ _ _ _ (⟨_, some _, _⟩ :: _) _; first | refine gq_in (hk := ?_) | refine gq_out (hk := ?_) | refine gq_void (hk := ?_)) | (show GK _ _ _ _ (blockK _ _ _); refine gk_past rfl ?_) | (show GC _ _ _ _ _ (.cond _ _ _) _; first | refine gc_yes (h1 := ?_) | refine gc_no (h1 := ?_))))
    refine gc_drqt (fun H => qtTab [(fn_spec_upTo, dUp H)]) (fun H hH => qtTab_cons dUp_ok qtTab_nil) (fun H0 => ?_)
    (repeat (first | with_reducible (first | refine go_nil ?_ | refine gk_seq ?_ | refine gc_seq ?_ | refine gc_reg ?_ | refine gc_skip ?_ | refine gk_block ?_ | refine gc_block ?_ | refine gc_exit ?_ | refine gc_ret ?_ | refine gk_seqret ?_ | refine gk_seqexit ?_ | refine gk_blockret ?_ | refine gk_out ?_ | refine gk_loopret ?_ | refine gk_loopexit ?_ | refine gq_nil ?_) | (show GO _ _ _ _ _ (⟨some _, none, _⟩ :: _) _; first | refine go_op (hk := ?_) | (refine go_nw (hk := ?_); intro u; try simp only [List.length_cons, List.length_nil, List.nil_append, Nat.zero_add]) | (refine go_np (hk := ?_); intro id)) | (show GQ _ _ _ _ _ _ _ (⟨some _, none, _⟩ :: _) _; first | refine gq_op (hk := ?_) | (refine gq_nw (hk := ?_); intro u; try simp only [List.length_cons, List.length_nil, List.nil_append, Nat.zero_add])) | (show GO _ _ _ _ _ (⟨none, none, _⟩ :: _) _; refine go_st (hk := ?_)) | (show GO _ _ _ _ _ (⟨_, some _, _⟩ :: _) _; first | refine go_in (hk := ?_) | refine go_out (hk := ?_) | refine go_void (hk := ?_)) | (show GQ _ _ _ _ _ _ _ (⟨_, some _, _⟩ :: _) _; first | refine gq_in (hk := ?_) | refine gq_out (hk := ?_) | refine gq_void (hk := ?_)) | (show GK _ _ _ _ (blockK _ _ _); refine gk_past rfl ?_) | (show GC _ _ _ _ _ (.cond _ _ _) _; first | refine gc_yes (h1 := ?_) | refine gc_no (h1 := ?_))))
    refine gq_call rfl (fun hH => dUp_is (hH.ints (by exact Has.auto)) (by omega)) ?_
    (repeat (first | with_reducible (first | refine go_nil ?_ | refine gk_seq ?_ | refine gc_seq ?_ | refine gc_reg ?_ | refine gc_skip ?_ | refine gk_block ?_ | refine gc_block ?_ | refine gc_exit ?_ | refine gc_ret ?_ | refine gk_seqret ?_ | refine gk_seqexit ?_ | refine gk_blockret ?_ | refine gk_out ?_ | refine gk_loopret ?_ | refine gk_loopexit ?_ | refine gq_nil ?_) | (show GO _ _ _ _ _ (⟨some _, none, _⟩ :: _) _; first | refine go_op (hk := ?_) | (refine go_nw (hk := ?_); intro u; try simp only [List.length_cons, List.length_nil, List.nil_append, Nat.zero_add]) | (refine go_np (hk := ?_); intro id)) | (show GQ _ _ _ _ _ _ _ (⟨some _, none, _⟩ :: _) _; first | refine gq_op (hk := ?_) | (refine gq_nw (hk := ?_); intro u; try simp only [List.length_cons, List.length_nil, List.nil_append, Nat.zero_add])) | (show GO _ _ _ _ _ (⟨none, none, _⟩ :: _) _; refine go_st (hk := ?_)) | (show GO _ _ _ _ _ (⟨_, some _, _⟩ :: _) _; first | refine go_in (hk := ?_) | refine go_out (hk := ?_) | refine go_void (hk := ?_)) | (show GQ _ _ _ _ _ _ _ (⟨_, some _, _⟩ :: _) _; first | refine gq_in (hk := ?_) | refine gq_out (hk := ?_) | refine gq_void (hk := ?_)) | (show GK _ _ _ _ (blockK _ _ _); refine gk_past rfl ?_) | (show GC _ _ _ _ _ (.cond _ _ _) _; first | refine gc_yes (h1 := ?_) | refine gc_no (h1 := ?_))))
    refine gq_call rfl (fun hH => dUp_is (hH.ints (by exact Has.auto)) (by omega)) ?_
    (repeat (first | with_reducible (first | refine go_nil ?_ | refine gk_seq ?_ | refine gc_seq ?_ | refine gc_reg ?_ | refine gc_skip ?_ | refine gk_block ?_ | refine gc_block ?_ | refine gc_exit ?_ | refine gc_ret ?_ | refine gk_seqret ?_ | refine gk_seqexit ?_ | refine gk_blockret ?_ | refine gk_out ?_ | refine gk_loopret ?_ | refine gk_loopexit ?_ | refine gq_nil ?_) | (show GO _ _ _ _ _ (⟨some _, none, _⟩ :: _) _; first | refine go_op (hk := ?_) | (refine go_nw (hk := ?_); intro u; try simp only [List.length_cons, List.length_nil, List.nil_append, Nat.zero_add]) | (refine go_np (hk := ?_); intro id)) | (show GQ _ _ _ _ _ _ _ (⟨some _, none, _⟩ :: _) _; first | refine gq_op (hk := ?_) | (refine gq_nw (hk := ?_); intro u; try simp only [List.length_cons, List.length_nil, List.nil_append, Nat.zero_add])) | (show GO _ _ _ _ _ (⟨none, none, _⟩ :: _) _; refine go_st (hk := ?_)) | (show GO _ _ _ _ _ (⟨_, some _, _⟩ :: _) _; first | refine go_in (hk := ?_) | refine go_out (hk := ?_) | refine go_void (hk := ?_)) | (show GQ _ _ _ _ _ _ _ (⟨_, some _, _⟩ :: _) _; first | refine gq_in (hk := ?_) | refine gq_out (hk := ?_) | refine gq_void (hk := ?_)) | (show GK _ _ _ _ (blockK _ _ _); refine gk_past rfl ?_) | (show GC _ _ _ _ _ (.cond _ _ _) _; first | refine gc_yes (h1 := ?_) | refine gc_no (h1 := ?_))))
    exact gk_next hk
  · have : i = xs.length + ys.length := by omega
    subst this
    (repeat (first | with_reducible (first | refine go_nil ?_ | refine gk_seq ?_ | refine gc_seq ?_ | refine gc_reg ?_ | refine gc_skip ?_ | refine gk_block ?_ | refine gc_block ?_ | refine gc_exit ?_ | refine gc_ret ?_ | refine gk_seqret ?_ | refine gk_seqexit ?_ | refine gk_blockret ?_ | refine gk_out ?_ | refine gk_loopret ?_ | refine gk_loopexit ?_ | refine gq_nil ?_) | (with_reducible refine gc_drq ?_; intro _) | (show GO _ _ _ _ _ (⟨some _, none, _⟩ :: _) _; first | refine go_op (hk := ?_) | (refine go_nw (hk := ?_); intro u; try simp only [List.length_cons, List.length_nil, List.nil_append, Nat.zero_add]) | (refine go_np (hk := ?_); intro id)) | (show GQ _ _ _ _ _ _ _ (⟨some _, none, _⟩ :: _) _; first | refine gq_op (hk := ?_) | (refine gq_nw (hk := ?_); intro u; try simp only [List.length_cons, List.length_nil, List.nil_append, Nat.zero_add])) | (show GO _ _ _ _ _ (⟨none, none, _⟩ :: _) _; refine go_st (hk := ?_)) | (show GO _ _ _ _ _ (⟨_, some _, _⟩ :: _) _; first | refine go_in (hk := ?_) | refine go_out (hk := ?_) | refine go_void (hk := ?_)) | (show GQ _ _ _ _ _ _ _ (⟨_, some _, _⟩ :: _) _; first | refine gq_in (hk := ?_) | refine gq_out (hk := ?_) | refine gq_void (hk := ?_)) | (show GK _ _ _ _ (blockK _ _ _); refine gk_past rfl ?_) | (show GC _ _ _ _ _ (.cond _ _ _) _; first | refine gc_yes (h1 := ?_) | refine gc_no (h1 := ?_))))
    exact gk_ret rfl fun H' hH => ⟨rfl, hH.leE⟩

noncomputable def goA (xs ys : List Int) : Int := if Samples xs ys then gapL xs ys else -1

theorem specGapOf_ok {H : Heap} {a b : AV} {xs ys : List Int} (ha : Ints H a xs) (hb : Ints H b ys) (hl : xs.length ≤ 1000000000) (hl' : ys.length ≤ 1000000000) :
    ACalls Try.prog fn_spec_GapOf [a, b] H fun r H' => r = .int .i64 (goA xs ys) ∧ H' = H := by
  refine ACalls.val ?_ rfl
  refine code_spec_GapOf.go [.roI a xs.length xs, .roI b ys.length ys] ⟨⟨rfl, ha⟩, ⟨rfl, hb⟩, trivial⟩ (by simp) ?_
  unfold mc_spec_GapOf
  (repeat (first | with_reducible (first | refine go_nil ?_ | refine gk_seq ?_ | refine gc_seq ?_ | refine gc_reg ?_ | refine gc_skip ?_ | refine gk_block ?_ | refine gc_block ?_ | refine gc_exit ?_ | refine gc_ret ?_ | refine gk_seqret ?_ | refine gk_seqexit ?_ | refine gk_blockret ?_ | refine gk_out ?_ | refine gk_loopret ?_ | refine gk_loopexit ?_) | (show GO _ _ _ _ _ (⟨some _, none, .call _ _⟩ :: _) _; first | (show GO _ _ _ _ _ (⟨some _, none, .call fn_spec_validSamples _⟩ :: _) _; refine go_specSamples (hk := ?_); try intro u)) | (show GO _ _ _ _ _ (⟨some _, none, _⟩ :: _) _; first | refine go_op (hk := ?_) | (refine go_nw (hk := ?_); intro u; try simp only [List.length_cons, List.length_nil, List.nil_append, Nat.zero_add]) | (refine go_np (hk := ?_); intro id)) | (show GO _ _ _ _ _ (⟨none, none, _⟩ :: _) _; refine go_st (hk := ?_)) | (show GO _ _ _ _ _ (⟨_, some _, _⟩ :: _) _; first | refine go_in (hk := ?_) | refine go_out (hk := ?_) | refine go_void (hk := ?_)) | (show GK _ _ _ _ (blockK _ _ _); refine gk_past rfl ?_) | (show GC _ _ _ _ _ (.cond _ _ _) _; first | refine gc_yes (h1 := ?_) | refine gc_no (h1 := ?_))))
  refine gc_cond rfl (fun h => ?_) (fun h => ?_)
  · (repeat (first | with_reducible (first | refine go_nil ?_ | refine gk_seq ?_ | refine gc_seq ?_ | refine gc_reg ?_ | refine gc_skip ?_ | refine gk_block ?_ | refine gc_block ?_ | refine gc_exit ?_ | refine gc_ret ?_ | refine gk_seqret ?_ | refine gk_seqexit ?_ | refine gk_blockret ?_ | refine gk_out ?_ | refine gk_loopret ?_ | refine gk_loopexit ?_) | (show GO _ _ _ _ _ (⟨some _, none, .call _ _⟩ :: _) _; first | (show GO _ _ _ _ _ (⟨some _, none, .call fn_spec_validSamples _⟩ :: _) _; refine go_specSamples (hk := ?_); try intro u)) | (show GO _ _ _ _ _ (⟨some _, none, _⟩ :: _) _; first | refine go_op (hk := ?_) | (refine go_nw (hk := ?_); intro u; try simp only [List.length_cons, List.length_nil, List.nil_append, Nat.zero_add]) | (refine go_np (hk := ?_); intro id)) | (show GO _ _ _ _ _ (⟨none, none, _⟩ :: _) _; refine go_st (hk := ?_)) | (show GO _ _ _ _ _ (⟨_, some _, _⟩ :: _) _; first | refine go_in (hk := ?_) | refine go_out (hk := ?_) | refine go_void (hk := ?_)) | (show GK _ _ _ _ (blockK _ _ _); refine gk_past rfl ?_) | (show GC _ _ _ _ _ (.cond _ _ _) _; first | refine gc_yes (h1 := ?_) | refine gc_no (h1 := ?_))))
    exact gk_ret rfl fun H' hH => ⟨by simp [tupleOf, goA, h], hH.leE⟩
  have hs : Samples xs ys := Decidable.not_not.1 h
  (repeat (first | with_reducible (first | refine go_nil ?_ | refine gk_seq ?_ | refine gc_seq ?_ | refine gc_reg ?_ | refine gc_skip ?_ | refine gk_block ?_ | refine gc_block ?_ | refine gc_exit ?_ | refine gc_ret ?_ | refine gk_seqret ?_ | refine gk_seqexit ?_ | refine gk_blockret ?_ | refine gk_out ?_ | refine gk_loopret ?_ | refine gk_loopexit ?_) | (show GO _ _ _ _ _ (⟨some _, none, .call _ _⟩ :: _) _; first | (show GO _ _ _ _ _ (⟨some _, none, .call fn_spec_validSamples _⟩ :: _) _; refine go_specSamples (hk := ?_); try intro u)) | (show GO _ _ _ _ _ (⟨some _, none, _⟩ :: _) _; first | refine go_op (hk := ?_) | (refine go_nw (hk := ?_); intro u; try simp only [List.length_cons, List.length_nil, List.nil_append, Nat.zero_add]) | (refine go_np (hk := ?_); intro id)) | (show GO _ _ _ _ _ (⟨none, none, _⟩ :: _) _; refine go_st (hk := ?_)) | (show GO _ _ _ _ _ (⟨_, some _, _⟩ :: _) _; first | refine go_in (hk := ?_) | refine go_out (hk := ?_) | refine go_void (hk := ?_)) | (show GK _ _ _ _ (blockK _ _ _); refine gk_past rfl ?_) | (show GC _ _ _ _ _ (.cond _ _ _) _; first | refine gc_yes (h1 := ?_) | refine gc_no (h1 := ?_))))
  refine go_callp rfl code_spec_gap.callable (fun H hH => specGap_ok (hH.ints (by exact Has.auto)) (hH.ints (by exact Has.auto)) hs.2.1) ?_
  (repeat (first | with_reducible (first | refine go_nil ?_ | refine gk_seq ?_ | refine gc_seq ?_ | refine gc_reg ?_ | refine gc_skip ?_ | refine gk_block ?_ | refine gc_block ?_ | refine gc_exit ?_ | refine gc_ret ?_ | refine gk_seqret ?_ | refine gk_seqexit ?_ | refine gk_blockret ?_ | refine gk_out ?_ | refine gk_loopret ?_ | refine gk_loopexit ?_) | (show GO _ _ _ _ _ (⟨some _, none, .call _ _⟩ :: _) _; first | (show GO _ _ _ _ _ (⟨some _, none, .call fn_spec_validSamples _⟩ :: _) _; refine go_specSamples (hk := ?_); try intro u)) | (show GO _ _ _ _ _ (⟨some _, none, _⟩ :: _) _; first | refine go_op (hk := ?_) | (refine go_nw (hk := ?_); intro u; try simp only [List.length_cons, List.length_nil, List.nil_append, Nat.zero_add]) | (refine go_np (hk := ?_); intro id)) | (show GO _ _ _ _ _ (⟨none, none, _⟩ :: _) _; refine go_st (hk := ?_)) | (show GO _ _ _ _ _ (⟨_, some _, _⟩ :: _) _; first | refine go_in (hk := ?_) | refine go_out (hk := ?_) | refine go_void (hk := ?_)) | (show GK _ _ _ _ (blockK _ _ _); refine gk_past rfl ?_) | (show GC _ _ _ _ _ (.cond _ _ _) _; first | refine gc_yes (h1 := ?_) | refine gc_no (h1 := ?_))))
  exact gk_ret rfl fun H' hH => ⟨by simp [tupleOf, goA, hs], hH.leE⟩

theorem drawGapOf_ok {A : Heap} {X : List Nat} {S : Sig} {H : Heap} {cv : AV} {bs : List Int} (hS : SOk A X S H.size H) (hh : Has S cv 1 bs.length (bytesL bs)) (hb : ∀ i, 0 ≤ nth bs i ∧ nth bs i ≤ 255) (hl : bs.length ≤ 1048576) :
    ACalls Try.prog fn_spec_DrawGapOf [cv] H fun r H' => ∃ g : D2, r = .tuple [g.u, g.v] ∧ SOk A X (.rwI g.v g.ys.length g.ys :: .rwI g.u g.xs.length g.xs :: S) H'.size H' ∧ g.xs.length ≤ 21 ∧ Bd 1000 g.xs ∧ g.ys.length ≤ 21 ∧ Bd 1000 g.ys := by
  refine code_spec_DrawGapOf.gon (R := [byt cv bs]) (V := fun g : D2 => .tuple [g.u, g.v]) (T := fun g => [.rwI g.v g.ys.length g.ys, .rwI g.u g.xs.length g.xs]) (Φ := fun g => g.xs.length ≤ 21 ∧ Bd 1000 g.xs ∧ g.ys.length ≤ 21 ∧ Bd 1000 g.ys) hS ⟨⟨rfl, hS.valsA hh⟩, trivial⟩ (fun _ => rfl) (by simp) ?_
  unfold mc_spec_DrawGapOf
  (repeat (first | with_reducible (first | refine go_nil ?_ | refine gk_seq ?_ | refine gc_seq ?_ | refine gc_reg ?_ | refine gc_skip ?_ | refine gk_block ?_ | refine gc_block ?_ | refine gc_exit ?_ | refine gc_ret ?_ | refine gk_seqret ?_ | refine gk_seqexit ?_ | refine gk_blockret ?_ | refine gk_out ?_ | refine gk_loopret ?_ | refine gk_loopexit ?_) | (show GO _ _ _ _ _ (⟨some _, none, .call _ _⟩ :: _) _; first | (show GO _ _ _ _ _ (⟨some _, none, .call fn_spec_newReader _⟩ :: _) _; refine go_callg rfl code_spec_newReader.callable (fun H hH => newReaderC_ok hH (c := ⟨.cell, .ptr _ 0, 4, 1, [_, _, _, _]⟩) Sel.head rfl (by exact Has.auto) (by assumption) (by omega)) ?_; intro g hg) | (show GO _ _ _ _ _ (⟨some _, none, .call fn_spec_newReader _⟩ :: _) _; refine go_callg rfl code_spec_newReader.callable (fun H hH => newReader_ok hH (by exact Has.auto) (by assumption) (by omega)) ?_; intro g hg) | (show GO _ _ _ _ _ (⟨some _, none, .call fn_spec_twoSamples _⟩ :: _) _; refine go_callg rfl code_spec_twoSamples.callable (fun H hH => twoSamples_ok hH (by exact Sel.auto) (by exact SubF.auto) (by assumption) (by omega)) ?_; intro g hg)) | (show GO _ _ _ _ _ (⟨some _, none, _⟩ :: _) _; first | refine go_op (hk := ?_) | (refine go_nw (hk := ?_); intro u; try simp only [List.length_cons, List.length_nil, List.nil_append, Nat.zero_add]) | (refine go_np (hk := ?_); intro id)) | (show GO _ _ _ _ _ (⟨none, none, _⟩ :: _) _; refine go_st (hk := ?_)) | (show GO _ _ _ _ _ (⟨_, some _, _⟩ :: _) _; first | refine go_in (hk := ?_) | refine go_out (hk := ?_) | refine go_void (hk := ?_)) | (show GK _ _ _ _ (blockK _ _ _); refine gk_past rfl ?_) | (show GC _ _ _ _ _ (.cond _ _ _) _; first | refine gc_yes (h1 := ?_) | refine gc_no (h1 := ?_))))
  exact gk_ret rfl fun H' hH => ⟨g, rfl, ⟨hg.1, hg.2.1, hg.2.2.1, hg.2.2.2.1⟩, hH.sub (by exact Sub.auto)⟩

def DrOk (p : List Int × List Int) (B : Nat) : Prop := p.2.length = p.1.length ∧ p.1.length ≤ B ∧ ∀ x ∈ p.2, 0 ≤ x ∧ x ≤ (B : Int)

theorem DrOk.mono {p : List Int × List Int} {B C : Nat} (h : DrOk p B) (hc : B ≤ C) : DrOk p C := ⟨h.1, by have := h.2.1; omega, fun x hx => by have := h.2.2 x hx; omega⟩

theorem negL_app (xs ys : List Int) : negL (xs ++ ys) = negL xs ++ negL ys := by simp [negL]

theorem gmL_ge {xs : List Int} {j : Nat} (hj : j < xs.length) : nth xs j ≤ gmL xs := (gmT_is xs (xs.length - 1)).2 j (by omega)

theorem upN_cp (xs : List Int) (x : Int) : upN xs x = xs.countP fun y => decide (y ≤ x) := by
  have key : ∀ j, j ≤ xs.length → upNT xs x j = (xs.take j).countP fun y => decide (y ≤ x) := by
    intro j
    induction j with
    | zero => intro _; rfl
    | succ j ih =>
      intro hj
      have := ih (by omega)
      rw [take_snoc (by omega), List.countP_append, List.countP_singleton, ← this]
      simp only [upNT, sumN]
      by_cases h : nth xs j ≤ x
      · rw [if_pos h, if_pos (by simpa using h)]
      · rw [if_neg h, if_neg (by simpa using h)]
  have := key xs.length (Nat.le_refl _)
  rwa [List.take_length] at this

theorem gapT_ge {xs ys : List Int} : ∀ {j i}, i < j → gapV xs ys (nth (xs ++ ys) i) ≤ gapT xs ys j ∧ -gapV xs ys (nth (xs ++ ys) i) ≤ gapT xs ys j
  | 0, i, h => by omega
  | j + 1, i, h => by
    rw [gapT]
    by_cases e : i = j
    · subst e; omega
    · have := gapT_ge (xs := xs) (ys := ys) (j := j) (i := i) (by omega); omega

theorem gapL_ge {xs ys : List Int} {z : Int} (h : z ∈ xs ++ ys) : gapV xs ys z ≤ gapL xs ys ∧ -gapV xs ys z ≤ gapL xs ys := by
  obtain ⟨i, hi, rfl⟩ := List.mem_iff_getElem.1 h
  rw [← nth_of hi]
  exact gapT_ge (by rw [List.length_append] at hi; exact hi)

theorem gapT_le {xs ys : List Int} {B : Int} (hB : 0 ≤ B) (h : ∀ z ∈ xs ++ ys, gapV xs ys z ≤ B ∧ -gapV xs ys z ≤ B) : ∀ j, j ≤ xs.length + ys.length → gapT xs ys j ≤ B
  | 0, _ => hB
  | j + 1, hj => by
    have h1 := gapT_le hB h j (by omega)
    have h2 := h _ (nth_mem (xs := xs ++ ys) (i := j) (by rw [List.length_append]; omega))
    rw [gapT]; omega

theorem gapL_le {xs ys : List Int} {B : Int} (hB : 0 ≤ B) (h : ∀ z ∈ xs ++ ys, gapV xs ys z ≤ B ∧ -gapV xs ys z ≤ B) : gapL xs ys ≤ B := gapT_le hB h _ (Nat.le_refl _)

theorem gapT_pos (xs ys : List Int) : ∀ j, 0 ≤ gapT xs ys j
  | 0 => Int.le_refl _
  | j + 1 => by have := gapT_pos xs ys j; rw [gapT]; omega

theorem gapL_pos (xs ys : List Int) : 0 ≤ gapL xs ys := gapT_pos _ _ _

theorem gapL_hits {xs ys : List Int} (h : 0 < gapL xs ys) : ∃ z ∈ xs ++ ys, gapL xs ys = gapV xs ys z ∨ gapL xs ys = -gapV xs ys z := by
  refine Classical.byContradiction fun hc => ?_
  have h2 : gapL xs ys ≤ gapL xs ys - 1 := gapL_le (by omega) fun z hz => by
    have h3 := gapL_ge hz
    have h4 : ¬ (gapL xs ys = gapV xs ys z ∨ gapL xs ys = -gapV xs ys z) := fun h => hc ⟨z, hz, h⟩
    omega
  omega

theorem gapV_swap (xs ys : List Int) (z : Int) : gapV ys xs z = - gapV xs ys z := by unfold gapV; omega

theorem gap_swap_le (xs ys : List Int) : gapL ys xs ≤ gapL xs ys := gapL_le (gapL_pos _ _) fun z hz => by
  have := gapL_ge (xs := xs) (ys := ys) (z := z) (by
    rcases List.mem_append.1 hz with h | h
    · exact List.mem_append_right _ h
    · exact List.mem_append_left _ h)
  rw [gapV_swap]; omega

theorem gapL_swap (xs ys : List Int) : gapL ys xs = gapL xs ys := Int.le_antisymm (gap_swap_le _ _) (gap_swap_le _ _)

/-- the greatest one below -/
theorem below_max (w : Int) : ∀ l : List Int, (∀ x ∈ l, ¬ x < w) ∨ ∃ w' ∈ l, w' < w ∧ ∀ x ∈ l, x < w → x ≤ w'
  | [] => .inl (by simp)
  | y :: l => by
    by_cases hy : y < w
    · right
      rcases below_max w l with h | ⟨w', h1, h2, h3⟩
      · exact ⟨y, by simp, hy, fun x hx hxw => by
          rcases List.mem_cons.1 hx with rfl | hx
          · exact Int.le_refl _
          · exact absurd hxw (h x hx)⟩
      · by_cases h4 : y ≤ w'
        · exact ⟨w', by simp [h1], h2, fun x hx hxw => by
            rcases List.mem_cons.1 hx with rfl | hx
            · exact h4
            · exact h3 x hx hxw⟩
        · exact ⟨y, by simp, hy, fun x hx hxw => by
            rcases List.mem_cons.1 hx with rfl | hx
            · exact Int.le_refl _
            · have := h3 x hx hxw; omega⟩
    · rcases below_max w l with h | ⟨w', h1, h2, h3⟩
      · exact .inl fun x hx => by
          rcases List.mem_cons.1 hx with rfl | hx
          · exact hy
          · exact h x hx
      · exact .inr ⟨w', by simp [h1], h2, fun x hx hxw => by
          rcases List.mem_cons.1 hx with rfl | hx
          · exact absurd hxw hy
          · exact h3 x hx hxw⟩

theorem up_neg (xs : List Int) (w : Int) : upN (negL xs) (-w) + xs.countP (fun y => decide (y < w)) = xs.length := by
  rw [upN_cp, negL, List.countP_map]
  have h := List.length_eq_countP_add_countP (fun y => decide (y < w)) (l := xs)
  have e : xs.countP ((fun y => decide (y ≤ -w)) ∘ (fun x => -x)) = xs.countP (fun a => decide ¬ (decide (a < w)) = true) := by
    refine List.countP_congr fun x _ => ?_
    simp only [Function.comp, decide_eq_true_eq]
    omega
  rw [e]
  omega

theorem gap_neg_le (xs ys : List Int) : gapL (negL xs) (negL ys) ≤ gapL xs ys := by
  refine gapL_le (gapL_pos _ _) fun z hz => ?_
  obtain ⟨w, hw, rfl⟩ : ∃ w ∈ xs ++ ys, z = -w := by
    rw [← negL_app, negL] at hz
    obtain ⟨w, h1, h2⟩ := List.mem_map.1 hz
    exact ⟨w, h1, h2.symm⟩
  have h1 := up_neg xs w
  have h2 := up_neg ys w
  have e : gapV (negL xs) (negL ys) (-w) = -(((xs.countP (fun y => decide (y < w)) : Nat) : Int) * ys.length - ((ys.countP (fun y => decide (y < w)) : Nat) : Int) * xs.length) := by
    unfold gapV
    rw [negL_length, negL_length]
    have e1 : ((upN (negL xs) (-w) : Nat) : Int) = xs.length - ((xs.countP (fun y => decide (y < w)) : Nat) : Int) := by omega
    have e2 : ((upN (negL ys) (-w) : Nat) : Int) = ys.length - ((ys.countP (fun y => decide (y < w)) : Nat) : Int) := by omega
    rw [e1, e2, Int.sub_mul, Int.sub_mul, Int.mul_comm (ys.length : Int) xs.length]
    omega
  rcases below_max w (xs ++ ys) with h | ⟨w', h3, h4, h5⟩
  · have c1 : xs.countP (fun y => decide (y < w)) = 0 := List.countP_eq_zero.2 fun x hx => by simpa using h x (List.mem_append_left _ hx)
    have c2 : ys.countP (fun y => decide (y < w)) = 0 := List.countP_eq_zero.2 fun x hx => by simpa using h x (List.mem_append_right _ hx)
    have := gapL_pos xs ys
    rw [e, c1, c2]
    simp only [Int.natCast_zero, Int.zero_mul]
    omega
  · have c1 : xs.countP (fun y => decide (y < w)) = upN xs w' := by
      rw [upN_cp]
      refine List.countP_congr fun x hx => ?_
      have := h5 x (List.mem_append_left _ hx)
      simp only [decide_eq_true_eq]; omega
    have c2 : ys.countP (fun y => decide (y < w)) = upN ys w' := by
      rw [upN_cp]
      refine List.countP_congr fun x hx => ?_
      have := h5 x (List.mem_append_right _ hx)
      simp only [decide_eq_true_eq]; omega
    have := gapL_ge h3
    rw [e, c1, c2]
    unfold gapV at this
    omega

theorem negL_negL (xs : List Int) : negL (negL xs) = xs := by
  unfold negL
  rw [List.map_map]
  have : ((fun x : Int => -x) ∘ fun x => -x) = id := by funext x; simp
  rw [this, List.map_id]

theorem gapL_neg (xs ys : List Int) : gapL (negL xs) (negL ys) = gapL xs ys := by
  refine Int.le_antisymm (gap_neg_le _ _) ?_
  have := gap_neg_le (negL xs) (negL ys)
  rwa [negL_negL, negL_negL] at this

theorem gap_le_mul (xs ys : List Int) : gapL xs ys ≤ (xs.length : Int) * ys.length := by
  refine gapL_le (Int.mul_nonneg (by omega) (by omega)) fun z _ => ?_
  have h1 := upN_le xs z
  have h2 := upN_le ys z
  have m1 := Int.mul_le_mul_of_nonneg_right (show ((upN xs z : Nat) : Int) ≤ xs.length by omega) (show (0 : Int) ≤ ys.length by omega)
  have m2 := Int.mul_le_mul_of_nonneg_right (show ((upN ys z : Nat) : Int) ≤ ys.length by omega) (show (0 : Int) ≤ xs.length by omega)
  have m3 := Int.mul_nonneg (show (0 : Int) ≤ ((upN xs z : Nat) : Int) by omega) (show (0 : Int) ≤ ys.length by omega)
  have m4 := Int.mul_nonneg (show (0 : Int) ≤ ((upN ys z : Nat) : Int) by omega) (show (0 : Int) ≤ xs.length by omega)
  have m5 := Int.mul_comm (ys.length : Int) xs.length
  unfold gapV
  omega

theorem gap_full {xs ys : List Int} {z : Int} (hx : 0 < xs.length) (hy : 0 < ys.length) (h : gapV xs ys z = (xs.length : Int) * ys.length) : (∀ x ∈ xs, x ≤ z) ∧ ∀ y ∈ ys, z < y := by
  have h1 := upN_le xs z
  have m1 : upN xs z * ys.length ≤ xs.length * ys.length := Nat.mul_le_mul_right _ h1
  have h2 : upN xs z * ys.length = xs.length * ys.length ∧ upN ys z * xs.length = 0 := by
    unfold gapV at h
    have e1 : ((upN xs z : Nat) : Int) * (ys.length : Int) = ((upN xs z * ys.length : Nat) : Int) := by simp
    have e2 : ((upN ys z : Nat) : Int) * (xs.length : Int) = ((upN ys z * xs.length : Nat) : Int) := by simp
    have e3 : (xs.length : Int) * (ys.length : Int) = ((xs.length * ys.length : Nat) : Int) := by simp
    omega
  have h3 : upN xs z = xs.length := Nat.eq_of_mul_eq_mul_right hy h2.1
  have h4 : upN ys z = 0 := by
    rcases Nat.mul_eq_zero.1 h2.2 with h | h
    · exact h
    · omega
  rw [upN_cp] at h3 h4
  refine ⟨fun x hx => by simpa using List.countP_eq_length.1 h3 x hx, fun y hy => ?_⟩
  have := List.countP_eq_zero.1 h4 y hy
  simp only [decide_eq_true_eq] at this
  omega

theorem gmL_mem {xs : List Int} (h : 0 < xs.length) : gmL xs ∈ xs := by
  obtain ⟨⟨j, h1, h2⟩, _⟩ := gmT_is xs (xs.length - 1)
  unfold gmL
  rw [← h2]
  exact nth_mem (by omega)

theorem gmL_ge' {xs : List Int} {x : Int} (h : x ∈ xs) : x ≤ gmL xs := by
  obtain ⟨i, hi, rfl⟩ := List.mem_iff_getElem.1 h
  rw [← nth_of hi]
  exact gmL_ge hi

theorem lt_min {xs ys : List Int} (hx : 0 < xs.length) (hy : 0 < ys.length) : gmL xs < -gmL (negL ys) ↔ ∀ x ∈ xs, ∀ y ∈ ys, x < y := by
  constructor
  · intro h x hx y hy
    have h1 := gmL_ge' hx
    have h2 : -y ≤ gmL (negL ys) := gmL_ge' (by unfold negL; exact List.mem_map.2 ⟨y, hy, rfl⟩)
    omega
  · intro h
    have h1 := gmL_mem hx
    have h2 := gmL_mem (xs := negL ys) (by rw [negL_length]; exact hy)
    unfold negL at h2
    obtain ⟨y, hy, h3⟩ := List.mem_map.1 h2
    have := h _ h1 y hy
    unfold negL
    omega

theorem gap_apart1 {xs ys : List Int} (hx : 0 < xs.length) (hy : 0 < ys.length) (h : ∀ x ∈ xs, ∀ y ∈ ys, x < y) : gapL xs ys = (xs.length : Int) * ys.length := by
  refine Int.le_antisymm (gap_le_mul _ _) ?_
  have h1 := gapL_ge (xs := xs) (ys := ys) (z := gmL xs) (List.mem_append_left _ (gmL_mem hx))
  have c1 : upN xs (gmL xs) = xs.length := by rw [upN_cp]; exact List.countP_eq_length.2 fun x hx => by simpa using gmL_ge' hx
  have c2 : upN ys (gmL xs) = 0 := by
    rw [upN_cp]
    refine List.countP_eq_zero.2 fun y hy => ?_
    have := h _ (gmL_mem hx) y hy
    simp only [decide_eq_true_eq]; omega
  unfold gapV at h1
  rw [c1, c2] at h1
  simp only [Int.natCast_zero, Int.zero_mul] at h1
  omega

theorem gap_apart {xs ys : List Int} (hx : 0 < xs.length) (hy : 0 < ys.length) : gapL xs ys = (xs.length : Int) * ys.length ↔ (gmL xs < -gmL (negL ys) ∨ gmL ys < -gmL (negL xs)) := by
  rw [lt_min hx hy, lt_min hy hx]
  constructor
  · intro h
    have hp := Int.mul_pos (show (0 : Int) < xs.length by omega) (show (0 : Int) < ys.length by omega)
    obtain ⟨z, hz, h1 | h1⟩ := gapL_hits (xs := xs) (ys := ys) (by omega)
    · have h2 := gap_full hx hy (h1.symm.trans h)
      exact .inl fun x hx y hy => by have := h2.1 x hx; have := h2.2 y hy; omega
    · have h2 := gap_full (xs := ys) (ys := xs) (z := z) hy hx (by rw [gapV_swap, Int.mul_comm]; omega)
      exact .inr fun x hx y hy => by have := h2.1 x hx; have := h2.2 y hy; omega
  · rintro (h | h)
    · exact gap_apart1 hx hy h
    · rw [← gapL_swap, gap_apart1 hy hx h, Int.mul_comm]

/- no ties -/

theorem implApart_ok {H : Heap} {x y : Int} (hx : -1000 ≤ x ∧ x ≤ 1000) (hy : -1000 ≤ y ∧ y ≤ 1000) : ACalls Try.prog fn_impl_apart [.int .i64 x, .int .i64 y] H fun r H' => r = .int .i64 (max (x - y) (y - x)) ∧ H' = H := by
  refine ACalls.val ?_ rfl
  refine code_impl_apart.go [] trivial (by simp) ?_
  unfold mc_impl_apart
  (repeat (first | with_reducible (first | refine go_nil ?_ | refine gk_seq ?_ | refine gc_seq ?_ | refine gc_reg ?_ | refine gc_skip ?_ | refine gk_block ?_ | refine gc_block ?_ | refine gc_exit ?_ | refine gc_ret ?_ | refine gk_seqret ?_ | refine gk_seqexit ?_ | refine gk_blockret ?_ | refine gk_out ?_ | refine gk_loopret ?_ | refine gk_loopexit ?_) | (show GO _ _ _ _ _ (⟨some _, none, _⟩ :: _) _; first | refine go_op (hk := ?_) | (refine go_nw (hk := ?_); intro u; try simp only [List.length_cons, List.length_nil, List.nil_append, Nat.zero_add]) | (refine go_np (hk := ?_); intro id)) | (show GO _ _ _ _ _ (⟨none, none, _⟩ :: _) _; refine go_st (hk := ?_)) | (show GO _ _ _ _ _ (⟨_, some _, _⟩ :: _) _; first | refine go_in (hk := ?_) | refine go_out (hk := ?_) | refine go_void (hk := ?_)) | (show GK _ _ _ _ (blockK _ _ _); refine gk_past rfl ?_) | (show GC _ _ _ _ _ (.cond _ _ _) _; first | refine gc_yes (h1 := ?_) | refine gc_no (h1 := ?_))))
  exact gk_ret rfl fun H' hH => ⟨rfl, hH.leE⟩

theorem countUpTo_ok {H : Heap} {a : AV} {xs : List Int} {x : Int} (ha : Ints H a xs) (hl : xs.length ≤ 1000) :
    ACalls Try.prog fn_impl_countUpTo [a, .int .i64 x] H fun r H' => r = .int .i64 (upN xs x : Nat) ∧ H' = H := by
  refine ACalls.val ?_ rfl
  refine code_impl_countUpTo.go [.roI a xs.length xs] ⟨⟨rfl, ha⟩, trivial⟩ (by simp) ?_
  unfold mc_impl_countUpTo
  (repeat (first | with_reducible (first | refine go_nil ?_ | refine gk_seq ?_ | refine gc_seq ?_ | refine gc_reg ?_ | refine gc_skip ?_ | refine gk_block ?_ | refine gc_block ?_ | refine gc_exit ?_ | refine gc_ret ?_ | refine gk_seqret ?_ | refine gk_seqexit ?_ | refine gk_blockret ?_ | refine gk_out ?_ | refine gk_loopret ?_ | refine gk_loopexit ?_) | (show GO _ _ _ _ _ (⟨some _, none, _⟩ :: _) _; first | refine go_op (hk := ?_) | (refine go_nw (hk := ?_); intro u; try simp only [List.length_cons, List.length_nil, List.nil_append, Nat.zero_add]) | (refine go_np (hk := ?_); intro id)) | (show GO _ _ _ _ _ (⟨none, none, _⟩ :: _) _; refine go_st (hk := ?_)) | (show GO _ _ _ _ _ (⟨_, some _, _⟩ :: _) _; first | refine go_in (hk := ?_) | refine go_out (hk := ?_) | refine go_void (hk := ?_)) | (show GK _ _ _ _ (blockK _ _ _); refine gk_past rfl ?_) | (show GC _ _ _ _ _ (.cond _ _ _) _; first | refine gc_yes (h1 := ?_) | refine gc_no (h1 := ?_))))
  refine gc_up xs.length (fun j => [(1, .int .i64 x), (5, .int .i64 (upNT xs x j : Nat)), (8, a), (9, .int .i64 (xs.length : Int)), (10, .int .i64 (j : Int))]) (fun _ => [.roI a xs.length xs]) (hb := ?_)
  intro j hj I ν m hk
  have hp := upNT_le xs x j
  (repeat (first | with_reducible (first | refine go_nil ?_ | refine gk_seq ?_ | refine gc_seq ?_ | refine gc_reg ?_ | refine gc_skip ?_ | refine gk_block ?_ | refine gc_block ?_ | refine gc_exit ?_ | refine gc_ret ?_ | refine gk_seqret ?_ | refine gk_seqexit ?_ | refine gk_blockret ?_ | refine gk_out ?_ | refine gk_loopret ?_ | refine gk_loopexit ?_) | (show GO _ _ _ _ _ (⟨some _, none, _⟩ :: _) _; first | refine go_op (hk := ?_) | (refine go_nw (hk := ?_); intro u; try simp only [List.length_cons, List.length_nil, List.nil_append, Nat.zero_add]) | (refine go_np (hk := ?_); intro id)) | (show GO _ _ _ _ _ (⟨none, none, _⟩ :: _) _; refine go_st (hk := ?_)) | (show GO _ _ _ _ _ (⟨_, some _, _⟩ :: _) _; first | refine go_in (hk := ?_) | refine go_out (hk := ?_) | refine go_void (hk := ?_)) | (show GK _ _ _ _ (blockK _ _ _); refine gk_past rfl ?_) | (show GC _ _ _ _ _ (.cond _ _ _) _; first | refine gc_yes (h1 := ?_) | refine gc_no (h1 := ?_))))
  refine gc_cond rfl (fun h => ?_) (fun h => ?_)
  · have hk := hk (by omega)
    (repeat (first | with_reducible (first | refine go_nil ?_ | refine gk_seq ?_ | refine gc_seq ?_ | refine gc_reg ?_ | refine gc_skip ?_ | refine gk_block ?_ | refine gc_block ?_ | refine gc_exit ?_ | refine gc_ret ?_ | refine gk_seqret ?_ | refine gk_seqexit ?_ | refine gk_blockret ?_ | refine gk_out ?_ | refine gk_loopret ?_ | refine gk_loopexit ?_) | (show GO _ _ _ _ _ (⟨some _, none, _⟩ :: _) _; first | refine go_op (hk := ?_) | (refine go_nw (hk := ?_); intro u; try simp only [List.length_cons, List.length_nil, List.nil_append, Nat.zero_add]) | (refine go_np (hk := ?_); intro id)) | (show GO _ _ _ _ _ (⟨none, none, _⟩ :: _) _; refine go_st (hk := ?_)) | (show GO _ _ _ _ _ (⟨_, some _, _⟩ :: _) _; first | refine go_in (hk := ?_) | refine go_out (hk := ?_) | refine go_void (hk := ?_)) | (show GK _ _ _ _ (blockK _ _ _); refine gk_past rfl ?_) | (show GC _ _ _ _ _ (.cond _ _ _) _; first | refine gc_yes (h1 := ?_) | refine gc_no (h1 := ?_))))
    refine gc_cond rfl (fun h2 => ?_) (fun h2 => ?_)
    · rw [show upNT xs x (j + 1) = upNT xs x j + 1 by simp only [upNT, sumN, if_pos h2]] at hk
      (repeat (first | with_reducible (first | refine go_nil ?_ | refine gk_seq ?_ | refine gc_seq ?_ | refine gc_reg ?_ | refine gc_skip ?_ | refine gk_block ?_ | refine gc_block ?_ | refine gc_exit ?_ | refine gc_ret ?_ | refine gk_seqret ?_ | refine gk_seqexit ?_ | refine gk_blockret ?_ | refine gk_out ?_ | refine gk_loopret ?_ | refine gk_loopexit ?_) | (show GO _ _ _ _ _ (⟨some _, none, _⟩ :: _) _; first | refine go_op (hk := ?_) | (refine go_nw (hk := ?_); intro u; try simp only [List.length_cons, List.length_nil, List.nil_append, Nat.zero_add]) | (refine go_np (hk := ?_); intro id)) | (show GO _ _ _ _ _ (⟨none, none, _⟩ :: _) _; refine go_st (hk := ?_)) | (show GO _ _ _ _ _ (⟨_, some _, _⟩ :: _) _; first | refine go_in (hk := ?_) | refine go_out (hk := ?_) | refine go_void (hk := ?_)) | (show GK _ _ _ _ (blockK _ _ _); refine gk_past rfl ?_) | (show GC _ _ _ _ _ (.cond _ _ _) _; first | refine gc_yes (h1 := ?_) | refine gc_no (h1 := ?_))))
      exact gk_next hk
    · rw [show upNT xs x (j + 1) = upNT xs x j by simp only [upNT, sumN, if_neg h2, Nat.add_zero]] at hk
      (repeat (first | with_reducible (first | refine go_nil ?_ | refine gk_seq ?_ | refine gc_seq ?_ | refine gc_reg ?_ | refine gc_skip ?_ | refine gk_block ?_ | refine gc_block ?_ | refine gc_exit ?_ | refine gc_ret ?_ | refine gk_seqret ?_ | refine gk_seqexit ?_ | refine gk_blockret ?_ | refine gk_out ?_ | refine gk_loopret ?_ | refine gk_loopexit ?_) | (show GO _ _ _ _ _ (⟨some _, none, _⟩ :: _) _; first | refine go_op (hk := ?_) | (refine go_nw (hk := ?_); intro u; try simp only [List.length_cons, List.length_nil, List.nil_append, Nat.zero_add]) | (refine go_np (hk := ?_); intro id)) | (show GO _ _ _ _ _ (⟨none, none, _⟩ :: _) _; refine go_st (hk := ?_)) | (show GO _ _ _ _ _ (⟨_, some _, _⟩ :: _) _; first | refine go_in (hk := ?_) | refine go_out (hk := ?_) | refine go_void (hk := ?_)) | (show GK _ _ _ _ (blockK _ _ _); refine gk_past rfl ?_) | (show GC _ _ _ _ _ (.cond _ _ _) _; first | refine gc_yes (h1 := ?_) | refine gc_no (h1 := ?_))))
      exact gk_next hk
  · have : j = xs.length := by omega
    subst this
    (repeat (first | with_reducible (first | refine go_nil ?_ | refine gk_seq ?_ | refine gc_seq ?_ | refine gc_reg ?_ | refine gc_skip ?_ | refine gk_block ?_ | refine gc_block ?_ | refine gc_exit ?_ | refine gc_ret ?_ | refine gk_seqret ?_ | refine gk_seqexit ?_ | refine gk_blockret ?_ | refine gk_out ?_ | refine gk_loopret ?_ | refine gk_loopexit ?_) | (show GO _ _ _ _ _ (⟨some _, none, _⟩ :: _) _; first | refine go_op (hk := ?_) | (refine go_nw (hk := ?_); intro u; try simp only [List.length_cons, List.length_nil, List.nil_append, Nat.zero_add]) | (refine go_np (hk := ?_); intro id)) | (show GO _ _ _ _ _ (⟨none, none, _⟩ :: _) _; refine go_st (hk := ?_)) | (show GO _ _ _ _ _ (⟨_, some _, _⟩ :: _) _; first | refine go_in (hk := ?_) | refine go_out (hk := ?_) | refine go_void (hk := ?_)) | (show GK _ _ _ _ (blockK _ _ _); refine gk_past rfl ?_) | (show GC _ _ _ _ _ (.cond _ _ _) _; first | refine gc_yes (h1 := ?_) | refine gc_no (h1 := ?_))))
    exact gk_ret rfl fun H' hH => ⟨rfl, hH.leE⟩

theorem implGapOf_ok {H : Heap} {a b : AV} {xs ys : List Int} (ha : Ints H a xs) (hb : Ints H b ys) (hl : xs.length ≤ 1000000000) (hl' : ys.length ≤ 1000000000) :
    ACalls Try.prog fn_impl_GapOf [a, b] H fun r H' => r = .int .i64 (goA xs ys) ∧ H' = H := by
  refine ACalls.val ?_ rfl
  refine code_impl_GapOf.go [.roI a xs.length xs, .roI b ys.length ys] ⟨⟨rfl, ha⟩, ⟨rfl, hb⟩, trivial⟩ (by simp) ?_
  unfold mc_impl_GapOf
  obtain ⟨ca, oa⟩ := slice_cells ha
  obtain ⟨cb, ob⟩ := slice_cells hb
  (repeat (first | with_reducible (first | refine go_nil ?_ | refine gk_seq ?_ | refine gc_seq ?_ | refine gc_reg ?_ | refine gc_skip ?_ | refine gk_block ?_ | refine gc_block ?_ | refine gc_exit ?_ | refine gc_ret ?_ | refine gk_seqret ?_ | refine gk_seqexit ?_ | refine gk_blockret ?_ | refine gk_out ?_ | refine gk_loopret ?_ | refine gk_loopexit ?_) | (show GO _ _ _ _ _ (⟨some _, none, .call _ _⟩ :: _) _; first | (show GO _ _ _ _ _ (⟨some _, none, .call fn_impl_validSamples _⟩ :: _) _; refine go_implSamples (hk := ?_); try intro u)) | (show GO _ _ _ _ _ (⟨some _, none, _⟩ :: _) _; first | refine go_op (hk := ?_) | (refine go_nw (hk := ?_); intro u; try simp only [List.length_cons, List.length_nil, List.nil_append, Nat.zero_add]) | (refine go_np (hk := ?_); intro id)) | (show GO _ _ _ _ _ (⟨none, none, _⟩ :: _) _; refine go_st (hk := ?_)) | (show GO _ _ _ _ _ (⟨_, some _, _⟩ :: _) _; first | refine go_in (hk := ?_) | refine go_out (hk := ?_) | refine go_void (hk := ?_)) | (show GK _ _ _ _ (blockK _ _ _); refine gk_past rfl ?_) | (show GC _ _ _ _ _ (.cond _ _ _) _; first | refine gc_yes (h1 := ?_) | refine gc_no (h1 := ?_))))
  refine gc_cond rfl (fun h => ?_) (fun h => ?_)
  · (repeat (first | with_reducible (first | refine go_nil ?_ | refine gk_seq ?_ | refine gc_seq ?_ | refine gc_reg ?_ | refine gc_skip ?_ | refine gk_block ?_ | refine gc_block ?_ | refine gc_exit ?_ | refine gc_ret ?_ | refine gk_seqret ?_ | refine gk_seqexit ?_ | refine gk_blockret ?_ | refine gk_out ?_ | refine gk_loopret ?_ | refine gk_loopexit ?_) | (show GO _ _ _ _ _ (⟨some _, none, .call _ _⟩ :: _) _; first | (show GO _ _ _ _ _ (⟨some _, none, .call fn_impl_validSamples _⟩ :: _) _; refine go_implSamples (hk := ?_); try intro u)) | (show GO _ _ _ _ _ (⟨some _, none, _⟩ :: _) _; first | refine go_op (hk := ?_) | (refine go_nw (hk := ?_); intro u; try simp only [List.length_cons, List.length_nil, List.nil_append, Nat.zero_add]) | (refine go_np (hk := ?_); intro id)) | (show GO _ _ _ _ _ (⟨none, none, _⟩ :: _) _; refine go_st (hk := ?_)) | (show GO _ _ _ _ _ (⟨_, some _, _⟩ :: _) _; first | refine go_in (hk := ?_) | refine go_out (hk := ?_) | refine go_void (hk := ?_)) | (show GK _ _ _ _ (blockK _ _ _); refine gk_past rfl ?_) | (show GC _ _ _ _ _ (.cond _ _ _) _; first | refine gc_yes (h1 := ?_) | refine gc_no (h1 := ?_))))
    exact gk_ret rfl fun H' hH => ⟨by simp [tupleOf, goA, h], hH.leE⟩
  have hs : Samples xs ys := Decidable.not_not.1 h
  have h3 := hs.2.1
  have h4 := hs.2.2.1
  have hlen : (xs ++ ys).length = xs.length + ys.length := List.length_append
  (repeat (first | with_reducible (first | refine go_nil ?_ | refine gk_seq ?_ | refine gc_seq ?_ | refine gc_reg ?_ | refine gc_skip ?_ | refine gk_block ?_ | refine gc_block ?_ | refine gc_exit ?_ | refine gc_ret ?_ | refine gk_seqret ?_ | refine gk_seqexit ?_ | refine gk_blockret ?_ | refine gk_out ?_ | refine gk_loopret ?_ | refine gk_loopexit ?_) | (show GO _ _ _ _ _ (⟨some _, none, .call _ _⟩ :: _) _; first | (show GO _ _ _ _ _ (⟨some _, none, .call fn_impl_validSamples _⟩ :: _) _; refine go_implSamples (hk := ?_); try intro u)) | (show GO _ _ _ _ _ (⟨some _, none, _⟩ :: _) _; first | refine go_op (hk := ?_) | (refine go_nw (hk := ?_); intro u; try simp only [List.length_cons, List.length_nil, List.nil_append, Nat.zero_add]) | (refine go_np (hk := ?_); intro id)) | (show GO _ _ _ _ _ (⟨none, none, _⟩ :: _) _; refine go_st (hk := ?_)) | (show GO _ _ _ _ _ (⟨_, some _, _⟩ :: _) _; first | refine go_in (hk := ?_) | refine go_out (hk := ?_) | refine go_void (hk := ?_)) | (show GK _ _ _ _ (blockK _ _ _); refine gk_past rfl ?_) | (show GC _ _ _ _ _ (.cond _ _ _) _; first | refine gc_yes (h1 := ?_) | refine gc_no (h1 := ?_))))
  refine go_new rfl (stp_bsl2 rfl rfl ca cb oa ob) ?_
  intro u
  refine go_calln rfl code_slices_Concat_ints.callable (fun H hH => concat_ok (hH.valsA (by exact Has.auto)) (hH.ints (by exact Has.auto)) (hH.ints (by exact Has.auto)) h4 (by omega)) ?_
  intro u
  (repeat (first | with_reducible (first | refine go_nil ?_ | refine gk_seq ?_ | refine gc_seq ?_ | refine gc_reg ?_ | refine gc_skip ?_ | refine gk_block ?_ | refine gc_block ?_ | refine gc_exit ?_ | refine gc_ret ?_ | refine gk_seqret ?_ | refine gk_seqexit ?_ | refine gk_blockret ?_ | refine gk_out ?_ | refine gk_loopret ?_ | refine gk_loopexit ?_) | (show GO _ _ _ _ _ (⟨some _, none, .call _ _⟩ :: _) _; first | (show GO _ _ _ _ _ (⟨some _, none, .call fn_impl_validSamples _⟩ :: _) _; refine go_implSamples (hk := ?_); try intro u)) | (show GO _ _ _ _ _ (⟨some _, none, _⟩ :: _) _; first | refine go_op (hk := ?_) | (refine go_nw (hk := ?_); intro u; try simp only [List.length_cons, List.length_nil, List.nil_append, Nat.zero_add]) | (refine go_np (hk := ?_); intro id)) | (show GO _ _ _ _ _ (⟨none, none, _⟩ :: _) _; refine go_st (hk := ?_)) | (show GO _ _ _ _ _ (⟨_, some _, _⟩ :: _) _; first | refine go_in (hk := ?_) | refine go_out (hk := ?_) | refine go_void (hk := ?_)) | (show GK _ _ _ _ (blockK _ _ _); refine gk_past rfl ?_) | (show GC _ _ _ _ _ (.cond _ _ _) _; first | refine gc_yes (h1 := ?_) | refine gc_no (h1 := ?_))))
  rw [hlen]
  refine gc_up (xs.length + ys.length) (fun i => [(0, a), (1, b), (5, .int .i64 (gapT xs ys i)), (15, u), (16, .int .i64 ((xs.length + ys.length : Nat) : Int)), (17, .int .i64 (i : Int))]) (fun _ => [.rwI u (xs.length + ys.length) (xs ++ ys), .roI a xs.length xs, .roI b ys.length ys]) (hb := ?_)
  intro i hi I ν m hk
  have g1 := gapT_in xs ys (by omega) (by omega) i
  have g2 := gapV_in xs ys (nth (xs ++ ys) i) (by omega) (by omega)
  (repeat (first | with_reducible (first | refine go_nil ?_ | refine gk_seq ?_ | refine gc_seq ?_ | refine gc_reg ?_ | refine gc_skip ?_ | refine gk_block ?_ | refine gc_block ?_ | refine gc_exit ?_ | refine gc_ret ?_ | refine gk_seqret ?_ | refine gk_seqexit ?_ | refine gk_blockret ?_ | refine gk_out ?_ | refine gk_loopret ?_ | refine gk_loopexit ?_) | (show GO _ _ _ _ _ (⟨some _, none, .call _ _⟩ :: _) _; first | (show GO _ _ _ _ _ (⟨some _, none, .call fn_impl_validSamples _⟩ :: _) _; refine go_implSamples (hk := ?_); try intro u)) | (show GO _ _ _ _ _ (⟨some _, none, _⟩ :: _) _; first | refine go_op (hk := ?_) | (refine go_nw (hk := ?_); intro u; try simp only [List.length_cons, List.length_nil, List.nil_append, Nat.zero_add]) | (refine go_np (hk := ?_); intro id)) | (show GO _ _ _ _ _ (⟨none, none, _⟩ :: _) _; refine go_st (hk := ?_)) | (show GO _ _ _ _ _ (⟨_, some _, _⟩ :: _) _; first | refine go_in (hk := ?_) | refine go_out (hk := ?_) | refine go_void (hk := ?_)) | (show GK _ _ _ _ (blockK _ _ _); refine gk_past rfl ?_) | (show GC _ _ _ _ _ (.cond _ _ _) _; first | refine gc_yes (h1 := ?_) | refine gc_no (h1 := ?_))))
  refine gc_cond rfl (fun h => ?_) (fun h => ?_)
  · have hk := hk (by omega)
    (repeat (first | with_reducible (first | refine go_nil ?_ | refine gk_seq ?_ | refine gc_seq ?_ | refine gc_reg ?_ | refine gc_skip ?_ | refine gk_block ?_ | refine gc_block ?_ | refine gc_exit ?_ | refine gc_ret ?_ | refine gk_seqret ?_ | refine gk_seqexit ?_ | refine gk_blockret ?_ | refine gk_out ?_ | refine gk_loopret ?_ | refine gk_loopexit ?_) | (show GO _ _ _ _ _ (⟨some _, none, .call _ _⟩ :: _) _; first | (show GO _ _ _ _ _ (⟨some _, none, .call fn_impl_validSamples _⟩ :: _) _; refine go_implSamples (hk := ?_); try intro u)) | (show GO _ _ _ _ _ (⟨some _, none, _⟩ :: _) _; first | refine go_op (hk := ?_) | (refine go_nw (hk := ?_); intro u; try simp only [List.length_cons, List.length_nil, List.nil_append, Nat.zero_add]) | (refine go_np (hk := ?_); intro id)) | (show GO _ _ _ _ _ (⟨none, none, _⟩ :: _) _; refine go_st (hk := ?_)) | (show GO _ _ _ _ _ (⟨_, some _, _⟩ :: _) _; first | refine go_in (hk := ?_) | refine go_out (hk := ?_) | refine go_void (hk := ?_)) | (show GK _ _ _ _ (blockK _ _ _); refine gk_past rfl ?_) | (show GC _ _ _ _ _ (.cond _ _ _) _; first | refine gc_yes (h1 := ?_) | refine gc_no (h1 := ?_))))
    refine go_callp rfl code_impl_countUpTo.callable (fun H hH => countUpTo_ok (hH.ints (by exact Has.auto)) (by omega)) ?_
    (repeat (first | with_reducible (first | refine go_nil ?_ | refine gk_seq ?_ | refine gc_seq ?_ | refine gc_reg ?_ | refine gc_skip ?_ | refine gk_block ?_ | refine gc_block ?_ | refine gc_exit ?_ | refine gc_ret ?_ | refine gk_seqret ?_ | refine gk_seqexit ?_ | refine gk_blockret ?_ | refine gk_out ?_ | refine gk_loopret ?_ | refine gk_loopexit ?_) | (show GO _ _ _ _ _ (⟨some _, none, .call _ _⟩ :: _) _; first | (show GO _ _ _ _ _ (⟨some _, none, .call fn_impl_validSamples _⟩ :: _) _; refine go_implSamples (hk := ?_); try intro u)) | (show GO _ _ _ _ _ (⟨some _, none, _⟩ :: _) _; first | refine go_op (hk := ?_) | (refine go_nw (hk := ?_); intro u; try simp only [List.length_cons, List.length_nil, List.nil_append, Nat.zero_add]) | (refine go_np (hk := ?_); intro id)) | (show GO _ _ _ _ _ (⟨none, none, _⟩ :: _) _; refine go_st (hk := ?_)) | (show GO _ _ _ _ _ (⟨_, some _, _⟩ :: _) _; first | refine go_in (hk := ?_) | refine go_out (hk := ?_) | refine go_void (hk := ?_)) | (show GK _ _ _ _ (blockK _ _ _); refine gk_past rfl ?_) | (show GC _ _ _ _ _ (.cond _ _ _) _; first | refine gc_yes (h1 := ?_) | refine gc_no (h1 := ?_))))
    refine go_callp rfl code_impl_countUpTo.callable (fun H hH => countUpTo_ok (hH.ints (by exact Has.auto)) (by omega)) ?_
    (repeat (first | with_reducible (first | refine go_nil ?_ | refine gk_seq ?_ | refine gc_seq ?_ | refine gc_reg ?_ | refine gc_skip ?_ | refine gk_block ?_ | refine gc_block ?_ | refine gc_exit ?_ | refine gc_ret ?_ | refine gk_seqret ?_ | refine gk_seqexit ?_ | refine gk_blockret ?_ | refine gk_out ?_ | refine gk_loopret ?_ | refine gk_loopexit ?_) | (show GO _ _ _ _ _ (⟨some _, none, .call _ _⟩ :: _) _; first | (show GO _ _ _ _ _ (⟨some _, none, .call fn_impl_validSamples _⟩ :: _) _; refine go_implSamples (hk := ?_); try intro u)) | (show GO _ _ _ _ _ (⟨some _, none, _⟩ :: _) _; first | refine go_op (hk := ?_) | (refine go_nw (hk := ?_); intro u; try simp only [List.length_cons, List.length_nil, List.nil_append, Nat.zero_add]) | (refine go_np (hk := ?_); intro id)) | (show GO _ _ _ _ _ (⟨none, none, _⟩ :: _) _; refine go_st (hk := ?_)) | (show GO _ _ _ _ _ (⟨_, some _, _⟩ :: _) _; first | refine go_in (hk := ?_) | refine go_out (hk := ?_) | refine go_void (hk := ?_)) | (show GK _ _ _ _ (blockK _ _ _); refine gk_past rfl ?_) | (show GC _ _ _ _ _ (.cond _ _ _) _; first | refine gc_yes (h1 := ?_) | refine gc_no (h1 := ?_))))
    refine go_callp rfl code_impl_apart.callable (fun H hH => implApart_ok (by omega) (by omega)) ?_
    (repeat (first | with_reducible (first | refine go_nil ?_ | refine gk_seq ?_ | refine gc_seq ?_ | refine gc_reg ?_ | refine gc_skip ?_ | refine gk_block ?_ | refine gc_block ?_ | refine gc_exit ?_ | refine gc_ret ?_ | refine gk_seqret ?_ | refine gk_seqexit ?_ | refine gk_blockret ?_ | refine gk_out ?_ | refine gk_loopret ?_ | refine gk_loopexit ?_) | (show GO _ _ _ _ _ (⟨some _, none, .call _ _⟩ :: _) _; first | (show GO _ _ _ _ _ (⟨some _, none, .call fn_impl_validSamples _⟩ :: _) _; refine go_implSamples (hk := ?_); try intro u)) | (show GO _ _ _ _ _ (⟨some _, none, _⟩ :: _) _; first | refine go_op (hk := ?_) | (refine go_nw (hk := ?_); intro u; try simp only [List.length_cons, List.length_nil, List.nil_append, Nat.zero_add]) | (refine go_np (hk := ?_); intro id)) | (show GO _ _ _ _ _ (⟨none, none, _⟩ :: _) _; refine go_st (hk := ?_)) | (show GO _ _ _ _ _ (⟨_, some _, _⟩ :: _) _; first | refine go_in (hk := ?_) | refine go_out (hk := ?_) | refine go_void (hk := ?_)) | (show GK _ _ _ _ (blockK _ _ _); refine gk_past rfl ?_) | (show GC _ _ _ _ _ (.cond _ _ _) _; first | refine gc_yes (h1 := ?_) | refine gc_no (h1 := ?_))))
    rw [show max (gapT xs ys i) (max (((upN xs (nth (xs ++ ys) i) : Nat) : Int) * (ys.length : Int) - ((upN ys (nth (xs ++ ys) i) : Nat) : Int) * (xs.length : Int)) (((upN ys (nth (xs ++ ys) i) : Nat) : Int) * (xs.length : Int) - ((upN xs (nth (xs ++ ys) i) : Nat) : Int) * (ys.length : Int))) = gapT xs ys (i + 1) by rw [gapT]; unfold gapV; omega]
    exact gk_next hk
  · have : i = xs.length + ys.length := by omega
    subst this
    (repeat (first | with_reducible (first | refine go_nil ?_ | refine gk_seq ?_ | refine gc_seq ?_ | refine gc_reg ?_ | refine gc_skip ?_ | refine gk_block ?_ | refine gc_block ?_ | refine gc_exit ?_ | refine gc_ret ?_ | refine gk_seqret ?_ | refine gk_seqexit ?_ | refine gk_blockret ?_ | refine gk_out ?_ | refine gk_loopret ?_ | refine gk_loopexit ?_) | (show GO _ _ _ _ _ (⟨some _, none, .call _ _⟩ :: _) _; first | (show GO _ _ _ _ _ (⟨some _, none, .call fn_impl_validSamples _⟩ :: _) _; refine go_implSamples (hk := ?_); try intro u)) | (show GO _ _ _ _ _ (⟨some _, none, _⟩ :: _) _; first | refine go_op (hk := ?_) | (refine go_nw (hk := ?_); intro u; try simp only [List.length_cons, List.length_nil, List.nil_append, Nat.zero_add]) | (refine go_np (hk := ?_); intro id)) | (show GO _ _ _ _ _ (⟨none, none, _⟩ :: _) _; refine go_st (hk := ?_)) | (show GO _ _ _ _ _ (⟨_, some _, _⟩ :: _) _; first | refine go_in (hk := ?_) | refine go_out (hk := ?_) | refine go_void (hk := ?_)) | (show GK _ _ _ _ (blockK _ _ _); refine gk_past rfl ?_) | (show GC _ _ _ _ _ (.cond _ _ _) _; first | refine gc_yes (h1 := ?_) | refine gc_no (h1 := ?_))))
    exact gk_ret rfl fun H' hH => ⟨by simp [tupleOf, goA, hs, gapL], hH.leE⟩

theorem goA_swap (xs ys : List Int) : goA ys xs = goA xs ys := by
  by_cases h : Samples xs ys
  · rw [goA, goA, if_pos h, if_pos h.swap, gapL_swap]
  · rw [goA, goA, if_neg h, if_neg (fun h2 => h h2.swap)]

theorem samples_neg {xs ys : List Int} (h : Samples xs ys) : Samples (negL xs) (negL ys) := by
  refine ⟨⟨data_neg h.1.1, data_neg h.1.2⟩, ?_⟩
  rw [negL_length, negL_length]
  exact h.2

theorem lawFnGapOf_ok {H : Heap} {a : AV} {bs : List Int} (ha : Vals H a 1 bs.length (bs.map (.int .u8))) (hw : ∀ x ∈ bs, (Lit.int .u8 x).wf = true) : ACalls Try.prog fn_laws_FnGapOf [a] H fun r _ => r = .bool true := by
  have hb := bytes_of hw
  refine code_laws_FnGapOf.go [byt a bs] ⟨⟨rfl, ha⟩, trivial⟩ (by simp) ?_
  unfold mc_laws_FnGapOf
  (repeat (first | with_reducible (first | refine go_nil ?_ | refine gk_seq ?_ | refine gc_seq ?_ | refine gc_reg ?_ | refine gc_skip ?_ | refine gk_block ?_ | refine gc_block ?_ | refine gc_exit ?_ | refine gc_ret ?_ | refine gk_seqret ?_ | refine gk_seqexit ?_ | refine gk_blockret ?_ | refine gk_out ?_ | refine gk_loopret ?_ | refine gk_loopexit ?_) | (show GO _ _ _ _ _ (⟨some _, none, .call _ _⟩ :: _) _; first | (show GO _ _ _ _ _ (⟨some _, none, .call fn_spec_DrawGapOf _⟩ :: _) _; refine go_callg rfl code_spec_DrawGapOf.callable (fun H hH => drawGapOf_ok hH (by exact Has.auto) (by assumption) (by omega)) ?_; intro g hg) | (show GO _ _ _ _ _ (⟨some _, none, .call fn_impl_GapOf _⟩ :: _) _; refine go_callp rfl code_impl_GapOf.callable (fun H hH => implGapOf_ok (hH.ints (by exact Has.auto)) (hH.ints (by exact Has.auto)) (by omega) (by omega)) ?_) | (show GO _ _ _ _ _ (⟨some _, none, .call fn_spec_GapOf _⟩ :: _) _; refine go_callp rfl code_spec_GapOf.callable (fun H hH => specGapOf_ok (hH.ints (by exact Has.auto)) (hH.ints (by exact Has.auto)) (by omega) (by omega)) ?_) | (show GO _ _ _ _ _ (⟨some _, none, .call fn_laws_greatest _⟩ :: _) _; refine go_callp rfl code_laws_greatest.callable (fun H hH => greatest_ok (hH.ints (by exact Has.auto)) (by omega) (by omega)) ?_) | (show GO _ _ _ _ _ (⟨some _, none, .call fn_laws_negated _⟩ :: _) _; refine go_calln rfl code_laws_negated.callable (fun H hH => negated_ok (hH.ints (by exact Has.auto)) (by omega) (by assumption)) ?_; intro u)) | (show GO _ _ _ _ _ (⟨some _, none, _⟩ :: _) _; first | refine go_op (hk := ?_) | (refine go_nw (hk := ?_); intro u; try simp only [List.length_cons, List.length_nil, List.nil_append, Nat.zero_add]) | (refine go_np (hk := ?_); intro id)) | (show GO _ _ _ _ _ (⟨none, none, _⟩ :: _) _; refine go_st (hk := ?_)) | (show GO _ _ _ _ _ (⟨_, some _, _⟩ :: _) _; first | refine go_in (hk := ?_) | refine go_out (hk := ?_) | refine go_void (hk := ?_)) | (show GK _ _ _ _ (blockK _ _ _); refine gk_past rfl ?_) | (show GC _ _ _ _ _ (.cond _ _ _) _; first | refine gc_yes (h1 := ?_) | refine gc_no (h1 := ?_))))
  refine gc_cond rfl (fun h => ?_) (fun h => ?_)
  · (repeat (first | with_reducible (first | refine go_nil ?_ | refine gk_seq ?_ | refine gc_seq ?_ | refine gc_reg ?_ | refine gc_skip ?_ | refine gk_block ?_ | refine gc_block ?_ | refine gc_exit ?_ | refine gc_ret ?_ | refine gk_seqret ?_ | refine gk_seqexit ?_ | refine gk_blockret ?_ | refine gk_out ?_ | refine gk_loopret ?_ | refine gk_loopexit ?_) | (show GO _ _ _ _ _ (⟨some _, none, .call _ _⟩ :: _) _; first | (show GO _ _ _ _ _ (⟨some _, none, .call fn_spec_DrawGapOf _⟩ :: _) _; refine go_callg rfl code_spec_DrawGapOf.callable (fun H hH => drawGapOf_ok hH (by exact Has.auto) (by assumption) (by omega)) ?_; intro g hg) | (show GO _ _ _ _ _ (⟨some _, none, .call fn_impl_GapOf _⟩ :: _) _; refine go_callp rfl code_impl_GapOf.callable (fun H hH => implGapOf_ok (hH.ints (by exact Has.auto)) (hH.ints (by exact Has.auto)) (by omega) (by omega)) ?_) | (show GO _ _ _ _ _ (⟨some _, none, .call fn_spec_GapOf _⟩ :: _) _; refine go_callp rfl code_spec_GapOf.callable (fun H hH => specGapOf_ok (hH.ints (by exact Has.auto)) (hH.ints (by exact Has.auto)) (by omega) (by omega)) ?_) | (show GO _ _ _ _ _ (⟨some _, none, .call fn_laws_greatest _⟩ :: _) _; refine go_callp rfl code_laws_greatest.callable (fun H hH => greatest_ok (hH.ints (by exact Has.auto)) (by omega) (by omega)) ?_) | (show GO _ _ _ _ _ (⟨some _, none, .call fn_laws_negated _⟩ :: _) _; refine go_calln rfl code_laws_negated.callable (fun H hH => negated_ok (hH.ints (by exact Has.auto)) (by omega) (by assumption)) ?_; intro u)) | (show GO _ _ _ _ _ (⟨some _, none, _⟩ :: _) _; first | refine go_op (hk := ?_) | (refine go_nw (hk := ?_); intro u; try simp only [List.length_cons, List.length_nil, List.nil_append, Nat.zero_add]) | (refine go_np (hk := ?_); intro id)) | (show GO _ _ _ _ _ (⟨none, none, _⟩ :: _) _; refine go_st (hk := ?_)) | (show GO _ _ _ _ _ (⟨_, some _, _⟩ :: _) _; first | refine go_in (hk := ?_) | refine go_out (hk := ?_) | refine go_void (hk := ?_)) | (show GK _ _ _ _ (blockK _ _ _); refine gk_past rfl ?_) | (show GC _ _ _ _ _ (.cond _ _ _) _; first | refine gc_yes (h1 := ?_) | refine gc_no (h1 := ?_))))
    exact gk_ret rfl fun H' hH => rfl
  (repeat (first | with_reducible (first | refine go_nil ?_ | refine gk_seq ?_ | refine gc_seq ?_ | refine gc_reg ?_ | refine gc_skip ?_ | refine gk_block ?_ | refine gc_block ?_ | refine gc_exit ?_ | refine gc_ret ?_ | refine gk_seqret ?_ | refine gk_seqexit ?_ | refine gk_blockret ?_ | refine gk_out ?_ | refine gk_loopret ?_ | refine gk_loopexit ?_) | (show GO _ _ _ _ _ (⟨some _, none, .call _ _⟩ :: _) _; first | (show GO _ _ _ _ _ (⟨some _, none, .call fn_spec_DrawGapOf _⟩ :: _) _; refine go_callg rfl code_spec_DrawGapOf.callable (fun H hH => drawGapOf_ok hH (by exact Has.auto) (by assumption) (by omega)) ?_; intro g hg) | (show GO _ _ _ _ _ (⟨some _, none, .call fn_impl_GapOf _⟩ :: _) _; refine go_callp rfl code_impl_GapOf.callable (fun H hH => implGapOf_ok (hH.ints (by exact Has.auto)) (hH.ints (by exact Has.auto)) (by omega) (by omega)) ?_) | (show GO _ _ _ _ _ (⟨some _, none, .call fn_spec_GapOf _⟩ :: _) _; refine go_callp rfl code_spec_GapOf.callable (fun H hH => specGapOf_ok (hH.ints (by exact Has.auto)) (hH.ints (by exact Has.auto)) (by omega) (by omega)) ?_) | (show GO _ _ _ _ _ (⟨some _, none, .call fn_laws_greatest _⟩ :: _) _; refine go_callp rfl code_laws_greatest.callable (fun H hH => greatest_ok (hH.ints (by exact Has.auto)) (by omega) (by omega)) ?_) | (show GO _ _ _ _ _ (⟨some _, none, .call fn_laws_negated _⟩ :: _) _; refine go_calln rfl code_laws_negated.callable (fun H hH => negated_ok (hH.ints (by exact Has.auto)) (by omega) (by assumption)) ?_; intro u)) | (show GO _ _ _ _ _ (⟨some _, none, _⟩ :: _) _; first | refine go_op (hk := ?_) | (refine go_nw (hk := ?_); intro u; try simp only [List.length_cons, List.length_nil, List.nil_append, Nat.zero_add]) | (refine go_np (hk := ?_); intro id)) | (show GO _ _ _ _ _ (⟨none, none, _⟩ :: _) _; refine go_st (hk := ?_)) | (show GO _ _ _ _ _ (⟨_, some _, _⟩ :: _) _; first | refine go_in (hk := ?_) | refine go_out (hk := ?_) | refine go_void (hk := ?_)) | (show GK _ _ _ _ (blockK _ _ _); refine gk_past rfl ?_) | (show GC _ _ _ _ _ (.cond _ _ _) _; first | refine gc_yes (h1 := ?_) | refine gc_no (h1 := ?_))))
  obtain ⟨lu, lv, xs, ys, q⟩ := g
  simp only at hg ⊢
  refine go_split 23 rfl (fun hc => absurd rfl hc) (fun _ => ?_)
  (repeat (first | with_reducible (first | refine go_nil ?_ | refine gk_seq ?_ | refine gc_seq ?_ | refine gc_reg ?_ | refine gc_skip ?_ | refine gk_block ?_ | refine gc_block ?_ | refine gc_exit ?_ | refine gc_ret ?_ | refine gk_seqret ?_ | refine gk_seqexit ?_ | refine gk_blockret ?_ | refine gk_out ?_ | refine gk_loopret ?_ | refine gk_loopexit ?_) | (show GO _ _ _ _ _ (⟨some _, none, .call _ _⟩ :: _) _; first | (show GO _ _ _ _ _ (⟨some _, none, .call fn_spec_DrawGapOf _⟩ :: _) _; refine go_callg rfl code_spec_DrawGapOf.callable (fun H hH => drawGapOf_ok hH (by exact Has.auto) (by assumption) (by omega)) ?_; intro g hg) | (show GO _ _ _ _ _ (⟨some _, none, .call fn_impl_GapOf _⟩ :: _) _; refine go_callp rfl code_impl_GapOf.callable (fun H hH => implGapOf_ok (hH.ints (by exact Has.auto)) (hH.ints (by exact Has.auto)) (by omega) (by omega)) ?_) | (show GO _ _ _ _ _ (⟨some _, none, .call fn_spec_GapOf _⟩ :: _) _; refine go_callp rfl code_spec_GapOf.callable (fun H hH => specGapOf_ok (hH.ints (by exact Has.auto)) (hH.ints (by exact Has.auto)) (by omega) (by omega)) ?_) | (show GO _ _ _ _ _ (⟨some _, none, .call fn_laws_greatest _⟩ :: _) _; refine go_callp rfl code_laws_greatest.callable (fun H hH => greatest_ok (hH.ints (by exact Has.auto)) (by omega) (by omega)) ?_) | (show GO _ _ _ _ _ (⟨some _, none, .call fn_laws_negated _⟩ :: _) _; refine go_calln rfl code_laws_negated.callable (fun H hH => negated_ok (hH.ints (by exact Has.auto)) (by omega) (by assumption)) ?_; intro u)) | (show GO _ _ _ _ _ (⟨some _, none, _⟩ :: _) _; first | refine go_op (hk := ?_) | (refine go_nw (hk := ?_); intro u; try simp only [List.length_cons, List.length_nil, List.nil_append, Nat.zero_add]) | (refine go_np (hk := ?_); intro id)) | (show GO _ _ _ _ _ (⟨none, none, _⟩ :: _) _; refine go_st (hk := ?_)) | (show GO _ _ _ _ _ (⟨_, some _, _⟩ :: _) _; first | refine go_in (hk := ?_) | refine go_out (hk := ?_) | refine go_void (hk := ?_)) | (show GK _ _ _ _ (blockK _ _ _); refine gk_past rfl ?_) | (show GC _ _ _ _ _ (.cond _ _ _) _; first | refine gc_yes (h1 := ?_) | refine gc_no (h1 := ?_))))
  refine gc_cond rfl (fun h2 => ?_) (fun h2 => ?_)
  · (repeat (first | with_reducible (first | refine go_nil ?_ | refine gk_seq ?_ | refine gc_seq ?_ | refine gc_reg ?_ | refine gc_skip ?_ | refine gk_block ?_ | refine gc_block ?_ | refine gc_exit ?_ | refine gc_ret ?_ | refine gk_seqret ?_ | refine gk_seqexit ?_ | refine gk_blockret ?_ | refine gk_out ?_ | refine gk_loopret ?_ | refine gk_loopexit ?_) | (show GO _ _ _ _ _ (⟨some _, none, .call _ _⟩ :: _) _; first | (show GO _ _ _ _ _ (⟨some _, none, .call fn_spec_DrawGapOf _⟩ :: _) _; refine go_callg rfl code_spec_DrawGapOf.callable (fun H hH => drawGapOf_ok hH (by exact Has.auto) (by assumption) (by omega)) ?_; intro g hg) | (show GO _ _ _ _ _ (⟨some _, none, .call fn_impl_GapOf _⟩ :: _) _; refine go_callp rfl code_impl_GapOf.callable (fun H hH => implGapOf_ok (hH.ints (by exact Has.auto)) (hH.ints (by exact Has.auto)) (by omega) (by omega)) ?_) | (show GO _ _ _ _ _ (⟨some _, none, .call fn_spec_GapOf _⟩ :: _) _; refine go_callp rfl code_spec_GapOf.callable (fun H hH => specGapOf_ok (hH.ints (by exact Has.auto)) (hH.ints (by exact Has.auto)) (by omega) (by omega)) ?_) | (show GO _ _ _ _ _ (⟨some _, none, .call fn_laws_greatest _⟩ :: _) _; refine go_callp rfl code_laws_greatest.callable (fun H hH => greatest_ok (hH.ints (by exact Has.auto)) (by omega) (by omega)) ?_) | (show GO _ _ _ _ _ (⟨some _, none, .call fn_laws_negated _⟩ :: _) _; refine go_calln rfl code_laws_negated.callable (fun H hH => negated_ok (hH.ints (by exact Has.auto)) (by omega) (by assumption)) ?_; intro u)) | (show GO _ _ _ _ _ (⟨some _, none, _⟩ :: _) _; first | refine go_op (hk := ?_) | (refine go_nw (hk := ?_); intro u; try simp only [List.length_cons, List.length_nil, List.nil_append, Nat.zero_add]) | (refine go_np (hk := ?_); intro id)) | (show GO _ _ _ _ _ (⟨none, none, _⟩ :: _) _; refine go_st (hk := ?_)) | (show GO _ _ _ _ _ (⟨_, some _, _⟩ :: _) _; first | refine go_in (hk := ?_) | refine go_out (hk := ?_) | refine go_void (hk := ?_)) | (show GK _ _ _ _ (blockK _ _ _); refine gk_past rfl ?_) | (show GC _ _ _ _ _ (.cond _ _ _) _; first | refine gc_yes (h1 := ?_) | refine gc_no (h1 := ?_))))
    exact gk_ret rfl fun H' hH => by simp [tupleOf]
  have hs : Samples xs ys := by
    by_cases hs : Samples xs ys
    · exact hs
    · exact absurd (by rw [goA, if_neg hs]; omega) h2
  have h3 := hs.2.2.1
  have h4 := hs.2.2.2
  have hlen := hs.2.1
  have hnl : (xs.map (- ·)).length = xs.length := by simp
  have hnl2 : (ys.map (- ·)).length = ys.length := by simp
  have hbx : Bd 1000000000 xs := fun x hx => by have := hs.1.1.bd x hx; omega
  have hby : Bd 1000000000 ys := fun x hx => by have := hs.1.2.bd x hx; omega
  have g1 : -200 ≤ gmL (xs.map (- ·)) ∧ gmL (xs.map (- ·)) ≤ 200 := (data_neg hs.1.1).bd _ (gmL_mem (xs := negL xs) (by rw [negL_length]; exact h3))
  have g2 : -200 ≤ gmL (ys.map (- ·)) ∧ gmL (ys.map (- ·)) ≤ 200 := (data_neg hs.1.2).bd _ (gmL_mem (xs := negL ys) (by rw [negL_length]; exact h4))
  have e0 : goA xs ys = gapL xs ys := by rw [goA, if_pos hs]
  have e1 : goA ys xs = goA xs ys := goA_swap _ _
  have e2 : goA (xs.map (- ·)) (ys.map (- ·)) = goA xs ys := by
    rw [e0, show xs.map (- ·) = negL xs from rfl, show ys.map (- ·) = negL ys from rfl, goA, if_pos (samples_neg hs), gapL_neg]
  have e3 : goA xs ys ≤ (xs.length : Int) * (ys.length : Int) := by rw [e0]; exact gap_le_mul _ _
  have e4 : goA xs ys = (xs.length : Int) * (ys.length : Int) ↔ (gmL xs < -gmL (ys.map (- ·)) ∨ gmL ys < -gmL (xs.map (- ·))) := by rw [e0]; exact gap_apart h3 h4
  have hmn := mul12 (a := (xs.length : Int)) (b := (ys.length : Int)) (A := 10) (B := 10) (by omega) (by omega)
  (repeat (first | with_reducible (first | refine go_nil ?_ | refine gk_seq ?_ | refine gc_seq ?_ | refine gc_reg ?_ | refine gc_skip ?_ | refine gk_block ?_ | refine gc_block ?_ | refine gc_exit ?_ | refine gc_ret ?_ | refine gk_seqret ?_ | refine gk_seqexit ?_ | refine gk_blockret ?_ | refine gk_out ?_ | refine gk_loopret ?_ | refine gk_loopexit ?_) | (show GO _ _ _ _ _ (⟨some _, none, .call _ _⟩ :: _) _; first | (show GO _ _ _ _ _ (⟨some _, none, .call fn_spec_DrawGapOf _⟩ :: _) _; refine go_callg rfl code_spec_DrawGapOf.callable (fun H hH => drawGapOf_ok hH (by exact Has.auto) (by assumption) (by omega)) ?_; intro g hg) | (show GO _ _ _ _ _ (⟨some _, none, .call fn_impl_GapOf _⟩ :: _) _; refine go_callp rfl code_impl_GapOf.callable (fun H hH => implGapOf_ok (hH.ints (by exact Has.auto)) (hH.ints (by exact Has.auto)) (by omega) (by omega)) ?_) | (show GO _ _ _ _ _ (⟨some _, none, .call fn_spec_GapOf _⟩ :: _) _; refine go_callp rfl code_spec_GapOf.callable (fun H hH => specGapOf_ok (hH.ints (by exact Has.auto)) (hH.ints (by exact Has.auto)) (by omega) (by omega)) ?_) | (show GO _ _ _ _ _ (⟨some _, none, .call fn_laws_greatest _⟩ :: _) _; refine go_callp rfl code_laws_greatest.callable (fun H hH => greatest_ok (hH.ints (by exact Has.auto)) (by omega) (by omega)) ?_) | (show GO _ _ _ _ _ (⟨some _, none, .call fn_laws_negated _⟩ :: _) _; refine go_calln rfl code_laws_negated.callable (fun H hH => negated_ok (hH.ints (by exact Has.auto)) (by omega) (by assumption)) ?_; intro u)) | (show GO _ _ _ _ _ (⟨some _, none, _⟩ :: _) _; first | refine go_op (hk := ?_) | (refine go_nw (hk := ?_); intro u; try simp only [List.length_cons, List.length_nil, List.nil_append, Nat.zero_add]) | (refine go_np (hk := ?_); intro id)) | (show GO _ _ _ _ _ (⟨none, none, _⟩ :: _) _; refine go_st (hk := ?_)) | (show GO _ _ _ _ _ (⟨_, some _, _⟩ :: _) _; first | refine go_in (hk := ?_) | refine go_out (hk := ?_) | refine go_void (hk := ?_)) | (show GK _ _ _ _ (blockK _ _ _); refine gk_past rfl ?_) | (show GC _ _ _ _ _ (.cond _ _ _) _; first | refine gc_yes (h1 := ?_) | refine gc_no (h1 := ?_))))
  refine go_split 39 rfl (fun h5 => ?_) (fun h5 => ?_)
  · (repeat (first | with_reducible (first | refine go_nil ?_ | refine gk_seq ?_ | refine gc_seq ?_ | refine gc_reg ?_ | refine gc_skip ?_ | refine gk_block ?_ | refine gc_block ?_ | refine gc_exit ?_ | refine gc_ret ?_ | refine gk_seqret ?_ | refine gk_seqexit ?_ | refine gk_blockret ?_ | refine gk_out ?_ | refine gk_loopret ?_ | refine gk_loopexit ?_) | (show GO _ _ _ _ _ (⟨some _, none, .call _ _⟩ :: _) _; first | (show GO _ _ _ _ _ (⟨some _, none, .call fn_spec_DrawGapOf _⟩ :: _) _; refine go_callg rfl code_spec_DrawGapOf.callable (fun H hH => drawGapOf_ok hH (by exact Has.auto) (by assumption) (by omega)) ?_; intro g hg) | (show GO _ _ _ _ _ (⟨some _, none, .call fn_impl_GapOf _⟩ :: _) _; refine go_callp rfl code_impl_GapOf.callable (fun H hH => implGapOf_ok (hH.ints (by exact Has.auto)) (hH.ints (by exact Has.auto)) (by omega) (by omega)) ?_) | (show GO _ _ _ _ _ (⟨some _, none, .call fn_spec_GapOf _⟩ :: _) _; refine go_callp rfl code_spec_GapOf.callable (fun H hH => specGapOf_ok (hH.ints (by exact Has.auto)) (hH.ints (by exact Has.auto)) (by omega) (by omega)) ?_) | (show GO _ _ _ _ _ (⟨some _, none, .call fn_laws_greatest _⟩ :: _) _; refine go_callp rfl code_laws_greatest.callable (fun H hH => greatest_ok (hH.ints (by exact Has.auto)) (by omega) (by omega)) ?_) | (show GO _ _ _ _ _ (⟨some _, none, .call fn_laws_negated _⟩ :: _) _; refine go_calln rfl code_laws_negated.callable (fun H hH => negated_ok (hH.ints (by exact Has.auto)) (by omega) (by assumption)) ?_; intro u)) | (show GO _ _ _ _ _ (⟨some _, none, _⟩ :: _) _; first | refine go_op (hk := ?_) | (refine go_nw (hk := ?_); intro u; try simp only [List.length_cons, List.length_nil, List.nil_append, Nat.zero_add]) | (refine go_np (hk := ?_); intro id)) | (show GO _ _ _ _ _ (⟨none, none, _⟩ :: _) _; refine go_st (hk := ?_)) | (show GO _ _ _ _ _ (⟨_, some _, _⟩ :: _) _; first | refine go_in (hk := ?_) | refine go_out (hk := ?_) | refine go_void (hk := ?_)) | (show GK _ _ _ _ (blockK _ _ _); refine gk_past rfl ?_) | (show GC _ _ _ _ _ (.cond _ _ _) _; first | refine gc_yes (h1 := ?_) | refine gc_no (h1 := ?_))))
    refine go_split 53 rfl (fun _ => ?_) (fun hc => absurd e1 hc)
    (repeat (first | with_reducible (first | refine go_nil ?_ | refine gk_seq ?_ | refine gc_seq ?_ | refine gc_reg ?_ | refine gc_skip ?_ | refine gk_block ?_ | refine gc_block ?_ | refine gc_exit ?_ | refine gc_ret ?_ | refine gk_seqret ?_ | refine gk_seqexit ?_ | refine gk_blockret ?_ | refine gk_out ?_ | refine gk_loopret ?_ | refine gk_loopexit ?_) | (show GO _ _ _ _ _ (⟨some _, none, .call _ _⟩ :: _) _; first | (show GO _ _ _ _ _ (⟨some _, none, .call fn_spec_DrawGapOf _⟩ :: _) _; refine go_callg rfl code_spec_DrawGapOf.callable (fun H hH => drawGapOf_ok hH (by exact Has.auto) (by assumption) (by omega)) ?_; intro g hg) | (show GO _ _ _ _ _ (⟨some _, none, .call fn_impl_GapOf _⟩ :: _) _; refine go_callp rfl code_impl_GapOf.callable (fun H hH => implGapOf_ok (hH.ints (by exact Has.auto)) (hH.ints (by exact Has.auto)) (by omega) (by omega)) ?_) | (show GO _ _ _ _ _ (⟨some _, none, .call fn_spec_GapOf _⟩ :: _) _; refine go_callp rfl code_spec_GapOf.callable (fun H hH => specGapOf_ok (hH.ints (by exact Has.auto)) (hH.ints (by exact Has.auto)) (by omega) (by omega)) ?_) | (show GO _ _ _ _ _ (⟨some _, none, .call fn_laws_greatest _⟩ :: _) _; refine go_callp rfl code_laws_greatest.callable (fun H hH => greatest_ok (hH.ints (by exact Has.auto)) (by omega) (by omega)) ?_) | (show GO _ _ _ _ _ (⟨some _, none, .call fn_laws_negated _⟩ :: _) _; refine go_calln rfl code_laws_negated.callable (fun H hH => negated_ok (hH.ints (by exact Has.auto)) (by omega) (by assumption)) ?_; intro u)) | (show GO _ _ _ _ _ (⟨some _, none, _⟩ :: _) _; first | refine go_op (hk := ?_) | (refine go_nw (hk := ?_); intro u; try simp only [List.length_cons, List.length_nil, List.nil_append, Nat.zero_add]) | (refine go_np (hk := ?_); intro id)) | (show GO _ _ _ _ _ (⟨none, none, _⟩ :: _) _; refine go_st (hk := ?_)) | (show GO _ _ _ _ _ (⟨_, some _, _⟩ :: _) _; first | refine go_in (hk := ?_) | refine go_out (hk := ?_) | refine go_void (hk := ?_)) | (show GK _ _ _ _ (blockK _ _ _); refine gk_past rfl ?_) | (show GC _ _ _ _ _ (.cond _ _ _) _; first | refine gc_yes (h1 := ?_) | refine gc_no (h1 := ?_))))
    refine go_split 62 rfl (fun _ => ?_) (fun hc => absurd e2 hc)
    (repeat (first | with_reducible (first | refine go_nil ?_ | refine gk_seq ?_ | refine gc_seq ?_ | refine gc_reg ?_ | refine gc_skip ?_ | refine gk_block ?_ | refine gc_block ?_ | refine gc_exit ?_ | refine gc_ret ?_ | refine gk_seqret ?_ | refine gk_seqexit ?_ | refine gk_blockret ?_ | refine gk_out ?_ | refine gk_loopret ?_ | refine gk_loopexit ?_) | (show GO _ _ _ _ _ (⟨some _, none, .call _ _⟩ :: _) _; first | (show GO _ _ _ _ _ (⟨some _, none, .call fn_spec_DrawGapOf _⟩ :: _) _; refine go_callg rfl code_spec_DrawGapOf.callable (fun H hH => drawGapOf_ok hH (by exact Has.auto) (by assumption) (by omega)) ?_; intro g hg) | (show GO _ _ _ _ _ (⟨some _, none, .call fn_impl_GapOf _⟩ :: _) _; refine go_callp rfl code_impl_GapOf.callable (fun H hH => implGapOf_ok (hH.ints (by exact Has.auto)) (hH.ints (by exact Has.auto)) (by omega) (by omega)) ?_) | (show GO _ _ _ _ _ (⟨some _, none, .call fn_spec_GapOf _⟩ :: _) _; refine go_callp rfl code_spec_GapOf.callable (fun H hH => specGapOf_ok (hH.ints (by exact Has.auto)) (hH.ints (by exact Has.auto)) (by omega) (by omega)) ?_) | (show GO _ _ _ _ _ (⟨some _, none, .call fn_laws_greatest _⟩ :: _) _; refine go_callp rfl code_laws_greatest.callable (fun H hH => greatest_ok (hH.ints (by exact Has.auto)) (by omega) (by omega)) ?_) | (show GO _ _ _ _ _ (⟨some _, none, .call fn_laws_negated _⟩ :: _) _; refine go_calln rfl code_laws_negated.callable (fun H hH => negated_ok (hH.ints (by exact Has.auto)) (by omega) (by assumption)) ?_; intro u)) | (show GO _ _ _ _ _ (⟨some _, none, _⟩ :: _) _; first | refine go_op (hk := ?_) | (refine go_nw (hk := ?_); intro u; try simp only [List.length_cons, List.length_nil, List.nil_append, Nat.zero_add]) | (refine go_np (hk := ?_); intro id)) | (show GO _ _ _ _ _ (⟨none, none, _⟩ :: _) _; refine go_st (hk := ?_)) | (show GO _ _ _ _ _ (⟨_, some _, _⟩ :: _) _; first | refine go_in (hk := ?_) | refine go_out (hk := ?_) | refine go_void (hk := ?_)) | (show GK _ _ _ _ (blockK _ _ _); refine gk_past rfl ?_) | (show GC _ _ _ _ _ (.cond _ _ _) _; first | refine gc_yes (h1 := ?_) | refine gc_no (h1 := ?_))))
    refine go_split 71 rfl (fun _ => ?_) (fun hc => absurd e3 hc)
    (repeat (first | with_reducible (first | refine go_nil ?_ | refine gk_seq ?_ | refine gc_seq ?_ | refine gc_reg ?_ | refine gc_skip ?_ | refine gk_block ?_ | refine gc_block ?_ | refine gc_exit ?_ | refine gc_ret ?_ | refine gk_seqret ?_ | refine gk_seqexit ?_ | refine gk_blockret ?_ | refine gk_out ?_ | refine gk_loopret ?_ | refine gk_loopexit ?_) | (show GO _ _ _ _ _ (⟨some _, none, .call _ _⟩ :: _) _; first | (show GO _ _ _ _ _ (⟨some _, none, .call fn_spec_DrawGapOf _⟩ :: _) _; refine go_callg rfl code_spec_DrawGapOf.callable (fun H hH => drawGapOf_ok hH (by exact Has.auto) (by assumption) (by omega)) ?_; intro g hg) | (show GO _ _ _ _ _ (⟨some _, none, .call fn_impl_GapOf _⟩ :: _) _; refine go_callp rfl code_impl_GapOf.callable (fun H hH => implGapOf_ok (hH.ints (by exact Has.auto)) (hH.ints (by exact Has.auto)) (by omega) (by omega)) ?_) | (show GO _ _ _ _ _ (⟨some _, none, .call fn_spec_GapOf _⟩ :: _) _; refine go_callp rfl code_spec_GapOf.callable (fun H hH => specGapOf_ok (hH.ints (by exact Has.auto)) (hH.ints (by exact Has.auto)) (by omega) (by omega)) ?_) | (show GO _ _ _ _ _ (⟨some _, none, .call fn_laws_greatest _⟩ :: _) _; refine go_callp rfl code_laws_greatest.callable (fun H hH => greatest_ok (hH.ints (by exact Has.auto)) (by omega) (by omega)) ?_) | (show GO _ _ _ _ _ (⟨some _, none, .call fn_laws_negated _⟩ :: _) _; refine go_calln rfl code_laws_negated.callable (fun H hH => negated_ok (hH.ints (by exact Has.auto)) (by omega) (by assumption)) ?_; intro u)) | (show GO _ _ _ _ _ (⟨some _, none, _⟩ :: _) _; first | refine go_op (hk := ?_) | (refine go_nw (hk := ?_); intro u; try simp only [List.length_cons, List.length_nil, List.nil_append, Nat.zero_add]) | (refine go_np (hk := ?_); intro id)) | (show GO _ _ _ _ _ (⟨none, none, _⟩ :: _) _; refine go_st (hk := ?_)) | (show GO _ _ _ _ _ (⟨_, some _, _⟩ :: _) _; first | refine go_in (hk := ?_) | refine go_out (hk := ?_) | refine go_void (hk := ?_)) | (show GK _ _ _ _ (blockK _ _ _); refine gk_past rfl ?_) | (show GC _ _ _ _ _ (.cond _ _ _) _; first | refine gc_yes (h1 := ?_) | refine gc_no (h1 := ?_))))
    exact gk_ret rfl fun H' hH => by have := e4.2 (.inl h5); simp [tupleOf, this]
  · (repeat (first | with_reducible (first | refine go_nil ?_ | refine gk_seq ?_ | refine gc_seq ?_ | refine gc_reg ?_ | refine gc_skip ?_ | refine gk_block ?_ | refine gc_block ?_ | refine gc_exit ?_ | refine gc_ret ?_ | refine gk_seqret ?_ | refine gk_seqexit ?_ | refine gk_blockret ?_ | refine gk_out ?_ | refine gk_loopret ?_ | refine gk_loopexit ?_) | (show GO _ _ _ _ _ (⟨some _, none, .call _ _⟩ :: _) _; first | (show GO _ _ _ _ _ (⟨some _, none, .call fn_spec_DrawGapOf _⟩ :: _) _; refine go_callg rfl code_spec_DrawGapOf.callable (fun H hH => drawGapOf_ok hH (by exact Has.auto) (by assumption) (by omega)) ?_; intro g hg) | (show GO _ _ _ _ _ (⟨some _, none, .call fn_impl_GapOf _⟩ :: _) _; refine go_callp rfl code_impl_GapOf.callable (fun H hH => implGapOf_ok (hH.ints (by exact Has.auto)) (hH.ints (by exact Has.auto)) (by omega) (by omega)) ?_) | (show GO _ _ _ _ _ (⟨some _, none, .call fn_spec_GapOf _⟩ :: _) _; refine go_callp rfl code_spec_GapOf.callable (fun H hH => specGapOf_ok (hH.ints (by exact Has.auto)) (hH.ints (by exact Has.auto)) (by omega) (by omega)) ?_) | (show GO _ _ _ _ _ (⟨some _, none, .call fn_laws_greatest _⟩ :: _) _; refine go_callp rfl code_laws_greatest.callable (fun H hH => greatest_ok (hH.ints (by exact Has.auto)) (by omega) (by omega)) ?_) | (show GO _ _ _ _ _ (⟨some _, none, .call fn_laws_negated _⟩ :: _) _; refine go_calln rfl code_laws_negated.callable (fun H hH => negated_ok (hH.ints (by exact Has.auto)) (by omega) (by assumption)) ?_; intro u)) | (show GO _ _ _ _ _ (⟨some _, none, _⟩ :: _) _; first | refine go_op (hk := ?_) | (refine go_nw (hk := ?_); intro u; try simp only [List.length_cons, List.length_nil, List.nil_append, Nat.zero_add]) | (refine go_np (hk := ?_); intro id)) | (show GO _ _ _ _ _ (⟨none, none, _⟩ :: _) _; refine go_st (hk := ?_)) | (show GO _ _ _ _ _ (⟨_, some _, _⟩ :: _) _; first | refine go_in (hk := ?_) | refine go_out (hk := ?_) | refine go_void (hk := ?_)) | (show GK _ _ _ _ (blockK _ _ _); refine gk_past rfl ?_) | (show GC _ _ _ _ _ (.cond _ _ _) _; first | refine gc_yes (h1 := ?_) | refine gc_no (h1 := ?_))))
    refine go_split 53 rfl (fun _ => ?_) (fun hc => absurd e1 hc)
    (repeat (first | with_reducible (first | refine go_nil ?_ | refine gk_seq ?_ | refine gc_seq ?_ | refine gc_reg ?_ | refine gc_skip ?_ | refine gk_block ?_ | refine gc_block ?_ | refine gc_exit ?_ | refine gc_ret ?_ | refine gk_seqret ?_ | refine gk_seqexit ?_ | refine gk_blockret ?_ | refine gk_out ?_ | refine gk_loopret ?_ | refine gk_loopexit ?_) | (show GO _ _ _ _ _ (⟨some _, none, .call _ _⟩ :: _) _; first | (show GO _ _ _ _ _ (⟨some _, none, .call fn_spec_DrawGapOf _⟩ :: _) _; refine go_callg rfl code_spec_DrawGapOf.callable (fun H hH => drawGapOf_ok hH (by exact Has.auto) (by assumption) (by omega)) ?_; intro g hg) | (show GO _ _ _ _ _ (⟨some _, none, .call fn_impl_GapOf _⟩ :: _) _; refine go_callp rfl code_impl_GapOf.callable (fun H hH => implGapOf_ok (hH.ints (by exact Has.auto)) (hH.ints (by exact Has.auto)) (by omega) (by omega)) ?_) | (show GO _ _ _ _ _ (⟨some _, none, .call fn_spec_GapOf _⟩ :: _) _; refine go_callp rfl code_spec_GapOf.callable (fun H hH => specGapOf_ok (hH.ints (by exact Has.auto)) (hH.ints (by exact Has.auto)) (by omega) (by omega)) ?_) | (show GO _ _ _ _ _ (⟨some _, none, .call fn_laws_greatest _⟩ :: _) _; refine go_callp rfl code_laws_greatest.callable (fun H hH => greatest_ok (hH.ints (by exact Has.auto)) (by omega) (by omega)) ?_) | (show GO _ _ _ _ _ (⟨some _, none, .call fn_laws_negated _⟩ :: _) _; refine go_calln rfl code_laws_negated.callable (fun H hH => negated_ok (hH.ints (by exact Has.auto)) (by omega) (by assumption)) ?_; intro u)) | (show GO _ _ _ _ _ (⟨some _, none, _⟩ :: _) _; first | refine go_op (hk := ?_) | (refine go_nw (hk := ?_); intro u; try simp only [List.length_cons, List.length_nil, List.nil_append, Nat.zero_add]) | (refine go_np (hk := ?_); intro id)) | (show GO _ _ _ _ _ (⟨none, none, _⟩ :: _) _; refine go_st (hk := ?_)) | (show GO _ _ _ _ _ (⟨_, some _, _⟩ :: _) _; first | refine go_in (hk := ?_) | refine go_out (hk := ?_) | refine go_void (hk := ?_)) | (show GK _ _ _ _ (blockK _ _ _); refine gk_past rfl ?_) | (show GC _ _ _ _ _ (.cond _ _ _) _; first | refine gc_yes (h1 := ?_) | refine gc_no (h1 := ?_))))
    refine go_split 62 rfl (fun _ => ?_) (fun hc => absurd e2 hc)
    (repeat (first | with_reducible (first | refine go_nil ?_ | refine gk_seq ?_ | refine gc_seq ?_ | refine gc_reg ?_ | refine gc_skip ?_ | refine gk_block ?_ | refine gc_block ?_ | refine gc_exit ?_ | refine gc_ret ?_ | refine gk_seqret ?_ | refine gk_seqexit ?_ | refine gk_blockret ?_ | refine gk_out ?_ | refine gk_loopret ?_ | refine gk_loopexit ?_) | (show GO _ _ _ _ _ (⟨some _, none, .call _ _⟩ :: _) _; first | (show GO _ _ _ _ _ (⟨some _, none, .call fn_spec_DrawGapOf _⟩ :: _) _; refine go_callg rfl code_spec_DrawGapOf.callable (fun H hH => drawGapOf_ok hH (by exact Has.auto) (by assumption) (by omega)) ?_; intro g hg) | (show GO _ _ _ _ _ (⟨some _, none, .call fn_impl_GapOf _⟩ :: _) _; refine go_callp rfl code_impl_GapOf.callable (fun H hH => implGapOf_ok (hH.ints (by exact Has.auto)) (hH.ints (by exact Has.auto)) (by omega) (by omega)) ?_) | (show GO _ _ _ _ _ (⟨some _, none, .call fn_spec_GapOf _⟩ :: _) _; refine go_callp rfl code_spec_GapOf.callable (fun H hH => specGapOf_ok (hH.ints (by exact Has.auto)) (hH.ints (by exact Has.auto)) (by omega) (by omega)) ?_) | (show GO _ _ _ _ _ (⟨some _, none, .call fn_laws_greatest _⟩ :: _) _; refine go_callp rfl code_laws_greatest.callable (fun H hH => greatest_ok (hH.ints (by exact Has.auto)) (by omega) (by omega)) ?_) | (show GO _ _ _ _ _ (⟨some _, none, .call fn_laws_negated _⟩ :: _) _; refine go_calln rfl code_laws_negated.callable (fun H hH => negated_ok (hH.ints (by exact Has.auto)) (by omega) (by assumption)) ?_; intro u)) | (show GO _ _ _ _ _ (⟨some _, none, _⟩ :: _) _; first | refine go_op (hk := ?_) | (refine go_nw (hk := ?_); intro u; try simp only [List.length_cons, List.length_nil, List.nil_append, Nat.zero_add]) | (refine go_np (hk := ?_); intro id)) | (show GO _ _ _ _ _ (⟨none, none, _⟩ :: _) _; refine go_st (hk := ?_)) | (show GO _ _ _ _ _ (⟨_, some _, _⟩ :: _) _; first | refine go_in (hk := ?_) | refine go_out (hk := ?_) | refine go_void (hk := ?_)) | (show GK _ _ _ _ (blockK _ _ _); refine gk_past rfl ?_) | (show GC _ _ _ _ _ (.cond _ _ _) _; first | refine gc_yes (h1 := ?_) | refine gc_no (h1 := ?_))))
    refine go_split 71 rfl (fun _ => ?_) (fun hc => absurd e3 hc)
    (repeat (first | with_reducible (first | refine go_nil ?_ | refine gk_seq ?_ | refine gc_seq ?_ | refine gc_reg ?_ | refine gc_skip ?_ | refine gk_block ?_ | refine gc_block ?_ | refine gc_exit ?_ | refine gc_ret ?_ | refine gk_seqret ?_ | refine gk_seqexit ?_ | refine gk_blockret ?_ | refine gk_out ?_ | refine gk_loopret ?_ | refine gk_loopexit ?_) | (show GO _ _ _ _ _ (⟨some _, none, .call _ _⟩ :: _) _; first | (show GO _ _ _ _ _ (⟨some _, none, .call fn_spec_DrawGapOf _⟩ :: _) _; refine go_callg rfl code_spec_DrawGapOf.callable (fun H hH => drawGapOf_ok hH (by exact Has.auto) (by assumption) (by omega)) ?_; intro g hg) | (show GO _ _ _ _ _ (⟨some _, none, .call fn_impl_GapOf _⟩ :: _) _; refine go_callp rfl code_impl_GapOf.callable (fun H hH => implGapOf_ok (hH.ints (by exact Has.auto)) (hH.ints (by exact Has.auto)) (by omega) (by omega)) ?_) | (show GO _ _ _ _ _ (⟨some _, none, .call fn_spec_GapOf _⟩ :: _) _; refine go_callp rfl code_spec_GapOf.callable (fun H hH => specGapOf_ok (hH.ints (by exact Has.auto)) (hH.ints (by exact Has.auto)) (by omega) (by omega)) ?_) | (show GO _ _ _ _ _ (⟨some _, none, .call fn_laws_greatest _⟩ :: _) _; refine go_callp rfl code_laws_greatest.callable (fun H hH => greatest_ok (hH.ints (by exact Has.auto)) (by omega) (by omega)) ?_) | (show GO _ _ _ _ _ (⟨some _, none, .call fn_laws_negated _⟩ :: _) _; refine go_calln rfl code_laws_negated.callable (fun H hH => negated_ok (hH.ints (by exact Has.auto)) (by omega) (by assumption)) ?_; intro u)) | (show GO _ _ _ _ _ (⟨some _, none, _⟩ :: _) _; first | refine go_op (hk := ?_) | (refine go_nw (hk := ?_); intro u; try simp only [List.length_cons, List.length_nil, List.nil_append, Nat.zero_add]) | (refine go_np (hk := ?_); intro id)) | (show GO _ _ _ _ _ (⟨none, none, _⟩ :: _) _; refine go_st (hk := ?_)) | (show GO _ _ _ _ _ (⟨_, some _, _⟩ :: _) _; first | refine go_in (hk := ?_) | refine go_out (hk := ?_) | refine go_void (hk := ?_)) | (show GK _ _ _ _ (blockK _ _ _); refine gk_past rfl ?_) | (show GC _ _ _ _ _ (.cond _ _ _) _; first | refine gc_yes (h1 := ?_) | refine gc_no (h1 := ?_))))
    exact gk_ret rfl fun H' hH => (bool_yes ⟨fun h => (e4.1 h).resolve_left h5, fun h => e4.2 (.inr h)⟩).symm

end Go.Rx.Try
