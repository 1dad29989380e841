import Derived.Test.YtpibmmkghedmaaaFnGapChanceD4
namespace Go.Rx.Try
open Go.Proofs
set_option maxRecDepth 100000
set_option maxHeartbeats 8000000
set_option linter.unusedSimpArgs false
set_option linter.unusedVariables false

theorem specGap_ok {H : Heap} {a b : AV} {xs ys : List Int} (ha : Ints H a xs) (hb : Ints H b ys) (hl : xs.length + ys.length ≤ 10) :
    ACalls Try.prog fn_spec_gap [a, b] H fun r H' => r = .int .i64 (gapL xs ys) ∧ H' = H := by
  refine ACalls.val ?_ rfl
  refine code_spec_gap.go [.roI a xs.length xs, .roI b ys.length ys] ⟨⟨rfl, ha⟩, ⟨rfl, hb⟩, trivial⟩ (by simp) ?_
  unfold mc_spec_gap
  (repeat (first | with_reducible (first | refine go_nil ?_ | refine gk_seq ?_ | refine gc_seq ?_ | refine gc_reg ?_ | refine gc_skip ?_ | refine gk_block ?_ | refine gc_block ?_ | refine gc_exit ?_ | refine gc_ret ?_ | refine gk_seqret ?_ | refine gk_seqexit ?_ | refine gk_blockret ?_ | refine gk_out ?_ | refine gk_loopret ?_ | refine gk_loopexit ?_ | refine gq_nil ?_) | (with_reducible refine gc_drq ?_; intro _) | (show GO _ _ _ _ _ (⟨some _, none, _⟩ :: _) _; first | refine go_op (hk := ?_) | (refine go_nw (hk := ?_); intro u; try simp only [List.length_cons, List.length_nil, List.nil_append, Nat.zero_add]) | (refine go_np (hk := ?_); intro id)) | (show GQ _ _ _ _ _ _ _ (⟨some _, none, _⟩ :: _) _; first | refine gq_op (hk := ?_) | (refine gq_nw (hk := ?_); intro u; try simp only [List.length_cons, List.length_nil, List.nil_append, Nat.zero_add])) | (show GO _ _ _ _ _ (⟨none, none, _⟩ :: _) _; refine go_st (hk := ?_)) | (show GO _ _ _ _ _ (⟨_, some _, _⟩ :: _) _; first | refine go_in (hk := ?_) | refine go_out (hk := ?_) | refine go_void (hk := ?_)) | (show GQ _ _ _ _ _ _ _ (⟨_, some _, _⟩ :: _) _; first | refine gq_in (hk := ?_) | refine gq_out (hk := ?_) | refine gq_void (hk := ?_)) | (show GK _ _ _ _ (blockK _ _ _); refine gk_past rfl ?_) | (show GC _ _ _ _ _ (.cond _ _ _) _; first | refine gc_yes (h1 := ?_) | refine gc_no (h1 := ?_))))
  refine gc_up (xs.length + ys.length) (fun i => [(0, a), (1, b), (5, .int .i64 (gapT xs ys i)), (6, u), (7, .int .i64 (i : Int))]) (fun _ => [.rwI u (xs.length + ys.length) (xs ++ ys), .roI a xs.length xs, .roI b ys.length ys]) (hb := ?_)
  intro i hi I ν m hk
  have g1 := gapT_in xs ys (by omega) (by omega) i
  have g2 := gapV_in xs ys (nth (xs ++ ys) i) (by omega) (by omega)
  (repeat (first | with_reducible (first | refine go_nil ?_ | refine gk_seq ?_ | refine gc_seq ?_ | refine gc_reg ?_ | refine gc_skip ?_ | refine gk_block ?_ | refine gc_block ?_ | refine gc_exit ?_ | refine gc_ret ?_ | refine gk_seqret ?_ | refine gk_seqexit ?_ | refine gk_blockret ?_ | refine gk_out ?_ | refine gk_loopret ?_ | refine gk_loopexit ?_ | refine gq_nil ?_) | (with_reducible refine gc_drq ?_; intro _) | (show GO _ _ _ _ _ (⟨some _, none, _⟩ :: _) _; first | refine go_op (hk := ?_) | (refine go_nw (hk := ?_); intro u; try simp only [List.length_cons, List.length_nil, List.nil_append, Nat.zero_add]) | (refine go_np (hk := ?_); intro id)) | (show GQ _ _ _ _ _ _ _ (⟨some _, none, _⟩ :: _) _; first | refine gq_op (hk := ?_) | (refine gq_nw (hk := ?_); intro u; try simp only [List.length_cons, List.length_nil, List.nil_append, Nat.zero_add])) | (show GO _ _ _ _ _ (⟨none, none, _⟩ :: _) _; refine go_st (hk := ?_)) | (show GO _ _ _ _ _ (⟨_, some _, _⟩ :: _) _; first | refine go_in (hk := ?_) | refine go_out (hk := ?_) | refine go_void (hk := ?_)) | (show GQ _ _ _ _ _ _ _ (⟨_, some _, _⟩ :: _) _; first | refine gq_in (hk := ?_) | refine gq_out (hk := ?_) | refine gq_void (hk := ?_)) | (show GK _ _ _ _ (blockK _ _ _); refine gk_past rfl ?_) | (show GC _ _ _ _ _ (.cond _ _ _) _; first | refine gc_yes (h1 := ?_) | refine gc_no (h1 := ?_))))
  refine gc_cond rfl (fun h => ?_) (fun h => ?_)
  · have hk := hk (by omega)
    (repeat (first | with_reducible (first | refine go_nil ?_ | refine gk_seq ?_ | refine gc_seq ?_ | refine gc_reg ?_ | refine gc_skip ?_ | refine gk_block ?_ | refine gc_block ?_ | refine gc_exit ?_ | refine gc_ret ?_ | refine gk_seqret ?_ | refine gk_seqexit ?_ | refine gk_blockret ?_ | refine gk_out ?_ | refine gk_loopret ?_ | refine gk_loopexit ?_ | refine gq_nil ?_) | (show GO _ _ _ _ _ (⟨some _, none, _⟩ :: _) _; first | refine go_op (hk := ?_) | (refine go_nw (hk := ?_); intro u; try simp only [List.length_cons, List.length_nil, List.nil_append, Nat.zero_add]) | (refine go_np (hk := ?_); intro id)) | (show GQ _ _ _ _ _ _ _ (⟨some _, none, _⟩ :: _) _; first | refine gq_op (hk := ?_) | (refine gq_nw (hk := ?_); intro u; try simp only [List.length_cons, List.length_nil, List.nil_append, Nat.zero_add])) | (show GO _ _ _ _ _ (⟨none, none, _⟩ :: _) _; refine go_st (hk := ?_)) | (show GO _ _ _ _ _ (⟨_, some _, _⟩ :: _) _; first | refine go_in (hk := ?_) | refine go_out (hk := ?_) | refine go_void (hk := ?_)) | (show GQ _ _ _ _ _ _ _ (⟨_, some _, _⟩ :: _) _; first | refine gq_in (hk := ?_) | refine gq_out (hk := ?_) | refine gq_void (hk := ?_)) | (show GK _ _ _ _ (blockK _ _ _); refine gk_past rfl ?_) | (show GC _ _ _ _ _ (.cond _ _ _) _; first | refine gc_yes (h1 := ?_) | refine gc_no (h1 := ?_))))
    refine gc_drqt (fun H => qtTab [(fn_spec_upTo, dUp H)]) (fun H hH => qtTab_cons dUp_ok qtTab_nil) (fun H0 => ?_)
    (repeat (first | with_reducible (first | refine go_nil ?_ | refine gk_seq ?_ | refine gc_seq ?_ | refine gc_reg ?_ | refine gc_skip ?_ | refine gk_block ?_ | refine gc_block ?_ | refine gc_exit ?_ | refine gc_ret ?_ | refine gk_seqret ?_ | refine gk_seqexit ?_ | refine gk_blockret ?_ | refine gk_out ?_ | refine gk_loopret ?_ | refine gk_loopexit ?_ | refine gq_nil ?_) | (show GO _ _ _ _ _ (⟨some _, none, _⟩ :: _) _; first | refine go_op (hk := ?_) | (refine go_nw (hk := ?_); intro u; try simp only [List.length_cons, List.length_nil, List.nil_append, Nat.zero_add]) | (refine go_np (hk := ?_); intro id)) | (show GQ _ _ _ _ _ _ _ (⟨some _, none, _⟩ :: _) _; first | refine gq_op (hk := ?_) | (refine gq_nw (hk := ?_); intro u; try simp only [List.length_cons, List.length_nil, List.nil_append, Nat.zero_add])) | (show GO _ _ _ _ _ (⟨none, none, _⟩ :: _) _; refine go_st (hk := ?_)) | (show GO _ _ _ _ _ (⟨_, some _, _⟩ :: _) _; first | refine go_in (hk := ?_) | refine go_out (hk := ?_) | refine go_void (hk := ?_)) | (show GQ _ _ _ _ _ _ _ (⟨_, some _, _⟩ :: _) _; first | refine gq_in (hk := ?_) | refine gq_out (hk := ?_) | refine gq_void (hk := ?_)) | (show GK _ _ _ _ (blockK _ _ _); refine gk_past rfl ?_) | (show GC _ _ _ _ _ (.cond _ _ _) _; first | refine gc_yes (h1 := ?_) | refine gc_no (h1 := ?_))))
    refine gq_call rfl (fun hH => dUp_is (hH.ints (by exact Has.auto)) (by omega)) ?_
    (repeat (first | with_reducible (first | refine go_nil ?_ | refine gk_seq ?_ | refine gc_seq ?_ | refine gc_reg ?_ | refine gc_skip ?_ | refine gk_block ?_ | refine gc_block ?_ | refine gc_exit ?_ | refine gc_ret ?_ | refine gk_seqret ?_ | refine gk_seqexit ?_ | refine gk_blockret ?_ | refine gk_out ?_ | refine gk_loopret ?_ | refine gk_loopexit ?_ | refine gq_nil ?_) | (show GO _ _ _ _ _ (⟨some _, none, _⟩ :: _) _; first | refine go_op (hk := ?_) | (refine go_nw (hk := ?_); intro u; try simp only [List.length_cons, List.length_nil, List.nil_append, Nat.zero_add]) | (refine go_np (hk := ?_); intro id)) | (show GQ _ _ _ _ _ _ _ (⟨some _, none, _⟩ :: _) _; first | refine gq_op (hk := ?_) | (refine gq_nw (hk := ?_); intro u; try simp only [List.length_cons, List.length_nil, List.nil_append, Nat.zero_add])) | (show GO _ _ _ _ _ (⟨none, none, _⟩ :: _) _; refine go_st (hk := ?_)) | (show GO _ _ _ _ _ (⟨_, some _, _⟩ :: _) _; first | refine go_in (hk := ?_) | refine go_out (hk := ?_) | refine go_void (hk := ?_)) | (show GQ _ _ _ _ _ _ _ (⟨_, some _, _⟩ :: _) _; first | refine gq_in (hk := ?_) | refine gq_out (hk := ?_) | refine gq_void (hk := ?_)) | (show GK _ _ _ _ (blockK _ _ _); refine gk_past rfl ?_) | (show GC _ _ _ _ _ (.cond _ _ _) _; first | refine gc_yes (h1 := ?_) | refine gc_no (h1 := ?_))))
    refine gq_call rfl (fun hH => dUp_is (hH.ints (by exact Has.auto)) (by omega)) ?_
    (repeat (first | with_reducible (first | refine go_nil ?_ | refine gk_seq ?_ | refine gc_seq ?_ | refine gc_reg ?_ | refine gc_skip ?_ | refine gk_block ?_ | refine gc_block ?_ | refine gc_exit ?_ | refine gc_ret ?_ | refine gk_seqret ?_ | refine gk_seqexit ?_ | refine gk_blockret ?_ | refine gk_out ?_ | refine gk_loopret ?_ | refine gk_loopexit ?_ | refine gq_nil ?_) | (show GO _ _ _ _ _ (⟨some _, none, _⟩ :: _) _; first | refine go_op (hk := ?_) | (refine go_nw (hk := ?_); intro u; try simp only [List.length_cons, List.length_nil, List.nil_append, Nat.zero_add]) | (refine go_np (hk := ?_); intro id)) | (show GQ _ _ _ _ _ _ _ (⟨some _, none, _⟩ :: _) _; first | refine gq_op (hk := ?_) | (refine gq_nw (hk := ?_); intro u; try simp only [List.length_cons, List.length_nil, List.nil_append, Nat.zero_add])) | (show GO _ _ _ _ _ (⟨none, none, _⟩ :: _) _; refine go_st (hk := ?_)) | (show GO _ _ _ _ _ (⟨_, some _, _⟩ :: _) _; first | refine go_in (hk := ?_) | refine go_out (hk := ?_) | refine go_void (hk := ?_)) | (show GQ _ _ _ _ _ _ _ (⟨_, some _, _⟩ :: _) _; first | refine gq_in (hk := ?_) | refine gq_out (hk := ?_) | refine gq_void (hk := ?_)) | (show GK _ _ _ _ (blockK _ _ _); refine gk_past rfl ?_) | (show GC _ _ _ _ _ (.cond _ _ _) _; first | refine gc_yes (h1 := ?_) | refine gc_no (h1 := ?_))))
    exact gk_next hk
  · have : i = xs.length + ys.length := by omega
    subst this
    (repeat (first | with_reducible (first | refine go_nil ?_ | refine gk_seq ?_ | refine gc_seq ?_ | refine gc_reg ?_ | refine gc_skip ?_ | refine gk_block ?_ | refine gc_block ?_ | refine gc_exit ?_ | refine gc_ret ?_ | refine gk_seqret ?_ | refine gk_seqexit ?_ | refine gk_blockret ?_ | refine gk_out ?_ | refine gk_loopret ?_ | refine gk_loopexit ?_ | refine gq_nil ?_) | (with_reducible refine gc_drq ?_; intro _) | (show GO _ _ _ _ _ (⟨some _, none, _⟩ :: _) _; first | refine go_op (hk := ?_) | (refine go_nw (hk := ?_); intro u; try simp only [List.length_cons, List.length_nil, List.nil_append, Nat.zero_add]) | (refine go_np (hk := ?_); intro id)) | (show GQ _ _ _ _ _ _ _ (⟨some _, none, _⟩ :: _) _; first | refine gq_op (hk := ?_) | (refine gq_nw (hk := ?_); intro u; try simp only [List.length_cons, List.length_nil, List.nil_append, Nat.zero_add])) | (show GO _ _ _ _ _ (⟨none, none, _⟩ :: _) _; refine go_st (hk := ?_)) | (show GO _ _ _ _ _ (⟨_, some _, _⟩ :: _) _; first | refine go_in (hk := ?_) | refine go_out (hk := ?_) | refine go_void (hk := ?_)) | (show GQ _ _ _ _ _ _ _ (⟨_, some _, _⟩ :: _) _; first | refine gq_in (hk := ?_) | refine gq_out (hk := ?_) | refine gq_void (hk := ?_)) | (show GK _ _ _ _ (blockK _ _ _); refine gk_past rfl ?_) | (show GC _ _ _ _ _ (.cond _ _ _) _; first | refine gc_yes (h1 := ?_) | refine gc_no (h1 := ?_))))
    exact gk_ret rfl fun H' hH => ⟨rfl, hH.leE⟩

noncomputable def goA (xs ys : List Int) : Int := if Samples xs ys then gapL xs ys else -1

def GcOk (xs ys : List Int) : Prop := Samples xs ys ∧ xs.length ≤ 6 ∧ ys.length ≤ 6 ∧ tiesOf (xs ++ ys) = []

noncomputable instance (xs ys : List Int) : Decidable (GcOk xs ys) := Classical.propDecidable _

noncomputable def gcB (xs ys : List Int) : Int := if GcOk xs ys then (cb (xs.length + ys.length) xs.length : Nat) else -1

noncomputable def gcA (xs ys : List Int) : Int := if GcOk xs ys then (cb (xs.length + ys.length) xs.length : Nat) - (pwN xs.length ys.length (gapL xs ys - 1) : Nat) else -1

theorem specGapChance_ok {H : Heap} {a b : AV} {xs ys : List Int} (ha : Ints H a xs) (hb : Ints H b ys) (hl : xs.length ≤ 1000000000) (hl' : ys.length ≤ 1000000000) :
    ACalls Try.prog fn_spec_GapChance [a, b] H fun r H' => r = .tuple [.int .i64 (gcA xs ys), .int .i64 (gcB xs ys)] ∧ H' = H := by
  refine ACalls.val ?_ rfl
  refine code_spec_GapChance.go [.roI a xs.length xs, .roI b ys.length ys] ⟨⟨rfl, ha⟩, ⟨rfl, hb⟩, trivial⟩ (by simp) ?_
  unfold mc_spec_GapChance
  (repeat (first | with_reducible (first | refine go_nil ?_ | refine gk_seq ?_ | refine gc_seq ?_ | refine gc_reg ?_ | refine gc_skip ?_ | refine gk_block ?_ | refine gc_block ?_ | refine gc_exit ?_ | refine gc_ret ?_ | refine gk_seqret ?_ | refine gk_seqexit ?_ | refine gk_blockret ?_ | refine gk_out ?_ | refine gk_loopret ?_ | refine gk_loopexit ?_) | (show GO _ _ _ _ _ (⟨some _, none, .call _ _⟩ :: _) _; first | (show GO _ _ _ _ _ (⟨some _, none, .call fn_spec_validSamples _⟩ :: _) _; refine go_specSamples (hk := ?_); try intro u) | (show GO _ _ _ _ _ (⟨some _, none, .call fn_spec_TiesOf _⟩ :: _) _; refine go_calln rfl code_spec_TiesOf.callable (fun H hH => specTiesOf_ok (hH.ints (by exact Has.auto)) (by omega)) ?_; intro u) | (show GO _ _ _ _ _ (⟨some _, none, .call fn_spec_choose _⟩ :: _) _; refine go_callp rfl code_spec_choose.callable (fun H hH => specChoose_cb (by omega) (by omega)) ?_)) | (show GO _ _ _ _ _ (⟨some _, none, _⟩ :: _) _; first | refine go_op (hk := ?_) | (refine go_nw (hk := ?_); intro u; try simp only [List.length_cons, List.length_nil, List.nil_append, Nat.zero_add]) | (refine go_np (hk := ?_); intro id)) | (show GO _ _ _ _ _ (⟨none, none, _⟩ :: _) _; refine go_st (hk := ?_)) | (show GO _ _ _ _ _ (⟨_, some _, _⟩ :: _) _; first | refine go_in (hk := ?_) | refine go_out (hk := ?_) | refine go_void (hk := ?_)) | (show GK _ _ _ _ (blockK _ _ _); refine gk_past rfl ?_) | (show GC _ _ _ _ _ (.cond _ _ _) _; first | refine gc_yes (h1 := ?_) | refine gc_no (h1 := ?_))))
  refine go_split 11 rfl (fun h1 => ?_) (fun h1 => ?_)
  · (repeat (first | with_reducible (first | refine go_nil ?_ | refine gk_seq ?_ | refine gc_seq ?_ | refine gc_reg ?_ | refine gc_skip ?_ | refine gk_block ?_ | refine gc_block ?_ | refine gc_exit ?_ | refine gc_ret ?_ | refine gk_seqret ?_ | refine gk_seqexit ?_ | refine gk_blockret ?_ | refine gk_out ?_ | refine gk_loopret ?_ | refine gk_loopexit ?_) | (show GO _ _ _ _ _ (⟨some _, none, .call _ _⟩ :: _) _; first | (show GO _ _ _ _ _ (⟨some _, none, .call fn_spec_validSamples _⟩ :: _) _; refine go_specSamples (hk := ?_); try intro u) | (show GO _ _ _ _ _ (⟨some _, none, .call fn_spec_TiesOf _⟩ :: _) _; refine go_calln rfl code_spec_TiesOf.callable (fun H hH => specTiesOf_ok (hH.ints (by exact Has.auto)) (by omega)) ?_; intro u) | (show GO _ _ _ _ _ (⟨some _, none, .call fn_spec_choose _⟩ :: _) _; refine go_callp rfl code_spec_choose.callable (fun H hH => specChoose_cb (by omega) (by omega)) ?_)) | (show GO _ _ _ _ _ (⟨some _, none, _⟩ :: _) _; first | refine go_op (hk := ?_) | (refine go_nw (hk := ?_); intro u; try simp only [List.length_cons, List.length_nil, List.nil_append, Nat.zero_add]) | (refine go_np (hk := ?_); intro id)) | (show GO _ _ _ _ _ (⟨none, none, _⟩ :: _) _; refine go_st (hk := ?_)) | (show GO _ _ _ _ _ (⟨_, some _, _⟩ :: _) _; first | refine go_in (hk := ?_) | refine go_out (hk := ?_) | refine go_void (hk := ?_)) | (show GK _ _ _ _ (blockK _ _ _); refine gk_past rfl ?_) | (show GC _ _ _ _ _ (.cond _ _ _) _; first | refine gc_yes (h1 := ?_) | refine gc_no (h1 := ?_))))
    have hg : ¬ GcOk xs ys := fun hg => h1 hg.1
    exact gk_ret rfl fun H' hH => ⟨by simp [tupleOf, gcA, gcB, hg], hH.leE⟩
  (repeat (first | with_reducible (first | refine go_nil ?_ | refine gk_seq ?_ | refine gc_seq ?_ | refine gc_reg ?_ | refine gc_skip ?_ | refine gk_block ?_ | refine gc_block ?_ | refine gc_exit ?_ | refine gc_ret ?_ | refine gk_seqret ?_ | refine gk_seqexit ?_ | refine gk_blockret ?_ | refine gk_out ?_ | refine gk_loopret ?_ | refine gk_loopexit ?_) | (show GO _ _ _ _ _ (⟨some _, none, .call _ _⟩ :: _) _; first | (show GO _ _ _ _ _ (⟨some _, none, .call fn_spec_validSamples _⟩ :: _) _; refine go_specSamples (hk := ?_); try intro u) | (show GO _ _ _ _ _ (⟨some _, none, .call fn_spec_TiesOf _⟩ :: _) _; refine go_calln rfl code_spec_TiesOf.callable (fun H hH => specTiesOf_ok (hH.ints (by exact Has.auto)) (by omega)) ?_; intro u) | (show GO _ _ _ _ _ (⟨some _, none, .call fn_spec_choose _⟩ :: _) _; refine go_callp rfl code_spec_choose.callable (fun H hH => specChoose_cb (by omega) (by omega)) ?_)) | (show GO _ _ _ _ _ (⟨some _, none, _⟩ :: _) _; first | refine go_op (hk := ?_) | (refine go_nw (hk := ?_); intro u; try simp only [List.length_cons, List.length_nil, List.nil_append, Nat.zero_add]) | (refine go_np (hk := ?_); intro id)) | (show GO _ _ _ _ _ (⟨none, none, _⟩ :: _) _; refine go_st (hk := ?_)) | (show GO _ _ _ _ _ (⟨_, some _, _⟩ :: _) _; first | refine go_in (hk := ?_) | refine go_out (hk := ?_) | refine go_void (hk := ?_)) | (show GK _ _ _ _ (blockK _ _ _); refine gk_past rfl ?_) | (show GC _ _ _ _ _ (.cond _ _ _) _; first | refine gc_yes (h1 := ?_) | refine gc_no (h1 := ?_))))
  refine go_split 16 rfl (fun h2 => ?_) (fun h2 => ?_)
  · (repeat (first | with_reducible (first | refine go_nil ?_ | refine gk_seq ?_ | refine gc_seq ?_ | refine gc_reg ?_ | refine gc_skip ?_ | refine gk_block ?_ | refine gc_block ?_ | refine gc_exit ?_ | refine gc_ret ?_ | refine gk_seqret ?_ | refine gk_seqexit ?_ | refine gk_blockret ?_ | refine gk_out ?_ | refine gk_loopret ?_ | refine gk_loopexit ?_) | (show GO _ _ _ _ _ (⟨some _, none, .call _ _⟩ :: _) _; first | (show GO _ _ _ _ _ (⟨some _, none, .call fn_spec_validSamples _⟩ :: _) _; refine go_specSamples (hk := ?_); try intro u) | (show GO _ _ _ _ _ (⟨some _, none, .call fn_spec_TiesOf _⟩ :: _) _; refine go_calln rfl code_spec_TiesOf.callable (fun H hH => specTiesOf_ok (hH.ints (by exact Has.auto)) (by omega)) ?_; intro u) | (show GO _ _ _ _ _ (⟨some _, none, .call fn_spec_choose _⟩ :: _) _; refine go_callp rfl code_spec_choose.callable (fun H hH => specChoose_cb (by omega) (by omega)) ?_)) | (show GO _ _ _ _ _ (⟨some _, none, _⟩ :: _) _; first | refine go_op (hk := ?_) | (refine go_nw (hk := ?_); intro u; try simp only [List.length_cons, List.length_nil, List.nil_append, Nat.zero_add]) | (refine go_np (hk := ?_); intro id)) | (show GO _ _ _ _ _ (⟨none, none, _⟩ :: _) _; refine go_st (hk := ?_)) | (show GO _ _ _ _ _ (⟨_, some _, _⟩ :: _) _; first | refine go_in (hk := ?_) | refine go_out (hk := ?_) | refine go_void (hk := ?_)) | (show GK _ _ _ _ (blockK _ _ _); refine gk_past rfl ?_) | (show GC _ _ _ _ _ (.cond _ _ _) _; first | refine gc_yes (h1 := ?_) | refine gc_no (h1 := ?_))))
    have hg : ¬ GcOk xs ys := fun hg => by have := hg.2.1; omega
    exact gk_ret rfl fun H' hH => ⟨by simp [tupleOf, gcA, gcB, hg], hH.leE⟩
  (repeat (first | with_reducible (first | refine go_nil ?_ | refine gk_seq ?_ | refine gc_seq ?_ | refine gc_reg ?_ | refine gc_skip ?_ | refine gk_block ?_ | refine gc_block ?_ | refine gc_exit ?_ | refine gc_ret ?_ | refine gk_seqret ?_ | refine gk_seqexit ?_ | refine gk_blockret ?_ | refine gk_out ?_ | refine gk_loopret ?_ | refine gk_loopexit ?_) | (show GO _ _ _ _ _ (⟨some _, none, .call _ _⟩ :: _) _; first | (show GO _ _ _ _ _ (⟨some _, none, .call fn_spec_validSamples _⟩ :: _) _; refine go_specSamples (hk := ?_); try intro u) | (show GO _ _ _ _ _ (⟨some _, none, .call fn_spec_TiesOf _⟩ :: _) _; refine go_calln rfl code_spec_TiesOf.callable (fun H hH => specTiesOf_ok (hH.ints (by exact Has.auto)) (by omega)) ?_; intro u) | (show GO _ _ _ _ _ (⟨some _, none, .call fn_spec_choose _⟩ :: _) _; refine go_callp rfl code_spec_choose.callable (fun H hH => specChoose_cb (by omega) (by omega)) ?_)) | (show GO _ _ _ _ _ (⟨some _, none, _⟩ :: _) _; first | refine go_op (hk := ?_) | (refine go_nw (hk := ?_); intro u; try simp only [List.length_cons, List.length_nil, List.nil_append, Nat.zero_add]) | (refine go_np (hk := ?_); intro id)) | (show GO _ _ _ _ _ (⟨none, none, _⟩ :: _) _; refine go_st (hk := ?_)) | (show GO _ _ _ _ _ (⟨_, some _, _⟩ :: _) _; first | refine go_in (hk := ?_) | refine go_out (hk := ?_) | refine go_void (hk := ?_)) | (show GK _ _ _ _ (blockK _ _ _); refine gk_past rfl ?_) | (show GC _ _ _ _ _ (.cond _ _ _) _; first | refine gc_yes (h1 := ?_) | refine gc_no (h1 := ?_))))
  refine go_split 21 rfl (fun h3 => ?_) (fun h3 => ?_)
  · (repeat (first | with_reducible (first | refine go_nil ?_ | refine gk_seq ?_ | refine gc_seq ?_ | refine gc_reg ?_ | refine gc_skip ?_ | refine gk_block ?_ | refine gc_block ?_ | refine gc_exit ?_ | refine gc_ret ?_ | refine gk_seqret ?_ | refine gk_seqexit ?_ | refine gk_blockret ?_ | refine gk_out ?_ | refine gk_loopret ?_ | refine gk_loopexit ?_) | (show GO _ _ _ _ _ (⟨some _, none, .call _ _⟩ :: _) _; first | (show GO _ _ _ _ _ (⟨some _, none, .call fn_spec_validSamples _⟩ :: _) _; refine go_specSamples (hk := ?_); try intro u) | (show GO _ _ _ _ _ (⟨some _, none, .call fn_spec_TiesOf _⟩ :: _) _; refine go_calln rfl code_spec_TiesOf.callable (fun H hH => specTiesOf_ok (hH.ints (by exact Has.auto)) (by omega)) ?_; intro u) | (show GO _ _ _ _ _ (⟨some _, none, .call fn_spec_choose _⟩ :: _) _; refine go_callp rfl code_spec_choose.callable (fun H hH => specChoose_cb (by omega) (by omega)) ?_)) | (show GO _ _ _ _ _ (⟨some _, none, _⟩ :: _) _; first | refine go_op (hk := ?_) | (refine go_nw (hk := ?_); intro u; try simp only [List.length_cons, List.length_nil, List.nil_append, Nat.zero_add]) | (refine go_np (hk := ?_); intro id)) | (show GO _ _ _ _ _ (⟨none, none, _⟩ :: _) _; refine go_st (hk := ?_)) | (show GO _ _ _ _ _ (⟨_, some _, _⟩ :: _) _; first | refine go_in (hk := ?_) | refine go_out (hk := ?_) | refine go_void (hk := ?_)) | (show GK _ _ _ _ (blockK _ _ _); refine gk_past rfl ?_) | (show GC _ _ _ _ _ (.cond _ _ _) _; first | refine gc_yes (h1 := ?_) | refine gc_no (h1 := ?_))))
    have hg : ¬ GcOk xs ys := fun hg => by have := hg.2.2.1; omega
    exact gk_ret rfl fun H' hH => ⟨by simp [tupleOf, gcA, gcB, hg], hH.leE⟩
  have hs : Samples xs ys := Decidable.not_not.1 h1
  have hs2 := hs.2
  have hlen : (xs ++ ys).length = xs.length + ys.length := List.length_append
  (repeat (first | with_reducible (first | refine go_nil ?_ | refine gk_seq ?_ | refine gc_seq ?_ | refine gc_reg ?_ | refine gc_skip ?_ | refine gk_block ?_ | refine gc_block ?_ | refine gc_exit ?_ | refine gc_ret ?_ | refine gk_seqret ?_ | refine gk_seqexit ?_ | refine gk_blockret ?_ | refine gk_out ?_ | refine gk_loopret ?_ | refine gk_loopexit ?_) | (show GO _ _ _ _ _ (⟨some _, none, .call _ _⟩ :: _) _; first | (show GO _ _ _ _ _ (⟨some _, none, .call fn_spec_validSamples _⟩ :: _) _; refine go_specSamples (hk := ?_); try intro u) | (show GO _ _ _ _ _ (⟨some _, none, .call fn_spec_TiesOf _⟩ :: _) _; refine go_calln rfl code_spec_TiesOf.callable (fun H hH => specTiesOf_ok (hH.ints (by exact Has.auto)) (by omega)) ?_; intro u) | (show GO _ _ _ _ _ (⟨some _, none, .call fn_spec_choose _⟩ :: _) _; refine go_callp rfl code_spec_choose.callable (fun H hH => specChoose_cb (by omega) (by omega)) ?_)) | (show GO _ _ _ _ _ (⟨some _, none, _⟩ :: _) _; first | refine go_op (hk := ?_) | (refine go_nw (hk := ?_); intro u; try simp only [List.length_cons, List.length_nil, List.nil_append, Nat.zero_add]) | (refine go_np (hk := ?_); intro id)) | (show GO _ _ _ _ _ (⟨none, none, _⟩ :: _) _; refine go_st (hk := ?_)) | (show GO _ _ _ _ _ (⟨_, some _, _⟩ :: _) _; first | refine go_in (hk := ?_) | refine go_out (hk := ?_) | refine go_void (hk := ?_)) | (show GK _ _ _ _ (blockK _ _ _); refine gk_past rfl ?_) | (show GC _ _ _ _ _ (.cond _ _ _) _; first | refine gc_yes (h1 := ?_) | refine gc_no (h1 := ?_))))
  refine gc_cond rfl (fun h4 => ?_) (fun h4 => ?_)
  · (repeat (first | with_reducible (first | refine go_nil ?_ | refine gk_seq ?_ | refine gc_seq ?_ | refine gc_reg ?_ | refine gc_skip ?_ | refine gk_block ?_ | refine gc_block ?_ | refine gc_exit ?_ | refine gc_ret ?_ | refine gk_seqret ?_ | refine gk_seqexit ?_ | refine gk_blockret ?_ | refine gk_out ?_ | refine gk_loopret ?_ | refine gk_loopexit ?_) | (show GO _ _ _ _ _ (⟨some _, none, .call _ _⟩ :: _) _; first | (show GO _ _ _ _ _ (⟨some _, none, .call fn_spec_validSamples _⟩ :: _) _; refine go_specSamples (hk := ?_); try intro u) | (show GO _ _ _ _ _ (⟨some _, none, .call fn_spec_TiesOf _⟩ :: _) _; refine go_calln rfl code_spec_TiesOf.callable (fun H hH => specTiesOf_ok (hH.ints (by exact Has.auto)) (by omega)) ?_; intro u) | (show GO _ _ _ _ _ (⟨some _, none, .call fn_spec_choose _⟩ :: _) _; refine go_callp rfl code_spec_choose.callable (fun H hH => specChoose_cb (by omega) (by omega)) ?_)) | (show GO _ _ _ _ _ (⟨some _, none, _⟩ :: _) _; first | refine go_op (hk := ?_) | (refine go_nw (hk := ?_); intro u; try simp only [List.length_cons, List.length_nil, List.nil_append, Nat.zero_add]) | (refine go_np (hk := ?_); intro id)) | (show GO _ _ _ _ _ (⟨none, none, _⟩ :: _) _; refine go_st (hk := ?_)) | (show GO _ _ _ _ _ (⟨_, some _, _⟩ :: _) _; first | refine go_in (hk := ?_) | refine go_out (hk := ?_) | refine go_void (hk := ?_)) | (show GK _ _ _ _ (blockK _ _ _); refine gk_past rfl ?_) | (show GC _ _ _ _ _ (.cond _ _ _) _; first | refine gc_yes (h1 := ?_) | refine gc_no (h1 := ?_))))
    have hg : ¬ GcOk xs ys := fun hg => by have := hg.2.2.2; rw [this] at h4; simp at h4
    exact gk_ret rfl fun H' hH => ⟨by simp [tupleOf, gcA, gcB, hg], hH.leE⟩
  have hg : GcOk xs ys := ⟨hs, by omega, by omega, List.eq_nil_of_length_eq_zero (by omega)⟩
  have g1 := gapT_in xs ys (by omega) (by omega) (xs.length + ys.length)
  rw [← gapL] at g1
  have g3 := pfN_le xs.length ys.length (gapL xs ys - 1) (xs.length + ys.length + 2) 0 0
  rw [← pwN] at g3
  have g4 : 2 ^ (xs.length + ys.length + 2) ≤ 2 ^ 14 := Nat.pow_le_pow_right (by decide) (by omega)
  have g5 := cb_le (xs.length + ys.length) (by omega) xs.length (by omega)
  (repeat (first | with_reducible (first | refine go_nil ?_ | refine gk_seq ?_ | refine gc_seq ?_ | refine gc_reg ?_ | refine gc_skip ?_ | refine gk_block ?_ | refine gc_block ?_ | refine gc_exit ?_ | refine gc_ret ?_ | refine gk_seqret ?_ | refine gk_seqexit ?_ | refine gk_blockret ?_ | refine gk_out ?_ | refine gk_loopret ?_ | refine gk_loopexit ?_) | (show GO _ _ _ _ _ (⟨some _, none, .call _ _⟩ :: _) _; first | (show GO _ _ _ _ _ (⟨some _, none, .call fn_spec_validSamples _⟩ :: _) _; refine go_specSamples (hk := ?_); try intro u) | (show GO _ _ _ _ _ (⟨some _, none, .call fn_spec_TiesOf _⟩ :: _) _; refine go_calln rfl code_spec_TiesOf.callable (fun H hH => specTiesOf_ok (hH.ints (by exact Has.auto)) (by omega)) ?_; intro u) | (show GO _ _ _ _ _ (⟨some _, none, .call fn_spec_choose _⟩ :: _) _; refine go_callp rfl code_spec_choose.callable (fun H hH => specChoose_cb (by omega) (by omega)) ?_)) | (show GO _ _ _ _ _ (⟨some _, none, _⟩ :: _) _; first | refine go_op (hk := ?_) | (refine go_nw (hk := ?_); intro u; try simp only [List.length_cons, List.length_nil, List.nil_append, Nat.zero_add]) | (refine go_np (hk := ?_); intro id)) | (show GO _ _ _ _ _ (⟨none, none, _⟩ :: _) _; refine go_st (hk := ?_)) | (show GO _ _ _ _ _ (⟨_, some _, _⟩ :: _) _; first | refine go_in (hk := ?_) | refine go_out (hk := ?_) | refine go_void (hk := ?_)) | (show GK _ _ _ _ (blockK _ _ _); refine gk_past rfl ?_) | (show GC _ _ _ _ _ (.cond _ _ _) _; first | refine gc_yes (h1 := ?_) | refine gc_no (h1 := ?_))))
  refine go_callp rfl code_spec_gap.callable (fun H hH => specGap_ok (hH.ints (by exact Has.auto)) (hH.ints (by exact Has.auto)) hs2.1) ?_
  (repeat (first | with_reducible (first | refine go_nil ?_ | refine gk_seq ?_ | refine gc_seq ?_ | refine gc_reg ?_ | refine gc_skip ?_ | refine gk_block ?_ | refine gc_block ?_ | refine gc_exit ?_ | refine gc_ret ?_ | refine gk_seqret ?_ | refine gk_seqexit ?_ | refine gk_blockret ?_ | refine gk_out ?_ | refine gk_loopret ?_ | refine gk_loopexit ?_) | (show GO _ _ _ _ _ (⟨some _, none, .call _ _⟩ :: _) _; first | (show GO _ _ _ _ _ (⟨some _, none, .call fn_spec_validSamples _⟩ :: _) _; refine go_specSamples (hk := ?_); try intro u) | (show GO _ _ _ _ _ (⟨some _, none, .call fn_spec_TiesOf _⟩ :: _) _; refine go_calln rfl code_spec_TiesOf.callable (fun H hH => specTiesOf_ok (hH.ints (by exact Has.auto)) (by omega)) ?_; intro u) | (show GO _ _ _ _ _ (⟨some _, none, .call fn_spec_choose _⟩ :: _) _; refine go_callp rfl code_spec_choose.callable (fun H hH => specChoose_cb (by omega) (by omega)) ?_)) | (show GO _ _ _ _ _ (⟨some _, none, _⟩ :: _) _; first | refine go_op (hk := ?_) | (refine go_nw (hk := ?_); intro u; try simp only [List.length_cons, List.length_nil, List.nil_append, Nat.zero_add]) | (refine go_np (hk := ?_); intro id)) | (show GO _ _ _ _ _ (⟨none, none, _⟩ :: _) _; refine go_st (hk := ?_)) | (show GO _ _ _ _ _ (⟨_, some _, _⟩ :: _) _; first | refine go_in (hk := ?_) | refine go_out (hk := ?_) | refine go_void (hk := ?_)) | (show GK _ _ _ _ (blockK _ _ _); refine gk_past rfl ?_) | (show GC _ _ _ _ _ (.cond _ _ _) _; first | refine gc_yes (h1 := ?_) | refine gc_no (h1 := ?_))))
  refine go_callp rfl code_spec_pathsFrom.callable (fun H hH => specPaths0_ok (by omega) (by omega) (by omega)) ?_
  (repeat (first | with_reducible (first | refine go_nil ?_ | refine gk_seq ?_ | refine gc_seq ?_ | refine gc_reg ?_ | refine gc_skip ?_ | refine gk_block ?_ | refine gc_block ?_ | refine gc_exit ?_ | refine gc_ret ?_ | refine gk_seqret ?_ | refine gk_seqexit ?_ | refine gk_blockret ?_ | refine gk_out ?_ | refine gk_loopret ?_ | refine gk_loopexit ?_) | (show GO _ _ _ _ _ (⟨some _, none, .call _ _⟩ :: _) _; first | (show GO _ _ _ _ _ (⟨some _, none, .call fn_spec_validSamples _⟩ :: _) _; refine go_specSamples (hk := ?_); try intro u) | (show GO _ _ _ _ _ (⟨some _, none, .call fn_spec_TiesOf _⟩ :: _) _; refine go_calln rfl code_spec_TiesOf.callable (fun H hH => specTiesOf_ok (hH.ints (by exact Has.auto)) (by omega)) ?_; intro u) | (show GO _ _ _ _ _ (⟨some _, none, .call fn_spec_choose _⟩ :: _) _; refine go_callp rfl code_spec_choose.callable (fun H hH => specChoose_cb (by omega) (by omega)) ?_)) | (show GO _ _ _ _ _ (⟨some _, none, _⟩ :: _) _; first | refine go_op (hk := ?_) | (refine go_nw (hk := ?_); intro u; try simp only [List.length_cons, List.length_nil, List.nil_append, Nat.zero_add]) | (refine go_np (hk := ?_); intro id)) | (show GO _ _ _ _ _ (⟨none, none, _⟩ :: _) _; refine go_st (hk := ?_)) | (show GO _ _ _ _ _ (⟨_, some _, _⟩ :: _) _; first | refine go_in (hk := ?_) | refine go_out (hk := ?_) | refine go_void (hk := ?_)) | (show GK _ _ _ _ (blockK _ _ _); refine gk_past rfl ?_) | (show GC _ _ _ _ _ (.cond _ _ _) _; first | refine gc_yes (h1 := ?_) | refine gc_no (h1 := ?_))))
  exact gk_ret rfl fun H' hH => ⟨by simp [tupleOf, gcA, gcB, hg], hH.leE⟩

theorem drawGapChance_ok {A : Heap} {X : List Nat} {S : Sig} {H : Heap} {cv : AV} {bs : List Int} (hS : SOk A X S H.size H) (hh : Has S cv 1 bs.length (bytesL bs)) (hb : ∀ i, 0 ≤ nth bs i ∧ nth bs i ≤ 255) (hl : bs.length ≤ 1048576) :
    ACalls Try.prog fn_spec_DrawGapChance [cv] H fun r H' => ∃ g : D2, r = .tuple [g.u, g.v] ∧ SOk A X (.rwI g.v g.ys.length g.ys :: .rwI g.u g.xs.length g.xs :: S) H'.size H' ∧ g.xs.length ≤ 21 ∧ Bd 1000 g.xs ∧ g.ys.length ≤ 21 ∧ Bd 1000 g.ys := by
  refine code_spec_DrawGapChance.gon (R := [byt cv bs]) (V := fun g : D2 => .tuple [g.u, g.v]) (T := fun g => [.rwI g.v g.ys.length g.ys, .rwI g.u g.xs.length g.xs]) (Φ := fun g => g.xs.length ≤ 21 ∧ Bd 1000 g.xs ∧ g.ys.length ≤ 21 ∧ Bd 1000 g.ys) hS ⟨⟨rfl, hS.valsA hh⟩, trivial⟩ (fun _ => rfl) (by simp) ?_
  unfold mc_spec_DrawGapChance
  (repeat (first | with_reducible (first | refine go_nil ?_ | refine gk_seq ?_ | refine gc_seq ?_ | refine gc_reg ?_ | refine gc_skip ?_ | refine gk_block ?_ | refine gc_block ?_ | refine gc_exit ?_ | refine gc_ret ?_ | refine gk_seqret ?_ | refine gk_seqexit ?_ | refine gk_blockret ?_ | refine gk_out ?_ | refine gk_loopret ?_ | refine gk_loopexit ?_) | (show GO _ _ _ _ _ (⟨some _, none, .call _ _⟩ :: _) _; first | (show GO _ _ _ _ _ (⟨some _, none, .call fn_spec_newReader _⟩ :: _) _; refine go_callg rfl code_spec_newReader.callable (fun H hH => newReaderC_ok hH (c := ⟨.cell, .ptr _ 0, 4, 1, [_, _, _, _]⟩) Sel.head rfl (by exact Has.auto) (by assumption) (by omega)) ?_; intro g hg) | (show GO _ _ _ _ _ (⟨some _, none, .call fn_spec_newReader _⟩ :: _) _; refine go_callg rfl code_spec_newReader.callable (fun H hH => newReader_ok hH (by exact Has.auto) (by assumption) (by omega)) ?_; intro g hg) | (show GO _ _ _ _ _ (⟨some _, none, .call fn_spec_reader_pick _⟩ :: _) _; refine go_callg rfl code_spec_reader_pick.callable (fun H hH => pick_ok hH (by exact Sel.auto) (by exact SubF.auto) (by assumption) (by omega)) ?_; intro g hg) | (show GO _ _ _ _ _ (⟨some _, none, .call fn_spec_twoSamples _⟩ :: _) _; refine go_callg rfl code_spec_twoSamples.callable (fun H hH => twoSamples_ok hH (by exact Sel.auto) (by exact SubF.auto) (by assumption) (by omega)) ?_; intro g hg) | (show GO _ _ _ _ _ (⟨some _, none, .call fn_spec_reader_one _⟩ :: _) _; refine go_callg rfl code_spec_reader_one.callable (fun H hH => one_ok hH (by exact Sel.auto) (by exact SubF.auto) (by rfl) (by assumption) (by omega) (by first | omega | decide) (by first | omega | decide)) ?_; intro g hg)) | (show GO _ _ _ _ _ (⟨some _, none, _⟩ :: _) _; first | refine go_op (hk := ?_) | (refine go_nw (hk := ?_); intro u; try simp only [List.length_cons, List.length_nil, List.nil_append, Nat.zero_add]) | (refine go_np (hk := ?_); intro id)) | (show GO _ _ _ _ _ (⟨none, none, _⟩ :: _) _; refine go_st (hk := ?_)) | (show GO _ _ _ _ _ (⟨_, some _, _⟩ :: _) _; first | refine go_in (hk := ?_) | refine go_out (hk := ?_) | refine go_void (hk := ?_)) | (show GK _ _ _ _ (blockK _ _ _); refine gk_past rfl ?_) | (show GC _ _ _ _ _ (.cond _ _ _) _; first | refine gc_yes (h1 := ?_) | refine gc_no (h1 := ?_))))
  refine gc_cond rfl (fun h => ?_) (fun h => ?_)
  · (repeat (first | with_reducible (first | refine go_nil ?_ | refine gk_seq ?_ | refine gc_seq ?_ | refine gc_reg ?_ | refine gc_skip ?_ | refine gk_block ?_ | refine gc_block ?_ | refine gc_exit ?_ | refine gc_ret ?_ | refine gk_seqret ?_ | refine gk_seqexit ?_ | refine gk_blockret ?_ | refine gk_out ?_ | refine gk_loopret ?_ | refine gk_loopexit ?_) | (show GO _ _ _ _ _ (⟨some _, none, .call _ _⟩ :: _) _; first | (show GO _ _ _ _ _ (⟨some _, none, .call fn_spec_newReader _⟩ :: _) _; refine go_callg rfl code_spec_newReader.callable (fun H hH => newReaderC_ok hH (c := ⟨.cell, .ptr _ 0, 4, 1, [_, _, _, _]⟩) Sel.head rfl (by exact Has.auto) (by assumption) (by omega)) ?_; intro g hg) | (show GO _ _ _ _ _ (⟨some _, none, .call fn_spec_newReader _⟩ :: _) _; refine go_callg rfl code_spec_newReader.callable (fun H hH => newReader_ok hH (by exact Has.auto) (by assumption) (by omega)) ?_; intro g hg) | (show GO _ _ _ _ _ (⟨some _, none, .call fn_spec_reader_pick _⟩ :: _) _; refine go_callg rfl code_spec_reader_pick.callable (fun H hH => pick_ok hH (by exact Sel.auto) (by exact SubF.auto) (by assumption) (by omega)) ?_; intro g hg) | (show GO _ _ _ _ _ (⟨some _, none, .call fn_spec_twoSamples _⟩ :: _) _; refine go_callg rfl code_spec_twoSamples.callable (fun H hH => twoSamples_ok hH (by exact Sel.auto) (by exact SubF.auto) (by assumption) (by omega)) ?_; intro g hg) | (show GO _ _ _ _ _ (⟨some _, none, .call fn_spec_reader_one _⟩ :: _) _; refine go_callg rfl code_spec_reader_one.callable (fun H hH => one_ok hH (by exact Sel.auto) (by exact SubF.auto) (by rfl) (by assumption) (by omega) (by first | omega | decide) (by first | omega | decide)) ?_; intro g hg)) | (show GO _ _ _ _ _ (⟨some _, none, _⟩ :: _) _; first | refine go_op (hk := ?_) | (refine go_nw (hk := ?_); intro u; try simp only [List.length_cons, List.length_nil, List.nil_append, Nat.zero_add]) | (refine go_np (hk := ?_); intro id)) | (show GO _ _ _ _ _ (⟨none, none, _⟩ :: _) _; refine go_st (hk := ?_)) | (show GO _ _ _ _ _ (⟨_, some _, _⟩ :: _) _; first | refine go_in (hk := ?_) | refine go_out (hk := ?_) | refine go_void (hk := ?_)) | (show GK _ _ _ _ (blockK _ _ _); refine gk_past rfl ?_) | (show GC _ _ _ _ _ (.cond _ _ _) _; first | refine gc_yes (h1 := ?_) | refine gc_no (h1 := ?_))))
    exact gk_ret rfl fun H' hH => ⟨g, rfl, ⟨hg.1, hg.2.1, hg.2.2.1, hg.2.2.2.1⟩, hH.sub (by exact Sub.auto)⟩
  (repeat (first | with_reducible (first | refine go_nil ?_ | refine gk_seq ?_ | refine gc_seq ?_ | refine gc_reg ?_ | refine gc_skip ?_ | refine gk_block ?_ | refine gc_block ?_ | refine gc_exit ?_ | refine gc_ret ?_ | refine gk_seqret ?_ | refine gk_seqexit ?_ | refine gk_blockret ?_ | refine gk_out ?_ | refine gk_loopret ?_ | refine gk_loopexit ?_) | (show GO _ _ _ _ _ (⟨some _, none, .call _ _⟩ :: _) _; first | (show GO _ _ _ _ _ (⟨some _, none, .call fn_spec_newReader _⟩ :: _) _; refine go_callg rfl code_spec_newReader.callable (fun H hH => newReaderC_ok hH (c := ⟨.cell, .ptr _ 0, 4, 1, [_, _, _, _]⟩) Sel.head rfl (by exact Has.auto) (by assumption) (by omega)) ?_; intro g hg) | (show GO _ _ _ _ _ (⟨some _, none, .call fn_spec_newReader _⟩ :: _) _; refine go_callg rfl code_spec_newReader.callable (fun H hH => newReader_ok hH (by exact Has.auto) (by assumption) (by omega)) ?_; intro g hg) | (show GO _ _ _ _ _ (⟨some _, none, .call fn_spec_reader_pick _⟩ :: _) _; refine go_callg rfl code_spec_reader_pick.callable (fun H hH => pick_ok hH (by exact Sel.auto) (by exact SubF.auto) (by assumption) (by omega)) ?_; intro g hg) | (show GO _ _ _ _ _ (⟨some _, none, .call fn_spec_twoSamples _⟩ :: _) _; refine go_callg rfl code_spec_twoSamples.callable (fun H hH => twoSamples_ok hH (by exact Sel.auto) (by exact SubF.auto) (by assumption) (by omega)) ?_; intro g hg) | (show GO _ _ _ _ _ (⟨some _, none, .call fn_spec_reader_one _⟩ :: _) _; refine go_callg rfl code_spec_reader_one.callable (fun H hH => one_ok hH (by exact Sel.auto) (by exact SubF.auto) (by rfl) (by assumption) (by omega) (by first | omega | decide) (by first | omega | decide)) ?_; intro g hg)) | (show GO _ _ _ _ _ (⟨some _, none, _⟩ :: _) _; first | refine go_op (hk := ?_) | (refine go_nw (hk := ?_); intro u; try simp only [List.length_cons, List.length_nil, List.nil_append, Nat.zero_add]) | (refine go_np (hk := ?_); intro id)) | (show GO _ _ _ _ _ (⟨none, none, _⟩ :: _) _; refine go_st (hk := ?_)) | (show GO _ _ _ _ _ (⟨_, some _, _⟩ :: _) _; first | refine go_in (hk := ?_) | refine go_out (hk := ?_) | refine go_void (hk := ?_)) | (show GK _ _ _ _ (blockK _ _ _); refine gk_past rfl ?_) | (show GC _ _ _ _ _ (.cond _ _ _) _; first | refine gc_yes (h1 := ?_) | refine gc_no (h1 := ?_))))
  rename_i g4 hg4 g3 hg3 u5 u6
  simp only [List.mem_cons, List.not_mem_nil, or_false] at hg
  refine gc_loop (γ := D2 × Int) (fun t => [(4, .ptr g4.id 0), (5, t.1.u), (6, t.1.v), (7, .int .i64 t.2), (8, .int .i64 g)]) (fun t => [.rwI t.1.u t.1.xs.length t.1.xs, .rwI t.1.v t.1.ys.length t.1.ys, rdr g4.id g4.v t.1.q, byt g4.v g4.bs]) (fun t => t.1.xs.length + t.1.ys.length ≤ 8 ∧ Bd 1000 t.1.xs ∧ Bd 1000 t.1.ys ∧ (-20 ≤ t.2 ∧ t.2 ≤ -20 + 6 * ((t.1.xs.length : Int) + t.1.ys.length)) ∧ t.1.q ≤ 100 + 2 * (t.1.xs.length + t.1.ys.length)) (fun t => 8 - (t.1.xs.length + t.1.ys.length)) (⟨u5, u6, [], [], 2⟩, -20) ⟨by simp, by simp [Bd], by simp [Bd], by simp, by simp⟩ (hb := ?_)
  rintro ⟨⟨uu, v, xs, ys, q⟩, p⟩ ⟨h1, h2, h3, h4, h5⟩ I ν m hk
  simp only at h1 h2 h3 h4 h5 hk ⊢
  (repeat (first | with_reducible (first | refine go_nil ?_ | refine gk_seq ?_ | refine gc_seq ?_ | refine gc_reg ?_ | refine gc_skip ?_ | refine gk_block ?_ | refine gc_block ?_ | refine gc_exit ?_ | refine gc_ret ?_ | refine gk_seqret ?_ | refine gk_seqexit ?_ | refine gk_blockret ?_ | refine gk_out ?_ | refine gk_loopret ?_ | refine gk_loopexit ?_) | (show GO _ _ _ _ _ (⟨some _, none, .call _ _⟩ :: _) _; first | (show GO _ _ _ _ _ (⟨some _, none, .call fn_spec_newReader _⟩ :: _) _; refine go_callg rfl code_spec_newReader.callable (fun H hH => newReaderC_ok hH (c := ⟨.cell, .ptr _ 0, 4, 1, [_, _, _, _]⟩) Sel.head rfl (by exact Has.auto) (by assumption) (by omega)) ?_; intro g hg) | (show GO _ _ _ _ _ (⟨some _, none, .call fn_spec_newReader _⟩ :: _) _; refine go_callg rfl code_spec_newReader.callable (fun H hH => newReader_ok hH (by exact Has.auto) (by assumption) (by omega)) ?_; intro g hg) | (show GO _ _ _ _ _ (⟨some _, none, .call fn_spec_reader_pick _⟩ :: _) _; refine go_callg rfl code_spec_reader_pick.callable (fun H hH => pick_ok hH (by exact Sel.auto) (by exact SubF.auto) (by assumption) (by omega)) ?_; intro g hg) | (show GO _ _ _ _ _ (⟨some _, none, .call fn_spec_twoSamples _⟩ :: _) _; refine go_callg rfl code_spec_twoSamples.callable (fun H hH => twoSamples_ok hH (by exact Sel.auto) (by exact SubF.auto) (by assumption) (by omega)) ?_; intro g hg) | (show GO _ _ _ _ _ (⟨some _, none, .call fn_spec_reader_one _⟩ :: _) _; refine go_callg rfl code_spec_reader_one.callable (fun H hH => one_ok hH (by exact Sel.auto) (by exact SubF.auto) (by rfl) (by assumption) (by omega) (by first | omega | decide) (by first | omega | decide)) ?_; intro g hg)) | (show GO _ _ _ _ _ (⟨some _, none, _⟩ :: _) _; first | refine go_op (hk := ?_) | (refine go_nw (hk := ?_); intro u; try simp only [List.length_cons, List.length_nil, List.nil_append, Nat.zero_add]) | (refine go_np (hk := ?_); intro id)) | (show GO _ _ _ _ _ (⟨none, none, _⟩ :: _) _; refine go_st (hk := ?_)) | (show GO _ _ _ _ _ (⟨_, some _, _⟩ :: _) _; first | refine go_in (hk := ?_) | refine go_out (hk := ?_) | refine go_void (hk := ?_)) | (show GK _ _ _ _ (blockK _ _ _); refine gk_past rfl ?_) | (show GC _ _ _ _ _ (.cond _ _ _) _; first | refine gc_yes (h1 := ?_) | refine gc_no (h1 := ?_))))
  refine gc_cond rfl (fun h6 => ?_) (fun h6 => ?_)
  · (repeat (first | with_reducible (first | refine go_nil ?_ | refine gk_seq ?_ | refine gc_seq ?_ | refine gc_reg ?_ | refine gc_skip ?_ | refine gk_block ?_ | refine gc_block ?_ | refine gc_exit ?_ | refine gc_ret ?_ | refine gk_seqret ?_ | refine gk_seqexit ?_ | refine gk_blockret ?_ | refine gk_out ?_ | refine gk_loopret ?_ | refine gk_loopexit ?_) | (show GO _ _ _ _ _ (⟨some _, none, .call _ _⟩ :: _) _; first | (show GO _ _ _ _ _ (⟨some _, none, .call fn_spec_newReader _⟩ :: _) _; refine go_callg rfl code_spec_newReader.callable (fun H hH => newReaderC_ok hH (c := ⟨.cell, .ptr _ 0, 4, 1, [_, _, _, _]⟩) Sel.head rfl (by exact Has.auto) (by assumption) (by omega)) ?_; intro g hg) | (show GO _ _ _ _ _ (⟨some _, none, .call fn_spec_newReader _⟩ :: _) _; refine go_callg rfl code_spec_newReader.callable (fun H hH => newReader_ok hH (by exact Has.auto) (by assumption) (by omega)) ?_; intro g hg) | (show GO _ _ _ _ _ (⟨some _, none, .call fn_spec_reader_pick _⟩ :: _) _; refine go_callg rfl code_spec_reader_pick.callable (fun H hH => pick_ok hH (by exact Sel.auto) (by exact SubF.auto) (by assumption) (by omega)) ?_; intro g hg) | (show GO _ _ _ _ _ (⟨some _, none, .call fn_spec_twoSamples _⟩ :: _) _; refine go_callg rfl code_spec_twoSamples.callable (fun H hH => twoSamples_ok hH (by exact Sel.auto) (by exact SubF.auto) (by assumption) (by omega)) ?_; intro g hg) | (show GO _ _ _ _ _ (⟨some _, none, .call fn_spec_reader_one _⟩ :: _) _; refine go_callg rfl code_spec_reader_one.callable (fun H hH => one_ok hH (by exact Sel.auto) (by exact SubF.auto) (by rfl) (by assumption) (by omega) (by first | omega | decide) (by first | omega | decide)) ?_; intro g hg)) | (show GO _ _ _ _ _ (⟨some _, none, _⟩ :: _) _; first | refine go_op (hk := ?_) | (refine go_nw (hk := ?_); intro u; try simp only [List.length_cons, List.length_nil, List.nil_append, Nat.zero_add]) | (refine go_np (hk := ?_); intro id)) | (show GO _ _ _ _ _ (⟨none, none, _⟩ :: _) _; refine go_st (hk := ?_)) | (show GO _ _ _ _ _ (⟨_, some _, _⟩ :: _) _; first | refine go_in (hk := ?_) | refine go_out (hk := ?_) | refine go_void (hk := ?_)) | (show GK _ _ _ _ (blockK _ _ _); refine gk_past rfl ?_) | (show GC _ _ _ _ _ (.cond _ _ _) _; first | refine gc_yes (h1 := ?_) | refine gc_no (h1 := ?_))))
    rename_i p1 hp1 p2 hp2
    refine gc_cond rfl (fun h7 => ?_) (fun h7 => ?_)
    · have hx : -1000 ≤ p + 1 + p2 ∧ p + 1 + p2 ≤ 1000 := by omega
      (repeat (first | with_reducible (first | refine go_nil ?_ | refine gk_seq ?_ | refine gc_seq ?_ | refine gc_reg ?_ | refine gc_skip ?_ | refine gk_block ?_ | refine gc_block ?_ | refine gc_exit ?_ | refine gc_ret ?_ | refine gk_seqret ?_ | refine gk_seqexit ?_ | refine gk_blockret ?_ | refine gk_out ?_ | refine gk_loopret ?_ | refine gk_loopexit ?_) | (show GO _ _ _ _ _ (⟨some _, none, .call _ _⟩ :: _) _; first | (show GO _ _ _ _ _ (⟨some _, none, .call fn_spec_newReader _⟩ :: _) _; refine go_callg rfl code_spec_newReader.callable (fun H hH => newReaderC_ok hH (c := ⟨.cell, .ptr _ 0, 4, 1, [_, _, _, _]⟩) Sel.head rfl (by exact Has.auto) (by assumption) (by omega)) ?_; intro g hg) | (show GO _ _ _ _ _ (⟨some _, none, .call fn_spec_newReader _⟩ :: _) _; refine go_callg rfl code_spec_newReader.callable (fun H hH => newReader_ok hH (by exact Has.auto) (by assumption) (by omega)) ?_; intro g hg) | (show GO _ _ _ _ _ (⟨some _, none, .call fn_spec_reader_pick _⟩ :: _) _; refine go_callg rfl code_spec_reader_pick.callable (fun H hH => pick_ok hH (by exact Sel.auto) (by exact SubF.auto) (by assumption) (by omega)) ?_; intro g hg) | (show GO _ _ _ _ _ (⟨some _, none, .call fn_spec_twoSamples _⟩ :: _) _; refine go_callg rfl code_spec_twoSamples.callable (fun H hH => twoSamples_ok hH (by exact Sel.auto) (by exact SubF.auto) (by assumption) (by omega)) ?_; intro g hg) | (show GO _ _ _ _ _ (⟨some _, none, .call fn_spec_reader_one _⟩ :: _) _; refine go_callg rfl code_spec_reader_one.callable (fun H hH => one_ok hH (by exact Sel.auto) (by exact SubF.auto) (by rfl) (by assumption) (by omega) (by first | omega | decide) (by first | omega | decide)) ?_; intro g hg)) | (show GO _ _ _ _ _ (⟨some _, none, _⟩ :: _) _; first | refine go_op (hk := ?_) | (refine go_nw (hk := ?_); intro u; try simp only [List.length_cons, List.length_nil, List.nil_append, Nat.zero_add]) | (refine go_np (hk := ?_); intro id)) | (show GO _ _ _ _ _ (⟨none, none, _⟩ :: _) _; refine go_st (hk := ?_)) | (show GO _ _ _ _ _ (⟨_, some _, _⟩ :: _) _; first | refine go_in (hk := ?_) | refine go_out (hk := ?_) | refine go_void (hk := ?_)) | (show GK _ _ _ _ (blockK _ _ _); refine gk_past rfl ?_) | (show GC _ _ _ _ _ (.cond _ _ _) _; first | refine gc_yes (h1 := ?_) | refine gc_no (h1 := ?_))))
      have hk := hk (⟨u, v, xs ++ [p + 1 + p2], ys, q + 1 + 1⟩, p + 1 + p2) ⟨by simp; omega, h2.app (Bd.one hx), h3, by simp only [List.length_append, List.length_cons, List.length_nil]; omega, by simp; omega⟩ (by simp; omega)
      simp only [List.length_append, List.length_cons, List.length_nil, Nat.zero_add] at hk
      exact gk_next hk
    · have hx : -1000 ≤ p + 1 + p2 ∧ p + 1 + p2 ≤ 1000 := by omega
      (repeat (first | with_reducible (first | refine go_nil ?_ | refine gk_seq ?_ | refine gc_seq ?_ | refine gc_reg ?_ | refine gc_skip ?_ | refine gk_block ?_ | refine gc_block ?_ | refine gc_exit ?_ | refine gc_ret ?_ | refine gk_seqret ?_ | refine gk_seqexit ?_ | refine gk_blockret ?_ | refine gk_out ?_ | refine gk_loopret ?_ | refine gk_loopexit ?_) | (show GO _ _ _ _ _ (⟨some _, none, .call _ _⟩ :: _) _; first | (show GO _ _ _ _ _ (⟨some _, none, .call fn_spec_newReader _⟩ :: _) _; refine go_callg rfl code_spec_newReader.callable (fun H hH => newReaderC_ok hH (c := ⟨.cell, .ptr _ 0, 4, 1, [_, _, _, _]⟩) Sel.head rfl (by exact Has.auto) (by assumption) (by omega)) ?_; intro g hg) | (show GO _ _ _ _ _ (⟨some _, none, .call fn_spec_newReader _⟩ :: _) _; refine go_callg rfl code_spec_newReader.callable (fun H hH => newReader_ok hH (by exact Has.auto) (by assumption) (by omega)) ?_; intro g hg) | (show GO _ _ _ _ _ (⟨some _, none, .call fn_spec_reader_pick _⟩ :: _) _; refine go_callg rfl code_spec_reader_pick.callable (fun H hH => pick_ok hH (by exact Sel.auto) (by exact SubF.auto) (by assumption) (by omega)) ?_; intro g hg) | (show GO _ _ _ _ _ (⟨some _, none, .call fn_spec_twoSamples _⟩ :: _) _; refine go_callg rfl code_spec_twoSamples.callable (fun H hH => twoSamples_ok hH (by exact Sel.auto) (by exact SubF.auto) (by assumption) (by omega)) ?_; intro g hg) | (show GO _ _ _ _ _ (⟨some _, none, .call fn_spec_reader_one _⟩ :: _) _; refine go_callg rfl code_spec_reader_one.callable (fun H hH => one_ok hH (by exact Sel.auto) (by exact SubF.auto) (by rfl) (by assumption) (by omega) (by first | omega | decide) (by first | omega | decide)) ?_; intro g hg)) | (show GO _ _ _ _ _ (⟨some _, none, _⟩ :: _) _; first | refine go_op (hk := ?_) | (refine go_nw (hk := ?_); intro u; try simp only [List.length_cons, List.length_nil, List.nil_append, Nat.zero_add]) | (refine go_np (hk := ?_); intro id)) | (show GO _ _ _ _ _ (⟨none, none, _⟩ :: _) _; refine go_st (hk := ?_)) | (show GO _ _ _ _ _ (⟨_, some _, _⟩ :: _) _; first | refine go_in (hk := ?_) | refine go_out (hk := ?_) | refine go_void (hk := ?_)) | (show GK _ _ _ _ (blockK _ _ _); refine gk_past rfl ?_) | (show GC _ _ _ _ _ (.cond _ _ _) _; first | refine gc_yes (h1 := ?_) | refine gc_no (h1 := ?_))))
      have hk := hk (⟨uu, u, xs, ys ++ [p + 1 + p2], q + 1 + 1⟩, p + 1 + p2) ⟨by simp; omega, h2, h3.app (Bd.one hx), by simp only [List.length_append, List.length_cons, List.length_nil]; omega, by simp; omega⟩ (by simp; omega)
      simp only [List.length_append, List.length_cons, List.length_nil, Nat.zero_add] at hk
      exact gk_next hk
  · (repeat (first | with_reducible (first | refine go_nil ?_ | refine gk_seq ?_ | refine gc_seq ?_ | refine gc_reg ?_ | refine gc_skip ?_ | refine gk_block ?_ | refine gc_block ?_ | refine gc_exit ?_ | refine gc_ret ?_ | refine gk_seqret ?_ | refine gk_seqexit ?_ | refine gk_blockret ?_ | refine gk_out ?_ | refine gk_loopret ?_ | refine gk_loopexit ?_) | (show GO _ _ _ _ _ (⟨some _, none, .call _ _⟩ :: _) _; first | (show GO _ _ _ _ _ (⟨some _, none, .call fn_spec_newReader _⟩ :: _) _; refine go_callg rfl code_spec_newReader.callable (fun H hH => newReaderC_ok hH (c := ⟨.cell, .ptr _ 0, 4, 1, [_, _, _, _]⟩) Sel.head rfl (by exact Has.auto) (by assumption) (by omega)) ?_; intro g hg) | (show GO _ _ _ _ _ (⟨some _, none, .call fn_spec_newReader _⟩ :: _) _; refine go_callg rfl code_spec_newReader.callable (fun H hH => newReader_ok hH (by exact Has.auto) (by assumption) (by omega)) ?_; intro g hg) | (show GO _ _ _ _ _ (⟨some _, none, .call fn_spec_reader_pick _⟩ :: _) _; refine go_callg rfl code_spec_reader_pick.callable (fun H hH => pick_ok hH (by exact Sel.auto) (by exact SubF.auto) (by assumption) (by omega)) ?_; intro g hg) | (show GO _ _ _ _ _ (⟨some _, none, .call fn_spec_twoSamples _⟩ :: _) _; refine go_callg rfl code_spec_twoSamples.callable (fun H hH => twoSamples_ok hH (by exact Sel.auto) (by exact SubF.auto) (by assumption) (by omega)) ?_; intro g hg) | (show GO _ _ _ _ _ (⟨some _, none, .call fn_spec_reader_one _⟩ :: _) _; refine go_callg rfl code_spec_reader_one.callable (fun H hH => one_ok hH (by exact Sel.auto) (by exact SubF.auto) (by rfl) (by assumption) (by omega) (by first | omega | decide) (by first | omega | decide)) ?_; intro g hg)) | (show GO _ _ _ _ _ (⟨some _, none, _⟩ :: _) _; first | refine go_op (hk := ?_) | (refine go_nw (hk := ?_); intro u; try simp only [List.length_cons, List.length_nil, List.nil_append, Nat.zero_add]) | (refine go_np (hk := ?_); intro id)) | (show GO _ _ _ _ _ (⟨none, none, _⟩ :: _) _; refine go_st (hk := ?_)) | (show GO _ _ _ _ _ (⟨_, some _, _⟩ :: _) _; first | refine go_in (hk := ?_) | refine go_out (hk := ?_) | refine go_void (hk := ?_)) | (show GK _ _ _ _ (blockK _ _ _); refine gk_past rfl ?_) | (show GC _ _ _ _ _ (.cond _ _ _) _; first | refine gc_yes (h1 := ?_) | refine gc_no (h1 := ?_))))
    exact gk_ret rfl fun H' hH => ⟨⟨uu, v, xs, ys, 0⟩, rfl, ⟨by simp only; omega, h2, by simp only; omega, h3⟩, hH.sub (by exact Sub.auto)⟩

def DrOk (p : List Int × List Int) (B : Nat) : Prop := p.2.length = p.1.length ∧ p.1.length ≤ B ∧ ∀ x ∈ p.2, 0 ≤ x ∧ x ≤ (B : Int)

theorem DrOk.mono {p : List Int × List Int} {B C : Nat} (h : DrOk p B) (hc : B ≤ C) : DrOk p C := ⟨h.1, by have := h.2.1; omega, fun x hx => by have := h.2.2 x hx; omega⟩

theorem pf_swap (m n : Nat) (d : Int) : ∀ f i k, pfN m n d f i k = pfN n m d f k i
  | 0, _, _ => rfl
  | f + 1, i, k => by
    have ho : pfOut m n d i k ↔ pfOut n m d k i := by unfold pfOut; omega
    rw [pfN, pfN, pf_swap m n d f, pf_swap m n d f, Nat.add_comm (pfN n m d f k (i + 1))]
    by_cases h : pfOut m n d i k
    · rw [if_pos h, if_pos (ho.1 h)]
    · rw [if_neg h, if_neg (fun h2 => h (ho.2 h2))]
      by_cases h3 : i = m ∧ k = n
      · rw [if_pos h3, if_pos ⟨h3.2, h3.1⟩]
      · rw [if_neg h3, if_neg (fun h4 => h3 ⟨h4.2, h4.1⟩)]

theorem pw_swap (m n : Nat) (d : Int) : pwN m n d = pwN n m d := by
  unfold pwN
  rw [pf_swap, Nat.add_comm m n]

theorem cb_facts6 : ∀ a, a < 7 → ∀ b, b < 7 → cb (a + 1 + (b + 1)) (a + 1) = cb (a + (b + 1)) a + cb (a + 1 + b) (a + 1) ∧ cb b 0 = 1 ∧ cb a a = 1 ∧ cb (a + b) a = cb (b + a) b ∧ 1 ≤ cb (a + b) a := by decide +kernel

/-- no more ways than without a bound -/
theorem pf_le {m n : Nat} {d : Int} (hm : m ≤ 6) (hn : n ≤ 6) : ∀ f a b, a ≤ m → b ≤ n → pfN m n d f (m - a) (n - b) ≤ cb (a + b) a ∧ pfN m n d f (m + 1) (n - b) = 0 ∧ pfN m n d f (m - a) (n + 1) = 0
  | 0, a, b, _, _ => ⟨Nat.zero_le _, rfl, rfl⟩
  | f + 1, a, b, ha, hb => by
    refine ⟨?_, by rw [pfN, if_pos (.inl (by omega))], by rw [pfN, if_pos (.inr (.inl (by omega)))]⟩
    have hc := (cb_facts6 a (by omega) b (by omega)).2.2.2.2
    rw [pfN]
    by_cases h1 : pfOut m n d (m - a) (n - b)
    · rw [if_pos h1]; exact Nat.zero_le _
    rw [if_neg h1]
    by_cases h2 : m - a = m ∧ n - b = n
    · rw [if_pos h2]; exact hc
    rw [if_neg h2]
    rcases Nat.eq_zero_or_pos a with rfl | ha0
    · rcases Nat.eq_zero_or_pos b with rfl | hb0
      · omega
      · obtain ⟨b, rfl⟩ : ∃ j, b = j + 1 := ⟨b - 1, by omega⟩
        have e1 := (pf_le (d := d) hm hn f 0 (b + 1) (by omega) hb).2.1
        have e2 := (pf_le (d := d) hm hn f 0 b (by omega) (by omega)).1
        rw [show m - 0 + 1 = m + 1 by omega, show n - (b + 1) + 1 = n - b by omega, e1]
        have c1 := (cb_facts6 0 (by omega) b (by omega)).2.1
        have c2 := (cb_facts6 0 (by omega) (b + 1) (by omega)).2.1
        simp only [Nat.zero_add] at e2 ⊢
        omega
    · obtain ⟨a, rfl⟩ : ∃ j, a = j + 1 := ⟨a - 1, by omega⟩
      rcases Nat.eq_zero_or_pos b with rfl | hb0
      · have e1 := (pf_le (d := d) hm hn f (a + 1) 0 ha (by omega)).2.2
        have e2 := (pf_le (d := d) hm hn f a 0 (by omega) (by omega)).1
        rw [show n - 0 + 1 = n + 1 by omega, show m - (a + 1) + 1 = m - a by omega, e1]
        have c1 := (cb_facts6 a (by omega) 0 (by omega)).2.2.1
        have c2 := (cb_facts6 (a + 1) (by omega) 0 (by omega)).2.2.1
        simp only [Nat.add_zero] at e2 ⊢
        omega
      · obtain ⟨b, rfl⟩ : ∃ j, b = j + 1 := ⟨b - 1, by omega⟩
        have e1 := (pf_le (d := d) hm hn f a (b + 1) (by omega) hb).1
        have e2 := (pf_le (d := d) hm hn f (a + 1) b ha (by omega)).1
        have c := (cb_facts6 a (by omega) b (by omega)).1
        rw [show m - (a + 1) + 1 = m - a by omega, show n - (b + 1) + 1 = n - b by omega, c]
        omega

/-- all ways, where the bound is wide -/
theorem pf_all {m n : Nat} {d : Int} (hm : m ≤ 6) (hn : n ≤ 6) (hd : ∀ i k : Nat, i ≤ m → k ≤ n → ¬ pfOut m n d i k) : ∀ f a b, a ≤ m → b ≤ n → a + b < f → pfN m n d f (m - a) (n - b) = cb (a + b) a
  | 0, a, b, _, _, h => by omega
  | f + 1, a, b, ha, hb, hf => by
    rw [pfN, if_neg (hd _ _ (by omega) (by omega))]
    by_cases h2 : m - a = m ∧ n - b = n
    · have : (a = 0 ∧ b = 0) ∨ m = 0 ∨ n = 0 := by omega
      rw [if_pos h2]
      have c1 := (cb_facts6 a (by omega) b (by omega)).2.1
      by_cases ha0 : a = 0
      · subst ha0; rw [Nat.zero_add]; exact c1.symm
      · exfalso; omega
    rw [if_neg h2]
    rcases Nat.eq_zero_or_pos a with rfl | ha0
    · rcases Nat.eq_zero_or_pos b with rfl | hb0
      · omega
      · obtain ⟨b, rfl⟩ : ∃ j, b = j + 1 := ⟨b - 1, by omega⟩
        have e1 := (pf_le (d := d) hm hn f 0 (b + 1) (by omega) hb).2.1
        have e2 := pf_all hm hn hd f 0 b (by omega) (by omega) (by omega)
        rw [show m - 0 + 1 = m + 1 by omega, show n - (b + 1) + 1 = n - b by omega, e1]
        have c1 := (cb_facts6 0 (by omega) b (by omega)).2.1
        have c2 := (cb_facts6 0 (by omega) (b + 1) (by omega)).2.1
        simp only [Nat.zero_add] at e2 ⊢
        omega
    · obtain ⟨a, rfl⟩ : ∃ j, a = j + 1 := ⟨a - 1, by omega⟩
      rcases Nat.eq_zero_or_pos b with rfl | hb0
      · have e1 := (pf_le (d := d) hm hn f (a + 1) 0 ha (by omega)).2.2
        have e2 := pf_all hm hn hd f a 0 (by omega) (by omega) (by omega)
        rw [show n - 0 + 1 = n + 1 by omega, show m - (a + 1) + 1 = m - a by omega, e1]
        have c1 := (cb_facts6 a (by omega) 0 (by omega)).2.2.1
        have c2 := (cb_facts6 (a + 1) (by omega) 0 (by omega)).2.2.1
        simp only [Nat.add_zero] at e2 ⊢
        omega
      · obtain ⟨b, rfl⟩ : ∃ j, b = j + 1 := ⟨b - 1, by omega⟩
        have e1 := pf_all hm hn hd f a (b + 1) (by omega) hb (by omega)
        have e2 := pf_all hm hn hd f (a + 1) b ha (by omega) (by omega)
        have c := (cb_facts6 a (by omega) b (by omega)).1
        rw [show m - (a + 1) + 1 = m - a by omega, show n - (b + 1) + 1 = n - b by omega, c]
        omega

theorem pw_all {m n : Nat} (hm : m ≤ 6) (hn : n ≤ 6) : pwN m n ((m : Int) * (n : Int)) = cb (m + n) m := by
  have h := pf_all (d := (m : Int) * (n : Int)) hm hn (fun i k hi hk => by
    have h1 := Int.mul_le_mul (a := (i : Int)) (b := (n : Int)) (c := (m : Int)) (d := (n : Int)) (by omega) (Int.le_refl _) (by omega) (by omega)
    have h2 := Int.mul_le_mul (a := (k : Int)) (b := (m : Int)) (c := (n : Int)) (d := (m : Int)) (by omega) (Int.le_refl _) (by omega) (by omega)
    have h3 := Int.mul_nonneg (a := (i : Int)) (b := (n : Int)) (by omega) (by omega)
    have h4 := Int.mul_nonneg (a := (k : Int)) (b := (m : Int)) (by omega) (by omega)
    have h5 := Int.mul_comm (n : Int) (m : Int)
    unfold pfOut
    omega) (m + n + 2) m n (Nat.le_refl _) (Nat.le_refl _) (by omega)
  rw [Nat.sub_self, Nat.sub_self] at h
  exact h

/-- some way goes beyond a bound that is less than the product -/
theorem pf_lt {m n : Nat} {d : Int} (hm : m ≤ 6) (hn : n ≤ 6) (hn0 : 1 ≤ n) (hd : d < (m : Int) * (n : Int)) : ∀ a f, a ≤ m → pfN m n d f (m - a) 0 < cb (a + n) a
  | a, 0, ha => by have := (cb_facts6 a (by omega) n (by omega)).2.2.2.2; rw [pfN]; omega
  | 0, f + 1, ha => by
    have c := (cb_facts6 0 (by omega) n (by omega)).2.2.2.2
    rw [pfN, if_pos (.inr (.inr (.inl (by simp only [Nat.sub_zero]; omega))))]
    omega
  | a + 1, f + 1, ha => by
    have c0 := (cb_facts6 (a + 1) (by omega) n (by omega)).2.2.2.2
    obtain ⟨n', rfl⟩ : ∃ j, n = j + 1 := ⟨n - 1, by omega⟩
    have c := (cb_facts6 a (by omega) n' (by omega)).1
    rw [pfN]
    by_cases h1 : pfOut m (n' + 1) d (m - (a + 1)) 0
    · rw [if_pos h1]; omega
    rw [if_neg h1, if_neg (by omega)]
    have e1 := pf_lt hm hn hn0 hd a f (by omega)
    have e2 := (pf_le (d := d) hm hn f (a + 1) n' ha (by omega)).1
    rw [show m - (a + 1) + 1 = m - a by omega, c]
    rw [show n' + 1 - n' = 0 + 1 by omega] at e2
    omega

theorem pw_lt {m n : Nat} {d : Int} (hm : m ≤ 6) (hn : n ≤ 6) (hn0 : 1 ≤ n) (hd : d < (m : Int) * (n : Int)) : pwN m n d < cb (m + n) m := by
  have h := pf_lt hm hn hn0 hd m (m + n + 2) (Nat.le_refl _)
  rw [Nat.sub_self] at h
  exact h

theorem upN_cp (xs : List Int) (x : Int) : upN xs x = xs.countP fun y => decide (y ≤ x) := by
  have key : ∀ j, j ≤ xs.length → upNT xs x j = (xs.take j).countP fun y => decide (y ≤ x) := by
    intro j
    induction j with
    | zero => intro _; rfl
    | succ j ih =>
      intro hj
      have := ih (by omega)
      rw [take_snoc (by omega), List.countP_append, List.countP_singleton, ← this]
      simp only [upNT, sumN]
      by_cases h : nth xs j ≤ x
      · rw [if_pos h, if_pos (by simpa using h)]
      · rw [if_neg h, if_neg (by simpa using h)]
  have := key xs.length (Nat.le_refl _)
  rwa [List.take_length] at this

theorem gapT_ge {xs ys : List Int} : ∀ {j i}, i < j → gapV xs ys (nth (xs ++ ys) i) ≤ gapT xs ys j ∧ -gapV xs ys (nth (xs ++ ys) i) ≤ gapT xs ys j
  | 0, i, h => by omega
  | j + 1, i, h => by
    rw [gapT]
    by_cases e : i = j
    · subst e; omega
    · have := gapT_ge (xs := xs) (ys := ys) (j := j) (i := i) (by omega); omega

theorem gapL_ge {xs ys : List Int} {z : Int} (h : z ∈ xs ++ ys) : gapV xs ys z ≤ gapL xs ys ∧ -gapV xs ys z ≤ gapL xs ys := by
  obtain ⟨i, hi, rfl⟩ := List.mem_iff_getElem.1 h
  rw [← nth_of hi]
  exact gapT_ge (by rw [List.length_append] at hi; exact hi)

theorem gapT_le {xs ys : List Int} {B : Int} (hB : 0 ≤ B) (h : ∀ z ∈ xs ++ ys, gapV xs ys z ≤ B ∧ -gapV xs ys z ≤ B) : ∀ j, j ≤ xs.length + ys.length → gapT xs ys j ≤ B
  | 0, _ => hB
  | j + 1, hj => by
    have h1 := gapT_le hB h j (by omega)
    have h2 := h _ (nth_mem (xs := xs ++ ys) (i := j) (by rw [List.length_append]; omega))
    rw [gapT]; omega

theorem gapL_le {xs ys : List Int} {B : Int} (hB : 0 ≤ B) (h : ∀ z ∈ xs ++ ys, gapV xs ys z ≤ B ∧ -gapV xs ys z ≤ B) : gapL xs ys ≤ B := gapT_le hB h _ (Nat.le_refl _)

theorem gapT_pos (xs ys : List Int) : ∀ j, 0 ≤ gapT xs ys j
  | 0 => Int.le_refl _
  | j + 1 => by have := gapT_pos xs ys j; rw [gapT]; omega

theorem gapL_pos (xs ys : List Int) : 0 ≤ gapL xs ys := gapT_pos _ _ _

theorem gapV_swap (xs ys : List Int) (z : Int) : gapV ys xs z = - gapV xs ys z := by unfold gapV; omega

theorem gap_swap_le (xs ys : List Int) : gapL ys xs ≤ gapL xs ys := gapL_le (gapL_pos _ _) fun z hz => by
  have := gapL_ge (xs := xs) (ys := ys) (z := z) (by
    rcases List.mem_append.1 hz with h | h
    · exact List.mem_append_right _ h
    · exact List.mem_append_left _ h)
  rw [gapV_swap]; omega

theorem gapL_swap (xs ys : List Int) : gapL ys xs = gapL xs ys := Int.le_antisymm (gap_swap_le _ _) (gap_swap_le _ _)

theorem gap_le_mul (xs ys : List Int) : gapL xs ys ≤ (xs.length : Int) * ys.length := by
  refine gapL_le (Int.mul_nonneg (by omega) (by omega)) fun z _ => ?_
  have h1 := upN_le xs z
  have h2 := upN_le ys z
  have m1 := Int.mul_le_mul_of_nonneg_right (show ((upN xs z : Nat) : Int) ≤ xs.length by omega) (show (0 : Int) ≤ ys.length by omega)
  have m2 := Int.mul_le_mul_of_nonneg_right (show ((upN ys z : Nat) : Int) ≤ ys.length by omega) (show (0 : Int) ≤ xs.length by omega)
  have m3 := Int.mul_nonneg (show (0 : Int) ≤ ((upN xs z : Nat) : Int) by omega) (show (0 : Int) ≤ ys.length by omega)
  have m4 := Int.mul_nonneg (show (0 : Int) ≤ ((upN ys z : Nat) : Int) by omega) (show (0 : Int) ≤ xs.length by omega)
  have m5 := Int.mul_comm (ys.length : Int) xs.length
  unfold gapV
  omega

theorem tieTo_none {xs : List Int} : ∀ {j}, tieTo xs j = [] → ∀ i, i < j → cntV xs ((i : Int) - 200) ≤ 1
  | 0, _, i, hi => by omega
  | j + 1, h, i, hi => by
    rw [tieTo] at h
    split at h
    · simp at h
    · rename_i h2
      by_cases e : i = j
      · subst e; omega
      · exact tieTo_none h i (by omega)

theorem cntV_perm {xs ys : List Int} (h : xs.Perm ys) (v : Int) : cntV xs v = cntV ys v := h.countP_eq _

theorem data_perm {xs ys : List Int} (h : xs.Perm ys) (hd : Data xs) : Data ys := by
  refine ⟨by rw [← h.length_eq]; exact hd.1, fun k hk => ?_⟩
  obtain ⟨i, hi, e⟩ := List.mem_iff_getElem.1 (h.mem_iff.2 (nth_mem hk))
  rw [← e, ← nth_of hi]
  exact hd.2 i hi

theorem ties_perm {xs ys : List Int} (h : xs.Perm ys) : tiesOf xs = tiesOf ys := by
  unfold tiesOf
  by_cases hd : Data xs
  · rw [if_pos hd, if_pos (data_perm h hd), tieTo_congr (cntV_perm h)]
  · rw [if_neg hd, if_neg (fun h2 => hd (data_perm h.symm h2))]

theorem min_is : ∀ l : List Int, l ≠ [] → ∃ m ∈ l, ∀ x ∈ l, m ≤ x
  | [], h => absurd rfl h
  | y :: l, _ => by
    by_cases e : l = []
    · subst e; exact ⟨y, by simp, by simp⟩
    · obtain ⟨m, h1, h2⟩ := min_is l e
      by_cases h3 : y ≤ m
      · exact ⟨y, by simp, fun x hx => by
          rcases List.mem_cons.1 hx with rfl | hx
          · exact Int.le_refl _
          · have := h2 x hx; omega⟩
      · exact ⟨m, by simp [h1], fun x hx => by
          rcases List.mem_cons.1 hx with rfl | hx
          · omega
          · exact h2 x hx⟩

theorem gap_some {xs ys : List Int} (hx : 0 < xs.length) (hy : 0 < ys.length) (hd : Data (xs ++ ys)) (ht : tiesOf (xs ++ ys) = []) : 1 ≤ gapL xs ys := by
  obtain ⟨m, h1, h2⟩ := min_is (xs ++ ys) (by intro h; rw [List.append_eq_nil_iff] at h; rw [h.1] at hx; simp at hx)
  have hb := hd.bd m h1
  rw [tiesOf, if_pos hd] at ht
  have h3 := tieTo_none ht (m + 200).toNat (by omega)
  rw [show (((m + 200).toNat : Nat) : Int) - 200 = m by omega] at h3
  have e : cntV (xs ++ ys) m = upN xs m + upN ys m := by
    rw [upN_cp, upN_cp, ← List.countP_append]
    refine List.countP_congr fun x hx => ?_
    have := h2 x hx
    simp only [decide_eq_true_eq]; omega
  have h4 : 1 ≤ cntV (xs ++ ys) m := List.countP_pos_iff.2 ⟨m, h1, by simp⟩
  have h5 := gapL_ge h1
  have : (upN xs m = 1 ∧ upN ys m = 0) ∨ (upN xs m = 0 ∧ upN ys m = 1) := by omega
  unfold gapV at h5
  rcases this with ⟨e1, e2⟩ | ⟨e1, e2⟩ <;> rw [e1, e2] at h5 <;> omega

theorem implApart_ok {H : Heap} {x y : Int} (hx : -1000 ≤ x ∧ x ≤ 1000) (hy : -1000 ≤ y ∧ y ≤ 1000) : ACalls Try.prog fn_impl_apart [.int .i64 x, .int .i64 y] H fun r H' => r = .int .i64 (max (x - y) (y - x)) ∧ H' = H := by
  refine ACalls.val ?_ rfl
  refine code_impl_apart.go [] trivial (by simp) ?_
  unfold mc_impl_apart
  (repeat (first | with_reducible (first | refine go_nil ?_ | refine gk_seq ?_ | refine gc_seq ?_ | refine gc_reg ?_ | refine gc_skip ?_ | refine gk_block ?_ | refine gc_block ?_ | refine gc_exit ?_ | refine gc_ret ?_ | refine gk_seqret ?_ | refine gk_seqexit ?_ | refine gk_blockret ?_ | refine gk_out ?_ | refine gk_loopret ?_ | refine gk_loopexit ?_) | (show GO _ _ _ _ _ (⟨some _, none, _⟩ :: _) _; first | refine go_op (hk := ?_) | (refine go_nw (hk := ?_); intro u; try simp only [List.length_cons, List.length_nil, List.nil_append, Nat.zero_add]) | (refine go_np (hk := ?_); intro id)) | (show GO _ _ _ _ _ (⟨none, none, _⟩ :: _) _; refine go_st (hk := ?_)) | (show GO _ _ _ _ _ (⟨_, some _, _⟩ :: _) _; first | refine go_in (hk := ?_) | refine go_out (hk := ?_) | refine go_void (hk := ?_)) | (show GK _ _ _ _ (blockK _ _ _); refine gk_past rfl ?_) | (show GC _ _ _ _ _ (.cond _ _ _) _; first | refine gc_yes (h1 := ?_) | refine gc_no (h1 := ?_))))
  exact gk_ret rfl fun H' hH => ⟨rfl, hH.leE⟩

theorem countUpTo_ok {H : Heap} {a : AV} {xs : List Int} {x : Int} (ha : Ints H a xs) (hl : xs.length ≤ 1000) :
    ACalls Try.prog fn_impl_countUpTo [a, .int .i64 x] H fun r H' => r = .int .i64 (upN xs x : Nat) ∧ H' = H := by
  refine ACalls.val ?_ rfl
  refine code_impl_countUpTo.go [.roI a xs.length xs] ⟨⟨rfl, ha⟩, trivial⟩ (by simp) ?_
  unfold mc_impl_countUpTo
  (repeat (first | with_reducible (first | refine go_nil ?_ | refine gk_seq ?_ | refine gc_seq ?_ | refine gc_reg ?_ | refine gc_skip ?_ | refine gk_block ?_ | refine gc_block ?_ | refine gc_exit ?_ | refine gc_ret ?_ | refine gk_seqret ?_ | refine gk_seqexit ?_ | refine gk_blockret ?_ | refine gk_out ?_ | refine gk_loopret ?_ | refine gk_loopexit ?_) | (show GO _ _ _ _ _ (⟨some _, none, _⟩ :: _) _; first | refine go_op (hk := ?_) | (refine go_nw (hk := ?_); intro u; try simp only [List.length_cons, List.length_nil, List.nil_append, Nat.zero_add]) | (refine go_np (hk := ?_); intro id)) | (show GO _ _ _ _ _ (⟨none, none, _⟩ :: _) _; refine go_st (hk := ?_)) | (show GO _ _ _ _ _ (⟨_, some _, _⟩ :: _) _; first | refine go_in (hk := ?_) | refine go_out (hk := ?_) | refine go_void (hk := ?_)) | (show GK _ _ _ _ (blockK _ _ _); refine gk_past rfl ?_) | (show GC _ _ _ _ _ (.cond _ _ _) _; first | refine gc_yes (h1 := ?_) | refine gc_no (h1 := ?_))))
  refine gc_up xs.length (fun j => [(1, .int .i64 x), (5, .int .i64 (upNT xs x j : Nat)), (8, a), (9, .int .i64 (xs.length : Int)), (10, .int .i64 (j : Int))]) (fun _ => [.roI a xs.length xs]) (hb := ?_)
  intro j hj I ν m hk
  have hp := upNT_le xs x j
  (repeat (first | with_reducible (first | refine go_nil ?_ | refine gk_seq ?_ | refine gc_seq ?_ | refine gc_reg ?_ | refine gc_skip ?_ | refine gk_block ?_ | refine gc_block ?_ | refine gc_exit ?_ | refine gc_ret ?_ | refine gk_seqret ?_ | refine gk_seqexit ?_ | refine gk_blockret ?_ | refine gk_out ?_ | refine gk_loopret ?_ | refine gk_loopexit ?_) | (show GO _ _ _ _ _ (⟨some _, none, _⟩ :: _) _; first | refine go_op (hk := ?_) | (refine go_nw (hk := ?_); intro u; try simp only [List.length_cons, List.length_nil, List.nil_append, Nat.zero_add]) | (refine go_np (hk := ?_); intro id)) | (show GO _ _ _ _ _ (⟨none, none, _⟩ :: _) _; refine go_st (hk := ?_)) | (show GO _ _ _ _ _ (⟨_, some _, _⟩ :: _) _; first | refine go_in (hk := ?_) | refine go_out (hk := ?_) | refine go_void (hk := ?_)) | (show GK _ _ _ _ (blockK _ _ _); refine gk_past rfl ?_) | (show GC _ _ _ _ _ (.cond _ _ _) _; first | refine gc_yes (h1 := ?_) | refine gc_no (h1 := ?_))))
  refine gc_cond rfl (fun h => ?_) (fun h => ?_)
  · have hk := hk (by omega)
    (repeat (first | with_reducible (first | refine go_nil ?_ | refine gk_seq ?_ | refine gc_seq ?_ | refine gc_reg ?_ | refine gc_skip ?_ | refine gk_block ?_ | refine gc_block ?_ | refine gc_exit ?_ | refine gc_ret ?_ | refine gk_seqret ?_ | refine gk_seqexit ?_ | refine gk_blockret ?_ | refine gk_out ?_ | refine gk_loopret ?_ | refine gk_loopexit ?_) | (show GO _ _ _ _ _ (⟨some _, none, _⟩ :: _) _; first | refine go_op (hk := ?_) | (refine go_nw (hk := ?_); intro u; try simp only [List.length_cons, List.length_nil, List.nil_append, Nat.zero_add]) | (refine go_np (hk := ?_); intro id)) | (show GO _ _ _ _ _ (⟨none, none, _⟩ :: _) _; refine go_st (hk := ?_)) | (show GO _ _ _ _ _ (⟨_, some _, _⟩ :: _) _; first | refine go_in (hk := ?_) | refine go_out (hk := ?_) | refine go_void (hk := ?_)) | (show GK _ _ _ _ (blockK _ _ _); refine gk_past rfl ?_) | (show GC _ _ _ _ _ (.cond _ _ _) _; first | refine gc_yes (h1 := ?_) | refine gc_no (h1 := ?_))))
    refine gc_cond rfl (fun h2 => ?_) (fun h2 => ?_)
    · rw [show upNT xs x (j + 1) = upNT xs x j + 1 by simp only [upNT, sumN, if_pos h2]] at hk
      (repeat (first | with_reducible (first | refine go_nil ?_ | refine gk_seq ?_ | refine gc_seq ?_ | refine gc_reg ?_ | refine gc_skip ?_ | refine gk_block ?_ | refine gc_block ?_ | refine gc_exit ?_ | refine gc_ret ?_ | refine gk_seqret ?_ | refine gk_seqexit ?_ | refine gk_blockret ?_ | refine gk_out ?_ | refine gk_loopret ?_ | refine gk_loopexit ?_) | (show GO _ _ _ _ _ (⟨some _, none, _⟩ :: _) _; first | refine go_op (hk := ?_) | (refine go_nw (hk := ?_); intro u; try simp only [List.length_cons, List.length_nil, List.nil_append, Nat.zero_add]) | (refine go_np (hk := ?_); intro id)) | (show GO _ _ _ _ _ (⟨none, none, _⟩ :: _) _; refine go_st (hk := ?_)) | (show GO _ _ _ _ _ (⟨_, some _, _⟩ :: _) _; first | refine go_in (hk := ?_) | refine go_out (hk := ?_) | refine go_void (hk := ?_)) | (show GK _ _ _ _ (blockK _ _ _); refine gk_past rfl ?_) | (show GC _ _ _ _ _ (.cond _ _ _) _; first | refine gc_yes (h1 := ?_) | refine gc_no (h1 := ?_))))
      exact gk_next hk
    · rw [show upNT xs x (j + 1) = upNT xs x j by simp only [upNT, sumN, if_neg h2, Nat.add_zero]] at hk
      (repeat (first | with_reducible (first | refine go_nil ?_ | refine gk_seq ?_ | refine gc_seq ?_ | refine gc_reg ?_ | refine gc_skip ?_ | refine gk_block ?_ | refine gc_block ?_ | refine gc_exit ?_ | refine gc_ret ?_ | refine gk_seqret ?_ | refine gk_seqexit ?_ | refine gk_blockret ?_ | refine gk_out ?_ | refine gk_loopret ?_ | refine gk_loopexit ?_) | (show GO _ _ _ _ _ (⟨some _, none, _⟩ :: _) _; first | refine go_op (hk := ?_) | (refine go_nw (hk := ?_); intro u; try simp only [List.length_cons, List.length_nil, List.nil_append, Nat.zero_add]) | (refine go_np (hk := ?_); intro id)) | (show GO _ _ _ _ _ (⟨none, none, _⟩ :: _) _; refine go_st (hk := ?_)) | (show GO _ _ _ _ _ (⟨_, some _, _⟩ :: _) _; first | refine go_in (hk := ?_) | refine go_out (hk := ?_) | refine go_void (hk := ?_)) | (show GK _ _ _ _ (blockK _ _ _); refine gk_past rfl ?_) | (show GC _ _ _ _ _ (.cond _ _ _) _; first | refine gc_yes (h1 := ?_) | refine gc_no (h1 := ?_))))
      exact gk_next hk
  · have : j = xs.length := by omega
    subst this
    (repeat (first | with_reducible (first | refine go_nil ?_ | refine gk_seq ?_ | refine gc_seq ?_ | refine gc_reg ?_ | refine gc_skip ?_ | refine gk_block ?_ | refine gc_block ?_ | refine gc_exit ?_ | refine gc_ret ?_ | refine gk_seqret ?_ | refine gk_seqexit ?_ | refine gk_blockret ?_ | refine gk_out ?_ | refine gk_loopret ?_ | refine gk_loopexit ?_) | (show GO _ _ _ _ _ (⟨some _, none, _⟩ :: _) _; first | refine go_op (hk := ?_) | (refine go_nw (hk := ?_); intro u; try simp only [List.length_cons, List.length_nil, List.nil_append, Nat.zero_add]) | (refine go_np (hk := ?_); intro id)) | (show GO _ _ _ _ _ (⟨none, none, _⟩ :: _) _; refine go_st (hk := ?_)) | (show GO _ _ _ _ _ (⟨_, some _, _⟩ :: _) _; first | refine go_in (hk := ?_) | refine go_out (hk := ?_) | refine go_void (hk := ?_)) | (show GK _ _ _ _ (blockK _ _ _); refine gk_past rfl ?_) | (show GC _ _ _ _ _ (.cond _ _ _) _; first | refine gc_yes (h1 := ?_) | refine gc_no (h1 := ?_))))
    exact gk_ret rfl fun H' hH => ⟨rfl, hH.leE⟩

theorem implGapOf_ok {H : Heap} {a b : AV} {xs ys : List Int} (ha : Ints H a xs) (hb : Ints H b ys) (hl : xs.length ≤ 1000000000) (hl' : ys.length ≤ 1000000000) :
    ACalls Try.prog fn_impl_GapOf [a, b] H fun r H' => r = .int .i64 (goA xs ys) ∧ H' = H := by
  refine ACalls.val ?_ rfl
  refine code_impl_GapOf.go [.roI a xs.length xs, .roI b ys.length ys] ⟨⟨rfl, ha⟩, ⟨rfl, hb⟩, trivial⟩ (by simp) ?_
  unfold mc_impl_GapOf
  obtain ⟨ca, oa⟩ := slice_cells ha
  obtain ⟨cb, ob⟩ := slice_cells hb
  (repeat (first | with_reducible (first | refine go_nil ?_ | refine gk_seq ?_ | refine gc_seq ?_ | refine gc_reg ?_ | refine gc_skip ?_ | refine gk_block ?_ | refine gc_block ?_ | refine gc_exit ?_ | refine gc_ret ?_ | refine gk_seqret ?_ | refine gk_seqexit ?_ | refine gk_blockret ?_ | refine gk_out ?_ | refine gk_loopret ?_ | refine gk_loopexit ?_) | (show GO _ _ _ _ _ (⟨some _, none, .call _ _⟩ :: _) _; first | (show GO _ _ _ _ _ (⟨some _, none, .call fn_impl_validSamples _⟩ :: _) _; refine go_implSamples (hk := ?_); try intro u)) | (show GO _ _ _ _ _ (⟨some _, none, _⟩ :: _) _; first | refine go_op (hk := ?_) | (refine go_nw (hk := ?_); intro u; try simp only [List.length_cons, List.length_nil, List.nil_append, Nat.zero_add]) | (refine go_np (hk := ?_); intro id)) | (show GO _ _ _ _ _ (⟨none, none, _⟩ :: _) _; refine go_st (hk := ?_)) | (show GO _ _ _ _ _ (⟨_, some _, _⟩ :: _) _; first | refine go_in (hk := ?_) | refine go_out (hk := ?_) | refine go_void (hk := ?_)) | (show GK _ _ _ _ (blockK _ _ _); refine gk_past rfl ?_) | (show GC _ _ _ _ _ (.cond _ _ _) _; first | refine gc_yes (h1 := ?_) | refine gc_no (h1 := ?_))))
  refine gc_cond rfl (fun h => ?_) (fun h => ?_)
  · (repeat (first | with_reducible (first | refine go_nil ?_ | refine gk_seq ?_ | refine gc_seq ?_ | refine gc_reg ?_ | refine gc_skip ?_ | refine gk_block ?_ | refine gc_block ?_ | refine gc_exit ?_ | refine gc_ret ?_ | refine gk_seqret ?_ | refine gk_seqexit ?_ | refine gk_blockret ?_ | refine gk_out ?_ | refine gk_loopret ?_ | refine gk_loopexit ?_) | (show GO _ _ _ _ _ (⟨some _, none, .call _ _⟩ :: _) _; first | (show GO _ _ _ _ _ (⟨some _, none, .call fn_impl_validSamples _⟩ :: _) _; refine go_implSamples (hk := ?_); try intro u)) | (show GO _ _ _ _ _ (⟨some _, none, _⟩ :: _) _; first | refine go_op (hk := ?_) | (refine go_nw (hk := ?_); intro u; try simp only [List.length_cons, List.length_nil, List.nil_append, Nat.zero_add]) | (refine go_np (hk := ?_); intro id)) | (show GO _ _ _ _ _ (⟨none, none, _⟩ :: _) _; refine go_st (hk := ?_)) | (show GO _ _ _ _ _ (⟨_, some _, _⟩ :: _) _; first | refine go_in (hk := ?_) | refine go_out (hk := ?_) | refine go_void (hk := ?_)) | (show GK _ _ _ _ (blockK _ _ _); refine gk_past rfl ?_) | (show GC _ _ _ _ _ (.cond _ _ _) _; first | refine gc_yes (h1 := ?_) | refine gc_no (h1 := ?_))))
    exact gk_ret rfl fun H' hH => ⟨by simp [tupleOf, goA, h], hH.leE⟩
  have hs : Samples xs ys := Decidable.not_not.1 h
  have h3 := hs.2.1
  have h4 := hs.2.2.1
  have hlen : (xs ++ ys).length = xs.length + ys.length := List.length_append
  (repeat (first | with_reducible (first | refine go_nil ?_ | refine gk_seq ?_ | refine gc_seq ?_ | refine gc_reg ?_ | refine gc_skip ?_ | refine gk_block ?_ | refine gc_block ?_ | refine gc_exit ?_ | refine gc_ret ?_ | refine gk_seqret ?_ | refine gk_seqexit ?_ | refine gk_blockret ?_ | refine gk_out ?_ | refine gk_loopret ?_ | refine gk_loopexit ?_) | (show GO _ _ _ _ _ (⟨some _, none, .call _ _⟩ :: _) _; first | (show GO _ _ _ _ _ (⟨some _, none, .call fn_impl_validSamples _⟩ :: _) _; refine go_implSamples (hk := ?_); try intro u)) | (show GO _ _ _ _ _ (⟨some _, none, _⟩ :: _) _; first | refine go_op (hk := ?_) | (refine go_nw (hk := ?_); intro u; try simp only [List.length_cons, List.length_nil, List.nil_append, Nat.zero_add]) | (refine go_np (hk := ?_); intro id)) | (show GO _ _ _ _ _ (⟨none, none, _⟩ :: _) _; refine go_st (hk := ?_)) | (show GO _ _ _ _ _ (⟨_, some _, _⟩ :: _) _; first | refine go_in (hk := ?_) | refine go_out (hk := ?_) | refine go_void (hk := ?_)) | (show GK _ _ _ _ (blockK _ _ _); refine gk_past rfl ?_) | (show GC _ _ _ _ _ (.cond _ _ _) _; first | refine gc_yes (h1 := ?_) | refine gc_no (h1 := ?_))))
  refine go_new rfl (stp_bsl2 rfl rfl ca cb oa ob) ?_
  intro u
  refine go_calln rfl code_slices_Concat_ints.callable (fun H hH => concat_ok (hH.valsA (by exact Has.auto)) (hH.ints (by exact Has.auto)) (hH.ints (by exact Has.auto)) h4 (by omega)) ?_
  intro u
  (repeat (first | with_reducible (first | refine go_nil ?_ | refine gk_seq ?_ | refine gc_seq ?_ | refine gc_reg ?_ | refine gc_skip ?_ | refine gk_block ?_ | refine gc_block ?_ | refine gc_exit ?_ | refine gc_ret ?_ | refine gk_seqret ?_ | refine gk_seqexit ?_ | refine gk_blockret ?_ | refine gk_out ?_ | refine gk_loopret ?_ | refine gk_loopexit ?_) | (show GO _ _ _ _ _ (⟨some _, none, .call _ _⟩ :: _) _; first | (show GO _ _ _ _ _ (⟨some _, none, .call fn_impl_validSamples _⟩ :: _) _; refine go_implSamples (hk := ?_); try intro u)) | (show GO _ _ _ _ _ (⟨some _, none, _⟩ :: _) _; first | refine go_op (hk := ?_) | (refine go_nw (hk := ?_); intro u; try simp only [List.length_cons, List.length_nil, List.nil_append, Nat.zero_add]) | (refine go_np (hk := ?_); intro id)) | (show GO _ _ _ _ _ (⟨none, none, _⟩ :: _) _; refine go_st (hk := ?_)) | (show GO _ _ _ _ _ (⟨_, some _, _⟩ :: _) _; first | refine go_in (hk := ?_) | refine go_out (hk := ?_) | refine go_void (hk := ?_)) | (show GK _ _ _ _ (blockK _ _ _); refine gk_past rfl ?_) | (show GC _ _ _ _ _ (.cond _ _ _) _; first | refine gc_yes (h1 := ?_) | refine gc_no (h1 := ?_))))
  rw [hlen]
  refine gc_up (xs.length + ys.length) (fun i => [(0, a), (1, b), (5, .int .i64 (gapT xs ys i)), (15, u), (16, .int .i64 ((xs.length + ys.length : Nat) : Int)), (17, .int .i64 (i : Int))]) (fun _ => [.rwI u (xs.length + ys.length) (xs ++ ys), .roI a xs.length xs, .roI b ys.length ys]) (hb := ?_)
  intro i hi I ν m hk
  have g1 := gapT_in xs ys (by omega) (by omega) i
  have g2 := gapV_in xs ys (nth (xs ++ ys) i) (by omega) (by omega)
  (repeat (first | with_reducible (first | refine go_nil ?_ | refine gk_seq ?_ | refine gc_seq ?_ | refine gc_reg ?_ | refine gc_skip ?_ | refine gk_block ?_ | refine gc_block ?_ | refine gc_exit ?_ | refine gc_ret ?_ | refine gk_seqret ?_ | refine gk_seqexit ?_ | refine gk_blockret ?_ | refine gk_out ?_ | refine gk_loopret ?_ | refine gk_loopexit ?_) | (show GO _ _ _ _ _ (⟨some _, none, .call _ _⟩ :: _) _; first | (show GO _ _ _ _ _ (⟨some _, none, .call fn_impl_validSamples _⟩ :: _) _; refine go_implSamples (hk := ?_); try intro u)) | (show GO _ _ _ _ _ (⟨some _, none, _⟩ :: _) _; first | refine go_op (hk := ?_) | (refine go_nw (hk := ?_); intro u; try simp only [List.length_cons, List.length_nil, List.nil_append, Nat.zero_add]) | (refine go_np (hk := ?_); intro id)) | (show GO _ _ _ _ _ (⟨none, none, _⟩ :: _) _; refine go_st (hk := ?_)) | (show GO _ _ _ _ _ (⟨_, some _, _⟩ :: _) _; first | refine go_in (hk := ?_) | refine go_out (hk := ?_) | refine go_void (hk := ?_)) | (show GK _ _ _ _ (blockK _ _ _); refine gk_past rfl ?_) | (show GC _ _ _ _ _ (.cond _ _ _) _; first | refine gc_yes (h1 := ?_) | refine gc_no (h1 := ?_))))
  refine gc_cond rfl (fun h => ?_) (fun h => ?_)
  · have hk := hk (by omega)
    (repeat (first | with_reducible (first | refine go_nil ?_ | refine gk_seq ?_ | refine gc_seq ?_ | refine gc_reg ?_ | refine gc_skip ?_ | refine gk_block ?_ | refine gc_block ?_ | refine gc_exit ?_ | refine gc_ret ?_ | refine gk_seqret ?_ | refine gk_seqexit ?_ | refine gk_blockret ?_ | refine gk_out ?_ | refine gk_loopret ?_ | refine gk_loopexit ?_) | (show GO _ _ _ _ _ (⟨some _, none, .call _ _⟩ :: _) _; first | (show GO _ _ _ _ _ (⟨some _, none, .call fn_impl_validSamples _⟩ :: _) _; refine go_implSamples (hk := ?_); try intro u)) | (show GO _ _ _ _ _ (⟨some _, none, _⟩ :: _) _; first | refine go_op (hk := ?_) | (refine go_nw (hk := ?_); intro u; try simp only [List.length_cons, List.length_nil, List.nil_append, Nat.zero_add]) | (refine go_np (hk := ?_); intro id)) | (show GO _ _ _ _ _ (⟨none, none, _⟩ :: _) _; refine go_st (hk := ?_)) | (show GO _ _ _ _ _ (⟨_, some _, _⟩ :: _) _; first | refine go_in (hk := ?_) | refine go_out (hk := ?_) | refine go_void (hk := ?_)) | (show GK _ _ _ _ (blockK _ _ _); refine gk_past rfl ?_) | (show GC _ _ _ _ _ (.cond _ _ _) _; first | refine gc_yes (h1 := ?_) | refine gc_no (h1 := ?_))))
    refine go_callp rfl code_impl_countUpTo.callable (fun H hH => countUpTo_ok (hH.ints (by exact Has.auto)) (by omega)) ?_
    (repeat (first | with_reducible (first | refine go_nil ?_ | refine gk_seq ?_ | refine gc_seq ?_ | refine gc_reg ?_ | refine gc_skip ?_ | refine gk_block ?_ | refine gc_block ?_ | refine gc_exit ?_ | refine gc_ret ?_ | refine gk_seqret ?_ | refine gk_seqexit ?_ | refine gk_blockret ?_ | refine gk_out ?_ | refine gk_loopret ?_ | refine gk_loopexit ?_) | (show GO _ _ _ _ _ (⟨some _, none, .call _ _⟩ :: _) _; first | (show GO _ _ _ _ _ (⟨some _, none, .call fn_impl_validSamples _⟩ :: _) _; refine go_implSamples (hk := ?_); try intro u)) | (show GO _ _ _ _ _ (⟨some _, none, _⟩ :: _) _; first | refine go_op (hk := ?_) | (refine go_nw (hk := ?_); intro u; try simp only [List.length_cons, List.length_nil, List.nil_append, Nat.zero_add]) | (refine go_np (hk := ?_); intro id)) | (show GO _ _ _ _ _ (⟨none, none, _⟩ :: _) _; refine go_st (hk := ?_)) | (show GO _ _ _ _ _ (⟨_, some _, _⟩ :: _) _; first | refine go_in (hk := ?_) | refine go_out (hk := ?_) | refine go_void (hk := ?_)) | (show GK _ _ _ _ (blockK _ _ _); refine gk_past rfl ?_) | (show GC _ _ _ _ _ (.cond _ _ _) _; first | refine gc_yes (h1 := ?_) | refine gc_no (h1 := ?_))))
    refine go_callp rfl code_impl_countUpTo.callable (fun H hH => countUpTo_ok (hH.ints (by exact Has.auto)) (by omega)) ?_
    (repeat (first | with_reducible (first | refine go_nil ?_ | refine gk_seq ?_ | refine gc_seq ?_ | refine gc_reg ?_ | refine gc_skip ?_ | refine gk_block ?_ | refine gc_block ?_ | refine gc_exit ?_ | refine gc_ret ?_ | refine gk_seqret ?_ | refine gk_seqexit ?_ | refine gk_blockret ?_ | refine gk_out ?_ | refine gk_loopret ?_ | refine gk_loopexit ?_) | (show GO _ _ _ _ _ (⟨some _, none, .call _ _⟩ :: _) _; first | (show GO _ _ _ _ _ (⟨some _, none, .call fn_impl_validSamples _⟩ :: _) _; refine go_implSamples (hk := ?_); try intro u)) | (show GO _ _ _ _ _ (⟨some _, none, _⟩ :: _) _; first | refine go_op (hk := ?_) | (refine go_nw (hk := ?_); intro u; try simp only [List.length_cons, List.length_nil, List.nil_append, Nat.zero_add]) | (refine go_np (hk := ?_); intro id)) | (show GO _ _ _ _ _ (⟨none, none, _⟩ :: _) _; refine go_st (hk := ?_)) | (show GO _ _ _ _ _ (⟨_, some _, _⟩ :: _) _; first | refine go_in (hk := ?_) | refine go_out (hk := ?_) | refine go_void (hk := ?_)) | (show GK _ _ _ _ (blockK _ _ _); refine gk_past rfl ?_) | (show GC _ _ _ _ _ (.cond _ _ _) _; first | refine gc_yes (h1 := ?_) | refine gc_no (h1 := ?_))))
    refine go_callp rfl code_impl_apart.callable (fun H hH => implApart_ok (by omega) (by omega)) ?_
    (repeat (first | with_reducible (first | refine go_nil ?_ | refine gk_seq ?_ | refine gc_seq ?_ | refine gc_reg ?_ | refine gc_skip ?_ | refine gk_block ?_ | refine gc_block ?_ | refine gc_exit ?_ | refine gc_ret ?_ | refine gk_seqret ?_ | refine gk_seqexit ?_ | refine gk_blockret ?_ | refine gk_out ?_ | refine gk_loopret ?_ | refine gk_loopexit ?_) | (show GO _ _ _ _ _ (⟨some _, none, .call _ _⟩ :: _) _; first | (show GO _ _ _ _ _ (⟨some _, none, .call fn_impl_validSamples _⟩ :: _) _; refine go_implSamples (hk := ?_); try intro u)) | (show GO _ _ _ _ _ (⟨some _, none, _⟩ :: _) _; first | refine go_op (hk := ?_) | (refine go_nw (hk := ?_); intro u; try simp only [List.length_cons, List.length_nil, List.nil_append, Nat.zero_add]) | (refine go_np (hk := ?_); intro id)) | (show GO _ _ _ _ _ (⟨none, none, _⟩ :: _) _; refine go_st (hk := ?_)) | (show GO _ _ _ _ _ (⟨_, some _, _⟩ :: _) _; first | refine go_in (hk := ?_) | refine go_out (hk := ?_) | refine go_void (hk := ?_)) | (show GK _ _ _ _ (blockK _ _ _); refine gk_past rfl ?_) | (show GC _ _ _ _ _ (.cond _ _ _) _; first | refine gc_yes (h1 := ?_) | refine gc_no (h1 := ?_))))
    rw [show max (gapT xs ys i) (max (((upN xs (nth (xs ++ ys) i) : Nat) : Int) * (ys.length : Int) - ((upN ys (nth (xs ++ ys) i) : Nat) : Int) * (xs.length : Int)) (((upN ys (nth (xs ++ ys) i) : Nat) : Int) * (xs.length : Int) - ((upN xs (nth (xs ++ ys) i) : Nat) : Int) * (ys.length : Int))) = gapT xs ys (i + 1) by rw [gapT]; unfold gapV; omega]
    exact gk_next hk
  · have : i = xs.length + ys.length := by omega
    subst this
    (repeat (first | with_reducible (first | refine go_nil ?_ | refine gk_seq ?_ | refine gc_seq ?_ | refine gc_reg ?_ | refine gc_skip ?_ | refine gk_block ?_ | refine gc_block ?_ | refine gc_exit ?_ | refine gc_ret ?_ | refine gk_seqret ?_ | refine gk_seqexit ?_ | refine gk_blockret ?_ | refine gk_out ?_ | refine gk_loopret ?_ | refine gk_loopexit ?_) | (show GO _ _ _ _ _ (⟨some _, none, .call _ _⟩ :: _) _; first | (show GO _ _ _ _ _ (⟨some _, none, .call fn_impl_validSamples _⟩ :: _) _; refine go_implSamples (hk := ?_); try intro u)) | (show GO _ _ _ _ _ (⟨some _, none, _⟩ :: _) _; first | refine go_op (hk := ?_) | (refine go_nw (hk := ?_); intro u; try simp only [List.length_cons, List.length_nil, List.nil_append, Nat.zero_add]) | (refine go_np (hk := ?_); intro id)) | (show GO _ _ _ _ _ (⟨none, none, _⟩ :: _) _; refine go_st (hk := ?_)) | (show GO _ _ _ _ _ (⟨_, some _, _⟩ :: _) _; first | refine go_in (hk := ?_) | refine go_out (hk := ?_) | refine go_void (hk := ?_)) | (show GK _ _ _ _ (blockK _ _ _); refine gk_past rfl ?_) | (show GC _ _ _ _ _ (.cond _ _ _) _; first | refine gc_yes (h1 := ?_) | refine gc_no (h1 := ?_))))
    exact gk_ret rfl fun H' hH => ⟨by simp [tupleOf, goA, hs, gapL], hH.leE⟩

theorem pf_fuel {m n : Nat} {d : Int} : ∀ f i k, i ≤ m + 1 → k ≤ n + 1 → m + n < f + i + k → pfN m n d f i k = pfN m n d (f + 1) i k
  | 0, i, k, hi, hk, h => by
    rw [pfN, pfN, if_pos]
    unfold pfOut; omega
  | f + 1, i, k, hi, hk, h => by
    rw [pfN, pfN]
    by_cases h1 : pfOut m n d i k
    · rw [if_pos h1, if_pos h1]
    rw [if_neg h1, if_neg h1]
    by_cases h2 : i = m ∧ k = n
    · rw [if_pos h2, if_pos h2]
    rw [if_neg h2, if_neg h2]
    have h3 : i ≤ m ∧ k ≤ n := by unfold pfOut at h1; omega
    rw [pf_fuel f (i + 1) k (by omega) (by omega) (by omega), pf_fuel f i (k + 1) (by omega) (by omega) (by omega)]

def wkN (m n : Nat) (d : Int) (i k : Nat) : Nat := pfN m n d (i + k + 1) (m - i) (n - k)

/-- the row ahead -/
def wkP (m n : Nat) (d : Int) : Nat → Nat → Nat
  | 0, k => if k = 0 then 1 else 0
  | i + 1, k => wkN m n d i k

def wkS (m n : Nat) (d : Int) (i : Nat) : Nat → Nat
  | 0 => wkP m n d i 0
  | k + 1 => wkP m n d i (k + 1) + wkN m n d i k

def wkO (m n : Nat) (d : Int) (i k : Nat) : Prop := d < max ((i : Int) * n - (k : Int) * m) ((k : Int) * m - (i : Int) * n)

instance (m n : Nat) (d : Int) (i k : Nat) : Decidable (wkO m n d i k) := by unfold wkO; exact inferInstance

end Go.Rx.Try
