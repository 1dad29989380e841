import Derived.Test.YtibefcnnhbdcgagFnCurveOfD7
namespace Go.Rx.Try
open Go.Proofs
set_option maxRecDepth 100000
set_option maxHeartbeats 8000000
set_option linter.unusedSimpArgs false
set_option linter.unusedVariables false

theorem backward1_ok {A : Heap} {X : List Nat} {H : Heap} {γ : Type} {yd i1 : Nat} {w : AV} {n : Nat} {L : List Rat} (hnL : L.length = n) (hn : n ≤ 1000000) (T : Nat → γ → Sig) (g0 : γ)
    (hy : ∀ m, m < n → ∀ (F : Sig) (z : γ) H', SOk A X ((bx1 i1 w :: rwF w n L :: T m z) ++ F) H'.size H' → AYield Try.prog yd [.int .i64 ((n - 1 - m : Nat) : Int), frV (nthR L (n - 1 - m))] H' fun t H'' => t = true ∧ ∃ z', SOk A X ((bx1 i1 w :: rwF w n L :: T (m + 1) z') ++ F) H''.size H'')
    (hS : SOk A X (bx1 i1 w :: rwF w n L :: T 0 g0) H.size H) :
    ACalls Try.prog fn_slices_Backward_impl_Frac_impl_Frac_1 [.yld yd, .ptr i1 0] H fun _ H' => ∃ z, SOk A X (bx1 i1 w :: rwF w n L :: T n z) H'.size H' := by
  refine code_slices_Backward_impl_Frac_impl_Frac_1.gos hS (by simp) ?_
  unfold mc_slices_Backward_impl_Frac_impl_Frac_1
  (repeat (first | with_reducible (first | refine go_nil ?_ | refine gk_seq ?_ | refine gc_seq ?_ | refine gc_reg ?_ | refine gc_skip ?_ | refine gk_block ?_ | refine gc_block ?_ | refine gc_exit ?_ | refine gc_ret ?_ | refine gk_seqret ?_ | refine gk_seqexit ?_ | refine gk_blockret ?_ | refine gk_out ?_ | refine gk_loopret ?_ | refine gk_loopexit ?_) | (show GO _ _ _ _ _ (⟨some _, none, _⟩ :: _) _; first | refine go_op (hk := ?_) | (refine go_nw (hk := ?_); intro u; try simp only [List.length_cons, List.length_nil, List.nil_append, Nat.zero_add]) | (refine go_np (hk := ?_); intro id)) | (show GO _ _ _ _ _ (⟨none, none, _⟩ :: _) _; refine go_st (hk := ?_)) | (show GO _ _ _ _ _ (⟨_, some _, _⟩ :: _) _; first | refine go_in (hk := ?_) | refine go_out (hk := ?_) | refine go_void (hk := ?_)) | (show GK _ _ _ _ (blockK _ _ _); refine gk_past rfl ?_) | (show GC _ _ _ _ _ (.cond _ _ _) _; first | refine gc_yes (h1 := ?_) | refine gc_no (h1 := ?_))))
  refine gc_loop (γ := Nat × γ) (fun t => [(0, .yld yd), (1, .ptr i1 0), (3, .int .i64 ((n : Int) - 1 - (t.1 : Int)))]) (fun t => bx1 i1 w :: rwF w n L :: T t.1 t.2) (fun t => t.1 ≤ n) (fun t => n - t.1) (0, g0) (Nat.zero_le _) (hS := sub_refl _) (hb := ?_)
  rintro ⟨m, z⟩ hm I ν μ hk
  simp only at hm hk ⊢
  (repeat (first | with_reducible (first | refine go_nil ?_ | refine gk_seq ?_ | refine gc_seq ?_ | refine gc_reg ?_ | refine gc_skip ?_ | refine gk_block ?_ | refine gc_block ?_ | refine gc_exit ?_ | refine gc_ret ?_ | refine gk_seqret ?_ | refine gk_seqexit ?_ | refine gk_blockret ?_ | refine gk_out ?_ | refine gk_loopret ?_ | refine gk_loopexit ?_) | (show GO _ _ _ _ _ (⟨some _, none, _⟩ :: _) _; first | refine go_op (hk := ?_) | (refine go_nw (hk := ?_); intro u; try simp only [List.length_cons, List.length_nil, List.nil_append, Nat.zero_add]) | (refine go_np (hk := ?_); intro id)) | (show GO _ _ _ _ _ (⟨none, none, _⟩ :: _) _; refine go_st (hk := ?_)) | (show GO _ _ _ _ _ (⟨_, some _, _⟩ :: _) _; first | refine go_in (hk := ?_) | refine go_out (hk := ?_) | refine go_void (hk := ?_)) | (show GK _ _ _ _ (blockK _ _ _); refine gk_past rfl ?_) | (show GC _ _ _ _ _ (.cond _ _ _) _; first | refine gc_yes (h1 := ?_) | refine gc_no (h1 := ?_))))
  refine gc_cond rfl (fun h => ?_) (fun h => ?_)
  · rw [show (n : Int) - 1 - (m : Int) = ((n - 1 - m : Nat) : Int) by omega]
    (repeat (first | with_reducible (first | refine go_nil ?_ | refine gk_seq ?_ | refine gc_seq ?_ | refine gc_reg ?_ | refine gc_skip ?_ | refine gk_block ?_ | refine gc_block ?_ | refine gc_exit ?_ | refine gc_ret ?_ | refine gk_seqret ?_ | refine gk_seqexit ?_ | refine gk_blockret ?_ | refine gk_out ?_ | refine gk_loopret ?_ | refine gk_loopexit ?_) | (show GO _ _ _ _ _ (⟨some _, none, _⟩ :: _) _; first | refine go_op (hk := ?_) | (refine go_nw (hk := ?_); intro u; try simp only [List.length_cons, List.length_nil, List.nil_append, Nat.zero_add]) | (refine go_np (hk := ?_); intro id)) | (show GO _ _ _ _ _ (⟨none, none, _⟩ :: _) _; refine go_st (hk := ?_)) | (show GO _ _ _ _ _ (⟨_, some _, _⟩ :: _) _; first | refine go_in (hk := ?_) | refine go_out (hk := ?_) | refine go_void (hk := ?_)) | (show GK _ _ _ _ (blockK _ _ _); refine gk_past rfl ?_) | (show GC _ _ _ _ _ (.cond _ _ _) _; first | refine gc_yes (h1 := ?_) | refine gc_no (h1 := ?_))))
    refine go_is rfl (stp_ldF (i := n - 1 - m) rfl (by exact Has.auto) hnL.symm (by omega)) ?_
    refine go_yieldE rfl rfl (S2 := fun z' => (bx1 i1 w :: rwF w n L :: T (m + 1) z')) (fun H hH => by
      have h := hy m (by omega) [] z H (by rw [List.append_nil]; exact hH)
      simp only [List.append_nil] at h
      exact h) ?_
    intro z2
    (repeat (first | with_reducible (first | refine go_nil ?_ | refine gk_seq ?_ | refine gc_seq ?_ | refine gc_reg ?_ | refine gc_skip ?_ | refine gk_block ?_ | refine gc_block ?_ | refine gc_exit ?_ | refine gc_ret ?_ | refine gk_seqret ?_ | refine gk_seqexit ?_ | refine gk_blockret ?_ | refine gk_out ?_ | refine gk_loopret ?_ | refine gk_loopexit ?_) | (show GO _ _ _ _ _ (⟨some _, none, _⟩ :: _) _; first | refine go_op (hk := ?_) | (refine go_nw (hk := ?_); intro u; try simp only [List.length_cons, List.length_nil, List.nil_append, Nat.zero_add]) | (refine go_np (hk := ?_); intro id)) | (show GO _ _ _ _ _ (⟨none, none, _⟩ :: _) _; refine go_st (hk := ?_)) | (show GO _ _ _ _ _ (⟨_, some _, _⟩ :: _) _; first | refine go_in (hk := ?_) | refine go_out (hk := ?_) | refine go_void (hk := ?_)) | (show GK _ _ _ _ (blockK _ _ _); refine gk_past rfl ?_) | (show GC _ _ _ _ _ (.cond _ _ _) _; first | refine gc_yes (h1 := ?_) | refine gc_no (h1 := ?_))))
    rw [show (!true) = false from rfl]
    (repeat (first | with_reducible (first | refine go_nil ?_ | refine gk_seq ?_ | refine gc_seq ?_ | refine gc_reg ?_ | refine gc_skip ?_ | refine gk_block ?_ | refine gc_block ?_ | refine gc_exit ?_ | refine gc_ret ?_ | refine gk_seqret ?_ | refine gk_seqexit ?_ | refine gk_blockret ?_ | refine gk_out ?_ | refine gk_loopret ?_ | refine gk_loopexit ?_) | (show GO _ _ _ _ _ (⟨some _, none, _⟩ :: _) _; first | refine go_op (hk := ?_) | (refine go_nw (hk := ?_); intro u; try simp only [List.length_cons, List.length_nil, List.nil_append, Nat.zero_add]) | (refine go_np (hk := ?_); intro id)) | (show GO _ _ _ _ _ (⟨none, none, _⟩ :: _) _; refine go_st (hk := ?_)) | (show GO _ _ _ _ _ (⟨_, some _, _⟩ :: _) _; first | refine go_in (hk := ?_) | refine go_out (hk := ?_) | refine go_void (hk := ?_)) | (show GK _ _ _ _ (blockK _ _ _); refine gk_past rfl ?_) | (show GC _ _ _ _ _ (.cond _ _ _) _; first | refine gc_yes (h1 := ?_) | refine gc_no (h1 := ?_))))
    exact gk_next (hk (m + 1, z2) (by simp only; omega) (by simp only; omega)) (hs := sub_refl _)
  · have : m = n := by omega
    subst this
    (repeat (first | with_reducible (first | refine go_nil ?_ | refine gk_seq ?_ | refine gc_seq ?_ | refine gc_reg ?_ | refine gc_skip ?_ | refine gk_block ?_ | refine gc_block ?_ | refine gc_exit ?_ | refine gc_ret ?_ | refine gk_seqret ?_ | refine gk_seqexit ?_ | refine gk_blockret ?_ | refine gk_out ?_ | refine gk_loopret ?_ | refine gk_loopexit ?_) | (show GO _ _ _ _ _ (⟨some _, none, _⟩ :: _) _; first | refine go_op (hk := ?_) | (refine go_nw (hk := ?_); intro u; try simp only [List.length_cons, List.length_nil, List.nil_append, Nat.zero_add]) | (refine go_np (hk := ?_); intro id)) | (show GO _ _ _ _ _ (⟨none, none, _⟩ :: _) _; refine go_st (hk := ?_)) | (show GO _ _ _ _ _ (⟨_, some _, _⟩ :: _) _; first | refine go_in (hk := ?_) | refine go_out (hk := ?_) | refine go_void (hk := ?_)) | (show GK _ _ _ _ (blockK _ _ _); refine gk_past rfl ?_) | (show GC _ _ _ _ _ (.cond _ _ _) _; first | refine gc_yes (h1 := ?_) | refine gc_no (h1 := ?_))))
    exact gk_retn rfl fun H' hH => ⟨z, hH⟩

noncomputable abbrev caSig (i3 i5 i6 i9 : Nat) (a : AV) (xs ys : List Int) (x : Int) (m : Nat) (_ : Unit) : Sig := [celF i9 (hoM xs ys x m), bx1 i3 a, bx1 i5 (.int .i64 x), cel0 i6, .roI a xs.length xs]

theorem coL_len {xs ys : List Int} : (coL xs ys).length = 0 ↔ ¬ CvOk xs ys := by
  unfold coL
  split
  · rename_i h
    have := h.1.2
    rw [fcL_len]
    exact ⟨fun h2 => by omega, fun h2 => absurd h h2⟩
  · rename_i h
    exact ⟨fun _ => h, fun _ => rfl⟩

theorem implCurveAt_ok {H : Heap} {a b : AV} {xs ys : List Int} {x : Int} (ha : Ints H a xs) (hb : Ints H b ys) (hl : xs.length ≤ 1000000000) (hl' : ys.length ≤ 1000000000) :
    ACalls Try.prog fn_impl_CurveAt [a, b, .int .i64 x] H fun r H' => r = caX xs ys x ∧ H' = H := by
  refine ACalls.val ?_ (by unfold caX; split <;> rfl)
  obtain ⟨ca, oa⟩ := slice_cells ha
  refine code_impl_CurveAt.go [.roI a xs.length xs, .roI b ys.length ys] ⟨⟨rfl, ha⟩, ⟨rfl, hb⟩, trivial⟩ (by simp) ?_
  unfold mc_impl_CurveAt
  (repeat (first | with_reducible (first | refine go_nil ?_ | refine gk_seq ?_ | refine gc_seq ?_ | refine gc_reg ?_ | refine gc_skip ?_ | refine gk_block ?_ | refine gc_block ?_ | refine gc_exit ?_ | refine gc_ret ?_ | refine gk_seqret ?_ | refine gk_seqexit ?_ | refine gk_blockret ?_ | refine gk_out ?_ | refine gk_loopret ?_ | refine gk_loopexit ?_ | refine gq_nil ?_ | refine gr_nil ?_ | refine gc_scope ?_ | refine gk_scope ?_ | refine gk_scoper ?_ | refine gk_scopee ?_) | (with_reducible refine gc_drq ?_; intro _) | (show GO _ _ _ _ _ (⟨some _, none, .call _ _⟩ :: _) _; first | (show GO _ _ _ _ _ (⟨some _, none, .call fn_impl_CurveOf _⟩ :: _) _; refine go_calln rfl code_impl_CurveOf.callable (fun H hH => implCurveOf_ok (hH.ints (by exact Has.auto)) (hH.ints (by exact Has.auto)) (by omega) (by omega)) ?_; intro u) | (show GO _ _ _ _ _ (⟨some _, none, .call fn_impl_validPlace _⟩ :: _) _; refine go_callp rfl code_impl_validPlace.callable (fun H hH => validPlace_ok) ?_)) | (show GO _ _ _ _ _ (⟨some _, none, _⟩ :: _) _; first | refine go_op (hk := ?_) | (refine go_nw (hk := ?_); intro u; try simp only [List.length_cons, List.length_nil, List.nil_append, Nat.zero_add]) | (refine go_np (hk := ?_); intro id)) | (show GQ _ _ _ _ _ _ _ (⟨some _, none, _⟩ :: _) _; first | refine gq_op (hk := ?_) | (refine gq_nw (hk := ?_); intro u; try simp only [List.length_cons, List.length_nil, List.nil_append, Nat.zero_add])) | (show GR _ _ _ _ _ _ (⟨some _, none, _⟩ :: _) _; refine gr_op (hk := ?_)) | (show GO _ _ _ _ _ (⟨none, none, _⟩ :: _) _; refine go_st (hk := ?_)) | (show GR _ _ _ _ _ _ (⟨none, none, _⟩ :: _) _; refine gr_st (hk := ?_)) | (show GO _ _ _ _ _ (⟨_, some _, _⟩ :: _) _; first | refine go_in (hk := ?_) | refine go_out (hk := ?_) | refine go_void (hk := ?_)) | (show GQ _ _ _ _ _ _ _ (⟨_, some _, _⟩ :: _) _; first | refine gq_in (hk := ?_) | refine gq_out (hk := ?_) | refine gq_void (hk := ?_)) | (show GK _ _ _ _ (blockK _ _ _); refine gk_past rfl ?_) | (show GC _ _ _ _ _ (.cond _ _ _) _; first | refine gc_yes (h1 := ?_) | refine gc_no (h1 := ?_))))
  refine go_newp rfl (stp_boxv rfl (by exact Has.auto)) (fun i3 => ?_)
  (repeat (first | with_reducible (first | refine go_nil ?_ | refine gk_seq ?_ | refine gc_seq ?_ | refine gc_reg ?_ | refine gc_skip ?_ | refine gk_block ?_ | refine gc_block ?_ | refine gc_exit ?_ | refine gc_ret ?_ | refine gk_seqret ?_ | refine gk_seqexit ?_ | refine gk_blockret ?_ | refine gk_out ?_ | refine gk_loopret ?_ | refine gk_loopexit ?_ | refine gq_nil ?_ | refine gr_nil ?_ | refine gc_scope ?_ | refine gk_scope ?_ | refine gk_scoper ?_ | refine gk_scopee ?_) | (with_reducible refine gc_drq ?_; intro _) | (show GO _ _ _ _ _ (⟨some _, none, .call _ _⟩ :: _) _; first | (show GO _ _ _ _ _ (⟨some _, none, .call fn_impl_CurveOf _⟩ :: _) _; refine go_calln rfl code_impl_CurveOf.callable (fun H hH => implCurveOf_ok (hH.ints (by exact Has.auto)) (hH.ints (by exact Has.auto)) (by omega) (by omega)) ?_; intro u) | (show GO _ _ _ _ _ (⟨some _, none, .call fn_impl_validPlace _⟩ :: _) _; refine go_callp rfl code_impl_validPlace.callable (fun H hH => validPlace_ok) ?_)) | (show GO _ _ _ _ _ (⟨some _, none, _⟩ :: _) _; first | refine go_op (hk := ?_) | (refine go_nw (hk := ?_); intro u; try simp only [List.length_cons, List.length_nil, List.nil_append, Nat.zero_add]) | (refine go_np (hk := ?_); intro id)) | (show GQ _ _ _ _ _ _ _ (⟨some _, none, _⟩ :: _) _; first | refine gq_op (hk := ?_) | (refine gq_nw (hk := ?_); intro u; try simp only [List.length_cons, List.length_nil, List.nil_append, Nat.zero_add])) | (show GR _ _ _ _ _ _ (⟨some _, none, _⟩ :: _) _; refine gr_op (hk := ?_)) | (show GO _ _ _ _ _ (⟨none, none, _⟩ :: _) _; refine go_st (hk := ?_)) | (show GR _ _ _ _ _ _ (⟨none, none, _⟩ :: _) _; refine gr_st (hk := ?_)) | (show GO _ _ _ _ _ (⟨_, some _, _⟩ :: _) _; first | refine go_in (hk := ?_) | refine go_out (hk := ?_) | refine go_void (hk := ?_)) | (show GQ _ _ _ _ _ _ _ (⟨_, some _, _⟩ :: _) _; first | refine gq_in (hk := ?_) | refine gq_out (hk := ?_) | refine gq_void (hk := ?_)) | (show GK _ _ _ _ (blockK _ _ _); refine gk_past rfl ?_) | (show GC _ _ _ _ _ (.cond _ _ _) _; first | refine gc_yes (h1 := ?_) | refine gc_no (h1 := ?_))))
  rename_i i5
  revert id; intro i6
  have hz := coL_len (xs := xs) (ys := ys)
  have no : ¬ (CvOk xs ys ∧ (-12 ≤ x ∧ x ≤ 12)) → caX xs ys x = .tuple [fr0, .bool false] := fun h => if_neg h
  (repeat (first | with_reducible (first | refine go_nil ?_ | refine gk_seq ?_ | refine gc_seq ?_ | refine gc_reg ?_ | refine gc_skip ?_ | refine gk_block ?_ | refine gc_block ?_ | refine gc_exit ?_ | refine gc_ret ?_ | refine gk_seqret ?_ | refine gk_seqexit ?_ | refine gk_blockret ?_ | refine gk_out ?_ | refine gk_loopret ?_ | refine gk_loopexit ?_ | refine gq_nil ?_ | refine gr_nil ?_ | refine gc_scope ?_ | refine gk_scope ?_ | refine gk_scoper ?_ | refine gk_scopee ?_) | (with_reducible refine gc_drq ?_; intro _) | (show GO _ _ _ _ _ (⟨some _, none, .call _ _⟩ :: _) _; first | (show GO _ _ _ _ _ (⟨some _, none, .call fn_impl_CurveOf _⟩ :: _) _; refine go_calln rfl code_impl_CurveOf.callable (fun H hH => implCurveOf_ok (hH.ints (by exact Has.auto)) (hH.ints (by exact Has.auto)) (by omega) (by omega)) ?_; intro u) | (show GO _ _ _ _ _ (⟨some _, none, .call fn_impl_validPlace _⟩ :: _) _; refine go_callp rfl code_impl_validPlace.callable (fun H hH => validPlace_ok) ?_)) | (show GO _ _ _ _ _ (⟨some _, none, _⟩ :: _) _; first | refine go_op (hk := ?_) | (refine go_nw (hk := ?_); intro u; try simp only [List.length_cons, List.length_nil, List.nil_append, Nat.zero_add]) | (refine go_np (hk := ?_); intro id)) | (show GQ _ _ _ _ _ _ _ (⟨some _, none, _⟩ :: _) _; first | refine gq_op (hk := ?_) | (refine gq_nw (hk := ?_); intro u; try simp only [List.length_cons, List.length_nil, List.nil_append, Nat.zero_add])) | (show GR _ _ _ _ _ _ (⟨some _, none, _⟩ :: _) _; refine gr_op (hk := ?_)) | (show GO _ _ _ _ _ (⟨none, none, _⟩ :: _) _; refine go_st (hk := ?_)) | (show GR _ _ _ _ _ _ (⟨none, none, _⟩ :: _) _; refine gr_st (hk := ?_)) | (show GO _ _ _ _ _ (⟨_, some _, _⟩ :: _) _; first | refine go_in (hk := ?_) | refine go_out (hk := ?_) | refine go_void (hk := ?_)) | (show GQ _ _ _ _ _ _ _ (⟨_, some _, _⟩ :: _) _; first | refine gq_in (hk := ?_) | refine gq_out (hk := ?_) | refine gq_void (hk := ?_)) | (show GK _ _ _ _ (blockK _ _ _); refine gk_past rfl ?_) | (show GC _ _ _ _ _ (.cond _ _ _) _; first | refine gc_yes (h1 := ?_) | refine gc_no (h1 := ?_))))
  refine go_split 18 rfl (fun h1 => ?_) (fun h1 => ?_)
  · (repeat (first | with_reducible (first | refine go_nil ?_ | refine gk_seq ?_ | refine gc_seq ?_ | refine gc_reg ?_ | refine gc_skip ?_ | refine gk_block ?_ | refine gc_block ?_ | refine gc_exit ?_ | refine gc_ret ?_ | refine gk_seqret ?_ | refine gk_seqexit ?_ | refine gk_blockret ?_ | refine gk_out ?_ | refine gk_loopret ?_ | refine gk_loopexit ?_ | refine gq_nil ?_ | refine gr_nil ?_ | refine gc_scope ?_ | refine gk_scope ?_ | refine gk_scoper ?_ | refine gk_scopee ?_) | (with_reducible refine gc_drq ?_; intro _) | (show GO _ _ _ _ _ (⟨some _, none, .call _ _⟩ :: _) _; first | (show GO _ _ _ _ _ (⟨some _, none, .call fn_impl_CurveOf _⟩ :: _) _; refine go_calln rfl code_impl_CurveOf.callable (fun H hH => implCurveOf_ok (hH.ints (by exact Has.auto)) (hH.ints (by exact Has.auto)) (by omega) (by omega)) ?_; intro u) | (show GO _ _ _ _ _ (⟨some _, none, .call fn_impl_validPlace _⟩ :: _) _; refine go_callp rfl code_impl_validPlace.callable (fun H hH => validPlace_ok) ?_)) | (show GO _ _ _ _ _ (⟨some _, none, _⟩ :: _) _; first | refine go_op (hk := ?_) | (refine go_nw (hk := ?_); intro u; try simp only [List.length_cons, List.length_nil, List.nil_append, Nat.zero_add]) | (refine go_np (hk := ?_); intro id)) | (show GQ _ _ _ _ _ _ _ (⟨some _, none, _⟩ :: _) _; first | refine gq_op (hk := ?_) | (refine gq_nw (hk := ?_); intro u; try simp only [List.length_cons, List.length_nil, List.nil_append, Nat.zero_add])) | (show GR _ _ _ _ _ _ (⟨some _, none, _⟩ :: _) _; refine gr_op (hk := ?_)) | (show GO _ _ _ _ _ (⟨none, none, _⟩ :: _) _; refine go_st (hk := ?_)) | (show GR _ _ _ _ _ _ (⟨none, none, _⟩ :: _) _; refine gr_st (hk := ?_)) | (show GO _ _ _ _ _ (⟨_, some _, _⟩ :: _) _; first | refine go_in (hk := ?_) | refine go_out (hk := ?_) | refine go_void (hk := ?_)) | (show GQ _ _ _ _ _ _ _ (⟨_, some _, _⟩ :: _) _; first | refine gq_in (hk := ?_) | refine gq_out (hk := ?_) | refine gq_void (hk := ?_)) | (show GK _ _ _ _ (blockK _ _ _); refine gk_past rfl ?_) | (show GC _ _ _ _ _ (.cond _ _ _) _; first | refine gc_yes (h1 := ?_) | refine gc_no (h1 := ?_))))
    exact gk_rets (rvs_c rfl (by exact Sel.auto) rfl rfl (rvs_t rfl rvs_nil)) fun H' hH => ⟨by rw [no (fun h => (hz.1 (by omega)) h.1)]; rfl, hH.leE⟩
  have hcv : CvOk xs ys := Classical.not_not.1 fun h => h1 (by rw [hz.2 h]; rfl)
  (repeat (first | with_reducible (first | refine go_nil ?_ | refine gk_seq ?_ | refine gc_seq ?_ | refine gc_reg ?_ | refine gc_skip ?_ | refine gk_block ?_ | refine gc_block ?_ | refine gc_exit ?_ | refine gc_ret ?_ | refine gk_seqret ?_ | refine gk_seqexit ?_ | refine gk_blockret ?_ | refine gk_out ?_ | refine gk_loopret ?_ | refine gk_loopexit ?_ | refine gq_nil ?_ | refine gr_nil ?_ | refine gc_scope ?_ | refine gk_scope ?_ | refine gk_scoper ?_ | refine gk_scopee ?_) | (with_reducible refine gc_drq ?_; intro _) | (show GO _ _ _ _ _ (⟨some _, none, .call _ _⟩ :: _) _; first | (show GO _ _ _ _ _ (⟨some _, none, .call fn_impl_CurveOf _⟩ :: _) _; refine go_calln rfl code_impl_CurveOf.callable (fun H hH => implCurveOf_ok (hH.ints (by exact Has.auto)) (hH.ints (by exact Has.auto)) (by omega) (by omega)) ?_; intro u) | (show GO _ _ _ _ _ (⟨some _, none, .call fn_impl_validPlace _⟩ :: _) _; refine go_callp rfl code_impl_validPlace.callable (fun H hH => validPlace_ok) ?_)) | (show GO _ _ _ _ _ (⟨some _, none, _⟩ :: _) _; first | refine go_op (hk := ?_) | (refine go_nw (hk := ?_); intro u; try simp only [List.length_cons, List.length_nil, List.nil_append, Nat.zero_add]) | (refine go_np (hk := ?_); intro id)) | (show GQ _ _ _ _ _ _ _ (⟨some _, none, _⟩ :: _) _; first | refine gq_op (hk := ?_) | (refine gq_nw (hk := ?_); intro u; try simp only [List.length_cons, List.length_nil, List.nil_append, Nat.zero_add])) | (show GR _ _ _ _ _ _ (⟨some _, none, _⟩ :: _) _; refine gr_op (hk := ?_)) | (show GO _ _ _ _ _ (⟨none, none, _⟩ :: _) _; refine go_st (hk := ?_)) | (show GR _ _ _ _ _ _ (⟨none, none, _⟩ :: _) _; refine gr_st (hk := ?_)) | (show GO _ _ _ _ _ (⟨_, some _, _⟩ :: _) _; first | refine go_in (hk := ?_) | refine go_out (hk := ?_) | refine go_void (hk := ?_)) | (show GQ _ _ _ _ _ _ _ (⟨_, some _, _⟩ :: _) _; first | refine gq_in (hk := ?_) | refine gq_out (hk := ?_) | refine gq_void (hk := ?_)) | (show GK _ _ _ _ (blockK _ _ _); refine gk_past rfl ?_) | (show GC _ _ _ _ _ (.cond _ _ _) _; first | refine gc_yes (h1 := ?_) | refine gc_no (h1 := ?_))))
  refine gc_cond rfl (fun h2 => ?_) (fun h2 => ?_)
  · (repeat (first | with_reducible (first | refine go_nil ?_ | refine gk_seq ?_ | refine gc_seq ?_ | refine gc_reg ?_ | refine gc_skip ?_ | refine gk_block ?_ | refine gc_block ?_ | refine gc_exit ?_ | refine gc_ret ?_ | refine gk_seqret ?_ | refine gk_seqexit ?_ | refine gk_blockret ?_ | refine gk_out ?_ | refine gk_loopret ?_ | refine gk_loopexit ?_ | refine gq_nil ?_ | refine gr_nil ?_ | refine gc_scope ?_ | refine gk_scope ?_ | refine gk_scoper ?_ | refine gk_scopee ?_) | (with_reducible refine gc_drq ?_; intro _) | (show GO _ _ _ _ _ (⟨some _, none, .call _ _⟩ :: _) _; first | (show GO _ _ _ _ _ (⟨some _, none, .call fn_impl_CurveOf _⟩ :: _) _; refine go_calln rfl code_impl_CurveOf.callable (fun H hH => implCurveOf_ok (hH.ints (by exact Has.auto)) (hH.ints (by exact Has.auto)) (by omega) (by omega)) ?_; intro u) | (show GO _ _ _ _ _ (⟨some _, none, .call fn_impl_validPlace _⟩ :: _) _; refine go_callp rfl code_impl_validPlace.callable (fun H hH => validPlace_ok) ?_)) | (show GO _ _ _ _ _ (⟨some _, none, _⟩ :: _) _; first | refine go_op (hk := ?_) | (refine go_nw (hk := ?_); intro u; try simp only [List.length_cons, List.length_nil, List.nil_append, Nat.zero_add]) | (refine go_np (hk := ?_); intro id)) | (show GQ _ _ _ _ _ _ _ (⟨some _, none, _⟩ :: _) _; first | refine gq_op (hk := ?_) | (refine gq_nw (hk := ?_); intro u; try simp only [List.length_cons, List.length_nil, List.nil_append, Nat.zero_add])) | (show GR _ _ _ _ _ _ (⟨some _, none, _⟩ :: _) _; refine gr_op (hk := ?_)) | (show GO _ _ _ _ _ (⟨none, none, _⟩ :: _) _; refine go_st (hk := ?_)) | (show GR _ _ _ _ _ _ (⟨none, none, _⟩ :: _) _; refine gr_st (hk := ?_)) | (show GO _ _ _ _ _ (⟨_, some _, _⟩ :: _) _; first | refine go_in (hk := ?_) | refine go_out (hk := ?_) | refine go_void (hk := ?_)) | (show GQ _ _ _ _ _ _ _ (⟨_, some _, _⟩ :: _) _; first | refine gq_in (hk := ?_) | refine gq_out (hk := ?_) | refine gq_void (hk := ?_)) | (show GK _ _ _ _ (blockK _ _ _); refine gk_past rfl ?_) | (show GC _ _ _ _ _ (.cond _ _ _) _; first | refine gc_yes (h1 := ?_) | refine gc_no (h1 := ?_))))
    exact gk_rets (rvs_c rfl (by exact Sel.auto) rfl rfl (rvs_t rfl rvs_nil)) fun H' hH => ⟨by rw [no (fun h => h2 h.2)]; rfl, hH.leE⟩
  have hx : -12 ≤ x ∧ x ≤ 12 := Decidable.not_not.1 h2
  have hp := hcv.1.1
  have hd := hcv.2
  have h5 := hcv.1.2
  obtain ⟨b1, b2⟩ := hp.bd
  have ho := ho_all hp hd (by omega) (by omega) hx
  have el : coL xs ys = fcL xs ys xs.length := if_pos hcv
  rw [caX, if_pos ⟨hcv, hx⟩, el, fcL_len]
  (repeat (first | with_reducible (first | refine go_nil ?_ | refine gk_seq ?_ | refine gc_seq ?_ | refine gc_reg ?_ | refine gc_skip ?_ | refine gk_block ?_ | refine gc_block ?_ | refine gc_exit ?_ | refine gc_ret ?_ | refine gk_seqret ?_ | refine gk_seqexit ?_ | refine gk_blockret ?_ | refine gk_out ?_ | refine gk_loopret ?_ | refine gk_loopexit ?_ | refine gq_nil ?_ | refine gr_nil ?_ | refine gc_scope ?_ | refine gk_scope ?_ | refine gk_scoper ?_ | refine gk_scopee ?_) | (with_reducible refine gc_drq ?_; intro _) | (show GO _ _ _ _ _ (⟨some _, none, .call _ _⟩ :: _) _; first | (show GO _ _ _ _ _ (⟨some _, none, .call fn_impl_CurveOf _⟩ :: _) _; refine go_calln rfl code_impl_CurveOf.callable (fun H hH => implCurveOf_ok (hH.ints (by exact Has.auto)) (hH.ints (by exact Has.auto)) (by omega) (by omega)) ?_; intro u) | (show GO _ _ _ _ _ (⟨some _, none, .call fn_impl_validPlace _⟩ :: _) _; refine go_callp rfl code_impl_validPlace.callable (fun H hH => validPlace_ok) ?_)) | (show GO _ _ _ _ _ (⟨some _, none, _⟩ :: _) _; first | refine go_op (hk := ?_) | (refine go_nw (hk := ?_); intro u; try simp only [List.length_cons, List.length_nil, List.nil_append, Nat.zero_add]) | (refine go_np (hk := ?_); intro id)) | (show GQ _ _ _ _ _ _ _ (⟨some _, none, _⟩ :: _) _; first | refine gq_op (hk := ?_) | (refine gq_nw (hk := ?_); intro u; try simp only [List.length_cons, List.length_nil, List.nil_append, Nat.zero_add])) | (show GR _ _ _ _ _ _ (⟨some _, none, _⟩ :: _) _; refine gr_op (hk := ?_)) | (show GO _ _ _ _ _ (⟨none, none, _⟩ :: _) _; refine go_st (hk := ?_)) | (show GR _ _ _ _ _ _ (⟨none, none, _⟩ :: _) _; refine gr_st (hk := ?_)) | (show GO _ _ _ _ _ (⟨_, some _, _⟩ :: _) _; first | refine go_in (hk := ?_) | refine go_out (hk := ?_) | refine go_void (hk := ?_)) | (show GQ _ _ _ _ _ _ _ (⟨_, some _, _⟩ :: _) _; first | refine gq_in (hk := ?_) | refine gq_out (hk := ?_) | refine gq_void (hk := ?_)) | (show GK _ _ _ _ (blockK _ _ _); refine gk_past rfl ?_) | (show GC _ _ _ _ _ (.cond _ _ _) _; first | refine gc_yes (h1 := ?_) | refine gc_no (h1 := ?_))))
  refine go_callp rfl code_impl_whole.callable (fun H hH => implWhole_ok') ?_
  (repeat (first | with_reducible (first | refine go_nil ?_ | refine gk_seq ?_ | refine gc_seq ?_ | refine gc_reg ?_ | refine gc_skip ?_ | refine gk_block ?_ | refine gc_block ?_ | refine gc_exit ?_ | refine gc_ret ?_ | refine gk_seqret ?_ | refine gk_seqexit ?_ | refine gk_blockret ?_ | refine gk_out ?_ | refine gk_loopret ?_ | refine gk_loopexit ?_ | refine gq_nil ?_ | refine gr_nil ?_ | refine gc_scope ?_ | refine gk_scope ?_ | refine gk_scoper ?_ | refine gk_scopee ?_) | (with_reducible refine gc_drq ?_; intro _) | (show GO _ _ _ _ _ (⟨some _, none, .call _ _⟩ :: _) _; first | (show GO _ _ _ _ _ (⟨some _, none, .call fn_impl_CurveOf _⟩ :: _) _; refine go_calln rfl code_impl_CurveOf.callable (fun H hH => implCurveOf_ok (hH.ints (by exact Has.auto)) (hH.ints (by exact Has.auto)) (by omega) (by omega)) ?_; intro u) | (show GO _ _ _ _ _ (⟨some _, none, .call fn_impl_validPlace _⟩ :: _) _; refine go_callp rfl code_impl_validPlace.callable (fun H hH => validPlace_ok) ?_)) | (show GO _ _ _ _ _ (⟨some _, none, _⟩ :: _) _; first | refine go_op (hk := ?_) | (refine go_nw (hk := ?_); intro u; try simp only [List.length_cons, List.length_nil, List.nil_append, Nat.zero_add]) | (refine go_np (hk := ?_); intro id)) | (show GQ _ _ _ _ _ _ _ (⟨some _, none, _⟩ :: _) _; first | refine gq_op (hk := ?_) | (refine gq_nw (hk := ?_); intro u; try simp only [List.length_cons, List.length_nil, List.nil_append, Nat.zero_add])) | (show GR _ _ _ _ _ _ (⟨some _, none, _⟩ :: _) _; refine gr_op (hk := ?_)) | (show GO _ _ _ _ _ (⟨none, none, _⟩ :: _) _; refine go_st (hk := ?_)) | (show GR _ _ _ _ _ _ (⟨none, none, _⟩ :: _) _; refine gr_st (hk := ?_)) | (show GO _ _ _ _ _ (⟨_, some _, _⟩ :: _) _; first | refine go_in (hk := ?_) | refine go_out (hk := ?_) | refine go_void (hk := ?_)) | (show GQ _ _ _ _ _ _ _ (⟨_, some _, _⟩ :: _) _; first | refine gq_in (hk := ?_) | refine gq_out (hk := ?_) | refine gq_void (hk := ?_)) | (show GK _ _ _ _ (blockK _ _ _); refine gk_past rfl ?_) | (show GC _ _ _ _ _ (.cond _ _ _) _; first | refine gc_yes (h1 := ?_) | refine gc_no (h1 := ?_))))
  revert id; intro i9
  refine go_callg rfl code_slices_Backward_impl_Frac_impl_Frac.callable (fun H hH => backward_ok hH (w := u) (by exact Has.auto)) ?_
  intro g hg
  (repeat (first | with_reducible (first | refine go_nil ?_ | refine gk_seq ?_ | refine gc_seq ?_ | refine gc_reg ?_ | refine gc_skip ?_ | refine gk_block ?_ | refine gc_block ?_ | refine gc_exit ?_ | refine gc_ret ?_ | refine gk_seqret ?_ | refine gk_seqexit ?_ | refine gk_blockret ?_ | refine gk_out ?_ | refine gk_loopret ?_ | refine gk_loopexit ?_ | refine gq_nil ?_ | refine gr_nil ?_ | refine gc_scope ?_ | refine gk_scope ?_ | refine gk_scoper ?_ | refine gk_scopee ?_) | (with_reducible refine gc_drq ?_; intro _) | (show GO _ _ _ _ _ (⟨some _, none, .call _ _⟩ :: _) _; first | (show GO _ _ _ _ _ (⟨some _, none, .call fn_impl_CurveOf _⟩ :: _) _; refine go_calln rfl code_impl_CurveOf.callable (fun H hH => implCurveOf_ok (hH.ints (by exact Has.auto)) (hH.ints (by exact Has.auto)) (by omega) (by omega)) ?_; intro u) | (show GO _ _ _ _ _ (⟨some _, none, .call fn_impl_validPlace _⟩ :: _) _; refine go_callp rfl code_impl_validPlace.callable (fun H hH => validPlace_ok) ?_)) | (show GO _ _ _ _ _ (⟨some _, none, _⟩ :: _) _; first | refine go_op (hk := ?_) | (refine go_nw (hk := ?_); intro u; try simp only [List.length_cons, List.length_nil, List.nil_append, Nat.zero_add]) | (refine go_np (hk := ?_); intro id)) | (show GQ _ _ _ _ _ _ _ (⟨some _, none, _⟩ :: _) _; first | refine gq_op (hk := ?_) | (refine gq_nw (hk := ?_); intro u; try simp only [List.length_cons, List.length_nil, List.nil_append, Nat.zero_add])) | (show GR _ _ _ _ _ _ (⟨some _, none, _⟩ :: _) _; refine gr_op (hk := ?_)) | (show GO _ _ _ _ _ (⟨none, none, _⟩ :: _) _; refine go_st (hk := ?_)) | (show GR _ _ _ _ _ _ (⟨none, none, _⟩ :: _) _; refine gr_st (hk := ?_)) | (show GO _ _ _ _ _ (⟨_, some _, _⟩ :: _) _; first | refine go_in (hk := ?_) | refine go_out (hk := ?_) | refine go_void (hk := ?_)) | (show GQ _ _ _ _ _ _ _ (⟨_, some _, _⟩ :: _) _; first | refine gq_in (hk := ?_) | refine gq_out (hk := ?_) | refine gq_void (hk := ?_)) | (show GK _ _ _ _ (blockK _ _ _); refine gk_past rfl ?_) | (show GC _ _ _ _ _ (.cond _ _ _) _; first | refine gc_yes (h1 := ?_) | refine gc_no (h1 := ?_))))
  refine gc_rfuncE (ι := Nat) (γ := Unit) (f := fn_slices_Backward_impl_Frac_impl_Frac_1) (caps := [.ptr g 0]) (fun m z => bx1 g u :: rwF u xs.length (fcL xs ys xs.length) :: caSig i3 i5 i6 i9 a xs ys x m z) (fun s t vs => ∃ m, s = m ∧ t = m + 1 ∧ m < xs.length ∧ vs = [.int .i64 ((xs.length - 1 - m : Nat) : Int), frV (nthR (fcL xs ys xs.length) (xs.length - 1 - m))]) 0 xs.length () rfl code_slices_Backward_impl_Frac_impl_Frac_1.callable (by exact Sub.auto) ?_ ?_ ?_
  · intro A' yd H hy hS0
    exact backward1_ok (L := fcL xs ys xs.length) (fcL_len _ _ _) (by omega) (caSig i3 i5 i6 i9 a xs ys x) () (fun m hm F z H' hH' => hy m (m + 1) _ ⟨m, rfl, rfl, hm, rfl⟩ F z H' hH') hS0
  · rintro s t vs ⟨m, rfl, rfl, hm, rfl⟩
    refine ⟨rfl, fun F z ob1 ob2 Q1 Q2 g1 g2 => ?_⟩
    rw [fcL_at _ _ _ (by omega)]
    have w := (ho s hm).1
    have x1 := b1.nth (by omega) (xs.length - 1 - s)
    simp only [caSig, List.cons_append, List.nil_append] at g2 ⊢
    rw [hoM] at g2
    (repeat (first | with_reducible (first | refine go_nil ?_ | refine gk_seq ?_ | refine gc_seq ?_ | refine gc_reg ?_ | refine gc_skip ?_ | refine gk_block ?_ | refine gc_block ?_ | refine gc_exit ?_ | refine gc_ret ?_ | refine gk_seqret ?_ | refine gk_seqexit ?_ | refine gk_blockret ?_ | refine gk_out ?_ | refine gk_loopret ?_ | refine gk_loopexit ?_ | refine gq_nil ?_ | refine gr_nil ?_ | refine gc_scope ?_ | refine gk_scope ?_ | refine gk_scoper ?_ | refine gk_scopee ?_) | (with_reducible refine gc_drq ?_; intro _) | (show GO _ _ _ _ _ (⟨some _, none, .call _ _⟩ :: _) _; first | (show GO _ _ _ _ _ (⟨some _, none, .call fn_impl_CurveOf _⟩ :: _) _; refine go_calln rfl code_impl_CurveOf.callable (fun H hH => implCurveOf_ok (hH.ints (by exact Has.auto)) (hH.ints (by exact Has.auto)) (by omega) (by omega)) ?_; intro u) | (show GO _ _ _ _ _ (⟨some _, none, .call fn_impl_validPlace _⟩ :: _) _; refine go_callp rfl code_impl_validPlace.callable (fun H hH => validPlace_ok) ?_)) | (show GO _ _ _ _ _ (⟨some _, none, _⟩ :: _) _; first | refine go_op (hk := ?_) | (refine go_nw (hk := ?_); intro u; try simp only [List.length_cons, List.length_nil, List.nil_append, Nat.zero_add]) | (refine go_np (hk := ?_); intro id)) | (show GQ _ _ _ _ _ _ _ (⟨some _, none, _⟩ :: _) _; first | refine gq_op (hk := ?_) | (refine gq_nw (hk := ?_); intro u; try simp only [List.length_cons, List.length_nil, List.nil_append, Nat.zero_add])) | (show GR _ _ _ _ _ _ (⟨some _, none, _⟩ :: _) _; refine gr_op (hk := ?_)) | (show GO _ _ _ _ _ (⟨none, none, _⟩ :: _) _; refine go_st (hk := ?_)) | (show GR _ _ _ _ _ _ (⟨none, none, _⟩ :: _) _; refine gr_st (hk := ?_)) | (show GO _ _ _ _ _ (⟨_, some _, _⟩ :: _) _; first | refine go_in (hk := ?_) | refine go_out (hk := ?_) | refine go_void (hk := ?_)) | (show GQ _ _ _ _ _ _ _ (⟨_, some _, _⟩ :: _) _; first | refine gq_in (hk := ?_) | refine gq_out (hk := ?_) | refine gq_void (hk := ?_)) | (show GK _ _ _ _ (blockK _ _ _); refine gk_past rfl ?_) | (show GC _ _ _ _ _ (.cond _ _ _) _; first | refine gc_yes (h1 := ?_) | refine gc_no (h1 := ?_))))
    revert id; intro i11
    refine g1 _ _ ?_
    (repeat (first | with_reducible (first | refine go_nil ?_ | refine gk_seq ?_ | refine gc_seq ?_ | refine gc_reg ?_ | refine gc_skip ?_ | refine gk_block ?_ | refine gc_block ?_ | refine gc_exit ?_ | refine gc_ret ?_ | refine gk_seqret ?_ | refine gk_seqexit ?_ | refine gk_blockret ?_ | refine gk_out ?_ | refine gk_loopret ?_ | refine gk_loopexit ?_ | refine gq_nil ?_ | refine gr_nil ?_ | refine gc_scope ?_ | refine gk_scope ?_ | refine gk_scoper ?_ | refine gk_scopee ?_) | (with_reducible refine gc_drq ?_; intro _) | (show GO _ _ _ _ _ (⟨some _, none, .call _ _⟩ :: _) _; first | (show GO _ _ _ _ _ (⟨some _, none, .call fn_impl_CurveOf _⟩ :: _) _; refine go_calln rfl code_impl_CurveOf.callable (fun H hH => implCurveOf_ok (hH.ints (by exact Has.auto)) (hH.ints (by exact Has.auto)) (by omega) (by omega)) ?_; intro u) | (show GO _ _ _ _ _ (⟨some _, none, .call fn_impl_validPlace _⟩ :: _) _; refine go_callp rfl code_impl_validPlace.callable (fun H hH => validPlace_ok) ?_)) | (show GO _ _ _ _ _ (⟨some _, none, _⟩ :: _) _; first | refine go_op (hk := ?_) | (refine go_nw (hk := ?_); intro u; try simp only [List.length_cons, List.length_nil, List.nil_append, Nat.zero_add]) | (refine go_np (hk := ?_); intro id)) | (show GQ _ _ _ _ _ _ _ (⟨some _, none, _⟩ :: _) _; first | refine gq_op (hk := ?_) | (refine gq_nw (hk := ?_); intro u; try simp only [List.length_cons, List.length_nil, List.nil_append, Nat.zero_add])) | (show GR _ _ _ _ _ _ (⟨some _, none, _⟩ :: _) _; refine gr_op (hk := ?_)) | (show GO _ _ _ _ _ (⟨none, none, _⟩ :: _) _; refine go_st (hk := ?_)) | (show GR _ _ _ _ _ _ (⟨none, none, _⟩ :: _) _; refine gr_st (hk := ?_)) | (show GO _ _ _ _ _ (⟨_, some _, _⟩ :: _) _; first | refine go_in (hk := ?_) | refine go_out (hk := ?_) | refine go_void (hk := ?_)) | (show GQ _ _ _ _ _ _ _ (⟨_, some _, _⟩ :: _) _; first | refine gq_in (hk := ?_) | refine gq_out (hk := ?_) | refine gq_void (hk := ?_)) | (show GK _ _ _ _ (blockK _ _ _); refine gk_past rfl ?_) | (show GC _ _ _ _ _ (.cond _ _ _) _; first | refine gc_yes (h1 := ?_) | refine gc_no (h1 := ?_))))
    refine gc_drc (fun _ => qtTab [(fn_impl_Frac_times, dTimesI), (fn_impl_Frac_plus, dPlusI)]) (fun H _ => qtTab_cons (dTimesI_ok H) (qtTab_cons (dPlusI_ok H) qtTab_nil)) (fun H0 => ?_)
    (repeat (first | with_reducible (first | refine go_nil ?_ | refine gk_seq ?_ | refine gc_seq ?_ | refine gc_reg ?_ | refine gc_skip ?_ | refine gk_block ?_ | refine gc_block ?_ | refine gc_exit ?_ | refine gc_ret ?_ | refine gk_seqret ?_ | refine gk_seqexit ?_ | refine gk_blockret ?_ | refine gk_out ?_ | refine gk_loopret ?_ | refine gk_loopexit ?_ | refine gq_nil ?_ | refine gr_nil ?_ | refine gc_scope ?_ | refine gk_scope ?_ | refine gk_scoper ?_ | refine gk_scopee ?_) | (with_reducible refine gc_drq ?_; intro _) | (show GO _ _ _ _ _ (⟨some _, none, .call _ _⟩ :: _) _; first | (show GO _ _ _ _ _ (⟨some _, none, .call fn_impl_CurveOf _⟩ :: _) _; refine go_calln rfl code_impl_CurveOf.callable (fun H hH => implCurveOf_ok (hH.ints (by exact Has.auto)) (hH.ints (by exact Has.auto)) (by omega) (by omega)) ?_; intro u) | (show GO _ _ _ _ _ (⟨some _, none, .call fn_impl_validPlace _⟩ :: _) _; refine go_callp rfl code_impl_validPlace.callable (fun H hH => validPlace_ok) ?_)) | (show GO _ _ _ _ _ (⟨some _, none, _⟩ :: _) _; first | refine go_op (hk := ?_) | (refine go_nw (hk := ?_); intro u; try simp only [List.length_cons, List.length_nil, List.nil_append, Nat.zero_add]) | (refine go_np (hk := ?_); intro id)) | (show GQ _ _ _ _ _ _ _ (⟨some _, none, _⟩ :: _) _; first | refine gq_op (hk := ?_) | (refine gq_nw (hk := ?_); intro u; try simp only [List.length_cons, List.length_nil, List.nil_append, Nat.zero_add])) | (show GR _ _ _ _ _ _ (⟨some _, none, _⟩ :: _) _; refine gr_op (hk := ?_)) | (show GO _ _ _ _ _ (⟨none, none, _⟩ :: _) _; refine go_st (hk := ?_)) | (show GR _ _ _ _ _ _ (⟨none, none, _⟩ :: _) _; refine gr_st (hk := ?_)) | (show GO _ _ _ _ _ (⟨_, some _, _⟩ :: _) _; first | refine go_in (hk := ?_) | refine go_out (hk := ?_) | refine go_void (hk := ?_)) | (show GQ _ _ _ _ _ _ _ (⟨_, some _, _⟩ :: _) _; first | refine gq_in (hk := ?_) | refine gq_out (hk := ?_) | refine gq_void (hk := ?_)) | (show GK _ _ _ _ (blockK _ _ _); refine gk_past rfl ?_) | (show GC _ _ _ _ _ (.cond _ _ _) _; first | refine gc_yes (h1 := ?_) | refine gc_no (h1 := ?_))))
    refine gr_call rfl (dTimesI_is (p := hoM xs ys x s) w.1) ?_
    (repeat (first | with_reducible (first | refine go_nil ?_ | refine gk_seq ?_ | refine gc_seq ?_ | refine gc_reg ?_ | refine gc_skip ?_ | refine gk_block ?_ | refine gc_block ?_ | refine gc_exit ?_ | refine gc_ret ?_ | refine gk_seqret ?_ | refine gk_seqexit ?_ | refine gk_blockret ?_ | refine gk_out ?_ | refine gk_loopret ?_ | refine gk_loopexit ?_ | refine gq_nil ?_ | refine gr_nil ?_ | refine gc_scope ?_ | refine gk_scope ?_ | refine gk_scoper ?_ | refine gk_scopee ?_) | (with_reducible refine gc_drq ?_; intro _) | (show GO _ _ _ _ _ (⟨some _, none, .call _ _⟩ :: _) _; first | (show GO _ _ _ _ _ (⟨some _, none, .call fn_impl_CurveOf _⟩ :: _) _; refine go_calln rfl code_impl_CurveOf.callable (fun H hH => implCurveOf_ok (hH.ints (by exact Has.auto)) (hH.ints (by exact Has.auto)) (by omega) (by omega)) ?_; intro u) | (show GO _ _ _ _ _ (⟨some _, none, .call fn_impl_validPlace _⟩ :: _) _; refine go_callp rfl code_impl_validPlace.callable (fun H hH => validPlace_ok) ?_)) | (show GO _ _ _ _ _ (⟨some _, none, _⟩ :: _) _; first | refine go_op (hk := ?_) | (refine go_nw (hk := ?_); intro u; try simp only [List.length_cons, List.length_nil, List.nil_append, Nat.zero_add]) | (refine go_np (hk := ?_); intro id)) | (show GQ _ _ _ _ _ _ _ (⟨some _, none, _⟩ :: _) _; first | refine gq_op (hk := ?_) | (refine gq_nw (hk := ?_); intro u; try simp only [List.length_cons, List.length_nil, List.nil_append, Nat.zero_add])) | (show GR _ _ _ _ _ _ (⟨some _, none, _⟩ :: _) _; refine gr_op (hk := ?_)) | (show GO _ _ _ _ _ (⟨none, none, _⟩ :: _) _; refine go_st (hk := ?_)) | (show GR _ _ _ _ _ _ (⟨none, none, _⟩ :: _) _; refine gr_st (hk := ?_)) | (show GO _ _ _ _ _ (⟨_, some _, _⟩ :: _) _; first | refine go_in (hk := ?_) | refine go_out (hk := ?_) | refine go_void (hk := ?_)) | (show GQ _ _ _ _ _ _ _ (⟨_, some _, _⟩ :: _) _; first | refine gq_in (hk := ?_) | refine gq_out (hk := ?_) | refine gq_void (hk := ?_)) | (show GK _ _ _ _ (blockK _ _ _); refine gk_past rfl ?_) | (show GC _ _ _ _ _ (.cond _ _ _) _; first | refine gc_yes (h1 := ?_) | refine gc_no (h1 := ?_))))
    refine gr_call rfl (fam2_is (F := FitA) (p := hoM xs ys x s * ((x - nth xs (xs.length - 1 - s) : Int) : Rat)) (q := ddv xs ys (xs.length - 1 - s) 0) w.2) ?_
    (repeat (first | with_reducible (first | refine go_nil ?_ | refine gk_seq ?_ | refine gc_seq ?_ | refine gc_reg ?_ | refine gc_skip ?_ | refine gk_block ?_ | refine gc_block ?_ | refine gc_exit ?_ | refine gc_ret ?_ | refine gk_seqret ?_ | refine gk_seqexit ?_ | refine gk_blockret ?_ | refine gk_out ?_ | refine gk_loopret ?_ | refine gk_loopexit ?_ | refine gq_nil ?_ | refine gr_nil ?_ | refine gc_scope ?_ | refine gk_scope ?_ | refine gk_scoper ?_ | refine gk_scopee ?_) | (with_reducible refine gc_drq ?_; intro _) | (show GO _ _ _ _ _ (⟨some _, none, .call _ _⟩ :: _) _; first | (show GO _ _ _ _ _ (⟨some _, none, .call fn_impl_CurveOf _⟩ :: _) _; refine go_calln rfl code_impl_CurveOf.callable (fun H hH => implCurveOf_ok (hH.ints (by exact Has.auto)) (hH.ints (by exact Has.auto)) (by omega) (by omega)) ?_; intro u) | (show GO _ _ _ _ _ (⟨some _, none, .call fn_impl_validPlace _⟩ :: _) _; refine go_callp rfl code_impl_validPlace.callable (fun H hH => validPlace_ok) ?_)) | (show GO _ _ _ _ _ (⟨some _, none, _⟩ :: _) _; first | refine go_op (hk := ?_) | (refine go_nw (hk := ?_); intro u; try simp only [List.length_cons, List.length_nil, List.nil_append, Nat.zero_add]) | (refine go_np (hk := ?_); intro id)) | (show GQ _ _ _ _ _ _ _ (⟨some _, none, _⟩ :: _) _; first | refine gq_op (hk := ?_) | (refine gq_nw (hk := ?_); intro u; try simp only [List.length_cons, List.length_nil, List.nil_append, Nat.zero_add])) | (show GR _ _ _ _ _ _ (⟨some _, none, _⟩ :: _) _; refine gr_op (hk := ?_)) | (show GO _ _ _ _ _ (⟨none, none, _⟩ :: _) _; refine go_st (hk := ?_)) | (show GR _ _ _ _ _ _ (⟨none, none, _⟩ :: _) _; refine gr_st (hk := ?_)) | (show GO _ _ _ _ _ (⟨_, some _, _⟩ :: _) _; first | refine go_in (hk := ?_) | refine go_out (hk := ?_) | refine go_void (hk := ?_)) | (show GQ _ _ _ _ _ _ _ (⟨_, some _, _⟩ :: _) _; first | refine gq_in (hk := ?_) | refine gq_out (hk := ?_) | refine gq_void (hk := ?_)) | (show GK _ _ _ _ (blockK _ _ _); refine gk_past rfl ?_) | (show GC _ _ _ _ _ (.cond _ _ _) _; first | refine gc_yes (h1 := ?_) | refine gc_no (h1 := ?_))))
    exact gk_next (F := []) (g2 [] ()) (hs := Sub.cons (by exact Sel.auto) (Sub.cons (by exact Sel.auto) (Sub.cons (by exact Sel.auto) (Sub.cons (by exact Sel.auto) (Sub.cons (by exact Sel.auto) (Sub.cons (by exact Sel.auto) (Sub.cons (by exact Sel.auto) (sub_drop (sub_refl _)))))))))
  · intro z
    simp only [caSig]
    (repeat (first | with_reducible (first | refine go_nil ?_ | refine gk_seq ?_ | refine gc_seq ?_ | refine gc_reg ?_ | refine gc_skip ?_ | refine gk_block ?_ | refine gc_block ?_ | refine gc_exit ?_ | refine gc_ret ?_ | refine gk_seqret ?_ | refine gk_seqexit ?_ | refine gk_blockret ?_ | refine gk_out ?_ | refine gk_loopret ?_ | refine gk_loopexit ?_ | refine gq_nil ?_ | refine gr_nil ?_ | refine gc_scope ?_ | refine gk_scope ?_ | refine gk_scoper ?_ | refine gk_scopee ?_) | (with_reducible refine gc_drq ?_; intro _) | (show GO _ _ _ _ _ (⟨some _, none, .call _ _⟩ :: _) _; first | (show GO _ _ _ _ _ (⟨some _, none, .call fn_impl_CurveOf _⟩ :: _) _; refine go_calln rfl code_impl_CurveOf.callable (fun H hH => implCurveOf_ok (hH.ints (by exact Has.auto)) (hH.ints (by exact Has.auto)) (by omega) (by omega)) ?_; intro u) | (show GO _ _ _ _ _ (⟨some _, none, .call fn_impl_validPlace _⟩ :: _) _; refine go_callp rfl code_impl_validPlace.callable (fun H hH => validPlace_ok) ?_)) | (show GO _ _ _ _ _ (⟨some _, none, _⟩ :: _) _; first | refine go_op (hk := ?_) | (refine go_nw (hk := ?_); intro u; try simp only [List.length_cons, List.length_nil, List.nil_append, Nat.zero_add]) | (refine go_np (hk := ?_); intro id)) | (show GQ _ _ _ _ _ _ _ (⟨some _, none, _⟩ :: _) _; first | refine gq_op (hk := ?_) | (refine gq_nw (hk := ?_); intro u; try simp only [List.length_cons, List.length_nil, List.nil_append, Nat.zero_add])) | (show GR _ _ _ _ _ _ (⟨some _, none, _⟩ :: _) _; refine gr_op (hk := ?_)) | (show GO _ _ _ _ _ (⟨none, none, _⟩ :: _) _; refine go_st (hk := ?_)) | (show GR _ _ _ _ _ _ (⟨none, none, _⟩ :: _) _; refine gr_st (hk := ?_)) | (show GO _ _ _ _ _ (⟨_, some _, _⟩ :: _) _; first | refine go_in (hk := ?_) | refine go_out (hk := ?_) | refine go_void (hk := ?_)) | (show GQ _ _ _ _ _ _ _ (⟨_, some _, _⟩ :: _) _; first | refine gq_in (hk := ?_) | refine gq_out (hk := ?_) | refine gq_void (hk := ?_)) | (show GK _ _ _ _ (blockK _ _ _); refine gk_past rfl ?_) | (show GC _ _ _ _ _ (.cond _ _ _) _; first | refine gc_yes (h1 := ?_) | refine gc_no (h1 := ?_))))
    exact gk_rets (rvs_c rfl (by exact Sel.auto) rfl rfl (rvs_t rfl rvs_nil)) fun H' hH => ⟨rfl, hH.leE⟩

noncomputable def opN (p : Prop) (q : Rat) : Int := by
  classical
  exact if p then q.num else 0

noncomputable def opD (p : Prop) (q : Rat) : Int := by
  classical
  exact if p then (q.den : Int) else 0

noncomputable abbrev opV (p : Prop) (q : Rat) : AV := .agg [.int .i64 (opN p q), .int .i64 (opD p q)]

theorem opV_yes {p : Prop} {q : Rat} (h : p) : opV p q = frV q := by
  unfold opV opN opD; rw [if_pos h, if_pos h]; rfl

theorem opV_no {p : Prop} {q : Rat} (h : ¬ p) : opV p q = fr0 := by
  unfold opV opN opD; rw [if_neg h, if_neg h]

def CaOk (xs ys : List Int) (x : Int) : Prop := CvOk xs ys ∧ (-12 ≤ x ∧ x ≤ 12)

noncomputable instance (xs ys : List Int) (x : Int) : Decidable (CaOk xs ys x) := Classical.propDecidable _

theorem caX_t (xs ys : List Int) (x : Int) : caX xs ys x = .tuple [opV (CaOk xs ys x) (hoM xs ys x xs.length), .bool (decide (CaOk xs ys x))] := by
  unfold caX
  by_cases h : CaOk xs ys x
  · rw [if_pos (show CvOk xs ys ∧ (-12 ≤ x ∧ x ≤ 12) from h), opV_yes h, decide_eq_true h]
  · rw [if_neg (show ¬ (CvOk xs ys ∧ (-12 ≤ x ∧ x ≤ 12)) from h), opV_no h, decide_eq_false h]

theorem implCurveAt_t {H : Heap} {a b : AV} {xs ys : List Int} {x : Int} (ha : Ints H a xs) (hb : Ints H b ys) (hl : xs.length ≤ 1000000000) (hl' : ys.length ≤ 1000000000) :
    ACalls Try.prog fn_impl_CurveAt [a, b, .int .i64 x] H fun r H' => r = .tuple [opV (CaOk xs ys x) (hoM xs ys x xs.length), .bool (decide (CaOk xs ys x))] ∧ H' = H := by
  rw [← caX_t]; exact implCurveAt_ok ha hb hl hl'

theorem coL_le (xs ys : List Int) : (coL xs ys).length ≤ 5 := by
  unfold coL
  split
  · rename_i h
    have := h.1.2
    rw [fcL_len]; omega
  · simp

theorem Pts.neg {xs ys : List Int} (h : Pts xs ys) : Pts xs (ys.map (- ·)) := by
  obtain ⟨h1, h2, h3⟩ := h
  refine ⟨fun i hi => ?_, by simp [h2], h3⟩
  have h4 := h1 i hi
  rw [getD_map _ (by omega)]
  exact ⟨by simp; omega, h4.2.1, by omega⟩

theorem Cloud.neg {xs ys : List Int} (h : Cloud xs ys) : Cloud xs (ys.map (- ·)) := ⟨h.1.neg, h.2⟩
/- slopes of what is turned, of what is negated -/

noncomputable def prR (xs : List Int) (x : Int) (i : Nat) : Nat → Rat
  | 0 => 1
  | m + 1 => prR xs x i m * ((x - nth xs (i + m) : Int) : Rat)

theorem prR_front (xs : List Int) (x : Int) (i : Nat) : ∀ m, prR xs x i (m + 1) = ((x - nth xs i : Int) : Rat) * prR xs x (i + 1) m
  | 0 => by rw [prR, prR, prR, Nat.add_zero]; grind
  | m + 1 => by
    rw [prR, prR_front xs x i m, prR, show i + 1 + m = i + (m + 1) by omega]; grind

theorem prR_zero {xs : List Int} {x : Int} {i j : Nat} : ∀ {m}, i ≤ j → j < i + m → x = nth xs j → prR xs x i m = 0
  | 0, h1, h2, _ => by omega
  | m + 1, h1, h2, e => by
    rw [prR]
    rcases Nat.lt_or_ge j (i + m) with h3 | h3
    · rw [prR_zero h1 h3 e, Rat.zero_mul]
    · rw [show i + m = j by omega, e, Int.sub_self]
      have e2 : ((0 : Int) : Rat) = 0 := rfl
      rw [e2, Rat.mul_zero]

noncomputable def nwS (xs ys : List Int) (x : Int) (i : Nat) : Nat → Rat
  | 0 => 0
  | m + 1 => nwS xs ys x i m + ddv xs ys m i * prR xs x i m

theorem ddv_mul {xs ys : List Int} {k i : Nat} (h : nth xs (i + k + 1) - nth xs i ≠ 0) : ddv xs ys (k + 1) i * (((nth xs (i + k + 1) : Int) : Rat) - ((nth xs i : Int) : Rat)) = ddv xs ys k (i + 1) - ddv xs ys k i := by
  have h2 := Rat.div_mul_cancel (a := ((1 : Int) : Rat)) (rat_ne h)
  have e1 : ((1 : Int) : Rat) = 1 := rfl
  rw [ddv, ← Rat.intCast_sub, Rat.mul_assoc, h2, e1, Rat.mul_one]

theorem nwS_front {xs ys : List Int} (x : Int) (hd : Dif xs) : ∀ {L i : Nat}, i + L < xs.length → nwS xs ys x i (L + 1) = nwS xs ys x (i + 1) L + ddv xs ys L i * prR xs x (i + 1) L
  | 0, i, h => by rw [nwS, nwS, nwS, prR, prR]
  | L + 1, i, h => by
    have ih := nwS_front (ys := ys) x hd (L := L) (i := i) (by omega)
    have hm := ddv_mul (ys := ys) (k := L) (hd.ne (i := i) (j := i + L + 1) (by omega) (by omega))
    rw [nwS, ih, nwS, prR_front, prR, show i + 1 + L = i + L + 1 by omega, Rat.intCast_sub, Rat.intCast_sub]
    generalize ddv xs ys (L + 1) i = d at *
    generalize ddv xs ys L i = e at *
    generalize ddv xs ys L (i + 1) = f at *
    generalize prR xs x (i + 1) L = p at *
    generalize nwS xs ys x (i + 1) L = s at *
    grind

theorem nwS_at {xs ys : List Int} (hd : Dif xs) {j : Nat} : ∀ {L i : Nat}, i ≤ j → j < i + L → i + L ≤ xs.length → nwS xs ys (nth xs j) i L = ((nth ys j : Int) : Rat)
  | 0, i, h1, h2, _ => by omega
  | L + 1, i, h1, h2, h3 => by
    rcases Nat.lt_or_ge j (i + L) with h4 | h4
    · rw [nwS, prR_zero h1 h4 rfl, Rat.mul_zero, Rat.add_zero]
      exact nwS_at hd h1 h4 (by omega)
    · cases L with
      | zero => rw [nwS, nwS, prR, show i = j by omega, ddv, Rat.mul_one, Rat.zero_add]
      | succ L =>
        rw [nwS_front _ hd (by omega), prR_zero (j := j) (by omega) (by omega) rfl, Rat.mul_zero, Rat.add_zero]
        exact nwS_at hd (by omega) (by omega) (by omega)

theorem hoM_nwS (xs ys : List Int) (x : Int) : ∀ {m}, m ≤ xs.length → nwS xs ys x 0 xs.length = nwS xs ys x 0 (xs.length - m) + prR xs x 0 (xs.length - m) * hoM xs ys x m
  | 0, _ => by rw [hoM, Nat.sub_zero, Rat.mul_zero, Rat.add_zero]
  | m + 1, h => by
    rw [hoM_nwS xs ys x (m := m) (by omega), hoM, show xs.length - m = (xs.length - (m + 1)) + 1 by omega, nwS, prR, show xs.length - 1 - m = xs.length - (m + 1) by omega, Nat.zero_add]
    grind

theorem hoM_eq (xs ys : List Int) (x : Int) : hoM xs ys x xs.length = nwS xs ys x 0 xs.length := by
  rw [hoM_nwS xs ys x (Nat.le_refl _), Nat.sub_self, nwS, prR]; grind

theorem hoM_at {xs ys : List Int} (hd : Dif xs) {j : Nat} (hj : j < xs.length) : hoM xs ys (nth xs j) xs.length = ((nth ys j : Int) : Rat) := by
  rw [hoM_eq]; exact nwS_at hd (Nat.zero_le _) (by omega) (by omega)

theorem nth_take {xs : List Int} {m i : Nat} (h : i < m) : nth (xs.take m) i = nth xs i := by
  unfold nth
  simp [List.getD, List.getElem?_take_of_lt h]

theorem ddv_take {xs ys : List Int} {m : Nat} : ∀ {k i : Nat}, i + k < m → ddv (xs.take m) (ys.take m) k i = ddv xs ys k i
  | 0, i, h => by rw [ddv, ddv, nth_take (by omega)]
  | k + 1, i, h => by rw [ddv, ddv, ddv_take (by omega), ddv_take (by omega), nth_take (by omega), nth_take (by omega)]

theorem fcL_take {xs ys : List Int} {m : Nat} : ∀ {k}, k ≤ m → fcL (xs.take m) (ys.take m) k = fcL xs ys k
  | 0, _ => rfl
  | k + 1, h => by rw [fcL, fcL, fcL_take (by omega), ddv_take (by omega)]

theorem fcL_pre {xs ys : List Int} {k : Nat} : ∀ {n}, k ≤ n → (fcL xs ys n).take k = fcL xs ys k
  | 0, h => by rw [show k = 0 by omega]; rfl
  | n + 1, h => by
    rcases Nat.lt_or_ge n k with h1 | h1
    · rw [show k = n + 1 by omega, List.take_of_length_le (by rw [fcL_len]; omega)]
    · rw [fcL, List.take_append_of_le_length (by rw [fcL_len]; exact h1), fcL_pre h1]

theorem Pts.take {xs ys : List Int} (h : Pts xs ys) (m : Nat) : Pts (xs.take m) (ys.take m) := by
  obtain ⟨h1, h2, h3⟩ := h
  refine ⟨fun i hi => ?_, by simp [h2], by simp; omega⟩
  rw [List.length_take] at hi
  have h4 := h1 i (by omega)
  rw [nth_take (by omega), nth_take (by omega), List.length_take]
  exact ⟨by omega, h4.2⟩

theorem CvOk.take {xs ys : List Int} (h : CvOk xs ys) {m : Nat} (h1 : 1 ≤ m) (hm : m ≤ xs.length) : CvOk (xs.take m) (ys.take m) := by
  have h5 := h.1.2
  have hl : (xs.take m).length = m := by rw [List.length_take]; omega
  refine ⟨⟨h.1.1.take m, by rw [hl]; omega⟩, fun i hi k hk => ?_⟩
  rw [hl] at hi
  rw [nth_take (by omega), nth_take (by omega)]
  exact h.2 i (by omega) k hk

theorem coL_take {xs ys : List Int} (h : CvOk xs ys) {m : Nat} (h1 : 1 ≤ m) (hm : m ≤ xs.length) : coL (xs.take m) (ys.take m) = (coL xs ys).take m := by
  unfold coL
  have hl : (xs.take m).length = m := by rw [List.length_take]; omega
  rw [if_pos h, if_pos (h.take h1 hm), hl, fcL_take (Nat.le_refl _), fcL_pre hm]

end Go.Rx.Try
